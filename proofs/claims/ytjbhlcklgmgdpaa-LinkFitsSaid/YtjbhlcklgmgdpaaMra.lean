/-
  Package route: routes alone; the small functions of the library that it calls. Conditions: as each says.
  Package route: where a route ends, what follows it, the order, Has. Conditions: a track that may be; routes of it.
  Package route: the grades of one segment, visit, Grades. Conditions: a track that may be; routes of it.
-/
import Derived.Test.YtjbhlcklgmgdpaaMre
import Derived.Test.YtjbhlcklgmgdpaaMrt
import Derived.Test.YtjbhlcklgmgdpaaSmu
import Derived.Test.YtjbhlcklgmgdpaaGra
import Derived.Test.YtjbhlcklgmgdpaaSpo
import Derived.Test.YtjbhlcklgmgdpaaSfn
import Derived.Test.YtjbhlcklgmgdpaaSk
import Derived.Test.YtjbhlcklgmgdpaaSj
namespace Go.Proofs.Ytjbhlcklgmgdpaa.Roua
open Go.ChangeShapes Go.WideShapes Go.ChangeAt Go.RowKit
open Arr Steady Sx Sw Sl Sb Sc Si Sh Vs Gr Tk Tkh Tkl Rt Rtm Rtk Rts Re
set_option linter.unusedVariables false
set_option linter.unusedSimpArgs false
set_option maxRecDepth 100000

theorem nan_any (x : Int) (w : World) : Calls Try.prog 64 #[.int .i64 x] w fun e w' => e = .returned (.bool false) ∧ w' = w := by
  go_enter Try.func64, Try.ntmps64
  go_wp2
  go_ret
  exact ⟨by simp, rfl⟩
/-- -1, 0 or 1. -/
def cmpZ (x y : Int) : Int := if x < y then -1 else if y < x then 1 else 0
set_option maxHeartbeats 1000000 in
theorem cmp_any (x y : Int) (w : World) : Calls Try.prog 45 #[.int .i64 x, .int .i64 y] w fun e w' => e = .returned (.int .i64 (cmpZ x y)) ∧ w' = w := by
  go_enter Try.func45, Try.ntmps45
  go_wp2_with (go_at_call 64; refine (nan_any _ _).mono ?_; rintro e w' ⟨rfl, hw⟩; rw [hw])
  all_goals (go_ret; refine ⟨?_, rfl⟩; unfold cmpZ; (repeat' split) <;> first | rfl | (exfalso; omega))
theorem cmpZ_zero {x y : Int} : cmpZ x y = 0 ↔ x = y := by unfold cmpZ; constructor <;> intro h <;> (try split at h) <;> (try split at h) <;> (try split) <;> omega
theorem cmpZ_neg {x y : Int} : cmpZ x y < 0 ↔ x < y := by unfold cmpZ; split <;> (try split) <;> omega
/-- The first difference's sign. -/
def cmpL : List Int → List Int → Int
  | x :: L, y :: M => if cmpZ x y ≠ 0 then cmpZ x y else cmpL L M
  | _, _ => 0
theorem cmpL_at : ∀ {L M : List Int} {i : Nat}, i < L.length → i < M.length → (∀ j, j < i → L[j]! = M[j]!) → cmpZ L[i]! M[i]! ≠ 0 → cmpL L M = cmpZ L[i]! M[i]!
  | x :: L, y :: M, 0, _, _, _, h => by simp only [List.getElem!_cons_zero] at h ⊢; unfold cmpL; rw [if_pos h]
  | x :: L, y :: M, i + 1, h1, h2, hj, h => by
    have e : x = y := by have := hj 0 (by omega); simpa using this
    unfold cmpL
    rw [if_neg (by simp [cmpZ_zero.2 e])]
    simp only [List.getElem!_cons_succ] at h ⊢
    exact cmpL_at (by simpa using h1) (by simpa using h2) (fun j hj' => by have := hj (j + 1) (by omega); simpa using this) h
  | [], _, _, h1, _, _, _ => by simp at h1
  | _ :: _, [], _, _, h2, _, _ => by simp at h2
theorem cmpL_same : ∀ {L M : List Int}, L.length = M.length → (∀ j, j < L.length → L[j]! = M[j]!) → cmpL L M = 0
  | [], [], _, _ => rfl
  | x :: L, y :: M, h, hj => by
    have e : x = y := by have := hj 0 (by simp); simpa using this
    unfold cmpL
    rw [if_neg (by simp [cmpZ_zero.2 e])]
    exact cmpL_same (by simpa using h) (fun j hj' => by have := hj (j + 1) (by simpa using hj'); simpa using this)
  | [], _ :: _, h, _ => by simp at h
  | _ :: _, [], h, _ => by simp at h
/-- The first that isn't 0. -/
def orZ (x y : Int) : Int := if x ≠ 0 then x else y
set_option maxHeartbeats 2000000 in
theorem clone_some (L : List Int) (q : Addr) (n c : Nat) (w : World) (hL : Reads w (some q) (flat enc1 L)) (hn : L.length = n) (hl : n ≤ 1000000) :
    Calls Try.prog 67 #[.slice (some q) n c] w fun e w' => ∃ s : Own, s.Has 1 n (flat enc1 L) ∧ e = .returned (s.val n) ∧ Env w w' (s.rows 3) := by
  refine calls_sx Try.func67 rfl ?_
  simp only [Try.ntmps67, List.size_toArray, List.length_cons, List.length_nil, Nat.reduceAdd, Nat.reduceSub, Array.replicate_succ, Array.replicate_zero, List.push_toArray, List.append_toArray, List.nil_append, List.cons_append]
  refine wc_seq ?_
  refine wc_region ?_
  refine wl_val (.slice none 0 0) rfl (fun _ => rfl) ?_
  simp only [Act.put, Xa, Xz, Xs]
  refine wl_nil ?_
  refine we_then ?_
  refine wc_seq ?_
  refine wc_seq ?_
  refine wc_region ?_
  refine wl_val (.slice (some q) n c) rfl (fun _ => rfl) ?_
  simp only [Act.put, Xa, Xz, Xs]
  refine wl_val (.bool false) rfl (fun w => er_nil (b := false) rfl rfl rfl (fun _ => by go_simp) Try.underlying58 rfl w) ?_
  simp only [Act.put, Xa, Xz, Xs]
  refine wl_nil ?_
  refine we_then ?_
  refine wc_false rfl ?_
  refine wc_skip ?_
  refine we_then ?_
  refine wc_seq ?_
  refine wc_region ?_
  refine wl_lit (e := 3) #[] 0 rfl (fun _ => by go_simp) ?_
  intro g1
  simp only [Act.put, Xa, Xz, Xs]
  refine wl_val (.slice (some q) n c) rfl (fun _ => rfl) ?_
  simp only [Act.put, Xa, Xz, Xs]
  refine wl_append (e := 3) (size := 1) (bytes := 8) (m := n) [] [] (Own.row g1 0 #[]) (ys := flat enc1 L) rfl (Own.has_lit g1 0 1 #[] (by decide) rfl) (sl_old hL) (flat_lenn (enc := enc1) (size := 1) (fun _ => rfl) hn) (flat_one enc1_one _) rfl rfl rfl rfl Try.underlying58 (by unfold Elem; kernel_rfl) (by decide) (by unfold maxLen; omega) (by omega) ?_
  intro s2 hs2
  simp only [List.nil_append, Act.put, Xa, Xz, Xs]
  refine wl_val (.slice s2.ptr (0 + n) s2.cap) rfl (fun _ => rfl) ?_
  simp only [Act.put, Xa, Xz, Xs]
  refine wl_nil ?_
  refine we_then ?_
  refine wc_ret ?_
  refine we_ret1 (.slice s2.ptr (0 + n) s2.cap) rfl rfl rfl (fun w1 hE => ?_)
  exact ⟨s2, by simpa using hs2, by rw [Nat.zero_add], Env.tail hE (List.Sublist.append_left List.Sublist.slnil _)⟩
theorem rt_part {r : Ro} (h : r.length ≤ 12) : ∀ j u, (flat enc1 r)[j]? = some u → (#[.int .i64 (r.length : Int), .int .i64 (pad r 0), .int .i64 (pad r 1), .int .i64 (pad r 2), .int .i64 (pad r 3), .int .i64 (pad r 4), .int .i64 (pad r 5), .int .i64 (pad r 6), .int .i64 (pad r 7), .int .i64 (pad r 8), .int .i64 (pad r 9), .int .i64 (pad r 10), .int .i64 (pad r 11)])[1 + j]? = some u := by
  intro j u hj
  have hl : j < r.length := by have := (List.getElem?_eq_some_iff.1 hj).1; rwa [flat_length (enc := enc1) (size := 1) (fun _ => rfl), Nat.mul_one] at this
  have := flat_cell (enc := enc1) (size := 1) (fun _ => rfl) r j 0 hl (by decide)
  rw [Nat.mul_one, Nat.add_zero] at this
  rw [this] at hj
  cases hj
  have e := rt_cell (r := r) (k := j) (by omega)
  rw [pad_in hl] at e
  exact e
set_option maxHeartbeats 2000000 in
theorem path_own (r : Ro) (w : World) (h2 : r.length ≤ 12) :
    Calls Try.prog 53 #[.agg #[.int .i64 (r.length : Int), .int .i64 (pad r 0), .int .i64 (pad r 1), .int .i64 (pad r 2), .int .i64 (pad r 3), .int .i64 (pad r 4), .int .i64 (pad r 5), .int .i64 (pad r 6), .int .i64 (pad r 7), .int .i64 (pad r 8), .int .i64 (pad r 9), .int .i64 (pad r 10), .int .i64 (pad r 11)]] w fun e w' => ∃ s : Own, s.Has 1 r.length (flat enc1 r) ∧ e = .returned (s.val r.length) ∧ Env w w' (s.rows 3) := by
  refine calls_sx Try.func53 rfl ?_
  simp only [Try.ntmps53, List.size_toArray, List.length_cons, List.length_nil, Nat.reduceAdd, Nat.reduceSub, Array.replicate_succ, Array.replicate_zero, List.push_toArray, List.append_toArray, List.nil_append, List.cons_append]
  refine wc_seq ?_
  refine wc_region ?_
  refine wl_new 78 (#[.int .i64 (r.length : Int), .int .i64 (pad r 0), .int .i64 (pad r 1), .int .i64 (pad r 2), .int .i64 (pad r 3), .int .i64 (pad r 4), .int .i64 (pad r 5), .int .i64 (pad r 6), .int .i64 (pad r 7), .int .i64 (pad r 8), .int .i64 (pad r 9), .int .i64 (pad r 10), .int .i64 (pad r 11)]) rfl (fun _ => by go_simp) ?_
  intro g1
  simp only [Act.put, Xa, Xz, Xs]
  refine wl_val (.slice none 0 0) rfl (fun _ => rfl) ?_
  simp only [Act.put, Xa, Xz, Xs]
  refine wl_nil ?_
  refine we_then ?_
  refine wc_seq ?_
  refine wc_region ?_
  refine wl_val (.pointer (some ⟨g1, 1, none⟩)) rfl (fun _ => by go_simp) ?_
  simp only [Act.put, Xa, Xz, Xs]
  refine wl_val (.pointer (some ⟨g1, 0, none⟩)) rfl (fun _ => by go_simp) ?_
  simp only [Act.put, Xa, Xz, Xs]
  refine wl_cell 3 (.tmp 4) (.int .i64 (r.length : Int)) (own_row 0 rfl) rfl rfl rfl rfl Try.isAgg3 ?_
  simp only [Act.put, Xa, Xz, Xs]
  refine wl_val (.int .i64 (r.length : Int)) rfl (fun w => run_max2 (Z := (r.length : Int)) rfl rfl rfl (by omega) w) ?_
  simp only [Act.put, Xa, Xz, Xs]
  refine wl_val (.int .i64 (r.length : Int)) rfl (fun w => run_min2 (Z := (r.length : Int)) rfl rfl rfl (by omega) w) ?_
  simp only [Act.put, Xa, Xz, Xs]
  refine wl_val (.slice (some ⟨g1, 1, none⟩) r.length 12) rfl (fun w => er_arrslice (h := r.length) (z := 1) rfl rfl rfl rfl h2 Try.underlying76 (by kernel_rfl) w) ?_
  simp only [Act.put, Xa, Xz, Xs]
  refine wl_call_own (ι := Own) (e := 3) [⟨g1, #[.int .i64 (r.length : Int), .int .i64 (pad r 0), .int .i64 (pad r 1), .int .i64 (pad r 2), .int .i64 (pad r 3), .int .i64 (pad r 4), .int .i64 (pad r 5), .int .i64 (pad r 6), .int .i64 (pad r 7), .int .i64 (pad r 8), .int .i64 (pad r 9), .int .i64 (pad r 10), .int .i64 (pad r 11)], 78⟩] [] 67 #[.slice (some ⟨g1, 1, none⟩) r.length 12] (fun s => s.val r.length) (fun s => s) (fun s => s.Has 1 r.length (flat enc1 r)) rfl rfl (fun _ => by go_simp) (fun W hE => clone_some r _ r.length 12 W ((sl_rowpart 0 1 (t := 78) rfl (rt_part h2)) W hE) rfl (by omega)) ?_
  rintro s2 hs2
  simp only [List.cons_append, List.nil_append, Act.put, Xa, Xz, Xs]
  refine wl_val (.slice s2.ptr r.length s2.cap) rfl (fun _ => rfl) ?_
  simp only [Act.put, Xa, Xz, Xs]
  refine wl_nil ?_
  refine we_then ?_
  refine wc_ret ?_
  refine we_ret1 (.slice s2.ptr r.length s2.cap) rfl rfl rfl (fun w1 hE => ?_)
  exact ⟨s2, hs2, rfl, Env.tail hE (List.Sublist.cons _ (List.Sublist.append_left List.Sublist.slnil _))⟩
set_option maxHeartbeats 2000000 in
theorem at_any (G : List Sg) (H : List Gp) (p q : Option Addr) (c d : Nat) (x : Int) (w : World) (hS : Reads w p (flat sg G)) (hG : OkS w G) (hn : G.length ≤ 140737488355328) (h0 : 0 ≤ x) (h1 : x < G.length) :
    Calls Try.prog 39 #[.agg #[.slice p G.length c, .slice q H.length d], .int .i64 x] w fun e w' => e = .returned (.agg #[.int .i64 (G[x.toNat]!).len, .slice (G[x.toNat]!).pp (G[x.toNat]!).P.length (G[x.toNat]!).pc, .slice (G[x.toNat]!).np (G[x.toNat]!).X.length (G[x.toNat]!).nc]) ∧ Below w.heap.size w w' := by
  refine calls_sx Try.func39 rfl ?_
  simp only [Try.ntmps39, List.size_toArray, List.length_cons, List.length_nil, Nat.reduceAdd, Nat.reduceSub, Array.replicate_succ, Array.replicate_zero, List.push_toArray, List.append_toArray, List.nil_append, List.cons_append]
  refine wc_seq ?_
  refine wc_region ?_
  refine wl_new 35 (#[.slice p G.length c, .slice q H.length d]) rfl (fun _ => by go_simp) ?_
  intro g1
  simp only [Act.put, Xa, Xz, Xs]
  refine wl_new 68 (#[.int .i64 0, .slice none 0 0, .slice none 0 0]) rfl (fun _ => by go_simp) ?_
  intro g2
  simp only [Act.put, Xa, Xz, Xs]
  refine wl_nil ?_
  refine we_then ?_
  refine wc_seq ?_
  refine wc_seq ?_
  refine wc_region ?_
  refine wl_val (.int .i64 x) rfl (fun _ => rfl) ?_
  simp only [Act.put, Xa, Xz, Xs]
  refine wl_val (.bool (decide (x < 0))) rfl (fun w => run_cmp rfl rfl rfl Try.underlying3 rfl w) ?_
  simp only [Act.put, Xa, Xz, Xs]
  refine wl_val (.bool (decide (x < 0))) rfl (fun _ => rfl) ?_
  simp only [Act.put, Xa, Xz, Xs]
  cases h3 : (decide (x < 0))
  · skip
    have p3 : ¬ (x < 0) := of_decide_eq_false h3
    refine wl_val (.int .i64 x) rfl (fun _ => rfl) ?_
    simp only [Act.put, Xa, Xz, Xs]
    refine wl_val (.pointer (some ⟨g1, 0, none⟩)) rfl (fun _ => by go_simp) ?_
    simp only [Act.put, Xa, Xz, Xs]
    refine wl_cell 32 (.tmp 9) (.slice p G.length c) (own_row 1 rfl) rfl rfl rfl rfl Try.isAgg32 ?_
    simp only [Act.put, Xa, Xz, Xs]
    refine wl_val (.int .i64 (G.length : Int)) rfl (fun w => er_len rfl rfl Try.underlying32 w) ?_
    simp only [Act.put, Xa, Xz, Xs]
    refine wl_val (.bool (decide ((G.length : Int) ≤ x))) rfl (fun w => run_cmp rfl rfl rfl Try.underlying3 rfl w) ?_
    simp only [Act.put, Xa, Xz, Xs]
    refine wl_val (.bool (decide ((G.length : Int) ≤ x))) rfl (fun _ => rfl) ?_
    simp only [Act.put, Xa, Xz, Xs]
    refine wl_nil ?_
    refine we_then ?_
    cases h4 : (decide ((G.length : Int) ≤ x))
    · skip
      have p4 : ¬ ((G.length : Int) ≤ x) := of_decide_eq_false h4
      refine wc_false rfl ?_
      refine wc_skip ?_
      refine we_then ?_
      refine wc_seq ?_
      refine wc_region ?_
      refine wl_val (.pointer (some ⟨g1, 0, none⟩)) rfl (fun _ => by go_simp) ?_
      simp only [Act.put, Xa, Xz, Xs]
      refine wl_cell 32 (.tmp 15) (.slice p G.length c) (own_row 1 rfl) rfl rfl rfl rfl Try.isAgg32 ?_
      simp only [Act.put, Xa, Xz, Xs]
      refine wl_val (.int .i64 x) rfl (fun _ => rfl) ?_
      simp only [Act.put, Xa, Xz, Xs]
      refine wl_read (eaddr p ((x.toNat) * 3)) rfl (er_index (x.toNat) 3 (sl_old hS) rfl rfl rfl (by omega) (by omega) (flat_length (enc := sg) (size := 3) (fun _ => rfl) _) (by decide) Try.underlying32 (by kernel_rfl)) ?_
      simp only [Act.put, Xa, Xz, Xs]
      refine wl_read (.agg #[.int .i64 ((G[x.toNat]!).len), .slice ((G[x.toNat]!).pp) ((G[x.toNat]!).P.length) ((G[x.toNat]!).pc), .slice ((G[x.toNat]!).np) ((G[x.toNat]!).X.length) ((G[x.toNat]!).nc)]) rfl (er_part ((x.toNat) * 3) [.int .i64 ((G[x.toNat]!).len), .slice ((G[x.toNat]!).pp) ((G[x.toNat]!).P.length) ((G[x.toNat]!).pc), .slice ((G[x.toNat]!).np) ((G[x.toNat]!).X.length) ((G[x.toNat]!).nc)] (sl_old hS) rfl rfl (flat_part (enc := sg) (fun _ => rfl) G (x.toNat) (by omega)) (Nat.zero_lt_succ _) Try.underlying68 rfl (by kernel_rfl)) ?_
      simp only [Act.put, Xa, Xz, Xs]
      refine wl_store 0 68 (.tmp 4) (.tmp 19) (#[.int .i64 ((G[x.toNat]!).len), .slice ((G[x.toNat]!).pp) ((G[x.toNat]!).P.length) ((G[x.toNat]!).pc), .slice ((G[x.toNat]!).np) ((G[x.toNat]!).X.length) ((G[x.toNat]!).nc)]) rfl rfl rfl rfl rfl (by kernel_rfl) rfl (by simp [Value.oneCell']) ?_
      simp only [Act.put, List.set_cons_zero]
      refine wl_nil ?_
      refine we_then ?_
      refine wc_ret ?_
      refine we_ret_cell (own_row 0 rfl) rfl rfl rfl Try.underlying68 rfl (by kernel_rfl) (fun w1 hE => ?_)
      exact ⟨rfl, hE.below⟩
    · skip
      have p4 : (G.length : Int) ≤ x := of_decide_eq_true h4
      refine wc_true rfl ?_
      refine wc_seq ?_
      refine wc_region ?_
      refine wl_val (.agg #[.int .i64 0, .slice none 0 0, .slice none 0 0]) rfl (fun _ => by go_simp) ?_
      simp only [Act.put, Xa, Xz, Xs]
      refine wl_store 0 68 (.tmp 4) (.tmp 14) (#[.int .i64 0, .slice none 0 0, .slice none 0 0]) rfl rfl rfl rfl rfl (by kernel_rfl) rfl (by simp [Value.oneCell']) ?_
      simp only [Act.put, List.set_cons_zero]
      refine wl_nil ?_
      refine we_then ?_
      refine wc_ret ?_
      refine we_then_ret ?_
      refine we_ret_cell (own_row 0 rfl) rfl rfl rfl Try.underlying68 rfl (by kernel_rfl) (fun w1 hE => ?_)
      exact (by exfalso; omega)
  · skip
    have p3 : x < 0 := of_decide_eq_true h3
    exact (by exfalso; omega)
theorem pad_snoc {r : Ro} {n : Int} {i : Nat} : pad (r ++ [n]) i = if i = r.length then n else pad r i := by
  unfold pad
  rw [List.length_append, List.length_singleton]
  by_cases h : i < r.length
  · rw [if_pos (by omega), if_neg (by omega), if_pos h, get_app h]
  · by_cases e : i = r.length
    · subst e; rw [if_pos (by omega), if_pos rfl, get_end]
    · rw [if_neg (by omega), if_neg e, if_neg h]
theorem rt_put {r : Ro} (h1 : r.length < 12) (n : Int) : (#[.int .i64 (r.length : Int), .int .i64 (pad r 0), .int .i64 (pad r 1), .int .i64 (pad r 2), .int .i64 (pad r 3), .int .i64 (pad r 4), .int .i64 (pad r 5), .int .i64 (pad r 6), .int .i64 (pad r 7), .int .i64 (pad r 8), .int .i64 (pad r 9), .int .i64 (pad r 10), .int .i64 (pad r 11)] : Array Value).setIfInBounds (1 + r.length) (.int .i64 n) = #[.int .i64 (r.length : Int), .int .i64 (pad (r ++ [n]) 0), .int .i64 (pad (r ++ [n]) 1), .int .i64 (pad (r ++ [n]) 2), .int .i64 (pad (r ++ [n]) 3), .int .i64 (pad (r ++ [n]) 4), .int .i64 (pad (r ++ [n]) 5), .int .i64 (pad (r ++ [n]) 6), .int .i64 (pad (r ++ [n]) 7), .int .i64 (pad (r ++ [n]) 8), .int .i64 (pad (r ++ [n]) 9), .int .i64 (pad (r ++ [n]) 10), .int .i64 (pad (r ++ [n]) 11)] := by
  simp only [pad_snoc]
  rcases (show r.length = 0 ∨ r.length = 1 ∨ r.length = 2 ∨ r.length = 3 ∨ r.length = 4 ∨ r.length = 5 ∨ r.length = 6 ∨ r.length = 7 ∨ r.length = 8 ∨ r.length = 9 ∨ r.length = 10 ∨ r.length = 11 by omega) with e | e | e | e | e | e | e | e | e | e | e | e <;> rw [e] <;> rfl
set_option maxHeartbeats 2000000 in
theorem snoc_any (r : Ro) (n : Int) (w : World) (h1 : r.length < 12) :
    Calls Try.prog 24 #[.agg #[.int .i64 (r.length : Int), .int .i64 (pad r 0), .int .i64 (pad r 1), .int .i64 (pad r 2), .int .i64 (pad r 3), .int .i64 (pad r 4), .int .i64 (pad r 5), .int .i64 (pad r 6), .int .i64 (pad r 7), .int .i64 (pad r 8), .int .i64 (pad r 9), .int .i64 (pad r 10), .int .i64 (pad r 11)], .int .i64 n] w fun e w' => e = .returned (.agg #[.int .i64 (((r ++ [n]).length : Nat) : Int), .int .i64 (pad (r ++ [n]) 0), .int .i64 (pad (r ++ [n]) 1), .int .i64 (pad (r ++ [n]) 2), .int .i64 (pad (r ++ [n]) 3), .int .i64 (pad (r ++ [n]) 4), .int .i64 (pad (r ++ [n]) 5), .int .i64 (pad (r ++ [n]) 6), .int .i64 (pad (r ++ [n]) 7), .int .i64 (pad (r ++ [n]) 8), .int .i64 (pad (r ++ [n]) 9), .int .i64 (pad (r ++ [n]) 10), .int .i64 (pad (r ++ [n]) 11)]) ∧ Below w.heap.size w w' := by
  refine calls_sx Try.func24 rfl ?_
  simp only [Try.ntmps24, List.size_toArray, List.length_cons, List.length_nil, Nat.reduceAdd, Nat.reduceSub, Array.replicate_succ, Array.replicate_zero, List.push_toArray, List.append_toArray, List.nil_append, List.cons_append]
  refine wc_seq ?_
  refine wc_region ?_
  refine wl_new 78 (#[.int .i64 (r.length : Int), .int .i64 (pad r 0), .int .i64 (pad r 1), .int .i64 (pad r 2), .int .i64 (pad r 3), .int .i64 (pad r 4), .int .i64 (pad r 5), .int .i64 (pad r 6), .int .i64 (pad r 7), .int .i64 (pad r 8), .int .i64 (pad r 9), .int .i64 (pad r 10), .int .i64 (pad r 11)]) rfl (fun _ => by go_simp) ?_
  intro g1
  simp only [Act.put, Xa, Xz, Xs]
  refine wl_new 78 (#[.int .i64 0, .int .i64 0, .int .i64 0, .int .i64 0, .int .i64 0, .int .i64 0, .int .i64 0, .int .i64 0, .int .i64 0, .int .i64 0, .int .i64 0, .int .i64 0, .int .i64 0]) rfl (fun _ => by go_simp) ?_
  intro g2
  simp only [Act.put, Xa, Xz, Xs]
  refine wl_nil ?_
  refine we_then ?_
  refine wc_seq ?_
  refine wc_region ?_
  refine wl_val (.pointer (some ⟨g1, 0, none⟩)) rfl (fun _ => by go_simp) ?_
  simp only [Act.put, Xa, Xz, Xs]
  refine wl_cell 3 (.tmp 5) (.int .i64 (r.length : Int)) (own_row 1 rfl) rfl rfl rfl rfl Try.isAgg3 ?_
  simp only [Act.put, Xa, Xz, Xs]
  refine wl_val (.int .i64 n) rfl (fun _ => rfl) ?_
  simp only [Act.put, Xa, Xz, Xs]
  refine wl_val (.pointer (some ⟨g1, 1, none⟩)) rfl (fun _ => by go_simp) ?_
  simp only [Act.put, Xa, Xz, Xs]
  refine wl_val (.pointer (some ⟨g1, 1 + r.length, none⟩)) rfl (fun w => er_arr (k := r.length) (m := 1 + r.length) 1 rfl rfl rfl rfl (by omega) (by omega) Try.underlying76 (by kernel_rfl) w) ?_
  simp only [Act.put, Xa, Xz, Xs]
  refine wl_store_cell 1 3 (.tmp 9) (.tmp 7) (.int .i64 (pad r r.length)) (.int .i64 n) rfl rfl rfl rfl rfl (rt_cell (r := r) (k := r.length) (by omega)) (by kernel_rfl) rfl ?_
  simp only [Act.put, List.set_cons_zero, List.set_cons_succ]
  rw [rt_put h1 n]
  refine wl_nil ?_
  refine we_then ?_
  refine wc_seq ?_
  refine wc_region ?_
  refine wl_val (.pointer (some ⟨g1, 0, none⟩)) rfl (fun _ => by go_simp) ?_
  simp only [Act.put, Xa, Xz, Xs]
  refine wl_cell 3 (.tmp 10) (.int .i64 (r.length : Int)) (own_row 1 rfl) rfl rfl rfl rfl Try.isAgg3 ?_
  simp only [Act.put, Xa, Xz, Xs]
  refine wl_val (.int .i64 ((r.length + 1 : Nat) : Int)) rfl (fun w => run_nat (X := r.length) (Y := 1) (Z := r.length + 1) rfl rfl rfl rfl (by omega) w) ?_
  simp only [Act.put, Xa, Xz, Xs]
  refine wl_val (.pointer (some ⟨g1, 0, none⟩)) rfl (fun _ => by go_simp) ?_
  simp only [Act.put, Xa, Xz, Xs]
  refine wl_store_cell 1 3 (.tmp 13) (.tmp 12) (.int .i64 (r.length : Int)) (.int .i64 ((r.length + 1 : Nat) : Int)) rfl rfl rfl rfl rfl rfl (by kernel_rfl) rfl ?_
  simp only [Act.put, List.set_cons_zero, List.set_cons_succ]
  refine wl_nil ?_
  refine we_then ?_
  refine wc_seq ?_
  refine wc_region ?_
  refine wl_load 78 (.tmp 2) (own_row 1 rfl) rfl rfl rfl Try.underlying78 rfl (by kernel_rfl) ?_
  simp only [Act.put, Xa, Xz, Xs]
  refine wl_store 0 78 (.tmp 4) (.tmp 14) (#[.int .i64 ((r.length + 1 : Nat) : Int), .int .i64 (pad (r ++ [n]) 0), .int .i64 (pad (r ++ [n]) 1), .int .i64 (pad (r ++ [n]) 2), .int .i64 (pad (r ++ [n]) 3), .int .i64 (pad (r ++ [n]) 4), .int .i64 (pad (r ++ [n]) 5), .int .i64 (pad (r ++ [n]) 6), .int .i64 (pad (r ++ [n]) 7), .int .i64 (pad (r ++ [n]) 8), .int .i64 (pad (r ++ [n]) 9), .int .i64 (pad (r ++ [n]) 10), .int .i64 (pad (r ++ [n]) 11)]) rfl rfl rfl rfl rfl (by kernel_rfl) rfl (by simp [Value.oneCell']) ?_
  simp only [Act.put, List.set_cons_zero]
  refine wl_nil ?_
  refine we_then ?_
  refine wc_ret ?_
  refine we_ret_cell (own_row 0 rfl) rfl rfl rfl Try.underlying78 rfl (by kernel_rfl) (fun w1 hE => ?_)
  exact ⟨by rw [List.length_append, List.length_singleton], hE.below⟩
set_option maxHeartbeats 2000000 in
theorem begin_any (s0 f : Int) (w : World) :
    Calls Try.prog 11 #[.int .i64 s0, .int .i64 f] w fun e w' => ∃ z : Pz, Held z.N z.p (flat rt [[s0]]) ∧ e = .returned (.agg #[.int .i64 f, .slice z.p 1 z.c]) ∧ Env w w' z.N := by
  refine calls_sx Try.func11 rfl ?_
  simp only [Try.ntmps11, List.size_toArray, List.length_cons, List.length_nil, Nat.reduceAdd, Nat.reduceSub, Array.replicate_succ, Array.replicate_zero, List.push_toArray, List.append_toArray, List.nil_append, List.cons_append]
  refine wc_seq ?_
  refine wc_region ?_
  refine wl_new 41 (#[.int .i64 0, .slice none 0 0]) rfl (fun _ => by go_simp) ?_
  intro g1
  simp only [Act.put, Xa, Xz, Xs]
  refine wl_nil ?_
  refine we_then ?_
  refine wc_seq ?_
  refine wc_region ?_
  refine wl_val (.int .i64 f) rfl (fun _ => rfl) ?_
  simp only [Act.put, Xa, Xz, Xs]
  refine wl_val (.agg #[.int .i64 0, .int .i64 0, .int .i64 0, .int .i64 0, .int .i64 0, .int .i64 0, .int .i64 0, .int .i64 0, .int .i64 0, .int .i64 0, .int .i64 0, .int .i64 0, .int .i64 0]) rfl (fun _ => by go_simp) ?_
  simp only [Act.put, Xa, Xz, Xs]
  refine wl_val (.int .i64 s0) rfl (fun _ => rfl) ?_
  simp only [Act.put, Xa, Xz, Xs]
  refine wl_call 24 #[.agg #[.int .i64 0, .int .i64 0, .int .i64 0, .int .i64 0, .int .i64 0, .int .i64 0, .int .i64 0, .int .i64 0, .int .i64 0, .int .i64 0, .int .i64 0, .int .i64 0, .int .i64 0], .int .i64 s0] (.agg #[.int .i64 (([s0].length : Nat) : Int), .int .i64 (pad ([s0]) 0), .int .i64 (pad ([s0]) 1), .int .i64 (pad ([s0]) 2), .int .i64 (pad ([s0]) 3), .int .i64 (pad ([s0]) 4), .int .i64 (pad ([s0]) 5), .int .i64 (pad ([s0]) 6), .int .i64 (pad ([s0]) 7), .int .i64 (pad ([s0]) 8), .int .i64 (pad ([s0]) 9), .int .i64 (pad ([s0]) 10), .int .i64 (pad ([s0]) 11)]) rfl (fun _ => by go_simp) (fun W => snoc_any [] s0 W (by decide)) ?_
  simp only [Act.put, Xa, Xz, Xs]
  refine wl_lit (e := 78) #[.int .i64 (([s0].length : Nat) : Int), .int .i64 (pad ([s0]) 0), .int .i64 (pad ([s0]) 1), .int .i64 (pad ([s0]) 2), .int .i64 (pad ([s0]) 3), .int .i64 (pad ([s0]) 4), .int .i64 (pad ([s0]) 5), .int .i64 (pad ([s0]) 6), .int .i64 (pad ([s0]) 7), .int .i64 (pad ([s0]) 8), .int .i64 (pad ([s0]) 9), .int .i64 (pad ([s0]) 10), .int .i64 (pad ([s0]) 11)] 1 rfl (fun _ => by go_simp) ?_
  intro g2
  simp only [Act.put, Xa, Xz, Xs]
  refine wl_val (.agg #[.int .i64 f, .slice (some ⟨g2, 0, none⟩) 1 1]) rfl (fun _ => by go_simp) ?_
  simp only [Act.put, Xa, Xz, Xs]
  refine wl_store 1 41 (.tmp 4) (.tmp 10) (#[.int .i64 f, .slice (some ⟨g2, 0, none⟩) 1 1]) rfl rfl rfl rfl rfl (by kernel_rfl) rfl (by simp [Value.oneCell']) ?_
  simp only [Act.put, List.set_cons_zero, List.set_cons_succ]
  refine wl_nil ?_
  refine we_then ?_
  refine wc_ret ?_
  refine we_ret_cell (own_row 1 rfl) rfl rfl rfl Try.underlying41 rfl (by kernel_rfl) (fun w1 hE => ?_)
  exact ⟨⟨some ⟨g2, 0, none⟩, 1, [⟨g2, #[.int .i64 (([s0].length : Nat) : Int), .int .i64 (pad ([s0]) 0), .int .i64 (pad ([s0]) 1), .int .i64 (pad ([s0]) 2), .int .i64 (pad ([s0]) 3), .int .i64 (pad ([s0]) 4), .int .i64 (pad ([s0]) 5), .int .i64 (pad ([s0]) 6), .int .i64 (pad ([s0]) 7), .int .i64 (pad ([s0]) 8), .int .i64 (pad ([s0]) 9), .int .i64 (pad ([s0]) 10), .int .i64 (pad ([s0]) 11)], 78⟩]⟩, fun w9 => sl_row 0 rfl, rfl, hE.sub (List.Sublist.cons_cons _ (List.Sublist.cons _ List.Sublist.slnil))⟩
end Go.Proofs.Ytjbhlcklgmgdpaa.Roua
namespace Go.Proofs.Ytjbhlcklgmgdpaa.Roub
open Go.ChangeShapes Go.WideShapes Go.ChangeAt Go.RowKit
open Arr Steady Sx Sw Sl Sb Sc Si Sk Sh Smu Sj Vs Gr Tk Tkh Tkl Rt Rtm Rtk Rts Fns Mp Re Roua Sfn
set_option linter.unusedVariables false
set_option linter.unusedSimpArgs false
set_option maxRecDepth 100000

set_option maxHeartbeats 2000000 in
theorem end_in_any (G : List Sg) (H : List Gp) (p q : Option Addr) (c d : Nat) (f : Int) (ps : Option Addr) (nX cs : Nat) (r : Ro) (w : World) (hS : Reads w p (flat sg G)) (hG : OkS w G) (hM : TrackMay G H) (hf : 0 ≤ f ∧ f ≤ 1099511627776) (hr : RtOk G r) :
    Calls Try.prog 40 #[.agg #[.int .i64 f, .slice ps nX cs], .agg #[.slice p G.length c, .slice q H.length d], .agg #[.int .i64 (r.length : Int), .int .i64 (pad r 0), .int .i64 (pad r 1), .int .i64 (pad r 2), .int .i64 (pad r 3), .int .i64 (pad r 4), .int .i64 (pad r 5), .int .i64 (pad r 6), .int .i64 (pad r 7), .int .i64 (pad r 8), .int .i64 (pad r 9), .int .i64 (pad r 10), .int .i64 (pad r 11)]] w fun e w' => e = .returned (.int .i64 (endR G f r)) ∧ Below w.heap.size w w' := by
  have hs1 := hM.sizes.1
  have hs2 := hM.sizes.2.1
  have hr12 := hr.few
  have hr1 := hr.some
  refine calls_sx Try.func40 rfl ?_
  simp only [Try.ntmps40, List.size_toArray, List.length_cons, List.length_nil, Nat.reduceAdd, Nat.reduceSub, Array.replicate_succ, Array.replicate_zero, List.push_toArray, List.append_toArray, List.nil_append, List.cons_append]
  refine wc_seq ?_
  refine wc_region ?_
  refine wl_new 41 (#[.int .i64 f, .slice ps nX cs]) rfl (fun _ => by go_simp) ?_
  intro g1
  simp only [Act.put, Xa, Xz, Xs]
  refine wl_new 35 (#[.slice p G.length c, .slice q H.length d]) rfl (fun _ => by go_simp) ?_
  intro g2
  simp only [Act.put, Xa, Xz, Xs]
  refine wl_new 78 (#[.int .i64 (r.length : Int), .int .i64 (pad r 0), .int .i64 (pad r 1), .int .i64 (pad r 2), .int .i64 (pad r 3), .int .i64 (pad r 4), .int .i64 (pad r 5), .int .i64 (pad r 6), .int .i64 (pad r 7), .int .i64 (pad r 8), .int .i64 (pad r 9), .int .i64 (pad r 10), .int .i64 (pad r 11)]) rfl (fun _ => by go_simp) ?_
  intro g3
  simp only [Act.put, Xa, Xz, Xs]
  refine wl_val (.int .i64 0) rfl (fun _ => rfl) ?_
  simp only [Act.put, Xa, Xz, Xs]
  refine wl_nil ?_
  refine we_then ?_
  refine wc_seq ?_
  refine wc_region ?_
  refine wl_val (.pointer (some ⟨g1, 0, none⟩)) rfl (fun _ => by go_simp) ?_
  simp only [Act.put, Xa, Xz, Xs]
  refine wl_cell 2 (.tmp 10) (.int .i64 f) (own_row 2 rfl) rfl rfl rfl rfl Try.isAgg2 ?_
  simp only [Act.put, Xa, Xz, Xs]
  refine wl_val (.int .i64 (-f)) rfl (fun w => run_neg rfl rfl Try.underlying2 (i64_in (by omega) (by omega)) w) ?_
  simp only [Act.put, Xa, Xz, Xs]
  refine wl_val (.int .i64 (-f)) rfl (fun _ => rfl) ?_
  simp only [Act.put, Xa, Xz, Xs]
  refine wl_nil ?_
  refine we_then ?_
  refine wc_seq ?_
  refine wc_seq ?_
  refine wc_region ?_
  refine wl_load 78 (.tmp 5) (own_row 0 rfl) rfl rfl rfl Try.underlying78 rfl (by kernel_rfl) ?_
  simp only [Act.put, Xa, Xz, Xs]
  refine wl_call_own (ι := Own) (e := 3) [⟨g3, #[.int .i64 (r.length : Int), .int .i64 (pad r 0), .int .i64 (pad r 1), .int .i64 (pad r 2), .int .i64 (pad r 3), .int .i64 (pad r 4), .int .i64 (pad r 5), .int .i64 (pad r 6), .int .i64 (pad r 7), .int .i64 (pad r 8), .int .i64 (pad r 9), .int .i64 (pad r 10), .int .i64 (pad r 11)], 78⟩, ⟨g2, #[.slice p G.length c, .slice q H.length d], 35⟩, ⟨g1, #[.int .i64 f, .slice ps nX cs], 41⟩] [] 53 #[.agg #[.int .i64 (r.length : Int), .int .i64 (pad r 0), .int .i64 (pad r 1), .int .i64 (pad r 2), .int .i64 (pad r 3), .int .i64 (pad r 4), .int .i64 (pad r 5), .int .i64 (pad r 6), .int .i64 (pad r 7), .int .i64 (pad r 8), .int .i64 (pad r 9), .int .i64 (pad r 10), .int .i64 (pad r 11)]] (fun s => s.val r.length) (fun s => s) (fun s => s.Has 1 r.length (flat enc1 r)) rfl rfl (fun _ => by go_simp) (fun W hE => path_own r W hr.few) ?_
  rintro s4 hs4
  simp only [List.cons_append, List.nil_append, Act.put, Xa, Xz, Xs]
  refine wl_val (.int .i64 (r.length : Int)) rfl (fun w => er_len rfl rfl Try.underlying58 w) ?_
  simp only [Act.put, Xa, Xz, Xs]
  refine wl_val (.int .i64 0) rfl (fun _ => rfl) ?_
  simp only [Act.put, Xa, Xz, Xs]
  refine wl_nil ?_
  refine we_then ?_
  refine wc_block ?_
  refine wc_loop (fun (zz : Nat × Int × Value × Value × Value × Value × Value × Value × Value × Value × Value × Value × Value) => match zz with | ⟨i, z, u9, u17, u18, u19, u20, u21, u22, u23, u24, u25, u26⟩ => ({ tmps := #[.agg #[.int .i64 f, .slice ps nX cs], .agg #[.slice p G.length c, .slice q H.length d], .agg #[.int .i64 (r.length : Int), .int .i64 (pad r 0), .int .i64 (pad r 1), .int .i64 (pad r 2), .int .i64 (pad r 3), .int .i64 (pad r 4), .int .i64 (pad r 5), .int .i64 (pad r 6), .int .i64 (pad r 7), .int .i64 (pad r 8), .int .i64 (pad r 9), .int .i64 (pad r 10), .int .i64 (pad r 11)], .pointer (some ⟨g1, 0, none⟩), .pointer (some ⟨g2, 0, none⟩), .pointer (some ⟨g3, 0, none⟩), .int .i64 0, .int .i64 z, undef, u9, .pointer (some ⟨g1, 0, none⟩), .int .i64 f, .int .i64 (-f), .agg #[.int .i64 (r.length : Int), .int .i64 (pad r 0), .int .i64 (pad r 1), .int .i64 (pad r 2), .int .i64 (pad r 3), .int .i64 (pad r 4), .int .i64 (pad r 5), .int .i64 (pad r 6), .int .i64 (pad r 7), .int .i64 (pad r 8), .int .i64 (pad r 9), .int .i64 (pad r 10), .int .i64 (pad r 11)], .slice s4.ptr r.length s4.cap, .int .i64 (r.length : Int), .int .i64 (i : Int), u17, u18, u19, u20, u21, u22, u23, u24, u25, u26, undef], defers := [] } : Act)) (fun (zz : Nat × Int × Value × Value × Value × Value × Value × Value × Value × Value × Value × Value × Value) => match zz with | ⟨i, z, u9, u17, u18, u19, u20, u21, u22, u23, u24, u25, u26⟩ => ⟨g3, #[.int .i64 (r.length : Int), .int .i64 (pad r 0), .int .i64 (pad r 1), .int .i64 (pad r 2), .int .i64 (pad r 3), .int .i64 (pad r 4), .int .i64 (pad r 5), .int .i64 (pad r 6), .int .i64 (pad r 7), .int .i64 (pad r 8), .int .i64 (pad r 9), .int .i64 (pad r 10), .int .i64 (pad r 11)], 78⟩ :: ⟨g2, #[.slice p G.length c, .slice q H.length d], 35⟩ :: ⟨g1, #[.int .i64 f, .slice ps nX cs], 41⟩ :: (s4.rows 3 ++ [])) (fun (zz : Nat × Int × Value × Value × Value × Value × Value × Value × Value × Value × Value × Value × Value) => match zz with | ⟨i, z, u9, u17, u18, u19, u20, u21, u22, u23, u24, u25, u26⟩ => i ≤ r.length ∧ z = endR G f (r.take i)) (fun (zz : Nat × Int × Value × Value × Value × Value × Value × Value × Value × Value × Value × Value × Value) => match zz with | ⟨i, z, u9, u17, u18, u19, u20, u21, u22, u23, u24, u25, u26⟩ => r.length - i) ⟨0, (-f), _, _, _, _, _, _, _, _, _, _, _⟩ ⟨Nat.zero_le _, rfl⟩ rfl (List.Sublist.cons_cons _ (List.Sublist.cons_cons _ (List.Sublist.cons_cons _ (List.Sublist.append_left List.Sublist.slnil _)))) ?_
  rintro ⟨i, z, u9, u17, u18, u19, u20, u21, u22, u23, u24, u25, u26⟩ hφ
  (try dsimp only at hφ ⊢)
  obtain ⟨b1, b2⟩ := hφ
  refine wc_seq ?_
  refine wc_region ?_
  refine wl_val (.bool (decide ((i : Int) < (r.length : Int)))) rfl (fun w => run_cmp rfl rfl rfl Try.underlying3 rfl w) ?_
  simp only [Act.put, Xa, Xz, Xs]
  refine wl_nil ?_
  refine we_then ?_
  refine wc_seq ?_
  cases h5 : (decide ((i : Int) < (r.length : Int)))
  · skip
    have p5 : ¬ ((i : Int) < (r.length : Int)) := of_decide_eq_false h5
    refine wc_false rfl ?_
    refine wc_exit ?_
    refine we_then_exit ?_
    refine we_then_exit ?_
    refine we_in_here ?_
    refine we_then ?_
    refine wc_seq ?_
    refine wc_region ?_
    refine wl_val (.int .i64 z) rfl (fun _ => rfl) ?_
    simp only [Act.put, Xa, Xz, Xs]
    refine wl_val (.int .i64 z) rfl (fun _ => rfl) ?_
    simp only [Act.put, Xa, Xz, Xs]
    refine wl_nil ?_
    refine we_then ?_
    refine wc_ret ?_
    refine we_ret1 (.int .i64 z) rfl rfl rfl (fun w1 hE => ?_)
    have e0 : i = r.length := by omega
    rw [e0, List.take_length] at b2
    exact ⟨by rw [b2], hE.below⟩
  · skip
    have p5 : (i : Int) < (r.length : Int) := of_decide_eq_true h5
    refine wc_true rfl ?_
    refine wc_skip ?_
    refine we_then ?_
    refine wc_seq ?_
    refine wc_block ?_
    refine wc_seq ?_
    refine wc_region ?_
    refine wl_read (eaddr s4.ptr (i * 1)) rfl (er_index i 1 (sl_own [⟨g3, #[.int .i64 (r.length : Int), .int .i64 (pad r 0), .int .i64 (pad r 1), .int .i64 (pad r 2), .int .i64 (pad r 3), .int .i64 (pad r 4), .int .i64 (pad r 5), .int .i64 (pad r 6), .int .i64 (pad r 7), .int .i64 (pad r 8), .int .i64 (pad r 9), .int .i64 (pad r 10), .int .i64 (pad r 11)], 78⟩, ⟨g2, #[.slice p G.length c, .slice q H.length d], 35⟩, ⟨g1, #[.int .i64 f, .slice ps nX cs], 41⟩] [] hs4 rfl) rfl rfl rfl rfl (by omega) (flat_length (enc := enc1) (size := 1) (fun _ => rfl) _) (by decide) Try.underlying58 (by kernel_rfl)) ?_
    simp only [Act.put, Xa, Xz, Xs]
    refine wl_read (.int .i64 (r[i]!)) rfl (er_cell (i * 1) (.int .i64 (r[i]!)) (sl_own [⟨g3, #[.int .i64 (r.length : Int), .int .i64 (pad r 0), .int .i64 (pad r 1), .int .i64 (pad r 2), .int .i64 (pad r 3), .int .i64 (pad r 4), .int .i64 (pad r 5), .int .i64 (pad r 6), .int .i64 (pad r 7), .int .i64 (pad r 8), .int .i64 (pad r 9), .int .i64 (pad r 10), .int .i64 (pad r 11)], 78⟩, ⟨g2, #[.slice p G.length c, .slice q H.length d], 35⟩, ⟨g1, #[.int .i64 f, .slice ps nX cs], 41⟩] [] hs4 rfl) rfl rfl (flat_cell (enc := enc1) (fun _ => rfl) r i 0 (by omega) (by decide)) Try.isAgg3) ?_
    simp only [Act.put, Xa, Xz, Xs]
    refine wl_val (.int .i64 (r[i]!)) rfl (fun _ => rfl) ?_
    simp only [Act.put, Xa, Xz, Xs]
    refine wl_nil ?_
    refine we_then ?_
    obtain ⟨q0, q1⟩ := hr.each i (by omega)
    have e1 := end_in (f := f) hM.segs hr i (by omega)
    have l1 := (hM.segs (r[i]!).toNat (by omega)).low
    have l2 := (hM.segs (r[i]!).toNat (by omega)).high
    refine wc_region ?_
    refine wl_val (.int .i64 z) rfl (fun _ => rfl) ?_
    simp only [Act.put, Xa, Xz, Xs]
    refine wl_load 35 (.tmp 4) (own_row 1 rfl) rfl rfl rfl Try.underlying35 rfl (by kernel_rfl) ?_
    simp only [Act.put, Xa, Xz, Xs]
    refine wl_val (.int .i64 (r[i]!)) rfl (fun _ => rfl) ?_
    simp only [Act.put, Xa, Xz, Xs]
    refine wl_call_at 39 #[.agg #[.slice p G.length c, .slice q H.length d], .int .i64 (r[i]!)] (.agg #[.int .i64 ((G[(r[i]!).toNat]!).len), .slice ((G[(r[i]!).toNat]!).pp) ((G[(r[i]!).toNat]!).P.length) ((G[(r[i]!).toNat]!).pc), .slice ((G[(r[i]!).toNat]!).np) ((G[(r[i]!).toNat]!).X.length) ((G[(r[i]!).toNat]!).nc)]) rfl (fun _ => by go_simp) (fun W hE => at_any G H p q c d (r[i]!) W (sl_old (R := []) hS W (hE.sub (List.nil_sublist _))) (oks_below hG hE.below) (by omega) q0 q1) ?_
    simp only [Act.put, Xa, Xz, Xs]
    refine wl_val (.int .i64 ((G[(r[i]!).toNat]!).len)) rfl (fun _ => by kernel_rfl) ?_
    simp only [Act.put, Xa, Xz, Xs]
    refine wl_val (.int .i64 (z + ((G[(r[i]!).toNat]!).len))) rfl (fun w => run_arith (op := .add) rfl rfl rfl Try.underlying2 (congrArg some (i64_in (by omega) (by omega))) w) ?_
    simp only [Act.put, Xa, Xz, Xs]
    refine wl_val (.int .i64 (z + ((G[(r[i]!).toNat]!).len))) rfl (fun _ => rfl) ?_
    simp only [Act.put, Xa, Xz, Xs]
    refine wl_nil ?_
    refine we_in ?_
    refine we_then ?_
    refine wc_region ?_
    refine wl_val (.int .i64 ((i + 1 : Nat) : Int)) rfl (fun w => run_nat (X := i) (Y := 1) (Z := i + 1) rfl rfl rfl rfl (by omega) w) ?_
    simp only [Act.put, Xa, Xz, Xs]
    refine wl_val (.int .i64 ((i + 1 : Nat) : Int)) rfl (fun _ => rfl) ?_
    simp only [Act.put, Xa, Xz, Xs]
    refine wl_nil ?_
    exact we_meet ⟨(i + 1), (z + (G[(r[i]!).toNat]!).len), _, _, _, _, _, _, _, _, _, _, _⟩ ⟨⟨by (try dsimp only); omega, by rw [end_snoc G f r (by omega), b2]⟩, by (try dsimp only); omega⟩ rfl (List.Sublist.cons_cons _ (List.Sublist.cons_cons _ (List.Sublist.cons_cons _ (List.Sublist.append_left List.Sublist.slnil _))))
set_option maxHeartbeats 2000000 in
theorem next_any (G : List Sg) (H : List Gp) (p q : Option Addr) (c d : Nat) (r : Ro) (w : World) (hS : Reads w p (flat sg G)) (hG : OkS w G) (hM : TrackMay G H) (hC : ∀ s ∈ G, s.X.length ≤ s.nc) (hr : RtOk G r) :
    Calls Try.prog 38 #[.agg #[.slice p G.length c, .slice q H.length d], .agg #[.int .i64 (r.length : Int), .int .i64 (pad r 0), .int .i64 (pad r 1), .int .i64 (pad r 2), .int .i64 (pad r 3), .int .i64 (pad r 4), .int .i64 (pad r 5), .int .i64 (pad r 6), .int .i64 (pad r 7), .int .i64 (pad r 8), .int .i64 (pad r 9), .int .i64 (pad r 10), .int .i64 (pad r 11)]] w fun e w' => e = .returned (.slice (G[(r[r.length - 1]!).toNat]!).np (G[(r[r.length - 1]!).toNat]!).X.length (G[(r[r.length - 1]!).toNat]!).nc) ∧ Below w.heap.size w w' := by
  have hs1 := hM.sizes.1
  have hs2 := hM.sizes.2.1
  have hr12 := hr.few
  have hr1 := hr.some
  obtain ⟨q0, q1⟩ := hr.each (r.length - 1) (by omega)
  have x1 := (hM.segs (r[r.length - 1]!).toNat (by omega)).two
  have x2 := hC (G[(r[r.length - 1]!).toNat]!) (by rw [getElem!_pos G _ (show (r[r.length - 1]!).toNat < G.length by omega)]; exact List.getElem_mem _)
  refine calls_sx Try.func38 rfl ?_
  simp only [Try.ntmps38, List.size_toArray, List.length_cons, List.length_nil, Nat.reduceAdd, Nat.reduceSub, Array.replicate_succ, Array.replicate_zero, List.push_toArray, List.append_toArray, List.nil_append, List.cons_append]
  refine wc_seq ?_
  refine wc_region ?_
  refine wl_new 35 (#[.slice p G.length c, .slice q H.length d]) rfl (fun _ => by go_simp) ?_
  intro g1
  simp only [Act.put, Xa, Xz, Xs]
  refine wl_new 78 (#[.int .i64 (r.length : Int), .int .i64 (pad r 0), .int .i64 (pad r 1), .int .i64 (pad r 2), .int .i64 (pad r 3), .int .i64 (pad r 4), .int .i64 (pad r 5), .int .i64 (pad r 6), .int .i64 (pad r 7), .int .i64 (pad r 8), .int .i64 (pad r 9), .int .i64 (pad r 10), .int .i64 (pad r 11)]) rfl (fun _ => by go_simp) ?_
  intro g2
  simp only [Act.put, Xa, Xz, Xs]
  refine wl_val (.slice none 0 0) rfl (fun _ => rfl) ?_
  simp only [Act.put, Xa, Xz, Xs]
  refine wl_nil ?_
  refine we_then ?_
  refine wc_seq ?_
  refine wc_region ?_
  refine wl_load 78 (.tmp 3) (own_row 0 rfl) rfl rfl rfl Try.underlying78 rfl (by kernel_rfl) ?_
  simp only [Act.put, Xa, Xz, Xs]
  refine wl_call_own (ι := Own) (e := 3) [⟨g2, #[.int .i64 (r.length : Int), .int .i64 (pad r 0), .int .i64 (pad r 1), .int .i64 (pad r 2), .int .i64 (pad r 3), .int .i64 (pad r 4), .int .i64 (pad r 5), .int .i64 (pad r 6), .int .i64 (pad r 7), .int .i64 (pad r 8), .int .i64 (pad r 9), .int .i64 (pad r 10), .int .i64 (pad r 11)], 78⟩, ⟨g1, #[.slice p G.length c, .slice q H.length d], 35⟩] [] 53 #[.agg #[.int .i64 (r.length : Int), .int .i64 (pad r 0), .int .i64 (pad r 1), .int .i64 (pad r 2), .int .i64 (pad r 3), .int .i64 (pad r 4), .int .i64 (pad r 5), .int .i64 (pad r 6), .int .i64 (pad r 7), .int .i64 (pad r 8), .int .i64 (pad r 9), .int .i64 (pad r 10), .int .i64 (pad r 11)]] (fun s => s.val r.length) (fun s => s) (fun s => s.Has 1 r.length (flat enc1 r)) rfl rfl (fun _ => by go_simp) (fun W hE => path_own r W hr.few) ?_
  rintro s3 hs3
  simp only [List.cons_append, List.nil_append, Act.put, Xa, Xz, Xs]
  refine wl_val (.slice s3.ptr r.length s3.cap) rfl (fun _ => rfl) ?_
  simp only [Act.put, Xa, Xz, Xs]
  refine wl_nil ?_
  refine we_then ?_
  refine wc_seq ?_
  refine wc_seq ?_
  refine wc_region ?_
  refine wl_val (.slice s3.ptr r.length s3.cap) rfl (fun _ => rfl) ?_
  simp only [Act.put, Xa, Xz, Xs]
  refine wl_val (.int .i64 (r.length : Int)) rfl (fun w => er_len rfl rfl Try.underlying58 w) ?_
  simp only [Act.put, Xa, Xz, Xs]
  refine wl_val (.bool ((r.length : Int) == 0)) rfl (fun w => run_cmp rfl rfl rfl Try.underlying3 rfl w) ?_
  simp only [Act.put, Xa, Xz, Xs]
  refine wl_nil ?_
  refine we_then ?_
  cases h4 : ((r.length : Int) == 0)
  · skip
    have p4 : ¬ ((r.length : Int) = 0) := by first | (simp; done) | (simp at h4; done) | simpa using h4
    refine wc_false rfl ?_
    refine wc_skip ?_
    refine we_then ?_
    refine wc_seq ?_
    refine wc_draw [.plain, .late, .late, .late, .late, .plain, .plain, .plain, .late, .late] none [] 26 (by kernel_rfl) rfl (by kernel_rfl) (by kernel_rfl) ?_
    refine ws_load 35 (.tmp 2) (own_row 1 rfl) rfl rfl rfl rfl Try.underlying35 rfl (by kernel_rfl) ?_
    simp only [Nat.reduceAdd, Act.put, Xa, Xz, Xs]
    refine ws_late (.slice s3.ptr r.length s3.cap) rfl rfl (fun _ => rfl) ?_
    simp only [Nat.reduceAdd, Act.put, Xa, Xz, Xs]
    refine ws_late (.slice s3.ptr r.length s3.cap) rfl rfl (fun _ => rfl) ?_
    simp only [Nat.reduceAdd, Act.put, Xa, Xz, Xs]
    refine ws_late (.int .i64 (r.length : Int)) rfl rfl (fun w => er_len rfl rfl Try.underlying58 w) ?_
    simp only [Nat.reduceAdd, Act.put, Xa, Xz, Xs]
    refine ws_late (.int .i64 ((r.length - 1 : Nat) : Int)) rfl rfl (fun w => run_nat (X := r.length) (Y := 1) (Z := r.length - 1) rfl rfl rfl (natOf_sub (by omega)) (by omega) w) ?_
    simp only [Nat.reduceAdd, Act.put, Xa, Xz, Xs]
    refine ws_read (eaddr s3.ptr ((r.length - 1) * 1)) rfl rfl (er_index (r.length - 1) 1 (sl_own [⟨g2, #[.int .i64 (r.length : Int), .int .i64 (pad r 0), .int .i64 (pad r 1), .int .i64 (pad r 2), .int .i64 (pad r 3), .int .i64 (pad r 4), .int .i64 (pad r 5), .int .i64 (pad r 6), .int .i64 (pad r 7), .int .i64 (pad r 8), .int .i64 (pad r 9), .int .i64 (pad r 10), .int .i64 (pad r 11)], 78⟩, ⟨g1, #[.slice p G.length c, .slice q H.length d], 35⟩] [] hs3 rfl) rfl rfl rfl rfl (by omega) (flat_length (enc := enc1) (size := 1) (fun _ => rfl) _) (by decide) Try.underlying58 (by kernel_rfl)) ?_
    simp only [Nat.reduceAdd, Act.put, Xa, Xz, Xs]
    refine ws_read (.int .i64 (r[r.length - 1]!)) rfl rfl (er_cell ((r.length - 1) * 1) (.int .i64 (r[r.length - 1]!)) (sl_own [⟨g2, #[.int .i64 (r.length : Int), .int .i64 (pad r 0), .int .i64 (pad r 1), .int .i64 (pad r 2), .int .i64 (pad r 3), .int .i64 (pad r 4), .int .i64 (pad r 5), .int .i64 (pad r 6), .int .i64 (pad r 7), .int .i64 (pad r 8), .int .i64 (pad r 9), .int .i64 (pad r 10), .int .i64 (pad r 11)], 78⟩, ⟨g1, #[.slice p G.length c, .slice q H.length d], 35⟩] [] hs3 rfl) rfl rfl (flat_cell (enc := enc1) (fun _ => rfl) r (r.length - 1) 0 (by omega) (by decide)) Try.isAgg3) ?_
    simp only [Nat.reduceAdd, Act.put, Xa, Xz, Xs]
    refine ws_call_at 39 #[.agg #[.slice p G.length c, .slice q H.length d], .int .i64 (r[r.length - 1]!)] (.agg #[.int .i64 ((G[(r[r.length - 1]!).toNat]!).len), .slice ((G[(r[r.length - 1]!).toNat]!).pp) ((G[(r[r.length - 1]!).toNat]!).P.length) ((G[(r[r.length - 1]!).toNat]!).pc), .slice ((G[(r[r.length - 1]!).toNat]!).np) ((G[(r[r.length - 1]!).toNat]!).X.length) ((G[(r[r.length - 1]!).toNat]!).nc)]) rfl rfl (fun _ => by go_simp) (fun W hE => at_any G H p q c d (r[r.length - 1]!) W (sl_old (R := []) hS W (hE.sub (List.nil_sublist _))) (oks_below hG hE.below) (by omega) q0 q1) ?_
    simp only [Nat.reduceAdd, Act.put, Xa, Xz, Xs]
    refine ws_late (.slice ((G[(r[r.length - 1]!).toNat]!).np) ((G[(r[r.length - 1]!).toNat]!).X.length) ((G[(r[r.length - 1]!).toNat]!).nc)) rfl rfl (fun _ => by kernel_rfl) ?_
    simp only [Nat.reduceAdd, Act.put, Xa, Xz, Xs]
    refine ws_late (.slice ((G[(r[r.length - 1]!).toNat]!).np) ((G[(r[r.length - 1]!).toNat]!).X.length) ((G[(r[r.length - 1]!).toNat]!).nc)) rfl rfl (fun _ => rfl) ?_
    simp only [Nat.reduceAdd, Act.put, Xa, Xz, Xs]
    refine ws_nil [] trivial (by simp) ?_
    intro ps5
    simp only [fin, List.foldl_nil, List.map, List.nil_append]
    refine we_then ?_
    refine wc_seq ?_
    refine wc_region ?_
    refine wl_val (.slice ((G[(r[r.length - 1]!).toNat]!).np) ((G[(r[r.length - 1]!).toNat]!).X.length) ((G[(r[r.length - 1]!).toNat]!).nc)) rfl (fun _ => rfl) ?_
    simp only [Act.put, Xa, Xz, Xs]
    refine wl_val (.slice ((G[(r[r.length - 1]!).toNat]!).np) ((G[(r[r.length - 1]!).toNat]!).X.length) ((G[(r[r.length - 1]!).toNat]!).nc)) rfl (fun _ => rfl) ?_
    simp only [Act.put, Xa, Xz, Xs]
    refine wl_val (.int .i64 (((G[(r[r.length - 1]!).toNat]!).X.length : Nat) : Int)) rfl (fun w => er_len rfl rfl Try.underlying58 w) ?_
    simp only [Act.put, Xa, Xz, Xs]
    refine wl_val (.int .i64 (((G[(r[r.length - 1]!).toNat]!).X.length : Nat) : Int)) rfl (fun w => run_min2 (Z := (((G[(r[r.length - 1]!).toNat]!).X.length : Nat) : Int)) rfl rfl rfl (by omega) w) ?_
    simp only [Act.put, Xa, Xz, Xs]
    refine wl_val (.slice ((G[(r[r.length - 1]!).toNat]!).np) ((G[(r[r.length - 1]!).toNat]!).X.length) ((G[(r[r.length - 1]!).toNat]!).nc)) rfl (fun w => er_take (h := (G[(r[r.length - 1]!).toNat]!).X.length) rfl rfl rfl rfl (by omega) Try.underlying58 (by kernel_rfl) w) ?_
    simp only [Act.put, Xa, Xz, Xs]
    refine wl_val (.slice ((G[(r[r.length - 1]!).toNat]!).np) ((G[(r[r.length - 1]!).toNat]!).X.length) ((G[(r[r.length - 1]!).toNat]!).nc)) rfl (fun _ => rfl) ?_
    simp only [Act.put, Xa, Xz, Xs]
    refine wl_nil ?_
    refine we_then ?_
    refine wc_ret ?_
    refine we_ret1 (.slice ((G[(r[r.length - 1]!).toNat]!).np) ((G[(r[r.length - 1]!).toNat]!).X.length) ((G[(r[r.length - 1]!).toNat]!).nc)) rfl rfl rfl (fun w1 hE => ?_)
    exact ⟨rfl, hE.below⟩
  · skip
    have p4 : (r.length : Int) = 0 := by first | (simp; done) | (simp at h4; done) | simpa using h4
    refine wc_true rfl ?_
    refine wc_seq ?_
    refine wc_region ?_
    refine wl_val (.slice none 0 0) rfl (fun _ => rfl) ?_
    simp only [Act.put, Xa, Xz, Xs]
    refine wl_nil ?_
    refine we_then ?_
    refine wc_ret ?_
    refine we_then_ret ?_
    refine we_ret1 (.slice none 0 0) rfl rfl rfl (fun w1 hE => ?_)
    exact (by exfalso; omega)
/-- The order, as the program has it. -/
def cfR (r s : Ro) : Int := orZ (cmpL [pad r 0, pad r 1, pad r 2, pad r 3, pad r 4, pad r 5, pad r 6, pad r 7, pad r 8, pad r 9, pad r 10, pad r 11] [pad s 0, pad s 1, pad s 2, pad s 3, pad s 4, pad s 5, pad s 6, pad s 7, pad s 8, pad s 9, pad s 10, pad s 11]) (cmpZ (r.length : Int) (s.length : Int))
theorem flat1 : ∀ L : List Int, flat enc1 L = L.map (Value.int .i64)
  | [] => rfl
  | x :: L => by
    show enc1 x ++ flat enc1 L = _
    rw [flat1 L]
    rfl
end Go.Proofs.Ytjbhlcklgmgdpaa.Roub
namespace Go.Proofs.Ytjbhlcklgmgdpaa.Rouc
open Go.ChangeShapes Go.WideShapes Go.ChangeAt Go.RowKit
open Arr Steady Sx Sw Sl Sb Sc Si Sk Sh Smu Sj Vs Gr Tk Tkh Tkl Rt Rtm Rtp Rtk Rts Fns Rdr Mp Re Roua Roub Sfn Spn
set_option linter.unusedVariables false
set_option linter.unusedSimpArgs false
set_option maxRecDepth 100000

set_option maxHeartbeats 2000000 in
theorem visit_in (w0 : World) (M0 B0 : List Rw) (Ψ : Nat → List Rw → Prop) (F : FuncId) (CB : Array Value) (G : List Sg) (H : List Gp) (p q : Option Addr) (c d : Nat) (f : Int) (ps : Option Addr) (nX cs : Nat) (r : Ro) (w : World) (hE0 : Env w0 w (M0 ++ B0)) (h0 : Ψ 0 M0) (eg : Enters Try.prog F) (hF : ∀ k M B W, k < r.length → Ψ k M → Env w0 W (M ++ B) → Calls Try.prog F (#[.int .i64 (r[k]!), .agg #[.int .i64 (endR G f (r.take k)), .int .i64 (endR G f (r.take (k + 1)))]] ++ CB) W fun e w' => ∃ M', Ψ (k + 1) M' ∧ e = .returned (.tuple #[]) ∧ Env w0 w' (M' ++ B)) (hS : Reads w0 p (flat sg G)) (hG : OkS w0 G) (hM : TrackMay G H) (hf : 0 ≤ f ∧ f ≤ 1099511627776) (hr : RtOk G r) :
    Calls Try.prog 46 #[.agg #[.int .i64 f, .slice ps nX cs], .agg #[.slice p G.length c, .slice q H.length d], .agg #[.int .i64 (r.length : Int), .int .i64 (pad r 0), .int .i64 (pad r 1), .int .i64 (pad r 2), .int .i64 (pad r 3), .int .i64 (pad r 4), .int .i64 (pad r 5), .int .i64 (pad r 6), .int .i64 (pad r 7), .int .i64 (pad r 8), .int .i64 (pad r 9), .int .i64 (pad r 10), .int .i64 (pad r 11)], .func (.func F) #[] CB] w fun e w' => ∃ M', Ψ r.length M' ∧ e = .returned (.tuple #[]) ∧ Env w0 w' (M' ++ B0) := by
  have hs1 := hM.sizes.1
  have hs2 := hM.sizes.2.1
  have hr12 := hr.few
  have hr1 := hr.some
  refine calls_in hE0 Try.func46 rfl ?_
  simp only [Try.ntmps46, List.size_toArray, List.length_cons, List.length_nil, Nat.reduceAdd, Nat.reduceSub, Array.replicate_succ, Array.replicate_zero, List.push_toArray, List.append_toArray, List.nil_append, List.cons_append]
  refine wc_seq ?_
  refine wc_region ?_
  refine wl_new 41 (#[.int .i64 f, .slice ps nX cs]) rfl (fun _ => by go_simp) ?_
  intro g1
  simp only [Act.put, Xa, Xz, Xs]
  refine wl_new 35 (#[.slice p G.length c, .slice q H.length d]) rfl (fun _ => by go_simp) ?_
  intro g2
  simp only [Act.put, Xa, Xz, Xs]
  refine wl_new 78 (#[.int .i64 (r.length : Int), .int .i64 (pad r 0), .int .i64 (pad r 1), .int .i64 (pad r 2), .int .i64 (pad r 3), .int .i64 (pad r 4), .int .i64 (pad r 5), .int .i64 (pad r 6), .int .i64 (pad r 7), .int .i64 (pad r 8), .int .i64 (pad r 9), .int .i64 (pad r 10), .int .i64 (pad r 11)]) rfl (fun _ => by go_simp) ?_
  intro g3
  simp only [Act.put, Xa, Xz, Xs]
  refine wl_nil ?_
  refine we_then ?_
  refine wc_seq ?_
  refine wc_region ?_
  refine wl_val (.pointer (some ⟨g1, 0, none⟩)) rfl (fun _ => by go_simp) ?_
  simp only [Act.put, Xa, Xz, Xs]
  refine wl_cell 2 (.tmp 12) (.int .i64 f) (own_row 2 rfl) rfl rfl rfl rfl Try.isAgg2 ?_
  simp only [Act.put, Xa, Xz, Xs]
  refine wl_val (.int .i64 (-f)) rfl (fun w => run_neg rfl rfl Try.underlying2 (i64_in (by omega) (by omega)) w) ?_
  simp only [Act.put, Xa, Xz, Xs]
  refine wl_val (.int .i64 (-f)) rfl (fun _ => rfl) ?_
  simp only [Act.put, Xa, Xz, Xs]
  refine wl_nil ?_
  refine we_then ?_
  refine wc_seq ?_
  refine wc_region ?_
  refine wl_load 78 (.tmp 6) (own_row 0 rfl) rfl rfl rfl Try.underlying78 rfl (by kernel_rfl) ?_
  simp only [Act.put, Xa, Xz, Xs]
  refine wl_call_own (ι := Own) (e := 3) [⟨g3, #[.int .i64 (r.length : Int), .int .i64 (pad r 0), .int .i64 (pad r 1), .int .i64 (pad r 2), .int .i64 (pad r 3), .int .i64 (pad r 4), .int .i64 (pad r 5), .int .i64 (pad r 6), .int .i64 (pad r 7), .int .i64 (pad r 8), .int .i64 (pad r 9), .int .i64 (pad r 10), .int .i64 (pad r 11)], 78⟩, ⟨g2, #[.slice p G.length c, .slice q H.length d], 35⟩, ⟨g1, #[.int .i64 f, .slice ps nX cs], 41⟩] (M0 ++ B0) 53 #[.agg #[.int .i64 (r.length : Int), .int .i64 (pad r 0), .int .i64 (pad r 1), .int .i64 (pad r 2), .int .i64 (pad r 3), .int .i64 (pad r 4), .int .i64 (pad r 5), .int .i64 (pad r 6), .int .i64 (pad r 7), .int .i64 (pad r 8), .int .i64 (pad r 9), .int .i64 (pad r 10), .int .i64 (pad r 11)]] (fun s => s.val r.length) (fun s => s) (fun s => s.Has 1 r.length (flat enc1 r)) rfl rfl (fun _ => by go_simp) (fun W hE => path_own r W hr.few) ?_
  rintro s4 hs4
  simp only [List.cons_append, List.nil_append, Act.put, Xa, Xz, Xs]
  refine wl_val (.int .i64 (r.length : Int)) rfl (fun w => er_len rfl rfl Try.underlying58 w) ?_
  simp only [Act.put, Xa, Xz, Xs]
  refine wl_val (.int .i64 0) rfl (fun _ => rfl) ?_
  simp only [Act.put, Xa, Xz, Xs]
  refine wl_nil ?_
  refine we_then ?_
  refine wc_block ?_
  refine wc_loop (fun (zz : Nat × Int × List Rw × Value × Value × Value × Value × Value × Value × Value × Value × Value × Value × Value × Value × Value × Value × Value × Value × Value × Value × Value) => match zz with | ⟨i, z, M, u10, u11, u19, u20, u21, u22, u23, u24, u25, u26, u27, u28, u29, u30, u31, u32, u33, u34, u35⟩ => ({ tmps := #[.agg #[.int .i64 f, .slice ps nX cs], .agg #[.slice p G.length c, .slice q H.length d], .agg #[.int .i64 (r.length : Int), .int .i64 (pad r 0), .int .i64 (pad r 1), .int .i64 (pad r 2), .int .i64 (pad r 3), .int .i64 (pad r 4), .int .i64 (pad r 5), .int .i64 (pad r 6), .int .i64 (pad r 7), .int .i64 (pad r 8), .int .i64 (pad r 9), .int .i64 (pad r 10), .int .i64 (pad r 11)], .func (.func F) #[] CB, .pointer (some ⟨g1, 0, none⟩), .pointer (some ⟨g2, 0, none⟩), .pointer (some ⟨g3, 0, none⟩), undef, .int .i64 z, undef, u10, u11, .pointer (some ⟨g1, 0, none⟩), .int .i64 f, .int .i64 (-f), .agg #[.int .i64 (r.length : Int), .int .i64 (pad r 0), .int .i64 (pad r 1), .int .i64 (pad r 2), .int .i64 (pad r 3), .int .i64 (pad r 4), .int .i64 (pad r 5), .int .i64 (pad r 6), .int .i64 (pad r 7), .int .i64 (pad r 8), .int .i64 (pad r 9), .int .i64 (pad r 10), .int .i64 (pad r 11)], .slice s4.ptr r.length s4.cap, .int .i64 (r.length : Int), .int .i64 (i : Int), u19, u20, u21, u22, u23, u24, u25, u26, u27, u28, u29, u30, u31, u32, u33, u34, u35], defers := [] } : Act)) (fun (zz : Nat × Int × List Rw × Value × Value × Value × Value × Value × Value × Value × Value × Value × Value × Value × Value × Value × Value × Value × Value × Value × Value × Value) => match zz with | ⟨i, z, M, u10, u11, u19, u20, u21, u22, u23, u24, u25, u26, u27, u28, u29, u30, u31, u32, u33, u34, u35⟩ => ⟨g3, #[.int .i64 (r.length : Int), .int .i64 (pad r 0), .int .i64 (pad r 1), .int .i64 (pad r 2), .int .i64 (pad r 3), .int .i64 (pad r 4), .int .i64 (pad r 5), .int .i64 (pad r 6), .int .i64 (pad r 7), .int .i64 (pad r 8), .int .i64 (pad r 9), .int .i64 (pad r 10), .int .i64 (pad r 11)], 78⟩ :: ⟨g2, #[.slice p G.length c, .slice q H.length d], 35⟩ :: ⟨g1, #[.int .i64 f, .slice ps nX cs], 41⟩ :: (s4.rows 3 ++ (M ++ B0))) (fun (zz : Nat × Int × List Rw × Value × Value × Value × Value × Value × Value × Value × Value × Value × Value × Value × Value × Value × Value × Value × Value × Value × Value × Value) => match zz with | ⟨i, z, M, u10, u11, u19, u20, u21, u22, u23, u24, u25, u26, u27, u28, u29, u30, u31, u32, u33, u34, u35⟩ => i ≤ r.length ∧ z = endR G f (r.take i) ∧ Ψ i M) (fun (zz : Nat × Int × List Rw × Value × Value × Value × Value × Value × Value × Value × Value × Value × Value × Value × Value × Value × Value × Value × Value × Value × Value × Value) => match zz with | ⟨i, z, M, u10, u11, u19, u20, u21, u22, u23, u24, u25, u26, u27, u28, u29, u30, u31, u32, u33, u34, u35⟩ => r.length - i) ⟨0, (-f), M0, _, _, _, _, _, _, _, _, _, _, _, _, _, _, _, _, _, _, _⟩ ⟨Nat.zero_le _, rfl, h0⟩ rfl (List.Sublist.cons_cons _ (List.Sublist.cons_cons _ (List.Sublist.cons_cons _ (List.Sublist.refl _)))) ?_
  rintro ⟨i, z, M, u10, u11, u19, u20, u21, u22, u23, u24, u25, u26, u27, u28, u29, u30, u31, u32, u33, u34, u35⟩ hφ
  (try dsimp only at hφ ⊢)
  obtain ⟨b1, b2, b3⟩ := hφ
  refine wc_seq ?_
  refine wc_region ?_
  refine wl_val (.bool (decide ((i : Int) < (r.length : Int)))) rfl (fun w => run_cmp rfl rfl rfl Try.underlying3 rfl w) ?_
  simp only [Act.put, Xa, Xz, Xs]
  refine wl_nil ?_
  refine we_then ?_
  refine wc_seq ?_
  cases h5 : (decide ((i : Int) < (r.length : Int)))
  · skip
    have p5 : ¬ ((i : Int) < (r.length : Int)) := of_decide_eq_false h5
    refine wc_false rfl ?_
    refine wc_exit ?_
    refine we_then_exit ?_
    refine we_then_exit ?_
    refine we_in_here ?_
    refine we_end0 rfl rfl (fun w1 hE => ?_)
    have e0 : i = r.length := by omega
    rw [e0] at b3
    exact ⟨M, b3, rfl, hE.sub (List.Sublist.cons _ (List.Sublist.cons _ (List.Sublist.cons _ (List.sublist_append_of_sublist_right (List.Sublist.refl _)))))⟩
  · skip
    have p5 : (i : Int) < (r.length : Int) := of_decide_eq_true h5
    refine wc_true rfl ?_
    refine wc_skip ?_
    refine we_then ?_
    refine wc_seq ?_
    refine wc_block ?_
    refine wc_seq ?_
    refine wc_region ?_
    refine wl_read (eaddr s4.ptr (i * 1)) rfl (er_index i 1 (sl_own [⟨g3, #[.int .i64 (r.length : Int), .int .i64 (pad r 0), .int .i64 (pad r 1), .int .i64 (pad r 2), .int .i64 (pad r 3), .int .i64 (pad r 4), .int .i64 (pad r 5), .int .i64 (pad r 6), .int .i64 (pad r 7), .int .i64 (pad r 8), .int .i64 (pad r 9), .int .i64 (pad r 10), .int .i64 (pad r 11)], 78⟩, ⟨g2, #[.slice p G.length c, .slice q H.length d], 35⟩, ⟨g1, #[.int .i64 f, .slice ps nX cs], 41⟩] (M ++ B0) hs4 rfl) rfl rfl rfl rfl (by omega) (flat_length (enc := enc1) (size := 1) (fun _ => rfl) _) (by decide) Try.underlying58 (by kernel_rfl)) ?_
    simp only [Act.put, Xa, Xz, Xs]
    refine wl_read (.int .i64 (r[i]!)) rfl (er_cell (i * 1) (.int .i64 (r[i]!)) (sl_own [⟨g3, #[.int .i64 (r.length : Int), .int .i64 (pad r 0), .int .i64 (pad r 1), .int .i64 (pad r 2), .int .i64 (pad r 3), .int .i64 (pad r 4), .int .i64 (pad r 5), .int .i64 (pad r 6), .int .i64 (pad r 7), .int .i64 (pad r 8), .int .i64 (pad r 9), .int .i64 (pad r 10), .int .i64 (pad r 11)], 78⟩, ⟨g2, #[.slice p G.length c, .slice q H.length d], 35⟩, ⟨g1, #[.int .i64 f, .slice ps nX cs], 41⟩] (M ++ B0) hs4 rfl) rfl rfl (flat_cell (enc := enc1) (fun _ => rfl) r i 0 (by omega) (by decide)) Try.isAgg3) ?_
    simp only [Act.put, Xa, Xz, Xs]
    refine wl_val (.int .i64 (r[i]!)) rfl (fun _ => rfl) ?_
    simp only [Act.put, Xa, Xz, Xs]
    refine wl_nil ?_
    refine we_then ?_
    refine wc_seq ?_
    obtain ⟨q0, q1⟩ := hr.each i (by omega)
    have e1 := end_in (f := f) hM.segs hr i (by omega)
    have l1 := (hM.segs (r[i]!).toNat (by omega)).low
    have l2 := (hM.segs (r[i]!).toNat (by omega)).high
    refine wc_region ?_
    refine wl_val (.int .i64 z) rfl (fun _ => rfl) ?_
    simp only [Act.put, Xa, Xz, Xs]
    refine wl_load 35 (.tmp 5) (own_row 1 rfl) rfl rfl rfl Try.underlying35 rfl (by kernel_rfl) ?_
    simp only [Act.put, Xa, Xz, Xs]
    refine wl_val (.int .i64 (r[i]!)) rfl (fun _ => rfl) ?_
    simp only [Act.put, Xa, Xz, Xs]
    refine wl_call_at 39 #[.agg #[.slice p G.length c, .slice q H.length d], .int .i64 (r[i]!)] (.agg #[.int .i64 ((G[(r[i]!).toNat]!).len), .slice ((G[(r[i]!).toNat]!).pp) ((G[(r[i]!).toNat]!).P.length) ((G[(r[i]!).toNat]!).pc), .slice ((G[(r[i]!).toNat]!).np) ((G[(r[i]!).toNat]!).X.length) ((G[(r[i]!).toNat]!).nc)]) rfl (fun _ => by go_simp) (fun W hE => at_any G H p q c d (r[i]!) W (sl_old (R := []) hS W (hE.sub (List.nil_sublist _))) (oks_below hG hE.below) (by omega) q0 q1) ?_
    simp only [Act.put, Xa, Xz, Xs]
    refine wl_val (.int .i64 ((G[(r[i]!).toNat]!).len)) rfl (fun _ => by kernel_rfl) ?_
    simp only [Act.put, Xa, Xz, Xs]
    refine wl_val (.int .i64 (z + ((G[(r[i]!).toNat]!).len))) rfl (fun w => run_arith (op := .add) rfl rfl rfl Try.underlying2 (congrArg some (i64_in (by omega) (by omega))) w) ?_
    simp only [Act.put, Xa, Xz, Xs]
    refine wl_val (.int .i64 (z + ((G[(r[i]!).toNat]!).len))) rfl (fun _ => rfl) ?_
    simp only [Act.put, Xa, Xz, Xs]
    refine wl_nil ?_
    refine we_then ?_
    refine wc_seq ?_
    refine wc_region ?_
    refine wl_val (.func (.func F) #[] CB) rfl (fun _ => rfl) ?_
    simp only [Act.put, Xa, Xz, Xs]
    refine wl_val (.int .i64 (r[i]!)) rfl (fun _ => rfl) ?_
    simp only [Act.put, Xa, Xz, Xs]
    refine wl_val (.int .i64 z) rfl (fun _ => rfl) ?_
    simp only [Act.put, Xa, Xz, Xs]
    refine wl_val (.int .i64 (z + ((G[(r[i]!).toNat]!).len))) rfl (fun _ => rfl) ?_
    simp only [Act.put, Xa, Xz, Xs]
    refine wl_val (.agg #[.int .i64 z, .int .i64 (z + ((G[(r[i]!).toNat]!).len))]) rfl (fun _ => by go_simp) ?_
    simp only [Act.put, Xa, Xz, Xs]
    refine wl_call_mid (ι := List Rw) ([⟨g3, #[.int .i64 (r.length : Int), .int .i64 (pad r 0), .int .i64 (pad r 1), .int .i64 (pad r 2), .int .i64 (pad r 3), .int .i64 (pad r 4), .int .i64 (pad r 5), .int .i64 (pad r 6), .int .i64 (pad r 7), .int .i64 (pad r 8), .int .i64 (pad r 9), .int .i64 (pad r 10), .int .i64 (pad r 11)], 78⟩, ⟨g2, #[.slice p G.length c, .slice q H.length d], 35⟩, ⟨g1, #[.int .i64 f, .slice ps nX cs], 41⟩] ++ (s4.rows 3 ++ [])) B0 M F (#[.int .i64 (r[i]!), .agg #[.int .i64 z, .int .i64 (z + ((G[(r[i]!).toNat]!).len))]] ++ CB) (fun _ => .tuple #[]) (fun z => z) (fun z => Ψ (i + 1) z) (by simp) rfl (er_value2 eg rfl rfl rfl rfl) (fun W hE => by have h9 := hF i M _ W (by omega) b3 hE; rw [end_snoc G f r (by omega), ← b2] at h9; exact h9) ?_
    intro M6 hM6
    simp only [Act.put, Xa, Xz, Xs]
    simp only [List.append_assoc, List.cons_append, List.nil_append]
    refine wl_nil ?_
    refine we_then ?_
    refine wc_region ?_
    refine wl_val (.int .i64 (z + ((G[(r[i]!).toNat]!).len))) rfl (fun _ => rfl) ?_
    simp only [Act.put, Xa, Xz, Xs]
    refine wl_val (.int .i64 (z + ((G[(r[i]!).toNat]!).len))) rfl (fun _ => rfl) ?_
    simp only [Act.put, Xa, Xz, Xs]
    refine wl_nil ?_
    refine we_in ?_
    refine we_then ?_
    refine wc_region ?_
    refine wl_val (.int .i64 ((i + 1 : Nat) : Int)) rfl (fun w => run_nat (X := i) (Y := 1) (Z := i + 1) rfl rfl rfl rfl (by omega) w) ?_
    simp only [Act.put, Xa, Xz, Xs]
    refine wl_val (.int .i64 ((i + 1 : Nat) : Int)) rfl (fun _ => rfl) ?_
    simp only [Act.put, Xa, Xz, Xs]
    refine wl_nil ?_
    exact we_meet ⟨(i + 1), (z + (G[(r[i]!).toNat]!).len), M6, _, _, _, _, _, _, _, _, _, _, _, _, _, _, _, _, _, _, _⟩ ⟨⟨by (try dsimp only); omega, by rw [end_snoc G f r (by omega), b2], hM6⟩, by (try dsimp only); omega⟩ rfl (List.Sublist.cons_cons _ (List.Sublist.cons_cons _ (List.Sublist.cons_cons _ (List.Sublist.refl _))))
/-- The program's least and greatest grade, against the ones that are told. -/
inductive GrRel : Int × Int × Bool → Int → Int → Prop
  | no : GrRel (0, 0, false) 1 0
  | yes {x y : Int} : x ≤ y → GrRel (x, y, true) x y
end Go.Proofs.Ytjbhlcklgmgdpaa.Rouc
