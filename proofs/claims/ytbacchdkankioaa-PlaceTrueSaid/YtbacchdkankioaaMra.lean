/-
  Package route: routes alone; the small functions of the library that it calls. Conditions: as each says.
  Package route: where a route ends, what follows it, the order, Has. Conditions: a track that may be; routes of it.
  Package route: the grades of one segment, visit, Grades. Conditions: a track that may be; routes of it.
-/
import Derived.Test.YtbacchdkankioaaMre
import Derived.Test.YtbacchdkankioaaMrt
import Derived.Test.YtbacchdkankioaaSmu
import Derived.Test.YtbacchdkankioaaGra
import Derived.Test.YtbacchdkankioaaSpo
import Derived.Test.YtbacchdkankioaaMsf
import Derived.Test.YtbacchdkankioaaMsc
namespace Go.Proofs.Ytbacchdkankioaa.Roua
open Go.ChangeShapes Go.WideShapes Go.ChangeAt Go.RowKit
open Arr Steady Sx Sw Sl Sb Sc Si Sh Vs Gr Tk Tkh Tkl Rt Rtm Rtk Rts Re
set_option linter.unusedVariables false
set_option linter.unusedSimpArgs false
set_option maxRecDepth 100000

theorem nan_any (x : Int) (w : World) : Calls Try.prog 70 #[.int .i64 x] w fun e w' => e = .returned (.bool false) ∧ w' = w := by
 go_enter Try.func70, Try.ntmps70
 go_wp2
 go_ret
 exact ⟨by simp, rfl⟩
/-- -1, 0 or 1. -/
def cmpZ (x y : Int) : Int := if x < y then -1 else if y < x then 1 else 0
set_option maxHeartbeats 1000000 in
theorem cmp_any (x y : Int) (w : World) : Calls Try.prog 58 #[.int .i64 x, .int .i64 y] w fun e w' => e = .returned (.int .i64 (cmpZ x y)) ∧ w' = w := by
 go_enter Try.func58, Try.ntmps58
 go_wp2_with (go_at_call 70; refine (nan_any _ _).mono ?_; rintro e w' ⟨rfl, hw⟩; rw [hw])
 all_goals (go_ret; refine ⟨?_, rfl⟩; unfold cmpZ; (repeat' split) <;> first | rfl | (exfalso; omega))
theorem cmpZ_zero {x y : Int} : cmpZ x y = 0 ↔ x = y := by unfold cmpZ; constructor <;> intro h <;> (try split at h) <;> (try split at h) <;> (try split) <;> omega
theorem cmpZ_neg {x y : Int} : cmpZ x y < 0 ↔ x < y := by unfold cmpZ; split <;> (try split) <;> omega
/-- The first difference's sign. -/
def cmpL : List Int → List Int → Int
 | x :: L, y :: M => if cmpZ x y ≠ 0 then cmpZ x y else cmpL L M
 | _, _ => 0
theorem cmpL_at : ∀ {L M : List Int} {i : Nat}, i < L.length → i < M.length → (∀ j, j < i → L[j]! = M[j]!) → cmpZ L[i]! M[i]! ≠ 0 → cmpL L M = cmpZ L[i]! M[i]!
 | x :: L, y :: M, 0, _, _, _, h => by simp only [List.getElem!_cons_zero] at h ⊢; unfold cmpL; rw [if_pos h]
 | x :: L, y :: M, i + 1, h1, h2, hj, h => by
  have e : x = y := by have := hj 0 (by omega); simpa using this
  unfold cmpL
  rw [if_neg (by simp [cmpZ_zero.2 e])]
  simp only [List.getElem!_cons_succ] at h ⊢
  exact cmpL_at (by simpa using h1) (by simpa using h2) (fun j hj' => by have := hj (j + 1) (by omega); simpa using this) h
 | [], _, _, h1, _, _, _ => by simp at h1
 | _ :: _, [], _, _, h2, _, _ => by simp at h2
theorem cmpL_same : ∀ {L M : List Int}, L.length = M.length → (∀ j, j < L.length → L[j]! = M[j]!) → cmpL L M = 0
 | [], [], _, _ => rfl
 | x :: L, y :: M, h, hj => by
  have e : x = y := by have := hj 0 (by simp); simpa using this
  unfold cmpL
  rw [if_neg (by simp [cmpZ_zero.2 e])]
  exact cmpL_same (by simpa using h) (fun j hj' => by have := hj (j + 1) (by simpa using hj'); simpa using this)
 | [], _ :: _, h, _ => by simp at h
 | _ :: _, [], h, _ => by simp at h
/-- The first that isn't 0. -/
def orZ (x y : Int) : Int := if x ≠ 0 then x else y
theorem eq_of {L M : List Int} (h : L.length = M.length) (hj : ∀ j, j < L.length → L[j]! = M[j]!) : L = M := List.ext_getElem h (fun i h1 h2 => by have := hj i h1; rwa [getElem!_pos L i h1, getElem!_pos M i h2] at this)
set_option maxHeartbeats 2000000 in
theorem equal_ints (L M : List Int) (p q : Option Addr) (m n c d : Nat) (w : World) (hm : L.length = m) (hn : M.length = n) (hL : Reads w p (flat enc1 L)) (hM : Reads w q (flat enc1 M)) (h1 : m ≤ 140737488355328) (h2 : n ≤ 140737488355328) :
  Calls Try.prog 34 #[.slice p m c, .slice q n d] w fun e w' => e = .returned (.bool (decide (L = M))) ∧ Below w.heap.size w w' := by
 refine calls_sx Try.func34 rfl ?_
 simp only [Try.ntmps34, List.size_toArray, List.length_cons, List.length_nil, Nat.reduceAdd, Nat.reduceSub, Array.replicate_succ, Array.replicate_zero, List.push_toArray, List.append_toArray, List.nil_append, List.cons_append]
 refine wc_seq ?_
 refine wc_region ?_
 refine wl_val (.bool false) rfl (fun _ => rfl) ?_
 simp only [Act.put, Xa, Xz, Xs]
 refine wl_nil ?_
 refine we_then ?_
 refine wc_seq ?_
 refine wc_seq ?_
 refine wc_region ?_
 refine wl_val (.slice p m c) rfl (fun _ => rfl) ?_
 simp only [Act.put, Xa, Xz, Xs]
 refine wl_val (.int .i64 (m : Int)) rfl (fun w => er_len rfl rfl Try.underlying63 w) ?_
 simp only [Act.put, Xa, Xz, Xs]
 refine wl_val (.slice q n d) rfl (fun _ => rfl) ?_
 simp only [Act.put, Xa, Xz, Xs]
 refine wl_val (.int .i64 (n : Int)) rfl (fun w => er_len rfl rfl Try.underlying63 w) ?_
 simp only [Act.put, Xa, Xz, Xs]
 refine wl_val (.bool ((m : Int) != (n : Int))) rfl (fun w => run_cmp rfl rfl rfl Try.underlying3 rfl w) ?_
 simp only [Act.put, Xa, Xz, Xs]
 refine wl_nil ?_
 refine we_then ?_
 cases h1 : ((m : Int) != (n : Int))
 ·
  skip
  have p1 : ¬ ((m : Int) ≠ (n : Int)) := by first | (simp; done) | (simp at h1; done) | simpa using h1
  refine wc_false rfl ?_
  refine wc_skip ?_
  refine we_then ?_
  refine wc_seq ?_
  refine wc_seq ?_
  refine wc_region ?_
  refine wl_val (.slice p m c) rfl (fun _ => rfl) ?_
  simp only [Act.put, Xa, Xz, Xs]
  refine wl_val (.int .i64 (m : Int)) rfl (fun w => er_len rfl rfl Try.underlying63 w) ?_
  simp only [Act.put, Xa, Xz, Xs]
  refine wl_val (.int .i64 0) rfl (fun _ => rfl) ?_
  simp only [Act.put, Xa, Xz, Xs]
  refine wl_nil ?_
  refine we_then ?_
  refine wc_block ?_
  refine wc_loop (fun (zz : Nat × Value × Value × Value × Value × Value × Value × Value × Value × Value × Value × Value × Value × Value × Value) => match zz with | ⟨i, u4, u5, u14, u15, u16, u17, u18, u19, u20, u21, u22, u23, u24, u25⟩ => ({ tmps := #[.slice p m c, .slice q n d, undef, undef, u4, u5, .slice p m c, .int .i64 (m : Int), .slice q n d, .int .i64 (n : Int), .bool false, .slice p m c, .int .i64 (m : Int), .int .i64 (i : Int), u14, u15, u16, u17, u18, u19, u20, u21, u22, u23, u24, u25], defers := [] } : Act)) (fun (zz : Nat × Value × Value × Value × Value × Value × Value × Value × Value × Value × Value × Value × Value × Value × Value) => match zz with | ⟨i, u4, u5, u14, u15, u16, u17, u18, u19, u20, u21, u22, u23, u24, u25⟩ => []) (fun (zz : Nat × Value × Value × Value × Value × Value × Value × Value × Value × Value × Value × Value × Value × Value × Value) => match zz with | ⟨i, u4, u5, u14, u15, u16, u17, u18, u19, u20, u21, u22, u23, u24, u25⟩ => i ≤ m ∧ ∀ j, j < i → L[j]! = M[j]!) (fun (zz : Nat × Value × Value × Value × Value × Value × Value × Value × Value × Value × Value × Value × Value × Value × Value) => match zz with | ⟨i, u4, u5, u14, u15, u16, u17, u18, u19, u20, u21, u22, u23, u24, u25⟩ => m - i) ⟨0, _, _, _, _, _, _, _, _, _, _, _, _, _, _⟩ ⟨Nat.zero_le _, fun j hj => absurd hj (Nat.not_lt_zero j)⟩ rfl List.Sublist.slnil ?_
  rintro ⟨i, u4, u5, u14, u15, u16, u17, u18, u19, u20, u21, u22, u23, u24, u25⟩ hφ
  (try dsimp only at hφ ⊢)
  obtain ⟨b1, b2⟩ := hφ
  refine wc_seq ?_
  refine wc_region ?_
  refine wl_val (.bool (decide ((i : Int) < (m : Int)))) rfl (fun w => run_cmp rfl rfl rfl Try.underlying3 rfl w) ?_
  simp only [Act.put, Xa, Xz, Xs]
  refine wl_nil ?_
  refine we_then ?_
  refine wc_seq ?_
  cases h2 : (decide ((i : Int) < (m : Int)))
  ·
   skip
   have p2 : ¬ ((i : Int) < (m : Int)) := of_decide_eq_false h2
   refine wc_false rfl ?_
   refine wc_exit ?_
   refine we_then_exit ?_
   refine we_then_exit ?_
   refine we_in_here ?_
   refine we_then ?_
   refine wc_seq ?_
   refine wc_region ?_
   refine wl_val (.bool true) rfl (fun _ => rfl) ?_
   simp only [Act.put, Xa, Xz, Xs]
   refine wl_nil ?_
   refine we_then ?_
   refine wc_ret ?_
   refine we_ret1 (.bool true) rfl rfl rfl (fun w1 hE => ?_)
   rw [decide_eq_true (eq_of (L := L) (M := M) (by omega) (fun j hj => b2 j (by omega)))]
   exact ⟨rfl, hE.below⟩
  ·
   skip
   have p2 : (i : Int) < (m : Int) := of_decide_eq_true h2
   refine wc_true rfl ?_
   refine wc_skip ?_
   refine we_then ?_
   refine wc_seq ?_
   refine wc_block ?_
   refine wc_seq ?_
   refine wc_region ?_
   refine wl_val (.int .i64 (i : Int)) rfl (fun _ => rfl) ?_
   simp only [Act.put, Xa, Xz, Xs]
   refine wl_val (.int .i64 (i : Int)) rfl (fun _ => rfl) ?_
   simp only [Act.put, Xa, Xz, Xs]
   refine wl_nil ?_
   refine we_then ?_
   refine wc_seq ?_
   refine wc_draw [.late, .late, .plain, .plain, .late, .late, .plain, .plain, .late] none [] 26 (by kernel_rfl) rfl (by kernel_rfl) (by kernel_rfl) ?_
   refine ws_late (.slice p m c) rfl rfl (fun _ => rfl) ?_
   simp only [Nat.reduceAdd, Act.put, Xa, Xz, Xs]
   refine ws_late (.int .i64 (i : Int)) rfl rfl (fun _ => rfl) ?_
   simp only [Nat.reduceAdd, Act.put, Xa, Xz, Xs]
   refine ws_read (eaddr p (i * 1)) rfl rfl (er_index i 1 (sl_old hL) rfl rfl rfl rfl (by omega) (flat_lenn (enc := enc1) (size := 1) (fun _ => rfl) hm) (by decide) Try.underlying63 (by kernel_rfl)) ?_
   simp only [Nat.reduceAdd, Act.put, Xa, Xz, Xs]
   refine ws_read (.int .i64 (L[i]!)) rfl rfl (er_cell (i * 1) (.int .i64 (L[i]!)) (sl_old hL) rfl rfl (flat_cell (enc := enc1) (fun _ => rfl) L i 0 (by omega) (by decide)) Try.isAgg3) ?_
   simp only [Nat.reduceAdd, Act.put, Xa, Xz, Xs]
   refine ws_late (.slice q n d) rfl rfl (fun _ => rfl) ?_
   simp only [Nat.reduceAdd, Act.put, Xa, Xz, Xs]
   refine ws_late (.int .i64 (i : Int)) rfl rfl (fun _ => rfl) ?_
   simp only [Nat.reduceAdd, Act.put, Xa, Xz, Xs]
   refine ws_read (eaddr q (i * 1)) rfl rfl (er_index i 1 (sl_old hM) rfl rfl rfl rfl (by omega) (flat_lenn (enc := enc1) (size := 1) (fun _ => rfl) hn) (by decide) Try.underlying63 (by kernel_rfl)) ?_
   simp only [Nat.reduceAdd, Act.put, Xa, Xz, Xs]
   refine ws_read (.int .i64 (M[i]!)) rfl rfl (er_cell (i * 1) (.int .i64 (M[i]!)) (sl_old hM) rfl rfl (flat_cell (enc := enc1) (fun _ => rfl) M i 0 (by omega) (by decide)) Try.isAgg3) ?_
   simp only [Nat.reduceAdd, Act.put, Xa, Xz, Xs]
   refine ws_late (.bool ((L[i]!) != (M[i]!))) rfl rfl (fun w => run_cmp rfl rfl rfl Try.underlying3 rfl w) ?_
   simp only [Nat.reduceAdd, Act.put, Xa, Xz, Xs]
   refine ws_nil [] trivial (by simp) ?_
   intro ps3
   simp only [fin, List.foldl_nil, List.map, List.nil_append]
   refine we_then ?_
   cases h4 : ((L[i]!) != (M[i]!))
   ·
    skip
    have p4 : ¬ ((L[i]!) ≠ (M[i]!)) := by first | (simp; done) | (simp at h4; done) | simpa using h4
    refine wc_false rfl ?_
    refine wc_skip ?_
    refine we_in ?_
    refine we_then ?_
    refine wc_region ?_
    refine wl_val (.int .i64 ((i + 1 : Nat) : Int)) rfl (fun w => run_nat (X := i) (Y := 1) (Z := i + 1) rfl rfl rfl rfl (by omega) w) ?_
    simp only [Act.put, Xa, Xz, Xs]
    refine wl_val (.int .i64 ((i + 1 : Nat) : Int)) rfl (fun _ => rfl) ?_
    simp only [Act.put, Xa, Xz, Xs]
    refine wl_nil ?_
    exact we_meet ⟨(i + 1), _, _, _, _, _, _, _, _, _, _, _, _, _, _⟩ ⟨⟨by (try dsimp only); omega, fun j hj => by rcases Nat.lt_or_eq_of_le (Nat.le_of_lt_succ hj) with h | h; exact b2 j h; subst h; omega⟩, by (try dsimp only); omega⟩ rfl List.Sublist.slnil
   ·
    skip
    have p4 : (L[i]!) ≠ (M[i]!) := by first | (simp; done) | (simp at h4; done) | simpa using h4
    refine wc_true rfl ?_
    refine wc_seq ?_
    refine wc_region ?_
    refine wl_val (.bool false) rfl (fun _ => rfl) ?_
    simp only [Act.put, Xa, Xz, Xs]
    refine wl_nil ?_
    refine we_then ?_
    refine wc_ret ?_
    refine we_in_ret ?_
    refine we_then_ret ?_
    refine we_then_ret ?_
    refine we_in_ret ?_
    refine we_then_ret ?_
    refine we_ret1 (.bool false) rfl rfl rfl (fun w1 hE => ?_)
    rw [decide_eq_false (fun k : L = M => by subst k; omega)]
    exact ⟨rfl, hE.below⟩
 ·
  skip
  have p1 : (m : Int) ≠ (n : Int) := by first | (simp; done) | (simp at h1; done) | simpa using h1
  refine wc_true rfl ?_
  refine wc_seq ?_
  refine wc_region ?_
  refine wl_val (.bool false) rfl (fun _ => rfl) ?_
  simp only [Act.put, Xa, Xz, Xs]
  refine wl_nil ?_
  refine we_then ?_
  refine wc_ret ?_
  refine we_then_ret ?_
  refine we_ret1 (.bool false) rfl rfl rfl (fun w1 hE => ?_)
  rw [decide_eq_false (fun k : L = M => by subst k; omega)]
  exact ⟨rfl, hE.below⟩
set_option maxHeartbeats 2000000 in
theorem clone_some (L : List Int) (q : Addr) (n c : Nat) (w : World) (hL : Reads w (some q) (flat enc1 L)) (hn : L.length = n) (hl : n ≤ 1000000) :
  Calls Try.prog 42 #[.slice (some q) n c] w fun e w' => ∃ s : Own, s.Has 1 n (flat enc1 L) ∧ e = .returned (s.val n) ∧ Env w w' (s.rows 3) := by
 refine calls_sx Try.func42 rfl ?_
 simp only [Try.ntmps42, List.size_toArray, List.length_cons, List.length_nil, Nat.reduceAdd, Nat.reduceSub, Array.replicate_succ, Array.replicate_zero, List.push_toArray, List.append_toArray, List.nil_append, List.cons_append]
 refine wc_seq ?_
 refine wc_region ?_
 refine wl_val (.slice none 0 0) rfl (fun _ => rfl) ?_
 simp only [Act.put, Xa, Xz, Xs]
 refine wl_nil ?_
 refine we_then ?_
 refine wc_seq ?_
 refine wc_seq ?_
 refine wc_region ?_
 refine wl_val (.slice (some q) n c) rfl (fun _ => rfl) ?_
 simp only [Act.put, Xa, Xz, Xs]
 refine wl_val (.bool false) rfl (fun w => er_nil (b := false) rfl rfl rfl (fun _ => by go_simp) Try.underlying63 rfl w) ?_
 simp only [Act.put, Xa, Xz, Xs]
 refine wl_nil ?_
 refine we_then ?_
 refine wc_false rfl ?_
 refine wc_skip ?_
 refine we_then ?_
 refine wc_seq ?_
 refine wc_region ?_
 refine wl_lit (e := 3) #[] 0 rfl (fun _ => by go_simp) ?_
 intro g1
 simp only [Act.put, Xa, Xz, Xs]
 refine wl_val (.slice (some q) n c) rfl (fun _ => rfl) ?_
 simp only [Act.put, Xa, Xz, Xs]
 refine wl_append (e := 3) (size := 1) (bytes := 8) (m := n) [] [] (Own.row g1 0 #[]) (ys := flat enc1 L) rfl (Own.has_lit g1 0 1 #[] (by decide) rfl) (sl_old hL) (flat_lenn (enc := enc1) (size := 1) (fun _ => rfl) hn) (flat_one enc1_one _) rfl rfl rfl rfl Try.underlying63 (by unfold Elem; kernel_rfl) (by decide) (by unfold maxLen; omega) (by omega) ?_
 intro s2 hs2
 simp only [List.nil_append, Act.put, Xa, Xz, Xs]
 refine wl_val (.slice s2.ptr (0 + n) s2.cap) rfl (fun _ => rfl) ?_
 simp only [Act.put, Xa, Xz, Xs]
 refine wl_nil ?_
 refine we_then ?_
 refine wc_ret ?_
 refine we_ret1 (.slice s2.ptr (0 + n) s2.cap) rfl rfl rfl (fun w1 hE => ?_)
 exact ⟨s2, by simpa using hs2, by rw [Nat.zero_add], Env.tail hE (List.Sublist.append_left List.Sublist.slnil _)⟩
theorem rt_part {r : Ro} (h : r.length ≤ 12) : ∀ j u, (flat enc1 r)[j]? = some u → (#[.int .i64 (r.length : Int), .int .i64 (pad r 0), .int .i64 (pad r 1), .int .i64 (pad r 2), .int .i64 (pad r 3), .int .i64 (pad r 4), .int .i64 (pad r 5), .int .i64 (pad r 6), .int .i64 (pad r 7), .int .i64 (pad r 8), .int .i64 (pad r 9), .int .i64 (pad r 10), .int .i64 (pad r 11)])[1 + j]? = some u := by
 intro j u hj
 have hl : j < r.length := by have := (List.getElem?_eq_some_iff.1 hj).1; rwa [flat_length (enc := enc1) (size := 1) (fun _ => rfl), Nat.mul_one] at this
 have := flat_cell (enc := enc1) (size := 1) (fun _ => rfl) r j 0 hl (by decide)
 rw [Nat.mul_one, Nat.add_zero] at this
 rw [this] at hj
 cases hj
 have e := rt_cell (r := r) (k := j) (by omega)
 rw [pad_in hl] at e
 exact e
set_option maxHeartbeats 2000000 in
theorem path_own (r : Ro) (w : World) (h2 : r.length ≤ 12) :
  Calls Try.prog 26 #[.agg #[.int .i64 (r.length : Int), .int .i64 (pad r 0), .int .i64 (pad r 1), .int .i64 (pad r 2), .int .i64 (pad r 3), .int .i64 (pad r 4), .int .i64 (pad r 5), .int .i64 (pad r 6), .int .i64 (pad r 7), .int .i64 (pad r 8), .int .i64 (pad r 9), .int .i64 (pad r 10), .int .i64 (pad r 11)]] w fun e w' => ∃ s : Own, s.Has 1 r.length (flat enc1 r) ∧ e = .returned (s.val r.length) ∧ Env w w' (s.rows 3) := by
 refine calls_sx Try.func26 rfl ?_
 simp only [Try.ntmps26, List.size_toArray, List.length_cons, List.length_nil, Nat.reduceAdd, Nat.reduceSub, Array.replicate_succ, Array.replicate_zero, List.push_toArray, List.append_toArray, List.nil_append, List.cons_append]
 refine wc_seq ?_
 refine wc_region ?_
 refine wl_new 92 (#[.int .i64 (r.length : Int), .int .i64 (pad r 0), .int .i64 (pad r 1), .int .i64 (pad r 2), .int .i64 (pad r 3), .int .i64 (pad r 4), .int .i64 (pad r 5), .int .i64 (pad r 6), .int .i64 (pad r 7), .int .i64 (pad r 8), .int .i64 (pad r 9), .int .i64 (pad r 10), .int .i64 (pad r 11)]) rfl (fun _ => by go_simp) ?_
 intro g1
 simp only [Act.put, Xa, Xz, Xs]
 refine wl_val (.slice none 0 0) rfl (fun _ => rfl) ?_
 simp only [Act.put, Xa, Xz, Xs]
 refine wl_nil ?_
 refine we_then ?_
 refine wc_seq ?_
 refine wc_region ?_
 refine wl_val (.pointer (some ⟨g1, 1, none⟩)) rfl (fun _ => by go_simp) ?_
 simp only [Act.put, Xa, Xz, Xs]
 refine wl_val (.pointer (some ⟨g1, 0, none⟩)) rfl (fun _ => by go_simp) ?_
 simp only [Act.put, Xa, Xz, Xs]
 refine wl_cell 3 (.tmp 4) (.int .i64 (r.length : Int)) (own_row 0 rfl) rfl rfl rfl rfl Try.isAgg3 ?_
 simp only [Act.put, Xa, Xz, Xs]
 refine wl_val (.int .i64 (r.length : Int)) rfl (fun w => run_max2 (Z := (r.length : Int)) rfl rfl rfl (by omega) w) ?_
 simp only [Act.put, Xa, Xz, Xs]
 refine wl_val (.int .i64 (r.length : Int)) rfl (fun w => run_min2 (Z := (r.length : Int)) rfl rfl rfl (by omega) w) ?_
 simp only [Act.put, Xa, Xz, Xs]
 refine wl_val (.slice (some ⟨g1, 1, none⟩) r.length 12) rfl (fun w => er_arrslice (h := r.length) (z := 1) rfl rfl rfl rfl h2 Try.underlying90 (by kernel_rfl) w) ?_
 simp only [Act.put, Xa, Xz, Xs]
 refine wl_call_own (ι := Own) (e := 3) [⟨g1, #[.int .i64 (r.length : Int), .int .i64 (pad r 0), .int .i64 (pad r 1), .int .i64 (pad r 2), .int .i64 (pad r 3), .int .i64 (pad r 4), .int .i64 (pad r 5), .int .i64 (pad r 6), .int .i64 (pad r 7), .int .i64 (pad r 8), .int .i64 (pad r 9), .int .i64 (pad r 10), .int .i64 (pad r 11)], 92⟩] [] 42 #[.slice (some ⟨g1, 1, none⟩) r.length 12] (fun s => s.val r.length) (fun s => s) (fun s => s.Has 1 r.length (flat enc1 r)) rfl rfl (fun _ => by go_simp) (fun W hE => clone_some r _ r.length 12 W ((sl_rowpart 0 1 (t := 92) rfl (rt_part h2)) W hE) rfl (by omega)) ?_
 rintro s2 hs2
 simp only [List.cons_append, List.nil_append, Act.put, Xa, Xz, Xs]
 refine wl_val (.slice s2.ptr r.length s2.cap) rfl (fun _ => rfl) ?_
 simp only [Act.put, Xa, Xz, Xs]
 refine wl_nil ?_
 refine we_then ?_
 refine wc_ret ?_
 refine we_ret1 (.slice s2.ptr r.length s2.cap) rfl rfl rfl (fun w1 hE => ?_)
 exact ⟨s2, hs2, rfl, Env.tail hE (List.Sublist.cons _ (List.Sublist.append_left List.Sublist.slnil _))⟩
set_option maxHeartbeats 2000000 in
theorem at_any (G : List Sg) (H : List Gp) (p q : Option Addr) (c d : Nat) (x : Int) (w : World) (hS : Reads w p (flat sg G)) (hG : OkS w G) (hn : G.length ≤ 140737488355328) (h0 : 0 ≤ x) (h1 : x < G.length) :
  Calls Try.prog 52 #[.agg #[.slice p G.length c, .slice q H.length d], .int .i64 x] w fun e w' => e = .returned (.agg #[.int .i64 (G[x.toNat]!).len, .slice (G[x.toNat]!).pp (G[x.toNat]!).P.length (G[x.toNat]!).pc, .slice (G[x.toNat]!).np (G[x.toNat]!).X.length (G[x.toNat]!).nc]) ∧ Below w.heap.size w w' := by
 refine calls_sx Try.func52 rfl ?_
 simp only [Try.ntmps52, List.size_toArray, List.length_cons, List.length_nil, Nat.reduceAdd, Nat.reduceSub, Array.replicate_succ, Array.replicate_zero, List.push_toArray, List.append_toArray, List.nil_append, List.cons_append]
 refine wc_seq ?_
 refine wc_region ?_
 refine wl_new 27 (#[.slice p G.length c, .slice q H.length d]) rfl (fun _ => by go_simp) ?_
 intro g1
 simp only [Act.put, Xa, Xz, Xs]
 refine wl_new 66 (#[.int .i64 0, .slice none 0 0, .slice none 0 0]) rfl (fun _ => by go_simp) ?_
 intro g2
 simp only [Act.put, Xa, Xz, Xs]
 refine wl_nil ?_
 refine we_then ?_
 refine wc_seq ?_
 refine wc_seq ?_
 refine wc_region ?_
 refine wl_val (.int .i64 x) rfl (fun _ => rfl) ?_
 simp only [Act.put, Xa, Xz, Xs]
 refine wl_val (.bool (decide (x < 0))) rfl (fun w => run_cmp rfl rfl rfl Try.underlying3 rfl w) ?_
 simp only [Act.put, Xa, Xz, Xs]
 refine wl_val (.bool (decide (x < 0))) rfl (fun _ => rfl) ?_
 simp only [Act.put, Xa, Xz, Xs]
 cases h3 : (decide (x < 0))
 ·
  skip
  have p3 : ¬ (x < 0) := of_decide_eq_false h3
  refine wl_val (.int .i64 x) rfl (fun _ => rfl) ?_
  simp only [Act.put, Xa, Xz, Xs]
  refine wl_val (.pointer (some ⟨g1, 0, none⟩)) rfl (fun _ => by go_simp) ?_
  simp only [Act.put, Xa, Xz, Xs]
  refine wl_cell 24 (.tmp 9) (.slice p G.length c) (own_row 1 rfl) rfl rfl rfl rfl Try.isAgg24 ?_
  simp only [Act.put, Xa, Xz, Xs]
  refine wl_val (.int .i64 (G.length : Int)) rfl (fun w => er_len rfl rfl Try.underlying24 w) ?_
  simp only [Act.put, Xa, Xz, Xs]
  refine wl_val (.bool (decide ((G.length : Int) ≤ x))) rfl (fun w => run_cmp rfl rfl rfl Try.underlying3 rfl w) ?_
  simp only [Act.put, Xa, Xz, Xs]
  refine wl_val (.bool (decide ((G.length : Int) ≤ x))) rfl (fun _ => rfl) ?_
  simp only [Act.put, Xa, Xz, Xs]
  refine wl_nil ?_
  refine we_then ?_
  cases h4 : (decide ((G.length : Int) ≤ x))
  ·
   skip
   have p4 : ¬ ((G.length : Int) ≤ x) := of_decide_eq_false h4
   refine wc_false rfl ?_
   refine wc_skip ?_
   refine we_then ?_
   refine wc_seq ?_
   refine wc_region ?_
   refine wl_val (.pointer (some ⟨g1, 0, none⟩)) rfl (fun _ => by go_simp) ?_
   simp only [Act.put, Xa, Xz, Xs]
   refine wl_cell 24 (.tmp 15) (.slice p G.length c) (own_row 1 rfl) rfl rfl rfl rfl Try.isAgg24 ?_
   simp only [Act.put, Xa, Xz, Xs]
   refine wl_val (.int .i64 x) rfl (fun _ => rfl) ?_
   simp only [Act.put, Xa, Xz, Xs]
   refine wl_read (eaddr p ((x.toNat) * 3)) rfl (er_index (x.toNat) 3 (sl_old hS) rfl rfl rfl (by omega) (by omega) (flat_length (enc := sg) (size := 3) (fun _ => rfl) _) (by decide) Try.underlying24 (by kernel_rfl)) ?_
   simp only [Act.put, Xa, Xz, Xs]
   refine wl_read (.agg #[.int .i64 ((G[x.toNat]!).len), .slice ((G[x.toNat]!).pp) ((G[x.toNat]!).P.length) ((G[x.toNat]!).pc), .slice ((G[x.toNat]!).np) ((G[x.toNat]!).X.length) ((G[x.toNat]!).nc)]) rfl (er_part ((x.toNat) * 3) [.int .i64 ((G[x.toNat]!).len), .slice ((G[x.toNat]!).pp) ((G[x.toNat]!).P.length) ((G[x.toNat]!).pc), .slice ((G[x.toNat]!).np) ((G[x.toNat]!).X.length) ((G[x.toNat]!).nc)] (sl_old hS) rfl rfl (flat_part (enc := sg) (fun _ => rfl) G (x.toNat) (by omega)) (Nat.zero_lt_succ _) Try.underlying66 rfl (by kernel_rfl)) ?_
   simp only [Act.put, Xa, Xz, Xs]
   refine wl_store 0 66 (.tmp 4) (.tmp 19) (#[.int .i64 ((G[x.toNat]!).len), .slice ((G[x.toNat]!).pp) ((G[x.toNat]!).P.length) ((G[x.toNat]!).pc), .slice ((G[x.toNat]!).np) ((G[x.toNat]!).X.length) ((G[x.toNat]!).nc)]) rfl rfl rfl rfl rfl (by kernel_rfl) rfl (by simp [Value.oneCell']) ?_
   simp only [Act.put, List.set_cons_zero]
   refine wl_nil ?_
   refine we_then ?_
   refine wc_ret ?_
   refine we_ret_cell (own_row 0 rfl) rfl rfl rfl Try.underlying66 rfl (by kernel_rfl) (fun w1 hE => ?_)
   exact ⟨rfl, hE.below⟩
  ·
   skip
   have p4 : (G.length : Int) ≤ x := of_decide_eq_true h4
   refine wc_true rfl ?_
   refine wc_seq ?_
   refine wc_region ?_
   refine wl_val (.agg #[.int .i64 0, .slice none 0 0, .slice none 0 0]) rfl (fun _ => by go_simp) ?_
   simp only [Act.put, Xa, Xz, Xs]
   refine wl_store 0 66 (.tmp 4) (.tmp 14) (#[.int .i64 0, .slice none 0 0, .slice none 0 0]) rfl rfl rfl rfl rfl (by kernel_rfl) rfl (by simp [Value.oneCell']) ?_
   simp only [Act.put, List.set_cons_zero]
   refine wl_nil ?_
   refine we_then ?_
   refine wc_ret ?_
   refine we_then_ret ?_
   refine we_ret_cell (own_row 0 rfl) rfl rfl rfl Try.underlying66 rfl (by kernel_rfl) (fun w1 hE => ?_)
   exact (by exfalso; omega)
 ·
  skip
  have p3 : x < 0 := of_decide_eq_true h3
  exact (by exfalso; omega)
theorem pad_snoc {r : Ro} {n : Int} {i : Nat} : pad (r ++ [n]) i = if i = r.length then n else pad r i := by
 unfold pad
 rw [List.length_append, List.length_singleton]
 by_cases h : i < r.length
 ·
  rw [if_pos (by omega), if_neg (by omega), if_pos h, get_app h]
 ·
  by_cases e : i = r.length
  ·
   subst e; rw [if_pos (by omega), if_pos rfl, get_end]
  ·
   rw [if_neg (by omega), if_neg e, if_neg h]
theorem rt_put {r : Ro} (h1 : r.length < 12) (n : Int) : (#[.int .i64 (r.length : Int), .int .i64 (pad r 0), .int .i64 (pad r 1), .int .i64 (pad r 2), .int .i64 (pad r 3), .int .i64 (pad r 4), .int .i64 (pad r 5), .int .i64 (pad r 6), .int .i64 (pad r 7), .int .i64 (pad r 8), .int .i64 (pad r 9), .int .i64 (pad r 10), .int .i64 (pad r 11)] : Array Value).setIfInBounds (1 + r.length) (.int .i64 n) = #[.int .i64 (r.length : Int), .int .i64 (pad (r ++ [n]) 0), .int .i64 (pad (r ++ [n]) 1), .int .i64 (pad (r ++ [n]) 2), .int .i64 (pad (r ++ [n]) 3), .int .i64 (pad (r ++ [n]) 4), .int .i64 (pad (r ++ [n]) 5), .int .i64 (pad (r ++ [n]) 6), .int .i64 (pad (r ++ [n]) 7), .int .i64 (pad (r ++ [n]) 8), .int .i64 (pad (r ++ [n]) 9), .int .i64 (pad (r ++ [n]) 10), .int .i64 (pad (r ++ [n]) 11)] := by
 simp only [pad_snoc]
 rcases (show r.length = 0 ∨ r.length = 1 ∨ r.length = 2 ∨ r.length = 3 ∨ r.length = 4 ∨ r.length = 5 ∨ r.length = 6 ∨ r.length = 7 ∨ r.length = 8 ∨ r.length = 9 ∨ r.length = 10 ∨ r.length = 11 by omega) with e | e | e | e | e | e | e | e | e | e | e | e <;> rw [e] <;> rfl
set_option maxHeartbeats 2000000 in
theorem snoc_any (r : Ro) (n : Int) (w : World) (h1 : r.length < 12) :
  Calls Try.prog 41 #[.agg #[.int .i64 (r.length : Int), .int .i64 (pad r 0), .int .i64 (pad r 1), .int .i64 (pad r 2), .int .i64 (pad r 3), .int .i64 (pad r 4), .int .i64 (pad r 5), .int .i64 (pad r 6), .int .i64 (pad r 7), .int .i64 (pad r 8), .int .i64 (pad r 9), .int .i64 (pad r 10), .int .i64 (pad r 11)], .int .i64 n] w fun e w' => e = .returned (.agg #[.int .i64 (((r ++ [n]).length : Nat) : Int), .int .i64 (pad (r ++ [n]) 0), .int .i64 (pad (r ++ [n]) 1), .int .i64 (pad (r ++ [n]) 2), .int .i64 (pad (r ++ [n]) 3), .int .i64 (pad (r ++ [n]) 4), .int .i64 (pad (r ++ [n]) 5), .int .i64 (pad (r ++ [n]) 6), .int .i64 (pad (r ++ [n]) 7), .int .i64 (pad (r ++ [n]) 8), .int .i64 (pad (r ++ [n]) 9), .int .i64 (pad (r ++ [n]) 10), .int .i64 (pad (r ++ [n]) 11)]) ∧ Below w.heap.size w w' := by
 refine calls_sx Try.func41 rfl ?_
 simp only [Try.ntmps41, List.size_toArray, List.length_cons, List.length_nil, Nat.reduceAdd, Nat.reduceSub, Array.replicate_succ, Array.replicate_zero, List.push_toArray, List.append_toArray, List.nil_append, List.cons_append]
 refine wc_seq ?_
 refine wc_region ?_
 refine wl_new 92 (#[.int .i64 (r.length : Int), .int .i64 (pad r 0), .int .i64 (pad r 1), .int .i64 (pad r 2), .int .i64 (pad r 3), .int .i64 (pad r 4), .int .i64 (pad r 5), .int .i64 (pad r 6), .int .i64 (pad r 7), .int .i64 (pad r 8), .int .i64 (pad r 9), .int .i64 (pad r 10), .int .i64 (pad r 11)]) rfl (fun _ => by go_simp) ?_
 intro g1
 simp only [Act.put, Xa, Xz, Xs]
 refine wl_new 92 (#[.int .i64 0, .int .i64 0, .int .i64 0, .int .i64 0, .int .i64 0, .int .i64 0, .int .i64 0, .int .i64 0, .int .i64 0, .int .i64 0, .int .i64 0, .int .i64 0, .int .i64 0]) rfl (fun _ => by go_simp) ?_
 intro g2
 simp only [Act.put, Xa, Xz, Xs]
 refine wl_nil ?_
 refine we_then ?_
 refine wc_seq ?_
 refine wc_region ?_
 refine wl_val (.pointer (some ⟨g1, 0, none⟩)) rfl (fun _ => by go_simp) ?_
 simp only [Act.put, Xa, Xz, Xs]
 refine wl_cell 3 (.tmp 5) (.int .i64 (r.length : Int)) (own_row 1 rfl) rfl rfl rfl rfl Try.isAgg3 ?_
 simp only [Act.put, Xa, Xz, Xs]
 refine wl_val (.int .i64 n) rfl (fun _ => rfl) ?_
 simp only [Act.put, Xa, Xz, Xs]
 refine wl_val (.pointer (some ⟨g1, 1, none⟩)) rfl (fun _ => by go_simp) ?_
 simp only [Act.put, Xa, Xz, Xs]
 refine wl_val (.pointer (some ⟨g1, 1 + r.length, none⟩)) rfl (fun w => er_arr (k := r.length) (m := 1 + r.length) 1 rfl rfl rfl rfl (by omega) (by omega) Try.underlying90 (by kernel_rfl) w) ?_
 simp only [Act.put, Xa, Xz, Xs]
 refine wl_store_cell 1 3 (.tmp 9) (.tmp 7) (.int .i64 (pad r r.length)) (.int .i64 n) rfl rfl rfl rfl rfl (rt_cell (r := r) (k := r.length) (by omega)) (by kernel_rfl) rfl ?_
 simp only [Act.put, List.set_cons_zero, List.set_cons_succ]
 rw [rt_put h1 n]
 refine wl_nil ?_
 refine we_then ?_
 refine wc_seq ?_
 refine wc_region ?_
 refine wl_val (.pointer (some ⟨g1, 0, none⟩)) rfl (fun _ => by go_simp) ?_
 simp only [Act.put, Xa, Xz, Xs]
 refine wl_cell 3 (.tmp 10) (.int .i64 (r.length : Int)) (own_row 1 rfl) rfl rfl rfl rfl Try.isAgg3 ?_
 simp only [Act.put, Xa, Xz, Xs]
 refine wl_val (.int .i64 ((r.length + 1 : Nat) : Int)) rfl (fun w => run_nat (X := r.length) (Y := 1) (Z := r.length + 1) rfl rfl rfl rfl (by omega) w) ?_
 simp only [Act.put, Xa, Xz, Xs]
 refine wl_val (.pointer (some ⟨g1, 0, none⟩)) rfl (fun _ => by go_simp) ?_
 simp only [Act.put, Xa, Xz, Xs]
 refine wl_store_cell 1 3 (.tmp 13) (.tmp 12) (.int .i64 (r.length : Int)) (.int .i64 ((r.length + 1 : Nat) : Int)) rfl rfl rfl rfl rfl rfl (by kernel_rfl) rfl ?_
 simp only [Act.put, List.set_cons_zero, List.set_cons_succ]
 refine wl_nil ?_
 refine we_then ?_
 refine wc_seq ?_
 refine wc_region ?_
 refine wl_load 92 (.tmp 2) (own_row 1 rfl) rfl rfl rfl Try.underlying92 rfl (by kernel_rfl) ?_
 simp only [Act.put, Xa, Xz, Xs]
 refine wl_store 0 92 (.tmp 4) (.tmp 14) (#[.int .i64 ((r.length + 1 : Nat) : Int), .int .i64 (pad (r ++ [n]) 0), .int .i64 (pad (r ++ [n]) 1), .int .i64 (pad (r ++ [n]) 2), .int .i64 (pad (r ++ [n]) 3), .int .i64 (pad (r ++ [n]) 4), .int .i64 (pad (r ++ [n]) 5), .int .i64 (pad (r ++ [n]) 6), .int .i64 (pad (r ++ [n]) 7), .int .i64 (pad (r ++ [n]) 8), .int .i64 (pad (r ++ [n]) 9), .int .i64 (pad (r ++ [n]) 10), .int .i64 (pad (r ++ [n]) 11)]) rfl rfl rfl rfl rfl (by kernel_rfl) rfl (by simp [Value.oneCell']) ?_
 simp only [Act.put, List.set_cons_zero]
 refine wl_nil ?_
 refine we_then ?_
 refine wc_ret ?_
 refine we_ret_cell (own_row 0 rfl) rfl rfl rfl Try.underlying92 rfl (by kernel_rfl) (fun w1 hE => ?_)
 exact ⟨by rw [List.length_append, List.length_singleton], hE.below⟩
set_option maxHeartbeats 2000000 in
theorem begin_any (s0 f : Int) (w : World) :
  Calls Try.prog 24 #[.int .i64 s0, .int .i64 f] w fun e w' => ∃ z : Pz, Held z.N z.p (flat rt [[s0]]) ∧ e = .returned (.agg #[.int .i64 f, .slice z.p 1 z.c]) ∧ Env w w' z.N := by
 refine calls_sx Try.func24 rfl ?_
 simp only [Try.ntmps24, List.size_toArray, List.length_cons, List.length_nil, Nat.reduceAdd, Nat.reduceSub, Array.replicate_succ, Array.replicate_zero, List.push_toArray, List.append_toArray, List.nil_append, List.cons_append]
 refine wc_seq ?_
 refine wc_region ?_
 refine wl_new 36 (#[.int .i64 0, .slice none 0 0]) rfl (fun _ => by go_simp) ?_
 intro g1
 simp only [Act.put, Xa, Xz, Xs]
 refine wl_nil ?_
 refine we_then ?_
 refine wc_seq ?_
 refine wc_region ?_
 refine wl_val (.int .i64 f) rfl (fun _ => rfl) ?_
 simp only [Act.put, Xa, Xz, Xs]
 refine wl_val (.agg #[.int .i64 0, .int .i64 0, .int .i64 0, .int .i64 0, .int .i64 0, .int .i64 0, .int .i64 0, .int .i64 0, .int .i64 0, .int .i64 0, .int .i64 0, .int .i64 0, .int .i64 0]) rfl (fun _ => by go_simp) ?_
 simp only [Act.put, Xa, Xz, Xs]
 refine wl_val (.int .i64 s0) rfl (fun _ => rfl) ?_
 simp only [Act.put, Xa, Xz, Xs]
 refine wl_call 41 #[.agg #[.int .i64 0, .int .i64 0, .int .i64 0, .int .i64 0, .int .i64 0, .int .i64 0, .int .i64 0, .int .i64 0, .int .i64 0, .int .i64 0, .int .i64 0, .int .i64 0, .int .i64 0], .int .i64 s0] (.agg #[.int .i64 (([s0].length : Nat) : Int), .int .i64 (pad ([s0]) 0), .int .i64 (pad ([s0]) 1), .int .i64 (pad ([s0]) 2), .int .i64 (pad ([s0]) 3), .int .i64 (pad ([s0]) 4), .int .i64 (pad ([s0]) 5), .int .i64 (pad ([s0]) 6), .int .i64 (pad ([s0]) 7), .int .i64 (pad ([s0]) 8), .int .i64 (pad ([s0]) 9), .int .i64 (pad ([s0]) 10), .int .i64 (pad ([s0]) 11)]) rfl (fun _ => by go_simp) (fun W => snoc_any [] s0 W (by decide)) ?_
 simp only [Act.put, Xa, Xz, Xs]
 refine wl_lit (e := 92) #[.int .i64 (([s0].length : Nat) : Int), .int .i64 (pad ([s0]) 0), .int .i64 (pad ([s0]) 1), .int .i64 (pad ([s0]) 2), .int .i64 (pad ([s0]) 3), .int .i64 (pad ([s0]) 4), .int .i64 (pad ([s0]) 5), .int .i64 (pad ([s0]) 6), .int .i64 (pad ([s0]) 7), .int .i64 (pad ([s0]) 8), .int .i64 (pad ([s0]) 9), .int .i64 (pad ([s0]) 10), .int .i64 (pad ([s0]) 11)] 1 rfl (fun _ => by go_simp) ?_
 intro g2
 simp only [Act.put, Xa, Xz, Xs]
 refine wl_val (.agg #[.int .i64 f, .slice (some ⟨g2, 0, none⟩) 1 1]) rfl (fun _ => by go_simp) ?_
 simp only [Act.put, Xa, Xz, Xs]
 refine wl_store 1 36 (.tmp 4) (.tmp 10) (#[.int .i64 f, .slice (some ⟨g2, 0, none⟩) 1 1]) rfl rfl rfl rfl rfl (by kernel_rfl) rfl (by simp [Value.oneCell']) ?_
 simp only [Act.put, List.set_cons_zero, List.set_cons_succ]
 refine wl_nil ?_
 refine we_then ?_
 refine wc_ret ?_
 refine we_ret_cell (own_row 1 rfl) rfl rfl rfl Try.underlying36 rfl (by kernel_rfl) (fun w1 hE => ?_)
 exact ⟨⟨some ⟨g2, 0, none⟩, 1, [⟨g2, #[.int .i64 (([s0].length : Nat) : Int), .int .i64 (pad ([s0]) 0), .int .i64 (pad ([s0]) 1), .int .i64 (pad ([s0]) 2), .int .i64 (pad ([s0]) 3), .int .i64 (pad ([s0]) 4), .int .i64 (pad ([s0]) 5), .int .i64 (pad ([s0]) 6), .int .i64 (pad ([s0]) 7), .int .i64 (pad ([s0]) 8), .int .i64 (pad ([s0]) 9), .int .i64 (pad ([s0]) 10), .int .i64 (pad ([s0]) 11)], 92⟩]⟩, fun w9 => sl_row 0 rfl, rfl, hE.sub (List.Sublist.cons_cons _ (List.Sublist.cons _ List.Sublist.slnil))⟩
end Go.Proofs.Ytbacchdkankioaa.Roua
namespace Go.Proofs.Ytbacchdkankioaa.Roub
open Go.ChangeShapes Go.WideShapes Go.ChangeAt Go.RowKit
open Arr Steady Sx Sw Sl Sb Sc Si Sk Sh Smu Sj Vs Gr Tk Tkh Tkl Rt Rtm Rtk Rts Fns Mp Re Roua Sfn
set_option linter.unusedVariables false
set_option linter.unusedSimpArgs false
set_option maxRecDepth 100000

set_option maxHeartbeats 2000000 in
theorem end_in_any (G : List Sg) (H : List Gp) (p q : Option Addr) (c d : Nat) (f : Int) (ps : Option Addr) (nX cs : Nat) (r : Ro) (w : World) (hS : Reads w p (flat sg G)) (hG : OkS w G) (hM : TrackMay G H) (hf : 0 ≤ f ∧ f ≤ 1099511627776) (hr : RtOk G r) :
  Calls Try.prog 53 #[.agg #[.int .i64 f, .slice ps nX cs], .agg #[.slice p G.length c, .slice q H.length d], .agg #[.int .i64 (r.length : Int), .int .i64 (pad r 0), .int .i64 (pad r 1), .int .i64 (pad r 2), .int .i64 (pad r 3), .int .i64 (pad r 4), .int .i64 (pad r 5), .int .i64 (pad r 6), .int .i64 (pad r 7), .int .i64 (pad r 8), .int .i64 (pad r 9), .int .i64 (pad r 10), .int .i64 (pad r 11)]] w fun e w' => e = .returned (.int .i64 (endR G f r)) ∧ Below w.heap.size w w' := by
 have hs1 := hM.sizes.1
 have hs2 := hM.sizes.2.1
 have hr12 := hr.few
 have hr1 := hr.some
 refine calls_sx Try.func53 rfl ?_
 simp only [Try.ntmps53, List.size_toArray, List.length_cons, List.length_nil, Nat.reduceAdd, Nat.reduceSub, Array.replicate_succ, Array.replicate_zero, List.push_toArray, List.append_toArray, List.nil_append, List.cons_append]
 refine wc_seq ?_
 refine wc_region ?_
 refine wl_new 36 (#[.int .i64 f, .slice ps nX cs]) rfl (fun _ => by go_simp) ?_
 intro g1
 simp only [Act.put, Xa, Xz, Xs]
 refine wl_new 27 (#[.slice p G.length c, .slice q H.length d]) rfl (fun _ => by go_simp) ?_
 intro g2
 simp only [Act.put, Xa, Xz, Xs]
 refine wl_new 92 (#[.int .i64 (r.length : Int), .int .i64 (pad r 0), .int .i64 (pad r 1), .int .i64 (pad r 2), .int .i64 (pad r 3), .int .i64 (pad r 4), .int .i64 (pad r 5), .int .i64 (pad r 6), .int .i64 (pad r 7), .int .i64 (pad r 8), .int .i64 (pad r 9), .int .i64 (pad r 10), .int .i64 (pad r 11)]) rfl (fun _ => by go_simp) ?_
 intro g3
 simp only [Act.put, Xa, Xz, Xs]
 refine wl_val (.int .i64 0) rfl (fun _ => rfl) ?_
 simp only [Act.put, Xa, Xz, Xs]
 refine wl_nil ?_
 refine we_then ?_
 refine wc_seq ?_
 refine wc_region ?_
 refine wl_val (.pointer (some ⟨g1, 0, none⟩)) rfl (fun _ => by go_simp) ?_
 simp only [Act.put, Xa, Xz, Xs]
 refine wl_cell 2 (.tmp 10) (.int .i64 f) (own_row 2 rfl) rfl rfl rfl rfl Try.isAgg2 ?_
 simp only [Act.put, Xa, Xz, Xs]
 refine wl_val (.int .i64 (-f)) rfl (fun w => run_neg rfl rfl Try.underlying2 (i64_in (by omega) (by omega)) w) ?_
 simp only [Act.put, Xa, Xz, Xs]
 refine wl_val (.int .i64 (-f)) rfl (fun _ => rfl) ?_
 simp only [Act.put, Xa, Xz, Xs]
 refine wl_nil ?_
 refine we_then ?_
 refine wc_seq ?_
 refine wc_seq ?_
 refine wc_region ?_
 refine wl_load 92 (.tmp 5) (own_row 0 rfl) rfl rfl rfl Try.underlying92 rfl (by kernel_rfl) ?_
 simp only [Act.put, Xa, Xz, Xs]
 refine wl_call_own (ι := Own) (e := 3) [⟨g3, #[.int .i64 (r.length : Int), .int .i64 (pad r 0), .int .i64 (pad r 1), .int .i64 (pad r 2), .int .i64 (pad r 3), .int .i64 (pad r 4), .int .i64 (pad r 5), .int .i64 (pad r 6), .int .i64 (pad r 7), .int .i64 (pad r 8), .int .i64 (pad r 9), .int .i64 (pad r 10), .int .i64 (pad r 11)], 92⟩, ⟨g2, #[.slice p G.length c, .slice q H.length d], 27⟩, ⟨g1, #[.int .i64 f, .slice ps nX cs], 36⟩] [] 26 #[.agg #[.int .i64 (r.length : Int), .int .i64 (pad r 0), .int .i64 (pad r 1), .int .i64 (pad r 2), .int .i64 (pad r 3), .int .i64 (pad r 4), .int .i64 (pad r 5), .int .i64 (pad r 6), .int .i64 (pad r 7), .int .i64 (pad r 8), .int .i64 (pad r 9), .int .i64 (pad r 10), .int .i64 (pad r 11)]] (fun s => s.val r.length) (fun s => s) (fun s => s.Has 1 r.length (flat enc1 r)) rfl rfl (fun _ => by go_simp) (fun W hE => path_own r W hr.few) ?_
 rintro s4 hs4
 simp only [List.cons_append, List.nil_append, Act.put, Xa, Xz, Xs]
 refine wl_val (.int .i64 (r.length : Int)) rfl (fun w => er_len rfl rfl Try.underlying63 w) ?_
 simp only [Act.put, Xa, Xz, Xs]
 refine wl_val (.int .i64 0) rfl (fun _ => rfl) ?_
 simp only [Act.put, Xa, Xz, Xs]
 refine wl_nil ?_
 refine we_then ?_
 refine wc_block ?_
 refine wc_loop (fun (zz : Nat × Int × Value × Value × Value × Value × Value × Value × Value × Value × Value × Value × Value) => match zz with | ⟨i, z, u9, u17, u18, u19, u20, u21, u22, u23, u24, u25, u26⟩ => ({ tmps := #[.agg #[.int .i64 f, .slice ps nX cs], .agg #[.slice p G.length c, .slice q H.length d], .agg #[.int .i64 (r.length : Int), .int .i64 (pad r 0), .int .i64 (pad r 1), .int .i64 (pad r 2), .int .i64 (pad r 3), .int .i64 (pad r 4), .int .i64 (pad r 5), .int .i64 (pad r 6), .int .i64 (pad r 7), .int .i64 (pad r 8), .int .i64 (pad r 9), .int .i64 (pad r 10), .int .i64 (pad r 11)], .pointer (some ⟨g1, 0, none⟩), .pointer (some ⟨g2, 0, none⟩), .pointer (some ⟨g3, 0, none⟩), .int .i64 0, .int .i64 z, undef, u9, .pointer (some ⟨g1, 0, none⟩), .int .i64 f, .int .i64 (-f), .agg #[.int .i64 (r.length : Int), .int .i64 (pad r 0), .int .i64 (pad r 1), .int .i64 (pad r 2), .int .i64 (pad r 3), .int .i64 (pad r 4), .int .i64 (pad r 5), .int .i64 (pad r 6), .int .i64 (pad r 7), .int .i64 (pad r 8), .int .i64 (pad r 9), .int .i64 (pad r 10), .int .i64 (pad r 11)], .slice s4.ptr r.length s4.cap, .int .i64 (r.length : Int), .int .i64 (i : Int), u17, u18, u19, u20, u21, u22, u23, u24, u25, u26, undef], defers := [] } : Act)) (fun (zz : Nat × Int × Value × Value × Value × Value × Value × Value × Value × Value × Value × Value × Value) => match zz with | ⟨i, z, u9, u17, u18, u19, u20, u21, u22, u23, u24, u25, u26⟩ => ⟨g3, #[.int .i64 (r.length : Int), .int .i64 (pad r 0), .int .i64 (pad r 1), .int .i64 (pad r 2), .int .i64 (pad r 3), .int .i64 (pad r 4), .int .i64 (pad r 5), .int .i64 (pad r 6), .int .i64 (pad r 7), .int .i64 (pad r 8), .int .i64 (pad r 9), .int .i64 (pad r 10), .int .i64 (pad r 11)], 92⟩ :: ⟨g2, #[.slice p G.length c, .slice q H.length d], 27⟩ :: ⟨g1, #[.int .i64 f, .slice ps nX cs], 36⟩ :: (s4.rows 3 ++ [])) (fun (zz : Nat × Int × Value × Value × Value × Value × Value × Value × Value × Value × Value × Value × Value) => match zz with | ⟨i, z, u9, u17, u18, u19, u20, u21, u22, u23, u24, u25, u26⟩ => i ≤ r.length ∧ z = endR G f (r.take i)) (fun (zz : Nat × Int × Value × Value × Value × Value × Value × Value × Value × Value × Value × Value × Value) => match zz with | ⟨i, z, u9, u17, u18, u19, u20, u21, u22, u23, u24, u25, u26⟩ => r.length - i) ⟨0, (-f), _, _, _, _, _, _, _, _, _, _, _⟩ ⟨Nat.zero_le _, rfl⟩ rfl (List.Sublist.cons_cons _ (List.Sublist.cons_cons _ (List.Sublist.cons_cons _ (List.Sublist.append_left List.Sublist.slnil _)))) ?_
 rintro ⟨i, z, u9, u17, u18, u19, u20, u21, u22, u23, u24, u25, u26⟩ hφ
 (try dsimp only at hφ ⊢)
 obtain ⟨b1, b2⟩ := hφ
 refine wc_seq ?_
 refine wc_region ?_
 refine wl_val (.bool (decide ((i : Int) < (r.length : Int)))) rfl (fun w => run_cmp rfl rfl rfl Try.underlying3 rfl w) ?_
 simp only [Act.put, Xa, Xz, Xs]
 refine wl_nil ?_
 refine we_then ?_
 refine wc_seq ?_
 cases h5 : (decide ((i : Int) < (r.length : Int)))
 ·
  skip
  have p5 : ¬ ((i : Int) < (r.length : Int)) := of_decide_eq_false h5
  refine wc_false rfl ?_
  refine wc_exit ?_
  refine we_then_exit ?_
  refine we_then_exit ?_
  refine we_in_here ?_
  refine we_then ?_
  refine wc_seq ?_
  refine wc_region ?_
  refine wl_val (.int .i64 z) rfl (fun _ => rfl) ?_
  simp only [Act.put, Xa, Xz, Xs]
  refine wl_val (.int .i64 z) rfl (fun _ => rfl) ?_
  simp only [Act.put, Xa, Xz, Xs]
  refine wl_nil ?_
  refine we_then ?_
  refine wc_ret ?_
  refine we_ret1 (.int .i64 z) rfl rfl rfl (fun w1 hE => ?_)
  have e0 : i = r.length := by omega
  rw [e0, List.take_length] at b2
  exact ⟨by rw [b2], hE.below⟩
 ·
  skip
  have p5 : (i : Int) < (r.length : Int) := of_decide_eq_true h5
  refine wc_true rfl ?_
  refine wc_skip ?_
  refine we_then ?_
  refine wc_seq ?_
  refine wc_block ?_
  refine wc_seq ?_
  refine wc_region ?_
  refine wl_read (eaddr s4.ptr (i * 1)) rfl (er_index i 1 (sl_own [⟨g3, #[.int .i64 (r.length : Int), .int .i64 (pad r 0), .int .i64 (pad r 1), .int .i64 (pad r 2), .int .i64 (pad r 3), .int .i64 (pad r 4), .int .i64 (pad r 5), .int .i64 (pad r 6), .int .i64 (pad r 7), .int .i64 (pad r 8), .int .i64 (pad r 9), .int .i64 (pad r 10), .int .i64 (pad r 11)], 92⟩, ⟨g2, #[.slice p G.length c, .slice q H.length d], 27⟩, ⟨g1, #[.int .i64 f, .slice ps nX cs], 36⟩] [] hs4 rfl) rfl rfl rfl rfl (by omega) (flat_length (enc := enc1) (size := 1) (fun _ => rfl) _) (by decide) Try.underlying63 (by kernel_rfl)) ?_
  simp only [Act.put, Xa, Xz, Xs]
  refine wl_read (.int .i64 (r[i]!)) rfl (er_cell (i * 1) (.int .i64 (r[i]!)) (sl_own [⟨g3, #[.int .i64 (r.length : Int), .int .i64 (pad r 0), .int .i64 (pad r 1), .int .i64 (pad r 2), .int .i64 (pad r 3), .int .i64 (pad r 4), .int .i64 (pad r 5), .int .i64 (pad r 6), .int .i64 (pad r 7), .int .i64 (pad r 8), .int .i64 (pad r 9), .int .i64 (pad r 10), .int .i64 (pad r 11)], 92⟩, ⟨g2, #[.slice p G.length c, .slice q H.length d], 27⟩, ⟨g1, #[.int .i64 f, .slice ps nX cs], 36⟩] [] hs4 rfl) rfl rfl (flat_cell (enc := enc1) (fun _ => rfl) r i 0 (by omega) (by decide)) Try.isAgg3) ?_
  simp only [Act.put, Xa, Xz, Xs]
  refine wl_val (.int .i64 (r[i]!)) rfl (fun _ => rfl) ?_
  simp only [Act.put, Xa, Xz, Xs]
  refine wl_nil ?_
  refine we_then ?_
  obtain ⟨q0, q1⟩ := hr.each i (by omega)
  have e1 := end_in (f := f) hM.segs hr i (by omega)
  have l1 := (hM.segs (r[i]!).toNat (by omega)).low
  have l2 := (hM.segs (r[i]!).toNat (by omega)).high
  refine wc_region ?_
  refine wl_val (.int .i64 z) rfl (fun _ => rfl) ?_
  simp only [Act.put, Xa, Xz, Xs]
  refine wl_load 27 (.tmp 4) (own_row 1 rfl) rfl rfl rfl Try.underlying27 rfl (by kernel_rfl) ?_
  simp only [Act.put, Xa, Xz, Xs]
  refine wl_val (.int .i64 (r[i]!)) rfl (fun _ => rfl) ?_
  simp only [Act.put, Xa, Xz, Xs]
  refine wl_call_at 52 #[.agg #[.slice p G.length c, .slice q H.length d], .int .i64 (r[i]!)] (.agg #[.int .i64 ((G[(r[i]!).toNat]!).len), .slice ((G[(r[i]!).toNat]!).pp) ((G[(r[i]!).toNat]!).P.length) ((G[(r[i]!).toNat]!).pc), .slice ((G[(r[i]!).toNat]!).np) ((G[(r[i]!).toNat]!).X.length) ((G[(r[i]!).toNat]!).nc)]) rfl (fun _ => by go_simp) (fun W hE => at_any G H p q c d (r[i]!) W (sl_old (R := []) hS W (hE.sub (List.nil_sublist _))) (oks_below hG hE.below) (by omega) q0 q1) ?_
  simp only [Act.put, Xa, Xz, Xs]
  refine wl_val (.int .i64 ((G[(r[i]!).toNat]!).len)) rfl (fun _ => by kernel_rfl) ?_
  simp only [Act.put, Xa, Xz, Xs]
  refine wl_val (.int .i64 (z + ((G[(r[i]!).toNat]!).len))) rfl (fun w => run_arith (op := .add) rfl rfl rfl Try.underlying2 (congrArg some (i64_in (by omega) (by omega))) w) ?_
  simp only [Act.put, Xa, Xz, Xs]
  refine wl_val (.int .i64 (z + ((G[(r[i]!).toNat]!).len))) rfl (fun _ => rfl) ?_
  simp only [Act.put, Xa, Xz, Xs]
  refine wl_nil ?_
  refine we_in ?_
  refine we_then ?_
  refine wc_region ?_
  refine wl_val (.int .i64 ((i + 1 : Nat) : Int)) rfl (fun w => run_nat (X := i) (Y := 1) (Z := i + 1) rfl rfl rfl rfl (by omega) w) ?_
  simp only [Act.put, Xa, Xz, Xs]
  refine wl_val (.int .i64 ((i + 1 : Nat) : Int)) rfl (fun _ => rfl) ?_
  simp only [Act.put, Xa, Xz, Xs]
  refine wl_nil ?_
  exact we_meet ⟨(i + 1), (z + (G[(r[i]!).toNat]!).len), _, _, _, _, _, _, _, _, _, _, _⟩ ⟨⟨by (try dsimp only); omega, by rw [end_snoc G f r (by omega), b2]⟩, by (try dsimp only); omega⟩ rfl (List.Sublist.cons_cons _ (List.Sublist.cons_cons _ (List.Sublist.cons_cons _ (List.Sublist.append_left List.Sublist.slnil _))))
set_option maxHeartbeats 2000000 in
theorem next_any (G : List Sg) (H : List Gp) (p q : Option Addr) (c d : Nat) (r : Ro) (w : World) (hS : Reads w p (flat sg G)) (hG : OkS w G) (hM : TrackMay G H) (hC : ∀ s ∈ G, s.X.length ≤ s.nc) (hr : RtOk G r) :
  Calls Try.prog 51 #[.agg #[.slice p G.length c, .slice q H.length d], .agg #[.int .i64 (r.length : Int), .int .i64 (pad r 0), .int .i64 (pad r 1), .int .i64 (pad r 2), .int .i64 (pad r 3), .int .i64 (pad r 4), .int .i64 (pad r 5), .int .i64 (pad r 6), .int .i64 (pad r 7), .int .i64 (pad r 8), .int .i64 (pad r 9), .int .i64 (pad r 10), .int .i64 (pad r 11)]] w fun e w' => e = .returned (.slice (G[(r[r.length - 1]!).toNat]!).np (G[(r[r.length - 1]!).toNat]!).X.length (G[(r[r.length - 1]!).toNat]!).nc) ∧ Below w.heap.size w w' := by
 have hs1 := hM.sizes.1
 have hs2 := hM.sizes.2.1
 have hr12 := hr.few
 have hr1 := hr.some
 obtain ⟨q0, q1⟩ := hr.each (r.length - 1) (by omega)
 have x1 := (hM.segs (r[r.length - 1]!).toNat (by omega)).two
 have x2 := hC (G[(r[r.length - 1]!).toNat]!) (by rw [getElem!_pos G _ (show (r[r.length - 1]!).toNat < G.length by omega)]; exact List.getElem_mem _)
 refine calls_sx Try.func51 rfl ?_
 simp only [Try.ntmps51, List.size_toArray, List.length_cons, List.length_nil, Nat.reduceAdd, Nat.reduceSub, Array.replicate_succ, Array.replicate_zero, List.push_toArray, List.append_toArray, List.nil_append, List.cons_append]
 refine wc_seq ?_
 refine wc_region ?_
 refine wl_new 27 (#[.slice p G.length c, .slice q H.length d]) rfl (fun _ => by go_simp) ?_
 intro g1
 simp only [Act.put, Xa, Xz, Xs]
 refine wl_new 92 (#[.int .i64 (r.length : Int), .int .i64 (pad r 0), .int .i64 (pad r 1), .int .i64 (pad r 2), .int .i64 (pad r 3), .int .i64 (pad r 4), .int .i64 (pad r 5), .int .i64 (pad r 6), .int .i64 (pad r 7), .int .i64 (pad r 8), .int .i64 (pad r 9), .int .i64 (pad r 10), .int .i64 (pad r 11)]) rfl (fun _ => by go_simp) ?_
 intro g2
 simp only [Act.put, Xa, Xz, Xs]
 refine wl_val (.slice none 0 0) rfl (fun _ => rfl) ?_
 simp only [Act.put, Xa, Xz, Xs]
 refine wl_nil ?_
 refine we_then ?_
 refine wc_seq ?_
 refine wc_region ?_
 refine wl_load 92 (.tmp 3) (own_row 0 rfl) rfl rfl rfl Try.underlying92 rfl (by kernel_rfl) ?_
 simp only [Act.put, Xa, Xz, Xs]
 refine wl_call_own (ι := Own) (e := 3) [⟨g2, #[.int .i64 (r.length : Int), .int .i64 (pad r 0), .int .i64 (pad r 1), .int .i64 (pad r 2), .int .i64 (pad r 3), .int .i64 (pad r 4), .int .i64 (pad r 5), .int .i64 (pad r 6), .int .i64 (pad r 7), .int .i64 (pad r 8), .int .i64 (pad r 9), .int .i64 (pad r 10), .int .i64 (pad r 11)], 92⟩, ⟨g1, #[.slice p G.length c, .slice q H.length d], 27⟩] [] 26 #[.agg #[.int .i64 (r.length : Int), .int .i64 (pad r 0), .int .i64 (pad r 1), .int .i64 (pad r 2), .int .i64 (pad r 3), .int .i64 (pad r 4), .int .i64 (pad r 5), .int .i64 (pad r 6), .int .i64 (pad r 7), .int .i64 (pad r 8), .int .i64 (pad r 9), .int .i64 (pad r 10), .int .i64 (pad r 11)]] (fun s => s.val r.length) (fun s => s) (fun s => s.Has 1 r.length (flat enc1 r)) rfl rfl (fun _ => by go_simp) (fun W hE => path_own r W hr.few) ?_
 rintro s3 hs3
 simp only [List.cons_append, List.nil_append, Act.put, Xa, Xz, Xs]
 refine wl_val (.slice s3.ptr r.length s3.cap) rfl (fun _ => rfl) ?_
 simp only [Act.put, Xa, Xz, Xs]
 refine wl_nil ?_
 refine we_then ?_
 refine wc_seq ?_
 refine wc_seq ?_
 refine wc_region ?_
 refine wl_val (.slice s3.ptr r.length s3.cap) rfl (fun _ => rfl) ?_
 simp only [Act.put, Xa, Xz, Xs]
 refine wl_val (.int .i64 (r.length : Int)) rfl (fun w => er_len rfl rfl Try.underlying63 w) ?_
 simp only [Act.put, Xa, Xz, Xs]
 refine wl_val (.bool ((r.length : Int) == 0)) rfl (fun w => run_cmp rfl rfl rfl Try.underlying3 rfl w) ?_
 simp only [Act.put, Xa, Xz, Xs]
 refine wl_nil ?_
 refine we_then ?_
 cases h4 : ((r.length : Int) == 0)
 ·
  skip
  have p4 : ¬ ((r.length : Int) = 0) := by first | (simp; done) | (simp at h4; done) | simpa using h4
  refine wc_false rfl ?_
  refine wc_skip ?_
  refine we_then ?_
  refine wc_seq ?_
  refine wc_draw [.plain, .late, .late, .late, .late, .plain, .plain, .plain, .late, .late] none [] 26 (by kernel_rfl) rfl (by kernel_rfl) (by kernel_rfl) ?_
  refine ws_load 27 (.tmp 2) (own_row 1 rfl) rfl rfl rfl rfl Try.underlying27 rfl (by kernel_rfl) ?_
  simp only [Nat.reduceAdd, Act.put, Xa, Xz, Xs]
  refine ws_late (.slice s3.ptr r.length s3.cap) rfl rfl (fun _ => rfl) ?_
  simp only [Nat.reduceAdd, Act.put, Xa, Xz, Xs]
  refine ws_late (.slice s3.ptr r.length s3.cap) rfl rfl (fun _ => rfl) ?_
  simp only [Nat.reduceAdd, Act.put, Xa, Xz, Xs]
  refine ws_late (.int .i64 (r.length : Int)) rfl rfl (fun w => er_len rfl rfl Try.underlying63 w) ?_
  simp only [Nat.reduceAdd, Act.put, Xa, Xz, Xs]
  refine ws_late (.int .i64 ((r.length - 1 : Nat) : Int)) rfl rfl (fun w => run_nat (X := r.length) (Y := 1) (Z := r.length - 1) rfl rfl rfl (natOf_sub (by omega)) (by omega) w) ?_
  simp only [Nat.reduceAdd, Act.put, Xa, Xz, Xs]
  refine ws_read (eaddr s3.ptr ((r.length - 1) * 1)) rfl rfl (er_index (r.length - 1) 1 (sl_own [⟨g2, #[.int .i64 (r.length : Int), .int .i64 (pad r 0), .int .i64 (pad r 1), .int .i64 (pad r 2), .int .i64 (pad r 3), .int .i64 (pad r 4), .int .i64 (pad r 5), .int .i64 (pad r 6), .int .i64 (pad r 7), .int .i64 (pad r 8), .int .i64 (pad r 9), .int .i64 (pad r 10), .int .i64 (pad r 11)], 92⟩, ⟨g1, #[.slice p G.length c, .slice q H.length d], 27⟩] [] hs3 rfl) rfl rfl rfl rfl (by omega) (flat_length (enc := enc1) (size := 1) (fun _ => rfl) _) (by decide) Try.underlying63 (by kernel_rfl)) ?_
  simp only [Nat.reduceAdd, Act.put, Xa, Xz, Xs]
  refine ws_read (.int .i64 (r[r.length - 1]!)) rfl rfl (er_cell ((r.length - 1) * 1) (.int .i64 (r[r.length - 1]!)) (sl_own [⟨g2, #[.int .i64 (r.length : Int), .int .i64 (pad r 0), .int .i64 (pad r 1), .int .i64 (pad r 2), .int .i64 (pad r 3), .int .i64 (pad r 4), .int .i64 (pad r 5), .int .i64 (pad r 6), .int .i64 (pad r 7), .int .i64 (pad r 8), .int .i64 (pad r 9), .int .i64 (pad r 10), .int .i64 (pad r 11)], 92⟩, ⟨g1, #[.slice p G.length c, .slice q H.length d], 27⟩] [] hs3 rfl) rfl rfl (flat_cell (enc := enc1) (fun _ => rfl) r (r.length - 1) 0 (by omega) (by decide)) Try.isAgg3) ?_
  simp only [Nat.reduceAdd, Act.put, Xa, Xz, Xs]
  refine ws_call_at 52 #[.agg #[.slice p G.length c, .slice q H.length d], .int .i64 (r[r.length - 1]!)] (.agg #[.int .i64 ((G[(r[r.length - 1]!).toNat]!).len), .slice ((G[(r[r.length - 1]!).toNat]!).pp) ((G[(r[r.length - 1]!).toNat]!).P.length) ((G[(r[r.length - 1]!).toNat]!).pc), .slice ((G[(r[r.length - 1]!).toNat]!).np) ((G[(r[r.length - 1]!).toNat]!).X.length) ((G[(r[r.length - 1]!).toNat]!).nc)]) rfl rfl (fun _ => by go_simp) (fun W hE => at_any G H p q c d (r[r.length - 1]!) W (sl_old (R := []) hS W (hE.sub (List.nil_sublist _))) (oks_below hG hE.below) (by omega) q0 q1) ?_
  simp only [Nat.reduceAdd, Act.put, Xa, Xz, Xs]
  refine ws_late (.slice ((G[(r[r.length - 1]!).toNat]!).np) ((G[(r[r.length - 1]!).toNat]!).X.length) ((G[(r[r.length - 1]!).toNat]!).nc)) rfl rfl (fun _ => by kernel_rfl) ?_
  simp only [Nat.reduceAdd, Act.put, Xa, Xz, Xs]
  refine ws_late (.slice ((G[(r[r.length - 1]!).toNat]!).np) ((G[(r[r.length - 1]!).toNat]!).X.length) ((G[(r[r.length - 1]!).toNat]!).nc)) rfl rfl (fun _ => rfl) ?_
  simp only [Nat.reduceAdd, Act.put, Xa, Xz, Xs]
  refine ws_nil [] trivial (by simp) ?_
  intro ps5
  simp only [fin, List.foldl_nil, List.map, List.nil_append]
  refine we_then ?_
  refine wc_seq ?_
  refine wc_region ?_
  refine wl_val (.slice ((G[(r[r.length - 1]!).toNat]!).np) ((G[(r[r.length - 1]!).toNat]!).X.length) ((G[(r[r.length - 1]!).toNat]!).nc)) rfl (fun _ => rfl) ?_
  simp only [Act.put, Xa, Xz, Xs]
  refine wl_val (.slice ((G[(r[r.length - 1]!).toNat]!).np) ((G[(r[r.length - 1]!).toNat]!).X.length) ((G[(r[r.length - 1]!).toNat]!).nc)) rfl (fun _ => rfl) ?_
  simp only [Act.put, Xa, Xz, Xs]
  refine wl_val (.int .i64 (((G[(r[r.length - 1]!).toNat]!).X.length : Nat) : Int)) rfl (fun w => er_len rfl rfl Try.underlying63 w) ?_
  simp only [Act.put, Xa, Xz, Xs]
  refine wl_val (.int .i64 (((G[(r[r.length - 1]!).toNat]!).X.length : Nat) : Int)) rfl (fun w => run_min2 (Z := (((G[(r[r.length - 1]!).toNat]!).X.length : Nat) : Int)) rfl rfl rfl (by omega) w) ?_
  simp only [Act.put, Xa, Xz, Xs]
  refine wl_val (.slice ((G[(r[r.length - 1]!).toNat]!).np) ((G[(r[r.length - 1]!).toNat]!).X.length) ((G[(r[r.length - 1]!).toNat]!).nc)) rfl (fun w => er_take (h := (G[(r[r.length - 1]!).toNat]!).X.length) rfl rfl rfl rfl (by omega) Try.underlying63 (by kernel_rfl) w) ?_
  simp only [Act.put, Xa, Xz, Xs]
  refine wl_val (.slice ((G[(r[r.length - 1]!).toNat]!).np) ((G[(r[r.length - 1]!).toNat]!).X.length) ((G[(r[r.length - 1]!).toNat]!).nc)) rfl (fun _ => rfl) ?_
  simp only [Act.put, Xa, Xz, Xs]
  refine wl_nil ?_
  refine we_then ?_
  refine wc_ret ?_
  refine we_ret1 (.slice ((G[(r[r.length - 1]!).toNat]!).np) ((G[(r[r.length - 1]!).toNat]!).X.length) ((G[(r[r.length - 1]!).toNat]!).nc)) rfl rfl rfl (fun w1 hE => ?_)
  exact ⟨rfl, hE.below⟩
 ·
  skip
  have p4 : (r.length : Int) = 0 := by first | (simp; done) | (simp at h4; done) | simpa using h4
  refine wc_true rfl ?_
  refine wc_seq ?_
  refine wc_region ?_
  refine wl_val (.slice none 0 0) rfl (fun _ => rfl) ?_
  simp only [Act.put, Xa, Xz, Xs]
  refine wl_nil ?_
  refine we_then ?_
  refine wc_ret ?_
  refine we_then_ret ?_
  refine we_ret1 (.slice none 0 0) rfl rfl rfl (fun w1 hE => ?_)
  exact (by exfalso; omega)
/-- The order, as the program has it. -/
def cfR (r s : Ro) : Int := orZ (cmpL [pad r 0, pad r 1, pad r 2, pad r 3, pad r 4, pad r 5, pad r 6, pad r 7, pad r 8, pad r 9, pad r 10, pad r 11] [pad s 0, pad s 1, pad s 2, pad s 3, pad s 4, pad s 5, pad s 6, pad s 7, pad s 8, pad s 9, pad s 10, pad s 11]) (cmpZ (r.length : Int) (s.length : Int))
theorem flat1 : ∀ L : List Int, flat enc1 L = L.map (Value.int .i64)
 | [] => rfl
 | x :: L => by
  show enc1 x ++ flat enc1 L = _
  rw [flat1 L]
  rfl
theorem sl_takez {w0 : World} {R : List Rw} {p : Option Addr} {L : List Int} (k : Nat) (h : SlAt w0 R p (flat enc1 L)) : SlAt w0 R p (flat enc1 (L.take k)) := by
 intro w hE j u hj
 have e : flat enc1 (L.take k) = (flat enc1 L).take k := by rw [flat1, flat1, List.map_take]
 rw [e, List.getElem?_take] at hj
 split at hj
 ·
  exact h w hE j u hj
 ·
  cases hj
/-- As far as both go they are the same. -/
def agB (r P : Ro) : Bool := decide (r.take (min r.length P.length) = P.take (min r.length P.length))
theorem agB_iff {r P : Ro} : agB r P = true ↔ Agree r P := by
 unfold agB Agree
 rw [decide_eq_true_iff]
 constructor
 ·
  intro h k h1 h2
  have e : (r.take (min r.length P.length))[k]? = (P.take (min r.length P.length))[k]? := congrArg (fun l : List Int => l[k]?) h
  rw [List.getElem?_take_of_lt (by omega), List.getElem?_take_of_lt (by omega)] at e
  rw [getElem!_pos r k h1, getElem!_pos P k h2]
  rw [List.getElem?_eq_getElem h1, List.getElem?_eq_getElem h2] at e
  exact Option.some.inj e
 ·
  intro h
  refine List.ext_getElem (by simp) (fun k h1 h2 => ?_)
  rw [List.getElem_take, List.getElem_take]
  rw [List.length_take] at h1
  have := h k (by omega) (by omega)
  rwa [getElem!_pos r k (by omega), getElem!_pos P k (by omega)] at this
/-- Where the first one lies of which it holds, or -1. -/
def ixP (pr : Ro → Bool) : List Ro → Int
 | [] => -1
 | x :: L => if pr x = true then 0 else if ixP pr L < 0 then -1 else ixP pr L + 1
theorem ixP_at {pr : Ro → Bool} : ∀ {L : List Ro} {i : Nat}, i < L.length → pr L[i]! = true → (∀ j, j < i → pr L[j]! = false) → ixP pr L = i
 | x :: L, 0, _, h, _ => by unfold ixP; rw [if_pos (by simpa using h)]; rfl
 | x :: L, i + 1, h1, h2, h3 => by
  have h0 : pr x = false := by have := h3 0 (by omega); simpa using this
  have h4 := ixP_at (pr := pr) (L := L) (i := i) (by simpa using h1) (by simpa using h2) (fun j hj => by have := h3 (j + 1) (by omega); simpa using this)
  unfold ixP
  rw [if_neg (by simp [h0]), h4, if_neg (by omega)]
  omega
theorem ixP_none {pr : Ro → Bool} : ∀ {L : List Ro}, (∀ j, j < L.length → pr L[j]! = false) → ixP pr L = -1
 | [], _ => rfl
 | x :: L, h => by
  have h0 : pr x = false := by have := h 0 (by simp); simpa using this
  have h4 := ixP_none (pr := pr) (L := L) (fun j hj => by have := h (j + 1) (by simpa using hj); simpa using this)
  unfold ixP
  rw [if_neg (by simp [h0]), h4, if_pos (by decide)]
theorem ixP_any {pr : Ro → Bool} : ∀ L : List Ro, decide (0 ≤ ixP pr L) = L.any pr
 | [] => rfl
 | x :: L => by
  have h := ixP_any (pr := pr) L
  rw [List.any_cons, ← h]
  show decide (0 ≤ (if pr x = true then 0 else if ixP pr L < 0 then -1 else ixP pr L + 1)) = _
  cases hx : pr x with
  | true => simp
  | false =>
   simp only [Bool.false_eq_true, if_false, Bool.false_or]
   split <;> simp <;> omega
theorem has_cap {s : Own} {size n : Nat} {xs : List Value} (h : s.Has size n xs) : n ≤ s.cap := by cases s with | none => exact Nat.le_of_eq h.2 | row g c u => exact h.2.1
set_option maxHeartbeats 2000000 in
theorem has1_any (r P : Ro) (a : Option Addr) (ca bp : Nat) (w : World) (hbp : w.heap[bp]? = some (.cells #[.slice a P.length ca] 63 (0, 0))) (hP : Reads w a (flat enc1 P)) (h12 : r.length ≤ 12) (hn : P.length ≤ 140737488355328) (hca : P.length ≤ ca) :
  Calls Try.prog 33 #[.agg #[.int .i64 (r.length : Int), .int .i64 (pad r 0), .int .i64 (pad r 1), .int .i64 (pad r 2), .int .i64 (pad r 3), .int .i64 (pad r 4), .int .i64 (pad r 5), .int .i64 (pad r 6), .int .i64 (pad r 7), .int .i64 (pad r 8), .int .i64 (pad r 9), .int .i64 (pad r 10), .int .i64 (pad r 11)], .pointer (some ⟨bp, 0, none⟩)] w fun e w' => e = .returned (.bool (agB r P)) ∧ Below w.heap.size w w' := by
 have hm1 : min r.length P.length ≤ r.length := by omega
 have hm2 : min r.length P.length ≤ P.length := by omega
 refine calls_sx Try.func33 rfl ?_
 simp only [Try.ntmps33, List.size_toArray, List.length_cons, List.length_nil, Nat.reduceAdd, Nat.reduceSub, Array.replicate_succ, Array.replicate_zero, List.push_toArray, List.append_toArray, List.nil_append, List.cons_append]
 refine wc_seq ?_
 refine wc_region ?_
 refine wl_new 92 (#[.int .i64 (r.length : Int), .int .i64 (pad r 0), .int .i64 (pad r 1), .int .i64 (pad r 2), .int .i64 (pad r 3), .int .i64 (pad r 4), .int .i64 (pad r 5), .int .i64 (pad r 6), .int .i64 (pad r 7), .int .i64 (pad r 8), .int .i64 (pad r 9), .int .i64 (pad r 10), .int .i64 (pad r 11)]) rfl (fun _ => by go_simp) ?_
 intro g1
 simp only [Act.put, Xa, Xz, Xs]
 refine wl_val (.bool false) rfl (fun _ => rfl) ?_
 simp only [Act.put, Xa, Xz, Xs]
 refine wl_nil ?_
 refine we_then ?_
 refine wc_seq ?_
 refine wc_region ?_
 refine wl_load 92 (.tmp 2) (own_row 0 rfl) rfl rfl rfl Try.underlying92 rfl (by kernel_rfl) ?_
 simp only [Act.put, Xa, Xz, Xs]
 refine wl_call_own (ι := Own) (e := 3) [⟨g1, #[.int .i64 (r.length : Int), .int .i64 (pad r 0), .int .i64 (pad r 1), .int .i64 (pad r 2), .int .i64 (pad r 3), .int .i64 (pad r 4), .int .i64 (pad r 5), .int .i64 (pad r 6), .int .i64 (pad r 7), .int .i64 (pad r 8), .int .i64 (pad r 9), .int .i64 (pad r 10), .int .i64 (pad r 11)], 92⟩] [] 26 #[.agg #[.int .i64 (r.length : Int), .int .i64 (pad r 0), .int .i64 (pad r 1), .int .i64 (pad r 2), .int .i64 (pad r 3), .int .i64 (pad r 4), .int .i64 (pad r 5), .int .i64 (pad r 6), .int .i64 (pad r 7), .int .i64 (pad r 8), .int .i64 (pad r 9), .int .i64 (pad r 10), .int .i64 (pad r 11)]] (fun s => s.val r.length) (fun s => s) (fun s => s.Has 1 r.length (flat enc1 r)) rfl rfl (fun _ => by go_simp) (fun W hE => path_own r W h12) ?_
 rintro s2 hs2
 simp only [List.cons_append, List.nil_append, Act.put, Xa, Xz, Xs]
 refine wl_val (.slice s2.ptr r.length s2.cap) rfl (fun _ => rfl) ?_
 simp only [Act.put, Xa, Xz, Xs]
 refine wl_nil ?_
 refine we_then ?_
 refine wc_seq ?_
 refine wc_region ?_
 refine wl_val (.slice s2.ptr r.length s2.cap) rfl (fun _ => rfl) ?_
 simp only [Act.put, Xa, Xz, Xs]
 refine wl_val (.int .i64 (r.length : Int)) rfl (fun w => er_len rfl rfl Try.underlying63 w) ?_
 simp only [Act.put, Xa, Xz, Xs]
 refine wl_cell 63 (.tmp 1) (.slice a P.length ca) (old_row hbp) rfl rfl rfl rfl Try.isAgg63 ?_
 simp only [Act.put, Xa, Xz, Xs]
 refine wl_val (.int .i64 (P.length : Int)) rfl (fun w => er_len rfl rfl Try.underlying63 w) ?_
 simp only [Act.put, Xa, Xz, Xs]
 refine wl_val (.int .i64 ((min r.length P.length : Nat) : Int)) rfl (fun w => run_min2 (Z := ((min r.length P.length : Nat) : Int)) rfl rfl rfl (by omega) w) ?_
 simp only [Act.put, Xa, Xz, Xs]
 refine wl_val (.int .i64 ((min r.length P.length : Nat) : Int)) rfl (fun _ => rfl) ?_
 simp only [Act.put, Xa, Xz, Xs]
 refine wl_nil ?_
 refine we_then ?_
 refine wc_seq ?_
 have hcap := has_cap hs2
 refine wc_draw [.late, .late, .late, .plain, .late, .late, .plain, .late] none [] 20 (by kernel_rfl) rfl (by kernel_rfl) (by kernel_rfl) ?_
 refine ws_late (.slice s2.ptr r.length s2.cap) rfl rfl (fun _ => rfl) ?_
 simp only [Nat.reduceAdd, Act.put, Xa, Xz, Xs]
 refine ws_late (.int .i64 ((min r.length P.length : Nat) : Int)) rfl rfl (fun _ => rfl) ?_
 simp only [Nat.reduceAdd, Act.put, Xa, Xz, Xs]
 refine ws_late (.slice s2.ptr (min r.length P.length) s2.cap) rfl rfl (fun w => er_take (h := min r.length P.length) rfl rfl rfl rfl (by omega) Try.underlying63 (by kernel_rfl) w) ?_
 simp only [Nat.reduceAdd, Act.put, Xa, Xz, Xs]
 refine ws_cell 63 (.tmp 1) (.slice a P.length ca) (old_row hbp) rfl rfl rfl rfl rfl Try.isAgg63 ?_
 simp only [Nat.reduceAdd, Act.put, Xa, Xz, Xs]
 refine ws_late (.int .i64 ((min r.length P.length : Nat) : Int)) rfl rfl (fun _ => rfl) ?_
 simp only [Nat.reduceAdd, Act.put, Xa, Xz, Xs]
 refine ws_late (.slice a (min r.length P.length) ca) rfl rfl (fun w => er_take (h := min r.length P.length) rfl rfl rfl rfl (by omega) Try.underlying63 (by kernel_rfl) w) ?_
 simp only [Nat.reduceAdd, Act.put, Xa, Xz, Xs]
 refine ws_call_at 34 #[.slice s2.ptr (min r.length P.length) s2.cap, .slice a (min r.length P.length) ca] (.bool (decide (r.take (min r.length P.length) = P.take (min r.length P.length)))) rfl rfl (fun _ => by go_simp) (fun W hE => equal_ints (r.take (min r.length P.length)) (P.take (min r.length P.length)) _ _ _ _ _ _ W (List.length_take_of_le hm1) (List.length_take_of_le hm2) ((sl_takez (min r.length P.length) (sl_own [⟨g1, #[.int .i64 (r.length : Int), .int .i64 (pad r 0), .int .i64 (pad r 1), .int .i64 (pad r 2), .int .i64 (pad r 3), .int .i64 (pad r 4), .int .i64 (pad r 5), .int .i64 (pad r 6), .int .i64 (pad r 7), .int .i64 (pad r 8), .int .i64 (pad r 9), .int .i64 (pad r 10), .int .i64 (pad r 11)], 92⟩] [] hs2 rfl)) W hE) ((sl_takez (min r.length P.length) (sl_old hP)) W hE) (by omega) (by omega)) ?_
 simp only [Nat.reduceAdd, Act.put, Xa, Xz, Xs]
 refine ws_late (.bool (decide (r.take (min r.length P.length) = P.take (min r.length P.length)))) rfl rfl (fun _ => rfl) ?_
 simp only [Nat.reduceAdd, Act.put, Xa, Xz, Xs]
 refine ws_nil [] trivial (by simp) ?_
 intro ps3
 simp only [fin, List.foldl_nil, List.map, List.nil_append]
 refine we_then ?_
 refine wc_ret ?_
 refine we_ret1 (.bool (decide (r.take (min r.length P.length) = P.take (min r.length P.length)))) rfl rfl rfl (fun w1 hE => ?_)
 exact ⟨rfl, hE.below⟩
set_option maxHeartbeats 2000000 in
theorem index_any (X : List Ro) (ps : Option Addr) (cs : Nat) (pr : Ro → Bool) (F : FuncId) (CB : Array Value) (w : World) (hR : Reads w ps (flat rt X)) (hn : X.length ≤ 140737488355328) (eg : Enters Try.prog F) (hF : ∀ W, Below w.heap.size w W → ∀ i, i < X.length → Calls Try.prog F (#[.agg #[.int .i64 (((X[i]!).length : Nat) : Int), .int .i64 (pad (X[i]!) 0), .int .i64 (pad (X[i]!) 1), .int .i64 (pad (X[i]!) 2), .int .i64 (pad (X[i]!) 3), .int .i64 (pad (X[i]!) 4), .int .i64 (pad (X[i]!) 5), .int .i64 (pad (X[i]!) 6), .int .i64 (pad (X[i]!) 7), .int .i64 (pad (X[i]!) 8), .int .i64 (pad (X[i]!) 9), .int .i64 (pad (X[i]!) 10), .int .i64 (pad (X[i]!) 11)]] ++ CB) W fun e w' => e = .returned (.bool (pr X[i]!)) ∧ Below W.heap.size W w') :
  Calls Try.prog 48 #[.slice ps X.length cs, .func (.func F) #[] CB] w fun e w' => e = .returned (.int .i64 (ixP pr X)) ∧ Below w.heap.size w w' := by
 refine calls_sx Try.func48 rfl ?_
 simp only [Try.ntmps48, List.size_toArray, List.length_cons, List.length_nil, Nat.reduceAdd, Nat.reduceSub, Array.replicate_succ, Array.replicate_zero, List.push_toArray, List.append_toArray, List.nil_append, List.cons_append]
 refine wc_seq ?_
 refine wc_region ?_
 refine wl_val (.int .i64 0) rfl (fun _ => rfl) ?_
 simp only [Act.put, Xa, Xz, Xs]
 refine wl_nil ?_
 refine we_then ?_
 refine wc_seq ?_
 refine wc_seq ?_
 refine wc_region ?_
 refine wl_val (.slice ps X.length cs) rfl (fun _ => rfl) ?_
 simp only [Act.put, Xa, Xz, Xs]
 refine wl_val (.int .i64 (X.length : Int)) rfl (fun w => er_len rfl rfl Try.underlying34 w) ?_
 simp only [Act.put, Xa, Xz, Xs]
 refine wl_val (.int .i64 0) rfl (fun _ => rfl) ?_
 simp only [Act.put, Xa, Xz, Xs]
 refine wl_nil ?_
 refine we_then ?_
 refine wc_block ?_
 refine wc_loop (fun (zz : Nat × Value × Value × Value × Value × Value × Value × Value × Value × Value × Value × Value × Value) => match zz with | ⟨i, u4, u5, u9, u10, u11, u12, u13, u14, u15, u16, u17, u18⟩ => ({ tmps := #[.slice ps X.length cs, .func (.func F) #[] CB, undef, undef, u4, u5, .slice ps X.length cs, .int .i64 (X.length : Int), .int .i64 (i : Int), u9, u10, u11, u12, u13, u14, u15, u16, u17, u18], defers := [] } : Act)) (fun (zz : Nat × Value × Value × Value × Value × Value × Value × Value × Value × Value × Value × Value × Value) => match zz with | ⟨i, u4, u5, u9, u10, u11, u12, u13, u14, u15, u16, u17, u18⟩ => []) (fun (zz : Nat × Value × Value × Value × Value × Value × Value × Value × Value × Value × Value × Value × Value) => match zz with | ⟨i, u4, u5, u9, u10, u11, u12, u13, u14, u15, u16, u17, u18⟩ => i ≤ X.length ∧ ∀ j, j < i → pr X[j]! = false) (fun (zz : Nat × Value × Value × Value × Value × Value × Value × Value × Value × Value × Value × Value × Value) => match zz with | ⟨i, u4, u5, u9, u10, u11, u12, u13, u14, u15, u16, u17, u18⟩ => X.length - i) ⟨0, _, _, _, _, _, _, _, _, _, _, _, _⟩ ⟨Nat.zero_le _, fun j hj => absurd hj (Nat.not_lt_zero j)⟩ rfl List.Sublist.slnil ?_
 rintro ⟨i, u4, u5, u9, u10, u11, u12, u13, u14, u15, u16, u17, u18⟩ hφ
 (try dsimp only at hφ ⊢)
 obtain ⟨b1, b2⟩ := hφ
 refine wc_seq ?_
 refine wc_region ?_
 refine wl_val (.bool (decide ((i : Int) < (X.length : Int)))) rfl (fun w => run_cmp rfl rfl rfl Try.underlying3 rfl w) ?_
 simp only [Act.put, Xa, Xz, Xs]
 refine wl_nil ?_
 refine we_then ?_
 refine wc_seq ?_
 cases h1 : (decide ((i : Int) < (X.length : Int)))
 ·
  skip
  have p1 : ¬ ((i : Int) < (X.length : Int)) := of_decide_eq_false h1
  refine wc_false rfl ?_
  refine wc_exit ?_
  refine we_then_exit ?_
  refine we_then_exit ?_
  refine we_in_here ?_
  refine we_then ?_
  refine wc_seq ?_
  refine wc_region ?_
  refine wl_val (.int .i64 (-1)) rfl (fun _ => rfl) ?_
  simp only [Act.put, Xa, Xz, Xs]
  refine wl_nil ?_
  refine we_then ?_
  refine wc_ret ?_
  refine we_ret1 (.int .i64 (-1)) rfl rfl rfl (fun w1 hE => ?_)
  rw [ixP_none (fun j hj => b2 j (by omega))]
  exact ⟨rfl, hE.below⟩
 ·
  skip
  have p1 : (i : Int) < (X.length : Int) := of_decide_eq_true h1
  refine wc_true rfl ?_
  refine wc_skip ?_
  refine we_then ?_
  refine wc_seq ?_
  refine wc_block ?_
  refine wc_seq ?_
  refine wc_region ?_
  refine wl_val (.int .i64 (i : Int)) rfl (fun _ => rfl) ?_
  simp only [Act.put, Xa, Xz, Xs]
  refine wl_val (.int .i64 (i : Int)) rfl (fun _ => rfl) ?_
  simp only [Act.put, Xa, Xz, Xs]
  refine wl_nil ?_
  refine we_then ?_
  refine wc_seq ?_
  refine wc_region ?_
  refine wl_val (.func (.func F) #[] CB) rfl (fun _ => rfl) ?_
  simp only [Act.put, Xa, Xz, Xs]
  refine wl_val (.slice ps X.length cs) rfl (fun _ => rfl) ?_
  simp only [Act.put, Xa, Xz, Xs]
  refine wl_val (.int .i64 (i : Int)) rfl (fun _ => rfl) ?_
  simp only [Act.put, Xa, Xz, Xs]
  refine wl_read (eaddr ps (i * 13)) rfl (er_index i 13 (sl_old hR) rfl rfl rfl rfl (by omega) (flat_length (enc := rt) (size := 13) (fun _ => rfl) _) (by decide) Try.underlying34 (by kernel_rfl)) ?_
  simp only [Act.put, Xa, Xz, Xs]
  refine wl_read (.agg #[.int .i64 (((X[i]!).length : Nat) : Int), .int .i64 (pad (X[i]!) 0), .int .i64 (pad (X[i]!) 1), .int .i64 (pad (X[i]!) 2), .int .i64 (pad (X[i]!) 3), .int .i64 (pad (X[i]!) 4), .int .i64 (pad (X[i]!) 5), .int .i64 (pad (X[i]!) 6), .int .i64 (pad (X[i]!) 7), .int .i64 (pad (X[i]!) 8), .int .i64 (pad (X[i]!) 9), .int .i64 (pad (X[i]!) 10), .int .i64 (pad (X[i]!) 11)]) rfl (er_part (i * 13) [.int .i64 (((X[i]!).length : Nat) : Int), .int .i64 (pad (X[i]!) 0), .int .i64 (pad (X[i]!) 1), .int .i64 (pad (X[i]!) 2), .int .i64 (pad (X[i]!) 3), .int .i64 (pad (X[i]!) 4), .int .i64 (pad (X[i]!) 5), .int .i64 (pad (X[i]!) 6), .int .i64 (pad (X[i]!) 7), .int .i64 (pad (X[i]!) 8), .int .i64 (pad (X[i]!) 9), .int .i64 (pad (X[i]!) 10), .int .i64 (pad (X[i]!) 11)] (sl_old hR) rfl rfl (flat_part (enc := rt) (fun _ => rfl) X i (by omega)) (Nat.zero_lt_succ _) Try.underlying92 rfl (by kernel_rfl)) ?_
  simp only [Act.put, Xa, Xz, Xs]
  refine wl_call_at F (#[.agg #[.int .i64 (((X[i]!).length : Nat) : Int), .int .i64 (pad (X[i]!) 0), .int .i64 (pad (X[i]!) 1), .int .i64 (pad (X[i]!) 2), .int .i64 (pad (X[i]!) 3), .int .i64 (pad (X[i]!) 4), .int .i64 (pad (X[i]!) 5), .int .i64 (pad (X[i]!) 6), .int .i64 (pad (X[i]!) 7), .int .i64 (pad (X[i]!) 8), .int .i64 (pad (X[i]!) 9), .int .i64 (pad (X[i]!) 10), .int .i64 (pad (X[i]!) 11)]] ++ CB) (.bool (pr X[i]!)) rfl (er_value eg rfl rfl rfl) (fun W hE => by have h9 := hF W hE.below i (by omega); exact h9) ?_
  simp only [Act.put, Xa, Xz, Xs]
  refine wl_nil ?_
  refine we_then ?_
  cases h2 : (pr X[i]!)
  ·
   skip
   refine wc_false rfl ?_
   refine wc_skip ?_
   refine we_in ?_
   refine we_then ?_
   refine wc_region ?_
   refine wl_val (.int .i64 ((i + 1 : Nat) : Int)) rfl (fun w => run_nat (X := i) (Y := 1) (Z := i + 1) rfl rfl rfl rfl (by omega) w) ?_
   simp only [Act.put, Xa, Xz, Xs]
   refine wl_val (.int .i64 ((i + 1 : Nat) : Int)) rfl (fun _ => rfl) ?_
   simp only [Act.put, Xa, Xz, Xs]
   refine wl_nil ?_
   exact we_meet ⟨(i + 1), _, _, _, _, _, _, _, _, _, _, _, _⟩ ⟨⟨by (try dsimp only); omega, fun j hj => by rcases Nat.lt_or_eq_of_le (Nat.le_of_lt_succ hj) with h | h; exact b2 j h; subst h; exact h2⟩, by (try dsimp only); omega⟩ rfl List.Sublist.slnil
  ·
   skip
   refine wc_true rfl ?_
   refine wc_seq ?_
   refine wc_region ?_
   refine wl_val (.int .i64 (i : Int)) rfl (fun _ => rfl) ?_
   simp only [Act.put, Xa, Xz, Xs]
   refine wl_val (.int .i64 (i : Int)) rfl (fun _ => rfl) ?_
   simp only [Act.put, Xa, Xz, Xs]
   refine wl_nil ?_
   refine we_then ?_
   refine wc_ret ?_
   refine we_in_ret ?_
   refine we_then_ret ?_
   refine we_then_ret ?_
   refine we_in_ret ?_
   refine we_then_ret ?_
   refine we_ret1 (.int .i64 (i : Int)) rfl rfl rfl (fun w1 hE => ?_)
   rw [ixP_at (i := i) (by omega) h2 b2]
   exact ⟨rfl, hE.below⟩
set_option maxHeartbeats 2000000 in
theorem contains_any (X : List Ro) (ps : Option Addr) (cs : Nat) (pr : Ro → Bool) (F : FuncId) (CB : Array Value) (w : World) (hR : Reads w ps (flat rt X)) (hn : X.length ≤ 140737488355328) (eg : Enters Try.prog F) (hF : ∀ W, Below w.heap.size w W → ∀ i, i < X.length → Calls Try.prog F (#[.agg #[.int .i64 (((X[i]!).length : Nat) : Int), .int .i64 (pad (X[i]!) 0), .int .i64 (pad (X[i]!) 1), .int .i64 (pad (X[i]!) 2), .int .i64 (pad (X[i]!) 3), .int .i64 (pad (X[i]!) 4), .int .i64 (pad (X[i]!) 5), .int .i64 (pad (X[i]!) 6), .int .i64 (pad (X[i]!) 7), .int .i64 (pad (X[i]!) 8), .int .i64 (pad (X[i]!) 9), .int .i64 (pad (X[i]!) 10), .int .i64 (pad (X[i]!) 11)]] ++ CB) W fun e w' => e = .returned (.bool (pr X[i]!)) ∧ Below W.heap.size W w') :
  Calls Try.prog 32 #[.slice ps X.length cs, .func (.func F) #[] CB] w fun e w' => e = .returned (.bool (X.any pr)) ∧ Below w.heap.size w w' := by
 refine calls_sx Try.func32 rfl ?_
 simp only [Try.ntmps32, List.size_toArray, List.length_cons, List.length_nil, Nat.reduceAdd, Nat.reduceSub, Array.replicate_succ, Array.replicate_zero, List.push_toArray, List.append_toArray, List.nil_append, List.cons_append]
 refine wc_seq ?_
 refine wc_region ?_
 refine wl_val (.bool false) rfl (fun _ => rfl) ?_
 simp only [Act.put, Xa, Xz, Xs]
 refine wl_nil ?_
 refine we_then ?_
 refine wc_seq ?_
 refine wc_region ?_
 refine wl_val (.slice ps X.length cs) rfl (fun _ => rfl) ?_
 simp only [Act.put, Xa, Xz, Xs]
 refine wl_val (.func (.func F) #[] CB) rfl (fun _ => rfl) ?_
 simp only [Act.put, Xa, Xz, Xs]
 refine wl_call_at 48 #[.slice ps X.length cs, .func (.func F) #[] CB] (.int .i64 (ixP pr X)) rfl (fun _ => by go_simp) (fun W hE => index_any X ps cs pr F CB W (sl_old (R := []) hR W (hE.sub (List.nil_sublist _))) hn eg (fun W2 hB => hF W2 (below_two hE.below hB))) ?_
 simp only [Act.put, Xa, Xz, Xs]
 refine wl_val (.bool (decide (0 ≤ (ixP pr X)))) rfl (fun w => run_cmp rfl rfl rfl Try.underlying3 rfl w) ?_
 simp only [Act.put, Xa, Xz, Xs]
 refine wl_val (.bool (decide (0 ≤ (ixP pr X)))) rfl (fun _ => rfl) ?_
 simp only [Act.put, Xa, Xz, Xs]
 refine wl_nil ?_
 refine we_then ?_
 refine wc_ret ?_
 refine we_ret1 (.bool (decide (0 ≤ (ixP pr X)))) rfl rfl rfl (fun w1 hE => ?_)
 exact ⟨by rw [← ixP_any], hE.below⟩
theorem any_has (X : List Ro) (P : Ro) : X.any (fun r => agB r P) = hasB X P := by
 rw [Bool.eq_iff_iff, List.any_eq_true]
 constructor
 ·
  rintro ⟨r, hr, h⟩
  exact hasB_yes ⟨r, hr, agB_iff.1 h⟩
 ·
  intro h
  by_cases k : HasR X P
  ·
   obtain ⟨r, hr, h2⟩ := k
   exact ⟨r, hr, agB_iff.2 h2⟩
  ·
   rw [hasB_no k] at h; cases h
set_option maxHeartbeats 2000000 in
theorem has_core (X : List Ro) (P : Ro) (f : Int) (ps a : Option Addr) (cs ca : Nat) (w : World) (hR : Reads w ps (flat rt X)) (hP : Reads w a (flat enc1 P)) (h12 : ∀ i, i < X.length → (X[i]!).length ≤ 12) (hX : X.length ≤ 16) (hn : P.length ≤ 140737488355328) (hca : P.length ≤ ca) :
  Calls Try.prog 17 #[.agg #[.int .i64 f, .slice ps X.length cs], .slice a P.length ca] w fun e w' => e = .returned (.bool (hasB X P)) ∧ Below w.heap.size w w' := by
 refine calls_sx Try.func17 rfl ?_
 simp only [Try.ntmps17, List.size_toArray, List.length_cons, List.length_nil, Nat.reduceAdd, Nat.reduceSub, Array.replicate_succ, Array.replicate_zero, List.push_toArray, List.append_toArray, List.nil_append, List.cons_append]
 refine wc_seq ?_
 refine wc_region ?_
 refine wl_new 36 (#[.int .i64 f, .slice ps X.length cs]) rfl (fun _ => by go_simp) ?_
 intro g1
 simp only [Act.put, Xa, Xz, Xs]
 refine wl_new 63 (#[.slice a P.length ca]) rfl (fun _ => by go_simp) ?_
 intro g2
 simp only [Act.put, Xa, Xz, Xs]
 refine wl_val (.bool false) rfl (fun _ => rfl) ?_
 simp only [Act.put, Xa, Xz, Xs]
 refine wl_nil ?_
 refine we_then ?_
 refine wc_seq ?_
 refine wc_region ?_
 refine wl_val (.pointer (some ⟨g1, 1, none⟩)) rfl (fun _ => by go_simp) ?_
 simp only [Act.put, Xa, Xz, Xs]
 refine wl_cell 34 (.tmp 5) (.slice ps X.length cs) (own_row 1 rfl) rfl rfl rfl rfl Try.isAgg34 ?_
 simp only [Act.put, Xa, Xz, Xs]
 refine wl_val (.func (.func 33) #[] #[.pointer (some ⟨g2, 0, none⟩)]) rfl (fun _ => by go_simp) ?_
 simp only [Act.put, Xa, Xz, Xs]
 refine wl_call_at 32 #[.slice ps X.length cs, .func (.func 33) #[] #[.pointer (some ⟨g2, 0, none⟩)]] (.bool (X.any (fun r => agB r P))) rfl (fun _ => by go_simp) (fun W hE => contains_any X ps cs (fun r => agB r P) 33 #[.pointer (some ⟨g2, 0, none⟩)] W (sl_old (R := []) hR W (hE.sub (List.nil_sublist _))) (by omega) (enters_of Try.func33 (by kernel_rfl) rfl) (fun W2 hB i hi => has1_any (X[i]!) P a ca g2 W2 (row_two hB (own_row 0 rfl W hE)) (reads_below (sl_old (R := []) hP W (hE.sub (List.nil_sublist _))) hB) (h12 i hi) hn hca)) ?_
 simp only [Act.put, Xa, Xz, Xs]
 refine wl_val (.bool (X.any (fun r => agB r P))) rfl (fun _ => rfl) ?_
 simp only [Act.put, Xa, Xz, Xs]
 refine wl_nil ?_
 refine we_then ?_
 refine wc_ret ?_
 refine we_ret1 (.bool (X.any (fun r => agB r P))) rfl rfl rfl (fun w1 hE => ?_)
 exact ⟨by rw [any_has], hE.below⟩
end Go.Proofs.Ytbacchdkankioaa.Roub
namespace Go.Proofs.Ytbacchdkankioaa.Rouc
open Go.ChangeShapes Go.WideShapes Go.ChangeAt Go.RowKit
open Arr Steady Sx Sw Sl Sb Sc Si Sk Sh Smu Sj Vs Gr Tk Tkh Tkl Rt Rtm Rtp Rtk Rts Fns Rdr Mp Re Roua Roub Sfn Spn
set_option linter.unusedVariables false
set_option linter.unusedSimpArgs false
set_option maxRecDepth 100000

/-- The program's least and greatest grade, against the ones that are told. -/
inductive GrRel : Int × Int × Bool → Int → Int → Prop
  | no : GrRel (0, 0, false) 1 0
  | yes {x y : Int} : x ≤ y → GrRel (x, y, true) x y
end Go.Proofs.Ytbacchdkankioaa.Rouc
