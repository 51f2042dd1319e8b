/-
  The laws of layer 8: their example, and whether texts are too great; contracts as calls want them. Condition: at most a thousand texts, each of at most 300 bytes.
-/
import Derived.Test.YtggdmchhnnjfiaaMal
import Derived.Test.YtggdmchhnnjfiaaFlaw
namespace Go.Proofs.Ytggdmchhnnjfiaa.Mlw
open Go.ChangeShapes Go.WideShapes Go.ChangeAt Go.RowKit
open Arr Steady Sx Sw Sl Sb Sc Cr Fr Frm Flaw Ml Si Mal
set_option linter.unusedVariables false
set_option linter.unusedSimpArgs false
set_option maxRecDepth 100000

theorem sort_like {h : Nat → Bool} {v : Nat → Int} {cy : Int} {T : List Tx} {p : Option Addr} {n c : Nat} {M : Ml} {w : World} (hl : T.length = n) (hS : Reads w p (flat tx T)) (hT : OkT w T) (hs3 : Short T) (hn : n ≤ 1000) (hc : n ≤ c) (hM : sort (cy % 256) (ls T) = M) (hh : M.has = h) (hv : M.val = v) :
    Calls Try.prog 10 #[.int .i64 cy, .slice p n c] w fun e w' => e = .returned (.agg (mrow h v M.bad M.stale M.twice (n - 32 : Nat)).toArray) ∧ Below w.heap.size w w' := by
  subst hh
  subst hv
  exact sort_any cy T p n c M w hl hS hT hs3 hn hc hM
theorem run_eq4s {o : Oper} {a : Act} {t t' : TypeId} {x y : Operand} {b s c d : Int} (ho : o.op = .binOp .eql t x y t') (hx : a.eval x = .agg #[.int .i64 b, .int .i64 s, .int .i64 c, .int .i64 d]) (hy : a.eval y = .agg #[.int .i64 b, .int .i64 s, .int .i64 c, .int .i64 d])
    (hu : Try.prog.underlying t = some (.array 4 3)) (hg : ∀ X Y (w : World), (eqGuard .eql t x y (.agg X) (.agg Y)).run Try.prog w = .ok () w) (w : World) : (execOp a.eval o).run Try.prog w = .ok (.value (.bool true)) w := by
  simpa using run_eq4 ho hx hy hu hg w
theorem a1_len : (putL 3 2 (-5)).length = 9 := putL_size (k := 3) (s := 2) (v := -5) (by decide)
theorem a2_len : (putL 4 1 0).length = 9 := putL_size (k := 4) (s := 1) (v := 0) (by decide)
def ma : Ml := addStale (accept m0 3 (-5))
theorem anchor_sort : sort (258 % 256) [putL 3 2 (-5), putL 4 1 0] = ma := by
  rw [show ((258 : Int) % 256) = 2 from rfl]
  show mstep 2 (mstep 2 m0 (putL 3 2 (-5))) (putL 4 1 0) = _
  have e : putE 4 1 0 = 0 := by decide
  rw [step_put (by decide) rfl, step_stale (get_put e).1 (by rw [(get_put e).2]; decide)]
  rfl
/-- Are texts too great to be asked? -/
def gr (T : List Tx) : Bool := T.any (fun t => decide (300 < t.L.length)) || decide (100 < T.length)
theorem gr_no {T : List Tx} (h : gr T = false) : Short T ∧ T.length ≤ 100 := by
  unfold gr at h
  rw [Bool.or_eq_false_iff] at h
  refine ⟨fun t ht => ?_, by have := of_decide_eq_false h.2; omega⟩
  have h1 := List.any_eq_false.1 h.1 t ht
  simpa using h1
theorem gr_yes {T : List Tx} {i : Nat} (hi : i < T.length) (h : 300 < (T[i]!).L.length) : gr T = true := by
  unfold gr
  rw [Bool.or_eq_true]
  exact .inl (List.any_eq_true.2 ⟨_, mem_at hi, by simpa using h⟩)
theorem gr_end {T : List Tx} {n : Nat} (hl : T.length = n) (h : ∀ j, j < n → (T[j]!).L.length ≤ 300) : gr T = decide (100 < n) := by
  unfold gr
  have e : T.any (fun t => decide (300 < t.L.length)) = false := by
    rw [List.any_eq_false]
    intro t ht
    obtain ⟨j, hj, rfl⟩ := List.mem_iff_getElem.1 ht
    have := h j (by omega)
    rw [getElem!_pos T j hj] at this
    simpa using this
  rw [e, Bool.false_or, hl]
set_option maxHeartbeats 2000000 in
theorem great_any (T : List Tx) (p : Option Addr) (n c : Nat) (w : World) (hl : T.length = n) (hS : Reads w p (flat tx T)) (hm : n ≤ maxLen) :
    Calls Try.prog 9 #[.slice p n c] w fun e w' => e = .returned (.bool (gr T)) ∧ Below w.heap.size w w' := by
  have hm2 : n ≤ 9223372036854775807 := hm
  refine calls_sx Try.func9 rfl ?_
  simp only [Try.ntmps9, List.size_toArray, List.length_cons, List.length_nil, Nat.reduceAdd, Nat.reduceSub, Array.replicate_succ, Array.replicate_zero, List.push_toArray, List.append_toArray, List.nil_append, List.cons_append]
  refine wc_seq ?_
  refine wc_region ?_
  refine wl_val (.bool false) rfl (fun _ => rfl) ?_
  simp only [Act.put, List.setIfInBounds_toArray, List.set_cons_zero, List.set_cons_succ]
  refine wl_nil ?_
  refine we_then ?_
  refine wc_seq ?_
  refine wc_seq ?_
  refine wc_region ?_
  refine wl_val (.slice p n c) rfl (fun _ => rfl) ?_
  simp only [Act.put, List.setIfInBounds_toArray, List.set_cons_zero, List.set_cons_succ]
  refine wl_val (.int .i64 (n : Int)) rfl (fun w => er_len rfl rfl Try.underlying22 w) ?_
  simp only [Act.put, List.setIfInBounds_toArray, List.set_cons_zero, List.set_cons_succ]
  refine wl_val (.int .i64 0) rfl (fun _ => rfl) ?_
  simp only [Act.put, List.setIfInBounds_toArray, List.set_cons_zero, List.set_cons_succ]
  refine wl_nil ?_
  refine we_then ?_
  refine wc_block ?_
  refine wc_loop (fun (zz : Nat × Value × Value × Value × Value × Value × Value × Value × Value × Value) => match zz with | ⟨i, u2, u4, u8, u9, u10, u11, u12, u13, u14⟩ => ({ tmps := #[.slice p n c, undef, u2, undef, u4, .slice p n c, .int .i64 (n : Int), .int .i64 (i : Int), u8, u9, u10, u11, u12, u13, u14, undef, undef, undef], defers := [] } : Act)) (fun (zz : Nat × Value × Value × Value × Value × Value × Value × Value × Value × Value) => match zz with | ⟨i, u2, u4, u8, u9, u10, u11, u12, u13, u14⟩ => []) (fun (zz : Nat × Value × Value × Value × Value × Value × Value × Value × Value × Value) => match zz with | ⟨i, u2, u4, u8, u9, u10, u11, u12, u13, u14⟩ => i ≤ n ∧ ∀ j, j < i → (T[j]!).L.length ≤ 300) (fun (zz : Nat × Value × Value × Value × Value × Value × Value × Value × Value × Value) => match zz with | ⟨i, u2, u4, u8, u9, u10, u11, u12, u13, u14⟩ => n - i) ⟨0, _, _, _, _, _, _, _, _, _⟩ ⟨Nat.zero_le _, fun j hj => absurd hj (Nat.not_lt_zero j)⟩ rfl List.Sublist.slnil ?_
  rintro ⟨i, u2, u4, u8, u9, u10, u11, u12, u13, u14⟩ hφ
  (try dsimp only at hφ ⊢)
  obtain ⟨b1, b2⟩ := hφ
  refine wc_seq ?_
  refine wc_region ?_
  refine wl_val (.bool (decide ((i : Int) < (n : Int)))) rfl (fun w => run_cmp rfl rfl rfl Try.underlying3 rfl w) ?_
  simp only [Act.put, List.setIfInBounds_toArray, List.set_cons_zero, List.set_cons_succ]
  refine wl_nil ?_
  refine we_then ?_
  refine wc_seq ?_
  cases h1 : (decide ((i : Int) < (n : Int)))
  · skip
    have p1 : ¬ ((i : Int) < (n : Int)) := of_decide_eq_false h1
    refine wc_false rfl ?_
    refine wc_exit ?_
    refine we_then_exit ?_
    refine we_then_exit ?_
    refine we_in_here ?_
    refine we_then ?_
    refine wc_seq ?_
    refine wc_region ?_
    refine wl_val (.slice p n c) rfl (fun _ => rfl) ?_
    simp only [Act.put, List.setIfInBounds_toArray, List.set_cons_zero, List.set_cons_succ]
    refine wl_val (.int .i64 (n : Int)) rfl (fun w => er_len rfl rfl Try.underlying22 w) ?_
    simp only [Act.put, List.setIfInBounds_toArray, List.set_cons_zero, List.set_cons_succ]
    refine wl_val (.bool (decide (100 < (n : Int)))) rfl (fun w => run_cmp rfl rfl rfl Try.underlying3 rfl w) ?_
    simp only [Act.put, List.setIfInBounds_toArray, List.set_cons_zero, List.set_cons_succ]
    refine wl_val (.bool (decide (100 < (n : Int)))) rfl (fun _ => rfl) ?_
    simp only [Act.put, List.setIfInBounds_toArray, List.set_cons_zero, List.set_cons_succ]
    refine wl_nil ?_
    refine we_then ?_
    refine wc_ret ?_
    refine we_ret1 (.bool (decide (100 < (n : Int)))) rfl rfl rfl (fun w1 hE => ?_)
    have e1 := gr_end hl (fun j hj => b2 j (by omega))
    exact ⟨by rw [e1]; simp; omega, hE.below⟩
  · skip
    have p1 : (i : Int) < (n : Int) := of_decide_eq_true h1
    refine wc_true rfl ?_
    refine wc_skip ?_
    refine we_then ?_
    refine wc_seq ?_
    refine wc_block ?_
    refine wc_seq ?_
    refine wc_region ?_
    refine wl_read (eaddr p (i * 1)) rfl (er_index i 1 (sl_old hS) rfl rfl rfl rfl (by omega) (tx_len1 hl) (by decide) Try.underlying22 (by kernel_rfl)) ?_
    simp only [Act.put, List.setIfInBounds_toArray, List.set_cons_zero, List.set_cons_succ]
    refine wl_read (.slice ((T[i]!).p) ((T[i]!).L.length) ((T[i]!).c)) rfl (er_cell (i * 1) (.slice ((T[i]!).p) ((T[i]!).L.length) ((T[i]!).c)) (sl_old hS) rfl rfl (flat_cell (enc := tx) (fun _ => rfl) T i 0 (by omega) (by decide)) Try.isAgg45) ?_
    simp only [Act.put, List.setIfInBounds_toArray, List.set_cons_zero, List.set_cons_succ]
    refine wl_val (.slice ((T[i]!).p) ((T[i]!).L.length) ((T[i]!).c)) rfl (fun _ => rfl) ?_
    simp only [Act.put, List.setIfInBounds_toArray, List.set_cons_zero, List.set_cons_succ]
    refine wl_nil ?_
    refine we_then ?_
    refine wc_seq ?_
    refine wc_region ?_
    refine wl_val (.slice ((T[i]!).p) ((T[i]!).L.length) ((T[i]!).c)) rfl (fun _ => rfl) ?_
    simp only [Act.put, List.setIfInBounds_toArray, List.set_cons_zero, List.set_cons_succ]
    refine wl_val (.int .i64 (((T[i]!).L.length : Nat) : Int)) rfl (fun w => er_len rfl rfl Try.underlying45 w) ?_
    simp only [Act.put, List.setIfInBounds_toArray, List.set_cons_zero, List.set_cons_succ]
    refine wl_val (.bool (decide (300 < (((T[i]!).L.length : Nat) : Int)))) rfl (fun w => run_cmp rfl rfl rfl Try.underlying3 rfl w) ?_
    simp only [Act.put, List.setIfInBounds_toArray, List.set_cons_zero, List.set_cons_succ]
    refine wl_nil ?_
    refine we_then ?_
    cases h2 : (decide (300 < (((T[i]!).L.length : Nat) : Int)))
    · skip
      have p2 : ¬ (300 < (((T[i]!).L.length : Nat) : Int)) := of_decide_eq_false h2
      refine wc_false rfl ?_
      refine wc_skip ?_
      refine we_in ?_
      refine we_then ?_
      refine wc_region ?_
      refine wl_val (.int .i64 ((i + 1 : Nat) : Int)) rfl (fun w => run_nat (X := i) (Y := 1) (Z := i + 1) rfl rfl rfl rfl (by omega) w) ?_
      simp only [Act.put, List.setIfInBounds_toArray, List.set_cons_zero, List.set_cons_succ]
      refine wl_val (.int .i64 ((i + 1 : Nat) : Int)) rfl (fun _ => rfl) ?_
      simp only [Act.put, List.setIfInBounds_toArray, List.set_cons_zero, List.set_cons_succ]
      refine wl_nil ?_
      exact we_meet ⟨(i + 1), _, _, _, _, _, _, _, _, _⟩ ⟨⟨by (try dsimp only); omega, fun j hj => by rcases Nat.lt_or_eq_of_le (Nat.le_of_lt_succ hj) with h | h; exact b2 j h; subst h; omega⟩, by (try dsimp only); omega⟩ rfl List.Sublist.slnil
    · skip
      have p2 : 300 < (((T[i]!).L.length : Nat) : Int) := of_decide_eq_true h2
      refine wc_true rfl ?_
      refine wc_seq ?_
      refine wc_region ?_
      refine wl_val (.bool true) rfl (fun _ => rfl) ?_
      simp only [Act.put, List.setIfInBounds_toArray, List.set_cons_zero, List.set_cons_succ]
      refine wl_nil ?_
      refine we_then ?_
      refine wc_ret ?_
      refine we_in_ret ?_
      refine we_then_ret ?_
      refine we_then_ret ?_
      refine we_in_ret ?_
      refine we_then_ret ?_
      refine we_ret1 (.bool true) rfl rfl rfl (fun w1 hE => ?_)
      exact ⟨by rw [gr_yes (T := T) (i := i) (by omega) (by omega)], hE.below⟩
set_option maxHeartbeats 2000000 in
theorem anchor_any  (w : World) :
    Calls Try.prog 8 #[] w fun e w' => e = .returned (.bool true) ∧ Below w.heap.size w w' := by
  refine calls_sx Try.func8 rfl ?_
  simp only [Try.ntmps8, List.size_toArray, List.length_nil, Nat.reduceSub, Array.replicate_succ, Array.replicate_zero, List.push_toArray, List.append_toArray, List.nil_append, List.cons_append]
  refine wc_seq ?_
  refine wc_region ?_
  refine wl_val (.bool false) rfl (fun _ => rfl) ?_
  simp only [Act.put, List.setIfInBounds_toArray, List.set_cons_zero]
  refine wl_nil ?_
  refine we_then ?_
  refine wc_seq ?_
  refine wc_region ?_
  refine wl_val (.agg #[.int .i64 3, .int .i64 2, .int .i64 (-5)]) rfl (fun _ => by go_simp) ?_
  simp only [Act.put, List.setIfInBounds_toArray, List.set_cons_zero, List.set_cons_succ]
  refine wl_call_env (ι := Nat) 15 #[.agg #[.int .i64 3, .int .i64 2, .int .i64 (-5)]] (fun g1 => .tuple #[.slice (some ⟨g1, 0, none⟩) 9 9, .int .i64 0]) (fun g1 => [⟨g1, (flat ub (putL 3 2 (-5))).toArray, 5⟩]) (fun _ => True) rfl (fun _ => by go_simp) (fun W hE => put_yes (by decide) a1_len W) ?_
  rintro g1 -
  simp only [List.cons_append, List.nil_append, Act.put, List.setIfInBounds_toArray, List.set_cons_zero, List.set_cons_succ]
  refine wl_val (.tuple #[.slice (some ⟨g1, 0, none⟩) 9 9, .int .i64 0]) rfl (fun _ => rfl) ?_
  simp only [Act.put, List.setIfInBounds_toArray, List.set_cons_zero, List.set_cons_succ]
  refine wl_val (.slice (some ⟨g1, 0, none⟩) 9 9) rfl (fun _ => by go_simp) ?_
  simp only [Act.put, List.setIfInBounds_toArray, List.set_cons_zero, List.set_cons_succ]
  refine wl_val (.int .i64 0) rfl (fun _ => by go_simp) ?_
  simp only [Act.put, List.setIfInBounds_toArray, List.set_cons_zero, List.set_cons_succ]
  refine wl_val (.slice (some ⟨g1, 0, none⟩) 9 9) rfl (fun _ => rfl) ?_
  simp only [Act.put, List.setIfInBounds_toArray, List.set_cons_zero, List.set_cons_succ]
  refine wl_val (.int .i64 0) rfl (fun _ => rfl) ?_
  simp only [Act.put, List.setIfInBounds_toArray, List.set_cons_zero, List.set_cons_succ]
  refine wl_nil ?_
  refine we_then ?_
  refine wc_seq ?_
  refine wc_region ?_
  refine wl_val (.agg #[.int .i64 4, .int .i64 1, .int .i64 0]) rfl (fun _ => by go_simp) ?_
  simp only [Act.put, List.setIfInBounds_toArray, List.set_cons_zero, List.set_cons_succ]
  refine wl_call_env (ι := Nat) 15 #[.agg #[.int .i64 4, .int .i64 1, .int .i64 0]] (fun g2 => .tuple #[.slice (some ⟨g2, 0, none⟩) 9 9, .int .i64 0]) (fun g2 => [⟨g2, (flat ub (putL 4 1 0)).toArray, 5⟩]) (fun _ => True) rfl (fun _ => by go_simp) (fun W hE => put_yes (by decide) a2_len W) ?_
  rintro g2 -
  simp only [List.cons_append, List.nil_append, Act.put, List.setIfInBounds_toArray, List.set_cons_zero, List.set_cons_succ]
  refine wl_val (.tuple #[.slice (some ⟨g2, 0, none⟩) 9 9, .int .i64 0]) rfl (fun _ => rfl) ?_
  simp only [Act.put, List.setIfInBounds_toArray, List.set_cons_zero, List.set_cons_succ]
  refine wl_val (.slice (some ⟨g2, 0, none⟩) 9 9) rfl (fun _ => by go_simp) ?_
  simp only [Act.put, List.setIfInBounds_toArray, List.set_cons_zero, List.set_cons_succ]
  refine wl_val (.int .i64 0) rfl (fun _ => by go_simp) ?_
  simp only [Act.put, List.setIfInBounds_toArray, List.set_cons_zero, List.set_cons_succ]
  refine wl_val (.slice (some ⟨g2, 0, none⟩) 9 9) rfl (fun _ => rfl) ?_
  simp only [Act.put, List.setIfInBounds_toArray, List.set_cons_zero, List.set_cons_succ]
  refine wl_val (.int .i64 0) rfl (fun _ => rfl) ?_
  simp only [Act.put, List.setIfInBounds_toArray, List.set_cons_zero, List.set_cons_succ]
  refine wl_nil ?_
  refine we_then ?_
  refine wc_seq ?_
  refine wc_region ?_
  refine wl_val (.slice (some ⟨g1, 0, none⟩) 9 9) rfl (fun _ => rfl) ?_
  simp only [Act.put, List.setIfInBounds_toArray, List.set_cons_zero, List.set_cons_succ]
  refine wl_val (.slice (some ⟨g2, 0, none⟩) 9 9) rfl (fun _ => rfl) ?_
  simp only [Act.put, List.setIfInBounds_toArray, List.set_cons_zero, List.set_cons_succ]
  refine wl_lit (e := 45) #[.slice (some ⟨g1, 0, none⟩) 9 9, .slice (some ⟨g2, 0, none⟩) 9 9] 2 rfl (fun _ => by go_simp) ?_
  intro g3
  simp only [Act.put, List.setIfInBounds_toArray, List.set_cons_zero, List.set_cons_succ]
  refine wl_call_at 10 #[.int .i64 258, .slice (some ⟨g3, 0, none⟩) 2 2] (.agg #[.bool false, .bool false, .bool false, .bool true, .bool false, .bool false, .int .i64 0, .int .i64 0, .int .i64 0, .int .i64 (-5), .int .i64 0, .int .i64 0, .int .i64 0, .int .i64 1, .int .i64 0, .int .i64 0]) rfl (fun _ => by go_simp) (fun W hE => sort_any 258 [⟨some ⟨g1, 0, none⟩, putL 3 2 (-5), 9⟩, ⟨some ⟨g2, 0, none⟩, putL 4 1 0, 9⟩] _ 2 2 ma W rfl ((sl_txlit 0 (T := [⟨some ⟨g1, 0, none⟩, putL 3 2 (-5), 9⟩, ⟨some ⟨g2, 0, none⟩, putL 4 1 0, 9⟩]) rfl rfl) W hE) (ok_cons ((sl_mk 2 (L := putL 3 2 (-5)) rfl) W hE) (Nat.le_of_eq a1_len) (show 9 ≤ maxLen by decide) (ok_cons ((sl_mk 1 (L := putL 4 1 0) rfl) W hE) (Nat.le_of_eq a2_len) (show 9 ≤ maxLen by decide) (ok_nil W))) (short_cons (Nat.le_trans (Nat.le_of_eq a1_len) (by decide)) (short_cons (Nat.le_trans (Nat.le_of_eq a2_len) (by decide)) short_nil)) (by decide) (by decide) anchor_sort) ?_
  simp only [Act.put, List.setIfInBounds_toArray, List.set_cons_zero, List.set_cons_succ]
  refine wl_new 28 (#[.bool false, .bool false, .bool false, .bool false, .bool false, .bool false, .int .i64 0, .int .i64 0, .int .i64 0, .int .i64 0, .int .i64 0, .int .i64 0, .int .i64 0, .int .i64 0, .int .i64 0, .int .i64 0]) rfl (fun _ => by go_simp) ?_
  intro g4
  simp only [Act.put, List.setIfInBounds_toArray, List.set_cons_zero, List.set_cons_succ]
  refine wl_store 0 28 (.tmp 5) (.tmp 21) (#[.bool false, .bool false, .bool false, .bool true, .bool false, .bool false, .int .i64 0, .int .i64 0, .int .i64 0, .int .i64 (-5), .int .i64 0, .int .i64 0, .int .i64 0, .int .i64 1, .int .i64 0, .int .i64 0]) rfl rfl rfl rfl rfl (by kernel_rfl) rfl (by simp [Value.oneCell']) ?_
  simp only [Act.put, List.set_cons_zero]
  refine wl_nil ?_
  refine we_then ?_
  refine wc_seq ?_
  refine wc_region ?_
  refine wl_load 28 (.tmp 5) (own_row 0 rfl) rfl rfl rfl Try.underlying28 rfl (by kernel_rfl) ?_
  simp only [Act.put, List.setIfInBounds_toArray, List.set_cons_zero, List.set_cons_succ]
  refine wl_call 12 #[.agg #[.bool false, .bool false, .bool false, .bool true, .bool false, .bool false, .int .i64 0, .int .i64 0, .int .i64 0, .int .i64 (-5), .int .i64 0, .int .i64 0, .int .i64 0, .int .i64 1, .int .i64 0, .int .i64 0], .int .i64 3] (.tuple #[.int .i64 (-5), .bool true]) rfl (fun _ => by go_simp) (fun W => of_any ma.has ma.val 0 1 0 0 3 W) ?_
  simp only [Act.put, List.setIfInBounds_toArray, List.set_cons_zero, List.set_cons_succ]
  refine wl_val (.tuple #[.int .i64 (-5), .bool true]) rfl (fun _ => rfl) ?_
  simp only [Act.put, List.setIfInBounds_toArray, List.set_cons_zero, List.set_cons_succ]
  refine wl_val (.int .i64 (-5)) rfl (fun _ => by go_simp) ?_
  simp only [Act.put, List.setIfInBounds_toArray, List.set_cons_zero, List.set_cons_succ]
  refine wl_val (.bool true) rfl (fun _ => by go_simp) ?_
  simp only [Act.put, List.setIfInBounds_toArray, List.set_cons_zero, List.set_cons_succ]
  refine wl_val (.int .i64 (-5)) rfl (fun _ => rfl) ?_
  simp only [Act.put, List.setIfInBounds_toArray, List.set_cons_zero, List.set_cons_succ]
  refine wl_val (.bool true) rfl (fun _ => rfl) ?_
  simp only [Act.put, List.setIfInBounds_toArray, List.set_cons_zero, List.set_cons_succ]
  refine wl_nil ?_
  refine we_then ?_
  refine wc_seq ?_
  refine wc_region ?_
  refine wl_val (.int .i64 0) rfl (fun _ => rfl) ?_
  simp only [Act.put, List.setIfInBounds_toArray, List.set_cons_zero, List.set_cons_succ]
  refine wl_val (.bool true) rfl (fun w => run_cmp rfl rfl rfl Try.underlying46 rfl w) ?_
  simp only [Act.put, List.setIfInBounds_toArray, List.set_cons_zero, List.set_cons_succ]
  refine wl_val (.bool true) rfl (fun _ => rfl) ?_
  simp only [Act.put, List.setIfInBounds_toArray, List.set_cons_zero, List.set_cons_succ]
  refine wl_val (.int .i64 0) rfl (fun _ => rfl) ?_
  simp only [Act.put, List.setIfInBounds_toArray, List.set_cons_zero, List.set_cons_succ]
  refine wl_val (.bool true) rfl (fun w => run_cmp rfl rfl rfl Try.underlying46 rfl w) ?_
  simp only [Act.put, List.setIfInBounds_toArray, List.set_cons_zero, List.set_cons_succ]
  refine wl_val (.bool true) rfl (fun _ => rfl) ?_
  simp only [Act.put, List.setIfInBounds_toArray, List.set_cons_zero, List.set_cons_succ]
  refine wl_val (.bool true) rfl (fun _ => rfl) ?_
  simp only [Act.put, List.setIfInBounds_toArray, List.set_cons_zero, List.set_cons_succ]
  refine wl_val (.bool true) rfl (fun _ => rfl) ?_
  simp only [Act.put, List.setIfInBounds_toArray, List.set_cons_zero, List.set_cons_succ]
  refine wl_val (.bool true) rfl (fun _ => rfl) ?_
  simp only [Act.put, List.setIfInBounds_toArray, List.set_cons_zero, List.set_cons_succ]
  refine wl_val (.bool true) rfl (fun _ => rfl) ?_
  simp only [Act.put, List.setIfInBounds_toArray, List.set_cons_zero, List.set_cons_succ]
  refine wl_val (.int .i64 (-5)) rfl (fun _ => rfl) ?_
  simp only [Act.put, List.setIfInBounds_toArray, List.set_cons_zero, List.set_cons_succ]
  refine wl_val (.bool true) rfl (fun w => run_cmp rfl rfl rfl Try.underlying2 rfl w) ?_
  simp only [Act.put, List.setIfInBounds_toArray, List.set_cons_zero, List.set_cons_succ]
  refine wl_val (.bool true) rfl (fun _ => rfl) ?_
  simp only [Act.put, List.setIfInBounds_toArray, List.set_cons_zero, List.set_cons_succ]
  refine wl_val (.bool true) rfl (fun _ => rfl) ?_
  simp only [Act.put, List.setIfInBounds_toArray, List.set_cons_zero, List.set_cons_succ]
  refine wl_val (.pointer (some ⟨g4, 13, none⟩)) rfl (fun _ => by go_simp) ?_
  simp only [Act.put, List.setIfInBounds_toArray, List.set_cons_zero, List.set_cons_succ]
  refine wl_cell 3 (.tmp 41) (.int .i64 1) (own_row 0 rfl) rfl rfl rfl rfl Try.isAgg3 ?_
  simp only [Act.put, List.setIfInBounds_toArray, List.set_cons_zero, List.set_cons_succ]
  refine wl_val (.bool true) rfl (fun w => run_cmp rfl rfl rfl Try.underlying3 rfl w) ?_
  simp only [Act.put, List.setIfInBounds_toArray, List.set_cons_zero, List.set_cons_succ]
  refine wl_val (.bool true) rfl (fun _ => rfl) ?_
  simp only [Act.put, List.setIfInBounds_toArray, List.set_cons_zero, List.set_cons_succ]
  refine wl_val (.bool true) rfl (fun _ => rfl) ?_
  simp only [Act.put, List.setIfInBounds_toArray, List.set_cons_zero, List.set_cons_succ]
  refine wl_val (.pointer (some ⟨g4, 0, none⟩)) rfl (fun _ => by go_simp) ?_
  simp only [Act.put, List.setIfInBounds_toArray, List.set_cons_zero, List.set_cons_succ]
  refine wl_val (.pointer (some ⟨g4, 4, none⟩)) rfl (fun _ => by go_simp) ?_
  simp only [Act.put, List.setIfInBounds_toArray, List.set_cons_zero, List.set_cons_succ]
  refine wl_cell 4 (.tmp 47) (.bool false) (own_row 0 rfl) rfl rfl rfl rfl Try.isAgg4 ?_
  simp only [Act.put, List.setIfInBounds_toArray, List.set_cons_zero, List.set_cons_succ]
  refine wl_val (.bool true) rfl (fun _ => by go_simp) ?_
  simp only [Act.put, List.setIfInBounds_toArray, List.set_cons_zero, List.set_cons_succ]
  refine wl_val (.bool true) rfl (fun _ => rfl) ?_
  simp only [Act.put, List.setIfInBounds_toArray, List.set_cons_zero, List.set_cons_succ]
  refine wl_val (.bool true) rfl (fun _ => rfl) ?_
  simp only [Act.put, List.setIfInBounds_toArray, List.set_cons_zero]
  refine wl_nil ?_
  refine we_then ?_
  refine wc_ret ?_
  refine we_ret1 (.bool true) rfl rfl rfl (fun w1 hE => ?_)
  exact ⟨rfl, hE.below⟩
end Go.Proofs.Ytggdmchhnnjfiaa.Mlw
