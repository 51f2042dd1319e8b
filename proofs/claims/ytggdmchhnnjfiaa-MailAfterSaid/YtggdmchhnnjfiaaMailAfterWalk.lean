/-
  MailAfter: the law's walk. No condition.
-/
import Derived.Test.YtggdmchhnnjfiaaMlw
import Derived.Test.YtggdmchhnnjfiaaSj
namespace Go.Proofs.Ytggdmchhnnjfiaa.Walks
open Go.ChangeShapes Go.WideShapes Go.ChangeAt Go.RowKit
open Arr Steady Sx Sw Sl Sb Sc Cr Fr Frm Flaw Ml Si Sj Mal Mlw
set_option linter.unusedVariables false
set_option linter.unusedSimpArgs false
set_option maxRecDepth 100000

/-- The rows on the way: the list that grows, then the one text's own. -/
def ra (e : TypeId) (R0 : List Rw) (L : Nat → Bool) (γ : Nat → Own) : List Rw :=
  (if L 11 = true then (γ 11).rows e else if L 7 = true then (γ 7).rows e else if L 4 = true then (γ 4).rows e else if L 0 = true then (γ 0).rows e else []) ++ ((if L 6 = true then (γ 6).rows e else []) ++ R0)
def set1 (γ : Nat → Own) (i : Nat) (s : Own) : Nat → Own := fun j => if j = i then s else γ j
def fa (m n : Nat) (X : List Tx) (J : Tx) (Y : List Tx) (L : Nat → Bool) (γ : Nat → Own) : Prop :=
  (L 0 = true → ∃ g, γ 0 = .row g 0 #[]) ∧ (L 4 = true → (γ 4).Has 1 m (flat tx X)) ∧ (L 6 = true → ∃ g, γ 6 = .row g 1 #[.slice J.p J.L.length J.c]) ∧ (L 7 = true → (γ 7).Has 1 (m + 1) (flat tx (X ++ [J]))) ∧ (L 11 = true → (γ 11).Has 1 (m + 1 + (n - m)) (flat tx (X ++ [J] ++ Y)))
def va (p : Option Addr) (n c m : Nat) (J : Tx) (γ : Nat → Own) (k : Nat) : Value :=
  [(γ 0).val 0, .slice p n c, .int .i64 (m : Int), .slice p m c, (γ 4).val m, .slice J.p J.L.length J.c, (γ 6).val 1, (γ 7).val (m + 1), .slice p n c, .int .i64 (m : Int), .slice (subp p m c) (n - m) (c - m), (γ 11).val (m + 1 + (n - m)), (γ 11).val (m + 1 + (n - m))].getD k undef
theorem va_set {p : Option Addr} {n c m : Nat} {J : Tx} {γ : Nat → Own} {i : Nat} {s : Own} {L : Nat → Bool} (h : ∀ k, L k = true → k < 13) (hi : L i = false) (h12 : i = 11 → L 12 = false) : ∀ k, L k = true → va p n c m J (set1 γ i s) k = va p n c m J γ k := by
  intro k hk
  have hki : k ≠ i := fun e => by rw [e, hi] at hk; cases hk
  have h13 := h k hk
  have e : ∀ j, j = k ∨ (j = 11 ∧ k = 12) → set1 γ i s j = γ j := by
    intro j hj
    unfold set1
    rw [if_neg]
    intro e
    rcases hj with rfl | ⟨rfl, rfl⟩
    · exact hki e
    · rw [h12 e.symm] at hk; cases hk
  unfold va
  rcases (show k = 0 ∨ k = 1 ∨ k = 2 ∨ k = 3 ∨ k = 4 ∨ k = 5 ∨ k = 6 ∨ k = 7 ∨ k = 8 ∨ k = 9 ∨ k = 10 ∨ k = 11 ∨ k = 12 by omega) with rfl | rfl | rfl | rfl | rfl | rfl | rfl | rfl | rfl | rfl | rfl | rfl | rfl
  · show (set1 γ i s 0).val 0 = _; rw [e 0 (.inl rfl)]; rfl
  · rfl
  · rfl
  · rfl
  · show (set1 γ i s 4).val m = _; rw [e 4 (.inl rfl)]; rfl
  · rfl
  · show (set1 γ i s 6).val 1 = _; rw [e 6 (.inl rfl)]; rfl
  · show (set1 γ i s 7).val (m + 1) = _; rw [e 7 (.inl rfl)]; rfl
  · rfl
  · rfl
  · rfl
  · show (set1 γ i s 11).val (m + 1 + (n - m)) = _; rw [e 11 (.inl rfl)]; rfl
  · show (set1 γ i s 11).val (m + 1 + (n - m)) = _; rw [e 11 (.inr ⟨rfl, rfl⟩)]; rfl
theorem or_junk {J : List UInt8} {s : Int} (h : getE J ≠ 0 ∨ (getF J).2.1 ≠ s) : getE J ≠ 0 ∨ (getF J).2.1 ≠ s := h
theorem run_move {P : Program} {o : Oper} {a : Act} {x : Operand} {v : Value} (ho : o.op = .move x) (hx : a.eval x = v) (w : World) : (execOp a.eval o).run P w = .ok (.value v) w := by
  unfold execOp
  simp [ho, hx]
theorem run_assign {P : Program} {o : Oper} {a : Act} {x : Operand} {v : Value} (ho : o.op = .assign x) (hx : a.eval x = v) (w : World) : (execOp a.eval o).run P w = .ok (.value v) w := by
  unfold execOp
  simp [ho, hx]
theorem we_perm {Q : Exit → Act → World → Prop} {e : Exit} {a : Act} {w0 : World} {R R' : List Rw} (hp : R.Perm R') (h : We Q e a w0 R') : We Q e a w0 R := ⟨fun w hE => h.run w (Env.perm hE hp)⟩
theorem perm3 (A B C : List Rw) : (A ++ (B ++ C)).Perm (C ++ (A ++ (B ++ []))) := by
  rw [List.append_nil, ← List.append_assoc]
  exact List.perm_append_comm
theorem reads_tx_take {w : World} {p : Option Addr} {T : List Tx} (k : Nat) (h : Reads w p (flat tx T)) : Reads w p (flat tx (T.take k)) := by
  intro j u hj
  rw [tx_take, List.getElem?_take] at hj
  split at hj
  · exact h j u hj
  · cases hj
theorem reads_tx_drop {w : World} {p : Option Addr} {T : List Tx} (k c : Nat) (hc : T.length ≤ c) (h : Reads w p (flat tx T)) : Reads w (subp p k c) (flat tx (T.drop k)) := by
  have := sl_tx_drop (w0 := w) (R := []) k c hc (sl_old h)
  exact this w (Env.nil w)
set_option maxHeartbeats 6000000 in
theorem mailAfter_walk0 (cy : Int) (wcy : (Lit.int .i64 cy).wf = true) (T : List Tx) (p : Option Addr) (n c : Nat) (a : Int) (J : Tx) (w : World) (hl : T.length = n) (hS0 : Reads w p (flat tx T)) (hT : OkT w T) (hc : n ≤ c) (hm : c ≤ maxLen) (hJ : Reads w J.p (flat ub J.L)) (hJc : J.L.length ≤ J.c) (hJm : J.c ≤ maxLen) :
    Calls Try.prog 7 #[.int .i64 cy, .slice p n c, .int .i64 a, .slice J.p J.L.length J.c] w fun e w' => e = .returned (.bool true) ∧ Below w.heap.size w w' := by
  obtain ⟨M, hM⟩ : ∃ M, sort (cy % 256) (ls T) = M := ⟨_, rfl⟩
  have cb := counts_sort (cy % 256) (ls T)
  rw [hM] at cb
  refine calls_sx Try.func7 rfl ?_
  simp only [Try.ntmps7, List.size_toArray, List.length_cons, List.length_nil, Nat.reduceAdd, Nat.reduceSub, Array.replicate_succ, Array.replicate_zero, List.push_toArray, List.append_toArray, List.nil_append, List.cons_append]
  refine wc_seq ?_
  refine wc_region ?_
  refine wl_val (.bool false) rfl (fun _ => rfl) ?_
  simp only [Act.put, List.setIfInBounds_toArray, List.set_cons_zero, List.set_cons_succ]
  refine wl_nil ?_
  refine we_then ?_
  refine wc_seq ?_
  refine wc_seq ?_
  refine wc_region ?_
  refine wl_call 8 #[] (.bool true) rfl (fun _ => by go_simp) (fun W => Mlw.anchor_any W) ?_
  simp only [Act.put, List.setIfInBounds_toArray, List.set_cons_zero, List.set_cons_succ]
  refine wl_val (.bool false) rfl (fun _ => by go_simp) ?_
  simp only [Act.put, List.setIfInBounds_toArray, List.set_cons_zero, List.set_cons_succ]
  refine wl_nil ?_
  refine we_then ?_
  refine wc_false rfl ?_
  refine wc_skip ?_
  refine we_then ?_
  refine wc_seq ?_
  refine wc_seq ?_
  refine wc_region ?_
  refine wl_val (.slice p n c) rfl (fun _ => rfl) ?_
  simp only [Act.put, List.setIfInBounds_toArray, List.set_cons_zero, List.set_cons_succ]
  refine wl_call_at 9 #[.slice p n c] (.bool (gr T)) rfl (fun _ => by go_simp) (fun W hE => great_any T _ _ _ W hl ((sl_old hS0) W hE) (Nat.le_trans hc hm)) ?_
  simp only [Act.put, List.setIfInBounds_toArray, List.set_cons_zero, List.set_cons_succ]
  refine wl_val (.bool (gr T)) rfl (fun _ => rfl) ?_
  simp only [Act.put, List.setIfInBounds_toArray, List.set_cons_zero, List.set_cons_succ]
  cases h1 : (gr T)
  · skip
    obtain ⟨sh, l1⟩ := gr_no h1
    have l2 : n ≤ 100 := by omega
    refine wl_val (.slice p n c) rfl (fun _ => rfl) ?_
    simp only [Act.put, List.setIfInBounds_toArray, List.set_cons_zero, List.set_cons_succ]
    refine wl_val (.int .i64 (n : Int)) rfl (fun w => er_len rfl rfl Try.underlying22 w) ?_
    simp only [Act.put, List.setIfInBounds_toArray, List.set_cons_zero, List.set_cons_succ]
    refine wl_val (.bool (decide (31 < (n : Int)))) rfl (fun w => run_cmp rfl rfl rfl Try.underlying3 rfl w) ?_
    simp only [Act.put, List.setIfInBounds_toArray, List.set_cons_zero, List.set_cons_succ]
    refine wl_val (.bool (decide (31 < (n : Int)))) rfl (fun _ => rfl) ?_
    simp only [Act.put, List.setIfInBounds_toArray, List.set_cons_zero, List.set_cons_succ]
    refine wl_val (.bool (decide (31 < (n : Int)))) rfl (fun _ => rfl) ?_
    simp only [Act.put, List.setIfInBounds_toArray, List.set_cons_zero, List.set_cons_succ]
    cases h2 : (decide (31 < (n : Int)))
    · skip
      have p2 : ¬ (31 < (n : Int)) := of_decide_eq_false h2
      refine wl_val (.int .i64 a) rfl (fun _ => rfl) ?_
      simp only [Act.put, List.setIfInBounds_toArray, List.set_cons_zero, List.set_cons_succ]
      refine wl_val (.bool (decide (a < 0))) rfl (fun w => run_cmp rfl rfl rfl Try.underlying3 rfl w) ?_
      simp only [Act.put, List.setIfInBounds_toArray, List.set_cons_zero, List.set_cons_succ]
      refine wl_val (.bool (decide (a < 0))) rfl (fun _ => rfl) ?_
      simp only [Act.put, List.setIfInBounds_toArray, List.set_cons_zero, List.set_cons_succ]
      refine wl_val (.bool (decide (a < 0))) rfl (fun _ => rfl) ?_
      simp only [Act.put, List.setIfInBounds_toArray, List.set_cons_zero, List.set_cons_succ]
      cases h3 : (decide (a < 0))
      · skip
        have p3 : ¬ (a < 0) := of_decide_eq_false h3
        refine wl_val (.int .i64 a) rfl (fun _ => rfl) ?_
        simp only [Act.put, List.setIfInBounds_toArray, List.set_cons_zero, List.set_cons_succ]
        refine wl_val (.slice p n c) rfl (fun _ => rfl) ?_
        simp only [Act.put, List.setIfInBounds_toArray, List.set_cons_zero, List.set_cons_succ]
        refine wl_val (.int .i64 (n : Int)) rfl (fun w => er_len rfl rfl Try.underlying22 w) ?_
        simp only [Act.put, List.setIfInBounds_toArray, List.set_cons_zero, List.set_cons_succ]
        refine wl_val (.bool (decide ((n : Int) < a))) rfl (fun w => run_cmp rfl rfl rfl Try.underlying3 rfl w) ?_
        simp only [Act.put, List.setIfInBounds_toArray, List.set_cons_zero, List.set_cons_succ]
        refine wl_val (.bool (decide ((n : Int) < a))) rfl (fun _ => rfl) ?_
        simp only [Act.put, List.setIfInBounds_toArray, List.set_cons_zero, List.set_cons_succ]
        refine wl_val (.bool (decide ((n : Int) < a))) rfl (fun _ => rfl) ?_
        simp only [Act.put, List.setIfInBounds_toArray, List.set_cons_zero, List.set_cons_succ]
        cases h4 : (decide ((n : Int) < a))
        · skip
          have p4 : ¬ ((n : Int) < a) := of_decide_eq_false h4
          refine wl_val (.slice J.p J.L.length J.c) rfl (fun _ => rfl) ?_
          simp only [Act.put, List.setIfInBounds_toArray, List.set_cons_zero, List.set_cons_succ]
          refine wl_val (.int .i64 (J.L.length : Int)) rfl (fun w => er_len rfl rfl Try.underlying45 w) ?_
          simp only [Act.put, List.setIfInBounds_toArray, List.set_cons_zero, List.set_cons_succ]
          refine wl_val (.bool (decide (300 < (J.L.length : Int)))) rfl (fun w => run_cmp rfl rfl rfl Try.underlying3 rfl w) ?_
          simp only [Act.put, List.setIfInBounds_toArray, List.set_cons_zero, List.set_cons_succ]
          refine wl_val (.bool (decide (300 < (J.L.length : Int)))) rfl (fun _ => rfl) ?_
          simp only [Act.put, List.setIfInBounds_toArray, List.set_cons_zero, List.set_cons_succ]
          refine wl_nil ?_
          refine we_then ?_
          cases h5 : (decide (300 < (J.L.length : Int)))
          · skip
            have p5 : ¬ (300 < (J.L.length : Int)) := of_decide_eq_false h5
            refine wc_false rfl ?_
            refine wc_skip ?_
            refine we_then ?_
            refine wc_seq ?_
            refine wc_seq ?_
            obtain ⟨m, rfl⟩ := Int.eq_ofNat_of_zero_le (show 0 ≤ a by omega)
            have hm2 : m ≤ n := by omega
            have hJ3 : J.L.length ≤ 300 := by omega
            have lpA : (T.take m ++ [J] ++ T.drop m).length = m + 1 + (n - m) := by rw [List.length_append, List.length_append, List.length_take, List.length_drop, hl]; simp only [List.length_cons, List.length_nil]; omega
            refine wc_region ?_
            refine wl_val (.slice J.p J.L.length J.c) rfl (fun _ => rfl) ?_
            simp only [Act.put, List.setIfInBounds_toArray, List.set_cons_zero, List.set_cons_succ]
            refine wl_call_at 16 #[.slice J.p J.L.length J.c] (.tuple #[.agg #[.int .i64 ((getF J.L).1), .int .i64 ((getF J.L).2.1), .int .i64 ((getF J.L).2.2)], .int .i64 ((getE J.L : Nat) : Int)]) rfl (fun _ => by go_simp) (fun W hE => Frm.get_at J.L _ _ _ W rfl (reads_below hJ hE.below) (by omega) hJc) ?_
            simp only [Act.put, List.setIfInBounds_toArray, List.set_cons_zero, List.set_cons_succ]
            refine wl_val (.tuple #[.agg #[.int .i64 ((getF J.L).1), .int .i64 ((getF J.L).2.1), .int .i64 ((getF J.L).2.2)], .int .i64 ((getE J.L : Nat) : Int)]) rfl (fun _ => rfl) ?_
            simp only [Act.put, List.setIfInBounds_toArray, List.set_cons_zero, List.set_cons_succ]
            refine wl_val (.agg #[.int .i64 ((getF J.L).1), .int .i64 ((getF J.L).2.1), .int .i64 ((getF J.L).2.2)]) rfl (fun _ => by go_simp) ?_
            simp only [Act.put, List.setIfInBounds_toArray, List.set_cons_zero, List.set_cons_succ]
            refine wl_val (.int .i64 ((getE J.L : Nat) : Int)) rfl (fun _ => by go_simp) ?_
            simp only [Act.put, List.setIfInBounds_toArray, List.set_cons_zero, List.set_cons_succ]
            refine wl_new 43 (#[.int .i64 0, .int .i64 0, .int .i64 0]) rfl (fun _ => by go_simp) ?_
            intro g6
            simp only [Act.put, List.setIfInBounds_toArray, List.set_cons_zero, List.set_cons_succ]
            refine wl_store 0 43 (.tmp 9) (.tmp 41) (#[.int .i64 ((getF J.L).1), .int .i64 ((getF J.L).2.1), .int .i64 ((getF J.L).2.2)]) rfl rfl rfl rfl rfl (by kernel_rfl) rfl (by simp [Value.oneCell']) ?_
            simp only [Act.put, List.set_cons_zero]
            refine wl_val (.int .i64 ((getE J.L : Nat) : Int)) rfl (fun _ => rfl) ?_
            simp only [Act.put, List.setIfInBounds_toArray, List.set_cons_zero, List.set_cons_succ]
            refine wl_nil ?_
            refine we_then ?_
            refine wc_seq ?_
            refine wc_draw [.late, .late, .late, .late, .plain, .late, .plain, .late, .late] none [] 103 (by kernel_rfl) rfl (by kernel_rfl) (by kernel_rfl) ?_
            refine ws_late (.int .i64 ((getE J.L : Nat) : Int)) rfl rfl (fun _ => rfl) ?_
            simp only [Nat.reduceAdd, Act.put, List.setIfInBounds_toArray, List.set_cons_zero, List.set_cons_succ]
            refine ws_late (.bool (((getE J.L : Nat) : Int) == 0)) rfl rfl (fun w => run_cmp rfl rfl rfl Try.underlying46 rfl w) ?_
            simp only [Nat.reduceAdd, Act.put, List.setIfInBounds_toArray, List.set_cons_zero, List.set_cons_succ]
            refine ws_late (.bool (((getE J.L : Nat) : Int) == 0)) rfl rfl (fun _ => rfl) ?_
            simp only [Nat.reduceAdd, Act.put, List.setIfInBounds_toArray, List.set_cons_zero, List.set_cons_succ]
            cases h7 : (((getE J.L : Nat) : Int) == 0)
            · skip
              have p7 : ¬ (((getE J.L : Nat) : Int) = 0) := by simpa using h7
              refine ws_skip_late rfl rfl ?_
              simp only [Nat.reduceAdd, Act.put, List.setIfInBounds_toArray, List.set_cons_zero, List.set_cons_succ]
              refine ws_skip rfl rfl ?_
              simp only [Nat.reduceAdd, Act.put, List.setIfInBounds_toArray, List.set_cons_zero, List.set_cons_succ]
              refine ws_skip_late rfl rfl ?_
              simp only [Nat.reduceAdd, Act.put, List.setIfInBounds_toArray, List.set_cons_zero, List.set_cons_succ]
              refine ws_skip rfl rfl ?_
              simp only [Nat.reduceAdd, Act.put, List.setIfInBounds_toArray, List.set_cons_zero, List.set_cons_succ]
              refine ws_skip_late rfl rfl ?_
              simp only [Nat.reduceAdd, Act.put, List.setIfInBounds_toArray, List.set_cons_zero, List.set_cons_succ]
              refine ws_late (.bool false) rfl rfl (fun _ => rfl) ?_
              simp only [Nat.reduceAdd, Act.put, List.setIfInBounds_toArray, List.set_cons_zero, List.set_cons_succ]
              refine ws_nil [] trivial (by simp) ?_
              intro ps8
              simp only [fin, List.foldl_nil, List.map, List.nil_append]
              refine we_then ?_
              refine wc_false rfl ?_
              refine wc_skip ?_
              refine we_then ?_
              refine wc_seq ?_
              have sj := same_sort (s := cy % 256) (J := J.L) (by omega) (ls (T.take m)) (ls (T.drop m)) (by rw [ls_len, ls_len, List.length_take, List.length_drop]; omega)
              rw [show ls (T.take m) ++ ls (T.drop m) = ls T by rw [← ls_append, List.take_append_drop], hM] at sj
              obtain ⟨B, hB⟩ : ∃ B, sort (cy % 256) (ls (T.take m ++ [J] ++ T.drop m)) = B := ⟨_, rfl⟩
              rw [show ls (T.take m) ++ [J.L] ++ ls (T.drop m) = ls (T.take m ++ [J] ++ T.drop m) by rw [ls_append, ls_append]; rfl, hB] at sj
              have hBh := sj.has.symm
              have hBv := sj.val.symm
              have s3 := sj.twice
              have s4 := sj.wrong
              refine wc_draw_fin (Γ := Nat → Own) (va p n c m J) (ra 45 [⟨g6, #[.int .i64 ((getF J.L).1), .int .i64 ((getF J.L).2.1), .int .i64 ((getF J.L).2.2)], 43⟩]) (fa m n (T.take m) J (T.drop m)) (fun _ => .none) 103 (fun γ => ({ tmps := #[.int .i64 cy, .slice p n c, .int .i64 (m : Int), .slice J.p J.L.length J.c, undef, undef, undef, undef, .bool false, .pointer (some ⟨g6, 0, none⟩), .int .i64 ((getE J.L : Nat) : Int), .slice ((γ 11).ptr) (m + 1 + (n - m)) ((γ 11).cap), undef, undef, .bool true, .bool false, .slice p n c, .bool false, .bool false, .slice p n c, .int .i64 (n : Int), .bool false, .bool false, .bool false, .int .i64 (m : Int), .bool false, .bool false, .bool false, .int .i64 (m : Int), .slice p n c, .int .i64 (n : Int), .bool false, .bool false, .bool false, .slice J.p J.L.length J.c, .int .i64 (J.L.length : Int), .bool false, .bool false, .tuple #[.agg #[.int .i64 ((getF J.L).1), .int .i64 ((getF J.L).2.1), .int .i64 ((getF J.L).2.2)], .int .i64 ((getE J.L : Nat) : Int)], .slice J.p J.L.length J.c, .tuple #[.agg #[.int .i64 ((getF J.L).1), .int .i64 ((getF J.L).2.1), .int .i64 ((getF J.L).2.2)], .int .i64 ((getE J.L : Nat) : Int)], .agg #[.int .i64 ((getF J.L).1), .int .i64 ((getF J.L).2.1), .int .i64 ((getF J.L).2.2)], .int .i64 ((getE J.L : Nat) : Int), .int .i64 ((getE J.L : Nat) : Int), .bool false, .bool false, undef, undef, undef, undef, undef, .bool false, .slice ((γ 0).ptr) 0 ((γ 0).cap), .slice p n c, .int .i64 (m : Int), .slice p m c, .slice ((γ 4).ptr) m ((γ 4).cap), .slice J.p J.L.length J.c, .slice ((γ 6).ptr) 1 ((γ 6).cap), .slice ((γ 7).ptr) (m + 1) ((γ 7).cap), .slice p n c, .int .i64 (m : Int), .slice (subp p m c) (n - m) (c - m), .slice ((γ 11).ptr) (m + 1 + (n - m)) ((γ 11).cap), undef, undef, undef, undef, undef, undef, undef, undef, undef, undef, undef, undef, undef, undef, undef, undef, undef, undef, undef, undef, undef, undef, undef, undef, undef, undef, undef, undef, undef, undef, undef, undef, undef, undef, undef, undef, undef, undef, undef], defers := [] } : Act)) (fun γ => (γ 11).rows 45 ++ ((γ 6).rows 45 ++ [⟨g6, #[.int .i64 ((getF J.L).1), .int .i64 ((getF J.L).2.1), .int .i64 ((getF J.L).2.2)], 43⟩])) (by kernel_rfl) rfl (by kernel_rfl) rfl ⟨(fun h => Bool.noConfusion h), (fun h => Bool.noConfusion h), (fun h => Bool.noConfusion h), (fun h => Bool.noConfusion h), (fun h => Bool.noConfusion h)⟩ (fun _ => by kernel_rfl) (fun _ => rfl) ?_ ?_
              · skip
                refine sps_cons ⟨fun L γ a w h hF hE K hK => h.go rfl ?_⟩ ?_
                · rw [run_lit0 rfl Try.underlying22 (size := 1) (by kernel_rfl)]
                  have l0 : L 0 = false := h.off
                  have l4 : L 4 = false := h.non (by kernel_rfl)
                  have l7 : L 7 = false := h.non2 4 l4 (by kernel_rfl)
                  have l11 : L 11 = false := h.non2 7 l7 (by kernel_rfl)
                  refine hK (set1 γ 0 (.row w.heap.size 0 #[])) _ (va_set (fun k hk => h.within k hk) l0 (fun e => absurd e (by decide))) ⟨fun _ => ⟨_, rfl⟩, hF.2.1, hF.2.2.1, hF.2.2.2.1, hF.2.2.2.2⟩ ?_
                  have hS := hE.alloc #[] 45
                  unfold ra at hS ⊢
                  rw [l0, l4, l7, l11] at hS
                  show Env _ _ ((if one L 0 11 = true then _ else if one L 0 7 = true then _ else if one L 0 4 = true then _ else _) ++ _)
                  rw [show one L 0 11 = false from l11, show one L 0 7 = false from l7, show one L 0 4 = false from l4]
                  exact hS
                refine sps_cons (sp_val (.slice p n c) rfl (fun _ => rfl) (fun _ _ h => h) (fun _ _ => rfl) (fun L γ a w h hE => run_move (v := .slice p n c) rfl (h.out (by kernel_rfl) rfl) w)) ?_
                refine sps_cons (sp_val (.int .i64 (m : Int)) rfl (fun _ => rfl) (fun _ _ h => h) (fun _ _ => rfl) (fun L γ a w h hE => run_move (v := .int .i64 (m : Int)) rfl (h.out (by kernel_rfl) rfl) w)) ?_
                refine sps_cons (sp_val (.slice p m c) rfl (fun _ => rfl) (fun _ _ h => h) (fun _ _ => rfl) (fun L γ a w h hE => er_take (h := m) rfl (h.tmp 1 rfl (h.dep (by kernel_rfl))) (h.tmp 2 rfl (h.dep (by kernel_rfl))) rfl (by omega) Try.underlying22 (by kernel_rfl) w)) ?_
                refine sps_cons ⟨fun L γ a w h hF hE K hK => h.go rfl ?_⟩ ?_
                · have l4 : L 4 = false := h.off
                  have l7 : L 7 = false := h.non (by kernel_rfl)
                  have l11 : L 11 = false := h.non2 7 l7 (by kernel_rfl)
                  have l0 : L 0 = true := h.dep (by kernel_rfl)
                  have hS := hE
                  unfold ra at hS
                  rw [l0, l4, l7, l11] at hS
                  replace hS : Env _ w ([] ++ ((γ 0).rows 45 ++ ((if L 6 = true then (γ 6).rows 45 else []) ++ [⟨g6, #[.int .i64 ((getF J.L).1), .int .i64 ((getF J.L).2.1), .int .i64 ((getF J.L).2.2)], 43⟩]))) := hS
                  obtain ⟨gN, hgN⟩ := hF.1 l0
                  have hs : (γ 0).Has 1 0 (flat tx []) := by rw [hgN]; exact Own.has_lit gN 0 1 #[] (by decide) rfl
                  refine upon_append (bytes := 24) (m := m) (ys := flat tx (T.take m)) hS hs (reads_below (reads_tx_take m hS0) hS.below) (tx_len1 (tx_take_len hl hm2)) (flat_one tx_one _) rfl (h.tmp 0 rfl (h.dep (by kernel_rfl))) (h.tmp 3 rfl (h.dep (by kernel_rfl))) Try.underlying22 (by unfold Elem; kernel_rfl) (by decide) (by unfold maxLen; omega) (by omega) (fun s w1 h1 hE1 => ?_)
                  have h2 : s.Has 1 m (flat tx (T.take m)) := by rw [Nat.zero_add] at h1; exact h1
                  have hk := hK (set1 γ 4 s) w1 (va_set (fun k hk => h.within k hk) l4 (fun e => absurd e (by decide))) ⟨hF.1, fun _ => h2, hF.2.2.1, hF.2.2.2.1, hF.2.2.2.2⟩ ?_
                  · rw [Nat.zero_add]; exact hk
                  · unfold ra
                    show Env _ _ ((if one L 4 11 = true then _ else if one L 4 7 = true then _ else _) ++ _)
                    rw [show one L 4 11 = false from l11, show one L 4 7 = false from l7]
                    exact hE1
                refine sps_cons (sp_val (.slice J.p J.L.length J.c) rfl (fun _ => rfl) (fun _ _ h => h) (fun _ _ => rfl) (fun L γ a w h hE => run_move (v := .slice J.p J.L.length J.c) rfl (h.out (by kernel_rfl) rfl) w)) ?_
                refine sps_cons ⟨fun L γ a w h hF hE K hK => h.go rfl ?_⟩ ?_
                · rw [run_lit1 (v := .slice J.p J.L.length J.c) (z := .slice none 0 0) rfl (h.tmp 5 rfl (h.dep (by kernel_rfl))) rfl Try.underlying22 (by kernel_rfl) rfl]
                  have l6 : L 6 = false := h.off
                  have l7 : L 7 = false := h.non (by kernel_rfl)
                  have l11 : L 11 = false := h.non2 7 l7 (by kernel_rfl)
                  refine hK (set1 γ 6 (.row w.heap.size 1 #[.slice J.p J.L.length J.c])) _ (va_set (fun k hk => h.within k hk) l6 (fun e => absurd e (by decide))) ⟨hF.1, hF.2.1, fun _ => ⟨_, rfl⟩, hF.2.2.2.1, hF.2.2.2.2⟩ ?_
                  have hS := hE.alloc #[.slice J.p J.L.length J.c] 45
                  unfold ra at hS ⊢
                  rw [l6, l7, l11] at hS
                  show Env _ _ ((if one L 6 11 = true then _ else if one L 6 7 = true then _ else if L 4 = true then _ else if L 0 = true then _ else _) ++ (_ ++ _))
                  rw [show one L 6 11 = false from l11, show one L 6 7 = false from l7]
                  exact Env.perm hS (List.perm_middle.symm)
                refine sps_cons ⟨fun L γ a w h hF hE K hK => h.go rfl ?_⟩ ?_
                · have l7 : L 7 = false := h.off
                  have l11 : L 11 = false := h.non (by kernel_rfl)
                  have l4 : L 4 = true := h.dep (by kernel_rfl)
                  have l6 : L 6 = true := h.dep (by kernel_rfl)
                  have hS := hE
                  unfold ra at hS
                  rw [l4, l6, l7, l11] at hS
                  replace hS : Env _ w ([] ++ ((γ 4).rows 45 ++ ((γ 6).rows 45 ++ [⟨g6, #[.int .i64 ((getF J.L).1), .int .i64 ((getF J.L).2.1), .int .i64 ((getF J.L).2.2)], 43⟩]))) := hS
                  have hs := hF.2.1 l4
                  obtain ⟨gJ, hgJ⟩ := hF.2.2.1 l6
                  have h6 : (γ 6).Has 1 1 (flat tx [J]) := by rw [hgJ]; exact Own.has_lit gJ 1 1 _ (by decide) rfl
                  refine upon_append (bytes := 24) (m := 1) (ys := flat tx ([J])) hS hs (sl_own ((γ 4).rows 45) [⟨g6, #[.int .i64 ((getF J.L).1), .int .i64 ((getF J.L).2.1), .int .i64 ((getF J.L).2.2)], 43⟩] h6 rfl w hS) (tx_len1 rfl) (flat_one tx_one _) rfl (h.tmp 4 rfl (h.dep (by kernel_rfl))) (h.tmp 6 rfl (h.dep (by kernel_rfl))) Try.underlying22 (by unfold Elem; kernel_rfl) (by decide) (by unfold maxLen; omega) (by omega) (fun s w1 h1 hE1 => ?_)
                  have h2 := has_cast (tx_append _ _) h1
                  have hk := hK (set1 γ 7 s) w1 (va_set (fun k hk => h.within k hk) l7 (fun e => absurd e (by decide))) ⟨hF.1, hF.2.1, hF.2.2.1, fun _ => h2, hF.2.2.2.2⟩ ?_
                  · exact hk
                  · unfold ra
                    show Env _ _ ((if one L 7 11 = true then _ else _) ++ ((if L 6 = true then _ else _) ++ _))
                    rw [show one L 7 11 = false from l11, l6]
                    exact hE1
                refine sps_cons (sp_val (.slice p n c) rfl (fun _ => rfl) (fun _ _ h => h) (fun _ _ => rfl) (fun L γ a w h hE => run_move (v := .slice p n c) rfl (h.out (by kernel_rfl) rfl) w)) ?_
                refine sps_cons (sp_val (.int .i64 (m : Int)) rfl (fun _ => rfl) (fun _ _ h => h) (fun _ _ => rfl) (fun L γ a w h hE => run_move (v := .int .i64 (m : Int)) rfl (h.out (by kernel_rfl) rfl) w)) ?_
                refine sps_cons (sp_val (.slice (subp p m c) (n - m) (c - m)) rfl (fun _ => rfl) (fun _ _ h => h) (fun _ _ => rfl) (fun L γ a w h hE => er_drop (l := m) rfl (h.tmp 8 rfl (h.dep (by kernel_rfl))) (h.tmp 9 rfl (h.dep (by kernel_rfl))) rfl (by omega) Try.underlying22 (by kernel_rfl) w)) ?_
                refine sps_cons ⟨fun L γ a w h hF hE K hK => h.go rfl ?_⟩ ?_
                · have l11 : L 11 = false := h.off
                  have l7 : L 7 = true := h.dep (by kernel_rfl)
                  have l6 : L 6 = true := h.dep2 7 l7 (by kernel_rfl)
                  have hS := hE
                  unfold ra at hS
                  rw [l6, l7, l11] at hS
                  replace hS : Env _ w ([] ++ ((γ 7).rows 45 ++ ((γ 6).rows 45 ++ [⟨g6, #[.int .i64 ((getF J.L).1), .int .i64 ((getF J.L).2.1), .int .i64 ((getF J.L).2.2)], 43⟩]))) := hS
                  have hs := hF.2.2.2.1 l7
                  refine upon_append (bytes := 24) (m := n - m) (ys := flat tx (T.drop m)) hS hs (reads_below (reads_tx_drop m c (by omega) hS0) hS.below) (tx_len1 (tx_drop_len hl)) (flat_one tx_one _) rfl (h.tmp 7 rfl (h.dep (by kernel_rfl))) (h.tmp 10 rfl (h.dep (by kernel_rfl))) Try.underlying22 (by unfold Elem; kernel_rfl) (by decide) (by unfold maxLen; omega) (by omega) (fun s w1 h1 hE1 => ?_)
                  have h2 := has_cast (tx_append _ _) h1
                  have hk := hK (set1 γ 11 s) w1 (va_set (fun k hk => h.within k hk) l11 (fun _ => h.non (by kernel_rfl))) ⟨hF.1, hF.2.1, hF.2.2.1, hF.2.2.2.1, fun _ => h2⟩ ?_
                  · exact hk
                  · unfold ra
                    show Env _ _ (_ ++ ((if L 6 = true then _ else _) ++ _))
                    rw [l6]
                    exact hE1
                refine sps_cons ⟨fun L γ a w h hF hE K hK => h.give rfl (va p n c m J γ 12) (run_assign rfl (h.tmp 11 rfl (h.dep (by kernel_rfl))) w) (hK γ w (fun _ _ => rfl) hF hE)⟩ ?_
                exact sps_nil
              intro γ hF
              have h11 := hF.2.2.2.2 rfl
              dsimp only
              obtain ⟨so, hso⟩ : ∃ s, γ 11 = s := ⟨_, rfl⟩
              obtain ⟨s6, hs6⟩ : ∃ s, γ 6 = s := ⟨_, rfl⟩
              obtain ⟨s7, hs7⟩ : ∃ s, γ 7 = s := ⟨_, rfl⟩
              obtain ⟨s4, hs4⟩ : ∃ s, γ 4 = s := ⟨_, rfl⟩
              obtain ⟨s0, hs0⟩ : ∃ s, γ 0 = s := ⟨_, rfl⟩
              rw [hso] at h11
              rw [hso, hs6, hs7, hs4, hs0]
              refine we_perm (R' := [⟨g6, #[.int .i64 ((getF J.L).1), .int .i64 ((getF J.L).2.1), .int .i64 ((getF J.L).2.2)], 43⟩] ++ (so.rows 45 ++ (s6.rows 45 ++ []))) (perm3 _ _ _) ?_
              simp only [List.cons_append, List.nil_append]
              refine we_then ?_
              refine wc_seq ?_
              refine wc_region ?_
              refine wl_val (.int .i64 cy) rfl (fun _ => rfl) ?_
              simp only [Act.put, List.setIfInBounds_toArray, List.set_cons_zero, List.set_cons_succ]
              refine wl_val (.slice p n c) rfl (fun _ => rfl) ?_
              simp only [Act.put, List.setIfInBounds_toArray, List.set_cons_zero, List.set_cons_succ]
              refine wl_call_at 10 #[.int .i64 cy, .slice p n c] (.agg (mcells M (n - 32)).toArray) rfl (fun _ => by go_simp) (fun W hE => sort_any cy T _ _ _ M W hl ((sl_old hS0) W hE) (ok_below hT hE.below) sh (by omega) hc hM) ?_
              simp only [Act.put, List.setIfInBounds_toArray, List.set_cons_zero, List.set_cons_succ]
              refine wl_val (.int .i64 cy) rfl (fun _ => rfl) ?_
              simp only [Act.put, List.setIfInBounds_toArray, List.set_cons_zero, List.set_cons_succ]
              refine wl_val (.slice so.ptr (m + 1 + (n - m)) so.cap) rfl (fun _ => rfl) ?_
              simp only [Act.put, List.setIfInBounds_toArray, List.set_cons_zero, List.set_cons_succ]
              refine wl_call_at 10 #[.int .i64 cy, .slice so.ptr (m + 1 + (n - m)) so.cap] (.agg (mrow M.has M.val (B.bad : Nat) (B.stale : Nat) (B.twice : Nat) ((m + 1 + (n - m)) - 32 : Nat)).toArray) rfl (fun _ => by go_simp) (fun W hE => sort_like (T := T.take m ++ [J] ++ T.drop m) lpA ((sl_own [⟨g6, #[.int .i64 ((getF J.L).1), .int .i64 ((getF J.L).2.1), .int .i64 ((getF J.L).2.2)], 43⟩] (s6.rows 45 ++ []) h11 rfl) W hE) (ok_append (ok_append (ok_take m (ok_below hT hE.below)) (ok_cons (reads_below hJ hE.below) hJc hJm (ok_nil W))) (ok_drop m (ok_below hT hE.below))) (short_append (short_append (short_take m sh) (short_cons hJ3 short_nil)) (short_drop m sh)) (by omega) (has_cap h11) hB hBh hBv) ?_
              simp only [Act.put, List.setIfInBounds_toArray, List.set_cons_zero, List.set_cons_succ]
              refine wl_new 28 (#[.bool false, .bool false, .bool false, .bool false, .bool false, .bool false, .int .i64 0, .int .i64 0, .int .i64 0, .int .i64 0, .int .i64 0, .int .i64 0, .int .i64 0, .int .i64 0, .int .i64 0, .int .i64 0]) rfl (fun _ => by go_simp) ?_
              intro g9
              simp only [Act.put, List.setIfInBounds_toArray, List.set_cons_zero, List.set_cons_succ]
              refine wl_new 28 (#[.bool false, .bool false, .bool false, .bool false, .bool false, .bool false, .int .i64 0, .int .i64 0, .int .i64 0, .int .i64 0, .int .i64 0, .int .i64 0, .int .i64 0, .int .i64 0, .int .i64 0, .int .i64 0]) rfl (fun _ => by go_simp) ?_
              intro g10
              simp only [Act.put, List.setIfInBounds_toArray, List.set_cons_zero, List.set_cons_succ]
              refine wl_store 1 28 (.tmp 12) (.tmp 66) ((mcells M (n - 32)).toArray) rfl rfl rfl rfl rfl (by kernel_rfl) rfl (mrow_one _ _ _ _ _ _) ?_
              simp only [Act.put, List.set_cons_zero, List.set_cons_succ]
              refine wl_store 0 28 (.tmp 13) (.tmp 69) ((mrow M.has M.val (B.bad : Nat) (B.stale : Nat) (B.twice : Nat) ((m + 1 + (n - m)) - 32 : Nat)).toArray) rfl rfl rfl rfl rfl (by kernel_rfl) rfl (mrow_one _ _ _ _ _ _) ?_
              simp only [Act.put, List.set_cons_zero]
              refine wl_nil ?_
              refine we_then ?_
              refine wc_seq ?_
              refine wc_region ?_
              refine wl_val (.pointer (some ⟨g9, 0, none⟩)) rfl (fun _ => by go_simp) ?_
              simp only [Act.put, List.setIfInBounds_toArray, List.set_cons_zero, List.set_cons_succ]
              refine wl_part 25 (.tmp 70) [.bool (M.has 0), .bool (M.has 1), .bool (M.has 2), .bool (M.has 3), .bool (M.has 4), .bool (M.has 5)] (own_row 1 rfl) rfl rfl rfl rfl Try.underlying25 rfl (by kernel_rfl) ?_
              simp only [Act.put, List.setIfInBounds_toArray, List.set_cons_zero, List.set_cons_succ]
              refine wl_val (.pointer (some ⟨g10, 0, none⟩)) rfl (fun _ => by go_simp) ?_
              simp only [Act.put, List.setIfInBounds_toArray, List.set_cons_zero, List.set_cons_succ]
              refine wl_part 25 (.tmp 72) [.bool (M.has 0), .bool (M.has 1), .bool (M.has 2), .bool (M.has 3), .bool (M.has 4), .bool (M.has 5)] (own_row 0 rfl) rfl rfl rfl rfl Try.underlying25 rfl (by kernel_rfl) ?_
              simp only [Act.put, List.setIfInBounds_toArray, List.set_cons_zero, List.set_cons_succ]
              refine wl_val (.bool true) rfl (fun w => run_same (f := Value.bool) (xs := [(M.has 0), (M.has 1), (M.has 2), (M.has 3), (M.has 4), (M.has 5)]) rfl rfl rfl Try.underlying25 (by kernel_rfl) Try.isAgg4 (eq_bool Try.underlying4) (fun _ _ _ => by go_simp) w) ?_
              simp only [Act.put, List.setIfInBounds_toArray, List.set_cons_zero, List.set_cons_succ]
              refine wl_val (.bool true) rfl (fun _ => rfl) ?_
              simp only [Act.put, List.setIfInBounds_toArray, List.set_cons_zero, List.set_cons_succ]
              refine wl_val (.pointer (some ⟨g9, 6, none⟩)) rfl (fun _ => by go_simp) ?_
              simp only [Act.put, List.setIfInBounds_toArray, List.set_cons_zero, List.set_cons_succ]
              refine wl_part 26 (.tmp 76) [.int .i64 (M.val 0), .int .i64 (M.val 1), .int .i64 (M.val 2), .int .i64 (M.val 3), .int .i64 (M.val 4), .int .i64 (M.val 5)] (own_row 1 rfl) rfl rfl rfl rfl Try.underlying26 rfl (by kernel_rfl) ?_
              simp only [Act.put, List.setIfInBounds_toArray, List.set_cons_zero, List.set_cons_succ]
              refine wl_val (.pointer (some ⟨g10, 6, none⟩)) rfl (fun _ => by go_simp) ?_
              simp only [Act.put, List.setIfInBounds_toArray, List.set_cons_zero, List.set_cons_succ]
              refine wl_part 26 (.tmp 78) [.int .i64 (M.val 0), .int .i64 (M.val 1), .int .i64 (M.val 2), .int .i64 (M.val 3), .int .i64 (M.val 4), .int .i64 (M.val 5)] (own_row 0 rfl) rfl rfl rfl rfl Try.underlying26 rfl (by kernel_rfl) ?_
              simp only [Act.put, List.setIfInBounds_toArray, List.set_cons_zero, List.set_cons_succ]
              refine wl_val (.bool true) rfl (fun w => run_same (f := Value.int .i64) (xs := [(M.val 0), (M.val 1), (M.val 2), (M.val 3), (M.val 4), (M.val 5)]) rfl rfl rfl Try.underlying26 (by kernel_rfl) Try.isAgg2 (eq_int Try.underlying2) (fun _ _ _ => by go_simp) w) ?_
              simp only [Act.put, List.setIfInBounds_toArray, List.set_cons_zero, List.set_cons_succ]
              refine wl_val (.bool true) rfl (fun _ => rfl) ?_
              simp only [Act.put, List.setIfInBounds_toArray, List.set_cons_zero, List.set_cons_succ]
              refine wl_val (.bool true) rfl (fun _ => rfl) ?_
              simp only [Act.put, List.setIfInBounds_toArray, List.set_cons_zero, List.set_cons_succ]
              refine wl_val (.pointer (some ⟨g9, 14, none⟩)) rfl (fun _ => by go_simp) ?_
              simp only [Act.put, List.setIfInBounds_toArray, List.set_cons_zero, List.set_cons_succ]
              refine wl_cell 3 (.tmp 83) (.int .i64 (M.twice : Int)) (own_row 1 rfl) rfl rfl rfl rfl Try.isAgg3 ?_
              simp only [Act.put, List.setIfInBounds_toArray, List.set_cons_zero, List.set_cons_succ]
              refine wl_val (.pointer (some ⟨g10, 14, none⟩)) rfl (fun _ => by go_simp) ?_
              simp only [Act.put, List.setIfInBounds_toArray, List.set_cons_zero, List.set_cons_succ]
              refine wl_cell 3 (.tmp 85) (.int .i64 (B.twice : Int)) (own_row 0 rfl) rfl rfl rfl rfl Try.isAgg3 ?_
              simp only [Act.put, List.setIfInBounds_toArray, List.set_cons_zero, List.set_cons_succ]
              refine wl_val (.bool ((M.twice : Int) == (B.twice : Int))) rfl (fun w => run_cmp rfl rfl rfl Try.underlying3 rfl w) ?_
              simp only [Act.put, List.setIfInBounds_toArray, List.set_cons_zero, List.set_cons_succ]
              refine wl_val (.bool ((M.twice : Int) == (B.twice : Int))) rfl (fun _ => rfl) ?_
              simp only [Act.put, List.setIfInBounds_toArray, List.set_cons_zero, List.set_cons_succ]
              refine wl_val (.bool ((M.twice : Int) == (B.twice : Int))) rfl (fun _ => rfl) ?_
              simp only [Act.put, List.setIfInBounds_toArray, List.set_cons_zero, List.set_cons_succ]
              cases h11 : ((M.twice : Int) == (B.twice : Int))
              · skip
                have p11 : ¬ ((M.twice : Int) = (B.twice : Int)) := by simpa using h11
                exact (by exfalso; omega)
              · skip
                have p11 : (M.twice : Int) = (B.twice : Int) := by simpa using h11
                refine wl_val (.pointer (some ⟨g10, 12, none⟩)) rfl (fun _ => by go_simp) ?_
                simp only [Act.put, List.setIfInBounds_toArray, List.set_cons_zero, List.set_cons_succ]
                refine wl_cell 3 (.tmp 90) (.int .i64 (B.bad : Int)) (own_row 0 rfl) rfl rfl rfl rfl Try.isAgg3 ?_
                simp only [Act.put, List.setIfInBounds_toArray, List.set_cons_zero, List.set_cons_succ]
                refine wl_val (.pointer (some ⟨g10, 13, none⟩)) rfl (fun _ => by go_simp) ?_
                simp only [Act.put, List.setIfInBounds_toArray, List.set_cons_zero, List.set_cons_succ]
                refine wl_cell 3 (.tmp 92) (.int .i64 (B.stale : Int)) (own_row 0 rfl) rfl rfl rfl rfl Try.isAgg3 ?_
                simp only [Act.put, List.setIfInBounds_toArray, List.set_cons_zero, List.set_cons_succ]
                refine wl_val (.int .i64 ((B.bad + B.stale : Nat) : Int)) rfl (fun w => run_nat (X := B.bad) (Y := B.stale) (Z := B.bad + B.stale) rfl rfl rfl rfl (by omega) w) ?_
                simp only [Act.put, List.setIfInBounds_toArray, List.set_cons_zero, List.set_cons_succ]
                refine wl_val (.pointer (some ⟨g9, 12, none⟩)) rfl (fun _ => by go_simp) ?_
                simp only [Act.put, List.setIfInBounds_toArray, List.set_cons_zero, List.set_cons_succ]
                refine wl_cell 3 (.tmp 95) (.int .i64 (M.bad : Int)) (own_row 1 rfl) rfl rfl rfl rfl Try.isAgg3 ?_
                simp only [Act.put, List.setIfInBounds_toArray, List.set_cons_zero, List.set_cons_succ]
                refine wl_val (.pointer (some ⟨g9, 13, none⟩)) rfl (fun _ => by go_simp) ?_
                simp only [Act.put, List.setIfInBounds_toArray, List.set_cons_zero, List.set_cons_succ]
                refine wl_cell 3 (.tmp 97) (.int .i64 (M.stale : Int)) (own_row 1 rfl) rfl rfl rfl rfl Try.isAgg3 ?_
                simp only [Act.put, List.setIfInBounds_toArray, List.set_cons_zero, List.set_cons_succ]
                refine wl_val (.int .i64 ((M.bad + M.stale : Nat) : Int)) rfl (fun w => run_nat (X := M.bad) (Y := M.stale) (Z := M.bad + M.stale) rfl rfl rfl rfl (by omega) w) ?_
                simp only [Act.put, List.setIfInBounds_toArray, List.set_cons_zero, List.set_cons_succ]
                refine wl_val (.int .i64 (((M.bad + M.stale) + 1 : Nat) : Int)) rfl (fun w => run_nat (X := M.bad + M.stale) (Y := 1) (Z := (M.bad + M.stale) + 1) rfl rfl rfl rfl (by omega) w) ?_
                simp only [Act.put, List.setIfInBounds_toArray, List.set_cons_zero, List.set_cons_succ]
                refine wl_val (.bool (((B.bad + B.stale : Nat) : Int) == (((M.bad + M.stale) + 1 : Nat) : Int))) rfl (fun w => run_cmp rfl rfl rfl Try.underlying3 rfl w) ?_
                simp only [Act.put, List.setIfInBounds_toArray, List.set_cons_zero, List.set_cons_succ]
                refine wl_val (.bool (((B.bad + B.stale : Nat) : Int) == (((M.bad + M.stale) + 1 : Nat) : Int))) rfl (fun _ => rfl) ?_
                simp only [Act.put, List.setIfInBounds_toArray, List.set_cons_zero, List.set_cons_succ]
                refine wl_val (.bool (((B.bad + B.stale : Nat) : Int) == (((M.bad + M.stale) + 1 : Nat) : Int))) rfl (fun _ => rfl) ?_
                simp only [Act.put, List.setIfInBounds_toArray, List.set_cons_zero, List.set_cons_succ]
                refine wl_nil ?_
                refine we_then ?_
                refine wc_ret ?_
                refine we_ret1 (.bool (((B.bad + B.stale : Nat) : Int) == (((M.bad + M.stale) + 1 : Nat) : Int))) rfl rfl rfl (fun w1 hE => ?_)
                exact ⟨by rw [show (((B.bad + B.stale : Nat) : Int) == (((M.bad + M.stale) + 1 : Nat) : Int)) = true from beq_iff_eq.2 (by omega)], hE.below⟩
            · skip
              have p7 : ((getE J.L : Nat) : Int) = 0 := by simpa using h7
              refine ws_late (.pointer (some ⟨g6, 1, none⟩)) rfl rfl (fun _ => by go_simp) ?_
              simp only [Nat.reduceAdd, Act.put, List.setIfInBounds_toArray, List.set_cons_zero, List.set_cons_succ]
              refine ws_cell 3 (.tmp 46) (.int .i64 ((getF J.L).2.1)) (own_row 0 rfl) rfl rfl rfl rfl rfl Try.isAgg3 ?_
              simp only [Nat.reduceAdd, Act.put, List.setIfInBounds_toArray, List.set_cons_zero, List.set_cons_succ]
              refine ws_late (.int .i64 cy) rfl rfl (fun _ => rfl) ?_
              simp only [Nat.reduceAdd, Act.put, List.setIfInBounds_toArray, List.set_cons_zero, List.set_cons_succ]
              refine ws_call 14 #[.int .i64 cy] (.int .i64 (cy % 256)) rfl rfl (fun _ => by go_simp) (fun W => seq_any cy W) ?_
              simp only [Nat.reduceAdd, Act.put, List.setIfInBounds_toArray, List.set_cons_zero, List.set_cons_succ]
              refine ws_late (.bool (((getF J.L).2.1) == (cy % 256))) rfl rfl (fun w => run_cmp rfl rfl rfl Try.underlying3 rfl w) ?_
              simp only [Nat.reduceAdd, Act.put, List.setIfInBounds_toArray, List.set_cons_zero, List.set_cons_succ]
              refine ws_late (.bool (((getF J.L).2.1) == (cy % 256))) rfl rfl (fun _ => rfl) ?_
              simp only [Nat.reduceAdd, Act.put, List.setIfInBounds_toArray, List.set_cons_zero, List.set_cons_succ]
              refine ws_nil [] trivial (by simp) ?_
              intro ps12
              simp only [fin, List.foldl_nil, List.map, List.nil_append]
              refine we_then ?_
              cases h13 : (((getF J.L).2.1) == (cy % 256))
              · skip
                have p13 : ¬ (((getF J.L).2.1) = (cy % 256)) := by simpa using h13
                refine wc_false rfl ?_
                refine wc_skip ?_
                refine we_then ?_
                refine wc_seq ?_
                have sj := same_sort (s := cy % 256) (J := J.L) (by omega) (ls (T.take m)) (ls (T.drop m)) (by rw [ls_len, ls_len, List.length_take, List.length_drop]; omega)
                rw [show ls (T.take m) ++ ls (T.drop m) = ls T by rw [← ls_append, List.take_append_drop], hM] at sj
                obtain ⟨B, hB⟩ : ∃ B, sort (cy % 256) (ls (T.take m ++ [J] ++ T.drop m)) = B := ⟨_, rfl⟩
                rw [show ls (T.take m) ++ [J.L] ++ ls (T.drop m) = ls (T.take m ++ [J] ++ T.drop m) by rw [ls_append, ls_append]; rfl, hB] at sj
                have hBh := sj.has.symm
                have hBv := sj.val.symm
                have s3 := sj.twice
                have s4 := sj.wrong
                refine wc_draw_fin (Γ := Nat → Own) (va p n c m J) (ra 45 [⟨g6, #[.int .i64 ((getF J.L).1), .int .i64 ((getF J.L).2.1), .int .i64 ((getF J.L).2.2)], 43⟩]) (fa m n (T.take m) J (T.drop m)) (fun _ => .none) 103 (fun γ => ({ tmps := #[.int .i64 cy, .slice p n c, .int .i64 (m : Int), .slice J.p J.L.length J.c, undef, undef, undef, undef, .bool false, .pointer (some ⟨g6, 0, none⟩), .int .i64 ((getE J.L : Nat) : Int), .slice ((γ 11).ptr) (m + 1 + (n - m)) ((γ 11).cap), undef, undef, .bool true, .bool false, .slice p n c, .bool false, .bool false, .slice p n c, .int .i64 (n : Int), .bool false, .bool false, .bool false, .int .i64 (m : Int), .bool false, .bool false, .bool false, .int .i64 (m : Int), .slice p n c, .int .i64 (n : Int), .bool false, .bool false, .bool false, .slice J.p J.L.length J.c, .int .i64 (J.L.length : Int), .bool false, .bool false, .tuple #[.agg #[.int .i64 ((getF J.L).1), .int .i64 ((getF J.L).2.1), .int .i64 ((getF J.L).2.2)], .int .i64 ((getE J.L : Nat) : Int)], .slice J.p J.L.length J.c, .tuple #[.agg #[.int .i64 ((getF J.L).1), .int .i64 ((getF J.L).2.1), .int .i64 ((getF J.L).2.2)], .int .i64 ((getE J.L : Nat) : Int)], .agg #[.int .i64 ((getF J.L).1), .int .i64 ((getF J.L).2.1), .int .i64 ((getF J.L).2.2)], .int .i64 ((getE J.L : Nat) : Int), .int .i64 ((getE J.L : Nat) : Int), .bool true, .bool true, .pointer (some ⟨g6, 1, none⟩), .int .i64 ((getF J.L).2.1), .int .i64 cy, .int .i64 (cy % 256), .bool false, .bool false, .slice ((γ 0).ptr) 0 ((γ 0).cap), .slice p n c, .int .i64 (m : Int), .slice p m c, .slice ((γ 4).ptr) m ((γ 4).cap), .slice J.p J.L.length J.c, .slice ((γ 6).ptr) 1 ((γ 6).cap), .slice ((γ 7).ptr) (m + 1) ((γ 7).cap), .slice p n c, .int .i64 (m : Int), .slice (subp p m c) (n - m) (c - m), .slice ((γ 11).ptr) (m + 1 + (n - m)) ((γ 11).cap), undef, undef, undef, undef, undef, undef, undef, undef, undef, undef, undef, undef, undef, undef, undef, undef, undef, undef, undef, undef, undef, undef, undef, undef, undef, undef, undef, undef, undef, undef, undef, undef, undef, undef, undef, undef, undef, undef, undef], defers := [] } : Act)) (fun γ => (γ 11).rows 45 ++ ((γ 6).rows 45 ++ [⟨g6, #[.int .i64 ((getF J.L).1), .int .i64 ((getF J.L).2.1), .int .i64 ((getF J.L).2.2)], 43⟩])) (by kernel_rfl) rfl (by kernel_rfl) rfl ⟨(fun h => Bool.noConfusion h), (fun h => Bool.noConfusion h), (fun h => Bool.noConfusion h), (fun h => Bool.noConfusion h), (fun h => Bool.noConfusion h)⟩ (fun _ => by kernel_rfl) (fun _ => rfl) ?_ ?_
                · skip
                  refine sps_cons ⟨fun L γ a w h hF hE K hK => h.go rfl ?_⟩ ?_
                  · rw [run_lit0 rfl Try.underlying22 (size := 1) (by kernel_rfl)]
                    have l0 : L 0 = false := h.off
                    have l4 : L 4 = false := h.non (by kernel_rfl)
                    have l7 : L 7 = false := h.non2 4 l4 (by kernel_rfl)
                    have l11 : L 11 = false := h.non2 7 l7 (by kernel_rfl)
                    refine hK (set1 γ 0 (.row w.heap.size 0 #[])) _ (va_set (fun k hk => h.within k hk) l0 (fun e => absurd e (by decide))) ⟨fun _ => ⟨_, rfl⟩, hF.2.1, hF.2.2.1, hF.2.2.2.1, hF.2.2.2.2⟩ ?_
                    have hS := hE.alloc #[] 45
                    unfold ra at hS ⊢
                    rw [l0, l4, l7, l11] at hS
                    show Env _ _ ((if one L 0 11 = true then _ else if one L 0 7 = true then _ else if one L 0 4 = true then _ else _) ++ _)
                    rw [show one L 0 11 = false from l11, show one L 0 7 = false from l7, show one L 0 4 = false from l4]
                    exact hS
                  refine sps_cons (sp_val (.slice p n c) rfl (fun _ => rfl) (fun _ _ h => h) (fun _ _ => rfl) (fun L γ a w h hE => run_move (v := .slice p n c) rfl (h.out (by kernel_rfl) rfl) w)) ?_
                  refine sps_cons (sp_val (.int .i64 (m : Int)) rfl (fun _ => rfl) (fun _ _ h => h) (fun _ _ => rfl) (fun L γ a w h hE => run_move (v := .int .i64 (m : Int)) rfl (h.out (by kernel_rfl) rfl) w)) ?_
                  refine sps_cons (sp_val (.slice p m c) rfl (fun _ => rfl) (fun _ _ h => h) (fun _ _ => rfl) (fun L γ a w h hE => er_take (h := m) rfl (h.tmp 1 rfl (h.dep (by kernel_rfl))) (h.tmp 2 rfl (h.dep (by kernel_rfl))) rfl (by omega) Try.underlying22 (by kernel_rfl) w)) ?_
                  refine sps_cons ⟨fun L γ a w h hF hE K hK => h.go rfl ?_⟩ ?_
                  · have l4 : L 4 = false := h.off
                    have l7 : L 7 = false := h.non (by kernel_rfl)
                    have l11 : L 11 = false := h.non2 7 l7 (by kernel_rfl)
                    have l0 : L 0 = true := h.dep (by kernel_rfl)
                    have hS := hE
                    unfold ra at hS
                    rw [l0, l4, l7, l11] at hS
                    replace hS : Env _ w ([] ++ ((γ 0).rows 45 ++ ((if L 6 = true then (γ 6).rows 45 else []) ++ [⟨g6, #[.int .i64 ((getF J.L).1), .int .i64 ((getF J.L).2.1), .int .i64 ((getF J.L).2.2)], 43⟩]))) := hS
                    obtain ⟨gN, hgN⟩ := hF.1 l0
                    have hs : (γ 0).Has 1 0 (flat tx []) := by rw [hgN]; exact Own.has_lit gN 0 1 #[] (by decide) rfl
                    refine upon_append (bytes := 24) (m := m) (ys := flat tx (T.take m)) hS hs (reads_below (reads_tx_take m hS0) hS.below) (tx_len1 (tx_take_len hl hm2)) (flat_one tx_one _) rfl (h.tmp 0 rfl (h.dep (by kernel_rfl))) (h.tmp 3 rfl (h.dep (by kernel_rfl))) Try.underlying22 (by unfold Elem; kernel_rfl) (by decide) (by unfold maxLen; omega) (by omega) (fun s w1 h1 hE1 => ?_)
                    have h2 : s.Has 1 m (flat tx (T.take m)) := by rw [Nat.zero_add] at h1; exact h1
                    have hk := hK (set1 γ 4 s) w1 (va_set (fun k hk => h.within k hk) l4 (fun e => absurd e (by decide))) ⟨hF.1, fun _ => h2, hF.2.2.1, hF.2.2.2.1, hF.2.2.2.2⟩ ?_
                    · rw [Nat.zero_add]; exact hk
                    · unfold ra
                      show Env _ _ ((if one L 4 11 = true then _ else if one L 4 7 = true then _ else _) ++ _)
                      rw [show one L 4 11 = false from l11, show one L 4 7 = false from l7]
                      exact hE1
                  refine sps_cons (sp_val (.slice J.p J.L.length J.c) rfl (fun _ => rfl) (fun _ _ h => h) (fun _ _ => rfl) (fun L γ a w h hE => run_move (v := .slice J.p J.L.length J.c) rfl (h.out (by kernel_rfl) rfl) w)) ?_
                  refine sps_cons ⟨fun L γ a w h hF hE K hK => h.go rfl ?_⟩ ?_
                  · rw [run_lit1 (v := .slice J.p J.L.length J.c) (z := .slice none 0 0) rfl (h.tmp 5 rfl (h.dep (by kernel_rfl))) rfl Try.underlying22 (by kernel_rfl) rfl]
                    have l6 : L 6 = false := h.off
                    have l7 : L 7 = false := h.non (by kernel_rfl)
                    have l11 : L 11 = false := h.non2 7 l7 (by kernel_rfl)
                    refine hK (set1 γ 6 (.row w.heap.size 1 #[.slice J.p J.L.length J.c])) _ (va_set (fun k hk => h.within k hk) l6 (fun e => absurd e (by decide))) ⟨hF.1, hF.2.1, fun _ => ⟨_, rfl⟩, hF.2.2.2.1, hF.2.2.2.2⟩ ?_
                    have hS := hE.alloc #[.slice J.p J.L.length J.c] 45
                    unfold ra at hS ⊢
                    rw [l6, l7, l11] at hS
                    show Env _ _ ((if one L 6 11 = true then _ else if one L 6 7 = true then _ else if L 4 = true then _ else if L 0 = true then _ else _) ++ (_ ++ _))
                    rw [show one L 6 11 = false from l11, show one L 6 7 = false from l7]
                    exact Env.perm hS (List.perm_middle.symm)
                  refine sps_cons ⟨fun L γ a w h hF hE K hK => h.go rfl ?_⟩ ?_
                  · have l7 : L 7 = false := h.off
                    have l11 : L 11 = false := h.non (by kernel_rfl)
                    have l4 : L 4 = true := h.dep (by kernel_rfl)
                    have l6 : L 6 = true := h.dep (by kernel_rfl)
                    have hS := hE
                    unfold ra at hS
                    rw [l4, l6, l7, l11] at hS
                    replace hS : Env _ w ([] ++ ((γ 4).rows 45 ++ ((γ 6).rows 45 ++ [⟨g6, #[.int .i64 ((getF J.L).1), .int .i64 ((getF J.L).2.1), .int .i64 ((getF J.L).2.2)], 43⟩]))) := hS
                    have hs := hF.2.1 l4
                    obtain ⟨gJ, hgJ⟩ := hF.2.2.1 l6
                    have h6 : (γ 6).Has 1 1 (flat tx [J]) := by rw [hgJ]; exact Own.has_lit gJ 1 1 _ (by decide) rfl
                    refine upon_append (bytes := 24) (m := 1) (ys := flat tx ([J])) hS hs (sl_own ((γ 4).rows 45) [⟨g6, #[.int .i64 ((getF J.L).1), .int .i64 ((getF J.L).2.1), .int .i64 ((getF J.L).2.2)], 43⟩] h6 rfl w hS) (tx_len1 rfl) (flat_one tx_one _) rfl (h.tmp 4 rfl (h.dep (by kernel_rfl))) (h.tmp 6 rfl (h.dep (by kernel_rfl))) Try.underlying22 (by unfold Elem; kernel_rfl) (by decide) (by unfold maxLen; omega) (by omega) (fun s w1 h1 hE1 => ?_)
                    have h2 := has_cast (tx_append _ _) h1
                    have hk := hK (set1 γ 7 s) w1 (va_set (fun k hk => h.within k hk) l7 (fun e => absurd e (by decide))) ⟨hF.1, hF.2.1, hF.2.2.1, fun _ => h2, hF.2.2.2.2⟩ ?_
                    · exact hk
                    · unfold ra
                      show Env _ _ ((if one L 7 11 = true then _ else _) ++ ((if L 6 = true then _ else _) ++ _))
                      rw [show one L 7 11 = false from l11, l6]
                      exact hE1
                  refine sps_cons (sp_val (.slice p n c) rfl (fun _ => rfl) (fun _ _ h => h) (fun _ _ => rfl) (fun L γ a w h hE => run_move (v := .slice p n c) rfl (h.out (by kernel_rfl) rfl) w)) ?_
                  refine sps_cons (sp_val (.int .i64 (m : Int)) rfl (fun _ => rfl) (fun _ _ h => h) (fun _ _ => rfl) (fun L γ a w h hE => run_move (v := .int .i64 (m : Int)) rfl (h.out (by kernel_rfl) rfl) w)) ?_
                  refine sps_cons (sp_val (.slice (subp p m c) (n - m) (c - m)) rfl (fun _ => rfl) (fun _ _ h => h) (fun _ _ => rfl) (fun L γ a w h hE => er_drop (l := m) rfl (h.tmp 8 rfl (h.dep (by kernel_rfl))) (h.tmp 9 rfl (h.dep (by kernel_rfl))) rfl (by omega) Try.underlying22 (by kernel_rfl) w)) ?_
                  refine sps_cons ⟨fun L γ a w h hF hE K hK => h.go rfl ?_⟩ ?_
                  · have l11 : L 11 = false := h.off
                    have l7 : L 7 = true := h.dep (by kernel_rfl)
                    have l6 : L 6 = true := h.dep2 7 l7 (by kernel_rfl)
                    have hS := hE
                    unfold ra at hS
                    rw [l6, l7, l11] at hS
                    replace hS : Env _ w ([] ++ ((γ 7).rows 45 ++ ((γ 6).rows 45 ++ [⟨g6, #[.int .i64 ((getF J.L).1), .int .i64 ((getF J.L).2.1), .int .i64 ((getF J.L).2.2)], 43⟩]))) := hS
                    have hs := hF.2.2.2.1 l7
                    refine upon_append (bytes := 24) (m := n - m) (ys := flat tx (T.drop m)) hS hs (reads_below (reads_tx_drop m c (by omega) hS0) hS.below) (tx_len1 (tx_drop_len hl)) (flat_one tx_one _) rfl (h.tmp 7 rfl (h.dep (by kernel_rfl))) (h.tmp 10 rfl (h.dep (by kernel_rfl))) Try.underlying22 (by unfold Elem; kernel_rfl) (by decide) (by unfold maxLen; omega) (by omega) (fun s w1 h1 hE1 => ?_)
                    have h2 := has_cast (tx_append _ _) h1
                    have hk := hK (set1 γ 11 s) w1 (va_set (fun k hk => h.within k hk) l11 (fun _ => h.non (by kernel_rfl))) ⟨hF.1, hF.2.1, hF.2.2.1, hF.2.2.2.1, fun _ => h2⟩ ?_
                    · exact hk
                    · unfold ra
                      show Env _ _ (_ ++ ((if L 6 = true then _ else _) ++ _))
                      rw [l6]
                      exact hE1
                  refine sps_cons ⟨fun L γ a w h hF hE K hK => h.give rfl (va p n c m J γ 12) (run_assign rfl (h.tmp 11 rfl (h.dep (by kernel_rfl))) w) (hK γ w (fun _ _ => rfl) hF hE)⟩ ?_
                  exact sps_nil
                intro γ hF
                have h11 := hF.2.2.2.2 rfl
                dsimp only
                obtain ⟨so, hso⟩ : ∃ s, γ 11 = s := ⟨_, rfl⟩
                obtain ⟨s6, hs6⟩ : ∃ s, γ 6 = s := ⟨_, rfl⟩
                obtain ⟨s7, hs7⟩ : ∃ s, γ 7 = s := ⟨_, rfl⟩
                obtain ⟨s4, hs4⟩ : ∃ s, γ 4 = s := ⟨_, rfl⟩
                obtain ⟨s0, hs0⟩ : ∃ s, γ 0 = s := ⟨_, rfl⟩
                rw [hso] at h11
                rw [hso, hs6, hs7, hs4, hs0]
                refine we_perm (R' := [⟨g6, #[.int .i64 ((getF J.L).1), .int .i64 ((getF J.L).2.1), .int .i64 ((getF J.L).2.2)], 43⟩] ++ (so.rows 45 ++ (s6.rows 45 ++ []))) (perm3 _ _ _) ?_
                simp only [List.cons_append, List.nil_append]
                refine we_then ?_
                refine wc_seq ?_
                refine wc_region ?_
                refine wl_val (.int .i64 cy) rfl (fun _ => rfl) ?_
                simp only [Act.put, List.setIfInBounds_toArray, List.set_cons_zero, List.set_cons_succ]
                refine wl_val (.slice p n c) rfl (fun _ => rfl) ?_
                simp only [Act.put, List.setIfInBounds_toArray, List.set_cons_zero, List.set_cons_succ]
                refine wl_call_at 10 #[.int .i64 cy, .slice p n c] (.agg (mcells M (n - 32)).toArray) rfl (fun _ => by go_simp) (fun W hE => sort_any cy T _ _ _ M W hl ((sl_old hS0) W hE) (ok_below hT hE.below) sh (by omega) hc hM) ?_
                simp only [Act.put, List.setIfInBounds_toArray, List.set_cons_zero, List.set_cons_succ]
                refine wl_val (.int .i64 cy) rfl (fun _ => rfl) ?_
                simp only [Act.put, List.setIfInBounds_toArray, List.set_cons_zero, List.set_cons_succ]
                refine wl_val (.slice so.ptr (m + 1 + (n - m)) so.cap) rfl (fun _ => rfl) ?_
                simp only [Act.put, List.setIfInBounds_toArray, List.set_cons_zero, List.set_cons_succ]
                refine wl_call_at 10 #[.int .i64 cy, .slice so.ptr (m + 1 + (n - m)) so.cap] (.agg (mrow M.has M.val (B.bad : Nat) (B.stale : Nat) (B.twice : Nat) ((m + 1 + (n - m)) - 32 : Nat)).toArray) rfl (fun _ => by go_simp) (fun W hE => sort_like (T := T.take m ++ [J] ++ T.drop m) lpA ((sl_own [⟨g6, #[.int .i64 ((getF J.L).1), .int .i64 ((getF J.L).2.1), .int .i64 ((getF J.L).2.2)], 43⟩] (s6.rows 45 ++ []) h11 rfl) W hE) (ok_append (ok_append (ok_take m (ok_below hT hE.below)) (ok_cons (reads_below hJ hE.below) hJc hJm (ok_nil W))) (ok_drop m (ok_below hT hE.below))) (short_append (short_append (short_take m sh) (short_cons hJ3 short_nil)) (short_drop m sh)) (by omega) (has_cap h11) hB hBh hBv) ?_
                simp only [Act.put, List.setIfInBounds_toArray, List.set_cons_zero, List.set_cons_succ]
                refine wl_new 28 (#[.bool false, .bool false, .bool false, .bool false, .bool false, .bool false, .int .i64 0, .int .i64 0, .int .i64 0, .int .i64 0, .int .i64 0, .int .i64 0, .int .i64 0, .int .i64 0, .int .i64 0, .int .i64 0]) rfl (fun _ => by go_simp) ?_
                intro g14
                simp only [Act.put, List.setIfInBounds_toArray, List.set_cons_zero, List.set_cons_succ]
                refine wl_new 28 (#[.bool false, .bool false, .bool false, .bool false, .bool false, .bool false, .int .i64 0, .int .i64 0, .int .i64 0, .int .i64 0, .int .i64 0, .int .i64 0, .int .i64 0, .int .i64 0, .int .i64 0, .int .i64 0]) rfl (fun _ => by go_simp) ?_
                intro g15
                simp only [Act.put, List.setIfInBounds_toArray, List.set_cons_zero, List.set_cons_succ]
                refine wl_store 1 28 (.tmp 12) (.tmp 66) ((mcells M (n - 32)).toArray) rfl rfl rfl rfl rfl (by kernel_rfl) rfl (mrow_one _ _ _ _ _ _) ?_
                simp only [Act.put, List.set_cons_zero, List.set_cons_succ]
                refine wl_store 0 28 (.tmp 13) (.tmp 69) ((mrow M.has M.val (B.bad : Nat) (B.stale : Nat) (B.twice : Nat) ((m + 1 + (n - m)) - 32 : Nat)).toArray) rfl rfl rfl rfl rfl (by kernel_rfl) rfl (mrow_one _ _ _ _ _ _) ?_
                simp only [Act.put, List.set_cons_zero]
                refine wl_nil ?_
                refine we_then ?_
                refine wc_seq ?_
                refine wc_region ?_
                refine wl_val (.pointer (some ⟨g14, 0, none⟩)) rfl (fun _ => by go_simp) ?_
                simp only [Act.put, List.setIfInBounds_toArray, List.set_cons_zero, List.set_cons_succ]
                refine wl_part 25 (.tmp 70) [.bool (M.has 0), .bool (M.has 1), .bool (M.has 2), .bool (M.has 3), .bool (M.has 4), .bool (M.has 5)] (own_row 1 rfl) rfl rfl rfl rfl Try.underlying25 rfl (by kernel_rfl) ?_
                simp only [Act.put, List.setIfInBounds_toArray, List.set_cons_zero, List.set_cons_succ]
                refine wl_val (.pointer (some ⟨g15, 0, none⟩)) rfl (fun _ => by go_simp) ?_
                simp only [Act.put, List.setIfInBounds_toArray, List.set_cons_zero, List.set_cons_succ]
                refine wl_part 25 (.tmp 72) [.bool (M.has 0), .bool (M.has 1), .bool (M.has 2), .bool (M.has 3), .bool (M.has 4), .bool (M.has 5)] (own_row 0 rfl) rfl rfl rfl rfl Try.underlying25 rfl (by kernel_rfl) ?_
                simp only [Act.put, List.setIfInBounds_toArray, List.set_cons_zero, List.set_cons_succ]
                refine wl_val (.bool true) rfl (fun w => run_same (f := Value.bool) (xs := [(M.has 0), (M.has 1), (M.has 2), (M.has 3), (M.has 4), (M.has 5)]) rfl rfl rfl Try.underlying25 (by kernel_rfl) Try.isAgg4 (eq_bool Try.underlying4) (fun _ _ _ => by go_simp) w) ?_
                simp only [Act.put, List.setIfInBounds_toArray, List.set_cons_zero, List.set_cons_succ]
                refine wl_val (.bool true) rfl (fun _ => rfl) ?_
                simp only [Act.put, List.setIfInBounds_toArray, List.set_cons_zero, List.set_cons_succ]
                refine wl_val (.pointer (some ⟨g14, 6, none⟩)) rfl (fun _ => by go_simp) ?_
                simp only [Act.put, List.setIfInBounds_toArray, List.set_cons_zero, List.set_cons_succ]
                refine wl_part 26 (.tmp 76) [.int .i64 (M.val 0), .int .i64 (M.val 1), .int .i64 (M.val 2), .int .i64 (M.val 3), .int .i64 (M.val 4), .int .i64 (M.val 5)] (own_row 1 rfl) rfl rfl rfl rfl Try.underlying26 rfl (by kernel_rfl) ?_
                simp only [Act.put, List.setIfInBounds_toArray, List.set_cons_zero, List.set_cons_succ]
                refine wl_val (.pointer (some ⟨g15, 6, none⟩)) rfl (fun _ => by go_simp) ?_
                simp only [Act.put, List.setIfInBounds_toArray, List.set_cons_zero, List.set_cons_succ]
                refine wl_part 26 (.tmp 78) [.int .i64 (M.val 0), .int .i64 (M.val 1), .int .i64 (M.val 2), .int .i64 (M.val 3), .int .i64 (M.val 4), .int .i64 (M.val 5)] (own_row 0 rfl) rfl rfl rfl rfl Try.underlying26 rfl (by kernel_rfl) ?_
                simp only [Act.put, List.setIfInBounds_toArray, List.set_cons_zero, List.set_cons_succ]
                refine wl_val (.bool true) rfl (fun w => run_same (f := Value.int .i64) (xs := [(M.val 0), (M.val 1), (M.val 2), (M.val 3), (M.val 4), (M.val 5)]) rfl rfl rfl Try.underlying26 (by kernel_rfl) Try.isAgg2 (eq_int Try.underlying2) (fun _ _ _ => by go_simp) w) ?_
                simp only [Act.put, List.setIfInBounds_toArray, List.set_cons_zero, List.set_cons_succ]
                refine wl_val (.bool true) rfl (fun _ => rfl) ?_
                simp only [Act.put, List.setIfInBounds_toArray, List.set_cons_zero, List.set_cons_succ]
                refine wl_val (.bool true) rfl (fun _ => rfl) ?_
                simp only [Act.put, List.setIfInBounds_toArray, List.set_cons_zero, List.set_cons_succ]
                refine wl_val (.pointer (some ⟨g14, 14, none⟩)) rfl (fun _ => by go_simp) ?_
                simp only [Act.put, List.setIfInBounds_toArray, List.set_cons_zero, List.set_cons_succ]
                refine wl_cell 3 (.tmp 83) (.int .i64 (M.twice : Int)) (own_row 1 rfl) rfl rfl rfl rfl Try.isAgg3 ?_
                simp only [Act.put, List.setIfInBounds_toArray, List.set_cons_zero, List.set_cons_succ]
                refine wl_val (.pointer (some ⟨g15, 14, none⟩)) rfl (fun _ => by go_simp) ?_
                simp only [Act.put, List.setIfInBounds_toArray, List.set_cons_zero, List.set_cons_succ]
                refine wl_cell 3 (.tmp 85) (.int .i64 (B.twice : Int)) (own_row 0 rfl) rfl rfl rfl rfl Try.isAgg3 ?_
                simp only [Act.put, List.setIfInBounds_toArray, List.set_cons_zero, List.set_cons_succ]
                refine wl_val (.bool ((M.twice : Int) == (B.twice : Int))) rfl (fun w => run_cmp rfl rfl rfl Try.underlying3 rfl w) ?_
                simp only [Act.put, List.setIfInBounds_toArray, List.set_cons_zero, List.set_cons_succ]
                refine wl_val (.bool ((M.twice : Int) == (B.twice : Int))) rfl (fun _ => rfl) ?_
                simp only [Act.put, List.setIfInBounds_toArray, List.set_cons_zero, List.set_cons_succ]
                refine wl_val (.bool ((M.twice : Int) == (B.twice : Int))) rfl (fun _ => rfl) ?_
                simp only [Act.put, List.setIfInBounds_toArray, List.set_cons_zero, List.set_cons_succ]
                cases h16 : ((M.twice : Int) == (B.twice : Int))
                · skip
                  have p16 : ¬ ((M.twice : Int) = (B.twice : Int)) := by simpa using h16
                  exact (by exfalso; omega)
                · skip
                  have p16 : (M.twice : Int) = (B.twice : Int) := by simpa using h16
                  refine wl_val (.pointer (some ⟨g15, 12, none⟩)) rfl (fun _ => by go_simp) ?_
                  simp only [Act.put, List.setIfInBounds_toArray, List.set_cons_zero, List.set_cons_succ]
                  refine wl_cell 3 (.tmp 90) (.int .i64 (B.bad : Int)) (own_row 0 rfl) rfl rfl rfl rfl Try.isAgg3 ?_
                  simp only [Act.put, List.setIfInBounds_toArray, List.set_cons_zero, List.set_cons_succ]
                  refine wl_val (.pointer (some ⟨g15, 13, none⟩)) rfl (fun _ => by go_simp) ?_
                  simp only [Act.put, List.setIfInBounds_toArray, List.set_cons_zero, List.set_cons_succ]
                  refine wl_cell 3 (.tmp 92) (.int .i64 (B.stale : Int)) (own_row 0 rfl) rfl rfl rfl rfl Try.isAgg3 ?_
                  simp only [Act.put, List.setIfInBounds_toArray, List.set_cons_zero, List.set_cons_succ]
                  refine wl_val (.int .i64 ((B.bad + B.stale : Nat) : Int)) rfl (fun w => run_nat (X := B.bad) (Y := B.stale) (Z := B.bad + B.stale) rfl rfl rfl rfl (by omega) w) ?_
                  simp only [Act.put, List.setIfInBounds_toArray, List.set_cons_zero, List.set_cons_succ]
                  refine wl_val (.pointer (some ⟨g14, 12, none⟩)) rfl (fun _ => by go_simp) ?_
                  simp only [Act.put, List.setIfInBounds_toArray, List.set_cons_zero, List.set_cons_succ]
                  refine wl_cell 3 (.tmp 95) (.int .i64 (M.bad : Int)) (own_row 1 rfl) rfl rfl rfl rfl Try.isAgg3 ?_
                  simp only [Act.put, List.setIfInBounds_toArray, List.set_cons_zero, List.set_cons_succ]
                  refine wl_val (.pointer (some ⟨g14, 13, none⟩)) rfl (fun _ => by go_simp) ?_
                  simp only [Act.put, List.setIfInBounds_toArray, List.set_cons_zero, List.set_cons_succ]
                  refine wl_cell 3 (.tmp 97) (.int .i64 (M.stale : Int)) (own_row 1 rfl) rfl rfl rfl rfl Try.isAgg3 ?_
                  simp only [Act.put, List.setIfInBounds_toArray, List.set_cons_zero, List.set_cons_succ]
                  refine wl_val (.int .i64 ((M.bad + M.stale : Nat) : Int)) rfl (fun w => run_nat (X := M.bad) (Y := M.stale) (Z := M.bad + M.stale) rfl rfl rfl rfl (by omega) w) ?_
                  simp only [Act.put, List.setIfInBounds_toArray, List.set_cons_zero, List.set_cons_succ]
                  refine wl_val (.int .i64 (((M.bad + M.stale) + 1 : Nat) : Int)) rfl (fun w => run_nat (X := M.bad + M.stale) (Y := 1) (Z := (M.bad + M.stale) + 1) rfl rfl rfl rfl (by omega) w) ?_
                  simp only [Act.put, List.setIfInBounds_toArray, List.set_cons_zero, List.set_cons_succ]
                  refine wl_val (.bool (((B.bad + B.stale : Nat) : Int) == (((M.bad + M.stale) + 1 : Nat) : Int))) rfl (fun w => run_cmp rfl rfl rfl Try.underlying3 rfl w) ?_
                  simp only [Act.put, List.setIfInBounds_toArray, List.set_cons_zero, List.set_cons_succ]
                  refine wl_val (.bool (((B.bad + B.stale : Nat) : Int) == (((M.bad + M.stale) + 1 : Nat) : Int))) rfl (fun _ => rfl) ?_
                  simp only [Act.put, List.setIfInBounds_toArray, List.set_cons_zero, List.set_cons_succ]
                  refine wl_val (.bool (((B.bad + B.stale : Nat) : Int) == (((M.bad + M.stale) + 1 : Nat) : Int))) rfl (fun _ => rfl) ?_
                  simp only [Act.put, List.setIfInBounds_toArray, List.set_cons_zero, List.set_cons_succ]
                  refine wl_nil ?_
                  refine we_then ?_
                  refine wc_ret ?_
                  refine we_ret1 (.bool (((B.bad + B.stale : Nat) : Int) == (((M.bad + M.stale) + 1 : Nat) : Int))) rfl rfl rfl (fun w1 hE => ?_)
                  exact ⟨by rw [show (((B.bad + B.stale : Nat) : Int) == (((M.bad + M.stale) + 1 : Nat) : Int)) = true from beq_iff_eq.2 (by omega)], hE.below⟩
              · skip
                have p13 : ((getF J.L).2.1) = (cy % 256) := by simpa using h13
                refine wc_true rfl ?_
                refine wc_seq ?_
                refine wc_region ?_
                refine wl_val (.bool true) rfl (fun _ => rfl) ?_
                simp only [Act.put, List.setIfInBounds_toArray, List.set_cons_zero, List.set_cons_succ]
                refine wl_nil ?_
                refine we_then ?_
                refine wc_ret ?_
                refine we_then_ret ?_
                refine we_ret1 (.bool true) rfl rfl rfl (fun w1 hE => ?_)
                exact ⟨rfl, hE.below⟩
          · skip
            have p5 : 300 < (J.L.length : Int) := of_decide_eq_true h5
            refine wc_true rfl ?_
            refine wc_seq ?_
            refine wc_region ?_
            refine wl_val (.bool true) rfl (fun _ => rfl) ?_
            simp only [Act.put, List.setIfInBounds_toArray, List.set_cons_zero, List.set_cons_succ]
            refine wl_nil ?_
            refine we_then ?_
            refine wc_ret ?_
            refine we_then_ret ?_
            refine we_ret1 (.bool true) rfl rfl rfl (fun w1 hE => ?_)
            exact ⟨rfl, hE.below⟩
        · skip
          have p4 : (n : Int) < a := of_decide_eq_true h4
          refine wl_skip rfl ?_
          simp only [Act.put, List.setIfInBounds_toArray, List.set_cons_zero, List.set_cons_succ]
          refine wl_skip rfl ?_
          simp only [Act.put, List.setIfInBounds_toArray, List.set_cons_zero, List.set_cons_succ]
          refine wl_skip rfl ?_
          simp only [Act.put, List.setIfInBounds_toArray, List.set_cons_zero, List.set_cons_succ]
          refine wl_val (.bool true) rfl (fun _ => rfl) ?_
          simp only [Act.put, List.setIfInBounds_toArray, List.set_cons_zero, List.set_cons_succ]
          refine wl_nil ?_
          refine we_then ?_
          refine wc_true rfl ?_
          refine wc_seq ?_
          refine wc_region ?_
          refine wl_val (.bool true) rfl (fun _ => rfl) ?_
          simp only [Act.put, List.setIfInBounds_toArray, List.set_cons_zero, List.set_cons_succ]
          refine wl_nil ?_
          refine we_then ?_
          refine wc_ret ?_
          refine we_then_ret ?_
          refine we_ret1 (.bool true) rfl rfl rfl (fun w1 hE => ?_)
          exact ⟨rfl, hE.below⟩
      · skip
        have p3 : a < 0 := of_decide_eq_true h3
        refine wl_skip rfl ?_
        simp only [Act.put, List.setIfInBounds_toArray, List.set_cons_zero, List.set_cons_succ]
        refine wl_skip rfl ?_
        simp only [Act.put, List.setIfInBounds_toArray, List.set_cons_zero, List.set_cons_succ]
        refine wl_skip rfl ?_
        simp only [Act.put, List.setIfInBounds_toArray, List.set_cons_zero, List.set_cons_succ]
        refine wl_skip rfl ?_
        simp only [Act.put, List.setIfInBounds_toArray, List.set_cons_zero, List.set_cons_succ]
        refine wl_val (.bool true) rfl (fun _ => rfl) ?_
        simp only [Act.put, List.setIfInBounds_toArray, List.set_cons_zero, List.set_cons_succ]
        refine wl_val (.bool true) rfl (fun _ => rfl) ?_
        simp only [Act.put, List.setIfInBounds_toArray, List.set_cons_zero, List.set_cons_succ]
        refine wl_skip rfl ?_
        simp only [Act.put, List.setIfInBounds_toArray, List.set_cons_zero, List.set_cons_succ]
        refine wl_skip rfl ?_
        simp only [Act.put, List.setIfInBounds_toArray, List.set_cons_zero, List.set_cons_succ]
        refine wl_skip rfl ?_
        simp only [Act.put, List.setIfInBounds_toArray, List.set_cons_zero, List.set_cons_succ]
        refine wl_val (.bool true) rfl (fun _ => rfl) ?_
        simp only [Act.put, List.setIfInBounds_toArray, List.set_cons_zero, List.set_cons_succ]
        refine wl_nil ?_
        refine we_then ?_
        refine wc_true rfl ?_
        refine wc_seq ?_
        refine wc_region ?_
        refine wl_val (.bool true) rfl (fun _ => rfl) ?_
        simp only [Act.put, List.setIfInBounds_toArray, List.set_cons_zero, List.set_cons_succ]
        refine wl_nil ?_
        refine we_then ?_
        refine wc_ret ?_
        refine we_then_ret ?_
        refine we_ret1 (.bool true) rfl rfl rfl (fun w1 hE => ?_)
        exact ⟨rfl, hE.below⟩
    · skip
      have p2 : 31 < (n : Int) := of_decide_eq_true h2
      refine wl_skip rfl ?_
      simp only [Act.put, List.setIfInBounds_toArray, List.set_cons_zero, List.set_cons_succ]
      refine wl_skip rfl ?_
      simp only [Act.put, List.setIfInBounds_toArray, List.set_cons_zero, List.set_cons_succ]
      refine wl_val (.bool true) rfl (fun _ => rfl) ?_
      simp only [Act.put, List.setIfInBounds_toArray, List.set_cons_zero, List.set_cons_succ]
      refine wl_val (.bool true) rfl (fun _ => rfl) ?_
      simp only [Act.put, List.setIfInBounds_toArray, List.set_cons_zero, List.set_cons_succ]
      refine wl_skip rfl ?_
      simp only [Act.put, List.setIfInBounds_toArray, List.set_cons_zero, List.set_cons_succ]
      refine wl_skip rfl ?_
      simp only [Act.put, List.setIfInBounds_toArray, List.set_cons_zero, List.set_cons_succ]
      refine wl_skip rfl ?_
      simp only [Act.put, List.setIfInBounds_toArray, List.set_cons_zero, List.set_cons_succ]
      refine wl_skip rfl ?_
      simp only [Act.put, List.setIfInBounds_toArray, List.set_cons_zero, List.set_cons_succ]
      refine wl_val (.bool true) rfl (fun _ => rfl) ?_
      simp only [Act.put, List.setIfInBounds_toArray, List.set_cons_zero, List.set_cons_succ]
      refine wl_val (.bool true) rfl (fun _ => rfl) ?_
      simp only [Act.put, List.setIfInBounds_toArray, List.set_cons_zero, List.set_cons_succ]
      refine wl_skip rfl ?_
      simp only [Act.put, List.setIfInBounds_toArray, List.set_cons_zero, List.set_cons_succ]
      refine wl_skip rfl ?_
      simp only [Act.put, List.setIfInBounds_toArray, List.set_cons_zero, List.set_cons_succ]
      refine wl_skip rfl ?_
      simp only [Act.put, List.setIfInBounds_toArray, List.set_cons_zero, List.set_cons_succ]
      refine wl_val (.bool true) rfl (fun _ => rfl) ?_
      simp only [Act.put, List.setIfInBounds_toArray, List.set_cons_zero, List.set_cons_succ]
      refine wl_nil ?_
      refine we_then ?_
      refine wc_true rfl ?_
      refine wc_seq ?_
      refine wc_region ?_
      refine wl_val (.bool true) rfl (fun _ => rfl) ?_
      simp only [Act.put, List.setIfInBounds_toArray, List.set_cons_zero, List.set_cons_succ]
      refine wl_nil ?_
      refine we_then ?_
      refine wc_ret ?_
      refine we_then_ret ?_
      refine we_ret1 (.bool true) rfl rfl rfl (fun w1 hE => ?_)
      exact ⟨rfl, hE.below⟩
  · skip
    refine wl_skip rfl ?_
    simp only [Act.put, List.setIfInBounds_toArray, List.set_cons_zero, List.set_cons_succ]
    refine wl_skip rfl ?_
    simp only [Act.put, List.setIfInBounds_toArray, List.set_cons_zero, List.set_cons_succ]
    refine wl_skip rfl ?_
    simp only [Act.put, List.setIfInBounds_toArray, List.set_cons_zero, List.set_cons_succ]
    refine wl_val (.bool true) rfl (fun _ => rfl) ?_
    simp only [Act.put, List.setIfInBounds_toArray, List.set_cons_zero, List.set_cons_succ]
    refine wl_val (.bool true) rfl (fun _ => rfl) ?_
    simp only [Act.put, List.setIfInBounds_toArray, List.set_cons_zero, List.set_cons_succ]
    refine wl_skip rfl ?_
    simp only [Act.put, List.setIfInBounds_toArray, List.set_cons_zero, List.set_cons_succ]
    refine wl_skip rfl ?_
    simp only [Act.put, List.setIfInBounds_toArray, List.set_cons_zero, List.set_cons_succ]
    refine wl_val (.bool true) rfl (fun _ => rfl) ?_
    simp only [Act.put, List.setIfInBounds_toArray, List.set_cons_zero, List.set_cons_succ]
    refine wl_val (.bool true) rfl (fun _ => rfl) ?_
    simp only [Act.put, List.setIfInBounds_toArray, List.set_cons_zero, List.set_cons_succ]
    refine wl_skip rfl ?_
    simp only [Act.put, List.setIfInBounds_toArray, List.set_cons_zero, List.set_cons_succ]
    refine wl_skip rfl ?_
    simp only [Act.put, List.setIfInBounds_toArray, List.set_cons_zero, List.set_cons_succ]
    refine wl_skip rfl ?_
    simp only [Act.put, List.setIfInBounds_toArray, List.set_cons_zero, List.set_cons_succ]
    refine wl_skip rfl ?_
    simp only [Act.put, List.setIfInBounds_toArray, List.set_cons_zero, List.set_cons_succ]
    refine wl_val (.bool true) rfl (fun _ => rfl) ?_
    simp only [Act.put, List.setIfInBounds_toArray, List.set_cons_zero, List.set_cons_succ]
    refine wl_val (.bool true) rfl (fun _ => rfl) ?_
    simp only [Act.put, List.setIfInBounds_toArray, List.set_cons_zero, List.set_cons_succ]
    refine wl_skip rfl ?_
    simp only [Act.put, List.setIfInBounds_toArray, List.set_cons_zero, List.set_cons_succ]
    refine wl_skip rfl ?_
    simp only [Act.put, List.setIfInBounds_toArray, List.set_cons_zero, List.set_cons_succ]
    refine wl_skip rfl ?_
    simp only [Act.put, List.setIfInBounds_toArray, List.set_cons_zero, List.set_cons_succ]
    refine wl_val (.bool true) rfl (fun _ => rfl) ?_
    simp only [Act.put, List.setIfInBounds_toArray, List.set_cons_zero, List.set_cons_succ]
    refine wl_nil ?_
    refine we_then ?_
    refine wc_true rfl ?_
    refine wc_seq ?_
    refine wc_region ?_
    refine wl_val (.bool true) rfl (fun _ => rfl) ?_
    simp only [Act.put, List.setIfInBounds_toArray, List.set_cons_zero, List.set_cons_succ]
    refine wl_nil ?_
    refine we_then ?_
    refine wc_ret ?_
    refine we_then_ret ?_
    refine we_ret1 (.bool true) rfl rfl rfl (fun w1 hE => ?_)
    exact ⟨rfl, hE.below⟩
theorem mailAfter_walk (cy : Int) (wcy : (Lit.int .i64 cy).wf = true) (T : List Tx) (p : Option Addr) (n c : Nat) (a : Int) (wa : (Lit.int .i64 a).wf = true) (L : List UInt8) (q : Option Addr) (d : Nat) (w : World) (hl : T.length = n) (hS : Reads w p (flat tx T)) (hT : OkT w T) (hc : n ≤ c) (hm : c ≤ maxLen) (hL : Reads w q (flat ub L)) (hd : L.length ≤ d) (hdm : d ≤ maxLen) :
    Calls Try.prog 7 #[.int .i64 cy, .slice p n c, .int .i64 a, .slice q L.length d] w fun e w' => e = .returned (.bool true) ∧ Below w.heap.size w w' :=
  mailAfter_walk0 cy wcy T p n c a ⟨q, L, d⟩ w hl hS hT hc hm hL hd hdm
end Go.Proofs.Ytggdmchhnnjfiaa.Walks
