/-
  The laws of layer 10: what the grades at some places say of one; their helper; their example. No condition.
-/
import Derived.Test.YtlbfecplhbkfiaaGra
import Derived.Test.YtlbfecplhbkfiaaSh
import Derived.Test.YtlbfecplhbkfiaaVs2
namespace Go.Proofs.Ytlbfecplhbkfiaa.Glw
open Go.ChangeShapes Go.WideShapes Go.ChangeAt Go.RowKit
open Arr Steady Sx Sw Sl Sb Sc Si Sj Sk Sh Vs Gr Gref Spn Gra
set_option linter.unusedVariables false
set_option linter.unusedSimpArgs false
set_option maxRecDepth 100000

theorem eq_span {o : Oper} {a : Act} {x y : Operand} {p0 q0 : Int} {p1 q1 : Int} (ho : o.op = .binOp .eql 31 x y 31) (hx : a.eval x = .agg #[.int .i64 p0, .int .i64 p1])
    (hy : a.eval y = .agg #[.int .i64 q0, .int .i64 q1]) (w : World) : (execOp a.eval o).run Try.prog w = .ok (.value (.bool (p0 == q0 && p1 == q1))) w := by
  unfold execOp
  simp only [ho, hx, hy]
  by_cases h0 : p0 = q0 <;> by_cases h1 : p1 = q1 <;> simp [go_sem, *]
theorem ne_span {o : Oper} {a : Act} {x y : Operand} {p0 q0 : Int} {p1 q1 : Int} (ho : o.op = .binOp .neq 31 x y 31) (hx : a.eval x = .agg #[.int .i64 p0, .int .i64 p1])
    (hy : a.eval y = .agg #[.int .i64 q0, .int .i64 q1]) (w : World) : (execOp a.eval o).run Try.prog w = .ok (.value (.bool (!(p0 == q0 && p1 == q1)))) w := by
  unfold execOp
  simp only [ho, hx, hy]
  by_cases h0 : p0 = q0 <;> by_cases h1 : p1 = q1 <;> simp [go_sem, *]
/-- The last piece that begins no later, if there is one. -/
theorem last_or (L : Spans) (a : Int) : ∀ n, n ≤ L.length → (∃ j, j < n ∧ (L[j]!).1 ≤ a ∧ ∀ i, j < i → i < n → a < (L[i]!).1) ∨ ∀ i, i < n → a < (L[i]!).1 := by
  intro n
  induction n with
  | zero => intro _; exact .inr (fun i hi => by omega)
  | succ n ih =>
    intro hn
    by_cases h : (L[n]!).1 ≤ a
    · exact .inl ⟨n, by omega, h, fun i h1 h2 => by omega⟩
    · rcases ih (by omega) with ⟨j, h1, h2, h3⟩ | h1
      · refine .inl ⟨j, by omega, h2, fun i h4 h5 => ?_⟩
        by_cases e : i = n
        · subst e; omega
        · exact h3 i h4 (by omega)
      · refine .inr (fun i hi => ?_)
        by_cases e : i = n
        · subst e; omega
        · exact h1 i (by omega)
theorem at_in {L : Spans} {n lo hi a : Int} (h : May L n) (h1 : lo ≤ a) (h2 : a ≤ hi) : (bnd L lo hi L.length).1 ≤ atG L a L.length ∧ atG L a L.length ≤ (bnd L lo hi L.length).2 := by
  have hs := h.some
  have key : ∃ j, j < L.length ∧ atG L a L.length = (L[j]!).2 ∧ reach L j lo hi = true := by
    rcases last_or L a L.length (Nat.le_refl _) with ⟨j, k1, k2, k3⟩ | k
    · refine ⟨j, k1, at_last h _ (Nat.le_refl _) j k1 k2 k3, reach_iff.2 ⟨.inr (by omega), ?_⟩⟩
      by_cases e : L.length ≤ j + 1
      · exact .inl e
      · have := k3 (j + 1) (by omega) (by omega)
        exact .inr (by omega)
    · refine ⟨0, by omega, at_first _ k, reach_iff.2 ⟨.inl rfl, ?_⟩⟩
      by_cases e : L.length ≤ 0 + 1
      · exact .inl e
      · have := k (0 + 1) (by omega)
        exact .inr (by omega)
  obtain ⟨j, k1, k2, k3⟩ := key
  rw [k2]
  exact (bnd_is h L.length (Nat.le_refl _)).1 j k1 k3
theorem bnd_mono {L : Spans} {n s1 s2 t1 t2 : Int} (h : May L n) (hs : s1 ≤ s2) (h1 : t1 ≤ s1) (h2 : s2 ≤ t2) : (bnd L t1 t2 L.length).1 ≤ (bnd L s1 s2 L.length).1 ∧ (bnd L s1 s2 L.length).2 ≤ (bnd L t1 t2 L.length).2 := by
  obtain ⟨_, k2, _⟩ := bnd_is (lo := s1) (hi := s2) h L.length (Nat.le_refl _)
  obtain ⟨k1, _, _⟩ := bnd_is (lo := t1) (hi := t2) h L.length (Nat.le_refl _)
  obtain ⟨⟨i, i1, i2, i3⟩, ⟨j, j1, j2, j3⟩⟩ := k2 (reach_some h hs)
  have up : ∀ k, reach L k s1 s2 = true → reach L k t1 t2 = true := by
    intro k hk
    rw [reach_iff] at hk ⊢
    obtain ⟨a, b⟩ := hk
    exact ⟨by omega, by omega⟩
  have a := k1 i i1 (up i i2)
  have b := k1 j j1 (up j j2)
  omega
theorem check_yes (L : Spans) (p : Option Addr) (c : Nat) (n : Int) (w : World) (hL : Reads w p (flat enc2 L)) (hn : L.length ≤ 140737488355328) (h : mayB L n = true) :
    Calls Try.prog 8 #[.slice p L.length c, .int .i64 n] w fun e w' => e = .returned (.int .i64 0) ∧ Below w.heap.size w w' := by
  have k := Gra.check_any L p c n w hL hn
  rwa [if_pos h] at k
theorem check_no (L : Spans) (p : Option Addr) (c : Nat) (n : Int) (w : World) (hL : Reads w p (flat enc2 L)) (hn : L.length ≤ 140737488355328) (h : mayB L n = false) :
    Calls Try.prog 8 #[.slice p L.length c, .int .i64 n] w fun e w' => e = .returned (.int .i64 11) ∧ Below w.heap.size w w' := by
  have k := Gra.check_any L p c n w hL hn
  rwa [if_neg (by rw [h]; decide)] at k
theorem has_yes (a b x : Int) (w : World) (h1 : a ≤ x) (h2 : x ≤ b) : Calls Try.prog 14 #[.agg #[.int .i64 a, .int .i64 b], .int .i64 x] w fun e w' => e = .returned (.bool true) ∧ Below w.heap.size w w' := by
  have h := has_any a b x w
  rwa [decide_eq_true h1, decide_eq_true h2] at h
theorem has_no (a b x : Int) (w : World) (h : ¬ (a ≤ x ∧ x ≤ b)) : Calls Try.prog 14 #[.agg #[.int .i64 a, .int .i64 b], .int .i64 x] w fun e w' => e = .returned (.bool false) ∧ Below w.heap.size w w' := by
  have k := has_any a b x w
  have e : (decide (a ≤ x) && decide (x ≤ b)) = false := by simp; omega
  rwa [e] at k
theorem may_ex : May [(0, 5), (10, -3)] 11 := by
  refine ⟨by decide, by decide, by decide, fun i hi => ?_⟩
  rcases (show i = 0 ∨ i = 1 by simp at hi; omega) with rfl | rfl
  · exact ⟨by decide, by decide, by decide, fun h => by omega⟩
  · exact ⟨by decide, by decide, by decide, fun _ => by decide⟩
theorem check_ex (p : Option Addr) (c : Nat) (w : World) (hL : Reads w p [.int .i64 0, .int .i64 5, .int .i64 10, .int .i64 (-3)]) : Calls Try.prog 8 #[.slice p 2 c, .int .i64 11] w fun e w' => e = .returned (.int .i64 0) ∧ Below w.heap.size w w' :=
  check_yes [(0, 5), (10, -3)] p c 11 w hL (by decide) (mayB_yes may_ex)
theorem at_ex (p : Option Addr) (c : Nat) (w : World) (hL : Reads w p [.int .i64 0, .int .i64 5, .int .i64 10, .int .i64 (-3)]) : Calls Try.prog 11 #[.slice p 2 c, .int .i64 10] w fun e w' => e = .returned (.int .i64 (-3)) ∧ Below w.heap.size w w' :=
  Gra.at_any [(0, 5), (10, -3)] p c 10 11 w hL may_ex
theorem bounds_ex (p : Option Addr) (c : Nat) (w : World) (hL : Reads w p [.int .i64 0, .int .i64 5, .int .i64 10, .int .i64 (-3)]) : Calls Try.prog 12 #[.slice p 2 c, .agg #[.int .i64 10, .int .i64 12]] w fun e w' => e = .returned (.tuple #[.agg #[.int .i64 (-3), .int .i64 5], .bool true]) ∧ Below w.heap.size w w' :=
  Gra.bounds_yes [(0, 5), (10, -3)] p c 10 12 11 w hL may_ex (by decide)
set_option maxHeartbeats 2000000 in
theorem anchor_any  (w : World) :
    Calls Try.prog 7 #[] w fun e w' => e = .returned (.bool true) ∧ Below w.heap.size w w' := by
  refine calls_sx Try.func7 rfl ?_
  simp only [Try.ntmps7, List.size_toArray, List.length_nil, Nat.reduceSub, Array.replicate_succ, Array.replicate_zero, List.push_toArray, List.append_toArray, List.nil_append, List.cons_append]
  refine wc_seq ?_
  refine wc_region ?_
  refine wl_val (.bool false) rfl (fun _ => rfl) ?_
  simp only [Act.put, List.setIfInBounds_toArray, List.set_cons_zero]
  refine wl_nil ?_
  refine we_then ?_
  refine wc_seq ?_
  refine wc_region ?_
  refine wl_val (.agg #[.int .i64 0, .int .i64 5]) rfl (fun _ => by go_simp) ?_
  simp only [Act.put, List.setIfInBounds_toArray, List.set_cons_zero, List.set_cons_succ]
  refine wl_val (.agg #[.int .i64 10, .int .i64 (-3)]) rfl (fun _ => by go_simp) ?_
  simp only [Act.put, List.setIfInBounds_toArray, List.set_cons_zero, List.set_cons_succ]
  refine wl_lit (e := 44) #[.int .i64 0, .int .i64 5, .int .i64 10, .int .i64 (-3)] 2 rfl (fun _ => by go_simp) ?_
  intro g1
  simp only [Act.put, List.setIfInBounds_toArray, List.set_cons_zero, List.set_cons_succ]
  refine wl_val (.slice (some ⟨g1, 0, none⟩) 2 2) rfl (fun _ => rfl) ?_
  simp only [Act.put, List.setIfInBounds_toArray, List.set_cons_zero, List.set_cons_succ]
  refine wl_nil ?_
  refine we_then ?_
  refine wc_seq ?_
  refine wc_region ?_
  refine wl_val (.slice (some ⟨g1, 0, none⟩) 2 2) rfl (fun _ => rfl) ?_
  simp only [Act.put, List.setIfInBounds_toArray, List.set_cons_zero, List.set_cons_succ]
  refine wl_val (.agg #[.int .i64 10, .int .i64 12]) rfl (fun _ => by go_simp) ?_
  simp only [Act.put, List.setIfInBounds_toArray, List.set_cons_zero, List.set_cons_succ]
  refine wl_call_at 12 #[.slice (some ⟨g1, 0, none⟩) 2 2, .agg #[.int .i64 10, .int .i64 12]] (.tuple #[.agg #[.int .i64 (-3), .int .i64 5], .bool true]) rfl (fun _ => by go_simp) (fun W hE => bounds_ex _ _ W ((sl_row 0 rfl) W hE)) ?_
  simp only [Act.put, List.setIfInBounds_toArray, List.set_cons_zero, List.set_cons_succ]
  refine wl_val (.tuple #[.agg #[.int .i64 (-3), .int .i64 5], .bool true]) rfl (fun _ => rfl) ?_
  simp only [Act.put, List.setIfInBounds_toArray, List.set_cons_zero, List.set_cons_succ]
  refine wl_val (.agg #[.int .i64 (-3), .int .i64 5]) rfl (fun _ => by go_simp) ?_
  simp only [Act.put, List.setIfInBounds_toArray, List.set_cons_zero, List.set_cons_succ]
  refine wl_val (.bool true) rfl (fun _ => by go_simp) ?_
  simp only [Act.put, List.setIfInBounds_toArray, List.set_cons_zero, List.set_cons_succ]
  refine wl_new 31 (#[.int .i64 0, .int .i64 0]) rfl (fun _ => by go_simp) ?_
  intro g2
  simp only [Act.put, List.setIfInBounds_toArray, List.set_cons_zero, List.set_cons_succ]
  refine wl_store 0 31 (.tmp 2) (.tmp 11) (#[.int .i64 (-3), .int .i64 5]) rfl rfl rfl rfl rfl (by kernel_rfl) rfl (by simp [Value.oneCell']) ?_
  simp only [Act.put, List.set_cons_zero]
  refine wl_val (.bool true) rfl (fun _ => rfl) ?_
  simp only [Act.put, List.setIfInBounds_toArray, List.set_cons_zero, List.set_cons_succ]
  refine wl_nil ?_
  refine we_then ?_
  refine wc_seq ?_
  refine wc_region ?_
  refine wl_val (.slice (some ⟨g1, 0, none⟩) 2 2) rfl (fun _ => rfl) ?_
  simp only [Act.put, List.setIfInBounds_toArray, List.set_cons_zero, List.set_cons_succ]
  refine wl_call_at 8 #[.slice (some ⟨g1, 0, none⟩) 2 2, .int .i64 11] (.int .i64 0) rfl (fun _ => by go_simp) (fun W hE => check_ex _ _ W ((sl_row 1 rfl) W hE)) ?_
  simp only [Act.put, List.setIfInBounds_toArray, List.set_cons_zero, List.set_cons_succ]
  refine wl_val (.bool true) rfl (fun w => run_cmp rfl rfl rfl Try.underlying24 rfl w) ?_
  simp only [Act.put, List.setIfInBounds_toArray, List.set_cons_zero, List.set_cons_succ]
  refine wl_val (.bool true) rfl (fun _ => rfl) ?_
  simp only [Act.put, List.setIfInBounds_toArray, List.set_cons_zero, List.set_cons_succ]
  refine wl_val (.slice (some ⟨g1, 0, none⟩) 2 2) rfl (fun _ => rfl) ?_
  simp only [Act.put, List.setIfInBounds_toArray, List.set_cons_zero, List.set_cons_succ]
  refine wl_call_at 11 #[.slice (some ⟨g1, 0, none⟩) 2 2, .int .i64 10] (.int .i64 (-3)) rfl (fun _ => by go_simp) (fun W hE => at_ex _ _ W ((sl_row 1 rfl) W hE)) ?_
  simp only [Act.put, List.setIfInBounds_toArray, List.set_cons_zero, List.set_cons_succ]
  refine wl_val (.bool true) rfl (fun w => run_cmp rfl rfl rfl Try.underlying2 rfl w) ?_
  simp only [Act.put, List.setIfInBounds_toArray, List.set_cons_zero, List.set_cons_succ]
  refine wl_val (.bool true) rfl (fun _ => rfl) ?_
  simp only [Act.put, List.setIfInBounds_toArray, List.set_cons_zero, List.set_cons_succ]
  refine wl_val (.bool true) rfl (fun _ => rfl) ?_
  simp only [Act.put, List.setIfInBounds_toArray, List.set_cons_zero, List.set_cons_succ]
  refine wl_val (.bool true) rfl (fun _ => rfl) ?_
  simp only [Act.put, List.setIfInBounds_toArray, List.set_cons_zero, List.set_cons_succ]
  refine wl_val (.bool true) rfl (fun _ => rfl) ?_
  simp only [Act.put, List.setIfInBounds_toArray, List.set_cons_zero, List.set_cons_succ]
  refine wl_val (.bool true) rfl (fun _ => rfl) ?_
  simp only [Act.put, List.setIfInBounds_toArray, List.set_cons_zero, List.set_cons_succ]
  refine wl_load 31 (.tmp 2) (own_row 0 rfl) rfl rfl rfl Try.underlying31 rfl (by kernel_rfl) ?_
  simp only [Act.put, List.setIfInBounds_toArray, List.set_cons_zero, List.set_cons_succ]
  refine wl_val (.agg #[.int .i64 (-3), .int .i64 5]) rfl (fun _ => by go_simp) ?_
  simp only [Act.put, List.setIfInBounds_toArray, List.set_cons_zero, List.set_cons_succ]
  refine wl_val (.bool true) rfl (fun _ => by go_simp) ?_
  simp only [Act.put, List.setIfInBounds_toArray, List.set_cons_zero, List.set_cons_succ]
  refine wl_val (.bool true) rfl (fun _ => rfl) ?_
  simp only [Act.put, List.setIfInBounds_toArray, List.set_cons_zero, List.set_cons_succ]
  refine wl_val (.bool true) rfl (fun _ => rfl) ?_
  simp only [Act.put, List.setIfInBounds_toArray, List.set_cons_zero]
  refine wl_nil ?_
  refine we_then ?_
  refine wc_ret ?_
  refine we_ret1 (.bool true) rfl rfl rfl (fun w1 hE => ?_)
  exact ⟨rfl, hE.below⟩
end Go.Proofs.Ytlbfecplhbkfiaa.Glw
