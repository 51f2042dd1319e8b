/-
  What package span's Times answers, by divisions; and the example. Conditions: integers of 64 bits.
-/
import Derived.Test.YtmbmjdlcpjmnoaaSpanRef
namespace Go.Proofs.Ytmbmjdlcpjmnoaa.Walks
open Go.ChangeShapes Go.WideShapes Go.ChangeAt Go.RowKit
open Num Ref Ratio RatioRef Arr Nmx Span SpanRef Steady Sx Sw
set_option linter.unusedVariables false
set_option maxRecDepth 100000

theorem quo_floor {p c : Int} (hc : 0 < c) : quo p c false = p / c := by
  obtain ⟨q, hq⟩ : ∃ q, q = quo p c false := ⟨_, rfl⟩
  have h := (floor_left (by omega) hq).1 hc
  rw [← hq]
  have h1 : q ≤ p / c := (Int.le_ediv_iff_mul_le hc).2 (by omega)
  have h2 : p / c < q + 1 := (Int.ediv_lt_iff_lt_mul hc).2 (by rw [Int.add_mul]; omega)
  omega
theorem quo_ceil {p c : Int} (hc : 0 < c) : quo p c true = -(-p / c) := by rw [quo_up, quo_floor hc]
theorem times_told (a b k n x y : Int) (ha : Fits a) (hb : Fits b) (hk : Fits k) (hn : Fits n) (h : a ≤ b) (h1 : 1 ≤ n) (hx : (if k < 0 then b else a) = x) (hy : (if k < 0 then a else b) = y) :
    ∃ V1 V2 E, (∀ w, Calls Try.prog 25 #[.agg #[.int .i64 a, .int .i64 b], .int .i64 k, .int .i64 n] w fun e w' => e = .returned (.tuple #[.agg #[.int .i64 V1, .int .i64 V2], .int .i64 E]) ∧ Below w.heap.size w w') ∧
      ((E = 0 ∧ V1 = k * x / n ∧ V2 = -(-(k * y) / n) ∧ Fits (k * x / n) ∧ Fits (-(-(k * y) / n))) ∨ (E = 20 ∧ V1 = 0 ∧ V2 = 0 ∧ (¬ Fits (k * x / n) ∨ ¬ Fits (-(-(k * y) / n))))) := by
  have fx : Fits x := by rw [← hx]; split <;> assumption
  have fy : Fits y := by rw [← hy]; split <;> assumption
  refine ⟨_, _, _, fun w => times_core a b k n x y _ _ _ _ w h h1 hx hy (fun W => floor_any k x n W hk fx hn) (fun W => ceil_any k y n W hk fy hn), ?_⟩
  have e1 := quo_floor (p := k * x) (c := n) (by omega)
  have e2 := quo_ceil (p := k * y) (c := n) (by omega)
  unfold quoV quoE
  rw [e1, e2]
  have h0 : ¬ n = 0 := by omega
  simp only [if_neg h0]
  by_cases f1 : Fits (k * x / n) <;> by_cases f2 : Fits (-(-(k * y) / n)) <;> simp [f1, f2]
set_option maxHeartbeats 2000000 in
theorem anchor_core 
    (c : ∀ W, Calls Try.prog 25 #[.agg #[.int .i64 3, .int .i64 5], .int .i64 (-3), .int .i64 2] W fun e w' => e = .returned (.tuple #[.agg #[.int .i64 (-8), .int .i64 (-4)], .int .i64 0]) ∧ Below W.heap.size W w') (w : World) :
    Calls Try.prog 8 #[] w fun e w' => e = .returned (.bool true) ∧ Below w.heap.size w w' := by
  refine calls_sx Try.func8 rfl ?_
  simp only [Try.ntmps8, List.size_toArray, List.length_nil, Nat.reduceSub, Array.replicate_succ, Array.replicate_zero, List.push_toArray, List.append_toArray, List.nil_append, List.cons_append]
  refine wc_seq ?_
  refine wc_region ?_
  refine wl_val (.bool false) rfl (fun _ => rfl) ?_
  simp only [Act.put, List.setIfInBounds_toArray, List.set_cons_zero]
  refine wl_nil ?_
  refine we_then ?_
  refine wc_seq ?_
  refine wc_region ?_
  refine wl_val (.agg #[.int .i64 3, .int .i64 5]) rfl (fun _ => by go_simp) ?_
  simp only [Act.put, List.setIfInBounds_toArray, List.set_cons_zero, List.set_cons_succ]
  refine wl_call 25 #[.agg #[.int .i64 3, .int .i64 5], .int .i64 (-3), .int .i64 2] (.tuple #[.agg #[.int .i64 (-8), .int .i64 (-4)], .int .i64 0]) rfl (fun _ => by go_simp) c ?_
  simp only [Act.put, List.setIfInBounds_toArray, List.set_cons_zero, List.set_cons_succ]
  refine wl_val (.tuple #[.agg #[.int .i64 (-8), .int .i64 (-4)], .int .i64 0]) rfl (fun _ => rfl) ?_
  simp only [Act.put, List.setIfInBounds_toArray, List.set_cons_zero, List.set_cons_succ]
  refine wl_val (.agg #[.int .i64 (-8), .int .i64 (-4)]) rfl (fun _ => by go_simp) ?_
  simp only [Act.put, List.setIfInBounds_toArray, List.set_cons_zero, List.set_cons_succ]
  refine wl_val (.int .i64 0) rfl (fun _ => by go_simp) ?_
  simp only [Act.put, List.setIfInBounds_toArray, List.set_cons_zero, List.set_cons_succ]
  refine wl_new 23 (#[.int .i64 0, .int .i64 0]) rfl (fun _ => by go_simp) ?_
  intro g1
  simp only [Act.put, List.setIfInBounds_toArray, List.set_cons_zero, List.set_cons_succ]
  refine wl_store 0 23 (.tmp 1) (.tmp 6) (#[.int .i64 (-8), .int .i64 (-4)]) rfl rfl rfl rfl rfl (by kernel_rfl) rfl (by simp [Value.oneCell']) ?_
  simp only [Act.put, List.set_cons_zero]
  refine wl_val (.int .i64 0) rfl (fun _ => rfl) ?_
  simp only [Act.put, List.setIfInBounds_toArray, List.set_cons_zero, List.set_cons_succ]
  refine wl_nil ?_
  refine we_then ?_
  refine wc_seq ?_
  refine wc_region ?_
  refine wl_val (.int .i64 0) rfl (fun _ => rfl) ?_
  simp only [Act.put, List.setIfInBounds_toArray, List.set_cons_zero, List.set_cons_succ]
  refine wl_val (.bool true) rfl (fun w => run_cmp rfl rfl rfl Try.underlying44 rfl w) ?_
  simp only [Act.put, List.setIfInBounds_toArray, List.set_cons_zero, List.set_cons_succ]
  refine wl_val (.bool true) rfl (fun _ => rfl) ?_
  simp only [Act.put, List.setIfInBounds_toArray, List.set_cons_zero, List.set_cons_succ]
  refine wl_load 23 (.tmp 1) (own_row 0 rfl) rfl rfl rfl Try.underlying23 rfl (by kernel_rfl) ?_
  simp only [Act.put, List.setIfInBounds_toArray, List.set_cons_zero, List.set_cons_succ]
  refine wl_val (.agg #[.int .i64 (-8), .int .i64 (-4)]) rfl (fun _ => by go_simp) ?_
  simp only [Act.put, List.setIfInBounds_toArray, List.set_cons_zero, List.set_cons_succ]
  refine wl_val (.bool true) rfl (fun _ => by go_simp) ?_
  simp only [Act.put, List.setIfInBounds_toArray, List.set_cons_zero, List.set_cons_succ]
  refine wl_val (.bool true) rfl (fun _ => rfl) ?_
  simp only [Act.put, List.setIfInBounds_toArray, List.set_cons_zero, List.set_cons_succ]
  refine wl_val (.bool true) rfl (fun _ => rfl) ?_
  simp only [Act.put, List.setIfInBounds_toArray, List.set_cons_zero]
  refine wl_nil ?_
  refine we_then ?_
  refine wc_ret ?_
  refine we_ret1 (.bool true) rfl rfl rfl (fun w1 hE => ?_)
  exact ⟨rfl, hE.below⟩
theorem anchor4 (w : World) : Calls Try.prog 8 #[] w fun e w' => e = .returned (.bool true) ∧ Below w.heap.size w w' := by
  obtain ⟨V1, V2, E, c, h⟩ := times_told 3 5 (-3) 2 5 3 (by decide) (by decide) (by decide) (by decide) (by decide) (by decide) rfl rfl
  refine anchor_core (fun W => ?_) w
  have e1 : V1 = -8 ∧ V2 = -4 ∧ E = 0 := by
    rcases h with ⟨h1, h2, h3, _⟩ | ⟨_, _, _, h4 | h4⟩
    · exact ⟨h2, h3, h1⟩
    · exact absurd (by decide) h4
    · exact absurd (by decide) h4
  obtain ⟨rfl, rfl, rfl⟩ := e1
  exact c W
end Go.Proofs.Ytmbmjdlcpjmnoaa.Walks
