/-
  The walk of RatioCeils: for any three integers of 64 bits it returns true. No condition.
-/
import Derived.Test.YtiinpgbanmokjaaRatioMath
namespace Go.Proofs.Ytiinpgbanmokjaa.Walks
open Go.ChangeShapes Go.WideShapes Go.ChangeAt Go.RowKit
open Num Ref Ratio RatioRef
set_option linter.unusedVariables false
set_option maxRecDepth 100000

set_option maxHeartbeats 1000000 in
theorem ratioCeils_walk (a : Int) (wa : (Lit.int .i64 a).wf = true) (b : Int) (wb : (Lit.int .i64 b).wf = true) (c : Int) (wc : (Lit.int .i64 c).wf = true) (w : World) :
    Calls Try.prog 4 #[.int .i64 a, .int .i64 b, .int .i64 c] w fun e w' => e = .returned (.bool true) ∧ Below w.heap.size w w' := by
  have ha := fits_of_wf wa
  have hb := fits_of_wf wb
  have hc := fits_of_wf wc
  clear wa wb wc
  have cq := fun W => ceil_any a b c W ha hb hc
  have B2 : ∀ (w1 w2 : World), Below w.heap.size w w1 → Below w1.heap.size w1 w2 → Below w.heap.size w w2 := fun w1 w2 h k => h.trans (k.mono h.size)
  by_cases h0 : c = 0
  · have e1 : quoV (a * b) c true = 0 := if_pos h0
    have e2 : quoE (a * b) c true = 21 := if_pos h0
    rw [e1, e2] at cq
    clear e1 e2 ha hb hc
    subst h0
    go_enter Try.func4, Try.ntmps4
    go_wp2_with (first
    | (go_at_call 8; ((with_reducible refine (anchor_any _).mono ?_); rintro e w1 ⟨rfl, hb1⟩))
    | (go_at_call 13; ((with_reducible refine (cq _).mono ?_); rintro e w2 ⟨rfl, hb2⟩)))
    go_ret
    exact ⟨rfl, B2 _ _ hb1 hb2⟩
  · have t0 : (c == 0) = false := by simpa using h0
    by_cases hf : Fits (quo (a * b) c true)
    · have e1 : quoV (a * b) c true = quo (a * b) c true := by unfold quoV; rw [if_neg h0, if_pos hf]
      have e2 : quoE (a * b) c true = 0 := by unfold quoE; rw [if_neg h0, if_pos hf]
      rw [e1, e2] at cq
      obtain ⟨q, hq⟩ : ∃ q, q = quo (a * b) c true := ⟨_, rfl⟩
      rw [← hq] at cq hf
      have cr := fun W => rest_num a b q c W ha hb hf hc
      have hl := lies_ceil h0 hq
      obtain ⟨z, hz⟩ : ∃ z, z = a * b - q * c := ⟨_, rfl⟩
      rw [← hz] at cr hl
      have HC := Lib.hid hc
      have HL := Lib.hid hl
      clear e1 e2 ha hb hc hq hf h0 hz hl
      go_enter Try.func4, Try.ntmps4
      go_wp2_with (first
    | (go_at_call 8; ((with_reducible refine (anchor_any _).mono ?_); rintro e w1 ⟨rfl, hb1⟩))
    | (go_at_call 13; ((with_reducible refine (cq _).mono ?_); rintro e w2 ⟨rfl, hb2⟩))
        | (go_at_call 12; ((with_reducible refine (cr _).mono ?_); rintro e w3 ⟨⟨u, d0, d1, d2, d3, rfl, hx⟩, hb3⟩; have Hx := Lib.hid hx; clear hx))
        | (go_at_call 11; ((with_reducible refine (lies_num z u d0 d1 d2 d3 c true _ Hx.out HC.out).mono ?_); rintro e w4 ⟨rfl, hb4⟩; rw [HL.out])))
      go_ret
      have B := B2 _ _ hb1 hb2
      exact ⟨rfl, (B.trans (hb3.mono B.size)).trans (hb4.mono (B.trans (hb3.mono B.size)).size)⟩
    · have e1 : quoV (a * b) c true = 0 := by unfold quoV; rw [if_neg h0, if_neg hf]
      have e2 : quoE (a * b) c true = 20 := by unfold quoE; rw [if_neg h0, if_neg hf]
      rw [e1, e2] at cq
      have cb := fun W => beyond_num a b c true W ha hb hc
      rw [beyond_true h0 hf] at cb
      clear e1 e2 ha hb hc hf h0
      go_enter Try.func4, Try.ntmps4
      go_wp2_with (first
    | (go_at_call 8; ((with_reducible refine (anchor_any _).mono ?_); rintro e w1 ⟨rfl, hb1⟩))
    | (go_at_call 13; ((with_reducible refine (cq _).mono ?_); rintro e w2 ⟨rfl, hb2⟩))
        | (go_at_call 10; ((with_reducible refine (cb _).mono ?_); rintro e w3 ⟨rfl, hb3⟩)))
      go_ret
      have B := B2 _ _ hb1 hb2
      exact ⟨rfl, B.trans (hb3.mono B.size)⟩
end Go.Proofs.Ytiinpgbanmokjaa.Walks
