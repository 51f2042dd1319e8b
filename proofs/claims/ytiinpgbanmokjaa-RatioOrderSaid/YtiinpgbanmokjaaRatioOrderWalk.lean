/-
  The walk of RatioOrder: for any four integers of 64 bits it returns true. No condition.
-/
import Derived.Test.YtiinpgbanmokjaaRatioMath
namespace Go.Proofs.Ytiinpgbanmokjaa.Walks
open Go.ChangeShapes Go.WideShapes Go.ChangeAt Go.RowKit
open Num Ref Ratio RatioRef
set_option linter.unusedVariables false
set_option maxRecDepth 100000

set_option maxHeartbeats 2000000 in
theorem order_core (a m b c V1 E1 V2 E2 V3 E3 V4 E4 : Int) (w : World) (ham : a ≤ m) (hb : 0 ≤ b) (hc : 0 < c)
    (c1 : ∀ W, Calls Try.prog 9 #[.int .i64 a, .int .i64 b, .int .i64 c] W fun e w' => e = .returned (.tuple #[.int .i64 V1, .int .i64 E1]) ∧ Below W.heap.size W w')
    (c2 : ∀ W, Calls Try.prog 9 #[.int .i64 m, .int .i64 b, .int .i64 c] W fun e w' => e = .returned (.tuple #[.int .i64 V2, .int .i64 E2]) ∧ Below W.heap.size W w')
    (c3 : ∀ W, Calls Try.prog 13 #[.int .i64 a, .int .i64 b, .int .i64 c] W fun e w' => e = .returned (.tuple #[.int .i64 V3, .int .i64 E3]) ∧ Below W.heap.size W w')
    (c4 : ∀ W, Calls Try.prog 13 #[.int .i64 m, .int .i64 b, .int .i64 c] W fun e w' => e = .returned (.tuple #[.int .i64 V4, .int .i64 E4]) ∧ Below W.heap.size W w')
    (h1 : E1 = 0 → E2 = 0 → V1 ≤ V2) (h2 : E3 = 0 → E4 = 0 → V3 ≤ V4) :
    Calls Try.prog 7 #[.int .i64 a, .int .i64 m, .int .i64 b, .int .i64 c] w fun e w' => e = .returned (.bool true) ∧ Below w.heap.size w w' := by
  have t1 : decide (m < a) = false := decide_eq_false (by omega)
  have t2 : decide (b < 0) = false := decide_eq_false (by omega)
  have t3 : decide (c ≤ 0) = false := decide_eq_false (by omega)
  have H1 := Lib.hid h1
  have H2 := Lib.hid h2
  clear h1 h2 ham hb hc
  go_enter Try.func7, Try.ntmps7
  go_upto_region 9 with (first
    | (go_at_call 8; ((with_reducible refine (anchor_any _).mono ?_); rintro e w0 ⟨rfl, hb0⟩))
    | (go_at_call 9; ((with_reducible refine (c1 _).mono ?_); rintro e w1 ⟨rfl, hb1⟩))
    | (go_at_call 9; ((with_reducible refine (c2 _).mono ?_); rintro e w2 ⟨rfl, hb2⟩))
    | (go_at_call 13; ((with_reducible refine (c3 _).mono ?_); rintro e w3 ⟨rfl, hb3⟩))
    | (go_at_call 13; ((with_reducible refine (c4 _).mono ?_); rintro e w4 ⟨rfl, hb4⟩)))
  have B1 := hb0.trans (hb1.mono hb0.size)
  have B2 := B1.trans (hb2.mono B1.size)
  have B3 := B2.trans (hb3.mono B2.size)
  have B4 := B3.trans (hb4.mono B3.size)
  clear hb0 hb1 hb2 hb3 hb4 B1 B2 B3 c1 c2 c3 c4
  by_cases z1 : E1 = 0
  · have s1 : (E1 != 0) = false := by simp [z1]
    by_cases z2 : E2 = 0
    · have s2 : (E2 != 0) = false := by simp [z2]
      have s0 : decide (V1 ≤ V2) = true := decide_eq_true (H1.out z1 z2)
      clear z1 z2
      by_cases z3 : E3 = 0
      · have s3 : (E3 != 0) = false := by simp [z3]
        by_cases z4 : E4 = 0
        · have s4 : (E4 != 0) = false := by simp [z4]
          have s5 : decide (V3 ≤ V4) = true := decide_eq_true (H2.out z3 z4)
          clear z3 z4
          go_wp2
          go_ret
          exact ⟨rfl, B4⟩
        · have s4 : (E4 != 0) = true := by simpa using z4
          clear z3 z4
          go_wp2
          go_ret
          exact ⟨rfl, B4⟩
      · have s3 : (E3 != 0) = true := by simpa using z3
        clear z3
        go_wp2
        go_ret
        exact ⟨rfl, B4⟩
    · have s2 : (E2 != 0) = true := by simpa using z2
      clear z1 z2
      by_cases z3 : E3 = 0
      · have s3 : (E3 != 0) = false := by simp [z3]
        by_cases z4 : E4 = 0
        · have s4 : (E4 != 0) = false := by simp [z4]
          have s5 : decide (V3 ≤ V4) = true := decide_eq_true (H2.out z3 z4)
          clear z3 z4
          go_wp2
          go_ret
          exact ⟨rfl, B4⟩
        · have s4 : (E4 != 0) = true := by simpa using z4
          clear z3 z4
          go_wp2
          go_ret
          exact ⟨rfl, B4⟩
      · have s3 : (E3 != 0) = true := by simpa using z3
        clear z3
        go_wp2
        go_ret
        exact ⟨rfl, B4⟩
  · have s1 : (E1 != 0) = true := by simpa using z1
    clear z1
    by_cases z3 : E3 = 0
    · have s3 : (E3 != 0) = false := by simp [z3]
      by_cases z4 : E4 = 0
      · have s4 : (E4 != 0) = false := by simp [z4]
        have s5 : decide (V3 ≤ V4) = true := decide_eq_true (H2.out z3 z4)
        clear z3 z4
        go_wp2
        go_ret
        exact ⟨rfl, B4⟩
      · have s4 : (E4 != 0) = true := by simpa using z4
        clear z3 z4
        go_wp2
        go_ret
        exact ⟨rfl, B4⟩
    · have s3 : (E3 != 0) = true := by simpa using z3
      clear z3
      go_wp2
      go_ret
      exact ⟨rfl, B4⟩
theorem quo_told {p c : Int} {up : Bool} (h0 : c ≠ 0) (h : quoE p c up = 0) : quoV p c up = quo p c up := by
  unfold quoE at h
  unfold quoV
  rw [if_neg h0] at h
  rw [if_neg h0]
  by_cases hf : Fits (quo p c up)
  · rw [if_pos hf]
  · rw [if_neg hf] at h; omega
theorem ratioOrder_walk (a : Int) (wa : (Lit.int .i64 a).wf = true) (m : Int) (wm : (Lit.int .i64 m).wf = true) (b : Int) (wb : (Lit.int .i64 b).wf = true) (c : Int) (wc : (Lit.int .i64 c).wf = true) (w : World) :
    Calls Try.prog 7 #[.int .i64 a, .int .i64 m, .int .i64 b, .int .i64 c] w fun e w' => e = .returned (.bool true) ∧ Below w.heap.size w w' := by
  have ha := fits_of_wf wa
  have hm := fits_of_wf wm
  have hb := fits_of_wf wb
  have hc := fits_of_wf wc
  clear wa wb wc wm
  by_cases h : m < a ∨ b < 0 ∨ c ≤ 0
  · clear ha hm hb hc
    by_cases h1 : m < a
    · have t1 : decide (m < a) = true := decide_eq_true h1
      clear h h1
      go_enter Try.func7, Try.ntmps7
      go_wp2_with (first
        | (go_at_call 8; ((with_reducible refine (anchor_any _).mono ?_); rintro e w0 ⟨rfl, hb0⟩)))
      go_ret
      exact ⟨rfl, hb0⟩
    · have t1 : decide (m < a) = false := decide_eq_false h1
      by_cases h2 : b < 0
      · have t2 : decide (b < 0) = true := decide_eq_true h2
        clear h h1 h2
        go_enter Try.func7, Try.ntmps7
        go_wp2_with (first
          | (go_at_call 8; ((with_reducible refine (anchor_any _).mono ?_); rintro e w0 ⟨rfl, hb0⟩)))
        go_ret
        exact ⟨rfl, hb0⟩
      · have t2 : decide (b < 0) = false := decide_eq_false h2
        have t3 : decide (c ≤ 0) = true := decide_eq_true (by omega)
        clear h h1 h2
        go_enter Try.func7, Try.ntmps7
        go_wp2_with (first
          | (go_at_call 8; ((with_reducible refine (anchor_any _).mono ?_); rintro e w0 ⟨rfl, hb0⟩)))
        go_ret
        exact ⟨rfl, hb0⟩
  · have hp : a * b ≤ m * b := Int.mul_le_mul_of_nonneg_right (by omega) (by omega)
    have h0 : c ≠ 0 := by omega
    exact order_core a m b c _ _ _ _ _ _ _ _ w (by omega) (by omega) (by omega) (fun W => floor_any a b c W ha hb hc) (fun W => floor_any m b c W hm hb hc) (fun W => ceil_any a b c W ha hb hc) (fun W => ceil_any m b c W hm hb hc)
      (fun k1 k2 => by rw [quo_told h0 k1, quo_told h0 k2]; exact quo_mono (by omega) hp _) (fun k1 k2 => by rw [quo_told h0 k1, quo_told h0 k2]; exact quo_mono (by omega) hp _)
end Go.Proofs.Ytiinpgbanmokjaa.Walks
