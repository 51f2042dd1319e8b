/-
  The walk of RatioBoth: for any three integers of 64 bits it returns true. No condition.
-/
import Derived.Test.YtiinpgbanmokjaaRatioOrderWalk
namespace Go.Proofs.Ytiinpgbanmokjaa.Walks
open Go.ChangeShapes Go.WideShapes Go.ChangeAt Go.RowKit
open Num Ref Ratio RatioRef
set_option linter.unusedVariables false
set_option maxRecDepth 100000

set_option maxHeartbeats 2000000 in
theorem both_core (a b c f d g y : Int) (w : World)
    (cF : ∀ W, Calls Try.prog 9 #[.int .i64 a, .int .i64 b, .int .i64 c] W fun e w' => e = .returned (.tuple #[.int .i64 f, .int .i64 d]) ∧ Below W.heap.size W w')
    (cG : ∀ W, Calls Try.prog 13 #[.int .i64 a, .int .i64 b, .int .i64 c] W fun e w' => e = .returned (.tuple #[.int .i64 g, .int .i64 y]) ∧ Below W.heap.size W w')
    (h : d = 0 → y = 0 → Fits a ∧ Fits f ∧ ∃ z s, (∀ W, Calls Try.prog 12 #[.int .i64 a, .int .i64 b, .int .i64 f, .int .i64 c] W fun e w' => (∃ u d0 d1 d2 d3, e = .returned (.agg #[.int .i64 u, .int .u64 d0, .int .u64 d1, .int .u64 d2, .int .u64 d3]) ∧ IsNum z u d0 d1 d2 d3) ∧ Below W.heap.size W w') ∧ sgn z = s ∧
      ((g = f ∧ s = 0) ∨ (g = f + 1 ∧ f ≠ 9223372036854775807 ∧ s ≠ 0)) ∧ (a ≠ -9223372036854775808 → f ≠ -9223372036854775808 → ∀ W, Calls Try.prog 13 #[.int .i64 (-a), .int .i64 b, .int .i64 c] W fun e w' => e = .returned (.tuple #[.int .i64 (-f), .int .i64 0]) ∧ Below W.heap.size W w')) :
    Calls Try.prog 5 #[.int .i64 a, .int .i64 b, .int .i64 c] w fun e w' => e = .returned (.bool true) ∧ Below w.heap.size w w' := by
  by_cases hd : d = 0
  · have t1 : (d != 0) = false := by simp [hd]
    by_cases he : y = 0
    · have t2 : (y != 0) = false := by simp [he]
      obtain ⟨ha, hf, z, s, cR, hs, hh, cH⟩ := h hd he
      have HA := Lib.hid ha
      have HF := Lib.hid hf
      have HS := Lib.hid hs
      clear ha hf hs hd he h
      rcases hh with ⟨hg, rfl⟩ | ⟨hg, hm, hs0⟩
      · obtain rfl := hg.symm
        go_enter Try.func5, Try.ntmps5
        go_upto_region 9 with (first
          | (go_at_call 8; ((with_reducible refine (anchor_any _).mono ?_); rintro e w0 ⟨rfl, hb0⟩))
          | (go_at_call 9; ((with_reducible refine (cF _).mono ?_); rintro e w1 ⟨rfl, hb1⟩))
          | (go_at_call 13; ((with_reducible refine (cG _).mono ?_); rintro e w2 ⟨rfl, hb2⟩))
          | (go_at_call 12; ((with_reducible refine (cR _).mono ?_); rintro e w3 ⟨⟨u, d0, d1, d2, d3, rfl, hx⟩, hb3⟩; have Hx := Lib.hid hx; clear hx))
          | (go_at_call 14; ((with_reducible refine (sign_num z u d0 d1 d2 d3 _ Hx.out).mono ?_); rintro e w4 ⟨rfl, hb4⟩; rw [HS.out])))
        have B1 := hb0.trans (hb1.mono hb0.size)
        have B2 := B1.trans (hb2.mono B1.size)
        have B3 := B2.trans (hb3.mono B2.size)
        have B4 := B3.trans (hb4.mono B3.size)
        clear hb0 hb1 hb2 hb3 hb4 B1 B2 B3 cF cG cR
        by_cases p1 : a = -9223372036854775808
        · have s1 : (a == -9223372036854775808) = true := by simpa using p1
          clear p1 cH
          go_wp2
          go_ret
          exact ⟨rfl, B4⟩
        · have s1 : (a == -9223372036854775808) = false := by simpa using p1
          by_cases p2 : f = -9223372036854775808
          · have s2 : (f == -9223372036854775808) = true := by simpa using p2
            clear p1 p2 cH
            go_wp2
            go_ret
            exact ⟨rfl, B4⟩
          · have s2 : (f == -9223372036854775808) = false := by simpa using p2
            have cH := cH p1 p2
            have a1 : -9223372036854775807 ≤ a := by have := HA.out; unfold Fits at this; omega
            have a2 : a ≤ 9223372036854775807 := by have := HA.out; unfold Fits at this; omega
            have f1 : -9223372036854775807 ≤ f := by have := HF.out; unfold Fits at this; omega
            have f2 : f ≤ 9223372036854775807 := by have := HF.out; unfold Fits at this; omega
            clear p1 p2
            go_wp2_with (first
              | (go_at_call 13; ((with_reducible refine (cH _).mono ?_); rintro e w5 ⟨rfl, hb5⟩)))
            go_ret
            exact ⟨rfl, B4.trans (hb5.mono B4.size)⟩
      · have f2 : f ≤ 9223372036854775806 := by have := HF.out; unfold Fits at this; omega
        have f1 : -9223372036854775808 ≤ f := by have := HF.out; unfold Fits at this; omega
        have t3 : (g != f) = true := by simp; omega
        have t4 : (f == 9223372036854775807) = false := by simp; omega
        have t5 : (g != f + 1) = false := by simp [hg]
        have t6 : (g == f) = false := by simp; omega
        have t7 : (s == 0) = false := by simpa using hs0
        clear hg hm hs0
        go_enter Try.func5, Try.ntmps5
        go_upto_region 9 with (first
          | (go_at_call 8; ((with_reducible refine (anchor_any _).mono ?_); rintro e w0 ⟨rfl, hb0⟩))
          | (go_at_call 9; ((with_reducible refine (cF _).mono ?_); rintro e w1 ⟨rfl, hb1⟩))
          | (go_at_call 13; ((with_reducible refine (cG _).mono ?_); rintro e w2 ⟨rfl, hb2⟩))
          | (go_at_call 12; ((with_reducible refine (cR _).mono ?_); rintro e w3 ⟨⟨u, d0, d1, d2, d3, rfl, hx⟩, hb3⟩; have Hx := Lib.hid hx; clear hx))
          | (go_at_call 14; ((with_reducible refine (sign_num z u d0 d1 d2 d3 _ Hx.out).mono ?_); rintro e w4 ⟨rfl, hb4⟩; rw [HS.out])))
        have B1 := hb0.trans (hb1.mono hb0.size)
        have B2 := B1.trans (hb2.mono B1.size)
        have B3 := B2.trans (hb3.mono B2.size)
        have B4 := B3.trans (hb4.mono B3.size)
        clear hb0 hb1 hb2 hb3 hb4 B1 B2 B3 cF cG cR
        by_cases p1 : a = -9223372036854775808
        · have s1 : (a == -9223372036854775808) = true := by simpa using p1
          clear p1 cH
          go_wp2
          go_ret
          exact ⟨rfl, B4⟩
        · have s1 : (a == -9223372036854775808) = false := by simpa using p1
          by_cases p2 : f = -9223372036854775808
          · have s2 : (f == -9223372036854775808) = true := by simpa using p2
            clear p1 p2 cH
            go_wp2
            go_ret
            exact ⟨rfl, B4⟩
          · have s2 : (f == -9223372036854775808) = false := by simpa using p2
            have cH := cH p1 p2
            have a1 : -9223372036854775807 ≤ a := by have := HA.out; unfold Fits at this; omega
            have a2 : a ≤ 9223372036854775807 := by have := HA.out; unfold Fits at this; omega
            have f1 : -9223372036854775807 ≤ f := by have := HF.out; unfold Fits at this; omega
            have f2 : f ≤ 9223372036854775807 := by have := HF.out; unfold Fits at this; omega
            clear p1 p2
            go_wp2_with (first
              | (go_at_call 13; ((with_reducible refine (cH _).mono ?_); rintro e w5 ⟨rfl, hb5⟩)))
            go_ret
            exact ⟨rfl, B4.trans (hb5.mono B4.size)⟩
    · have t2 : (y != 0) = true := by simpa using he
      clear h hd he
      go_enter Try.func5, Try.ntmps5
      go_wp2_with (first
        | (go_at_call 8; ((with_reducible refine (anchor_any _).mono ?_); rintro e w0 ⟨rfl, hb0⟩))
        | (go_at_call 9; ((with_reducible refine (cF _).mono ?_); rintro e w1 ⟨rfl, hb1⟩))
        | (go_at_call 13; ((with_reducible refine (cG _).mono ?_); rintro e w2 ⟨rfl, hb2⟩)))
      go_ret
      exact ⟨rfl, (hb0.trans (hb1.mono hb0.size)).trans (hb2.mono (hb0.trans (hb1.mono hb0.size)).size)⟩
  · have t1 : (d != 0) = true := by simpa using hd
    clear h hd
    go_enter Try.func5, Try.ntmps5
    go_wp2_with (first
      | (go_at_call 8; ((with_reducible refine (anchor_any _).mono ?_); rintro e w0 ⟨rfl, hb0⟩))
      | (go_at_call 9; ((with_reducible refine (cF _).mono ?_); rintro e w1 ⟨rfl, hb1⟩))
      | (go_at_call 13; ((with_reducible refine (cG _).mono ?_); rintro e w2 ⟨rfl, hb2⟩)))
    go_ret
    exact ⟨rfl, (hb0.trans (hb1.mono hb0.size)).trans (hb2.mono (hb0.trans (hb1.mono hb0.size)).size)⟩
theorem ratioBoth_walk (a : Int) (wa : (Lit.int .i64 a).wf = true) (b : Int) (wb : (Lit.int .i64 b).wf = true) (c : Int) (wc : (Lit.int .i64 c).wf = true) (w : World) :
    Calls Try.prog 5 #[.int .i64 a, .int .i64 b, .int .i64 c] w fun e w' => e = .returned (.bool true) ∧ Below w.heap.size w w' := by
  have ha := fits_of_wf wa
  have hb := fits_of_wf wb
  have hc := fits_of_wf wc
  clear wa wb wc
  refine both_core a b c _ _ _ _ w (fun W => floor_any a b c W ha hb hc) (fun W => ceil_any a b c W ha hb hc) ?_
  intro k1 k2
  have h0 : c ≠ 0 := by
    intro h
    unfold quoE at k1
    rw [if_pos h] at k1
    omega
  rw [quo_told h0 k1, quo_told h0 k2]
  have fit : ∀ up, quoE (a * b) c up = 0 → Fits (quo (a * b) c up) := by
    intro up k
    unfold quoE at k
    rw [if_neg h0] at k
    by_cases hf : Fits (quo (a * b) c up)
    · exact hf
    · rw [if_neg hf] at k; omega
  have hf := fit false k1
  have hg := fit true k2
  refine ⟨ha, hf, _, _, fun W => rest_num a b _ c W ha hb hf hc, rfl, ?_, ?_⟩
  · rcases quo_both h0 (rfl : quo (a * b) c false = _) (rfl : quo (a * b) c true = _) with ⟨e1, e2⟩ | ⟨e1, e2⟩
    · exact .inl ⟨e1, sgn_zero e2⟩
    · refine .inr ⟨e1, ?_, fun h => e2 ((sgn_zero_iff _).1 h)⟩
      unfold Fits at hg
      omega
  · intro n1 n2 W
    have hna : Fits (-a) := by unfold Fits at ha ⊢; omega
    have c5 := ceil_any (-a) b c W hna hb hc
    have hq : quo (-a * b) c true = -quo (a * b) c false := quo_turned a b c
    have hfn : Fits (quo (-a * b) c true) := by rw [hq]; unfold Fits at hf ⊢; omega
    have e1 : quoV (-a * b) c true = -quo (a * b) c false := by unfold quoV; rw [if_neg h0, if_pos hfn, hq]
    have e2 : quoE (-a * b) c true = 0 := by unfold quoE; rw [if_neg h0, if_pos hfn]
    rw [e1, e2] at c5
    exact c5
end Go.Proofs.Ytiinpgbanmokjaa.Walks
