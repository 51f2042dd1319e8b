/-
  The walk of NumProducts: for any two integers of 64 bits it returns true. No condition.
-/
import Derived.Test.YtkonggpambpjeaaProd
namespace Go.Proofs.Ytkonggpambpjeaa.Walks
open Go.ChangeShapes Go.WideShapes Go.ChangeAt Go.RowKit
open Num Ref
set_option linter.unusedVariables false
set_option maxHeartbeats 2000000 in
theorem numProducts_walk (a : Int) (wa : (Lit.int .i64 a).wf = true) (b : Int) (wb : (Lit.int .i64 b).wf = true) (w : World) :
    Calls Try.prog 4 #[.int .i64 a, .int .i64 b] w fun e w' => e = .returned (.bool true) ∧ Below w.heap.size w w' := by
  have ha := Lib.hid (fits_of_wf wa)
  have hb := Lib.hid (fits_of_wf wb)
  clear wa wb
  go_enter Try.func4, Try.ntmps4
  go_wp2_with (first
    | (go_at_call 8; refine (anchor_any _).mono ?_; rintro e w' ⟨rfl, rfl⟩)
    | (go_at_call 18; ((with_reducible refine (mul_num a b _ ha.out hb.out).mono ?_); rintro e w' ⟨rfl, rfl⟩))
    | (go_at_call 19; ((with_reducible refine (times_num a b _ ha.out hb.out).mono ?_); rintro e w1 ⟨⟨u, d0, d1, d2, d3, rfl, hx⟩, hb1⟩; have Hx := Lib.hid hx; clear hx))
    | (go_at_call 14; ((with_reducible refine (back_num (a * b) u d0 d1 d2 d3 _ Hx.out).mono ?_); rintro e w2 ⟨rfl, hb2⟩; obtain ⟨hc2, hf2⟩ := bcell hb2; have hs2 := hb2.size; simp at hs2; have q2 : w1.heap.size < w2.heap.size := (by omega)))
    | (go_at_call 15; ((with_reducible refine (told_num (a * b) u d0 d1 d2 d3 _ Hx.out).mono ?_); rintro e w3 ⟨rfl, hb3⟩))
    | (go_at_call 20; ((with_reducible refine (mulsat_any a b _ ha.out hb.out).mono ?_); rintro e w' ⟨rfl, rfl⟩)))
  go_ret
  refine ⟨rfl, ?_⟩
  have h1 := hb1.size
  exact ((hb1.alloc h1 _).trans (hb2.mono (by simp; omega))).trans (hb3.mono (by omega))
end Go.Proofs.Ytkonggpambpjeaa.Walks
