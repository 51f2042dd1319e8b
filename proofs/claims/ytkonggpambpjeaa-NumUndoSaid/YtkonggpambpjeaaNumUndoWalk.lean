/-
  The walk of NumUndo: for any two integers of 64 bits it returns true. No condition.
-/
import Derived.Test.YtkonggpambpjeaaBack
namespace Go.Proofs.Ytkonggpambpjeaa.Walks
open Go.ChangeShapes Go.WideShapes Go.ChangeAt Go.RowKit
open Num Ref
set_option linter.unusedVariables false

theorem numUndo_walk (a : Int) (wa : (Lit.int .i64 a).wf = true) (b : Int) (wb : (Lit.int .i64 b).wf = true) (w : World) :
    Calls Try.prog 7 #[.int .i64 a, .int .i64 b] w fun e w' => e = .returned (.bool true) ∧ Below w.heap.size w w' := by
  have ha := fits_of_wf wa
  have hb := fits_of_wf wb
  clear wa wb
  have e1 : a + b - b = a := by omega
  have e2 : a - b + b = a := by omega
  by_cases h1 : Fits (a + b)
  · have c1 := fun W => add_yes a b W ha hb h1
    have c2 := fun W => sub_yes (a + b) b W h1 hb (by rw [e1]; exact ha)
    rw [e1] at c2
    by_cases h2 : Fits (a - b)
    · have c3 := fun W => sub_yes a b W ha hb h2
      have c4 := fun W => add_yes (a - b) b W h2 hb (by rw [e2]; exact ha)
      rw [e2] at c4
      clear e1 e2 ha hb h1 h2
      go_enter Try.func7, Try.ntmps7
      go_wp2_with (first
        | (go_at_call 8; refine (anchor_any _).mono ?_; rintro e w' ⟨rfl, rfl⟩)
        | (go_at_call 10; ((with_reducible refine (c1 _).mono ?_); rintro e w' ⟨rfl, rfl⟩))
        | (go_at_call 10; ((with_reducible refine (c4 _).mono ?_); rintro e w' ⟨rfl, rfl⟩))
        | (go_at_call 11; ((with_reducible refine (c2 _).mono ?_); rintro e w' ⟨rfl, rfl⟩))
        | (go_at_call 11; ((with_reducible refine (c3 _).mono ?_); rintro e w' ⟨rfl, rfl⟩)))
      go_ret
      exact ⟨rfl, Below.refl _ _⟩
    · have c3 := fun W => sub_no a b W ha hb h2
      clear e1 e2 ha hb h1 h2
      go_enter Try.func7, Try.ntmps7
      go_wp2_with (first
        | (go_at_call 8; refine (anchor_any _).mono ?_; rintro e w' ⟨rfl, rfl⟩)
        | (go_at_call 10; ((with_reducible refine (c1 _).mono ?_); rintro e w' ⟨rfl, rfl⟩))
        | (go_at_call 11; ((with_reducible refine (c2 _).mono ?_); rintro e w' ⟨rfl, rfl⟩))
        | (go_at_call 11; ((with_reducible refine (c3 _).mono ?_); rintro e w' ⟨rfl, rfl⟩)))
      go_ret
      exact ⟨rfl, Below.refl _ _⟩
  · have c1 := fun W => add_no a b W ha hb h1
    by_cases h2 : Fits (a - b)
    · have c3 := fun W => sub_yes a b W ha hb h2
      have c4 := fun W => add_yes (a - b) b W h2 hb (by rw [e2]; exact ha)
      rw [e2] at c4
      clear e1 e2 ha hb h1 h2
      go_enter Try.func7, Try.ntmps7
      go_wp2_with (first
        | (go_at_call 8; refine (anchor_any _).mono ?_; rintro e w' ⟨rfl, rfl⟩)
        | (go_at_call 10; ((with_reducible refine (c1 _).mono ?_); rintro e w' ⟨rfl, rfl⟩))
        | (go_at_call 10; ((with_reducible refine (c4 _).mono ?_); rintro e w' ⟨rfl, rfl⟩))
        | (go_at_call 11; ((with_reducible refine (c3 _).mono ?_); rintro e w' ⟨rfl, rfl⟩)))
      go_ret
      exact ⟨rfl, Below.refl _ _⟩
    · exfalso
      clear e1 e2 c1
      unfold Fits at ha hb h1 h2
      omega
end Go.Proofs.Ytkonggpambpjeaa.Walks
