/-
  Contracts of package span's plain functions (Right, Has, At, Meet, Hull, In), apart from its arithmetic: what each returns for any integers. No condition.
-/
import Derived.Test.YtbacblnbmdomaaaSl
import Derived.Lib.MinMax
namespace Go.Proofs.Ytbacblnbmdomaaa.Spn
open Go.ChangeShapes Go.WideShapes Go.ChangeAt Go.RowKit
open Arr
set_option linter.unusedVariables false
set_option maxRecDepth 100000

theorem has_any (a b x : Int) (w : World) :
    Calls Try.prog 10 #[.agg #[.int .i64 a, .int .i64 b], .int .i64 x] w fun e w' => e = .returned (.bool (decide (a ≤ x) && decide (x ≤ b))) ∧ Below w.heap.size w w' := by
  by_cases h : a ≤ x
  · have t : decide (a ≤ x) = true := decide_eq_true h
    rw [t, Bool.true_and]
    go_enter Try.func10, Try.ntmps10
    go_wp2
    go_ret
    exact ⟨rfl, (Below.refl _ _).alloc (Nat.le_refl _) _⟩
  · have t : decide (a ≤ x) = false := decide_eq_false h
    rw [t, Bool.false_and]
    go_enter Try.func10, Try.ntmps10
    go_wp2
    go_ret
    exact ⟨rfl, (Below.refl _ _).alloc (Nat.le_refl _) _⟩
theorem in_any (a b c d : Int) (w : World) :
    Calls Try.prog 13 #[.agg #[.int .i64 a, .int .i64 b], .agg #[.int .i64 c, .int .i64 d]] w fun e w' => e = .returned (.bool (!decide (a ≤ b) || decide (c ≤ a) && decide (b ≤ d))) ∧ Below w.heap.size w w' := by
  by_cases h : a ≤ b
  · by_cases k : c ≤ a
    · have t := decide_eq_true h
      have u := decide_eq_true k
      rw [t, u, Bool.true_and, Bool.not_true, Bool.false_or]
      clear h k
      go_enter Try.func13, Try.ntmps13
      go_wp2_with (go_in)
      go_ret
      refine ⟨rfl, ?_⟩
      repeat (first | exact Below.refl _ _ | refine Below.alloc ?_ (by simp <;> omega) _)
    · have t := decide_eq_true h
      have u := decide_eq_false k
      rw [t, u, Bool.false_and, Bool.not_true, Bool.false_or]
      clear h k
      go_enter Try.func13, Try.ntmps13
      go_wp2_with (go_in)
      go_ret
      refine ⟨rfl, ?_⟩
      repeat (first | exact Below.refl _ _ | refine Below.alloc ?_ (by simp <;> omega) _)
  · have t := decide_eq_false h
    rw [t, Bool.not_false, Bool.true_or]
    clear h
    go_enter Try.func13, Try.ntmps13
    go_wp2_with (go_in)
    go_ret
    refine ⟨rfl, ?_⟩
    repeat (first | exact Below.refl _ _ | refine Below.alloc ?_ (by simp <;> omega) _)
end Go.Proofs.Ytbacblnbmdomaaa.Spn
