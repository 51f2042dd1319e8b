/-
  THE ENGINE, further: a region that draws its order, with stores into several older rows (or into parts of them) and calls that make nothing: laws for single operations. No program.
-/
import Derived.Test.YtbacchdkankioaaMsf
import Derived.Deep.MidRow
namespace Go.Proofs.Ytbacchdkankioaa.Smu
open Go.ChangeShapes Go.WideShapes Go.ChangeAt Go.RowKit
open Arr Steady Sx Sw Sl Sb Sc Si Sj Sk Sh Sfn
set_option linter.unusedVariables false
set_option linter.unusedSimpArgs false

theorem tdiv_down {a b : Int} (hb : 1 ≤ b) : (if Int.tmod a b < 0 then Int.tdiv a b - 1 else Int.tdiv a b) = a / b := by
  have h1 := Int.tmod_add_mul_tdiv a b
  have h2 := Int.emod_add_mul_ediv a b
  have h3 := Int.emod_nonneg a (show b ≠ 0 by omega)
  have h4 := Int.emod_lt_of_pos a (show 0 < b by omega)
  have h5 : -b < Int.tmod a b ∧ Int.tmod a b < b := ⟨Int.lt_tmod_of_pos a (by omega), Int.tmod_lt_of_pos a (by omega)⟩
  have key : ∀ q r q' r' : Int, r + b * q = a → r' + b * q' = a → -b < r → r < b → 0 ≤ r' → r' < b → (if r < 0 then q - 1 else q) = q' := by
    intro q r q' r' e1 e2 g1 g2 g3 g4
    have e : b * (q - q') = r' - r := by rw [Int.mul_sub]; omega
    by_cases hr : r < 0
    · rw [if_pos hr]
      have u1 : q - q' = 1 := by
        rcases Int.lt_trichotomy (q - q') 1 with u | u | u
        · have : b * (q - q') ≤ b * 0 := Int.mul_le_mul_of_nonneg_left (by omega) (by omega)
          omega
        · exact u
        · have : b * 2 ≤ b * (q - q') := Int.mul_le_mul_of_nonneg_left (by omega) (by omega)
          omega
      omega
    · rw [if_neg hr]
      rcases Int.lt_trichotomy (q - q') 0 with u | u | u
      · have : b * (q - q') ≤ b * (-1) := Int.mul_le_mul_of_nonneg_left (by omega) (by omega)
        omega
      · omega
      · have : b * 1 ≤ b * (q - q') := Int.mul_le_mul_of_nonneg_left (by omega) (by omega)
        omega
  exact key _ _ _ _ h1 h2 h5.1 h5.2 h3 h4
section
variable {P : Program} {o : Oper} {a : Act} {x y : Operand} {t t' : TypeId}
theorem run_tdiv {X Y Z : Int} (ho : o.op = .binOp .quo t x y t') (hx : a.eval x = .int .i64 X) (hy : a.eval y = .int .i64 Y) (hu : P.underlying t = some (.int .i64)) (h0 : Y ≠ 0) (hZ : IntKind.i64.wrap (Int.tdiv X Y) = Z) (w : World) : (execOp a.eval o).run P w = .ok (.value (.int .i64 Z)) w := by
  subst hZ
  refine exec_bin ho hx hy (by simp [eqGuard]) ?_
  simp only [binOp, ne_eq, not_true_eq_false, if_false, Op.intDiv, if_neg h0, Sem.run_pure]
end
section
variable {P : Program} {o : Oper} {a : Act} {x y z : Operand}
end
section
variable {P : Program} {o : Oper} {a : Act}
end
section
variable {P : Program} {o : Oper} {a : Act} {x y : Operand}
end
/-! ### A part of a row is stored -/
section
variable {P : Program} {Q : Exit → Act → World → Prop}
end
section
variable {P : Program} {ops : Array Oper} {Γ : Type} {sz : Nat} {Q : Exit → Act → World → Prop} {val : Γ → Nat → Value} {rows : (Nat → Bool) → Γ → List Rw} {Fc : (Nat → Bool) → Γ → Prop} {a0 : Act} {w0 : World} {i : Nat} {o : Oper}
end
end Go.Proofs.Ytbacchdkankioaa.Smu
