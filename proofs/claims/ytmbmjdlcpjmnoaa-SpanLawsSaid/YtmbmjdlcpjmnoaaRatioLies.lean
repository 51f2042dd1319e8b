/-
  What layer 3's statements say of what a quotient leaves: 'lies'. Conditions: integers of 64 bits.
-/
import Derived.Test.YtmbmjdlcpjmnoaaRatioRef
namespace Go.Proofs.Ytmbmjdlcpjmnoaa.RatioRef
open Go.ChangeShapes Go.WideShapes Go.ChangeAt Go.RowKit
open Num Ref Ratio Steady Arr
set_option linter.unusedVariables false
set_option maxRecDepth 100000

theorem field_digits (v c0 c1 c2 c3 : Int) (w : World) : (Instr.field 28 (.agg #[.int .i64 v, .int .u64 c0, .int .u64 c1, .int .u64 c2, .int .u64 c3]) 1).run Try.prog w = .ok (.agg #[.int .u64 c0, .int .u64 c1, .int .u64 c2, .int .u64 c3]) w := by kernel_rfl
theorem infoD : (Try.prog.info? 26).map (·.size) = some 4 := by kernel_rfl
/-- Does a rest lie between nothing and what is divided by, on its side? -/
def liesB (z c : Int) (up : Bool) : Bool := decide (sgn z = 0) || (decide (sgn z = if (decide (c < 0) != up) then -1 else 1) && decide (z.natAbs < c.natAbs))
theorem isNum_of (a : Int) (ha : Fits a) : IsNum a (sg a) (abs a % 4294967296) (abs a / 4294967296 % 4294967296) (abs a / 18446744073709551616 % 4294967296) (abs a / 79228162514264337593543950336) :=
  ⟨abs a, by unfold sg; split <;> simp, by unfold abs; split <;> omega, by unfold abs sg; split <;> omega, rfl, rfl, rfl, rfl⟩
end Go.Proofs.Ytmbmjdlcpjmnoaa.RatioRef
