/-
  Sensors of layer 17 as arguments: one, and three of them.
-/
import Derived.Test.YtlfienfjdjfcoaaOpna
import Derived.Test.YtlfienfjdjfcoaaFzm
namespace Go.Proofs.Ytlfienfjdjfcoaa.Fzop
open Go.ChangeShapes Go.WideShapes Go.RowKit
open Sl Sb Vs Fzm Opn Opna
set_option linter.unusedVariables false
set_option linter.unusedSimpArgs false
set_option maxRecDepth 100000
section
variable {H : Type} {eh : TypeId × Value → H} {W : World}
def srv (x : Sr) : List Value := [.bool x.f, .int .i64 x.lo, .int .i64 x.hi]
theorem op_span : Opens eh Try.prog W 23 (fun x : Int × Int => [.int .i64 x.1, .int .i64 x.2]) (fun _ => True) :=
  opens_as id (opens_struct Try.underlying23 rfl (by kernel_rfl) (opensF_cons (m := 1) (z := 1) rfl (by kernel_rfl) (opens_int Try.underlying2) (opensF_one rfl (by kernel_rfl) (opens_int Try.underlying2)))) (fun _ _ => ⟨rfl, trivial⟩)
theorem op_sensor : Opens eh Try.prog W 25 srv (fun _ => True) :=
  opens_as (fun y => ⟨y.1, y.2.1, y.2.2⟩)
    (opens_struct Try.underlying25 rfl (by kernel_rfl) (opensF_cons (m := 1) (z := 2) rfl (by kernel_rfl) (opens_bool Try.underlying4) (opensF_one rfl (by kernel_rfl) op_span)))
    (fun _ _ => ⟨rfl, trivial⟩)
theorem op_three : Opens eh Try.prog W 26 (fun y : Sr × Sr × Sr => srv y.1 ++ (srv y.2.1 ++ srv y.2.2)) (fun y => True ∧ True ∧ True) :=
  opens_array3 (z := 3) Try.underlying26 (by kernel_rfl) (by kernel_rfl) op_sensor
theorem open_sensor {v : Value} {d : DataW H} {p : List MemPlace} {r : Reach} {b0 : Nat} (hv : Value.okWide Try.prog W r b0 25 v) (h : DataW.Trod eh Try.prog W 0 (fun _ => true) true 25 v d p) (hl : Light Try.prog 25 d) :
    ∃ z : Sr, v = .agg #[.bool z.f, .int .i64 z.lo, .int .i64 z.hi] ∧ True := open_agg Try.underlying25 hv h hl op_sensor
theorem open_three {v : Value} {d : DataW H} {p : List MemPlace} {r : Reach} {b0 : Nat} (hv : Value.okWide Try.prog W r b0 26 v) (h : DataW.Trod eh Try.prog W 0 (fun _ => true) true 26 v d p) (hl : Light Try.prog 26 d) :
    ∃ z : Sr × Sr × Sr, v = .agg #[.bool z.1.f, .int .i64 z.1.lo, .int .i64 z.1.hi, .bool z.2.1.f, .int .i64 z.2.1.lo, .int .i64 z.2.1.hi, .bool z.2.2.f, .int .i64 z.2.2.lo, .int .i64 z.2.2.hi] ∧ True := by
  obtain ⟨z, e, _⟩ := open_array Try.underlying26 hv h hl op_three
  exact ⟨z, e, trivial⟩
end
end Go.Proofs.Ytlfienfjdjfcoaa.Fzop
