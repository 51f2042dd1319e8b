/-
  A configuration as an argument: what it holds.
-/
import Derived.Test.YtbacchdkankioaaOpn
import Derived.Test.YtbacchdkankioaaCf
namespace Go.Proofs.Ytbacchdkankioaa.Cfop
open Go.ChangeShapes Go.WideShapes Go.RowKit
open Sl Sb Vs Gr Cf Opn
set_option linter.unusedVariables false
set_option linter.unusedSimpArgs false
set_option maxRecDepth 100000
section
variable {H : Type} {eh : TypeId × Value → H} {W : World}
/-- A configuration's cells. -/
def cf (c : Cf) : List Value := [.int .i64 c.pu, .int .i64 c.lo, .int .i64 c.hi, .int .i64 c.rb, .int .i64 c.rp, .int .i64 c.ae, .int .i64 c.ms, .int .i64 c.ma, .int .i64 c.an, .int .i64 c.st, .int .i64 c.ss, .int .i64 c.ro, .int .i64 c.ti, .int .i64 c.br]
theorem op_conf : Opens eh Try.prog W 23 cf (fun _ => True) :=
  opens_as (fun y => ⟨y.1, y.2.1, y.2.2.1, y.2.2.2.1, y.2.2.2.2.1, y.2.2.2.2.2.1, y.2.2.2.2.2.2.1, y.2.2.2.2.2.2.2.1, y.2.2.2.2.2.2.2.2.1, y.2.2.2.2.2.2.2.2.2.1, y.2.2.2.2.2.2.2.2.2.2.1, y.2.2.2.2.2.2.2.2.2.2.2.1, y.2.2.2.2.2.2.2.2.2.2.2.2.1, y.2.2.2.2.2.2.2.2.2.2.2.2.2⟩)
    (opens_struct Try.underlying23 rfl (by kernel_rfl) (opensF_cons (m := 1) (z := 13) rfl (by kernel_rfl) (opens_int Try.underlying2) (opensF_cons (m := 1) (z := 12) rfl (by kernel_rfl) (opens_int Try.underlying2) (opensF_cons (m := 1) (z := 11) rfl (by kernel_rfl) (opens_int Try.underlying2) (opensF_cons (m := 1) (z := 10) rfl (by kernel_rfl) (opens_int Try.underlying2) (opensF_cons (m := 1) (z := 9) rfl (by kernel_rfl) (opens_int Try.underlying2) (opensF_cons (m := 1) (z := 8) rfl (by kernel_rfl) (opens_int Try.underlying2) (opensF_cons (m := 1) (z := 7) rfl (by kernel_rfl) (opens_int Try.underlying2) (opensF_cons (m := 1) (z := 6) rfl (by kernel_rfl) (opens_int Try.underlying2) (opensF_cons (m := 1) (z := 5) rfl (by kernel_rfl) (opens_int Try.underlying2) (opensF_cons (m := 1) (z := 4) rfl (by kernel_rfl) (opens_int Try.underlying3) (opensF_cons (m := 1) (z := 3) rfl (by kernel_rfl) (opens_int Try.underlying2) (opensF_cons (m := 1) (z := 2) rfl (by kernel_rfl) (opens_int Try.underlying2) (opensF_cons (m := 1) (z := 1) rfl (by kernel_rfl) (opens_int Try.underlying3) (opensF_one rfl (by kernel_rfl) (opens_int Try.underlying2))))))))))))))))
    (fun _ _ => ⟨rfl, trivial⟩)
/-- A configuration as an argument. -/
theorem open_conf {v : Value} {d : DataW H} {p : List MemPlace} {r : Reach} {b0 : Nat} (hv : Value.okWide Try.prog W r b0 23 v) (h : DataW.Trod eh Try.prog W 0 (fun _ => true) true 23 v d p) (hl : Light Try.prog 23 d) :
    ∃ z : Cf, v = .agg #[.int .i64 z.pu, .int .i64 z.lo, .int .i64 z.hi, .int .i64 z.rb, .int .i64 z.rp, .int .i64 z.ae, .int .i64 z.ms, .int .i64 z.ma, .int .i64 z.an, .int .i64 z.st, .int .i64 z.ss, .int .i64 z.ro, .int .i64 z.ti, .int .i64 z.br] ∧ True := open_agg Try.underlying23 hv h hl op_conf
end
end Go.Proofs.Ytbacchdkankioaa.Cfop
