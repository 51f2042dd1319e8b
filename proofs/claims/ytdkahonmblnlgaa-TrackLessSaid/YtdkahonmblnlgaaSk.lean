/-
  THE ENGINE, further: results of one row and two plain values; the lower 16 bits; the other sign; rows of small numbers and of bools. No program.
-/
import Derived.Test.YtdkahonmblnlgaaSj
namespace Go.Proofs.Ytdkahonmblnlgaa.Sk
open Go.ChangeShapes Go.WideShapes Go.ChangeAt Go.RowKit
open Arr Steady Sx Sw Sl Sb Sc Si Sj
set_option linter.unusedVariables false
set_option linter.unusedSimpArgs false
set_option maxRecDepth 100000
section
variable {P : Program} {a : Act} {w0 : World} {R : List Rw}
theorem we_ret_cell_tmp2 {fn : Func} {Rp : Ending → World → Prop} {p u s : Tmp} {ty : TypeId} {g : Nat} {cs : Array Value} {t : TypeId} {fr : Nat × Nat} {d : TypeDesc} (v v' : Value) (hrow : RowAt w0 R g cs t fr) (hres : fn.results = #[.cell p ty, .tmp u, .tmp s]) (hd : a.defers = [])
    (hp : a.tmps.getD p Go.undef = .pointer (some ⟨g, 0, none⟩)) (hv : a.tmps.getD u Go.undef = v) (hs : a.tmps.getD s Go.undef = v') (hu : P.underlying ty = some d) (hdd : (match d with | .struct _ | .array _ _ => true | _ => false) = true) (hi : (P.info? ty).map (·.size) = some cs.size)
    (h : ∀ w, Env w0 w R → Rp (.returned (.tuple #[.agg cs, v, v'])) w) : We (bodyPost P fn Rp) .ret a w0 R :=
  we_ret _ hd (fun w hE => by
    have hp' : a.tmps[p]?.getD Go.undef = .pointer (some ⟨g, 0, none⟩) := by simpa using hp
    have hv' : a.tmps[u]?.getD Go.undef = v := by simpa using hv
    have hs' : a.tmps[s]?.getD Go.undef = v' := by simpa using hs
    simp [results, hres, hp', hv', hs', asAddr, run_loadVar_row w g t ty cs fr d (hrow w hE) hu hdd hi]) h
end
section
variable {P : Program} {o : Oper} {a : Act} {t t' : TypeId} {x y : Operand}
/-- The lower 16 bits of a number. -/
theorem run_and65535 {X : Int} (ho : o.op = .binOp .and t x y t') (hx : a.eval x = .int .i64 X) (hy : a.eval y = .int .i64 65535) (w : World) :
    (execOp a.eval o).run P w = .ok (.value (.int .i64 (X % 65536))) w := by
  have e1 : (BitVec.ofInt IntKind.i64.bits X &&& BitVec.ofInt IntKind.i64.bits 65535).toNat = (X % 65536).toNat := by
    rw [BitVec.toNat_and, show (BitVec.ofInt IntKind.i64.bits 65535).toNat = 2 ^ 16 - 1 from rfl, Nat.and_two_pow_sub_one_eq_mod, BitVec.toNat_ofInt]
    rw [show ((2 ^ IntKind.i64.bits : Nat) : Int) = 18446744073709551616 from rfl]
    omega
  refine exec_bin ho hx hy (by simp [eqGuard]) ?_
  show (Op.intBits .and .i64 X 65535).run P w = _
  simp only [Op.intBits, e1, Sem.run_pure]
  rw [i64_in (by omega) (by omega)]
  congr 2
  congr 1
  omega
/-- The other sign. -/
theorem run_neg {k : IntKind} {X Y : Int} (ho : o.op = .unOp .neg t x) (hx : a.eval x = .int k X) (hu : P.underlying t = some (.int k)) (hY : k.wrap (-X) = Y) (w : World) :
    (execOp a.eval o).run P w = .ok (.value (.int k Y)) w := by
  subst hY
  unfold execOp
  simp only [ho, hx]
  simp [go_sem]
end
theorem u16_of_wf {z : Int} (h : (Lit.int .u16 z).wf = true) : 0 ≤ z ∧ z ≤ 65535 := by
  simpa [Lit.wf, IntKind.min, IntKind.max, IntKind.bits, IntKind.signed] using h
theorem i64_of_wf {z : Int} (h : (Lit.int .i64 z).wf = true) : -9223372036854775808 ≤ z ∧ z ≤ 9223372036854775807 := by
  simpa [Lit.wf, IntKind.min, IntKind.max, IntKind.bits, IntKind.signed] using h
/-- How a row of small numbers, or of bools, lies in memory. -/
def enc16 (x : Int) : List Value := [.int .i16 x]
def encb (x : Bool) : List Value := [.bool x]
theorem enc16_one : ∀ x, ∀ u ∈ enc16 x, u.oneCell' = true := by intro x u hu; simp [enc16] at hu; subst hu; rfl
theorem encb_one : ∀ x, ∀ u ∈ encb x, u.oneCell' = true := by intro x u hu; simp [encb] at hu; subst hu; rfl
end Go.Proofs.Ytdkahonmblnlgaa.Sk
