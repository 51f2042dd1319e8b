/-
  Bytes in the walks of Sx, Sw and Sl: slices of bytes that came in, that are made, copied, cut, stored to, read as strings; numbers of 8 and 16 bits as bits; numbers that are not negative. No condition.
-/
import Derived.Test.YtcelmgkjkdbliaaSl
import Derived.Laws.CopyRow
import Derived.Laws.IdiomCopy
import Derived.Laws.MakeOwn
import Derived.Laws.BytesArg
import Derived.Laws.Slices
import Derived.Laws.Strings
namespace Go.Proofs.Ytcelmgkjkdbliaa.Sb
open Go.ChangeShapes Go.WideShapes Go.ChangeAt Go.RowKit
open Arr Steady Sx Sw Sl
set_option linter.unusedVariables false
set_option linter.unusedSimpArgs false

section
variable {P : Program} {ops : Array Oper} {Q : Exit → Act → World → Prop} {rest : List Oper} {o : Oper} {a : Act} {w0 : World} {R : List Rw} {e : TypeId} {n : Nat}
variable {p : Option Addr} {x y : Operand} {t t' ty : TypeId} {c k : Nat}

/-! ### Cutting -/
/-! ### Strings -/
theorem exec_bin {op : BinOp} {X Y V : Value} {w : World} (ho : o.op = .binOp op t x y t') (hx : a.eval x = X) (hy : a.eval y = Y) (hg : (eqGuard op t x y X Y).run P w = .ok () w) (h : (binOp op t X Y).run P w = .ok V w) : (execOp a.eval o).run P w = .ok (.value V) w := by
  unfold execOp
  simp only [ho, hx, hy, Sem.run_bind, hg, h, Result.andThen_ok, Sem.run_pure]
/-! ### Numbers as bits -/
/-- The lowest bits of any number. -/
def by8 (z : Int) : UInt8 := UInt8.ofBitVec (BitVec.ofInt 8 z)
/-! ### Numbers that aren't negative -/
/-! ### Slices that the function makes -/
section
variable {ks : Nat → Kind} {mk : List (Nat × Tmp)} {N : Nat} {r : List Oper} {i : Nat}
end
end
end Go.Proofs.Ytcelmgkjkdbliaa.Sb
