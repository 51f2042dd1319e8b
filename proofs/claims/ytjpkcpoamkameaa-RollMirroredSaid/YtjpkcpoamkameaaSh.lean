/-
  THE ENGINE, further: a region that draws its order and holds one call that hands back rows of its own (an open number of them): what is made is a letter, the values that hang on it are told by it. No program.
-/
import Derived.Test.YtjpkcpoamkameaaSk
namespace Go.Proofs.Ytjpkcpoamkameaa.Sh
open Go.ChangeShapes Go.WideShapes Go.ChangeAt Go.RowKit
open Arr Steady Sx Sw Sl Sb Sc Si Sj Sk
set_option linter.unusedVariables false
set_option linter.unusedSimpArgs false
set_option maxRecDepth 100000

/-- Rows that hold a slice, wherever they stand. -/
def Held (N : List Rw) (p : Option Addr) (xs : List Value) : Prop := ∀ w0, SlAt w0 N p xs
theorem Held.mono {N R : List Rw} {p : Option Addr} {xs : List Value} (h : Held N p xs) (hs : N.Sublist R) : Held R p xs := fun w0 W hE => h w0 W (hE.sub hs)
section
variable {P : Program} {ops : Array Oper}
/-- What is asked of one operation in its frame. -/
def OpOk (P : Program) (ops : Array Oper) (w0 : World) (R : List Rw) (o : Oper) (a : Act) (v : Value) : Prop :=
  (Region.wanted o (yielded ops a.tmps) = true ∧ ∀ w, Env w0 w R → steadyUpon P w v ((execOp a.eval o).run P w)) ∨ (Region.wanted o (yielded ops a.tmps) = false ∧ v = undef)
/-- The call that hands back rows. -/
def OwnOk (P : Program) (ops : Array Oper) (f : FuncId) (args : Array Value) (o : Oper) (a : Act) : Prop :=
  Region.wanted o (yielded ops a.tmps) = true ∧ ∀ w, (execOp a.eval o).run P w = .ok (.enter f args) w
/-- The walk in the order of the text; T: what is asked. -/
def WgP (P : Program) (ops : Array Oper) (w0 : World) (R : List Rw) (T : Nat → Bool) (i0 : Nat) (f : FuncId) (args : Array Value) (vs : Nat → Value) (Fin : Act → Prop) : List Oper → Nat → Act → Prop
  | [], _, a => Fin a
  | o :: r, i, a => ((i = i0 → OwnOk P ops f args o a) ∧ (i ≠ i0 → T i = true → OpOk P ops w0 R o a (vs i))) ∧ WgP P ops w0 R T i0 f args vs Fin r (i + 1) (a.put o.dst (vs i))
structure Wg (P : Program) (ops : Array Oper) (w0 : World) (R : List Rw) (T : Nat → Bool) (i0 : Nat) (f : FuncId) (args : Array Value) (vs : Nat → Value) (Fin : Act → Prop) (l : List Oper) (i : Nat) (a : Act) : Prop where
  run : WgP P ops w0 R T i0 f args vs Fin l i a
end
section
variable {P : Program} {ops : Array Oper} {w0 : World} {R : List Rw} {T : Nat → Bool} {i0 : Nat} {f0 : FuncId} {args0 : Array Value} {vs : Nat → Value} {Fin : Act → Prop} {r : List Oper} {o : Oper} {i : Nat} {a : Act}
end
section
variable {P : Program} {o : Oper} {a : Act} {x y : Operand} {t ty : TypeId} {p : Option Addr} {n c : Nat}
end
section
variable {P : Program} {a : Act} {w0 : World} {R : List Rw}
end
end Go.Proofs.Ytjpkcpoamkameaa.Sh
