/-
  THE ENGINE, further: a region that draws its order and holds one call that hands back rows of its own (an open number of them): what is made is a letter, the values that hang on it are told by it. No program.
-/
import Derived.Test.YtfohomkldpcbdaaSk
namespace Go.Proofs.Ytfohomkldpcbdaa.Sh
open Go.ChangeShapes Go.WideShapes Go.ChangeAt Go.RowKit
open Arr Steady Sx Sw Sl Sb Sc Si Sj Sk
set_option linter.unusedVariables false
set_option linter.unusedSimpArgs false
set_option maxRecDepth 100000

/-- Rows that hold a slice, wherever they stand. -/
def Held (N : List Rw) (p : Option Addr) (xs : List Value) : Prop := ∀ w0, SlAt w0 N p xs
theorem Held.mono {N R : List Rw} {p : Option Addr} {xs : List Value} (h : Held N p xs) (hs : N.Sublist R) : Held R p xs := fun w0 W hE => h w0 W (hE.sub hs)
section
variable {P : Program} {ops : Array Oper}
/-- What is asked of one operation in its frame. -/
def OpOk (P : Program) (ops : Array Oper) (w0 : World) (R : List Rw) (o : Oper) (a : Act) (v : Value) : Prop :=
  (Region.wanted o (yielded ops a.tmps) = true ∧ ∀ w, Env w0 w R → steadyUpon P w v ((execOp a.eval o).run P w)) ∨ (Region.wanted o (yielded ops a.tmps) = false ∧ v = undef)
/-- The call that hands back rows. -/
def OwnOk (P : Program) (ops : Array Oper) (f : FuncId) (args : Array Value) (o : Oper) (a : Act) : Prop :=
  Region.wanted o (yielded ops a.tmps) = true ∧ ∀ w, (execOp a.eval o).run P w = .ok (.enter f args) w
/-- The walk in the order of the text; T: what is asked. -/
def WgP (P : Program) (ops : Array Oper) (w0 : World) (R : List Rw) (T : Nat → Bool) (i0 : Nat) (f : FuncId) (args : Array Value) (vs : Nat → Value) (Fin : Act → Prop) : List Oper → Nat → Act → Prop
  | [], _, a => Fin a
  | o :: r, i, a => ((i = i0 → OwnOk P ops f args o a) ∧ (i ≠ i0 → T i = true → OpOk P ops w0 R o a (vs i))) ∧ WgP P ops w0 R T i0 f args vs Fin r (i + 1) (a.put o.dst (vs i))
structure Wg (P : Program) (ops : Array Oper) (w0 : World) (R : List Rw) (T : Nat → Bool) (i0 : Nat) (f : FuncId) (args : Array Value) (vs : Nat → Value) (Fin : Act → Prop) (l : List Oper) (i : Nat) (a : Act) : Prop where
  run : WgP P ops w0 R T i0 f args vs Fin l i a
end
section
variable {P : Program} {ops : Array Oper} {w0 : World} {R : List Rw} {T : Nat → Bool} {i0 : Nat} {f0 : FuncId} {args0 : Array Value} {vs : Nat → Value} {Fin : Act → Prop} {r : List Oper} {o : Oper} {i : Nat} {a : Act}
end
/-- A call that hands back an open number of rows. -/
theorem wl_call_open {P : Program} {ops : Array Oper} {Q : Exit → Act → World → Prop} {rest : List Oper} {o : Oper} {a : Act} {w0 : World} {R : List Rw} {ι : Type} (R' : ι → List Rw) (f : FuncId) (args : Array Value) (v : ι → Value) (N : ι → List Rw) (φ : ι → Prop) (hR : ∀ j, R' j = R ++ N j) (hw : Region.wanted o (yielded ops a.tmps) = true) (hr : ∀ w, (execOp a.eval o).run P w = .ok (.enter f args) w)
    (hc : ∀ w, Env w0 w R → Calls P f args w fun k w' => ∃ j, φ j ∧ k = .returned (v j) ∧ Env w w' (N j)) (h : ∀ j, φ j → Wl P ops Q rest (a.put o.dst (v j)) w0 (R' j)) : Wl P ops Q (o :: rest) a w0 R := by
  refine wl_upon hw (fun w hE => ?_)
  rw [hr w]
  refine (hc w hE).mono ?_
  rintro k w' ⟨j, hj, rfl, hE'⟩
  refine (h j hj).run w' ?_
  rw [hR j]
  exact Env.perm (Env.join hE hE') List.perm_append_comm
section
variable {P : Program} {o : Oper} {a : Act} {x y : Operand} {t ty : TypeId} {p : Option Addr} {n c : Nat}
end
section
variable {P : Program} {a : Act} {w0 : World} {R : List Rw}
end
end Go.Proofs.Ytfohomkldpcbdaa.Sh
