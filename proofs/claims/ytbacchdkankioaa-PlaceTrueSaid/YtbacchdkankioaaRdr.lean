/-
  THE ENGINE, further: functions that turn rows of their caller's (by a pointer, or by appending to a slice that came in), told over all rows that the caller has; bytes of a constant that a call reads; numbers of 64 bits that are put together from bytes. No program.
-/
import Derived.Test.YtbacchdkankioaaSh
import Derived.Test.YtbacchdkankioaaFns
namespace Go.Proofs.Ytbacchdkankioaa.Rdr
open Go.ChangeShapes Go.WideShapes Go.ChangeAt Go.RowKit
open Arr Steady Sx Sw Sl Sb Sc Sh Fns
set_option linter.unusedVariables false
set_option linter.unusedSimpArgs false
set_option maxRecDepth 100000

section
variable {P : Program} {ops : Array Oper} {Q : Exit → Act → World → Prop} {rest : List Oper} {o : Oper} {a : Act} {w0 : World} {R : List Rw} {e : TypeId}
theorem Env.assoc {w : World} {A B C : List Rw} {r : Rw} (h : Env w0 w (r :: (A ++ (B ++ C)))) : Env w0 w (r :: ((A ++ B) ++ C)) := by rw [List.append_assoc]; exact h
theorem Env.rebase {w W w' : World} {R : List Rw} (hb : Below w.heap.size w W) (h : Env W w' R) : Env w w' R :=
  ⟨hb.trans (h.below.mono hb.size), fun r hr => Nat.le_trans hb.size (h.own r hr), h.row, h.apart⟩
/-- A call that turns a slice that the function holds; what it hands back is told by what it made. -/
theorem wl_call_turnv {ι : Type} (A B : List Rw) (s : Own) (f : FuncId) (args : Array Value) (v : ι → Value) (T : ι → Own) (φ : ι → Prop) (hR : R = A ++ (s.rows e ++ B)) (hw : Region.wanted o (yielded ops a.tmps) = true) (hr : ∀ w, (execOp a.eval o).run P w = .ok (.enter f args) w)
    (hc : ∀ w, Env w0 w (s.rows e ++ (A ++ B)) → Calls P f args w fun k w' => ∃ j, φ j ∧ k = .returned (v j) ∧ Env w0 w' ((T j).rows e ++ (A ++ B))) (h : ∀ j, φ j → Wl P ops Q rest (a.put o.dst (v j)) w0 (A ++ ((T j).rows e ++ B))) : Wl P ops Q (o :: rest) a w0 R := by
  subst hR
  refine wl_upon hw (fun w hE => ?_)
  rw [hr w]
  refine (hc w (Env.perm hE (List.perm_append_comm_assoc _ _ _))).mono ?_
  rintro k w' ⟨j, hj, rfl, hE'⟩
  exact (h j hj).run w' (Env.perm hE' (List.perm_append_comm_assoc _ _ _))
/-! ### Bytes of a constant -/
end

/-! ### Appending to a slice that came in and has no room -/
section
variable {P : Program} {ops : Array Oper} {Q : Exit → Act → World → Prop} {rest : List Oper} {o : Oper} {a : Act} {w0 w : World} {R A B : List Rw} {e : TypeId} {size n : Nat} {xs : List Value}
end

/-! ### Numbers of 64 bits with their sign, out of bytes -/
section
variable {P : Program} {o : Oper} {a : Act} {x y : Operand} {t t' : TypeId}
end
end Go.Proofs.Ytbacchdkankioaa.Rdr
