/-
  THE ENGINE, further: functions that turn rows of their caller's (by a pointer, or by appending to a slice that came in), told over all rows that the caller has; bytes of a constant that a call reads; numbers of 64 bits that are put together from bytes. No program.
-/
import Derived.Test.YtlfienfjdjfcoaaSh
import Derived.Test.YtlfienfjdjfcoaaFns
namespace Go.Proofs.Ytlfienfjdjfcoaa.Rdr
open Go.ChangeShapes Go.WideShapes Go.ChangeAt Go.RowKit
open Arr Steady Sx Sw Sl Sb Sc Sh Fns
set_option linter.unusedVariables false
set_option linter.unusedSimpArgs false
set_option maxRecDepth 100000

section
variable {P : Program} {ops : Array Oper} {Q : Exit → Act → World → Prop} {rest : List Oper} {o : Oper} {a : Act} {w0 : World} {R : List Rw} {e : TypeId}
/-- A walk that begins with rows that the caller made. -/
theorem calls_in {f : FuncId} {fn : Func} {c : Code} {args : Array Value} {w : World} {Rp : Ending → World → Prop} (hE : Env w0 w R) (hf : P.funcs[f]? = some fn) (hb : fn.body = some c)
    (h : Wc P c (bodyPost P fn Rp) { tmps := args ++ Array.replicate (fn.ntmps - args.size) undef, defers := [] } w0 R) : Calls P f args w Rp := calls_of_wp hf hb (h.run w hE)
theorem Env.assoc {w : World} {A B C : List Rw} {r : Rw} (h : Env w0 w (r :: (A ++ (B ++ C)))) : Env w0 w (r :: ((A ++ B) ++ C)) := by rw [List.append_assoc]; exact h
theorem Env.rebase {w W w' : World} {R : List Rw} (hb : Below w.heap.size w W) (h : Env W w' R) : Env w w' R :=
  ⟨hb.trans (h.below.mono hb.size), fun r hr => Nat.le_trans hb.size (h.own r hr), h.row, h.apart⟩
theorem perm_in (r : Rw) (N A C D : List Rw) : (r :: (N ++ (A ++ (C ++ D)))).Perm (A ++ r :: (C ++ (N ++ D))) := by
  have h1 : (N ++ (A ++ (C ++ D))).Perm (A ++ (C ++ (N ++ D))) := by
    refine (List.perm_append_comm_assoc N A (C ++ D)).trans (List.Perm.append_left A ?_)
    exact List.perm_append_comm_assoc N C D
  exact (List.Perm.cons r h1).trans List.perm_middle.symm
/-- A call that turns one of the function's rows, and makes others. B: all but that row. -/
theorem wl_call_row {ι : Type} (A C D B : List Rw) (r : Rw) (f : FuncId) (args : Array Value) (v : ι → Value) (r' : ι → Rw) (N R' : ι → List Rw) (φ : ι → Prop) (hR : R = A ++ r :: (C ++ D)) (hB : B = A ++ (C ++ D)) (hR' : ∀ j, R' j = A ++ r' j :: (C ++ (N j ++ D))) (hw : Region.wanted o (yielded ops a.tmps) = true) (hr : ∀ w, (execOp a.eval o).run P w = .ok (.enter f args) w)
    (hc : ∀ w, Env w0 w (r :: B) → Calls P f args w fun k w' => ∃ j, φ j ∧ k = .returned (v j) ∧ Env w0 w' (r' j :: (N j ++ B))) (h : ∀ j, φ j → Wl P ops Q rest (a.put o.dst (v j)) w0 (R' j)) : Wl P ops Q (o :: rest) a w0 R := by
  subst hR
  subst hB
  refine wl_upon hw (fun w hE => ?_)
  rw [hr w]
  refine (hc w (Env.perm hE List.perm_middle)).mono ?_
  rintro k w' ⟨j, hj, rfl, hE'⟩
  refine (h j hj).run w' ?_
  rw [hR' j]
  exact Env.perm hE' (perm_in _ _ _ _ _)
/-! ### Bytes of a constant -/
end

/-! ### Appending to a slice that came in and has no room -/
section
variable {P : Program} {ops : Array Oper} {Q : Exit → Act → World → Prop} {rest : List Oper} {o : Oper} {a : Act} {w0 w : World} {R A B : List Rw} {e : TypeId} {size n : Nat} {xs : List Value}
end

/-! ### Numbers of 64 bits with their sign, out of bytes -/
section
variable {P : Program} {o : Oper} {a : Act} {x y : Operand} {t t' : TypeId}
theorem run_nilCheck {p : Addr} (ho : o.op = .nilCheck x) (hx : a.eval x = .pointer (some p)) (w : World) : (execOp a.eval o).run P w = .ok (.value (.pointer (some p))) w := by
  unfold execOp
  simp [ho, hx]
end
end Go.Proofs.Ytlfienfjdjfcoaa.Rdr
