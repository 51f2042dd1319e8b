/-
  More steps: arrays that are compared with themselves, numbers of 16 bits, literals and appends of texts whose place isn't written out. No condition.
-/
import Derived.Test.YtjbhlcklgmgdpaaSi
import Derived.Test.YtjbhlcklgmgdpaaMl
namespace Go.Proofs.Ytjbhlcklgmgdpaa.Sj
open Go.ChangeShapes Go.WideShapes Go.ChangeAt Go.RowKit
open Arr Steady Sx Sw Sl Sb Sc Si Ml
set_option linter.unusedVariables false
set_option linter.unusedSimpArgs false

section
variable {P : Program} {o : Oper} {a : Act}
/-! ### Numbers of 16 bits -/
end
/-! ### Literals and appends -/
section
variable {P : Program} {o : Oper} {a : Act} {Q : Exit → Act → World → Prop} {K : Act → World → Prop} {w w0 : World} {A B : List Rw} {e t : TypeId} {s : Own} {size n : Nat} {xs : List Value}
/-- .. with one element, of one cell. -/
theorem run_lit1 {x : Operand} {v z : Value} (ho : o.op = .buildSlice t 1 #[(0, x)]) (hx : a.eval x = v) (hv : v.cells = #[v]) (ht : P.underlying t = some (.slice e)) (hs : (P.info? e).map (fun i => (i.size, i.zero)) = some (1, some z)) (hz : z.cells.size = 1) (w : World) :
    (execOp a.eval o).run P w = .ok (.value (.slice (some ⟨w.heap.size, 0, Option.none⟩) 1 1)) (w.alloc (.cells #[v] e)) := by
  cases hq : P.info? e with
  | none => simp [hq] at hs
  | some i =>
    have h1 : i.size = 1 ∧ i.zero = some z := by simpa [hq] using hs
    unfold execOp
    simp [ho, hx, hv, hz, Instr.buildSlice, run_underlying ht, sizeOf, typeInfo, zeroValue, hq, h1.1, h1.2, newRow, Instr.fill]
    refine congrArg (fun c => w.alloc (.cells c e)) ?_
    apply Array.ext
    · simp
    · intro j h1 h2
      have hj : j = 0 := by simpa using h2
      subst hj
      simp
end
end Go.Proofs.Ytjbhlcklgmgdpaa.Sj
