/-
  THE ENGINE, further: a region that draws its order, with calls that hand back rows of their own and rows that it makes: laws for single operations. No program.
-/
import Derived.Test.YtlfienfjdjfcoaaShh
import Derived.Shelf.Abstract
import Derived.Laws.Tables
namespace Go.Proofs.Ytlfienfjdjfcoaa.Sfn
open Go.ChangeShapes Go.WideShapes Go.ChangeAt Go.RowKit
open Arr Steady Sx Sw Sl Sb Sc Si Sj Sk Sh
set_option linter.unusedVariables false
set_option linter.unusedSimpArgs false

section
variable {P : Program} {ops : Array Oper} {Γ : Type} {sz : Nat} {Q : Exit → Act → World → Prop} {val : Γ → Nat → Value} {rows : (Nat → Bool) → Γ → List Rw} {Fc : (Nat → Bool) → Γ → Prop} {a0 : Act} {w0 : World} {i : Nat} {o : Oper} {r : List Oper}
end
section
variable {P : Program} {a : Act} {w0 : World} {R : List Rw}
/-- Two rows and a plain value as results. -/
theorem we_ret_cell2_tmp {fn : Func} {Rp : Ending → World → Prop} {p q u : Tmp} {ty ty' : TypeId} {g g' : Nat} {cs cs' : Array Value} {t t' : TypeId} {fr fr' : Nat × Nat} {d d' : TypeDesc} (v : Value) (hrow : RowAt w0 R g cs t fr) (hrow' : RowAt w0 R g' cs' t' fr') (hres : fn.results = #[.cell p ty, .cell q ty', .tmp u]) (hd : a.defers = [])
    (hp : a.tmps.getD p Go.undef = .pointer (some ⟨g, 0, none⟩)) (hq : a.tmps.getD q Go.undef = .pointer (some ⟨g', 0, none⟩)) (hv : a.tmps.getD u Go.undef = v) (hu : P.underlying ty = some d) (hdd : (match d with | .struct _ | .array _ _ => true | _ => false) = true) (hi : (P.info? ty).map (·.size) = some cs.size)
    (hu' : P.underlying ty' = some d') (hdd' : (match d' with | .struct _ | .array _ _ => true | _ => false) = true) (hi' : (P.info? ty').map (·.size) = some cs'.size)
    (h : ∀ w, Env w0 w R → Rp (.returned (.tuple #[.agg cs, .agg cs', v])) w) : We (bodyPost P fn Rp) .ret a w0 R :=
  we_ret _ hd (fun w hE => by
    have hp' : a.tmps[p]?.getD Go.undef = .pointer (some ⟨g, 0, none⟩) := by simpa using hp
    have hq' : a.tmps[q]?.getD Go.undef = .pointer (some ⟨g', 0, none⟩) := by simpa using hq
    have hv' : a.tmps[u]?.getD Go.undef = v := by simpa using hv
    simp [results, hres, hp', hq', hv', asAddr, run_loadVar_row w g t ty cs fr d (hrow w hE) hu hdd hi, run_loadVar_row w g' t' ty' cs' fr' d' (hrow' w hE) hu' hdd' hi']) h
end
section
variable {P : Program} {o : Oper} {a : Act} {x y : Operand} {t ty : TypeId} {p : Option Addr} {xs : List Value} {w0 : World} {R : List Rw} {n : Nat}
end
end Go.Proofs.Ytlfienfjdjfcoaa.Sfn
