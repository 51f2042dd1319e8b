/-
  The laws of layer 14: steps, a set and the document's that grow together. Condition: at most 2^47 of each.
-/
import Derived.Test.YtkbaponpebkpiaaRtla
import Derived.Test.YtkbaponpebkpiaaRtsm
import Derived.Test.YtkbaponpebkpiaaRtgrow
import Derived.Test.YtkbaponpebkpiaaSfn
import Derived.Test.YtkbaponpebkpiaaVs2
namespace Go.Proofs.Ytkbaponpebkpiaa.Rtlb
open Go.ChangeShapes Go.WideShapes Go.ChangeAt Go.RowKit
open Arr Steady Sx Sw Sl Sb Sc Si Sj Sk Sh Vs Gr Tk Tkh Tkl Rt Rtm Rtg Rtp Rtk Rts Tkrefs14 Rtla Rtsm Sfn
set_option linter.unusedVariables false
set_option linter.unusedSimpArgs false
set_option maxRecDepth 100000

theorem fit_at {L : Spans} (h : FitL L) {i : Nat} (hi : i < L.length) : (-9223372036854775808 ≤ (L[i]!).1 ∧ (L[i]!).1 ≤ 9223372036854775807) ∧ (-9223372036854775808 ≤ (L[i]!).2 ∧ (L[i]!).2 ≤ 9223372036854775807) := by
  rw [getElem!_pos L i hi]
  exact h _ (List.getElem_mem hi)
/-- What steps hands back. -/
structure Stz where
  O : List Ix
  pp : Option Addr
  pc : Nat
  tp : Option Addr
  tc : Nat
  N : List Rw
structure StzOk (G : List Sg) (s f : Int) (z : Stz) : Prop where
  set : SetOk G s f (xs z.O)
  prog : Held z.N z.pp (flat rti z.O)
  ref : Held z.N z.tp (flat ix z.O)
  each : HeldI z.N z.O
end Go.Proofs.Ytkbaponpebkpiaa.Rtlb
