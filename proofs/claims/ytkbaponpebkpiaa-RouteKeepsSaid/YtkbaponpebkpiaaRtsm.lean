/-
  Routes over a track that says the same. No program.
-/
import Derived.Test.YtkbaponpebkpiaaMrt
namespace Go.Proofs.Ytkbaponpebkpiaa.Rtsm
open Go.ChangeShapes Go.WideShapes Go.ChangeAt Go.RowKit
open Arr Steady Sx Sw Sl Sb Sc Sh Vs Gr Tk Tkh Tkl Rt Rtm Rtg Rtp Rtk Rts
set_option linter.unusedVariables false
set_option linter.unusedSimpArgs false

section
variable {G K : List Sg} {f hi lo : Int} {X : List Ro}
theorem same_get (h : Same G K) (j : Nat) : (K[j]!).len = (G[j]!).len ∧ (K[j]!).P = (G[j]!).P ∧ (K[j]!).X = (G[j]!).X := by
  by_cases hj : j < G.length
  · exact h.each j hj
  · have h1 : K[j]! = default := by rw [getElem!_def, List.getElem?_eq_none (by have := h.length; omega)]
    have h2 : G[j]! = default := by rw [getElem!_def, List.getElem?_eq_none (by omega)]
    rw [h1, h2]
    exact ⟨rfl, rfl, rfl⟩
theorem endR_same (h : Same G K) : endR K f = endR G f := by
  funext r
  unfold endR
  congr 1
  funext a x
  rw [(same_get h _).1]
theorem rtok_same (h : Same G K) {r : Ro} (k : RtOk G r) : RtOk K r := ⟨k.some, k.few, fun j hj => by rw [h.length]; exact k.each j hj⟩
theorem segs_same (h : Same G K) (k : Segs G) : Segs K := fun j hj => by
  rw [h.length] at hj ⊢
  exact segMay_eq (h.each j hj) (k j hj)
end
/-- The lists of a set stand in rows. -/
def HeldI (M : List Rw) (O : List Ix) : Prop := ∀ x ∈ O, Held M x.p (flat enc1 x.X)
theorem HeldI.mono {M R : List Rw} {O : List Ix} (h : HeldI M O) (hs : M.Sublist R) : HeldI R O := fun x hx => (h x hx).mono hs
end Go.Proofs.Ytkbaponpebkpiaa.Rtsm
