/-
  Routes over a track that says the same. No program.
-/
import Derived.Test.YtjbhlcklgmgdpaaMrt
namespace Go.Proofs.Ytjbhlcklgmgdpaa.Rtsm
open Go.ChangeShapes Go.WideShapes Go.ChangeAt Go.RowKit
open Arr Steady Sx Sw Sl Sb Sc Sh Vs Gr Tk Tkh Tkl Rt Rtm Rtg Rtp Rtk Rts
set_option linter.unusedVariables false
set_option linter.unusedSimpArgs false

section
variable {G K : List Sg} {f hi lo : Int} {X : List Ro}
theorem same_get (h : Same G K) (j : Nat) : (K[j]!).len = (G[j]!).len ∧ (K[j]!).P = (G[j]!).P ∧ (K[j]!).X = (G[j]!).X := by
  by_cases hj : j < G.length
  · exact h.each j hj
  · have h1 : K[j]! = default := by rw [getElem!_def, List.getElem?_eq_none (by have := h.length; omega)]
    have h2 : G[j]! = default := by rw [getElem!_def, List.getElem?_eq_none (by omega)]
    rw [h1, h2]
    exact ⟨rfl, rfl, rfl⟩
theorem endR_same (h : Same G K) : endR K f = endR G f := by
  funext r
  unfold endR
  congr 1
  funext a x
  rw [(same_get h _).1]
theorem nxt_same (h : Same G K) : nxt K = nxt G := by
  funext r
  unfold nxt
  rw [(same_get h _).2.2]
theorem stop_same (h : Same G K) : Stop K f hi = Stop G f hi := by
  funext r
  unfold Stop
  rw [endR_same h, nxt_same h]
theorem vis_same1 (h : Same G K) {r : Ro} (k : Vis G f hi X r) : Vis K f hi X r := by
  induction k with
  | base hr => exact .base hr
  | step hv hs hn ih => exact .step ih (by rw [stop_same h]; exact hs) (by rw [nxt_same h]; exact hn)
theorem vis_same (h : Same G K) : Vis K f hi X = Vis G f hi X := by
  funext r
  exact propext ⟨vis_same1 h.symm, vis_same1 h⟩
theorem fin_same (h : Same G K) : Rt.Fin K f hi X lo = Rt.Fin G f hi X lo := by
  funext r
  unfold Rt.Fin
  rw [vis_same h, stop_same h, endR_same h]
theorem grow_same (h : Same G K) : growS K f hi X lo = growS G f hi X lo := by
  have hd : Deep K f hi X = Deep G f hi X := by unfold Deep; rw [vis_same h, stop_same h]
  have hm : Many K f hi X lo = Many G f hi X lo := by unfold Many; rw [fin_same h]
  unfold growS
  rw [show IsGrow K f hi X lo = IsGrow G f hi X lo from by unfold IsGrow; rw [hd, hm, fin_same h]]
theorem rtok_same (h : Same G K) {r : Ro} (k : RtOk G r) : RtOk K r := ⟨k.some, k.few, fun j hj => by rw [h.length]; exact k.each j hj⟩
theorem mem_same (h : Same G K) {T0 L : List Ix} {N : List Rw} (k : Mem K T0 N L) : Mem G T0 N L := ⟨k.src, fun x hx => rtok_same h.symm (k.rt x hx)⟩
theorem gz_same (h : Same G K) {T0 : List Ix} {z : Gz} (k : GzOk K f hi lo T0 z) : GzOk G f hi lo T0 z := ⟨by rw [← grow_same h]; exact k.is, k.frm, k.held, mem_same h k.mem⟩
theorem segs_same (h : Same G K) (k : Segs G) : Segs K := fun j hj => by
  rw [h.length] at hj ⊢
  exact segMay_eq (h.each j hj) (k j hj)
theorem plr_same (h : Same G K) {sg off : Int} {r : Ro} {Q : List Int} : ∀ k, plr K f sg off r Q k = plr G f sg off r Q k := by
  intro k
  induction k with
  | zero => rfl
  | succ k ih => unfold plr; rw [ih, endR_same h]
theorem plc_same (h : Same G K) {sg off : Int} : ∀ i, plc K f sg off X i = plc G f sg off X i := by
  intro i
  induction i with
  | zero => rfl
  | succ i ih => unfold plc; rw [ih, plr_same h]
end
/-- The lists of a set stand in rows. -/
def HeldI (M : List Rw) (O : List Ix) : Prop := ∀ x ∈ O, Held M x.p (flat enc1 x.X)
theorem HeldI.mono {M R : List Rw} {O : List Ix} (h : HeldI M O) (hs : M.Sublist R) : HeldI R O := fun x hx => (h x hx).mono hs
theorem heldi_mem {G : List Sg} {T0 O : List Ix} {M N R : List Rw} (h : HeldI M T0) (k : Mem G T0 N O) (hM : M.Sublist R) (hN : N.Sublist R) : HeldI R O := fun x hx => (k.src x hx).elim (fun e => (h x e).mono hM) (fun e => e.mono hN)
theorem heldi_ok {G : List Sg} {s0 f : Int} {O : List Ix} {M R : List Rw} {w W : World} (h : HeldI M O) (hX : SetOk G s0 f (xs O)) (hs : M.Sublist R) (hE : Env w W R) : OkI W O := fun x hx =>
  ⟨held_at (h x hx) hs hE, by have := (hX.wf x.X (List.mem_map.2 ⟨x, hx, rfl⟩)).ok.few; omega⟩
theorem set_rt {G : List Sg} {s0 f : Int} {O : List Ix} (hX : SetOk G s0 f (xs O)) : ∀ x ∈ O, RtOk G x.X := fun x hx => (hX.wf x.X (List.mem_map.2 ⟨x, hx, rfl⟩)).ok
theorem set_len {G : List Sg} {s0 f : Int} {X : List Ro} (hX : SetOk G s0 f X) : ∀ r ∈ X, 1 ≤ r.length ∧ r.length ≤ 12 := fun r hr => ⟨(hX.wf r hr).ok.some, (hX.wf r hr).ok.few⟩
end Go.Proofs.Ytjbhlcklgmgdpaa.Rtsm
