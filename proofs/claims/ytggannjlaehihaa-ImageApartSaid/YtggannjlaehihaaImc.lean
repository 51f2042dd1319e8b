/-
  What the laws of layer 12 say of images: what a packing hands back, and an opening; of tracks that may be.
-/
import Derived.Test.YtggannjlaehihaaImrefo
import Derived.Test.YtggannjlaehihaaImput
import Derived.Test.YtggannjlaehihaaImb
import Derived.Test.YtggannjlaehihaaImsame
namespace Go.Proofs.Ytggannjlaehihaa.Imc
open Go.ChangeShapes Go.WideShapes Go.ChangeAt Go.RowKit
open Arr Steady Sx Sw Sl Sb Sc Sh Cr Fr Vs Gr Tk Tkh Tkl Img Imp Imo Imref Imrefo Imput Imb Imsame
set_option linter.unusedVariables false
/-- Bytes that were made. -/
structure Bs where
  p : Option Addr
  c : Nat
  N : List Rw
structure BsOk (X : List UInt8) (z : Bs) : Prop where
  held : Held z.N z.p (flat ub X)
  cap : X.length ≤ z.c
noncomputable def packE (G : List Sg) (H : List Gp) : Nat := if (chk G H).1 = 0 then 0 else 51
noncomputable def packL (G : List Sg) (H : List Gp) : List UInt8 := if (chk G H).1 = 0 then img (G.map dat) H else []
theorem packE_yes {G : List Sg} {H : List Gp} (h : (chk G H).1 = 0) : packE G H = 0 := by unfold packE; rw [if_pos h]
theorem packE_no {G : List Sg} {H : List Gp} (h : ¬ (chk G H).1 = 0) : packE G H = 51 := by unfold packE; rw [if_neg h]
theorem packL_yes {G : List Sg} {H : List Gp} (h : (chk G H).1 = 0) : packL G H = img (G.map dat) H := by unfold packL; rw [if_pos h]
theorem packL_no {G : List Sg} {H : List Gp} (h : ¬ (chk G H).1 = 0) : packL G H = [] := by unfold packL; rw [if_neg h]
theorem same_dat (G : List Sg) : Same ((G.map dat).map toSg) G := same_map rfl
theorem may_dat {G : List Sg} {H : List Gp} (h : (chk G H).1 = 0) : TrackMay ((G.map dat).map toSg) H := may_of_chk (by rw [← chk_same (same_dat G)]; exact h)
theorem chk_dat {G K : List Sg} {H : List Gp} (h : K.map dat = G.map dat) : chk K H = chk G H := by rw [chk_same (same_map h), chk_same (same_dat G)]
/-- What is opened of a track's image is that track. -/
theorem ov_img {G : List Sg} {H : List Gp} {z : Ov} (h : (chk G H).1 = 0) (k : OvOk (img (G.map dat) H) z) : z.K.map dat = G.map dat ∧ z.H = H := by
  obtain ⟨h1, h2, h3⟩ := opn_img (may_dat h)
  have e := k.same
  rw [if_pos h1, img_take, h2, h3] at e
  exact e
theorem opnE_img {G : List Sg} {H : List Gp} (h : (chk G H).1 = 0) : opnE (img (G.map dat) H) = 0 := (opn_img (may_dat h)).1
theorem img_few {G : List Sg} {H : List Gp} (h : (chk G H).1 = 0) : (img (G.map dat) H).length ≤ 200006 := by
  have := rest_le (may_dat h)
  rw [img_length]
  omega
/-- What is opened of bytes that are a track has these bytes. -/
theorem ov_opn {b : List UInt8} {z : Ov} (h : opnE b = 0) (k : OvOk b z) : (chk z.K z.H).1 = 0 ∧ img (z.K.map dat) z.H = b := by
  obtain ⟨h1, h2⟩ := img_opn h
  have e := k.same
  rw [if_pos h] at e
  obtain ⟨e1, e2⟩ := e
  refine ⟨?_, by rw [e1, e2]; exact h1⟩
  rw [e2, chk_same (same_map e1), chk_may h2]
theorem ov_no {b : List UInt8} {z : Ov} (h : ¬ opnE b = 0) (k : OvOk b z) : z.K = [] ∧ z.H = [] := by
  have e := k.same
  rwa [if_neg h] at e
theorem ov_few {b : List UInt8} {z : Ov} (h : opnE b = 0) (k : OvOk b z) : z.K.length ≤ 200 ∧ z.H.length ≤ 400 := by
  have := (may_of_chk (ov_opn h k).1).sizes
  exact ⟨this.2.1, this.2.2⟩
theorem same_yes {G K : List Sg} {H J : List Gp} (h1 : K.map dat = G.map dat) (h2 : J = H) : sameB G H K J = true := sameB_yes ⟨h1.symm, h2.symm⟩
theorem img_same {G K : List Sg} {H J : List Gp} (h : (chk G H).1 = 0) (k : (chk K J).1 = 0) : decide (img (G.map dat) H = img (K.map dat) J) = sameB G H K J := by
  by_cases e : SameT G H K J
  · rw [sameB_yes e, e.1, e.2]; exact decide_eq_true rfl
  · rw [sameB_no e]
    refine decide_eq_false (fun z => e ?_)
    exact img_inj (may_dat h) (may_dat k) z
end Go.Proofs.Ytggannjlaehihaa.Imc
