/-
  The laws of layer 14: their helpers may and same. Condition: at most 2^47 of each.
  The laws of layer 14: steps, a set and the document's that grow together. Condition: at most 2^47 of each.
  The laws of layer 14: what they call, in the form that they want; their example. Condition: at most 2^47 of each.
-/
import Derived.Test.YtjbhlcklgmgdpaaMro
import Derived.Test.YtjbhlcklgmgdpaaTkrefs14
import Derived.Test.YtjbhlcklgmgdpaaMkr
import Derived.Test.YtjbhlcklgmgdpaaRtref
import Derived.Test.YtjbhlcklgmgdpaaRtsm
import Derived.Test.YtjbhlcklgmgdpaaRtgrow
import Derived.Test.YtjbhlcklgmgdpaaSfn
import Derived.Test.YtjbhlcklgmgdpaaVs2
import Derived.Test.YtjbhlcklgmgdpaaRtplc
namespace Go.Proofs.Ytjbhlcklgmgdpaa.Rtla
open Go.ChangeShapes Go.WideShapes Go.ChangeAt Go.RowKit
open Arr Steady Sx Sw Sl Sb Sc Si Sj Sk Sh Vs Gr Tk Tkh Tkl Rt Rtm Rtg Rtp Rtk Rts Tkrefs14
set_option linter.unusedVariables false
set_option linter.unusedSimpArgs false
set_option maxRecDepth 100000

/-- What the helper hands back: a track that says the same, in rows of its own. -/
structure Cp where
  K : List Sg
  p : Option Addr
  c : Nat
  q : Option Addr
  d : Nat
  N : List Rw
structure CpOk (G : List Sg) (H : List Gp) (z : Cp) : Prop where
  same : Same G z.K
  segs : Held z.N z.p (flat sg z.K)
  grps : Held z.N z.q (flat gp H)
  ok : ∀ w0 W, OkS w0 G → Env w0 W z.N → OkS W z.K
theorem may_few {G : List Sg} {H : List Gp} (h : TrackMay G H) : G.length + H.length ≤ 800 ∧ ∀ j, j < G.length → (G[j]!).P.length ≤ 100 ∧ (G[j]!).X.length ≤ 100 := by
  have hs := h.sizes
  refine ⟨by have := hs.2.1; have := hs.2.2; omega, fun j hj => ?_⟩
  have k := h.segs j hj
  have := k.may.few
  have := k.two
  omega
/-- May a track be, and a place on one of its segments. -/
def MayT (G : List Sg) (H : List Gp) (s f : Int) : Prop := TrackMay G H ∧ (0 ≤ s ∧ s < G.length) ∧ 0 ≤ f ∧ f ≤ (G[s.toNat]!).len
noncomputable def mayT (G : List Sg) (H : List Gp) (s f : Int) : Bool := @decide (MayT G H s f) (Classical.propDecidable _)
theorem mayT_yes {G : List Sg} {H : List Gp} {s f : Int} (h : MayT G H s f) : mayT G H s f = true := by unfold mayT; exact @decide_eq_true _ (Classical.propDecidable _) h
theorem mayT_no {G : List Sg} {H : List Gp} {s f : Int} (h : ¬ MayT G H s f) : mayT G H s f = false := by unfold mayT; exact @decide_eq_false _ (Classical.propDecidable _) h
theorem mayT_of {G : List Sg} {H : List Gp} {s f : Int} (h : mayT G H s f = true) : MayT G H s f := by unfold mayT at h; exact @of_decide_eq_true _ (Classical.propDecidable _) h
end Go.Proofs.Ytjbhlcklgmgdpaa.Rtla
namespace Go.Proofs.Ytjbhlcklgmgdpaa.Rtlb
open Go.ChangeShapes Go.WideShapes Go.ChangeAt Go.RowKit
open Arr Steady Sx Sw Sl Sb Sc Si Sj Sk Sh Vs Gr Tk Tkh Tkl Rt Rtm Rtg Rtp Rtk Rts Tkrefs14 Rtla Rtsm Sfn
set_option linter.unusedVariables false
set_option linter.unusedSimpArgs false
set_option maxRecDepth 100000

/-- What steps hands back. -/
structure Stz where
  O : List Ix
  pp : Option Addr
  pc : Nat
  tp : Option Addr
  tc : Nat
  N : List Rw
structure StzOk (G : List Sg) (s f : Int) (z : Stz) : Prop where
  set : SetOk G s f (xs z.O)
  prog : Held z.N z.pp (flat rti z.O)
  ref : Held z.N z.tp (flat ix z.O)
  each : HeldI z.N z.O
end Go.Proofs.Ytjbhlcklgmgdpaa.Rtlb
namespace Go.Proofs.Ytjbhlcklgmgdpaa.Rtlc
open Go.ChangeShapes Go.WideShapes Go.ChangeAt Go.RowKit
open Arr Steady Sx Sw Sl Sb Sc Si Sj Sk Sh Vs Gr Tk Tkh Tkl Rt Rtm Rtg Rtp Rtk Rts Tkrefs14 Rtla Rtsm Shh Sfn Rtlb
set_option linter.unusedVariables false
set_option linter.unusedSimpArgs false
set_option maxRecDepth 100000

theorem get_memr {X : List Ro} {i : Nat} (hi : i < X.length) : X[i]! ∈ X := by
  rw [getElem!_pos X i hi]
  exact List.getElem_mem hi
theorem may_same {G K : List Sg} {H : List Gp} (h : Same G K) (k : TrackMay G H) : TrackMay K H := may_of_chk (by rw [chk_same h, chk_may k])
theorem grow_gen (lo hi : Int) (G : List Sg) (H : List Gp) (p q : Option Addr) (c d : Nat) (s0 f F : Int) (X : List Ro) (n : Nat) (ps : Option Addr) (cs : Nat) (w : World) (hS : Reads w p (flat sg G)) (hG : OkS w G) (hH : Reads w q (flat gp H)) (hM : TrackMay G H) (hF : F = f) (hn : X.length = n) (hX : SetOk G s0 f X) (hR : Reads w ps (flat rt X)) (hlo : -9223372036854775808 ≤ lo ∧ lo ≤ 9223372036854775807) (hhi : -9223372036854775808 ≤ hi ∧ hi ≤ 9223372036854775807) (hC : ∀ s ∈ G, s.X.length ≤ s.nc) :
    Calls Try.prog 12 #[.agg #[.int .i64 F, .slice ps n cs], .agg #[.slice p G.length c, .slice q H.length d], .agg #[.int .i64 lo, .int .i64 hi]] w fun e w' => ∃ z : Gp2, Gp2Ok G f hi lo X z ∧ e = .returned (.tuple #[.agg #[.int .i64 z.F, .slice z.p z.X.length z.c], .int .i64 (z.e : Nat)]) ∧ Env w w' z.N := by
  subst hF
  subst hn
  exact Rou.grow_any lo hi G H p q c d s0 F X ps cs w hS hG hH hM hX hR hlo hhi hC
theorem places_ref (gi : Int) (G : List Sg) (H : List Gp) (p q : Option Addr) (c d : Nat) (K : List Sg) (s0 f : Int) (O : List Ix) (ps : Option Addr) (cs : Nat) (w : World) (hS : Reads w p (flat sg K)) (hG : OkS w K) (hH : Reads w q (flat gp H)) (hM : TrackMay G H) (hs : Same G K) (hX : SetOk G s0 f (xs O)) (hT : Reads w ps (flat ix O)) (hO : OkI w O) (h0 : 0 ≤ gi ∧ gi < H.length) :
    Calls Try.prog 17 #[.agg #[.slice p K.length c, .slice q H.length d], .agg #[.int .i64 f, .slice ps O.length cs], .int .i64 gi] w fun e w' => ∃ z : Pz, Held z.N z.p (flat enc1 (plc G f (H[gi.toNat]!).seg (H[gi.toNat]!).off (xs O) O.length)) ∧ e = .returned (.slice z.p (plc G f (H[gi.toNat]!).seg (H[gi.toNat]!).off (xs O) O.length).length z.c) ∧ Env w w' z.N := by
  obtain ⟨n, rfl⟩ := Int.eq_ofNat_of_zero_le h0.1
  obtain ⟨z1, z2, z3⟩ := hM.sizes
  have h := Rtplc.places_any f O ps cs n K H p q c d w hS hG hH (by rw [hs.length]; omega) (by omega) (may_same hs hM) ⟨hX.frm.1, by have := (hM.segs s0.toNat (by have := hX.seg0; omega)).high; have := hX.frm.2; omega⟩ hT hO (fun x hx => rtok_same hs (set_rt hX x hx)) (by have := hX.few; rwa [xs_len] at this) (by omega)
  refine h.mono ?_
  rintro e w' ⟨s, hh, rfl, hE⟩
  rw [plc_same hs] at hh ⊢
  exact ⟨⟨s.ptr, s.cap, s.rows 2⟩, held_own hh, rfl, hE⟩
end Go.Proofs.Ytjbhlcklgmgdpaa.Rtlc
