/-
  The laws of layer 14: their helpers may and same. Condition: at most 2^47 of each.
  The laws of layer 14: steps, a set and the document's that grow together. Condition: at most 2^47 of each.
  The laws of layer 14: what they call, in the form that they want; their example. Condition: at most 2^47 of each.
-/
import Derived.Test.YtbacchdkankioaaMro
import Derived.Test.YtbacchdkankioaaTkrefs14
import Derived.Test.YtbacchdkankioaaMkr
import Derived.Test.YtbacchdkankioaaRtref
import Derived.Test.YtbacchdkankioaaMrt
import Derived.Test.YtbacchdkankioaaRtgrow
import Derived.Test.YtbacchdkankioaaMsf
import Derived.Test.YtbacchdkankioaaVs2
import Derived.Test.YtbacchdkankioaaRtplc
namespace Go.Proofs.Ytbacchdkankioaa.Rtla
open Go.ChangeShapes Go.WideShapes Go.ChangeAt Go.RowKit
open Arr Steady Sx Sw Sl Sb Sc Si Sj Sk Sh Vs Gr Tk Tkh Tkl Rt Rtm Rtg Rtp Rtk Rts Tkrefs14
set_option linter.unusedVariables false
set_option linter.unusedSimpArgs false
set_option maxRecDepth 100000

/-- What the helper hands back: a track that says the same, in rows of its own. -/
structure Cp where
  K : List Sg
  p : Option Addr
  c : Nat
  q : Option Addr
  d : Nat
  N : List Rw
structure CpOk (G : List Sg) (H : List Gp) (z : Cp) : Prop where
  same : Same G z.K
  segs : Held z.N z.p (flat sg z.K)
  grps : Held z.N z.q (flat gp H)
  ok : ∀ w0 W, OkS w0 G → Env w0 W z.N → OkS W z.K
theorem may_few {G : List Sg} {H : List Gp} (h : TrackMay G H) : G.length + H.length ≤ 800 ∧ ∀ j, j < G.length → (G[j]!).P.length ≤ 100 ∧ (G[j]!).X.length ≤ 100 := by
  have hs := h.sizes
  refine ⟨by have := hs.2.1; have := hs.2.2; omega, fun j hj => ?_⟩
  have k := h.segs j hj
  have := k.may.few
  have := k.two
  omega
end Go.Proofs.Ytbacchdkankioaa.Rtla
namespace Go.Proofs.Ytbacchdkankioaa.Rtlb
open Go.ChangeShapes Go.WideShapes Go.ChangeAt Go.RowKit
open Arr Steady Sx Sw Sl Sb Sc Si Sj Sk Sh Vs Gr Tk Tkh Tkl Rt Rtm Rtg Rtp Rtk Rts Tkrefs14 Rtla Rtsm Sfn
set_option linter.unusedVariables false
set_option linter.unusedSimpArgs false
set_option maxRecDepth 100000

/-- What steps hands back. -/
structure Stz where
  O : List Ix
  pp : Option Addr
  pc : Nat
  tp : Option Addr
  tc : Nat
  N : List Rw
structure StzOk (G : List Sg) (s f : Int) (z : Stz) : Prop where
  set : SetOk G s f (xs z.O)
  prog : Held z.N z.pp (flat rti z.O)
  ref : Held z.N z.tp (flat ix z.O)
  each : HeldI z.N z.O
end Go.Proofs.Ytbacchdkankioaa.Rtlb
namespace Go.Proofs.Ytbacchdkankioaa.Rtlc
open Go.ChangeShapes Go.WideShapes Go.ChangeAt Go.RowKit
open Arr Steady Sx Sw Sl Sb Sc Si Sj Sk Sh Vs Gr Tk Tkh Tkl Rt Rtm Rtg Rtp Rtk Rts Tkrefs14 Rtla Rtsm Shh Sfn Rtlb
set_option linter.unusedVariables false
set_option linter.unusedSimpArgs false
set_option maxRecDepth 100000

theorem get_memi {X : List Int} {i : Nat} (hi : i < X.length) : X[i]! ∈ X := by
  rw [getElem!_pos X i hi]
  exact List.getElem_mem hi
theorem has_true (G : List Sg) (s0 f F : Int) (X : List Ro) (ps : Option Addr) (cs : Nat) (P : List Int) (n : Nat) (a : Option Addr) (ca : Nat) (w : World) (hF : F = f) (hX : SetOk G s0 f X) (hR : Reads w ps (flat rt X)) (hl : P.length = n) (hP : Reads w a (flat enc1 P)) (hh : HasR X P) (hn : n ≤ 12) (hca : n ≤ ca) :
    Calls Try.prog 17 #[.agg #[.int .i64 F, .slice ps X.length cs], .slice a n ca] w fun e w' => e = .returned (.bool true) ∧ Below w.heap.size w w' := by
  subst hF
  subst hl
  have h := Rou.has_any G s0 F X ps cs P a ca w hX hR hP (by omega) hca
  rwa [hasB_yes hh] at h
theorem end_lenr (f : Int) (X : List Int) (a1 : Option Addr) (c1 : Nat) (K : List Sg) (H : List Gp) (p q : Option Addr) (c d n : Nat) (w : World) (hS : Reads w p (flat sg K)) (hG : OkS w K) (hH : Reads w q (flat gp H)) (hn : K.length ≤ 140737488355328) (hm : H.length ≤ 140737488355328) (hM : Segs K) (hf : 0 ≤ f ∧ f ≤ 1099511627776) (hX : Reads w a1 (flat enc1 X)) (hr : RtOk K X) (hl : X.length = n) {G : List Sg} (he : endR K f = endR G f) :
    Calls Try.prog 15 #[.agg #[.slice p K.length c, .slice q H.length d], .int .i64 f, .slice a1 n c1] w fun e w' => e = .returned (.int .i64 (endR G f X)) ∧ Below w.heap.size w w' := by
  subst hl
  have h := Rtref.end_any f X a1 c1 K H p q c d w hS hG hH hn hm hM hf hX hr
  rwa [he] at h
theorem wc_perm {P : Program} {cd : Code} {Q : Exit → Act → World → Prop} {a : Act} {w0 : World} {R R' : List Rw} (hp : R.Perm R') (h : Wc P cd Q a w0 R') : Wc P cd Q a w0 R := ⟨fun w hE => h.run w (Env.perm hE hp)⟩
end Go.Proofs.Ytbacchdkankioaa.Rtlc
