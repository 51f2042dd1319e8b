/-
  The laws of layer 14: what they call, in the form that they want; their example. Condition: at most 2^47 of each.
-/
import Derived.Test.YtkbaponpebkpiaaRtlb
import Derived.Test.YtkbaponpebkpiaaRtplc
namespace Go.Proofs.Ytkbaponpebkpiaa.Rtlc
open Go.ChangeShapes Go.WideShapes Go.ChangeAt Go.RowKit
open Arr Steady Sx Sw Sl Sb Sc Si Sj Sk Sh Vs Gr Tk Tkh Tkl Rt Rtm Rtg Rtp Rtk Rts Tkrefs14 Rtla Rtsm Shh Sfn Rtlb
set_option linter.unusedVariables false
set_option linter.unusedSimpArgs false
set_option maxRecDepth 100000

theorem get_memi {X : List Int} {i : Nat} (hi : i < X.length) : X[i]! ∈ X := by
  rw [getElem!_pos X i hi]
  exact List.getElem_mem hi
theorem grow_gen (lo hi : Int) (G : List Sg) (H : List Gp) (p q : Option Addr) (c d : Nat) (s0 f F : Int) (X : List Ro) (n : Nat) (ps : Option Addr) (cs : Nat) (w : World) (hS : Reads w p (flat sg G)) (hG : OkS w G) (hH : Reads w q (flat gp H)) (hM : TrackMay G H) (hF : F = f) (hn : X.length = n) (hX : SetOk G s0 f X) (hR : Reads w ps (flat rt X)) (hlo : -9223372036854775808 ≤ lo ∧ lo ≤ 9223372036854775807) (hhi : -9223372036854775808 ≤ hi ∧ hi ≤ 9223372036854775807) (hC : ∀ s ∈ G, s.X.length ≤ s.nc) :
    Calls Try.prog 18 #[.agg #[.int .i64 F, .slice ps n cs], .agg #[.slice p G.length c, .slice q H.length d], .agg #[.int .i64 lo, .int .i64 hi]] w fun e w' => ∃ z : Gp2, Gp2Ok G f hi lo X z ∧ e = .returned (.tuple #[.agg #[.int .i64 z.F, .slice z.p z.X.length z.c], .int .i64 (z.e : Nat)]) ∧ Env w w' z.N := by
  subst hF
  subst hn
  exact Rou.grow_any lo hi G H p q c d s0 F X ps cs w hS hG hH hM hX hR hlo hhi hC
theorem has_true (G : List Sg) (s0 f F : Int) (X : List Ro) (ps : Option Addr) (cs : Nat) (P : List Int) (n : Nat) (a : Option Addr) (ca : Nat) (w : World) (hF : F = f) (hX : SetOk G s0 f X) (hR : Reads w ps (flat rt X)) (hl : P.length = n) (hP : Reads w a (flat enc1 P)) (hh : HasR X P) (hn : n ≤ 12) (hca : n ≤ ca) :
    Calls Try.prog 19 #[.agg #[.int .i64 F, .slice ps X.length cs], .slice a n ca] w fun e w' => e = .returned (.bool true) ∧ Below w.heap.size w w' := by
  subst hF
  subst hl
  have h := Rou.has_any G s0 F X ps cs P a ca w hX hR hP (by omega) hca
  rwa [hasB_yes hh] at h
theorem end_lenr (f : Int) (X : List Int) (a1 : Option Addr) (c1 : Nat) (K : List Sg) (H : List Gp) (p q : Option Addr) (c d n : Nat) (w : World) (hS : Reads w p (flat sg K)) (hG : OkS w K) (hH : Reads w q (flat gp H)) (hn : K.length ≤ 140737488355328) (hm : H.length ≤ 140737488355328) (hM : Segs K) (hf : 0 ≤ f ∧ f ≤ 1099511627776) (hX : Reads w a1 (flat enc1 X)) (hr : RtOk K X) (hl : X.length = n) {G : List Sg} (he : endR K f = endR G f) :
    Calls Try.prog 11 #[.agg #[.slice p K.length c, .slice q H.length d], .int .i64 f, .slice a1 n c1] w fun e w' => e = .returned (.int .i64 (endR G f X)) ∧ Below w.heap.size w w' := by
  subst hl
  have h := Rtref.end_any f X a1 c1 K H p q c d w hS hG hH hn hm hM hf hX hr
  rwa [he] at h
theorem wc_perm {P : Program} {cd : Code} {Q : Exit → Act → World → Prop} {a : Act} {w0 : World} {R R' : List Rw} (hp : R.Perm R') (h : Wc P cd Q a w0 R') : Wc P cd Q a w0 R := ⟨fun w hE => h.run w (Env.perm hE hp)⟩
end Go.Proofs.Ytkbaponpebkpiaa.Rtlc
