/-
  The laws of layer 21: Reset and Move, the program's and the document's, as the laws call them. Condition: at most 2^47 of each.
-/
import Derived.Test.YtbacchdkankioaaPla
import Derived.Test.YtbacchdkankioaaPlla
import Derived.Test.YtbacchdkankioaaPlref
namespace Go.Proofs.Ytbacchdkankioaa.Plld
open Go.ChangeShapes Go.WideShapes Go.ChangeAt Go.RowKit
open Arr Steady Sx Sw Sl Sb Sc Si Sj Sk Sh Vs Gr Tk Tkh Tkl Rt Rtm Rtg Rtp Rtk Rts Rtsm Shh Sfn Cf Plm Plla Plref Rtla
set_option linter.unusedVariables false
set_option linter.unusedSimpArgs false
set_option maxRecDepth 100000

theorem rtwf_same {G K : List Sg} {s : Int} {r : Ro} (h : Same G K) (k : RtWf G s r) : RtWf K s r :=
  ⟨rtok_same h k.ok, k.first, fun j hj => by rw [(same_get h _).2.2]; exact k.chain j hj⟩
theorem mvS_same {G K : List Sg} {f a b : Int} {X : List Ro} (h : Same G K) : mvS K f X a b = mvS G f X a b := by unfold mvS; rw [grow_same h]
theorem mr_same {G K : List Sg} {gi f a b m : Int} {T0 : List Ix} {z : Mr} (h : Same G K) (k : MrOk K gi f a b m T0 z) : MrOk G gi f a b m T0 z :=
  ⟨by rw [← mvS_same h]; exact k.is, k.yes, k.no, k.held, mem_same h k.mem⟩
theorem heldi_rt {G : List Sg} {O : List Ix} {M R : List Rw} {w W : World} (h : HeldI M O) (hr : ∀ x ∈ O, RtOk G x.X) (hs : M.Sublist R) (hE : Env w W R) : OkI W O := fun x hx =>
  ⟨held_at (h x hx) hs hE, by have := (hr x hx).few; omega⟩
theorem mr_few {G : List Sg} {s gi f a b m : Int} {T0 : List Ix} {z : Mr} (hG : Segs G) (hX : SetOk G s f (xs T0)) (k : MrOk G gi f a b m T0 z) : z.O.length ≤ 16 := by
  by_cases h0 : z.e = 0
  · have h := k.is
    rw [h0] at h
    have := (mv_ok hG hX h).few
    rwa [xs_len] at this
  · have h := (mv_none hG hX.wf k.is h0).1
    have : (xs z.O).length = 0 := by rw [h]; rfl
    rw [xs_len] at this
    omega
theorem move_ref (lo hi : Int) (P : Mv) (Q : Mr) (s0 f : Int) (G K : List Sg) (H : List Gp) (p q : Option Addr) (c d : Nat) (w : World) (hS : Reads w p (flat sg K)) (hG : OkS w K) (hH : Reads w q (flat gp H)) (hM : TrackMay G H) (hs : Same G K) (hP : PlOk G s0 f P) (he : Eqs P Q) (hT : Reads w Q.p (flat ix Q.O)) (hO : OkI w Q.O) (hv : lo ≤ hi ∧ -1099511627776 ≤ lo ∧ hi ≤ 1099511627776) :
    Calls Try.prog 14 #[.agg #[.slice p K.length c, .slice q H.length d], .agg #[.int .i64 Q.on, .int .i64 Q.gi, .int .i64 Q.lo, .int .i64 Q.hi, .int .i64 Q.est, .int .i64 Q.F, .slice Q.p Q.O.length Q.c], .int .i64 lo, .int .i64 hi] w fun e w' => ∃ z : Mr, MrOk G Q.gi f (Q.lo + lo) (Q.hi + hi) (Q.est + (lo + hi) / 2) Q.O z ∧ e = .returned (.tuple #[.agg #[.int .i64 z.on, .int .i64 z.gi, .int .i64 z.lo, .int .i64 z.hi, .int .i64 z.est, .int .i64 z.F, .slice z.p z.O.length z.c], .int .i64 (z.e : Nat)]) ∧ Env w w' z.N := by
  have hX : SetOk G s0 f (xs Q.O) := by rw [← he.X]; exact hP.set
  obtain ⟨z1, z2, z3⟩ := hM.sizes
  have f1 := hX.frm
  have f2 := (hM.segs s0.toNat (by have := hX.seg0; omega)).high
  have hon : Q.on = 1 := by have h1 := he.on; rw [hP.on] at h1; exact of_decide_eq_true h1.symm
  have q1 := hP.lo
  have q2 := hP.mid
  have q3 := hP.hi
  rw [he.lo] at q1 q2
  rw [he.est, he.hi] at q2
  rw [he.hi] at q3
  refine (Plref.move_in lo hi Q s0 f K H p q c d w hS hG hH (by rw [hs.length]; omega) (by omega) (segs_same hs hM.segs) (segs_same hs hM.segs) (fun r hr => rtwf_same hs (hX.wf r hr)) ⟨f1.1, by omega⟩ hT hO (fun x hx => rtok_same hs (set_rt hX x hx)) (set_len hX) (by have := hX.few; rwa [xs_len] at this) hon (by rw [← he.F]; exact hP.F) q1 q2.1 q2.2 q3 hv).mono ?_
  rintro e w' ⟨z, hz, rfl, hE⟩
  exact ⟨z, mr_same hs hz, rfl, hE⟩
theorem reset_ref (k : Cf) (gi lo hi : Int) (G K : List Sg) (H : List Gp) (p q : Option Addr) (c d : Nat) (w : World) (hk : Ok k) (hS : Reads w p (flat sg K)) (hG : OkS w K) (hH : Reads w q (flat gp H)) (hM : TrackMay G H) (hs : Same G K) (hgi : 0 ≤ gi ∧ gi < H.length) (hv : lo ≤ hi ∧ -k.ms ≤ lo ∧ hi ≤ k.ms) :
    Calls Try.prog 10 #[.agg #[.int .i64 k.pu, .int .i64 k.lo, .int .i64 k.hi, .int .i64 k.rb, .int .i64 k.rp, .int .i64 k.ae, .int .i64 k.ms, .int .i64 k.ma, .int .i64 k.an, .int .i64 k.st, .int .i64 k.ss, .int .i64 k.ro, .int .i64 k.ti, .int .i64 k.br], .agg #[.slice p K.length c, .slice q H.length d], .int .i64 gi, .int .i64 lo, .int .i64 hi] w fun e w' => ∃ z : Rz, RzOk (H[gi.toNat]!).seg z ∧ e = .returned (.agg #[.int .i64 1, .int .i64 gi, .int .i64 (-((H[gi.toNat]!).acc + k.an) + min lo 0), .int .i64 ((H[gi.toNat]!).acc + k.an + max hi 0), .int .i64 ((min lo 0 + max hi 0) / 2), .int .i64 (H[gi.toNat]!).off, .slice z.p 1 z.c]) ∧ Env w w' z.N := by
  obtain ⟨z1, z2, z3⟩ := hM.sizes
  exact Plref.reset_any k gi lo hi K H p q c d w hk hS hG hH (by rw [hs.length]; omega) (by omega) (may_of_chk (by rw [chk_same hs, chk_may hM])) hgi hv
end Go.Proofs.Ytbacchdkankioaa.Plld
