/-
  Where a train may be, cycle by cycle, without a program.
-/
import Derived.Test.YtbacchdkankioaaMrt
import Derived.Test.YtbacchdkankioaaCf
namespace Go.Proofs.Ytbacchdkankioaa.Plm
open Go.ChangeShapes Go.WideShapes Go.ChangeAt Go.RowKit
open Arr Steady Sx Sw Sl Sb Sc Sh Vs Gr Tk Tkh Tkl Rt Rtm Rtg Rtp Rtk Rts Rtsm Cf
set_option linter.unusedVariables false
/-- The place where a train probably is, between the ends a and b. -/
def est1 (a b m : Int) : Int := max a (min m b)
theorem est_in {a b m : Int} (h : a ≤ b) : a ≤ est1 a b m ∧ est1 a b m ≤ b := by unfold est1; omega
/-- The way and the error, behind a cycle whose places are from a to b. -/
noncomputable def mvS (G : List Sg) (f : Int) (X : List Ro) (a b : Int) : Nat × List Ro := if a < -17592186044416 ∨ 17592186044416 < b then (20, []) else growS G f b X a
/-- A place, as Move hands it back: with an error, and the rows of its own. -/
structure Mv where
  e : Nat
  on : Bool
  gi : Int
  lo : Int
  hi : Int
  est : Int
  F : Int
  p : Option Addr
  X : List Ro
  c : Nat
  N : List Rw
/-- The document's. -/
structure Mr where
  e : Nat
  on : Int
  gi : Int
  lo : Int
  hi : Int
  est : Int
  F : Int
  p : Option Addr
  O : List Ix
  c : Nat
  N : List Rw
structure MvOk (G : List Sg) (gi f a b m : Int) (X : List Ro) (z : Mv) : Prop where
  is : mvS G f X a b = (z.e, z.X)
  yes : z.e = 0 → z.on = true ∧ z.gi = gi ∧ z.lo = a ∧ z.hi = b ∧ z.est = est1 a b m ∧ z.F = f
  no : z.e ≠ 0 → z.on = false ∧ z.gi = 0 ∧ z.lo = 0 ∧ z.hi = 0 ∧ z.est = 0 ∧ z.F = 0
  held : Held z.N z.p (flat rt z.X)
structure MrOk (G : List Sg) (gi f a b m : Int) (T0 : List Ix) (z : Mr) : Prop where
  is : mvS G f (xs T0) a b = (z.e, xs z.O)
  yes : z.e = 0 → z.on = 1 ∧ z.gi = gi ∧ z.lo = a ∧ z.hi = b ∧ z.est = est1 a b m ∧ z.F = f
  no : z.e ≠ 0 → z.on = 0 ∧ z.gi = 0 ∧ z.lo = 0 ∧ z.hi = 0 ∧ z.est = 0 ∧ z.F = 0
  held : Held z.N z.p (flat ix z.O)
  mem : Mem G T0 z.N z.O
section
variable {G : List Sg} {gi f a b m s : Int} {X : List Ro} {T0 : List Ix}
theorem mvS_over (h : a < -17592186044416 ∨ 17592186044416 < b) : mvS G f X a b = (20, []) := by unfold mvS; rw [if_pos h]
theorem mvS_in (h : ¬ (a < -17592186044416 ∨ 17592186044416 < b)) : mvS G f X a b = growS G f b X a := by unfold mvS; rw [if_neg h]
theorem mv_zero {Y : List Ro} (h : mvS G f X a b = (0, Y)) : -17592186044416 ≤ a ∧ b ≤ 17592186044416 ∧ growS G f b X a = (0, Y) := by
  by_cases k : a < -17592186044416 ∨ 17592186044416 < b
  · rw [mvS_over k] at h; cases h
  · rw [mvS_in k] at h; exact ⟨by omega, by omega, h⟩
theorem mv_none {e : Nat} {Y : List Ro} (hG : Segs G) (hX : ∀ r ∈ X, RtWf G s r) (h : mvS G f X a b = (e, Y)) (he : e ≠ 0) : Y = [] ∧ (e = 20 ∨ e = 13 ∨ e = 40) := by
  by_cases k : a < -17592186044416 ∨ 17592186044416 < b
  · rw [mvS_over k] at h; cases h; exact ⟨rfl, .inl rfl⟩
  · rw [mvS_in k] at h
    obtain ⟨h1, h2⟩ := grow_none hG hX h he
    exact ⟨h1, .inr h2⟩
theorem mv_ok {Y : List Ro} (hG : Segs G) (hX : SetOk G s f X) (h : mvS G f X a b = (0, Y)) : SetOk G s f Y := grow_ok hG hX (mv_zero h).2.2
theorem mv_keep {e : Nat} {Y : List Ro} {P : Ro} (hG : Segs G) (hX : SetOk G s f X) (hw : RtWf G s P) (hP : a ≤ endR G f P) (hh : HasR X P) (hab : a ≤ b) (h0 : -f ≤ a) (h : mvS G f X a b = (e, Y)) (h1 : e ≠ 13) (h2 : e ≠ 20) : e = 0 ∧ HasR Y P := by
  by_cases k : a < -17592186044416 ∨ 17592186044416 < b
  · rw [mvS_over k] at h; cases h; exact absurd rfl h2
  · rw [mvS_in k] at h
    exact keep hG hX hw hP hh (by omega) h h1
/-- What a place and the document's have in common. -/
structure Eqs (P : Mv) (Q : Mr) : Prop where
  on : P.on = decide (Q.on = 1)
  gi : P.gi = Q.gi
  lo : P.lo = Q.lo
  hi : P.hi = Q.hi
  est : P.est = Q.est
  F : P.F = Q.F
  X : P.X = xs Q.O
theorem Eqs.len {P : Mv} {Q : Mr} (h : Eqs P Q) : P.X.length = Q.O.length := by rw [h.X, xs_len]
theorem eqs_of {P : Mv} {Q : Mr} (hX : X = xs T0) (h : MvOk G gi f a b m X P) (k : MrOk G gi f a b m T0 Q) : P.e = Q.e ∧ Eqs P Q := by
  have h1 := h.is
  have k1 := k.is
  rw [← hX, h1] at k1
  obtain ⟨e1, e2⟩ := Prod.mk.inj k1
  refine ⟨e1, ?_⟩
  by_cases h0 : P.e = 0
  · obtain ⟨a1, a2, a3, a4, a5, a6⟩ := h.yes h0
    obtain ⟨b1, b2, b3, b4, b5, b6⟩ := k.yes (by omega)
    exact ⟨by rw [a1, b1]; rfl, by rw [a2, b2], by rw [a3, b3], by rw [a4, b4], by rw [a5, b5], by rw [a6, b6], e2⟩
  · obtain ⟨a1, a2, a3, a4, a5, a6⟩ := h.no h0
    obtain ⟨b1, b2, b3, b4, b5, b6⟩ := k.no (by omega)
    exact ⟨by rw [a1, b1]; rfl, by rw [a2, b2], by rw [a3, b3], by rw [a4, b4], by rw [a5, b5], by rw [a6, b6], e2⟩
end
/-- A place that Reset and Move hand back. -/
structure PlOk (G : List Sg) (s f : Int) (P : Mv) : Prop where
  on : P.on = true
  F : P.F = f
  set : SetOk G s f P.X
  lo : -17592186044416 ≤ P.lo
  mid : P.lo ≤ P.est ∧ P.est ≤ P.hi
  hi : P.hi ≤ 17592186044416
theorem pl_next {G : List Sg} {s f gi a b m : Int} {X : List Ro} {z : Mv} (hG : Segs G) (hX : SetOk G s f X) (hab : a ≤ b) (h : MvOk G gi f a b m X z) (h0 : z.e = 0) : PlOk G s f z := by
  obtain ⟨a1, a2, a3, a4, a5, a6⟩ := h.yes h0
  have k := h.is
  rw [h0] at k
  obtain ⟨k1, k2, k3⟩ := mv_zero k
  have k4 := est_in (m := m) hab
  exact ⟨a1, a6, mv_ok hG hX k, by omega, by omega, by omega⟩
theorem mv_low {G : List Sg} {s f a b : Int} {X Y : List Ro} (hG : Segs G) (hX : SetOk G s f X) (h : mvS G f X a b = (0, Y)) : -f ≤ a := by
  have h0 := (grow_yes hG hX.wf (mv_zero h).2.2).1
  omega
theorem mv_lost {G : List Sg} {s f a b : Int} {X Y : List Ro} {P : Ro} (hG : Segs G) (hX : SetOk G s f X) (hw : RtWf G s P) (hP : a ≤ endR G f P) (hh : HasR X P) (hab : a ≤ b) (h : mvS G f X a b = (40, Y)) : a < -f :=
  Classical.byContradiction fun hn => by
    have := (mv_keep hG hX hw hP hh hab (by omega) h (by omega) (by omega)).1
    omega
/-- A cycle: the speeds that may be, the true one. -/
abbrev Rd3 := Int × Int × Int
def rd3 (x : Rd3) : List Value := [.int .i64 x.1, .int .i64 x.2.1, .int .i64 x.2.2]
end Go.Proofs.Ytbacchdkankioaa.Plm
