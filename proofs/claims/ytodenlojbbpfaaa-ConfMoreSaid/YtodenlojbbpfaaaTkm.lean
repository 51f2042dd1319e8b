/-
  Package track, without a program: what may follow a segment, what a group may be, the first place of a number in a list, the hull of grades, a search by Ids. No condition.
-/
import Derived.Test.YtodenlojbbpfaaaTkl
import Derived.Test.YtodenlojbbpfaaaGrm
import Derived.Test.YtodenlojbbpfaaaSpn
namespace Go.Proofs.Ytodenlojbbpfaaa.Tkm
open Go.ChangeShapes Go.WideShapes Go.ChangeAt Go.RowKit
open Arr Steady Sx Sw Sl Sb Sc Vs Gr Grm Spn Tk Tkl
set_option linter.unusedVariables false
set_option linter.unusedSimpArgs false

/-! ### From 0 to the most -/
def inB (x m : Int) : Bool := decide (0 ≤ x ∧ x ≤ m)
theorem in_of {x m : Int} (h : inB x m = true) : 0 ≤ x ∧ x ≤ m := of_decide_eq_true h
theorem not_in {x m : Int} (h : inB x m = false) : ¬ (0 ≤ x ∧ x ≤ m) := of_decide_eq_false h
theorem in_yes {x m : Int} (h : 0 ≤ x ∧ x ≤ m) : inB x m = true := decide_eq_true h
theorem in_no {x m : Int} (h : ¬ (0 ≤ x ∧ x ≤ m)) : inB x m = false := decide_eq_false h
theorem in_low {x m : Int} (h : 0 ≤ x) : inB x m = decide (x ≤ m) := by
  by_cases k : x ≤ m
  · rw [in_yes ⟨h, k⟩, decide_eq_true k]
  · rw [in_no (fun e => k e.2), decide_eq_false k]
/-! ### What may follow -/
structure NextMay (X : List Int) (m : Int) : Prop where
  two : X.length ≤ 2
  each : ∀ j, j < X.length → 0 ≤ X[j]! ∧ X[j]! < m
  up : 2 ≤ X.length → X[0]! < X[1]!
noncomputable def nextB (X : List Int) (m : Int) : Bool := @decide (NextMay X m) (Classical.propDecidable _)
theorem next_yes {X : List Int} {m : Int} (h : NextMay X m) : nextB X m = true := by unfold nextB; exact @decide_eq_true _ (Classical.propDecidable _) h
theorem next_no {X : List Int} {m : Int} (h : ¬ NextMay X m) : nextB X m = false := by unfold nextB; exact @decide_eq_false _ (Classical.propDecidable _) h
theorem next_of {X : List Int} {m : Int} (h : nextB X m = true) : NextMay X m := by unfold nextB at h; exact @of_decide_eq_true _ (Classical.propDecidable _) h
theorem not_next {X : List Int} {m : Int} (h : nextB X m = false) : ¬ NextMay X m := fun e => by rw [next_yes e] at h; cases h
/-- The first i of them are right, and z is the last of these (or -1). -/
def NextInv (X : List Int) (m : Int) (i : Nat) (z : Int) : Prop := (∀ j, j < i → 0 ≤ X[j]! ∧ X[j]! < m) ∧ ((i = 0 ∧ z = -1) ∨ (i = 1 ∧ z = X[0]!) ∨ (i = 2 ∧ X[0]! < X[1]!))
theorem next_start (X : List Int) (m : Int) : NextInv X m 0 (-1) := ⟨fun j hj => absurd hj (Nat.not_lt_zero j), .inl ⟨rfl, rfl⟩⟩
theorem next_step {X : List Int} {m : Int} {i : Nat} {z : Int} (h : NextInv X m i z) (h2 : X.length ≤ 2) (hi : i < X.length) (hz : z < X[i]!) (hm : X[i]! < m) : NextInv X m (i + 1) (X[i]!) := by
  obtain ⟨h0, h1⟩ := h
  rcases h1 with ⟨e, k⟩ | ⟨e, k⟩ | ⟨e, k⟩
  · subst e
    refine ⟨fun j hj => ?_, .inr (.inl ⟨rfl, rfl⟩)⟩
    have : j = 0 := by omega
    subst this
    exact ⟨by omega, hm⟩
  · subst e
    have k0 := h0 0 (by omega)
    refine ⟨fun j hj => ?_, .inr (.inr ⟨rfl, by omega⟩)⟩
    rcases Nat.lt_or_eq_of_le (Nat.le_of_lt_succ hj) with h | h
    · exact h0 j h
    · subst h
      exact ⟨by omega, hm⟩
  · omega
theorem next_bad {X : List Int} {m : Int} {i : Nat} {z : Int} (h : NextInv X m i z) (hi : i < X.length) (hb : X[i]! ≤ z ∨ m ≤ X[i]!) : ¬ NextMay X m := fun k => by
  have k0 := k.each i hi
  have k2 := k.two
  rcases h.2 with ⟨e, g⟩ | ⟨e, g⟩ | ⟨e, g⟩
  · omega
  · subst e
    have k3 := k.up (by omega)
    omega
  · omega
theorem next_end {X : List Int} {m : Int} {z : Int} (h2 : X.length ≤ 2) (h : NextInv X m X.length z) : NextMay X m := by
  refine ⟨h2, h.1, fun h3 => ?_⟩
  rcases h.2 with ⟨e, g⟩ | ⟨e, g⟩ | ⟨e, g⟩
  · omega
  · omega
  · exact g
/-! ### A segment, a group -/
noncomputable def ckI (L : Spans) (n : Int) : Int := if mayB L n = true then 0 else 11
theorem ck_of {L : Spans} {n : Int} (h : ckI L n = 0) : May L n := by
  unfold ckI at h
  by_cases k : mayB L n = true
  · exact may_of k
  · rw [if_neg k] at h; omega
theorem ck_not {L : Spans} {n : Int} (h : ¬ ckI L n = 0) : ¬ May L n := fun k => h (by unfold ckI; rw [if_pos (mayB_yes k)])
theorem seg_all {s : Sg} {m : Int} (h1 : 1 ≤ s.len) (h2 : s.len ≤ 1099511627776) (h3 : ckI s.P s.len = 0) (h4 : NextMay s.X m) : SegMay s m := ⟨h1, h2, ck_of h3, h4.two, h4.each, h4.up⟩
theorem seg_next {s : Sg} {m : Int} (h : SegMay s m) : NextMay s.X m := ⟨h.two, h.each, h.up⟩
/-- What a group must be, but for the Ids before it. -/
structure GrpIn (G : List Sg) (g : Gp) : Prop where
  high : g.id ≤ 65535
  seg0 : 0 ≤ g.seg
  segn : g.seg < G.length
  off : 0 ≤ g.off ∧ g.off ≤ (G[g.seg.toNat]!).len
  acc : 0 ≤ g.acc ∧ g.acc ≤ 1048576
  sl : 0 ≤ g.slack ∧ g.slack ≤ 16777216
noncomputable def grpB (G : List Sg) (g : Gp) : Bool := @decide (GrpIn G g) (Classical.propDecidable _)
theorem grp_yes {G : List Sg} {g : Gp} (h : GrpIn G g) : grpB G g = true := by unfold grpB; exact @decide_eq_true _ (Classical.propDecidable _) h
theorem grp_no {G : List Sg} {g : Gp} (h : ¬ GrpIn G g) : grpB G g = false := by unfold grpB; exact @decide_eq_false _ (Classical.propDecidable _) h
theorem grp_of {G : List Sg} {g : Gp} (h : grpB G g = true) : GrpIn G g := by unfold grpB at h; exact @of_decide_eq_true _ (Classical.propDecidable _) h
theorem not_grp {G : List Sg} {g : Gp} (h : grpB G g = false) : ¬ GrpIn G g := fun e => by rw [grp_yes e] at h; cases h
theorem grp_may {G : List Sg} {H : List Gp} {i : Nat} (h : lastId H i < (H[i]!).id) (k : GrpIn G (H[i]!)) : GrpMay G H i := ⟨h, k.high, k.seg0, k.segn, k.off.1, k.off.2, k.acc.1, k.acc.2, k.sl.1, k.sl.2⟩
theorem grp_in {G : List Sg} {H : List Gp} {i : Nat} (k : GrpMay G H i) : GrpIn G (H[i]!) := ⟨k.high, k.seg0, k.segn, ⟨k.off0, k.offn⟩, ⟨k.acc0, k.accn⟩, ⟨k.sl0, k.sln⟩⟩
/-! ### The first place of a number -/
/-! ### The hull of grades -/
def hg (r : Int × Int) (g : Int) : Int × Int := hullF r.1 r.2 g g
/-! ### A search by Ids -/
end Go.Proofs.Ytodenlojbbpfaaa.Tkm
