/-
  Tracks, without a program: segments and groups in memory, which may be, the grades of all, what comes behind what. No condition.
-/
import Derived.Test.YtodenlojbbpfaaaGr
namespace Go.Proofs.Ytodenlojbbpfaaa.Tk
open Go.ChangeShapes Go.WideShapes Go.ChangeAt Go.RowKit
open Arr Steady Sx Sw Sl Sb Sc Vs Gr
set_option linter.unusedVariables false
set_option linter.unusedSimpArgs false

/-- A segment: its length, its pieces and the segments behind it, with their places. -/
structure Sg where
  len : Int
  pp : Option Addr
  P : Spans
  pc : Nat
  np : Option Addr
  X : List Int
  nc : Nat
instance : Inhabited Sg := ⟨⟨0, none, [], 0, none, [], 0⟩⟩
def sg (s : Sg) : List Value := [.int .i64 s.len, .slice s.pp s.P.length s.pc, .slice s.np s.X.length s.nc]
structure Gp where
  id : Int
  seg : Int
  off : Int
  acc : Int
  slack : Int
instance : Inhabited Gp := ⟨⟨0, 0, 0, 0, 0⟩⟩
def gp (g : Gp) : List Value := [.int .i64 g.id, .int .i64 g.seg, .int .i64 g.off, .int .i64 g.acc, .int .i64 g.slack]
/-- Each segment reads as its pieces and what is behind it; none is too great. -/
structure OkSg (w : World) (s : Sg) : Prop where
  p : Reads w s.pp (flat enc2 s.P)
  x : Reads w s.np (flat enc1 s.X)
  fewP : s.P.length ≤ 140737488355328
  fewX : s.X.length ≤ 140737488355328
def OkS (w : World) (G : List Sg) : Prop := ∀ s ∈ G, OkSg w s
theorem sg_at {w : World} {G : List Sg} (h : OkS w G) {i : Nat} (hi : i < G.length) : OkSg w (G[i]!) := by
  rw [getElem!_pos G i hi]
  exact h _ (List.getElem_mem hi)
theorem oksg_below {w w' : World} {s : Sg} (h : OkSg w s) (hb : Below w.heap.size w w') : OkSg w' s := ⟨reads_below h.p hb, reads_below h.x hb, h.fewP, h.fewX⟩
theorem oks_below {w w' : World} {G : List Sg} (h : OkS w G) (hb : Below w.heap.size w w') : OkS w' G := fun s hs => oksg_below (h s hs) hb

/-! ### Which may be -/
structure SegMay (s : Sg) (many : Int) : Prop where
  low : 1 ≤ s.len
  high : s.len ≤ 1099511627776
  may : May s.P s.len
  two : s.X.length ≤ 2
  each : ∀ j, j < s.X.length → 0 ≤ s.X[j]! ∧ s.X[j]! < many
  up : 2 ≤ s.X.length → s.X[0]! < s.X[1]!
noncomputable def segB (s : Sg) (many : Int) : Bool := @decide (SegMay s many) (Classical.propDecidable _)
theorem segB_yes {s : Sg} {m : Int} (h : SegMay s m) : segB s m = true := by unfold segB; exact @decide_eq_true _ (Classical.propDecidable _) h
theorem segB_no {s : Sg} {m : Int} (h : ¬ SegMay s m) : segB s m = false := by unfold segB; exact @decide_eq_false _ (Classical.propDecidable _) h
theorem seg_of {s : Sg} {m : Int} (h : segB s m = true) : SegMay s m := by unfold segB at h; exact @of_decide_eq_true _ (Classical.propDecidable _) h
theorem not_seg {s : Sg} {m : Int} (h : segB s m = false) : ¬ SegMay s m := fun e => by rw [segB_yes e] at h; cases h
/-- The Id ahead of group i. -/
def lastId (H : List Gp) : Nat → Int
  | 0 => 0
  | k + 1 => (H[k]!).id
structure GrpMay (G : List Sg) (H : List Gp) (i : Nat) : Prop where
  up : lastId H i < (H[i]!).id
  high : (H[i]!).id ≤ 65535
  seg0 : 0 ≤ (H[i]!).seg
  segn : (H[i]!).seg < G.length
  off0 : 0 ≤ (H[i]!).off
  offn : (H[i]!).off ≤ (G[(H[i]!).seg.toNat]!).len
  acc0 : 0 ≤ (H[i]!).acc
  accn : (H[i]!).acc ≤ 1048576
  sl0 : 0 ≤ (H[i]!).slack
  sln : (H[i]!).slack ≤ 16777216
def Sizes (G : List Sg) (H : List Gp) : Prop := 1 ≤ G.length ∧ G.length ≤ 200 ∧ H.length ≤ 400
/-- The error, and its place. -/
def IsChk (G : List Sg) (H : List Gp) (r : Nat × Nat) : Prop :=
  (¬ Sizes G H ∧ r = (13, 0)) ∨
  (Sizes G H ∧ r.1 = 11 ∧ r.2 < G.length ∧ ¬ SegMay (G[r.2]!) G.length ∧ ∀ j, j < r.2 → SegMay (G[j]!) G.length) ∨
  (Sizes G H ∧ (∀ j, j < G.length → SegMay (G[j]!) G.length) ∧ r.1 = 16 ∧ r.2 < H.length ∧ ¬ GrpMay G H r.2 ∧ ∀ j, j < r.2 → GrpMay G H j) ∨
  (Sizes G H ∧ (∀ j, j < G.length → SegMay (G[j]!) G.length) ∧ (∀ j, j < H.length → GrpMay G H j) ∧ r = (0, 0))
theorem first_one {p : Nat → Prop} {a b : Nat} (ha : ¬ p a) (ha' : ∀ j, j < a → p j) (hb : ¬ p b) (hb' : ∀ j, j < b → p j) : a = b := by
  rcases Nat.lt_trichotomy a b with h | h | h
  · exact absurd (hb' a h) ha
  · exact h
  · exact absurd (ha' b h) hb
theorem chk_one {G : List Sg} {H : List Gp} {r q : Nat × Nat} (h : IsChk G H r) (k : IsChk G H q) : r = q := by
  obtain ⟨r1, r2⟩ := r
  obtain ⟨q1, q2⟩ := q
  rcases h with ⟨h0, h1⟩ | ⟨h0, h1, h2, h3, h4⟩ | ⟨h0, h1, h2, h3, h4, h5⟩ | ⟨h0, h1, h2, h3⟩ <;>
    rcases k with ⟨k0, k1⟩ | ⟨k0, k1, k2, k3, k4⟩ | ⟨k0, k1, k2, k3, k4, k5⟩ | ⟨k0, k1, k2, k3⟩
  · rw [h1, k1]
  · exact absurd k0 h0
  · exact absurd k0 h0
  · exact absurd k0 h0
  · exact absurd h0 k0
  · have : r2 = q2 := first_one (p := fun j => SegMay (G[j]!) G.length) h3 h4 k3 k4
    simp only at h1 k1
    rw [h1, k1, this]
  · exact absurd (k1 r2 h2) h3
  · exact absurd (k1 r2 h2) h3
  · exact absurd h0 k0
  · exact absurd (h1 q2 k2) k3
  · have : r2 = q2 := first_one (p := fun j => GrpMay G H j) h4 h5 k4 k5
    simp only at h2 k2
    rw [h2, k2, this]
  · exact absurd (k2 r2 h3) h4
  · exact absurd h0 k0
  · exact absurd (h1 q2 k2) k3
  · exact absurd (h2 q2 k3) k4
  · rw [h3, k3]
noncomputable def chk (G : List Sg) (H : List Gp) : Nat × Nat := @Classical.epsilon _ ⟨(0, 0)⟩ (IsChk G H)
theorem chk_eq {G : List Sg} {H : List Gp} {r : Nat × Nat} (h : IsChk G H r) : chk G H = r := by
  refine chk_one ?_ h
  unfold chk
  exact Classical.epsilon_spec (p := IsChk G H) ⟨r, h⟩
/-- The track may be. -/
structure TrackMay (G : List Sg) (H : List Gp) : Prop where
  sizes : Sizes G H
  segs : ∀ j, j < G.length → SegMay (G[j]!) G.length
  grps : ∀ j, j < H.length → GrpMay G H j
/-! ### The grades of all -/
/-! ### What comes behind -/
end Go.Proofs.Ytodenlojbbpfaaa.Tk
