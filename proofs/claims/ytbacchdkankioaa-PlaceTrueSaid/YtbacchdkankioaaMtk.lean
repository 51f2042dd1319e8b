/-
  Tracks, without a program: segments and groups in memory, which may be, the grades of all, what comes behind what. No condition.
  Tracks copied: one track that says the same as another one; an open number of rows that hold its pieces. No program.
  Tracks, further: the check tells just what may be; a track without its last groups; where a group's Id would stand. No program.
-/
import Derived.Test.YtbacchdkankioaaGr
import Derived.Test.YtbacchdkankioaaSh
namespace Go.Proofs.Ytbacchdkankioaa.Tk
open Go.ChangeShapes Go.WideShapes Go.ChangeAt Go.RowKit
open Arr Steady Sx Sw Sl Sb Sc Vs Gr
set_option linter.unusedVariables false
set_option linter.unusedSimpArgs false

/-- A segment: its length, its pieces and the segments behind it, with their places. -/
structure Sg where
  len : Int
  pp : Option Addr
  P : Spans
  pc : Nat
  np : Option Addr
  X : List Int
  nc : Nat
instance : Inhabited Sg := ⟨⟨0, none, [], 0, none, [], 0⟩⟩
def sg (s : Sg) : List Value := [.int .i64 s.len, .slice s.pp s.P.length s.pc, .slice s.np s.X.length s.nc]
structure Gp where
  id : Int
  seg : Int
  off : Int
  acc : Int
  slack : Int
instance : Inhabited Gp := ⟨⟨0, 0, 0, 0, 0⟩⟩
def gp (g : Gp) : List Value := [.int .i64 g.id, .int .i64 g.seg, .int .i64 g.off, .int .i64 g.acc, .int .i64 g.slack]
/-- Each segment reads as its pieces and what is behind it; none is too great. -/
structure OkSg (w : World) (s : Sg) : Prop where
  p : Reads w s.pp (flat enc2 s.P)
  x : Reads w s.np (flat enc1 s.X)
  fewP : s.P.length ≤ 140737488355328
  fewX : s.X.length ≤ 140737488355328
def OkS (w : World) (G : List Sg) : Prop := ∀ s ∈ G, OkSg w s
theorem sg_at {w : World} {G : List Sg} (h : OkS w G) {i : Nat} (hi : i < G.length) : OkSg w (G[i]!) := by
  rw [getElem!_pos G i hi]
  exact h _ (List.getElem_mem hi)
theorem oksg_below {w w' : World} {s : Sg} (h : OkSg w s) (hb : Below w.heap.size w w') : OkSg w' s := ⟨reads_below h.p hb, reads_below h.x hb, h.fewP, h.fewX⟩
theorem oks_below {w w' : World} {G : List Sg} (h : OkS w G) (hb : Below w.heap.size w w') : OkS w' G := fun s hs => oksg_below (h s hs) hb

/-! ### Which may be -/
structure SegMay (s : Sg) (many : Int) : Prop where
  low : 1 ≤ s.len
  high : s.len ≤ 1099511627776
  may : May s.P s.len
  two : s.X.length ≤ 2
  each : ∀ j, j < s.X.length → 0 ≤ s.X[j]! ∧ s.X[j]! < many
  up : 2 ≤ s.X.length → s.X[0]! < s.X[1]!
noncomputable def segB (s : Sg) (many : Int) : Bool := @decide (SegMay s many) (Classical.propDecidable _)
theorem segB_yes {s : Sg} {m : Int} (h : SegMay s m) : segB s m = true := by unfold segB; exact @decide_eq_true _ (Classical.propDecidable _) h
theorem segB_no {s : Sg} {m : Int} (h : ¬ SegMay s m) : segB s m = false := by unfold segB; exact @decide_eq_false _ (Classical.propDecidable _) h
theorem seg_of {s : Sg} {m : Int} (h : segB s m = true) : SegMay s m := by unfold segB at h; exact @of_decide_eq_true _ (Classical.propDecidable _) h
theorem not_seg {s : Sg} {m : Int} (h : segB s m = false) : ¬ SegMay s m := fun e => by rw [segB_yes e] at h; cases h
/-- The Id ahead of group i. -/
def lastId (H : List Gp) : Nat → Int
  | 0 => 0
  | k + 1 => (H[k]!).id
structure GrpMay (G : List Sg) (H : List Gp) (i : Nat) : Prop where
  up : lastId H i < (H[i]!).id
  high : (H[i]!).id ≤ 65535
  seg0 : 0 ≤ (H[i]!).seg
  segn : (H[i]!).seg < G.length
  off0 : 0 ≤ (H[i]!).off
  offn : (H[i]!).off ≤ (G[(H[i]!).seg.toNat]!).len
  acc0 : 0 ≤ (H[i]!).acc
  accn : (H[i]!).acc ≤ 1048576
  sl0 : 0 ≤ (H[i]!).slack
  sln : (H[i]!).slack ≤ 16777216
def Sizes (G : List Sg) (H : List Gp) : Prop := 1 ≤ G.length ∧ G.length ≤ 200 ∧ H.length ≤ 400
/-- The error, and its place. -/
def IsChk (G : List Sg) (H : List Gp) (r : Nat × Nat) : Prop :=
  (¬ Sizes G H ∧ r = (13, 0)) ∨
  (Sizes G H ∧ r.1 = 11 ∧ r.2 < G.length ∧ ¬ SegMay (G[r.2]!) G.length ∧ ∀ j, j < r.2 → SegMay (G[j]!) G.length) ∨
  (Sizes G H ∧ (∀ j, j < G.length → SegMay (G[j]!) G.length) ∧ r.1 = 16 ∧ r.2 < H.length ∧ ¬ GrpMay G H r.2 ∧ ∀ j, j < r.2 → GrpMay G H j) ∨
  (Sizes G H ∧ (∀ j, j < G.length → SegMay (G[j]!) G.length) ∧ (∀ j, j < H.length → GrpMay G H j) ∧ r = (0, 0))
theorem first_one {p : Nat → Prop} {a b : Nat} (ha : ¬ p a) (ha' : ∀ j, j < a → p j) (hb : ¬ p b) (hb' : ∀ j, j < b → p j) : a = b := by
  rcases Nat.lt_trichotomy a b with h | h | h
  · exact absurd (hb' a h) ha
  · exact h
  · exact absurd (ha' b h) hb
theorem chk_one {G : List Sg} {H : List Gp} {r q : Nat × Nat} (h : IsChk G H r) (k : IsChk G H q) : r = q := by
  obtain ⟨r1, r2⟩ := r
  obtain ⟨q1, q2⟩ := q
  rcases h with ⟨h0, h1⟩ | ⟨h0, h1, h2, h3, h4⟩ | ⟨h0, h1, h2, h3, h4, h5⟩ | ⟨h0, h1, h2, h3⟩ <;>
    rcases k with ⟨k0, k1⟩ | ⟨k0, k1, k2, k3, k4⟩ | ⟨k0, k1, k2, k3, k4, k5⟩ | ⟨k0, k1, k2, k3⟩
  · rw [h1, k1]
  · exact absurd k0 h0
  · exact absurd k0 h0
  · exact absurd k0 h0
  · exact absurd h0 k0
  · have : r2 = q2 := first_one (p := fun j => SegMay (G[j]!) G.length) h3 h4 k3 k4
    simp only at h1 k1
    rw [h1, k1, this]
  · exact absurd (k1 r2 h2) h3
  · exact absurd (k1 r2 h2) h3
  · exact absurd h0 k0
  · exact absurd (h1 q2 k2) k3
  · have : r2 = q2 := first_one (p := fun j => GrpMay G H j) h4 h5 k4 k5
    simp only at h2 k2
    rw [h2, k2, this]
  · exact absurd (k2 r2 h3) h4
  · exact absurd h0 k0
  · exact absurd (h1 q2 k2) k3
  · exact absurd (h2 q2 k3) k4
  · rw [h3, k3]
noncomputable def chk (G : List Sg) (H : List Gp) : Nat × Nat := @Classical.epsilon _ ⟨(0, 0)⟩ (IsChk G H)
theorem chk_eq {G : List Sg} {H : List Gp} {r : Nat × Nat} (h : IsChk G H r) : chk G H = r := by
  refine chk_one ?_ h
  unfold chk
  exact Classical.epsilon_spec (p := IsChk G H) ⟨r, h⟩
/-- The track may be. -/
structure TrackMay (G : List Sg) (H : List Gp) : Prop where
  sizes : Sizes G H
  segs : ∀ j, j < G.length → SegMay (G[j]!) G.length
  grps : ∀ j, j < H.length → GrpMay G H j
theorem chk_may {G : List Sg} {H : List Gp} (h : TrackMay G H) : chk G H = (0, 0) := chk_eq (.inr (.inr (.inr ⟨h.sizes, h.segs, h.grps, rfl⟩)))

/-! ### The grades of all -/
/-! ### What comes behind -/
end Go.Proofs.Ytbacchdkankioaa.Tk
namespace Go.Proofs.Ytbacchdkankioaa.Tkh
open Go.ChangeShapes Go.WideShapes Go.ChangeAt Go.RowKit
open Arr Steady Sx Sw Sl Sb Sc Sh Vs Gr Tk
set_option linter.unusedVariables false
set_option linter.unusedSimpArgs false

/-- A segment's copy: its pieces are in rows of their own. -/
structure Copy (N : List Rw) (s z : Sg) : Prop where
  len : z.len = s.len
  P : z.P = s.P
  X : z.X = s.X
  np : z.np = s.np
  held : Held N z.pp (flat enc2 z.P)
theorem Copy.mono {N R : List Rw} {s z : Sg} (h : Copy N s z) (hs : N.Sublist R) : Copy R s z := ⟨h.len, h.P, h.X, h.np, h.held.mono hs⟩
theorem snoc_lt {K : List Sg} {z : Sg} {j : Nat} (h : j < K.length) : (K ++ [z])[j]! = K[j]! := by
  have h1 : j < (K ++ [z]).length := by rw [List.length_append]; omega
  rw [getElem!_pos (K ++ [z]) j h1, getElem!_pos K j h, List.getElem_append_left h]
theorem snoc_last {K : List Sg} {z : Sg} {j : Nat} (h : K.length = j) : (K ++ [z])[j]! = z := by
  have h1 : j < (K ++ [z]).length := by rw [List.length_append]; simp; omega
  rw [getElem!_pos (K ++ [z]) j h1, List.getElem_append_right (by omega)]
  simp [h]
theorem copy_snoc {M : List Rw} {G K : List Sg} {i : Nat} {u : Own} {e : TypeId} (hl : K.length = i) (h : ∀ j, j < i → Copy M (G[j]!) (K[j]!)) (c : Nat) (hu : u.Has 2 (G[i]!).P.length (flat enc2 (G[i]!).P)) :
    ∀ j, j < i + 1 → Copy (u.rows e ++ M) (G[j]!) ((K ++ [⟨(G[i]!).len, u.ptr, (G[i]!).P, u.cap, (G[i]!).np, (G[i]!).X, c⟩])[j]!) := by
  intro j hj
  rcases Nat.lt_or_eq_of_le (Nat.le_of_lt_succ hj) with h1 | h1
  · rw [snoc_lt (by omega)]
    exact (h j h1).mono (List.sublist_append_right _ _)
  · subst h1
    rw [snoc_last hl]
    exact ⟨rfl, rfl, rfl, rfl, (held_own hu).mono (List.sublist_append_left _ _)⟩
theorem oks_copy {w0 W : World} {N : List Rw} {G K : List Sg} (hG : OkS w0 G) (hl : K.length = G.length) (hc : ∀ j, j < G.length → Copy N (G[j]!) (K[j]!)) (hE : Env w0 W N) : OkS W K := by
  intro s hs
  obtain ⟨j, hj, rfl⟩ := List.mem_iff_getElem.1 hs
  have c := hc j (by omega)
  have o := sg_at hG (show j < G.length by omega)
  rw [getElem!_pos K j hj] at c
  exact ⟨c.held _ _ hE, by rw [c.np, c.X]; exact reads_below o.x hE.below, by rw [c.P]; exact o.fewP, by rw [c.X]; exact o.fewX⟩

/-! ### Tracks that say the same -/
def sgEq (s z : Sg) : Prop := z.len = s.len ∧ z.P = s.P ∧ z.X = s.X
structure Same (G K : List Sg) : Prop where
  length : K.length = G.length
  each : ∀ j, j < G.length → sgEq (G[j]!) (K[j]!)
theorem same_copy {N : List Rw} {G K : List Sg} (hl : K.length = G.length) (hc : ∀ j, j < G.length → Copy N (G[j]!) (K[j]!)) : Same G K := ⟨hl, fun j hj => ⟨(hc j hj).len, (hc j hj).P, (hc j hj).X⟩⟩
theorem Same.symm {G K : List Sg} (h : Same G K) : Same K G := ⟨h.length.symm, fun j hj => by
  have k := h.each j (by rw [← h.length]; exact hj)
  exact ⟨k.1.symm, k.2.1.symm, k.2.2.symm⟩⟩
theorem segMay_eq {s z : Sg} {m : Int} (h : sgEq s z) (k : SegMay s m) : SegMay z m := by
  obtain ⟨l, a, P, b, c, X, d⟩ := s
  obtain ⟨l', a', P', b', c', X', d'⟩ := z
  obtain ⟨h1, h2, h3⟩ := h
  dsimp only at h1 h2 h3
  subst h1; subst h2; subst h3
  exact ⟨k.low, k.high, k.may, k.two, k.each, k.up⟩
theorem seg_same {G K : List Sg} (h : Same G K) {j : Nat} (hj : j < G.length) (k : SegMay (G[j]!) G.length) : SegMay (K[j]!) K.length := by
  rw [h.length]
  exact segMay_eq (h.each j hj) k
theorem grp_same {G K : List Sg} {H : List Gp} (h : Same G K) {i : Nat} (k : GrpMay G H i) : GrpMay K H i := by
  have k1 := k.seg0
  have k2 := k.segn
  have k3 := (h.each (H[i]!).seg.toNat (by omega)).1
  exact ⟨k.up, k.high, k.seg0, by rw [h.length]; exact k.segn, k.off0, by rw [k3]; exact k.offn, k.acc0, k.accn, k.sl0, k.sln⟩
theorem sizes_same {G K : List Sg} {H : List Gp} (h : Same G K) (k : Sizes G H) : Sizes K H := by unfold Sizes at *; rw [h.length]; exact k
theorem isChk_same {G K : List Sg} {H : List Gp} {r : Nat × Nat} (h : Same G K) (k : IsChk G H r) : IsChk K H r := by
  have hl := h.length
  have hs := h.symm
  rcases k with ⟨a, b⟩ | ⟨a, b, c, d, e⟩ | ⟨a, b, c, d, e, f⟩ | ⟨a, b, c, d⟩
  · exact .inl ⟨fun z => a (sizes_same hs z), b⟩
  · exact .inr (.inl ⟨sizes_same h a, b, by omega, fun z => d (seg_same hs (by omega) z), fun j hj => seg_same h (by omega) (e j hj)⟩)
  · exact .inr (.inr (.inl ⟨sizes_same h a, fun j hj => seg_same h (by omega) (b j (by omega)), c, d, fun z => e (grp_same hs z), fun j hj => grp_same h (f j hj)⟩))
  · exact .inr (.inr (.inr ⟨sizes_same h a, fun j hj => seg_same h (by omega) (b j (by omega)), fun j hj => grp_same h (c j hj), d⟩))
theorem chk_same {G K : List Sg} {H : List Gp} (h : Same G K) : chk K H = chk G H := by
  unfold chk
  rw [show IsChk K H = IsChk G H from funext fun r => propext ⟨isChk_same h.symm, isChk_same h⟩]
/-! ### Too great to be asked -/
end Go.Proofs.Ytbacchdkankioaa.Tkh
namespace Go.Proofs.Ytbacchdkankioaa.Tkl
open Go.ChangeShapes Go.WideShapes Go.ChangeAt Go.RowKit
open Arr Steady Sx Sw Sl Sb Sc Sh Vs Gr Tk Tkh
set_option linter.unusedVariables false
set_option linter.unusedSimpArgs false

theorem first_bad (p : Nat → Prop) : ∀ n, (∀ j, j < n → p j) ∨ ∃ j, j < n ∧ ¬ p j ∧ ∀ i, i < j → p i := by
  intro n
  induction n with
  | zero => exact .inl (fun j hj => by omega)
  | succ n ih =>
    rcases ih with h | ⟨j, h1, h2, h3⟩
    · by_cases hn : p n
      · refine .inl (fun j hj => ?_)
        rcases Nat.lt_or_eq_of_le (Nat.le_of_lt_succ hj) with h1 | h1
        · exact h j h1
        · exact h1 ▸ hn
      · exact .inr ⟨n, by omega, hn, h⟩
    · exact .inr ⟨j, by omega, h2, h3⟩
theorem chk_is (G : List Sg) (H : List Gp) : IsChk G H (chk G H) := by
  have key : ∃ r, IsChk G H r := by
    by_cases hs : Sizes G H
    · rcases first_bad (fun j => SegMay (G[j]!) G.length) G.length with h | ⟨j, h1, h2, h3⟩
      · rcases first_bad (fun j => GrpMay G H j) H.length with k | ⟨j, k1, k2, k3⟩
        · exact ⟨(0, 0), .inr (.inr (.inr ⟨hs, h, k, rfl⟩))⟩
        · exact ⟨(16, j), .inr (.inr (.inl ⟨hs, h, rfl, k1, k2, k3⟩))⟩
      · exact ⟨(11, j), .inr (.inl ⟨hs, rfl, h1, h2, h3⟩)⟩
    · exact ⟨(13, 0), .inl ⟨hs, rfl⟩⟩
  obtain ⟨r, h⟩ := key
  rw [chk_eq h]
  exact h
theorem may_of_chk {G : List Sg} {H : List Gp} (h : (chk G H).1 = 0) : TrackMay G H := by
  rcases chk_is G H with ⟨_, e⟩ | ⟨_, e, _⟩ | ⟨_, _, e, _⟩ | ⟨h1, h2, h3, _⟩
  · rw [e] at h; cases h
  · rw [e] at h; cases h
  · rw [e] at h; cases h
  · exact ⟨h1, h2, h3⟩
/-! ### Where an Id stands -/
end Go.Proofs.Ytbacchdkankioaa.Tkl
