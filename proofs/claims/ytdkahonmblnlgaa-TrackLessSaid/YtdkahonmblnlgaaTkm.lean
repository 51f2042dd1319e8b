/-
  Package track, without a program: what may follow a segment, what a group may be, the first place of a number in a list, the hull of grades, a search by Ids. No condition.
-/
import Derived.Test.YtdkahonmblnlgaaTkl
import Derived.Test.YtdkahonmblnlgaaGrm
import Derived.Test.YtdkahonmblnlgaaSpn
namespace Go.Proofs.Ytdkahonmblnlgaa.Tkm
open Go.ChangeShapes Go.WideShapes Go.ChangeAt Go.RowKit
open Arr Steady Sx Sw Sl Sb Sc Vs Gr Grm Spn Tk Tkl
set_option linter.unusedVariables false
set_option linter.unusedSimpArgs false

/-! ### From 0 to the most -/
def inB (x m : Int) : Bool := decide (0 ≤ x ∧ x ≤ m)
theorem in_of {x m : Int} (h : inB x m = true) : 0 ≤ x ∧ x ≤ m := of_decide_eq_true h
theorem not_in {x m : Int} (h : inB x m = false) : ¬ (0 ≤ x ∧ x ≤ m) := of_decide_eq_false h
theorem in_yes {x m : Int} (h : 0 ≤ x ∧ x ≤ m) : inB x m = true := decide_eq_true h
theorem in_no {x m : Int} (h : ¬ (0 ≤ x ∧ x ≤ m)) : inB x m = false := decide_eq_false h
theorem in_low {x m : Int} (h : 0 ≤ x) : inB x m = decide (x ≤ m) := by
  by_cases k : x ≤ m
  · rw [in_yes ⟨h, k⟩, decide_eq_true k]
  · rw [in_no (fun e => k e.2), decide_eq_false k]
/-! ### What may follow -/
structure NextMay (X : List Int) (m : Int) : Prop where
  two : X.length ≤ 2
  each : ∀ j, j < X.length → 0 ≤ X[j]! ∧ X[j]! < m
  up : 2 ≤ X.length → X[0]! < X[1]!
noncomputable def nextB (X : List Int) (m : Int) : Bool := @decide (NextMay X m) (Classical.propDecidable _)
theorem next_yes {X : List Int} {m : Int} (h : NextMay X m) : nextB X m = true := by unfold nextB; exact @decide_eq_true _ (Classical.propDecidable _) h
theorem next_no {X : List Int} {m : Int} (h : ¬ NextMay X m) : nextB X m = false := by unfold nextB; exact @decide_eq_false _ (Classical.propDecidable _) h
theorem next_of {X : List Int} {m : Int} (h : nextB X m = true) : NextMay X m := by unfold nextB at h; exact @of_decide_eq_true _ (Classical.propDecidable _) h
theorem not_next {X : List Int} {m : Int} (h : nextB X m = false) : ¬ NextMay X m := fun e => by rw [next_yes e] at h; cases h
/-- The first i of them are right, and z is the last of these (or -1). -/
def NextInv (X : List Int) (m : Int) (i : Nat) (z : Int) : Prop := (∀ j, j < i → 0 ≤ X[j]! ∧ X[j]! < m) ∧ ((i = 0 ∧ z = -1) ∨ (i = 1 ∧ z = X[0]!) ∨ (i = 2 ∧ X[0]! < X[1]!))
theorem next_start (X : List Int) (m : Int) : NextInv X m 0 (-1) := ⟨fun j hj => absurd hj (Nat.not_lt_zero j), .inl ⟨rfl, rfl⟩⟩
theorem next_step {X : List Int} {m : Int} {i : Nat} {z : Int} (h : NextInv X m i z) (h2 : X.length ≤ 2) (hi : i < X.length) (hz : z < X[i]!) (hm : X[i]! < m) : NextInv X m (i + 1) (X[i]!) := by
  obtain ⟨h0, h1⟩ := h
  rcases h1 with ⟨e, k⟩ | ⟨e, k⟩ | ⟨e, k⟩
  · subst e
    refine ⟨fun j hj => ?_, .inr (.inl ⟨rfl, rfl⟩)⟩
    have : j = 0 := by omega
    subst this
    exact ⟨by omega, hm⟩
  · subst e
    have k0 := h0 0 (by omega)
    refine ⟨fun j hj => ?_, .inr (.inr ⟨rfl, by omega⟩)⟩
    rcases Nat.lt_or_eq_of_le (Nat.le_of_lt_succ hj) with h | h
    · exact h0 j h
    · subst h
      exact ⟨by omega, hm⟩
  · omega
theorem next_bad {X : List Int} {m : Int} {i : Nat} {z : Int} (h : NextInv X m i z) (hi : i < X.length) (hb : X[i]! ≤ z ∨ m ≤ X[i]!) : ¬ NextMay X m := fun k => by
  have k0 := k.each i hi
  have k2 := k.two
  rcases h.2 with ⟨e, g⟩ | ⟨e, g⟩ | ⟨e, g⟩
  · omega
  · subst e
    have k3 := k.up (by omega)
    omega
  · omega
theorem next_end {X : List Int} {m : Int} {z : Int} (h2 : X.length ≤ 2) (h : NextInv X m X.length z) : NextMay X m := by
  refine ⟨h2, h.1, fun h3 => ?_⟩
  rcases h.2 with ⟨e, g⟩ | ⟨e, g⟩ | ⟨e, g⟩
  · omega
  · omega
  · exact g
/-! ### A segment, a group -/
noncomputable def ckI (L : Spans) (n : Int) : Int := if mayB L n = true then 0 else 11
theorem ck_of {L : Spans} {n : Int} (h : ckI L n = 0) : May L n := by
  unfold ckI at h
  by_cases k : mayB L n = true
  · exact may_of k
  · rw [if_neg k] at h; omega
theorem ck_not {L : Spans} {n : Int} (h : ¬ ckI L n = 0) : ¬ May L n := fun k => h (by unfold ckI; rw [if_pos (mayB_yes k)])
theorem seg_all {s : Sg} {m : Int} (h1 : 1 ≤ s.len) (h2 : s.len ≤ 1099511627776) (h3 : ckI s.P s.len = 0) (h4 : NextMay s.X m) : SegMay s m := ⟨h1, h2, ck_of h3, h4.two, h4.each, h4.up⟩
theorem seg_next {s : Sg} {m : Int} (h : SegMay s m) : NextMay s.X m := ⟨h.two, h.each, h.up⟩
/-- What a group must be, but for the Ids before it. -/
structure GrpIn (G : List Sg) (g : Gp) : Prop where
  high : g.id ≤ 65535
  seg0 : 0 ≤ g.seg
  segn : g.seg < G.length
  off : 0 ≤ g.off ∧ g.off ≤ (G[g.seg.toNat]!).len
  acc : 0 ≤ g.acc ∧ g.acc ≤ 1048576
  sl : 0 ≤ g.slack ∧ g.slack ≤ 16777216
noncomputable def grpB (G : List Sg) (g : Gp) : Bool := @decide (GrpIn G g) (Classical.propDecidable _)
theorem grp_yes {G : List Sg} {g : Gp} (h : GrpIn G g) : grpB G g = true := by unfold grpB; exact @decide_eq_true _ (Classical.propDecidable _) h
theorem grp_no {G : List Sg} {g : Gp} (h : ¬ GrpIn G g) : grpB G g = false := by unfold grpB; exact @decide_eq_false _ (Classical.propDecidable _) h
theorem grp_of {G : List Sg} {g : Gp} (h : grpB G g = true) : GrpIn G g := by unfold grpB at h; exact @of_decide_eq_true _ (Classical.propDecidable _) h
theorem not_grp {G : List Sg} {g : Gp} (h : grpB G g = false) : ¬ GrpIn G g := fun e => by rw [grp_yes e] at h; cases h
theorem grp_may {G : List Sg} {H : List Gp} {i : Nat} (h : lastId H i < (H[i]!).id) (k : GrpIn G (H[i]!)) : GrpMay G H i := ⟨h, k.high, k.seg0, k.segn, k.off.1, k.off.2, k.acc.1, k.acc.2, k.sl.1, k.sl.2⟩
theorem grp_in {G : List Sg} {H : List Gp} {i : Nat} (k : GrpMay G H i) : GrpIn G (H[i]!) := ⟨k.high, k.seg0, k.segn, ⟨k.off0, k.offn⟩, ⟨k.acc0, k.accn⟩, ⟨k.sl0, k.sln⟩⟩
/-! ### The first place of a number -/
def ixL (X : List Int) (b : Int) : Int := if X.findIdx (· == b) < X.length then ((X.findIdx (· == b) : Nat) : Int) else -1
theorem ix_at {X : List Int} {b : Int} {i : Nat} (hi : i < X.length) (h : X[i]! = b) (hb : ∀ j, j < i → X[j]! ≠ b) : ixL X b = (i : Int) := by
  have e : X.findIdx (· == b) = i := (List.findIdx_eq hi).2 ⟨by rw [← getElem!_pos X i hi, h]; exact beq_self_eq_true b, fun j hj => by
    rw [← getElem!_pos X j (by omega)]
    exact beq_eq_false_iff_ne.2 (hb j hj)⟩
  unfold ixL
  rw [e, if_pos hi]
theorem ix_none {X : List Int} {b : Int} (hb : ∀ j, j < X.length → X[j]! ≠ b) : ixL X b = -1 := by
  unfold ixL
  rw [if_neg]
  intro h
  have h1 := List.findIdx_getElem (p := (· == b)) (w := h)
  rw [← getElem!_pos X _ h] at h1
  exact hb _ h (eq_of_beq h1)
theorem ix_has {X : List Int} {b : Int} (h : 0 ≤ ixL X b) : ∃ j, j < X.length ∧ X[j]! = b := by
  rcases first_bad (fun j => X[j]! ≠ b) X.length with k | ⟨j, k1, k2, k3⟩
  · rw [ix_none k] at h; omega
  · exact ⟨j, k1, Classical.not_not.1 k2⟩
theorem ix_not {X : List Int} {b : Int} (h : ¬ 0 ≤ ixL X b) : ¬ ∃ j, j < X.length ∧ X[j]! = b := fun ⟨j, k1, k2⟩ => by
  rcases first_bad (fun j => X[j]! ≠ b) X.length with k | ⟨i, h1, h2, h3⟩
  · exact k j k1 k2
  · rw [ix_at h1 (Classical.not_not.1 h2) h3] at h; omega
noncomputable def hasN (X : List Int) (b : Int) : Bool := @decide (∃ j, j < X.length ∧ X[j]! = b) (Classical.propDecidable _)
theorem hasn_ix (X : List Int) (b : Int) : decide (0 ≤ ixL X b) = hasN X b := by
  unfold hasN
  by_cases h : 0 ≤ ixL X b
  · rw [decide_eq_true h]; exact (@decide_eq_true _ (Classical.propDecidable _) (ix_has h)).symm
  · rw [decide_eq_false h]; exact (@decide_eq_false _ (Classical.propDecidable _) (ix_not h)).symm
theorem fol_has {G : List Sg} {a b : Int} (h0 : 0 ≤ a) (h1 : a < G.length) : hasN (G[a.toNat]!).X b = folB G a b := by
  unfold hasN
  by_cases h : ∃ j, j < (G[a.toNat]!).X.length ∧ (G[a.toNat]!).X[j]! = b
  · rw [folB_yes ⟨h0, h1, h⟩]; exact @decide_eq_true _ (Classical.propDecidable _) h
  · rw [folB_no (fun k => h k.2.2)]; exact @decide_eq_false _ (Classical.propDecidable _) h
/-! ### The hull of grades -/
def hg (r : Int × Int) (g : Int) : Int × Int := hullF r.1 r.2 g g
def hgL (Q : Spans) : Int × Int := Q.foldl (fun r s => hg r s.2) (1, 0)
theorem hg_step {Q P : Spans} {j : Nat} {x y : Int} (h : (x, y) = hgL (Q ++ P.take j)) (hj : j < P.length) : ((hullF x y (P[j]!).2 (P[j]!).2).1, (hullF x y (P[j]!).2 (P[j]!).2).2) = hgL (Q ++ P.take (j + 1)) := by
  rw [take_snoc P j hj, ← List.append_assoc]
  unfold hgL at h ⊢
  rw [List.foldl_append, ← h]
  rfl
theorem hg_all {G : List Sg} {i j : Nat} {x y : Int} (h : (x, y) = hgL (allP G i ++ (G[i]!).P.take j)) (hj : (G[i]!).P.length ≤ j) : (x, y) = hgL (allP G (i + 1)) := by
  rw [List.take_of_length_le hj] at h
  exact h
theorem hg_mm {r : Int × Int} (h : r.1 ≤ r.2) (g : Int) : hg r g = mm r g ∧ (mm r g).1 ≤ (mm r g).2 := by
  unfold hg hullF mm
  rw [if_pos h, if_pos (Int.le_refl g)]
  constructor
  · refine Prod.ext ?_ ?_
    · show min r.1 g = if g < r.1 then g else r.1
      split <;> omega
    · show max r.2 g = if r.2 < g then g else r.2
      split <;> omega
  · show (if g < r.1 then g else r.1) ≤ (if r.2 < g then g else r.2)
    split <;> split <;> omega
theorem hg_fold (Q : Spans) : ∀ r : Int × Int, r.1 ≤ r.2 → Q.foldl (fun r s => hg r s.2) r = mmL r Q ∧ (mmL r Q).1 ≤ (mmL r Q).2 := by
  induction Q with
  | nil => exact fun r h => ⟨rfl, h⟩
  | cons s Q ih =>
    intro r h
    obtain ⟨e, k⟩ := hg_mm h s.2
    have h2 := ih (mm r s.2) k
    unfold mmL at h2 ⊢
    rw [List.foldl_cons, List.foldl_cons, e]
    exact h2
theorem hg_some {Q : Spans} (h : Q ≠ []) : hgL Q = mmL ((Q[0]!).2, (Q[0]!).2) Q ∧ (hgL Q).1 ≤ (hgL Q).2 := by
  cases Q with
  | nil => exact absurd rfl h
  | cons s Q =>
    show hgL (s :: Q) = mmL (s.2, s.2) (s :: Q) ∧ _
    have e1 : hg (1, 0) s.2 = (s.2, s.2) := by
      unfold hg hullF
      rw [if_neg (by decide)]
    have e2 : mm (s.2, s.2) s.2 = (s.2, s.2) := by
      unfold mm
      rw [if_neg (Int.lt_irrefl _)]
    have h2 := hg_fold Q (s.2, s.2) (Int.le_refl _)
    unfold hgL mmL at *
    rw [List.foldl_cons, List.foldl_cons, e1, e2]
    exact ⟨h2.1, by rw [h2.1]; exact h2.2⟩
theorem allP_first {G : List Sg} (h0 : 1 ≤ (G[0]!).P.length) : ∀ n, 1 ≤ n → allP G n ≠ [] ∧ (allP G n)[0]! = (G[0]!).P[0]!
  | 0, h => absurd h (by omega)
  | 1, _ => by
    have e : allP G 1 = (G[0]!).P := rfl
    rw [e]
    exact ⟨fun k => by rw [k] at h0; simp at h0, rfl⟩
  | n + 2, _ => by
    obtain ⟨h1, h2⟩ := allP_first h0 (n + 1) (by omega)
    have e : allP G (n + 2) = allP G (n + 1) ++ (G[n + 1]!).P := rfl
    rw [e]
    refine ⟨fun k => h1 (List.append_eq_nil_iff.1 k).1, ?_⟩
    have hl : 0 < (allP G (n + 1)).length := List.length_pos_iff.2 h1
    rw [getElem!_pos _ 0 (by rw [List.length_append]; omega), List.getElem_append_left hl, ← getElem!_pos _ 0 hl, h2]
theorem hg_grd {G : List Sg} (h1 : 1 ≤ G.length) (h0 : 1 ≤ (G[0]!).P.length) : hgL (allP G G.length) = grd G ∧ (hgL (allP G G.length)).1 ≤ (hgL (allP G G.length)).2 := by
  obtain ⟨k1, k2⟩ := allP_first h0 G.length h1
  have h := hg_some k1
  unfold grd
  rw [k2] at h
  exact h
/-! ### A search by Ids -/
theorem ids_up {G : List Sg} {H : List Gp} (h : TrackMay G H) : ∀ {b : Nat}, b < H.length → ∀ {a : Nat}, a ≤ b → (H[a]!).id ≤ (H[b]!).id := by
  intro b
  induction b with
  | zero => intro _ a ha; have : a = 0 := by omega
            subst this; exact Int.le_refl _
  | succ b ih =>
    intro hb a ha
    rcases Nat.lt_or_eq_of_le ha with k | k
    · have h1 := ih (by omega) (Nat.le_of_lt_succ k)
      have h2 := (h.grps (b + 1) hb).up
      have h3 : lastId H (b + 1) = (H[b]!).id := rfl
      omega
    · subst k; exact Int.le_refl _
theorem ids_strict {G : List Sg} {H : List Gp} (h : TrackMay G H) {a b : Nat} (hb : b < H.length) (ha : a < b) : (H[a]!).id < (H[b]!).id := by
  cases b with
  | zero => omega
  | succ b =>
    have h1 := ids_up h (b := b) (by omega) (Nat.le_of_lt_succ ha)
    have h2 := (h.grps (b + 1) hb).up
    have h3 : lastId H (b + 1) = (H[b]!).id := rfl
    omega
def geI (H : List Gp) (x : Int) (t : Nat) : Bool := decide (x ≤ (H[t]!).id)
theorem ge_up {G : List Sg} {H : List Gp} (h : TrackMay G H) (x : Int) : ∀ a b, a ≤ b → b < H.length → geI H x a = true → geI H x b = true := fun a b h1 h2 h3 => by
  have k := of_decide_eq_true h3
  have k2 := ids_up h h2 h1
  exact decide_eq_true (by omega)
theorem cnt_at (H : List Gp) (x : Int) (u : Nat) (h1 : ∀ t, t < u → (H[t]!).id < x) : ∀ n, (∀ t, u ≤ t → t < n → ¬ (H[t]!).id < x) → cntId H x n = min u n := by
  intro n
  induction n with
  | zero => intro _; unfold cntId; omega
  | succ n ih =>
    intro h2
    have e := ih (fun t h3 h4 => h2 t h3 (by omega))
    unfold cntId
    by_cases k : n < u
    · rw [if_pos (h1 n k), e]; omega
    · rw [if_neg (h2 n (by omega) (by omega)), e]; omega
theorem ups_cnt {G : List Sg} {H : List Gp} (h : TrackMay G H) (x : Int) : ups (geI H x) H.length = cntId H x H.length := by
  have h0 := ups_le (geI H x) H.length
  rw [cnt_at H x (ups (geI H x) H.length) (fun t ht => by
    have := of_decide_eq_false (ups_below (ge_up h x) ht)
    omega) H.length (fun t h1 h2 => by
    have := of_decide_eq_true (ups_above (p := geI H x) H.length t h1 h2)
    omega)]
  omega
theorem has_iff (H : List Gp) (x : Int) : ∀ n, hasId H x n = true ↔ ∃ t, t < n ∧ (H[t]!).id = x
  | 0 => ⟨fun h => (by cases h), fun ⟨t, h, _⟩ => absurd h (Nat.not_lt_zero t)⟩
  | n + 1 => by
    unfold hasId
    rw [Bool.or_eq_true, has_iff H x n, beq_iff_eq]
    constructor
    · rintro (⟨t, h1, h2⟩ | h)
      · exact ⟨t, by omega, h2⟩
      · exact ⟨n, by omega, h⟩
    · rintro ⟨t, h1, h2⟩
      rcases Nat.lt_or_eq_of_le (Nat.le_of_lt_succ h1) with h | h
      · exact .inl ⟨t, h, h2⟩
      · exact .inr (h ▸ h2)
theorem has_at {G : List Sg} {H : List Gp} (h : TrackMay G H) {x : Int} {u : Nat} (hu : u = ups (geI H x) H.length) (hl : u < H.length) (e : (H[u]!).id = x) : hasId H x H.length = true := (has_iff H x _).2 ⟨u, hl, e⟩
theorem has_not {G : List Sg} {H : List Gp} (h : TrackMay G H) {x : Int} {u : Nat} (hu : u = ups (geI H x) H.length) (e : ¬ (u < H.length ∧ (H[u]!).id = x)) : hasId H x H.length = false := by
  cases k : hasId H x H.length with
  | false => rfl
  | true =>
    obtain ⟨t, h1, h2⟩ := (has_iff H x _).1 k
    exfalso
    rcases Nat.lt_trichotomy t u with h3 | h3 | h3
    · have h4 := of_decide_eq_false (ups_below (ge_up h x) (hu ▸ h3))
      omega
    · exact e ⟨h3 ▸ h1, h3 ▸ h2⟩
    · have h4 := ids_strict h h1 h3
      have h5 := of_decide_eq_true (ups_above (p := geI H x) H.length u (by omega) (by omega))
      omega
end Go.Proofs.Ytdkahonmblnlgaa.Tkm
