/-
  Tracks copied: one track that says the same as another one; an open number of rows that hold its pieces. No program.
-/
import Derived.Test.YtodenlojbbpfaaaTk
import Derived.Test.YtodenlojbbpfaaaSh
namespace Go.Proofs.Ytodenlojbbpfaaa.Tkh
open Go.ChangeShapes Go.WideShapes Go.ChangeAt Go.RowKit
open Arr Steady Sx Sw Sl Sb Sc Sh Vs Gr Tk
set_option linter.unusedVariables false
set_option linter.unusedSimpArgs false

/-- A segment's copy: its pieces are in rows of their own. -/
structure Copy (N : List Rw) (s z : Sg) : Prop where
  len : z.len = s.len
  P : z.P = s.P
  X : z.X = s.X
  np : z.np = s.np
  held : Held N z.pp (flat enc2 z.P)
theorem Copy.mono {N R : List Rw} {s z : Sg} (h : Copy N s z) (hs : N.Sublist R) : Copy R s z := ⟨h.len, h.P, h.X, h.np, h.held.mono hs⟩
theorem snoc_lt {K : List Sg} {z : Sg} {j : Nat} (h : j < K.length) : (K ++ [z])[j]! = K[j]! := by
  have h1 : j < (K ++ [z]).length := by rw [List.length_append]; omega
  rw [getElem!_pos (K ++ [z]) j h1, getElem!_pos K j h, List.getElem_append_left h]
theorem snoc_last {K : List Sg} {z : Sg} {j : Nat} (h : K.length = j) : (K ++ [z])[j]! = z := by
  have h1 : j < (K ++ [z]).length := by rw [List.length_append]; simp; omega
  rw [getElem!_pos (K ++ [z]) j h1, List.getElem_append_right (by omega)]
  simp [h]
theorem copy_snoc {M : List Rw} {G K : List Sg} {i : Nat} {u : Own} {e : TypeId} (hl : K.length = i) (h : ∀ j, j < i → Copy M (G[j]!) (K[j]!)) (c : Nat) (hu : u.Has 2 (G[i]!).P.length (flat enc2 (G[i]!).P)) :
    ∀ j, j < i + 1 → Copy (u.rows e ++ M) (G[j]!) ((K ++ [⟨(G[i]!).len, u.ptr, (G[i]!).P, u.cap, (G[i]!).np, (G[i]!).X, c⟩])[j]!) := by
  intro j hj
  rcases Nat.lt_or_eq_of_le (Nat.le_of_lt_succ hj) with h1 | h1
  · rw [snoc_lt (by omega)]
    exact (h j h1).mono (List.sublist_append_right _ _)
  · subst h1
    rw [snoc_last hl]
    exact ⟨rfl, rfl, rfl, rfl, (held_own hu).mono (List.sublist_append_left _ _)⟩
theorem oks_copy {w0 W : World} {N : List Rw} {G K : List Sg} (hG : OkS w0 G) (hl : K.length = G.length) (hc : ∀ j, j < G.length → Copy N (G[j]!) (K[j]!)) (hE : Env w0 W N) : OkS W K := by
  intro s hs
  obtain ⟨j, hj, rfl⟩ := List.mem_iff_getElem.1 hs
  have c := hc j (by omega)
  have o := sg_at hG (show j < G.length by omega)
  rw [getElem!_pos K j hj] at c
  exact ⟨c.held _ _ hE, by rw [c.np, c.X]; exact reads_below o.x hE.below, by rw [c.P]; exact o.fewP, by rw [c.X]; exact o.fewX⟩

/-! ### Tracks that say the same -/
def sgEq (s z : Sg) : Prop := z.len = s.len ∧ z.P = s.P ∧ z.X = s.X
structure Same (G K : List Sg) : Prop where
  length : K.length = G.length
  each : ∀ j, j < G.length → sgEq (G[j]!) (K[j]!)
theorem same_copy {N : List Rw} {G K : List Sg} (hl : K.length = G.length) (hc : ∀ j, j < G.length → Copy N (G[j]!) (K[j]!)) : Same G K := ⟨hl, fun j hj => ⟨(hc j hj).len, (hc j hj).P, (hc j hj).X⟩⟩
theorem Same.symm {G K : List Sg} (h : Same G K) : Same K G := ⟨h.length.symm, fun j hj => by
  have k := h.each j (by rw [← h.length]; exact hj)
  exact ⟨k.1.symm, k.2.1.symm, k.2.2.symm⟩⟩
theorem segMay_eq {s z : Sg} {m : Int} (h : sgEq s z) (k : SegMay s m) : SegMay z m := by
  obtain ⟨l, a, P, b, c, X, d⟩ := s
  obtain ⟨l', a', P', b', c', X', d'⟩ := z
  obtain ⟨h1, h2, h3⟩ := h
  dsimp only at h1 h2 h3
  subst h1; subst h2; subst h3
  exact ⟨k.low, k.high, k.may, k.two, k.each, k.up⟩
theorem seg_same {G K : List Sg} (h : Same G K) {j : Nat} (hj : j < G.length) (k : SegMay (G[j]!) G.length) : SegMay (K[j]!) K.length := by
  rw [h.length]
  exact segMay_eq (h.each j hj) k
theorem grp_same {G K : List Sg} {H : List Gp} (h : Same G K) {i : Nat} (k : GrpMay G H i) : GrpMay K H i := by
  have k1 := k.seg0
  have k2 := k.segn
  have k3 := (h.each (H[i]!).seg.toNat (by omega)).1
  exact ⟨k.up, k.high, k.seg0, by rw [h.length]; exact k.segn, k.off0, by rw [k3]; exact k.offn, k.acc0, k.accn, k.sl0, k.sln⟩
theorem sizes_same {G K : List Sg} {H : List Gp} (h : Same G K) (k : Sizes G H) : Sizes K H := by unfold Sizes at *; rw [h.length]; exact k
theorem isChk_same {G K : List Sg} {H : List Gp} {r : Nat × Nat} (h : Same G K) (k : IsChk G H r) : IsChk K H r := by
  have hl := h.length
  have hs := h.symm
  rcases k with ⟨a, b⟩ | ⟨a, b, c, d, e⟩ | ⟨a, b, c, d, e, f⟩ | ⟨a, b, c, d⟩
  · exact .inl ⟨fun z => a (sizes_same hs z), b⟩
  · exact .inr (.inl ⟨sizes_same h a, b, by omega, fun z => d (seg_same hs (by omega) z), fun j hj => seg_same h (by omega) (e j hj)⟩)
  · exact .inr (.inr (.inl ⟨sizes_same h a, fun j hj => seg_same h (by omega) (b j (by omega)), c, d, fun z => e (grp_same hs z), fun j hj => grp_same h (f j hj)⟩))
  · exact .inr (.inr (.inr ⟨sizes_same h a, fun j hj => seg_same h (by omega) (b j (by omega)), fun j hj => grp_same h (c j hj), d⟩))
theorem chk_same {G K : List Sg} {H : List Gp} (h : Same G K) : chk K H = chk G H := by
  unfold chk
  rw [show IsChk K H = IsChk G H from funext fun r => propext ⟨isChk_same h.symm, isChk_same h⟩]
/-! ### Too great to be asked -/
/-- The pieces and what is behind, of the first so many segments. -/
def tot (G : List Sg) : Nat → Nat
  | 0 => 0
  | i + 1 => tot G i + ((G[i]!).P.length + (G[i]!).X.length)
theorem tot_mono (G : List Sg) {i j : Nat} (h : i ≤ j) : tot G i ≤ tot G j := by
  induction j with
  | zero => rw [Nat.le_zero.1 h]; exact Nat.le_refl _
  | succ k ih =>
    rcases Nat.lt_or_eq_of_le h with h1 | h1
    · exact Nat.le_trans (ih (by omega)) (Nat.le_add_right _ _)
    · rw [h1]; exact Nat.le_refl _
def greatB (G : List Sg) (H : List Gp) : Bool := decide (2000 < G.length + H.length) || decide (20000 < G.length + H.length + tot G G.length)
theorem great_few {G : List Sg} {H : List Gp} (h : greatB G H = false) : G.length + H.length ≤ 2000 ∧ ∀ j, j < G.length → (G[j]!).P.length ≤ 20000 ∧ (G[j]!).X.length ≤ 20000 := by
  unfold greatB at h
  simp only [Bool.or_eq_false_iff, decide_eq_false_iff_not] at h
  refine ⟨by omega, fun j hj => ?_⟩
  have h1 := tot_mono G (show j + 1 ≤ G.length from hj)
  have h2 : tot G (j + 1) = tot G j + ((G[j]!).P.length + (G[j]!).X.length) := rfl
  omega
end Go.Proofs.Ytodenlojbbpfaaa.Tkh
