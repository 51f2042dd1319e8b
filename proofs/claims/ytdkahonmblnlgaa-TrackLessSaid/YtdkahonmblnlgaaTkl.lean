/-
  Tracks, further: the check tells just what may be; a track without its last groups; where a group's Id would stand. No program.
-/
import Derived.Test.YtdkahonmblnlgaaTkh
namespace Go.Proofs.Ytdkahonmblnlgaa.Tkl
open Go.ChangeShapes Go.WideShapes Go.ChangeAt Go.RowKit
open Arr Steady Sx Sw Sl Sb Sc Sh Vs Gr Tk Tkh
set_option linter.unusedVariables false
set_option linter.unusedSimpArgs false

theorem first_bad (p : Nat → Prop) : ∀ n, (∀ j, j < n → p j) ∨ ∃ j, j < n ∧ ¬ p j ∧ ∀ i, i < j → p i := by
  intro n
  induction n with
  | zero => exact .inl (fun j hj => by omega)
  | succ n ih =>
    rcases ih with h | ⟨j, h1, h2, h3⟩
    · by_cases hn : p n
      · refine .inl (fun j hj => ?_)
        rcases Nat.lt_or_eq_of_le (Nat.le_of_lt_succ hj) with h1 | h1
        · exact h j h1
        · exact h1 ▸ hn
      · exact .inr ⟨n, by omega, hn, h⟩
    · exact .inr ⟨j, by omega, h2, h3⟩
theorem chk_is (G : List Sg) (H : List Gp) : IsChk G H (chk G H) := by
  have key : ∃ r, IsChk G H r := by
    by_cases hs : Sizes G H
    · rcases first_bad (fun j => SegMay (G[j]!) G.length) G.length with h | ⟨j, h1, h2, h3⟩
      · rcases first_bad (fun j => GrpMay G H j) H.length with k | ⟨j, k1, k2, k3⟩
        · exact ⟨(0, 0), .inr (.inr (.inr ⟨hs, h, k, rfl⟩))⟩
        · exact ⟨(16, j), .inr (.inr (.inl ⟨hs, h, rfl, k1, k2, k3⟩))⟩
      · exact ⟨(11, j), .inr (.inl ⟨hs, rfl, h1, h2, h3⟩)⟩
    · exact ⟨(13, 0), .inl ⟨hs, rfl⟩⟩
  obtain ⟨r, h⟩ := key
  rw [chk_eq h]
  exact h
theorem may_of_chk {G : List Sg} {H : List Gp} (h : (chk G H).1 = 0) : TrackMay G H := by
  rcases chk_is G H with ⟨_, e⟩ | ⟨_, e, _⟩ | ⟨_, _, e, _⟩ | ⟨h1, h2, h3, _⟩
  · rw [e] at h; cases h
  · rw [e] at h; cases h
  · rw [e] at h; cases h
  · exact ⟨h1, h2, h3⟩
/-- Fewer groups. -/
theorem take_get {H : List Gp} {k i : Nat} (hi : i < k) (hk : k ≤ H.length) : (H.take k)[i]! = H[i]! := by
  rw [getElem!_pos _ i (by rw [List.length_take]; omega), getElem!_pos H i (by omega), List.getElem_take]
theorem last_take {H : List Gp} {k i : Nat} (hi : i ≤ k) (hk : k ≤ H.length) : lastId (H.take k) i = lastId H i := by
  cases i with
  | zero => rfl
  | succ i => show ((H.take k)[i]!).id = (H[i]!).id; rw [take_get (by omega) hk]
theorem less_may {G : List Sg} {H : List Gp} {k : Nat} (h : TrackMay G H) (hk : k ≤ H.length) : TrackMay G (H.take k) := by
  have hs := h.sizes
  have hl : (H.take k).length = k := by rw [List.length_take]; omega
  refine ⟨⟨hs.1, hs.2.1, by rw [hl]; have := hs.2.2; omega⟩, h.segs, fun j hj => ?_⟩
  rw [hl] at hj
  have g := h.grps j (by omega)
  have e := take_get hj hk
  have e' := last_take (Nat.le_of_lt hj) hk
  exact ⟨by rw [e, e']; exact g.up, by rw [e]; exact g.high, by rw [e]; exact g.seg0, by rw [e]; exact g.segn, by rw [e]; exact g.off0, by rw [e]; exact g.offn, by rw [e]; exact g.acc0, by rw [e]; exact g.accn, by rw [e]; exact g.sl0, by rw [e]; exact g.sln⟩
theorem chk_less {G : List Sg} {H : List Gp} {k : Nat} (h : (chk G H).1 = 0) (hk : k ≤ H.length) : chk G (H.take k) = (0, 0) := chk_may (less_may (may_of_chk h) hk)
theorem reads_take {α : Type} {enc : α → List Value} {w : World} {p : Option Addr} {L : List α} (k : Nat) (h : Reads w p (flat enc L)) : Reads w p (flat enc (L.take k)) := by
  intro j u hj
  refine h j u ?_
  have e : flat enc L = flat enc (L.take k) ++ flat enc (L.drop k) := by rw [← flat_append, List.take_append_drop]
  rw [e, List.getElem?_append_left (List.getElem?_eq_some_iff.1 hj).1]
  exact hj
/-! ### Where an Id stands -/
def cntId (H : List Gp) (x : Int) : Nat → Nat
  | 0 => 0
  | k + 1 => if (H[k]!).id < x then cntId H x k + 1 else cntId H x k
def hasId (H : List Gp) (x : Int) : Nat → Bool
  | 0 => false
  | k + 1 => hasId H x k || ((H[k]!).id == x)
theorem cnt_yes {H : List Gp} {x : Int} {k n : Nat} (hn : n = cntId H x k) (h : (H[k]!).id < x) : n + 1 = cntId H x (k + 1) := by unfold cntId; rw [if_pos h, hn]
theorem cnt_no {H : List Gp} {x : Int} {k n : Nat} (hn : n = cntId H x k) (h : ¬ (H[k]!).id < x) : n = cntId H x (k + 1) := by unfold cntId; rw [if_neg h, hn]
theorem has_yes {H : List Gp} {x : Int} {k : Nat} {f : Bool} (hf : f = hasId H x k) (h : f = true) : true = hasId H x (k + 1) := by unfold hasId; rw [← hf, h, Bool.true_or]
theorem has_no {H : List Gp} {x : Int} {k : Nat} {f : Bool} (hf : f = hasId H x k) (h : f = false) : ((H[k]!).id == x) = hasId H x (k + 1) := by unfold hasId; rw [← hf, h, Bool.false_or]
theorem cnt_le (H : List Gp) (x : Int) : ∀ k, cntId H x k ≤ k
  | 0 => Nat.le_refl _
  | k + 1 => by unfold cntId; have := cnt_le H x k; split <;> omega
end Go.Proofs.Ytdkahonmblnlgaa.Tkl
