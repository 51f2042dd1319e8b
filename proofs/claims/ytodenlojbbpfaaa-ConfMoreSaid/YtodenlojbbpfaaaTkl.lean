/-
  Tracks, further: the check tells just what may be; a track without its last groups; where a group's Id would stand. No program.
-/
import Derived.Test.YtodenlojbbpfaaaTkh
namespace Go.Proofs.Ytodenlojbbpfaaa.Tkl
open Go.ChangeShapes Go.WideShapes Go.ChangeAt Go.RowKit
open Arr Steady Sx Sw Sl Sb Sc Sh Vs Gr Tk Tkh
set_option linter.unusedVariables false
set_option linter.unusedSimpArgs false

theorem first_bad (p : Nat → Prop) : ∀ n, (∀ j, j < n → p j) ∨ ∃ j, j < n ∧ ¬ p j ∧ ∀ i, i < j → p i := by
  intro n
  induction n with
  | zero => exact .inl (fun j hj => by omega)
  | succ n ih =>
    rcases ih with h | ⟨j, h1, h2, h3⟩
    · by_cases hn : p n
      · refine .inl (fun j hj => ?_)
        rcases Nat.lt_or_eq_of_le (Nat.le_of_lt_succ hj) with h1 | h1
        · exact h j h1
        · exact h1 ▸ hn
      · exact .inr ⟨n, by omega, hn, h⟩
    · exact .inr ⟨j, by omega, h2, h3⟩
theorem chk_is (G : List Sg) (H : List Gp) : IsChk G H (chk G H) := by
  have key : ∃ r, IsChk G H r := by
    by_cases hs : Sizes G H
    · rcases first_bad (fun j => SegMay (G[j]!) G.length) G.length with h | ⟨j, h1, h2, h3⟩
      · rcases first_bad (fun j => GrpMay G H j) H.length with k | ⟨j, k1, k2, k3⟩
        · exact ⟨(0, 0), .inr (.inr (.inr ⟨hs, h, k, rfl⟩))⟩
        · exact ⟨(16, j), .inr (.inr (.inl ⟨hs, h, rfl, k1, k2, k3⟩))⟩
      · exact ⟨(11, j), .inr (.inl ⟨hs, rfl, h1, h2, h3⟩)⟩
    · exact ⟨(13, 0), .inl ⟨hs, rfl⟩⟩
  obtain ⟨r, h⟩ := key
  rw [chk_eq h]
  exact h
theorem may_of_chk {G : List Sg} {H : List Gp} (h : (chk G H).1 = 0) : TrackMay G H := by
  rcases chk_is G H with ⟨_, e⟩ | ⟨_, e, _⟩ | ⟨_, _, e, _⟩ | ⟨h1, h2, h3, _⟩
  · rw [e] at h; cases h
  · rw [e] at h; cases h
  · rw [e] at h; cases h
  · exact ⟨h1, h2, h3⟩
/-! ### Where an Id stands -/
end Go.Proofs.Ytodenlojbbpfaaa.Tkl
