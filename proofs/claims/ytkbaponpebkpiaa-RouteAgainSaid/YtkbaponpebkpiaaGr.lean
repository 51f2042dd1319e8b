/-
  Grades, without a program: pieces that may be those of a length; the grade at a place, and the least and the greatest grade at some places, by the document. No condition.
-/
import Derived.Test.YtkbaponpebkpiaaVs
import Derived.Test.YtkbaponpebkpiaaSc
namespace Go.Proofs.Ytkbaponpebkpiaa.Gr
open Sl Vs
set_option linter.unusedVariables false
set_option linter.unusedSimpArgs false

/-- What is asked of one piece. -/
structure Piece (L : Spans) (len : Int) (i : Nat) : Prop where
  low : -1048576 ≤ (L[i]!).2
  high : (L[i]!).2 ≤ 1048576
  within : (L[i]!).1 < len
  up : 0 < i → (L[i - 1]!).1 < (L[i]!).1
/-- They may be the pieces of a length. -/
structure May (L : Spans) (len : Int) : Prop where
  some : 1 ≤ L.length
  few : L.length ≤ 64
  first : (L[0]!).1 = 0
  each : ∀ i, i < L.length → Piece L len i
noncomputable def mayB (L : Spans) (len : Int) : Bool := @decide (May L len) (Classical.propDecidable _)
theorem mayB_yes {L : Spans} {len : Int} (h : May L len) : mayB L len = true := by unfold mayB; exact @decide_eq_true _ (Classical.propDecidable _) h
theorem mayB_no {L : Spans} {len : Int} (h : ¬ May L len) : mayB L len = false := by unfold mayB; exact @decide_eq_false _ (Classical.propDecidable _) h
theorem may_of {L : Spans} {len : Int} (h : mayB L len = true) : May L len := by unfold mayB at h; exact @of_decide_eq_true _ (Classical.propDecidable _) h
theorem not_may {L : Spans} {len : Int} (h : mayB L len = false) : ¬ May L len := fun e => by rw [mayB_yes e] at h; cases h
/-- The Froms go up. -/
theorem up_lt {L : Spans} {len : Int} (h : May L len) : ∀ (d i : Nat), i + d + 1 < L.length → (L[i]!).1 < (L[i + d + 1]!).1 := by
  intro d
  induction d with
  | zero => intro i hi; exact (h.each (i + 1) hi).up (by omega)
  | succ d ih =>
    intro i hi
    have h1 := ih i (by omega)
    have h2 := (h.each (i + (d + 1) + 1) hi).up (by omega)
    have e : i + (d + 1) + 1 - 1 = i + d + 1 := by omega
    rw [e] at h2
    omega
theorem up_all {L : Spans} {len : Int} (h : May L len) {i j : Nat} (hij : i < j) (hj : j < L.length) : (L[i]!).1 < (L[j]!).1 := by
  have := up_lt h (j - i - 1) i (by omega)
  rwa [show i + (j - i - 1) + 1 = j by omega] at this
/-- Does a piece reach a place from lo to hi? -/
def reach (L : Spans) (i : Nat) (lo hi : Int) : Bool := (decide (i = 0) || decide ((L[i]!).1 ≤ hi)) && (decide (L.length ≤ i + 1) || decide (lo ≤ (L[i + 1]!).1))
theorem reach_iff {L : Spans} {i : Nat} {lo hi : Int} : reach L i lo hi = true ↔ (i = 0 ∨ (L[i]!).1 ≤ hi) ∧ (L.length ≤ i + 1 ∨ lo ≤ (L[i + 1]!).1) := by simp [reach]
/-- The least and the greatest grade, piece by piece. -/
def bnd (L : Spans) (lo hi : Int) : Nat → Int × Int
  | 0 => (1048577, -1048577)
  | k + 1 => if reach L k lo hi = true then (if (L[k]!).2 < (bnd L lo hi k).1 then (L[k]!).2 else (bnd L lo hi k).1, if (bnd L lo hi k).2 < (L[k]!).2 then (L[k]!).2 else (bnd L lo hi k).2) else bnd L lo hi k
theorem bnd_no {L : Spans} {lo hi x y : Int} {k : Nat} (h : (x, y) = bnd L lo hi k) (hr : reach L k lo hi = false) : (x, y) = bnd L lo hi (k + 1) := by unfold bnd; rw [if_neg (by rw [hr]; decide)]; exact h
theorem bnd_yes {L : Spans} {lo hi x y x' y' : Int} {k : Nat} (h : (x, y) = bnd L lo hi k) (hr : reach L k lo hi = true) (hx : x' = if (L[k]!).2 < x then (L[k]!).2 else x) (hy : y' = if y < (L[k]!).2 then (L[k]!).2 else y) : (x', y') = bnd L lo hi (k + 1) := by
  unfold bnd
  rw [if_pos hr, ← h, hx, hy]
/-- What they are: bounds that are reached. -/
theorem bnd_is {L : Spans} {len lo hi : Int} (h : May L len) : ∀ k, k ≤ L.length →
    (∀ i, i < k → reach L i lo hi = true → (bnd L lo hi k).1 ≤ (L[i]!).2 ∧ (L[i]!).2 ≤ (bnd L lo hi k).2) ∧
    ((∃ i, i < k ∧ reach L i lo hi = true) → (∃ i, i < k ∧ reach L i lo hi = true ∧ (bnd L lo hi k).1 = (L[i]!).2) ∧ (∃ i, i < k ∧ reach L i lo hi = true ∧ (bnd L lo hi k).2 = (L[i]!).2)) ∧
    ((∀ i, i < k → reach L i lo hi = false) → bnd L lo hi k = (1048577, -1048577)) := by
  intro k
  induction k with
  | zero => intro _; exact ⟨fun i hi => by omega, fun ⟨i, hi, _⟩ => by omega, fun _ => rfl⟩
  | succ k ih =>
    intro hk
    obtain ⟨i1, i2, i3⟩ := ih (by omega)
    have hp := h.each k (by omega)
    by_cases hr : reach L k lo hi = true
    · have e : bnd L lo hi (k + 1) = (if (L[k]!).2 < (bnd L lo hi k).1 then (L[k]!).2 else (bnd L lo hi k).1, if (bnd L lo hi k).2 < (L[k]!).2 then (L[k]!).2 else (bnd L lo hi k).2) := by
        show (if reach L k lo hi = true then _ else _) = _
        rw [if_pos hr]
      rw [e]
      refine ⟨fun i hi hri => ?_, fun _ => ?_, fun hn => by rw [hn k (by omega)] at hr; cases hr⟩
      · dsimp only
        rcases Nat.lt_or_eq_of_le (Nat.le_of_lt_succ hi) with h3 | h3
        · have := i1 i h3 hri
          constructor <;> split <;> omega
        · subst h3
          constructor <;> split <;> omega
      · dsimp only
        by_cases hs : ∃ i, i < k ∧ reach L i lo hi = true
        · obtain ⟨⟨a, a1, a2, a3⟩, ⟨b, b1, b2, b3⟩⟩ := i2 hs
          constructor
          · split
            · exact ⟨k, by omega, hr, rfl⟩
            · exact ⟨a, by omega, a2, a3⟩
          · split
            · exact ⟨k, by omega, hr, rfl⟩
            · exact ⟨b, by omega, b2, b3⟩
        · have hz := i3 (fun i hii => by
            cases hh : reach L i lo hi with
            | false => rfl
            | true => exact absurd ⟨i, hii, hh⟩ hs)
          rw [hz]
          have h1 := hp.low
          have h2 := hp.high
          constructor
          · rw [if_pos (by omega)]; exact ⟨k, by omega, hr, rfl⟩
          · rw [if_pos (by omega)]; exact ⟨k, by omega, hr, rfl⟩
    · have e : bnd L lo hi (k + 1) = bnd L lo hi k := by
        show (if reach L k lo hi = true then _ else _) = _
        rw [if_neg hr]
      rw [e]
      refine ⟨fun i hi hri => ?_, fun ⟨i, hi, hri⟩ => ?_, fun hn => i3 (fun i hi => hn i (by omega))⟩
      · rcases Nat.lt_or_eq_of_le (Nat.le_of_lt_succ hi) with h3 | h3
        · exact i1 i h3 hri
        · subst h3; exact absurd hri hr
      · have hi' : i < k := by
          rcases Nat.lt_or_eq_of_le (Nat.le_of_lt_succ hi) with h3 | h3
          · exact h3
          · subst h3; exact absurd hri hr
        obtain ⟨⟨a, a1, a2, a3⟩, ⟨b, b1, b2, b3⟩⟩ := i2 ⟨i, hi', hri⟩
        exact ⟨⟨a, by omega, a2, a3⟩, ⟨b, by omega, b2, b3⟩⟩
/-- Each place is reached by a piece. -/
theorem reach_some {L : Spans} {len lo hi : Int} (h : May L len) (hlh : lo ≤ hi) : ∃ i, i < L.length ∧ reach L i lo hi = true := by
  have key : ∀ d, d < L.length → (∃ i, i < L.length ∧ reach L i lo hi = true) ∨ (∀ i, i < L.length - 1 - d → True) ∧ (0 < L.length - 1 - d → (L[L.length - 1 - d]!).1 > hi) := by
    intro d
    induction d with
    | zero =>
      intro _
      by_cases h0 : L.length - 1 = 0
      · exact .inl ⟨0, by omega, reach_iff.2 ⟨.inl rfl, .inl (by omega)⟩⟩
      · by_cases h1 : (L[L.length - 1]!).1 ≤ hi
        · exact .inl ⟨L.length - 1, by omega, reach_iff.2 ⟨.inr h1, .inl (by omega)⟩⟩
        · exact .inr ⟨fun _ _ => trivial, fun _ => by rw [Nat.sub_zero]; omega⟩
    | succ d ih =>
      intro hd
      rcases ih (by omega) with h1 | ⟨_, h2⟩
      · exact .inl h1
      · have h3 := h2 (by omega)
        have e : L.length - 1 - (d + 1) + 1 = L.length - 1 - d := by omega
        by_cases h0 : L.length - 1 - (d + 1) = 0
        · refine .inl ⟨0, by omega, reach_iff.2 ⟨.inl rfl, .inr ?_⟩⟩
          rw [h0] at e
          rw [e]
          omega
        · by_cases h1 : (L[L.length - 1 - (d + 1)]!).1 ≤ hi
          · exact .inl ⟨L.length - 1 - (d + 1), by omega, reach_iff.2 ⟨.inr h1, .inr (by rw [e]; omega)⟩⟩
          · exact .inr ⟨fun _ _ => trivial, fun _ => by omega⟩
  rcases key (L.length - 1) (by have := h.some; omega) with h1 | ⟨_, _⟩
  · exact h1
  · rcases key (L.length - 1) (by have := h.some; omega) with h1 | _
    · exact h1
    · by_cases h0 : L.length = 1
      · exact ⟨0, by omega, reach_iff.2 ⟨.inl rfl, .inl (by omega)⟩⟩
      · rcases key (L.length - 2) (by have := h.some; omega) with h1 | ⟨_, h2⟩
        · exact h1
        · have := h.some
          have e : L.length - 1 - (L.length - 2) = 1 := by omega
          rw [e] at h2
          exact ⟨0, by omega, reach_iff.2 ⟨.inl rfl, .inr (by have := h2 (by omega); show lo ≤ (L[1]!).1; omega)⟩⟩
end Go.Proofs.Ytkbaponpebkpiaa.Gr
