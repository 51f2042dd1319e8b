/-
  Package vote's loops, as functions and laws on lists of pairs: what all have, what two have, which stray. No program.
-/
import Derived.Test.YtbacchdkankioaaVs
import Derived.Test.YtbacchdkankioaaSpn
namespace Go.Proofs.Ytbacchdkankioaa.Vs
open Sl Spn

/-- All ends fit in 64 bits. -/
def FitL (L : Spans) : Prop := ∀ s ∈ L, (-9223372036854775808 ≤ s.1 ∧ s.1 ≤ 9223372036854775807) ∧ (-9223372036854775808 ≤ s.2 ∧ s.2 ≤ 9223372036854775807)
theorem FitL.at {L : Spans} (h : FitL L) {i : Nat} (hi : i < L.length) : (-9223372036854775808 ≤ (L[i]!).1 ∧ (L[i]!).1 ≤ 9223372036854775807) ∧ (-9223372036854775808 ≤ (L[i]!).2 ∧ (L[i]!).2 ≤ 9223372036854775807) := by
  rw [getElem!_pos L i hi]
  exact h _ (List.getElem_mem hi)
/-! ### Common -/
structure ComInv (L : Spans) (i : Nat) (a b : Int) : Prop where
  le : a ≤ b
  lo : -9223372036854775808 ≤ a
  hi : b ≤ 9223372036854775807
  iff : ∀ x, (a ≤ x ∧ x ≤ b) ↔ ((-9223372036854775808 ≤ x ∧ x ≤ 9223372036854775807) ∧ ∀ j, j < i → hasB (L[j]!) x = true)
/-! ### Two -/
/-- y1 to y2 is the hull of what P holds of, if there is any. -/
structure HullOf (P : Int → Prop) (y : Int × Int) : Prop where
  yes : y.1 ≤ y.2 → P y.1 ∧ P y.2 ∧ ∀ x, P x → y.1 ≤ x ∧ x ≤ y.2
  no : ¬ y.1 ≤ y.2 → ∀ x, ¬ P x
theorem HullOf.congr {P Q : Int → Prop} {y : Int × Int} (h : HullOf P y) (hq : ∀ x, Q x ↔ P x) : HullOf Q y :=
  ⟨fun hy => ⟨(hq _).2 (h.yes hy).1, (hq _).2 (h.yes hy).2.1, fun x hx => (h.yes hy).2.2 x ((hq x).1 hx)⟩, fun hy x hx => h.no hy x ((hq x).1 hx)⟩
theorem HullOf.or {P : Int → Prop} {y1 y2 : Int} (h : HullOf P (y1, y2)) (a b : Int) : HullOf (fun x => P x ∨ (a ≤ x ∧ x ≤ b)) (hullF y1 y2 a b) := by
  unfold hullF
  by_cases hy : y1 ≤ y2
  · rw [if_pos hy]
    have h1 := h.yes hy
    simp only at h1
    by_cases hab : a ≤ b
    · rw [if_pos hab]
      refine ⟨fun _ => ⟨?_, ?_, fun x hx => ?_⟩, fun hn => ?_⟩
      · show P (min y1 a) ∨ _
        by_cases q : y1 ≤ a
        · rw [Int.min_eq_left q]; exact .inl h1.1
        · exact .inr (by simp only; omega)
      · show P (max y2 b) ∨ _
        by_cases q : b ≤ y2
        · rw [Int.max_eq_left q]; exact .inl h1.2.1
        · exact .inr (by simp only; omega)
      · simp only
        rcases hx with hx | hx
        · have := h1.2.2 x hx
          omega
        · omega
      · simp only at hn
        omega
    · rw [if_neg hab]
      refine ⟨fun _ => ⟨.inl h1.1, .inl h1.2.1, fun x hx => ?_⟩, fun hn => absurd hy hn⟩
      rcases hx with hx | hx
      · exact h1.2.2 x hx
      · omega
  · rw [if_neg hy]
    have h1 := h.no hy
    refine ⟨fun hab => ⟨.inr ⟨Int.le_refl _, hab⟩, .inr ⟨hab, Int.le_refl _⟩, fun x hx => ?_⟩, fun hab x hx => ?_⟩
    · rcases hx with hx | hx
      · exact absurd hx (h1 x)
      · exact hx
    · rcases hx with hx | hx
      · exact absurd hx (h1 x)
      · simp only at hab
        omega
structure TwoInv (M : Spans) (i : Nat) (x1 x2 y1 y2 : Int) : Prop where
  one : HullOf (fun x => 1 ≤ cnt (M.take i) x) (x1, x2)
  two : HullOf (fun x => 2 ≤ cnt (M.take i) x) (y1, y2)
/-! ### Strays -/
/-! ### What the law asks -/
end Go.Proofs.Ytbacchdkankioaa.Vs
