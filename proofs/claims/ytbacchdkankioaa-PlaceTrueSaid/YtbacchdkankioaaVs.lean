/-
  What package vote is to answer, as functions on lists of pairs, and why they agree. No program.
-/
import Derived.Test.YtbacchdkankioaaSl
namespace Go.Proofs.Ytbacchdkankioaa.Vs
open Sl

def enc2 (x : Int × Int) : List Value := [.int .i64 x.1, .int .i64 x.2]
def enc1 (x : Int) : List Value := [.int .i64 x]
theorem enc1_one : ∀ x, ∀ u ∈ enc1 x, u.oneCell' = true := by intro x u hu; simp [enc1] at hu; subst hu; rfl
abbrev Spans := List (Int × Int)
/-- Does a span have a number? -/
def hasB (s : Int × Int) (x : Int) : Bool := decide (s.1 ≤ x) && decide (x ≤ s.2)
/-- How many spans have a number. -/
def cnt (L : Spans) (x : Int) : Nat := L.countP fun s => hasB s x
/-- The least Lo, the greatest Hi, that so many spans have, among the first i: was one found, and which. -/
def lowC (L : Spans) (k : Int) (i : Nat) (r : Bool × Int) : Bool := decide (k ≤ (cnt L (L[i]!).1 : Int)) && (!r.1 || decide ((L[i]!).1 < r.2))
def highC (L : Spans) (k : Int) (i : Nat) (r : Bool × Int) : Bool := decide (k ≤ (cnt L (L[i]!).2 : Int)) && (!r.1 || decide (r.2 < (L[i]!).2))
def lowS (L : Spans) (k : Int) : Nat → Bool × Int
  | 0 => (false, 0)
  | i + 1 => if lowC L k i (lowS L k i) = true then (true, (L[i]!).1) else lowS L k i
def highS (L : Spans) (k : Int) : Nat → Bool × Int
  | 0 => (false, 0)
  | i + 1 => if highC L k i (highS L k i) = true then (true, (L[i]!).2) else highS L k i
/-- The document's answer: the least and the greatest number that k spans have, and if there is one. -/
def byF (L : Spans) (k : Int) : Int × Int × Bool := ((lowS L k L.length).2, (highS L k L.length).2, (lowS L k L.length).1 && (highS L k L.length).1)
/-- .. with zeros where there is none. -/
def byZ (L : Spans) (k : Int) : Int × Int × Bool := if (byF L k).2.2 = true then byF L k else (0, 0, false)

/-- What By's answer means. -/
structure IsBy (L : Spans) (k : Int) (r : Int × Int × Bool) : Prop where
  yes : r.2.2 = true → k ≤ (cnt L r.1 : Int) ∧ k ≤ (cnt L r.2.1 : Int) ∧ ∀ x, k ≤ (cnt L x : Int) → r.1 ≤ x ∧ x ≤ r.2.1
  no : r.2.2 = false → ∀ x, ¬ k ≤ (cnt L x : Int)
/-- There is one answer. -/
theorem IsBy.eq {L M : Spans} {k : Int} {r q : Int × Int × Bool} (h : IsBy L k r) (g : IsBy M k q) (hc : ∀ x, cnt L x = cnt M x) : r.2.2 = q.2.2 ∧ (r.2.2 = true → r.1 = q.1 ∧ r.2.1 = q.2.1) := by
  obtain ⟨a, b, o⟩ := r
  obtain ⟨c, d, o'⟩ := q
  cases o <;> cases o'
  · exact ⟨rfl, fun h => by cases h⟩
  · have h1 := g.yes rfl
    exact absurd (by rw [hc]; exact h1.1) (h.no rfl c)
  · have h1 := h.yes rfl
    exact absurd (by rw [← hc]; exact h1.1) (g.no rfl a)
  · have h1 := h.yes rfl
    have h2 := g.yes rfl
    refine ⟨rfl, fun _ => ?_⟩
    have e1 := h1.2.2 c (by rw [hc]; exact h2.1)
    have e2 := h1.2.2 d (by rw [hc]; exact h2.2.1)
    have e3 := h2.2.2 a (by rw [← hc]; exact h1.1)
    have e4 := h2.2.2 b (by rw [← hc]; exact h1.2.1)
    simp only at e1 e2 e3 e4 ⊢
    omega
end Go.Proofs.Ytbacchdkankioaa.Vs
