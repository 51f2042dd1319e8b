/-
  Standing still, without a program: what a cycle makes of it, and what holds over many. No condition.
-/
import Derived.Test.YtbacblnbmdomaaaCf
namespace Go.Proofs.Ytbacblnbmdomaaa.Stm
open Go.ChangeShapes Go.WideShapes Go.ChangeAt Go.RowKit
open Arr Steady Sx Sw Sl Sb Sc Vs Gr Tk Tkh Tkl Cf
set_option linter.unusedVariables false
set_option linter.unusedSimpArgs false

/-- A cycle: a speed, and how many sensors are fit. -/
structure Cy where
  lo : Int
  hi : Int
  fit : Int
instance : Inhabited Cy := ⟨⟨0, 0, 0⟩⟩
def cy (x : Cy) : List Value := [.int .i64 x.lo, .int .i64 x.hi, .int .i64 x.fit]
/-- All of a span is slow. -/
def slowB (c : Cf) (a b : Int) : Bool := decide (-c.ss ≤ a ∧ b ≤ c.ss)
theorem slow_yes {c : Cf} {a b : Int} (h : -c.ss ≤ a ∧ b ≤ c.ss) : slowB c a b = true := decide_eq_true h
theorem slow_no {c : Cf} {a b : Int} (h : ¬ (-c.ss ≤ a ∧ b ≤ c.ss)) : slowB c a b = false := decide_eq_false h
/-- The count behind a cycle, and whether that is enough. -/
def nxN (c : Cf) (n a b f : Int) : Int := if (-c.ss ≤ a ∧ b ≤ c.ss) ∧ 1 ≤ f then min (n + 1) c.st else 0
def nxO (c : Cf) (n a b f : Int) : Bool := decide ((-c.ss ≤ a ∧ b ≤ c.ss) ∧ 1 ≤ f ∧ c.st ≤ n + 1)
theorem nxN_yes {c : Cf} {n a b f : Int} (h : (-c.ss ≤ a ∧ b ≤ c.ss) ∧ 1 ≤ f) : nxN c n a b f = min (n + 1) c.st := if_pos h
theorem nxN_no {c : Cf} {n a b f : Int} (h : ¬ ((-c.ss ≤ a ∧ b ≤ c.ss) ∧ 1 ≤ f)) : nxN c n a b f = 0 := if_neg h
theorem nxO_yes {c : Cf} {n a b f : Int} (h : (-c.ss ≤ a ∧ b ≤ c.ss) ∧ 1 ≤ f) : nxO c n a b f = decide (c.st ≤ n + 1) := by
  unfold nxO
  by_cases k : c.st ≤ n + 1
  · rw [decide_eq_true k, decide_eq_true ⟨h.1, h.2, k⟩]
  · rw [decide_eq_false k, decide_eq_false (fun e => k e.2.2)]
theorem nxO_no {c : Cf} {n a b f : Int} (h : ¬ ((-c.ss ≤ a ∧ b ≤ c.ss) ∧ 1 ≤ f)) : nxO c n a b f = false := decide_eq_false (fun e => h ⟨e.1, e.2.1⟩)
theorem nxO_of {c : Cf} {n a b f : Int} (h : nxO c n a b f = true) : (-c.ss ≤ a ∧ b ≤ c.ss) ∧ 1 ≤ f ∧ c.st ≤ n + 1 := of_decide_eq_true h
theorem nxN_in {c : Cf} {n a b f : Int} (hc : 1 ≤ c.st) (h : 0 ≤ n) : 0 ≤ nxN c n a b f ∧ nxN c n a b f ≤ c.st := by
  unfold nxN
  split <;> omega
end Go.Proofs.Ytbacblnbmdomaaa.Stm
