/-
  Rolling away, without a program: what a cycle makes of it. No condition.
-/
import Derived.Test.YtjpkcpoamkameaaCf
namespace Go.Proofs.Ytjpkcpoamkameaa.Rlm
open Go.ChangeShapes Go.WideShapes Go.ChangeAt Go.RowKit
open Arr Steady Sx Sw Sl Sb Sc Vs Gr Tk Tkh Tkl Cf
set_option linter.unusedVariables false
set_option linter.unusedSimpArgs false

/-- A cycle: its speed, the true one, whether the train is still, and whether it is told to move. -/
structure Cy9 where
  lo : Int
  hi : Int
  v : Int
  st : Bool
  cm : Bool
instance : Inhabited Cy9 := ⟨⟨0, 0, 0, false, false⟩⟩
def cy9 (x : Cy9) : List Value := [.int .i64 x.lo, .int .i64 x.hi, .int .i64 x.v, .bool x.st, .bool x.cm]
/-- A train that may roll: whether it is anchored, whether it rolls, how far it has moved. -/
structure Rl where
  an : Bool
  on : Bool
  lo : Int
  hi : Int
/-- .. behind a cycle (where nothing goes beyond its bounds). -/
def nx (c : Cf) (r : Rl) (st cm : Bool) (a b : Int) : Rl :=
  match cm, r.an with
  | true, _ => ⟨false, false, 0, 0⟩
  | false, false => ⟨st, false, 0, 0⟩
  | false, true => ⟨true, r.on || (decide (c.ro < r.lo + a) || decide (r.hi + b < -c.ro)), r.lo + a, r.hi + b⟩
/-- What a sum needs. -/
structure Near (r : Rl) (a b : Int) : Prop where
  r1 : -4611686018427387904 ≤ r.lo
  r2 : r.lo ≤ r.hi
  r3 : r.hi ≤ 4611686018427387904
  a1 : -1099511627776 ≤ a
  a2 : a ≤ b
  a3 : b ≤ 1099511627776
def smallB (a b : Int) : Bool := decide (a ≤ b ∧ -1099511627776 ≤ a ∧ b ≤ 1099511627776)
theorem small_yes {a b : Int} (h : a ≤ b ∧ -1099511627776 ≤ a ∧ b ≤ 1099511627776) : smallB a b = true := decide_eq_true h
theorem small_no {a b : Int} (h : ¬ (a ≤ b ∧ -1099511627776 ≤ a ∧ b ≤ 1099511627776)) : smallB a b = false := decide_eq_false h
theorem small_of {a b : Int} (h : smallB a b = true) : a ≤ b ∧ -1099511627776 ≤ a ∧ b ≤ 1099511627776 := of_decide_eq_true h
end Go.Proofs.Ytjpkcpoamkameaa.Rlm
