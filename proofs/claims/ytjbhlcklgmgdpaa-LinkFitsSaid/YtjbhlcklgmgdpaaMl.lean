/-
  The mail of a cycle, without a program: texts in memory, what is taken of them and what is counted; what comes behind frames of all kinds, or is none, changes nothing that was taken. No condition.
-/
import Derived.Test.YtjbhlcklgmgdpaaFr
import Derived.Test.YtjbhlcklgmgdpaaSc
namespace Go.Proofs.Ytjbhlcklgmgdpaa.Ml
open Go.ChangeShapes Go.WideShapes Go.ChangeAt Go.RowKit
open Arr Steady Sx Sw Sl Sb Sc Cr Fr
set_option linter.unusedVariables false
set_option linter.unusedSimpArgs false

/-! ### Texts in memory -/
/-- A text: where it begins, its bytes, its capacity. -/
structure Tx where
  p : Option Addr
  L : List UInt8
  c : Nat
instance : Inhabited Tx := ⟨⟨none, [], 0⟩⟩
section
variable {P : Program} {w0 w : World} {R : List Rw} {p : Option Addr} {e : TypeId}
end

/-! ### What was taken -/
structure Ml where
  has : Nat → Bool
  val : Nat → Int
  bad : Nat
  stale : Nat
  twice : Nat
def upd {α : Type} (f : Nat → α) (k : Nat) (v : α) : Nat → α := fun j => if j = k then v else f j
def addBad (m : Ml) : Ml := ⟨m.has, m.val, m.bad + 1, m.stale, m.twice⟩
def addStale (m : Ml) : Ml := ⟨m.has, m.val, m.bad, m.stale + 1, m.twice⟩
def addTwice (m : Ml) : Ml := ⟨m.has, m.val, m.bad, m.stale, m.twice + 1⟩
def accept (m : Ml) (k : Nat) (v : Int) : Ml := ⟨upd m.has k true, upd m.val k v, m.bad, m.stale, m.twice⟩
def m0 : Ml := ⟨fun _ => false, fun _ => 0, 0, 0, 0⟩
/-- The place of a frame's kind. -/
def kn (L : List UInt8) : Nat := (getF L).1.toNat
def mstep (s : Int) (m : Ml) (L : List UInt8) : Ml :=
  if getE L ≠ 0 then addBad m else if (getF L).2.1 ≠ s then addStale m else if m.has (kn L) = true then addTwice m else accept m (kn L) (getF L).2.2
def run (s : Int) (m : Ml) (X : List (List UInt8)) : Ml := X.foldl (mstep s) m
theorem run_append (s : Int) (m : Ml) (X Y : List (List UInt8)) : run s m (X ++ Y) = run s (run s m X) Y := by unfold run; rw [List.foldl_append]
/-- How many kinds below k were taken. -/
def cnt (h : Nat → Bool) : Nat → Nat
  | 0 => 0
  | k + 1 => cnt h k + (if h k then 1 else 0)
/-- Two mails of which the same was taken. -/
structure Same (d : Nat) (a b : Ml) : Prop where
  has : a.has = b.has
  val : a.val = b.val
  twice : a.twice = b.twice
  wrong : b.bad + b.stale = a.bad + a.stale + d
end Go.Proofs.Ytjbhlcklgmgdpaa.Ml
