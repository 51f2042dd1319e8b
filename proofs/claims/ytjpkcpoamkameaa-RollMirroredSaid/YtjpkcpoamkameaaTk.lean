/-
  Tracks, without a program: segments and groups in memory, which may be, the grades of all, what comes behind what. No condition.
-/
import Derived.Test.YtjpkcpoamkameaaGr
namespace Go.Proofs.Ytjpkcpoamkameaa.Tk
open Go.ChangeShapes Go.WideShapes Go.ChangeAt Go.RowKit
open Arr Steady Sx Sw Sl Sb Sc Vs Gr
set_option linter.unusedVariables false
set_option linter.unusedSimpArgs false

/-- A segment: its length, its pieces and the segments behind it, with their places. -/
structure Sg where
  len : Int
  pp : Option Addr
  P : Spans
  pc : Nat
  np : Option Addr
  X : List Int
  nc : Nat
instance : Inhabited Sg := ⟨⟨0, none, [], 0, none, [], 0⟩⟩
structure Gp where
  id : Int
  seg : Int
  off : Int
  acc : Int
  slack : Int
instance : Inhabited Gp := ⟨⟨0, 0, 0, 0, 0⟩⟩
/-- Each segment reads as its pieces and what is behind it; none is too great. -/
structure OkSg (w : World) (s : Sg) : Prop where
  p : Reads w s.pp (flat enc2 s.P)
  x : Reads w s.np (flat enc1 s.X)
  fewP : s.P.length ≤ 140737488355328
  fewX : s.X.length ≤ 140737488355328
/-! ### Which may be -/
structure SegMay (s : Sg) (many : Int) : Prop where
  low : 1 ≤ s.len
  high : s.len ≤ 1099511627776
  may : May s.P s.len
  two : s.X.length ≤ 2
  each : ∀ j, j < s.X.length → 0 ≤ s.X[j]! ∧ s.X[j]! < many
  up : 2 ≤ s.X.length → s.X[0]! < s.X[1]!
/-- The Id ahead of group i. -/
def lastId (H : List Gp) : Nat → Int
  | 0 => 0
  | k + 1 => (H[k]!).id
structure GrpMay (G : List Sg) (H : List Gp) (i : Nat) : Prop where
  up : lastId H i < (H[i]!).id
  high : (H[i]!).id ≤ 65535
  seg0 : 0 ≤ (H[i]!).seg
  segn : (H[i]!).seg < G.length
  off0 : 0 ≤ (H[i]!).off
  offn : (H[i]!).off ≤ (G[(H[i]!).seg.toNat]!).len
  acc0 : 0 ≤ (H[i]!).acc
  accn : (H[i]!).acc ≤ 1048576
  sl0 : 0 ≤ (H[i]!).slack
  sln : (H[i]!).slack ≤ 16777216
/-! ### The grades of all -/
/-! ### What comes behind -/
end Go.Proofs.Ytjpkcpoamkameaa.Tk
