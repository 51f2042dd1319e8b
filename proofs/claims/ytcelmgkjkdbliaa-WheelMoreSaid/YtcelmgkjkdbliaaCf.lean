/-
  Configurations, without a program: the first rule that doesn't hold, errors of a radar, growth, which track fits. No condition.
-/
import Derived.Test.YtcelmgkjkdbliaaTkl
namespace Go.Proofs.Ytcelmgkjkdbliaa.Cf
open Go.ChangeShapes Go.WideShapes Go.ChangeAt Go.RowKit
open Arr Steady Sx Sw Sl Sb Sc Vs Gr Tk Tkh Tkl
set_option linter.unusedVariables false
set_option linter.unusedSimpArgs false

structure Cf where
  pu : Int
  lo : Int
  hi : Int
  rb : Int
  rp : Int
  ae : Int
  ms : Int
  ma : Int
  an : Int
  st : Int
  ss : Int
  ro : Int
  ti : Int
  br : Int
/-- A number above 0 divided, rounded up. -/
def upq (a b : Int) : Int := (a + b - 1) / b
/-- The first rule that doesn't hold. -/
def wrong (c : Cf) : Nat :=
  if c.pu < 1 ∨ 1024 < c.pu then 1 else
  if c.lo < 131072 ∨ 8388608 < c.lo ∨ c.hi < c.lo ∨ 8388608 < c.hi then 2 else
  if c.lo < (c.hi - c.lo) * 16 then 3 else
  if c.rb < 0 ∨ 1048576 < c.rb ∨ c.rp < 0 ∨ 65536 < c.rp then 4 else
  if c.ae < 0 ∨ 1048576 < c.ae then 5 else
  if c.ms < 1 ∨ 16777216 < c.ms ∨ c.ma < 1 ∨ 1048576 < c.ma then 6 else
  if 32000 * c.lo < c.ms * c.pu then 7 else
  if c.an < 0 ∨ 1048576 < c.an then 8 else
  if c.st < 1 ∨ 1000 < c.st ∨ c.ti < 1 ∨ 1000 < c.ti then 9 else
  if c.ss < upq c.hi c.pu ∨ c.ss < 3 * c.rb ∨ 16777216 < c.ss then 10 else
  if c.ro < 0 ∨ 1073741824 < c.ro then 11 else
  if c.br < 1 ∨ 1048576 < c.br then 12 else 0
/-! ### Which track fits -/
end Go.Proofs.Ytcelmgkjkdbliaa.Cf
