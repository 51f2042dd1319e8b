/-
  Configurations, without a program: the first rule that doesn't hold, errors of a radar, growth, which track fits. No condition.
-/
import Derived.Test.YtbacchdkankioaaMtk
namespace Go.Proofs.Ytbacchdkankioaa.Cf
open Go.ChangeShapes Go.WideShapes Go.ChangeAt Go.RowKit
open Arr Steady Sx Sw Sl Sb Sc Vs Gr Tk Tkh Tkl
set_option linter.unusedVariables false
set_option linter.unusedSimpArgs false

structure Cf where
  pu : Int
  lo : Int
  hi : Int
  rb : Int
  rp : Int
  ae : Int
  ms : Int
  ma : Int
  an : Int
  st : Int
  ss : Int
  ro : Int
  ti : Int
  br : Int
/-- A number above 0 divided, rounded up. -/
def upq (a b : Int) : Int := (a + b - 1) / b
/-- The first rule that doesn't hold. -/
def wrong (c : Cf) : Nat :=
  if c.pu < 1 ∨ 1024 < c.pu then 1 else
  if c.lo < 131072 ∨ 8388608 < c.lo ∨ c.hi < c.lo ∨ 8388608 < c.hi then 2 else
  if c.lo < (c.hi - c.lo) * 16 then 3 else
  if c.rb < 0 ∨ 1048576 < c.rb ∨ c.rp < 0 ∨ 65536 < c.rp then 4 else
  if c.ae < 0 ∨ 1048576 < c.ae then 5 else
  if c.ms < 1 ∨ 16777216 < c.ms ∨ c.ma < 1 ∨ 1048576 < c.ma then 6 else
  if 32000 * c.lo < c.ms * c.pu then 7 else
  if c.an < 0 ∨ 1048576 < c.an then 8 else
  if c.st < 1 ∨ 1000 < c.st ∨ c.ti < 1 ∨ 1000 < c.ti then 9 else
  if c.ss < upq c.hi c.pu ∨ c.ss < 3 * c.rb ∨ 16777216 < c.ss then 10 else
  if c.ro < 0 ∨ 1073741824 < c.ro then 11 else
  if c.br < 1 ∨ 1048576 < c.br then 12 else 0
/-- What holds of a configuration that may be. -/
structure Ok (c : Cf) : Prop where
  pu1 : 1 ≤ c.pu
  pu2 : c.pu ≤ 1024
  lo1 : 131072 ≤ c.lo
  lo2 : c.lo ≤ 8388608
  hi1 : c.lo ≤ c.hi
  hi2 : c.hi ≤ 8388608
  near : (c.hi - c.lo) * 16 ≤ c.lo
  rb1 : 0 ≤ c.rb
  rb2 : c.rb ≤ 1048576
  rp1 : 0 ≤ c.rp
  rp2 : c.rp ≤ 65536
  ae1 : 0 ≤ c.ae
  ae2 : c.ae ≤ 1048576
  ms1 : 1 ≤ c.ms
  ms2 : c.ms ≤ 16777216
  ma1 : 1 ≤ c.ma
  ma2 : c.ma ≤ 1048576
  fast : c.ms * c.pu ≤ 32000 * c.lo
  an1 : 0 ≤ c.an
  an2 : c.an ≤ 1048576
  st1 : 1 ≤ c.st
  st2 : c.st ≤ 1000
  ti1 : 1 ≤ c.ti
  ti2 : c.ti ≤ 1000
  ss1 : upq c.hi c.pu ≤ c.ss
  ss2 : 3 * c.rb ≤ c.ss
  ss3 : c.ss ≤ 16777216
  ro1 : 0 ≤ c.ro
  ro2 : c.ro ≤ 1073741824
  br1 : 1 ≤ c.br
  br2 : c.br ≤ 1048576
theorem ite_zero {p : Prop} [Decidable p] {k m : Nat} (hk : k ≠ 0) (h : (if p then k else m) = 0) : ¬ p ∧ m = 0 := by
  by_cases hp : p
  · rw [if_pos hp] at h; exact absurd h hk
  · rw [if_neg hp] at h; exact ⟨hp, h⟩
theorem ok_of {c : Cf} (h : wrong c = 0) : Ok c := by
  unfold wrong at h
  obtain ⟨h1, h⟩ := ite_zero (by decide) h
  obtain ⟨h2, h⟩ := ite_zero (by decide) h
  obtain ⟨h3, h⟩ := ite_zero (by decide) h
  obtain ⟨h4, h⟩ := ite_zero (by decide) h
  obtain ⟨h5, h⟩ := ite_zero (by decide) h
  obtain ⟨h6, h⟩ := ite_zero (by decide) h
  obtain ⟨h7, h⟩ := ite_zero (by decide) h
  obtain ⟨h8, h⟩ := ite_zero (by decide) h
  obtain ⟨h9, h⟩ := ite_zero (by decide) h
  obtain ⟨h10, h⟩ := ite_zero (by decide) h
  obtain ⟨h11, h⟩ := ite_zero (by decide) h
  obtain ⟨h12, h⟩ := ite_zero (by decide) h
  clear h
  constructor <;> omega
/-- A product of two numbers between bounds. -/
theorem mul_in {a b : Int} (A B : Int) (h1 : 0 ≤ a) (h2 : a ≤ A) (h3 : 0 ≤ b) (h4 : b ≤ B) : 0 ≤ a * b ∧ a * b ≤ A * B :=
  ⟨Int.mul_nonneg h1 h3, Int.mul_le_mul h2 h4 h3 (Int.le_trans h1 h2)⟩
theorem upq_le {a b : Int} (A : Int) (hb : 1 ≤ b) (ha : a ≤ A * b) : upq a b ≤ A := by
  unfold upq
  have h1 : (a + b - 1) / b ≤ (A * b + (b - 1)) / b := Int.ediv_le_ediv (by omega) (by omega)
  have h2 : (A * b + (b - 1)) / b = A := by
    rw [Int.add_comm, Int.add_mul_ediv_right _ _ (by omega), Int.ediv_eq_zero_of_lt (by omega) (by omega), Int.zero_add]
  omega
theorem upq_pos {a b : Int} (hb : 1 ≤ b) (ha : 0 ≤ a) : 0 ≤ upq a b := Int.ediv_nonneg (by omega) (by omega)
theorem upq_self {a b : Int} (hb : 1 ≤ b) (ha : 0 ≤ a) : upq a b ≤ a := upq_le a hb (by
  have : a * 1 ≤ a * b := Int.mul_le_mul_of_nonneg_left hb ha
  omega)
/-! ### Which track fits -/
def far (c : Cf) (g : Gp) : Int := g.acc + c.an + c.ms
def Bad (c : Cf) (G : List Sg) (H : List Gp) (i : Nat) : Prop := (H[i]!).off < far c (H[i]!) ∨ (G[(H[i]!).seg.toNat]!).len - (H[i]!).off < far c (H[i]!)
def IsFit (c : Cf) (G : List Sg) (H : List Gp) (r : Nat × Nat) : Prop :=
  (wrong c ≠ 0 ∧ r = (50, 0)) ∨ (wrong c = 0 ∧ (chk G H).1 ≠ 0 ∧ r = (51, 0)) ∨
  (wrong c = 0 ∧ (chk G H).1 = 0 ∧ r.1 = 11 ∧ r.2 < H.length ∧ Bad c G H r.2 ∧ ∀ j, j < r.2 → ¬ Bad c G H j) ∨
  (wrong c = 0 ∧ (chk G H).1 = 0 ∧ (∀ j, j < H.length → ¬ Bad c G H j) ∧ r = (0, 0))
noncomputable def fit (c : Cf) (G : List Sg) (H : List Gp) : Nat × Nat := @Classical.epsilon _ ⟨(0, 0)⟩ (IsFit c G H)
end Go.Proofs.Ytbacchdkankioaa.Cf
