/-
  Contracts of the functions of package num: what each returns for any integers of 64 bits. No condition.
-/
import Derived.Test.YtnlcchelepnknaaRows
import Derived.WalkKit
import Derived.ProofKit
import Derived.OpenShut
import Derived.WalkLawsBesides
import Derived.Lib.Hide
import Derived.Outline
namespace Go.Proofs.Ytnlcchelepnknaa.Num
open Go.ChangeShapes Go.WideShapes Go.ChangeAt Go.RowKit
set_option linter.unusedVariables false

/-- Does a number fit? -/
def Fits (n : Int) : Prop := -9223372036854775808 ≤ n ∧ n ≤ 9223372036854775807
instance (n : Int) : Decidable (Fits n) := by unfold Fits; infer_instance

theorem fits_of_wf {a : Int} (h : (Lit.int .i64 a).wf = true) : Fits a := by
  simpa [Lit.wf, IntKind.min, IntKind.max, IntKind.bits, IntKind.signed, Fits] using h

/-- The number that fits and is nearest. -/
def sat (n : Int) : Int := if n < -9223372036854775808 then -9223372036854775808 else if 9223372036854775807 < n then 9223372036854775807 else n
theorem sat_fits {n : Int} (h : Fits n) : sat n = n := by unfold Fits at h; unfold sat; split <;> (try split) <;> omega

theorem add_yes (a b : Int) (w : World) (ha : Fits a) (hb : Fits b) (h : Fits (a + b)) :
    Calls Try.prog 19 #[.int .i64 a, .int .i64 b] w fun e w' => e = .returned (.tuple #[.int .i64 (a + b), .bool true]) ∧ w = w' := by
  obtain ⟨ha1, ha2⟩ := ha; obtain ⟨hb1, hb2⟩ := hb; obtain ⟨h1, h2⟩ := h
  by_cases hn : b < 0
  · have h1 : decide (a + b < a) = true := by simp; omega
    have h2 : decide (b < 0) = true := by simpa using hn
    go_enter Try.func19, Try.ntmps19
    go_wp2
    go_ret2
    exact ⟨rfl, rfl⟩
  · have h1 : decide (a + b < a) = false := by simp; omega
    have h2 : decide (b < 0) = false := by simpa using hn
    go_enter Try.func19, Try.ntmps19
    go_wp2
    go_ret2
    exact ⟨rfl, rfl⟩
theorem add_no (a b : Int) (w : World) (ha : Fits a) (hb : Fits b) (h : ¬ Fits (a + b)) :
    Calls Try.prog 19 #[.int .i64 a, .int .i64 b] w fun e w' => e = .returned (.tuple #[.int .i64 0, .bool false]) ∧ w = w' := by
  obtain ⟨ha1, ha2⟩ := ha; obtain ⟨hb1, hb2⟩ := hb; unfold Fits at h
  by_cases hn : b < 0
  · have h1 : decide (wrap64 (a + b) < a) = false := by unfold wrap64; simp; omega
    have h2 : decide (b < 0) = true := by simpa using hn
    go_enter Try.func19, Try.ntmps19
    go_wp2
    go_ret2
    exact ⟨rfl, rfl⟩
  · have h1 : decide (wrap64 (a + b) < a) = true := by unfold wrap64; simp; omega
    have h2 : decide (b < 0) = false := by simpa using hn
    go_enter Try.func19, Try.ntmps19
    go_wp2
    go_ret2
    exact ⟨rfl, rfl⟩

theorem zero_fits : Fits 0 := by unfold Fits; omega
/-- The absolute value. -/
def abs (a : Int) : Int := if a < 0 then -a else a
theorem outer_any (b : Bool) (w : World) :
    Calls Try.prog 20 #[.bool b] w fun e w' => e = .returned (.int .i64 (if b then -9223372036854775808 else 9223372036854775807)) ∧ w = w' := by
  cases b
  · go_enter Try.func20, Try.ntmps20
    go_wp2
    go_ret
    exact ⟨rfl, rfl⟩
  · go_enter Try.func20, Try.ntmps20
    go_wp2
    go_ret
    exact ⟨rfl, rfl⟩

theorem addsat_any (a b : Int) (w : World) (ha : Fits a) (hb : Fits b) :
    Calls Try.prog 14 #[.int .i64 a, .int .i64 b] w fun e w' => e = .returned (.int .i64 (sat (a + b))) ∧ w = w' := by
  by_cases h : Fits (a + b)
  · rw [sat_fits h]
    go_enter Try.func14, Try.ntmps14
    go_wp2_with (go_at_call 19; refine (add_yes a b _ ha hb h).mono ?_; rintro e w' ⟨rfl, rfl⟩)
    go_ret
    exact ⟨rfl, rfl⟩
  · have hs : (if decide (b < 0) then (-9223372036854775808 : Int) else 9223372036854775807) = sat (a + b) := by
      unfold Fits at ha hb h; unfold sat; by_cases hn : b < 0 <;> simp [hn] <;> (split <;> (try split) <;> omega)
    have c := fun W => outer_any (decide (b < 0)) W
    rw [hs] at c
    clear hs
    go_enter Try.func14, Try.ntmps14
    go_wp2_with (first | (go_at_call 19; refine (add_no a b _ ha hb h).mono ?_; rintro e w' ⟨rfl, rfl⟩) | (go_at_call 20; refine (c _).mono ?_; rintro e w' ⟨rfl, rfl⟩))
    go_ret
    exact ⟨rfl, rfl⟩
/-- The nearest number between two ends; the lower one if they are not in order. -/
def clamp (x lo hi : Int) : Int := max lo (min x hi)
theorem ret_int {k : IntKind} {a b : Int} (h : a = b) : Ending.returned (.int k a) = .returned (.int k b) := by rw [h]
theorem nat_halves (a : Nat) : ∀ b : Nat, a + b = 2 * (a &&& b) + (a ^^^ b) := by
  induction a using Nat.strongRecOn with
  | _ a ih =>
    intro b
    by_cases h0 : a = 0
    · subst h0; simp
    · have ih' := ih (a / 2) (by omega) (b / 2)
      have e1 : (a &&& b) / 2 = (a / 2) &&& (b / 2) := by simpa using Nat.and_div_two_pow (a := a) (b := b) (n := 1)
      have e2 : (a ^^^ b) / 2 = (a / 2) ^^^ (b / 2) := by simpa using Nat.xor_div_two_pow (a := a) (b := b) (n := 1)
      have m1 : (a &&& b) % 2 = (a % 2) &&& (b % 2) := by simpa using Nat.and_mod_two_pow (a := a) (b := b) (n := 1)
      have m2 : (a ^^^ b) % 2 = (a % 2) ^^^ (b % 2) := by simpa using Nat.xor_mod_two_pow (a := a) (b := b) (n := 1)
      rw [← e1, ← e2] at ih'
      have ha : a % 2 = 0 ∨ a % 2 = 1 := by omega
      have hb : b % 2 = 0 ∨ b % 2 = 1 := by omega
      generalize a &&& b = x at *
      generalize a ^^^ b = y at *
      rcases ha with ha | ha <;> rcases hb with hb | hb <;> rw [ha, hb] at m1 m2
      · have m1 : x % 2 = 0 := m1
        have m2 : y % 2 = 0 := m2
        omega
      · have m1 : x % 2 = 0 := m1
        have m2 : y % 2 = 1 := m2
        omega
      · have m1 : x % 2 = 0 := m1
        have m2 : y % 2 = 1 := m2
        omega
      · have m1 : x % 2 = 1 := m1
        have m2 : y % 2 = 0 := m2
        omega
theorem wrap_bv (x : BitVec 64) : IntKind.i64.wrap (x.toNat : Int) = x.toInt := by
  have := x.isLt
  rw [IntKind.wrap_i64, BitVec.toInt_eq_toNat_cond]
  split <;> omega
theorem toInt_of (a : Int) (h : Fits a) : (BitVec.ofInt 64 a).toInt = a := by
  unfold Fits at h
  rw [BitVec.toInt_ofInt]
  exact Int.bmod_eq_of_le (by omega) (by omega)
theorem bits_half (a b : Int) (ha : Fits a) (hb : Fits b) : bits .and .i64 a b + bits .xor .i64 a b / 2 = (a + b) / 2 := by
  have e1 : bits .and .i64 a b = (BitVec.ofInt 64 a &&& BitVec.ofInt 64 b).toInt := wrap_bv _
  have e2 : bits .xor .i64 a b = (BitVec.ofInt 64 a ^^^ BitVec.ofInt 64 b).toInt := wrap_bv _
  have ea := toInt_of a ha
  have eb := toInt_of b hb
  rw [e1, e2]
  generalize BitVec.ofInt 64 a = A at *
  generalize BitVec.ofInt 64 b = B at *
  have hn := nat_halves A.toNat B.toNat
  rw [← BitVec.toNat_and, ← BitVec.toNat_xor] at hn
  have m1 : (A &&& B).msb = (A.msb && B.msb) := by simp
  have m2 : (A ^^^ B).msb = (A.msb ^^ B.msb) := by simp
  rw [BitVec.toInt_eq_msb_cond] at ea eb
  rw [BitVec.toInt_eq_msb_cond (A &&& B), BitVec.toInt_eq_msb_cond (A ^^^ B), m1, m2]
  generalize (A &&& B).toNat = X at *
  generalize (A ^^^ B).toNat = Y at *
  clear m1 m2 e1 e2
  cases hA : A.msb <;> cases hB : B.msb <;> rw [hA] at ea <;> rw [hB] at eb <;> simp at ea eb ⊢ <;> omega
theorem half_fits (a b : Int) (ha : Fits a) (hb : Fits b) : wrap64 ((a + b) / 2) = (a + b) / 2 := by
  unfold Fits at ha hb; unfold wrap64; omega
theorem quo_parts (a b : Int) (ha : Fits a) (hb : Fits b) (h0 : ¬ b = 0) (hm : ¬ b = -1) (h : ¬ Fits (a * b)) :
    (wrap64 ((wrap64 (a * b)).tdiv b) != a) = true := by
  have hp : -9223372036854775808 ≤ wrap64 (a * b) ∧ wrap64 (a * b) ≤ 9223372036854775807 := by unfold wrap64; omega
  have hk : ∃ k : Int, wrap64 (a * b) = a * b + 18446744073709551616 * k := by
    refine ⟨-((a * b + 9223372036854775808) / 18446744073709551616), ?_⟩
    unfold wrap64; omega
  obtain ⟨k, hk⟩ := hk
  have hk0 : k ≠ 0 := by
    intro e; subst e
    apply h; unfold Fits; omega
  generalize hpp : wrap64 (a * b) = p at *
  clear hpp h
  have e1 : b * p.tdiv b + p.tmod b = p := Int.mul_tdiv_add_tmod p b
  have e2 : (p.tmod b).natAbs = p.natAbs % b.natAbs := Int.natAbs_tmod p b
  have e3 : (p.tdiv b).natAbs = p.natAbs / b.natAbs := Int.natAbs_tdiv p b
  have hb0 : 0 < b.natAbs := by omega
  have e4 := Nat.mod_lt p.natAbs hb0
  unfold Fits at ha hb
  have hq : -9223372036854775808 ≤ p.tdiv b ∧ p.tdiv b ≤ 9223372036854775807 := by
    by_cases h1 : b = 1
    · subst h1; simpa using hp
    · have h2 : 2 ≤ b.natAbs := by omega
      have e5 : p.natAbs / b.natAbs ≤ p.natAbs / 2 := Nat.div_le_div_left h2 (by omega)
      omega
  rw [IntWalk.wrap64_in _ hq]
  generalize p.tdiv b = q at *
  generalize p.tmod b = r at *
  by_cases hqa : q = a
  · exfalso
    subst hqa
    have ec : b * q = q * b := Int.mul_comm _ _
    generalize q * b = z at *
    omega
  · simpa using hqa
end Go.Proofs.Ytnlcchelepnknaa.Num
