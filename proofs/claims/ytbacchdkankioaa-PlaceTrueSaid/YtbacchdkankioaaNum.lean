/-
  Contracts of the functions of package num: what each returns for any integers of 64 bits. No condition.
-/
import Derived.Test.YtbacchdkankioaaRows
import Derived.WalkKit
import Derived.ProofKit
import Derived.OpenShut
import Derived.WalkLawsBesides
import Derived.Lib.Hide
import Derived.Outline
namespace Go.Proofs.Ytbacchdkankioaa.Num
open Go.ChangeShapes Go.WideShapes Go.ChangeAt Go.RowKit
set_option linter.unusedVariables false

/-- Does a number fit? -/
def Fits (n : Int) : Prop := -9223372036854775808 ≤ n ∧ n ≤ 9223372036854775807
instance (n : Int) : Decidable (Fits n) := by unfold Fits; infer_instance

/-- The number that fits and is nearest. -/
def sat (n : Int) : Int := if n < -9223372036854775808 then -9223372036854775808 else if 9223372036854775807 < n then 9223372036854775807 else n
theorem sat_fits {n : Int} (h : Fits n) : sat n = n := by unfold Fits at h; unfold sat; split <;> (try split) <;> omega

theorem add_yes (a b : Int) (w : World) (ha : Fits a) (hb : Fits b) (h : Fits (a + b)) :
    Calls Try.prog 38 #[.int .i64 a, .int .i64 b] w fun e w' => e = .returned (.tuple #[.int .i64 (a + b), .bool true]) ∧ w = w' := by
  obtain ⟨ha1, ha2⟩ := ha; obtain ⟨hb1, hb2⟩ := hb; obtain ⟨h1, h2⟩ := h
  by_cases hn : b < 0
  · have h1 : decide (a + b < a) = true := by simp; omega
    have h2 : decide (b < 0) = true := by simpa using hn
    go_enter Try.func38, Try.ntmps38
    go_wp2
    go_ret2
    exact ⟨rfl, rfl⟩
  · have h1 : decide (a + b < a) = false := by simp; omega
    have h2 : decide (b < 0) = false := by simpa using hn
    go_enter Try.func38, Try.ntmps38
    go_wp2
    go_ret2
    exact ⟨rfl, rfl⟩
theorem add_no (a b : Int) (w : World) (ha : Fits a) (hb : Fits b) (h : ¬ Fits (a + b)) :
    Calls Try.prog 38 #[.int .i64 a, .int .i64 b] w fun e w' => e = .returned (.tuple #[.int .i64 0, .bool false]) ∧ w = w' := by
  obtain ⟨ha1, ha2⟩ := ha; obtain ⟨hb1, hb2⟩ := hb; unfold Fits at h
  by_cases hn : b < 0
  · have h1 : decide (wrap64 (a + b) < a) = false := by unfold wrap64; simp; omega
    have h2 : decide (b < 0) = true := by simpa using hn
    go_enter Try.func38, Try.ntmps38
    go_wp2
    go_ret2
    exact ⟨rfl, rfl⟩
  · have h1 : decide (wrap64 (a + b) < a) = true := by unfold wrap64; simp; omega
    have h2 : decide (b < 0) = false := by simpa using hn
    go_enter Try.func38, Try.ntmps38
    go_wp2
    go_ret2
    exact ⟨rfl, rfl⟩

theorem sub_yes (a b : Int) (w : World) (ha : Fits a) (hb : Fits b) (h : Fits (a - b)) :
    Calls Try.prog 37 #[.int .i64 a, .int .i64 b] w fun e w' => e = .returned (.tuple #[.int .i64 (a - b), .bool true]) ∧ w = w' := by
  obtain ⟨ha1, ha2⟩ := ha; obtain ⟨hb1, hb2⟩ := hb; obtain ⟨h1, h2⟩ := h
  by_cases hn : b < 0
  · have h1 : decide (a < a - b) = true := by simp; omega
    have h2 : decide (b < 0) = true := by simpa using hn
    go_enter Try.func37, Try.ntmps37
    go_wp2
    go_ret2
    exact ⟨rfl, rfl⟩
  · have h1 : decide (a < a - b) = false := by simp; omega
    have h2 : decide (b < 0) = false := by simpa using hn
    go_enter Try.func37, Try.ntmps37
    go_wp2
    go_ret2
    exact ⟨rfl, rfl⟩
theorem sub_no (a b : Int) (w : World) (ha : Fits a) (hb : Fits b) (h : ¬ Fits (a - b)) :
    Calls Try.prog 37 #[.int .i64 a, .int .i64 b] w fun e w' => e = .returned (.tuple #[.int .i64 0, .bool false]) ∧ w = w' := by
  obtain ⟨ha1, ha2⟩ := ha; obtain ⟨hb1, hb2⟩ := hb; unfold Fits at h
  by_cases hn : b < 0
  · have h1 : decide (a < wrap64 (a - b)) = false := by unfold wrap64; simp; omega
    have h2 : decide (b < 0) = true := by simpa using hn
    go_enter Try.func37, Try.ntmps37
    go_wp2
    go_ret2
    exact ⟨rfl, rfl⟩
  · have h1 : decide (a < wrap64 (a - b)) = true := by unfold wrap64; simp; omega
    have h2 : decide (b < 0) = false := by simpa using hn
    go_enter Try.func37, Try.ntmps37
    go_wp2
    go_ret2
    exact ⟨rfl, rfl⟩

theorem outer_any (b : Bool) (w : World) :
    Calls Try.prog 46 #[.bool b] w fun e w' => e = .returned (.int .i64 (if b then -9223372036854775808 else 9223372036854775807)) ∧ w = w' := by
  cases b
  · go_enter Try.func46, Try.ntmps46
    go_wp2
    go_ret
    exact ⟨rfl, rfl⟩
  · go_enter Try.func46, Try.ntmps46
    go_wp2
    go_ret
    exact ⟨rfl, rfl⟩

theorem addsat_any (a b : Int) (w : World) (ha : Fits a) (hb : Fits b) :
    Calls Try.prog 30 #[.int .i64 a, .int .i64 b] w fun e w' => e = .returned (.int .i64 (sat (a + b))) ∧ w = w' := by
  by_cases h : Fits (a + b)
  · rw [sat_fits h]
    go_enter Try.func30, Try.ntmps30
    go_wp2_with (go_at_call 38; refine (add_yes a b _ ha hb h).mono ?_; rintro e w' ⟨rfl, rfl⟩)
    go_ret
    exact ⟨rfl, rfl⟩
  · have hs : (if decide (b < 0) then (-9223372036854775808 : Int) else 9223372036854775807) = sat (a + b) := by
      unfold Fits at ha hb h; unfold sat; by_cases hn : b < 0 <;> simp [hn] <;> (split <;> (try split) <;> omega)
    have c := fun W => outer_any (decide (b < 0)) W
    rw [hs] at c
    clear hs
    go_enter Try.func30, Try.ntmps30
    go_wp2_with (first | (go_at_call 38; refine (add_no a b _ ha hb h).mono ?_; rintro e w' ⟨rfl, rfl⟩) | (go_at_call 46; refine (c _).mono ?_; rintro e w' ⟨rfl, rfl⟩))
    go_ret
    exact ⟨rfl, rfl⟩
/-- The nearest number between two ends; the lower one if they are not in order. -/
def clamp (x lo hi : Int) : Int := max lo (min x hi)
theorem ret_int {k : IntKind} {a b : Int} (h : a = b) : Ending.returned (.int k a) = .returned (.int k b) := by rw [h]
theorem clamp_any (x lo hi : Int) (w : World) :
    Calls Try.prog 29 #[.int .i64 x, .int .i64 lo, .int .i64 hi] w fun e w' => e = .returned (.int .i64 (clamp x lo hi)) ∧ w = w' := by
  go_enter Try.func29, Try.ntmps29
  go_wp2
  all_goals
    go_ret
    exact ⟨ret_int (by unfold clamp; omega), rfl⟩

theorem nat_halves (a : Nat) : ∀ b : Nat, a + b = 2 * (a &&& b) + (a ^^^ b) := by
  induction a using Nat.strongRecOn with
  | _ a ih =>
    intro b
    by_cases h0 : a = 0
    · subst h0; simp
    · have ih' := ih (a / 2) (by omega) (b / 2)
      have e1 : (a &&& b) / 2 = (a / 2) &&& (b / 2) := by simpa using Nat.and_div_two_pow (a := a) (b := b) (n := 1)
      have e2 : (a ^^^ b) / 2 = (a / 2) ^^^ (b / 2) := by simpa using Nat.xor_div_two_pow (a := a) (b := b) (n := 1)
      have m1 : (a &&& b) % 2 = (a % 2) &&& (b % 2) := by simpa using Nat.and_mod_two_pow (a := a) (b := b) (n := 1)
      have m2 : (a ^^^ b) % 2 = (a % 2) ^^^ (b % 2) := by simpa using Nat.xor_mod_two_pow (a := a) (b := b) (n := 1)
      rw [← e1, ← e2] at ih'
      have ha : a % 2 = 0 ∨ a % 2 = 1 := by omega
      have hb : b % 2 = 0 ∨ b % 2 = 1 := by omega
      generalize a &&& b = x at *
      generalize a ^^^ b = y at *
      rcases ha with ha | ha <;> rcases hb with hb | hb <;> rw [ha, hb] at m1 m2
      · have m1 : x % 2 = 0 := m1
        have m2 : y % 2 = 0 := m2
        omega
      · have m1 : x % 2 = 0 := m1
        have m2 : y % 2 = 1 := m2
        omega
      · have m1 : x % 2 = 0 := m1
        have m2 : y % 2 = 1 := m2
        omega
      · have m1 : x % 2 = 1 := m1
        have m2 : y % 2 = 0 := m2
        omega
theorem wrap_bv (x : BitVec 64) : IntKind.i64.wrap (x.toNat : Int) = x.toInt := by
  have := x.isLt
  rw [IntKind.wrap_i64, BitVec.toInt_eq_toNat_cond]
  split <;> omega
theorem toInt_of (a : Int) (h : Fits a) : (BitVec.ofInt 64 a).toInt = a := by
  unfold Fits at h
  rw [BitVec.toInt_ofInt]
  exact Int.bmod_eq_of_le (by omega) (by omega)
theorem bits_half (a b : Int) (ha : Fits a) (hb : Fits b) : bits .and .i64 a b + bits .xor .i64 a b / 2 = (a + b) / 2 := by
  have e1 : bits .and .i64 a b = (BitVec.ofInt 64 a &&& BitVec.ofInt 64 b).toInt := wrap_bv _
  have e2 : bits .xor .i64 a b = (BitVec.ofInt 64 a ^^^ BitVec.ofInt 64 b).toInt := wrap_bv _
  have ea := toInt_of a ha
  have eb := toInt_of b hb
  rw [e1, e2]
  generalize BitVec.ofInt 64 a = A at *
  generalize BitVec.ofInt 64 b = B at *
  have hn := nat_halves A.toNat B.toNat
  rw [← BitVec.toNat_and, ← BitVec.toNat_xor] at hn
  have m1 : (A &&& B).msb = (A.msb && B.msb) := by simp
  have m2 : (A ^^^ B).msb = (A.msb ^^ B.msb) := by simp
  rw [BitVec.toInt_eq_msb_cond] at ea eb
  rw [BitVec.toInt_eq_msb_cond (A &&& B), BitVec.toInt_eq_msb_cond (A ^^^ B), m1, m2]
  generalize (A &&& B).toNat = X at *
  generalize (A ^^^ B).toNat = Y at *
  clear m1 m2 e1 e2
  cases hA : A.msb <;> cases hB : B.msb <;> rw [hA] at ea <;> rw [hB] at eb <;> simp at ea eb ⊢ <;> omega
theorem half_fits (a b : Int) (ha : Fits a) (hb : Fits b) : wrap64 ((a + b) / 2) = (a + b) / 2 := by
  unfold Fits at ha hb; unfold wrap64; omega
theorem mid_any (a b : Int) (w : World) (ha : Fits a) (hb : Fits b) :
    Calls Try.prog 40 #[.int .i64 a, .int .i64 b] w fun e w' => e = .returned (.int .i64 ((a + b) / 2)) ∧ w = w' := by
  have e : wrap64 (bits .and .i64 a b + bits .xor .i64 a b / 2) = (a + b) / 2 := by rw [bits_half a b ha hb]; exact half_fits a b ha hb
  have E := Lib.hid e
  clear e
  go_enter Try.func40, Try.ntmps40
  go_wp2
  go_ret
  exact ⟨ret_int E.out, rfl⟩
end Go.Proofs.Ytbacchdkankioaa.Num
