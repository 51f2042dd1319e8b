/-
  Bits of natural numbers: plain mathematics. No condition beyond each lemma's own.
-/
import Derived.Test.YtmbmjdlcpjmnoaaArr
import Derived.Lib.BitFns
namespace Go.Proofs.Ytmbmjdlcpjmnoaa.Bt
open Go.ChangeShapes Go.WideShapes Go.ChangeAt Go.RowKit
open Arr
set_option linter.unusedVariables false

/-- Bit i of n. -/
def bt (n i : Nat) : Nat := n / 2 ^ i % 2
theorem bt_le (n i : Nat) : bt n i ≤ 1 := by unfold bt; omega
theorem bt_zero (i : Nat) : bt 0 i = 0 := by simp [bt]
theorem pow_pos (i : Nat) : 0 < 2 ^ i := Nat.two_pow_pos i
theorem div_succ (n i : Nat) : n / 2 ^ (i + 1) = n / 2 ^ i / 2 := by rw [Nat.pow_succ, Nat.div_div_eq_div_mul]
theorem div_bt (n i : Nat) : n / 2 ^ i = 2 * (n / 2 ^ (i + 1)) + bt n i := by rw [div_succ]; unfold bt; omega
theorem mod_bt (n i : Nat) : n % 2 ^ (i + 1) = n % 2 ^ i + 2 ^ i * bt n i := by unfold bt; rw [Nat.pow_succ, Nat.mod_mul]
theorem bt_high {n i j : Nat} (h : n < 2 ^ j) (hij : j ≤ i) : bt n i = 0 := by
  unfold bt
  rw [Nat.div_eq_of_lt (Nat.lt_of_lt_of_le h (Nat.pow_le_pow_right (by omega) hij))]
theorem bt_shr (n k i : Nat) : bt (n / 2 ^ k) i = bt n (i + k) := by
  unfold bt
  rw [Nat.div_div_eq_div_mul, ← Nat.pow_add, Nat.add_comm k i]
theorem bt_shl (n k i : Nat) : bt (n * 2 ^ k) i = if k ≤ i then bt n (i - k) else 0 := by
  unfold bt
  by_cases h : k ≤ i
  · rw [if_pos h]
    obtain ⟨j, rfl⟩ : ∃ j, i = k + j := ⟨i - k, by omega⟩
    rw [Nat.pow_add, Nat.add_sub_cancel_left, ← Nat.div_div_eq_div_mul, Nat.mul_div_cancel _ (pow_pos k)]
  · rw [if_neg h]
    obtain ⟨j, rfl⟩ : ∃ j, k = i + 1 + j := ⟨k - (i + 1), by omega⟩
    rw [Nat.pow_add, Nat.pow_succ, show n * (2 ^ i * 2 * 2 ^ j) = (n * 2 ^ j * 2) * 2 ^ i by ac_rfl, Nat.mul_div_cancel _ (pow_pos i), Nat.mul_mod_left]
/-- Two halves of 64 bits. -/
theorem bt_lo {lo : Nat} (hi : Nat) {i : Nat} (h : i < 64) : bt (hi * 18446744073709551616 + lo) i = bt lo i := by
  unfold bt
  obtain ⟨j, hj⟩ : ∃ j, 64 = i + 1 + j := ⟨64 - (i + 1), by omega⟩
  rw [show (18446744073709551616 : Nat) = 2 ^ 64 from rfl, hj, Nat.pow_add, Nat.pow_succ, show hi * (2 ^ i * 2 * 2 ^ j) = 2 ^ i * (hi * 2 ^ j * 2) by ac_rfl, Nat.mul_add_div (pow_pos i)]
  omega
theorem bt_hi {lo : Nat} (hi : Nat) (i : Nat) (h : lo < 18446744073709551616) : bt (hi * 18446744073709551616 + lo) (64 + i) = bt hi i := by
  unfold bt
  rw [Nat.pow_add, ← Nat.div_div_eq_div_mul]
  congr 2
  rw [show (2 : Nat) ^ 64 = 18446744073709551616 from rfl]
  omega
/-- What goes over from the lowest k places. -/
def cy (n m k : Nat) : Nat := (n % 2 ^ k + m % 2 ^ k) / 2 ^ k
theorem cy_zero (n m : Nat) : cy n m 0 = 0 := by simp [cy, Nat.mod_one]
theorem cy_le (n m k : Nat) : cy n m k ≤ 1 := by
  unfold cy
  have h1 := Nat.mod_lt n (pow_pos k)
  have h2 := Nat.mod_lt m (pow_pos k)
  have : (n % 2 ^ k + m % 2 ^ k) / 2 ^ k < 2 := by rw [Nat.div_lt_iff_lt_mul (pow_pos k)]; omega
  omega
theorem cy_succ (n m k : Nat) : cy n m (k + 1) = (bt n k + bt m k + cy n m k) / 2 := by
  unfold cy
  rw [mod_bt, mod_bt, Nat.pow_succ, ← Nat.div_div_eq_div_mul]
  congr 1
  rw [show n % 2 ^ k + 2 ^ k * bt n k + (m % 2 ^ k + 2 ^ k * bt m k) = 2 ^ k * (bt n k + bt m k) + (n % 2 ^ k + m % 2 ^ k) by rw [Nat.mul_add]; omega, Nat.mul_add_div (pow_pos k)]
theorem bt_add (n m k : Nat) : bt (n + m) k = (bt n k + bt m k + cy n m k) % 2 := by
  have e : (n + m) / 2 ^ k = n / 2 ^ k + m / 2 ^ k + cy n m k := by
    unfold cy
    have hn := Nat.div_add_mod n (2 ^ k)
    have hm := Nat.div_add_mod m (2 ^ k)
    rw [show n + m = 2 ^ k * (n / 2 ^ k + m / 2 ^ k) + (n % 2 ^ k + m % 2 ^ k) by rw [Nat.mul_add]; omega, Nat.mul_add_div (pow_pos k)]
  have h1 : bt (n + m) k = (n / 2 ^ k + m / 2 ^ k + cy n m k) % 2 := by unfold bt; rw [e]
  rw [h1]
  unfold bt
  omega
/-- The numbers of 128 bits. -/
def W128 (n : Nat) : Prop := n < 340282366920938463463374607431768211456
theorem w128 (n : Nat) : W128 n ↔ n < 2 ^ 128 := Iff.rfl
/-- 128 cells with the bits of n. -/
def bv (n : Nat) : Array Value := ints 128 (fun i => (bt n i : Int))
theorem bv_size (n : Nat) : (bv n).size = 128 := ints_size _ _
theorem bv_one (n : Nat) : (bv n).all (·.oneCell') = true := ints_one _ _
theorem bv_ne (n : Nat) : ¬ bv n = #[] := ints_ne _ _ (by omega)
theorem cy_128 {n m : Nat} (hn : W128 n) (hm : W128 m) : cy n m 128 = (n + m) / 340282366920938463463374607431768211456 := by
  unfold cy
  rw [Nat.mod_eq_of_lt ((w128 n).1 hn), Nat.mod_eq_of_lt ((w128 m).1 hm)]
/-- Which is greater, told by the highest bit that differs. -/
theorem lt_of_bt {n m i : Nat} (he : n / 2 ^ (i + 1) = m / 2 ^ (i + 1)) (h : bt n i < bt m i) : n < m := by
  have h1 := div_bt n i
  have h2 := div_bt m i
  have h3 : n / 2 ^ i < m / 2 ^ i := by omega
  exact Nat.lt_of_div_lt_div h3
theorem eq_step {n m i : Nat} (he : n / 2 ^ (i + 1) = m / 2 ^ (i + 1)) (h : bt n i = bt m i) : n / 2 ^ i = m / 2 ^ i := by
  have h1 := div_bt n i
  have h2 := div_bt m i
  omega
theorem eq_top {n m : Nat} (hn : W128 n) (hm : W128 m) : n / 2 ^ 128 = m / 2 ^ 128 := by
  rw [Nat.div_eq_of_lt ((w128 n).1 hn), Nat.div_eq_of_lt ((w128 m).1 hm)]
theorem zero_top {n : Nat} (hn : W128 n) : n / 2 ^ 128 = 0 := Nat.div_eq_of_lt ((w128 n).1 hn)
/-- The length: the least l with n < 2^l. -/
def IsLen (n l : Nat) : Prop := n < 2 ^ l ∧ (0 < l → 2 ^ (l - 1) ≤ n)
theorem isLen_unique {n l k : Nat} (h : IsLen n l) (g : IsLen n k) : l = k := by
  obtain ⟨h1, h2⟩ := h
  obtain ⟨g1, g2⟩ := g
  rcases Nat.lt_trichotomy l k with hl | hl | hl
  · have := Nat.pow_le_pow_right (n := 2) (by omega) (show l ≤ k - 1 by omega)
    have := g2 (by omega)
    omega
  · exact hl
  · have := Nat.pow_le_pow_right (n := 2) (by omega) (show k ≤ l - 1 by omega)
    have := h2 (by omega)
    omega
theorem isLen_step {n i : Nat} (he : n / 2 ^ (i + 1) = 0) (h : bt n i = 1) : IsLen n (i + 1) := by
  have h1 := div_bt n i
  rw [he, h] at h1
  refine ⟨?_, fun _ => ?_⟩
  · exact (Nat.div_eq_zero_iff_lt (pow_pos _)).1 he
  · have := Nat.div_mul_le_self n (2 ^ i)
    rw [h1] at this
    simpa using this
theorem isLen_zero : IsLen 0 0 := ⟨by simp, by omega⟩
theorem bitLen_isLen {x : Nat} (h : x < 18446744073709551616) : IsLen x (Lib.bitLen x) := by
  have aux : ∀ (f x : Nat), x < 2 ^ f → IsLen x (Lib.bitLenAux f x) := by
    intro f
    induction f with
    | zero => intro x hx; have : x = 0 := by simpa using hx
              subst this; exact isLen_zero
    | succ f ih =>
      intro x hx
      unfold Lib.bitLenAux
      by_cases h0 : x = 0
      · rw [if_pos h0]; subst h0; exact isLen_zero
      · rw [if_neg h0]
        have hlt : x / 2 < 2 ^ f := by rw [Nat.pow_succ] at hx; omega
        obtain ⟨h1, h2⟩ := ih (x / 2) hlt
        refine ⟨?_, fun _ => ?_⟩
        · rw [Nat.add_comm, Nat.pow_succ]; omega
        · rw [Nat.add_sub_cancel_left]
          rcases Nat.eq_zero_or_pos (Lib.bitLenAux f (x / 2)) with hz | hp
          · rw [hz]; simp; omega
          · have := h2 hp
            have e : Lib.bitLenAux f (x / 2) = (Lib.bitLenAux f (x / 2) - 1) + 1 := by omega
            rw [e, Nat.pow_succ]; omega
  exact aux 64 x h
theorem isLen_high {hi lo l : Nat} (hl : lo < 18446744073709551616) (hp : 0 < hi) (h : IsLen hi l) : IsLen (hi * 18446744073709551616 + lo) (64 + l) := by
  obtain ⟨h1, h2⟩ := h
  have hl0 : 0 < l := by
    rcases Nat.eq_zero_or_pos l with e | e
    · subst e; simp at h1; omega
    · exact e
  have h3 := h2 hl0
  refine ⟨?_, fun _ => ?_⟩
  · rw [Nat.pow_add, show (2 : Nat) ^ 64 = 18446744073709551616 from rfl]
    have : hi + 1 ≤ 2 ^ l := h1
    have := Nat.mul_le_mul_left 18446744073709551616 this
    omega
  · rw [show 64 + l - 1 = 64 + (l - 1) by omega, Nat.pow_add, show (2 : Nat) ^ 64 = 18446744073709551616 from rfl]
    have := Nat.mul_le_mul_left 18446744073709551616 h3
    omega
end Go.Proofs.Ytmbmjdlcpjmnoaa.Bt
