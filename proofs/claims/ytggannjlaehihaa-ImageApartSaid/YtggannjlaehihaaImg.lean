/-
  Images of tracks, without a program: numbers in bytes, what is read at a place and what is laid, each way back.
-/
import Derived.Test.YtggannjlaehihaaTkl
import Derived.Test.YtggannjlaehihaaFr
namespace Go.Proofs.Ytggannjlaehihaa.Img
open Go.ChangeShapes Go.WideShapes Go.ChangeAt Go.RowKit
open Arr Steady Sx Sw Sl Sb Sc Sh Cr Fr Vs Gr Tk Tkh Tkl
set_option linter.unusedVariables false
set_option linter.unusedSimpArgs false

/-! ### Bytes that stand at a place -/
structure Stands (L : List UInt8) (a : Nat) (X : List UInt8) : Prop where
  fits : a + X.length ≤ L.length
  here : ∀ i, i < X.length → L[a + i]! = X[i]!
theorem stands_nil {L : List UInt8} {a : Nat} (h : a ≤ L.length) : Stands L a [] := ⟨by simpa using h, fun i hi => by simp at hi⟩
theorem get_left {X Y : List UInt8} {i : Nat} (h : i < X.length) : (X ++ Y)[i]! = X[i]! := by
  rw [getElem!_pos _ i (by rw [List.length_append]; omega), getElem!_pos X i h, List.getElem_append_left h]
theorem get_right {X Y : List UInt8} {i : Nat} (h : i < Y.length) : (X ++ Y)[X.length + i]! = Y[i]! := by
  rw [getElem!_pos _ _ (by rw [List.length_append]; omega), getElem!_pos Y i h, List.getElem_append_right (by omega)]
  congr 1
  omega
theorem stands_append {L X Y : List UInt8} {a : Nat} (h : Stands L a X) (k : Stands L (a + X.length) Y) : Stands L a (X ++ Y) := by
  refine ⟨by rw [List.length_append]; have := k.fits; omega, fun i hi => ?_⟩
  by_cases e : i < X.length
  · rw [get_left e]; exact h.here i e
  · rw [List.length_append] at hi
    have e' : i = X.length + (i - X.length) := by omega
    rw [e', get_right (by omega), ← Nat.add_assoc]
    exact k.here _ (by omega)
theorem stands_left {L X Y : List UInt8} {a : Nat} (h : Stands L a (X ++ Y)) : Stands L a X :=
  ⟨by have := h.fits; rw [List.length_append] at this; omega, fun i hi => by rw [h.here i (by rw [List.length_append]; omega), get_left hi]⟩
theorem stands_right {L X Y : List UInt8} {a : Nat} (h : Stands L a (X ++ Y)) : Stands L (a + X.length) Y :=
  ⟨by have := h.fits; rw [List.length_append] at this; omega, fun i hi => by rw [Nat.add_assoc, h.here (X.length + i) (by rw [List.length_append]; omega), get_right hi]⟩
/-- What stands from the beginning to the end is all. -/
theorem stands_all {L X : List UInt8} (h : Stands L 0 X) (hl : X.length = L.length) : L = X := by
  refine List.ext_getElem hl.symm (fun i h1 h2 => ?_)
  have := h.here i h2
  rw [Nat.zero_add, getElem!_pos L i h1, getElem!_pos X i h2] at this
  exact this

/-! ### Numbers -/
/-- A number in n bytes, the highest one first. -/
def pb (v : Int) : Nat → List UInt8
  | 0 => []
  | n + 1 => pb (v / 256) n ++ [by8 v]
theorem pb_len (v : Int) : ∀ n, (pb v n).length = n
  | 0 => rfl
  | n + 1 => by unfold pb; rw [List.length_append, pb_len _ n]; rfl
def bt (L : List UInt8) (i : Nat) : Int := ((L[i]!).toNat : Int)
theorem bt_byte (L : List UInt8) (i : Nat) : 0 ≤ bt L i ∧ bt L i < 256 := by
  have h := (L[i]!).toNat_lt
  unfold bt
  omega
/-- The number that stands in the first k bytes from a place on. -/
def vl (L : List UInt8) (a : Nat) (sign : Bool) : Nat → Int
  | 0 => 0
  | k + 1 => 256 * vl L a sign k + (if k = 0 ∧ sign = true ∧ 128 ≤ bt L a then bt L a - 256 else bt L (a + k))
/-- The numbers that n bytes hold. -/
def Rng (sign : Bool) (n : Nat) (v : Int) : Prop := if sign = true then -(128 * 256 ^ (n - 1)) ≤ v ∧ v < 128 * 256 ^ (n - 1) else 0 ≤ v ∧ v < 256 ^ n
theorem rng_div {sign : Bool} {n : Nat} {v : Int} (hn : 1 ≤ n) (h : Rng sign (n + 1) v) : Rng sign n (v / 256) := by
  unfold Rng at h ⊢
  obtain ⟨m, rfl⟩ : ∃ m, n = m + 1 := ⟨n - 1, by omega⟩
  rw [show m + 1 + 1 - 1 = m + 1 by omega] at h
  rw [show m + 1 - 1 = m by omega]
  have e : (256 : Int) ^ (m + 1) = 256 * 256 ^ m := by rw [Int.pow_succ, Int.mul_comm]
  have e2 : (256 : Int) ^ (m + 1 + 1) = 256 * 256 ^ (m + 1) := by rw [Int.pow_succ, Int.mul_comm]
  split at h
  · rw [if_pos (by assumption)]
    rw [e] at h
    obtain ⟨P, hP⟩ : ∃ P, (256 : Int) ^ m = P := ⟨_, rfl⟩
    rw [hP] at h ⊢
    omega
  · rw [if_neg (by assumption)]
    rw [e2] at h
    obtain ⟨P, hP⟩ : ∃ P, (256 : Int) ^ (m + 1) = P := ⟨_, rfl⟩
    rw [hP] at h ⊢
    omega
theorem bt_by8 {L : List UInt8} {i : Nat} {v : Int} (h : L[i]! = by8 v) : bt L i = v % 256 := by unfold bt; rw [h, by8_toNat]
theorem vl_pb {L : List UInt8} {a : Nat} {sign : Bool} : ∀ (n : Nat) (v : Int), 1 ≤ n → Rng sign n v → Stands L a (pb v n) → vl L a sign n = v := by
  intro n
  induction n with
  | zero => intro v h; omega
  | succ n ih =>
    intro v _ hr hs
    have hs1 : Stands L a (pb (v / 256) n ++ [by8 v]) := hs
    have hb : bt L (a + n) = v % 256 := by
      have h := (stands_right hs1).here 0 (by simp)
      rw [pb_len] at h
      exact bt_by8 h
    unfold vl
    by_cases hn : n = 0
    · subst hn
      rw [Nat.add_zero] at hb ⊢
      unfold vl
      rw [hb]
      unfold Rng at hr
      cases sign with
      | true =>
        simp at hr
        by_cases h : 128 ≤ v % 256
        · rw [if_pos ⟨rfl, rfl, h⟩]; omega
        · rw [if_neg (fun k => h k.2.2)]; omega
      | false =>
        simp at hr
        rw [if_neg (fun k => by cases k.2.1)]
        omega
    · rw [if_neg (fun k => hn k.1), ih (v / 256) (by omega) (rng_div (by omega) hr) (stands_left hs1), hb]
      omega
theorem pb_vl {L : List UInt8} {a : Nat} {sign : Bool} : ∀ n, a + n ≤ L.length → Stands L a (pb (vl L a sign n) n) := by
  intro n
  induction n with
  | zero => intro h; exact stands_nil (by omega)
  | succ n ih =>
    intro h
    have hb := bt_byte L (a + n)
    have key : (by8 (vl L a sign (n + 1))) = L[a + n]! := by
      rw [← by8_byte (L[a + n]!)]
      refine byte_eq ?_
      show (256 * vl L a sign n + (if n = 0 ∧ sign = true ∧ 128 ≤ bt L a then bt L a - 256 else bt L (a + n))) % 256 = bt L (a + n) % 256
      split
      · rename_i h0
        rw [h0.1, Nat.add_zero]
        omega
      · omega
    have hl : (pb (vl L a sign (n + 1) / 256) n).length = n := pb_len _ n
    show Stands L a (pb (vl L a sign (n + 1) / 256) n ++ [by8 (vl L a sign (n + 1))])
    refine stands_append ?_ ⟨by rw [hl]; simp; omega, fun i hi => by
      obtain rfl : i = 0 := by simpa using hi
      rw [hl, key]
      rfl⟩
    by_cases hn : n = 0
    · subst hn
      exact stands_nil (by omega)
    · have e : vl L a sign (n + 1) / 256 = vl L a sign n := by
        show (256 * vl L a sign n + (if n = 0 ∧ sign = true ∧ 128 ≤ bt L a then bt L a - 256 else bt L (a + n))) / 256 = _
        rw [if_neg (fun k => hn k.1)]
        omega
      rw [e]
      exact ih (by omega)
theorem vl_uns (L : List UInt8) (a : Nat) : ∀ n, 0 ≤ vl L a false n
  | 0 => Int.le_refl _
  | n + 1 => by
    unfold vl
    have := vl_uns L a n
    have := bt_byte L (a + n)
    rw [if_neg (fun k => by cases k.2.1)]
    omega
theorem vl_sign (L : List UInt8) (a : Nat) : ∀ n, n ≤ 7 → -36028797018963968 ≤ vl L a true n ∧ vl L a true n ≤ 36028797018963967 := by
  have st : ∀ k, vl L a true (k + 1) = 256 * vl L a true k + (if k = 0 ∧ true = true ∧ 128 ≤ bt L a then bt L a - 256 else bt L (a + k)) := fun _ => rfl
  have c : ∀ k, 0 ≤ bt L k ∧ bt L k < 256 := bt_byte L
  have h1 : -128 ≤ vl L a true 1 ∧ vl L a true 1 ≤ 127 := by
    rw [st 0]
    have := c a
    show -128 ≤ 256 * 0 + _ ∧ 256 * 0 + _ ≤ _
    by_cases h : 128 ≤ bt L a
    · rw [if_pos ⟨rfl, rfl, h⟩]; omega
    · rw [if_neg (fun k => h k.2.2), Nat.add_zero]; omega
  have nx : ∀ k, k ≠ 0 → vl L a true (k + 1) = 256 * vl L a true k + bt L (a + k) := fun k hk => by rw [st k, if_neg (fun h => hk h.1)]
  have h2 : vl L a true 2 = 256 * vl L a true 1 + bt L (a + 1) := nx 1 (by decide)
  have h3 : vl L a true 3 = 256 * vl L a true 2 + bt L (a + 2) := nx 2 (by decide)
  have h4 : vl L a true 4 = 256 * vl L a true 3 + bt L (a + 3) := nx 3 (by decide)
  have h5 : vl L a true 5 = 256 * vl L a true 4 + bt L (a + 4) := nx 4 (by decide)
  have h6 : vl L a true 6 = 256 * vl L a true 5 + bt L (a + 5) := nx 5 (by decide)
  have h7 : vl L a true 7 = 256 * vl L a true 6 + bt L (a + 6) := nx 6 (by decide)
  have c1 := c (a + 1)
  have c2 := c (a + 2)
  have c3 := c (a + 3)
  have c4 := c (a + 4)
  have c5 := c (a + 5)
  have c6 := c (a + 6)
  intro n hn
  have h0 : vl L a true 0 = 0 := rfl
  rcases (show n = 0 ∨ n = 1 ∨ n = 2 ∨ n = 3 ∨ n = 4 ∨ n = 5 ∨ n = 6 ∨ n = 7 by omega) with rfl | rfl | rfl | rfl | rfl | rfl | rfl | rfl <;> omega
end Go.Proofs.Ytggannjlaehihaa.Img
