/-
  Bits turned in bytes, without a program: up to 16 bits side by side never go unseen by the sum.
-/
import Derived.Test.YtggannjlaehihaaImo
namespace Go.Proofs.Ytggannjlaehihaa.Imb
open Go.ChangeShapes Go.WideShapes Go.ChangeAt Go.RowKit
open Arr Steady Sx Sw Sl Sb Sc Sh Cr Fr Vs Gr Tk Tkh Tkl Img Imp Imo
set_option linter.unusedVariables false
set_option linter.unusedSimpArgs false

theorem crc_xor_left (L : List UInt8) : ∀ a b : BitVec 16, crc (a ^^^ b) L = crc a L ^^^ itr (8 * L.length) b := by
  induction L with
  | nil => intro a b; rfl
  | cons x r ih =>
    intro a b
    have e : byt (a ^^^ b) x = byt a x ^^^ itr 8 b := by
      have h := byt_xor a b x 0
      rw [UInt8.xor_zero] at h
      rw [h]
      congr 1
      unfold byt ent
      congr 1
      simp
    show crc (byt (a ^^^ b) x) r = crc (byt a x) r ^^^ itr (8 * (r.length + 1)) b
    rw [e, ih, ← itr_add, Nat.mul_add]
/-- One bit turned, counted from the highest one of the first byte. -/
def flip (L : List UInt8) (j : Nat) : List UInt8 := L.set (j / 8) (L[j / 8]! ^^^ ((128 : UInt8) >>> UInt8.ofNat (j % 8)))
theorem flip_len (L : List UInt8) (j : Nat) : (flip L j).length = L.length := by unfold flip; rw [List.length_set]
theorem one_bit : ∀ r, r < 8 → byt 0#16 ((128 : UInt8) >>> UInt8.ofNat r) = itr (8 - r) 32768#16 := by decide +kernel
theorem crc_flip {L : List UInt8} {j : Nat} (s : BitVec 16) (h : j < 8 * L.length) : crc s (flip L j) = crc s L ^^^ itr (8 * L.length - j) 32768#16 := by
  have hq : j / 8 < L.length := by omega
  have e1 : L = L.take (j / 8) ++ ([L[j / 8]!] ++ L.drop (j / 8 + 1)) := by
    rw [getElem!_pos L _ hq]
    simp
  have e2 : flip L j = L.take (j / 8) ++ ([L[j / 8]! ^^^ ((128 : UInt8) >>> UInt8.ofNat (j % 8))] ++ L.drop (j / 8 + 1)) := by
    unfold flip
    rw [List.set_eq_take_append_cons_drop, if_pos hq]
    rfl
  have hd : (L.drop (j / 8 + 1)).length = L.length - (j / 8 + 1) := List.length_drop
  rw [e2, crc_append, crc_append]
  conv => rhs; lhs; rw [e1]
  rw [crc_append, crc_append]
  obtain ⟨a, ha⟩ : ∃ a, crc s (L.take (j / 8)) = a := ⟨_, rfl⟩
  rw [ha]
  have k : crc a [L[j / 8]! ^^^ ((128 : UInt8) >>> UInt8.ofNat (j % 8))] = crc a [L[j / 8]!] ^^^ itr (8 - j % 8) 32768#16 := by
    show byt a _ = byt a _ ^^^ _
    have h := byt_xor a 0#16 (L[j / 8]!) ((128 : UInt8) >>> UInt8.ofNat (j % 8))
    rw [BitVec.xor_zero] at h
    rw [h, one_bit _ (Nat.mod_lt _ (by decide))]
  rw [k, crc_xor_left, ← itr_add, hd]
  congr 2
  omega
/-- The bits of a pattern, the first i of them turned from a place on. -/
def flp (L : List UInt8) (a : Nat) (T : BitVec 16) : Nat → List UInt8
  | 0 => L
  | i + 1 => if (T >>> (15 - i) &&& 1#16 == 1#16) = true then flip (flp L a T i) (a + i) else flp L a T i
theorem flp_len (L : List UInt8) (a : Nat) (T : BitVec 16) : ∀ i, (flp L a T i).length = L.length
  | 0 => rfl
  | i + 1 => by unfold flp; split; rw [flip_len, flp_len]; exact flp_len L a T i
/-- The bits that were turned. -/
def got (T : BitVec 16) : Nat → BitVec 16
  | 0 => 0#16
  | i + 1 => got T i ^^^ (if (T >>> (15 - i) &&& 1#16 == 1#16) = true then 1#16 <<< (15 - i) else 0#16)
theorem bit_up : ∀ i, i < 16 → itr (16 - i) 32768#16 = itr 16 (1#16 <<< (15 - i)) := by decide +kernel
theorem crc_flp {L : List UInt8} {a : Nat} (s : BitVec 16) (T : BitVec 16) (h : a + 16 ≤ 8 * L.length) : ∀ i, i ≤ 16 → crc s (flp L a T i) = crc s L ^^^ itr (8 * L.length - a - 16) (itr 16 (got T i)) := by
  intro i
  induction i with
  | zero => intro _; show crc s L = crc s L ^^^ itr _ (itr 16 0#16); rw [itr_zero, itr_zero, BitVec.xor_zero]
  | succ i ih =>
    intro hi
    unfold flp got
    by_cases hb : (T >>> (15 - i) &&& 1#16 == 1#16) = true
    · rw [if_pos hb, if_pos hb, crc_flip s (by rw [flp_len]; omega), ih (by omega), flp_len, itr_xor, itr_xor, ← BitVec.xor_assoc]
      congr 1
      rw [← bit_up i (by omega), ← itr_add]
      congr 1
      omega
    · rw [if_neg hb, if_neg hb, BitVec.xor_zero]
      exact ih (by omega)
theorem got_bit (T : BitVec 16) (j : Nat) (hj : j < 16) : ∀ i, i ≤ 16 → (got T i).getLsbD j = (decide (15 - j < i) && T.getLsbD j) := by
  intro i
  induction i with
  | zero => intro _; show (0#16).getLsbD j = _; simp
  | succ i ih =>
    intro hi
    unfold got
    rw [BitVec.getLsbD_xor, ih (by omega)]
    have hbit : (T >>> (15 - i) &&& 1#16 == 1#16) = T.getLsbD (15 - i) := by
      have e : T >>> (15 - i) &&& 1#16 = if T.getLsbD (15 - i) then 1#16 else 0#16 := by
        apply BitVec.eq_of_getLsbD_eq
        intro k hk
        rw [BitVec.getLsbD_and, BitVec.getLsbD_ushiftRight]
        by_cases hk0 : k = 0
        · subst hk0
          rw [Nat.add_zero]
          cases T.getLsbD (15 - i) <;> simp
        · have : (1#16).getLsbD k = false := by
            rw [BitVec.getLsbD_one]
            simp [hk0]
          rw [this, Bool.and_false]
          cases T.getLsbD (15 - i) <;> simp [hk0, BitVec.getLsbD_one]
      rw [e]
      cases T.getLsbD (15 - i) <;> decide
    rw [hbit]
    by_cases e : j = 15 - i
    · subst e
      have h1 : decide (15 - (15 - i) < i) = false := by simp; omega
      have h2 : decide (15 - (15 - i) < i + 1) = true := by simp; omega
      rw [h1, h2]
      have h3 : (1#16 <<< (15 - i)).getLsbD (15 - i) = true := by
        rw [BitVec.getLsbD_shiftLeft]
        simp [hj]
      cases hT : T.getLsbD (15 - i)
      · simp
      · simp [h3]
    · have h1 : decide (15 - j < i + 1) = decide (15 - j < i) := by
        have : ¬ 15 - j = i := by omega
        by_cases h : 15 - j < i
        · rw [decide_eq_true h, decide_eq_true (by omega)]
        · rw [decide_eq_false h, decide_eq_false (by omega)]
      have h3 : (1#16 <<< (15 - i)).getLsbD j = false := by
        rw [BitVec.getLsbD_shiftLeft, BitVec.getLsbD_one]
        simp
        omega
      rw [h1]
      cases hT : T.getLsbD (15 - i)
      · simp
      · rw [if_pos rfl, h3, Bool.xor_false]
theorem got_all (T : BitVec 16) : got T 16 = T := by
  apply BitVec.eq_of_getLsbD_eq
  intro j hj
  rw [got_bit T j hj 16 (Nat.le_refl _), decide_eq_true (by omega), Bool.true_and]
/-- They don't go unseen. -/
theorem opens_flp {L : List UInt8} {a : Nat} {T : BitVec 16} (hL : opens L = true) (hT : T ≠ 0#16) (h : a + 16 ≤ 8 * L.length) : opens (flp L a T 16) = false := by
  cases ho : opens (flp L a T 16) with
  | false => rfl
  | true =>
    exfalso
    have h1 := crc_of_opens ho
    rw [crc_flp _ T h 16 (Nat.le_refl _), crc_of_opens hL, got_all, BitVec.zero_xor] at h1
    exact hT (itr_zero' 16 (itr_zero' _ h1))
theorem opn_flp {D : List Sd} {H : List Gp} {a : Nat} {T : BitVec 16} (h : TrackMay (D.map toSg) H) (hT : T ≠ 0#16) (ha : a + 16 ≤ 8 * (img D H).length) : opnE (flp (img D H) a T 16) = 11 ∨ opnE (flp (img D H) a T 16) = 31 := by
  have hl := rest_le h
  have e := img_length D H
  have ho : opens (flp (img D H) a T 16) = false := opens_flp (L := img D H) (opens_seal _) hT ha
  unfold opnE
  rw [flp_len, if_neg (by omega)]
  by_cases hh : headB (flp (img D H) a T 16) = false
  · rw [if_pos hh]; exact .inl rfl
  · rw [if_neg hh, if_pos ho]; exact .inr rfl
end Go.Proofs.Ytggannjlaehihaa.Imb
