/-
  Frames, without a program: the bytes of a frame, the frame of bytes, their errors; one is the other's way back; what a changed byte does. No condition.
-/
import Derived.Test.YtggannjlaehihaaCr
namespace Go.Proofs.Ytggannjlaehihaa.Fr
open Sb Cr
set_option linter.unusedVariables false
set_option linter.unusedSimpArgs false

/-! ### Bytes -/
theorem by8_byte (x : UInt8) : by8 (x.toNat : Int) = x := by
  apply UInt8.toNat_inj.1
  have h := by8_toNat (x.toNat : Int)
  have hx := x.toNat_lt
  omega
theorem hib_nat (s : BitVec 16) : by8 ((s.toNat / 256 : Nat) : Int) = hib s := by
  apply UInt8.toNat_inj.1
  have h := by8_toNat ((s.toNat / 256 : Nat) : Int)
  have hs := s.isLt
  have e : (hib s).toNat = s.toNat / 256 := by
    show ((s >>> 8).setWidth 8).toNat = _
    rw [BitVec.toNat_setWidth, BitVec.toNat_ushiftRight, Nat.shiftRight_eq_div_pow]
    omega
  omega
theorem lob_nat (s : BitVec 16) : by8 ((s.toNat % 256 : Nat) : Int) = lob s := by
  apply UInt8.toNat_inj.1
  have h := by8_toNat ((s.toNat % 256 : Nat) : Int)
  have e : (lob s).toNat = s.toNat % 256 := by
    show (s.setWidth 8).toNat = _
    rw [BitVec.toNat_setWidth]
  omega
theorem byte_eq {z z' : Int} (h : z % 256 = z' % 256) : by8 z = by8 z' := by
  apply UInt8.toNat_inj.1
  have h1 := by8_toNat z
  have h2 := by8_toNat z'
  omega

/-! ### Frames -/
def ksize (k : Int) : Nat := if k = 1 ∨ k = 2 ∨ k = 5 then 2 else if k = 3 ∨ k = 4 then 4 else 0
def lift (v : Int) : Int := if v < 0 then v + 4294967296 else v
def body (k s v : Int) : List UInt8 := [by8 k, by8 s, by8 (ksize k : Int)] ++ (if ksize k = 4 then [by8 (lift v / 16777216), by8 (lift v / 65536 % 256)] else []) ++ [by8 (lift v / 256 % 256), by8 (lift v % 256)]
/-- The number of some bytes, the highest one first. -/
def num (L : List UInt8) : Nat := L.foldl (fun v x => 256 * v + x.toNat) 0
def low (n : Nat) (v : Nat) : Int := if n = 4 ∧ 2147483648 ≤ v then (v : Int) - 4294967296 else v
def hd (L : List UInt8) : Int := ((L[0]!).toNat : Int)
def getE (L : List UInt8) : Nat :=
  if L.length < 5 then 14 else if ksize (hd L) = 0 then 30 else if (L[2]!).toNat ≠ ksize (hd L) ∨ L.length ≠ 5 + ksize (hd L) then 11 else if opens L then 0 else 31
def getV (L : List UInt8) : Int := low (ksize (hd L)) (num ((L.drop 3).take (ksize (hd L))))
def getF (L : List UInt8) : Int × Int × Int := if getE L = 0 then (hd L, ((L[1]!).toNat : Int), getV L) else (0, 0, 0)
theorem small {z : Int} (h0 : 0 ≤ z) (h : z < 256) : ((by8 z).toNat : Int) = z := by
  rw [by8_toNat]
  omega
theorem seal_of_opens {L : List UInt8} (h : opens L = true) : L = seal_ (L.take (L.length - 2)) := by
  unfold opens at h
  rw [Bool.and_eq_true] at h
  have h2 : 2 ≤ L.length := of_decide_eq_true h.1
  have ht := eq_of_beq h.2
  unfold seal_
  rw [← ht]
  have e1 : hib (told (L[L.length - 2]!) (L[L.length - 1]!)) = L[L.length - 2]! := by
    apply UInt8.toNat_inj.1
    show ((told (L[L.length - 2]!) (L[L.length - 1]!) >>> 8).setWidth 8).toNat = _
    rw [BitVec.toNat_setWidth, BitVec.toNat_ushiftRight, Nat.shiftRight_eq_div_pow, told_nat]
    have := (L[L.length - 2]!).toNat_lt
    have := (L[L.length - 1]!).toNat_lt
    omega
  have e2 : lob (told (L[L.length - 2]!) (L[L.length - 1]!)) = L[L.length - 1]! := by
    apply UInt8.toNat_inj.1
    show ((told (L[L.length - 2]!) (L[L.length - 1]!)).setWidth 8).toNat = _
    rw [BitVec.toNat_setWidth, told_nat]
    have := (L[L.length - 2]!).toNat_lt
    have := (L[L.length - 1]!).toNat_lt
    omega
  rw [e1, e2]
  apply List.ext_getElem?
  intro i
  rw [List.getElem?_append, List.length_take]
  by_cases hi : i < min (L.length - 2) L.length
  · rw [if_pos hi, List.getElem?_take_of_lt (by omega)]
  · rw [if_neg hi]
    by_cases h3 : i = L.length - 2
    · subst h3
      have : L.length - 2 - min (L.length - 2) L.length = 0 := by omega
      rw [this, getElem!_pos L _ (by omega)]
      simp
    · by_cases h4 : i = L.length - 1
      · subst h4
        have : L.length - 1 - min (L.length - 2) L.length = 1 := by omega
        rw [this, getElem!_pos L (L.length - 1) (by omega)]
        simp
      · have : 2 ≤ i - min (L.length - 2) L.length := by omega
        rw [List.getElem?_eq_none (by omega), List.getElem?_eq_none (by simpa using this)]
/-! ### A changed byte -/
theorem stp_zero {s : BitVec 16} (h : stp s = 0#16) : s = 0#16 := by
  rw [stp_eq] at h
  have h0 := congrArg (·.getLsbD 0) h
  cases hm : s.msb
  · rw [hm] at h
    simp only [Bool.false_eq_true, if_false, BitVec.xor_zero] at h
    apply BitVec.eq_of_toNat_eq
    have h1 := congrArg BitVec.toNat h
    rw [BitVec.toNat_shiftLeft, Nat.shiftLeft_eq] at h1
    rw [BitVec.msb_eq_decide] at hm
    have h2 := of_decide_eq_false hm
    have h3 := s.isLt
    simp only [BitVec.toNat_ofNat] at h1 ⊢
    omega
  · rw [hm] at h0
    simp at h0
theorem itr_zero' (n : Nat) {s : BitVec 16} (h : itr n s = 0#16) : s = 0#16 := by
  induction n with
  | zero => exact h
  | succ n ih => exact ih (stp_zero h)
/-- A seal's sum is nought. -/
theorem crc_seal (s : BitVec 16) : byt (byt s (hib s)) (lob s) = 0#16 := by
  have h : ∀ y : UInt8, byt (itr 8 (y.toBitVec.setWidth 16)) y = 0#16 := by
    intro y
    have e : itr 8 (y.toBitVec.setWidth 16) = y.toBitVec.setWidth 16 <<< 8 := by
      have : ∀ z : BitVec 8, itr 8 (z.setWidth 16) = z.setWidth 16 <<< 8 := by decide +kernel
      exact this _
    unfold byt ent
    rw [e, BitVec.xor_self, itr_zero]
  have e1 : byt s (hib s) = itr 8 ((lob s).toBitVec.setWidth 16) := by
    unfold byt
    congr 1
    have ht := told_bytes s
    unfold told at ht
    unfold ent
    conv => lhs; lhs; rw [← ht]
    apply BitVec.eq_of_getLsbD_eq
    intro i hi
    simp only [BitVec.getLsbD_xor, BitVec.getLsbD_or, BitVec.getLsbD_shiftLeft, BitVec.getLsbD_setWidth]
    by_cases h8 : i < 8
    · simp [h8, hi]
    · have : (lob s).toBitVec.getLsbD i = false := BitVec.getLsbD_of_ge _ _ (by omega)
      simp [this]
  rw [e1]
  exact h _
theorem crc_of_opens {L : List UInt8} (h : opens L = true) : crc 65535#16 L = 0#16 := by
  rw [seal_of_opens h]
  unfold seal_
  rw [crc_append]
  exact crc_seal _
end Go.Proofs.Ytggannjlaehihaa.Fr
