/-
  Frames, without a program: the bytes of a frame, the frame of bytes, their errors; one is the other's way back; what a changed byte does. No condition.
-/
import Derived.Test.YtdkahonmblnlgaaCr
namespace Go.Proofs.Ytdkahonmblnlgaa.Fr
open Sb Cr
set_option linter.unusedVariables false
set_option linter.unusedSimpArgs false

/-! ### Bytes -/
theorem by8_byte (x : UInt8) : by8 (x.toNat : Int) = x := by
  apply UInt8.toNat_inj.1
  have h := by8_toNat (x.toNat : Int)
  have hx := x.toNat_lt
  omega
theorem hib_nat (s : BitVec 16) : by8 ((s.toNat / 256 : Nat) : Int) = hib s := by
  apply UInt8.toNat_inj.1
  have h := by8_toNat ((s.toNat / 256 : Nat) : Int)
  have hs := s.isLt
  have e : (hib s).toNat = s.toNat / 256 := by
    show ((s >>> 8).setWidth 8).toNat = _
    rw [BitVec.toNat_setWidth, BitVec.toNat_ushiftRight, Nat.shiftRight_eq_div_pow]
    omega
  omega
theorem lob_nat (s : BitVec 16) : by8 ((s.toNat % 256 : Nat) : Int) = lob s := by
  apply UInt8.toNat_inj.1
  have h := by8_toNat ((s.toNat % 256 : Nat) : Int)
  have e : (lob s).toNat = s.toNat % 256 := by
    show (s.setWidth 8).toNat = _
    rw [BitVec.toNat_setWidth]
  omega
theorem byte_eq {z z' : Int} (h : z % 256 = z' % 256) : by8 z = by8 z' := by
  apply UInt8.toNat_inj.1
  have h1 := by8_toNat z
  have h2 := by8_toNat z'
  omega

/-! ### Frames -/
def ksize (k : Int) : Nat := if k = 1 ∨ k = 2 ∨ k = 5 then 2 else if k = 3 ∨ k = 4 then 4 else 0
theorem ksize_three (k : Int) : ksize k = 0 ∨ ksize k = 2 ∨ ksize k = 4 := by
  unfold ksize
  split
  · exact .inr (.inl rfl)
  · split
    · exact .inr (.inr rfl)
    · exact .inl rfl
theorem ksize_pos {k : Int} (h : ksize k ≠ 0) : 1 ≤ k ∧ k ≤ 5 := by
  unfold ksize at h
  split at h
  · omega
  · split at h
    · omega
    · exact absurd rfl h
def lift (v : Int) : Int := if v < 0 then v + 4294967296 else v
def body (k s v : Int) : List UInt8 := [by8 k, by8 s, by8 (ksize k : Int)] ++ (if ksize k = 4 then [by8 (lift v / 16777216), by8 (lift v / 65536 % 256)] else []) ++ [by8 (lift v / 256 % 256), by8 (lift v % 256)]
def putL (k s v : Int) : List UInt8 := seal_ (body k s v)
def inR (k s v : Int) : Bool := decide (0 ≤ s) && decide (s ≤ 255) && decide ((if ksize k = 4 then -2147483648 else 0) ≤ v) && decide (v ≤ (if ksize k = 4 then 2147483647 else 65535))
def putE (k s v : Int) : Nat := if ksize k = 0 then 30 else if inR k s v then 0 else 10
/-- The number of some bytes, the highest one first. -/
def num (L : List UInt8) : Nat := L.foldl (fun v x => 256 * v + x.toNat) 0
def low (n : Nat) (v : Nat) : Int := if n = 4 ∧ 2147483648 ≤ v then (v : Int) - 4294967296 else v
def hd (L : List UInt8) : Int := ((L[0]!).toNat : Int)
def getE (L : List UInt8) : Nat :=
  if L.length < 5 then 14 else if ksize (hd L) = 0 then 30 else if (L[2]!).toNat ≠ ksize (hd L) ∨ L.length ≠ 5 + ksize (hd L) then 11 else if opens L then 0 else 31
def getV (L : List UInt8) : Int := low (ksize (hd L)) (num ((L.drop 3).take (ksize (hd L))))
def getF (L : List UInt8) : Int × Int × Int := if getE L = 0 then (hd L, ((L[1]!).toNat : Int), getV L) else (0, 0, 0)
theorem body_length (k s v : Int) : (body k s v).length = 5 + (if ksize k = 4 then 2 else 0) := by
  unfold body
  split <;> simp
theorem putL_length (k s v : Int) : (putL k s v).length = 7 + (if ksize k = 4 then 2 else 0) := by
  unfold putL
  rw [seal_length, body_length]
  omega
theorem putL_size {k s v : Int} (h : ksize k ≠ 0) : (putL k s v).length = 5 + ksize k := by
  rw [putL_length]
  rcases ksize_three k with e | e | e
  · exact absurd e h
  · rw [e]; rfl
  · rw [e]; rfl
/-- What a frame's bytes are, one by one. -/
theorem putL_two {k s v : Int} (h : ksize k = 2) : putL k s v = [by8 k, by8 s, by8 2, by8 (lift v / 256 % 256), by8 (lift v % 256), hib (crc 65535#16 (body k s v)), lob (crc 65535#16 (body k s v))] := by
  unfold putL seal_
  rw [show body k s v = [by8 k, by8 s, by8 2, by8 (lift v / 256 % 256), by8 (lift v % 256)] by unfold body; rw [h]; rfl]
  rfl
theorem putL_four {k s v : Int} (h : ksize k = 4) : putL k s v = [by8 k, by8 s, by8 4, by8 (lift v / 16777216), by8 (lift v / 65536 % 256), by8 (lift v / 256 % 256), by8 (lift v % 256), hib (crc 65535#16 (body k s v)), lob (crc 65535#16 (body k s v))] := by
  unfold putL seal_
  rw [show body k s v = [by8 k, by8 s, by8 4, by8 (lift v / 16777216), by8 (lift v / 65536 % 256), by8 (lift v / 256 % 256), by8 (lift v % 256)] by unfold body; rw [h]; rfl]
  rfl
theorem small {z : Int} (h0 : 0 ≤ z) (h : z < 256) : ((by8 z).toNat : Int) = z := by
  rw [by8_toNat]
  omega
theorem putE_zero {k s v : Int} (h : putE k s v = 0) : ksize k ≠ 0 ∧ 0 ≤ s ∧ s ≤ 255 ∧ (if ksize k = 4 then -2147483648 else 0) ≤ v ∧ v ≤ (if ksize k = 4 then 2147483647 else 65535) := by
  unfold putE at h
  split at h
  · cases h
  · rename_i h0
    split at h
    · rename_i h1
      unfold inR at h1
      simp only [Bool.and_eq_true, decide_eq_true_eq] at h1
      exact ⟨h0, h1.1.1.1, h1.1.1.2, h1.1.2, h1.2⟩
    · cases h
/-- A frame's bytes are read as that frame. -/
theorem get_put {k s v : Int} (h : putE k s v = 0) : getE (putL k s v) = 0 ∧ getF (putL k s v) = (k, s, v) := by
  obtain ⟨h0, h1, h2, h3, h4⟩ := putE_zero h
  have hk := ksize_pos h0
  have hhd : hd (putL k s v) = k := by
    unfold hd
    rcases ksize_three k with e | e | e
    · exact absurd e h0
    · rw [putL_two e]; exact small (by omega) (by omega)
    · rw [putL_four e]; exact small (by omega) (by omega)
  have hs : (((putL k s v)[1]!).toNat : Int) = s := by
    rcases ksize_three k with e | e | e
    · exact absurd e h0
    · rw [putL_two e]; exact small (by omega) (by omega)
    · rw [putL_four e]; exact small (by omega) (by omega)
  have h2b : ((putL k s v)[2]!).toNat = ksize k := by
    rcases ksize_three k with e | e | e
    · exact absurd e h0
    · rw [putL_two e, e]; rfl
    · rw [putL_four e, e]; rfl
  have hE : getE (putL k s v) = 0 := by
    unfold getE
    rw [hhd, h2b, putL_size h0, if_neg (by omega), if_neg h0, if_neg (by omega)]
    rw [show opens (putL k s v) = true from opens_seal _]
    rfl
  refine ⟨hE, ?_⟩
  have hv : getV (putL k s v) = v := by
    unfold getV
    rw [hhd]
    rcases ksize_three k with e | e | e
    · exact absurd e h0
    · rw [putL_two e, e]
      rw [e] at h3 h4
      simp only [if_neg (show ¬ (2 = 4) by decide)] at h3 h4
      have hl : lift v = v := by unfold lift; rw [if_neg (by omega)]
      rw [hl]
      have a1 := small (z := v / 256 % 256) (by omega) (by omega)
      have a2 := small (z := v % 256) (by omega) (by omega)
      show low 2 (256 * (256 * 0 + (by8 (v / 256 % 256)).toNat) + (by8 (v % 256)).toNat) = v
      unfold low
      rw [if_neg (by omega)]
      omega
    · rw [putL_four e, e]
      rw [e] at h3 h4
      simp only [if_true] at h3 h4
      obtain ⟨u, hu⟩ : ∃ u, u = lift v := ⟨_, rfl⟩
      have hu2 : 0 ≤ u ∧ u < 4294967296 ∧ (u = v ∨ u = v + 4294967296 ∧ v < 0) ∧ (v < 0 → u = v + 4294967296) := by
        rw [hu]
        unfold lift
        split <;> omega
      rw [← hu]
      have a1 := small (z := u / 16777216) (by omega) (by omega)
      have a2 := small (z := u / 65536 % 256) (by omega) (by omega)
      have a3 := small (z := u / 256 % 256) (by omega) (by omega)
      have a4 := small (z := u % 256) (by omega) (by omega)
      show low 4 (256 * (256 * (256 * (256 * 0 + (by8 (u / 16777216)).toNat) + (by8 (u / 65536 % 256)).toNat) + (by8 (u / 256 % 256)).toNat) + (by8 (u % 256)).toNat) = v
      unfold low
      split <;> omega
  unfold getF
  rw [if_pos hE, hhd, hs, hv]
theorem getE_zero {L : List UInt8} (h : getE L = 0) : 5 ≤ L.length ∧ ksize (hd L) ≠ 0 ∧ (L[2]!).toNat = ksize (hd L) ∧ L.length = 5 + ksize (hd L) ∧ opens L = true := by
  unfold getE at h
  split at h
  · cases h
  · rename_i h1
    split at h
    · cases h
    · rename_i h2
      split at h
      · cases h
      · rename_i h3
        split at h
        · rename_i h4
          exact ⟨by omega, h2, by omega, by omega, h4⟩
        · cases h
theorem seal_of_opens {L : List UInt8} (h : opens L = true) : L = seal_ (L.take (L.length - 2)) := by
  unfold opens at h
  rw [Bool.and_eq_true] at h
  have h2 : 2 ≤ L.length := of_decide_eq_true h.1
  have ht := eq_of_beq h.2
  unfold seal_
  rw [← ht]
  have e1 : hib (told (L[L.length - 2]!) (L[L.length - 1]!)) = L[L.length - 2]! := by
    apply UInt8.toNat_inj.1
    show ((told (L[L.length - 2]!) (L[L.length - 1]!) >>> 8).setWidth 8).toNat = _
    rw [BitVec.toNat_setWidth, BitVec.toNat_ushiftRight, Nat.shiftRight_eq_div_pow, told_nat]
    have := (L[L.length - 2]!).toNat_lt
    have := (L[L.length - 1]!).toNat_lt
    omega
  have e2 : lob (told (L[L.length - 2]!) (L[L.length - 1]!)) = L[L.length - 1]! := by
    apply UInt8.toNat_inj.1
    show ((told (L[L.length - 2]!) (L[L.length - 1]!)).setWidth 8).toNat = _
    rw [BitVec.toNat_setWidth, told_nat]
    have := (L[L.length - 2]!).toNat_lt
    have := (L[L.length - 1]!).toNat_lt
    omega
  rw [e1, e2]
  apply List.ext_getElem?
  intro i
  rw [List.getElem?_append, List.length_take]
  by_cases hi : i < min (L.length - 2) L.length
  · rw [if_pos hi, List.getElem?_take_of_lt (by omega)]
  · rw [if_neg hi]
    by_cases h3 : i = L.length - 2
    · subst h3
      have : L.length - 2 - min (L.length - 2) L.length = 0 := by omega
      rw [this, getElem!_pos L _ (by omega)]
      simp
    · by_cases h4 : i = L.length - 1
      · subst h4
        have : L.length - 1 - min (L.length - 2) L.length = 1 := by omega
        rw [this, getElem!_pos L (L.length - 1) (by omega)]
        simp
      · have : 2 ≤ i - min (L.length - 2) L.length := by omega
        rw [List.getElem?_eq_none (by omega), List.getElem?_eq_none (by simpa using this)]
theorem list7 {L : List UInt8} (h : L.length = 7) : ∃ a b c d e f g, L = [a, b, c, d, e, f, g] := by
  match L, h with
  | [a, b, c, d, e, f, g], _ => exact ⟨a, b, c, d, e, f, g, rfl⟩
theorem list9 {L : List UInt8} (h : L.length = 9) : ∃ a b c d e f g i j, L = [a, b, c, d, e, f, g, i, j] := by
  match L, h with
  | [a, b, c, d, e, f, g, i, j], _ => exact ⟨a, b, c, d, e, f, g, i, j, rfl⟩
/-- What bytes are read as has these bytes. -/
theorem put_get {L : List UInt8} (h : getE L = 0) : putE (hd L) ((L[1]!).toNat : Int) (getV L) = 0 ∧ putL (hd L) ((L[1]!).toNat : Int) (getV L) = L := by
  obtain ⟨h5, h0, h2, hl, ho⟩ := getE_zero h
  have hseal := seal_of_opens ho
  have hs := (L[1]!).toNat_lt
  have main : putE (hd L) ((L[1]!).toNat : Int) (getV L) = 0 ∧ body (hd L) ((L[1]!).toNat : Int) (getV L) = L.take (L.length - 2) := by
    rcases ksize_three (hd L) with e | e | e
    · exact absurd e h0
    · rw [e] at hl h2
      obtain ⟨a, b, c, d, x, f, g, rfl⟩ := list7 hl
      have hd' := d.toNat_lt
      have hx' := x.toNat_lt
      have hV : getV [a, b, c, d, x, f, g] = 256 * (d.toNat : Int) + x.toNat := by
        unfold getV
        rw [e]
        show low 2 (256 * (256 * 0 + d.toNat) + x.toNat) = _
        unfold low
        rw [if_neg (by omega)]
        omega
      have hE : putE (hd [a, b, c, d, x, f, g]) (b.toNat : Int) (256 * (d.toNat : Int) + x.toNat) = 0 := by
        unfold putE inR
        have hb := b.toNat_lt
        rw [e, if_neg (show ¬ (2 = 0) by decide)]
        simp only [if_neg (show ¬ (2 = 4) by decide)]
        rw [if_pos]
        simp only [Bool.and_eq_true, decide_eq_true_eq]
        omega
      rw [hV]
      refine ⟨hE, ?_⟩
      have h2' : c.toNat = 2 := h2
      unfold body
      rw [e]
      have hlift : lift (256 * (d.toNat : Int) + x.toNat) = 256 * (d.toNat : Int) + x.toNat := by unfold lift; rw [if_neg (by omega)]
      rw [hlift]
      show [by8 (a.toNat : Int), by8 (b.toNat : Int), by8 ((2 : Nat) : Int), by8 ((256 * (d.toNat : Int) + x.toNat) / 256 % 256), by8 ((256 * (d.toNat : Int) + x.toNat) % 256)] = [a, b, c, d, x]
      rw [by8_byte, by8_byte, ← h2', by8_byte, show (256 * (d.toNat : Int) + x.toNat) / 256 % 256 = d.toNat by omega, show (256 * (d.toNat : Int) + x.toNat) % 256 = x.toNat by omega, by8_byte, by8_byte]
    · rw [e] at hl h2
      obtain ⟨a, b, c, d, x, y, z, f, g, rfl⟩ := list9 hl
      have hd' := d.toNat_lt
      have hx' := x.toNat_lt
      have hy' := y.toNat_lt
      have hz' := z.toNat_lt
      obtain ⟨u, hu⟩ : ∃ u : Nat, u = 256 * (256 * (256 * d.toNat + x.toNat) + y.toNat) + z.toNat := ⟨_, rfl⟩
      have hV : getV [a, b, c, d, x, y, z, f, g] = low 4 u := by
        unfold getV
        rw [e]
        show low 4 (256 * (256 * (256 * (256 * 0 + d.toNat) + x.toNat) + y.toNat) + z.toNat) = _
        rw [hu]
        congr 1
        omega
      have hlow : low 4 u = if 2147483648 ≤ u then (u : Int) - 4294967296 else u := by
        unfold low
        by_cases hq : 2147483648 ≤ u
        · rw [if_pos ⟨rfl, hq⟩, if_pos hq]
        · rw [if_neg (by omega), if_neg hq]
      have hlift : lift (low 4 u) = u := by
        rw [hlow]
        unfold lift
        split <;> split <;> omega
      have hE : putE (hd [a, b, c, d, x, y, z, f, g]) (b.toNat : Int) (low 4 u) = 0 := by
        unfold putE inR
        have hb := b.toNat_lt
        rw [e, if_neg (show ¬ (4 = 0) by decide)]
        simp only [if_true]
        rw [if_pos]
        simp only [Bool.and_eq_true, decide_eq_true_eq]
        rw [hlow]
        split <;> omega
      rw [hV]
      refine ⟨hE, ?_⟩
      have h2' : c.toNat = 4 := h2
      unfold body
      rw [e, hlift]
      show [by8 (a.toNat : Int), by8 (b.toNat : Int), by8 ((4 : Nat) : Int), by8 ((u : Int) / 16777216), by8 ((u : Int) / 65536 % 256), by8 ((u : Int) / 256 % 256), by8 ((u : Int) % 256)] = [a, b, c, d, x, y, z]
      rw [by8_byte, by8_byte, ← h2', by8_byte, show (u : Int) / 16777216 = d.toNat by omega, show (u : Int) / 65536 % 256 = x.toNat by omega, show (u : Int) / 256 % 256 = y.toNat by omega, show (u : Int) % 256 = z.toNat by omega, by8_byte, by8_byte, by8_byte, by8_byte]
  refine ⟨main.1, ?_⟩
  unfold putL
  rw [main.2]
  exact hseal.symm
/-- Unlike frames have unlike bytes. -/
theorem put_apart {k s v k' s' v' : Int} (h : putE k s v = 0) (h' : putE k' s' v' = 0) : putL k s v = putL k' s' v' ↔ (k, s, v) = (k', s', v') := by
  constructor
  · intro e
    rw [← (get_put h).2, ← (get_put h').2, e]
  · intro e
    cases e
    rfl

/-! ### A changed byte -/
theorem stp_zero {s : BitVec 16} (h : stp s = 0#16) : s = 0#16 := by
  rw [stp_eq] at h
  have h0 := congrArg (·.getLsbD 0) h
  cases hm : s.msb
  · rw [hm] at h
    simp only [Bool.false_eq_true, if_false, BitVec.xor_zero] at h
    apply BitVec.eq_of_toNat_eq
    have h1 := congrArg BitVec.toNat h
    rw [BitVec.toNat_shiftLeft, Nat.shiftLeft_eq] at h1
    rw [BitVec.msb_eq_decide] at hm
    have h2 := of_decide_eq_false hm
    have h3 := s.isLt
    simp only [BitVec.toNat_ofNat] at h1 ⊢
    omega
  · rw [hm] at h0
    simp at h0
theorem itr_zero' (n : Nat) {s : BitVec 16} (h : itr n s = 0#16) : s = 0#16 := by
  induction n with
  | zero => exact h
  | succ n ih => exact ih (stp_zero h)
theorem xor_eq_zero {a b : BitVec 16} (h : a ^^^ b = 0#16) : a = b := by
  have h1 : a ^^^ b ^^^ b = b := by rw [h, BitVec.zero_xor]
  rwa [BitVec.xor_assoc, BitVec.xor_self, BitVec.xor_zero] at h1
theorem itr_inj (n : Nat) {a b : BitVec 16} (h : itr n a = itr n b) : a = b := by
  apply xor_eq_zero
  apply itr_zero' n
  rw [itr_xor, h, BitVec.xor_self]
theorem ent_inj {a b : BitVec 16} {x : UInt8} (h : ent a x = ent b x) : a = b := by
  apply xor_eq_zero
  unfold ent at h
  have := congrArg (· ^^^ x.toBitVec.setWidth 16 <<< 8) h
  simp only [BitVec.xor_assoc, BitVec.xor_self, BitVec.xor_zero] at this
  rw [this, BitVec.xor_self]
theorem ent_inj_byte {a : BitVec 16} {x y : UInt8} (h : ent a x = ent a y) : x = y := by
  unfold ent at h
  have h1 := congrArg (a ^^^ ·) h
  simp only [← BitVec.xor_assoc, BitVec.xor_self, BitVec.zero_xor] at h1
  have h2 := congrArg BitVec.toNat h1
  rw [BitVec.toNat_shiftLeft, BitVec.toNat_shiftLeft, BitVec.toNat_setWidth, BitVec.toNat_setWidth, Nat.shiftLeft_eq, Nat.shiftLeft_eq] at h2
  apply UInt8.toNat_inj.1
  have hx := x.toNat_lt
  have hy := y.toNat_lt
  simp only [UInt8.toNat_toBitVec] at h2
  omega
theorem crc_inj (L : List UInt8) {a b : BitVec 16} (h : crc a L = crc b L) : a = b := by
  induction L generalizing a b with
  | nil => exact h
  | cons x r ih => exact ent_inj (itr_inj 8 (ih h))
/-- A seal's sum is nought. -/
theorem crc_seal (s : BitVec 16) : byt (byt s (hib s)) (lob s) = 0#16 := by
  have h : ∀ y : UInt8, byt (itr 8 (y.toBitVec.setWidth 16)) y = 0#16 := by
    intro y
    have e : itr 8 (y.toBitVec.setWidth 16) = y.toBitVec.setWidth 16 <<< 8 := by
      have : ∀ z : BitVec 8, itr 8 (z.setWidth 16) = z.setWidth 16 <<< 8 := by decide +kernel
      exact this _
    unfold byt ent
    rw [e, BitVec.xor_self, itr_zero]
  have e1 : byt s (hib s) = itr 8 ((lob s).toBitVec.setWidth 16) := by
    unfold byt
    congr 1
    have ht := told_bytes s
    unfold told at ht
    unfold ent
    conv => lhs; lhs; rw [← ht]
    apply BitVec.eq_of_getLsbD_eq
    intro i hi
    simp only [BitVec.getLsbD_xor, BitVec.getLsbD_or, BitVec.getLsbD_shiftLeft, BitVec.getLsbD_setWidth]
    by_cases h8 : i < 8
    · simp [h8, hi]
    · have : (lob s).toBitVec.getLsbD i = false := BitVec.getLsbD_of_ge _ _ (by omega)
      simp [this]
  rw [e1]
  exact h _
theorem crc_of_opens {L : List UInt8} (h : opens L = true) : crc 65535#16 L = 0#16 := by
  rw [seal_of_opens h]
  unfold seal_
  rw [crc_append]
  exact crc_seal _
/-- Where one byte of a seal is another, it is no seal. -/
theorem opens_set {L : List UInt8} (h : opens L = true) {j : Nat} (hj : j < L.length) {x : UInt8} (hx : x ≠ L[j]!) : opens (L.set j x) = false := by
  cases ho : opens (L.set j x)
  · rfl
  exfalso
  have h1 := crc_of_opens h
  have h2 := crc_of_opens ho
  have eL : L = L.take j ++ L[j]! :: L.drop (j + 1) := by
    rw [getElem!_pos L j hj]
    simp
  have eS : L.set j x = L.take j ++ x :: L.drop (j + 1) := by rw [List.set_eq_take_append_cons_drop, if_pos hj]
  rw [eS, crc_append] at h2
  rw [eL, crc_append] at h1
  have h3 : crc (crc 65535#16 (L.take j)) (x :: L.drop (j + 1)) = crc (crc 65535#16 (L.take j)) (L[j]! :: L.drop (j + 1)) := h2.trans h1.symm
  have h4 := crc_inj (L.drop (j + 1)) (show crc (byt (crc 65535#16 (L.take j)) x) (L.drop (j + 1)) = crc (byt (crc 65535#16 (L.take j)) (L[j]!)) (L.drop (j + 1)) from h3)
  exact hx (ent_inj_byte (itr_inj 8 h4))
theorem getE_set {L : List UInt8} (h : getE L = 0) {j : Nat} (hj : j < L.length) {x : UInt8} (hx : x ≠ L[j]!) : getE (L.set j x) ≠ 0 := by
  intro he
  have h1 := (getE_zero he).2.2.2.2
  rw [opens_set (getE_zero h).2.2.2.2 hj hx] at h1
  cases h1
/-- Bytes that are cut off, or go on. -/
theorem getE_take {L : List UInt8} (h : getE L = 0) {j : Nat} (hj : j < L.length) : getE (L.take j) ≠ 0 := by
  intro he
  obtain ⟨a1, a2, a3, a4, _⟩ := getE_zero he
  obtain ⟨b1, b2, b3, b4, _⟩ := getE_zero h
  rw [List.length_take] at a1 a4
  have e0 : hd (L.take j) = hd L := by
    unfold hd
    rw [getElem!_pos (L.take j) 0 (by rw [List.length_take]; omega), getElem!_pos L 0 (by omega), List.getElem_take]
  rw [e0] at a4
  omega
theorem getE_more {L M : List UInt8} (h : getE L = 0) : getE (L ++ M) = 0 ↔ M.length = 0 := by
  constructor
  · intro he
    obtain ⟨a1, a2, a3, a4, _⟩ := getE_zero he
    obtain ⟨b1, b2, b3, b4, _⟩ := getE_zero h
    rw [List.length_append] at a1 a4
    have e0 : hd (L ++ M) = hd L := by
      unfold hd
      rw [getElem!_pos (L ++ M) 0 (by rw [List.length_append]; omega), getElem!_pos L 0 (by omega), List.getElem_append_left (by omega)]
    rw [e0] at a4
    omega
  · intro hM
    have := List.eq_nil_of_length_eq_zero hM
    rw [this, List.append_nil]
    exact h
end Go.Proofs.Ytdkahonmblnlgaa.Fr
