/-
  The sum of 16 bits by 1021, without a program: bit by bit, as the document has it; as what is left of a division; that it goes over from texts to their exclusive or. No condition.
-/
import Derived.Test.YtggannjlaehihaaSb
namespace Go.Proofs.Ytggannjlaehihaa.Cr
set_option linter.unusedVariables false
set_option linter.unusedSimpArgs false

/-- One bit. -/
def stp (s : BitVec 16) : BitVec 16 := s <<< 1 ^^^ (s >>> 15) * 4129#16
/-- Some bits. -/
def itr : Nat → BitVec 16 → BitVec 16
  | 0, s => s
  | n + 1, s => stp (itr n s)
/-- A byte, put in. -/
def ent (s : BitVec 16) (x : UInt8) : BitVec 16 := s ^^^ x.toBitVec.setWidth 16 <<< 8
def byt (s : BitVec 16) (x : UInt8) : BitVec 16 := itr 8 (ent s x)
def crc (s : BitVec 16) (L : List UInt8) : BitVec 16 := L.foldl byt s
theorem crc_append (s : BitVec 16) (L M : List UInt8) : crc s (L ++ M) = crc (crc s L) M := by simp [crc, List.foldl_append]
theorem crc_snoc (s : BitVec 16) (L : List UInt8) (i : Nat) (h : i < L.length) : crc s (L.take (i + 1)) = byt (crc s (L.take i)) (L[i]!) := by
  rw [Sl.take_snoc L i h, crc_append]
  rfl
/-- The two bytes of a sum. -/
def hib (s : BitVec 16) : UInt8 := UInt8.ofBitVec ((s >>> 8).setWidth 8)
def lob (s : BitVec 16) : UInt8 := UInt8.ofBitVec (s.setWidth 8)
def seal_ (L : List UInt8) : List UInt8 := L ++ [hib (crc 65535#16 L), lob (crc 65535#16 L)]
/-- The sum that the last two bytes tell. -/
def told (x y : UInt8) : BitVec 16 := x.toBitVec.setWidth 16 <<< 8 ||| y.toBitVec.setWidth 16
/-- Whether some bytes are a seal. -/
def opens (L : List UInt8) : Bool := decide (2 ≤ L.length) && told (L[L.length - 2]!) (L[L.length - 1]!) == crc 65535#16 (L.take (L.length - 2))

/-! ### Linear -/
theorem stp_eq (s : BitVec 16) : stp s = s <<< 1 ^^^ (if s.msb then 4129#16 else 0#16) := by
  unfold stp
  congr 1
  have h := s.isLt
  apply BitVec.eq_of_toNat_eq
  rw [BitVec.toNat_mul, BitVec.toNat_ushiftRight, Nat.shiftRight_eq_div_pow, BitVec.msb_eq_decide]
  by_cases hm : 2 ^ 15 ≤ s.toNat
  · have h1 : s.toNat / 2 ^ 15 = 1 := by omega
    rw [h1, if_pos (by simpa using hm)]
    rfl
  · have h1 : s.toNat / 2 ^ 15 = 0 := by omega
    rw [h1, if_neg (by simpa using hm)]
    rfl
theorem xor4 (p q r : BitVec 16) : p ^^^ r ^^^ (q ^^^ r) = p ^^^ q := by
  rw [show p ^^^ r ^^^ (q ^^^ r) = p ^^^ q ^^^ (r ^^^ r) from by ac_rfl, BitVec.xor_self, BitVec.xor_zero]
theorem stp_xor (a b : BitVec 16) : stp (a ^^^ b) = stp a ^^^ stp b := by
  rw [stp_eq, stp_eq, stp_eq, BitVec.shiftLeft_xor_distrib, BitVec.msb_xor]
  cases a.msb <;> cases b.msb <;> simp only [Bool.xor_false, Bool.false_xor, Bool.xor_true, Bool.not_true, Bool.not_false, Bool.false_eq_true, if_true, if_false, BitVec.xor_zero] <;> first | (rw [xor4]; done) | ac_rfl
theorem itr_xor (n : Nat) (a b : BitVec 16) : itr n (a ^^^ b) = itr n a ^^^ itr n b := by
  induction n with
  | zero => rfl
  | succ n ih => show stp (itr n (a ^^^ b)) = stp (itr n a) ^^^ stp (itr n b); rw [ih, stp_xor]
theorem itr_zero (n : Nat) : itr n 0#16 = 0#16 := by
  induction n with
  | zero => rfl
  | succ n ih => show stp (itr n 0#16) = 0#16; rw [ih]; rfl
theorem itr_add (m n : Nat) (s : BitVec 16) : itr (m + n) s = itr m (itr n s) := by
  induction m with
  | zero => rw [Nat.zero_add]; rfl
  | succ m ih => rw [Nat.succ_add]; show stp (itr (m + n) s) = stp (itr m (itr n s)); rw [ih]
theorem ent_xor (a b : BitVec 16) (x y : UInt8) : ent (a ^^^ b) (x ^^^ y) = ent a x ^^^ ent b y := by
  unfold ent
  rw [UInt8.toBitVec_xor, BitVec.setWidth_xor, BitVec.shiftLeft_xor_distrib]
  ac_rfl
theorem byt_xor (a b : BitVec 16) (x y : UInt8) : byt (a ^^^ b) (x ^^^ y) = byt a x ^^^ byt b y := by
  unfold byt
  rw [ent_xor, itr_xor]
/-! ### Seals -/
theorem seal_laid (L : List UInt8) : ((Sb.laid (List.replicate (L.length + 2) 0) L).set L.length (hib (crc 65535#16 L))).set (L.length + 1) (lob (crc 65535#16 L)) = seal_ L := by
  rw [Sb.laid_more _ _ (by simp)]
  have h : (List.replicate (L.length + 2) (0 : UInt8)).drop L.length = [0, 0] := by rw [List.drop_replicate, Nat.add_sub_cancel_left]; rfl
  rw [h]
  apply List.ext_getElem?
  intro k
  unfold seal_
  simp only [List.getElem?_set, List.getElem?_append, List.length_set, List.length_append]
  by_cases h1 : k < L.length
  · have : ¬ L.length + 1 = k := by omega
    have : ¬ L.length = k := by omega
    simp [*]
  · by_cases h2 : k = L.length
    · subst h2
      simp
    · by_cases h3 : k = L.length + 1
      · subst h3
        simp
      · have e1 : ¬ L.length + 1 = k := by omega
        have e2 : ¬ L.length = k := by omega
        have e3 : 2 ≤ k - L.length := by omega
        simp [h1, e1, e2, e3]
theorem told_bytes (s : BitVec 16) : told (hib s) (lob s) = s := by
  unfold told hib lob
  apply BitVec.eq_of_getLsbD_eq
  intro i hi
  simp only [BitVec.getLsbD_or, BitVec.getLsbD_shiftLeft, BitVec.getLsbD_setWidth, BitVec.getLsbD_ushiftRight]
  by_cases h : i < 8
  · simp [h, hi]
  · have h2 : 8 + (i - 8) = i := by omega
    have h3 : i - 8 < 8 := by omega
    have h4 : i - 8 < 16 := by omega
    simp [h, hi, h2, h3, h4]
theorem seal_length (L : List UInt8) : (seal_ L).length = L.length + 2 := by simp [seal_]
theorem opens_seal (L : List UInt8) : opens (seal_ L) = true := by
  unfold opens
  rw [seal_length]
  have e1 : (seal_ L)[L.length + 2 - 2]! = hib (crc 65535#16 L) := by
    rw [getElem!_pos _ _ (by rw [seal_length]; omega)]
    simp [seal_]
  have e2 : (seal_ L)[L.length + 2 - 1]! = lob (crc 65535#16 L) := by
    rw [getElem!_pos _ _ (by rw [seal_length]; omega)]
    simp [seal_, List.getElem_append_right]
  have e3 : (seal_ L).take (L.length + 2 - 2) = L := by simp [seal_]
  rw [e1, e2, e3, told_bytes]
  simp
theorem told_nat (x y : UInt8) : (told x y).toNat = x.toNat * 256 + y.toNat := by
  unfold told
  have hx := x.toNat_lt
  have hy := y.toNat_lt
  have e : x.toBitVec.setWidth 16 <<< 8 &&& y.toBitVec.setWidth 16 = 0#16 := by
    apply BitVec.eq_of_getLsbD_eq
    intro i hi
    simp only [BitVec.getLsbD_and, BitVec.getLsbD_shiftLeft, BitVec.getLsbD_setWidth]
    by_cases h : i < 8
    · simp [h, hi]
    · have : y.toBitVec.getLsbD i = false := BitVec.getLsbD_of_ge _ _ (by omega)
      simp [this]
  rw [← BitVec.add_eq_or_of_and_eq_zero _ _ e, BitVec.toNat_add, BitVec.toNat_shiftLeft, BitVec.toNat_setWidth, BitVec.toNat_setWidth, Nat.shiftLeft_eq]
  simp only [UInt8.toNat_toBitVec]
  omega

/-! ### As what is left of a division -/
/-- What is left, a bit further. -/
def rstep (r : BitVec 16) (b : Bool) : BitVec 16 := stp r ^^^ (if b then 1#16 else 0#16)
/-- Bit i of a text's bits, highest bits first, and noughts behind. -/
def bitAt (L : List UInt8) (i : Nat) : Bool := decide (i < 8 * L.length) && (L[i / 8]!).toBitVec.getLsbD (7 - i % 8)
def refB (L : List UInt8) (i : Nat) : Bool := bitAt L i ^^ decide (i < 16)
def fold (f : Nat → Bool) : Nat → BitVec 16
  | 0 => 0#16
  | n + 1 => rstep (fold f n) (f n)
def rf (L : List UInt8) (i : Nat) : BitVec 16 := fold (refB L) i
theorem fold_xor (f g : Nat → Bool) (n : Nat) : fold (fun i => f i ^^ g i) n = fold f n ^^^ fold g n := by
  induction n with
  | zero => simp [fold]
  | succ n ih =>
    show rstep (fold _ n) (f n ^^ g n) = rstep (fold f n) (f n) ^^^ rstep (fold g n) (g n)
    unfold rstep
    rw [ih, stp_xor]
    cases f n <;> cases g n <;> simp only [Bool.xor_false, Bool.false_xor, Bool.xor_true, Bool.not_true, Bool.not_false, Bool.false_eq_true, if_true, if_false, BitVec.xor_zero] <;> first | (rw [xor4]; done) | ac_rfl
theorem fold_none (f : Nat → Bool) (n m : Nat) (h : ∀ i, n ≤ i → i < n + m → f i = false) : fold f (n + m) = itr m (fold f n) := by
  induction m with
  | zero => rfl
  | succ m ih =>
    show rstep (fold f (n + m)) (f (n + m)) = stp (itr m (fold f n))
    rw [h (n + m) (by omega) (by omega), ih (fun i h1 h2 => h i h1 (by omega))]
    unfold rstep
    simp
/-- The first sixteen bits alone. -/
theorem fold_first : fold (fun i => decide (i < 16)) 16 = 65535#16 := by decide +kernel
/-- A bit that is put in, sixteen bits on. -/
def dir (s : BitVec 16) (b : Bool) : BitVec 16 := stp (s ^^^ (if b then 32768#16 else 0#16))
def dirs (f : Nat → Bool) (s : BitVec 16) : Nat → BitVec 16
  | 0 => s
  | n + 1 => dir (dirs f s n) (f n)
theorem itr_one : itr 15 1#16 = 32768#16 := by decide +kernel
theorem dirs_fold (f : Nat → Bool) (n : Nat) : dirs f 0#16 n = itr 16 (fold f n) := by
  induction n with
  | zero => exact (itr_zero 16).symm
  | succ n ih =>
    show dir (dirs f 0#16 n) (f n) = itr 16 (rstep (fold f n) (f n))
    unfold dir rstep
    rw [ih, itr_xor, stp_xor]
    congr 1
    cases f n
    · exact (itr_zero 16).symm
    · show stp 32768#16 = stp (itr 15 1#16)
      rw [itr_one]
theorem dirs_from (f : Nat → Bool) (s : BitVec 16) (n : Nat) : dirs f s n = itr n s ^^^ dirs f 0#16 n := by
  induction n with
  | zero => simp [dirs, itr]
  | succ n ih =>
    show dir (dirs f s n) (f n) = stp (itr n s) ^^^ dir (dirs f 0#16 n) (f n)
    unfold dir
    rw [ih, ← stp_xor]
    congr 1
    ac_rfl
theorem dirs_add (f : Nat → Bool) (s : BitVec 16) (m n : Nat) : dirs f s (m + n) = dirs (fun i => f (m + i)) (dirs f s m) n := by
  induction n with
  | zero => rfl
  | succ n ih => show dir (dirs f s (m + n)) (f (m + n)) = _; rw [ih]; rfl
/-- A byte's eight bits, one behind the other. -/
theorem byt_dirs (s : BitVec 16) (x : UInt8) (f : Nat → Bool) (hf : ∀ j, j < 8 → f j = x.toBitVec.getLsbD (7 - j)) : dirs f s 8 = byt s x := by
  have key : ∀ n, n ≤ 8 → dirs f s n = itr n (s ^^^ ((x.toBitVec >>> (8 - n)).setWidth 16 <<< (16 - n))) := by
    intro n
    induction n with
    | zero =>
      intro _
      have e0 : (x.toBitVec >>> (8 - 0)) = 0#8 := by
        apply BitVec.eq_of_toNat_eq
        rw [BitVec.toNat_ushiftRight, Nat.shiftRight_eq_div_pow, Nat.div_eq_of_lt x.toBitVec.isLt]
        rfl
      rw [e0]
      simp [dirs, itr]
    | succ n ih =>
      intro hn
      show dir (dirs f s n) (f n) = stp (itr n _)
      unfold dir
      rw [ih (by omega)]
      congr 1
      have e1 : (x.toBitVec >>> (8 - (n + 1))).setWidth 16 <<< (16 - (n + 1)) = ((x.toBitVec >>> (8 - n)).setWidth 16 <<< (16 - n)) ^^^ (if f n then 1#16 <<< (15 - n) else 0#16) := by
        rw [hf n (by omega)]
        apply BitVec.eq_of_getLsbD_eq
        intro i hi
        rw [BitVec.getLsbD_xor]
        simp only [BitVec.getLsbD_shiftLeft, BitVec.getLsbD_setWidth, BitVec.getLsbD_ushiftRight]
        have hz : ∀ j, (if x.toBitVec.getLsbD (7 - n) then 1#16 <<< (15 - n) else 0#16).getLsbD j = (decide (j = 15 - n) && x.toBitVec.getLsbD (7 - n)) := by
          intro j
          cases x.toBitVec.getLsbD (7 - n)
          · simp
          · simp only [if_true, BitVec.getLsbD_shiftLeft, BitVec.getLsbD_one, Bool.and_true]
            by_cases hj : j = 15 - n
            · subst hj
              have : 15 - n < 16 := by omega
              simp [this]
            · by_cases hj2 : j < 15 - n
              · simp [hj, hj2]
              · have : j - (15 - n) ≠ 0 := by omega
                simp [hj, this]
        rw [hz i]
        by_cases h1 : i = 15 - n
        · subst h1
          have a1 : ¬ (15 - n < 16 - (n + 1)) := by omega
          have a2 : 15 - n < 16 - n := by omega
          have a3 : 15 - n - (16 - (n + 1)) = 0 := by omega
          have a4 : 8 - (n + 1) + 0 = 7 - n := by omega
          have a5 : 15 - n < 16 := by omega
          simp [a1, a2, a3, a4, a5]
        · by_cases h2 : i < 15 - n
          · have a1 : i < 16 - (n + 1) := by omega
            have a2 : i < 16 - n := by omega
            simp [h1, h2, a1, a2]
          · have a1 : ¬ i < 16 - (n + 1) := by omega
            have a2 : ¬ i < 16 - n := by omega
            have a3 : 7 - n + (i - (15 - n)) = 8 - n + (i - (16 - n)) := by omega
            have a4 : i - (15 - n) < 16 := by omega
            have a5 : i - (16 - n) < 16 := by omega
            simp [h1, h2, hi, a1, a2, a3, a4, a5]
      rw [e1, ← BitVec.xor_assoc, itr_xor n (s ^^^ _)]
      congr 1
      cases f n
      · simp [itr_zero]
      · have : ∀ n, n < 8 → itr n (1#16 <<< (15 - n)) = 32768#16 := by decide +kernel
        simp [this n (by omega)]
  rw [key 8 (Nat.le_refl _)]
  rfl
theorem crc_dirs (s : BitVec 16) (L : List UInt8) (n : Nat) (hn : n ≤ L.length) : dirs (bitAt L) s (8 * n) = crc s (L.take n) := by
  induction n with
  | zero => rfl
  | succ n ih =>
    rw [show 8 * (n + 1) = 8 * n + 8 by omega, dirs_add, ih (by omega), crc_snoc _ _ _ (by omega)]
    refine byt_dirs _ _ _ (fun j hj => ?_)
    unfold bitAt
    have h1 : 8 * n + j < 8 * L.length := by omega
    have h2 : (8 * n + j) / 8 = n := by omega
    have h3 : (8 * n + j) % 8 = j := by omega
    simp [h1, h2, h3]
/-- What is left of the division is the sum. -/
theorem rf_crc (L : List UInt8) : rf L (8 * L.length + 16) = crc 65535#16 L := by
  unfold rf
  have e1 : fold (refB L) (8 * L.length + 16) = fold (bitAt L) (8 * L.length + 16) ^^^ fold (fun i => decide (i < 16)) (8 * L.length + 16) := fold_xor _ _ _
  have e2 : fold (bitAt L) (8 * L.length + 16) = itr 16 (fold (bitAt L) (8 * L.length)) := fold_none _ _ _ (fun i h1 h2 => by
    unfold bitAt
    have : ¬ i < 8 * L.length := by omega
    simp [this])
  have e3 : fold (fun i => decide (i < 16)) (16 + 8 * L.length) = itr (8 * L.length) (fold (fun i => decide (i < 16)) 16) := fold_none _ _ _ (fun i h1 h2 => by
    have : ¬ i < 16 := by omega
    simp [this])
  rw [e1, e2, ← dirs_fold, Nat.add_comm (8 * L.length) 16, e3, fold_first, BitVec.xor_comm, ← dirs_from, crc_dirs _ _ _ (Nat.le_refl _), List.take_of_length_le (Nat.le_refl _)]
end Go.Proofs.Ytggannjlaehihaa.Cr
