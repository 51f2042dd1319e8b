/-
  Images of tracks, without a program: what a reader of bytes holds; numbers out of bytes that wrap; what is laid, byte by byte.
-/
import Derived.Test.YtggannjlaehihaaImput
import Derived.Test.YtggannjlaehihaaImrefo
import Derived.Test.YtggannjlaehihaaRdr
namespace Go.Proofs.Ytggannjlaehihaa.Imd
open Go.ChangeShapes Go.WideShapes Go.ChangeAt Go.RowKit
open Arr Steady Sx Sw Sl Sb Sc Sh Cr Fr Vs Gr Tk Tkh Tkl Img Imp Imo Imref Imrefo Imput Rdr
set_option linter.unusedVariables false
set_option linter.unusedSimpArgs false
set_option maxRecDepth 100000

/-! ### A reader -/
structure Qc where
  q : Option Addr
  c : Nat
/-- What is left of the bytes L behind a place lies at z, in the rows B0. -/
structure QcOk (w0 : World) (B0 : List Rw) (L : List UInt8) (s : Pt) (z : Qc) : Prop where
  rd : SlAt w0 B0 z.q (flat ub (L.drop s.1))
  cap : L.length - s.1 ≤ z.c
structure Rdy (w0 : World) (B0 B : List Rw) (L : List UInt8) (k : Nat) (s : Pt) (z : Qc) : Prop where
  sub : B0.Sublist B
  ok : QcOk w0 B0 L s z
  le : s.1 ≤ L.length
  len : L.length = k
  hl : L.length ≤ 1048576
theorem qc_short {w0 : World} {B0 : List Rw} {L : List UInt8} {s : Pt} {z : Qc} (h : QcOk w0 B0 L s z) (b : Bool) : QcOk w0 B0 L (s.1, b) z := ⟨h.rd, h.cap⟩
theorem qc_drop {w0 : World} {B0 : List Rw} {L : List UInt8} {s : Pt} {z : Qc} (h : QcOk w0 B0 L s z) (n : Nat) (hn : s.1 + n ≤ L.length) (b : Bool) : QcOk w0 B0 L (s.1 + n, b) ⟨subp z.q n z.c, z.c - n⟩ := by
  refine ⟨?_, ?_⟩
  · have := sl_drop n z.c (by rw [List.length_drop]; exact h.cap) h.rd
    rw [List.drop_drop] at this
    exact this
  · have := h.cap
    show L.length - (s.1 + n) ≤ z.c - n
    omega
theorem dlen {L : List UInt8} {k : Nat} (h : L.length = k) (a : Nat) : (L.drop a).length = k - a := by rw [List.length_drop, h]

/-! ### Numbers -/
def un (L : List UInt8) (a : Nat) : Nat → Nat
  | 0 => 0
  | k + 1 => un L a k * 256 + (L[a + k]!).toNat
theorem un_lt (L : List UInt8) (a : Nat) : ∀ k, un L a k < 256 ^ k
  | 0 => Nat.zero_lt_one
  | k + 1 => by
    have h := un_lt L a k
    have b := (L[a + k]!).toNat_lt
    unfold un
    rw [Nat.pow_succ]
    omega
theorem un_most (L : List UInt8) (a : Nat) {k m : Nat} (h : k ≤ m) : un L a k < 256 ^ m := Nat.lt_of_lt_of_le (un_lt L a k) (Nat.pow_le_pow_right (by decide) h)
theorem un_first (L : List UInt8) (a : Nat) : ∀ k, un L a (k + 1) = (L[a]!).toNat * 256 ^ k + un L (a + 1) k
  | 0 => by simp [un]
  | k + 1 => by
    have h := un_first L a k
    show un L a (k + 1) * 256 + (L[a + (k + 1)]!).toNat = (L[a]!).toNat * 256 ^ (k + 1) + (un L (a + 1) k * 256 + (L[a + 1 + k]!).toNat)
    rw [h, Nat.pow_succ, show a + (k + 1) = a + 1 + k by omega, ← Nat.mul_assoc, Nat.add_mul]
    omega
theorem vl_un (L : List UInt8) (a : Nat) : ∀ k, vl L a false k = (un L a k : Int)
  | 0 => rfl
  | k + 1 => by
    have h := vl_un L a k
    unfold vl un
    rw [h, if_neg (fun k => by cases k.2.1)]
    unfold bt
    push_cast
    omega
theorem vl_sgn (L : List UInt8) (a : Nat) : ∀ k, vl L a true (k + 1) = (un L a (k + 1) : Int) - (if 128 ≤ bt L a then ((256 ^ (k + 1) : Nat) : Int) else 0)
  | 0 => by
    unfold vl un vl un
    simp only [Nat.add_zero, true_and]
    split <;> (unfold bt; push_cast; omega)
  | k + 1 => by
    have h := vl_sgn L a k
    show 256 * vl L a true (k + 1) + (if k + 1 = 0 ∧ true = true ∧ 128 ≤ bt L a then bt L a - 256 else bt L (a + (k + 1))) = ((un L a (k + 1) * 256 + (L[a + (k + 1)]!).toNat : Nat) : Int) - _
    rw [h, if_neg (by omega : ¬ (k + 1 = 0 ∧ true = true ∧ 128 ≤ bt L a))]
    have e : 256 ^ (k + 1 + 1) = 256 ^ (k + 1) * 256 := Nat.pow_succ _ _
    rw [e]
    generalize 256 ^ (k + 1) = P
    unfold bt
    split <;> (push_cast; omega)
theorem wrap_nat {X : Nat} (h : X < 18446744073709551616) : IntKind.i64.wrap (X : Int) = if 9223372036854775808 ≤ X then (X : Int) - 18446744073709551616 else (X : Int) := by
  simp only [IntKind.wrap, IntKind.bits, IntKind.signed]
  simp
  split <;> split <;> omega
theorem wrap_small {X : Nat} (h : X < 9223372036854775808) : IntKind.i64.wrap (X : Int) = (X : Int) := by rw [wrap_nat (by omega), if_neg (by omega)]
theorem wrap_vl (L : List UInt8) (a n : Nat) (hn : n ≤ 8) : IntKind.i64.wrap ((un L a n : Nat) : Int) = vl L a (decide (n = 8)) n := by
  by_cases h : n = 8
  · subst h
    have h1 := vl_sgn L a 7
    have h2 := un_first L a 7
    have h3 := un_lt L (a + 1) 7
    have h4 := (L[a]!).toNat_lt
    have h5 : un L a (7 + 1) < 256 ^ 8 := un_lt L a 8
    have e : decide (8 = 8) = true := rfl
    rw [e, h1]
    rw [show (256 ^ 7 : Nat) = 72057594037927936 by decide] at h2 h3
    rw [show (256 ^ 8 : Nat) = 18446744073709551616 by decide] at h5
    rw [wrap_nat h5, show ((256 ^ (7 + 1) : Nat) : Int) = 18446744073709551616 by decide]
    unfold bt
    split <;> split <;> omega
  · have h1 : un L a n < 256 ^ 7 := un_most L a (by omega)
    rw [show (256 ^ 7 : Nat) = 72057594037927936 by decide] at h1
    rw [decide_eq_false h, vl_un, wrap_small (by omega)]
theorem num_val {L : List UInt8} {s : Pt} {n : Nat} {sg : Bool} (hb : bad L s n = false) (hn : n ≤ 8) (hs : sg = decide (n = 8)) : IntKind.i64.wrap ((un L s.1 n : Nat) : Int) = numV L s n sg := by
  unfold numV
  rw [if_neg (by rw [hb]; decide), hs]
  exact wrap_vl L s.1 n hn
theorem wrap32_nat {X : Nat} (h : X < 4294967296) : IntKind.i32.wrap (X : Int) = if 2147483648 ≤ X then (X : Int) - 4294967296 else (X : Int) := by
  simp only [IntKind.wrap, IntKind.bits, IntKind.signed]
  simp
  split <;> split <;> omega
theorem num4 (L : List UInt8) (s : Pt) : IntKind.i32.wrap (numV L s 4 false) = numV L s 4 true ∧ -2147483648 ≤ numV L s 4 true ∧ numV L s 4 true ≤ 2147483647 := by
  unfold numV
  split
  · exact ⟨by decide, by decide, by decide⟩
  · have h1 := vl_sgn L s.1 3
    have h2 := un_first L s.1 3
    have h3 := un_lt L (s.1 + 1) 3
    have h4 := (L[s.1]!).toNat_lt
    have h5 : un L s.1 (3 + 1) < 256 ^ 4 := un_lt L s.1 4
    rw [show (256 ^ 3 : Nat) = 16777216 by decide] at h2 h3
    rw [show (256 ^ 4 : Nat) = 4294967296 by decide] at h5
    rw [vl_un, h1, wrap32_nat h5, show ((256 ^ (3 + 1) : Nat) : Int) = 4294967296 by decide]
    unfold bt
    refine ⟨?_, ?_, ?_⟩ <;> split <;> (try split) <;> omega
theorem num4_lo (L : List UInt8) (s : Pt) : -9223372036854775808 ≤ numV L s 4 true := by have := (num4 L s).2.1; omega
theorem num4_hi (L : List UInt8) (s : Pt) : numV L s 4 true ≤ 9223372036854775807 := by have := (num4 L s).2.2; omega
theorem bad_yes {L : List UInt8} {s : Pt} {n : Nat} (h : s.2 = true ∨ L.length < s.1 + n) : numS L s n = (s.1, true) ∧ ∀ sg, numV L s n sg = 0 := by
  have hb : bad L s n = true := by unfold bad; rcases h with h | h <;> simp [h]
  exact ⟨by unfold numS; rw [if_pos hb], fun sg => by unfold numV; rw [if_pos hb]⟩
theorem bad_no {L : List UInt8} {s : Pt} {n : Nat} (h : s.2 = false) (h2 : s.1 + n ≤ L.length) : bad L s n = false ∧ numS L s n = (s.1 + n, false) := by
  have hb : bad L s n = false := by unfold bad; rw [h]; simp; omega
  exact ⟨hb, by unfold numS; rw [if_neg (by rw [hb]; decide)]⟩
theorem cut_get {L : List UInt8} {a n i : Nat} (h : a + n ≤ L.length) (hi : i < n) : ((L.drop a).take n)[i]! = L[a + i]! := by
  rw [getElem!_pos _ i (by rw [List.length_take, List.length_drop]; omega), getElem!_pos L (a + i) (by omega), List.getElem_take, List.getElem_drop]
theorem un_snoc {L : List UInt8} {a n i : Nat} (h : a + n ≤ L.length) (hi : i < n) : un L a i * 256 + (((L.drop a).take n)[i]!).toNat = un L a (i + 1) := by rw [cut_get h hi]; rfl
theorem un_fits (L : List UInt8) (a : Nat) {n i : Nat} (hi : i < n) (hn : n ≤ 8) : un L a i < 72057594037927936 := by
  have h := un_most L a (show i ≤ 7 by omega)
  rw [show (256 ^ 7 : Nat) = 72057594037927936 by decide] at h
  exact h
theorem cut_len {L : List UInt8} {k a n : Nat} (h : L.length = k) (hn : n ≤ k - a) : ((L.drop a).take n).length = n := by rw [List.length_take, List.length_drop, h]; omega
/-- A count that isn't above its limit. -/
theorem cnt_no {L : List UInt8} {s : Pt} {n : Nat} {m : Int} (h : ¬ m < numV L s n false) : cntS L s n m = numS L s n ∧ ((cntV L s n m : Nat) : Int) = numV L s n false := by
  have := numV_uns L s n
  unfold cntS cntV
  rw [if_neg h, if_neg h]
  exact ⟨rfl, by omega⟩
theorem cnt_yes {L : List UInt8} {s : Pt} {n : Nat} {m : Int} (h : m < numV L s n false) : cntS L s n m = ((numS L s n).1, true) ∧ cntV L s n m = 0 := by
  unfold cntS cntV
  rw [if_pos h, if_pos h]
  exact ⟨rfl, rfl⟩
/-! ### What is laid -/
def dv (v : Int) (k : Nat) : Int := v / ((256 ^ k : Nat) : Int)
theorem dv_0 (v : Int) : dv v 0 = v := by unfold dv; simp
theorem dv_s (v : Int) (k : Nat) : dv v (k + 1) = dv v k / 256 := by
  unfold dv
  rw [Nat.pow_succ, Int.natCast_mul, Int.ediv_ediv_of_nonneg (Int.natCast_nonneg _)]
  rfl
theorem pow_8 (k : Nat) : 256 ^ k = 2 ^ (8 * k) := by rw [Nat.pow_mul]
theorem lay_step {X : List UInt8} {v : Int} {n i : Nat} (h : i < n) : X ++ pb (dv v (n - i)) i ++ [by8 (dv v (n - 1 - i))] = X ++ pb (dv v (n - (i + 1))) (i + 1) := by
  rw [List.append_assoc, show n - 1 - i = n - (i + 1) by omega]
  show _ = X ++ (pb (dv v (n - (i + 1)) / 256) i ++ [by8 (dv v (n - (i + 1)))])
  rw [← dv_s, show n - (i + 1) + 1 = n - i by omega]
theorem lay_all (X : List UInt8) (v : Int) (n : Nat) : X ++ pb (dv v (n - n)) n = X ++ pb v n := by rw [Nat.sub_self, dv_0]
theorem lay_len {X : List UInt8} {m : Nat} (h : X.length = m) (v : Int) (n : Nat) : (X ++ pb v n).length = m + n := by rw [List.length_append, h, pb_len]
theorem lay_app {X : List UInt8} {m : Nat} (h : X.length = m) (Y : List UInt8) : (X ++ Y).length = m + Y.length := by rw [List.length_append, h]
theorem lay_two (X : List UInt8) (v : Int) : X ++ [by8 (v / 256)] ++ [by8 (v / 1)] = X ++ pb v 2 := by rw [Int.ediv_one, List.append_assoc]; rfl
def S2 (X : List UInt8) (s : Sg) (k : Nat) : List UInt8 := X ++ (pb s.len 8 ++ (pb (s.P.length : Nat) 1 ++ (s.P.take k).flatMap pieceB))
def S3 (X : List UInt8) (s : Sg) (j : Nat) : List UInt8 := X ++ (pb s.len 8 ++ (pb (s.P.length : Nat) 1 ++ (s.P.flatMap pieceB ++ (pb (s.X.length : Nat) 1 ++ (s.X.take j).flatMap nextB))))
theorem S2_0 (X : List UInt8) (s : Sg) : X ++ pb s.len 8 ++ pb (s.P.length : Nat) 1 = S2 X s 0 := by unfold S2; rw [List.take_zero, List.flatMap_nil, List.append_nil, List.append_assoc]
theorem S2_s (X : List UInt8) (s : Sg) (k : Nat) (hk : k < s.P.length) : S2 X s k ++ pb (s.P[k]!).1 8 ++ pb (s.P[k]!).2 4 = S2 X s (k + 1) := by
  unfold S2
  rw [take_snoc _ k hk, List.flatMap_append, List.flatMap_singleton]
  simp only [List.append_assoc, pieceB]
theorem S3_0 (X : List UInt8) (s : Sg) : S2 X s s.P.length ++ pb (s.X.length : Nat) 1 = S3 X s 0 := by
  unfold S2 S3
  rw [List.take_length, List.take_zero, List.flatMap_nil, List.append_nil]
  simp only [List.append_assoc]
theorem S3_s (X : List UInt8) (s : Sg) (j : Nat) (hj : j < s.X.length) : S3 X s j ++ pb (s.X[j]!) 1 = S3 X s (j + 1) := by
  unfold S3
  rw [take_snoc _ j hj, List.flatMap_append, List.flatMap_singleton]
  simp only [List.append_assoc]
  rfl
theorem S3_all (X : List UInt8) (s : Sg) : S3 X s s.X.length = X ++ segL (dat s) := by
  unfold S3
  rw [List.take_length]
  rfl
theorem S2_le {X : List UInt8} {s : Sg} (h : s.P.length ≤ 64) (k : Nat) : (S2 X s k).length ≤ X.length + 777 := by
  have a := flat_le pieceB 12 (s.P.take k) (fun x _ => by rw [piece_len]; omega)
  have e : (s.P.take k).length ≤ s.P.length := by rw [List.length_take]; omega
  unfold S2
  simp only [List.length_append, pb_len]
  omega
theorem S3_le {X : List UInt8} {s : Sg} (h : s.P.length ≤ 64) (h2 : s.X.length ≤ 2) (j : Nat) : (S3 X s j).length ≤ X.length + 780 := by
  have a := flat_le pieceB 12 s.P (fun x _ => by rw [piece_len]; omega)
  have b := flat_le nextB 1 (s.X.take j) (fun x _ => by unfold nextB; rw [pb_len]; omega)
  have e : (s.X.take j).length ≤ s.X.length := by rw [List.length_take]; omega
  unfold S3
  simp only [List.length_append, pb_len]
  omega
theorem PX_n (G : List Sg) (i : Nat) (hi : i < G.length) : PX G i ++ segL (dat (G[i]!)) = PX G (i + 1) := by
  unfold PX
  rw [take_snoc G i hi, List.flatMap_append, List.flatMap_singleton]
  simp only [List.append_assoc]
theorem GX_n (G : List Sg) (H : List Gp) (r : Nat) (hr : r < H.length) : GX G H r ++ grpL (H[r]!) = GX G H (r + 1) := by
  unfold GX
  rw [take_snoc H r hr, List.flatMap_append, List.flatMap_singleton]
  simp only [List.append_assoc]
theorem grp_lay (X : List UInt8) (g : Gp) : X ++ pb g.id 2 ++ pb g.seg 1 ++ pb g.off 8 ++ pb g.acc 4 ++ pb g.slack 4 = X ++ grpL g := by unfold grpL; simp only [List.append_assoc]
theorem head_eq {b : List UInt8} (h : 6 ≤ b.length) : headB b = decide (b.take 4 = hdr) := by
  have hb : ∀ i, i < 4 → (b.take 4)[i]! = b[i]! := fun i hi => by rw [getElem!_pos _ i (by rw [List.length_take]; omega), getElem!_pos b i (by omega), List.getElem_take]
  have hl : (b.take 4).length = 4 := by rw [List.length_take]; omega
  rw [Bool.eq_iff_iff]
  unfold headB
  simp only [Bool.and_eq_true, decide_eq_true_eq, beq_iff_eq]
  have byte : ∀ (i : Nat) (x : UInt8), bt b i = (x.toNat : Int) ↔ b[i]! = x := fun i x => by
    unfold bt
    constructor
    · intro h; exact UInt8.toNat_inj.1 (by omega)
    · intro h; rw [h]
  constructor
  · rintro ⟨⟨⟨⟨_, h0⟩, h1⟩, h2⟩, h3⟩
    refine List.ext_getElem hl (fun i k1 k2 => ?_)
    have e : (b.take 4)[i] = b[i]! := by rw [← hb i (by omega), getElem!_pos _ i k1]
    rw [e]
    rcases (show i = 0 ∨ i = 1 ∨ i = 2 ∨ i = 3 by omega) with rfl | rfl | rfl | rfl
    · exact (byte 0 79).1 h0
    · exact (byte 1 68).1 h1
    · exact (byte 2 79).1 h2
    · exact (byte 3 49).1 h3
  · intro e
    have g : ∀ i, i < 4 → b[i]! = hdr[i]! := fun i hi => by rw [← hb i hi, e]
    exact ⟨⟨⟨⟨h, (byte 0 79).2 (g 0 (by decide))⟩, (byte 1 68).2 (g 1 (by decide))⟩, (byte 2 79).2 (g 2 (by decide))⟩, (byte 3 49).2 (g 3 (by decide))⟩
end Go.Proofs.Ytggannjlaehihaa.Imd
