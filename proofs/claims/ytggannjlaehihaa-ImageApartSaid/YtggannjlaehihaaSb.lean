/-
  Bytes in the walks of Sx, Sw and Sl: slices of bytes that came in, that are made, copied, cut, stored to, read as strings; numbers of 8 and 16 bits as bits; numbers that are not negative. No condition.
-/
import Derived.Test.YtggannjlaehihaaSl
import Derived.Laws.CopyRow
import Derived.Laws.IdiomCopy
import Derived.Laws.MakeOwn
import Derived.Laws.BytesArg
import Derived.Laws.Slices
import Derived.Laws.Strings
namespace Go.Proofs.Ytggannjlaehihaa.Sb
open Go.ChangeShapes Go.WideShapes Go.ChangeAt Go.RowKit
open Arr Steady Sx Sw Sl
set_option linter.unusedVariables false
set_option linter.unusedSimpArgs false

/-- A byte's cell. -/
def ub (x : UInt8) : List Value := [.int .u8 (x.toNat : Int)]
theorem ub_one : ∀ x, ∀ u ∈ ub x, u.oneCell' = true := by
  intro x u hu
  simp only [ub, List.mem_singleton] at hu
  subst hu
  rfl
theorem ub_len (L : List UInt8) : (flat ub L).length = L.length := by simpa using flat_length (enc := ub) (size := 1) (fun _ => rfl) L
theorem ub_len1 {L : List UInt8} {n : Nat} (h : L.length = n) : (flat ub L).length = n * 1 := by rw [ub_len, h, Nat.mul_one]
theorem ub_map (L : List UInt8) : flat ub L = L.map (fun x => Value.int .u8 (x.toNat : Int)) := by
  induction L with
  | nil => rfl
  | cons x r ih => simp only [flat, List.flatMap_cons, List.map_cons] at *; rw [ih]; rfl
theorem ub_get (L : List UInt8) (k : Nat) (h : k < L.length) : (flat ub L)[k]? = some (.int .u8 ((L[k]!).toNat : Int)) := by
  rw [ub_map, List.getElem?_map, List.getElem?_eq_getElem h, getElem!_pos L k h]
  rfl
theorem app_len {L M : List UInt8} {m n : Nat} (h : L.length = m) (h' : M.length = n) : (L ++ M).length = m + n := by rw [List.length_append, h, h']
theorem has_cast {s : Own} {size n : Nat} {xs ys : List Value} (e : xs = ys) (h : s.Has size n xs) : s.Has size n ys := e ▸ h
theorem ub_take_len {L : List UInt8} {n k : Nat} (h : L.length = n) (hk : k ≤ n) : (L.take k).length = k := by rw [List.length_take, h]; omega
theorem ub_take (L : List UInt8) (k : Nat) : flat ub (L.take k) = (flat ub L).take k := by rw [ub_map, ub_map, List.map_take]
theorem ub_drop (L : List UInt8) (k : Nat) : flat ub (L.drop k) = (flat ub L).drop k := by rw [ub_map, ub_map, List.map_drop]
theorem ub_set (L : List UInt8) (k : Nat) (x : UInt8) : (flat ub L).toArray.setIfInBounds k (.int .u8 (x.toNat : Int)) = (flat ub (L.set k x)).toArray := by
  rw [ub_map, ub_map, List.map_set]
  simp
section
variable {P : Program} {ops : Array Oper} {Q : Exit → Act → World → Prop} {rest : List Oper} {o : Oper} {a : Act} {w0 : World} {R : List Rw} {e : TypeId} {n : Nat}
variable {p : Option Addr} {x y : Operand} {t t' ty : TypeId} {c k : Nat}

/-! ### Cutting -/
theorem sl_take {L : List UInt8} (k : Nat) (h : SlAt w0 R p (flat ub L)) : SlAt w0 R p (flat ub (L.take k)) := by
  intro w hE j u hj
  rw [ub_take, List.getElem?_take] at hj
  split at hj
  · exact h w hE j u hj
  · cases hj
/-- Where a slice begins whose first k elements are cut off: one that has no room behind them keeps its base. -/
def subp (p : Option Addr) (k c : Nat) : Option Addr := if c = k then p else p.map (·.add k)
theorem sl_drop {L : List UInt8} (k c : Nat) (hc : L.length ≤ c) (h : SlAt w0 R p (flat ub L)) : SlAt w0 R (subp p k c) (flat ub (L.drop k)) := by
  intro w hE j u hj
  rw [ub_drop, List.getElem?_drop] at hj
  have hlt : k + j < L.length := by
    have := (List.getElem?_eq_some_iff.1 hj).1
    rwa [ub_len] at this
  obtain ⟨b, rfl, hcell⟩ := h w hE _ _ hj
  unfold subp
  rw [if_neg (by omega)]
  exact ⟨b.add k, rfl, by rw [Go.Deep.add_add]; exact hcell⟩
theorem sl_take_eq {L M : List UInt8} (k : Nat) (he : L.take k = M) (h : SlAt w0 R p (flat ub L)) : SlAt w0 R p (flat ub M) := by
  rw [← he]
  exact sl_take k h
theorem sl_mk (i : Nat) {g : Nat} {L : List UInt8} (hi : R[i]? = some ⟨g, (flat ub L).toArray, e⟩) : SlAt w0 R (some ⟨g, 0, Option.none⟩) (flat ub L) := sl_row i hi
theorem sl_lit (i : Nat) {g : Nat} {cs : Array Value} {L : List UInt8} (hi : R[i]? = some ⟨g, cs, e⟩) (hL : cs.toList = flat ub L) : SlAt w0 R (some ⟨g, 0, Option.none⟩) (flat ub L) := by
  rw [← hL]
  exact sl_row i hi
theorem er_take {kk : IntKind} {h : Nat} {H : Int} (ho : o.op = .slice t x none (some y) none) (hx : a.eval x = .slice p n c) (hy : a.eval y = .int kk H) (hH : H = (h : Int)) (hh : h ≤ c) (hu : P.underlying t = some (.slice ty)) (hs : (P.info? ty).map (·.size) = some 1) (w : World) :
    (execOp a.eval o).run P w = .ok (.value (.slice p h c)) w := by
  subst hH
  have ht : P.underlying t = some (.slice (P.elem t)) := by simp [Program.elem, hu]
  have he : P.elem t = ty := by simp [Program.elem, hu]
  cases hq : P.info? ty with
  | none => simp [hq] at hs
  | some i =>
    have hz : i.size = 1 := by simpa [hq] using hs
    have hadd : ∀ b : Addr, b.add 0 = b := fun b => by unfold Addr.add; rw [if_pos rfl]
    unfold execOp
    simp only [ho, hx, hy]
    have h1 := run_sliceAt_slice (P := P) w t (.slice p n c) none (some (.int kk (h : Int))) none ht
    have h2 := run_slice_h (P := P) w t p n c ht kk (h : Int) (by omega) (by omega)
    simp only [Option.map_none, Option.map_some, hy, h1, h2, Sem.run_bind, sizeOf, typeInfo, he, hq, hz]
    simp [go_sem, sliced, hz, hq, he, sizeOf, typeInfo, hadd]
theorem er_drop {kk : IntKind} {l : Nat} {H : Int} (ho : o.op = .slice t x (some y) none none) (hx : a.eval x = .slice p n c) (hy : a.eval y = .int kk H) (hH : H = (l : Int)) (hl : l ≤ n) (hu : P.underlying t = some (.slice ty)) (hs : (P.info? ty).map (·.size) = some 1) (w : World) :
    (execOp a.eval o).run P w = .ok (.value (.slice (subp p l c) (n - l) (c - l))) w := by
  subst hH
  have ht : P.underlying t = some (.slice (P.elem t)) := by simp [Program.elem, hu]
  have he : P.elem t = ty := by simp [Program.elem, hu]
  cases hq : P.info? ty with
  | none => simp [hq] at hs
  | some i =>
    have hz : i.size = 1 := by simpa [hq] using hs
    unfold execOp
    simp only [ho, hx, hy]
    have h1 := run_sliceAt_slice (P := P) w t (.slice p n c) (some (.int kk (l : Int))) none none ht
    have h2 := run_slice_l (P := P) w t p n c ht kk (l : Int) (by omega) (by omega)
    simp only [Option.map_none, Option.map_some, hy, h1, h2, Sem.run_bind, sizeOf, typeInfo, he, hq, hz]
    simp [go_sem, sliced, hz, hq, he, sizeOf, typeInfo, subp]
/-! ### Strings -/
/-- The string of some bytes. -/
def str (L : List UInt8) : ByteArray := ⟨L.toArray⟩
theorem er_string {L : List UInt8} {src dst : TypeId} (hS : SlAt w0 R p (flat ub L)) (hn : L.length = n) (ho : o.op = .convert src dst x) (hx : a.eval x = .slice p n c) (hs : P.underlying src = some (.slice ty)) (he : P.underlying ty = some (.int .u8)) (hd : P.underlying dst = some .string) :
    ∀ w, Env w0 w R → (execOp a.eval o).run P w = .ok (.value (.string (str L))) w := by
  intro w hE
  have key : (convert src dst (.slice p n c)).run P w = .ok (.string (str L)) w := by
    cases L with
    | nil =>
      have h0 : n = 0 := by simpa using hn.symm
      subst h0
      rw [run_convert_bytes_string w src dst ty p 0 c hs he hd]
      cases p with
      | none => simp [Conv.bytesToString]; rfl
      | some b =>
        have hl : (loadCells b 0).run P w = .ok #[] w := by simpa using run_loadCells_list (P := P) w b [] (by simp)
        exact run_bytesToString (P := P) w b 0 c [] (by simpa using hl)
    | cons z r =>
      obtain ⟨b, rfl, _⟩ := hS w hE 0 _ (ub_get (z :: r) 0 (by simp))
      rw [run_convert_bytes_string w src dst ty _ n c hs he hd]
      have hl : (loadCells b n).run P w = .ok (((z :: r).map (fun x => (x.toNat : Int))).map (Value.int .u8)).toArray w := by
        have := run_loadCells_list (P := P) w b (flat ub (z :: r)) (fun j v hj => by
          obtain ⟨b', hb', hc⟩ := hS w hE j v hj
          cases hb'
          exact hc)
        rw [ub_len, hn, ub_map] at this
        rw [this, List.map_map]
        rfl
      rw [run_bytesToString w b n c _ hl, foldl_push_bytes]
      congr 2
      simp only [str, ByteArray.empty, ByteArray.emptyWithCapacity, List.map_map]
      congr 1
      have hid : (((fun n : Int => UInt8.ofNat n.toNat) ∘ fun x : UInt8 => (x.toNat : Int))) = id := by
        funext q
        simp
      rw [hid, List.map_id]
      simp
      rfl
  unfold execOp
  simp [ho, hx, key]
theorem exec_bin {op : BinOp} {X Y V : Value} {w : World} (ho : o.op = .binOp op t x y t') (hx : a.eval x = X) (hy : a.eval y = Y) (hg : (eqGuard op t x y X Y).run P w = .ok () w) (h : (binOp op t X Y).run P w = .ok V w) : (execOp a.eval o).run P w = .ok (.value V) w := by
  unfold execOp
  simp only [ho, hx, hy, Sem.run_bind, hg, h, Result.andThen_ok, Sem.run_pure]
theorem list_beq (L M : List UInt8) : (L == M) = decide (L = M) := by
  rw [Bool.eq_iff_iff]
  simp
theorem run_streq {L M : List UInt8} {b : Bool} (ho : o.op = .binOp .eql t x y t') (hx : a.eval x = .string (str L)) (hy : a.eval y = .string (str M)) (hb : decide (L = M) = b) (w : World) : (execOp a.eval o).run P w = .ok (.value (.bool b)) w := by
  subst hb
  refine exec_bin ho hx hy (by simp [eqGuard]) ?_
  simp [binOp, Op.stringOp, str, list_beq]
/-! ### Numbers as bits -/
theorem wrap_mod {k : IntKind} (hk : k.signed = false) (z : Int) : k.wrap z = z % ((2 ^ k.bits : Nat) : Int) := by
  simp [IntKind.wrap, hk]
theorem wrap_bits {k : IntKind} (hk : k.signed = false) (X : BitVec k.bits) : k.wrap (X.toNat : Int) = (X.toNat : Int) := by
  rw [wrap_mod hk, ← Int.natCast_emod, Nat.mod_eq_of_lt X.isLt]
def bitsOf {n : Nat} (op : BinOp) (X Y : BitVec n) : Option (BitVec n) := match op with
  | .and => some (X &&& Y) | .or => some (X ||| Y) | .xor => some (X ^^^ Y) | .add => some (X + Y) | .mul => some (X * Y) | _ => none
theorem ofInt_bits {n : Nat} (X : BitVec n) : BitVec.ofInt n (X.toNat : Int) = X := by simp
theorem run_bits {op : BinOp} {k : IntKind} {X Y Z : BitVec k.bits} (hk : k.signed = false) (ho : o.op = .binOp op t x y t') (hx : a.eval x = .int k (X.toNat : Int)) (hy : a.eval y = .int k (Y.toNat : Int)) (hz : bitsOf op X Y = some Z) (w : World) :
    (execOp a.eval o).run P w = .ok (.value (.int k (Z.toNat : Int))) w := by
  refine exec_bin ho hx hy (by cases op <;> first | (cases hz; done) | simp [eqGuard]) ?_
  cases op <;> first
    | (cases hz; done)
    | (obtain rfl := Option.some.inj hz
       simp only [binOp, ne_eq, not_true_eq_false, if_false, Op.intBits, ofInt_bits, wrap_bits hk, Sem.run_pure]
       done)
    | (obtain rfl := Option.some.inj hz
       simp only [binOp, ne_eq, not_true_eq_false, if_false, Op.intArith, wrap_mod hk, Sem.run_pure, BitVec.toNat_add, BitVec.toNat_mul]
       rw [Int.natCast_emod]
       first | rw [Int.natCast_add] | rw [Int.natCast_mul])
theorem run_shl {k yk : IntKind} {X : BitVec k.bits} (m : Nat) (hk : k.signed = false) (ho : o.op = .binOp .shl t x y t') (hx : a.eval x = .int k (X.toNat : Int)) (hy : a.eval y = .int yk (m : Int)) (w : World) :
    (execOp a.eval o).run P w = .ok (.value (.int k ((X <<< m).toNat : Int))) w := by
  have e1 : k.wrap ((X.toNat : Int) * 2 ^ (min m k.bits)) = ((X <<< m).toNat : Int) := by
    rw [wrap_mod hk, BitVec.toNat_shiftLeft, Nat.shiftLeft_eq]
    by_cases h : m ≤ k.bits
    · rw [Nat.min_eq_left h]
      push_cast
      rfl
    · have h' : k.bits ≤ m := by omega
      rw [Nat.min_eq_right h']
      have h1 : X.toNat * 2 ^ m % 2 ^ k.bits = 0 := Nat.mod_eq_zero_of_dvd (Nat.dvd_trans (Nat.pow_dvd_pow 2 h') (Nat.dvd_mul_left _ _))
      rw [h1]
      have : ((X.toNat : Int) * 2 ^ k.bits) % ((2 ^ k.bits : Nat) : Int) = 0 := by
        push_cast
        exact Int.mul_emod_left _ _
      exact this
  refine exec_bin ho hx hy (by simp [eqGuard]) ?_
  have h0 : ¬ ((m : Int) < 0) := by omega
  simp only [binOp, Op.shift, if_neg h0, Int.toNat_natCast, e1, Sem.run_pure]
theorem run_shr {k yk : IntKind} {X : BitVec k.bits} (m : Nat) (hk : k.signed = false) (ho : o.op = .binOp .shr t x y t') (hx : a.eval x = .int k (X.toNat : Int)) (hy : a.eval y = .int yk (m : Int)) (w : World) :
    (execOp a.eval o).run P w = .ok (.value (.int k ((X >>> m).toNat : Int))) w := by
  have e1 : Int.fdiv (X.toNat : Int) (2 ^ (min m k.bits)) = ((X >>> m).toNat : Int) := by
    rw [BitVec.toNat_ushiftRight, Nat.shiftRight_eq_div_pow]
    have h2 : (2 : Int) ^ (min m k.bits) = ((2 ^ (min m k.bits) : Nat) : Int) := by push_cast; rfl
    rw [h2, ← Int.ofNat_fdiv]
    by_cases h : m ≤ k.bits
    · rw [Nat.min_eq_left h]
    · have h' : k.bits ≤ m := by omega
      rw [Nat.min_eq_right h']
      have h3 : X.toNat < 2 ^ k.bits := X.isLt
      rw [Nat.div_eq_of_lt h3, Nat.div_eq_of_lt (Nat.lt_of_lt_of_le h3 (Nat.pow_le_pow_right (by decide) h'))]
  refine exec_bin ho hx hy (by simp [eqGuard]) ?_
  have h0 : ¬ ((m : Int) < 0) := by omega
  simp only [binOp, Op.shift, if_neg h0, Int.toNat_natCast, e1, Sem.run_pure]
theorem run_wide {sk k : IntKind} {X : BitVec sk.bits} {src dst : TypeId} (hk : k.signed = false) (ho : o.op = .convert src dst x) (hx : a.eval x = .int sk (X.toNat : Int)) (hs : P.underlying src = some (.int sk)) (hd : P.underlying dst = some (.int k)) (w : World) :
    (execOp a.eval o).run P w = .ok (.value (.int k ((X.setWidth k.bits).toNat : Int))) w := by
  have e1 : k.wrap (X.toNat : Int) = ((X.setWidth k.bits).toNat : Int) := by
    rw [wrap_mod hk, BitVec.toNat_setWidth]
    push_cast
    rfl
  have key : (convert src dst (.int sk (X.toNat : Int))).run P w = .ok (.int k ((X.setWidth k.bits).toNat : Int)) w := by
    rw [← e1]
    simp [convert, run_underlying hs, run_underlying hd, Conv.intToInt]
  unfold execOp
  simp only [ho, hx, Sem.run_bind, key, Result.andThen_ok, Sem.run_pure]
/-- The lowest bits of any number. -/
def by8 (z : Int) : UInt8 := UInt8.ofBitVec (BitVec.ofInt 8 z)
theorem by8_toNat (z : Int) : ((by8 z).toNat : Int) = z % 256 := by
  show ((BitVec.ofInt 8 z).toNat : Int) = z % 256
  rw [BitVec.toNat_ofInt]
  have : (0 : Int) ≤ z % (2 ^ 8 : Nat) := Int.emod_nonneg _ (by decide)
  rw [Int.toNat_of_nonneg this]
  rfl
theorem run_low {sk k : IntKind} {X : Int} {src dst : TypeId} (hk : k.signed = false) (ho : o.op = .convert src dst x) (hx : a.eval x = .int sk X) (hs : P.underlying src = some (.int sk)) (hd : P.underlying dst = some (.int k)) (w : World) :
    (execOp a.eval o).run P w = .ok (.value (.int k ((BitVec.ofInt k.bits X).toNat : Int))) w := by
  have e1 : k.wrap X = ((BitVec.ofInt k.bits X).toNat : Int) := by
    rw [wrap_mod hk, BitVec.toNat_ofInt]
    have : (0 : Int) ≤ X % ((2 ^ k.bits : Nat) : Int) := Int.emod_nonneg _ (by have := Nat.two_pow_pos k.bits; omega)
    rw [Int.toNat_of_nonneg this]
  have key : (convert src dst (.int sk X)).run P w = .ok (.int k ((BitVec.ofInt k.bits X).toNat : Int)) w := by
    rw [← e1]
    simp [convert, run_underlying hs, run_underlying hd, Conv.intToInt]
  unfold execOp
  simp only [ho, hx, Sem.run_bind, key, Result.andThen_ok, Sem.run_pure]
theorem run_conv {sk k : IntKind} {X : Int} {src dst : TypeId} (ho : o.op = .convert src dst x) (hx : a.eval x = .int sk X) (hs : P.underlying src = some (.int sk)) (hd : P.underlying dst = some (.int k)) (hw : k.wrap X = X) (w : World) :
    (execOp a.eval o).run P w = .ok (.value (.int k X)) w := by
  unfold execOp
  simp only [ho, hx]
  simp [go_sem, convert, run_underlying hs, run_underlying hd, Conv.intToInt, hw]
theorem run_bveq {k : IntKind} {X Y : BitVec k.bits} {b : Bool} (ho : o.op = .binOp .eql t x y t') (hx : a.eval x = .int k (X.toNat : Int)) (hy : a.eval y = .int k (Y.toNat : Int)) (hu : P.underlying t = some (.int k)) (hb : (X == Y) = b) (w : World) :
    (execOp a.eval o).run P w = .ok (.value (.bool b)) w := by
  refine run_cmp ho hx hy hu ?_ w
  rw [← hb]
  simp only [cmpOf, Option.some.injEq]
  rw [Bool.eq_iff_iff]
  simp only [beq_iff_eq]
  constructor
  · intro h; exact BitVec.eq_of_toNat_eq (by omega)
  · rintro rfl; rfl
theorem run_bvne {k : IntKind} {X Y : BitVec k.bits} {b : Bool} (ho : o.op = .binOp .neq t x y t') (hx : a.eval x = .int k (X.toNat : Int)) (hy : a.eval y = .int k (Y.toNat : Int)) (hu : P.underlying t = some (.int k)) (hb : (X != Y) = b) (w : World) :
    (execOp a.eval o).run P w = .ok (.value (.bool b)) w := by
  refine run_cmp ho hx hy hu ?_ w
  rw [← hb]
  simp only [cmpOf, Option.some.injEq, bne]
  congr 1
  rw [Bool.eq_iff_iff]
  simp only [beq_iff_eq]
  constructor
  · intro h; exact BitVec.eq_of_toNat_eq (by omega)
  · rintro rfl; rfl
theorem run_ine {k : IntKind} {p q : Int} {b : Bool} (ho : o.op = .binOp .neq t x y t') (hx : a.eval x = .int k p) (hy : a.eval y = .int k q) (hu : P.underlying t = some (.int k)) (hb : (p != q) = b) (w : World) :
    (execOp a.eval o).run P w = .ok (.value (.bool b)) w := run_cmp ho hx hy hu (congrArg some hb) w
/-! ### Numbers that aren't negative -/
def natOf (op : BinOp) (X Y : Nat) : Option Nat := match op with
  | .add => some (X + Y) | .mul => some (X * Y) | .sub => if Y ≤ X then some (X - Y) else none | .quo => if Y = 0 then none else some (X / Y) | .rem => if Y = 0 then none else some (X % Y) | _ => none
theorem natOf_sub {X Y : Nat} (h : Y ≤ X) : natOf .sub X Y = some (X - Y) := if_pos h
theorem natOf_quo {X Y : Nat} (h : Y ≠ 0) : natOf .quo X Y = some (X / Y) := if_neg h
theorem run_nat {op : BinOp} {X Y Z : Nat} (ho : o.op = .binOp op t x y t') (hx : a.eval x = .int .i64 (X : Int)) (hy : a.eval y = .int .i64 (Y : Int)) (hz : natOf op X Y = some Z) (h : Z ≤ 9223372036854775807) (w : World) :
    (execOp a.eval o).run P w = .ok (.value (.int .i64 (Z : Int))) w := by
  refine exec_bin ho hx hy (by cases op <;> first | (cases hz; done) | simp [eqGuard]) ?_
  cases op <;> first
    | (cases hz; done)
    | skip
  · obtain rfl := Option.some.inj hz
    have e1 : IntKind.i64.wrap ((X : Int) + (Y : Int)) = ((X + Y : Nat) : Int) := by rw [← Int.natCast_add]; exact i64_in (by omega) (by omega)
    simp only [binOp, ne_eq, not_true_eq_false, if_false, Op.intArith, e1, Sem.run_pure]
  · simp only [natOf] at hz
    split at hz
    · obtain rfl := Option.some.inj hz
      have e1 : IntKind.i64.wrap ((X : Int) - (Y : Int)) = ((X - Y : Nat) : Int) := by rw [i64_in (by omega) (by omega)]; omega
      simp only [binOp, ne_eq, not_true_eq_false, if_false, Op.intArith, e1, Sem.run_pure]
    · cases hz
  · obtain rfl := Option.some.inj hz
    have e1 : IntKind.i64.wrap ((X : Int) * (Y : Int)) = ((X * Y : Nat) : Int) := by rw [← Int.natCast_mul]; exact i64_in (by omega) (by omega)
    simp only [binOp, ne_eq, not_true_eq_false, if_false, Op.intArith, e1, Sem.run_pure]
  · simp only [natOf] at hz
    split at hz
    · cases hz
    · rename_i h0
      obtain rfl := Option.some.inj hz
      have e1 : IntKind.i64.wrap (Int.tdiv (X : Int) (Y : Int)) = ((X / Y : Nat) : Int) := by
        rw [← Int.ofNat_tdiv]
        exact i64_in (by have : 0 ≤ ((X / Y : Nat) : Int) := Int.natCast_nonneg _; omega) (by omega)
      have h1 : ¬ ((Y : Int) = 0) := by omega
      simp only [binOp, ne_eq, not_true_eq_false, if_false, Op.intDiv, if_neg h1, e1, Sem.run_pure]
  · simp only [natOf] at hz
    split at hz
    · cases hz
    · rename_i h0
      obtain rfl := Option.some.inj hz
      have e1 : Int.tmod (X : Int) (Y : Int) = ((X % Y : Nat) : Int) := by rw [← Int.ofNat_tmod]
      have h1 : ¬ ((Y : Int) = 0) := by omega
      simp only [binOp, ne_eq, not_true_eq_false, if_false, Op.intDiv, if_neg h1, e1, Sem.run_pure]
/-! ### Slices that the function makes -/
theorem perm_last (A : List Rw) (r : Rw) (B T : List Rw) : ((A ++ r :: B) ++ T).Perm ((A ++ (B ++ [r])) ++ T) := by
  refine List.Perm.append_right T (List.Perm.append_left A ?_)
  exact (List.perm_append_comm (l₁ := [r]) (l₂ := B))
theorem wl_perm {l : List Oper} {R' : List Rw} (hp : R.Perm R') (h : Wl P ops Q l a w0 R') : Wl P ops Q l a w0 R := ⟨fun w hE => h.run w (Env.perm hE hp)⟩
/-- A row of a slice that is made. -/
theorem wl_make (m : Nat) {kl kc : IntKind} {X Y : Int} (hw : Region.wanted o (yielded ops a.tmps) = true) (ho : o.op = .makeSlice t x y) (hx : a.eval x = .int kl X) (hy : a.eval y = .int kc Y) (hX : X = (m : Int)) (hY : Y = (m : Int)) (hm : m ≤ 140737488355328)
    (ht : P.underlying t = some (.slice e)) (hi : (P.info? e).map (fun i => (i.size, i.bytes, i.zero)) = some (1, 1, some (.int .u8 0)))
    (h : ∀ g, Wl P ops Q rest (a.put o.dst (.slice (some ⟨g, 0, Option.none⟩) m m)) w0 (⟨g, (flat ub (List.replicate m 0)).toArray, e⟩ :: R)) : Wl P ops Q (o :: rest) a w0 R :=
  wl_upon hw (fun w hE => by
    subst hX
    subst hY
    cases hq : P.info? e with
    | none => simp [hq] at hi
    | some i =>
      obtain ⟨h1, h2, h3⟩ : i.size = 1 ∧ i.bytes = 1 ∧ i.zero = some (.int .u8 0) := by simpa [hq] using hi
      have hr := run_make (P := P) w t e i (.int .u8 0) ht hq h3 kl kc m m (by omega) (Int.le_refl _) (by rw [h2]; omega) (by omega)
      have hc : madeCells (Value.int .u8 0).cells m = (flat ub (List.replicate m 0)).toArray := by
        rw [ub_map, List.map_replicate]
        apply Array.ext_getElem?
        intro k
        by_cases hk : k < m
        · simp [madeCells, Value.cells, hk, Nat.mod_one]
        · simp [madeCells, Value.cells, hk]
      rw [h1, Int.toNat_natCast, Nat.mul_one, hc] at hr
      unfold execOp
      simp only [ho, hx, hy, Sem.run_bind, hr, Result.andThen_ok, Sem.run_pure]
      exact (h w.heap.size).run _ (hE.alloc _ e))
/-- What lies in a slice of n bytes behind a copy of others into it. -/
def laid (L M : List UInt8) : List UInt8 := M.take L.length ++ L.drop M.length
theorem laid_length (L M : List UInt8) : (laid L M).length = L.length := by
  unfold laid
  rw [List.length_append, List.length_take, List.length_drop]
  omega
theorem laid_more (L M : List UInt8) (h : M.length ≤ L.length) : laid L M = M ++ L.drop M.length := by
  unfold laid
  rw [List.take_of_length_le h]
theorem laid_less (L M : List UInt8) (h : L.length ≤ M.length) : laid L M = M.take L.length := by
  unfold laid
  rw [List.drop_of_length_le h, List.append_nil]
/-- A copy into a slice of the function's own making. -/
theorem wl_copy (i : Nat) {g dc : Nat} {L M : List UInt8} {m sc dl : Nat} {t2 : TypeId} (hi : R[i]? = some ⟨g, (flat ub L).toArray, e⟩) (hS : SlAt w0 R p (flat ub M)) (hm : M.length = m) (hl : L.length = dl) (hw : Region.wanted o (yielded ops a.tmps) = true)
    (ho : o.op = .call { callee := .builtin .copy, args := #[x, y], argTypes := #[t, t2] }) (hx : a.eval x = .slice (some ⟨g, 0, Option.none⟩) dl dc) (hy : a.eval y = .slice p m sc) (ht : P.underlying t = some (.slice ty)) (hs : (P.info? ty).map (·.size) = some 1)
    (h : Wl P ops Q rest (a.put o.dst (.int .i64 ((min m dl : Nat) : Int))) w0 (R.set i ⟨g, (flat ub (laid L M)).toArray, e⟩)) : Wl P ops Q (o :: rest) a w0 R :=
  wl_upon hw (fun w hE => by
    subst hm
    subst hl
    have hrow := hE.rowAt hi
    have key : (Builtin.copy_ #[t, t2] o.type #[.slice (some ⟨g, 0, Option.none⟩) L.length dc, .slice p M.length sc]).run P w = .ok (.int .i64 ((min M.length L.length : Nat) : Int)) (w.setRow g (flat ub (laid L M)).toArray) := by
      by_cases h0 : min M.length L.length = 0
      · rw [run_copy_none w t t2 o.type ty _ _ _ _ _ _ ht hs (by simpa [Nat.min_def] using h0), h0]
        have hsame : laid L M = L := by
          rcases Nat.eq_zero_or_pos L.length with hz | hz
          · have := List.eq_nil_of_length_eq_zero hz
            subst this
            simp [laid]
          · have hM : M.length = 0 := by omega
            have := List.eq_nil_of_length_eq_zero hM
            subst this
            simp [laid]
        rw [hsame, setRow_self w g _ e (0, 0) hrow]
        rfl
      · have hpos : 0 < M.length := by omega
        obtain ⟨b, rfl, _⟩ := hS w hE 0 _ (ub_get M 0 hpos)
        have hsrc : ∀ j v, (flat ub (M.take L.length))[j]? = some v → w.cell? (b.add j) = some v := by
          intro j v hj
          obtain ⟨b', hb', hc⟩ := sl_take L.length hS w hE j v hj
          cases hb'
          exact hc
        have hlen : (flat ub (M.take L.length)).length = Nat.min M.length L.length := by rw [ub_len, List.length_take]; exact Nat.min_comm _ _
        have hr := run_copy_row (P := P) w t t2 o.type ty g 0 L.length dc b M.length sc (flat ub L).toArray e (flat ub (M.take L.length)) ht hs hrow hlen hsrc (by simp only [List.size_toArray, ub_len, List.length_take]; omega) (flat_one ub_one _)
        rw [hr, hlen]
        have hcells : ((flat ub L).toArray.toList.take 0 ++ flat ub (M.take L.length) ++ (flat ub L).toArray.toList.drop (0 + Nat.min M.length L.length)).toArray = (flat ub (laid L M)).toArray := by
          congr 1
          have hd : (flat ub L).drop (0 + Nat.min M.length L.length) = (flat ub L).drop M.length := by
            by_cases hle : M.length ≤ L.length
            · rw [Nat.zero_add, show Nat.min M.length L.length = M.length from Nat.min_eq_left hle]
            · rw [Nat.zero_add, show Nat.min M.length L.length = L.length from Nat.min_eq_right (by omega), List.drop_of_length_le (by rw [ub_len]; exact Nat.le_refl _), List.drop_of_length_le (by rw [ub_len]; omega)]
          show [] ++ flat ub (M.take L.length) ++ (flat ub L).drop (0 + Nat.min M.length L.length) = _
          rw [hd, List.nil_append, laid, flat_append, ub_drop]
        rw [hcells]
        rfl
    unfold execOp
    simp only [ho, resolve, invoke, builtin, Sem.run_bind, Sem.run_pure, Result.andThen_ok, List.map_toArray, List.map_cons, List.map_nil, hx, hy, key]
    exact h.run _ (hE.setRow hi _))
/-- A byte is stored in a slice of the function's own making. -/
theorem wl_set (i k : Nat) {g : Nat} {L : List UInt8} (z : UInt8) (hi : R[i]? = some ⟨g, (flat ub L).toArray, e⟩) (hk : k < L.length) (hw : Region.wanted o (yielded ops a.tmps) = true) (ho : o.op = .store t x y) (hx : a.eval x = eaddr (some ⟨g, 0, Option.none⟩) (k * 1)) (hy : a.eval y = .int .u8 (z.toNat : Int))
    (hs : (P.info? t).map (·.size) = some 1) (h : Wl P ops Q rest (a.put o.dst undef) w0 (R.set i ⟨g, (flat ub (L.set k z)).toArray, e⟩)) : Wl P ops Q (o :: rest) a w0 R := by
  have hp : (flat ub L).toArray[k]? = some (.int .u8 ((L[k]!).toNat : Int)) := by simpa using ub_get L k hk
  have ha : eaddr (some ⟨g, 0, Option.none⟩) (k * 1) = .pointer (some ⟨g, k, Option.none⟩) := by
    unfold eaddr Addr.add
    rw [Nat.mul_one]
    split <;> simp_all
  exact wl_store_cell i t x y _ _ hi hw ho (hx.trans ha) hy hp hs rfl (by rw [ub_set]; exact h)
section
variable {ks : Nat → Kind} {mk : List (Nat × Tmp)} {N : Nat} {r : List Oper} {i : Nat}
end
end
end Go.Proofs.Ytggannjlaehihaa.Sb
