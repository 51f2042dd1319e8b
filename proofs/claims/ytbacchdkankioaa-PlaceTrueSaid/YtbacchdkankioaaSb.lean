/-
  Bytes in the walks of Sx, Sw and Sl: slices of bytes that came in, that are made, copied, cut, stored to, read as strings; numbers of 8 and 16 bits as bits; numbers that are not negative. No condition.
-/
import Derived.Test.YtbacchdkankioaaSl
import Derived.Laws.CopyRow
import Derived.Laws.IdiomCopy
import Derived.Laws.MakeOwn
import Derived.Laws.BytesArg
import Derived.Laws.Slices
import Derived.Laws.Strings
namespace Go.Proofs.Ytbacchdkankioaa.Sb
open Go.ChangeShapes Go.WideShapes Go.ChangeAt Go.RowKit
open Arr Steady Sx Sw Sl
set_option linter.unusedVariables false
set_option linter.unusedSimpArgs false

theorem has_cast {s : Own} {size n : Nat} {xs ys : List Value} (e : xs = ys) (h : s.Has size n xs) : s.Has size n ys := e ▸ h
section
variable {P : Program} {ops : Array Oper} {Q : Exit → Act → World → Prop} {rest : List Oper} {o : Oper} {a : Act} {w0 : World} {R : List Rw} {e : TypeId} {n : Nat}
variable {p : Option Addr} {x y : Operand} {t t' ty : TypeId} {c k : Nat}

/-! ### Cutting -/
theorem er_take {kk : IntKind} {h : Nat} {H : Int} (ho : o.op = .slice t x none (some y) none) (hx : a.eval x = .slice p n c) (hy : a.eval y = .int kk H) (hH : H = (h : Int)) (hh : h ≤ c) (hu : P.underlying t = some (.slice ty)) (hs : (P.info? ty).map (·.size) = some 1) (w : World) :
    (execOp a.eval o).run P w = .ok (.value (.slice p h c)) w := by
  subst hH
  have ht : P.underlying t = some (.slice (P.elem t)) := by simp [Program.elem, hu]
  have he : P.elem t = ty := by simp [Program.elem, hu]
  cases hq : P.info? ty with
  | none => simp [hq] at hs
  | some i =>
    have hz : i.size = 1 := by simpa [hq] using hs
    have hadd : ∀ b : Addr, b.add 0 = b := fun b => by unfold Addr.add; rw [if_pos rfl]
    unfold execOp
    simp only [ho, hx, hy]
    have h1 := run_sliceAt_slice (P := P) w t (.slice p n c) none (some (.int kk (h : Int))) none ht
    have h2 := run_slice_h (P := P) w t p n c ht kk (h : Int) (by omega) (by omega)
    simp only [Option.map_none, Option.map_some, hy, h1, h2, Sem.run_bind, sizeOf, typeInfo, he, hq, hz]
    simp [go_sem, sliced, hz, hq, he, sizeOf, typeInfo, hadd]
/-- A place in an array. -/
theorem er_arr {g off k m : Nat} {kk : IntKind} {E : Int} (size : Nat) (ho : o.op = .indexAddr t x y) (hx : a.eval x = .pointer (some ⟨g, off, none⟩)) (hy : a.eval y = .int kk E) (hE : E = (k : Int)) (hk : k < n) (hm : off + k * size = m)
    (hu : P.underlying t = some (.array n ty)) (hs : (P.info? ty).map (·.size) = some size) (w : World) : (execOp a.eval o).run P w = .ok (.value (.pointer (some ⟨g, m, none⟩))) w := by
  subst hE
  subst hm
  cases hq : P.info? ty with
  | none => simp [hq] at hs
  | some i =>
    have hz : i.size = size := by simpa [hq] using hs
    unfold execOp
    simp only [ho, hx, hy]
    have h1 : (0 : Int) ≤ (k : Int) := by omega
    have h2 : (k : Int) < (n : Int) := by omega
    have hadd : (⟨g, off, none⟩ : Addr).add (k * size) = ⟨g, off + k * size, none⟩ := by unfold Addr.add; split <;> simp_all
    simp [Instr.indexAt, asIntOf, run_underlying hu, sizeOf, typeInfo, hq, hz, hk, hadd, Instr.sureAddr]
/-! ### Strings -/
theorem exec_bin {op : BinOp} {X Y V : Value} {w : World} (ho : o.op = .binOp op t x y t') (hx : a.eval x = X) (hy : a.eval y = Y) (hg : (eqGuard op t x y X Y).run P w = .ok () w) (h : (binOp op t X Y).run P w = .ok V w) : (execOp a.eval o).run P w = .ok (.value V) w := by
  unfold execOp
  simp only [ho, hx, hy, Sem.run_bind, hg, h, Result.andThen_ok, Sem.run_pure]
/-! ### Numbers as bits -/
/-- The lowest bits of any number. -/
def by8 (z : Int) : UInt8 := UInt8.ofBitVec (BitVec.ofInt 8 z)
theorem by8_toNat (z : Int) : ((by8 z).toNat : Int) = z % 256 := by
  show ((BitVec.ofInt 8 z).toNat : Int) = z % 256
  rw [BitVec.toNat_ofInt]
  have : (0 : Int) ≤ z % (2 ^ 8 : Nat) := Int.emod_nonneg _ (by decide)
  rw [Int.toNat_of_nonneg this]
  rfl
/-! ### Numbers that aren't negative -/
def natOf (op : BinOp) (X Y : Nat) : Option Nat := match op with
  | .add => some (X + Y) | .mul => some (X * Y) | .sub => if Y ≤ X then some (X - Y) else none | .quo => if Y = 0 then none else some (X / Y) | .rem => if Y = 0 then none else some (X % Y) | _ => none
theorem natOf_sub {X Y : Nat} (h : Y ≤ X) : natOf .sub X Y = some (X - Y) := if_pos h
theorem run_nat {op : BinOp} {X Y Z : Nat} (ho : o.op = .binOp op t x y t') (hx : a.eval x = .int .i64 (X : Int)) (hy : a.eval y = .int .i64 (Y : Int)) (hz : natOf op X Y = some Z) (h : Z ≤ 9223372036854775807) (w : World) :
    (execOp a.eval o).run P w = .ok (.value (.int .i64 (Z : Int))) w := by
  refine exec_bin ho hx hy (by cases op <;> first | (cases hz; done) | simp [eqGuard]) ?_
  cases op <;> first
    | (cases hz; done)
    | skip
  · obtain rfl := Option.some.inj hz
    have e1 : IntKind.i64.wrap ((X : Int) + (Y : Int)) = ((X + Y : Nat) : Int) := by rw [← Int.natCast_add]; exact i64_in (by omega) (by omega)
    simp only [binOp, ne_eq, not_true_eq_false, if_false, Op.intArith, e1, Sem.run_pure]
  · simp only [natOf] at hz
    split at hz
    · obtain rfl := Option.some.inj hz
      have e1 : IntKind.i64.wrap ((X : Int) - (Y : Int)) = ((X - Y : Nat) : Int) := by rw [i64_in (by omega) (by omega)]; omega
      simp only [binOp, ne_eq, not_true_eq_false, if_false, Op.intArith, e1, Sem.run_pure]
    · cases hz
  · obtain rfl := Option.some.inj hz
    have e1 : IntKind.i64.wrap ((X : Int) * (Y : Int)) = ((X * Y : Nat) : Int) := by rw [← Int.natCast_mul]; exact i64_in (by omega) (by omega)
    simp only [binOp, ne_eq, not_true_eq_false, if_false, Op.intArith, e1, Sem.run_pure]
  · simp only [natOf] at hz
    split at hz
    · cases hz
    · rename_i h0
      obtain rfl := Option.some.inj hz
      have e1 : IntKind.i64.wrap (Int.tdiv (X : Int) (Y : Int)) = ((X / Y : Nat) : Int) := by
        rw [← Int.ofNat_tdiv]
        exact i64_in (by have : 0 ≤ ((X / Y : Nat) : Int) := Int.natCast_nonneg _; omega) (by omega)
      have h1 : ¬ ((Y : Int) = 0) := by omega
      simp only [binOp, ne_eq, not_true_eq_false, if_false, Op.intDiv, if_neg h1, e1, Sem.run_pure]
  · simp only [natOf] at hz
    split at hz
    · cases hz
    · rename_i h0
      obtain rfl := Option.some.inj hz
      have e1 : Int.tmod (X : Int) (Y : Int) = ((X % Y : Nat) : Int) := by rw [← Int.ofNat_tmod]
      have h1 : ¬ ((Y : Int) = 0) := by omega
      simp only [binOp, ne_eq, not_true_eq_false, if_false, Op.intDiv, if_neg h1, e1, Sem.run_pure]
/-! ### Slices that the function makes -/
section
variable {ks : Nat → Kind} {mk : List (Nat × Tmp)} {N : Nat} {r : List Oper} {i : Nat}
end
end
end Go.Proofs.Ytbacchdkankioaa.Sb
