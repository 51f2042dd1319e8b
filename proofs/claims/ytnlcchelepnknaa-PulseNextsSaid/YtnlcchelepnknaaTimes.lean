/-
  The contract of Times: the reference's product of two integers of 64 bits. No condition but that both fit.
-/
import Derived.Test.YtnlcchelepnknaaDigits
import Derived.Handy
import Derived.Deep.DeepCutAuto
import Derived.Deep.CutBlock
import Derived.Deep.Light
namespace Go.Proofs.Ytnlcchelepnknaa.Ref
open Go.ChangeShapes Go.WideShapes Go.ChangeAt Go.RowKit
open Num
set_option linter.unusedVariables false

/-- The sign s and the two digits a0, a1 stand for a. -/
def IsTwo (a s a0 a1 : Int) : Prop := (s = 1 ∨ s = -1) ∧ s * (a0 + 4294967296 * a1) = a ∧ s = sg a
theorem of_two (a : Int) (w : World) (ha : Fits a) :
    Calls Try.prog 13 #[.int .i64 a] w fun e w' => (∃ s a0 a1, e = .returned (.agg #[.int .i64 s, .int .u64 a0, .int .u64 a1, .int .u64 0, .int .u64 0]) ∧ IsTwo a s a0 a1 ∧ -1 ≤ s ∧ s ≤ 1 ∧ 0 ≤ a0 ∧ a0 ≤ 4294967295 ∧ 0 ≤ a1 ∧ a1 ≤ 2147483648) ∧ Below w.heap.size w w' := by
  refine (of_any a w ha).mono ?_
  rintro e w' ⟨rfl, hb⟩
  unfold Fits at ha
  have h0 : 0 ≤ abs a := by unfold abs; split <;> omega
  have h1 : abs a ≤ 9223372036854775808 := by unfold abs; split <;> omega
  have d1 : abs a / 18446744073709551616 % 4294967296 = 0 := by omega
  have d2 : abs a / 79228162514264337593543950336 = 0 := by omega
  refine ⟨⟨sg a, abs a % 4294967296, abs a / 4294967296 % 4294967296, by unfold NV; rw [d1, d2], ⟨?_, ?_, rfl⟩, ?_, ?_, ?_, ?_, ?_, ?_⟩, hb⟩
  · unfold sg; split <;> simp
  · have e : abs a % 4294967296 + 4294967296 * (abs a / 4294967296 % 4294967296) = abs a := by omega
    rw [e]; unfold abs sg; split <;> omega
  · unfold sg; split <;> omega
  · unfold sg; split <;> omega
  all_goals omega
theorem prod_bounds {x y : Int} (h0 : 0 ≤ x) (h1 : x ≤ 4294967295) (k0 : 0 ≤ y) (k1 : y ≤ 4294967295) : 0 ≤ x * y ∧ x * y ≤ 18446744065119617025 :=
  ⟨Int.mul_nonneg h0 k0, Int.le_trans (Int.mul_le_mul h1 k1 k0 (by omega)) (by decide)⟩
theorem sign_bounds {s t : Int} (h0 : -1 ≤ s) (h1 : s ≤ 1) (k0 : -1 ≤ t) (k1 : t ≤ 1) : -1 ≤ s * t ∧ s * t ≤ 1 := by
  have : s = -1 ∨ s = 0 ∨ s = 1 := by omega
  rcases this with rfl | rfl | rfl <;> omega

/-- What Times leaves in its four digits, product by product. -/
def Mult (p00 p01 p10 p11 z0 z1 z2 z3 : Int) : Prop :=
  ∃ c1 m1 c2 m2 c3 : Int, z0 = p00 % 4294967296 ∧ c1 = p00 / 4294967296 ∧ m1 = (p01 + c1) % 4294967296 ∧ m2 = (p01 + c1) / 4294967296 ∧
    z1 = (p10 + m1) % 4294967296 ∧ c2 = (p10 + m1) / 4294967296 ∧ z2 = (p11 + m2 + c2) % 4294967296 ∧ c3 = (p11 + m2 + c2) / 4294967296 ∧ z3 = c3
/-- What the loops of Times leave: the digits in block g, the result's block as it was. -/
def Laid (w : World) (st p00 p01 p10 p11 : Int) (s4 s7 : Value) (wx : World) : Prop :=
  ∃ (g : Nat) (z0 z1 z2 z3 : Int), s4 = .pointer (some ⟨w.heap.size, 0, none⟩) ∧ s7 = .pointer (some ⟨g, 0, none⟩) ∧ w.heap.size < g ∧ Mult p00 p01 p10 p11 z0 z1 z2 z3 ∧
    (wx.cell? ⟨g, 0, none⟩ = some (.int .i64 st) ∧ wx.cell? ⟨g, 1, none⟩ = some (.int .u64 z0) ∧ wx.cell? ⟨g, 2, none⟩ = some (.int .u64 z1) ∧ wx.cell? ⟨g, 3, none⟩ = some (.int .u64 z2) ∧ wx.cell? ⟨g, 4, none⟩ = some (.int .u64 z3)) ∧
    (wx.cell? ⟨w.heap.size, 0, none⟩ = some (.int .i64 0) ∧ wx.cell? ⟨w.heap.size, 1, none⟩ = some (.int .u64 0) ∧ wx.cell? ⟨w.heap.size, 2, none⟩ = some (.int .u64 0) ∧ wx.cell? ⟨w.heap.size, 3, none⟩ = some (.int .u64 0) ∧ wx.cell? ⟨w.heap.size, 4, none⟩ = some (.int .u64 0)) ∧
    (wx.frozen? ⟨w.heap.size, 0, none⟩ = false ∧ wx.frozen? ⟨w.heap.size, 1, none⟩ = false ∧ wx.frozen? ⟨w.heap.size, 2, none⟩ = false ∧ wx.frozen? ⟨w.heap.size, 3, none⟩ = false ∧ wx.frozen? ⟨w.heap.size, 4, none⟩ = false) ∧ Below w.heap.size w wx
end Go.Proofs.Ytnlcchelepnknaa.Ref
