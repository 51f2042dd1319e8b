/-
  The reference's numbers told exactly, without products: sign and size of a number and of a sum, and what is told of it. Conditions: signs are 1 or -1, sizes below 2^127. (A layer that needs products takes Nm.)
-/
import Derived.Test.YtnlcchelepnknaaProd
import Derived.Test.YtnlcchelepnknaaBack
import Derived.Test.YtnlcchelepnknaaSum
namespace Go.Proofs.Ytnlcchelepnknaa.Nnx
open Go.ChangeShapes Go.WideShapes Go.ChangeAt Go.RowKit
open Num Ref
set_option linter.unusedVariables false
set_option maxRecDepth 100000

/-- A number of the reference: its sign and its size. -/
structure Nn where
  s : Int
  n : Int
def Nn.V (x : Nn) : Value := NV x.s x.n
/-- The integer that it stands for. -/
def Nn.z (x : Nn) : Int := x.s * x.n
structure Nn.ok (x : Nn) : Prop where
  sign : x.s = 1 ∨ x.s = -1
  pos : 0 ≤ x.n
def Nn.half (x : Nn) : Prop := x.n < 170141183460469231731687303715884105728
def nof (a : Int) : Nn := ⟨sg a, abs a⟩
def nadd (x y : Nn) : Nn := if x.s = y.s then ⟨x.s, x.n + y.n⟩ else if x.n < y.n then ⟨y.s, y.n - x.n⟩ else ⟨x.s, x.n - y.n⟩
theorem sg_ok (a : Int) : sg a = 1 ∨ sg a = -1 := by unfold sg; split <;> simp
theorem abs_pos (a : Int) : 0 ≤ abs a := by unfold abs; split <;> omega
theorem nof_ok (a : Int) : (nof a).ok := ⟨sg_ok a, abs_pos a⟩
theorem nof_z (a : Int) : (nof a).z = a := by unfold nof Nn.z sg abs; split <;> simp
theorem abs_le {a : Int} (h : Fits a) : abs a ≤ 9223372036854775808 := by unfold Fits at h; unfold abs; split <;> omega
theorem nof_half {a : Int} (h : Fits a) : (nof a).half := by have := abs_le h; unfold Nn.half nof; dsimp only; omega
theorem nadd_ok {x y : Nn} (h : x.ok) (k : y.ok) : (nadd x y).ok := by
  unfold nadd
  have h1 := h.pos
  have h2 := k.pos
  split
  · exact ⟨h.sign, by show 0 ≤ x.n + y.n; omega⟩
  · split
    · exact ⟨k.sign, by show 0 ≤ y.n - x.n; omega⟩
    · exact ⟨h.sign, by show 0 ≤ x.n - y.n; omega⟩
theorem nadd_z {x y : Nn} (h : x.ok) (k : y.ok) : (nadd x y).z = x.z + y.z := by
  obtain ⟨s, n⟩ := x
  obtain ⟨t, m⟩ := y
  have h1 : s = 1 ∨ s = -1 := h.sign
  have h2 : t = 1 ∨ t = -1 := k.sign
  unfold nadd Nn.z
  rcases h1 with rfl | rfl <;> rcases h2 with rfl | rfl <;> simp <;> (repeat split) <;> (try simp) <;> omega
theorem of_nn (a : Int) (w : World) (ha : Fits a) :
    Calls Try.prog 13 #[.int .i64 a] w fun e w' => e = .returned (nof a).V ∧ Below w.heap.size w w' := of_any a w ha
theorem sum_nn (x y : Nn) (w : World) (h : x.ok) (k : y.ok) (hx : x.half) (hy : y.half) :
    Calls Try.prog 12 #[x.V, y.V] w fun e w' => e = .returned (nadd x y).V ∧ Below w.heap.size w w' := by
  obtain ⟨s, n⟩ := x
  obtain ⟨t, m⟩ := y
  have hn : Half n := ⟨h.pos, hx⟩
  have hm : Half m := ⟨k.pos, hy⟩
  unfold nadd
  dsimp only
  by_cases e : s = t
  · rw [if_pos e]; subst e; exact sum_same s n m w hn hm
  · rw [if_neg e]
    by_cases l : n < m
    · rw [if_pos l]; exact sum_less s t n m w e hn hm l
    · rw [if_neg l]; exact sum_more s t n m w e hn hm (by omega)
theorem back_nn (x : Nn) (w : World) (h : x.ok) :
    Calls Try.prog 11 #[x.V] w fun e w' => e = .returned (.tuple #[.int .i64 (sat x.z), .bool (fitB x.z)]) ∧ Below w.heap.size w w' := back_any x.s x.n w h.sign h.pos
/-- What is told of the sum of two numbers. -/
theorem back_two (a b : Int) (w : World) (ha : Fits a) (hb : Fits b) :
    Calls Try.prog 11 #[(nadd (nof a) (nof b)).V] w fun e w' => e = .returned (.tuple #[.int .i64 (sat (a + b)), .bool (fitB (a + b))]) ∧ Below w.heap.size w w' := by
  have h := back_nn (nadd (nof a) (nof b)) w (nadd_ok (nof_ok a) (nof_ok b))
  rwa [nadd_z (nof_ok a) (nof_ok b), nof_z, nof_z] at h
end Go.Proofs.Ytnlcchelepnknaa.Nnx
