/-
  The reference's numbers told exactly: sign and size of each result. Conditions: signs are 1 or -1, sizes below 2^127.
-/
import Derived.Test.YtmbmjdlcpjmnoaaProd
import Derived.Test.YtmbmjdlcpjmnoaaSteady
import Derived.Test.YtmbmjdlcpjmnoaaRatioRef
namespace Go.Proofs.Ytmbmjdlcpjmnoaa.Nmx
open Go.ChangeShapes Go.WideShapes Go.ChangeAt Go.RowKit
open Num Ref
set_option linter.unusedVariables false
set_option maxRecDepth 100000

/-- A number of the reference: its sign and its size. -/
structure Nm where
  s : Int
  n : Int
/-- Its cells. -/
def Nm.cs (x : Nm) : Array Value := #[.int .i64 x.s, .int .u64 (x.n % 4294967296), .int .u64 (x.n / 4294967296 % 4294967296), .int .u64 (x.n / 18446744073709551616 % 4294967296), .int .u64 (x.n / 79228162514264337593543950336)]
/-- Its value. -/
def Nm.V (x : Nm) : Value := .agg x.cs
/-- The integer that it stands for. -/
def Nm.z (x : Nm) : Int := x.s * x.n
structure Nm.ok (x : Nm) : Prop where
  sign : x.s = 1 ∨ x.s = -1
  pos : 0 ≤ x.n
def Nm.half (x : Nm) : Prop := x.n < 170141183460469231731687303715884105728
theorem Nm.one (x : Nm) : x.cs.all (·.oneCell') = true := by simp [Nm.cs, Value.oneCell']
theorem Nm.size (x : Nm) : x.cs.size = 5 := rfl
def nof (a : Int) : Nm := ⟨sg a, abs a⟩
def nneg (x : Nm) : Nm := ⟨-x.s, x.n⟩
def nadd (x y : Nm) : Nm := if x.s = y.s then ⟨x.s, x.n + y.n⟩ else if x.n < y.n then ⟨y.s, y.n - x.n⟩ else ⟨x.s, x.n - y.n⟩
def nmul (a b : Int) : Nm := ⟨sg a * sg b, abs a * abs b⟩

theorem sg_ok (a : Int) : sg a = 1 ∨ sg a = -1 := by unfold sg; split <;> simp
theorem abs_pos (a : Int) : 0 ≤ abs a := by unfold abs; split <;> omega
theorem nof_ok (a : Int) : (nof a).ok := ⟨sg_ok a, abs_pos a⟩
theorem nof_z (a : Int) : (nof a).z = a := by unfold nof Nm.z sg abs; split <;> simp
theorem nneg_ok {x : Nm} (h : x.ok) : (nneg x).ok := ⟨by rcases h.sign with e | e <;> simp [nneg, e], h.pos⟩
theorem nneg_z (x : Nm) : (nneg x).z = -x.z := by simp [nneg, Nm.z, Int.neg_mul]
theorem nadd_ok {x y : Nm} (h : x.ok) (k : y.ok) : (nadd x y).ok := by
  unfold nadd
  have h1 := h.pos
  have h2 := k.pos
  split
  · exact ⟨h.sign, by show 0 ≤ x.n + y.n; omega⟩
  · split
    · exact ⟨k.sign, by show 0 ≤ y.n - x.n; omega⟩
    · exact ⟨h.sign, by show 0 ≤ x.n - y.n; omega⟩
theorem nadd_z {x y : Nm} (h : x.ok) (k : y.ok) : (nadd x y).z = x.z + y.z := by
  obtain ⟨s, n⟩ := x
  obtain ⟨t, m⟩ := y
  have h1 : s = 1 ∨ s = -1 := h.sign
  have h2 : t = 1 ∨ t = -1 := k.sign
  unfold nadd Nm.z
  rcases h1 with rfl | rfl <;> rcases h2 with rfl | rfl <;> simp <;> (repeat split) <;> (try simp) <;> omega
theorem nmul_ok (a b : Int) : (nmul a b).ok := by
  refine ⟨?_, Int.mul_nonneg (abs_pos a) (abs_pos b)⟩
  show sg a * sg b = 1 ∨ sg a * sg b = -1
  rcases sg_ok a with e | e <;> rcases sg_ok b with f | f <;> simp [e, f]
theorem nmul_z (a b : Int) : (nmul a b).z = a * b := by
  have e1 := nof_z a
  have e2 := nof_z b
  unfold Nm.z nof at e1 e2
  unfold Nm.z nmul
  dsimp only at e1 e2 ⊢
  calc sg a * sg b * (abs a * abs b) = (sg a * abs a) * (sg b * abs b) := by simp only [Int.mul_assoc, Int.mul_comm, Int.mul_left_comm]
    _ = a * b := by rw [e1, e2]
theorem abs_le {a : Int} (h : Fits a) : abs a ≤ 9223372036854775808 := by unfold Fits at h; unfold abs; split <;> omega
theorem nof_half {a : Int} (h : Fits a) : (nof a).half := by have := abs_le h; unfold Nm.half nof; dsimp only; omega
theorem nmul_le {a b : Int} (h : Fits a) (k : Fits b) : (nmul a b).n ≤ 85070591730234615865843651857942052864 := by
  have := Int.mul_le_mul (abs_le h) (abs_le k) (abs_pos b) (by omega)
  exact this
theorem nneg_n (x : Nm) : (nneg x).n = x.n := rfl
theorem nadd_n {x y : Nm} (h : x.ok) (k : y.ok) : (nadd x y).n ≤ x.n + y.n := by
  have h1 := h.pos
  have h2 := k.pos
  unfold nadd
  split
  · exact Int.le_refl _
  · split
    · show y.n - x.n ≤ _; omega
    · show x.n - y.n ≤ _; omega
/-- The sign told is above 0, and there are digits, just if the integer is above 0. -/
theorem nm_pos {x : Nm} (h : x.ok) : (0 < x.z) ↔ (0 < x.s ∧ x.n ≠ 0) := by
  obtain ⟨s, n⟩ := x
  have h1 : s = 1 ∨ s = -1 := h.sign
  have h2 : 0 ≤ n := h.pos
  unfold Nm.z
  dsimp only
  rcases h1 with rfl | rfl <;> simp <;> omega
theorem nm_zero {x : Nm} (h : x.ok) : x.z = 0 ↔ x.n = 0 := by
  obtain ⟨s, n⟩ := x
  have h1 : s = 1 ∨ s = -1 := h.sign
  unfold Nm.z
  dsimp only
  rcases h1 with rfl | rfl <;> simp
theorem nm_fits {x : Nm} (h : x.ok) (k : Fits x.z) : x.n ≤ 9223372036854775808 := by
  obtain ⟨s, n⟩ := x
  have h1 : s = 1 ∨ s = -1 := h.sign
  unfold Nm.z Fits at k
  dsimp only at k ⊢
  rcases h1 with rfl | rfl <;> simp at k <;> omega

theorem of_nm (a : Int) (w : World) (ha : Fits a) :
    Calls Try.prog 9 #[.int .i64 a] w fun e w' => e = .returned (nof a).V ∧ Below w.heap.size w w' := of_any a w ha
theorem minor_nm (x : Nm) (w : World) (h : x.ok) :
    Calls Try.prog 16 #[x.V] w fun e w' => e = .returned (nneg x).V ∧ Below w.heap.size w w' := minor_any x.s x.n w h.sign
theorem sum_nm (x y : Nm) (w : World) (h : x.ok) (k : y.ok) (hx : x.half) (hy : y.half) :
    Calls Try.prog 15 #[x.V, y.V] w fun e w' => e = .returned (nadd x y).V ∧ Below w.heap.size w w' := by
  obtain ⟨s, n⟩ := x
  obtain ⟨t, m⟩ := y
  have hn : Half n := ⟨h.pos, hx⟩
  have hm : Half m := ⟨k.pos, hy⟩
  unfold nadd
  dsimp only
  by_cases e : s = t
  · rw [if_pos e]; subst e; exact sum_same s n m w hn hm
  · rw [if_neg e]
    by_cases l : n < m
    · rw [if_pos l]; exact sum_less s t n m w e hn hm l
    · rw [if_neg l]; exact sum_more s t n m w e hn hm (by omega)
theorem times_nm (a b : Int) (w : World) (ha : Fits a) (hb : Fits b) :
    Calls Try.prog 27 #[.int .i64 a, .int .i64 b] w fun e w' => e = .returned (nmul a b).V ∧ Below w.heap.size w w' := times_exact a b w ha hb
theorem back_nm (x : Nm) (w : World) (h : x.ok) :
    Calls Try.prog 42 #[x.V] w fun e w' => e = .returned (.tuple #[.int .i64 (sat x.z), .bool (fitB x.z)]) ∧ Below w.heap.size w w' := back_any x.s x.n w h.sign h.pos
end Go.Proofs.Ytmbmjdlcpjmnoaa.Nmx
