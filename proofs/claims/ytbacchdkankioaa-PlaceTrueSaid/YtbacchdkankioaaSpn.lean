/-
  Contracts of package span's plain functions (Right, Has, At, Meet, Hull, In), apart from its arithmetic: what each returns for any integers. No condition.
-/
import Derived.Test.YtbacchdkankioaaSl
import Derived.Lib.MinMax
namespace Go.Proofs.Ytbacchdkankioaa.Spn
open Go.ChangeShapes Go.WideShapes Go.ChangeAt Go.RowKit
open Arr
set_option linter.unusedVariables false
set_option maxRecDepth 100000

theorem infoS : (Try.prog.info? 32).map (·.size) = some 2 := by kernel_rfl
theorem two_one (a b : Int) : (#[Value.int .i64 a, .int .i64 b]).all (·.oneCell') = true := by simp [Value.oneCell']
theorem right_any (a b : Int) (w : World) :
    Calls Try.prog 7 #[.agg #[.int .i64 a, .int .i64 b]] w fun e w' => e = .returned (.bool (decide (a ≤ b))) ∧ Below w.heap.size w w' := by
  go_enter Try.func7, Try.ntmps7
  go_wp2
  go_ret
  exact ⟨rfl, (Below.refl _ _).alloc (Nat.le_refl _) _⟩
theorem has_any (a b x : Int) (w : World) :
    Calls Try.prog 16 #[.agg #[.int .i64 a, .int .i64 b], .int .i64 x] w fun e w' => e = .returned (.bool (decide (a ≤ x) && decide (x ≤ b))) ∧ Below w.heap.size w w' := by
  by_cases h : a ≤ x
  · have t : decide (a ≤ x) = true := decide_eq_true h
    rw [t, Bool.true_and]
    go_enter Try.func16, Try.ntmps16
    go_wp2
    go_ret
    exact ⟨rfl, (Below.refl _ _).alloc (Nat.le_refl _) _⟩
  · have t : decide (a ≤ x) = false := decide_eq_false h
    rw [t, Bool.false_and]
    go_enter Try.func16, Try.ntmps16
    go_wp2
    go_ret
    exact ⟨rfl, (Below.refl _ _).alloc (Nat.le_refl _) _⟩
theorem at_any (x : Int) (w : World) :
    Calls Try.prog 21 #[.int .i64 x] w fun e w' => e = .returned (.agg #[.int .i64 x, .int .i64 x]) ∧ Below w.heap.size w w' := by
  go_enter Try.func21, Try.ntmps21
  go_wp2
  refine bodyPost_ret (by simp [results, Try.results21, go_sem]) rfl ⟨rfl, ?_⟩
  exact (Below.refl _ _).alloc (Nat.le_refl _) _
theorem new_at {w : World} {o : Obj} {n : Nat} (h : n = w.heap.size) : (w.alloc o).heap[n]? = some o := by subst h; exact heap_alloc_new w o
theorem results_row_tmp {P : Program} {fn : Func} {p u : Tmp} {ty : TypeId} (h : fn.results = #[.cell p ty, .tmp u]) (tmps : Array Value) (w : World) (g : Nat) (t : TypeId) (cs : Array Value) (fr : Nat × Nat) (d : TypeDesc) (y : Value)
    (hp : tmps.getD p undef = .pointer (some ⟨g, 0, none⟩)) (hy : tmps.getD u undef = y) (hg : w.heap[g]? = some (.cells cs t fr))
    (hu : P.underlying ty = some d) (hd : (match d with | .struct _ | .array _ _ => true | _ => false) = true) (hi : (P.info? ty).map (·.size) = some cs.size) :
    (results fn tmps).run P w = .ok (.tuple #[.agg cs, y]) w := by
  have hp' : tmps[p]?.getD undef = .pointer (some ⟨g, 0, none⟩) := by simpa using hp
  have hy' : tmps[u]?.getD undef = y := by simpa using hy
  simp [results, h, hp', hy', asAddr, run_loadVar_row w g t ty cs fr d hg hu hd hi]
/-- The number, if there is one; else 0. -/
def orZ (ok : Bool) (x : Int) : Int := if ok then x else 0
theorem between_any (lo hi : Int) (there : Bool) (w : World) :
    Calls Try.prog 39 #[.int .i64 lo, .int .i64 hi, .bool there] w fun e w' => e = .returned (.tuple #[.agg #[.int .i64 (orZ (there && decide (lo ≤ hi)) (lo)), .int .i64 (orZ (there && decide (lo ≤ hi)) (hi))], .bool (there && decide (lo ≤ hi))]) ∧ Below w.heap.size w w' := by
  cases there
  · rw [Bool.false_and]
    go_enter Try.func39, Try.ntmps39
    go_wp2
    refine bodyPost_ret (v := .tuple #[.agg #[.int .i64 0, .int .i64 0], .bool false]) (by simp [results, Try.results39, go_sem]) rfl ⟨rfl, ?_⟩
    exact (((Below.refl _ _).alloc (Nat.le_refl _) _).alloc (by simp) _)
  · rw [Bool.true_and]
    by_cases h : lo ≤ hi
    · rw [decide_eq_true h]
      go_enter Try.func39, Try.ntmps39
      go_wp2_with (go_in)
      refine bodyPost_ret (v := .tuple #[.agg #[.int .i64 lo, .int .i64 hi], .bool true]) (by simp [results, Try.results39, go_sem]) rfl ⟨rfl, ?_⟩
      exact ((((Below.refl _ _).alloc (Nat.le_refl _) _).alloc (by simp) _).alloc (by simp; omega) _)
    · have h' := decide_eq_false h
      rw [h']
      go_enter Try.func39, Try.ntmps39
      go_wp2_with (go_in)
      refine bodyPost_ret (v := .tuple #[.agg #[.int .i64 0, .int .i64 0], .bool false]) (by simp [results, Try.results39, go_sem]) rfl ⟨rfl, ?_⟩
      exact ((((Below.refl _ _).alloc (Nat.le_refl _) _).alloc (by simp) _).alloc (by simp; omega) _)
theorem hull_both (a b c d x y : Int) (w : World) (h : a ≤ b) (k : c ≤ d) (hx : min a c = x) (hy : max b d = y) :
    Calls Try.prog 20 #[.agg #[.int .i64 a, .int .i64 b], .agg #[.int .i64 c, .int .i64 d]] w fun e w' => e = .returned (.agg #[.int .i64 x, .int .i64 y]) ∧ Below w.heap.size w w' := by
  have t := decide_eq_true h
  have u := decide_eq_true k
  clear h k
  go_enter Try.func20, Try.ntmps20
  go_wp2_with (go_in)
  refine bodyPost_ret (v := .agg #[.int .i64 x, .int .i64 y]) (by simp [results, Try.results20, go_sem]) rfl ⟨rfl, ?_⟩
  repeat (first | exact Below.refl _ _ | refine Below.alloc ?_ (by simp <;> omega) _)
theorem in_any (a b c d : Int) (w : World) :
    Calls Try.prog 8 #[.agg #[.int .i64 a, .int .i64 b], .agg #[.int .i64 c, .int .i64 d]] w fun e w' => e = .returned (.bool (!decide (a ≤ b) || decide (c ≤ a) && decide (b ≤ d))) ∧ Below w.heap.size w w' := by
  by_cases h : a ≤ b
  · by_cases k : c ≤ a
    · have t := decide_eq_true h
      have u := decide_eq_true k
      rw [t, u, Bool.true_and, Bool.not_true, Bool.false_or]
      clear h k
      go_enter Try.func8, Try.ntmps8
      go_wp2_with (go_in)
      go_ret
      refine ⟨rfl, ?_⟩
      repeat (first | exact Below.refl _ _ | refine Below.alloc ?_ (by simp <;> omega) _)
    · have t := decide_eq_true h
      have u := decide_eq_false k
      rw [t, u, Bool.false_and, Bool.not_true, Bool.false_or]
      clear h k
      go_enter Try.func8, Try.ntmps8
      go_wp2_with (go_in)
      go_ret
      refine ⟨rfl, ?_⟩
      repeat (first | exact Below.refl _ _ | refine Below.alloc ?_ (by simp <;> omega) _)
  · have t := decide_eq_false h
    rw [t, Bool.not_false, Bool.true_or]
    clear h
    go_enter Try.func8, Try.ntmps8
    go_wp2_with (go_in)
    go_ret
    refine ⟨rfl, ?_⟩
    repeat (first | exact Below.refl _ _ | refine Below.alloc ?_ (by simp <;> omega) _)
/-- The ends of the hull of two spans. -/
def hullF (a b c d : Int) : Int × Int := if a ≤ b then (if c ≤ d then (min a c, max b d) else (a, b)) else (c, d)
end Go.Proofs.Ytbacchdkankioaa.Spn
