/-
  Contracts of package span's plain functions (Right, Has, At, Meet, Hull, In), apart from its arithmetic: what each returns for any integers. No condition.
-/
import Derived.Test.YtdkahonmblnlgaaSl
import Derived.Lib.MinMax
namespace Go.Proofs.Ytdkahonmblnlgaa.Spn
open Go.ChangeShapes Go.WideShapes Go.ChangeAt Go.RowKit
open Arr
set_option linter.unusedVariables false
set_option maxRecDepth 100000

theorem infoS : (Try.prog.info? 44).map (·.size) = some 2 := by kernel_rfl
theorem two_one (a b : Int) : (#[Value.int .i64 a, .int .i64 b]).all (·.oneCell') = true := by simp [Value.oneCell']
theorem right_any (a b : Int) (w : World) :
    Calls Try.prog 25 #[.agg #[.int .i64 a, .int .i64 b]] w fun e w' => e = .returned (.bool (decide (a ≤ b))) ∧ Below w.heap.size w w' := by
  go_enter Try.func25, Try.ntmps25
  go_wp2
  go_ret
  exact ⟨rfl, (Below.refl _ _).alloc (Nat.le_refl _) _⟩
theorem at_any (x : Int) (w : World) :
    Calls Try.prog 24 #[.int .i64 x] w fun e w' => e = .returned (.agg #[.int .i64 x, .int .i64 x]) ∧ Below w.heap.size w w' := by
  go_enter Try.func24, Try.ntmps24
  go_wp2
  refine bodyPost_ret (by simp [results, Try.results24, go_sem]) rfl ⟨rfl, ?_⟩
  exact (Below.refl _ _).alloc (Nat.le_refl _) _
theorem new_at {w : World} {o : Obj} {n : Nat} (h : n = w.heap.size) : (w.alloc o).heap[n]? = some o := by subst h; exact heap_alloc_new w o
theorem results_row_tmp {P : Program} {fn : Func} {p u : Tmp} {ty : TypeId} (h : fn.results = #[.cell p ty, .tmp u]) (tmps : Array Value) (w : World) (g : Nat) (t : TypeId) (cs : Array Value) (fr : Nat × Nat) (d : TypeDesc) (y : Value)
    (hp : tmps.getD p undef = .pointer (some ⟨g, 0, none⟩)) (hy : tmps.getD u undef = y) (hg : w.heap[g]? = some (.cells cs t fr))
    (hu : P.underlying ty = some d) (hd : (match d with | .struct _ | .array _ _ => true | _ => false) = true) (hi : (P.info? ty).map (·.size) = some cs.size) :
    (results fn tmps).run P w = .ok (.tuple #[.agg cs, y]) w := by
  have hp' : tmps[p]?.getD undef = .pointer (some ⟨g, 0, none⟩) := by simpa using hp
  have hy' : tmps[u]?.getD undef = y := by simpa using hy
  simp [results, h, hp', hy', asAddr, run_loadVar_row w g t ty cs fr d hg hu hd hi]
/-- The number, if there is one; else 0. -/
def orZ (ok : Bool) (x : Int) : Int := if ok then x else 0
theorem hull_left (a b c d : Int) (w : World) (h : ¬ a ≤ b) :
    Calls Try.prog 23 #[.agg #[.int .i64 a, .int .i64 b], .agg #[.int .i64 c, .int .i64 d]] w fun e w' => e = .returned (.agg #[.int .i64 c, .int .i64 d]) ∧ Below w.heap.size w w' := by
  have t := decide_eq_false h
  clear h
  go_enter Try.func23, Try.ntmps23
  go_wp2_with (go_in)
  refine bodyPost_ret (v := .agg #[.int .i64 c, .int .i64 d]) (by simp [results, Try.results23, go_sem]) rfl ⟨rfl, ?_⟩
  repeat (first | exact Below.refl _ _ | refine Below.alloc ?_ (by simp <;> omega) _)
theorem hull_right (a b c d : Int) (w : World) (h : a ≤ b) (k : ¬ c ≤ d) :
    Calls Try.prog 23 #[.agg #[.int .i64 a, .int .i64 b], .agg #[.int .i64 c, .int .i64 d]] w fun e w' => e = .returned (.agg #[.int .i64 a, .int .i64 b]) ∧ Below w.heap.size w w' := by
  have t := decide_eq_true h
  have u := decide_eq_false k
  clear h k
  go_enter Try.func23, Try.ntmps23
  go_wp2_with (go_in)
  refine bodyPost_ret (v := .agg #[.int .i64 a, .int .i64 b]) (by simp [results, Try.results23, go_sem]) rfl ⟨rfl, ?_⟩
  repeat (first | exact Below.refl _ _ | refine Below.alloc ?_ (by simp <;> omega) _)
theorem hull_both (a b c d x y : Int) (w : World) (h : a ≤ b) (k : c ≤ d) (hx : min a c = x) (hy : max b d = y) :
    Calls Try.prog 23 #[.agg #[.int .i64 a, .int .i64 b], .agg #[.int .i64 c, .int .i64 d]] w fun e w' => e = .returned (.agg #[.int .i64 x, .int .i64 y]) ∧ Below w.heap.size w w' := by
  have t := decide_eq_true h
  have u := decide_eq_true k
  clear h k
  go_enter Try.func23, Try.ntmps23
  go_wp2_with (go_in)
  refine bodyPost_ret (v := .agg #[.int .i64 x, .int .i64 y]) (by simp [results, Try.results23, go_sem]) rfl ⟨rfl, ?_⟩
  repeat (first | exact Below.refl _ _ | refine Below.alloc ?_ (by simp <;> omega) _)
/-- The ends of the hull of two spans. -/
def hullF (a b c d : Int) : Int × Int := if a ≤ b then (if c ≤ d then (min a c, max b d) else (a, b)) else (c, d)
theorem hull_any (a b c d : Int) (w : World) :
    Calls Try.prog 23 #[.agg #[.int .i64 a, .int .i64 b], .agg #[.int .i64 c, .int .i64 d]] w fun e w' => e = .returned (.agg #[.int .i64 (hullF a b c d).1, .int .i64 (hullF a b c d).2]) ∧ Below w.heap.size w w' := by
  unfold hullF
  by_cases h : a ≤ b
  · rw [if_pos h]
    by_cases k : c ≤ d
    · rw [if_pos k]
      exact hull_both a b c d _ _ w h k rfl rfl
    · rw [if_neg k]
      exact hull_right a b c d w h k
  · rw [if_neg h]
    exact hull_left a b c d w h
end Go.Proofs.Ytdkahonmblnlgaa.Spn
