/-
  Contracts of package span (without Times; wants package num alone): what each function returns for any spans and integers of 64 bits. No condition.
-/
import Derived.Test.YtlfienfjdjfcoaaNum
import Derived.Test.YtlfienfjdjfcoaaSpn
namespace Go.Proofs.Ytlfienfjdjfcoaa.Spo
open Go.ChangeShapes Go.WideShapes Go.ChangeAt Go.RowKit
open Num Arr
set_option linter.unusedVariables false
set_option maxRecDepth 100000

theorem infoS : (Try.prog.info? 23).map (·.size) = some 2 := by kernel_rfl
theorem two_one (a b : Int) : (#[Value.int .i64 a, .int .i64 b]).all (·.oneCell') = true := by simp [Value.oneCell']
theorem right_any (a b : Int) (w : World) :
    Calls Try.prog 27 #[.agg #[.int .i64 a, .int .i64 b]] w fun e w' => e = .returned (.bool (decide (a ≤ b))) ∧ Below w.heap.size w w' := by
  go_enter Try.func27, Try.ntmps27
  go_wp2
  go_ret
  exact ⟨rfl, (Below.refl _ _).alloc (Nat.le_refl _) _⟩
theorem has_any (a b x : Int) (w : World) :
    Calls Try.prog 14 #[.agg #[.int .i64 a, .int .i64 b], .int .i64 x] w fun e w' => e = .returned (.bool (decide (a ≤ x) && decide (x ≤ b))) ∧ Below w.heap.size w w' := by
  by_cases h : a ≤ x
  · have t : decide (a ≤ x) = true := decide_eq_true h
    rw [t, Bool.true_and]
    go_enter Try.func14, Try.ntmps14
    go_wp2
    go_ret
    exact ⟨rfl, (Below.refl _ _).alloc (Nat.le_refl _) _⟩
  · have t : decide (a ≤ x) = false := decide_eq_false h
    rw [t, Bool.false_and]
    go_enter Try.func14, Try.ntmps14
    go_wp2
    go_ret
    exact ⟨rfl, (Below.refl _ _).alloc (Nat.le_refl _) _⟩
theorem new_at {w : World} {o : Obj} {n : Nat} (h : n = w.heap.size) : (w.alloc o).heap[n]? = some o := by subst h; exact heap_alloc_new w o
theorem results_row_tmp {P : Program} {fn : Func} {p u : Tmp} {ty : TypeId} (h : fn.results = #[.cell p ty, .tmp u]) (tmps : Array Value) (w : World) (g : Nat) (t : TypeId) (cs : Array Value) (fr : Nat × Nat) (d : TypeDesc) (y : Value)
    (hp : tmps.getD p undef = .pointer (some ⟨g, 0, none⟩)) (hy : tmps.getD u undef = y) (hg : w.heap[g]? = some (.cells cs t fr))
    (hu : P.underlying ty = some d) (hd : (match d with | .struct _ | .array _ _ => true | _ => false) = true) (hi : (P.info? ty).map (·.size) = some cs.size) :
    (results fn tmps).run P w = .ok (.tuple #[.agg cs, y]) w := by
  have hp' : tmps[p]?.getD undef = .pointer (some ⟨g, 0, none⟩) := by simpa using hp
  have hy' : tmps[u]?.getD undef = y := by simpa using hy
  simp [results, h, hp', hy', asAddr, run_loadVar_row w g t ty cs fr d hg hu hd hi]
/-- The number, if there is one; else 0. -/
def orZ (ok : Bool) (x : Int) : Int := if ok then x else 0
theorem between_any (lo hi : Int) (there : Bool) (w : World) :
    Calls Try.prog 34 #[.int .i64 lo, .int .i64 hi, .bool there] w fun e w' => e = .returned (.tuple #[.agg #[.int .i64 (orZ (there && decide (lo ≤ hi)) (lo)), .int .i64 (orZ (there && decide (lo ≤ hi)) (hi))], .bool (there && decide (lo ≤ hi))]) ∧ Below w.heap.size w w' := by
  cases there
  · rw [Bool.false_and]
    go_enter Try.func34, Try.ntmps34
    go_wp2
    refine bodyPost_ret (v := .tuple #[.agg #[.int .i64 0, .int .i64 0], .bool false]) (by simp [results, Try.results34, go_sem]) rfl ⟨rfl, ?_⟩
    exact (((Below.refl _ _).alloc (Nat.le_refl _) _).alloc (by simp) _)
  · rw [Bool.true_and]
    by_cases h : lo ≤ hi
    · rw [decide_eq_true h]
      go_enter Try.func34, Try.ntmps34
      go_wp2_with (go_in)
      refine bodyPost_ret (v := .tuple #[.agg #[.int .i64 lo, .int .i64 hi], .bool true]) (by simp [results, Try.results34, go_sem]) rfl ⟨rfl, ?_⟩
      exact ((((Below.refl _ _).alloc (Nat.le_refl _) _).alloc (by simp) _).alloc (by simp; omega) _)
    · have h' := decide_eq_false h
      rw [h']
      go_enter Try.func34, Try.ntmps34
      go_wp2_with (go_in)
      refine bodyPost_ret (v := .tuple #[.agg #[.int .i64 0, .int .i64 0], .bool false]) (by simp [results, Try.results34, go_sem]) rfl ⟨rfl, ?_⟩
      exact ((((Below.refl _ _).alloc (Nat.le_refl _) _).alloc (by simp) _).alloc (by simp; omega) _)
theorem meet_core (a b c d p q x y : Int) (o : Bool) (w : World) (hx : max a c = x) (hy : min b d = y)
    (cB : ∀ W, Calls Try.prog 34 #[.int .i64 x, .int .i64 y, .bool true] W fun e w' => e = .returned (.tuple #[.agg #[.int .i64 p, .int .i64 q], .bool o]) ∧ Below W.heap.size W w') :
    Calls Try.prog 28 #[.agg #[.int .i64 a, .int .i64 b], .agg #[.int .i64 c, .int .i64 d]] w fun e w' => e = .returned (.tuple #[.agg #[.int .i64 p, .int .i64 q], .bool o]) ∧ Below w.heap.size w w' := by
  go_enter Try.func28, Try.ntmps28
  go_wp2_with (first
    | (go_at_call 34; ((with_reducible refine (cB _).mono ?_); rintro e wb ⟨rfl, hb⟩; have rB : wb.heap[w.heap.size + 1 + 1]? = some (.cells #[.int .i64 0, .int .i64 0] 23 (0, 0)) := below_row hb (by simp <;> omega) (by repeat (first | exact new_at (by simp) | refine row_alloc ?_ _))))
    | (refine wpList_store_whole rfl 23 (.tmp 4) (.tmp 17) rfl (w.heap.size + 1 + 1) #[.int .i64 p, .int .i64 q] (by rfl) (by rfl) _ _ rB infoS (by rfl) (two_one _ _) ?_; simp only [Act.put]))
  refine bodyPost_ret (results_row_tmp rfl _ _ (w.heap.size + 1 + 1) _ _ _ _ _ rfl rfl (setRow_heap _ _ _ _ _ _ rB) Try.underlying23 rfl infoS) rfl ⟨rfl, below_setRow (Below.trans ?_ (hb.mono ?_)) (by omega) _⟩
  · repeat (first | exact Below.refl _ _ | refine Below.alloc ?_ (by simp <;> omega) _)
  · simp <;> omega
theorem meet_any (a b c d : Int) (w : World) :
    Calls Try.prog 28 #[.agg #[.int .i64 a, .int .i64 b], .agg #[.int .i64 c, .int .i64 d]] w fun e w' => e = .returned (.tuple #[.agg #[.int .i64 (orZ (true && decide (max a c ≤ min b d)) (max a c)), .int .i64 (orZ (true && decide (max a c ≤ min b d)) (min b d))], .bool (true && decide (max a c ≤ min b d))]) ∧ Below w.heap.size w w' :=
  meet_core a b c d _ _ _ _ _ w rfl rfl (fun W => between_any _ _ true W)
theorem hull_left (a b c d : Int) (w : World) (h : ¬ a ≤ b) :
    Calls Try.prog 30 #[.agg #[.int .i64 a, .int .i64 b], .agg #[.int .i64 c, .int .i64 d]] w fun e w' => e = .returned (.agg #[.int .i64 c, .int .i64 d]) ∧ Below w.heap.size w w' := by
  have t := decide_eq_false h
  clear h
  go_enter Try.func30, Try.ntmps30
  go_wp2_with (go_in)
  refine bodyPost_ret (v := .agg #[.int .i64 c, .int .i64 d]) (by simp [results, Try.results30, go_sem]) rfl ⟨rfl, ?_⟩
  repeat (first | exact Below.refl _ _ | refine Below.alloc ?_ (by simp <;> omega) _)
theorem hull_right (a b c d : Int) (w : World) (h : a ≤ b) (k : ¬ c ≤ d) :
    Calls Try.prog 30 #[.agg #[.int .i64 a, .int .i64 b], .agg #[.int .i64 c, .int .i64 d]] w fun e w' => e = .returned (.agg #[.int .i64 a, .int .i64 b]) ∧ Below w.heap.size w w' := by
  have t := decide_eq_true h
  have u := decide_eq_false k
  clear h k
  go_enter Try.func30, Try.ntmps30
  go_wp2_with (go_in)
  refine bodyPost_ret (v := .agg #[.int .i64 a, .int .i64 b]) (by simp [results, Try.results30, go_sem]) rfl ⟨rfl, ?_⟩
  repeat (first | exact Below.refl _ _ | refine Below.alloc ?_ (by simp <;> omega) _)
theorem hull_both (a b c d x y : Int) (w : World) (h : a ≤ b) (k : c ≤ d) (hx : min a c = x) (hy : max b d = y) :
    Calls Try.prog 30 #[.agg #[.int .i64 a, .int .i64 b], .agg #[.int .i64 c, .int .i64 d]] w fun e w' => e = .returned (.agg #[.int .i64 x, .int .i64 y]) ∧ Below w.heap.size w w' := by
  have t := decide_eq_true h
  have u := decide_eq_true k
  clear h k
  go_enter Try.func30, Try.ntmps30
  go_wp2_with (go_in)
  refine bodyPost_ret (v := .agg #[.int .i64 x, .int .i64 y]) (by simp [results, Try.results30, go_sem]) rfl ⟨rfl, ?_⟩
  repeat (first | exact Below.refl _ _ | refine Below.alloc ?_ (by simp <;> omega) _)
theorem in_any (a b c d : Int) (w : World) :
    Calls Try.prog 17 #[.agg #[.int .i64 a, .int .i64 b], .agg #[.int .i64 c, .int .i64 d]] w fun e w' => e = .returned (.bool (!decide (a ≤ b) || decide (c ≤ a) && decide (b ≤ d))) ∧ Below w.heap.size w w' := by
  by_cases h : a ≤ b
  · by_cases k : c ≤ a
    · have t := decide_eq_true h
      have u := decide_eq_true k
      rw [t, u, Bool.true_and, Bool.not_true, Bool.false_or]
      clear h k
      go_enter Try.func17, Try.ntmps17
      go_wp2_with (go_in)
      go_ret
      refine ⟨rfl, ?_⟩
      repeat (first | exact Below.refl _ _ | refine Below.alloc ?_ (by simp <;> omega) _)
    · have t := decide_eq_true h
      have u := decide_eq_false k
      rw [t, u, Bool.false_and, Bool.not_true, Bool.false_or]
      clear h k
      go_enter Try.func17, Try.ntmps17
      go_wp2_with (go_in)
      go_ret
      refine ⟨rfl, ?_⟩
      repeat (first | exact Below.refl _ _ | refine Below.alloc ?_ (by simp <;> omega) _)
  · have t := decide_eq_false h
    rw [t, Bool.not_false, Bool.true_or]
    clear h
    go_enter Try.func17, Try.ntmps17
    go_wp2_with (go_in)
    go_ret
    refine ⟨rfl, ?_⟩
    repeat (first | exact Below.refl _ _ | refine Below.alloc ?_ (by simp <;> omega) _)
theorem width_wrap {a b : Int} (ha : Fits a) (hb : Fits b) (h : a ≤ b) : IntKind.u64.wrap (IntKind.u64.wrap b - IntKind.u64.wrap a) = b - a := by
  unfold Fits at ha hb; simp only [IntKind.wrap, IntKind.bits, IntKind.signed]; simp; omega
theorem width_any (a b : Int) (w : World) (ha : Fits a) (hb : Fits b) (h : a ≤ b) :
    Calls Try.prog 16 #[.agg #[.int .i64 a, .int .i64 b]] w fun e w' => e = .returned (.int .u64 (b - a)) ∧ Below w.heap.size w w' := by
  have t := decide_eq_true h
  have e := width_wrap ha hb h
  clear h ha hb
  go_enter Try.func16, Try.ntmps16
  go_wp2_with (go_in)
  go_ret
  refine ⟨rfl, ?_⟩
  repeat (first | exact Below.refl _ _ | refine Below.alloc ?_ (by simp <;> omega) _)
theorem mid_any (a b : Int) (w : World) (ha : Fits a) (hb : Fits b) :
    Calls Try.prog 39 #[.agg #[.int .i64 a, .int .i64 b]] w fun e w' => e = .returned (.int .i64 ((a + b) / 2)) ∧ Below w.heap.size w w' := by
  have c := fun W => Num.mid_any a b W ha hb
  clear ha hb
  go_enter Try.func39, Try.ntmps39
  go_wp2_with (go_at_call 43; ((with_reducible refine (c _).mono ?_); rintro e w' ⟨rfl, rfl⟩))
  go_ret
  exact ⟨rfl, (Below.refl _ _).alloc (Nat.le_refl _) _⟩
end Go.Proofs.Ytlfienfjdjfcoaa.Spo
