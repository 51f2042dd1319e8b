/-
  Contracts of package span (without Times; wants package num alone): what each function returns for any spans and integers of 64 bits. No condition.
-/
import Derived.Test.YtbacchdkankioaaNum
import Derived.Test.YtbacchdkankioaaSpn
namespace Go.Proofs.Ytbacchdkankioaa.Spo
open Go.ChangeShapes Go.WideShapes Go.ChangeAt Go.RowKit
open Num Arr
set_option linter.unusedVariables false
set_option maxRecDepth 100000

/-- A number, if it fits, else 0; whether it fits. -/
def fitOr (z : Int) : Int := if Fits z then z else 0
def fitB (z : Int) : Bool := decide (Fits z)
theorem add_num (a b : Int) (w : World) (ha : Fits a) (hb : Fits b) :
    Calls Try.prog 38 #[.int .i64 a, .int .i64 b] w fun e w' => e = .returned (.tuple #[.int .i64 (fitOr (a + b)), .bool (fitB (a + b))]) ∧ w = w' := by
  by_cases hf : Fits (a + b)
  · rw [show fitOr (a + b) = a + b from if_pos hf, show fitB (a + b) = true from decide_eq_true hf]; exact add_yes a b w ha hb hf
  · rw [show fitOr (a + b) = 0 from if_neg hf, show fitB (a + b) = false from decide_eq_false hf]; exact add_no a b w ha hb hf
theorem sub_num (a b : Int) (w : World) (ha : Fits a) (hb : Fits b) :
    Calls Try.prog 37 #[.int .i64 a, .int .i64 b] w fun e w' => e = .returned (.tuple #[.int .i64 (fitOr (a + -b)), .bool (fitB (a + -b))]) ∧ w = w' := by
  have e : a + -b = a - b := rfl
  rw [e]
  by_cases hf : Fits (a - b)
  · rw [show fitOr (a - b) = a - b from if_pos hf, show fitB (a - b) = true from decide_eq_true hf]; exact sub_yes a b w ha hb hf
  · rw [show fitOr (a - b) = 0 from if_neg hf, show fitB (a - b) = false from decide_eq_false hf]; exact sub_no a b w ha hb hf
theorem infoS : (Try.prog.info? 32).map (·.size) = some 2 := by kernel_rfl
theorem two_one (a b : Int) : (#[Value.int .i64 a, .int .i64 b]).all (·.oneCell') = true := by simp [Value.oneCell']
theorem right_any (a b : Int) (w : World) :
    Calls Try.prog 7 #[.agg #[.int .i64 a, .int .i64 b]] w fun e w' => e = .returned (.bool (decide (a ≤ b))) ∧ Below w.heap.size w w' := by
  go_enter Try.func7, Try.ntmps7
  go_wp2
  go_ret
  exact ⟨rfl, (Below.refl _ _).alloc (Nat.le_refl _) _⟩
theorem has_any (a b x : Int) (w : World) :
    Calls Try.prog 16 #[.agg #[.int .i64 a, .int .i64 b], .int .i64 x] w fun e w' => e = .returned (.bool (decide (a ≤ x) && decide (x ≤ b))) ∧ Below w.heap.size w w' := by
  by_cases h : a ≤ x
  · have t : decide (a ≤ x) = true := decide_eq_true h
    rw [t, Bool.true_and]
    go_enter Try.func16, Try.ntmps16
    go_wp2
    go_ret
    exact ⟨rfl, (Below.refl _ _).alloc (Nat.le_refl _) _⟩
  · have t : decide (a ≤ x) = false := decide_eq_false h
    rw [t, Bool.false_and]
    go_enter Try.func16, Try.ntmps16
    go_wp2
    go_ret
    exact ⟨rfl, (Below.refl _ _).alloc (Nat.le_refl _) _⟩
theorem at_any (x : Int) (w : World) :
    Calls Try.prog 21 #[.int .i64 x] w fun e w' => e = .returned (.agg #[.int .i64 x, .int .i64 x]) ∧ Below w.heap.size w w' := by
  go_enter Try.func21, Try.ntmps21
  go_wp2
  refine bodyPost_ret (by simp [results, Try.results21, go_sem]) rfl ⟨rfl, ?_⟩
  exact (Below.refl _ _).alloc (Nat.le_refl _) _
theorem new_at {w : World} {o : Obj} {n : Nat} (h : n = w.heap.size) : (w.alloc o).heap[n]? = some o := by subst h; exact heap_alloc_new w o
theorem results_row_tmp {P : Program} {fn : Func} {p u : Tmp} {ty : TypeId} (h : fn.results = #[.cell p ty, .tmp u]) (tmps : Array Value) (w : World) (g : Nat) (t : TypeId) (cs : Array Value) (fr : Nat × Nat) (d : TypeDesc) (y : Value)
    (hp : tmps.getD p undef = .pointer (some ⟨g, 0, none⟩)) (hy : tmps.getD u undef = y) (hg : w.heap[g]? = some (.cells cs t fr))
    (hu : P.underlying ty = some d) (hd : (match d with | .struct _ | .array _ _ => true | _ => false) = true) (hi : (P.info? ty).map (·.size) = some cs.size) :
    (results fn tmps).run P w = .ok (.tuple #[.agg cs, y]) w := by
  have hp' : tmps[p]?.getD undef = .pointer (some ⟨g, 0, none⟩) := by simpa using hp
  have hy' : tmps[u]?.getD undef = y := by simpa using hy
  simp [results, h, hp', hy', asAddr, run_loadVar_row w g t ty cs fr d hg hu hd hi]
/-- The number, if there is one; else 0. -/
def orZ (ok : Bool) (x : Int) : Int := if ok then x else 0
/-- Is there a span of these ends, where r is so? -/
def tB (r : Bool) (X Y : Int) : Bool := r && fitB X && fitB Y && decide (X ≤ Y)
theorem between_any (lo hi : Int) (there : Bool) (w : World) :
    Calls Try.prog 39 #[.int .i64 lo, .int .i64 hi, .bool there] w fun e w' => e = .returned (.tuple #[.agg #[.int .i64 (orZ (there && decide (lo ≤ hi)) (lo)), .int .i64 (orZ (there && decide (lo ≤ hi)) (hi))], .bool (there && decide (lo ≤ hi))]) ∧ Below w.heap.size w w' := by
  cases there
  · rw [Bool.false_and]
    go_enter Try.func39, Try.ntmps39
    go_wp2
    refine bodyPost_ret (v := .tuple #[.agg #[.int .i64 0, .int .i64 0], .bool false]) (by simp [results, Try.results39, go_sem]) rfl ⟨rfl, ?_⟩
    exact (((Below.refl _ _).alloc (Nat.le_refl _) _).alloc (by simp) _)
  · rw [Bool.true_and]
    by_cases h : lo ≤ hi
    · rw [decide_eq_true h]
      go_enter Try.func39, Try.ntmps39
      go_wp2_with (go_in)
      refine bodyPost_ret (v := .tuple #[.agg #[.int .i64 lo, .int .i64 hi], .bool true]) (by simp [results, Try.results39, go_sem]) rfl ⟨rfl, ?_⟩
      exact ((((Below.refl _ _).alloc (Nat.le_refl _) _).alloc (by simp) _).alloc (by simp; omega) _)
    · have h' := decide_eq_false h
      rw [h']
      go_enter Try.func39, Try.ntmps39
      go_wp2_with (go_in)
      refine bodyPost_ret (v := .tuple #[.agg #[.int .i64 0, .int .i64 0], .bool false]) (by simp [results, Try.results39, go_sem]) rfl ⟨rfl, ?_⟩
      exact ((((Below.refl _ _).alloc (Nat.le_refl _) _).alloc (by simp) _).alloc (by simp; omega) _)
theorem told_ok (r : Bool) (X Y : Int) : (r && fitB X && fitB Y && decide (fitOr X ≤ fitOr Y)) = tB r X Y := by
  unfold tB
  by_cases hx : Fits X
  · by_cases hy : Fits Y
    · rw [fitOr, fitOr, if_pos hx, if_pos hy]
    · rw [fitB, fitB, decide_eq_false hy]; simp
  · rw [fitB, decide_eq_false hx]; simp
theorem told_or (r : Bool) (X Y : Int) : orZ (tB r X Y) (fitOr X) = orZ (tB r X Y) X ∧ orZ (tB r X Y) (fitOr Y) = orZ (tB r X Y) Y := by
  unfold orZ
  by_cases h : tB r X Y = true
  · rw [if_pos h, if_pos h, if_pos h, if_pos h]
    unfold tB fitB at h
    simp only [Bool.and_eq_true, decide_eq_true_eq] at h
    unfold fitOr
    rw [if_pos h.1.1.2, if_pos h.1.2]
    exact ⟨rfl, rfl⟩
  · rw [if_neg h, if_neg h, if_neg h, if_neg h]
    exact ⟨rfl, rfl⟩
theorem between_told (r : Bool) (X Y : Int) (w : World) :
    Calls Try.prog 39 #[.int .i64 (fitOr X), .int .i64 (fitOr Y), .bool (r && fitB X && fitB Y)] w fun e w' => e = .returned (.tuple #[.agg #[.int .i64 (orZ (tB r X Y) (X)), .int .i64 (orZ (tB r X Y) (Y))], .bool (tB r X Y)]) ∧ Below w.heap.size w w' := by
  have h := between_any (fitOr X) (fitOr Y) (r && fitB X && fitB Y) w
  rw [told_ok, (told_or r X Y).1, (told_or r X Y).2] at h
  exact h
theorem add_core (a b c d p q x y : Int) (r0 r1 f1 f2 o : Bool) (w : World)
    (h0 : decide (a ≤ b) = r0)
    (h1 : decide (c ≤ d) = r1)
    (c1 : ∀ W, Calls Try.prog 38 #[.int .i64 a, .int .i64 c] W fun e w' => e = .returned (.tuple #[.int .i64 x, .bool f1]) ∧ W = w')
    (c2 : ∀ W, Calls Try.prog 38 #[.int .i64 b, .int .i64 d] W fun e w' => e = .returned (.tuple #[.int .i64 y, .bool f2]) ∧ W = w')
    (cB : ∀ W, Calls Try.prog 39 #[.int .i64 x, .int .i64 y, .bool (r0 && r1 && f1 && f2)] W fun e w' => e = .returned (.tuple #[.agg #[.int .i64 p, .int .i64 q], .bool o]) ∧ Below W.heap.size W w') :
    Calls Try.prog 27 #[.agg #[.int .i64 a, .int .i64 b], .agg #[.int .i64 c, .int .i64 d]] w fun e w' => e = .returned (.tuple #[.agg #[.int .i64 p, .int .i64 q], .bool o]) ∧ Below w.heap.size w w' := by
  cases r0
  · try simp only [Bool.true_and] at cB
    try simp only [Bool.false_and] at cB
    go_enter Try.func27, Try.ntmps27
    go_wp2_with (first
          | (go_at_call 38; ((with_reducible refine (c1 _).mono ?_); rintro e w' ⟨rfl, rfl⟩))
          | (go_at_call 38; ((with_reducible refine (c2 _).mono ?_); rintro e w' ⟨rfl, rfl⟩))
          | (go_at_call 39; ((with_reducible refine (cB _).mono ?_); rintro e wb ⟨rfl, hb⟩; have rB : wb.heap[w.heap.size + 1 + 1]? = some (.cells #[.int .i64 0, .int .i64 0] 32 (0, 0)) := below_row hb (by simp <;> omega) (by repeat (first | exact new_at (by simp) | refine row_alloc ?_ _))))
          | (refine wpList_store_whole rfl 32 (.tmp 4) (.tmp 41) rfl (w.heap.size + 1 + 1) #[.int .i64 p, .int .i64 q] (by rfl) (by rfl) _ _ rB infoS (by rfl) (two_one _ _) ?_; simp only [Act.put])
          | go_in)
    refine bodyPost_ret (results_row_tmp rfl _ _ (w.heap.size + 1 + 1) _ _ _ _ _ rfl rfl (setRow_heap _ _ _ _ _ _ rB) Try.underlying32 rfl infoS) rfl ⟨rfl, below_setRow (Below.trans ?_ (hb.mono ?_)) (by omega) _⟩
    · repeat (first | exact Below.refl _ _ | refine Below.alloc ?_ (by simp <;> omega) _)
    · simp <;> omega
  · cases r1
    · try simp only [Bool.true_and] at cB
      try simp only [Bool.false_and] at cB
      go_enter Try.func27, Try.ntmps27
      go_wp2_with (first
          | (go_at_call 38; ((with_reducible refine (c1 _).mono ?_); rintro e w' ⟨rfl, rfl⟩))
          | (go_at_call 38; ((with_reducible refine (c2 _).mono ?_); rintro e w' ⟨rfl, rfl⟩))
          | (go_at_call 39; ((with_reducible refine (cB _).mono ?_); rintro e wb ⟨rfl, hb⟩; have rB : wb.heap[w.heap.size + 1 + 1]? = some (.cells #[.int .i64 0, .int .i64 0] 32 (0, 0)) := below_row hb (by simp <;> omega) (by repeat (first | exact new_at (by simp) | refine row_alloc ?_ _))))
          | (refine wpList_store_whole rfl 32 (.tmp 4) (.tmp 41) rfl (w.heap.size + 1 + 1) #[.int .i64 p, .int .i64 q] (by rfl) (by rfl) _ _ rB infoS (by rfl) (two_one _ _) ?_; simp only [Act.put])
          | go_in)
      refine bodyPost_ret (results_row_tmp rfl _ _ (w.heap.size + 1 + 1) _ _ _ _ _ rfl rfl (setRow_heap _ _ _ _ _ _ rB) Try.underlying32 rfl infoS) rfl ⟨rfl, below_setRow (Below.trans ?_ (hb.mono ?_)) (by omega) _⟩
      · repeat (first | exact Below.refl _ _ | refine Below.alloc ?_ (by simp <;> omega) _)
      · simp <;> omega
    · cases f1
      · try simp only [Bool.true_and] at cB
        try simp only [Bool.false_and] at cB
        go_enter Try.func27, Try.ntmps27
        go_wp2_with (first
          | (go_at_call 38; ((with_reducible refine (c1 _).mono ?_); rintro e w' ⟨rfl, rfl⟩))
          | (go_at_call 38; ((with_reducible refine (c2 _).mono ?_); rintro e w' ⟨rfl, rfl⟩))
          | (go_at_call 39; ((with_reducible refine (cB _).mono ?_); rintro e wb ⟨rfl, hb⟩; have rB : wb.heap[w.heap.size + 1 + 1]? = some (.cells #[.int .i64 0, .int .i64 0] 32 (0, 0)) := below_row hb (by simp <;> omega) (by repeat (first | exact new_at (by simp) | refine row_alloc ?_ _))))
          | (refine wpList_store_whole rfl 32 (.tmp 4) (.tmp 41) rfl (w.heap.size + 1 + 1) #[.int .i64 p, .int .i64 q] (by rfl) (by rfl) _ _ rB infoS (by rfl) (two_one _ _) ?_; simp only [Act.put])
          | go_in)
        refine bodyPost_ret (results_row_tmp rfl _ _ (w.heap.size + 1 + 1) _ _ _ _ _ rfl rfl (setRow_heap _ _ _ _ _ _ rB) Try.underlying32 rfl infoS) rfl ⟨rfl, below_setRow (Below.trans ?_ (hb.mono ?_)) (by omega) _⟩
        · repeat (first | exact Below.refl _ _ | refine Below.alloc ?_ (by simp <;> omega) _)
        · simp <;> omega
      · try simp only [Bool.true_and] at cB
        try simp only [Bool.false_and] at cB
        go_enter Try.func27, Try.ntmps27
        go_wp2_with (first
          | (go_at_call 38; ((with_reducible refine (c1 _).mono ?_); rintro e w' ⟨rfl, rfl⟩))
          | (go_at_call 38; ((with_reducible refine (c2 _).mono ?_); rintro e w' ⟨rfl, rfl⟩))
          | (go_at_call 39; ((with_reducible refine (cB _).mono ?_); rintro e wb ⟨rfl, hb⟩; have rB : wb.heap[w.heap.size + 1 + 1]? = some (.cells #[.int .i64 0, .int .i64 0] 32 (0, 0)) := below_row hb (by simp <;> omega) (by repeat (first | exact new_at (by simp) | refine row_alloc ?_ _))))
          | (refine wpList_store_whole rfl 32 (.tmp 4) (.tmp 41) rfl (w.heap.size + 1 + 1) #[.int .i64 p, .int .i64 q] (by rfl) (by rfl) _ _ rB infoS (by rfl) (two_one _ _) ?_; simp only [Act.put])
          | go_in)
        refine bodyPost_ret (results_row_tmp rfl _ _ (w.heap.size + 1 + 1) _ _ _ _ _ rfl rfl (setRow_heap _ _ _ _ _ _ rB) Try.underlying32 rfl infoS) rfl ⟨rfl, below_setRow (Below.trans ?_ (hb.mono ?_)) (by omega) _⟩
        · repeat (first | exact Below.refl _ _ | refine Below.alloc ?_ (by simp <;> omega) _)
        · simp <;> omega
theorem grow_core (a b far p q x y : Int) (r0 f1 f2 o : Bool) (w : World)
    (h0 : decide (a ≤ b) = r0)
    (c1 : ∀ W, Calls Try.prog 37 #[.int .i64 a, .int .i64 far] W fun e w' => e = .returned (.tuple #[.int .i64 x, .bool f1]) ∧ W = w')
    (c2 : ∀ W, Calls Try.prog 38 #[.int .i64 b, .int .i64 far] W fun e w' => e = .returned (.tuple #[.int .i64 y, .bool f2]) ∧ W = w')
    (cB : ∀ W, Calls Try.prog 39 #[.int .i64 x, .int .i64 y, .bool (r0 && f1 && f2)] W fun e w' => e = .returned (.tuple #[.agg #[.int .i64 p, .int .i64 q], .bool o]) ∧ Below W.heap.size W w') :
    Calls Try.prog 22 #[.agg #[.int .i64 a, .int .i64 b], .int .i64 far] w fun e w' => e = .returned (.tuple #[.agg #[.int .i64 p, .int .i64 q], .bool o]) ∧ Below w.heap.size w w' := by
  cases r0
  · try simp only [Bool.true_and] at cB
    try simp only [Bool.false_and] at cB
    go_enter Try.func22, Try.ntmps22
    go_wp2_with (first
          | (go_at_call 37; ((with_reducible refine (c1 _).mono ?_); rintro e w' ⟨rfl, rfl⟩))
          | (go_at_call 38; ((with_reducible refine (c2 _).mono ?_); rintro e w' ⟨rfl, rfl⟩))
          | (go_at_call 39; ((with_reducible refine (cB _).mono ?_); rintro e wb ⟨rfl, hb⟩; have rB : wb.heap[w.heap.size + 1]? = some (.cells #[.int .i64 0, .int .i64 0] 32 (0, 0)) := below_row hb (by simp <;> omega) (by repeat (first | exact new_at (by simp) | refine row_alloc ?_ _))))
          | (refine wpList_store_whole rfl 32 (.tmp 4) (.tmp 35) rfl (w.heap.size + 1) #[.int .i64 p, .int .i64 q] (by rfl) (by rfl) _ _ rB infoS (by rfl) (two_one _ _) ?_; simp only [Act.put])
          | go_in)
    refine bodyPost_ret (results_row_tmp rfl _ _ (w.heap.size + 1) _ _ _ _ _ rfl rfl (setRow_heap _ _ _ _ _ _ rB) Try.underlying32 rfl infoS) rfl ⟨rfl, below_setRow (Below.trans ?_ (hb.mono ?_)) (by omega) _⟩
    · repeat (first | exact Below.refl _ _ | refine Below.alloc ?_ (by simp <;> omega) _)
    · simp <;> omega
  · cases f1
    · try simp only [Bool.true_and] at cB
      try simp only [Bool.false_and] at cB
      go_enter Try.func22, Try.ntmps22
      go_wp2_with (first
          | (go_at_call 37; ((with_reducible refine (c1 _).mono ?_); rintro e w' ⟨rfl, rfl⟩))
          | (go_at_call 38; ((with_reducible refine (c2 _).mono ?_); rintro e w' ⟨rfl, rfl⟩))
          | (go_at_call 39; ((with_reducible refine (cB _).mono ?_); rintro e wb ⟨rfl, hb⟩; have rB : wb.heap[w.heap.size + 1]? = some (.cells #[.int .i64 0, .int .i64 0] 32 (0, 0)) := below_row hb (by simp <;> omega) (by repeat (first | exact new_at (by simp) | refine row_alloc ?_ _))))
          | (refine wpList_store_whole rfl 32 (.tmp 4) (.tmp 35) rfl (w.heap.size + 1) #[.int .i64 p, .int .i64 q] (by rfl) (by rfl) _ _ rB infoS (by rfl) (two_one _ _) ?_; simp only [Act.put])
          | go_in)
      refine bodyPost_ret (results_row_tmp rfl _ _ (w.heap.size + 1) _ _ _ _ _ rfl rfl (setRow_heap _ _ _ _ _ _ rB) Try.underlying32 rfl infoS) rfl ⟨rfl, below_setRow (Below.trans ?_ (hb.mono ?_)) (by omega) _⟩
      · repeat (first | exact Below.refl _ _ | refine Below.alloc ?_ (by simp <;> omega) _)
      · simp <;> omega
    · try simp only [Bool.true_and] at cB
      try simp only [Bool.false_and] at cB
      go_enter Try.func22, Try.ntmps22
      go_wp2_with (first
          | (go_at_call 37; ((with_reducible refine (c1 _).mono ?_); rintro e w' ⟨rfl, rfl⟩))
          | (go_at_call 38; ((with_reducible refine (c2 _).mono ?_); rintro e w' ⟨rfl, rfl⟩))
          | (go_at_call 39; ((with_reducible refine (cB _).mono ?_); rintro e wb ⟨rfl, hb⟩; have rB : wb.heap[w.heap.size + 1]? = some (.cells #[.int .i64 0, .int .i64 0] 32 (0, 0)) := below_row hb (by simp <;> omega) (by repeat (first | exact new_at (by simp) | refine row_alloc ?_ _))))
          | (refine wpList_store_whole rfl 32 (.tmp 4) (.tmp 35) rfl (w.heap.size + 1) #[.int .i64 p, .int .i64 q] (by rfl) (by rfl) _ _ rB infoS (by rfl) (two_one _ _) ?_; simp only [Act.put])
          | go_in)
      refine bodyPost_ret (results_row_tmp rfl _ _ (w.heap.size + 1) _ _ _ _ _ rfl rfl (setRow_heap _ _ _ _ _ _ rB) Try.underlying32 rfl infoS) rfl ⟨rfl, below_setRow (Below.trans ?_ (hb.mono ?_)) (by omega) _⟩
      · repeat (first | exact Below.refl _ _ | refine Below.alloc ?_ (by simp <;> omega) _)
      · simp <;> omega
theorem add_any (a b c d : Int) (w : World) (ha : Fits a) (hb : Fits b) (hc : Fits c) (hd : Fits d) :
    Calls Try.prog 27 #[.agg #[.int .i64 a, .int .i64 b], .agg #[.int .i64 c, .int .i64 d]] w fun e w' => e = .returned (.tuple #[.agg #[.int .i64 (orZ (tB (decide (a ≤ b) && decide (c ≤ d)) (a + c) (b + d)) (a + c)), .int .i64 (orZ (tB (decide (a ≤ b) && decide (c ≤ d)) (a + c) (b + d)) (b + d))], .bool (tB (decide (a ≤ b) && decide (c ≤ d)) (a + c) (b + d))]) ∧ Below w.heap.size w w' :=
  add_core a b c d _ _ _ _ _ _ _ _ _ w rfl rfl (fun W => add_num a c W ha hc) (fun W => add_num b d W hb hd) (fun W => between_told _ _ _ W)
theorem grow_any (a b f : Int) (w : World) (ha : Fits a) (hb : Fits b) (hf : Fits f) :
    Calls Try.prog 22 #[.agg #[.int .i64 a, .int .i64 b], .int .i64 f] w fun e w' => e = .returned (.tuple #[.agg #[.int .i64 (orZ (tB (decide (a ≤ b)) (a + -f) (b + f)) (a + -f)), .int .i64 (orZ (tB (decide (a ≤ b)) (a + -f) (b + f)) (b + f))], .bool (tB (decide (a ≤ b)) (a + -f) (b + f))]) ∧ Below w.heap.size w w' :=
  grow_core a b f _ _ _ _ _ _ _ _ w rfl (fun W => sub_num a f W ha hf) (fun W => add_num b f W hb hf) (fun W => between_told _ _ _ W)
theorem hull_both (a b c d x y : Int) (w : World) (h : a ≤ b) (k : c ≤ d) (hx : min a c = x) (hy : max b d = y) :
    Calls Try.prog 20 #[.agg #[.int .i64 a, .int .i64 b], .agg #[.int .i64 c, .int .i64 d]] w fun e w' => e = .returned (.agg #[.int .i64 x, .int .i64 y]) ∧ Below w.heap.size w w' := by
  have t := decide_eq_true h
  have u := decide_eq_true k
  clear h k
  go_enter Try.func20, Try.ntmps20
  go_wp2_with (go_in)
  refine bodyPost_ret (v := .agg #[.int .i64 x, .int .i64 y]) (by simp [results, Try.results20, go_sem]) rfl ⟨rfl, ?_⟩
  repeat (first | exact Below.refl _ _ | refine Below.alloc ?_ (by simp <;> omega) _)
theorem in_any (a b c d : Int) (w : World) :
    Calls Try.prog 8 #[.agg #[.int .i64 a, .int .i64 b], .agg #[.int .i64 c, .int .i64 d]] w fun e w' => e = .returned (.bool (!decide (a ≤ b) || decide (c ≤ a) && decide (b ≤ d))) ∧ Below w.heap.size w w' := by
  by_cases h : a ≤ b
  · by_cases k : c ≤ a
    · have t := decide_eq_true h
      have u := decide_eq_true k
      rw [t, u, Bool.true_and, Bool.not_true, Bool.false_or]
      clear h k
      go_enter Try.func8, Try.ntmps8
      go_wp2_with (go_in)
      go_ret
      refine ⟨rfl, ?_⟩
      repeat (first | exact Below.refl _ _ | refine Below.alloc ?_ (by simp <;> omega) _)
    · have t := decide_eq_true h
      have u := decide_eq_false k
      rw [t, u, Bool.false_and, Bool.not_true, Bool.false_or]
      clear h k
      go_enter Try.func8, Try.ntmps8
      go_wp2_with (go_in)
      go_ret
      refine ⟨rfl, ?_⟩
      repeat (first | exact Below.refl _ _ | refine Below.alloc ?_ (by simp <;> omega) _)
  · have t := decide_eq_false h
    rw [t, Bool.not_false, Bool.true_or]
    clear h
    go_enter Try.func8, Try.ntmps8
    go_wp2_with (go_in)
    go_ret
    refine ⟨rfl, ?_⟩
    repeat (first | exact Below.refl _ _ | refine Below.alloc ?_ (by simp <;> omega) _)
theorem mid_any (a b : Int) (w : World) (ha : Fits a) (hb : Fits b) :
    Calls Try.prog 23 #[.agg #[.int .i64 a, .int .i64 b]] w fun e w' => e = .returned (.int .i64 ((a + b) / 2)) ∧ Below w.heap.size w w' := by
  have c := fun W => Num.mid_any a b W ha hb
  clear ha hb
  go_enter Try.func23, Try.ntmps23
  go_wp2_with (go_at_call 40; ((with_reducible refine (c _).mono ?_); rintro e w' ⟨rfl, rfl⟩))
  go_ret
  exact ⟨rfl, (Below.refl _ _).alloc (Nat.le_refl _) _⟩
end Go.Proofs.Ytbacchdkankioaa.Spo
