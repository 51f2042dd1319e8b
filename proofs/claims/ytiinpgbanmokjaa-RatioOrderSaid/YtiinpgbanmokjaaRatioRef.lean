/-
  The reference's numbers as layer 3's statements ask of them: the sign, the order of sizes, what a quotient leaves. Conditions: integers of 64 bits.
-/
import Derived.Test.YtiinpgbanmokjaaProd
import Derived.Test.YtiinpgbanmokjaaRatio
import Derived.Test.YtiinpgbanmokjaaSteady
namespace Go.Proofs.Ytiinpgbanmokjaa.RatioRef
open Go.ChangeShapes Go.WideShapes Go.ChangeAt Go.RowKit
open Num Ref Ratio Steady Arr
set_option linter.unusedVariables false
set_option maxRecDepth 100000

/-- The sign u and the digits d0 .. d3 as a value. -/
theorem sign_four (u d0 d1 d2 d3 : Int) (w : World) :
    Calls Try.prog 14 #[.agg #[.int .i64 u, .int .u64 d0, .int .u64 d1, .int .u64 d2, .int .u64 d3]] w fun e w' =>
      e = .returned (.int .i64 (if d0 = 0 ∧ d1 = 0 ∧ d2 = 0 ∧ d3 = 0 then 0 else u)) ∧ Below w.heap.size w w' := by
  have i0 : ∀ w : World, (Instr.index 29 (.agg #[.int .u64 d0, .int .u64 d1, .int .u64 d2, .int .u64 d3]) (.int .i64 0)).run Try.prog w = .ok (.int .u64 d0) w := fun _ => by kernel_rfl
  have i1 : ∀ w : World, (Instr.index 29 (.agg #[.int .u64 d0, .int .u64 d1, .int .u64 d2, .int .u64 d3]) (.int .i64 1)).run Try.prog w = .ok (.int .u64 d1) w := fun _ => by kernel_rfl
  have i2 : ∀ w : World, (Instr.index 29 (.agg #[.int .u64 d0, .int .u64 d1, .int .u64 d2, .int .u64 d3]) (.int .i64 2)).run Try.prog w = .ok (.int .u64 d2) w := fun _ => by kernel_rfl
  have i3 : ∀ w : World, (Instr.index 29 (.agg #[.int .u64 d0, .int .u64 d1, .int .u64 d2, .int .u64 d3]) (.int .i64 3)).run Try.prog w = .ok (.int .u64 d3) w := fun _ => by kernel_rfl
  have Z : ∀ w : World, Below w.heap.size w (w.alloc (.cells #[.int .i64 u, .int .u64 d0, .int .u64 d1, .int .u64 d2, .int .u64 d3] 31)) := fun w => (Below.refl _ _).alloc (Nat.le_refl _) _
  by_cases h0 : d0 = 0
  · subst h0
    by_cases h1 : d1 = 0
    · subst h1
      by_cases h2 : d2 = 0
      · subst h2
        by_cases h3 : d3 = 0
        · subst h3
          rw [if_pos ⟨rfl, rfl, rfl, rfl⟩]
          go_enter Try.func14, Try.ntmps14
          go_wp2
          refine wp_loop_rounds 5 ?_
          rw [rounds_succ]
          go_wp2
          rw [rounds_succ]
          go_wp2
          rw [rounds_succ]
          go_wp2
          rw [rounds_succ]
          go_wp2
          rw [rounds_succ]
          go_wp2
          go_ret
          exact ⟨rfl, Z w⟩
        · have t : (d3 != 0) = true := by simpa using h3
          rw [if_neg (by simp [h3])]
          go_enter Try.func14, Try.ntmps14
          go_wp2
          refine wp_loop_rounds 5 ?_
          rw [rounds_succ]
          go_wp2
          rw [rounds_succ]
          go_wp2
          rw [rounds_succ]
          go_wp2
          rw [rounds_succ]
          go_wp2
          go_ret
          exact ⟨rfl, Z w⟩
      · have t : (d2 != 0) = true := by simpa using h2
        rw [if_neg (by simp [h2])]
        go_enter Try.func14, Try.ntmps14
        go_wp2
        refine wp_loop_rounds 5 ?_
        rw [rounds_succ]
        go_wp2
        rw [rounds_succ]
        go_wp2
        rw [rounds_succ]
        go_wp2
        go_ret
        exact ⟨rfl, Z w⟩
    · have t : (d1 != 0) = true := by simpa using h1
      rw [if_neg (by simp [h1])]
      go_enter Try.func14, Try.ntmps14
      go_wp2
      refine wp_loop_rounds 5 ?_
      rw [rounds_succ]
      go_wp2
      rw [rounds_succ]
      go_wp2
      go_ret
      exact ⟨rfl, Z w⟩
  · have t : (d0 != 0) = true := by simpa using h0
    rw [if_neg (by simp [h0])]
    go_enter Try.func14, Try.ntmps14
    go_wp2
    refine wp_loop_rounds 5 ?_
    rw [rounds_succ]
    go_wp2
    go_ret
    exact ⟨rfl, Z w⟩
theorem sign_num (z u d0 d1 d2 d3 : Int) (w : World) (h : IsNum z u d0 d1 d2 d3) :
    Calls Try.prog 14 #[.agg #[.int .i64 u, .int .u64 d0, .int .u64 d1, .int .u64 d2, .int .u64 d3]] w fun e w' => e = .returned (.int .i64 (sgn z)) ∧ Below w.heap.size w w' := by
  refine (sign_four u d0 d1 d2 d3 w).mono ?_
  rintro e w' ⟨rfl, hb⟩
  refine ⟨?_, hb⟩
  congr 2
  obtain ⟨n, hu, h0, rfl, rfl, rfl, rfl, rfl⟩ := h
  unfold sgn
  by_cases hn : n = 0
  · subst hn
    rcases hu with rfl | rfl <;> simp
  · rw [if_neg (by omega)]
    rcases hu with rfl | rfl
    · rw [if_neg (by omega), if_pos (by omega)]
    · rw [if_pos (by omega)]
theorem less_num (z u d0 d1 d2 d3 y v c0 c1 c2 c3 : Int) (w : World) (h : IsNum z u d0 d1 d2 d3) (k : IsNum y v c0 c1 c2 c3) :
    Calls Try.prog 17 #[.agg #[.int .u64 d0, .int .u64 d1, .int .u64 d2, .int .u64 d3], .agg #[.int .u64 c0, .int .u64 c1, .int .u64 c2, .int .u64 c3]] w fun e w' =>
      e = .returned (.bool (decide (z.natAbs < y.natAbs))) ∧ Below w.heap.size w w' := by
  obtain ⟨n, hu, h0, rfl, rfl, rfl, rfl, rfl⟩ := h
  obtain ⟨m, hv, k0, rfl, rfl, rfl, rfl, rfl⟩ := k
  have e : decide (n < m) = decide ((u * n).natAbs < (v * m).natAbs) := by
    rw [decide_eq_decide]
    rcases hu with rfl | rfl <;> rcases hv with rfl | rfl <;> omega
  rw [← e]
  exact less_any n m w
/-- Well within the room of four digits. -/
def Mild (z : Int) : Prop := -170141183460469231731687303715884105728 < z ∧ z < 170141183460469231731687303715884105728
theorem sum_mild (z u d0 d1 d2 d3 y v c0 c1 c2 c3 : Int) (w : World) (h : IsNum z u d0 d1 d2 d3) (k : IsNum y v c0 c1 c2 c3) (hz : Mild z) (hy : Mild y) :
    Calls Try.prog 20 #[.agg #[.int .i64 u, .int .u64 d0, .int .u64 d1, .int .u64 d2, .int .u64 d3], .agg #[.int .i64 v, .int .u64 c0, .int .u64 c1, .int .u64 c2, .int .u64 c3]] w fun e w' =>
      (∃ u d0 d1 d2 d3, e = .returned (.agg #[.int .i64 u, .int .u64 d0, .int .u64 d1, .int .u64 d2, .int .u64 d3]) ∧ IsNum (z + y) u d0 d1 d2 d3) ∧ Below w.heap.size w w' := by
  obtain ⟨n, hu, h0, e1, rfl, rfl, rfl, rfl⟩ := h
  obtain ⟨m, hv, k0, e2, rfl, rfl, rfl, rfl⟩ := k
  have hn : Half n := by unfold Mild at hz; unfold Half; rcases hu with rfl | rfl <;> omega
  have hm : Half m := by unfold Mild at hy; unfold Half; rcases hv with rfl | rfl <;> omega
  by_cases huv : u = v
  · subst huv
    refine (sum_same u n m w hn hm).mono ?_
    rintro e w' ⟨rfl, hb⟩
    exact ⟨⟨_, _, _, _, _, rfl, n + m, hu, by omega, by rw [← e1, ← e2, Int.mul_add], rfl, rfl, rfl, rfl⟩, hb⟩
  · by_cases hl : n < m
    · refine (sum_less u v n m w huv hn hm hl).mono ?_
      rintro e w' ⟨rfl, hb⟩
      exact ⟨⟨_, _, _, _, _, rfl, m - n, hv, by omega, by rcases hu with rfl | rfl <;> rcases hv with rfl | rfl <;> omega, rfl, rfl, rfl, rfl⟩, hb⟩
    · refine (sum_more u v n m w huv hn hm (by omega)).mono ?_
      rintro e w' ⟨rfl, hb⟩
      exact ⟨⟨_, _, _, _, _, rfl, n - m, hu, by omega, by rcases hu with rfl | rfl <;> rcases hv with rfl | rfl <;> omega, rfl, rfl, rfl, rfl⟩, hb⟩
theorem prod_mild {a b : Int} (ha : Fits a) (hb : Fits b) : Mild (a * b) := by
  obtain ⟨A, _, nA, lA, _⟩ := fits_abs ha
  obtain ⟨B, _, nB, lB, _⟩ := fits_abs hb
  have h1 : A * B ≤ 85070591730234615865843651857942052864 := Nat.le_trans (Nat.mul_le_mul lA lB) (by decide)
  have h2 : (a * b).natAbs = A * B := by rw [Int.natAbs_mul, nA, nB]
  unfold Mild
  omega
theorem mild_neg {z : Int} (h : Mild z) : Mild (-z) := by unfold Mild at *; omega
theorem infoN : (Try.prog.info? 31).map (·.size) = some 5 := by kernel_rfl
theorem five_one (u d0 d1 d2 d3 : Int) : (#[Value.int .i64 u, .int .u64 d0, .int .u64 d1, .int .u64 d2, .int .u64 d3]).all (·.oneCell') = true := by simp [Value.oneCell']
theorem rest_num (a b q c : Int) (w : World) (ha : Fits a) (hb : Fits b) (hq : Fits q) (hc : Fits c) :
    Calls Try.prog 12 #[.int .i64 a, .int .i64 b, .int .i64 q, .int .i64 c] w fun e w' =>
      (∃ u d0 d1 d2 d3, e = .returned (.agg #[.int .i64 u, .int .u64 d0, .int .u64 d1, .int .u64 d2, .int .u64 d3]) ∧ IsNum (a * b - q * c) u d0 d1 d2 d3) ∧ Below w.heap.size w w' := by
  have c1 := fun W => times_num a b W ha hb
  have c2 := fun W => times_num q c W hq hc
  have m1 := Lib.hid (prod_mild ha hb)
  have m2 := Lib.hid (mild_neg (prod_mild hq hc))
  rw [Int.sub_eq_add_neg]
  clear ha hb hq hc
  go_enter Try.func12, Try.ntmps12
  go_wp2_with (first
    | (go_at_call 16; ((with_reducible refine (c1 _).mono ?_); rintro e w1 ⟨⟨u, d0, d1, d2, d3, rfl, hx⟩, hb1⟩; have Hx := Lib.hid hx; clear hx; have r1 := below_row hb1 (by simp) (heap_alloc_new w _); have B1 := ((Below.refl w.heap.size w).alloc (Nat.le_refl _) _).trans (hb1.mono (by simp))))
    | (go_at_call 16; ((with_reducible refine (c2 _).mono ?_); rintro e w2 ⟨⟨v, e0, e1, e2, e3, rfl, hy⟩, hb2⟩; have Hy := Lib.hid hy; clear hy; have r2 := below_row hb2 (lt_of_row r1) r1; have B2 := B1.trans (hb2.mono B1.size)))
    | (go_at_call 21; ((with_reducible refine (minor_num _ _ _ _ _ _ _ Hy.out).mono ?_); rintro e w3 ⟨⟨x, f0, f1, f2, f3, rfl, hx3⟩, hb3⟩; have H3 := Lib.hid hx3; clear hx3; have r3 := below_row hb3 (lt_of_row r2) r2; have B3 := B2.trans (hb3.mono B2.size)))
    | (go_at_call 20; ((with_reducible refine (sum_mild _ _ _ _ _ _ _ _ _ _ _ _ _ Hx.out H3.out m1.out m2.out).mono ?_); rintro e w4 ⟨⟨y, g0, g1, g2, g3, rfl, hx4⟩, hb4⟩; have H4 := Lib.hid hx4; clear hx4; have r4 := below_row hb4 (lt_of_row r3) r3; have B4 := B3.trans (hb4.mono B3.size)))
    | (refine wpList_store_whole rfl 31 (.tmp 8) (.tmp 16) rfl w.heap.size #[.int .i64 y, .int .u64 g0, .int .u64 g1, .int .u64 g2, .int .u64 g3] (by rfl) (by rfl) _ _ r4 infoN (by rfl) (five_one _ _ _ _ _) ?_; apply wpList_nil; (repeat go_step); refine bodyPost_ret (v := .agg #[.int .i64 y, .int .u64 g0, .int .u64 g1, .int .u64 g2, .int .u64 g3]) (results_cell_row rfl _ _ w.heap.size _ _ _ _ rfl (setRow_heap _ _ _ _ _ _ r4) Try.underlying31 rfl infoN) rfl ⟨⟨_, _, _, _, _, rfl, H4.out⟩, below_setRow B4 (Nat.le_refl _) _⟩))
end Go.Proofs.Ytiinpgbanmokjaa.RatioRef
