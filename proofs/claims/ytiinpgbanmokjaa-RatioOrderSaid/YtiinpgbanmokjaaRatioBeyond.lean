/-
  What layer 3's statements say of a quotient that doesn't fit: 'beyond'. Conditions: integers of 64 bits.
-/
import Derived.Test.YtiinpgbanmokjaaRatioLies
namespace Go.Proofs.Ytiinpgbanmokjaa.RatioRef
open Go.ChangeShapes Go.WideShapes Go.ChangeAt Go.RowKit
open Num Ref Ratio Steady Arr
set_option linter.unusedVariables false
set_option maxRecDepth 100000

/-- Is a quotient beyond 64 bits, told by what the least and the greatest number leave? -/
def beyondB (least most c : Int) (up : Bool) : Bool :=
  if up then decide (0 < (if c < 0 then -sgn most else sgn most)) || (decide ((if c < 0 then -sgn least else sgn least) < 0) && !decide (least.natAbs < c.natAbs))
  else decide ((if c < 0 then -sgn least else sgn least) < 0) || (decide (0 < (if c < 0 then -sgn most else sgn most)) && !decide (most.natAbs < c.natAbs))
set_option maxHeartbeats 4000000 in
theorem beyond_num (a b c : Int) (up : Bool) (w : World) (ha : Fits a) (hb : Fits b) (hc : Fits c) :
    Calls Try.prog 10 #[.int .i64 a, .int .i64 b, .int .i64 c, .bool up] w fun e w' => e = .returned (.bool (beyondB (a * b - -9223372036854775808 * c) (a * b - 9223372036854775807 * c) c up)) ∧ Below w.heap.size w w' := by
  have c1 := fun W => rest_num a b (-9223372036854775808) c W ha hb (by unfold Fits; omega) hc
  have c2 := fun W => rest_num a b 9223372036854775807 c W ha hb (by unfold Fits; omega) hc
  have co := fun W => of_any c W hc
  have hno := Lib.hid (isNum_of c hc)
  unfold NV at co
  obtain ⟨zl, hzl⟩ : ∃ z, z = a * b - -9223372036854775808 * c := ⟨_, rfl⟩
  obtain ⟨zm, hzm⟩ : ∃ z, z = a * b - 9223372036854775807 * c := ⟨_, rfl⟩
  rw [← hzl] at c1 ⊢
  rw [← hzm] at c2 ⊢
  clear hzl hzm ha hb hc
  unfold beyondB
  obtain ⟨x1, x2⟩ := sgn_bounds zl
  obtain ⟨y1, y2⟩ := sgn_bounds zm
  obtain ⟨x, hx⟩ : ∃ x, Hid (sgn zl = x) := ⟨_, Lib.hid rfl⟩
  obtain ⟨y, hy⟩ : ∃ y, Hid (sgn zm = y) := ⟨_, Lib.hid rfl⟩
  obtain ⟨L1, hL1⟩ : ∃ L, Hid (decide (zl.natAbs < c.natAbs) = L) := ⟨_, Lib.hid rfl⟩
  obtain ⟨L2, hL2⟩ : ∃ L, Hid (decide (zm.natAbs < c.natAbs) = L) := ⟨_, Lib.hid rfl⟩
  rw [hx.out] at x1 x2 ⊢
  rw [hy.out] at y1 y2 ⊢
  rw [hL1.out, hL2.out]
  generalize sg c = sc at *
  generalize abs c % 4294967296 = k0 at *
  generalize abs c / 4294967296 % 4294967296 = k1 at *
  generalize abs c / 18446744073709551616 % 4294967296 = k2 at *
  generalize abs c / 79228162514264337593543950336 = k3 at *
  have fd := field_digits sc k0 k1 k2 k3
  go_enter Try.func10, Try.ntmps10
  go_upto_region 2 with (first
    | (go_at_call 12; ((with_reducible refine (c1 _).mono ?_); rintro e w1 ⟨⟨u, d0, d1, d2, d3, rfl, hx⟩, hb1⟩; have Hx := Lib.hid hx; clear hx))
    | (go_at_call 12; ((with_reducible refine (c2 _).mono ?_); rintro e w2 ⟨⟨v, e0, e1, e2, e3, rfl, hy⟩, hb2⟩; have Hy := Lib.hid hy; clear hy)))
  have q9 := heap_alloc2_old w2 (.cells #[.int .i64 u, .int .u64 d0, .int .u64 d1, .int .u64 d2, .int .u64 d3] 31) (.cells #[.int .i64 v, .int .u64 e0, .int .u64 e1, .int .u64 e2, .int .u64 e3] 31)
  have q10 := heap_alloc2_new w2 (.cells #[.int .i64 u, .int .u64 d0, .int .u64 d1, .int .u64 d2, .int .u64 d3] 31) (.cells #[.int .i64 v, .int .u64 e0, .int .u64 e1, .int .u64 e2, .int .u64 e3] 31)
  have B3 : Below w.heap.size w ((w2.alloc (.cells #[.int .i64 u, .int .u64 d0, .int .u64 d1, .int .u64 d2, .int .u64 d3] 31)).alloc (.cells #[.int .i64 v, .int .u64 e0, .int .u64 e1, .int .u64 e2, .int .u64 e3] 31)) := by
    have z1 := hb1.size
    have z2 := hb2.size
    exact ((hb1.trans (hb2.mono z1)).alloc (by omega) _).alloc (by simp; omega) _
  generalize (w2.alloc (.cells #[.int .i64 u, .int .u64 d0, .int .u64 d1, .int .u64 d2, .int .u64 d3] 31)).alloc (.cells #[.int .i64 v, .int .u64 e0, .int .u64 e1, .int .u64 e2, .int .u64 e3] 31) = w3 at *
  have cx := fun W => sign_num zl u d0 d1 d2 d3 W Hx.out
  have cy := fun W => sign_num zm v e0 e1 e2 e3 W Hy.out
  have cl1 := fun W => less_num zl u d0 d1 d2 d3 c sc k0 k1 k2 k3 W Hx.out hno.out
  have cl2 := fun W => less_num zm v e0 e1 e2 e3 c sc k0 k1 k2 k3 W Hy.out hno.out
  rw [hx.out] at cx
  rw [hy.out] at cy
  rw [hL1.out] at cl1
  rw [hL2.out] at cl2
  clear hx hy hL1 hL2 Hx Hy hno c1 c2 hb1 hb2
  refine wp_region_steady [.plain, .plain, .plain, .plain, .late, .late] none [] 65 (by kernel_rfl) rfl (by kernel_rfl) (by kernel_rfl) ?_
  refine st_load 31 (.tmp 9) (w2.heap.size) _ _ _ _ rfl rfl rfl rfl q9 Try.underlying31 rfl infoN ?_
  simp only [Nat.reduceAdd, Act.put, List.setIfInBounds_toArray, List.set_cons_zero, List.set_cons_succ]
  refine st_call 14 #[.agg #[.int .i64 u, .int .u64 d0, .int .u64 d1, .int .u64 d2, .int .u64 d3]] (.int .i64 x) rfl rfl (fun _ => by go_simp) (cx) ?_
  simp only [Nat.reduceAdd, Act.put, List.setIfInBounds_toArray, List.set_cons_zero, List.set_cons_succ]
  refine st_load 31 (.tmp 10) (w2.heap.size + 1) _ _ _ _ rfl rfl rfl rfl q10 Try.underlying31 rfl infoN ?_
  simp only [Nat.reduceAdd, Act.put, List.setIfInBounds_toArray, List.set_cons_zero, List.set_cons_succ]
  refine st_call 14 #[.agg #[.int .i64 v, .int .u64 e0, .int .u64 e1, .int .u64 e2, .int .u64 e3]] (.int .i64 y) rfl rfl (fun _ => by go_simp) (cy) ?_
  simp only [Nat.reduceAdd, Act.put, List.setIfInBounds_toArray, List.set_cons_zero, List.set_cons_succ]
  refine st_late (.int .i64 x) rfl rfl (fun _ => rfl) ?_
  simp only [Nat.reduceAdd, Act.put, List.setIfInBounds_toArray, List.set_cons_zero, List.set_cons_succ]
  refine st_late (.int .i64 y) rfl rfl (fun _ => rfl) ?_
  simp only [Nat.reduceAdd, Act.put, List.setIfInBounds_toArray, List.set_cons_zero, List.set_cons_succ]
  refine st_nil ?_
  intro phwd whwd hwd
  simp only [fin, List.foldl_nil]
  have n9 := below_row hwd.below (lt_of_row q9) q9
  have n10 := below_row hwd.below (lt_of_row q10) q10
  have B4 := B3.drew.trans (hwd.below.mono B3.size)
  clear hwd q9 q10 B3 cx cy
  have q9 := n9
  have q10 := n10
  clear n9 n10
  have r9 := rangeAt_row q9 (off := 1) (ps := [.int .u64 d0, .int .u64 d1, .int .u64 d2, .int .u64 d3]) rfl
  by_cases hc0 : c < 0
  · have tc : decide (c < 0) = true := decide_eq_true hc0
    cases up
    · by_cases p1 : 0 < x
      · have t1 : decide (0 < x) = true := decide_eq_true p1
        have P1 := Lib.hid p1
        clear p1
        go_wp2_with (first
          | (go_at_call 19; ((with_reducible refine (co _).mono ?_); rintro e w5 ⟨rfl, hb5⟩; have q9 := below_row hb5 (lt_of_row q9) q9; have q10 := below_row hb5 (lt_of_row q10) q10; have B5 := B4.trans (hb5.mono B4.size); have z5 := B5.size; have k9_1 := (cell_of_row _ _ 1 _ _ _ q9); have k10_1 := (cell_of_row _ _ 1 _ _ _ q10); have k9_2 := (cell_of_row _ _ 2 _ _ _ q9); have k10_2 := (cell_of_row _ _ 2 _ _ _ q10); have k9_3 := (cell_of_row _ _ 3 _ _ _ q9); have k10_3 := (cell_of_row _ _ 3 _ _ _ q10); have k9_4 := (cell_of_row _ _ 4 _ _ _ q9); have k10_4 := (cell_of_row _ _ 4 _ _ _ q10); have l10 := lt_of_row q10; have l9 : w2.heap.size < w5.heap.size := (by omega)))
          | (rw [fd]; simp only [Result.andThen_ok])
          | (go_at_call 17; ((with_reducible refine (cl2 _).mono ?_); rintro e w6 ⟨rfl, hb6⟩)))
        go_ret
        exact ⟨by first | rfl | (simp; done) | (simp [P1.out]; done) | (simp [hc0, P1.out]; done), B5.alloc B5.size _⟩
      · have t1 : decide (0 < x) = false := decide_eq_false p1
        by_cases p2 : y < 0
        · have t2 : decide (y < 0) = true := decide_eq_true p2
          have P1 := Lib.hid p1
          clear p1
          have P2 := Lib.hid p2
          clear p2
          go_wp2_with (first
            | (go_at_call 19; ((with_reducible refine (co _).mono ?_); rintro e w5 ⟨rfl, hb5⟩; have q9 := below_row hb5 (lt_of_row q9) q9; have q10 := below_row hb5 (lt_of_row q10) q10; have B5 := B4.trans (hb5.mono B4.size); have z5 := B5.size; have k9_1 := (cell_of_row _ _ 1 _ _ _ q9); have k10_1 := (cell_of_row _ _ 1 _ _ _ q10); have k9_2 := (cell_of_row _ _ 2 _ _ _ q9); have k10_2 := (cell_of_row _ _ 2 _ _ _ q10); have k9_3 := (cell_of_row _ _ 3 _ _ _ q9); have k10_3 := (cell_of_row _ _ 3 _ _ _ q10); have k9_4 := (cell_of_row _ _ 4 _ _ _ q9); have k10_4 := (cell_of_row _ _ 4 _ _ _ q10); have l10 := lt_of_row q10; have l9 : w2.heap.size < w5.heap.size := (by omega)))
            | (rw [fd]; simp only [Result.andThen_ok])
            | (go_at_call 17; ((with_reducible refine (cl2 _).mono ?_); rintro e w6 ⟨rfl, hb6⟩)))
          go_ret
          exact ⟨by first | rfl | (simp; done) | (simp [P1.out]; done) | (simp [hc0, P1.out]; done) | (simp [P2.out]; done) | (simp [P1.out, P2.out]; done) | (simp [hc0, P1.out, P2.out]; done), (B5.alloc B5.size _).trans (hb6.mono (by simp; omega))⟩
        · have t2 : decide (y < 0) = false := decide_eq_false p2
          have P1 := Lib.hid p1
          clear p1
          have P2 := Lib.hid p2
          clear p2
          go_wp2_with (first
            | (go_at_call 19; ((with_reducible refine (co _).mono ?_); rintro e w5 ⟨rfl, hb5⟩; have q9 := below_row hb5 (lt_of_row q9) q9; have q10 := below_row hb5 (lt_of_row q10) q10; have B5 := B4.trans (hb5.mono B4.size); have z5 := B5.size; have k9_1 := (cell_of_row _ _ 1 _ _ _ q9); have k10_1 := (cell_of_row _ _ 1 _ _ _ q10); have k9_2 := (cell_of_row _ _ 2 _ _ _ q9); have k10_2 := (cell_of_row _ _ 2 _ _ _ q10); have k9_3 := (cell_of_row _ _ 3 _ _ _ q9); have k10_3 := (cell_of_row _ _ 3 _ _ _ q10); have k9_4 := (cell_of_row _ _ 4 _ _ _ q9); have k10_4 := (cell_of_row _ _ 4 _ _ _ q10); have l10 := lt_of_row q10; have l9 : w2.heap.size < w5.heap.size := (by omega)))
            | (rw [fd]; simp only [Result.andThen_ok])
            | (go_at_call 17; ((with_reducible refine (cl2 _).mono ?_); rintro e w6 ⟨rfl, hb6⟩)))
          go_ret
          exact ⟨by first | rfl | (simp; done) | (simp [P1.out]; done) | (simp [hc0, P1.out]; done) | (simp [P2.out]; done) | (simp [P1.out, P2.out]; done) | (simp [hc0, P1.out, P2.out]; done), B5.alloc B5.size _⟩
    · by_cases p1 : y < 0
      · have t1 : decide (y < 0) = true := decide_eq_true p1
        have P1 := Lib.hid p1
        clear p1
        go_wp2_with (first
          | (go_at_call 19; ((with_reducible refine (co _).mono ?_); rintro e w5 ⟨rfl, hb5⟩; have q9 := below_row hb5 (lt_of_row q9) q9; have q10 := below_row hb5 (lt_of_row q10) q10; have B5 := B4.trans (hb5.mono B4.size); have z5 := B5.size; have k9_1 := (cell_of_row _ _ 1 _ _ _ q9); have k10_1 := (cell_of_row _ _ 1 _ _ _ q10); have k9_2 := (cell_of_row _ _ 2 _ _ _ q9); have k10_2 := (cell_of_row _ _ 2 _ _ _ q10); have k9_3 := (cell_of_row _ _ 3 _ _ _ q9); have k10_3 := (cell_of_row _ _ 3 _ _ _ q10); have k9_4 := (cell_of_row _ _ 4 _ _ _ q9); have k10_4 := (cell_of_row _ _ 4 _ _ _ q10); have l10 := lt_of_row q10; have l9 : w2.heap.size < w5.heap.size := (by omega)))
          | (rw [fd]; simp only [Result.andThen_ok])
          | (go_at_call 17; ((with_reducible refine (cl1 _).mono ?_); rintro e w6 ⟨rfl, hb6⟩)))
        go_ret
        exact ⟨by first | rfl | (simp; done) | (simp [P1.out]; done) | (simp [hc0, P1.out]; done), B5.alloc B5.size _⟩
      · have t1 : decide (y < 0) = false := decide_eq_false p1
        by_cases p2 : 0 < x
        · have t2 : decide (0 < x) = true := decide_eq_true p2
          have P1 := Lib.hid p1
          clear p1
          have P2 := Lib.hid p2
          clear p2
          go_wp2_with (first
            | (go_at_call 19; ((with_reducible refine (co _).mono ?_); rintro e w5 ⟨rfl, hb5⟩; have q9 := below_row hb5 (lt_of_row q9) q9; have q10 := below_row hb5 (lt_of_row q10) q10; have B5 := B4.trans (hb5.mono B4.size); have z5 := B5.size; have k9_1 := (cell_of_row _ _ 1 _ _ _ q9); have k10_1 := (cell_of_row _ _ 1 _ _ _ q10); have k9_2 := (cell_of_row _ _ 2 _ _ _ q9); have k10_2 := (cell_of_row _ _ 2 _ _ _ q10); have k9_3 := (cell_of_row _ _ 3 _ _ _ q9); have k10_3 := (cell_of_row _ _ 3 _ _ _ q10); have k9_4 := (cell_of_row _ _ 4 _ _ _ q9); have k10_4 := (cell_of_row _ _ 4 _ _ _ q10); have l10 := lt_of_row q10; have l9 : w2.heap.size < w5.heap.size := (by omega)))
            | (rw [fd]; simp only [Result.andThen_ok])
            | (go_at_call 17; ((with_reducible refine (cl1 _).mono ?_); rintro e w6 ⟨rfl, hb6⟩)))
          go_ret
          exact ⟨by first | rfl | (simp; done) | (simp [P1.out]; done) | (simp [hc0, P1.out]; done) | (simp [P2.out]; done) | (simp [P1.out, P2.out]; done) | (simp [hc0, P1.out, P2.out]; done), (B5.alloc B5.size _).trans (hb6.mono (by simp; omega))⟩
        · have t2 : decide (0 < x) = false := decide_eq_false p2
          have P1 := Lib.hid p1
          clear p1
          have P2 := Lib.hid p2
          clear p2
          go_wp2_with (first
            | (go_at_call 19; ((with_reducible refine (co _).mono ?_); rintro e w5 ⟨rfl, hb5⟩; have q9 := below_row hb5 (lt_of_row q9) q9; have q10 := below_row hb5 (lt_of_row q10) q10; have B5 := B4.trans (hb5.mono B4.size); have z5 := B5.size; have k9_1 := (cell_of_row _ _ 1 _ _ _ q9); have k10_1 := (cell_of_row _ _ 1 _ _ _ q10); have k9_2 := (cell_of_row _ _ 2 _ _ _ q9); have k10_2 := (cell_of_row _ _ 2 _ _ _ q10); have k9_3 := (cell_of_row _ _ 3 _ _ _ q9); have k10_3 := (cell_of_row _ _ 3 _ _ _ q10); have k9_4 := (cell_of_row _ _ 4 _ _ _ q9); have k10_4 := (cell_of_row _ _ 4 _ _ _ q10); have l10 := lt_of_row q10; have l9 : w2.heap.size < w5.heap.size := (by omega)))
            | (rw [fd]; simp only [Result.andThen_ok])
            | (go_at_call 17; ((with_reducible refine (cl1 _).mono ?_); rintro e w6 ⟨rfl, hb6⟩)))
          go_ret
          exact ⟨by first | rfl | (simp; done) | (simp [P1.out]; done) | (simp [hc0, P1.out]; done) | (simp [P2.out]; done) | (simp [P1.out, P2.out]; done) | (simp [hc0, P1.out, P2.out]; done), B5.alloc B5.size _⟩
  · have tc : decide (c < 0) = false := decide_eq_false hc0
    cases up
    · by_cases p1 : x < 0
      · have t1 : decide (x < 0) = true := decide_eq_true p1
        have P1 := Lib.hid p1
        clear p1
        go_wp2_with (first
          | (go_at_call 19; ((with_reducible refine (co _).mono ?_); rintro e w5 ⟨rfl, hb5⟩; have q9 := below_row hb5 (lt_of_row q9) q9; have q10 := below_row hb5 (lt_of_row q10) q10; have B5 := B4.trans (hb5.mono B4.size); have z5 := B5.size; have k9_1 := (cell_of_row _ _ 1 _ _ _ q9); have k10_1 := (cell_of_row _ _ 1 _ _ _ q10); have k9_2 := (cell_of_row _ _ 2 _ _ _ q9); have k10_2 := (cell_of_row _ _ 2 _ _ _ q10); have k9_3 := (cell_of_row _ _ 3 _ _ _ q9); have k10_3 := (cell_of_row _ _ 3 _ _ _ q10); have k9_4 := (cell_of_row _ _ 4 _ _ _ q9); have k10_4 := (cell_of_row _ _ 4 _ _ _ q10); have l10 := lt_of_row q10; have l9 : w2.heap.size < w5.heap.size := (by omega)))
          | (rw [fd]; simp only [Result.andThen_ok])
          | (go_at_call 17; ((with_reducible refine (cl2 _).mono ?_); rintro e w6 ⟨rfl, hb6⟩)))
        go_ret
        exact ⟨by first | rfl | (simp; done) | (simp [P1.out]; done) | (simp [hc0, P1.out]; done), B5.alloc B5.size _⟩
      · have t1 : decide (x < 0) = false := decide_eq_false p1
        by_cases p2 : 0 < y
        · have t2 : decide (0 < y) = true := decide_eq_true p2
          have P1 := Lib.hid p1
          clear p1
          have P2 := Lib.hid p2
          clear p2
          go_wp2_with (first
            | (go_at_call 19; ((with_reducible refine (co _).mono ?_); rintro e w5 ⟨rfl, hb5⟩; have q9 := below_row hb5 (lt_of_row q9) q9; have q10 := below_row hb5 (lt_of_row q10) q10; have B5 := B4.trans (hb5.mono B4.size); have z5 := B5.size; have k9_1 := (cell_of_row _ _ 1 _ _ _ q9); have k10_1 := (cell_of_row _ _ 1 _ _ _ q10); have k9_2 := (cell_of_row _ _ 2 _ _ _ q9); have k10_2 := (cell_of_row _ _ 2 _ _ _ q10); have k9_3 := (cell_of_row _ _ 3 _ _ _ q9); have k10_3 := (cell_of_row _ _ 3 _ _ _ q10); have k9_4 := (cell_of_row _ _ 4 _ _ _ q9); have k10_4 := (cell_of_row _ _ 4 _ _ _ q10); have l10 := lt_of_row q10; have l9 : w2.heap.size < w5.heap.size := (by omega)))
            | (rw [fd]; simp only [Result.andThen_ok])
            | (go_at_call 17; ((with_reducible refine (cl2 _).mono ?_); rintro e w6 ⟨rfl, hb6⟩)))
          go_ret
          exact ⟨by first | rfl | (simp; done) | (simp [P1.out]; done) | (simp [hc0, P1.out]; done) | (simp [P2.out]; done) | (simp [P1.out, P2.out]; done) | (simp [hc0, P1.out, P2.out]; done), (B5.alloc B5.size _).trans (hb6.mono (by simp; omega))⟩
        · have t2 : decide (0 < y) = false := decide_eq_false p2
          have P1 := Lib.hid p1
          clear p1
          have P2 := Lib.hid p2
          clear p2
          go_wp2_with (first
            | (go_at_call 19; ((with_reducible refine (co _).mono ?_); rintro e w5 ⟨rfl, hb5⟩; have q9 := below_row hb5 (lt_of_row q9) q9; have q10 := below_row hb5 (lt_of_row q10) q10; have B5 := B4.trans (hb5.mono B4.size); have z5 := B5.size; have k9_1 := (cell_of_row _ _ 1 _ _ _ q9); have k10_1 := (cell_of_row _ _ 1 _ _ _ q10); have k9_2 := (cell_of_row _ _ 2 _ _ _ q9); have k10_2 := (cell_of_row _ _ 2 _ _ _ q10); have k9_3 := (cell_of_row _ _ 3 _ _ _ q9); have k10_3 := (cell_of_row _ _ 3 _ _ _ q10); have k9_4 := (cell_of_row _ _ 4 _ _ _ q9); have k10_4 := (cell_of_row _ _ 4 _ _ _ q10); have l10 := lt_of_row q10; have l9 : w2.heap.size < w5.heap.size := (by omega)))
            | (rw [fd]; simp only [Result.andThen_ok])
            | (go_at_call 17; ((with_reducible refine (cl2 _).mono ?_); rintro e w6 ⟨rfl, hb6⟩)))
          go_ret
          exact ⟨by first | rfl | (simp; done) | (simp [P1.out]; done) | (simp [hc0, P1.out]; done) | (simp [P2.out]; done) | (simp [P1.out, P2.out]; done) | (simp [hc0, P1.out, P2.out]; done), B5.alloc B5.size _⟩
    · by_cases p1 : 0 < y
      · have t1 : decide (0 < y) = true := decide_eq_true p1
        have P1 := Lib.hid p1
        clear p1
        go_wp2_with (first
          | (go_at_call 19; ((with_reducible refine (co _).mono ?_); rintro e w5 ⟨rfl, hb5⟩; have q9 := below_row hb5 (lt_of_row q9) q9; have q10 := below_row hb5 (lt_of_row q10) q10; have B5 := B4.trans (hb5.mono B4.size); have z5 := B5.size; have k9_1 := (cell_of_row _ _ 1 _ _ _ q9); have k10_1 := (cell_of_row _ _ 1 _ _ _ q10); have k9_2 := (cell_of_row _ _ 2 _ _ _ q9); have k10_2 := (cell_of_row _ _ 2 _ _ _ q10); have k9_3 := (cell_of_row _ _ 3 _ _ _ q9); have k10_3 := (cell_of_row _ _ 3 _ _ _ q10); have k9_4 := (cell_of_row _ _ 4 _ _ _ q9); have k10_4 := (cell_of_row _ _ 4 _ _ _ q10); have l10 := lt_of_row q10; have l9 : w2.heap.size < w5.heap.size := (by omega)))
          | (rw [fd]; simp only [Result.andThen_ok])
          | (go_at_call 17; ((with_reducible refine (cl1 _).mono ?_); rintro e w6 ⟨rfl, hb6⟩)))
        go_ret
        exact ⟨by first | rfl | (simp; done) | (simp [P1.out]; done) | (simp [hc0, P1.out]; done), B5.alloc B5.size _⟩
      · have t1 : decide (0 < y) = false := decide_eq_false p1
        by_cases p2 : x < 0
        · have t2 : decide (x < 0) = true := decide_eq_true p2
          have P1 := Lib.hid p1
          clear p1
          have P2 := Lib.hid p2
          clear p2
          go_wp2_with (first
            | (go_at_call 19; ((with_reducible refine (co _).mono ?_); rintro e w5 ⟨rfl, hb5⟩; have q9 := below_row hb5 (lt_of_row q9) q9; have q10 := below_row hb5 (lt_of_row q10) q10; have B5 := B4.trans (hb5.mono B4.size); have z5 := B5.size; have k9_1 := (cell_of_row _ _ 1 _ _ _ q9); have k10_1 := (cell_of_row _ _ 1 _ _ _ q10); have k9_2 := (cell_of_row _ _ 2 _ _ _ q9); have k10_2 := (cell_of_row _ _ 2 _ _ _ q10); have k9_3 := (cell_of_row _ _ 3 _ _ _ q9); have k10_3 := (cell_of_row _ _ 3 _ _ _ q10); have k9_4 := (cell_of_row _ _ 4 _ _ _ q9); have k10_4 := (cell_of_row _ _ 4 _ _ _ q10); have l10 := lt_of_row q10; have l9 : w2.heap.size < w5.heap.size := (by omega)))
            | (rw [fd]; simp only [Result.andThen_ok])
            | (go_at_call 17; ((with_reducible refine (cl1 _).mono ?_); rintro e w6 ⟨rfl, hb6⟩)))
          go_ret
          exact ⟨by first | rfl | (simp; done) | (simp [P1.out]; done) | (simp [hc0, P1.out]; done) | (simp [P2.out]; done) | (simp [P1.out, P2.out]; done) | (simp [hc0, P1.out, P2.out]; done), (B5.alloc B5.size _).trans (hb6.mono (by simp; omega))⟩
        · have t2 : decide (x < 0) = false := decide_eq_false p2
          have P1 := Lib.hid p1
          clear p1
          have P2 := Lib.hid p2
          clear p2
          go_wp2_with (first
            | (go_at_call 19; ((with_reducible refine (co _).mono ?_); rintro e w5 ⟨rfl, hb5⟩; have q9 := below_row hb5 (lt_of_row q9) q9; have q10 := below_row hb5 (lt_of_row q10) q10; have B5 := B4.trans (hb5.mono B4.size); have z5 := B5.size; have k9_1 := (cell_of_row _ _ 1 _ _ _ q9); have k10_1 := (cell_of_row _ _ 1 _ _ _ q10); have k9_2 := (cell_of_row _ _ 2 _ _ _ q9); have k10_2 := (cell_of_row _ _ 2 _ _ _ q10); have k9_3 := (cell_of_row _ _ 3 _ _ _ q9); have k10_3 := (cell_of_row _ _ 3 _ _ _ q10); have k9_4 := (cell_of_row _ _ 4 _ _ _ q9); have k10_4 := (cell_of_row _ _ 4 _ _ _ q10); have l10 := lt_of_row q10; have l9 : w2.heap.size < w5.heap.size := (by omega)))
            | (rw [fd]; simp only [Result.andThen_ok])
            | (go_at_call 17; ((with_reducible refine (cl1 _).mono ?_); rintro e w6 ⟨rfl, hb6⟩)))
          go_ret
          exact ⟨by first | rfl | (simp; done) | (simp [P1.out]; done) | (simp [hc0, P1.out]; done) | (simp [P2.out]; done) | (simp [P1.out, P2.out]; done) | (simp [hc0, P1.out, P2.out]; done), B5.alloc B5.size _⟩
end Go.Proofs.Ytiinpgbanmokjaa.RatioRef
