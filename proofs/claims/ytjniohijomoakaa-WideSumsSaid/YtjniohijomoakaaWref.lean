/-
  The reference's sums, shifts, orders and lengths of numbers of 128 bits, told of natural numbers. Conditions: numbers below 2^128, halves below 2^64.
-/
import Derived.Test.YtjniohijomoakaaOf
namespace Go.Proofs.Ytjniohijomoakaa.Ref
open Go.ChangeShapes Go.WideShapes Go.ChangeAt Go.RowKit
open Arr Bt
set_option linter.unusedVariables false

theorem bits_any (hi lo : Nat) (w : World) (hh : hi < 18446744073709551616) (hl : lo < 18446744073709551616) :
    Calls Try.prog 10 #[.agg #[.int .u64 hi, .int .u64 lo]] w fun e w' => e = .returned (.agg (bv (hi * 18446744073709551616 + lo))) ∧ Below w.heap.size w w' := by
  have c := fun W => of_any hi lo W hh hl
  obtain ⟨n, hn⟩ : ∃ n, n = hi * 18446744073709551616 + lo := ⟨_, rfl⟩
  rw [← hn] at c ⊢
  clear hn hh hl
  have hz := zeroU
  go_enter Try.func10, Try.ntmps10
  go_wp2_with (first
    | (go_at_call 25; ((with_reducible refine (c _).mono ?_); rintro e w1 ⟨rfl, hb⟩; have h0 := below_row hb (by simp) (heap_alloc2_new _ _ _)))
    | (refine wpList_store_whole rfl 25 (.tmp 2) (.tmp 7) rfl (w.heap.size + 1) _ rfl rfl _ _ h0 (by rw [bv_size]; exact infoU) (by rw [bv_size, zs_size]) (bv_one _) ?_; apply wpList_nil; (repeat go_step); refine bodyPost_ret (v := .agg (bv n)) (results_cell_row rfl _ _ (w.heap.size + 1) _ _ _ _ rfl (setRow_heap _ _ _ (bv n) _ _ h0) Try.underlying25 rfl (by rw [bv_size]; exact infoU)) rfl ⟨rfl, below_setRow ((((Below.refl _ _).alloc (Nat.le_refl _) _).alloc (by simp) _).trans (hb.mono (by simp; omega))) (by omega) _⟩))

theorem cell_bv {w : World} {g : Nat} {n : Nat} {t : TypeId} {fr : Nat × Nat} (h : w.heap[g]? = some (.cells (bv n) t fr)) {i : Nat} (hi : i < 128) : w.cell? ⟨g, i, none⟩ = some (.int .i64 (bt n i)) := cell_row h hi
theorem len_any (n : Nat) (w : World) (hn : W128 n) :
    Calls Try.prog 19 #[.agg (bv n)] w fun e w' => (∃ l : Nat, e = .returned (.int .i64 l) ∧ IsLen n l ∧ l ≤ 128) ∧ Below w.heap.size w w' := by
  have HN := Lib.hid hn
  have hne := bv_ne n
  clear hn
  go_enter Try.func19, Try.ntmps19
  go_wp2
  go_loopg [3] 128 (fun g s3 wr => g ≤ 128 ∧ s3 = .int .i64 ((g : Int) - 1) ∧ n / 2 ^ g = 0 ∧ wr = w.alloc (.cells (bv n) 25))
  case atStart => exact ⟨by omega, rfl, zero_top HN.out, rfl⟩
  case round =>
    obtain ⟨hg, rfl, hd, rfl⟩ := hrel
    have HD := Lib.hid hd
    clear hd
    cases gk with
    | zero =>
      have e : ((0 : Nat) : Int) - 1 = -1 := by omega
      rw [e]
      clear e
      go_wp2
      go_ret
      have h0 : n = 0 := by simpa using HD.out
      exact ⟨⟨0, rfl, by rw [h0]; exact isLen_zero, by omega⟩, (Below.refl _ _).alloc (Nat.le_refl _) _⟩
    | succ g =>
      have e : ((g + 1 : Nat) : Int) - 1 = (g : Int) := by omega
      rw [e]
      clear e
      have c1 := cell_bv (heap_alloc_new w (.cells (bv n) 25)) (i := g) (by omega)
      obtain ⟨b, hb⟩ : ∃ b, bt n g = b := ⟨_, rfl⟩
      rw [hb] at c1
      have HB := Lib.hid hb
      clear hb
      by_cases h1 : b = 1
      · subst h1
        go_wp2
        go_ret
        exact ⟨⟨g + 1, by simp, isLen_step HD.out HB.out, by omega⟩, (Below.refl _ _).alloc (Nat.le_refl _) _⟩
      · have hf : ((b : Int) == 1) = false := by simp; omega
        go_wp2
        go_roundg g
        case measure => omega
        case rel =>
          have h2 := bt_le n g
          rw [HB.out] at h2
          have h3 : bt n g = 0 := by rw [HB.out]; omega
          refine ⟨by omega, by go_num, ?_, rfl⟩
          rw [div_bt, HD.out, h3]
/-- The order of two numbers. -/
def cmpN (n m : Nat) : Int := if n < m then -1 else if m < n then 1 else 0
theorem cmp_lt {n m : Nat} (h : n < m) : cmpN n m = -1 := if_pos h
theorem cmp_gt {n m : Nat} (h : m < n) : cmpN n m = 1 := by unfold cmpN; rw [if_neg (by omega), if_pos h]
theorem cmp_eq (n : Nat) : cmpN n n = 0 := by unfold cmpN; simp
theorem cmp_any (n m : Nat) (w : World) (hn : W128 n) (hm : W128 m) :
    Calls Try.prog 16 #[.agg (bv n), .agg (bv m)] w fun e w' => e = .returned (.int .i64 (cmpN n m)) ∧ Below w.heap.size w w' := by
  have HN := Lib.hid hn
  have HM := Lib.hid hm
  have hne := bv_ne n
  have hme := bv_ne m
  clear hn hm
  go_enter Try.func16, Try.ntmps16
  go_wp2
  have hB : Below w.heap.size w ((w.alloc (.cells (bv n) 25)).alloc (.cells (bv m) 25)) := ((Below.refl _ _).alloc (Nat.le_refl _) _).alloc (by simp) _
  have r1 := heap_alloc2_old w (.cells (bv n) 25) (.cells (bv m) 25)
  have r2 := heap_alloc2_new w (.cells (bv n) 25) (.cells (bv m) 25)
  generalize (w.alloc (.cells (bv n) 25)).alloc (.cells (bv m) 25) = V at *
  go_loopg [5] 128 (fun g s5 wr => g ≤ 128 ∧ s5 = .int .i64 ((g : Int) - 1) ∧ n / 2 ^ g = m / 2 ^ g ∧ ∃ q, wr = V.drewN q)
  case atStart => exact ⟨by omega, rfl, eq_top HN.out HM.out, 0, rfl⟩
  case round =>
    obtain ⟨hg, rfl, hd, q, rfl⟩ := hrel
    have HD := Lib.hid hd
    clear hd
    cases gk with
    | zero =>
      have e : ((0 : Nat) : Int) - 1 = -1 := by omega
      rw [e]
      clear e
      go_wp2
      go_ret
      have h0 : n = m := by simpa using HD.out
      exact ⟨by rw [h0, cmp_eq]; rfl, below_drewN hB _⟩
    | succ g =>
      have e : ((g + 1 : Nat) : Int) - 1 = (g : Int) := by omega
      rw [e]
      clear e
      have c1 := cell_bv r1 (i := g) (by omega)
      have c2 := cell_bv r2 (i := g) (by omega)
      obtain ⟨b, hb⟩ : ∃ b, bt n g = b := ⟨_, rfl⟩
      obtain ⟨d, hd⟩ : ∃ d, bt m g = d := ⟨_, rfl⟩
      rw [hb] at c1
      rw [hd] at c2
      have HB := Lib.hid hb
      have HE := Lib.hid hd
      clear hb hd
      have p1 : (0 : Int) ≤ (g : Int) := by omega
      have p2 : (g : Int) < 128 := by omega
      by_cases h1 : b < d
      · have t1 : decide ((b : Int) < (d : Int)) = true := by simp; omega
        go_wp2
        go_quiet (fail)
        go_wp2
        go_ret
        refine ⟨by rw [cmp_lt (lt_of_bt HD.out (by rw [HB.out, HE.out]; exact h1))]; rfl, ?_⟩
        repeat (with_reducible apply below_drewN)
        exact hB
      · have t1 : decide ((b : Int) < (d : Int)) = false := by simp; omega
        by_cases h2 : d < b
        · have t2 : decide ((d : Int) < (b : Int)) = true := by simp; omega
          go_wp2
          go_quiet (fail)
          go_wp2
          go_quiet (fail)
          go_wp2
          go_ret
          refine ⟨by rw [cmp_gt (lt_of_bt HD.out.symm (by rw [HB.out, HE.out]; exact h2))]; rfl, ?_⟩
          repeat (with_reducible apply below_drewN)
          exact hB
        · have t2 : decide ((d : Int) < (b : Int)) = false := by simp; omega
          go_wp2
          go_quiet (fail)
          go_wp2
          go_quiet (fail)
          go_wp2
          go_roundg g
          case measure => omega
          case rel =>
            refine ⟨by omega, by go_num, eq_step HD.out (by rw [HB.out, HE.out]; omega), ?_⟩
            exact ⟨_, rfl⟩
/-- What is left of the whole numbers: the sum, digit by digit. -/
theorem add_any (n m : Nat) (w : World) (hn : W128 n) (hm : W128 m) :
    Calls Try.prog 14 #[.agg (bv n), .agg (bv m)] w fun e w' => e = .returned (.tuple #[.agg (bv (n + m)), .int .i64 (cy n m 128)]) ∧ Below w.heap.size w w' := by
  have hne := bv_ne n
  have hme := bv_ne m
  clear hn hm
  have hz := zeroU
  go_enter Try.func14, Try.ntmps14
  go_wp2
  go_loopg [7, 8] 128 (fun g s7 s8 wr => ∃ i : Nat, i + g = 128 ∧ s7 = .int .i64 (cy n m i) ∧ s8 = .int .i64 i ∧ Below w.heap.size w wr ∧
    wr.heap[w.heap.size]? = some (.cells (bv n) 25 (0, 0)) ∧ wr.heap[w.heap.size + 1]? = some (.cells (bv m) 25 (0, 0)) ∧
    wr.heap[w.heap.size + 1 + 1]? = some (.cells zs 25 (0, 0)) ∧
    wr.heap[w.heap.size + 1 + 1 + 1]? = some (.cells (ints 128 (fun j => if j < i then (bt (n + m) j : Int) else 0)) 25 (0, 0)))
  case atStart =>
    refine ⟨0, rfl, by rw [cy_zero]; rfl, rfl, ?_, ?_, ?_, ?_, ?_⟩
    · repeat (first | (with_reducible exact Below.refl _ _) | (with_reducible refine Below.alloc ?_ (by simp <;> omega) _))
    · exact row_alloc (row_alloc (heap_alloc2_old _ _ _) _) _
    · exact row_alloc (row_alloc (heap_alloc2_new _ _ _) _) _
    · exact row_alloc (by simpa using heap_alloc2_new (w.alloc (.cells (bv n) 25)) (.cells (bv m) 25) (.cells zs 25)) _
    · have := heap_alloc2_new ((w.alloc (.cells (bv n) 25)).alloc (.cells (bv m) 25)) (.cells zs 25) (.cells zs 25)
      simp only [World.size_alloc] at this
      rw [this]
      rfl
  case round =>
    obtain ⟨i, hig, rfl, rfl, hb, r1, r2, r3, r4⟩ := hrel
    cases gk with
    | zero =>
      obtain rfl : i = 128 := by omega
      have r4' : wr.heap[w.heap.size + 1 + 1 + 1]? = some (.cells (bv (n + m)) 25 (0, 0)) := by
        rw [r4]
        unfold bv
        exact congrArg (fun z => some (Obj.cells z 25 (0, 0))) (ints_congr 128 _ _ (fun j hj => if_pos hj))
      clear r4
      have hl : (loadVar 25 ⟨w.heap.size + 1 + 1, 0, none⟩).run Try.prog (wr.setRow (w.heap.size + 1 + 1) (bv (n + m))) = .ok (.agg (bv (n + m))) (wr.setRow (w.heap.size + 1 + 1) (bv (n + m))) := run_loadVar_row _ _ _ _ _ _ _ (setRow_heap _ _ _ (bv (n + m)) _ _ r3) Try.underlying25 rfl (by rw [bv_size]; exact infoU)
      have HLd := Lib.hid hl
      clear hl
      go_wp2_with (first
        | (refine wpList_load_row rfl 25 (.tmp 6) rfl (w.heap.size + 1 + 1 + 1) rfl _ _ _ _ r4' Try.underlying25 rfl (by rw [bv_size]; exact infoU) ?_; simp only [Act.put, List.setIfInBounds_toArray, List.set_cons_zero, List.set_cons_succ])
        | (refine wpList_store_whole rfl 25 (.tmp 4) (.tmp 29) rfl (w.heap.size + 1 + 1) (bv (n + m)) (by rfl) (by rfl) _ _ r3 (by rw [bv_size]; exact infoU) (by rw [bv_size, zs_size]) (bv_one _) ?_; simp only [Act.put]; (repeat go_step); refine bodyPost_ret (v := .tuple #[.agg (bv (n + m)), .int .i64 (cy n m 128)]) ?_ rfl ⟨rfl, below_setRow hb (by omega) _⟩; rw [results_cell_tmp rfl]; have hl := HLd.out; simp [asAddr, Result.andThen, hl]; done))
    | succ g =>
      have hlt : i < 128 := by omega
      have c1 := cell_bv r1 (i := i) (by omega)
      have c2 := cell_bv r2 (i := i) (by omega)
      have c4 := cell_row r4 (i := i) (by omega)
      have f4 := frozen_row r4
      have hs := cy_succ n m i
      have ha := bt_add n m i
      have b1 := bt_le n i
      have b2 := bt_le m i
      have b3 := cy_le n m i
      generalize hbn : bt n i = a at *
      generalize hbm : bt m i = b at *
      generalize hcy : cy n m i = c at *
      have HS := Lib.hid hs
      have HA := Lib.hid ha
      clear hs ha hbn hbm hcy
      have p1 : (0 : Int) ≤ (i : Int) := by omega
      have p2 : (i : Int) < 128 := by omega
      go_wp2
      go_quiet (fail)
      go_wp2
      go_roundg g
      case measure => omega
      case rel =>
        refine ⟨i + 1, by omega, by rw [HS.out]; simp, by go_num, (below_drewN hb _).setCell (by simp; omega) _, row_set_other _ _ r1 (by dsimp only; omega), row_set_other _ _ r2 (by dsimp only; omega), row_set_other _ _ r3 (by dsimp only; omega), ?_⟩
        have r5 := row_set (w := wr.drewN nq) r4 (i := i) (by omega) (((a : Int) + b + c) % 2)
        refine r5.trans ?_
        congr 2
        apply ints_congr
        intro j hj
        by_cases e1 : j = i
        · subst e1
          rw [if_pos rfl, if_pos (by omega), HA.out]; simp
        · rw [if_neg e1]
          by_cases e3 : j < i
          · rw [if_pos e3, if_pos (by omega)]
          · rw [if_neg e3, if_neg (by omega)]
end Go.Proofs.Ytjniohijomoakaa.Ref
