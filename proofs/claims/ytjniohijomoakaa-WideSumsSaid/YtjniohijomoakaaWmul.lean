/-
  The reference's shifts and products of numbers of 128 bits, told of natural numbers. Conditions: numbers below 2^128, counts below 2^63, factors below 2^64.
-/
import Derived.Test.YtjniohijomoakaaWref
import Derived.Deep.RegionHeld3
namespace Go.Proofs.Ytjniohijomoakaa.Ref
open Go.ChangeShapes Go.WideShapes Go.ChangeAt Go.RowKit
open Arr Bt
set_option linter.unusedVariables false
set_option maxRecDepth 100000
theorem up_any (n k : Nat) (w : World) :
    Calls Try.prog 22 #[.agg (bv n), .int .i64 k] w fun e w' => e = .returned (.agg (bv (n * 2 ^ k))) ∧ Below w.heap.size w w' := by
  have hne := bv_ne n

  obtain ⟨m, hm⟩ : ∃ m, m = n * 2 ^ k := ⟨_, rfl⟩
  rw [← hm]
  have HM := Lib.hid hm
  clear hm
  have hz := zeroU
  go_enter Try.func22, Try.ntmps22
  go_wp2
  go_loopg [6] 128 (fun g s6 wr => ∃ i : Nat, i + g = 128 ∧ s6 = .int .i64 i ∧ Below w.heap.size w wr ∧
    wr.heap[w.heap.size]? = some (.cells (bv n) 25 (0, 0)) ∧ wr.heap[w.heap.size + 1]? = some (.cells zs 25 (0, 0)) ∧
    wr.heap[w.heap.size + 1 + 1]? = some (.cells (ints 128 (fun j => if j < i then (bt m j : Int) else 0)) 25 (0, 0)))
  case atStart =>
    refine ⟨0, rfl, rfl, ?_, ?_, ?_, ?_⟩
    · repeat (first | (with_reducible exact Below.refl _ _) | (with_reducible refine Below.alloc ?_ (by simp <;> omega) _))
    · exact row_alloc (heap_alloc2_old _ _ _) _
    · exact row_alloc (heap_alloc2_new _ _ _) _
    · have := heap_alloc2_new (w.alloc (.cells (bv n) 25)) (.cells zs 25) (.cells zs 25)
      simp only [World.size_alloc] at this
      rw [this]
      rfl
  case round =>
    obtain ⟨i, hig, rfl, hb, r1, r2, r3⟩ := hrel
    cases gk with
    | zero =>
      obtain rfl : i = 128 := by omega
      have r3' : wr.heap[w.heap.size + 1 + 1]? = some (.cells (bv m) 25 (0, 0)) := by
        rw [r3]
        unfold bv
        exact congrArg (fun z => some (Obj.cells z 25 (0, 0))) (ints_congr 128 _ _ (fun j hj => if_pos hj))
      clear r3
      go_wp2_with (first
        | (refine wpList_load_row rfl 25 (.tmp 5) rfl (w.heap.size + 1 + 1) rfl _ _ _ _ r3' Try.underlying25 rfl (by rw [bv_size]; exact infoU) ?_; simp only [Act.put, List.setIfInBounds_toArray, List.set_cons_zero, List.set_cons_succ])
        | (refine wpList_store_whole rfl 25 (.tmp 4) (.tmp 29) rfl (w.heap.size + 1) (bv m) (by rfl) (by rfl) _ _ r2 (by rw [bv_size]; exact infoU) (by rw [bv_size, zs_size]) (bv_one _) ?_; apply wpList_nil; (repeat go_step); refine bodyPost_ret (v := .agg (bv m)) (results_cell_row rfl _ _ (w.heap.size + 1) _ _ _ _ rfl (setRow_heap _ _ _ (bv m) _ _ r2) Try.underlying25 rfl (by rw [bv_size]; exact infoU)) rfl ⟨rfl, below_setRow hb (by omega) _⟩))
    | succ g =>
      have hlt : i < 128 := by omega
      have c3 := cell_row r3 (i := i) (by omega)
      have f3 := frozen_row r3
      by_cases hc : k ≤ i
      · have c1 := cell_bv r1 (i := i - k) (by omega)
        have hbm : bt m i = bt n (i - k) := by rw [HM.out]; rw [bt_shl, if_pos hc]
        rw [← hbm] at c1
        have HB := Lib.hid hbm
        clear hbm
        generalize hq : bt m i = b at *
        have HQ := Lib.hid hq
        clear hq
        go_wp2
        go_roundg g
        case measure => omega
        case rel =>
          refine ⟨i + 1, by omega, by go_num, hb.setCell (by dsimp only; omega) _, row_set_other _ _ r1 (by dsimp only; omega), row_set_other _ _ r2 (by dsimp only; omega), ?_⟩
          refine (row_set r3 (i := i) (by omega) _).trans ?_
          congr 2
          apply ints_congr
          intro j hj
          by_cases e1 : j = i
          · subst e1
            rw [if_pos rfl, if_pos (by omega), HQ.out]
          · rw [if_neg e1]
            by_cases e3 : j < i
            · rw [if_pos e3, if_pos (by omega)]
            · rw [if_neg e3, if_neg (by omega)]
      · have hbm : bt m i = 0 := by rw [HM.out]; rw [bt_shl, if_neg hc]
        have HB := Lib.hid hbm
        clear hbm
        go_wp2
        go_roundg g
        case measure => omega
        case rel =>
          refine ⟨i + 1, by omega, by go_num, hb, r1, r2, ?_⟩
          rw [r3]
          congr 2
          apply ints_congr
          intro j hj
          by_cases e1 : j = i
          · subst e1
            rw [if_neg (by omega), if_pos (by omega), HB.out]; rfl
          · by_cases e3 : j < i
            · rw [if_pos e3, if_pos (by omega)]
            · rw [if_neg e3, if_neg (by omega)]
theorem down_any (n k : Nat) (w : World) (hn : W128 n) :
    Calls Try.prog 23 #[.agg (bv n), .int .i64 k] w fun e w' => e = .returned (.agg (bv (n / 2 ^ k))) ∧ Below w.heap.size w w' := by
  have hne := bv_ne n
  have HN := Lib.hid hn
  clear hn
  obtain ⟨m, hm⟩ : ∃ m, m = n / 2 ^ k := ⟨_, rfl⟩
  rw [← hm]
  have HM := Lib.hid hm
  clear hm
  have hz := zeroU
  go_enter Try.func23, Try.ntmps23
  go_wp2
  go_loopg [6] 128 (fun g s6 wr => ∃ i : Nat, i + g = 128 ∧ s6 = .int .i64 i ∧ Below w.heap.size w wr ∧
    wr.heap[w.heap.size]? = some (.cells (bv n) 25 (0, 0)) ∧ wr.heap[w.heap.size + 1]? = some (.cells zs 25 (0, 0)) ∧
    wr.heap[w.heap.size + 1 + 1]? = some (.cells (ints 128 (fun j => if j < i then (bt m j : Int) else 0)) 25 (0, 0)))
  case atStart =>
    refine ⟨0, rfl, rfl, ?_, ?_, ?_, ?_⟩
    · repeat (first | (with_reducible exact Below.refl _ _) | (with_reducible refine Below.alloc ?_ (by simp <;> omega) _))
    · exact row_alloc (heap_alloc2_old _ _ _) _
    · exact row_alloc (heap_alloc2_new _ _ _) _
    · have := heap_alloc2_new (w.alloc (.cells (bv n) 25)) (.cells zs 25) (.cells zs 25)
      simp only [World.size_alloc] at this
      rw [this]
      rfl
  case round =>
    obtain ⟨i, hig, rfl, hb, r1, r2, r3⟩ := hrel
    cases gk with
    | zero =>
      obtain rfl : i = 128 := by omega
      have r3' : wr.heap[w.heap.size + 1 + 1]? = some (.cells (bv m) 25 (0, 0)) := by
        rw [r3]
        unfold bv
        exact congrArg (fun z => some (Obj.cells z 25 (0, 0))) (ints_congr 128 _ _ (fun j hj => if_pos hj))
      clear r3
      go_wp2_with (first
        | (refine wpList_load_row rfl 25 (.tmp 5) rfl (w.heap.size + 1 + 1) rfl _ _ _ _ r3' Try.underlying25 rfl (by rw [bv_size]; exact infoU) ?_; simp only [Act.put, List.setIfInBounds_toArray, List.set_cons_zero, List.set_cons_succ])
        | (refine wpList_store_whole rfl 25 (.tmp 4) (.tmp 26) rfl (w.heap.size + 1) (bv m) (by rfl) (by rfl) _ _ r2 (by rw [bv_size]; exact infoU) (by rw [bv_size, zs_size]) (bv_one _) ?_; apply wpList_nil; (repeat go_step); refine bodyPost_ret (v := .agg (bv m)) (results_cell_row rfl _ _ (w.heap.size + 1) _ _ _ _ rfl (setRow_heap _ _ _ (bv m) _ _ r2) Try.underlying25 rfl (by rw [bv_size]; exact infoU)) rfl ⟨rfl, below_setRow hb (by omega) _⟩))
    | succ g =>
      have hlt : i < 128 := by omega
      have c3 := cell_row r3 (i := i) (by omega)
      have f3 := frozen_row r3
      by_cases hc : i + k < 128
      · have c1 := cell_bv r1 (i := i + k) (by omega)
        have hbm : bt m i = bt n (i + k) := by rw [HM.out]; rw [bt_shr]
        rw [← hbm] at c1
        have HB := Lib.hid hbm
        clear hbm
        generalize hq : bt m i = b at *
        have HQ := Lib.hid hq
        clear hq
        go_wp2
        go_roundg g
        case measure => omega
        case rel =>
          refine ⟨i + 1, by omega, by go_num, hb.setCell (by dsimp only; omega) _, row_set_other _ _ r1 (by dsimp only; omega), row_set_other _ _ r2 (by dsimp only; omega), ?_⟩
          refine (row_set r3 (i := i) (by omega) _).trans ?_
          congr 2
          apply ints_congr
          intro j hj
          by_cases e1 : j = i
          · subst e1
            rw [if_pos rfl, if_pos (by omega), HQ.out]
          · rw [if_neg e1]
            by_cases e3 : j < i
            · rw [if_pos e3, if_pos (by omega)]
            · rw [if_neg e3, if_neg (by omega)]
      · have hbm : bt m i = 0 := by rw [HM.out]; rw [bt_shr, bt_high ((w128 n).1 HN.out) (by omega)]
        have HB := Lib.hid hbm
        clear hbm
        go_wp2
        go_roundg g
        case measure => omega
        case rel =>
          refine ⟨i + 1, by omega, by go_num, hb, r1, r2, ?_⟩
          rw [r3]
          congr 2
          apply ints_congr
          intro j hj
          by_cases e1 : j = i
          · subst e1
            rw [if_neg (by omega), if_pos (by omega), HB.out]; rfl
          · by_cases e3 : j < i
            · rw [if_pos e3, if_pos (by omega)]
            · rw [if_neg e3, if_neg (by omega)]
end Go.Proofs.Ytjniohijomoakaa.Ref
