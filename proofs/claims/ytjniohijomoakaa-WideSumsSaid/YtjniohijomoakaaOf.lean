/-
  The reference's numbers of 128 bits: Of and bits of the law. Conditions: halves below 2^64.
-/
import Derived.Test.YtjniohijomoakaaBt
import Derived.Deep.QuietTactic
import Derived.BigQuiet
import Derived.LoopTactic
import Derived.Handy
import Derived.Deep.DeepCutAuto
import Derived.Deep.WholeRow
namespace Go.Proofs.Ytjniohijomoakaa.Ref
open Go.ChangeShapes Go.WideShapes Go.ChangeAt Go.RowKit
open Arr Bt
set_option linter.unusedVariables false

/-- 128 cells of 0. -/
def zs : Array Value := ints 128 (fun _ => 0)
theorem zeroU : ∀ w, (zeroValue 25).run Try.prog w = .ok (.agg zs) w := (zero_of_info (n := 128) (by kernel_rfl)).1
theorem zs_size : zs.size = 128 := ints_size _ _
theorem zs_ne : ¬ zs = #[] := ints_ne _ _ (by omega)
theorem infoU : (Try.prog.info? 25).map (·.size) = some 128 := by kernel_rfl
theorem infoInt : (Try.prog.info? 3).map (·.size) = some 1 := by kernel_rfl

theorem of_any (hi lo : Nat) (w : World) (hh : hi < 18446744073709551616) (hl : lo < 18446744073709551616) :
    Calls Try.prog 25 #[.int .u64 hi, .int .u64 lo] w fun e w' => e = .returned (.agg (bv (hi * 18446744073709551616 + lo))) ∧ Below w.heap.size w w' := by
  have HH := Lib.hid hh
  have HL := Lib.hid hl
  clear hh hl
  obtain ⟨n, hn⟩ : ∃ n, n = hi * 18446744073709551616 + lo := ⟨_, rfl⟩
  rw [← hn]
  have HN := Lib.hid hn
  clear hn
  have hz := zeroU
  go_enter Try.func25, Try.ntmps25
  go_wp2
  go_loopg [0, 1, 6] 64 (fun g s0 s1 s6 wr => ∃ i : Nat, i + g = 64 ∧ s0 = .int .u64 ((hi / 2 ^ i : Nat) : Int) ∧ s1 = .int .u64 ((lo / 2 ^ i : Nat) : Int) ∧ s6 = .int .i64 i ∧ Below w.heap.size w wr ∧
    wr.heap[w.heap.size]? = some (.cells zs 25 (0, 0)) ∧
    wr.heap[w.heap.size + 1]? = some (.cells (ints 128 (fun j => if j % 64 < i then (bt n j : Int) else 0)) 25 (0, 0)))
  case atStart =>
    refine ⟨0, rfl, by simp, by simp, rfl, ((Below.refl _ _).alloc (Nat.le_refl _) _).alloc (by simp) _, heap_alloc2_old _ _ _, ?_⟩
    rw [heap_alloc2_new]
    rfl
  case round =>
    obtain ⟨i, hig, rfl, rfl, rfl, hb, h0, h1⟩ := hrel
    have ba : hi / 2 ^ i < 18446744073709551616 := Nat.lt_of_le_of_lt (Nat.div_le_self _ _) HH.out
    have bb : lo / 2 ^ i < 18446744073709551616 := Nat.lt_of_le_of_lt (Nat.div_le_self _ _) HL.out
    obtain ⟨a, ha⟩ : ∃ a, hi / 2 ^ i = a := ⟨_, rfl⟩
    obtain ⟨b, hb'⟩ : ∃ b, lo / 2 ^ i = b := ⟨_, rfl⟩
    rw [ha] at ba ⊢
    rw [hb'] at bb ⊢
    have HA := Lib.hid ha
    have HB := Lib.hid hb'
    clear ha hb'
    cases gk with
    | zero =>
      obtain rfl : i = 64 := by omega
      have h1' : wr.heap[w.heap.size + 1]? = some (.cells (bv n) 25 (0, 0)) := by
        rw [h1]
        unfold bv
        rw [ints_congr 128 _ _ (fun j _ => by rw [if_pos (Nat.mod_lt j (by omega))])]
      clear h1
      go_upto_region 9 with (fail)
      refine wp_region_lit ?_
      refine wpList_load_row rfl 25 (.tmp 5) rfl (w.heap.size + 1) rfl _ _ _ _ h1' Try.underlying25 rfl (by rw [bv_size]; exact infoU) ?_
      refine wpList_store_whole rfl 25 (.tmp 4) (.tmp 26) rfl w.heap.size _ rfl rfl _ _ h0 (by rw [bv_size]; exact infoU) (by rw [bv_size, zs_size]) (bv_one _) ?_
      apply wpList_nil
      repeat go_step
      have h2 := setRow_heap wr w.heap.size _ (bv n) _ _ h0
      refine bodyPost_ret (v := .agg (bv n)) ?_ rfl ⟨rfl, below_setRow hb (Nat.le_refl _) _⟩
      exact results_cell_row rfl _ _ w.heap.size _ _ _ _ rfl h2 Try.underlying25 rfl (by rw [bv_size]; exact infoU)
    | succ g =>
      have hlt : i < 64 := by omega
      have c1 := cell_row h1 (i := i) (by omega)
      have c2 := cell_row h1 (i := 64 + i) (by omega)
      have f1 := frozen_row h1
      go_wp2
      go_roundg g
      case measure => omega
      case rel =>
        have h3 := row_set (row_set h1 (i := i) (by omega) ((b : Int) % 2)) (i := 64 + i) (by omega) ((a : Int) % 2)
        refine ⟨i + 1, by omega, ?_, ?_, by go_num, (hb.setCell (by simp) _).setCell (by simp) _, ?_, ?_⟩
        · rw [div_succ, HA.out]; simp
        · rw [div_succ, HB.out]; simp
        · refine row_set_other _ _ (row_set_other _ _ h0 (by simp)) (by simp)
        · rw [h3]
          congr 2
          apply ints_congr
          intro j hj
          by_cases e1 : j = 64 + i
          · subst e1
            rw [if_pos rfl, if_pos (by omega), HN.out, bt_hi _ _ HL.out, ← HA.out]; unfold bt; simp
          · rw [if_neg e1]
            by_cases e2 : j = i
            · subst e2
              rw [if_pos rfl, if_pos (by omega), HN.out, bt_lo _ (by omega), ← HB.out]; unfold bt; simp
            · rw [if_neg e2]
              by_cases e3 : j % 64 < i
              · rw [if_pos e3, if_pos (by omega)]
              · rw [if_neg e3, if_neg (by omega)]
end Go.Proofs.Ytjniohijomoakaa.Ref
