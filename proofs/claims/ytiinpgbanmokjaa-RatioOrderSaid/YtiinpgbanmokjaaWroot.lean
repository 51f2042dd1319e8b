/-
  Contract of package wide: the root, told of natural numbers. Condition: halves below 2^64.
-/
import Derived.Test.YtiinpgbanmokjaaWshift
import Derived.Test.YtiinpgbanmokjaaSteady
namespace Go.Proofs.Ytiinpgbanmokjaa.Wide
open Go.ChangeShapes Go.WideShapes Go.ChangeAt Go.RowKit
open Arr Bt Steady
set_option linter.unusedVariables false
set_option maxRecDepth 100000

/-- The root: the greatest number whose square is at most n. -/
def IsRoot (n r : Nat) : Prop := r * r ≤ n ∧ n < (r + 1) * (r + 1)
theorem isRoot_unique {n r s : Nat} (h : IsRoot n r) (k : IsRoot n s) : r = s := by
  obtain ⟨h1, h2⟩ := h
  obtain ⟨k1, k2⟩ := k
  rcases Nat.lt_trichotomy r s with hl | hl | hl
  · have := Nat.mul_le_mul (show r + 1 ≤ s from hl) (show r + 1 ≤ s from hl)
    omega
  · exact hl
  · have := Nat.mul_le_mul (show s + 1 ≤ r from hl) (show s + 1 ≤ r from hl)
    omega
/-- The root on the way, g bits to go. -/
def Rt (n g r : Nat) : Prop := r * r ≤ n ∧ n < (r + 2 ^ g) * (r + 2 ^ g) ∧ ∃ k, r = k * 2 ^ g ∧ r + 2 ^ g ≤ 18446744073709551616
theorem rt_start {n : Nat} (h : W128 n) : Rt n 64 0 := by
  refine ⟨by omega, ?_, 0, by omega, by simp⟩
  rw [Nat.zero_add, ← Nat.pow_add]
  exact h
theorem rt_yes {n g r : Nat} (h : Rt n (g + 1) r) (hm : (r + 2 ^ g) * (r + 2 ^ g) ≤ n) : Rt n g (r + 2 ^ g) := by
  obtain ⟨h1, h2, k, h3, h4⟩ := h
  rw [Nat.pow_succ] at h2 h3 h4
  refine ⟨hm, ?_, 2 * k + 1, ?_, by omega⟩
  · rw [show r + 2 ^ g + 2 ^ g = r + 2 ^ g * 2 by omega]; exact h2
  · rw [h3, Nat.add_mul, Nat.one_mul, show k * (2 ^ g * 2) = 2 * k * 2 ^ g by ac_rfl]
theorem rt_no {n g r : Nat} (h : Rt n (g + 1) r) (hm : n < (r + 2 ^ g) * (r + 2 ^ g)) : Rt n g r := by
  obtain ⟨h1, h2, k, h3, h4⟩ := h
  rw [Nat.pow_succ] at h3 h4
  exact ⟨h1, hm, 2 * k, by rw [h3]; ac_rfl, by omega⟩
theorem rt_or {n g r : Nat} (h : Rt n (g + 1) r) : r ||| 2 ^ g = r + 2 ^ g := by
  obtain ⟨_, _, k, h3, _⟩ := h
  have hl : (2 : Nat) ^ g < 2 ^ (g + 1) := Nat.pow_lt_pow_right (by omega) (by omega)
  rw [h3]
  exact or_add hl
theorem rt_end {n r : Nat} (h : Rt n 0 r) : IsRoot n r := ⟨h.1, h.2.1⟩
theorem rt_lt {n g r : Nat} (h : Rt n g r) : H r ∧ H (2 ^ g / 2) := by
  obtain ⟨_, _, k, _, h4⟩ := h
  have := Nat.two_pow_pos g
  unfold H
  omega
theorem half_pow (g : Nat) : 2 ^ (g + 1) / 2 = 2 ^ g := by rw [Nat.pow_succ]; omega
theorem cmp_le {n m : Nat} : Ref.cmpN m n ≤ 0 ↔ m ≤ n := by
  unfold Ref.cmpN
  split
  · omega
  · split <;> omega
theorem row_struct (w : World) (xh xl : Nat) : (w.alloc (.cells #[.int .u64 xh, .int .u64 xl] 45)).heap[w.heap.size]? = some (.cells #[.int .u64 xh, .int .u64 xl] 45 (0, 0)) := heap_alloc_new _ _
theorem infoW : (Try.prog.info? 45).map (·.size) = some 2 := by kernel_rfl
theorem prodW {a b : Nat} (ha : H a) (hb : H b) : W128 (a * b) := by
  have h1 := Nat.mul_le_mul (Nat.le_sub_one_of_lt ha) (Nat.le_sub_one_of_lt hb)
  unfold W128
  omega
theorem mul_sq (m : Nat) (w : World) (hm : H m) : Calls Try.prog 22 #[.int .u64 m, .int .u64 m] w fun e w' => e = .returned (.agg #[.int .u64 ((m * m / 18446744073709551616 : Nat) : Int), .int .u64 ((m * m % 18446744073709551616 : Nat) : Int)]) ∧ Below w.heap.size w w' := mul_any m m w hm hm
theorem cmp_sq (m xh xl : Nat) (w : World) (hm : H m) (h1 : H xh) (h2 : H xl) :
    Calls Try.prog 33 #[.agg #[.int .u64 ((m * m / 18446744073709551616 : Nat) : Int), .int .u64 ((m * m % 18446744073709551616 : Nat) : Int)], .agg #[.int .u64 xh, .int .u64 xl]] w fun e w' => e = .returned (.int .i64 (Ref.cmpN (m * m) (num xh xl))) ∧ Below w.heap.size w w' := by
  have c := cmp_halves (m * m / 18446744073709551616) (m * m % 18446744073709551616) xh xl w (hi_H (prodW hm hm)) (lo_H _) h1 h2
  rw [num_of] at c
  exact c

set_option maxHeartbeats 1000000 in
theorem root_halves (xh xl : Nat) (w : World) (h1 : H xh) (h2 : H xl) :
    Calls Try.prog 24 #[.agg #[.int .u64 xh, .int .u64 xl]] w fun e w' => (∃ r : Nat, e = .returned (.int .u64 r) ∧ IsRoot (num xh xl) r ∧ H r) ∧ Below w.heap.size w w' := by
  have H1 := Lib.hid h1
  have H2 := Lib.hid h2
  clear h1 h2
  go_enter Try.func24, Try.ntmps24
  go_wp2
  have r0 := row_struct w xh xl
  have hB : Below w.heap.size w (w.alloc (.cells #[.int .u64 xh, .int .u64 xl] 45)) := (Below.refl _ _).alloc (Nat.le_refl _) _
  generalize w.alloc (.cells #[.int .u64 xh, .int .u64 xl] 45) = V at *
  go_loopg [3, 4] 64 (fun g s3 s4 wr => ∃ r : Nat, s3 = .int .u64 r ∧ s4 = .int .u64 ((2 ^ g / 2 : Nat) : Int) ∧ g ≤ 64 ∧ Rt (num xh xl) g r ∧ Below w.heap.size w wr ∧ wr.heap[w.heap.size]? = some (.cells #[.int .u64 xh, .int .u64 xl] 45 (0, 0)))
  case atStart => exact ⟨0, rfl, rfl, by omega, rt_start (num_lt H1.out H2.out), hB, r0⟩
  case round =>
    obtain ⟨r, rfl, rfl, hg, hr, hb, q0⟩ := hrel
    clear r0 hB
    have HR := Lib.hid hr
    clear hr
    cases gk with
    | zero =>
      have e : ((2 ^ 0 / 2 : Nat) : Int) = 0 := by decide
      rw [e]
      clear e
      go_wp2
      go_ret
      exact ⟨⟨r, rfl, rt_end HR.out, (rt_lt HR.out).1⟩, hb⟩
    | succ g =>
      have eo := rt_or HR.out
      have hr := (rt_lt HR.out).1
      have hp := (rt_lt HR.out).2
      rw [half_pow] at hp ⊢
      have o := u64_or_nat r (2 ^ g) hr hp
      rw [eo] at o
      obtain ⟨m, hm⟩ : ∃ m, m = r + 2 ^ g := ⟨_, rfl⟩
      rw [← hm] at o
      have hmH : H m := by
        obtain ⟨_, _, k, h3, h4⟩ := HR.out
        rw [Nat.pow_succ] at h4
        have := Nat.two_pow_pos g
        unfold H
        omega
      have HM := Lib.hid hm
      have HMH := Lib.hid hmH
      have cm := fun W => mul_sq m W hmH
      have cc := fun W => cmp_sq m xh xl W hmH H1.out H2.out
      have hcl := @cmp_le (num xh xl) (m * m)
      generalize hz : Ref.cmpN (m * m) (num xh xl) = c at *
      have HC := Lib.hid hcl
      clear hcl eo hr hp hm hmH hz
      generalize hP : 2 ^ g = P at *
      have HPP := Lib.hid hP
      clear hP
      have hPp : 0 < P := by rw [← HPP.out]; exact Nat.two_pow_pos g
      have hne : ((P : Int) != 0) = true := bne_iff_ne.2 (by omega)
      have hP0 : (0 : Int) ≤ (P : Int) := by omega
      clear hPp
      by_cases hle : m * m ≤ num xh xl
      · have t1 : decide (c ≤ 0) = true := decide_eq_true (HC.out.2 hle)
        have HL := Lib.hid hle
        clear hle
        go_wp2
        refine wp_region_steady [.late, .late, .plain, .plain, .plain, .late] none [] 21 (by kernel_rfl) rfl (by kernel_rfl) (by kernel_rfl) ?_
        refine st_late (.int .u64 m) rfl rfl (fun _ => rfl) ?_
        simp only [Act.put, List.setIfInBounds_toArray, List.set_cons_zero, List.set_cons_succ]
        refine st_late (.int .u64 m) rfl rfl (fun _ => rfl) ?_
        simp only [Act.put, List.setIfInBounds_toArray, List.set_cons_zero, List.set_cons_succ]
        refine st_call 22 #[.int .u64 m, .int .u64 m] _ rfl rfl (fun _ => by go_simp) cm ?_
        simp only [Act.put, List.setIfInBounds_toArray, List.set_cons_zero, List.set_cons_succ]
        refine st_load 45 (.tmp 1) w.heap.size _ _ _ _ rfl rfl rfl rfl q0 Try.underlying45 rfl infoW ?_
        simp only [Act.put, List.setIfInBounds_toArray, List.set_cons_zero, List.set_cons_succ]
        refine st_call 33 #[.agg #[.int .u64 ((m * m / 18446744073709551616 : Nat) : Int), .int .u64 ((m * m % 18446744073709551616 : Nat) : Int)], .agg #[.int .u64 xh, .int .u64 xl]] _ rfl rfl (fun _ => by go_simp) cc ?_
        simp only [Act.put, List.setIfInBounds_toArray, List.set_cons_zero, List.set_cons_succ]
        refine st_late (.bool true) rfl rfl (fun _ => by go_simp) ?_
        simp only [Act.put, List.setIfInBounds_toArray, List.set_cons_zero, List.set_cons_succ]
        refine st_nil ?_
        intro ps w' hwd
        have hB' := hwd.below
        clear hwd
        simp only [fin, List.foldl_nil]
        have z0 := lt_of_row q0
        go_wp2
        go_roundg g
        case measure => omega
        case rel =>
          refine ⟨_, rfl, ?_, by omega, ?_, hb.drew.trans (hB'.mono hb.size), below_row hB' z0 q0⟩
          · rw [HPP.out]; exact congrArg (Value.int IntKind.u64) (Int.natCast_ediv P 2).symm
          · rw [HM.out, ← HPP.out]; exact rt_yes HR.out (by rw [HPP.out, ← HM.out]; exact HL.out)
      · have t1 : decide (c ≤ 0) = false := decide_eq_false (fun h => hle (HC.out.1 h))
        have HL := Lib.hid hle
        clear hle
        go_wp2
        refine wp_region_steady [.late, .late, .plain, .plain, .plain, .late] none [] 21 (by kernel_rfl) rfl (by kernel_rfl) (by kernel_rfl) ?_
        refine st_late (.int .u64 m) rfl rfl (fun _ => rfl) ?_
        simp only [Act.put, List.setIfInBounds_toArray, List.set_cons_zero, List.set_cons_succ]
        refine st_late (.int .u64 m) rfl rfl (fun _ => rfl) ?_
        simp only [Act.put, List.setIfInBounds_toArray, List.set_cons_zero, List.set_cons_succ]
        refine st_call 22 #[.int .u64 m, .int .u64 m] _ rfl rfl (fun _ => by go_simp) cm ?_
        simp only [Act.put, List.setIfInBounds_toArray, List.set_cons_zero, List.set_cons_succ]
        refine st_load 45 (.tmp 1) w.heap.size _ _ _ _ rfl rfl rfl rfl q0 Try.underlying45 rfl infoW ?_
        simp only [Act.put, List.setIfInBounds_toArray, List.set_cons_zero, List.set_cons_succ]
        refine st_call 33 #[.agg #[.int .u64 ((m * m / 18446744073709551616 : Nat) : Int), .int .u64 ((m * m % 18446744073709551616 : Nat) : Int)], .agg #[.int .u64 xh, .int .u64 xl]] _ rfl rfl (fun _ => by go_simp) cc ?_
        simp only [Act.put, List.setIfInBounds_toArray, List.set_cons_zero, List.set_cons_succ]
        refine st_late (.bool false) rfl rfl (fun _ => by go_simp) ?_
        simp only [Act.put, List.setIfInBounds_toArray, List.set_cons_zero, List.set_cons_succ]
        refine st_nil ?_
        intro ps w' hwd
        have hB' := hwd.below
        clear hwd
        simp only [fin, List.foldl_nil]
        have z0 := lt_of_row q0
        go_wp2
        go_roundg g
        case measure => omega
        case rel =>
          refine ⟨_, rfl, ?_, by omega, ?_, hb.drew.trans (hB'.mono hb.size), below_row hB' z0 q0⟩
          · rw [HPP.out]; exact congrArg (Value.int IntKind.u64) (Int.natCast_ediv P 2).symm
          · exact rt_no HR.out (by rw [HPP.out, ← HM.out]; exact Nat.lt_of_not_le HL.out)
end Go.Proofs.Ytiinpgbanmokjaa.Wide
