/-
  The contract of Times: the reference's product of two integers of 64 bits. No condition but that both fit.
-/
import Derived.Test.YtmbmjdlcpjmnoaaDigits
import Derived.Handy
import Derived.Deep.DeepCutAuto
import Derived.Deep.CutBlock
import Derived.Deep.Light
namespace Go.Proofs.Ytmbmjdlcpjmnoaa.Ref
open Go.ChangeShapes Go.WideShapes Go.ChangeAt Go.RowKit
open Num
set_option linter.unusedVariables false

/-- The sign s and the two digits a0, a1 stand for a. -/
def IsTwo (a s a0 a1 : Int) : Prop := (s = 1 ∨ s = -1) ∧ s * (a0 + 4294967296 * a1) = a ∧ s = sg a
theorem of_two (a : Int) (w : World) (ha : Fits a) :
    Calls Try.prog 9 #[.int .i64 a] w fun e w' => (∃ s a0 a1, e = .returned (.agg #[.int .i64 s, .int .u64 a0, .int .u64 a1, .int .u64 0, .int .u64 0]) ∧ IsTwo a s a0 a1 ∧ -1 ≤ s ∧ s ≤ 1 ∧ 0 ≤ a0 ∧ a0 ≤ 4294967295 ∧ 0 ≤ a1 ∧ a1 ≤ 2147483648) ∧ Below w.heap.size w w' := by
  refine (of_any a w ha).mono ?_
  rintro e w' ⟨rfl, hb⟩
  unfold Fits at ha
  have h0 : 0 ≤ abs a := by unfold abs; split <;> omega
  have h1 : abs a ≤ 9223372036854775808 := by unfold abs; split <;> omega
  have d1 : abs a / 18446744073709551616 % 4294967296 = 0 := by omega
  have d2 : abs a / 79228162514264337593543950336 = 0 := by omega
  refine ⟨⟨sg a, abs a % 4294967296, abs a / 4294967296 % 4294967296, by unfold NV; rw [d1, d2], ⟨?_, ?_, rfl⟩, ?_, ?_, ?_, ?_, ?_, ?_⟩, hb⟩
  · unfold sg; split <;> simp
  · have e : abs a % 4294967296 + 4294967296 * (abs a / 4294967296 % 4294967296) = abs a := by omega
    rw [e]; unfold abs sg; split <;> omega
  · unfold sg; split <;> omega
  · unfold sg; split <;> omega
  all_goals omega
theorem prod_bounds {x y : Int} (h0 : 0 ≤ x) (h1 : x ≤ 4294967295) (k0 : 0 ≤ y) (k1 : y ≤ 4294967295) : 0 ≤ x * y ∧ x * y ≤ 18446744065119617025 :=
  ⟨Int.mul_nonneg h0 k0, Int.le_trans (Int.mul_le_mul h1 k1 k0 (by omega)) (by decide)⟩
theorem sign_bounds {s t : Int} (h0 : -1 ≤ s) (h1 : s ≤ 1) (k0 : -1 ≤ t) (k1 : t ≤ 1) : -1 ≤ s * t ∧ s * t ≤ 1 := by
  have : s = -1 ∨ s = 0 ∨ s = 1 := by omega
  rcases this with rfl | rfl | rfl <;> omega

/-- What Times leaves in its four digits, product by product. -/
def Mult (p00 p01 p10 p11 z0 z1 z2 z3 : Int) : Prop :=
  ∃ c1 m1 c2 m2 c3 : Int, z0 = p00 % 4294967296 ∧ c1 = p00 / 4294967296 ∧ m1 = (p01 + c1) % 4294967296 ∧ m2 = (p01 + c1) / 4294967296 ∧
    z1 = (p10 + m1) % 4294967296 ∧ c2 = (p10 + m1) / 4294967296 ∧ z2 = (p11 + m2 + c2) % 4294967296 ∧ c3 = (p11 + m2 + c2) / 4294967296 ∧ z3 = c3
/-- What the loops of Times leave: the digits in block g, the result's block as it was. -/
def Laid (w : World) (st p00 p01 p10 p11 : Int) (s4 s7 : Value) (wx : World) : Prop :=
  ∃ (g : Nat) (z0 z1 z2 z3 : Int), s4 = .pointer (some ⟨w.heap.size, 0, none⟩) ∧ s7 = .pointer (some ⟨g, 0, none⟩) ∧ w.heap.size < g ∧ Mult p00 p01 p10 p11 z0 z1 z2 z3 ∧
    (wx.cell? ⟨g, 0, none⟩ = some (.int .i64 st) ∧ wx.cell? ⟨g, 1, none⟩ = some (.int .u64 z0) ∧ wx.cell? ⟨g, 2, none⟩ = some (.int .u64 z1) ∧ wx.cell? ⟨g, 3, none⟩ = some (.int .u64 z2) ∧ wx.cell? ⟨g, 4, none⟩ = some (.int .u64 z3)) ∧
    (wx.cell? ⟨w.heap.size, 0, none⟩ = some (.int .i64 0) ∧ wx.cell? ⟨w.heap.size, 1, none⟩ = some (.int .u64 0) ∧ wx.cell? ⟨w.heap.size, 2, none⟩ = some (.int .u64 0) ∧ wx.cell? ⟨w.heap.size, 3, none⟩ = some (.int .u64 0) ∧ wx.cell? ⟨w.heap.size, 4, none⟩ = some (.int .u64 0)) ∧
    (wx.frozen? ⟨w.heap.size, 0, none⟩ = false ∧ wx.frozen? ⟨w.heap.size, 1, none⟩ = false ∧ wx.frozen? ⟨w.heap.size, 2, none⟩ = false ∧ wx.frozen? ⟨w.heap.size, 3, none⟩ = false ∧ wx.frozen? ⟨w.heap.size, 4, none⟩ = false) ∧ Below w.heap.size w wx
set_option maxHeartbeats 4000000 in
theorem times_raw (a b : Int) (w : World) (ha : Fits a) (hb : Fits b) :
    Calls Try.prog 27 #[.int .i64 a, .int .i64 b] w fun e w' =>
      (∃ s a0 a1 t b0 b1 z0 z1 z2 z3, e = .returned (.agg #[.int .i64 (s * t), .int .u64 z0, .int .u64 z1, .int .u64 z2, .int .u64 z3]) ∧ IsTwo a s a0 a1 ∧ IsTwo b t b0 b1 ∧
        Mult (a0 * b0) (a0 * b1) (a1 * b0) (a1 * b1) z0 z1 z2 z3 ∧ (0 ≤ a0 ∧ a0 ≤ 4294967295 ∧ 0 ≤ a1 ∧ a1 ≤ 2147483648) ∧ (0 ≤ b0 ∧ b0 ≤ 4294967295 ∧ 0 ≤ b1 ∧ b1 ≤ 2147483648)) ∧ Below w.heap.size w w' := by
  have Ha := Lib.hid ha
  have Hb := Lib.hid hb
  clear ha hb
  go_enter Try.func27, Try.ntmps27
  go_upto_block 0 with (first
    | (go_at_call 9; ((with_reducible refine (of_two a _ Ha.out).mono ?_); rintro e w1 ⟨⟨s, a0, a1, rfl, hx, s1, s2, p0, p1, p2, p3⟩, hb1⟩; have Hx := Lib.hid hx; clear hx; obtain ⟨hc1, hf1⟩ := bcell hb1; have hs1 := hb1.size; simp at hs1; have q1 : w.heap.size < w1.heap.size := (by omega); have q2 : w.heap.size < w1.heap.size + 1 := (by omega)))
    | (go_at_call 9; ((with_reducible refine (of_two b _ Hb.out).mono ?_); rintro e w2 ⟨⟨t, b0, b1, rfl, hy, t1, t2, r0, r1, r2, r3⟩, hb2⟩; have Hy := Lib.hid hy; clear hy; obtain ⟨hc2, hf2⟩ := bcell hb2; have hs2 := hb2.size; simp at hs2; have q3 : w1.heap.size < w2.heap.size := (by omega); have q4 : w.heap.size < w2.heap.size := (by omega); have q4' : w.heap.size < w2.heap.size + 1 := (by omega); obtain ⟨u1, u2⟩ := sign_bounds s1 s2 t1 t2)))
  have E0 : w2.cell? ⟨w.heap.size, 0, none⟩ = some (.int .i64 0) := by simp [go_sem, hc1, hc2, q1, q2]
  have F0 : w2.frozen? ⟨w.heap.size, 0, none⟩ = false := by simp [go_sem, hf1, hf2, q1, q2]
  have E1 : w2.cell? ⟨w.heap.size, 1, none⟩ = some (.int .u64 0) := by simp [go_sem, hc1, hc2, q1, q2]
  have F1 : w2.frozen? ⟨w.heap.size, 1, none⟩ = false := by simp [go_sem, hf1, hf2, q1, q2]
  have E2 : w2.cell? ⟨w.heap.size, 2, none⟩ = some (.int .u64 0) := by simp [go_sem, hc1, hc2, q1, q2]
  have F2 : w2.frozen? ⟨w.heap.size, 2, none⟩ = false := by simp [go_sem, hf1, hf2, q1, q2]
  have E3 : w2.cell? ⟨w.heap.size, 3, none⟩ = some (.int .u64 0) := by simp [go_sem, hc1, hc2, q1, q2]
  have F3 : w2.frozen? ⟨w.heap.size, 3, none⟩ = false := by simp [go_sem, hf1, hf2, q1, q2]
  have E4 : w2.cell? ⟨w.heap.size, 4, none⟩ = some (.int .u64 0) := by simp [go_sem, hc1, hc2, q1, q2]
  have F4 : w2.frozen? ⟨w.heap.size, 4, none⟩ = false := by simp [go_sem, hf1, hf2, q1, q2]
  have A0 : w2.cell? ⟨w1.heap.size, 0, none⟩ = some (.int .i64 s) := by simp [go_sem, hc2]
  have A1 : w2.cell? ⟨w1.heap.size, 1, none⟩ = some (.int .u64 a0) := by simp [go_sem, hc2]
  have A2 : w2.cell? ⟨w1.heap.size, 2, none⟩ = some (.int .u64 a1) := by simp [go_sem, hc2]
  have A3 : w2.cell? ⟨w1.heap.size, 3, none⟩ = some (.int .u64 0) := by simp [go_sem, hc2]
  have A4 : w2.cell? ⟨w1.heap.size, 4, none⟩ = some (.int .u64 0) := by simp [go_sem, hc2]
  clear hc1 hc2 hf1 hf2
  obtain ⟨m00, n00⟩ := prod_bounds p0 p1 r0 r1
  obtain ⟨m01, n01⟩ := prod_bounds p0 p1 r2 (Int.le_trans r3 (by decide))
  obtain ⟨m10, n10⟩ := prod_bounds p2 (Int.le_trans p3 (by decide)) r0 r1
  obtain ⟨m11, n11⟩ := prod_bounds p2 (Int.le_trans p3 (by decide)) r2 (Int.le_trans r3 (by decide))
  go_cut [4, 7] (fun s4 s7 wx => Laid w (s * t) (a0 * b0) (a0 * b1) (a1 * b0) (a1 * b1) s4 s7 wx)
  case first =>
    go_wp2_with fail
    refine wp_loop_rounds 3 ?_
    rw [rounds_succ]
    go_wp2
    refine wp_loop_rounds 3 ?_
    rw [rounds_succ]
    go_wp2
    go_quiet (fail)
    go_wp2
    rw [rounds_succ]
    go_wp2
    go_quiet (fail)
    go_wp2
    rw [rounds_succ]
    go_wp2
    rw [rounds_succ]
    go_wp2
    refine wp_loop_rounds 3 ?_
    rw [rounds_succ]
    go_wp2
    go_quiet (fail)
    go_wp2
    rw [rounds_succ]
    go_wp2
    go_quiet (fail)
    go_wp2
    rw [rounds_succ]
    go_wp2
    rw [rounds_succ]
    go_wp2_with fail
    go_meet
    unfold Laid
    refine ⟨_, _, _, _, _, rfl, rfl, q4', ⟨_, _, _, _, _, rfl, rfl, rfl, rfl, rfl, rfl, rfl, rfl, rfl⟩, ⟨?_, ?_, ?_, ?_, ?_⟩, ⟨?_, ?_, ?_, ?_, ?_⟩, ⟨?_, ?_, ?_, ?_, ?_⟩, ?_⟩
    all_goals go_light
    all_goals first
      | (with_reducible refine Below.setCell ?_ (by go_size) _; repeat (first | (with_reducible exact Below.refl _ _) | (with_reducible refine below_drewN ?_ _) | (with_reducible refine Below.setCell ?_ (by go_size) _) | (with_reducible refine Below.alloc ?_ (by go_size) _) | (with_reducible refine Below.trans ?_ (hb2.mono (by go_size))) | (with_reducible refine Below.trans ?_ (hb1.mono (by go_size)))))
      | (simp (maxDischargeDepth := 8) [go_sem, E0, E1, E2, E3, E4, F0, F1, F2, F3, F4, q4, q4']; done)
  case rest =>
    obtain ⟨g, z0, z1, z2, z3, rfl, rfl, hg, hM, ⟨g0, g1, g2, g3, g4⟩, ⟨e0, e1, e2, e3, e4⟩, ⟨f0, f1, f2, f3, f4⟩, hB⟩ := hcut
    have HM := Lib.hid hM
    clear hM hb1 hb2 E0 E1 E2 E3 E4 F0 F1 F2 F3 F4 A0 A1 A2 A3 A4
    go_wp2
    refine bodyPost_ret (v := ?v) ?h1 rfl ?h2
    case h1 =>
      simp [results, Try.results27, go_sem, *]
      try rfl
    case h2 =>
      refine ⟨⟨s, a0, a1, t, b0, b1, _, _, _, _, rfl, Hx.out, Hy.out, HM.out, ⟨p0, p1, p2, p3⟩, ⟨r0, r1, r2, r3⟩⟩, ?_⟩
      repeat (first | exact hB | (with_reducible refine Below.setCell ?_ (by go_size) _))
end Go.Proofs.Ytmbmjdlcpjmnoaa.Ref
