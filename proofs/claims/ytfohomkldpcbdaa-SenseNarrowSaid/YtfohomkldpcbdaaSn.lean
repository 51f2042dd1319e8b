/-
  Sensors, without a program: between which speeds a tachometer's pulses lie. No condition.
-/
import Derived.Test.YtfohomkldpcbdaaCf
import Derived.Test.YtfohomkldpcbdaaSi
namespace Go.Proofs.Ytfohomkldpcbdaa.Sn
open Go.ChangeShapes Go.WideShapes Go.ChangeAt Go.RowKit
open Arr Steady Sx Sw Sl Sb Sc Si Vs Gr Tk Tkh Tkl Cf
set_option linter.unusedVariables false
set_option linter.unusedSimpArgs false

/-- Whatever a tachometer's pulses are told to say. -/
structure Tz where
  x : Int
  y : Int
  e : Int
/-- Rounded up. -/
def up (a b : Int) : Int := -((-a) / b)
/-- The least and the greatest speed. -/
def tlo (d lo hi p : Int) : Int := if d < 1 then ((d - 1) * hi) / p else ((d - 1) * lo) / p
def thi (d lo hi p : Int) : Int := if d < -1 then up ((d + 1) * lo) p else up ((d + 1) * hi) p
/-- A division that drops what is left, and one down: that rounded down. -/
theorem tdiv_down {a b : Int} (hb : 1 ≤ b) : (if Int.tmod a b < 0 then Int.tdiv a b - 1 else Int.tdiv a b) = a / b := by
  have h1 := Int.tmod_add_mul_tdiv a b
  have h2 := Int.emod_add_mul_ediv a b
  have h3 := Int.emod_nonneg a (show b ≠ 0 by omega)
  have h4 := Int.emod_lt_of_pos a (show 0 < b by omega)
  have h5 : -b < Int.tmod a b ∧ Int.tmod a b < b := ⟨Int.lt_tmod_of_pos a (by omega), Int.tmod_lt_of_pos a (by omega)⟩
  have key : ∀ q r q' r' : Int, r + b * q = a → r' + b * q' = a → -b < r → r < b → 0 ≤ r' → r' < b → (if r < 0 then q - 1 else q) = q' := by
    intro q r q' r' e1 e2 g1 g2 g3 g4
    have e : b * (q - q') = r' - r := by rw [Int.mul_sub]; omega
    by_cases hr : r < 0
    · rw [if_pos hr]
      have u1 : q - q' = 1 := by
        rcases Int.lt_trichotomy (q - q') 1 with u | u | u
        · have : b * (q - q') ≤ b * 0 := Int.mul_le_mul_of_nonneg_left (by omega) (by omega)
          omega
        · exact u
        · have : b * 2 ≤ b * (q - q') := Int.mul_le_mul_of_nonneg_left (by omega) (by omega)
          omega
      omega
    · rw [if_neg hr]
      rcases Int.lt_trichotomy (q - q') 0 with u | u | u
      · have : b * (q - q') ≤ b * (-1) := Int.mul_le_mul_of_nonneg_left (by omega) (by omega)
        omega
      · omega
      · have : b * 1 ≤ b * (q - q') := Int.mul_le_mul_of_nonneg_left (by omega) (by omega)
        omega
  exact key _ _ _ _ h1 h2 h5.1 h5.2 h3 h4
theorem down_le {x v p : Int} (hp : 1 ≤ p) (h : x ≤ v * p) : x / p ≤ v := by
  have h1 : x / p ≤ (v * p) / p := Int.ediv_le_ediv (by omega) h
  rwa [Int.mul_ediv_cancel _ (by omega)] at h1
theorem le_up {x v p : Int} (hp : 1 ≤ p) (h : v * p ≤ x) : v ≤ up x p := by
  unfold up
  have := down_le (x := -x) (v := -v) hp (by rw [Int.neg_mul]; omega)
  omega
theorem down_mono {a b p : Int} (hp : 1 ≤ p) (h : a ≤ b) : a / p ≤ b / p := Int.ediv_le_ediv (by omega) h
theorem up_mono {a b p : Int} (hp : 1 ≤ p) (h : a ≤ b) : up a p ≤ up b p := by
  unfold up
  have := down_mono (p := p) hp (show -b ≤ -a by omega)
  omega
theorem mul_up {k a b : Int} (hk : 0 ≤ k) (h : a ≤ b) : k * a ≤ k * b := Int.mul_le_mul_of_nonneg_left h hk
theorem mul_dn {k a b : Int} (hk : k ≤ 0) (h : a ≤ b) : k * b ≤ k * a := Int.mul_le_mul_of_nonpos_left hk h
/-- A right tachometer's pulses say what is true. -/
theorem tach_true {d lo hi p own v : Int} (hp : 1 ≤ p) (hlo : 1 ≤ lo) (h1 : lo ≤ own) (h2 : own ≤ hi) (h3 : -own < d * own - v * p) (h4 : d * own - v * p < own) : tlo d lo hi p ≤ v ∧ v ≤ thi d lo hi p := by
  have e1 : (d - 1) * own = d * own - own := by rw [Int.sub_mul]; omega
  have e2 : (d + 1) * own = d * own + own := by rw [Int.add_mul]; omega
  unfold tlo thi
  constructor
  · split
    · have := mul_dn (k := d - 1) (by omega) h2
      exact down_le hp (by omega)
    · have := mul_up (k := d - 1) (by omega) h1
      exact down_le hp (by omega)
  · split
    · have := mul_dn (k := d + 1) (by omega) h1
      exact le_up hp (by omega)
    · have := mul_up (k := d + 1) (by omega) h2
      exact le_up hp (by omega)
/-- Of a wheel that is better known. -/
theorem tach_in {d lo hi lo' hi' p : Int} (hp : 1 ≤ p) (h1 : lo ≤ lo') (h2 : hi' ≤ hi) : tlo d lo hi p ≤ tlo d lo' hi' p ∧ thi d lo' hi' p ≤ thi d lo hi p := by
  unfold tlo thi
  constructor
  · split
    · exact down_mono hp (mul_dn (by omega) h2)
    · exact down_mono hp (mul_up (by omega) h1)
  · split
    · exact up_mono hp (mul_dn (by omega) h1)
    · exact up_mono hp (mul_up (by omega) h2)
/-- More pulses. -/
theorem tach_more {d lo hi p : Int} (hp : 1 ≤ p) (hlo : 1 ≤ lo) (hh : lo ≤ hi) : tlo d lo hi p ≤ tlo (d + 1) lo hi p ∧ thi d lo hi p ≤ thi (d + 1) lo hi p := by
  have a1 : (d + 1 - 1) * hi = (d - 1) * hi + hi := by rw [show d + 1 - 1 = (d - 1) + 1 by omega, Int.add_mul]; omega
  have a2 : (d + 1 - 1) * lo = (d - 1) * lo + lo := by rw [show d + 1 - 1 = (d - 1) + 1 by omega, Int.add_mul]; omega
  have a3 : (d + 1 + 1) * hi = (d + 1) * hi + hi := by rw [Int.add_mul (d + 1) 1 hi]; omega
  have a4 : (d + 1 + 1) * lo = (d + 1) * lo + lo := by rw [Int.add_mul (d + 1) 1 lo]; omega
  unfold tlo thi
  constructor
  · by_cases c1 : d < 1
    · by_cases c2 : d + 1 < 1
      · rw [if_pos c1, if_pos c2]; exact down_mono hp (by omega)
      · rw [if_pos c1, if_neg c2]
        have := mul_dn (k := d - 1) (by omega) (show 0 ≤ hi by omega)
        have := mul_up (k := d + 1 - 1) (by omega) (show 0 ≤ lo by omega)
        exact down_mono hp (by simp only [Int.mul_zero] at *; omega)
    · rw [if_neg c1, if_neg (by omega)]; exact down_mono hp (by omega)
  · by_cases c1 : d < -1
    · by_cases c2 : d + 1 < -1
      · rw [if_pos c1, if_pos c2]; exact up_mono hp (by omega)
      · rw [if_pos c1, if_neg c2]
        have := mul_dn (k := d + 1) (by omega) (show 0 ≤ lo by omega)
        have := mul_up (k := d + 1 + 1) (by omega) (show 0 ≤ hi by omega)
        exact up_mono hp (by simp only [Int.mul_zero] at *; omega)
    · rw [if_neg c1, if_neg (by omega)]; exact up_mono hp (by omega)
theorem vp_in {v p : Int} (h1 : -1099511627776 ≤ v) (h2 : v ≤ 1099511627776) (h3 : 1 ≤ p) (h4 : p ≤ 1024) : -1125899906842624 ≤ v * p ∧ v * p ≤ 1125899906842624 := by
  have k1 : v * p ≤ 1099511627776 * p := Int.mul_le_mul_of_nonneg_right h2 (by omega)
  have k2 : -1099511627776 * p ≤ v * p := Int.mul_le_mul_of_nonneg_right h1 (by omega)
  omega
section
variable {P : Program} {o : Oper} {a : Act} {x y : Operand} {t t' : TypeId}
theorem run_tdiv {X Y Z : Int} (ho : o.op = .binOp .quo t x y t') (hx : a.eval x = .int .i64 X) (hy : a.eval y = .int .i64 Y) (hu : P.underlying t = some (.int .i64)) (h0 : Y ≠ 0) (hZ : IntKind.i64.wrap (Int.tdiv X Y) = Z) (w : World) : (execOp a.eval o).run P w = .ok (.value (.int .i64 Z)) w := by
  subst hZ
  refine exec_bin ho hx hy (by simp [eqGuard]) ?_
  simp only [binOp, ne_eq, not_true_eq_false, if_false, Op.intDiv, if_neg h0, Sem.run_pure]
end
end Go.Proofs.Ytfohomkldpcbdaa.Sn
