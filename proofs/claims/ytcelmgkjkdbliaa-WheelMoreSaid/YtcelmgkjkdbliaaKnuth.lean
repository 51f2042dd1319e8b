/-
  Long division by digits of 2^32: plain mathematics, and the walk of math/bits.Div64. Condition: the upper half is below the divisor.
-/
import Derived.Test.YtcelmgkjkdbliaaWshift
import Derived.Deep.QuietTactic
import Derived.BigQuiet
import Derived.Deep.DeepCutAuto
import Derived.Deep.CutBlock
namespace Go.Proofs.Ytcelmgkjkdbliaa.Wide
open Go.ChangeShapes Go.WideShapes Go.ChangeAt Go.RowKit
open Arr Bt
set_option linter.unusedVariables false
set_option maxRecDepth 100000

/-- What is divided, by what: A two digits, u the next one, the divisor's digits v1 and v0. -/
structure Kp (A u v1 v0 : Nat) : Prop where
  b1 : 2147483648 ≤ v1
  b2 : v1 < 4294967296
  b3 : v0 < 4294967296
  b4 : u < 4294967296
  b5 : A < v1 * 4294967296 + v0
/-- The digit. -/
def kq (A u v1 v0 : Nat) : Nat := (A * 4294967296 + u) / (v1 * 4294967296 + v0)
/-- What is left. -/
def kr (A u v1 v0 : Nat) : Nat := (A * 4294967296 + u) % (v1 * 4294967296 + v0)
theorem k_eq (A u v1 v0 : Nat) : A * 4294967296 + u = kq A u v1 v0 * (v1 * 4294967296 + v0) + kr A u v1 v0 := by
  unfold kq kr
  rw [Nat.mul_comm ((A * 4294967296 + u) / _)]
  exact (Nat.div_add_mod _ _).symm
theorem k_lt {A u v1 v0 : Nat} (h : Kp A u v1 v0) : kq A u v1 v0 < 4294967296 := by
  have h1 := h.b1; have h2 := h.b4; have h3 := h.b5
  unfold kq
  rw [Nat.div_lt_iff_lt_mul (by omega)]
  omega
theorem k_left {A u v1 v0 : Nat} (h : Kp A u v1 v0) : kr A u v1 v0 < v1 * 4294967296 + v0 := Nat.mod_lt _ (by have := h.b1; omega)
/-- On the way. -/
structure Kn (A u v1 v0 q r : Nat) : Prop where
  eq : q * v1 + r = A
  le : kq A u v1 v0 ≤ q
  top : q ≤ 4294967297
theorem k_start {A u v1 v0 : Nat} (h : Kp A u v1 v0) : Kn A u v1 v0 (A / v1) (A % v1) ∧ A % v1 < 4294967296 := by
  have h1 := h.b1; have h2 := h.b2; have h3 := h.b5; have h4 := h.b3; have h5 := h.b4
  refine ⟨⟨by rw [Nat.mul_comm]; exact Nat.div_add_mod A v1, ?_, ?_⟩, by have := Nat.mod_lt A (show 0 < v1 by omega); omega⟩
  · rw [Nat.le_div_iff_mul_le (by omega)]
    have e := k_eq A u v1 v0
    rw [Nat.mul_add, ← Nat.mul_assoc] at e
    omega
  · have : A / v1 < 4294967298 := by rw [Nat.div_lt_iff_lt_mul (by omega)]; omega
    omega
theorem k_exit {A u v1 v0 q r : Nat} (h : Kp A u v1 v0) (k : Kn A u v1 v0 q r) (hc : q * v0 ≤ 4294967296 * r + u) : q = kq A u v1 v0 := by
  have h1 := h.b1; have h2 := k.eq; have h3 := k.le
  refine Nat.le_antisymm ?_ h3
  unfold kq
  rw [Nat.le_div_iff_mul_le (by omega), Nat.mul_add, ← Nat.mul_assoc]
  omega
theorem k_dec {A u v1 v0 q r : Nat} (h : Kp A u v1 v0) (k : Kn A u v1 v0 q r) (hc : 4294967296 ≤ q ∨ 4294967296 * r + u < q * v0) : 1 ≤ q ∧ q - 1 ≤ 4294967296 ∧ Kn A u v1 v0 (q - 1) (r + v1) := by
  have h1 := h.b1; have h2 := k.eq; have h3 := k.le; have h4 := k.top
  have hlt : kq A u v1 v0 < q := by
    rcases hc with hc | hc
    · have := k_lt h; omega
    · unfold kq
      rw [Nat.div_lt_iff_lt_mul (by omega), Nat.mul_add, ← Nat.mul_assoc]
      omega
  obtain ⟨p, rfl⟩ : ∃ p, q = p + 1 := ⟨q - 1, by omega⟩
  rw [Nat.add_mul, Nat.one_mul] at h2
  refine ⟨by omega, by omega, ⟨?_, by omega, by omega⟩⟩
  rw [Nat.add_sub_cancel]
  omega
theorem k_break {A u v1 v0 q r : Nat} (h : Kp A u v1 v0) (k : Kn A u v1 v0 q r) (hq : q ≤ 4294967296) (hr : 4294967296 ≤ r) : q = kq A u v1 v0 := by
  refine k_exit h k ?_
  have h1 := Nat.mul_le_mul hq (Nat.le_sub_one_of_lt h.b3)
  omega
theorem k_bounds {A u v1 v0 q r : Nat} (h : Kp A u v1 v0) (hq : q < 4294967296) (hr : r < 4294967296) : q * v0 < 18446744073709551616 ∧ 4294967296 * r + u < 18446744073709551616 := by
  have h1 := Nat.mul_le_mul (Nat.le_of_lt hq) (Nat.le_sub_one_of_lt h.b3)
  have := h.b4
  omega
/-- What the machine reckons of the rest. -/
theorem k_rest {A u v1 v0 : Nat} (h : Kp A u v1 v0) : IntKind.u64.wrap (IntKind.u64.wrap (IntKind.u64.wrap ((A : Int) * 4294967296) + (u : Int)) - IntKind.u64.wrap ((kq A u v1 v0 : Nat) * ((v1 * 4294967296 + v0 : Nat) : Int))) = ((kr A u v1 v0 : Nat) : Int) := by
  have e := k_eq A u v1 v0
  have hl := k_left h
  have h1 := h.b2; have h2 := h.b3
  have e2 : ((kq A u v1 v0 : Nat) : Int) * ((v1 * 4294967296 + v0 : Nat) : Int) = ((kq A u v1 v0 * (v1 * 4294967296 + v0) : Nat) : Int) := (Int.natCast_mul _ _).symm
  rw [e2]
  generalize kq A u v1 v0 * (v1 * 4294967296 + v0) = T at *
  generalize kr A u v1 v0 = R at *
  simp only [IntKind.wrap_u64]
  omega
theorem div64_zero (lo y : Nat) (w : World) (hy : 0 < y) (h2 : H lo) :
    Calls Try.prog 28 #[.int .u64 0, .int .u64 lo, .int .u64 y] w fun e w' => e = .returned (.tuple #[.int .u64 ((lo / y : Nat) : Int), .int .u64 ((lo % y : Nat) : Int)]) ∧ ∃ n, w' = w.drewN n := by
  have t1 : ((y : Int) == 0) = false := by simp; omega
  have t2 : ¬ ((y : Int) ≤ 0) := by omega
  have t3 : (1 : Int) ≤ (y : Int) := by omega
  have t4 : (0 : Int) ≤ (lo : Int) := by omega
  have e1 : IntKind.u64.wrap ((lo : Int) / (y : Int)) = ((lo / y : Nat) : Int) := by
    have h1 : lo / y ≤ lo := Nat.div_le_self _ _
    rw [← Int.natCast_ediv, IntKind.wrap_u64]; unfold H at h2; generalize lo / y = q at *; omega
  have e2 : (lo : Int) % (y : Int) = ((lo % y : Nat) : Int) := (Int.natCast_emod _ _).symm
  generalize hq : lo / y = q at *
  generalize hr : lo % y = r at *
  clear hq hr
  go_enter Try.func28, Try.ntmps28
  go_wp2
  go_quiet (fail)
  go_wp2
  go_ret2
  refine ⟨?_, _, rfl⟩
  show Ending.returned (.tuple #[.int .u64 (q : Int), .int .u64 ((lo : Int) % (y : Int))]) = _
  rw [e2]
theorem isLen_64 {y L : Nat} (h : H y) (h0 : 0 < y) (hl : IsLen y L) : 1 ≤ L ∧ L ≤ 64 := by
  obtain ⟨h1, h2⟩ := hl
  refine ⟨?_, ?_⟩
  · rcases Nat.eq_zero_or_pos L with e | e
    · subst e; simp at h1; omega
    · exact e
  · rcases Nat.lt_or_ge 64 L with e | e
    · have := h2 (by omega)
      have := Nat.pow_le_pow_right (n := 2) (by omega) (show 64 ≤ L - 1 by omega)
      unfold H at h
      omega
    · exact e
theorem norm {y L s : Nat} (hl : IsLen y L) (hL : 1 ≤ L ∧ L ≤ 64) (hs : s = 64 - L) : 9223372036854775808 ≤ y * 2 ^ s ∧ y * 2 ^ s < 18446744073709551616 := by
  obtain ⟨h1, h2⟩ := hl
  have h3 := h2 (by omega)
  have h4 := Nat.two_pow_pos s
  have e1 : 2 ^ (L - 1) * 2 ^ s = 9223372036854775808 := by rw [← Nat.pow_add, show L - 1 + s = 63 by omega]
  have e2 : 2 ^ L * 2 ^ s = 18446744073709551616 := by rw [← Nat.pow_add, show L + s = 64 by omega]
  refine ⟨?_, ?_⟩
  · rw [← e1]; exact Nat.mul_le_mul_right _ h3
  · rw [← e2]; exact Nat.mul_lt_mul_of_pos_right h1 h4
/-- All that is known before the long division begins. -/
theorem setup {hi lo y s : Nat} (hy : hi < y) (hlo : H lo) (hs : s < 64) (hv : 9223372036854775808 ≤ y * 2 ^ s ∧ y * 2 ^ s < 18446744073709551616) :
    ∃ v v1 v0 a b U l u1 u0 : Nat, IntKind.u64.wrap ((y : Int) * 2 ^ s) = (v : Int) ∧ (v : Int) / 4294967296 = (v1 : Int) ∧ bits .and .u64 (v : Int) 4294967295 = (v0 : Int) ∧
      IntKind.u64.wrap ((hi : Int) * 2 ^ s) = (a : Int) ∧ (lo : Int) / 2 ^ (64 - s) = (b : Int) ∧ bits .or .u64 (a : Int) (b : Int) = (U : Int) ∧ IntKind.u64.wrap ((lo : Int) * 2 ^ s) = (l : Int) ∧
      (l : Int) / 4294967296 = (u1 : Int) ∧ bits .and .u64 (l : Int) 4294967295 = (u0 : Int) ∧ Kp U u1 v1 v0 ∧ u0 < 4294967296 ∧ v = v1 * 4294967296 + v0 ∧ v = y * 2 ^ s ∧ num hi lo * 2 ^ s = (U * 4294967296 + u1) * 4294967296 + u0 := by
  have hpq := halves hs
  have hp := Nat.two_pow_pos s
  have hq := Nat.two_pow_pos (64 - s)
  obtain ⟨c1, c2, c3⟩ := parts hq hpq hlo
  have hhi : hi * 2 ^ s + 2 ^ s ≤ y * 2 ^ s := by rw [← Nat.succ_mul]; exact Nat.mul_le_mul_right _ hy
  have wv := wshl y s
  have wa := wshl hi s
  have wl := wshl lo s
  rw [Nat.mod_eq_of_lt hv.2] at wv
  rw [Nat.mod_eq_of_lt (by omega)] at wa
  have e1 : lo * 2 ^ s % 18446744073709551616 = 2 ^ s * (lo % 2 ^ (64 - s)) := by rw [c1]; omega
  rw [e1] at wl
  have wb := wshr lo (64 - s)
  have hor : hi * 2 ^ s ||| lo / 2 ^ (64 - s) = hi * 2 ^ s + lo / 2 ^ (64 - s) := or_add c3
  have wo := u64_or_nat (hi * 2 ^ s) (lo / 2 ^ (64 - s)) (by omega) (by omega)
  rw [hor] at wo
  have wand : ∀ n : Nat, n < 18446744073709551616 → bits .and .u64 (n : Int) 4294967295 = ((n % 4294967296 : Nat) : Int) := fun n hn => by
    have h := u64_and_nat n 4294967295 hn (by omega)
    have e : n &&& 4294967295 = n % 4294967296 := Nat.and_two_pow_sub_one_eq_mod n 32
    rw [e] at h
    exact h
  have hN : num hi lo * 2 ^ s = (hi * 2 ^ s + lo / 2 ^ (64 - s)) * 18446744073709551616 + 2 ^ s * (lo % 2 ^ (64 - s)) := by
    unfold num
    rw [Nat.add_mul, c1, Nat.mul_right_comm]
    omega
  generalize hgv : y * 2 ^ s = v at *
  generalize hi * 2 ^ s = a at *
  generalize lo / 2 ^ (64 - s) = b at *
  generalize 2 ^ s * (lo % 2 ^ (64 - s)) = l at *
  refine ⟨v, v / 4294967296, v % 4294967296, a, b, a + b, l, l / 4294967296, l % 4294967296, wv, (Int.natCast_ediv v 4294967296).symm, wand v hv.2, wa, wb, wo, wl, (Int.natCast_ediv l 4294967296).symm, wand l (by omega), ⟨by omega, by omega, by omega, by omega, by omega⟩, by omega, by omega, rfl, ?_⟩
  rw [hN]
  omega
/-- What the two digits make. -/
theorem finish {n y s v v1 v0 U u1 u0 Q1 R1 Q0 R0 : Nat} (hv : v = v1 * 4294967296 + v0) (hy : v = y * 2 ^ s) (hn : n * 2 ^ s = (U * 4294967296 + u1) * 4294967296 + u0) (h1 : U * 4294967296 + u1 = Q1 * v + R1) (h0 : R1 * 4294967296 + u0 = Q0 * v + R0) (hr : R0 < v) :
    n / y = Q1 * 4294967296 + Q0 ∧ n % y = R0 / 2 ^ s := by
  have hp := Nat.two_pow_pos s
  have e : n * 2 ^ s = (Q1 * 4294967296 + Q0) * y * 2 ^ s + R0 := by
    rw [hn, h1, Nat.add_mul (Q1 * v), Nat.add_assoc, h0, Nat.mul_assoc _ y, ← hy, Nat.add_mul, Nat.mul_right_comm]
    omega
  obtain ⟨Q, hQ⟩ : ∃ Q, Q = Q1 * 4294967296 + Q0 := ⟨_, rfl⟩
  rw [← hQ] at e ⊢
  have hle : Q * y ≤ n := by
    have : Q * y * 2 ^ s ≤ n * 2 ^ s := by omega
    exact Nat.le_of_mul_le_mul_right this hp
  obtain ⟨d, rfl⟩ : ∃ d, n = Q * y + d := ⟨n - Q * y, by omega⟩
  have hd : d * 2 ^ s = R0 := by rw [Nat.add_mul] at e; omega
  have hdy : d < y := by
    have : d * 2 ^ s < y * 2 ^ s := by rw [hd, ← hy]; exact hr
    exact Nat.lt_of_mul_lt_mul_right this
  rw [← hd, Nat.mul_div_cancel _ hp, Nat.mul_comm Q y, Nat.mul_add_div (by omega), Nat.div_eq_of_lt hdy, Nat.mul_add_mod, Nat.mod_eq_of_lt hdy]
  exact ⟨Nat.add_zero _, rfl⟩
/-- The machine's first guess of a digit. -/
theorem guess {A u v1 v0 : Nat} (h : Kp A u v1 v0) : IntKind.u64.wrap ((A : Int) / (v1 : Int)) = ((A / v1 : Nat) : Int) ∧ IntKind.u64.wrap ((A : Int) - IntKind.u64.wrap (((A / v1 : Nat) : Int) * (v1 : Int))) = ((A % v1 : Nat) : Int) := by
  have h1 := h.b1; have h2 := h.b2; have h3 := h.b3; have h5 := h.b5
  have e := Nat.div_add_mod A v1
  rw [Nat.mul_comm] at e
  have hle := Nat.div_le_self A v1
  refine ⟨?_, ?_⟩
  · rw [← Int.natCast_ediv, IntKind.wrap_u64]; generalize A / v1 = q at *; omega
  · rw [← Int.natCast_mul]
    generalize A / v1 * v1 = m at *
    generalize A % v1 = r at *
    simp only [IntKind.wrap_u64]
    omega
/-- The machine's numbers in a round. -/
theorem numbers {A u v1 v0 q r : Nat} (h : Kp A u v1 v0) (hq : q < 4294967296) (hr : r < 4294967296) : IntKind.u64.wrap ((q : Int) * (v0 : Int)) = ((q * v0 : Nat) : Int) ∧ IntKind.u64.wrap (4294967296 * (r : Int)) = ((4294967296 * r : Nat) : Int) ∧ IntKind.u64.wrap (((4294967296 * r : Nat) : Int) + (u : Int)) = ((4294967296 * r + u : Nat) : Int) := by
  obtain ⟨h1, h2⟩ := k_bounds h hq hr
  refine ⟨?_, ?_, ?_⟩
  · rw [← Int.natCast_mul]; generalize q * v0 = m at *; rw [IntKind.wrap_u64]; omega
  · rw [IntKind.wrap_u64]; omega
  · rw [IntKind.wrap_u64]; omega
theorem less {q r v1 : Nat} (hq : 1 ≤ q) (hq' : q ≤ 4294967297) (hr : r < 4294967296) (hv : v1 < 4294967296) : IntKind.u64.wrap ((q : Int) - 1) = ((q - 1 : Nat) : Int) ∧ IntKind.u64.wrap ((r : Int) + (v1 : Int)) = ((r + v1 : Nat) : Int) := by
  refine ⟨?_, ?_⟩ <;> (rw [IntKind.wrap_u64]; omega)
theorem last_quo {Q1 Q0 : Nat} (h1 : Q1 < 4294967296) (h0 : Q0 < 4294967296) : IntKind.u64.wrap (IntKind.u64.wrap ((Q1 : Int) * 4294967296) + (Q0 : Int)) = ((Q1 * 4294967296 + Q0 : Nat) : Int) := by
  simp only [IntKind.wrap_u64]
  omega
set_option maxHeartbeats 4000000 in
theorem div64_pos (hi lo y : Nat) (w : World) (h0 : 0 < hi) (hy : hi < y) (h1 : H y) (h2 : H lo) :
    Calls Try.prog 28 #[.int .u64 hi, .int .u64 lo, .int .u64 y] w fun e w' => e = .returned (.tuple #[.int .u64 ((num hi lo / y : Nat) : Int), .int .u64 ((num hi lo % y : Nat) : Int)]) ∧ w' = w := by
  have t1 : ((y : Int) == 0) = false := by simp; omega
  have t2 : ¬ ((y : Int) ≤ (hi : Int)) := by omega
  have t3 : ((hi : Int) == 0) = false := by simp; omega
  have c := fun W => Shelf.bits_LeadingZeros64 y W (by omega) (by unfold H at h1; omega)
  rw [Int.toNat_natCast] at c
  have hl := bitLen_isLen h1
  obtain ⟨s, hs⟩ : ∃ s, s = 64 - Lib.bitLen y := ⟨_, rfl⟩
  have hL : 1 ≤ Lib.bitLen y ∧ Lib.bitLen y ≤ 64 := isLen_64 h1 (by omega) hl
  have ec : (64 - (Lib.bitLen y : Int)) = (s : Int) := by omega
  rw [ec] at c
  have ew : IntKind.u64.wrap (s : Int) = (s : Int) := by rw [IntKind.wrap_u64]; omega
  have hs1 : s < 64 := by omega
  have hs2 : (s : Int) < 64 := by omega
  have hn := norm hl hL hs
  clear ec hl hL hs
  obtain ⟨v, v1, v0, a, b, U, l, u1, u0, e1, e2, e3, e4, e5, e6, e7, e8, e9, hkp, hu0, hvv, hvy, hN⟩ := setup hy h2 hs1 hn
  have HK1 := Lib.hid hkp
  have HU0 := Lib.hid hu0
  have HV := Lib.hid hvv
  have HY := Lib.hid hvy
  have HN := Lib.hid hN
  have p1 : (1 : Int) ≤ (v1 : Int) := by have := hkp.b1; omega
  have p2 : (0 : Int) ≤ (U : Int) := by omega
  obtain ⟨g1, g2⟩ := guess hkp
  obtain ⟨n, hn'⟩ : ∃ n, n = num hi lo := ⟨_, rfl⟩
  rw [← hn']
  rw [← hn'] at HN
  clear hn hkp hu0 hvv hvy hN hn' h0 hy h1 h2 hs1
  generalize hq1 : U / v1 = q1 at *
  generalize hr1 : U % v1 = r1 at *
  have HQ1 := Lib.hid hq1
  have HR1 := Lib.hid hr1
  clear hq1 hr1
  go_enter Try.func28, Try.ntmps28
  go_upto_block 0 with (go_at_call 31; ((with_reducible refine (c _).mono ?_); rintro e w' ⟨rfl, hw⟩; rw [hw]))
  go_cut [15, 16] (fun s15 s16 wx => ∃ q r : Nat, s15 = .int .u64 q ∧ s16 = .int .u64 r ∧ q = kq U u1 v1 v0 ∧ w = wx)
  case first =>
    go_wp2
    go_loopg [15, 16] (q1 + 1) (fun g s15 s16 wr => ∃ q r : Nat, g = q + 1 ∧ s15 = .int .u64 q ∧ s16 = .int .u64 r ∧ Kn U u1 v1 v0 q r ∧ r < 4294967296 ∧ w = wr)
    case atStart => exact ⟨q1, r1, rfl, rfl, rfl, by rw [← HQ1.out, ← HR1.out]; exact (k_start HK1.out).1, by rw [← HR1.out]; exact (k_start HK1.out).2, rfl⟩
    case round =>
      obtain ⟨q, r, rfl, rfl, rfl, hk, hr, rfl⟩ := hrel
      have HK := Lib.hid hk
      by_cases hq : q < 4294967296
      · have t1 : decide ((4294967296 : Int) ≤ (q : Int)) = false := by simp; omega
        obtain ⟨m1, m2, m3⟩ := numbers HK1.out hq hr
        by_cases hc : 4294967296 * r + u1 < q * v0
        · obtain ⟨d1, d2, d3⟩ := k_dec HK1.out hk (.inr hc)
          have t2 : decide (((4294967296 * r + u1 : Nat) : Int) < ((q * v0 : Nat) : Int)) = true := decide_eq_true (by omega)
          have t2' : decide (4294967296 * r + u1 < q * v0) = true := decide_eq_true hc
          obtain ⟨l1, l2⟩ := less d1 hk.top hr HK1.out.b2
          have HD := Lib.hid d3
          obtain ⟨q', hq'⟩ : ∃ q', q - 1 = q' := ⟨_, rfl⟩
          obtain ⟨r', hr'⟩ : ∃ r', r + v1 = r' := ⟨_, rfl⟩
          rw [hq'] at l1 HD d2
          rw [hr'] at l2 HD
          have HQ : Hid (q' < q) := Lib.hid (by omega)
          have HD2 := Lib.hid d2
          generalize 4294967296 * r + u1 = Z at *
          generalize 4294967296 * r = Y at *
          generalize q * v0 = X at *
          clear hk hc hq' hr' d1 d2 d3 hq hr
          by_cases hb : 4294967296 ≤ r'
          · have t3 : decide ((4294967296 : Int) ≤ (r' : Int)) = true := decide_eq_true (by omega)
            have HX : Hid (q' = kq U u1 v1 v0) := Lib.hid (k_break HK1.out HD.out HD2.out hb)
            clear hb
            go_wp2
            go_meet
            exact ⟨_, _, rfl, rfl, HX.out, rfl⟩
          · have t3 : decide ((4294967296 : Int) ≤ (r' : Int)) = false := decide_eq_false (by omega)
            have HX : Hid (r' < 4294967296) := Lib.hid (by omega)
            clear hb
            go_wp2
            go_roundg (q' + 1)
            case measure => have := HQ.out; omega
            case rel => exact ⟨_, _, rfl, rfl, rfl, HD.out, HX.out, rfl⟩
        · have t2 : decide (((4294967296 * r + u1 : Nat) : Int) < ((q * v0 : Nat) : Int)) = false := decide_eq_false (by omega)
          have t2' : decide (4294967296 * r + u1 < q * v0) = false := decide_eq_false hc
          have HX : Hid (q = kq U u1 v1 v0) := Lib.hid (k_exit HK1.out hk (by omega))
          generalize 4294967296 * r + u1 = Z at *
          generalize 4294967296 * r = Y at *
          generalize q * v0 = X at *
          clear hk hc hq hr
          go_wp2
          go_meet
          exact ⟨_, _, rfl, rfl, HX.out, rfl⟩
      · have t1 : decide ((4294967296 : Int) ≤ (q : Int)) = true := by simp; omega
        obtain ⟨d1, d2, d3⟩ := k_dec HK1.out hk (.inl (by omega))
        obtain ⟨l1, l2⟩ := less d1 hk.top hr HK1.out.b2
        have HD := Lib.hid d3
        obtain ⟨q', hq'⟩ : ∃ q', q - 1 = q' := ⟨_, rfl⟩
        obtain ⟨r', hr'⟩ : ∃ r', r + v1 = r' := ⟨_, rfl⟩
        rw [hq'] at l1 HD d2
        rw [hr'] at l2 HD
        have HQ : Hid (q' < q) := Lib.hid (by omega)
        have HD2 := Lib.hid d2
        clear hk hq' hr' d1 d2 d3 hq hr
        by_cases hb : 4294967296 ≤ r'
        · have t3 : decide ((4294967296 : Int) ≤ (r' : Int)) = true := decide_eq_true (by omega)
          have HX : Hid (q' = kq U u1 v1 v0) := Lib.hid (k_break HK1.out HD.out HD2.out hb)
          clear hb
          go_wp2
          go_meet
          exact ⟨_, _, rfl, rfl, HX.out, rfl⟩
        · have t3 : decide ((4294967296 : Int) ≤ (r' : Int)) = false := decide_eq_false (by omega)
          have HX : Hid (r' < 4294967296) := Lib.hid (by omega)
          clear hb
          go_wp2
          go_roundg (q' + 1)
          case measure => have := HQ.out; omega
          case rel => exact ⟨_, _, rfl, rfl, rfl, HD.out, HX.out, rfl⟩
  case rest =>
    obtain ⟨Q1, r, rfl, rfl, hQ1, rfl⟩ := hcut
    clear g1 g2
    have k1 := k_rest HK1.out
    have k2 := k_eq U u1 v1 v0
    have k3 := k_left HK1.out
    have k4 := k_lt HK1.out
    rw [← HV.out, ← hQ1] at k1
    rw [← HV.out, ← hQ1] at k2
    rw [← HV.out] at k3
    rw [← hQ1] at k4
    generalize kr U u1 v1 v0 = R1 at *
    have hkp0 : Kp R1 u0 v1 v0 := by
      obtain ⟨b1, b2, b3, b4, b5⟩ := HK1.out
      exact ⟨b1, b2, b3, HU0.out, by rw [← HV.out]; exact k3⟩
    obtain ⟨g1, g2⟩ := guess hkp0
    have HK0 := Lib.hid hkp0
    have K2 := Lib.hid k2
    have K4 := Lib.hid k4
    clear k2 k3 k4 hkp0 hQ1 HQ1 HR1
    have p3 : (0 : Int) ≤ (R1 : Int) := by omega
    generalize hq0 : R1 / v1 = q0 at *
    generalize hr0 : R1 % v1 = r0 at *
    have HQ0 := Lib.hid hq0
    have HR0 := Lib.hid hr0
    clear hq0 hr0
    go_upto_block 2 with (fail)
    go_cut [18, 16] (fun s18 s16 wx => ∃ q r : Nat, s18 = .int .u64 q ∧ s16 = .int .u64 r ∧ q = kq R1 u0 v1 v0 ∧ w = wx)
    case first =>
      go_wp2
      go_loopg [18, 16] (q0 + 1) (fun g s18 s16 wr => ∃ q r : Nat, g = q + 1 ∧ s18 = .int .u64 q ∧ s16 = .int .u64 r ∧ Kn R1 u0 v1 v0 q r ∧ r < 4294967296 ∧ w = wr)
      case atStart => exact ⟨q0, r0, rfl, rfl, rfl, by rw [← HQ0.out, ← HR0.out]; exact (k_start HK0.out).1, by rw [← HR0.out]; exact (k_start HK0.out).2, rfl⟩
      case round =>
        obtain ⟨q, r, rfl, rfl, rfl, hk, hr, rfl⟩ := hrel
        have HK := Lib.hid hk
        by_cases hq : q < 4294967296
        · have t1 : decide ((4294967296 : Int) ≤ (q : Int)) = false := by simp; omega
          obtain ⟨m1, m2, m3⟩ := numbers HK0.out hq hr
          by_cases hc : 4294967296 * r + u0 < q * v0
          · obtain ⟨d1, d2, d3⟩ := k_dec HK0.out hk (.inr hc)
            have t2 : decide (((4294967296 * r + u0 : Nat) : Int) < ((q * v0 : Nat) : Int)) = true := decide_eq_true (by omega)
            have t2' : decide (4294967296 * r + u0 < q * v0) = true := decide_eq_true hc
            obtain ⟨l1, l2⟩ := less d1 hk.top hr HK0.out.b2
            have HD := Lib.hid d3
            obtain ⟨q', hq'⟩ : ∃ q', q - 1 = q' := ⟨_, rfl⟩
            obtain ⟨r', hr'⟩ : ∃ r', r + v1 = r' := ⟨_, rfl⟩
            rw [hq'] at l1 HD d2
            rw [hr'] at l2 HD
            have HQ : Hid (q' < q) := Lib.hid (by omega)
            have HD2 := Lib.hid d2
            generalize 4294967296 * r + u0 = Z at *
            generalize 4294967296 * r = Y at *
            generalize q * v0 = X at *
            clear hk hc hq' hr' d1 d2 d3 hq hr
            by_cases hb : 4294967296 ≤ r'
            · have t3 : decide ((4294967296 : Int) ≤ (r' : Int)) = true := decide_eq_true (by omega)
              have HX : Hid (q' = kq R1 u0 v1 v0) := Lib.hid (k_break HK0.out HD.out HD2.out hb)
              clear hb
              go_wp2
              go_meet
              exact ⟨_, _, rfl, rfl, HX.out, rfl⟩
            · have t3 : decide ((4294967296 : Int) ≤ (r' : Int)) = false := decide_eq_false (by omega)
              have HX : Hid (r' < 4294967296) := Lib.hid (by omega)
              clear hb
              go_wp2
              go_roundg (q' + 1)
              case measure => have := HQ.out; omega
              case rel => exact ⟨_, _, rfl, rfl, rfl, HD.out, HX.out, rfl⟩
          · have t2 : decide (((4294967296 * r + u0 : Nat) : Int) < ((q * v0 : Nat) : Int)) = false := decide_eq_false (by omega)
            have t2' : decide (4294967296 * r + u0 < q * v0) = false := decide_eq_false hc
            have HX : Hid (q = kq R1 u0 v1 v0) := Lib.hid (k_exit HK0.out hk (by omega))
            generalize 4294967296 * r + u0 = Z at *
            generalize 4294967296 * r = Y at *
            generalize q * v0 = X at *
            clear hk hc hq hr
            go_wp2
            go_meet
            exact ⟨_, _, rfl, rfl, HX.out, rfl⟩
        · have t1 : decide ((4294967296 : Int) ≤ (q : Int)) = true := by simp; omega
          obtain ⟨d1, d2, d3⟩ := k_dec HK0.out hk (.inl (by omega))
          obtain ⟨l1, l2⟩ := less d1 hk.top hr HK0.out.b2
          have HD := Lib.hid d3
          obtain ⟨q', hq'⟩ : ∃ q', q - 1 = q' := ⟨_, rfl⟩
          obtain ⟨r', hr'⟩ : ∃ r', r + v1 = r' := ⟨_, rfl⟩
          rw [hq'] at l1 HD d2
          rw [hr'] at l2 HD
          have HQ : Hid (q' < q) := Lib.hid (by omega)
          have HD2 := Lib.hid d2
          clear hk hq' hr' d1 d2 d3 hq hr
          by_cases hb : 4294967296 ≤ r'
          · have t3 : decide ((4294967296 : Int) ≤ (r' : Int)) = true := decide_eq_true (by omega)
            have HX : Hid (q' = kq R1 u0 v1 v0) := Lib.hid (k_break HK0.out HD.out HD2.out hb)
            clear hb
            go_wp2
            go_meet
            exact ⟨_, _, rfl, rfl, HX.out, rfl⟩
          · have t3 : decide ((4294967296 : Int) ≤ (r' : Int)) = false := decide_eq_false (by omega)
            have HX : Hid (r' < 4294967296) := Lib.hid (by omega)
            clear hb
            go_wp2
            go_roundg (q' + 1)
            case measure => have := HQ.out; omega
            case rel => exact ⟨_, _, rfl, rfl, rfl, HD.out, HX.out, rfl⟩
    case rest =>
      obtain ⟨Q0, r, rfl, rfl, hQ0, rfl⟩ := hcut
      clear g1 g2 k1
      have k1 := k_rest HK0.out
      have k2 := k_eq R1 u0 v1 v0
      have k3 := k_left HK0.out
      have k4 := k_lt HK0.out
      rw [← HV.out, ← hQ0] at k1
      rw [← HV.out, ← hQ0] at k2
      rw [← HV.out] at k3
      rw [← hQ0] at k4
      generalize kr R1 u0 v1 v0 = R0 at *
      have F := finish HV.out HY.out HN.out K2.out k2 k3
      have HF := Lib.hid F
      have lq := last_quo K4.out k4
      have lr := wshr R0 s
      obtain ⟨X, hX⟩ : ∃ X, X = Q1 * 4294967296 + Q0 := ⟨_, rfl⟩
      rw [← hX] at lq HF
      obtain ⟨Z, hZ⟩ : ∃ Z, Z = R0 / 2 ^ s := ⟨_, rfl⟩
      rw [← hZ] at lr HF
      clear F k2 k3 k4 hQ0 hX hZ
      go_wp2
      go_ret2
      rw [HF.out.1, HF.out.2]
      exact ⟨rfl, rfl⟩
end Go.Proofs.Ytcelmgkjkdbliaa.Wide
