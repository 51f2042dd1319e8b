/-
  Contracts of package ratio: quotients of products, rounded down or up, and roots of products, told of integers. Condition: arguments of 64 bits.
-/
import Derived.Test.YtcelmgkjkdbliaaNum
import Derived.Test.YtcelmgkjkdbliaaWdiv
namespace Go.Proofs.Ytcelmgkjkdbliaa.Ratio
open Go.ChangeShapes Go.WideShapes Go.ChangeAt Go.RowKit
open Num Bt Wide
set_option linter.unusedVariables false
set_option maxRecDepth 100000

/-- The greatest integer that is at most p / c; with 'up', the least one that is at least p / c. -/
def quo (p c : Int) (up : Bool) : Int := if up then -((-p).fdiv c) else p.fdiv c
def ofSize (neg : Bool) (n : Nat) : Int := if neg then -(n : Int) else n

theorem fdiv_pos_of {p c q : Int} (hc : 0 < c) (h1 : q * c ≤ p) (h2 : p < q * c + c) : p.fdiv c = q := by
  rw [Int.fdiv_eq_ediv_of_nonneg p (by omega)]
  have a1 := Int.le_ediv_of_mul_le hc h1
  have a2 := Int.ediv_lt_of_lt_mul hc (show p < (q + 1) * c by rw [Int.add_mul, Int.one_mul]; exact h2)
  omega
theorem fdiv_neg_of {p c q : Int} (hc : c < 0) (h1 : p ≤ q * c) (h2 : q * c + c < p) : p.fdiv c = q := by
  rw [← Int.neg_fdiv_neg p c]
  refine fdiv_pos_of (by omega) ?_ ?_
  · rw [Int.mul_neg]; omega
  · rw [Int.mul_neg]; omega
/-- Which quotient a product of this size and sign has. -/
theorem quo_size {p c : Int} {n d s l : Nat} {neg up : Bool} (hp : p.natAbs = n) (hc : c.natAbs = d) (h0 : c ≠ 0) (hs : s = n / d) (hl : l = n % d)
    (hn : neg = decide ((p < 0 ∧ 0 < c) ∨ (0 < p ∧ c < 0))) :
    quo p c up = ofSize neg (if l ≠ 0 ∧ up ≠ neg then s + 1 else s) := by
  have hd : 0 < d := by omega
  have e : n = d * s + l := by rw [hs, hl]; exact (Nat.div_add_mod n d).symm
  have hll : l < d := by rw [hl]; exact Nat.mod_lt _ hd
  have e' : (n : Int) = (s : Int) * (d : Int) + l := by rw [e, Nat.mul_comm d s]; simp
  have hll' : (l : Int) < d := by omega
  generalize hS : (s : Int) * (d : Int) = S at *
  unfold quo ofSize
  -- the four signs
  have key : ∀ (P C : Int) (ng : Bool), P.natAbs = n → C.natAbs = d → C ≠ 0 → ng = decide ((P < 0 ∧ 0 < C) ∨ (0 < P ∧ C < 0)) →
      P.fdiv C = if ng then -((if l ≠ 0 then s + 1 else s : Nat) : Int) else (s : Int) := by
    intro P C ng h1 h2 h3 h4
    rcases Int.lt_or_gt_of_ne h3 with hC | hC
    · have eC : C = -(d : Int) := by omega
      by_cases hP : 0 < P
      · have : ng = true := by rw [h4]; exact decide_eq_true (Or.inr ⟨hP, hC⟩)
        rw [if_pos this]
        by_cases hz : l = 0
        · rw [if_neg (by omega)]
          refine fdiv_neg_of hC ?_ ?_ <;> rw [eC, Int.neg_mul_neg, hS] <;> omega
        · rw [if_pos hz]
          have : -((s + 1 : Nat) : Int) * C = S + d := by rw [eC, Int.neg_mul_neg, ← hS]; push_cast; rw [Int.add_mul]; omega
          refine fdiv_neg_of hC ?_ ?_ <;> rw [this] <;> omega
      · have : ng = false := by rw [h4]; exact decide_eq_false (by omega)
        rw [this]
        have : (s : Int) * C = -S := by rw [eC, Int.mul_neg, hS]
        simp only [Bool.false_eq_true, if_false]
        refine fdiv_neg_of hC ?_ ?_ <;> rw [this] <;> omega
    · have eC : C = (d : Int) := by omega
      by_cases hP : P < 0
      · have : ng = true := by rw [h4]; exact decide_eq_true (Or.inl ⟨hP, hC⟩)
        rw [if_pos this]
        by_cases hz : l = 0
        · rw [if_neg (by omega)]
          have : -(s : Int) * C = -S := by rw [eC, Int.neg_mul, hS]
          refine fdiv_pos_of hC ?_ ?_ <;> rw [this] <;> omega
        · rw [if_pos hz]
          have : -((s + 1 : Nat) : Int) * C = -(S + d) := by rw [eC, Int.neg_mul, ← hS]; push_cast; rw [Int.add_mul]; omega
          refine fdiv_pos_of hC ?_ ?_ <;> rw [this] <;> omega
      · have : ng = false := by rw [h4]; exact decide_eq_false (by omega)
        rw [this]
        have : (s : Int) * C = S := by rw [eC, hS]
        simp only [Bool.false_eq_true, if_false]
        refine fdiv_pos_of hC ?_ ?_ <;> rw [this] <;> omega
  cases up
  · have k := key p c neg hp hc h0 hn
    simp only [Bool.false_eq_true, if_false]
    rw [k]
    cases neg <;> simp
  · have k := key (-p) c (decide ((-p < 0 ∧ 0 < c) ∨ (0 < -p ∧ c < 0))) (by omega) hc h0 rfl
    simp only [if_true]
    rw [k]
    by_cases hz : p = 0
    · have hn' : neg = false := by rw [hn]; exact decide_eq_false (by omega)
      have hl0 : l = 0 ∧ S = 0 := by
        have := Int.natCast_nonneg l
        have : 0 ≤ S := by rw [← hS]; exact Int.mul_nonneg (Int.natCast_nonneg _) (Int.natCast_nonneg _)
        omega
      have hs0 : s = 0 := by
        rcases Nat.eq_zero_or_pos s with h | h
        · exact h
        · exfalso
          have := Int.mul_pos (show (0 : Int) < s by omega) (show (0 : Int) < d by omega)
          omega
      subst hn'
      rw [decide_eq_false (by omega)]
      simp [hl0.1, hs0]
    · by_cases hg : (p < 0 ∧ 0 < c) ∨ (0 < p ∧ c < 0)
      · have hn' : neg = true := by rw [hn]; exact decide_eq_true hg
        subst hn'
        rw [decide_eq_false (by omega)]
        simp
      · have hn' : neg = false := by rw [hn]; exact decide_eq_false hg
        subst hn'
        rw [decide_eq_true (by omega)]
        simp

theorem least_size (w : World) :
    Calls Try.prog 21 #[.int .i64 (-9223372036854775808)] w fun e w' => e = .returned (.int .u64 9223372036854775808) ∧ w = w' :=
  size_any (-9223372036854775808) w (by unfold Fits; omega)
theorem cmp_le0 {n m : Nat} (h : n ≤ m) : decide (0 < Ref.cmpN n m) = false := by
  have := (cmp_le (n := m) (m := n)).2 h
  exact decide_eq_false (by omega)
theorem cmp_gt0 {n m : Nat} (h : m < n) : decide (0 < Ref.cmpN n m) = true := by
  rw [Ref.cmp_gt h]; rfl
theorem signed_core (hi lo C V : Int) (neg more : Bool) (m : Int) (w : World)
    (hm : m = if neg then 9223372036854775808 else 9223372036854775807)
    (c : ∀ W, Calls Try.prog 30 #[.agg #[.int .u64 hi, .int .u64 lo], .agg #[.int .u64 0, .int .u64 m]] W fun e w' => e = .returned (.int .i64 C) ∧ Below W.heap.size W w')
    (t1 : decide (0 < C) = more) (ew : IntKind.i64.wrap (if neg then IntKind.u64.wrap (-lo) else lo) = V) :
    Calls Try.prog 25 #[.agg #[.int .u64 hi, .int .u64 lo], .bool neg] w fun e w' =>
      e = .returned (.tuple #[.int .i64 (if more then 0 else V), .int .i64 (if more then 20 else 0)]) ∧ Below w.heap.size w w' := by
  subst hm
  have k := least_size
  cases neg <;> (simp only [Bool.false_eq_true, if_false, if_true] at c ew)
  all_goals
    cases more
    all_goals
      go_enter Try.func25, Try.ntmps25
      go_wp2_with (first
        | (go_at_call 21; ((with_reducible refine (k _).mono ?_); rintro e w' ⟨rfl, rfl⟩))
        | (go_at_call 30; ((with_reducible refine (c _).mono ?_); rintro e w1 ⟨rfl, hb⟩; have hs := hb.size; have hc : ∀ o, w1.cell? ⟨w.heap.size, o, none⟩ = _ := fun o => hb.cell (p := ⟨w.heap.size, o, none⟩) (by simp; omega); simp at hs hc)))
      go_ret2
      refine ⟨?_, ?_⟩
      · rfl
      · repeat (first | (with_reducible exact Below.refl _ _) | (with_reducible refine Below.setCell ?_ (by go_size) _) | (with_reducible refine Below.trans ?_ (hb.mono (by go_size))) | (with_reducible refine Below.alloc ?_ (by go_size) _))
theorem signed_any (hi lo : Nat) (neg : Bool) (w : World) (h1 : H hi) (h2 : H lo) :
    Calls Try.prog 25 #[.agg #[.int .u64 hi, .int .u64 lo], .bool neg] w fun e w' =>
      e = .returned (.tuple #[.int .i64 (if Fits (ofSize neg (num hi lo)) then ofSize neg (num hi lo) else 0), .int .i64 (if Fits (ofSize neg (num hi lo)) then 0 else 20)]) ∧ Below w.heap.size w w' := by
  obtain ⟨m, hm⟩ : ∃ m : Nat, m = if neg then 9223372036854775808 else 9223372036854775807 := ⟨_, rfl⟩
  have hM : H m := by rw [hm]; unfold H; split <;> omega
  have c := fun W => cmp_halves hi lo 0 m W h1 h2 (by unfold H; omega) hM
  have e0 : num 0 m = m := by unfold num; omega
  rw [e0] at c
  have hf : Fits (ofSize neg (num hi lo)) ↔ num hi lo ≤ m := by
    unfold Fits ofSize; rw [hm]; cases neg <;> simp <;> omega
  have c' : ∀ W, Calls Try.prog 30 #[.agg #[.int .u64 (hi : Int), .int .u64 (lo : Int)], .agg #[.int .u64 0, .int .u64 (m : Int)]] W fun e w' => e = .returned (.int .i64 (Ref.cmpN (num hi lo) m)) ∧ Below W.heap.size W w' := c
  have hm' : (m : Int) = if neg then 9223372036854775808 else 9223372036854775807 := by rw [hm]; cases neg <;> rfl
  by_cases hl : num hi lo ≤ m
  · have ht := cmp_le0 hl
    have key := signed_core hi lo _ (ofSize neg (num hi lo)) neg false m w hm' c' ht (by
      unfold ofSize
      unfold num at hl ⊢
      unfold H at h1 h2
      cases neg
      · simp at hm hm' ⊢
        rw [IntKind.wrap_i64]
        omega
      · simp at hm hm' ⊢
        rw [IntKind.wrap_u64, IntKind.wrap_i64]
        omega)
    rw [if_pos (hf.2 hl), if_pos (hf.2 hl)]
    exact key
  · have ht := cmp_gt0 (Nat.lt_of_not_le hl)
    have key := signed_core hi lo _ _ neg true m w hm' c' ht rfl
    rw [if_neg (fun h => hl (hf.1 h)), if_neg (fun h => hl (hf.1 h))]
    exact key
/-- The sign. -/
def sgn (a : Int) : Int := if a < 0 then -1 else if 0 < a then 1 else 0
theorem rounded_zero (a b : Int) (up : Bool) (w : World) (ha : Fits a) (hb : Fits b) :
    Calls Try.prog 18 #[.int .i64 a, .int .i64 b, .int .i64 0, .bool up] w fun e w' =>
      e = .returned (.tuple #[.int .i64 0, .int .i64 21]) ∧ Below w.heap.size w w' := by
  have ca := fun W => size_any a W ha
  have cb := fun W => size_any b W hb
  have cc : ∀ W, Calls Try.prog 21 #[.int .i64 0] W fun e w' => e = .returned (.int .u64 0) ∧ W = w' := fun W => size_any 0 W (by unfold Fits; omega)
  obtain ⟨A, hA⟩ : ∃ A : Nat, abs a = A := ⟨(abs a).toNat, by unfold abs; split <;> omega⟩
  obtain ⟨B, hB⟩ : ∃ B : Nat, abs b = B := ⟨(abs b).toNat, by unfold abs; split <;> omega⟩
  have cm := fun W => mul_any A B W (by unfold Fits at ha; unfold abs at hA; unfold H; split at hA <;> omega) (by unfold Fits at hb; unfold abs at hB; unfold H; split at hB <;> omega)
  unfold UV at cm
  have cd := fun W => div_none (A * B / 18446744073709551616) (A * B % 18446744073709551616) W
  rw [hA] at ca
  rw [hB] at cb
  generalize A * B / 18446744073709551616 = mh at *
  generalize A * B % 18446744073709551616 = ml at *
  clear ha hb hA hB
  go_enter Try.func18, Try.ntmps18
  go_wp2_with (first
    | (go_at_call 21; ((with_reducible refine (ca _).mono ?_); rintro e w' ⟨rfl, rfl⟩))
    | (go_at_call 21; ((with_reducible refine (cb _).mono ?_); rintro e w' ⟨rfl, rfl⟩))
    | (go_at_call 21; ((with_reducible refine (cc _).mono ?_); rintro e w' ⟨rfl, rfl⟩))
    | (go_at_call 20; ((with_reducible refine (cm _).mono ?_); rintro e w1 ⟨rfl, hb1⟩))
    | (go_at_call 22; ((with_reducible refine (cd _).mono ?_); rintro e w2 ⟨rfl, hb2⟩)))
  go_ret2
  refine ⟨?_, ?_⟩
  · rfl
  · have q1 := hb1.size
    have q2 := hb2.size
    repeat (first | (with_reducible exact Below.refl _ _) | (with_reducible exact hb1) | (with_reducible refine Below.setCell ?_ (by go_size) _) | (with_reducible refine Below.trans ?_ (hb2.mono (by go_size))) | (with_reducible refine Below.alloc ?_ (by go_size) _))
theorem rounded_core (a b c : Int) (A B D mh ml sh sl l th tl : Nat) (x y z V E : Int) (neg up t o : Bool) (w : World)
    (ca : ∀ W, Calls Try.prog 21 #[.int .i64 a] W fun e w' => e = .returned (.int .u64 A) ∧ W = w')
    (cb : ∀ W, Calls Try.prog 21 #[.int .i64 b] W fun e w' => e = .returned (.int .u64 B) ∧ W = w')
    (cc : ∀ W, Calls Try.prog 21 #[.int .i64 c] W fun e w' => e = .returned (.int .u64 D) ∧ W = w')
    (cm : ∀ W, Calls Try.prog 20 #[.int .u64 A, .int .u64 B] W fun e w' => e = .returned (.agg #[.int .u64 mh, .int .u64 ml]) ∧ Below W.heap.size W w')
    (cd : ∀ W, Calls Try.prog 22 #[.agg #[.int .u64 mh, .int .u64 ml], .int .u64 D] W fun e w' => e = .returned (.tuple #[.agg #[.int .u64 sh, .int .u64 sl], .int .u64 l, .int .i64 0]) ∧ Below W.heap.size W w')
    (cx : ∀ W, Calls Try.prog 23 #[.int .i64 a] W fun e w' => e = .returned (.int .i64 x) ∧ W = w')
    (cy : ∀ W, Calls Try.prog 23 #[.int .i64 b] W fun e w' => e = .returned (.int .i64 y) ∧ W = w')
    (cz : ∀ W, Calls Try.prog 23 #[.int .i64 c] W fun e w' => e = .returned (.int .i64 z) ∧ W = w')
    (x1 : -1 ≤ x * y) (x2 : x * y ≤ 1) (y1 : -1 ≤ x * y * z) (y2 : x * y * z ≤ 1) (tn : decide (x * y * z < 0) = neg)
    (tl0 : ((l : Int) != 0) = t)
    (cA : ∀ W, Calls Try.prog 24 #[.agg #[.int .u64 sh, .int .u64 sl], .agg #[.int .u64 0, .int .u64 1]] W fun e w' => e = .returned (.tuple #[.agg #[.int .u64 th, .int .u64 tl], .bool o]) ∧ Below W.heap.size W w')
    (cs : ∀ W, Calls Try.prog 25 #[if (t && (up != neg)) then .agg #[.int .u64 th, .int .u64 tl] else .agg #[.int .u64 sh, .int .u64 sl], .bool neg] W fun e w' => e = .returned (.tuple #[.int .i64 V, .int .i64 E]) ∧ Below W.heap.size W w') :
    Calls Try.prog 18 #[.int .i64 a, .int .i64 b, .int .i64 c, .bool up] w fun e w' =>
      e = .returned (.tuple #[.int .i64 V, .int .i64 E]) ∧ Below w.heap.size w w' := by
  cases t <;> cases up <;> cases neg
  all_goals
    simp only [Bool.true_and, Bool.false_and, bne_self_eq_false, Bool.false_eq_true, if_false, if_true, show (true != false) = true from rfl, show (false != true) = true from rfl] at cs
    go_enter Try.func18, Try.ntmps18
    go_wp2_with (first
      | (go_at_call 21; ((with_reducible refine (ca _).mono ?_); rintro e w' ⟨rfl, rfl⟩))
      | (go_at_call 21; ((with_reducible refine (cb _).mono ?_); rintro e w' ⟨rfl, rfl⟩))
      | (go_at_call 21; ((with_reducible refine (cc _).mono ?_); rintro e w' ⟨rfl, rfl⟩))
      | (go_at_call 23; ((with_reducible refine (cx _).mono ?_); rintro e w' ⟨rfl, rfl⟩))
      | (go_at_call 23; ((with_reducible refine (cy _).mono ?_); rintro e w' ⟨rfl, rfl⟩))
      | (go_at_call 23; ((with_reducible refine (cz _).mono ?_); rintro e w' ⟨rfl, rfl⟩))
      | (go_at_call 20; ((with_reducible refine (cm _).mono ?_); rintro e w1 ⟨rfl, hb1⟩; have q1 := hb1.size))
      | (go_at_call 22; ((with_reducible refine (cd _).mono ?_); rintro e w2 ⟨rfl, hb2⟩; have q2 := hb2.size))
      | (go_at_call 24; ((with_reducible refine (cA _).mono ?_); rintro e w3 ⟨rfl, hb3⟩; have q3 := hb3.size; simp at q3; have hc3 : ∀ o, w3.cell? ⟨w2.heap.size, o, none⟩ = _ := fun o => hb3.cell (p := ⟨w2.heap.size, o, none⟩) (by simp); have hf3 : ∀ o, w3.frozen? ⟨w2.heap.size, o, none⟩ = _ := fun o => hb3.frozen (p := ⟨w2.heap.size, o, none⟩) (by simp)))
      | (go_at_call 25; ((with_reducible refine (cs _).mono ?_); rintro e w4 ⟨rfl, hb4⟩; have q4 := hb4.size)))
    go_ret2
    refine ⟨?_, ?_⟩
    · rfl
    · repeat (first | (with_reducible exact Below.refl _ _) | (with_reducible exact hb1) | (with_reducible refine Below.setCell ?_ (by go_size) _) | (with_reducible refine Below.trans ?_ (hb4.mono (by go_size))) | (with_reducible refine Below.trans ?_ (hb3.mono (by go_size))) | (with_reducible refine Below.trans ?_ (hb2.mono (by go_size))) | (with_reducible refine Below.alloc ?_ (by go_size) _))
theorem sgn_bounds (a : Int) : -1 ≤ sgn a ∧ sgn a ≤ 1 := by unfold sgn; split <;> (try split) <;> omega
theorem sgn_mul (a b : Int) : sgn a * sgn b = sgn (a * b) := by
  unfold sgn
  rcases Int.lt_trichotomy a 0 with h | h | h <;> rcases Int.lt_trichotomy b 0 with k | k | k
  · have := Int.mul_pos_of_neg_of_neg h k
    simp [h, k, this, show ¬ (a * b < 0) by omega]
  · subst k; simp
  · have := Int.mul_neg_of_neg_of_pos h k
    simp [h, k, this, show ¬ (b < 0) by omega]
  · subst h; simp
  · subst h; simp
  · subst h; simp
  · have := Int.mul_neg_of_pos_of_neg h k
    simp [h, k, this, show ¬ (a < 0) by omega]
  · subst k; simp
  · have := Int.mul_pos h k
    simp [h, k, this, show ¬ (a < 0) by omega, show ¬ (b < 0) by omega, show ¬ (a * b < 0) by omega]
theorem sgn_neg_iff (p c : Int) : decide (sgn p * sgn c < 0) = decide ((p < 0 ∧ 0 < c) ∨ (0 < p ∧ c < 0)) := by
  rw [decide_eq_decide]
  unfold sgn
  rcases Int.lt_trichotomy p 0 with h | h | h <;> rcases Int.lt_trichotomy c 0 with k | k | k
  · rw [if_pos h, if_pos k]; omega
  · subst k; simp
  · rw [if_pos h, if_neg (by omega), if_pos k]; omega
  · subst h; simp
  · subst h; simp
  · subst h; simp
  · rw [if_neg (by omega), if_pos h, if_pos k]; omega
  · subst k; simp
  · rw [if_neg (by omega), if_pos h, if_neg (by omega), if_pos k]; omega
/-- What is told of a quotient: it, if it fits; and the error. -/
def quoV (p c : Int) (up : Bool) : Int := if c = 0 then 0 else if Fits (quo p c up) then quo p c up else 0
def quoE (p c : Int) (up : Bool) : Int := if c = 0 then 21 else if Fits (quo p c up) then 0 else 20
theorem fits_abs {a : Int} (h : Fits a) : ∃ A : Nat, abs a = A ∧ a.natAbs = A ∧ A ≤ 9223372036854775808 ∧ H A := by
  unfold Fits at h
  refine ⟨a.natAbs, ?_, rfl, by omega, by unfold H; omega⟩
  unfold abs; split <;> omega
theorem rounded_any (a b c : Int) (up : Bool) (w : World) (ha : Fits a) (hb : Fits b) (hc : Fits c) :
    Calls Try.prog 18 #[.int .i64 a, .int .i64 b, .int .i64 c, .bool up] w fun e w' =>
      e = .returned (.tuple #[.int .i64 (quoV (a * b) c up), .int .i64 (quoE (a * b) c up)]) ∧ Below w.heap.size w w' := by
  unfold quoV quoE
  by_cases h0 : c = 0
  · subst h0
    rw [if_pos rfl, if_pos rfl]
    exact rounded_zero a b up w ha hb
  · rw [if_neg h0, if_neg h0]
    have ca := fun W => size_any a W ha
    have cb := fun W => size_any b W hb
    have cc := fun W => size_any c W hc
    obtain ⟨A, eA, nA, lA, hA⟩ := fits_abs ha
    obtain ⟨B, eB, nB, lB, hB⟩ := fits_abs hb
    obtain ⟨D, eD, nD, lD, hD⟩ := fits_abs hc
    rw [eA] at ca
    rw [eB] at cb
    rw [eD] at cc
    have hD0 : 0 < D := by omega
    have hAB : A * B ≤ 85070591730234615865843651857942052864 := Nat.le_trans (Nat.mul_le_mul lA lB) (by decide)
    have cm := fun W => mul_any A B W hA hB
    have hq := quo_size (p := a * b) (c := c) (n := A * B) (d := D) (s := A * B / D) (l := A * B % D) (neg := decide (sgn (a * b) * sgn c < 0)) (up := up)
      (by rw [Int.natAbs_mul, nA, nB]) nD h0 rfl rfl (sgn_neg_iff _ _)
    have hw : W128 (A * B) := by unfold W128; omega
    have cd := fun W => div_halves (A * B / 18446744073709551616) (A * B % 18446744073709551616) D W (hi_H hw) (lo_H _) hD hD0
    rw [num_of] at cd
    obtain ⟨s, hs⟩ : ∃ s, s = A * B / D := ⟨_, rfl⟩
    obtain ⟨l, hl⟩ : ∃ l, l = A * B % D := ⟨_, rfl⟩
    rw [← hs, ← hl] at cd hq
    have hsl : s ≤ 85070591730234615865843651857942052864 := by rw [hs]; exact Nat.le_trans (Nat.div_le_self _ _) hAB
    have hsw : W128 s := by unfold W128; omega
    have hsw1 : W128 (s + 1) := by unfold W128; omega
    have cA := fun W => add_halves (s / 18446744073709551616) (s % 18446744073709551616) 0 1 W (hi_H hsw) (lo_H _) (by unfold H; omega) (by unfold H; omega)
    have e1 : num 0 1 = 1 := by unfold num; omega
    rw [num_of, e1, Nat.mod_eq_of_lt (show s + 1 < 340282366920938463463374607431768211456 by omega)] at cA
    obtain ⟨o, ho⟩ : ∃ o, o = decide (340282366920938463463374607431768211456 ≤ s + 1) := ⟨_, rfl⟩
    rw [← ho] at cA
    obtain ⟨ng, hn⟩ : ∃ ng, ng = decide (sgn (a * b) * sgn c < 0) := ⟨_, rfl⟩
    rw [← hn] at hq
    obtain ⟨b1, b2⟩ := sgn_bounds (a * b)
    obtain ⟨b3, b4⟩ := sgn_bounds (a * b * c)
    have cs := fun W => signed_any ((if l ≠ 0 ∧ up ≠ ng then s + 1 else s) / 18446744073709551616) ((if l ≠ 0 ∧ up ≠ ng then s + 1 else s) % 18446744073709551616) ng W
      (hi_H (by split <;> assumption)) (lo_H _)
    rw [num_of, ← hq] at cs
    refine rounded_core a b c A B D _ _ _ _ l ((s + 1) / 18446744073709551616) ((s + 1) % 18446744073709551616) (sgn a) (sgn b) (sgn c) _ _ ng up (((l : Int) != 0)) o w ca cb cc cm cd
      (fun W => sign_any a W) (fun W => sign_any b W) (fun W => sign_any c W) (by rw [sgn_mul]; exact b1) (by rw [sgn_mul]; exact b2) (by rw [sgn_mul, sgn_mul]; exact b3) (by rw [sgn_mul, sgn_mul]; exact b4) (by rw [sgn_mul]; exact hn.symm) rfl cA ?_
    have ht : ((((l : Int) != 0) && (up != ng)) = true) ↔ (l ≠ 0 ∧ up ≠ ng) := by simp
    by_cases hz : l ≠ 0 ∧ up ≠ ng
    · rw [if_pos hz] at cs
      rw [if_pos (ht.2 hz)]
      exact cs
    · rw [if_neg hz] at cs
      rw [if_neg (fun h => hz (ht.1 h))]
      exact cs
theorem floor_any (a b c : Int) (w : World) (ha : Fits a) (hb : Fits b) (hc : Fits c) :
    Calls Try.prog 15 #[.int .i64 a, .int .i64 b, .int .i64 c] w fun e w' =>
      e = .returned (.tuple #[.int .i64 (quoV (a * b) c false), .int .i64 (quoE (a * b) c false)]) ∧ Below w.heap.size w w' := by
  have k := fun W => rounded_any a b c false W ha hb hc
  generalize quoV (a * b) c false = V at *
  generalize quoE (a * b) c false = E at *
  clear ha hb hc
  go_enter Try.func15, Try.ntmps15
  go_wp2_with (go_at_call 18; ((with_reducible refine (k _).mono ?_); rintro e w1 ⟨rfl, hb1⟩))
  go_ret2
  exact ⟨rfl, hb1⟩
theorem ceil_any (a b c : Int) (w : World) (ha : Fits a) (hb : Fits b) (hc : Fits c) :
    Calls Try.prog 16 #[.int .i64 a, .int .i64 b, .int .i64 c] w fun e w' =>
      e = .returned (.tuple #[.int .i64 (quoV (a * b) c true), .int .i64 (quoE (a * b) c true)]) ∧ Below w.heap.size w w' := by
  have k := fun W => rounded_any a b c true W ha hb hc
  generalize quoV (a * b) c true = V at *
  generalize quoE (a * b) c true = E at *
  clear ha hb hc
  go_enter Try.func16, Try.ntmps16
  go_wp2_with (go_at_call 18; ((with_reducible refine (k _).mono ?_); rintro e w1 ⟨rfl, hb1⟩))
  go_ret2
  exact ⟨rfl, hb1⟩
end Go.Proofs.Ytcelmgkjkdbliaa.Ratio
