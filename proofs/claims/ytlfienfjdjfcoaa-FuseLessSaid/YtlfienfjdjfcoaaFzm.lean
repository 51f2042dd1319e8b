/-
  What all sensors together say, without a program. No condition.
-/
import Derived.Test.YtlfienfjdjfcoaaVs2
namespace Go.Proofs.Ytlfienfjdjfcoaa.Fzm
open Go.ChangeShapes Go.WideShapes Go.ChangeAt Go.RowKit
open Arr Steady Sx Sw Sl Vs
set_option linter.unusedVariables false
set_option linter.unusedSimpArgs false

/-- A sensor: whether it is fit, and what it says. -/
structure Sr where
  f : Bool
  lo : Int
  hi : Int
def bI (b : Bool) : Int := match b with | true => 1 | false => 0
theorem bI_is (b : Bool) : decide (bI b = 1) = b := by cases b <;> rfl
theorem bI_eq (b : Bool) : (bI b == 1) = b := by cases b <;> rfl
/-- What one says, if it is fit. -/
def one1 (x : Sr) : Spans := match x.f with | true => [(x.lo, x.hi)] | false => []
def fitL (x y z : Sr) : Spans := one1 x ++ (one1 y ++ one1 z)
def nF (x y z : Sr) : Nat := (fitL x y z).length
theorem nF_is (x y z : Sr) : (nF x y z : Int) = bI x.f + bI y.f + bI z.f := by
  unfold nF fitL one1
  cases x.f <;> cases y.f <;> cases z.f <;> rfl
/-- What all have in common; what two of three have. -/
def agr (x y z : Sr) : Int × Int × Bool := byZ (fitL x y z) (max (nF x y z : Int) 1)
def say (x y z : Sr) : Int × Int × Bool := if (agr x y z).2.2 = true then agr x y z else if (nF x y z : Int) = 3 then byZ (fitL x y z) 2 else (0, 0, false)
theorem say_agr {x y z : Sr} (h : (agr x y z).2.2 = true) : say x y z = agr x y z := if_pos h
theorem say_two {x y z : Sr} (h : (agr x y z).2.2 = false) (h3 : (nF x y z : Int) = 3) : say x y z = byZ (fitL x y z) 2 := by unfold say; rw [if_neg (by rw [h]; decide), if_pos h3]
theorem say_none {x y z : Sr} (h : (agr x y z).2.2 = false) (h3 : ¬ (nF x y z : Int) = 3) : say x y z = (0, 0, false) := by unfold say; rw [if_neg (by rw [h]; decide), if_neg h3]
/-- A speed and a conflict, narrowed. -/
def nar (s : Int × Int × Bool) (a b : Int) : Int × Int × Bool := if max s.1 a ≤ min s.2.1 b then (max s.1 a, min s.2.1 b, s.2.2) else (s.1, s.2.1, true)
theorem nar_yes {s : Int × Int × Bool} {a b : Int} (h : max s.1 a ≤ min s.2.1 b) : nar s a b = (max s.1 a, min s.2.1 b, s.2.2) := if_pos h
theorem nar_no {s : Int × Int × Bool} {a b : Int} (h : ¬ max s.1 a ≤ min s.2.1 b) : nar s a b = (s.1, s.2.1, true) := if_neg h
def first (p q : Int) (x y z : Sr) : Int × Int × Bool := if (say x y z).2.2 = true then nar (p, q, false) (say x y z).1 (say x y z).2.1 else (p, q, decide (0 < (nF x y z : Int)))
def spd (p q : Int) (x y z a : Sr) : Int × Int × Bool := match a.f with | true => nar (first p q x y z) a.lo a.hi | false => first p q x y z
/-- Which way a tachometer slips, where all say s. -/
def slip (x : Sr) (s : Int × Int × Bool) : Int := if max x.lo s.1 ≤ min x.hi s.2.1 then 0 else if (0 ≤ (s.1 + s.2.1) / 2 ∧ s.2.1 < x.lo) ∨ ((s.1 + s.2.1) / 2 < 0 ∧ x.hi < s.1) then 1 else -1
def slips (x y z u : Sr) : Int := if (say x y z).2.2 = true ∧ (agr x y z).2.2 = false then slip u (say x y z) else 0
structure Fz where
  lo : Int
  hi : Int
  n : Int
  cl : Bool
  cf : Bool
  s0 : Int
  s1 : Int
def clean (x y z : Sr) : Bool := decide ((nF x y z : Int) = 3) && (agr x y z).2.2
def fz (p q : Int) (x y z a : Sr) : Fz := ⟨(spd p q x y z a).1, (spd p q x y z a).2.1, (nF x y z : Int), clean x y z, (spd p q x y z a).2.2, slips x y z x, slips x y z y⟩
/-- A span that is right, and not too far out. -/
def mayF (a b : Int) : Bool := decide (a ≤ b ∧ -1152921504606846976 ≤ a ∧ b ≤ 1152921504606846976)
theorem may_yes {a b : Int} (h : a ≤ b ∧ -1152921504606846976 ≤ a ∧ b ≤ 1152921504606846976) : mayF a b = true := decide_eq_true h
theorem may_no {a b : Int} (h : ¬ (a ≤ b ∧ -1152921504606846976 ≤ a ∧ b ≤ 1152921504606846976)) : mayF a b = false := decide_eq_false h
theorem may_of {a b : Int} (h : mayF a b = true) : a ≤ b ∧ -1152921504606846976 ≤ a ∧ b ≤ 1152921504606846976 := of_decide_eq_true h
/-- One that is fit says a span that may be. -/
def GoodS (x : Sr) : Prop := x.f = true → x.lo ≤ x.hi ∧ -1152921504606846976 ≤ x.lo ∧ x.hi ≤ 1152921504606846976

/-- One that is fit, and says what may not be. -/
def badB (x : Sr) : Bool := x.f && !mayF x.lo x.hi
theorem good_of {x : Sr} (h : badB x = false) : GoodS x := fun hf => by
  unfold badB at h
  rw [hf, Bool.true_and] at h
  exact may_of (by simpa using h)
theorem sr_is (x : Sr) : x = ⟨decide (bI x.f = 1), x.lo, x.hi⟩ := by rw [bI_is]
/-- What is given to the reference. -/
def givV (x y z t : Sr) : Value :=
  if badB x = true then .tuple #[.agg #[.int .i64 x.lo, .int .i64 x.hi, .int .i64 0, .int .i64 0, .int .i64 0, .int .i64 0, .int .i64 0, .int .i64 0], .agg #[.int .i64 (bI x.f), .int .i64 0, .int .i64 0, .int .i64 0], .bool false]
  else if badB y = true then .tuple #[.agg #[.int .i64 x.lo, .int .i64 x.hi, .int .i64 y.lo, .int .i64 y.hi, .int .i64 0, .int .i64 0, .int .i64 0, .int .i64 0], .agg #[.int .i64 (bI x.f), .int .i64 (bI y.f), .int .i64 0, .int .i64 0], .bool false]
  else if badB z = true then .tuple #[.agg #[.int .i64 x.lo, .int .i64 x.hi, .int .i64 y.lo, .int .i64 y.hi, .int .i64 z.lo, .int .i64 z.hi, .int .i64 0, .int .i64 0], .agg #[.int .i64 (bI x.f), .int .i64 (bI y.f), .int .i64 (bI z.f), .int .i64 0], .bool false]
  else if badB t = true then .tuple #[.agg #[.int .i64 x.lo, .int .i64 x.hi, .int .i64 y.lo, .int .i64 y.hi, .int .i64 z.lo, .int .i64 z.hi, .int .i64 t.lo, .int .i64 t.hi], .agg #[.int .i64 (bI x.f), .int .i64 (bI y.f), .int .i64 (bI z.f), .int .i64 (bI t.f)], .bool false]
  else .tuple #[.agg #[.int .i64 x.lo, .int .i64 x.hi, .int .i64 y.lo, .int .i64 y.hi, .int .i64 z.lo, .int .i64 z.hi, .int .i64 t.lo, .int .i64 t.hi], .agg #[.int .i64 (bI x.f), .int .i64 (bI y.f), .int .i64 (bI z.f), .int .i64 (bI t.f)], .bool true]
/-! ### Who has a number -/
def has1 (x : Sr) (v : Int) : Int := if x.f = true ∧ x.lo ≤ v ∧ v ≤ x.hi then 1 else 0
theorem cnt_one (x : Sr) (v : Int) : (cnt (one1 x) v : Int) = has1 x v := by
  obtain ⟨f, a, b⟩ := x
  unfold one1 has1 cnt
  cases f
  · simp
  · by_cases h : a ≤ v ∧ v ≤ b
    · rw [if_pos ⟨rfl, h⟩]
      have : hasB (a, b) v = true := by unfold hasB; rw [decide_eq_true h.1, decide_eq_true h.2]; rfl
      simp [this]
    · rw [if_neg (fun e => h e.2)]
      have : hasB (a, b) v = false := by
        unfold hasB
        by_cases h1 : a ≤ v
        · rw [decide_eq_true h1, decide_eq_false (fun e => h ⟨h1, e⟩)]; rfl
        · rw [decide_eq_false h1]; rfl
      simp [this]
theorem cnt_fit (x y z : Sr) (v : Int) : (cnt (fitL x y z) v : Int) = has1 x v + has1 y v + has1 z v := by
  unfold fitL
  rw [cnt_append, cnt_append]
  have h1 := cnt_one x v
  have h2 := cnt_one y v
  have h3 := cnt_one z v
  omega
theorem has1_in {x : Sr} {v : Int} : (has1 x v = 1 ∧ x.f = true ∧ x.lo ≤ v ∧ v ≤ x.hi) ∨ (has1 x v = 0 ∧ ¬ (x.f = true ∧ x.lo ≤ v ∧ v ≤ x.hi)) := by
  unfold has1
  by_cases h : x.f = true ∧ x.lo ≤ v ∧ v ≤ x.hi
  · exact .inl ⟨if_pos h, h⟩
  · exact .inr ⟨if_neg h, h⟩
theorem byZ_is (L : Spans) {k : Int} (hk : 1 ≤ k) : IsBy L k (byZ L k) := by
  unfold byZ
  by_cases h : (byF L k).2.2 = true
  · rw [if_pos h]; exact by_is L k hk
  · rw [if_neg h]
    have h' : (byF L k).2.2 = false := by simpa using h
    exact ⟨fun e => (by cases e), fun _ => (by_is L k hk).no h'⟩
theorem byF_Z {L : Spans} {k : Int} (h : (byF L k).2.2 = true) : byF L k = byZ L k := by unfold byZ; rw [if_pos h]
theorem byF_no {L : Spans} {k : Int} (h : (byF L k).2.2 = false) : (byZ L k).2.2 = false := by unfold byZ; rw [if_neg (by rw [h]; decide)]
/-- What all agree on: all that are fit have its ends, and whatever all have is within. -/
theorem agr_yes {x y z : Sr} (h : (agr x y z).2.2 = true) : 1 ≤ (nF x y z : Int) ∧ (nF x y z : Int) ≤ has1 x (agr x y z).1 + has1 y (agr x y z).1 + has1 z (agr x y z).1 ∧ (nF x y z : Int) ≤ has1 x (agr x y z).2.1 + has1 y (agr x y z).2.1 + has1 z (agr x y z).2.1 ∧
    ∀ v, (nF x y z : Int) ≤ has1 x v + has1 y v + has1 z v → (agr x y z).1 ≤ v ∧ v ≤ (agr x y z).2.1 := by
  have hi := byZ_is (fitL x y z) (k := max (nF x y z : Int) 1) (by omega)
  obtain ⟨h1, h2, h3⟩ := hi.yes h
  have e1 := cnt_fit x y z (agr x y z).1
  have e2 := cnt_fit x y z (agr x y z).2.1
  have hl : cnt (fitL x y z) (agr x y z).1 ≤ nF x y z := cnt_le _ _
  have k1 : max (nF x y z : Int) 1 ≤ (cnt (fitL x y z) (agr x y z).1 : Int) := h1
  have k2 : max (nF x y z : Int) 1 ≤ (cnt (fitL x y z) (agr x y z).2.1 : Int) := h2
  refine ⟨by omega, by omega, by omega, fun v hv => ?_⟩
  have e3 := cnt_fit x y z v
  exact h3 v (by omega)
theorem agr_of {x y z : Sr} {v : Int} (h1 : 1 ≤ (nF x y z : Int)) (h : (nF x y z : Int) ≤ has1 x v + has1 y v + has1 z v) : (agr x y z).2.2 = true := by
  cases hq : (agr x y z).2.2 with
  | true => rfl
  | false =>
    have e3 := cnt_fit x y z v
    exact absurd (show max (nF x y z : Int) 1 ≤ (cnt (fitL x y z) v : Int) by omega) ((byZ_is (fitL x y z) (k := max (nF x y z : Int) 1) (by omega)).no hq v)
theorem two_yes {x y z : Sr} (h : (byZ (fitL x y z) 2).2.2 = true) : 2 ≤ has1 x (byZ (fitL x y z) 2).1 + has1 y (byZ (fitL x y z) 2).1 + has1 z (byZ (fitL x y z) 2).1 ∧ 2 ≤ has1 x (byZ (fitL x y z) 2).2.1 + has1 y (byZ (fitL x y z) 2).2.1 + has1 z (byZ (fitL x y z) 2).2.1 ∧
    ∀ v, 2 ≤ has1 x v + has1 y v + has1 z v → (byZ (fitL x y z) 2).1 ≤ v ∧ v ≤ (byZ (fitL x y z) 2).2.1 := by
  obtain ⟨h1, h2, h3⟩ := (byZ_is (fitL x y z) (k := 2) (by omega)).yes h
  have e1 := cnt_fit x y z (byZ (fitL x y z) 2).1
  have e2 := cnt_fit x y z (byZ (fitL x y z) 2).2.1
  refine ⟨by omega, by omega, fun v hv => ?_⟩
  have e3 := cnt_fit x y z v
  exact h3 v (by omega)
theorem two_of {x y z : Sr} {v : Int} (h : 2 ≤ has1 x v + has1 y v + has1 z v) : (byZ (fitL x y z) 2).2.2 = true := by
  cases hq : (byZ (fitL x y z) 2).2.2 with
  | true => rfl
  | false =>
    have e3 := cnt_fit x y z v
    exact absurd (show (2 : Int) ≤ (cnt (fitL x y z) v : Int) by omega) ((byZ_is (fitL x y z) (k := 2) (by omega)).no hq v)

/-! ### What is said stays within the prior -/
theorem nar_in {s : Int × Int × Bool} {a b p q : Int} (h : p ≤ s.1 ∧ s.1 ≤ s.2.1 ∧ s.2.1 ≤ q) : p ≤ (nar s a b).1 ∧ (nar s a b).1 ≤ (nar s a b).2.1 ∧ (nar s a b).2.1 ≤ q := by
  by_cases hk : max s.1 a ≤ min s.2.1 b
  · rw [nar_yes hk]; dsimp only; omega
  · rw [nar_no hk]; exact h
theorem first_in {p q : Int} (h : p ≤ q) (x y z : Sr) : p ≤ (first p q x y z).1 ∧ (first p q x y z).1 ≤ (first p q x y z).2.1 ∧ (first p q x y z).2.1 ≤ q := by
  unfold first
  by_cases hs : (say x y z).2.2 = true
  · rw [if_pos hs]; exact nar_in (by dsimp only; omega)
  · rw [if_neg hs]; dsimp only; omega
theorem spd_in {p q : Int} (h : p ≤ q) (x y z a : Sr) : p ≤ (spd p q x y z a).1 ∧ (spd p q x y z a).1 ≤ (spd p q x y z a).2.1 ∧ (spd p q x y z a).2.1 ≤ q := by
  unfold spd
  cases a.f
  · exact first_in h x y z
  · exact nar_in (first_in h x y z)
theorem slips_when {x y z u : Sr} : slips x y z u = 0 ∨ ((nF x y z : Int) = 3 ∧ clean x y z = false) := by
  unfold slips clean
  by_cases h : (say x y z).2.2 = true ∧ (agr x y z).2.2 = false
  · right
    by_cases h3 : (nF x y z : Int) = 3
    · exact ⟨h3, by rw [h.2, Bool.and_false]⟩
    · have := say_none h.2 h3
      rw [this] at h
      cases h.1
  · left; exact if_neg h
/-! ### A number that all, or two of three, have -/
theorem nar_has {s : Int × Int × Bool} {a b v : Int} (h1 : s.1 ≤ v ∧ v ≤ s.2.1) (h2 : a ≤ v ∧ v ≤ b) : (nar s a b).1 ≤ v ∧ v ≤ (nar s a b).2.1 ∧ (nar s a b).2.2 = s.2.2 ∧ a ≤ (nar s a b).1 ∧ (nar s a b).2.1 ≤ b := by
  rw [nar_yes (by omega)]
  dsimp only
  exact ⟨by omega, by omega, rfl, by omega, by omega⟩
theorem nar_less {s : Int × Int × Bool} {a b : Int} : s.1 ≤ (nar s a b).1 ∧ (nar s a b).2.1 ≤ s.2.1 := by
  by_cases hk : max s.1 a ≤ min s.2.1 b
  · rw [nar_yes hk]; dsimp only; omega
  · rw [nar_no hk]; dsimp only; omega
theorem first_has {p q v : Int} {x y z : Sr} (hp : p ≤ v ∧ v ≤ q) (hs : (say x y z).2.2 = true → (say x y z).1 ≤ v ∧ v ≤ (say x y z).2.1) (h0 : (say x y z).2.2 = false → (nF x y z : Int) = 0) :
    (first p q x y z).1 ≤ v ∧ v ≤ (first p q x y z).2.1 ∧ (first p q x y z).2.2 = false ∧ ((say x y z).2.2 = true → (say x y z).1 ≤ (first p q x y z).1 ∧ (first p q x y z).2.1 ≤ (say x y z).2.1) := by
  unfold first
  by_cases h : (say x y z).2.2 = true
  · rw [if_pos h]
    have k := nar_has (s := (p, q, false)) hp (hs h)
    exact ⟨k.1, k.2.1, k.2.2.1, fun _ => ⟨k.2.2.2.1, k.2.2.2.2⟩⟩
  · rw [if_neg h]
    have h' : (say x y z).2.2 = false := by simpa using h
    exact ⟨hp.1, hp.2, by dsimp only; rw [h0 h']; rfl, fun e => absurd e h⟩
theorem spd_has {p q v : Int} {x y z a : Sr} (hp : p ≤ v ∧ v ≤ q) (ha : a.f = true → a.lo ≤ v ∧ v ≤ a.hi) (hs : (say x y z).2.2 = true → (say x y z).1 ≤ v ∧ v ≤ (say x y z).2.1) (h0 : (say x y z).2.2 = false → (nF x y z : Int) = 0) :
    (spd p q x y z a).1 ≤ v ∧ v ≤ (spd p q x y z a).2.1 ∧ (spd p q x y z a).2.2 = false := by
  have k := first_has hp hs h0
  unfold spd
  cases hf : a.f
  · exact ⟨k.1, k.2.1, k.2.2.1⟩
  · have k2 := nar_has (s := first p q x y z) ⟨k.1, k.2.1⟩ (ha hf)
    exact ⟨k2.1, k2.2.1, k2.2.2.1.trans k.2.2.1⟩
theorem spd_less {p q : Int} {x y z a : Sr} : (first p q x y z).1 ≤ (spd p q x y z a).1 ∧ (spd p q x y z a).2.1 ≤ (first p q x y z).2.1 := by
  unfold spd
  cases a.f
  · exact ⟨Int.le_refl _, Int.le_refl _⟩
  · exact nar_less
/-- How many of the three that are fit have not a number. -/
def wrong1 (x : Sr) (v : Int) : Int := if x.f = true ∧ ¬ (x.lo ≤ v ∧ v ≤ x.hi) then 1 else 0
theorem wrong1_is (x : Sr) (v : Int) : wrong1 x v = bI x.f - has1 x v := by
  unfold wrong1 has1
  cases x.f
  · simp [bI]
  · by_cases h : x.lo ≤ v ∧ v ≤ x.hi
    · rw [if_neg (fun e => e.2 h), if_pos ⟨rfl, h⟩]; rfl
    · rw [if_pos ⟨rfl, h⟩, if_neg (fun e => h e.2)]; rfl
/-- Something is common to all three. -/
def agree3 (x y z : Sr) : Bool := decide (max (max x.lo y.lo) z.lo ≤ min (min x.hi y.hi) z.hi)
theorem agree_of {x y z : Sr} (h : (agr x y z).2.2 = true) (h3 : (nF x y z : Int) = 3) : agree3 x y z = true := by
  have k := agr_yes h
  refine decide_eq_true ?_
  have a1 := has1_in (x := x) (v := (agr x y z).1)
  have a2 := has1_in (x := y) (v := (agr x y z).1)
  have a3 := has1_in (x := z) (v := (agr x y z).1)
  omega
/-- What is said, where a number is in all that are fit, or in two of three that don't agree. -/
theorem said_has {x y z : Sr} {v : Int} (hw : wrong1 x v + wrong1 y v + wrong1 z v ≤ 1) (hn : wrong1 x v + wrong1 y v + wrong1 z v = 1 → (nF x y z : Int) = 3 ∧ agree3 x y z = false) :
    ((say x y z).2.2 = true → (say x y z).1 ≤ v ∧ v ≤ (say x y z).2.1) ∧ ((say x y z).2.2 = false → (nF x y z : Int) = 0) := by
  have e := nF_is x y z
  have w1 := wrong1_is x v
  have w2 := wrong1_is y v
  have w3 := wrong1_is z v
  by_cases h0 : (nF x y z : Int) = 0
  · refine ⟨fun h => ?_, fun _ => h0⟩
    have hq : (agr x y z).2.2 = false := by
      cases hq : (agr x y z).2.2 with
      | false => rfl
      | true => have := (agr_yes hq).1; omega
    rw [say_none hq (by omega)] at h
    cases h
  have hb : ∀ b : Bool, 0 ≤ bI b ∧ bI b ≤ 1 := fun b => by cases b <;> decide
  have b1 := hb x.f
  have b2 := hb y.f
  have b3 := hb z.f
  have a1 := has1_in (x := x) (v := v)
  have a2 := has1_in (x := y) (v := v)
  have a3 := has1_in (x := z) (v := v)
  by_cases hz : wrong1 x v + wrong1 y v + wrong1 z v = 1
  · obtain ⟨h3, ha⟩ := hn hz
    have hq : (agr x y z).2.2 = false := by
      cases hq : (agr x y z).2.2 with
      | false => rfl
      | true => rw [agree_of hq h3] at ha; cases ha
    have ht := two_of (x := x) (y := y) (z := z) (v := v) (by omega)
    rw [say_two hq h3]
    refine ⟨fun h => (two_yes h).2.2 v (by omega), fun h => ?_⟩
    rw [ht] at h; cases h
  · have hq := agr_of (x := x) (y := y) (z := z) (v := v) (by omega) (by omega)
    rw [say_agr hq]
    refine ⟨fun h => (agr_yes h).2.2.2 v (by omega), fun h => ?_⟩
    rw [hq] at h; cases h
/-! ### Widths -/
theorem width_all {p q v : Int} {x y z a : Sr} (hp : p ≤ v ∧ v ≤ q) (hx : x.f = true) (hy : y.f = true) (hz : z.f = true) (h1 : x.lo ≤ v ∧ v ≤ x.hi) (h2 : y.lo ≤ v ∧ v ≤ y.hi) (h3 : z.lo ≤ v ∧ v ≤ z.hi) :
    clean x y z = true ∧ (spd p q x y z a).2.1 - (spd p q x y z a).1 ≤ x.hi - x.lo := by
  have e := nF_is x y z
  rw [hx, hy, hz] at e
  have e3 : (nF x y z : Int) = 3 := e
  have b1 : has1 x v = 1 := if_pos ⟨hx, h1⟩
  have b2 : has1 y v = 1 := if_pos ⟨hy, h2⟩
  have b3 : has1 z v = 1 := if_pos ⟨hz, h3⟩
  have hq := agr_of (x := x) (y := y) (z := z) (v := v) (by omega) (by omega)
  refine ⟨by unfold clean; rw [hq, decide_eq_true e3]; rfl, ?_⟩
  have k := agr_yes hq
  have hs := say_agr hq
  have hf := first_has (p := p) (q := q) (v := v) (x := x) (y := y) (z := z) hp (fun _ => by rw [hs]; exact k.2.2.2 v (by omega)) (fun h => by rw [hs, hq] at h; cases h)
  have hf2 := hf.2.2.2 (by rw [hs]; exact hq)
  rw [hs] at hf2
  have hl := spd_less (p := p) (q := q) (x := x) (y := y) (z := z) (a := a)
  have a1 := has1_in (x := x) (v := (agr x y z).1)
  have a2 := has1_in (x := x) (v := (agr x y z).2.1)
  have a3 := has1_in (x := y) (v := (agr x y z).1)
  have a4 := has1_in (x := y) (v := (agr x y z).2.1)
  have a5 := has1_in (x := z) (v := (agr x y z).1)
  have a6 := has1_in (x := z) (v := (agr x y z).2.1)
  omega
theorem two_two {x y z : Sr} {v : Int} (h : 2 ≤ has1 x v + has1 y v + has1 z v) : ((x.lo ≤ v ∧ v ≤ x.hi) ∨ (y.lo ≤ v ∧ v ≤ y.hi)) ∧ ((x.lo ≤ v ∧ v ≤ x.hi) ∨ (z.lo ≤ v ∧ v ≤ z.hi)) ∧ ((y.lo ≤ v ∧ v ≤ y.hi) ∨ (z.lo ≤ v ∧ v ≤ z.hi)) := by
  rcases has1_in (x := x) (v := v) with ⟨a, a1, a2⟩ | ⟨a, _⟩ <;> rcases has1_in (x := y) (v := v) with ⟨b, b1, b2⟩ | ⟨b, _⟩ <;> rcases has1_in (x := z) (v := v) with ⟨c, c1, c2⟩ | ⟨c, _⟩ <;> first | (exfalso; omega) | exact ⟨by first | exact .inl a2 | exact .inr b2, by first | exact .inl a2 | exact .inr c2, by first | exact .inl b2 | exact .inr c2⟩
/-- Two of three have a number, the third has not, and they don't agree. -/
theorem width_two {p q v : Int} {x y z a : Sr} (hp : p ≤ v ∧ v ≤ q) (hx : x.f = true) (hy : y.f = true) (hz : z.f = true) (hg : agree3 x y z = false) (W : Int)
    (h : 2 ≤ has1 x v + has1 y v + has1 z v) (hW : W = has1 x v * (x.hi - x.lo) + has1 y v * (y.hi - y.lo) + has1 z v * (z.hi - z.lo)) :
    (spd p q x y z a).2.1 - (spd p q x y z a).1 ≤ W := by
  have e := nF_is x y z
  rw [hx, hy, hz] at e
  have e3 : (nF x y z : Int) = 3 := e
  have hq : (agr x y z).2.2 = false := by
    cases hq : (agr x y z).2.2 with
    | false => rfl
    | true => rw [agree_of hq e3] at hg; cases hg
  have ht := two_of (x := x) (y := y) (z := z) (v := v) h
  have k := two_yes ht
  have hs := say_two hq e3
  have hf := first_has (p := p) (q := q) (v := v) (x := x) (y := y) (z := z) hp (fun _ => by rw [hs]; exact k.2.2 v h) (fun h => by rw [hs, ht] at h; cases h)
  have hf2 := hf.2.2.2 (by rw [hs]; exact ht)
  rw [hs] at hf2
  have hl := spd_less (p := p) (q := q) (x := x) (y := y) (z := z) (a := a)
  have hv := k.2.2 v h
  have hni : ∀ u, ¬ (3 ≤ has1 x u + has1 y u + has1 z u) := fun u hu => by
    have := agr_of (x := x) (y := y) (z := z) (v := u) (by omega) (by omega)
    rw [hq] at this; cases this
  have n0 := hni v
  have c1 := has1_in (x := x) (v := v)
  have c2 := has1_in (x := y) (v := v)
  have c3 := has1_in (x := z) (v := v)
  have hsum : (has1 x v = 1 ∧ has1 y v = 1 ∧ has1 z v = 0) ∨ (has1 x v = 1 ∧ has1 y v = 0 ∧ has1 z v = 1) ∨ (has1 x v = 0 ∧ has1 y v = 1 ∧ has1 z v = 1) := by
    clear hv hl hf2 hf hW e k
    omega
  have q1 := two_two k.1
  have q2 := two_two k.2.1
  have t1 := hv.1
  have t2 := hv.2
  clear hv
  have l1 : (byZ (fitL x y z) 2).1 ≤ (spd p q x y z a).1 := Int.le_trans hf2.1 hl.1
  have l2 : (spd p q x y z a).2.1 ≤ (byZ (fitL x y z) 2).2.1 := Int.le_trans hl.2 hf2.2
  generalize (byZ (fitL x y z) 2).1 = lo at *
  generalize (byZ (fitL x y z) 2).2.1 = hi at *
  generalize (spd p q x y z a).1 = u1 at *
  generalize (spd p q x y z a).2.1 = u2 at *
  clear hl hf2 hf hs k ht hq e3 e n0 hni
  rcases hsum with ⟨s1, s2, s3⟩ | ⟨s1, s2, s3⟩ | ⟨s1, s2, s3⟩
  · rw [s1, s2, s3] at hW
    simp only [Int.one_mul, Int.zero_mul] at hW
    have q1 := q1.1
    have q2 := q2.1
    omega
  · rw [s1, s2, s3] at hW
    simp only [Int.one_mul, Int.zero_mul] at hW
    have q1 := q1.2.1
    have q2 := q2.2.1
    omega
  · rw [s1, s2, s3] at hW
    simp only [Int.one_mul, Int.zero_mul] at hW
    have q1 := q1.2.2
    have q2 := q2.2.2
    omega
/-! ### Counted one by one -/
theorem wr_off {x : Sr} (v : Int) (h : x.f = false) : bI x.f = 0 ∧ wrong1 x v = 0 := ⟨by rw [h]; rfl, if_neg (fun e => by rw [h] at e; cases e.1)⟩
theorem wr_in {x : Sr} {v : Int} (h : x.f = true) (k : x.lo ≤ v ∧ v ≤ x.hi) : bI x.f = 1 ∧ wrong1 x v = 0 := ⟨by rw [h]; rfl, if_neg (fun e => e.2 k)⟩
theorem wr_out {x : Sr} {v : Int} (h : x.f = true) (k : ¬ (x.lo ≤ v ∧ v ≤ x.hi)) : bI x.f = 1 ∧ wrong1 x v = 1 := ⟨by rw [h]; rfl, if_pos ⟨h, k⟩⟩
def CntW (n n' U U' T T' a b v : Int) : Prop := (n' = n + 1 ∧ U' = U + (b - a) ∧ T' = max T (b - a) ∧ a ≤ v ∧ v ≤ b) ∨ (n' = n ∧ U' = U ∧ T' = T ∧ ¬ (a ≤ v ∧ v ≤ b))
theorem width_fin {p q v n0 n1 n2 U0 U1 U2 T0 T1 T2 : Int} {x y z a : Sr} (hp : p ≤ v ∧ v ≤ q) (hx : x.f = true) (hy : y.f = true) (hz : z.f = true) (c0 : CntW 0 n0 0 U0 0 T0 x.lo x.hi v) (c1 : CntW n0 n1 U0 U1 T0 T1 y.lo y.hi v) (c2 : CntW n1 n2 U1 U2 T1 T2 z.lo z.hi v)
    (h : n2 = 3 ∨ (n2 = 2 ∧ agree3 x y z = false)) : (n2 = 3 → clean x y z = true ∧ (spd p q x y z a).2.1 - (spd p q x y z a).1 ≤ T2) ∧ (n2 ≠ 3 → (spd p q x y z a).2.1 - (spd p q x y z a).1 ≤ U2) := by
  have hh : ∀ {u : Sr}, u.f = true → u.lo ≤ v ∧ v ≤ u.hi → has1 u v = 1 := fun hf k => if_pos ⟨hf, k⟩
  have hn : ∀ {u : Sr}, ¬ (u.lo ≤ v ∧ v ≤ u.hi) → has1 u v = 0 := fun k => if_neg (fun e => k e.2)
  rcases c0 with ⟨a1, a2, a3, a4⟩ | ⟨a1, a2, a3, a4⟩ <;> rcases c1 with ⟨b1, b2, b3, b4⟩ | ⟨b1, b2, b3, b4⟩ <;> rcases c2 with ⟨d1, d2, d3, d4⟩ | ⟨d1, d2, d3, d4⟩
  · refine ⟨fun _ => ?_, fun e => by omega⟩
    have k := width_all (a := a) hp hx hy hz a4 b4 d4
    exact ⟨k.1, by have := k.2; omega⟩
  · refine ⟨fun e => by omega, fun _ => ?_⟩
    have w1 := hh hx a4; have w2 := hh hy b4; have w3 := hn d4
    have k := width_two (a := a) hp hx hy hz (by rcases h with h | h; exact absurd h (by omega); exact h.2) U2 (by omega) (by rw [w1, w2, w3]; omega)
    exact k
  · refine ⟨fun e => by omega, fun _ => ?_⟩
    have w1 := hh hx a4; have w2 := hn b4; have w3 := hh hz d4
    have k := width_two (a := a) hp hx hy hz (by rcases h with h | h; exact absurd h (by omega); exact h.2) U2 (by omega) (by rw [w1, w2, w3]; omega)
    exact k
  · exfalso; omega
  · refine ⟨fun e => by omega, fun _ => ?_⟩
    have w1 := hn a4; have w2 := hh hy b4; have w3 := hh hz d4
    have k := width_two (a := a) hp hx hy hz (by rcases h with h | h; exact absurd h (by omega); exact h.2) U2 (by omega) (by rw [w1, w2, w3]; omega)
    exact k
  · exfalso; omega
  · exfalso; omega
  · exfalso; omega
/-! ### The other way round -/
theorem fit_perm (x y z : Sr) : (fitL x y z).Perm (fitL y x z) := by
  unfold fitL
  rw [← List.append_assoc, ← List.append_assoc]
  exact (List.perm_append_comm).append_right _
theorem nF_swap (x y z : Sr) : nF y x z = nF x y z := (fit_perm x y z).length_eq.symm
theorem agr_swap (x y z : Sr) : agr y x z = agr x y z := by unfold agr; rw [nF_swap, byZ_perm (by omega) (fit_perm x y z)]
theorem say_swap (x y z : Sr) : say y x z = say x y z := by unfold say; rw [agr_swap, nF_swap, byZ_perm (by omega) (fit_perm x y z)]
theorem slips_swap (x y z u : Sr) : slips y x z u = slips x y z u := by unfold slips; rw [say_swap, agr_swap]
theorem spd_swap (p q : Int) (x y z a : Sr) : spd p q y x z a = spd p q x y z a := by unfold spd first; rw [say_swap, nF_swap]
theorem clean_swap (x y z : Sr) : clean y x z = clean x y z := by unfold clean; rw [agr_swap, nF_swap]
/-! ### Step by step -/
theorem by_agr {O : Spans} {x y z : Sr} {m : Nat} (h1 : 1 ≤ m) (hm : m = nF x y z) (hO : O = fitL x y z) : (byF O (m : Int)).2.2 = (agr x y z).2.2 ∧ ((byF O (m : Int)).2.2 = true → (byF O (m : Int)).1 = (agr x y z).1 ∧ (byF O (m : Int)).2.1 = (agr x y z).2.1) := by
  subst hO
  have e : max (nF x y z : Int) 1 = (m : Int) := by omega
  unfold agr
  rw [e]
  cases hq : (byF (fitL x y z) (m : Int)).2.2 with
  | true => rw [← byF_Z hq]; exact ⟨hq.symm, fun _ => ⟨rfl, rfl⟩⟩
  | false => exact ⟨(byF_no hq).symm, fun h => by cases h⟩
theorem agr_zero {x y z : Sr} (h : (nF x y z : Int) = 0) : (agr x y z).2.2 = false := by
  cases hq : (agr x y z).2.2 with
  | false => rfl
  | true => have := (agr_yes hq).1; omega
theorem by_none {x y z : Sr} {a b : Int} (h : (nF x y z : Int) = 0) : false = (agr x y z).2.2 ∧ (false = true → a = (agr x y z).1 ∧ b = (agr x y z).2.1) := ⟨(agr_zero h).symm, fun e => by cases e⟩
theorem clean_yes {x y z : Sr} (h3 : (nF x y z : Int) = 3) (h : (agr x y z).2.2 = true) : 1 = bI (clean x y z) := by unfold clean; rw [h, decide_eq_true h3]; rfl
theorem clean_no1 {x y z : Sr} (h3 : ¬ (nF x y z : Int) = 3) : 0 = bI (clean x y z) := by unfold clean; rw [decide_eq_false h3]; rfl
theorem clean_no2 {x y z : Sr} (h : (agr x y z).2.2 = false) : 0 = bI (clean x y z) := by unfold clean; rw [h, Bool.and_false]; rfl
theorem say_a {x y z : Sr} {g : Bool} {a b : Int} (h1 : g = (agr x y z).2.2) (h2 : g = true → a = (agr x y z).1 ∧ b = (agr x y z).2.1) (h : ¬ (nF x y z : Int) = 3 ∨ g = true) : g = (say x y z).2.2 ∧ (g = true → a = (say x y z).1 ∧ b = (say x y z).2.1) := by
  cases g with
  | true => rw [say_agr h1.symm]; exact ⟨h1, h2⟩
  | false => rw [say_none h1.symm (by simpa using h)]; exact ⟨rfl, fun e => by cases e⟩
theorem say_c {O : Spans} {x y z : Sr} (hO : O = fitL x y z) (h : (agr x y z).2.2 = false) (h3 : (nF x y z : Int) = 3) : (byF O 2).2.2 = (say x y z).2.2 ∧ ((byF O 2).2.2 = true → (byF O 2).1 = (say x y z).1 ∧ (byF O 2).2.1 = (say x y z).2.1) := by
  subst hO
  rw [say_two h h3]
  cases hq : (byF (fitL x y z) 2).2.2 with
  | true => rw [← byF_Z hq]; exact ⟨hq.symm, fun _ => ⟨rfl, rfl⟩⟩
  | false => exact ⟨(byF_no hq).symm, fun h => by cases h⟩
/-- A row says what three numbers say. -/
def TellsF (r : Int × Int × Bool) (u v c : Int) : Prop := u = r.1 ∧ v = r.2.1 ∧ c = bI r.2.2
theorem first_yes {p q a b : Int} {x y z : Sr} (h : (say x y z).2.2 = true) (ha : a = (say x y z).1 ∧ b = (say x y z).2.1) (k : max p a ≤ min q b) : TellsF (first p q x y z) (max p a) (min q b) 0 := by
  unfold first
  rw [if_pos h, ← ha.1, ← ha.2, nar_yes (s := (p, q, false)) k]
  exact ⟨rfl, rfl, rfl⟩
theorem first_no {p q a b : Int} {x y z : Sr} (h : (say x y z).2.2 = true) (ha : a = (say x y z).1 ∧ b = (say x y z).2.1) (k : ¬ max p a ≤ min q b) : TellsF (first p q x y z) p q 1 := by
  unfold first
  rw [if_pos h, ← ha.1, ← ha.2, nar_no (s := (p, q, false)) k]
  exact ⟨rfl, rfl, rfl⟩
theorem first_some {p q : Int} {x y z : Sr} (h : (say x y z).2.2 = false) (hn : 0 < (nF x y z : Int)) : TellsF (first p q x y z) p q 1 := by
  unfold first
  rw [if_neg (by rw [h]; decide), decide_eq_true hn]
  exact ⟨rfl, rfl, rfl⟩
theorem first_zero {p q : Int} {x y z : Sr} (h : (say x y z).2.2 = false) (hn : ¬ 0 < (nF x y z : Int)) : TellsF (first p q x y z) p q 0 := by
  unfold first
  rw [if_neg (by rw [h]; decide), decide_eq_false hn]
  exact ⟨rfl, rfl, rfl⟩
theorem spd_yes {p q u v c : Int} {x y z t : Sr} (hf : TellsF (first p q x y z) u v c) (ht : t.f = true) (k : max u t.lo ≤ min v t.hi) : TellsF (spd p q x y z t) (max u t.lo) (min v t.hi) c := by
  obtain ⟨h1, h2, h3⟩ := hf
  unfold spd
  rw [ht]
  dsimp only
  rw [nar_yes (by rw [← h1, ← h2]; exact k), ← h1, ← h2]
  exact ⟨rfl, rfl, h3⟩
theorem spd_no {p q u v c : Int} {x y z t : Sr} (hf : TellsF (first p q x y z) u v c) (ht : t.f = true) (k : ¬ max u t.lo ≤ min v t.hi) : TellsF (spd p q x y z t) u v 1 := by
  obtain ⟨h1, h2, h3⟩ := hf
  unfold spd
  rw [ht]
  dsimp only
  rw [nar_no (by rw [← h1, ← h2]; exact k), ← h1, ← h2]
  exact ⟨rfl, rfl, rfl⟩
theorem spd_off {p q u v c : Int} {x y z t : Sr} (hf : TellsF (first p q x y z) u v c) (ht : t.f = false) : TellsF (spd p q x y z t) u v c := by
  unfold spd
  rw [ht]
  exact hf
theorem slips_no {x y z u : Sr} (h : (say x y z).2.2 = false ∨ (agr x y z).2.2 = true) : slips x y z u = 0 := by
  refine if_neg (fun e => ?_)
  rcases h with h | h
  · rw [h] at e; cases e.1
  · rw [h] at e; cases e.2
theorem slips_of {x y z u : Sr} {a b : Int} (h1 : (say x y z).2.2 = true) (h2 : (agr x y z).2.2 = false) (ha : a = (say x y z).1 ∧ b = (say x y z).2.1) :
    slips x y z u = if max u.lo a ≤ min u.hi b then 0 else if (0 ≤ (a + b) / 2 ∧ b < u.lo) ∨ ((a + b) / 2 < 0 ∧ u.hi < a) then 1 else -1 := by
  unfold slips
  rw [if_pos ⟨h1, h2⟩, ha.1, ha.2]
  rfl
theorem say_in {x y z : Sr} (gx : GoodS x) (gy : GoodS y) (gz : GoodS z) (h : (say x y z).2.2 = true) : -1152921504606846976 ≤ (say x y z).1 ∧ (say x y z).1 ≤ 1152921504606846976 ∧ -1152921504606846976 ≤ (say x y z).2.1 ∧ (say x y z).2.1 ≤ 1152921504606846976 := by
  have key : ∀ v, 1 ≤ has1 x v + has1 y v + has1 z v → -1152921504606846976 ≤ v ∧ v ≤ 1152921504606846976 := fun v hv => by
    rcases has1_in (x := x) (v := v) with ⟨_, a1, a2⟩ | ⟨a, _⟩
    · have := gx a1; omega
    · rcases has1_in (x := y) (v := v) with ⟨_, a1, a2⟩ | ⟨b, _⟩
      · have := gy a1; omega
      · rcases has1_in (x := z) (v := v) with ⟨_, a1, a2⟩ | ⟨c, _⟩
        · have := gz a1; omega
        · omega
  cases hq : (agr x y z).2.2 with
  | true =>
    rw [say_agr hq]
    obtain ⟨h1, h2, h3, _⟩ := agr_yes hq
    have k1 := key _ (Int.le_trans h1 h2)
    have k2 := key _ (Int.le_trans h1 h3)
    exact ⟨k1.1, k1.2, k2.1, k2.2⟩
  | false =>
    by_cases h3 : (nF x y z : Int) = 3
    · rw [say_two hq h3] at h ⊢
      obtain ⟨h1, h2, _⟩ := two_yes h
      have k1 := key _ (Int.le_trans (show (1 : Int) ≤ 2 by omega) h1)
      have k2 := key _ (Int.le_trans (show (1 : Int) ≤ 2 by omega) h2)
      exact ⟨k1.1, k1.2, k2.1, k2.2⟩
    · rw [say_none hq h3] at h; cases h
/-! ### With less -/
theorem say_zero : say ⟨false, 0, 0⟩ ⟨false, 0, 0⟩ ⟨false, 0, 0⟩ = (0, 0, false) := by decide
theorem fz_zero (p q : Int) : fz p q ⟨false, 0, 0⟩ ⟨false, 0, 0⟩ ⟨false, 0, 0⟩ ⟨false, 0, 0⟩ = ⟨p, q, 0, false, false, 0, 0⟩ := by
  unfold fz spd first slips
  rw [say_zero]
  rfl
end Go.Proofs.Ytlfienfjdjfcoaa.Fzm
