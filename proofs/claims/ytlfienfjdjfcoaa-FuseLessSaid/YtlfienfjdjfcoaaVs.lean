/-
  What package vote is to answer, as functions on lists of pairs, and why they agree. No program.
-/
import Derived.Test.YtlfienfjdjfcoaaSl
namespace Go.Proofs.Ytlfienfjdjfcoaa.Vs
open Sl

def enc2 (x : Int × Int) : List Value := [.int .i64 x.1, .int .i64 x.2]
def enc1 (x : Int) : List Value := [.int .i64 x]
theorem enc2_one : ∀ x, ∀ u ∈ enc2 x, u.oneCell' = true := by intro x u hu; simp [enc2] at hu; rcases hu with rfl | rfl <;> rfl
abbrev Spans := List (Int × Int)
/-- Does a span have a number? -/
def hasB (s : Int × Int) (x : Int) : Bool := decide (s.1 ≤ x) && decide (x ≤ s.2)
/-- How many spans have a number. -/
def cnt (L : Spans) (x : Int) : Nat := L.countP fun s => hasB s x
theorem cnt_append (L M : Spans) (x : Int) : cnt (L ++ M) x = cnt L x + cnt M x := List.countP_append
theorem cnt_step (L : Spans) (x : Int) (i : Nat) (h : i < L.length) : cnt (L.take (i + 1)) x = cnt (L.take i) x + (if hasB (L[i]!) x = true then 1 else 0) := by
  rw [take_snoc L i h, cnt_append]
  congr 1
  unfold cnt
  rw [List.countP_cons, List.countP_nil, Nat.zero_add]
theorem cnt_yes {L : Spans} {x : Int} {i m : Nat} (h : i < L.length) (hm : m = cnt (L.take i) x) (hb : hasB (L[i]!) x = true) : m + 1 = cnt (L.take (i + 1)) x := by rw [cnt_step L x i h, if_pos hb, hm]
theorem cnt_no {L : Spans} {x : Int} {i m : Nat} (h : i < L.length) (hm : m = cnt (L.take i) x) (hb : hasB (L[i]!) x = false) : m = cnt (L.take (i + 1)) x := by rw [cnt_step L x i h, if_neg (by rw [hb]; decide), hm, Nat.add_zero]
theorem cnt_le (L : Spans) (x : Int) : cnt L x ≤ L.length := List.countP_le_length
/-- The least Lo, the greatest Hi, that so many spans have, among the first i: was one found, and which. -/
def lowC (L : Spans) (k : Int) (i : Nat) (r : Bool × Int) : Bool := decide (k ≤ (cnt L (L[i]!).1 : Int)) && (!r.1 || decide ((L[i]!).1 < r.2))
def highC (L : Spans) (k : Int) (i : Nat) (r : Bool × Int) : Bool := decide (k ≤ (cnt L (L[i]!).2 : Int)) && (!r.1 || decide (r.2 < (L[i]!).2))
def lowS (L : Spans) (k : Int) : Nat → Bool × Int
  | 0 => (false, 0)
  | i + 1 => if lowC L k i (lowS L k i) = true then (true, (L[i]!).1) else lowS L k i
def highS (L : Spans) (k : Int) : Nat → Bool × Int
  | 0 => (false, 0)
  | i + 1 => if highC L k i (highS L k i) = true then (true, (L[i]!).2) else highS L k i
theorem low_yes {L : Spans} {k : Int} {i : Nat} {r : Bool × Int} (h : lowS L k i = r) (hc : lowC L k i r = true) : lowS L k (i + 1) = (true, (L[i]!).1) := by rw [lowS, h, if_pos hc]
theorem low_no {L : Spans} {k : Int} {i : Nat} {r : Bool × Int} (h : lowS L k i = r) (hc : lowC L k i r = false) : lowS L k (i + 1) = r := by rw [lowS, h, if_neg (by rw [hc]; decide)]
theorem high_yes {L : Spans} {k : Int} {i : Nat} {r : Bool × Int} (h : highS L k i = r) (hc : highC L k i r = true) : highS L k (i + 1) = (true, (L[i]!).2) := by rw [highS, h, if_pos hc]
theorem high_no {L : Spans} {k : Int} {i : Nat} {r : Bool × Int} (h : highS L k i = r) (hc : highC L k i r = false) : highS L k (i + 1) = r := by rw [highS, h, if_neg (by rw [hc]; decide)]
/-- The document's answer: the least and the greatest number that k spans have, and if there is one. -/
def byF (L : Spans) (k : Int) : Int × Int × Bool := ((lowS L k L.length).2, (highS L k L.length).2, (lowS L k L.length).1 && (highS L k L.length).1)
/-- .. with zeros where there is none. -/
def byZ (L : Spans) (k : Int) : Int × Int × Bool := if (byF L k).2.2 = true then byF L k else (0, 0, false)

/-- What By's answer means. -/
structure IsBy (L : Spans) (k : Int) (r : Int × Int × Bool) : Prop where
  yes : r.2.2 = true → k ≤ (cnt L r.1 : Int) ∧ k ≤ (cnt L r.2.1 : Int) ∧ ∀ x, k ≤ (cnt L x : Int) → r.1 ≤ x ∧ x ≤ r.2.1
  no : r.2.2 = false → ∀ x, ¬ k ≤ (cnt L x : Int)
theorem low_inv (L : Spans) (k : Int) (i : Nat) (hi : i ≤ L.length) :
    ((lowS L k i).1 = true → ∃ j, j < i ∧ (lowS L k i).2 = (L[j]!).1 ∧ k ≤ (cnt L (L[j]!).1 : Int)) ∧ ∀ j, j < i → k ≤ (cnt L (L[j]!).1 : Int) → (lowS L k i).1 = true ∧ (lowS L k i).2 ≤ (L[j]!).1 := by
  induction i with
  | zero => exact ⟨fun h => by simp [lowS] at h, fun j hj => by omega⟩
  | succ i ih =>
    obtain ⟨h1, h2⟩ := ih (by omega)
    by_cases hc : lowC L k i (lowS L k i) = true
    · rw [low_yes rfl hc]
      unfold lowC at hc
      simp only [Bool.and_eq_true, Bool.or_eq_true, Bool.not_eq_true', decide_eq_true_eq] at hc
      refine ⟨fun _ => ⟨i, by omega, rfl, hc.1⟩, fun j hj hk => ⟨rfl, ?_⟩⟩
      rcases Nat.lt_succ_iff_lt_or_eq.1 hj with hj | rfl
      · obtain ⟨h3, h4⟩ := h2 j hj hk
        rcases hc.2 with h5 | h5
        · rw [h3] at h5; cases h5
        · show (L[i]!).1 ≤ _
          omega
      · exact Int.le_refl _
    · have hc' : lowC L k i (lowS L k i) = false := by simpa using hc
      rw [low_no rfl hc']
      unfold lowC at hc
      simp only [Bool.and_eq_true, Bool.or_eq_true, Bool.not_eq_true', decide_eq_true_eq, not_and, not_or] at hc
      refine ⟨fun h => ?_, fun j hj hk => ?_⟩
      · obtain ⟨j, hj, h⟩ := h1 h
        exact ⟨j, by omega, h⟩
      · rcases Nat.lt_succ_iff_lt_or_eq.1 hj with hj | rfl
        · exact h2 j hj hk
        · obtain ⟨h3, h4⟩ := hc hk
          exact ⟨by simpa using h3, by omega⟩
theorem high_inv (L : Spans) (k : Int) (i : Nat) (hi : i ≤ L.length) :
    ((highS L k i).1 = true → ∃ j, j < i ∧ (highS L k i).2 = (L[j]!).2 ∧ k ≤ (cnt L (L[j]!).2 : Int)) ∧ ∀ j, j < i → k ≤ (cnt L (L[j]!).2 : Int) → (highS L k i).1 = true ∧ (L[j]!).2 ≤ (highS L k i).2 := by
  induction i with
  | zero => exact ⟨fun h => by simp [highS] at h, fun j hj => by omega⟩
  | succ i ih =>
    obtain ⟨h1, h2⟩ := ih (by omega)
    by_cases hc : highC L k i (highS L k i) = true
    · rw [high_yes rfl hc]
      unfold highC at hc
      simp only [Bool.and_eq_true, Bool.or_eq_true, Bool.not_eq_true', decide_eq_true_eq] at hc
      refine ⟨fun _ => ⟨i, by omega, rfl, hc.1⟩, fun j hj hk => ⟨rfl, ?_⟩⟩
      rcases Nat.lt_succ_iff_lt_or_eq.1 hj with hj | rfl
      · obtain ⟨h3, h4⟩ := h2 j hj hk
        rcases hc.2 with h5 | h5
        · rw [h3] at h5; cases h5
        · show _ ≤ (L[i]!).2
          omega
      · exact Int.le_refl _
    · have hc' : highC L k i (highS L k i) = false := by simpa using hc
      rw [high_no rfl hc']
      unfold highC at hc
      simp only [Bool.and_eq_true, Bool.or_eq_true, Bool.not_eq_true', decide_eq_true_eq, not_and, not_or] at hc
      refine ⟨fun h => ?_, fun j hj hk => ?_⟩
      · obtain ⟨j, hj, h⟩ := h1 h
        exact ⟨j, by omega, h⟩
      · rcases Nat.lt_succ_iff_lt_or_eq.1 hj with hj | rfl
        · exact h2 j hj hk
        · obtain ⟨h3, h4⟩ := hc hk
          exact ⟨by simpa using h3, by omega⟩
/-- Of the spans that have a number, the one that begins last: all of them have its Lo. -/
theorem reach_low (M : Spans) (x : Int) (h : 0 < cnt M x) : ∃ s ∈ M, s.1 ≤ x ∧ x ≤ s.2 ∧ ∀ t ∈ M, t.1 ≤ x → x ≤ t.2 → t.1 ≤ s.1 := by
  induction M with
  | nil => simp [cnt] at h
  | cons a r ih =>
    by_cases ha : a.1 ≤ x ∧ x ≤ a.2
    · by_cases hr : 0 < cnt r x
      · obtain ⟨s, hs, h1, h2, h3⟩ := ih hr
        by_cases hc : s.1 ≤ a.1
        · refine ⟨a, by simp, ha.1, ha.2, fun t ht k1 k2 => ?_⟩
          rcases List.mem_cons.1 ht with rfl | ht
          · exact Int.le_refl _
          · exact Int.le_trans (h3 t ht k1 k2) hc
        · refine ⟨s, by simp [hs], h1, h2, fun t ht k1 k2 => ?_⟩
          rcases List.mem_cons.1 ht with rfl | ht
          · omega
          · exact h3 t ht k1 k2
      · refine ⟨a, by simp, ha.1, ha.2, fun t ht k1 k2 => ?_⟩
        rcases List.mem_cons.1 ht with rfl | ht
        · exact Int.le_refl _
        · exfalso
          apply hr
          exact List.countP_pos_iff.2 ⟨t, ht, by simp [hasB, k1, k2]⟩
    · have : cnt (a :: r) x = cnt r x := by
        unfold cnt
        rw [List.countP_cons, if_neg (by simp [hasB]; omega), Nat.add_zero]
      rw [this] at h
      obtain ⟨s, hs, h1, h2, h3⟩ := ih h
      refine ⟨s, by simp [hs], h1, h2, fun t ht k1 k2 => ?_⟩
      rcases List.mem_cons.1 ht with rfl | ht
      · exact absurd ⟨k1, k2⟩ ha
      · exact h3 t ht k1 k2
theorem reach_high (M : Spans) (x : Int) (h : 0 < cnt M x) : ∃ s ∈ M, s.1 ≤ x ∧ x ≤ s.2 ∧ ∀ t ∈ M, t.1 ≤ x → x ≤ t.2 → s.2 ≤ t.2 := by
  induction M with
  | nil => simp [cnt] at h
  | cons a r ih =>
    by_cases ha : a.1 ≤ x ∧ x ≤ a.2
    · by_cases hr : 0 < cnt r x
      · obtain ⟨s, hs, h1, h2, h3⟩ := ih hr
        by_cases hc : a.2 ≤ s.2
        · refine ⟨a, by simp, ha.1, ha.2, fun t ht k1 k2 => ?_⟩
          rcases List.mem_cons.1 ht with rfl | ht
          · exact Int.le_refl _
          · exact Int.le_trans hc (h3 t ht k1 k2)
        · refine ⟨s, by simp [hs], h1, h2, fun t ht k1 k2 => ?_⟩
          rcases List.mem_cons.1 ht with rfl | ht
          · omega
          · exact h3 t ht k1 k2
      · refine ⟨a, by simp, ha.1, ha.2, fun t ht k1 k2 => ?_⟩
        rcases List.mem_cons.1 ht with rfl | ht
        · exact Int.le_refl _
        · exfalso
          apply hr
          exact List.countP_pos_iff.2 ⟨t, ht, by simp [hasB, k1, k2]⟩
    · have : cnt (a :: r) x = cnt r x := by
        unfold cnt
        rw [List.countP_cons, if_neg (by simp [hasB]; omega), Nat.add_zero]
      rw [this] at h
      obtain ⟨s, hs, h1, h2, h3⟩ := ih h
      refine ⟨s, by simp [hs], h1, h2, fun t ht k1 k2 => ?_⟩
      rcases List.mem_cons.1 ht with rfl | ht
      · exact absurd ⟨k1, k2⟩ ha
      · exact h3 t ht k1 k2
theorem cnt_mono {L : Spans} {x y : Int} (h : ∀ t ∈ L, t.1 ≤ x → x ≤ t.2 → t.1 ≤ y ∧ y ≤ t.2) : cnt L x ≤ cnt L y := by
  unfold cnt
  refine List.countP_mono_left (fun t ht k => ?_)
  unfold hasB at k ⊢
  simp only [Bool.and_eq_true, decide_eq_true_eq] at k ⊢
  exact h t ht k.1 k.2
theorem mem_at {L : Spans} {s : Int × Int} (h : s ∈ L) : ∃ j, j < L.length ∧ L[j]! = s := by
  obtain ⟨j, hj, e⟩ := List.mem_iff_getElem.1 h
  exact ⟨j, hj, by rw [getElem!_pos L j hj]; exact e⟩
theorem by_is (L : Spans) (k : Int) (hk : 1 ≤ k) : IsBy L k (byF L k) := by
  have hl := low_inv L k L.length (Nat.le_refl _)
  have hh := high_inv L k L.length (Nat.le_refl _)
  have key : ∀ x, k ≤ (cnt L x : Int) → (lowS L k L.length).1 = true ∧ (lowS L k L.length).2 ≤ x ∧ (highS L k L.length).1 = true ∧ x ≤ (highS L k L.length).2 := by
    intro x hx
    obtain ⟨s, hs, h1, h2, h3⟩ := reach_low L x (by omega)
    obtain ⟨t, ht, k1, k2, k3⟩ := reach_high L x (by omega)
    obtain ⟨i, hi, rfl⟩ := mem_at hs
    obtain ⟨j, hj, rfl⟩ := mem_at ht
    have c1 : cnt L x ≤ cnt L (L[i]!).1 := cnt_mono (fun u hu q1 q2 => ⟨h3 u hu q1 q2, by omega⟩)
    have c2 : cnt L x ≤ cnt L (L[j]!).2 := cnt_mono (fun u hu q1 q2 => ⟨by omega, k3 u hu q1 q2⟩)
    have a := hl.2 i hi (by omega)
    have b := hh.2 j hj (by omega)
    exact ⟨a.1, by omega, b.1, by omega⟩
  constructor
  · intro h
    simp only [byF, Bool.and_eq_true] at h
    obtain ⟨i, _, e, hi⟩ := hl.1 h.1
    obtain ⟨j, _, e', hj⟩ := hh.1 h.2
    refine ⟨by show k ≤ (cnt L (lowS L k L.length).2 : Int); rw [e]; exact hi, by show k ≤ (cnt L (highS L k L.length).2 : Int); rw [e']; exact hj, fun x hx => ?_⟩
    have := key x hx
    exact ⟨this.2.1, this.2.2.2⟩
  · intro h x hx
    have := key x hx
    simp only [byF, this.1, this.2.2.1] at h
    cases h
/-- There is one answer. -/
theorem IsBy.eq {L M : Spans} {k : Int} {r q : Int × Int × Bool} (h : IsBy L k r) (g : IsBy M k q) (hc : ∀ x, cnt L x = cnt M x) : r.2.2 = q.2.2 ∧ (r.2.2 = true → r.1 = q.1 ∧ r.2.1 = q.2.1) := by
  obtain ⟨a, b, o⟩ := r
  obtain ⟨c, d, o'⟩ := q
  cases o <;> cases o'
  · exact ⟨rfl, fun h => by cases h⟩
  · have h1 := g.yes rfl
    exact absurd (by rw [hc]; exact h1.1) (h.no rfl c)
  · have h1 := h.yes rfl
    exact absurd (by rw [← hc]; exact h1.1) (g.no rfl a)
  · have h1 := h.yes rfl
    have h2 := g.yes rfl
    refine ⟨rfl, fun _ => ?_⟩
    have e1 := h1.2.2 c (by rw [hc]; exact h2.1)
    have e2 := h1.2.2 d (by rw [hc]; exact h2.2.1)
    have e3 := h2.2.2 a (by rw [← hc]; exact h1.1)
    have e4 := h2.2.2 b (by rw [← hc]; exact h1.2.1)
    simp only at e1 e2 e3 e4 ⊢
    omega
theorem byZ_of {L : Spans} {k : Int} {r : Int × Int × Bool} (hk : 1 ≤ k) (h : IsBy L k r) (hz : r.2.2 = false → r = (0, 0, false)) : r = byZ L k := by
  have e := h.eq (by_is L k hk) (fun _ => rfl)
  unfold byZ
  by_cases hr : r.2.2 = true
  · rw [if_pos (by rw [← e.1]; exact hr)]
    have := e.2 hr
    exact Prod.ext this.1 (Prod.ext this.2 e.1)
  · have hr' : r.2.2 = false := by simpa using hr
    rw [if_neg (by rw [← e.1]; exact hr), hz hr']
theorem byZ_perm {L M : Spans} {k : Int} (hk : 1 ≤ k) (hp : L.Perm M) : byZ L k = byZ M k := by
  have hc : ∀ x, cnt L x = cnt M x := fun x => hp.countP_eq _
  have e := (by_is L k hk).eq (by_is M k hk) hc
  unfold byZ
  by_cases hr : (byF L k).2.2 = true
  · rw [if_pos hr, if_pos (by rw [← e.1]; exact hr)]
    have := e.2 hr
    exact Prod.ext this.1 (Prod.ext this.2 e.1)
  · rw [if_neg hr, if_neg (by rw [← e.1]; exact hr)]
end Go.Proofs.Ytlfienfjdjfcoaa.Vs
