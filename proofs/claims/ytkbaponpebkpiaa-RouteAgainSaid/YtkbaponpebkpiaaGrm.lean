/-
  Grades, without a program: a search by halves, and what it finds among the pieces of a length. No condition.
-/
import Derived.Test.YtkbaponpebkpiaaGr
namespace Go.Proofs.Ytkbaponpebkpiaa.Grm
open Sl Vs Gr
set_option linter.unusedVariables false
set_option linter.unusedSimpArgs false

/-- The place behind the last one below n at which p doesn't hold. -/
def ups (p : Nat → Bool) : Nat → Nat
  | 0 => 0
  | n + 1 => if p n = true then ups p n else n + 1
theorem ups_le (p : Nat → Bool) : ∀ n, ups p n ≤ n := by
  intro n
  induction n with
  | zero => exact Nat.le_refl _
  | succ n ih =>
    unfold ups
    split
    · omega
    · exact Nat.le_refl _
theorem ups_is {p : Nat → Bool} {k : Nat} (h1 : ∀ t, t < k → p t = false) : ∀ n, k ≤ n → (∀ t, k ≤ t → t < n → p t = true) → ups p n = k := by
  intro n
  induction n with
  | zero => intro hk _; unfold ups; omega
  | succ n ih =>
    intro hk h2
    unfold ups
    rcases Nat.lt_or_eq_of_le hk with h | h
    · rw [if_pos (h2 n (by omega) (by omega))]
      exact ih (by omega) (fun t a b => h2 t a (by omega))
    · rw [if_neg (by rw [h1 n (by omega)]; decide)]
      exact h.symm
theorem ups_above {p : Nat → Bool} : ∀ n t, ups p n ≤ t → t < n → p t = true := by
  intro n
  induction n with
  | zero => intro t _ h; omega
  | succ n ih =>
    intro t h ht
    unfold ups at h
    split at h
    · rename_i hp
      rcases Nat.lt_or_eq_of_le (Nat.le_of_lt_succ ht) with h3 | h3
      · exact ih t h h3
      · subst h3; exact hp
    · omega
theorem ups_last {p : Nat → Bool} : ∀ n, 0 < ups p n → p (ups p n - 1) = false := by
  intro n
  induction n with
  | zero => intro h; unfold ups at h; omega
  | succ n ih =>
    intro h
    unfold ups at h ⊢
    split
    · rename_i hp
      rw [if_pos hp] at h
      exact ih h
    · rename_i hp
      rw [Nat.add_sub_cancel]
      simpa using hp
theorem ups_below {p : Nat → Bool} {n : Nat} (hm : ∀ a b, a ≤ b → b < n → p a = true → p b = true) {t : Nat} (ht : t < ups p n) : p t = false := by
  have h1 := ups_last (p := p) n (by omega)
  have h2 := ups_le p n
  cases h : p t with
  | false => rfl
  | true => rw [hm t (ups p n - 1) (by omega) (by omega) h] at h1; cases h1
/-- The last piece of which q holds, where it holds of the first ones alone; the first one, if of none. -/
def lastQ (q : Int × Int → Bool) (L : Spans) : Nat := ups (fun t => !q L[t]!) L.length - 1
theorem last_lt {q : Int × Int → Bool} {L : Spans} (h : 1 ≤ L.length) : lastQ q L < L.length := by
  have := ups_le (fun t => !q L[t]!) L.length
  unfold lastQ
  omega
/-- They go down: where q holds, it holds of all before. -/
def Down (q : Int × Int → Bool) (L : Spans) : Prop := ∀ a b, a ≤ b → b < L.length → q L[b]! = true → q L[a]! = true
theorem down_not {q : Int × Int → Bool} {L : Spans} (h : Down q L) : ∀ a b, a ≤ b → b < L.length → (!q L[a]!) = true → (!q L[b]!) = true := by
  intro a b hab hb ha
  cases hq : q L[b]! with
  | false => rfl
  | true => rw [h a b hab hb hq] at ha; cases ha
abbrev qle (a : Int) : Int × Int → Bool := fun x => decide (x.1 ≤ a)
abbrev qlt (a : Int) : Int × Int → Bool := fun x => decide (x.1 < a)
theorem nle_yes {a : Int} {x : Int × Int} (h : (!qle a x) = true) : a < x.1 := by
  simp only [qle, Bool.not_eq_true', decide_eq_false_iff_not] at h
  omega
theorem nle_no {a : Int} {x : Int × Int} (h : (!qle a x) = false) : x.1 ≤ a := by
  simp only [qle, Bool.not_eq_false', decide_eq_true_eq] at h
  exact h
theorem nlt_yes {a : Int} {x : Int × Int} (h : (!qlt a x) = true) : a ≤ x.1 := by
  simp only [qlt, Bool.not_eq_true', decide_eq_false_iff_not] at h
  omega
theorem nlt_no {a : Int} {x : Int × Int} (h : (!qlt a x) = false) : x.1 < a := by
  simp only [qlt, Bool.not_eq_false', decide_eq_true_eq] at h
  exact h
theorem up_le {L : Spans} {len : Int} (h : May L len) {i j : Nat} (hij : i ≤ j) (hj : j < L.length) : (L[i]!).1 ≤ (L[j]!).1 := by
  rcases Nat.lt_or_eq_of_le hij with h1 | h1
  · have := up_all h h1 hj; omega
  · subst h1; exact Int.le_refl _
theorem down_le {L : Spans} {len : Int} (h : May L len) (a : Int) : Down (qle a) L := by
  intro i j hij hj hq
  have := up_le h hij hj
  have hq' := of_decide_eq_true hq
  exact decide_eq_true (by omega)
theorem down_lt {L : Spans} {len : Int} (h : May L len) (a : Int) : Down (qlt a) L := by
  intro i j hij hj hq
  have := up_le h hij hj
  have hq' := of_decide_eq_true hq
  exact decide_eq_true (by omega)
/-- The pieces that reach a place from lo to hi are those from the one to the other. -/
theorem reach_range {L : Spans} {len lo hi : Int} (h : May L len) {i : Nat} (hi1 : i < L.length) : reach L i lo hi = true ↔ lastQ (qlt lo) L ≤ i ∧ i ≤ lastQ (qle hi) L := by
  have h1 := ups_le (fun t => !qlt lo L[t]!) L.length
  have h2 := ups_le (fun t => !qle hi L[t]!) L.length
  rw [reach_iff, and_comm]
  refine and_congr ?_ ?_
  · unfold lastQ
    constructor
    · rintro (h3 | h3)
      · omega
      · by_cases h4 : ups (fun t => !qlt lo L[t]!) L.length ≤ i + 1
        · omega
        · have h5 := nlt_no (ups_below (down_not (down_lt h lo)) (t := i + 1) (by omega))
          omega
    · intro h3
      by_cases h4 : L.length ≤ i + 1
      · exact .inl h4
      · have h5 := nlt_yes (ups_above (p := fun t => !qlt lo L[t]!) L.length (i + 1) (by omega) (by omega))
        exact .inr h5
  · unfold lastQ
    constructor
    · rintro (h3 | h3)
      · omega
      · by_cases h4 : i < ups (fun t => !qle hi L[t]!) L.length
        · omega
        · have h5 := nle_yes (ups_above (p := fun t => !qle hi L[t]!) L.length i (by omega) (by omega))
          omega
    · intro h3
      by_cases h4 : i = 0
      · exact .inl h4
      · have h5 := nle_no (ups_below (down_not (down_le h hi)) (t := i) (by omega))
        exact .inr h5
theorem from_to {L : Spans} {len lo hi : Int} (h : May L len) (hlh : lo ≤ hi) : lastQ (qlt lo) L ≤ lastQ (qle hi) L := by
  obtain ⟨i, hi1, hr⟩ := reach_some h hlh
  have := (reach_range h hi1).1 hr
  omega
/-- The first piece that reaches. -/
theorem bnd_first {L : Spans} {len lo hi : Int} (h : May L len) (hlh : lo ≤ hi) : ((L[lastQ (qlt lo) L]!).2, (L[lastQ (qlt lo) L]!).2) = bnd L lo hi (lastQ (qlt lo) L + 1) := by
  have h0 := last_lt (q := qlt lo) h.some
  have h1 := from_to h hlh
  have h2 := (bnd_is (lo := lo) (hi := hi) h (lastQ (qlt lo) L) (by omega)).2.2 (fun i hi1 => by
    cases hr : reach L i lo hi with
    | false => rfl
    | true => have := (reach_range h (by omega)).1 hr; omega)
  have h3 := h.each _ h0
  have h4 := h3.low
  have h5 := h3.high
  exact bnd_yes h2.symm ((reach_range h h0).2 ⟨Nat.le_refl _, h1⟩) (by rw [if_pos (by omega)]) (by rw [if_pos (by omega)])
theorem bnd_next {L : Spans} {len lo hi x y x' y' : Int} {k : Nat} (h : May L len) (hb : (x, y) = bnd L lo hi k) (h1 : lastQ (qlt lo) L ≤ k) (h2 : k ≤ lastQ (qle hi) L) (hx : x' = min x (L[k]!).2) (hy : y' = max y (L[k]!).2) : (x', y') = bnd L lo hi (k + 1) := by
  have h0 := last_lt (q := qle hi) h.some
  refine bnd_yes hb ((reach_range h (by omega)).2 ⟨h1, h2⟩) ?_ ?_
  · rw [hx]; split <;> omega
  · rw [hy]; split <;> omega
theorem bnd_end {L : Spans} {len lo hi : Int} (h : May L len) : ∀ d, lastQ (qle hi) L + 1 + d ≤ L.length → bnd L lo hi (lastQ (qle hi) L + 1 + d) = bnd L lo hi (lastQ (qle hi) L + 1) := by
  intro d
  induction d with
  | zero => intro _; rfl
  | succ d ih =>
    intro hd
    rw [← ih (by omega)]
    refine (bnd_no (x := (bnd L lo hi (lastQ (qle hi) L + 1 + d)).1) (y := (bnd L lo hi (lastQ (qle hi) L + 1 + d)).2) rfl ?_).symm
    cases hr : reach L (lastQ (qle hi) L + 1 + d) lo hi with
    | false => rfl
    | true => have := (reach_range h (by omega)).1 hr; omega
theorem bnd_all {L : Spans} {len lo hi x y : Int} (h : May L len) (hb : (x, y) = bnd L lo hi (lastQ (qle hi) L + 1)) : (x, y) = bnd L lo hi L.length := by
  have h0 := last_lt (q := qle hi) h.some
  rw [hb]
  have := bnd_end (lo := lo) (hi := hi) h (L.length - (lastQ (qle hi) L + 1)) (by omega)
  rw [show lastQ (qle hi) L + 1 + (L.length - (lastQ (qle hi) L + 1)) = L.length by omega] at this
  exact this.symm
end Go.Proofs.Ytkbaponpebkpiaa.Grm
