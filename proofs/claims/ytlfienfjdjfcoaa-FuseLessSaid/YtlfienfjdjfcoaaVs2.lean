/-
  Package vote's loops, as functions and laws on lists of pairs: what all have, what two have, which stray. No program.
-/
import Derived.Test.YtlfienfjdjfcoaaVs
import Derived.Test.YtlfienfjdjfcoaaSpn
namespace Go.Proofs.Ytlfienfjdjfcoaa.Vs
open Sl Spn

/-- Do two spans meet? -/
def meetB (a b c d : Int) : Bool := decide (max a c ≤ min b d)
theorem meetB_iff {a b c d : Int} : meetB a b c d = true ↔ max a c ≤ min b d := by unfold meetB; simp
theorem meetB_not {a b c d : Int} : meetB a b c d = false ↔ ¬ max a c ≤ min b d := by unfold meetB; simp
theorem hasB_iff {s : Int × Int} {x : Int} : hasB s x = true ↔ s.1 ≤ x ∧ x ≤ s.2 := by unfold hasB; simp
/-- All ends fit in 64 bits. -/
def FitL (L : Spans) : Prop := ∀ s ∈ L, (-9223372036854775808 ≤ s.1 ∧ s.1 ≤ 9223372036854775807) ∧ (-9223372036854775808 ≤ s.2 ∧ s.2 ≤ 9223372036854775807)
theorem FitL.at {L : Spans} (h : FitL L) {i : Nat} (hi : i < L.length) : (-9223372036854775808 ≤ (L[i]!).1 ∧ (L[i]!).1 ≤ 9223372036854775807) ∧ (-9223372036854775808 ≤ (L[i]!).2 ∧ (L[i]!).2 ≤ 9223372036854775807) := by
  rw [getElem!_pos L i hi]
  exact h _ (List.getElem_mem hi)
theorem cnt_all {L : Spans} {x : Int} (h : ∀ j, j < L.length → hasB (L[j]!) x = true) : cnt L x = L.length := by
  unfold cnt
  rw [List.countP_eq_length]
  intro s hs
  obtain ⟨j, hj, rfl⟩ := mem_at hs
  exact h j hj
theorem all_cnt {L : Spans} {x : Int} (h : L.length ≤ cnt L x) : ∀ j, j < L.length → hasB (L[j]!) x = true := by
  have h1 : cnt L x = L.length := Nat.le_antisymm (cnt_le L x) h
  unfold cnt at h1
  rw [List.countP_eq_length] at h1
  intro j hj
  rw [getElem!_pos L j hj]
  exact h1 _ (List.getElem_mem hj)

/-! ### Common -/
structure ComInv (L : Spans) (i : Nat) (a b : Int) : Prop where
  le : a ≤ b
  lo : -9223372036854775808 ≤ a
  hi : b ≤ 9223372036854775807
  iff : ∀ x, (a ≤ x ∧ x ≤ b) ↔ ((-9223372036854775808 ≤ x ∧ x ≤ 9223372036854775807) ∧ ∀ j, j < i → hasB (L[j]!) x = true)
theorem com_start (L : Spans) : ComInv L 0 (-9223372036854775808) 9223372036854775807 := ⟨by omega, by omega, by omega, fun x => ⟨fun h => ⟨h, fun j hj => by omega⟩, fun h => h.1⟩⟩
theorem com_step {L : Spans} {i : Nat} {a b : Int} (h : ComInv L i a b) (hm : meetB a b (L[i]!).1 (L[i]!).2 = true) : ComInv L (i + 1) (max a (L[i]!).1) (min b (L[i]!).2) := by
  have hm' := meetB_iff.1 hm
  have h1 := h.lo
  have h2 := h.hi
  refine ⟨hm', by omega, by omega, fun x => ⟨fun k => ?_, fun k => ?_⟩⟩
  · have k1 := (h.iff x).1 ⟨by omega, by omega⟩
    refine ⟨k1.1, fun j hj => ?_⟩
    rcases Nat.lt_succ_iff_lt_or_eq.1 hj with hj | rfl
    · exact k1.2 j hj
    · exact hasB_iff.2 ⟨by omega, by omega⟩
  · have k1 := (h.iff x).2 ⟨k.1, fun j hj => k.2 j (by omega)⟩
    have k2 := hasB_iff.1 (k.2 i (Nat.lt_succ_self i))
    omega
theorem com_fail {L : Spans} {i : Nat} {a b : Int} (hF : FitL L) (hi : i < L.length) (h : ComInv L i a b) (hm : meetB a b (L[i]!).1 (L[i]!).2 = false) : byZ L (max (L.length : Int) 1) = (0, 0, false) := by
  refine (byZ_of (by omega) ⟨fun h => (by cases h), fun _ x hx => ?_⟩ (fun _ => rfl)).symm
  have hall := all_cnt (L := L) (x := x) (by omega)
  have hs := hasB_iff.1 (hall i hi)
  have hf := hF.at hi
  have k := (h.iff x).2 ⟨by omega, fun j hj => hall j (by omega)⟩
  have := meetB_not.1 hm
  omega
theorem com_end {L : Spans} {a b : Int} (hF : FitL L) (hn : 0 < L.length) (h : ComInv L L.length a b) : byZ L (max (L.length : Int) 1) = (a, b, true) := by
  have h1 := (h.iff a).1 ⟨Int.le_refl _, h.le⟩
  have h2 := (h.iff b).1 ⟨h.le, Int.le_refl _⟩
  refine (byZ_of (by omega) ⟨fun _ => ⟨?_, ?_, fun x hx => ?_⟩, fun h => (by cases h)⟩ (fun h => (by cases h))).symm
  · show max (L.length : Int) 1 ≤ (cnt L a : Int)
    rw [cnt_all h1.2]
    omega
  · show max (L.length : Int) 1 ≤ (cnt L b : Int)
    rw [cnt_all h2.2]
    omega
  · have hall := all_cnt (L := L) (x := x) (by omega)
    have hs := hasB_iff.1 (hall 0 hn)
    have hf := hF.at hn
    exact (h.iff x).2 ⟨by omega, hall⟩
theorem com_none {L : Spans} (h : L.length = 0) : byZ L (max (L.length : Int) 1) = (0, 0, false) := by
  have : L = [] := List.eq_nil_of_length_eq_zero h
  subst this
  refine (byZ_of (by omega) ⟨fun h => (by cases h), fun _ x hx => ?_⟩ (fun _ => rfl)).symm
  simp [cnt] at hx
  omega

/-! ### Two -/
/-- y1 to y2 is the hull of what P holds of, if there is any. -/
structure HullOf (P : Int → Prop) (y : Int × Int) : Prop where
  yes : y.1 ≤ y.2 → P y.1 ∧ P y.2 ∧ ∀ x, P x → y.1 ≤ x ∧ x ≤ y.2
  no : ¬ y.1 ≤ y.2 → ∀ x, ¬ P x
theorem HullOf.congr {P Q : Int → Prop} {y : Int × Int} (h : HullOf P y) (hq : ∀ x, Q x ↔ P x) : HullOf Q y :=
  ⟨fun hy => ⟨(hq _).2 (h.yes hy).1, (hq _).2 (h.yes hy).2.1, fun x hx => (h.yes hy).2.2 x ((hq x).1 hx)⟩, fun hy x hx => h.no hy x ((hq x).1 hx)⟩
theorem HullOf.or {P : Int → Prop} {y1 y2 : Int} (h : HullOf P (y1, y2)) (a b : Int) : HullOf (fun x => P x ∨ (a ≤ x ∧ x ≤ b)) (hullF y1 y2 a b) := by
  unfold hullF
  by_cases hy : y1 ≤ y2
  · rw [if_pos hy]
    have h1 := h.yes hy
    simp only at h1
    by_cases hab : a ≤ b
    · rw [if_pos hab]
      refine ⟨fun _ => ⟨?_, ?_, fun x hx => ?_⟩, fun hn => ?_⟩
      · show P (min y1 a) ∨ _
        by_cases q : y1 ≤ a
        · rw [Int.min_eq_left q]; exact .inl h1.1
        · exact .inr (by simp only; omega)
      · show P (max y2 b) ∨ _
        by_cases q : b ≤ y2
        · rw [Int.max_eq_left q]; exact .inl h1.2.1
        · exact .inr (by simp only; omega)
      · simp only
        rcases hx with hx | hx
        · have := h1.2.2 x hx
          omega
        · omega
      · simp only at hn
        omega
    · rw [if_neg hab]
      refine ⟨fun _ => ⟨.inl h1.1, .inl h1.2.1, fun x hx => ?_⟩, fun hn => absurd hy hn⟩
      rcases hx with hx | hx
      · exact h1.2.2 x hx
      · omega
  · rw [if_neg hy]
    have h1 := h.no hy
    refine ⟨fun hab => ⟨.inr ⟨Int.le_refl _, hab⟩, .inr ⟨hab, Int.le_refl _⟩, fun x hx => ?_⟩, fun hab x hx => ?_⟩
    · rcases hx with hx | hx
      · exact absurd hx (h1 x)
      · exact hx
    · rcases hx with hx | hx
      · exact absurd hx (h1 x)
      · simp only at hab
        omega
/-- In order of their Lo. -/
def Ordered (L : Spans) : Prop := ∀ i j, i < j → j < L.length → (L[i]!).1 ≤ (L[j]!).1
structure TwoInv (M : Spans) (i : Nat) (x1 x2 y1 y2 : Int) : Prop where
  one : HullOf (fun x => 1 ≤ cnt (M.take i) x) (x1, x2)
  two : HullOf (fun x => 2 ≤ cnt (M.take i) x) (y1, y2)
theorem two_start (M : Spans) : TwoInv M 0 1 0 1 0 := by
  refine ⟨⟨fun h => by simp at h, fun _ x hx => ?_⟩, ⟨fun h => by simp at h, fun _ x hx => ?_⟩⟩ <;> simp [cnt] at hx
theorem cnt_succ (M : Spans) (i : Nat) (hi : i < M.length) (x : Int) : cnt (M.take (i + 1)) x = cnt (M.take i) x + (if (M[i]!).1 ≤ x ∧ x ≤ (M[i]!).2 then 1 else 0) := by
  rw [cnt_step M x i hi]
  congr 1
  by_cases h : (M[i]!).1 ≤ x ∧ x ≤ (M[i]!).2
  · rw [if_pos h, if_pos (hasB_iff.2 h)]
  · rw [if_neg h, if_neg (fun k => h (hasB_iff.1 k))]
/-- What the next span shares with those ahead of it. -/
theorem shares {M : Spans} {i : Nat} {x1 x2 : Int} (ho : Ordered M) (hi : i < M.length) (h : HullOf (fun x => 1 ≤ cnt (M.take i) x) (x1, x2)) (x : Int) :
    ((M[i]!).1 ≤ x ∧ x ≤ (M[i]!).2) ∧ 1 ≤ cnt (M.take i) x ↔ max (M[i]!).1 x1 ≤ x ∧ x ≤ min (M[i]!).2 x2 := by
  constructor
  · rintro ⟨h1, h2⟩
    by_cases hx : x1 ≤ x2
    · have := (h.yes hx).2.2 x h2
      simp only at this
      omega
    · exact absurd h2 (h.no hx x)
  · intro h1
    have hx : x1 ≤ x2 := by omega
    have h2 := (h.yes hx).2.1
    simp only at h2
    refine ⟨by omega, ?_⟩
    obtain ⟨t, ht, q1, q2, _⟩ := reach_low (M.take i) x2 (by omega)
    obtain ⟨j, hj, e⟩ := mem_at ht
    have hj' : j < i := by rw [List.length_take] at hj; omega
    have e' : t = M[j]! := by
      rw [← e, getElem!_pos _ j hj, getElem!_pos M j (by omega), List.getElem_take]
    have hord := ho j i hj' hi
    rw [← e'] at hord
    have : 0 < cnt (M.take i) x := List.countP_pos_iff.2 ⟨t, ht, hasB_iff.2 ⟨by omega, by omega⟩⟩
    exact this
theorem two_step {M : Spans} {i : Nat} {x1 x2 y1 y2 : Int} (ho : Ordered M) (hi : i < M.length) (h : TwoInv M i x1 x2 y1 y2) :
    TwoInv M (i + 1) (hullF x1 x2 (M[i]!).1 (M[i]!).2).1 (hullF x1 x2 (M[i]!).1 (M[i]!).2).2 (hullF y1 y2 (max (M[i]!).1 x1) (min (M[i]!).2 x2)).1 (hullF y1 y2 (max (M[i]!).1 x1) (min (M[i]!).2 x2)).2 := by
  refine ⟨(h.one.or _ _).congr (fun x => ?_), (h.two.or _ _).congr (fun x => ?_)⟩
  · rw [cnt_succ M i hi]
    split <;> omega
  · rw [← shares ho hi h.one x, cnt_succ M i hi]
    split <;> omega
theorem two_skip {M : Spans} {i : Nat} {x1 x2 y1 y2 : Int} (ho : Ordered M) (hi : i < M.length) (h : TwoInv M i x1 x2 y1 y2) (hm : meetB (M[i]!).1 (M[i]!).2 x1 x2 = false) :
    TwoInv M (i + 1) (hullF x1 x2 (M[i]!).1 (M[i]!).2).1 (hullF x1 x2 (M[i]!).1 (M[i]!).2).2 y1 y2 := by
  refine ⟨(h.one.or _ _).congr (fun x => ?_), h.two.congr (fun x => ?_)⟩
  · rw [cnt_succ M i hi]
    split <;> omega
  · have hs := shares ho hi h.one x
    have hm' := meetB_not.1 hm
    rw [cnt_succ M i hi]
    have hno : ¬ (((M[i]!).1 ≤ x ∧ x ≤ (M[i]!).2) ∧ 1 ≤ cnt (M.take i) x) := by rw [hs]; omega
    split <;> omega
theorem two_end {L M : Spans} {x1 x2 y1 y2 : Int} (hp : M.Perm L) (h : TwoInv M M.length x1 x2 y1 y2) (hy : decide (y1 ≤ y2) = true) : byZ L 2 = (y1, y2, true) := by
  have h2 := h.two.yes (of_decide_eq_true hy)
  rw [List.take_length] at h2
  simp only at h2
  rw [← byZ_perm (by omega) hp]
  exact (byZ_of (by omega) ⟨fun _ => ⟨by simp only; omega, by simp only; omega, fun x hx => h2.2.2 x (by omega)⟩, fun h => (by cases h)⟩ (fun h => (by cases h))).symm
theorem two_none {L M : Spans} {x1 x2 y1 y2 : Int} (hp : M.Perm L) (h : TwoInv M M.length x1 x2 y1 y2) (hy : decide (y1 ≤ y2) = false) : byZ L 2 = (0, 0, false) := by
  have h2 := h.two.no (of_decide_eq_false hy)
  rw [List.take_length] at h2
  rw [← byZ_perm (by omega) hp]
  exact (byZ_of (by omega) ⟨fun h => (by cases h), fun _ x hx => h2 x (by omega)⟩ (fun _ => rfl)).symm

/-! ### Strays -/
/-- Those of the first i spans that have nothing in common with a to b. -/
def strS (a b : Int) (L : Spans) : Nat → List Int
  | 0 => []
  | i + 1 => if meetB a b (L[i]!).1 (L[i]!).2 = true then strS a b L i else strS a b L i ++ [(i : Int)]
theorem str_no {a b : Int} {L : Spans} {i : Nat} (h : meetB a b (L[i]!).1 (L[i]!).2 = true) : strS a b L (i + 1) = strS a b L i := by rw [strS, if_pos h]
theorem str_yes {a b : Int} {L : Spans} {i : Nat} (h : meetB a b (L[i]!).1 (L[i]!).2 = false) : strS a b L (i + 1) = strS a b L i ++ [(i : Int)] := by rw [strS, if_neg (by rw [h]; decide)]
theorem str_le (a b : Int) (L : Spans) (i : Nat) : (strS a b L i).length ≤ i := by
  induction i with
  | zero => exact Nat.le_refl _
  | succ i ih =>
    by_cases h : meetB a b (L[i]!).1 (L[i]!).2 = true
    · rw [str_no h]; omega
    · rw [str_yes (by simpa using h), List.length_append]
      simp
      omega
/-! ### What the law asks -/
theorem byZ_is (L : Spans) (k : Int) (hk : 1 ≤ k) : IsBy L k (byZ L k) := by
  unfold byZ
  by_cases hr : (byF L k).2.2 = true
  · rw [if_pos hr]; exact by_is L k hk
  · rw [if_neg hr]
    exact ⟨fun h => (by cases h), fun _ => (by_is L k hk).no (by simpa using hr)⟩
end Go.Proofs.Ytlfienfjdjfcoaa.Vs
