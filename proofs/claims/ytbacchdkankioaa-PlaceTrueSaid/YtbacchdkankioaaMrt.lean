/-
  Routes, without a program: their order, a sorted list without twice, the ways that a set grows to. No condition.
  Routes in memory: lists of lists of numbers. No program.
  Routes in memory, further: what a set that grows holds. No program.
  Routes, without a program: where a group lies on them; the grades at some places. No condition.
  Routes, without a program: sets that came of growing; a way that is kept; growing again. No condition.
  Sets of routes in memory, as package route has them. No program.
  Routes over a track that says the same. No program.
-/
import Derived.Test.YtbacchdkankioaaMtk
import Derived.Test.YtbacchdkankioaaSh
namespace Go.Proofs.Ytbacchdkankioaa.Rt
open Sl Vs Gr Tk Tkh Tkl
set_option linter.unusedVariables false
set_option linter.unusedSimpArgs false

abbrev Ro := List Int
/-! ### The order -/
def pad (r : Ro) (i : Nat) : Int := if i < r.length then r[i]! else 0
def key (r : Ro) (i : Nat) : Int := if i < 12 then pad r i else (r.length : Int)
def Lt (a b : Ro) : Prop := ∃ i, i < 13 ∧ (∀ j, j < i → key a j = key b j) ∧ key a i < key b i
noncomputable def ltB (a b : Ro) : Bool := @decide (Lt a b) (Classical.propDecidable _)
theorem ltB_iff {a b : Ro} : ltB a b = true ↔ Lt a b := by unfold ltB; exact @decide_eq_true_iff _ (Classical.propDecidable _)
theorem ltB_at {a b : Ro} {i : Nat} (hi : i < 13) (h : ∀ j, j < i → key a j = key b j) (hne : key a i ≠ key b i) : ltB a b = decide (key a i < key b i) := by
  rw [Bool.eq_iff_iff, ltB_iff, decide_eq_true_iff]
  constructor
  · rintro ⟨k, hk, h1, h2⟩
    rcases Nat.lt_trichotomy k i with h3 | h3 | h3
    · have := h k h3; omega
    · subst h3; exact h2
    · exact absurd (h1 i h3) hne
  · intro h1; exact ⟨i, hi, h, h1⟩
theorem lt_irrefl (a : Ro) : ¬ Lt a a := fun ⟨i, _, _, h⟩ => by omega
theorem lt_trans {a b c : Ro} (h : Lt a b) (k : Lt b c) : Lt a c := by
  obtain ⟨i, i1, i2, i3⟩ := h
  obtain ⟨j, j1, j2, j3⟩ := k
  rcases Nat.lt_trichotomy i j with h3 | h3 | h3
  · exact ⟨i, i1, fun t ht => (i2 t ht).trans (j2 t (by omega)), by have := j2 i h3; omega⟩
  · subst h3; exact ⟨i, i1, fun t ht => (i2 t ht).trans (j2 t ht), by omega⟩
  · exact ⟨j, j1, fun t ht => (i2 t (by omega)).trans (j2 t ht), by have := i2 j h3; omega⟩
theorem lt_tri (a b : Ro) : Lt a b ∨ Lt b a ∨ ∀ i, i < 13 → key a i = key b i := by
  rcases first_bad (fun i => key a i = key b i) 13 with h | ⟨i, h1, h2, h3⟩
  · exact .inr (.inr h)
  · rcases Int.lt_trichotomy (key a i) (key b i) with h4 | h4 | h4
    · exact .inl ⟨i, h1, h3, h4⟩
    · exact absurd h4 h2
    · exact .inr (.inl ⟨i, h1, fun j hj => (h3 j hj).symm, h4⟩)
theorem key_eq {a b : Ro} (ha : a.length ≤ 12) (hb : b.length ≤ 12) (h : ∀ i, i < 13 → key a i = key b i) : a = b := by
  have hl : a.length = b.length := by
    have := h 12 (by omega)
    unfold key at this
    simp only [Nat.lt_irrefl, if_false] at this
    omega
  apply List.ext_getElem hl
  intro i h1 h2
  have := h i (by omega)
  unfold key pad at this
  rw [if_pos (by omega), if_pos (by omega), if_pos (by omega), if_pos (by omega)] at this
  rw [getElem!_pos a i h1, getElem!_pos b i h2] at this
  exact this
theorem lt_tot {a b : Ro} (ha : a.length ≤ 12) (hb : b.length ≤ 12) (h1 : ¬ Lt a b) (h2 : ¬ Lt b a) : a = b := by
  rcases lt_tri a b with h | h | h
  · exact absurd h h1
  · exact absurd h h2
  · exact key_eq ha hb h

/-! ### Into its place, if it isn't there -/
section
variable {α : Type} (lt : α → α → Bool) (x : α)
def pstep (s : Bool × List α) (y : α) : Bool × List α := if s.1 = false ∧ lt y x = false then (true, s.2 ++ (if lt x y = true then [x] else []) ++ [y]) else (s.1, s.2 ++ [y])
def pst (L : List α) : Bool × List α := L.foldl (pstep lt x) (false, [])
def ins : List α → List α
  | [] => [x]
  | y :: ys => if lt y x = true then y :: ins ys else if lt x y = true then x :: y :: ys else y :: ys
theorem fold_done : ∀ (L : List α) (o : List α), L.foldl (pstep lt x) (true, o) = (true, o ++ L) := by
  intro L
  induction L with
  | nil => intro o; simp
  | cons y L ih =>
    intro o
    rw [List.foldl_cons, show pstep lt x (true, o) y = (true, o ++ [y]) by unfold pstep; rw [if_neg (by simp)], ih]
    simp
theorem fold_ins : ∀ (L : List α) (o : List α), (if (L.foldl (pstep lt x) (false, o)).1 = true then (L.foldl (pstep lt x) (false, o)).2 else (L.foldl (pstep lt x) (false, o)).2 ++ [x]) = o ++ ins lt x L := by
  intro L
  induction L with
  | nil => intro o; simp [ins]
  | cons y L ih =>
    intro o
    rw [List.foldl_cons]
    cases hy : lt y x with
    | true =>
      rw [show pstep lt x (false, o) y = (false, o ++ [y]) by unfold pstep; rw [if_neg (by simp [hy])], ih]
      simp [ins, hy]
    | false =>
      rw [show pstep lt x (false, o) y = (true, o ++ (if lt x y = true then [x] else []) ++ [y]) by unfold pstep; rw [if_pos ⟨rfl, hy⟩], fold_done]
      cases hx : lt x y <;> simp [ins, hy, hx]
theorem pst_ins (L : List α) : (if (pst lt x L).1 = true then (pst lt x L).2 else (pst lt x L).2 ++ [x]) = ins lt x L := by
  exact (fold_ins lt x L []).trans (List.nil_append _)
theorem pst_snoc [Inhabited α] (L : List α) {i : Nat} (hi : i < L.length) : pst lt x (L.take (i + 1)) = pstep lt x (pst lt x (L.take i)) L[i]! := by
  unfold pst
  rw [take_snoc L i hi, List.foldl_append]
  rfl
theorem ins_sub : ∀ (L : List α) (y : α), y ∈ ins lt x L → y = x ∨ y ∈ L := by
  intro L
  induction L with
  | nil => intro y h; simp [ins] at h; exact .inl h
  | cons z L ih =>
    intro y h
    unfold ins at h
    split at h
    · rcases List.mem_cons.1 h with h | h
      · exact .inr (by rw [h]; exact List.mem_cons_self)
      · rcases ih y h with h | h
        · exact .inl h
        · exact .inr (List.mem_cons_of_mem _ h)
    · split at h
      · rcases List.mem_cons.1 h with h | h
        · exact .inl h
        · exact .inr h
      · exact .inr h
theorem ins_keep : ∀ (L : List α) (y : α), y ∈ L → y ∈ ins lt x L := by
  intro L
  induction L with
  | nil => intro y h; cases h
  | cons z L ih =>
    intro y h
    unfold ins
    split
    · rcases List.mem_cons.1 h with h | h
      · rw [h]; exact List.mem_cons_self
      · exact List.mem_cons_of_mem _ (ih y h)
    · split
      · exact List.mem_cons_of_mem _ h
      · exact h
theorem ins_len : ∀ (L : List α), L.length ≤ (ins lt x L).length ∧ (ins lt x L).length ≤ L.length + 1 := by
  intro L
  induction L with
  | nil => simp [ins]
  | cons z L ih =>
    unfold ins
    split
    · simp only [List.length_cons]; omega
    · split
      · simp
      · simp
theorem ins_map {β : Type} (f : α → β) (lt' : β → β → Bool) (h : ∀ a b, lt a b = lt' (f a) (f b)) : ∀ L : List α, (ins lt x L).map f = ins lt' (f x) (L.map f) := by
  intro L
  induction L with
  | nil => rfl
  | cons y L ih =>
    rw [List.map_cons]
    unfold ins
    rw [← h, ← h]
    split
    · rw [List.map_cons, ih]
    · split <;> rfl
theorem pst_len (L : List α) : (pst lt x L).2.length ≤ L.length + 1 := by
  have h := ins_len lt x L
  have k := pst_ins lt x L
  rw [← k] at h
  split at h
  · omega
  · simp only [List.length_append, List.length_cons, List.length_nil] at h; omega
end
/-- Rising, none twice. -/
def Asc (L : List Ro) : Prop := L.Pairwise Lt
theorem asc_ins {x : Ro} : ∀ {L : List Ro}, (∀ y ∈ L, y.length ≤ 12) → x.length ≤ 12 → Asc L → Asc (ins ltB x L) ∧ x ∈ ins ltB x L := by
  intro L
  induction L with
  | nil => intro _ _ _; exact ⟨List.pairwise_singleton _ _, List.mem_singleton.2 rfl⟩
  | cons y L ih =>
    intro hl hx h
    obtain ⟨h1, h2⟩ := List.pairwise_cons.1 h
    obtain ⟨i1, i2⟩ := ih (fun z hz => hl z (List.mem_cons_of_mem _ hz)) hx h2
    unfold ins
    split
    · rename_i hy
      refine ⟨List.pairwise_cons.2 ⟨fun z hz => ?_, i1⟩, List.mem_cons_of_mem _ i2⟩
      rcases ins_sub ltB x L z hz with h3 | h3
      · rw [h3]; exact ltB_iff.1 hy
      · exact h1 z h3
    · rename_i hy
      have hy' : ¬ Lt y x := fun k => hy (ltB_iff.2 k)
      split
      · rename_i hxy
        refine ⟨List.pairwise_cons.2 ⟨fun z hz => ?_, h⟩, List.mem_cons_self⟩
        rcases List.mem_cons.1 hz with h3 | h3
        · rw [h3]; exact ltB_iff.1 hxy
        · exact lt_trans (ltB_iff.1 hxy) (h1 z h3)
      · rename_i hxy
        have hxy' : ¬ Lt x y := fun k => hxy (ltB_iff.2 k)
        have e := lt_tot hx (hl y List.mem_cons_self) hxy' hy'
        exact ⟨h, by rw [e]; exact List.mem_cons_self⟩
theorem asc_eq : ∀ {L K : List Ro}, Asc L → Asc K → (∀ r, r ∈ L ↔ r ∈ K) → L = K := by
  intro L
  induction L with
  | nil =>
    intro K _ _ h
    cases K with
    | nil => rfl
    | cons y K => exact absurd ((h y).2 List.mem_cons_self) (by simp)
  | cons x L ih =>
    intro K hL hK h
    cases K with
    | nil => exact absurd ((h x).1 List.mem_cons_self) (by simp)
    | cons y K =>
      obtain ⟨l1, l2⟩ := List.pairwise_cons.1 hL
      obtain ⟨k1, k2⟩ := List.pairwise_cons.1 hK
      have e : x = y := by
        rcases List.mem_cons.1 ((h x).1 List.mem_cons_self) with a | a
        · exact a
        · rcases List.mem_cons.1 ((h y).2 List.mem_cons_self) with b | b
          · exact b.symm
          · exact absurd (lt_trans (l1 y b) (k1 x a)) (lt_irrefl x)
      subst e
      rw [ih l2 k2 (fun r => ?_)]
      constructor
      · intro hr
        rcases List.mem_cons.1 ((h r).1 (List.mem_cons_of_mem _ hr)) with a | a
        · subst a; exact absurd (l1 r hr) (lt_irrefl r)
        · exact a
      · intro hr
        rcases List.mem_cons.1 ((h r).2 (List.mem_cons_of_mem _ hr)) with a | a
        · subst a; exact absurd (k1 r hr) (lt_irrefl r)
        · exact a
theorem sub_len : ∀ {L K : List Ro}, Asc L → (∀ r ∈ L, r ∈ K) → L.length ≤ K.length := by
  intro L
  induction L with
  | nil => intro K _ _; exact Nat.zero_le _
  | cons x L ih =>
    intro K hL h
    obtain ⟨l1, l2⟩ := List.pairwise_cons.1 hL
    have hx := h x List.mem_cons_self
    have := ih (K := K.erase x) l2 (fun r hr => by
      have hne : r ≠ x := fun e => by subst e; exact lt_irrefl r (l1 r hr)
      exact (List.mem_erase_of_ne hne).2 (h r (List.mem_cons_of_mem _ hr)))
    rw [List.length_erase_of_mem hx] at this
    have := List.length_pos_of_mem hx
    rw [List.length_cons]
    omega
/-! ### What a set grows to -/
section
variable (G : List Sg) (f : Int)
def endR (r : Ro) : Int := r.foldl (fun a x => a + (G[x.toNat]!).len) (-f)
def nxt (r : Ro) : List Int := (G[(r[r.length - 1]!).toNat]!).X
variable (hi : Int)
def Stop (r : Ro) : Prop := hi ≤ endR G f r ∨ nxt G r = []
inductive Vis (X : List Ro) : Ro → Prop
  | base {r : Ro} : r ∈ X → Vis X r
  | step {r : Ro} {n : Int} : Vis X r → ¬ Stop G f hi r → n ∈ nxt G r → Vis X (r ++ [n])
def Fin (X : List Ro) (lo : Int) (r : Ro) : Prop := Vis G f hi X r ∧ Stop G f hi r ∧ lo ≤ endR G f r
def Deep (X : List Ro) : Prop := ∃ r, Vis G f hi X r ∧ ¬ Stop G f hi r ∧ 12 ≤ r.length
def Many (X : List Ro) (lo : Int) : Prop := ∃ L, Asc L ∧ 16 < L.length ∧ ∀ r ∈ L, Fin G f hi X lo r
/-- The error and the set that it grows to. -/
def IsGrow (X : List Ro) (lo : Int) (z : Nat × List Ro) : Prop :=
  ((hi < lo ∨ lo < -f) ∧ z = (40, [])) ∨
  (¬ (hi < lo ∨ lo < -f) ∧ (Deep G f hi X ∨ Many G f hi X lo) ∧ z = (13, [])) ∨
  (¬ (hi < lo ∨ lo < -f) ∧ ¬ (Deep G f hi X ∨ Many G f hi X lo) ∧ (∀ r, ¬ Fin G f hi X lo r) ∧ z = (40, [])) ∨
  (¬ (hi < lo ∨ lo < -f) ∧ ¬ (Deep G f hi X ∨ Many G f hi X lo) ∧ (∃ r, Fin G f hi X lo r) ∧ z.1 = 0 ∧ Asc z.2 ∧ ∀ r, r ∈ z.2 ↔ Fin G f hi X lo r)
end
section
variable {G : List Sg} {f hi lo : Int} {X : List Ro}
theorem grow_one {z y : Nat × List Ro} (h : IsGrow G f hi X lo z) (k : IsGrow G f hi X lo y) : z = y := by
  obtain ⟨z1, z2⟩ := z
  obtain ⟨y1, y2⟩ := y
  rcases h with ⟨h0, h1⟩ | ⟨h0, h1, h2⟩ | ⟨h0, h1, h2, h3⟩ | ⟨h0, h1, ⟨h2, h2'⟩, h3, h4, h5⟩ <;>
    rcases k with ⟨k0, k1⟩ | ⟨k0, k1, k2⟩ | ⟨k0, k1, k2, k3⟩ | ⟨k0, k1, ⟨k2, k2'⟩, k3, k4, k5⟩
  · rw [h1, k1]
  · exact absurd h0 k0
  · exact absurd h0 k0
  · exact absurd h0 k0
  · exact absurd k0 h0
  · rw [h2, k2]
  · exact absurd h1 k1
  · exact absurd h1 k1
  · exact absurd k0 h0
  · exact absurd k1 h1
  · rw [h3, k3]
  · exact absurd k2' (h2 k2)
  · exact absurd k0 h0
  · exact absurd k1 h1
  · exact absurd h2' (k2 h2)
  · simp only at h3 k3
    rw [h3, k3, show z2 = y2 from asc_eq h4 k4 (fun r => (h5 r).trans (k5 r).symm)]
noncomputable def growS (G : List Sg) (f hi : Int) (X : List Ro) (lo : Int) : Nat × List Ro := @Classical.epsilon _ ⟨(0, [])⟩ (IsGrow G f hi X lo)
theorem grow_eq {z : Nat × List Ro} (h : IsGrow G f hi X lo z) : growS G f hi X lo = z := by
  refine grow_one ?_ h
  unfold growS
  exact Classical.epsilon_spec (p := IsGrow G f hi X lo) ⟨z, h⟩
theorem vis_of {X Y : List Ro} (h : ∀ r ∈ X, Vis G f hi Y r) : ∀ {r}, Vis G f hi X r → Vis G f hi Y r := by
  intro r k
  induction k with
  | base hr => exact h _ hr
  | step _ hs hn ih => exact .step ih hs hn
theorem vis_one {r : Ro} (h : Vis G f hi X r) : ∃ t ∈ X, Vis G f hi [t] r := by
  induction h with
  | base hr => exact ⟨_, hr, .base (List.mem_singleton.2 rfl)⟩
  | step _ hs hn ih =>
    obtain ⟨t, ht, hv⟩ := ih
    exact ⟨t, ht, .step hv hs hn⟩
theorem vis_head {t r : Ro} (h : Vis G f hi [t] r) : r = t ∨ (¬ Stop G f hi t ∧ ∃ n ∈ nxt G t, Vis G f hi [t ++ [n]] r) := by
  induction h with
  | base hr => exact .inl (List.mem_singleton.1 hr)
  | step hv hs hn ih =>
    rcases ih with e | ⟨h1, n, h2, h3⟩
    · subst e; exact .inr ⟨hs, _, hn, .base (List.mem_singleton.2 rfl)⟩
    · exact .inr ⟨h1, n, h2, .step h3 hs hn⟩
/-- What is done with a way that was seen: it is in its place, or goes on. -/
def Done (G : List Sg) (f hi lo : Int) (o : List Ro) (r : Ro) : Prop := (Stop G f hi r → lo ≤ endR G f r → r ∈ o) ∧ (¬ Stop G f hi r → r.length < 12)
/-- How far a level has come: out, what is left of this level's list, what comes next. -/
structure Lev (G : List Sg) (f hi lo : Int) (X : List Ro) (n : Nat) (o T M : List Ro) : Prop where
  vis : ∀ r ∈ T, Vis G f hi X r
  vism : ∀ r ∈ M, Vis G f hi X r
  long : ∀ r ∈ T, n + 1 ≤ r.length ∧ r.length ≤ 12
  longm : ∀ r ∈ M, n + 2 ≤ r.length ∧ r.length ≤ 12
  asc : Asc o
  few : o.length ≤ 16
  fin : ∀ r ∈ o, Fin G f hi X lo r ∧ r.length ≤ 12
  all : ∀ r, Vis G f hi X r → Done G f hi lo o r ∨ ∃ t ∈ T ++ M, Vis G f hi [t] r
theorem lev_start (h : ∀ r ∈ X, 1 ≤ r.length ∧ r.length ≤ 12) : Lev G f hi lo X 0 [] X [] :=
  ⟨fun r hr => .base hr, fun r hr => (by cases hr), fun r hr => ⟨by have := h r hr; omega, (h r hr).2⟩, fun r hr => (by cases hr), List.Pairwise.nil, Nat.zero_le _, fun r hr => (by cases hr), fun r hr => by
    obtain ⟨t, ht, hv⟩ := vis_one hr
    exact .inr ⟨t, List.mem_append_left _ ht, hv⟩⟩
theorem lev_next {n : Nat} {o M : List Ro} (h : Lev G f hi lo X n o [] M) : Lev G f hi lo X (n + 1) o M [] :=
  ⟨h.vism, fun r hr => (by cases hr), fun r hr => ⟨by have := h.longm r hr; omega, (h.longm r hr).2⟩, fun r hr => (by cases hr), h.asc, h.few, h.fin, fun r hr => by
    rcases h.all r hr with k | ⟨t, ht, hv⟩
    · exact .inl k
    · exact .inr ⟨t, by simpa using ht, hv⟩⟩
theorem done_more {o o' : List Ro} {r : Ro} (h : ∀ x ∈ o, x ∈ o') (k : Done G f hi lo o r) : Done G f hi lo o' r := ⟨fun a b => h _ (k.1 a b), k.2⟩
/-- A way that stops, far enough. -/
theorem lev_put {n : Nat} {o T M : List Ro} {t : Ro} (h : Lev G f hi lo X n o (t :: T) M) (hs : Stop G f hi t) (hl : lo ≤ endR G f t) (hf : (ins ltB t o).length ≤ 16) : Lev G f hi lo X n (ins ltB t o) T M := by
  have ht := h.long t List.mem_cons_self
  obtain ⟨a1, a2⟩ := asc_ins (fun y hy => (h.fin y hy).2) ht.2 h.asc
  refine ⟨fun r hr => h.vis r (List.mem_cons_of_mem _ hr), h.vism, fun r hr => h.long r (List.mem_cons_of_mem _ hr), h.longm, a1, hf, fun r hr => ?_, fun r hr => ?_⟩
  · rcases ins_sub ltB t o r hr with e | e
    · subst e; exact ⟨⟨h.vis _ List.mem_cons_self, hs, hl⟩, ht.2⟩
    · exact h.fin r e
  · rcases h.all r hr with k | ⟨s, hs', hv⟩
    · exact .inl (done_more (ins_keep ltB t o) k)
    · rcases List.mem_append.1 hs' with k | k
      · rcases List.mem_cons.1 k with e | e
        · subst e
          rcases vis_head hv with e2 | ⟨e2, _⟩
          · subst e2; exact .inl ⟨fun _ _ => a2, fun k => absurd hs k⟩
          · exact absurd hs e2
        · exact .inr ⟨s, List.mem_append_left _ e, hv⟩
      · exact .inr ⟨s, List.mem_append_right _ k, hv⟩
/-- .. that stops too early. -/
theorem lev_drop {n : Nat} {o T M : List Ro} {t : Ro} (h : Lev G f hi lo X n o (t :: T) M) (hs : Stop G f hi t) (hl : ¬ lo ≤ endR G f t) : Lev G f hi lo X n o T M := by
  refine ⟨fun r hr => h.vis r (List.mem_cons_of_mem _ hr), h.vism, fun r hr => h.long r (List.mem_cons_of_mem _ hr), h.longm, h.asc, h.few, h.fin, fun r hr => ?_⟩
  rcases h.all r hr with k | ⟨s, hs', hv⟩
  · exact .inl k
  · rcases List.mem_append.1 hs' with k | k
    · rcases List.mem_cons.1 k with e | e
      · subst e
        rcases vis_head hv with e2 | ⟨e2, _⟩
        · subst e2; exact .inl ⟨fun _ k => absurd k hl, fun k => absurd hs k⟩
        · exact absurd hs e2
      · exact .inr ⟨s, List.mem_append_left _ e, hv⟩
    · exact .inr ⟨s, List.mem_append_right _ k, hv⟩
/-- .. that goes on. -/
theorem lev_go {n : Nat} {o T M : List Ro} {t : Ro} (h : Lev G f hi lo X n o (t :: T) M) (hs : ¬ Stop G f hi t) (hl : t.length ≠ 12) : Lev G f hi lo X n o T (M ++ (nxt G t).map (fun n => t ++ [n])) := by
  have ht := h.long t List.mem_cons_self
  refine ⟨fun r hr => h.vis r (List.mem_cons_of_mem _ hr), fun r hr => ?_, fun r hr => h.long r (List.mem_cons_of_mem _ hr), fun r hr => ?_, h.asc, h.few, h.fin, fun r hr => ?_⟩
  · rcases List.mem_append.1 hr with k | k
    · exact h.vism r k
    · obtain ⟨n, hn, rfl⟩ := List.mem_map.1 k
      exact .step (h.vis t List.mem_cons_self) hs hn
  · rcases List.mem_append.1 hr with k | k
    · exact h.longm r k
    · obtain ⟨n, hn, rfl⟩ := List.mem_map.1 k
      rw [List.length_append, List.length_singleton]
      omega
  · rcases h.all r hr with k | ⟨s, hs', hv⟩
    · exact .inl k
    · rcases List.mem_append.1 hs' with k | k
      · rcases List.mem_cons.1 k with e | e
        · subst e
          rcases vis_head hv with e2 | ⟨_, n, hn, hv2⟩
          · subst e2; exact .inl ⟨fun k => absurd k hs, fun _ => by omega⟩
          · exact .inr ⟨s ++ [n], List.mem_append_right _ (List.mem_append_right _ (List.mem_map.2 ⟨n, hn, rfl⟩)), hv2⟩
        · exact .inr ⟨s, List.mem_append_left _ e, hv⟩
      · exact .inr ⟨s, List.mem_append_right _ (List.mem_append_left _ k), hv⟩
/-! ### What comes of it -/
theorem lev_many {n : Nat} {o T M : List Ro} {t : Ro} (h : Lev G f hi lo X n o (t :: T) M) (hs : Stop G f hi t) (hl : lo ≤ endR G f t) (hf : 16 < (ins ltB t o).length) (h0 : ¬ (hi < lo ∨ lo < -f)) : growS G f hi X lo = (13, []) := by
  have ht := h.long t List.mem_cons_self
  obtain ⟨a1, a2⟩ := asc_ins (fun y hy => (h.fin y hy).2) ht.2 h.asc
  refine grow_eq (.inr (.inl ⟨h0, .inr ⟨_, a1, hf, fun r hr => ?_⟩, rfl⟩))
  rcases ins_sub ltB t o r hr with e | e
  · subst e; exact ⟨h.vis _ List.mem_cons_self, hs, hl⟩
  · exact (h.fin r e).1
theorem lev_deep {n : Nat} {o T M : List Ro} {t : Ro} (h : Lev G f hi lo X n o (t :: T) M) (hs : ¬ Stop G f hi t) (hl : t.length = 12) (h0 : ¬ (hi < lo ∨ lo < -f)) : growS G f hi X lo = (13, []) :=
  grow_eq (.inr (.inl ⟨h0, .inl ⟨t, h.vis t List.mem_cons_self, hs, by omega⟩, rfl⟩))
theorem lev_end {n : Nat} {o T : List Ro} (h : Lev G f hi lo X n o T []) (hn : 12 ≤ n) : (∀ r, r ∈ o ↔ Fin G f hi X lo r) ∧ ¬ (Deep G f hi X ∨ Many G f hi X lo) := by
  have hT : T = [] := by
    cases T with
    | nil => rfl
    | cons t T => have := h.long t List.mem_cons_self; omega
  subst hT
  have hall : ∀ r, Vis G f hi X r → Done G f hi lo o r := fun r hr => by
    rcases h.all r hr with k | ⟨t, ht, _⟩
    · exact k
    · simp at ht
  have hfin : ∀ r, r ∈ o ↔ Fin G f hi X lo r := fun r => ⟨fun k => (h.fin r k).1, fun k => (hall r k.1).1 k.2.1 k.2.2⟩
  refine ⟨hfin, ?_⟩
  rintro (⟨r, r1, r2, r3⟩ | ⟨L, l1, l2, l3⟩)
  · have := (hall r r1).2 r2; omega
  · have := sub_len l1 (fun r hr => (hfin r).2 (l3 r hr))
    have := h.few
    omega
theorem lev_none {n : Nat} {T : List Ro} (h : Lev G f hi lo X n [] T []) (hn : 12 ≤ n) (h0 : ¬ (hi < lo ∨ lo < -f)) : growS G f hi X lo = (40, []) := by
  obtain ⟨h1, h2⟩ := lev_end h hn
  exact grow_eq (.inr (.inr (.inl ⟨h0, h2, fun r hr => (by have := (h1 r).2 hr; cases this), rfl⟩)))
theorem lev_some {n : Nat} {o T : List Ro} (h : Lev G f hi lo X n o T []) (hn : 12 ≤ n) (h0 : ¬ (hi < lo ∨ lo < -f)) (ho : o ≠ []) : growS G f hi X lo = (0, o) := by
  obtain ⟨h1, h2⟩ := lev_end h hn
  cases o with
  | nil => exact absurd rfl ho
  | cons r o => exact grow_eq (.inr (.inr (.inr ⟨h0, h2, ⟨r, (h1 r).1 List.mem_cons_self⟩, rfl, h.asc, h1⟩)))
theorem grow_off (h0 : hi < lo ∨ lo < -f) : growS G f hi X lo = (40, []) := grow_eq (.inl ⟨h0, rfl⟩)
end
end Go.Proofs.Ytbacchdkankioaa.Rt
namespace Go.Proofs.Ytbacchdkankioaa.Rtm
open Go.ChangeShapes Go.WideShapes Go.ChangeAt Go.RowKit
open Arr Steady Sx Sw Sl Sb Sc Sh Vs Gr Tk Tkh Tkl Rt
set_option linter.unusedVariables false
set_option linter.unusedSimpArgs false

/-- A list of numbers, with its place. -/
structure Ix where
  p : Option Addr
  X : List Int
  c : Nat
instance : Inhabited Ix := ⟨⟨none, [], 0⟩⟩
def ix (x : Ix) : List Value := [.slice x.p x.X.length x.c]
structure OkIx (w : World) (x : Ix) : Prop where
  rd : Reads w x.p (flat enc1 x.X)
  few : x.X.length ≤ 140737488355328
def OkI (w : World) (T : List Ix) : Prop := ∀ x ∈ T, OkIx w x
theorem ix_at {w : World} {T : List Ix} (h : OkI w T) {i : Nat} (hi : i < T.length) : OkIx w (T[i]!) := by
  rw [getElem!_pos T i hi]
  exact h _ (List.getElem_mem hi)
theorem okix_below {w w' : World} {x : Ix} (h : OkIx w x) (hb : Below w.heap.size w w') : OkIx w' x := ⟨reads_below h.rd hb, h.few⟩
theorem oki_below {w w' : World} {T : List Ix} (h : OkI w T) (hb : Below w.heap.size w w') : OkI w' T := fun x hx => okix_below (h x hx) hb
theorem sl_std {N R : List Rw} {p : Option Addr} {xs : List Value} {w0 : World} (h : SlAt w0 N p xs) (hs : N.Sublist R) : SlAt w0 R p xs := fun W hE => h W (hE.sub hs)
noncomputable def ltI (a b : Ix) : Bool := ltB a.X b.X
theorem insI_map (x : Ix) (T : List Ix) : (ins ltI x T).map (·.X) = ins ltB x.X (T.map (·.X)) := ins_map ltI x (·.X) ltB (fun _ _ => rfl) T
/-- Less, digit by digit. -/
theorem key_in {r : Ro} {i : Nat} (hi : i < 12) (h : i < r.length) : key r i = r[i]! := by unfold key pad; rw [if_pos hi, if_pos h]
theorem key_out {r : Ro} {i : Nat} (hi : i < 12) (h : ¬ i < r.length) : key r i = 0 := by unfold key pad; rw [if_pos hi, if_neg h]
theorem lt_len {a b : Ro} (h : ∀ j, j < 12 → key a j = key b j) : ltB a b = decide ((a.length : Int) < (b.length : Int)) := by
  have ka : key a 12 = (a.length : Int) := rfl
  have kb : key b 12 = (b.length : Int) := rfl
  by_cases e : a.length = b.length
  · rw [e, decide_eq_false (by omega)]
    cases hl : ltB a b with
    | false => rfl
    | true =>
      obtain ⟨i, h1, h2, h3⟩ := ltB_iff.1 hl
      by_cases hi : i < 12
      · have := h i hi; omega
      · obtain rfl : i = 12 := by omega
        omega
  · rw [ltB_at (i := 12) (by omega) h (by omega), ka, kb]
/-- A route's segments are some of the track's. -/
structure RtOk (G : List Sg) (r : Ro) : Prop where
  some : 1 ≤ r.length
  few : r.length ≤ 12
  each : ∀ j, j < r.length → 0 ≤ r[j]! ∧ r[j]! < G.length
theorem end_snoc (G : List Sg) (f : Int) (r : Ro) {i : Nat} (hi : i < r.length) : endR G f (r.take (i + 1)) = endR G f (r.take i) + (G[(r[i]!).toNat]!).len := by
  unfold endR
  rw [take_snoc r i hi, List.foldl_append]
  rfl
theorem end_in {G : List Sg} {f : Int} {r : Ro} (hG : ∀ j, j < G.length → SegMay (G[j]!) G.length) (hr : RtOk G r) : ∀ i, i ≤ r.length → -f + i ≤ endR G f (r.take i) ∧ endR G f (r.take i) ≤ -f + i * 1099511627776 := by
  intro i
  induction i with
  | zero => intro _; rw [List.take_zero]; unfold endR; simp
  | succ i ih =>
    intro hi
    have h1 := ih (by omega)
    have h2 := hr.each i hi
    have h3 := hG (r[i]!).toNat (by omega)
    have h4 := h3.low
    have h5 := h3.high
    rw [end_snoc G f r hi]
    omega
theorem rt_snoc {G : List Sg} {r : Ro} {x : Int} (h : RtOk G r) (hl : r.length ≠ 12) (h0 : 0 ≤ x) (hx : x < G.length) : RtOk G (r ++ [x]) := by
  have := h.few
  refine ⟨by simp, by rw [List.length_append, List.length_singleton]; omega, fun j hj => ?_⟩
  rw [List.length_append, List.length_singleton] at hj
  by_cases hjr : j < r.length
  · rw [getElem!_pos _ j (by rw [List.length_append, List.length_singleton]; omega), List.getElem_append_left hjr, ← getElem!_pos r j hjr]
    exact h.each j hjr
  · obtain rfl : j = r.length := by omega
    rw [getElem!_pos _ r.length (by simp)]
    simpa using ⟨h0, hx⟩
theorem pw_le {n : Nat} (h : n ≤ 13) : 2 ^ n ≤ 8192 := by
  have : 2 ^ n ≤ 2 ^ 13 := Nat.pow_le_pow_right (by omega) h
  omega
section
variable {P : Program} {o : Oper} {a : Act} {x y : Operand} {t t' : TypeId}
theorem run_min2 {t0 t1 : TypeId} {k : IntKind} {X Y Z : Int} (ho : o.op = .call { callee := .builtin .min, args := #[x, y], argTypes := #[t0, t1] }) (hx : a.eval x = .int k X) (hy : a.eval y = .int k Y) (hz : min X Y = Z) (w : World) :
    (execOp a.eval o).run P w = .ok (.value (.int k Z)) w := by
  subst hz
  have key : (Builtin.min_ #[t0, t1] o.type #[.int k X, .int k Y]).run P w = .ok (.int k (min X Y)) w := by
    simp only [Builtin.min_, List.foldlM_cons, List.foldlM_nil, Sem.run_bind, Result.andThen_ok, Sem.run_pure, Builtin.min2]
    congr 2
    split <;> omega
  unfold execOp
  simp only [ho, resolve, invoke, builtin, Sem.run_bind, Sem.run_pure, Result.andThen_ok, List.map_toArray, List.map_cons, List.map_nil, hx, hy, key]
end
/-! ### A number into its place -/
end Go.Proofs.Ytbacchdkankioaa.Rtm
namespace Go.Proofs.Ytbacchdkankioaa.Rtg
open Go.ChangeShapes Go.WideShapes Go.ChangeAt Go.RowKit
open Arr Steady Sx Sw Sl Sb Sc Sh Vs Gr Tk Tkh Tkl Rt Rtm
set_option linter.unusedVariables false
set_option linter.unusedSimpArgs false

abbrev xs (T : List Ix) : List Ro := T.map (·.X)
theorem xs_drop {T : List Ix} {i : Nat} (hi : i < T.length) : (xs T).drop i = (T[i]!).X :: (xs T).drop (i + 1) := by
  rw [List.drop_eq_getElem_cons (by simpa using hi), List.getElem_map, getElem!_pos T i hi]
theorem xs_snoc (T : List Ix) (x : Ix) : xs (T ++ [x]) = xs T ++ [x.X] := by simp [xs]
theorem xs_len (T : List Ix) : (xs T).length = T.length := by simp [xs]
/-- Where the routes of a list come from: some of the first ones, or rows of N; each goes over segments. -/
structure Mem (G : List Sg) (T0 : List Ix) (N : List Rw) (L : List Ix) : Prop where
  src : ∀ x ∈ L, x ∈ T0 ∨ Held N x.p (flat enc1 x.X)
  rt : ∀ x ∈ L, RtOk G x.X
theorem Mem.mono {G : List Sg} {T0 L : List Ix} {N R : List Rw} (h : Mem G T0 N L) (hs : N.Sublist R) : Mem G T0 R L := ⟨fun x hx => (h.src x hx).imp id (fun k => k.mono hs), h.rt⟩
theorem mem_nil {G : List Sg} {T0 : List Ix} {N : List Rw} : Mem G T0 N [] := ⟨fun x hx => (by cases hx), fun x hx => (by cases hx)⟩
theorem mem_start {G : List Sg} {T0 : List Ix} {N : List Rw} (h : ∀ x ∈ T0, RtOk G x.X) : Mem G T0 N T0 := ⟨fun x hx => .inl hx, h⟩
theorem get_mem {T : List Ix} {i : Nat} (hi : i < T.length) : T[i]! ∈ T := by
  rw [getElem!_pos T i hi]
  exact List.getElem_mem hi
theorem mem_rt {G : List Sg} {T0 T : List Ix} {N : List Rw} (h : Mem G T0 N T) {i : Nat} (hi : i < T.length) : RtOk G (T[i]!).X := h.rt _ (get_mem hi)
theorem mem_ins {G : List Sg} {T0 T O : List Ix} {N : List Rw} {x : Ix} (h : Mem G T0 N O) (k : Mem G T0 N T) (hx : x ∈ T) : Mem G T0 N (ins ltI x O) :=
  ⟨fun y hy => (ins_sub ltI x O y hy).elim (fun e => e ▸ k.src x hx) (fun e => h.src y e), fun y hy => (ins_sub ltI x O y hy).elim (fun e => e ▸ k.rt x hx) (fun e => h.rt y e)⟩
theorem mem_snoc {G : List Sg} {T0 O : List Ix} {N : List Rw} {x : Ix} (h : Mem G T0 N O) (k : Held N x.p (flat enc1 x.X)) (hx : RtOk G x.X) : Mem G T0 N (O ++ [x]) :=
  ⟨fun y hy => (List.mem_append.1 hy).elim (fun e => h.src y e) (fun e => .inr ((List.mem_singleton.1 e) ▸ k)), fun y hy => (List.mem_append.1 hy).elim (fun e => h.rt y e) (fun e => (List.mem_singleton.1 e) ▸ hx)⟩
theorem mem_std {G : List Sg} {T0 T : List Ix} {N : List Rw} {w : World} (hO : OkI w T0) (h : Mem G T0 N T) {i : Nat} (hi : i < T.length) : SlAt w N (T[i]!).p (flat enc1 (T[i]!).X) := by
  rcases h.src _ (get_mem hi) with k | k
  · exact sl_old (hO _ k).rd
  · exact k w
theorem mem_ok {G : List Sg} {T0 T : List Ix} {N R : List Rw} {w W : World} (hO : OkI w T0) (h : Mem G T0 N T) (hs : N.Sublist R) (hE : Env w W R) : OkI W T := fun x hx => by
  refine ⟨?_, by have := (h.rt x hx).few; omega⟩
  rcases h.src x hx with k | k
  · exact reads_below (hO x k).rd hE.below
  · exact held_at k hs hE
theorem ix_app (p : Option Addr) (X : List Int) (y : Int) (c : Nat) : ix ⟨p, X ++ [y], c⟩ = [.slice p (X.length + 1) c] := by simp [ix]
/-- What Grow hands back. -/
structure Gz where
  e : Nat
  F : Int
  p : Option Addr
  O : List Ix
  c : Nat
  N : List Rw
structure GzOk (G : List Sg) (f hi lo : Int) (T0 : List Ix) (z : Gz) : Prop where
  is : growS G f hi (xs T0) lo = (z.e, xs z.O)
  frm : z.e = 0 → z.F = f
  held : Held z.N z.p (flat ix z.O)
  mem : Mem G T0 z.N z.O
theorem gz_err {G : List Sg} {f hi lo : Int} {T0 : List Ix} {k : Nat} (h : growS G f hi (xs T0) lo = (k, [])) (hk : k ≠ 0) : GzOk G f hi lo T0 ⟨k, 0, none, [], 0, []⟩ :=
  ⟨h, fun e => absurd e hk, fun _ _ _ => reads_nil _ _, mem_nil⟩
theorem stop_iff {G : List Sg} {f hi : Int} {r : Ro} : Stop G f hi r ↔ hi ≤ endR G f r ∨ (nxt G r).length = 0 := by
  unfold Stop
  constructor
  · rintro (h | h)
    · exact .inl h
    · exact .inr (by rw [h]; rfl)
  · rintro (h | h)
    · exact .inl h
    · exact .inr (List.eq_nil_of_length_eq_zero h)
theorem lev_len {G : List Sg} {f hi lo : Int} {X : List Ro} {n : Nat} {O : List Ix} {T M : List Ro} (h : Lev G f hi lo X n (xs O) T M) : O.length ≤ 16 := by
  have := h.few
  rwa [xs_len] at this
end Go.Proofs.Ytbacchdkankioaa.Rtg
namespace Go.Proofs.Ytbacchdkankioaa.Rtp
open Go.ChangeShapes Go.WideShapes Go.ChangeAt Go.RowKit
open Sl Vs Gr Tk Tkh Tkl Rt Rtm Rtg
set_option linter.unusedVariables false
set_option linter.unusedSimpArgs false

end Go.Proofs.Ytbacchdkankioaa.Rtp
namespace Go.Proofs.Ytbacchdkankioaa.Rtk
open Go.ChangeShapes Go.WideShapes Go.ChangeAt Go.RowKit
open Sl Vs Gr Tk Tkh Tkl Rt Rtm Rtg Rtp
set_option linter.unusedVariables false
set_option linter.unusedSimpArgs false

/-- A route from a segment on, each segment behind the one before. -/
structure RtWf (G : List Sg) (s0 : Int) (r : Ro) : Prop where
  ok : RtOk G r
  first : r[0]! = s0
  chain : ∀ j, j + 1 < r.length → r[j + 1]! ∈ (G[(r[j]!).toNat]!).X
/-- A set that Begin and Grow hand back. -/
structure SetOk (G : List Sg) (s0 f : Int) (X : List Ro) : Prop where
  wf : ∀ r ∈ X, RtWf G s0 r
  asc : Asc X
  some : 1 ≤ X.length
  few : X.length ≤ 16
  seg0 : 0 ≤ s0 ∧ s0 < G.length
  frm : 0 ≤ f ∧ f ≤ (G[s0.toNat]!).len
abbrev Segs (G : List Sg) : Prop := ∀ j, j < G.length → SegMay (G[j]!) G.length
theorem get_app {r : Ro} {n : Int} {j : Nat} (hj : j < r.length) : (r ++ [n])[j]! = r[j]! := by
  rw [getElem!_pos _ j (by rw [List.length_append]; omega), List.getElem_append_left hj, ← getElem!_pos r j hj]
theorem get_end (r : Ro) (n : Int) : (r ++ [n])[r.length]! = n := by
  rw [getElem!_pos _ r.length (by simp)]
  simp
theorem wf_snoc {G : List Sg} {s0 n : Int} {r : Ro} (hG : Segs G) (h : RtWf G s0 r) (hl : r.length ≠ 12) (hn : n ∈ nxt G r) : RtWf G s0 (r ++ [n]) := by
  have h1 := h.ok.some
  have hm := hG (r[r.length - 1]!).toNat (by have := h.ok.each (r.length - 1) (by omega); omega)
  obtain ⟨k, hk, rfl⟩ := List.mem_iff_getElem.1 hn
  have he := hm.each k hk
  rw [getElem!_pos _ k hk] at he
  refine ⟨rt_snoc h.ok hl he.1 he.2, by rw [get_app (by omega)]; exact h.first, fun j hj => ?_⟩
  rw [List.length_append, List.length_singleton] at hj
  by_cases e : j + 1 < r.length
  · rw [get_app e, get_app (by omega)]
    exact h.chain j e
  · obtain rfl : j = r.length - 1 := by omega
    rw [show r.length - 1 + 1 = r.length by omega, get_end, get_app (by omega)]
    exact hn
section
variable {G : List Sg} {f hi lo s0 : Int} {X : List Ro}
theorem vis_wf (hG : Segs G) (hX : ∀ r ∈ X, RtWf G s0 r) (hD : ¬ Deep G f hi X) : ∀ {r}, Vis G f hi X r → RtWf G s0 r := by
  intro r h
  induction h with
  | base hr => exact hX _ hr
  | step hv hs hn ih =>
    refine wf_snoc hG ih (fun e => hD ⟨_, hv, hs, ?_⟩) hn
    exact Nat.le_of_eq e.symm
/-- There is a set that it grows to, or an error. -/
theorem grow_is (hG : Segs G) (hX : ∀ r ∈ X, RtWf G s0 r) : IsGrow G f hi X lo (growS G f hi X lo) := by
  have key : ∃ z, IsGrow G f hi X lo z := by
    by_cases h0 : hi < lo ∨ lo < -f
    · exact ⟨_, .inl ⟨h0, rfl⟩⟩
    by_cases h1 : Deep G f hi X ∨ Many G f hi X lo
    · exact ⟨_, .inr (.inl ⟨h0, h1, rfl⟩)⟩
    by_cases h2 : ∃ r, Fin G f hi X lo r
    · have all : ∀ d (L : List Ro), 16 - L.length = d → Asc L → (∀ r ∈ L, Fin G f hi X lo r) → ∃ L', Asc L' ∧ ∀ r, r ∈ L' ↔ Fin G f hi X lo r := by
        intro d
        induction d with
        | zero =>
          intro L hd ha hL
          refine ⟨L, ha, fun r => ⟨hL r, fun hr => ?_⟩⟩
          exact Classical.byContradiction fun hn => h1 (.inr ⟨ins ltB r L, (asc_ins (fun y hy => (vis_wf hG hX (fun k => h1 (.inl k)) (hL y hy).1).ok.few) (vis_wf hG hX (fun k => h1 (.inl k)) hr.1).ok.few ha).1, by
            have := sub_len (L := ins ltB r L) (K := ins ltB r L) (asc_ins (fun y hy => (vis_wf hG hX (fun k => h1 (.inl k)) (hL y hy).1).ok.few) (vis_wf hG hX (fun k => h1 (.inl k)) hr.1).ok.few ha).1 (fun r hr => hr)
            have h5 : (r :: L).length ≤ (ins ltB r L).length := by
              have hnd : (r :: L).Nodup := List.nodup_cons.2 ⟨hn, ha.imp (fun {a b} hab e => by subst e; exact lt_irrefl a hab)⟩
              exact hnd.length_le_of_subset (fun x hx => by
                rcases List.mem_cons.1 hx with e | e
                · subst e; exact (asc_ins (fun y hy => (vis_wf hG hX (fun k => h1 (.inl k)) (hL y hy).1).ok.few) (vis_wf hG hX (fun k => h1 (.inl k)) hr.1).ok.few ha).2
                · exact ins_keep ltB r L x e)
            rw [List.length_cons] at h5
            omega, fun y hy => by
            rcases ins_sub ltB r L y hy with e | e
            · subst e; exact hr
            · exact hL y e⟩)
        | succ d ih =>
          intro L hd ha hL
          by_cases hall : ∀ r, Fin G f hi X lo r → r ∈ L
          · exact ⟨L, ha, fun r => ⟨hL r, hall r⟩⟩
          · obtain ⟨r, hr⟩ := Classical.not_forall.1 hall
            obtain ⟨hr, hn⟩ := Classical.not_imp.1 hr
            have a := asc_ins (x := r) (fun y hy => (vis_wf hG hX (fun k => h1 (.inl k)) (hL y hy).1).ok.few) (vis_wf hG hX (fun k => h1 (.inl k)) hr.1).ok.few ha
            have h5 : (r :: L).length ≤ (ins ltB r L).length := by
              have hnd : (r :: L).Nodup := List.nodup_cons.2 ⟨hn, ha.imp (fun {a b} hab e => by subst e; exact lt_irrefl a hab)⟩
              exact hnd.length_le_of_subset (fun x hx => by
                rcases List.mem_cons.1 hx with e | e
                · subst e; exact a.2
                · exact ins_keep ltB r L x e)
            have h6 := (ins_len ltB r L).2
            rw [List.length_cons] at h5
            exact ih (ins ltB r L) (by omega) a.1 (fun y hy => by
              rcases ins_sub ltB r L y hy with e | e
              · subst e; exact hr
              · exact hL y e)
      obtain ⟨L, l1, l2⟩ := all 16 [] rfl List.Pairwise.nil (fun r hr => (by cases hr))
      exact ⟨(0, L), .inr (.inr (.inr ⟨h0, h1, h2, rfl, l1, l2⟩))⟩
    · exact ⟨_, .inr (.inr (.inl ⟨h0, h1, fun r hr => h2 ⟨r, hr⟩, rfl⟩))⟩
  obtain ⟨z, hz⟩ := key
  rw [grow_eq hz]
  exact hz
/-- What is told where it grows. -/
theorem grow_yes {Y : List Ro} (hG : Segs G) (hX : ∀ r ∈ X, RtWf G s0 r) (h : growS G f hi X lo = (0, Y)) : ¬ (hi < lo ∨ lo < -f) ∧ ¬ Deep G f hi X ∧ ¬ Many G f hi X lo ∧ (∃ r, Fin G f hi X lo r) ∧ Asc Y ∧ ∀ r, r ∈ Y ↔ Fin G f hi X lo r := by
  have k := grow_is (f := f) (hi := hi) (lo := lo) hG hX
  rw [h] at k
  rcases k with ⟨_, k1⟩ | ⟨_, _, k1⟩ | ⟨_, _, _, k1⟩ | ⟨k0, k1, k2, _, k4, k5⟩
  · cases k1
  · cases k1
  · cases k1
  · exact ⟨k0, fun z => k1 (.inl z), fun z => k1 (.inr z), k2, k4, k5⟩
theorem grow_none {e : Nat} {Y : List Ro} (hG : Segs G) (hX : ∀ r ∈ X, RtWf G s0 r) (h : growS G f hi X lo = (e, Y)) (he : e ≠ 0) : Y = [] ∧ (e = 13 ∨ e = 40) := by
  have k := grow_is (f := f) (hi := hi) (lo := lo) hG hX
  rw [h] at k
  rcases k with ⟨_, k1⟩ | ⟨_, _, k1⟩ | ⟨_, _, _, k1⟩ | ⟨_, _, _, k1, _⟩
  · cases k1; exact ⟨rfl, .inr rfl⟩
  · cases k1; exact ⟨rfl, .inl rfl⟩
  · cases k1; exact ⟨rfl, .inr rfl⟩
  · exact absurd k1 he
theorem grow_ok {Y : List Ro} (hG : Segs G) (hX : SetOk G s0 f X) (h : growS G f hi X lo = (0, Y)) : SetOk G s0 f Y := by
  obtain ⟨h0, h1, h2, ⟨r, hr⟩, h4, h5⟩ := grow_yes hG hX.wf h
  refine ⟨fun r hr => vis_wf hG hX.wf h1 ((h5 r).1 hr).1, h4, List.length_pos_of_mem ((h5 r).2 hr), ?_, hX.seg0, hX.frm⟩
  exact Classical.byContradiction fun hn => h2 ⟨Y, h4, by omega, fun r hr => (h5 r).1 hr⟩
theorem begin_ok (h0 : 0 ≤ s0 ∧ s0 < G.length) (hf : 0 ≤ f ∧ f ≤ (G[s0.toNat]!).len) : SetOk G s0 f [[s0]] :=
  ⟨fun r hr => by
    obtain rfl := List.mem_singleton.1 hr
    exact ⟨⟨by simp, by simp, fun j hj => by obtain rfl : j = 0 := by simpa using hj
                                             exact h0⟩, rfl, fun j hj => by simp at hj⟩, List.pairwise_singleton _ _, by simp, by simp, h0, hf⟩
/-! ### Growing again -/
theorem again {Y : List Ro} (hS : ∀ r ∈ Y, Stop G f hi r ∧ lo ≤ endR G f r) (ha : Asc Y) (h1 : 1 ≤ Y.length) (h2 : Y.length ≤ 16) (h0 : ¬ (hi < lo ∨ lo < -f)) : growS G f hi Y lo = (0, Y) := by
  have hv : ∀ {r}, Vis G f hi Y r → r ∈ Y := by
    intro r h
    induction h with
    | base hr => exact hr
    | step hv hs hn ih => exact absurd (hS _ ih).1 hs
  have hf : ∀ r, r ∈ Y ↔ Fin G f hi Y lo r := fun r => ⟨fun hr => ⟨.base hr, hS r hr⟩, fun hr => hv hr.1⟩
  refine grow_eq (.inr (.inr (.inr ⟨h0, ?_, ?_, rfl, ha, hf⟩)))
  · rintro (⟨r, r1, r2, _⟩ | ⟨L, l1, l2, l3⟩)
    · exact r2 (hS r (hv r1)).1
    · have := sub_len l1 (fun r hr => (hf r).2 (l3 r hr)); omega
  · cases Y with
    | nil => simp at h1
    | cons r Y => exact ⟨r, (hf r).1 List.mem_cons_self⟩
/-! ### A way that is kept -/
def Agree (r P : Ro) : Prop := ∀ k, k < r.length → k < P.length → r[k]! = P[k]!
def HasR (X : List Ro) (P : Ro) : Prop := ∃ r ∈ X, Agree r P
noncomputable def hasB (X : List Ro) (P : Ro) : Bool := @decide (HasR X P) (Classical.propDecidable _)
theorem hasB_yes {X : List Ro} {P : Ro} (h : HasR X P) : hasB X P = true := by unfold hasB; exact @decide_eq_true _ (Classical.propDecidable _) h
theorem hasB_no {X : List Ro} {P : Ro} (h : ¬ HasR X P) : hasB X P = false := by unfold hasB; exact @decide_eq_false _ (Classical.propDecidable _) h
theorem end_mono (hG : Segs G) {r : Ro} (hr : RtOk G r) : ∀ d i, i + d = r.length → endR G f (r.take i) ≤ endR G f r := by
  intro d
  induction d with
  | zero => intro i hi; rw [List.take_of_length_le (by omega)]; exact Int.le_refl _
  | succ d ih =>
    intro i hi
    have h1 := ih (i + 1) (by omega)
    rw [end_snoc G f r (by omega)] at h1
    have h2 := hr.each i (by omega)
    have := (hG (r[i]!).toNat (by omega)).low
    omega
theorem agree_take {r P : Ro} (h : Agree r P) (hl : P.length ≤ r.length) : r.take P.length = P := by
  apply List.ext_getElem (by rw [List.length_take]; omega)
  intro i h1 h2
  have := h i (by omega) h2
  rw [getElem!_pos r i (by omega), getElem!_pos P i h2] at this
  rw [List.getElem_take]
  exact this
theorem agree_snoc {r P : Ro} {n : Int} (h : Agree r P) (hn : r.length < P.length → n = P[r.length]!) : Agree (r ++ [n]) P := by
  intro k hk hk2
  rw [List.length_append, List.length_singleton] at hk
  by_cases e : k < r.length
  · rw [get_app e]; exact h k e hk2
  · obtain rfl : k = r.length := by omega
    rw [get_end]; exact hn hk2
theorem keep_far (hG : Segs G) (hX : ∀ r ∈ X, RtWf G s0 r) (hD : ¬ Deep G f hi X) {P : Ro} (hP : lo ≤ endR G f P) : ∀ d r, 12 - r.length = d → Vis G f hi X r → Agree r P → P.length ≤ r.length → ∃ r', Fin G f hi X lo r' ∧ Agree r' P := by
  intro d
  induction d with
  | zero =>
    intro r hd hv ha hl
    have hw := vis_wf hG hX hD hv
    have hs : Stop G f hi r := Classical.byContradiction fun hs => hD ⟨r, hv, hs, by omega⟩
    refine ⟨r, ⟨hv, hs, ?_⟩, ha⟩
    have := end_mono (f := f) hG hw.ok (r.length - P.length) P.length (by omega)
    rw [agree_take ha hl] at this
    omega
  | succ d ih =>
    intro r hd hv ha hl
    have hw := vis_wf hG hX hD hv
    by_cases hs : Stop G f hi r
    · refine ⟨r, ⟨hv, hs, ?_⟩, ha⟩
      have := end_mono (f := f) hG hw.ok (r.length - P.length) P.length (by omega)
      rw [agree_take ha hl] at this
      omega
    · cases hn : nxt G r with
      | nil => exact absurd (.inr hn) hs
      | cons n Y =>
        exact ih (r ++ [n]) (by rw [List.length_append, List.length_singleton]; omega) (.step hv hs (by rw [hn]; exact List.mem_cons_self)) (agree_snoc ha (fun k => by omega)) (by rw [List.length_append]; omega)
theorem keep_near (hG : Segs G) (hX : ∀ r ∈ X, RtWf G s0 r) (hD : ¬ Deep G f hi X) {P : Ro} (hw : RtWf G s0 P) (hP : lo ≤ endR G f P) (hl : lo ≤ hi) : ∀ d r, P.length - r.length = d → Vis G f hi X r → Agree r P → ∃ r', Fin G f hi X lo r' ∧ Agree r' P := by
  intro d
  induction d with
  | zero => intro r hd hv ha; exact keep_far hG hX hD hP _ r rfl hv ha (by omega)
  | succ d ih =>
    intro r hd hv ha
    have hr := vis_wf hG hX hD hv
    have h1 := hr.ok.some
    have hn : P[r.length]! ∈ nxt G r := by
      have := hw.chain (r.length - 1) (by omega)
      rw [show r.length - 1 + 1 = r.length by omega, ← ha (r.length - 1) (by omega) (by omega)] at this
      exact this
    by_cases hs : Stop G f hi r
    · rcases hs with hs | hs
      · exact ⟨r, ⟨hv, .inl hs, by omega⟩, ha⟩
      · rw [hs] at hn; cases hn
    · exact ih (r ++ [P[r.length]!]) (by rw [List.length_append, List.length_singleton]; omega) (.step hv hs hn) (agree_snoc ha (fun _ => rfl))
/-- A way that is within the places is kept. -/
theorem keep {e : Nat} {Y : List Ro} {P : Ro} (hG : Segs G) (hX : SetOk G s0 f X) (hw : RtWf G s0 P) (hP : lo ≤ endR G f P) (hh : HasR X P) (h0 : ¬ (hi < lo ∨ lo < -f)) (h : growS G f hi X lo = (e, Y)) (he : e ≠ 13) : e = 0 ∧ HasR Y P := by
  have k := grow_is (f := f) (hi := hi) (lo := lo) hG hX.wf
  obtain ⟨r, r1, r2⟩ := hh
  rw [h] at k
  rcases k with ⟨k0, _⟩ | ⟨_, _, k1⟩ | ⟨_, k1, k2, _⟩ | ⟨_, k1, _, k3, _, k5⟩
  · exact absurd k0 h0
  · cases k1; exact absurd rfl he
  · obtain ⟨r', f1, _⟩ := keep_near hG hX.wf (fun z => k1 (.inl z)) hw hP (by omega) _ r rfl (.base r1) r2
    exact absurd f1 (k2 r')
  · obtain ⟨r', f1, f2⟩ := keep_near hG hX.wf (fun z => k1 (.inl z)) hw hP (by omega) _ r rfl (.base r1) r2
    exact ⟨k3, r', (k5 r').2 f1, f2⟩
end
end Go.Proofs.Ytbacchdkankioaa.Rtk
namespace Go.Proofs.Ytbacchdkankioaa.Rts
open Go.ChangeShapes Go.WideShapes Go.ChangeAt Go.RowKit
open Arr Steady Sx Sw Sl Sb Sc Sh Vs Gr Tk Tkh Tkl Rt Rtm Rtg Rtp Rtk
set_option linter.unusedVariables false
set_option linter.unusedSimpArgs false

def rt (r : Ro) : List Value := [.int .i64 (r.length : Int), .int .i64 (pad r 0), .int .i64 (pad r 1), .int .i64 (pad r 2), .int .i64 (pad r 3), .int .i64 (pad r 4), .int .i64 (pad r 5), .int .i64 (pad r 6), .int .i64 (pad r 7), .int .i64 (pad r 8), .int .i64 (pad r 9), .int .i64 (pad r 10), .int .i64 (pad r 11)]
def rti (x : Ix) : List Value := rt x.X
theorem rt_one : ∀ x, ∀ u ∈ rt x, u.oneCell' = true := by
  intro x u hu
  simp [rt] at hu
  rcases hu with rfl | rfl | rfl | rfl | rfl | rfl | rfl | rfl | rfl | rfl | rfl | rfl | rfl <;> rfl
theorem flat_rti (O : List Ix) : flat rt (xs O) = flat rti O := by
  unfold flat xs
  rw [List.flatMap_map]
  rfl
theorem rt_cell {r : Ro} {k : Nat} (hk : k < 12) : (#[.int .i64 (r.length : Int), .int .i64 (pad r 0), .int .i64 (pad r 1), .int .i64 (pad r 2), .int .i64 (pad r 3), .int .i64 (pad r 4), .int .i64 (pad r 5), .int .i64 (pad r 6), .int .i64 (pad r 7), .int .i64 (pad r 8), .int .i64 (pad r 9), .int .i64 (pad r 10), .int .i64 (pad r 11)] : Array Value)[1 + k]? = some (.int .i64 (pad r k)) := by
  match k, hk with
  | 0, _ => rfl
  | 1, _ => rfl
  | 2, _ => rfl
  | 3, _ => rfl
  | 4, _ => rfl
  | 5, _ => rfl
  | 6, _ => rfl
  | 7, _ => rfl
  | 8, _ => rfl
  | 9, _ => rfl
  | 10, _ => rfl
  | 11, _ => rfl
theorem pad_in {r : Ro} {i : Nat} (h : i < r.length) : pad r i = r[i]! := by unfold pad; rw [if_pos h]
/-- Where a set's routes lie. -/
structure Sz where
  p : Option Addr
  X : List Ro
  c : Nat
  N : List Rw
structure Lz where
  p : Option Addr
  L : List Int
  c : Nat
  N : List Rw
structure Pz where
  p : Option Addr
  c : Nat
  N : List Rw
/-- What Grow hands back. -/
structure Gp2 where
  e : Nat
  F : Int
  p : Option Addr
  X : List Ro
  c : Nat
  N : List Rw
structure Gp2Ok (G : List Sg) (f hi lo : Int) (X : List Ro) (z : Gp2) : Prop where
  is : growS G f hi X lo = (z.e, z.X)
  frm : z.e = 0 → z.F = f
  held : Held z.N z.p (flat rt z.X)
end Go.Proofs.Ytbacchdkankioaa.Rts
namespace Go.Proofs.Ytbacchdkankioaa.Rtsm
open Go.ChangeShapes Go.WideShapes Go.ChangeAt Go.RowKit
open Arr Steady Sx Sw Sl Sb Sc Sh Vs Gr Tk Tkh Tkl Rt Rtm Rtg Rtp Rtk Rts
set_option linter.unusedVariables false
set_option linter.unusedSimpArgs false

section
variable {G K : List Sg} {f hi lo : Int} {X : List Ro}
theorem same_get (h : Same G K) (j : Nat) : (K[j]!).len = (G[j]!).len ∧ (K[j]!).P = (G[j]!).P ∧ (K[j]!).X = (G[j]!).X := by
  by_cases hj : j < G.length
  · exact h.each j hj
  · have h1 : K[j]! = default := by rw [getElem!_def, List.getElem?_eq_none (by have := h.length; omega)]
    have h2 : G[j]! = default := by rw [getElem!_def, List.getElem?_eq_none (by omega)]
    rw [h1, h2]
    exact ⟨rfl, rfl, rfl⟩
theorem endR_same (h : Same G K) : endR K f = endR G f := by
  funext r
  unfold endR
  congr 1
  funext a x
  rw [(same_get h _).1]
theorem nxt_same (h : Same G K) : nxt K = nxt G := by
  funext r
  unfold nxt
  rw [(same_get h _).2.2]
theorem stop_same (h : Same G K) : Stop K f hi = Stop G f hi := by
  funext r
  unfold Stop
  rw [endR_same h, nxt_same h]
theorem vis_same1 (h : Same G K) {r : Ro} (k : Vis G f hi X r) : Vis K f hi X r := by
  induction k with
  | base hr => exact .base hr
  | step hv hs hn ih => exact .step ih (by rw [stop_same h]; exact hs) (by rw [nxt_same h]; exact hn)
theorem vis_same (h : Same G K) : Vis K f hi X = Vis G f hi X := by
  funext r
  exact propext ⟨vis_same1 h.symm, vis_same1 h⟩
theorem fin_same (h : Same G K) : Rt.Fin K f hi X lo = Rt.Fin G f hi X lo := by
  funext r
  unfold Rt.Fin
  rw [vis_same h, stop_same h, endR_same h]
theorem grow_same (h : Same G K) : growS K f hi X lo = growS G f hi X lo := by
  have hd : Deep K f hi X = Deep G f hi X := by unfold Deep; rw [vis_same h, stop_same h]
  have hm : Many K f hi X lo = Many G f hi X lo := by unfold Many; rw [fin_same h]
  unfold growS
  rw [show IsGrow K f hi X lo = IsGrow G f hi X lo from by unfold IsGrow; rw [hd, hm, fin_same h]]
theorem rtok_same (h : Same G K) {r : Ro} (k : RtOk G r) : RtOk K r := ⟨k.some, k.few, fun j hj => by rw [h.length]; exact k.each j hj⟩
theorem mem_same (h : Same G K) {T0 L : List Ix} {N : List Rw} (k : Mem K T0 N L) : Mem G T0 N L := ⟨k.src, fun x hx => rtok_same h.symm (k.rt x hx)⟩
theorem segs_same (h : Same G K) (k : Segs G) : Segs K := fun j hj => by
  rw [h.length] at hj ⊢
  exact segMay_eq (h.each j hj) (k j hj)
end
/-- The lists of a set stand in rows. -/
def HeldI (M : List Rw) (O : List Ix) : Prop := ∀ x ∈ O, Held M x.p (flat enc1 x.X)
theorem HeldI.mono {M R : List Rw} {O : List Ix} (h : HeldI M O) (hs : M.Sublist R) : HeldI R O := fun x hx => (h x hx).mono hs
theorem heldi_mem {G : List Sg} {T0 O : List Ix} {M N R : List Rw} (h : HeldI M T0) (k : Mem G T0 N O) (hM : M.Sublist R) (hN : N.Sublist R) : HeldI R O := fun x hx => (k.src x hx).elim (fun e => (h x e).mono hM) (fun e => e.mono hN)
theorem heldi_ok {G : List Sg} {s0 f : Int} {O : List Ix} {M R : List Rw} {w W : World} (h : HeldI M O) (hX : SetOk G s0 f (xs O)) (hs : M.Sublist R) (hE : Env w W R) : OkI W O := fun x hx =>
  ⟨held_at (h x hx) hs hE, by have := (hX.wf x.X (List.mem_map.2 ⟨x, hx, rfl⟩)).ok.few; omega⟩
theorem set_rt {G : List Sg} {s0 f : Int} {O : List Ix} (hX : SetOk G s0 f (xs O)) : ∀ x ∈ O, RtOk G x.X := fun x hx => (hX.wf x.X (List.mem_map.2 ⟨x, hx, rfl⟩)).ok
theorem set_len {G : List Sg} {s0 f : Int} {X : List Ro} (hX : SetOk G s0 f X) : ∀ r ∈ X, 1 ≤ r.length ∧ r.length ≤ 12 := fun r hr => ⟨(hX.wf r hr).ok.some, (hX.wf r hr).ok.few⟩
theorem held_top {g : Nat} {cs : Array Value} {t : TypeId} {N : List Rw} : Held (⟨g, cs, t⟩ :: N) (some ⟨g, 0, none⟩) cs.toList := fun w0 => sl_row 0 rfl
theorem held_sec {r : Rw} {g : Nat} {cs : Array Value} {t : TypeId} {N : List Rw} : Held (r :: ⟨g, cs, t⟩ :: N) (some ⟨g, 0, none⟩) cs.toList := fun w0 => sl_row 1 rfl
end Go.Proofs.Ytbacchdkankioaa.Rtsm
