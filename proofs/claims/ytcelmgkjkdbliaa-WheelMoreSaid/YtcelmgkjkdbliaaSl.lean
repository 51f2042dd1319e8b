/-
  Slices in the walks of Sx and Sw: those that came in, those that the function makes and appends to, and calls that hand rows back. No condition.
-/
import Derived.Test.YtcelmgkjkdbliaaSw
import Derived.Laws.OwnMore
import Derived.Deep.Slices
import Derived.Lib.SliceRun
namespace Go.Proofs.Ytcelmgkjkdbliaa.Sl
open Go.ChangeShapes Go.WideShapes Go.ChangeAt Go.RowKit
open Arr Steady Sx Sw
set_option linter.unusedVariables false

/-- What a slice reads as: its cells. -/
def Reads (w : World) (p : Option Addr) (xs : List Value) : Prop := ∀ j u, xs[j]? = some u → ∃ a, p = some a ∧ w.cell? (a.add j) = some u
/-- .. wherever the rows stand. -/
def SlAt (w0 : World) (R : List Rw) (p : Option Addr) (xs : List Value) : Prop := ∀ w, Env w0 w R → Reads w p xs
theorem SlAt.some {w0 w : World} {R : List Rw} {p : Option Addr} {xs : List Value} (h : SlAt w0 R p xs) (hE : Env w0 w R) {k : Nat} (hk : k < xs.length) : ∃ a, p = some a ∧ w.cell? (a.add k) = some xs[k] := h w hE k xs[k] (List.getElem?_eq_getElem hk)

/-- A slice that the function made: none yet, or a row of its own. -/
inductive Own where
  | none
  | row (g cap : Nat) (cur : Array Value)
def Own.ptr : Own → Option Addr | .none => Option.none | .row g _ _ => some ⟨g, 0, Option.none⟩
def Own.cap : Own → Nat | .none => 0 | .row _ c _ => c
def Own.rows (e : TypeId) : Own → List Rw | .none => [] | .row g _ cur => [⟨g, cur, e⟩]
/-- It has n elements of so many cells: xs. -/
def Own.Has (s : Own) (size n : Nat) (xs : List Value) : Prop := xs.length = n * size ∧ match s with
  | .none => n = 0
  | .row _ cap cur => n ≤ cap ∧ cap ≤ maxLen ∧ cur.size = cap * size ∧ cur.toList.take (n * size) = xs
abbrev Own.val (s : Own) (n : Nat) : Value := .slice s.ptr n s.cap
theorem Own.has_none (size : Nat) : Own.none.Has size 0 [] := ⟨by simp, rfl⟩
theorem Own.has_lit (g n size : Nat) (cs : Array Value) (hm : n ≤ maxLen) (hs : cs.size = n * size) : (Own.row g n cs).Has size n cs.toList := ⟨by simpa using hs, Nat.le_refl _, hm, hs, List.take_of_length_le (by rw [Array.length_toList, hs]; exact Nat.le_refl _)⟩
section
variable {P : Program} {ops : Array Oper} {Q : Exit → Act → World → Prop} {l rest : List Oper} {o : Oper} {a : Act} {w0 w : World} {R A B : List Rw} {e : TypeId} {s : Own} {size n : Nat} {xs : List Value}
theorem Own.at (hE : Env w0 w R) (hR : R = A ++ (s.rows e ++ B)) {g cap : Nat} {cur : Array Value} (hs : s = .row g cap cur) : w.heap[g]? = some (.cells cur e (0, 0)) := by
  subst hs
  exact hE.row ⟨g, cur, e⟩ (by rw [hR]; simp [Own.rows])
/-! ### Calls that hand rows back -/
theorem Env.join {w' : World} {S : List Rw} (h : Env w0 w R) (h' : Env w w' S) : Env w0 w' (S ++ R) := by
  refine ⟨h.below.trans (h'.below.mono h.below.size), fun r hr => ?_, fun r hr => ?_, ?_⟩
  · rcases List.mem_append.1 hr with hr | hr
    · exact Nat.le_trans h.below.size (h'.own r hr)
    · exact h.own r hr
  · rcases List.mem_append.1 hr with hr | hr
    · exact h'.row r hr
    · exact below_row h'.below (lt_of_row (h.row r hr)) (h.row r hr)
  · rw [List.pairwise_append]
    refine ⟨h'.apart, h.apart, fun r hr r' hr' => ?_⟩
    have h1 := h'.own r hr
    have h2 := lt_of_row (h.row r' hr')
    omega
section
variable {ks : Nat → Kind} {ov : Option Over} {mk : List (Nat × Tmp)} {N i : Nat} {r : List Oper}
end

/-! ### Single operations at elements -/
section
variable {p : Option Addr} {x y : Operand} {t ty : TypeId} {c k : Nat}
end
/-! ### Appending -/
def Own.blk : Own → Option Nat | .none => Option.none | .row g _ _ => some g
theorem Env.own_step {w' : World} {s' : Own} (h : Env w0 w (A ++ (s.rows e ++ B))) (hg : w.grownBy w' s.blk) (hs' : ∀ g cap cur, s' = .row g cap cur → w'.heap[g]? = some (.cells cur e (0, 0)) ∧ ((∃ c k, s = .row g c k) ∨ w.heap.size ≤ g)) : Env w0 w' (A ++ (s'.rows e ++ B)) := by
  have hown : ∀ g, s.blk = some g → w0.heap.size ≤ g := by
    intro g hb
    cases s with
    | none => cases hb
    | row g' c k =>
      cases hb
      exact h.own ⟨g, k, e⟩ (by simp [Own.rows])
  have hap := h.apart
  rw [List.pairwise_append, List.pairwise_append] at hap
  obtain ⟨hA, ⟨_, hB, hsB⟩, hAs⟩ := hap
  have hne : ∀ r, r ∈ A ∨ r ∈ B → s.blk ≠ some r.g := by
    intro r hr hb
    cases s with
    | none => cases hb
    | row g' c k =>
      cases hb
      rcases hr with hr | hr
      · exact hAs r hr ⟨r.g, k, e⟩ (by simp [Own.rows]) rfl
      · exact hsB ⟨r.g, k, e⟩ (by simp [Own.rows]) r hr rfl
  have hmem : ∀ r, r ∈ A ∨ r ∈ B → r ∈ A ++ (s.rows e ++ B) := by
    intro r hr
    rcases hr with hr | hr <;> simp [hr]
  have hkeep : ∀ r, r ∈ A ∨ r ∈ B → w'.heap[r.g]? = some (.cells r.cs r.t (0, 0)) := by
    intro r hr
    have h1 := h.row r (hmem r hr)
    rw [hg.block r.g (lt_of_row h1) (fun e => hne r hr e.symm)]
    exact h1
  have hge : ∀ r ∈ s'.rows e, w0.heap.size ≤ r.g ∧ w'.heap[r.g]? = some (.cells r.cs r.t (0, 0)) ∧ ∀ q, q ∈ A ∨ q ∈ B → r.g ≠ q.g := by
    intro r hr
    cases s' with
    | none => cases hr
    | row g' c k =>
      simp only [Own.rows, List.mem_singleton] at hr
      subst hr
      obtain ⟨h1, h2⟩ := hs' g' c k rfl
      refine ⟨?_, h1, fun q hq => ?_⟩
      · rcases h2 with ⟨c', k', rfl⟩ | h2
        · exact hown g' rfl
        · exact Nat.le_trans h.below.size h2
      · rcases h2 with ⟨c', k', rfl⟩ | h2
        · exact fun e => hne q hq (by rw [← e]; rfl)
        · have := lt_of_row (h.row q (hmem q hq))
          show g' ≠ q.g
          omega
  have hs1 : (s'.rows e).Pairwise fun r q => r.g ≠ q.g := by cases s' <;> simp [Own.rows]
  refine ⟨⟨hg.os.trans h.below.os, hg.tape.trans h.below.tape, hg.output.trans h.below.output, Nat.le_trans h.below.size hg.size, fun k hk => ?_⟩, fun r hr => ?_, fun r hr => ?_, ?_⟩
  · rw [hg.block k (Nat.lt_of_lt_of_le hk h.below.size) (fun e => by have := hown k e.symm; omega)]
    exact h.below.block k hk
  · rcases List.mem_append.1 hr with hr | hr
    · exact h.own r (hmem r (.inl hr))
    · rcases List.mem_append.1 hr with hr | hr
      · exact (hge r hr).1
      · exact h.own r (hmem r (.inr hr))
  · rcases List.mem_append.1 hr with hr | hr
    · exact hkeep r (.inl hr)
    · rcases List.mem_append.1 hr with hr | hr
      · exact (hge r hr).2.1
      · exact hkeep r (.inr hr)
  · rw [List.pairwise_append, List.pairwise_append]
    refine ⟨hA, ⟨hs1, hB, fun r hr q hq => (hge r hr).2.2 q (.inr hq)⟩, fun r hr q hq => ?_⟩
    rcases List.mem_append.1 hq with hq | hq
    · exact fun e => (hge q hq).2.2 r (.inl hr) e.symm
    · exact hAs r hr q (List.mem_append_right _ hq)
/-- A call that hands back a slice of its own making. -/
theorem Env.perm {R' : List Rw} (h : Env w0 w R) (hp : R.Perm R') : Env w0 w R' :=
  ⟨h.below, fun r hr => h.own r (hp.mem_iff.2 hr), fun r hr => h.row r (hp.mem_iff.2 hr), (hp.pairwise_iff (fun h e => h e.symm)).1 h.apart⟩
theorem Env.tail (h : Env w0 w R) (hs : (s.rows e ++ []).Sublist R) : Env w0 w (s.rows e) := h.sub (by rwa [List.append_nil] at hs)

/-! ### What stands in a row, by its elements -/
def flat {α : Type} (enc : α → List Value) (L : List α) : List Value := L.flatMap enc
end
end Go.Proofs.Ytcelmgkjkdbliaa.Sl
