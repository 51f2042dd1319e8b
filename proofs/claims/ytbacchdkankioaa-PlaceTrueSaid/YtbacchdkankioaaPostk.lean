/-
  Rows of small numbers and of bools as arguments: what they hold.
-/
import Derived.Test.YtbacchdkankioaaPostb
import Derived.Test.YtbacchdkankioaaMsc
import Derived.Deep.Grids
namespace Go.Proofs.Ytbacchdkankioaa.Postk
open Go.ChangeShapes Go.WideShapes Go.RowKit Go.Deep
open Sl Sb Sj Sk
set_option linter.unusedVariables false
set_option linter.unusedSimpArgs false
section
variable {H : Type} {enc : TypeId × Value → H} {P : Program}
theorem one_get {α : Type} [Inhabited α] (f : α → Value) (L : List α) (j : Nat) : (flat (fun x => [f x]) L)[j]? = (L[j]?).map f := by
  have e : flat (fun x => [f x]) L = L.map f := by
    induction L with
    | nil => rfl
    | cons x r ih => rw [List.map_cons, ← ih]; rfl
  rw [e, List.getElem?_map]
/-- A slice of bools as an argument: what it holds. -/
theorem open_bits {t e : TypeId} {W : World} {v : Value} {d : DataW H} {p : List MemPlace} (ht : P.underlying t = some (.slice e)) (he : P.underlying e = some .bool) (hc : P.cellsOf e = 1) (hv : v.cells = #[v]) (h : DataW.Trod enc P W 0 (fun _ => true) true t v d p) :
    ∃ (q : Option Addr) (c : Nat) (L : List Bool), v = .slice q L.length c ∧ Reads W q (flat encb L) ∧ L.length ≤ c ∧ c ≤ maxLen := by
  obtain ⟨n, hn⟩ := h
  rw [hv] at hn
  rcases Go.Deep.open_bools ht he hc hn with ⟨h1, _⟩ | ⟨a, len, cap, Bs, h1, _, hlc, hm, _, hcell⟩
  · have e1 : v = .slice none 0 0 := by simpa using h1
    exact ⟨none, 0, [], e1, reads_nil _ _, Nat.le_refl _, Nat.zero_le _⟩
  · have e1 : v = .slice (some a) len cap := by simpa using h1
    have hL : ((List.range len).map Bs).length = len := by simp
    refine ⟨some a, cap, (List.range len).map Bs, by rw [hL]; exact e1, ?_, by rw [hL]; exact hlc, hm⟩
    intro j u hj
    refine ⟨a, rfl, ?_⟩
    rw [show flat encb ((List.range len).map Bs) = flat (fun x => [Value.bool x]) ((List.range len).map Bs) from rfl, one_get Value.bool] at hj
    have hjl : j < len := by
      by_cases h : j < len
      · exact h
      · rw [List.getElem?_eq_none (by rw [hL]; omega)] at hj
        cases hj
    rw [List.getElem?_map, List.getElem?_range hjl] at hj
    rw [hcell j (by omega)]
    exact hj
end
end Go.Proofs.Ytbacchdkankioaa.Postk
