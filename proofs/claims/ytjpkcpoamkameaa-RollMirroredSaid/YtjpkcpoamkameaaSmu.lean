/-
  THE ENGINE, further: a region that draws its order, with stores into several older rows (or into parts of them) and calls that make nothing: laws for single operations. No program.
-/
import Derived.Test.YtjpkcpoamkameaaSfn
import Derived.Deep.MidRow
namespace Go.Proofs.Ytjpkcpoamkameaa.Smu
open Go.ChangeShapes Go.WideShapes Go.ChangeAt Go.RowKit
open Arr Steady Sx Sw Sl Sb Sc Si Sj Sk Sh Sfn
set_option linter.unusedVariables false
set_option linter.unusedSimpArgs false

section
variable {P : Program} {o : Oper} {a : Act} {x y : Operand} {t t' : TypeId}
end
section
variable {P : Program} {o : Oper} {a : Act} {x y z : Operand}
end
section
variable {P : Program} {o : Oper} {a : Act}
end
section
variable {P : Program} {o : Oper} {a : Act} {x y : Operand}
end
/-! ### A part of a row is stored -/
def putAt (cs : Array Value) : Nat → List Value → Array Value
  | _, [] => cs
  | k, v :: r => putAt (cs.setIfInBounds k v) (k + 1) r
theorem setRow_self {w : World} {g : Nat} {cs : Array Value} {t : TypeId} (hg : w.heap[g]? = some (.cells cs t (0, 0))) : w.setRow g cs = w := by
  have hlt : g < w.heap.size := (Array.getElem?_eq_some_iff.1 hg).1
  have hv : w.heap[g] = .cells cs t (0, 0) := (Array.getElem?_eq_some_iff.1 hg).2
  unfold World.setRow
  cases w with
  | mk heap tape drawn os output =>
    congr 1
    apply Array.ext
    · simp
    · intro k h1 h2
      simp only [Array.getElem_modify]
      split
      · rename_i hk; subst hk; simp at hv; simp [hv]
      · rfl
theorem setCells_row (g : Nat) (t : TypeId) : ∀ (vs : List Value) (k : Nat) (cs : Array Value) (w : World), w.heap[g]? = some (.cells cs t (0, 0)) → w.setCells g k vs = w.setRow g (putAt cs k vs)
  | [], k, cs, w, hg => (setRow_self hg).symm
  | v :: r, k, cs, w, hg => by
    have h1 := setCell_setRow hg (i := k) v
    show (w.setCell ⟨g, k, none⟩ v).setCells g (k + 1) r = w.setRow g (putAt (cs.setIfInBounds k v) (k + 1) r)
    rw [h1, setCells_row g t r (k + 1) (cs.setIfInBounds k v) _ (setRow_heap w g cs _ t _ hg), setRow_setRow]
section
variable {P : Program} {Q : Exit → Act → World → Prop}
theorem wp_store_part {o : Oper} {a : Act} {w : World} {K : Act → World → Prop} (ty : TypeId) (x y : Operand) (ho : o.op = .store ty x y) (g off : Nat) (vs : List Value) (hx : a.eval x = .pointer (some ⟨g, off, none⟩)) (hy : a.eval y = .agg vs.toArray)
    (t : TypeId) (cs : Array Value) (hg : w.heap[g]? = some (.cells cs t (0, 0))) (hi : (P.info? ty).map (·.size) = some vs.length) (hb : off + vs.length ≤ cs.size) (h1 : vs.toArray.all (·.oneCell') = true)
    (h : K (a.put o.dst undef) (w.setRow g (putAt cs off vs))) : o.wp P a w K Q := by
  refine wp_store_mid ty x y ho g off vs.toArray hx hy (fun j hj => ⟨?_, frozen_of_row w g _ cs t hg⟩) (by simpa using hi) h1 ?_
  · rw [cell_of_row w g _ cs t _ hg]
    have : off + j < cs.size := by simp at hj; omega
    simp [this]
  · rw [show vs.toArray.toList = vs from rfl, setCells_row g t vs off cs w hg]
    exact h
theorem wl_store_part {ops : Array Oper} {rest : List Oper} {o : Oper} {a : Act} {w0 : World} {R : List Rw} (i : Nat) (ty : TypeId) (x y : Operand) {g off : Nat} {t : TypeId} {cs : Array Value} (vs : List Value) (hi : R[i]? = some ⟨g, cs, t⟩) (hw : Region.wanted o (yielded ops a.tmps) = true) (ho : o.op = .store ty x y)
    (hx : a.eval x = .pointer (some ⟨g, off, none⟩)) (hy : a.eval y = .agg vs.toArray) (hs : (P.info? ty).map (·.size) = some vs.length) (hb : off + vs.length ≤ cs.size) (h1 : vs.toArray.all (·.oneCell') = true)
    (h : Wl P ops Q rest (a.put o.dst undef) w0 (R.set i ⟨g, putAt cs off vs, t⟩)) : Wl P ops Q (o :: rest) a w0 R :=
  wl_upon hw (fun w hE => wp_store_part ty x y ho g off vs hx hy t cs (hE.rowAt hi) hs hb h1 (h.run _ (hE.setRow hi _)))
end
section
variable {P : Program} {ops : Array Oper} {Γ : Type} {sz : Nat} {Q : Exit → Act → World → Prop} {val : Γ → Nat → Value} {rows : (Nat → Bool) → Γ → List Rw} {Fc : (Nat → Bool) → Γ → Prop} {a0 : Act} {w0 : World} {i : Nat} {o : Oper}
end
end Go.Proofs.Ytjpkcpoamkameaa.Smu
