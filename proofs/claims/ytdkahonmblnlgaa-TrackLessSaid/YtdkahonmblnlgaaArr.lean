/-
  Rows of integers in memory, by value: an array variable of many cells is loaded, stored, boxed, indexed and compared without unrolling. No condition beyond each lemma's own.
-/
import Derived.Test.YtdkahonmblnlgaaRows
import Derived.WalkKit
import Derived.ProofKit
import Derived.OpenShut
import Derived.WalkLawsBesides
import Derived.Lib.Hide
import Derived.Outline
import Derived.Below
import Derived.Deep.Draws
import Derived.Deep.MidRow
import Derived.Deep.LoopGhost
import Derived.Laws.Rows
import Derived.Laws.Tables
import Derived.Deep.WholeRow
namespace Go.Proofs.Ytdkahonmblnlgaa.Arr
open Go.ChangeShapes Go.WideShapes Go.ChangeAt Go.RowKit
set_option linter.unusedVariables false

/-- n cells with integers of kind int. -/
def ints (n : Nat) (f : Nat → Int) : Array Value := ((List.range n).map fun i => Value.int .i64 (f i)).toArray
theorem ints_size (n : Nat) (f : Nat → Int) : (ints n f).size = n := by simp [ints]
theorem ints_get (n : Nat) (f : Nat → Int) (i : Nat) (h : i < n) : (ints n f)[i]? = some (.int .i64 (f i)) := by
  simp [ints, h]
theorem ints_set (n : Nat) (f : Nat → Int) (i : Nat) (v : Int) (h : i < n) : (ints n f).setIfInBounds i (.int .i64 v) = ints n (fun j => if j = i then v else f j) := by
  apply Array.ext_getElem?
  intro j
  rw [Array.getElem?_setIfInBounds]
  by_cases hj : j < n
  · rw [ints_get _ _ _ hj, ints_get _ _ _ hj]
    by_cases e : i = j
    · subst e; simp [ints_size, h]
    · rw [if_neg e, if_neg (fun h => e h.symm)]
  · have h1 : (ints n f)[j]? = none := by rw [Array.getElem?_eq_none]; rw [ints_size]; omega
    have h2 : (ints n (fun j => if j = i then v else f j))[j]? = none := by rw [Array.getElem?_eq_none]; rw [ints_size]; omega
    rw [h1, h2, if_neg (by omega)]
theorem ints_congr (n : Nat) (f g : Nat → Int) (h : ∀ i, i < n → f i = g i) : ints n f = ints n g := by
  unfold ints
  congr 1
  apply List.map_congr_left
  intro i hi
  rw [h i (by simpa using hi)]
theorem ints_one (n : Nat) (f : Nat → Int) : (ints n f).all (·.oneCell') = true := by
  rw [Array.all_eq_true_iff_forall_mem]
  intro v hv
  simp [ints] at hv
  obtain ⟨i, _, rfl⟩ := hv
  rfl
theorem ints_ne (n : Nat) (f : Nat → Int) (h : 0 < n) : ¬ ints n f = #[] := by
  intro e
  have := ints_size n f
  rw [e] at this
  simp at this
  omega

theorem below_setRow {B : Nat} {a w : World} (h : Below B a w) {g : Nat} (hp : B ≤ g) (cs : Array Value) : Below B a (w.setRow g cs) :=
  h.trans ⟨rfl, rfl, rfl, by simp, fun k hk => setRow_other _ _ _ _ (by omega)⟩
theorem below_drewN {B : Nat} {a w : World} (h : Below B a w) (n : Nat) : Below B a (w.drewN n) := ⟨h.os, h.tape, h.output, h.size, h.block⟩
theorem below_row {B : Nat} {w w' : World} (h : Below B w w') {g : Nat} (hg : g < B) {o : Obj} (hc : w.heap[g]? = some o) : w'.heap[g]? = some o := (h.block g hg).trans hc
theorem row_drewN (w : World) (n g : Nat) : (w.drewN n).heap[g]? = w.heap[g]? := rfl
theorem lt_of_row {w : World} {g : Nat} {o : Obj} (h : w.heap[g]? = some o) : g < w.heap.size := (Array.getElem?_eq_some_iff.1 h).1
theorem frozen_row {w : World} {g : Nat} {cs : Array Value} {t : TypeId} (h : w.heap[g]? = some (.cells cs t (0, 0))) (i : Nat) : w.frozen? ⟨g, i, none⟩ = false := frozen_of_row w g i cs t h
theorem cell_row {w : World} {g n : Nat} {f : Nat → Int} {t : TypeId} {fr : Nat × Nat} (h : w.heap[g]? = some (.cells (ints n f) t fr)) {i : Nat} (hi : i < n) : w.cell? ⟨g, i, none⟩ = some (.int .i64 (f i)) := by
  rw [cell_of_row w g i _ t fr h, ints_get n f i hi]
theorem row_set {w : World} {g n : Nat} {f : Nat → Int} {t : TypeId} (h : w.heap[g]? = some (.cells (ints n f) t (0, 0))) {i : Nat} (hi : i < n) (v : Int) :
    (w.setCell ⟨g, i, none⟩ (.int .i64 v)).heap[g]? = some (.cells (ints n (fun j => if j = i then v else f j)) t (0, 0)) := by
  rw [heap_setCell_same w g i _ t _ h, ints_set n f i v hi]
theorem row_set_other {w : World} {k : Nat} {o : Obj} (a : Addr) (v : Value) (h : w.heap[k]? = some o) (hne : k ≠ a.block) : (w.setCell a v).heap[k]? = some o := by
  rw [heap_setCell_other w a k v hne]; exact h
theorem row_alloc {w : World} {k : Nat} {o : Obj} (h : w.heap[k]? = some o) (o' : Obj) : (w.alloc o').heap[k]? = some o := by
  rw [Below.heap_alloc w o' k (lt_of_row h)]; exact h

section
variable {P : Program}
/-- A whole row is stored over another one of the same length. -/
theorem wpList_store_whole {ops : Array Oper} {rest : List Oper} {o : Oper} {a : Act} {w : World} {Q : Exit → Act → World → Prop} (hgd : o.guard = none) (ty : TypeId) (x y : Operand) (ho : o.op = .store ty x y)
    (g : Nat) (cells : Array Value) (hx : a.eval x = .pointer (some ⟨g, 0, none⟩)) (hy : a.eval y = .agg cells) (t : TypeId) (old : Array Value)
    (hg : w.heap[g]? = some (.cells old t (0, 0))) (hi : (P.info? ty).map (·.size) = some cells.size) (hz : old.size = cells.size) (h1 : cells.all (·.oneCell') = true)
    (h : wpList P ops Q rest (a.put o.dst undef) (w.setRow g cells)) : wpList P ops Q (o :: rest) a w :=
  wpList_plain hgd fun _ hK => wp_store_row ty x y ho g cells hx hy t old hg hi hz h1 (hK _ _ h)

/-- A whole row is stored into the block that was made last. -/
theorem wpList_store_new {ops : Array Oper} {rest : List Oper} {o : Oper} {a : Act} {w : World} {Q : Exit → Act → World → Prop} (hgd : o.guard = none) (ty : TypeId) (x y : Operand) (ho : o.op = .store ty x y)
    (cells : Array Value) (t : TypeId) (old : Array Value) (hx : a.eval x = .pointer (some ⟨w.heap.size, 0, none⟩)) (hy : a.eval y = .agg cells)
    (hi : (P.info? ty).map (·.size) = some cells.size) (hz : old.size = cells.size) (h1 : cells.all (·.oneCell') = true)
    (h : wpList P ops Q rest (a.put o.dst undef) (w.alloc (.cells cells t))) : wpList P ops Q (o :: rest) a (w.alloc (.cells old t)) :=
  wpList_store_whole hgd ty x y ho w.heap.size cells hx hy t old (heap_alloc_new w _) hi hz h1 (by rw [World.setRow_alloc_new]; exact h)

/-- An array of integers equals itself. -/
theorem run_equalIn_ints (d n : Nat) (f : Nat → Int) (t e : TypeId) (k : IntKind) (w : World) (hu : P.underlying t = some (.array n e)) (he : P.underlying e = some (.int k)) (hs : (P.info? e).map (·.size) = some 1) :
    (Op.equalIn (d + 2) t (.agg (ints n f)) (.agg (ints n f))).run P w = .ok true w := by
  have hsz : ∀ w : World, (sizeOf e).run P w = .ok 1 w := by
    intro w
    cases hq : P.info? e with
    | none => simp [hq] at hs
    | some i => simp [hq] at hs; simp [sizeOf, typeInfo, hq, hs]
  have hag : ∀ w : World, (isAgg e).run P w = .ok false w := by
    intro w
    unfold isAgg
    rw [Sem.run_bind, run_underlying he w]
    rfl
  have hp : ∀ (i : Nat) (w : World), i < n → (part e (ints n f) (i * 1)).run P w = .ok (.int .i64 (f i)) w := by
    intro i w hi
    have hc := ints_get n f i hi
    simp [part, Sem.run_bind, hag, hc]
  have hq : ∀ (i : Nat) (w : World), i < n → (Op.equalIn (d + 1) e (.int .i64 (f i)) (.int .i64 (f i))).run P w = .ok true w := by
    intro i w hi
    simp [Op.equalIn, run_underlying he]
  have hl : ∀ (k s : Nat) (w : World), s + k = n → (forIn (m := Sem) (List.range' s k) ((none, ()) : Option Bool × Unit) (fun i r => do
      if (!(← Op.equalIn (d + 1) e (← part e (ints n f) (i * 1)) (← part e (ints n f) (i * 1)))) = true then pure (ForInStep.done (some false, ())) else pure (ForInStep.yield (none, ())))).run P w = .ok (none, ()) w := by
    intro k
    induction k with
    | zero => intro s w _; simp
    | succ k ih =>
      intro s w h
      rw [List.range'_succ, List.forIn_cons]
      simp only [Sem.run_bind, hp s w (by omega), hq s w (by omega), Result.andThen_ok, Bool.not_true, Bool.false_eq_true, if_false, Sem.run_pure]
      exact ih (s + 1) w (by omega)
  rw [Op.equalIn]
  simp only [Sem.run_bind, run_underlying hu, Result.andThen_ok, hsz]
  rw [Std.Legacy.Range.forIn_eq_forIn_range']
  have hn : ([:n] : Std.Legacy.Range).size = n := by simp [Std.Legacy.Range.size]
  rw [hn]
  show Result.andThen (Sem.run P (forIn (List.range' 0 n) _ _) w) _ = _
  rw [hl n 0 w (by omega)]
  simp
end
end Go.Proofs.Ytdkahonmblnlgaa.Arr
