/-
  THE ENGINE, further: a region that draws its order, with stores into several older rows (or into parts of them) and calls that make nothing: laws for single operations. No program.
-/
import Derived.Test.YtlfienfjdjfcoaaSfn
import Derived.Deep.MidRow
namespace Go.Proofs.Ytlfienfjdjfcoaa.Smu
open Go.ChangeShapes Go.WideShapes Go.ChangeAt Go.RowKit
open Arr Steady Sx Sw Sl Sb Sc Si Sj Sk Sh Sfn
set_option linter.unusedVariables false
set_option linter.unusedSimpArgs false

theorem tdiv_down {a b : Int} (hb : 1 ≤ b) : (if Int.tmod a b < 0 then Int.tdiv a b - 1 else Int.tdiv a b) = a / b := by
  have h1 := Int.tmod_add_mul_tdiv a b
  have h2 := Int.emod_add_mul_ediv a b
  have h3 := Int.emod_nonneg a (show b ≠ 0 by omega)
  have h4 := Int.emod_lt_of_pos a (show 0 < b by omega)
  have h5 : -b < Int.tmod a b ∧ Int.tmod a b < b := ⟨Int.lt_tmod_of_pos a (by omega), Int.tmod_lt_of_pos a (by omega)⟩
  have key : ∀ q r q' r' : Int, r + b * q = a → r' + b * q' = a → -b < r → r < b → 0 ≤ r' → r' < b → (if r < 0 then q - 1 else q) = q' := by
    intro q r q' r' e1 e2 g1 g2 g3 g4
    have e : b * (q - q') = r' - r := by rw [Int.mul_sub]; omega
    by_cases hr : r < 0
    · rw [if_pos hr]
      have u1 : q - q' = 1 := by
        rcases Int.lt_trichotomy (q - q') 1 with u | u | u
        · have : b * (q - q') ≤ b * 0 := Int.mul_le_mul_of_nonneg_left (by omega) (by omega)
          omega
        · exact u
        · have : b * 2 ≤ b * (q - q') := Int.mul_le_mul_of_nonneg_left (by omega) (by omega)
          omega
      omega
    · rw [if_neg hr]
      rcases Int.lt_trichotomy (q - q') 0 with u | u | u
      · have : b * (q - q') ≤ b * (-1) := Int.mul_le_mul_of_nonneg_left (by omega) (by omega)
        omega
      · omega
      · have : b * 1 ≤ b * (q - q') := Int.mul_le_mul_of_nonneg_left (by omega) (by omega)
        omega
  exact key _ _ _ _ h1 h2 h5.1 h5.2 h3 h4
section
variable {P : Program} {o : Oper} {a : Act} {x y : Operand} {t t' : TypeId}
theorem run_tdiv {X Y Z : Int} (ho : o.op = .binOp .quo t x y t') (hx : a.eval x = .int .i64 X) (hy : a.eval y = .int .i64 Y) (hu : P.underlying t = some (.int .i64)) (h0 : Y ≠ 0) (hZ : IntKind.i64.wrap (Int.tdiv X Y) = Z) (w : World) : (execOp a.eval o).run P w = .ok (.value (.int .i64 Z)) w := by
  subst hZ
  refine exec_bin ho hx hy (by simp [eqGuard]) ?_
  simp only [binOp, ne_eq, not_true_eq_false, if_false, Op.intDiv, if_neg h0, Sem.run_pure]
end
section
variable {P : Program} {o : Oper} {a : Act} {x y z : Operand}
theorem run_max3 {t0 t1 t2 : TypeId} {k : IntKind} {X Y Z : Int} (ho : o.op = .call { callee := .builtin .max, args := #[x, y, z], argTypes := #[t0, t1, t2] }) (hx : a.eval x = .int k X) (hy : a.eval y = .int k Y) (hz : a.eval z = .int k Z) (w : World) :
    (execOp a.eval o).run P w = .ok (.value (.int k (max (max X Y) Z))) w := by
  have key : (Builtin.max_ #[t0, t1, t2] o.type #[.int k X, .int k Y, .int k Z]).run P w = .ok (.int k (max (max X Y) Z)) w := by
    simp only [Builtin.max_, List.foldlM_cons, List.foldlM_nil, Sem.run_bind, Result.andThen_ok, Sem.run_pure, Builtin.max2]
    congr 2
    split <;> split <;> omega
  unfold execOp
  simp only [ho, resolve, invoke, builtin, Sem.run_bind, Sem.run_pure, Result.andThen_ok, List.map_toArray, List.map_cons, List.map_nil, hx, hy, hz, key]
theorem run_min3 {t0 t1 t2 : TypeId} {k : IntKind} {X Y Z : Int} (ho : o.op = .call { callee := .builtin .min, args := #[x, y, z], argTypes := #[t0, t1, t2] }) (hx : a.eval x = .int k X) (hy : a.eval y = .int k Y) (hz : a.eval z = .int k Z) (w : World) :
    (execOp a.eval o).run P w = .ok (.value (.int k (min (min X Y) Z))) w := by
  have key : (Builtin.min_ #[t0, t1, t2] o.type #[.int k X, .int k Y, .int k Z]).run P w = .ok (.int k (min (min X Y) Z)) w := by
    simp only [Builtin.min_, List.foldlM_cons, List.foldlM_nil, Sem.run_bind, Result.andThen_ok, Sem.run_pure, Builtin.min2]
    congr 2
    split <;> split <;> omega
  unfold execOp
  simp only [ho, resolve, invoke, builtin, Sem.run_bind, Sem.run_pure, Result.andThen_ok, List.map_toArray, List.map_cons, List.map_nil, hx, hy, hz, key]
end
section
variable {P : Program} {o : Oper} {a : Act}
/-- An element of several cells out of an array's value. -/
theorem run_index_row {x y : Operand} {t e : TypeId} {n k z : Nat} {kk : IntKind} {E : Int} {cs ps : Array Value} {d : TypeDesc} (ho : o.op = .index t x y) (hx : a.eval x = .agg cs) (hy : a.eval y = .int kk E) (he : E = (k : Int)) (hn : k < n) (hu : P.underlying t = some (.array n e))
    (hd : P.underlying e = some d) (hr : d.isRow = true) (hs : (P.info? e).map (·.size) = some z) (hv : cs.extract (k * z) (k * z + z) = ps) (w : World) : (execOp a.eval o).run P w = .ok (.value (.agg ps)) w := by
  subst he
  subst hv
  have hag : ∀ w : World, (isAgg e).run P w = .ok true w := by
    intro w
    unfold isAgg
    rw [Sem.run_bind, run_underlying hd w]
    cases d <;> simp_all
  cases hq : P.info? e with
  | none => simp [hq] at hs
  | some i =>
    have hz : i.size = z := by simpa [hq] using hs
    unfold execOp
    simp only [ho, hx, hy]
    simp [Instr.index, asIntOf, run_underlying hu, sizeOf, typeInfo, hq, hz, hn, part, hag]
end
section
variable {P : Program} {o : Oper} {a : Act} {x y : Operand}
end
/-! ### A part of a row is stored -/
def putAt (cs : Array Value) : Nat → List Value → Array Value
  | _, [] => cs
  | k, v :: r => putAt (cs.setIfInBounds k v) (k + 1) r
theorem setRow_self {w : World} {g : Nat} {cs : Array Value} {t : TypeId} (hg : w.heap[g]? = some (.cells cs t (0, 0))) : w.setRow g cs = w := by
  have hlt : g < w.heap.size := (Array.getElem?_eq_some_iff.1 hg).1
  have hv : w.heap[g] = .cells cs t (0, 0) := (Array.getElem?_eq_some_iff.1 hg).2
  unfold World.setRow
  cases w with
  | mk heap tape drawn os output =>
    congr 1
    apply Array.ext
    · simp
    · intro k h1 h2
      simp only [Array.getElem_modify]
      split
      · rename_i hk; subst hk; simp at hv; simp [hv]
      · rfl
theorem setCells_row (g : Nat) (t : TypeId) : ∀ (vs : List Value) (k : Nat) (cs : Array Value) (w : World), w.heap[g]? = some (.cells cs t (0, 0)) → w.setCells g k vs = w.setRow g (putAt cs k vs)
  | [], k, cs, w, hg => (setRow_self hg).symm
  | v :: r, k, cs, w, hg => by
    have h1 := setCell_setRow hg (i := k) v
    show (w.setCell ⟨g, k, none⟩ v).setCells g (k + 1) r = w.setRow g (putAt (cs.setIfInBounds k v) (k + 1) r)
    rw [h1, setCells_row g t r (k + 1) (cs.setIfInBounds k v) _ (setRow_heap w g cs _ t _ hg), setRow_setRow]
section
variable {P : Program} {Q : Exit → Act → World → Prop}
theorem wp_store_part {o : Oper} {a : Act} {w : World} {K : Act → World → Prop} (ty : TypeId) (x y : Operand) (ho : o.op = .store ty x y) (g off : Nat) (vs : List Value) (hx : a.eval x = .pointer (some ⟨g, off, none⟩)) (hy : a.eval y = .agg vs.toArray)
    (t : TypeId) (cs : Array Value) (hg : w.heap[g]? = some (.cells cs t (0, 0))) (hi : (P.info? ty).map (·.size) = some vs.length) (hb : off + vs.length ≤ cs.size) (h1 : vs.toArray.all (·.oneCell') = true)
    (h : K (a.put o.dst undef) (w.setRow g (putAt cs off vs))) : o.wp P a w K Q := by
  refine wp_store_mid ty x y ho g off vs.toArray hx hy (fun j hj => ⟨?_, frozen_of_row w g _ cs t hg⟩) (by simpa using hi) h1 ?_
  · rw [cell_of_row w g _ cs t _ hg]
    have : off + j < cs.size := by simp at hj; omega
    simp [this]
  · rw [show vs.toArray.toList = vs from rfl, setCells_row g t vs off cs w hg]
    exact h
theorem wl_store_part {ops : Array Oper} {rest : List Oper} {o : Oper} {a : Act} {w0 : World} {R : List Rw} (i : Nat) (ty : TypeId) (x y : Operand) {g off : Nat} {t : TypeId} {cs : Array Value} (vs : List Value) (hi : R[i]? = some ⟨g, cs, t⟩) (hw : Region.wanted o (yielded ops a.tmps) = true) (ho : o.op = .store ty x y)
    (hx : a.eval x = .pointer (some ⟨g, off, none⟩)) (hy : a.eval y = .agg vs.toArray) (hs : (P.info? ty).map (·.size) = some vs.length) (hb : off + vs.length ≤ cs.size) (h1 : vs.toArray.all (·.oneCell') = true)
    (h : Wl P ops Q rest (a.put o.dst undef) w0 (R.set i ⟨g, putAt cs off vs, t⟩)) : Wl P ops Q (o :: rest) a w0 R :=
  wl_upon hw (fun w hE => wp_store_part ty x y ho g off vs hx hy t cs (hE.rowAt hi) hs hb h1 (h.run _ (hE.setRow hi _)))
end
section
variable {P : Program} {ops : Array Oper} {Γ : Type} {sz : Nat} {Q : Exit → Act → World → Prop} {val : Γ → Nat → Value} {rows : (Nat → Bool) → Γ → List Rw} {Fc : (Nat → Bool) → Γ → Prop} {a0 : Act} {w0 : World} {i : Nat} {o : Oper}
end
end Go.Proofs.Ytlfienfjdjfcoaa.Smu
