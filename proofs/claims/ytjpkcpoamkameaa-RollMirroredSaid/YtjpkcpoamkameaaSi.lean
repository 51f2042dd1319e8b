/-
  A region that draws its order, by an invariant of what is done already: for stores to several places, appends and literals within one. Conditions: the check of the region's edges and slots (a Bool, by the kernel), and each operation's own.
-/
import Derived.Test.YtjpkcpoamkameaaSc
namespace Go.Proofs.Ytjpkcpoamkameaa.Si
open Go.ChangeShapes Go.WideShapes Go.ChangeAt Go.RowKit
open Arr Steady Sx Sw Sl Sb Sc
set_option linter.unusedVariables false
set_option linter.unusedSimpArgs false

section
variable {P : Program} {ops : Array Oper}
abbrev late : Nat → Kind := fun _ => .late
/-- One more is done. -/
def one (L : Nat → Bool) (i : Nat) : Nat → Bool := fun k => if k = i then true else L k
/-- What is known at operation i, whatever came up before. -/
structure Rd (ops : Array Oper) (sz : Nat) (val : Nat → Value) (L : Nat → Bool) (a0 a : Act) (i : Nat) (o : Oper) : Prop where
  check : checkB ops late none sz = true
  size : a0.tmps.size = sz
  op : ops[i]? = some o
  st : St ops val L a0 a
  closed : Closed ops L
  off : L i = false
  ready : ∀ e ∈ o.after, Region.binds .any e = true → L e.on = true
  within : ∀ k, L k = true → k < ops.size
section
variable {sz : Nat} {val : Nat → Value} {L : Nat → Bool} {a0 a : Act} {i : Nat} {o : Oper}
theorem Rd.dep (h : Rd ops sz val L a0 a i o) {k : Nat} (hd : depB ops i k = true) : L k = true := by
  obtain ⟨o', ho, e, he, hb, rfl⟩ := dep_of hd
  obtain rfl : o = o' := Option.some.inj (h.op.symm.trans ho)
  exact h.ready e he hb
theorem Rd.dep2 (h : Rd ops sz val L a0 a i o) {k : Nat} (j : Nat) (hj : L j = true) (hd : depB ops j k = true) : L k = true := closed_dep h.closed hd hj
theorem Rd.non (h : Rd ops sz val L a0 a i o) {k : Nat} (hd : depB ops k i = true) : L k = false := by
  cases e : L k with
  | false => rfl
  | true => have := closed_dep h.closed hd e; rw [h.off] at this; cases this
theorem Rd.non2 (h : Rd ops sz val L a0 a i o) {k : Nat} (j : Nat) (hj : L j = false) (hd : depB ops k j = true) : L k = false := by
  cases e : L k with
  | false => rfl
  | true => have := closed_dep h.closed hd e; rw [hj] at this; cases this
theorem Rd.tmp (h : Rd ops sz val L a0 a i o) (k : Nat) {t : Tmp} (hk : dstOf ops k = some t) (hl : L k = true) : a.eval (.tmp t) = val k := h.st.done k t hk hl
theorem Rd.out (h : Rd ops sz val L a0 a i o) {t : Tmp} {v : Value} (hk : ((List.range ops.size).all fun k => dstOf ops k != some t) = true) (hv : a0.tmps.getD t undef = v) : a.eval (.tmp t) = v := by
  rw [eval_tmp, h.st.rest t (fun k hk' => ?_), hv]
  have h1 := List.all_eq_true.1 hk k (by simpa using lt_of_dst hk')
  rw [hk'] at h1
  simp at h1
theorem Rd.go {w : World} {Q : Exit → Act → World → Prop} {K : Act → World → Prop} (h : Rd ops sz val L a0 a i o) (hg : o.guard = none) (hu : o.upon P a K Q ((execOp a.eval o).run P w)) : wpOp P ops Q i K a w := by
  unfold wpOp
  simp only [h.op]
  rw [if_pos (by simp [Region.wanted, hg])]
  exact .inl hu
theorem Rd.give {w : World} {Q : Exit → Act → World → Prop} {K : Act → World → Prop} (h : Rd ops sz val L a0 a i o) (hg : o.guard = none) (v : Value) (hr : (execOp a.eval o).run P w = .ok (.value v) w) (hK : K (a.put o.dst v) w) : wpOp P ops Q i K a w := by
  refine h.go hg ?_
  rw [hr]
  exact hK
end
/-- What is asked of one operation. -/
structure Sp (P : Program) (ops : Array Oper) (sz : Nat) (Q : Exit → Act → World → Prop) {Γ : Type} (val : Γ → Nat → Value) (rows : (Nat → Bool) → Γ → List Rw) (Fc : (Nat → Bool) → Γ → Prop) (a0 : Act) (w0 : World) (i : Nat) (o : Oper) : Prop where
  run : ∀ L γ a w, Rd ops sz (val γ) L a0 a i o → Fc L γ → Env w0 w (rows L γ) → ∀ K : Act → World → Prop, (∀ γ' w', (∀ k, L k = true → val γ' k = val γ k) → Fc (one L i) γ' → Env w0 w' (rows (one L i) γ') → K (a.put o.dst (val γ' i)) w') → wpOp P ops Q i K a w
/-- .. of all from the i-th on. -/
structure Sps (P : Program) (ops : Array Oper) (sz : Nat) (Q : Exit → Act → World → Prop) {Γ : Type} (val : Γ → Nat → Value) (rows : (Nat → Bool) → Γ → List Rw) (Fc : (Nat → Bool) → Γ → Prop) (a0 : Act) (w0 : World) (l : List Oper) (i : Nat) : Prop where
  run : ∀ j o, l[j]? = some o → Sp P ops sz Q val rows Fc a0 w0 (i + j) o
section
variable {Γ : Type} {sz : Nat} {Q : Exit → Act → World → Prop} {val : Γ → Nat → Value} {rows : (Nat → Bool) → Γ → List Rw} {Fc : (Nat → Bool) → Γ → Prop} {a0 : Act} {w0 : World} {i : Nat} {o : Oper} {r : List Oper}
end
end

/-! ### More operations -/
section
variable {P : Program} {o : Oper} {a : Act} {x y : Operand} {t t' : TypeId}
theorem run_max2 {t0 t1 : TypeId} {k : IntKind} {X Y Z : Int} (ho : o.op = .call { callee := .builtin .max, args := #[x, y], argTypes := #[t0, t1] }) (hx : a.eval x = .int k X) (hy : a.eval y = .int k Y) (hz : max X Y = Z) (w : World) :
    (execOp a.eval o).run P w = .ok (.value (.int k Z)) w := by
  subst hz
  have key : (Builtin.max_ #[t0, t1] o.type #[.int k X, .int k Y]).run P w = .ok (.int k (max X Y)) w := by
    simp only [Builtin.max_, List.foldlM_cons, List.foldlM_nil, Sem.run_bind, Result.andThen_ok, Sem.run_pure, Builtin.max2]
    congr 2
    split <;> omega
  unfold execOp
  simp only [ho, resolve, invoke, builtin, Sem.run_bind, Sem.run_pure, Result.andThen_ok, List.map_toArray, List.map_cons, List.map_nil, hx, hy, key]
end
end Go.Proofs.Ytjpkcpoamkameaa.Si
