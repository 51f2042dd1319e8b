/-
  Steps for a walk that never names a world: what is known of memory is a list of rows that the function made; all else is below. No condition.
-/
import Derived.Test.YtbacchdkankioaaSteady
import Derived.Lib.SmallJoins
namespace Go.Proofs.Ytbacchdkankioaa.Sx
open Go.ChangeShapes Go.WideShapes Go.ChangeAt Go.RowKit
open Arr Steady
set_option linter.unusedVariables false

/-- A row of memory: its block, its cells, their type. -/
structure Rw where
  g : Nat
  cs : Array Value
  t : TypeId

/-- The world w has the rows R, made since w0, each apart from the others; all that w0 has is as it was. -/
structure Env (w0 w : World) (R : List Rw) : Prop where
  below : Below w0.heap.size w0 w
  own : ∀ r ∈ R, w0.heap.size ≤ r.g
  row : ∀ r ∈ R, w.heap[r.g]? = some (.cells r.cs r.t (0, 0))
  apart : R.Pairwise fun r s => r.g ≠ s.g

/-! ### Short names of what each step writes -/
theorem Xa {α : Type} (l : List α) (i : Nat) (x : α) : l.toArray.setIfInBounds i x = (l.set i x).toArray := by simp
theorem Xz {α : Type} (x y : α) (l : List α) : (x :: l).set 0 y = y :: l := rfl
theorem Xs {α : Type} (x y : α) (l : List α) (n : Nat) : (x :: l).set (n + 1) y = x :: l.set n y := rfl
section
variable {w0 w w' : World} {R : List Rw}
theorem Env.nil (w : World) : Env w w [] := ⟨Below.refl _ _, by simp, by simp, List.Pairwise.nil⟩
theorem Env.call (h : Env w0 w R) (hb : Below w.heap.size w w') : Env w0 w' R :=
  ⟨h.below.trans (hb.mono h.below.size), h.own, fun r hr => below_row hb (lt_of_row (h.row r hr)) (h.row r hr), h.apart⟩
theorem Env.drew (h : Env w0 w R) : Env w0 w.drew R := ⟨h.below.drew, h.own, h.row, h.apart⟩
theorem Env.alloc (h : Env w0 w R) (cs : Array Value) (t : TypeId) : Env w0 (w.alloc (.cells cs t)) (⟨w.heap.size, cs, t⟩ :: R) := by
  refine ⟨h.below.alloc h.below.size _, fun r hr => ?_, fun r hr => ?_, List.Pairwise.cons (fun r hr => ?_) h.apart⟩
  · rcases List.mem_cons.1 hr with rfl | hr
    · exact h.below.size
    · exact h.own r hr
  · rcases List.mem_cons.1 hr with rfl | hr
    · exact heap_alloc_new w _
    · exact row_alloc (h.row r hr) _
  · have := lt_of_row (h.row r hr)
    show w.heap.size ≠ r.g
    omega
theorem mem_of_at {i : Nat} {r : Rw} (h : R[i]? = some r) : r ∈ R := List.mem_of_getElem? h
theorem Env.rowAt (h : Env w0 w R) {i : Nat} {g : Nat} {cs : Array Value} {t : TypeId} (hi : R[i]? = some ⟨g, cs, t⟩) : w.heap[g]? = some (.cells cs t (0, 0)) := h.row _ (mem_of_at hi)
theorem setRow_other (w : World) (g k : Nat) (cs : Array Value) (h : k ≠ g) : (w.setRow g cs).heap[k]? = w.heap[k]? := by
  simp only [World.setRow]
  rw [Array.getElem?_modify, if_neg (fun e => h e.symm)]
theorem Env.setRow (h : Env w0 w R) {i : Nat} {g : Nat} {old : Array Value} {t : TypeId} (hi : R[i]? = some ⟨g, old, t⟩) (cs : Array Value) : Env w0 (w.setRow g cs) (R.set i ⟨g, cs, t⟩) := by
  have hlt : i < R.length := (List.getElem?_eq_some_iff.1 hi).1
  have hget : R[i] = ⟨g, old, t⟩ := (List.getElem?_eq_some_iff.1 hi).2
  have hap := List.pairwise_iff_getElem.1 h.apart
  refine ⟨below_setRow h.below (h.own _ (mem_of_at hi)) _, fun r hr => ?_, fun r hr => ?_, ?_⟩
  · rcases List.mem_or_eq_of_mem_set hr with hr | rfl
    · exact h.own r hr
    · exact (h.own _ (mem_of_at hi) : w0.heap.size ≤ g)
  · obtain ⟨j, hj, rfl⟩ := List.mem_iff_getElem.1 hr
    rw [List.getElem_set]
    rw [List.length_set] at hj
    split
    · exact setRow_heap w g old cs t (0, 0) (h.rowAt hi)
    · rename_i hne
      have hd : (R[j]).g ≠ g := by
        rcases Nat.lt_trichotomy i j with k | k | k
        · have := hap i j hlt hj k
          rw [hget] at this
          exact fun e => this e.symm
        · exact absurd k hne
        · have := hap j i hj hlt k
          rw [hget] at this
          exact this
      rw [setRow_other w g _ cs hd]
      exact h.row _ (List.getElem_mem hj)
  · rw [List.pairwise_iff_getElem]
    intro a b ha hb hab
    rw [List.length_set] at ha hb
    have := hap a b ha hb hab
    rw [List.getElem_set, List.getElem_set]
    split
    · rename_i e
      subst e
      rw [hget] at this
      rw [if_neg (by omega)]
      exact this
    · split
      · rename_i e
        subst e
        rw [hget] at this
        exact this
      · exact this
/-- Rows that are needed no more are left out. -/
theorem Env.sub (h : Env w0 w R) {R' : List Rw} (hs : R'.Sublist R) : Env w0 w R' :=
  ⟨h.below, fun r hr => h.own r (hs.subset hr), fun r hr => h.row r (hs.subset hr), h.apart.sublist hs⟩
end

section
variable {P : Program}
/-- What is asked of a piece of code, wherever the rows stand. -/
structure Wc (P : Program) (c : Code) (Q : Exit → Act → World → Prop) (a : Act) (w0 : World) (R : List Rw) : Prop where
  run : ∀ w, Env w0 w R → c.wp P Q a w
/-- .. of the rest of a region. -/
structure Wl (P : Program) (ops : Array Oper) (Q : Exit → Act → World → Prop) (l : List Oper) (a : Act) (w0 : World) (R : List Rw) : Prop where
  run : ∀ w, Env w0 w R → wpList P ops Q l a w
/-- .. of an exit. -/
structure We (Q : Exit → Act → World → Prop) (e : Exit) (a : Act) (w0 : World) (R : List Rw) : Prop where
  run : ∀ w, Env w0 w R → Q e a w
/-- A row that can be read: one of the own ones, or one that lay there. -/
def RowAt (w0 : World) (R : List Rw) (g : Nat) (cs : Array Value) (t : TypeId) (fr : Nat × Nat) : Prop := ∀ w, Env w0 w R → w.heap[g]? = some (.cells cs t fr)

variable {ops : Array Oper} {Q : Exit → Act → World → Prop} {l rest : List Oper} {o : Oper} {a : Act} {w0 : World} {R : List Rw} {c x y : Code} {e : Exit}
theorem own_row (i : Nat) {g : Nat} {cs : Array Value} {t : TypeId} (hi : R[i]? = some ⟨g, cs, t⟩) : RowAt w0 R g cs t (0, 0) := fun w h => h.rowAt hi
theorem old_row {g : Nat} {cs : Array Value} {t : TypeId} {fr : Nat × Nat} (hg : w0.heap[g]? = some (.cells cs t fr)) : RowAt w0 R g cs t fr := fun w h => below_row h.below (lt_of_row hg) hg

theorem calls_sx {f : FuncId} {fn : Func} {c : Code} {args : Array Value} {w : World} {Rp : Ending → World → Prop} (hf : P.funcs[f]? = some fn) (hb : fn.body = some c)
    (h : Wc P c (bodyPost P fn Rp) { tmps := args ++ Array.replicate (fn.ntmps - args.size) undef, defers := [] } w []) : Calls P f args w Rp := calls_of_wp hf hb (h.run w (Env.nil w))

/-! ### Code -/
theorem wc_seq (h : Wc P x (Exit.then (y.wp P Q) Q) a w0 R) : Wc P (.seq x y) Q a w0 R := ⟨fun w hE => wp_seq (h.run w hE)⟩
theorem wc_block {id : Nat} (h : Wc P c (Exit.inBlock id Q) a w0 R) : Wc P (.block id c) Q a w0 R := ⟨fun w hE => wp_block (h.run w hE)⟩
theorem wc_skip (h : We Q .normal a w0 R) : Wc P .skip Q a w0 R := ⟨fun w hE => wp_skip (h.run w hE)⟩
theorem wc_exit {id : Nat} (h : We Q (.exit id) a w0 R) : Wc P (.exit id) Q a w0 R := ⟨fun w hE => wp_exit (h.run w hE)⟩
theorem wc_ret (h : We Q .ret a w0 R) : Wc P .ret Q a w0 R := ⟨fun w hE => wp_ret (h.run w hE)⟩
theorem wc_true {c : Operand} (hc : a.eval c = .bool true) (h : Wc P x Q a w0 R) : Wc P (.cond c x y) Q a w0 R := ⟨fun w hE => wp_cond_true hc (h.run w hE)⟩
theorem wc_false {c : Operand} (hc : a.eval c = .bool false) (h : Wc P y Q a w0 R) : Wc P (.cond c x y) Q a w0 R := ⟨fun w hE => wp_cond_false hc (h.run w hE)⟩
theorem wc_region {id : Nat} (h : Wl P l.toArray Q l a w0 R) : Wc P (.region id l.toArray false) Q a w0 R := ⟨fun w hE => wp_region_lit (h.run w hE)⟩
theorem we_then (h : Wc P y Q a w0 R) : We (Exit.then (y.wp P Q) Q) .normal a w0 R := ⟨fun w hE => h.run w hE⟩
theorem we_then_ret {K : Act → World → Prop} (h : We Q .ret a w0 R) : We (Exit.then K Q) .ret a w0 R := ⟨fun w hE => h.run w hE⟩
theorem we_then_exit {K : Act → World → Prop} {id : Nat} (h : We Q (.exit id) a w0 R) : We (Exit.then K Q) (.exit id) a w0 R := ⟨fun w hE => h.run w hE⟩
theorem we_in {id : Nat} (h : We Q .normal a w0 R) : We (Exit.inBlock id Q) .normal a w0 R := ⟨fun w hE => h.run w hE⟩
theorem we_in_ret {id : Nat} (h : We Q .ret a w0 R) : We (Exit.inBlock id Q) .ret a w0 R := ⟨fun w hE => h.run w hE⟩
theorem we_in_here {id : Nat} (h : We Q .normal a w0 R) : We (Exit.inBlock id Q) (.exit id) a w0 R := ⟨fun w hE => by
  show (if id = id then Q .normal a w else Q (.exit id) a w)
  rw [if_pos rfl]
  exact h.run w hE⟩
theorem we_in_out {id j : Nat} (hj : decide (j = id) = false) (h : We Q (.exit j) a w0 R) : We (Exit.inBlock id Q) (.exit j) a w0 R := ⟨fun w hE => by
  show (if j = id then Q .normal a w else Q (.exit j) a w)
  rw [if_neg (of_decide_eq_false hj)]
  exact h.run w hE⟩
/-- Ways that meet again, and loops: the frame and the rows are told by a value j, of which φ holds. -/
def Meet {ι : Type} (F : ι → Act) (Rs : ι → List Rw) (φ : ι → Prop) (w0 : World) (a : Act) (w : World) : Prop := ∃ j, φ j ∧ a = F j ∧ Env w0 w (Rs j)
theorem we_meet {ι : Type} {F : ι → Act} {Rs : ι → List Rw} {φ : ι → Prop} (j : ι) (hφ : φ j) (ha : a = F j) (hR : (Rs j).Sublist R) : We (Exit.then (Meet F Rs φ w0) Q) .normal a w0 R := ⟨fun w hE => ⟨j, hφ, ha, hE.sub hR⟩⟩
theorem wc_loop {ι : Type} (F : ι → Act) (Rs : ι → List Rw) (φ : ι → Prop) (μ : ι → Nat) (j : ι) (hφ : φ j) (ha : a = F j) (hR : (Rs j).Sublist R)
    (round : ∀ i, φ i → Wc P c (Exit.then (Meet F Rs (fun k => φ k ∧ μ k < μ i) w0) Q) (F i) w0 (Rs i)) : Wc P (.loop c) Q a w0 R := by
  refine ⟨fun w hE => ?_⟩
  intro b k cs
  have key : ∀ n i w, μ i = n → φ i → Env w0 w (Rs i) → ∃ e a' w', Q e a' w' ∧ Arrives P (lone (b.at (F i) (.code c :: .inLoop c :: k)) cs w) b k cs e a' w' := by
    intro n
    induction n using Nat.strongRecOn with
    | _ n ih =>
      intro i w hn hi hw
      obtain ⟨e, a₁, w₁, hq, harr⟩ := (round i hi).run w hw b (.inLoop c :: k) cs
      cases e with
      | normal =>
        obtain ⟨i₁, ⟨hi₁, hlt⟩, rfl, hw₁⟩ := (hq : Meet F Rs _ w0 a₁ w₁)
        obtain ⟨e₂, a₂, w₂, hq₂, harr₂⟩ := ih (μ i₁) (hn ▸ hlt) i₁ w₁ rfl hi₁ hw₁
        exact ⟨e₂, a₂, w₂, hq₂, .of_steps (Steps.trans harr (.one step_inLoop)) harr₂⟩
      | exit id => exact ⟨_, a₁, w₁, hq, .pass (x := .inLoop c) rfl (fun _ _ => .inl (by simp)) harr⟩
      | goto l => exact ⟨_, a₁, w₁, hq, .pass (x := .inLoop c) rfl (fun _ _ => .inl (by simp)) harr⟩
      | ret => exact ⟨_, a₁, w₁, hq, .pass (x := .inLoop c) rfl (fun _ _ => .inl (by simp)) harr⟩
      | panic ch => exact ⟨_, a₁, w₁, hq, .pass (x := .inLoop c) rfl (fun _ _ => .inl (by simp)) harr⟩
      | outgrown => exact ⟨_, a₁, w₁, hq, .pass (x := .inLoop c) rfl (fun _ _ => .inl (by simp)) harr⟩
  obtain ⟨e, a', w', hq, harr⟩ := key _ j w rfl hφ (hE.sub hR)
  subst ha
  exact ⟨e, a', w', hq, .of_steps (.one step_loop) harr⟩

/-! ### Returns -/
theorem we_ret {fn : Func} {Rp : Ending → World → Prop} (v : Value) (hd : a.defers = []) (hr : ∀ w, Env w0 w R → (results fn a.tmps).run P w = .ok v w) (h : ∀ w, Env w0 w R → Rp (.returned v) w) : We (bodyPost P fn Rp) .ret a w0 R :=
  ⟨fun w hE => bodyPost_ret (hr w hE) hd (h w hE)⟩
theorem we_ret1 {fn : Func} {Rp : Ending → World → Prop} {t : Tmp} (v : Value) (hres : fn.results = #[.tmp t]) (hd : a.defers = []) (hv : a.tmps.getD t undef = v) (h : ∀ w, Env w0 w R → Rp (.returned v) w) : We (bodyPost P fn Rp) .ret a w0 R :=
  we_ret v hd (fun w _ => by rw [results_tmp hres, hv]) h
theorem we_ret2 {fn : Func} {Rp : Ending → World → Prop} {t u : Tmp} (v v' : Value) (hres : fn.results = #[.tmp t, .tmp u]) (hd : a.defers = []) (hv : a.tmps.getD t undef = v) (hu : a.tmps.getD u undef = v') (h : ∀ w, Env w0 w R → Rp (.returned (.tuple #[v, v'])) w) : We (bodyPost P fn Rp) .ret a w0 R :=
  we_ret (.tuple #[v, v']) hd (fun w _ => by rw [results_tmp2 hres, hv, hu]) h
theorem we_ret_cell {fn : Func} {Rp : Ending → World → Prop} {p : Tmp} {ty : TypeId} {g : Nat} {cs : Array Value} {t : TypeId} {fr : Nat × Nat} {d : TypeDesc} (hrow : RowAt w0 R g cs t fr) (hres : fn.results = #[.cell p ty]) (hd : a.defers = [])
    (hp : a.tmps.getD p undef = .pointer (some ⟨g, 0, none⟩)) (hu : P.underlying ty = some d) (hdd : (match d with | .struct _ | .array _ _ => true | _ => false) = true) (hi : (P.info? ty).map (·.size) = some cs.size)
    (h : ∀ w, Env w0 w R → Rp (.returned (.agg cs)) w) : We (bodyPost P fn Rp) .ret a w0 R :=
  we_ret _ hd (fun w hE => results_cell_row hres _ _ g t cs fr d hp (hrow w hE) hu hdd hi) h
theorem we_ret_cell_tmp {fn : Func} {Rp : Ending → World → Prop} {p u : Tmp} {ty : TypeId} {g : Nat} {cs : Array Value} {t : TypeId} {fr : Nat × Nat} {d : TypeDesc} (v : Value) (hrow : RowAt w0 R g cs t fr) (hres : fn.results = #[.cell p ty, .tmp u]) (hd : a.defers = [])
    (hp : a.tmps.getD p undef = .pointer (some ⟨g, 0, none⟩)) (hv : a.tmps.getD u undef = v) (hu : P.underlying ty = some d) (hdd : (match d with | .struct _ | .array _ _ => true | _ => false) = true) (hi : (P.info? ty).map (·.size) = some cs.size)
    (h : ∀ w, Env w0 w R → Rp (.returned (.tuple #[.agg cs, v])) w) : We (bodyPost P fn Rp) .ret a w0 R :=
  we_ret _ hd (fun w hE => by
    have hp' : a.tmps[p]?.getD undef = .pointer (some ⟨g, 0, none⟩) := by simpa using hp
    have hv' : a.tmps[u]?.getD undef = v := by simpa using hv
    simp [results, hres, hp', hv', asAddr, run_loadVar_row w g t ty cs fr d (hrow w hE) hu hdd hi]) h

/-! ### Operations, one behind the other -/
theorem wl_nil (h : We Q .normal a w0 R) : Wl P ops Q [] a w0 R := ⟨fun w hE => h.run w hE⟩
theorem wl_skip (hw : Region.wanted o (yielded ops a.tmps) = false) (h : Wl P ops Q rest (a.put o.dst undef) w0 R) : Wl P ops Q (o :: rest) a w0 R :=
  ⟨fun w hE => by unfold wpList; rw [if_neg (by rw [hw]; simp)]; exact h.run w hE⟩
theorem wl_upon (hw : Region.wanted o (yielded ops a.tmps) = true) (h : ∀ w, Env w0 w R → o.upon P a (wpList P ops Q rest) Q ((execOp a.eval o).run P w)) : Wl P ops Q (o :: rest) a w0 R :=
  ⟨fun w hE => by unfold wpList; rw [if_pos hw]; exact .inl (h w hE)⟩
theorem wl_val (v : Value) (hw : Region.wanted o (yielded ops a.tmps) = true) (hr : ∀ w, (execOp a.eval o).run P w = .ok (.value v) w) (h : Wl P ops Q rest (a.put o.dst v) w0 R) : Wl P ops Q (o :: rest) a w0 R :=
  wl_upon hw (fun w hE => by rw [hr w]; exact h.run w hE)
theorem wl_read (v : Value) (hw : Region.wanted o (yielded ops a.tmps) = true) (hr : ∀ w, Env w0 w R → (execOp a.eval o).run P w = .ok (.value v) w) (h : Wl P ops Q rest (a.put o.dst v) w0 R) : Wl P ops Q (o :: rest) a w0 R :=
  wl_upon hw (fun w hE => by rw [hr w hE]; exact h.run w hE)
theorem wl_call (f : FuncId) (args : Array Value) (v : Value) (hw : Region.wanted o (yielded ops a.tmps) = true) (hr : ∀ w, (execOp a.eval o).run P w = .ok (.enter f args) w)
    (hc : ∀ w, Calls P f args w fun e w' => e = .returned v ∧ Below w.heap.size w w') (h : Wl P ops Q rest (a.put o.dst v) w0 R) : Wl P ops Q (o :: rest) a w0 R :=
  wl_upon hw (fun w hE => by
    rw [hr w]
    refine (hc w).mono ?_
    rintro e w' ⟨rfl, hb⟩
    exact h.run w' (hE.call hb))
theorem wl_new (t : TypeId) (cs : Array Value) (hw : Region.wanted o (yielded ops a.tmps) = true) (hr : ∀ w, (execOp a.eval o).run P w = .ok (.value (.pointer (some ⟨w.heap.size, 0, none⟩))) (w.alloc (.cells cs t)))
    (h : ∀ g, Wl P ops Q rest (a.put o.dst (.pointer (some ⟨g, 0, none⟩))) w0 (⟨g, cs, t⟩ :: R)) : Wl P ops Q (o :: rest) a w0 R :=
  wl_upon hw (fun w hE => by rw [hr w]; exact (h w.heap.size).run _ (hE.alloc cs t))
theorem load_row {ty : TypeId} {x : Operand} {g : Nat} {t : TypeId} {cs : Array Value} {fr : Nat × Nat} {d : TypeDesc} {w : World} (hrow : w.heap[g]? = some (.cells cs t fr)) (ho : o.op = .load ty x) (hx : a.eval x = .pointer (some ⟨g, 0, none⟩))
    (hu : P.underlying ty = some d) (hd : (match d with | .struct _ | .array _ _ => true | _ => false) = true) (hi : (P.info? ty).map (·.size) = some cs.size) : (execOp a.eval o).run P w = .ok (.value (.agg cs)) w := by
  unfold execOp
  simp only [ho, hx, Instr.loadAt, Instr.sureAddr, Sem.run_bind, Sem.run_pure, Result.andThen_ok, run_loadVar_row w g t ty cs fr d hrow hu hd hi]
theorem load_part {ty : TypeId} {x : Operand} {g off : Nat} {ps : List Value} {t : TypeId} {cs : Array Value} {fr : Nat × Nat} {d : TypeDesc} {w : World} (hrow : w.heap[g]? = some (.cells cs t fr)) (hp : (cs.toList.drop off).take ps.length = ps) (ho : o.op = .load ty x) (hx : a.eval x = .pointer (some ⟨g, off, none⟩))
    (hu : P.underlying ty = some d) (hd : d.isRow = true) (hi : (P.info? ty).map (·.size) = some ps.length) : (execOp a.eval o).run P w = .ok (.value (.agg ps.toArray)) w := by
  unfold execOp
  simp only [ho, hx, Instr.loadAt, Instr.sureAddr, Sem.run_bind, Sem.run_pure, Result.andThen_ok, run_loadVar_mid w g off ty ps d (rangeAt_row hrow hp) hu hd hi]
theorem load_cell {ty : TypeId} {x : Operand} {g off : Nat} {v : Value} {t : TypeId} {cs : Array Value} {fr : Nat × Nat} {w : World} (hrow : w.heap[g]? = some (.cells cs t fr)) (hp : cs[off]? = some v) (ho : o.op = .load ty x) (hx : a.eval x = .pointer (some ⟨g, off, none⟩))
    (hd : ∀ w, (isAgg ty).run P w = .ok false w) : (execOp a.eval o).run P w = .ok (.value v) w := by
  have hc : w.cell? ⟨g, off, none⟩ = some v := by rw [cell_of_row w g off cs t fr hrow]; exact hp
  unfold execOp
  simp [ho, hx, Instr.loadAt, Instr.sureAddr, loadVar, hd, hc]
theorem wl_load (ty : TypeId) (x : Operand) {g : Nat} {t : TypeId} {cs : Array Value} {fr : Nat × Nat} {d : TypeDesc} (hrow : RowAt w0 R g cs t fr) (hw : Region.wanted o (yielded ops a.tmps) = true) (ho : o.op = .load ty x) (hx : a.eval x = .pointer (some ⟨g, 0, none⟩))
    (hu : P.underlying ty = some d) (hd : (match d with | .struct _ | .array _ _ => true | _ => false) = true) (hi : (P.info? ty).map (·.size) = some cs.size) (h : Wl P ops Q rest (a.put o.dst (.agg cs)) w0 R) : Wl P ops Q (o :: rest) a w0 R :=
  wl_read (.agg cs) hw (fun w hE => load_row (hrow w hE) ho hx hu hd hi) h
theorem wl_part (ty : TypeId) (x : Operand) {g off : Nat} (ps : List Value) {t : TypeId} {cs : Array Value} {fr : Nat × Nat} {d : TypeDesc} (hrow : RowAt w0 R g cs t fr) (hw : Region.wanted o (yielded ops a.tmps) = true) (ho : o.op = .load ty x) (hx : a.eval x = .pointer (some ⟨g, off, none⟩))
    (hp : (cs.toList.drop off).take ps.length = ps) (hu : P.underlying ty = some d) (hd : d.isRow = true) (hi : (P.info? ty).map (·.size) = some ps.length) (h : Wl P ops Q rest (a.put o.dst (.agg ps.toArray)) w0 R) : Wl P ops Q (o :: rest) a w0 R :=
  wl_read (.agg ps.toArray) hw (fun w hE => load_part (hrow w hE) hp ho hx hu hd hi) h
theorem wl_cell (ty : TypeId) (x : Operand) {g off : Nat} (v : Value) {t : TypeId} {cs : Array Value} {fr : Nat × Nat} (hrow : RowAt w0 R g cs t fr) (hw : Region.wanted o (yielded ops a.tmps) = true) (ho : o.op = .load ty x) (hx : a.eval x = .pointer (some ⟨g, off, none⟩))
    (hp : cs[off]? = some v) (hd : ∀ w, (isAgg ty).run P w = .ok false w) (h : Wl P ops Q rest (a.put o.dst v) w0 R) : Wl P ops Q (o :: rest) a w0 R :=
  wl_read v hw (fun w hE => load_cell (hrow w hE) hp ho hx hd) h
theorem wl_store (i : Nat) (ty : TypeId) (x y : Operand) {g : Nat} {t : TypeId} {old : Array Value} (cs : Array Value) (hi : R[i]? = some ⟨g, old, t⟩) (hw : Region.wanted o (yielded ops a.tmps) = true) (ho : o.op = .store ty x y) (hx : a.eval x = .pointer (some ⟨g, 0, none⟩)) (hy : a.eval y = .agg cs)
    (hs : (P.info? ty).map (·.size) = some cs.size) (hz : old.size = cs.size) (h1 : cs.all (·.oneCell') = true) (h : Wl P ops Q rest (a.put o.dst undef) w0 (R.set i ⟨g, cs, t⟩)) : Wl P ops Q (o :: rest) a w0 R :=
  wl_upon hw (fun w hE => wp_store_row ty x y ho g cs hx hy t old (hE.rowAt hi) hs hz h1 (h.run _ (hE.setRow hi cs)))
/-- A cell is stored. -/
theorem setCell_setRow {w : World} {g i : Nat} {cs : Array Value} {t : TypeId} {fr : Nat × Nat} (hg : w.heap[g]? = some (.cells cs t fr)) (v : Value) : w.setCell ⟨g, i, none⟩ v = w.setRow g (cs.setIfInBounds i v) := by
  simp only [World.setCell, World.setRow]
  congr 1
  apply Array.ext_getElem?
  intro k
  rw [Array.getElem?_modify, Array.getElem?_modify]
  by_cases hk : g = k
  · subst hk
    rw [if_pos rfl, if_pos rfl, hg]
    rfl
  · rw [if_neg hk, if_neg hk]
theorem run_store_cell {ty : TypeId} {x y : Operand} {g off : Nat} {t : TypeId} {cs : Array Value} {v old : Value} {w : World} (hrow : w.heap[g]? = some (.cells cs t (0, 0))) (hp : cs[off]? = some old) (ho : o.op = .store ty x y) (hx : a.eval x = .pointer (some ⟨g, off, none⟩)) (hy : a.eval y = v)
    (hs : (P.info? ty).map (·.size) = some 1) (h1 : v.oneCell' = true) : (execOp a.eval o).run P w = .ok .skip (w.setRow g (cs.setIfInBounds off v)) := by
  have hc : w.cell? ⟨g, off, none⟩ = some old := by rw [cell_of_row w g off cs t _ hrow]; exact hp
  have hf : w.frozen? ⟨g, off, none⟩ = false := frozen_of_row w g off cs t hrow
  have hv : v.cells = #[v] := by cases v <;> first | rfl | cases h1
  have hsr := setCell_setRow hrow (i := off) v
  cases hq : P.info? ty with
  | none => simp [hq] at hs
  | some i =>
    have hz : i.size = 1 := by simpa [hq] using hs
    unfold execOp
    simp only [ho, hx, hy, Instr.storeAt, Instr.sureAddr, Sem.run_bind, Sem.run_pure, Result.andThen_ok]
    rw [← hsr]
    have hst := run_store P w ⟨g, off, none⟩ v .plain h1
    simp only [hc, hf, Bool.false_eq_true, if_false] at hst
    have hadd : (⟨g, off, none⟩ : Addr).add 0 = ⟨g, off, none⟩ := by unfold Addr.add; split <;> simp_all
    simp [storeVar, sizeOf, typeInfo, hq, hz, hv, storeCells, hadd, hst]
theorem wl_store_cell (i : Nat) (ty : TypeId) (x y : Operand) {g off : Nat} {t : TypeId} {cs : Array Value} (old v : Value) (hi : R[i]? = some ⟨g, cs, t⟩) (hw : Region.wanted o (yielded ops a.tmps) = true) (ho : o.op = .store ty x y) (hx : a.eval x = .pointer (some ⟨g, off, none⟩)) (hy : a.eval y = v)
    (hp : cs[off]? = some old) (hs : (P.info? ty).map (·.size) = some 1) (h1 : v.oneCell' = true) (h : Wl P ops Q rest (a.put o.dst undef) w0 (R.set i ⟨g, cs.setIfInBounds off v, t⟩)) : Wl P ops Q (o :: rest) a w0 R :=
  wl_upon hw (fun w hE => by
    rw [run_store_cell (hE.rowAt hi) hp ho hx hy hs h1]
    exact h.run _ (hE.setRow hi _))
end
end Go.Proofs.Ytbacchdkankioaa.Sx
