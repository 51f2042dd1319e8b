/-
 A region that draws its order, walked once in the order of the text: loads, calls that make memory, variables made and stored to, one store over an older row. Conditions: the check of the region's edges and slots (a Bool, by the kernel), and each operation's own.
-/
import Derived.Test.YtbacchdkankioaaArr
import Derived.Orders
namespace Go.Proofs.Ytbacchdkankioaa.Steady
open Go.ChangeShapes Go.WideShapes Go.ChangeAt Go.RowKit
open Arr
set_option linter.unusedVariables false

/-- What an operation is: 'plain' reads, reckons or calls; 'late' hangs on no world; 'make' makes a variable of type t with cells zs, which operation s then turns to cs; 'put k' stores into what operation k made; 'over' stores over an older row. -/
inductive Kind where
 | plain | late
 | make (t : TypeId) (zs : Array Value) (s : Nat) (cs : Array Value)
 | put (k : Nat)
 | over
structure Over where
 s : Nat
 g : Nat
 t : TypeId
 old : Array Value
 cs : Array Value

/-- What a store over an older row lays: the whole row, or one cell of it. -/
def Lays (P : Program) (ty : TypeId) (X Y : Value) (v : Over) : Prop :=
 (X = .pointer (some ⟨v.g, 0, none⟩) ∧ Y = .agg v.cs ∧ (P.info? ty).map (·.size) = some v.cs.size ∧ v.old.size = v.cs.size ∧ v.cs.all (·.oneCell') = true) ∨
 ∃ off, X = .pointer (some ⟨v.g, off, none⟩) ∧ off < v.old.size ∧ v.cs = v.old.setIfInBounds off Y ∧ (P.info? ty).map (·.size) = some 1 ∧ Y.oneCell' = true
theorem setCell_row {w : World} {g i : Nat} {cs : Array Value} {t : TypeId} {fr : Nat × Nat} (hg : w.heap[g]? = some (.cells cs t fr)) (v : Value) : w.setCell ⟨g, i, none⟩ v = w.setRow g (cs.setIfInBounds i v) := by
 simp only [World.setCell, World.setRow]
 congr 1
 apply Array.ext_getElem?
 intro k
 rw [Array.getElem?_modify, Array.getElem?_modify]
 by_cases hk : g = k
 ·
  subst hk
  rw [if_pos rfl, if_pos rfl, hg]
  rfl
 ·
  rw [if_neg hk, if_neg hk]
theorem run_cell_over {P : Program} {o : Oper} {a : Act} {ty : TypeId} {x y : Operand} {g off : Nat} {t : TypeId} {cs : Array Value} {v : Value} {w : World} (hrow : w.heap[g]? = some (.cells cs t (0, 0))) (hp : off < cs.size) (ho : o.op = .store ty x y) (hx : a.eval x = .pointer (some ⟨g, off, none⟩)) (hy : a.eval y = v)
  (hs : (P.info? ty).map (·.size) = some 1) (h1 : v.oneCell' = true) : (execOp a.eval o).run P w = .ok .skip (w.setRow g (cs.setIfInBounds off v)) := by
 have hc : w.cell? ⟨g, off, none⟩ = some cs[off] := by rw [cell_of_row w g off cs t _ hrow]; exact Array.getElem?_eq_getElem hp
 have hf : w.frozen? ⟨g, off, none⟩ = false := frozen_of_row w g off cs t hrow
 have hv : v.cells = #[v] := by cases v <;> first | rfl | cases h1
 have hsr := setCell_row hrow (i := off) v
 cases hq : P.info? ty with
 | none => simp [hq] at hs
 | some i =>
  have hz : i.size = 1 := by simpa [hq] using hs
  unfold execOp
  simp only [ho, hx, hy, Instr.storeAt, Instr.sureAddr, Sem.run_bind, Sem.run_pure, Result.andThen_ok]
  rw [← hsr]
  have hst := run_store P w ⟨g, off, none⟩ v .plain h1
  simp only [hc, hf, Bool.false_eq_true, if_false] at hst
  have hadd : (⟨g, off, none⟩ : Addr).add 0 = ⟨g, off, none⟩ := by unfold Addr.add; split <;> simp_all
  simp [storeVar, sizeOf, typeInfo, hq, hz, hv, storeCells, hadd, hst]

section
variable (ops : Array Oper)
def dstOf (i : Nat) : Option Tmp := (ops[i]?).bind (·.dst)
def depB (i k : Nat) : Bool := match ops[i]? with
 | some o => o.after.any fun e => Region.binds .any e && e.on == k
 | none => false
def isMake : Kind → Bool | .make .. => true | _ => false
def isPutOf (k : Nat) : Kind → Bool | .put j => j == k | _ => false
def isOver : Kind → Bool | .over => true | _ => false
def isPlain : Kind → Bool | .plain => true | _ => false
def notSelect : Op → Bool | .select .. => false | _ => true
/-- The check of one operation. -/
def checkAt (ks : Nat → Kind) (ov : Option Nat) (sz i : Nat) : Bool := match ops[i]? with
 | none => false
 | some o =>
  (o.after.all fun e => !Region.binds .any e || decide (e.on < i)) && notSelect o.op &&
  (match o.dst with | none => true | some t => decide (t < sz) && (List.range ops.size).all fun k => k == i || dstOf ops k != some t) &&
  ((o.looksAt ops).all fun t => (List.range ops.size).all fun k => dstOf ops k != some t || (if isMake (ks k) then isPutOf k (ks i) && depB ops i k else depB ops i k || k == i || depB ops k i)) &&
  (match ks i with
   | .make _ _ s _ => decide (ops.size ≤ s) || isPutOf i (ks s)
   | .put k => (match ks k with | .make _ _ s _ => s == i | _ => false) && depB ops i k && decide (k < ops.size)
   | .over => ov == some i
   | _ => true) &&
  (match ov with | some s => !isPlain (ks i) || depB ops s i | none => true)
def checkB (ks : Nat → Kind) (ov : Option Nat) (sz : Nat) : Bool := (List.range ops.size).all (checkAt ops ks ov sz) && (match ov with | some s => decide (s < ops.size) && isOver (ks s) | none => true)
end

section
variable {P : Program} {ops : Array Oper}

/-- What one run yields: a value in the world that it got, or a call that answers it and leaves all that lay there. -/
def steadyUpon (P : Program) (w : World) (v : Value) : Result Next → Prop
 | .ok (.value u) w' => w' = w ∧ u = v
 | .ok (.enter f args) w' => w' = w ∧ Calls P f args w (fun e w'' => e = .returned v ∧ Below w.heap.size w w'')
 | _ => False
def lateUpon (w : World) (v : Value) : Result Next → Prop
 | .ok (.value u) w' => w' = w ∧ u = v
 | _ => False

/-- The walk in the order of the text. -/
def wpSt (P : Program) (ops : Array Oper) (w0 : World) (ks : Nat → Kind) (ov : Option Over) (Fin : Act → Prop) : List Oper → Nat → Act → Prop
 | [], _, a => Fin a
 | o :: r, i, a => match ks i with
  | .plain => if Region.wanted o (yielded ops a.tmps) then ∃ v, (∀ w, Below w0.heap.size w0 w → steadyUpon P w v ((execOp a.eval o).run P w)) ∧ wpSt P ops w0 ks ov Fin r (i + 1) (a.put o.dst v)
    else wpSt P ops w0 ks ov Fin r (i + 1) (a.put o.dst undef)
  | .late => if Region.wanted o (yielded ops a.tmps) then ∃ v, (∀ w, lateUpon w v ((execOp a.eval o).run P w)) ∧ wpSt P ops w0 ks ov Fin r (i + 1) (a.put o.dst v)
    else wpSt P ops w0 ks ov Fin r (i + 1) (a.put o.dst undef)
  | .make t zs s cs => (o.guard = none ∧ o.op = .alloc t ∧ (∀ w, (zeroValue t).run P w = .ok (.agg zs) w)) ∧ wpSt P ops w0 ks ov Fin r (i + 1) (a.put o.dst undef)
  | .put k => (o.guard = none ∧ o.dst = none ∧ ∃ ty d y t zs cs, o.op = .store ty (.tmp d) y ∧ y ≠ .tmp d ∧ dstOf ops k = some d ∧ ks k = .make t zs i cs ∧ a.eval y = .agg cs ∧ (P.info? ty).map (·.size) = some cs.size ∧ zs.size = cs.size ∧ cs.all (·.oneCell') = true) ∧ wpSt P ops w0 ks ov Fin r (i + 1) a
  | .over => (o.guard = none ∧ o.dst = none ∧ ∃ ty x y v, ov = some v ∧ v.s = i ∧ o.op = .store ty x y ∧ w0.heap[v.g]? = some (.cells v.old v.t (0, 0)) ∧ Lays P ty (a.eval x) (a.eval y) v) ∧ wpSt P ops w0 ks ov Fin r (i + 1) a

/-- The frame behind the first i operations, in the order of the text. -/
def fr (ops : Array Oper) (val : Nat → Value) (a : Act) : Nat → Act
 | 0 => a
 | i + 1 => (fr ops val a i).put (dstOf ops i) (val i)

/-- What is known of operation i, in its frame. -/
def Ob (P : Program) (ops : Array Oper) (w0 : World) (ks : Nat → Kind) (ov : Option Over) (o : Oper) (i : Nat) (a : Act) (v : Value) : Prop := match ks i with
  | .plain => (Region.wanted o (yielded ops a.tmps) = true ∧ ∀ w, Below w0.heap.size w0 w → steadyUpon P w v ((execOp a.eval o).run P w)) ∨ (Region.wanted o (yielded ops a.tmps) = false ∧ v = undef)
  | .late => (Region.wanted o (yielded ops a.tmps) = true ∧ ∀ w, lateUpon w v ((execOp a.eval o).run P w)) ∨ (Region.wanted o (yielded ops a.tmps) = false ∧ v = undef)
  | .make t zs s cs => o.guard = none ∧ o.op = .alloc t ∧ (∀ w, (zeroValue t).run P w = .ok (.agg zs) w)
  | .put k => o.guard = none ∧ o.dst = none ∧ ∃ ty d y t zs cs, o.op = .store ty (.tmp d) y ∧ y ≠ .tmp d ∧ dstOf ops k = some d ∧ ks k = .make t zs i cs ∧ a.eval y = .agg cs ∧ (P.info? ty).map (·.size) = some cs.size ∧ zs.size = cs.size ∧ cs.all (·.oneCell') = true
  | .over => o.guard = none ∧ o.dst = none ∧ ∃ ty x y v, ov = some v ∧ v.s = i ∧ o.op = .store ty x y ∧ w0.heap[v.g]? = some (.cells v.old v.t (0, 0)) ∧ Lays P ty (a.eval x) (a.eval y) v

theorem fr_congr {val val' : Nat → Value} (a : Act) : ∀ i, (∀ j, j < i → val j = val' j) → fr ops val a i = fr ops val' a i
 | 0, _ => rfl
 | i + 1, h => by
  show (fr ops val a i).put _ (val i) = (fr ops val' a i).put _ (val' i)
  rw [fr_congr a i (fun j hj => h j (by omega)), h i (by omega)]
theorem wpSt_step {w0 : World} {ks : Nat → Kind} {ov : Option Over} {Fin : Act → Prop} {o : Oper} {r : List Oper} {i : Nat} {a : Act} (ho : ops[i]? = some o) (h : wpSt P ops w0 ks ov Fin (o :: r) i a) :
  ∃ v, Ob P ops w0 ks ov o i a v ∧ wpSt P ops w0 ks ov Fin r (i + 1) (a.put o.dst v) := by
 unfold wpSt at h
 unfold Ob
 cases hk : ks i with
 | plain =>
  simp only [hk] at h ⊢
  by_cases hw : Region.wanted o (yielded ops a.tmps) = true
  ·
   rw [if_pos hw] at h
   obtain ⟨v, h1, h2⟩ := h
   exact ⟨v, .inl ⟨hw, h1⟩, h2⟩
  ·
   rw [if_neg hw] at h
   exact ⟨undef, .inr ⟨by simpa using hw, rfl⟩, h⟩
 | late =>
  simp only [hk] at h ⊢
  by_cases hw : Region.wanted o (yielded ops a.tmps) = true
  ·
   rw [if_pos hw] at h
   obtain ⟨v, h1, h2⟩ := h
   exact ⟨v, .inl ⟨hw, h1⟩, h2⟩
  ·
   rw [if_neg hw] at h
   exact ⟨undef, .inr ⟨by simpa using hw, rfl⟩, h⟩
 | make t zs s cs =>
  simp only [hk] at h ⊢
  exact ⟨undef, h.1, h.2⟩
 | put k =>
  simp only [hk] at h ⊢
  exact ⟨undef, h.1, by rw [h.1.2.1]; exact h.2⟩
 | over =>
  simp only [hk] at h ⊢
  exact ⟨undef, h.1, by rw [h.1.2.1]; exact h.2⟩
theorem wpSt_val {w0 : World} {ks : Nat → Kind} {ov : Option Over} {Fin : Act → Prop} (a0 : Act) : ∀ (l : List Oper) (i : Nat) (pre : Nat → Value), (∀ j, l[j]? = ops[i + j]?) → wpSt P ops w0 ks ov Fin l i (fr ops pre a0 i) →
  ∃ val : Nat → Value, (∀ j, j < i → val j = pre j) ∧ Fin (fr ops val a0 (i + l.length)) ∧ ∀ j o, l[j]? = some o → Ob P ops w0 ks ov o (i + j) (fr ops val a0 (i + j)) (val (i + j))
 | [], i, pre, hl, h => ⟨pre, fun _ _ => rfl, h, fun j o hj => by simp at hj⟩
 | o :: r, i, pre, hl, h => by
  have ho : ops[i]? = some o := by simpa using (hl 0).symm
  obtain ⟨v, h1, h2⟩ := wpSt_step ho h
  have hd : dstOf ops i = o.dst := by simp [dstOf, ho]
  let pre' : Nat → Value := fun j => if j = i then v else pre j
  have e0 : fr ops pre' a0 i = fr ops pre a0 i := fr_congr a0 i (fun j hj => if_neg (by omega))
  have e1 : fr ops pre' a0 (i + 1) = (fr ops pre a0 i).put o.dst v := by
   show (fr ops pre' a0 i).put (dstOf ops i) (if i = i then v else pre i) = _
   rw [e0, hd, if_pos rfl]
  rw [← e1] at h2
  obtain ⟨val, g1, g2, g3⟩ := wpSt_val a0 r (i + 1) pre' (fun j => by have := hl (j + 1); simpa [Nat.add_assoc, Nat.add_comm 1 j] using this) h2
  refine ⟨val, fun j hj => (g1 j (by omega)).trans (if_neg (by omega)), by simpa [Nat.add_assoc, Nat.add_comm 1] using g2, fun j o' hj => ?_⟩
  cases j with
  | zero =>
   obtain rfl : o = o' := by simpa using hj
   have ev : val i = v := (g1 i (by omega)).trans (if_pos rfl)
   have ef : fr ops val a0 i = fr ops pre a0 i := (fr_congr a0 i (fun j hj => g1 j (by omega))).trans e0
   rw [Nat.add_zero, ev, ef]
   exact h1
  | succ j =>
   have := g3 j o' (by simpa using hj)
   rwa [show i + 1 + j = i + (j + 1) by omega] at this

/-! ### The state on the way, whatever the order -/
/-- Slots: what is listed has its value, the rest is as it was. -/
structure St (ops : Array Oper) (val : Nat → Value) (L : Nat → Bool) (a0 a : Act) : Prop where
 defers : a.defers = a0.defers
 size : a.tmps.size = a0.tmps.size
 done : ∀ k t, dstOf ops k = some t → L k = true → a.tmps.getD t undef = val k
 rest : ∀ t, (∀ k, dstOf ops k = some t → L k = false) → a.tmps.getD t undef = a0.tmps.getD t undef

theorem put_getD_same (a : Act) (t : Nat) (v : Value) (h : t < a.tmps.size) : (a.put (some t) v).tmps.getD t undef = v := by
 simp [Act.put, h]
theorem put_getD_other (a : Act) (d : Option Tmp) (t : Nat) (v : Value) (h : d ≠ some t) : (a.put d v).tmps.getD t undef = a.tmps.getD t undef := by
 cases d with
 | none => rfl
 | some d =>
  have : d ≠ t := fun e => h (by rw [e])
  simp [Act.put, Array.getElem?_setIfInBounds_ne this]
theorem put_size (a : Act) (d : Option Tmp) (v : Value) : (a.put d v).tmps.size = a.tmps.size := by cases d <;> simp [Act.put]
theorem put_defers (a : Act) (d : Option Tmp) (v : Value) : (a.put d v).defers = a.defers := by cases d <;> rfl

/-- One more is listed. -/
theorem St.step {val val' : Nat → Value} {L : Nat → Bool} {a0 a : Act} (h : St ops val L a0 a) (i : Nat) (hL : L i = false)
  (hu : ∀ k t, dstOf ops i = some t → dstOf ops k = some t → k = i) (hz : ∀ t, dstOf ops i = some t → t < a0.tmps.size) (hv : ∀ k, k ≠ i → val' k = val k) :
  St ops val' (fun k => if k = i then true else L k) a0 (a.put (dstOf ops i) (val' i)) := by
 refine ⟨by rw [put_defers, h.defers], by rw [put_size, h.size], fun k t hk hl => ?_, fun t ht => ?_⟩
 ·
  by_cases e : k = i
  ·
   subst e
   rw [hk, put_getD_same _ _ _ (by rw [h.size]; exact hz t hk)]
  ·
   rw [if_neg e] at hl
   have hne : dstOf ops i ≠ some t := fun hh => e (hu k t hh hk)
   rw [put_getD_other _ _ _ _ hne, hv k e]
   exact h.done k t hk hl
 ·
  have hne : dstOf ops i ≠ some t := fun hh => by simpa using ht i hh
  rw [put_getD_other _ _ _ _ hne]
  refine h.rest t (fun k hk => ?_)
  have := ht k hk
  by_cases e : k = i
  ·
   subst e; simp at this
  ·
   rwa [if_neg e] at this
theorem St.congr {val : Nat → Value} {L L' : Nat → Bool} {a0 a : Act} (h : St ops val L a0 a) (e : ∀ k, L' k = L k) : St ops val L' a0 a :=
 ⟨h.defers, h.size, fun k t hk hl => h.done k t hk (by rw [← e k]; exact hl), fun t ht => h.rest t (fun k hk => by rw [← e k]; exact ht k hk)⟩
theorem St.start (val : Nat → Value) (a0 : Act) : St ops val (fun _ => false) a0 a0 := ⟨rfl, rfl, (fun _ _ _ h => Bool.noConfusion h), (fun _ _ => rfl)⟩
theorem St.fr {val : Nat → Value} {a0 : Act} (hu : ∀ i k t, dstOf ops i = some t → dstOf ops k = some t → k = i) (hz : ∀ i t, dstOf ops i = some t → t < a0.tmps.size) :
  ∀ i, St ops val (fun k => decide (k < i)) a0 (fr ops val a0 i)
 | 0 => (St.start val a0).congr (fun k => by simp)
 | i + 1 => by
  refine ((St.fr hu hz i).step (val' := val) i (by simp) (fun k t => hu i k t) (fun t => hz i t) (fun _ _ => rfl)).congr (fun k => ?_)
  by_cases e : k = i
  ·
   subst e; simp
  ·
   rw [if_neg e]; exact decide_eq_decide.2 (by omega)

/-! ### What the check gives -/
theorem lt_of_dst {k : Nat} {t : Tmp} (h : dstOf ops k = some t) : k < ops.size := by
 rcases Nat.lt_or_ge k ops.size with h' | h'
 ·
  exact h'
 ·
  simp [dstOf, Array.getElem?_eq_none h'] at h
theorem dep_of {i k : Nat} (h : depB ops i k = true) : ∃ o, ops[i]? = some o ∧ ∃ e ∈ o.after, Region.binds .any e = true ∧ e.on = k := by
 unfold depB at h
 split at h
 ·
  rename_i o ho
  obtain ⟨e, he, hb⟩ := Array.any_eq_true'.1 h
  simp only [Bool.and_eq_true, beq_iff_eq] at hb
  exact ⟨o, ho, e, he, hb.1, hb.2⟩
 ·
  cases h
structure Spec (ops : Array Oper) (ks : Nat → Kind) (ov : Option Nat) (sz i : Nat) (o : Oper) : Prop where
 lower : ∀ e ∈ o.after, Region.binds .any e = true → e.on < i
 select : ∀ cs b, o.op ≠ .select cs b
 dst : ∀ t, o.dst = some t → t < sz ∧ ∀ k, dstOf ops k = some t → k = i
 looks : ∀ t ∈ o.looksAt ops, ∀ k, dstOf ops k = some t → if isMake (ks k) = true then isPutOf k (ks i) = true ∧ depB ops i k = true else depB ops i k = true ∨ k = i ∨ depB ops k i = true
 make : ∀ t zs s cs, ks i = .make t zs s cs → ops.size ≤ s ∨ isPutOf i (ks s) = true
 put : ∀ k, ks i = .put k → k < ops.size ∧ depB ops i k = true
 over : ks i = .over → ov = some i
 plain : ∀ s, ov = some s → isPlain (ks i) = true → depB ops s i = true
theorem spec_of {ks : Nat → Kind} {ov : Option Nat} {sz i : Nat} {o : Oper} (h : checkB ops ks ov sz = true) (ho : ops[i]? = some o) : Spec ops ks ov sz i o := by
 have hi : i < ops.size := (Array.getElem?_eq_some_iff.1 ho).1
 unfold checkB at h
 rw [Bool.and_eq_true] at h
 have hc := List.all_eq_true.1 h.1 i (by simpa using hi)
 unfold checkAt at hc
 simp only [ho, Bool.and_eq_true] at hc
 obtain ⟨⟨⟨⟨⟨c1, c2⟩, c3⟩, c4⟩, c5⟩, c6⟩ := hc
 refine ⟨fun e he hb => ?_, fun cs b e => ?_, fun t ht => ?_, fun t ht k hk => ?_, fun t zs s cs e => ?_, fun k e => ?_, fun e => ?_, fun s e hp => ?_⟩
 ·
  have := Array.all_eq_true_iff_forall_mem.1 c1 e he
  simpa [hb] using this
 ·
  rw [e] at c2; cases c2
 ·
  simp only [ht, Bool.and_eq_true, decide_eq_true_eq] at c3
  refine ⟨c3.1, fun k hk => ?_⟩
  have := List.all_eq_true.1 c3.2 k (by simpa using lt_of_dst hk)
  simpa [hk] using this
 ·
  have h1 := List.all_eq_true.1 c4 t ht
  have h2 := List.all_eq_true.1 h1 k (by simpa using lt_of_dst hk)
  simp only [hk, bne_self_eq_false, Bool.false_or] at h2
  by_cases hm : isMake (ks k) = true
  ·
   rw [if_pos hm] at h2 ⊢
   simpa [Bool.and_eq_true] using h2
  ·
   rw [if_neg hm] at h2 ⊢
   simp only [Bool.or_eq_true, beq_iff_eq] at h2
   rcases h2 with (h2 | h2) | h2
   ·
    exact .inl h2
   ·
    exact .inr (.inl h2)
   ·
    exact .inr (.inr h2)
 ·
  simp only [e, Bool.or_eq_true, decide_eq_true_eq] at c5
  exact c5
 ·
  simp only [e, Bool.and_eq_true, decide_eq_true_eq] at c5
  exact ⟨c5.2, c5.1.2⟩
 ·
  simp only [e, beq_iff_eq] at c5
  exact c5
 ·
  simp only [e, Bool.or_eq_true, Bool.not_eq_true'] at c6
  rcases c6 with c6 | c6
  ·
   rw [hp] at c6; cases c6
  ·
   exact c6

/-! ### One operation, whatever has come up before -/
/-- The closed lists. -/
def Closed (ops : Array Oper) (L : Nat → Bool) : Prop := ∀ j o, ops[j]? = some o → L j = true → ∀ e ∈ o.after, Region.binds .any e = true → L e.on = true
theorem closed_dep {L : Nat → Bool} (h : Closed ops L) {i k : Nat} (hd : depB ops i k = true) (hi : L i = true) : L k = true := by
 obtain ⟨o, ho, e, he, hb, rfl⟩ := dep_of hd
 exact h i o ho hi e he hb
/-- The value of what is made stands for the block. -/
def vp (ks : Nat → Kind) (ps : Nat → Nat) (val : Nat → Value) (k : Nat) : Value := if isMake (ks k) = true then .pointer (some ⟨ps k, 0, none⟩) else val k
structure At (ops : Array Oper) (ks : Nat → Kind) (ov : Option Nat) (sz : Nat) (val : Nat → Value) (ps : Nat → Nat) (L : Nat → Bool) (a0 a : Act) (i : Nat) (o : Oper) : Prop where
 op : ops[i]? = some o
 st : St ops (vp ks ps val) L a0 a
 closed : Closed ops L
 off : L i = false
 ready : ∀ e ∈ o.after, Region.binds .any e = true → L e.on = true
 within : ∀ k, L k = true → k < ops.size
theorem agree {ks : Nat → Kind} {ov : Option Nat} {sz : Nat} {val : Nat → Value} {ps : Nat → Nat} {L : Nat → Bool} {a0 a : Act} {i : Nat} {o : Oper} (hB : checkB ops ks ov sz = true) (hz : a0.tmps.size = sz) (h : At ops ks ov sz val ps L a0 a i o)
  {t : Tmp} (ht : t ∈ o.looksAt ops) (hm : ∀ k, dstOf ops k = some t → isMake (ks k) = false) : a.tmps.getD t undef = (fr ops val a0 i).tmps.getD t undef := by
 have hu : ∀ i k t, dstOf ops i = some t → dstOf ops k = some t → k = i := fun i k t h1 h2 => by
  obtain ⟨o', ho'⟩ : ∃ o', ops[i]? = some o' := ⟨_, Array.getElem?_eq_getElem (lt_of_dst h1)⟩
  exact ((spec_of hB ho').dst t (by simpa [dstOf, ho'] using h1)).2 k h2
 have hs : ∀ i t, dstOf ops i = some t → t < a0.tmps.size := fun i t h1 => by
  obtain ⟨o', ho'⟩ : ∃ o', ops[i]? = some o' := ⟨_, Array.getElem?_eq_getElem (lt_of_dst h1)⟩
  rw [hz]
  exact ((spec_of hB ho').dst t (by simpa [dstOf, ho'] using h1)).1
 have hf := St.fr (val := val) (a0 := a0) hu hs i
 have sp := spec_of hB h.op
 by_cases hk : ∃ k, dstOf ops k = some t
 ·
  obtain ⟨k, hk⟩ := hk
  have hl := sp.looks t ht k hk
  rw [if_neg (by rw [hm k hk]; simp)] at hl
  have two : ∀ (hLk : L k = false) (hki : ¬ k < i), a.tmps.getD t undef = (fr ops val a0 i).tmps.getD t undef := fun hLk hki => by
   rw [h.st.rest t (fun j hj => by rw [hu k j t hk hj]; exact hLk), hf.rest t (fun j hj => by rw [hu k j t hk hj]; simpa using hki)]
  rcases hl with hl | hl | hl
  ·
   obtain ⟨o', ho', e, he, hb, rfl⟩ := dep_of hl
   obtain rfl : o = o' := Option.some.inj (h.op.symm.trans ho')
   have h1 := h.st.done e.on t hk (h.ready e he hb)
   have h2 := hf.done e.on t hk (by simpa using sp.lower e he hb)
   rw [h1, h2]
   unfold vp
   rw [if_neg (by rw [hm _ hk]; simp)]
  ·
   subst hl
   exact two h.off (by omega)
  ·
   have hLk : L k = false := by
    cases e : L k with
    | false => rfl
    | true => have := closed_dep h.closed hl e; rw [h.off] at this; cases this
   obtain ⟨o', ho', e, he, hb, hon⟩ := dep_of hl
   have := (spec_of hB ho').lower e he hb
   exact two hLk (by omega)
 ·
  rw [h.st.rest t (fun j hj => absurd ⟨j, hj⟩ hk), hf.rest t (fun j hj => absurd ⟨j, hj⟩ hk)]
theorem getElem_of_getD {x y : Array Value} {t : Nat} (hs : x.size = y.size) (h : x.getD t undef = y.getD t undef) : x[t]? = y[t]? := by
 by_cases ht : t < x.size
 ·
  have ht' : t < y.size := by omega
  simp [ht, ht'] at h ⊢
  exact h
 ·
  rw [Array.getElem?_eq_none (by omega), Array.getElem?_eq_none (by omega)]
theorem eval_tmp (a : Act) (t : Tmp) : a.eval (.tmp t) = a.tmps.getD t undef := rfl
theorem looks_operand {o : Oper} {t : Tmp} (h : Operand.tmp t ∈ o.op.operands) : t ∈ o.looksAt ops :=
 List.mem_append_left _ (List.mem_filterMap.2 ⟨.tmp t, by simpa using h, rfl⟩)
theorem fr_size (val : Nat → Value) (a0 : Act) : ∀ i, (fr ops val a0 i).tmps.size = a0.tmps.size
 | 0 => rfl
 | i + 1 => by rw [fr, put_size, fr_size val a0 i]
theorem exec_agree {ks : Nat → Kind} {ov : Option Nat} {sz : Nat} {val : Nat → Value} {ps : Nat → Nat} {L : Nat → Bool} {a0 a : Act} {i : Nat} {o : Oper} (hB : checkB ops ks ov sz = true) (hz : a0.tmps.size = sz) (h : At ops ks ov sz val ps L a0 a i o)
  (hp : ∀ k, isPutOf k (ks i) = false) : execOp a.eval o = execOp (fr ops val a0 i).eval o ∧ Region.wanted o (yielded ops a.tmps) = Region.wanted o (yielded ops (fr ops val a0 i).tmps) := by
 have hm : ∀ t ∈ o.looksAt ops, ∀ k, dstOf ops k = some t → isMake (ks k) = false := fun t ht k hk => by
  have hl := (spec_of hB h.op).looks t ht k hk
  cases e : isMake (ks k) with
  | false => rfl
  | true => rw [if_pos e, hp k] at hl; cases hl.1
 have hsz : a.tmps.size = (fr ops val a0 i).tmps.size := by rw [h.st.size, fr_size]
 refine ⟨execOp_congr o (spec_of hB h.op).select fun x hx => ?_, ?_⟩
 ·
  cases x with
  | tmp t => rw [eval_tmp, eval_tmp]; exact agree hB hz h (looks_operand hx) (hm t (looks_operand hx))
  | _ => rfl
 ·
  unfold Region.wanted
  cases hg : o.guard with
  | none => rfl
  | some gw =>
   obtain ⟨g, want⟩ := gw
   have hy : yielded ops a.tmps g = yielded ops (fr ops val a0 i).tmps g := by
    unfold yielded
    cases ht : (ops[g]?).bind (·.dst) with
    | none => rfl
    | some t =>
     have hl : t ∈ o.looksAt ops := by simp [Oper.looksAt, hg, ht]
     simp only [Option.bind_some]
     rw [getElem_of_getD hsz (agree hB hz h hl (hm t hl))]
   simp only [hy]

/-- The world on the way. -/
def bw (ov : Option Over) (w0 : World) (L : Nat → Bool) : World := match ov with
 | some v => if L v.s = true then w0.setRow v.g v.cs else w0
 | none => w0
structure Wd (ks : Nat → Kind) (ov : Option Over) (w0 : World) (ps : Nat → Nat) (L : Nat → Bool) (w : World) : Prop where
 base : Below w0.heap.size (bw ov w0 L) w
 rows : ∀ k t zs s cs, ks k = .make t zs s cs → L k = true → w0.heap.size ≤ ps k ∧ w.heap[ps k]? = some (.cells (if L s = true then cs else zs) t (0, 0))
 apart : ∀ k k', isMake (ks k) = true → isMake (ks k') = true → L k = true → L k' = true → k ≠ k' → ps k ≠ ps k'
theorem bw_size (ov : Option Over) (w0 : World) (L : Nat → Bool) : (bw ov w0 L).heap.size = w0.heap.size := by
 unfold bw
 cases ov with
 | none => rfl
 | some v => simp only; split <;> simp
theorem Wd.size {ks : Nat → Kind} {ov : Option Over} {w0 : World} {ps : Nat → Nat} {L : Nat → Bool} {w : World} (h : Wd ks ov w0 ps L w) : w0.heap.size ≤ w.heap.size := by
 have := h.base.size; rwa [bw_size] at this
/-- Another one is listed that makes nothing and stores nothing: what lay there lies there. -/
theorem Wd.later {ks : Nat → Kind} {ov : Option Over} {w0 : World} {ps : Nat → Nat} {L : Nat → Bool} {w w' : World} (h : Wd ks ov w0 ps L w) (i : Nat) (hb : Below w.heap.size w w')
  (hi : isMake (ks i) = false) (hs : ∀ k t zs s cs, ks k = .make t zs s cs → L k = true → s ≠ i) (ho : ∀ v, ov = some v → v.s ≠ i) : Wd ks ov w0 ps (fun k => if k = i then true else L k) w' := by
 have e : bw ov w0 (fun k => if k = i then true else L k) = bw ov w0 L := by
  unfold bw
  cases ov with
  | none => rfl
  | some v => simp only [if_neg (ho v rfl)]
 refine ⟨by rw [e]; exact h.base.trans (hb.mono h.size), fun k t zs s cs hk hl => ?_, fun k k' hk hk' hl hl' hne => ?_⟩
 ·
  have hki : k ≠ i := fun e => by rw [← e, hk] at hi; cases hi
  rw [if_neg hki] at hl
  obtain ⟨h1, h2⟩ := h.rows k t zs s cs hk hl
  refine ⟨h1, ?_⟩
  rw [if_neg (hs k t zs s cs hk hl)]
  exact below_row hb (lt_of_row h2) h2
 ·
  have hki : k ≠ i := fun e => by rw [← e, hk] at hi; cases hi
  have hki' : k' ≠ i := fun e => by rw [← e, hk'] at hi; cases hi
  rw [if_neg hki] at hl
  rw [if_neg hki'] at hl'
  exact h.apart k k' hk hk' hl hl' hne
theorem Wd.congr {ks : Nat → Kind} {ov : Option Over} {w0 : World} {ps : Nat → Nat} {L L' : Nat → Bool} {w : World} (h : Wd ks ov w0 ps L w) (e : ∀ k, L' k = L k) : Wd ks ov w0 ps L' w := by
 obtain rfl : L' = L := funext e
 exact h

/-- What is to hold behind operation i. -/
def Then (ops : Array Oper) (ks : Nat → Kind) (ov : Option Over) (w0 : World) (val : Nat → Value) (L : Nat → Bool) (a0 : Act) (i : Nat) (a : Act) (w : World) : Prop :=
 ∃ ps, St ops (vp ks ps val) (fun k => if k = i then true else L k) a0 a ∧ Wd ks ov w0 ps (fun k => if k = i then true else L k) w

theorem dst_of {i : Nat} {o : Oper} (h : ops[i]? = some o) : dstOf ops i = o.dst := by simp [dstOf, h]
theorem uniq {ks : Nat → Kind} {ov : Option Nat} {sz : Nat} (hB : checkB ops ks ov sz = true) {i : Nat} {o : Oper} (ho : ops[i]? = some o) : ∀ k t, dstOf ops i = some t → dstOf ops k = some t → k = i := fun k t h1 h2 =>
 ((spec_of hB ho).dst t (by rw [← dst_of ho]; exact h1)).2 k h2
theorem small {ks : Nat → Kind} {ov : Option Nat} {sz : Nat} (hB : checkB ops ks ov sz = true) {a0 : Act} (hz : a0.tmps.size = sz) {i : Nat} {o : Oper} (ho : ops[i]? = some o) : ∀ t, dstOf ops i = some t → t < a0.tmps.size := fun t h1 => by
 rw [hz]; exact ((spec_of hB ho).dst t (by rw [← dst_of ho]; exact h1)).1
/-- A value, and what lay there lies there. -/
theorem then_later {ks : Nat → Kind} {ov : Option Over} {sz : Nat} {w0 : World} {val : Nat → Value} {ps : Nat → Nat} {L : Nat → Bool} {a0 a : Act} {i : Nat} {o : Oper} {w w' : World} (hB : checkB ops ks (ov.map (·.s)) sz = true) (hz : a0.tmps.size = sz) (h : At ops ks (ov.map (·.s)) sz val ps L a0 a i o)
  (hw : Wd ks ov w0 ps L w) (hb : Below w.heap.size w w') (hi : isMake (ks i) = false) (hp : ∀ k, isPutOf k (ks i) = false) (ho : isOver (ks i) = false) : Then ops ks ov w0 val L a0 i (a.put o.dst (val i)) w' := by
 have hs : ∀ k t zs s cs, ks k = .make t zs s cs → L k = true → s ≠ i := fun k t zs s cs hk hl e => by
  subst e
  have hki := h.within k hl
  rcases (spec_of hB (Array.getElem?_eq_getElem hki)).make t zs s cs hk with h1 | h1
  ·
   have := (Array.getElem?_eq_some_iff.1 h.op).1
   omega
  ·
   rw [hp k] at h1; cases h1
 refine ⟨ps, ?_, hw.later i hb hi hs fun v hv e => ?_⟩
 ·
  have := h.st.step (val' := vp ks ps val) i h.off (uniq hB h.op) (small hB hz h.op) (fun _ _ => rfl)
  rw [dst_of h.op, show vp ks ps val i = val i by unfold vp; rw [if_neg (by rw [hi]; simp)]] at this
  exact this
 ·
  unfold checkB at hB
  rw [hv] at hB
  simp only [Option.map_some, Bool.and_eq_true] at hB
  rw [e, ho] at hB
  cases hB.2.2

theorem over_ne {ks : Nat → Kind} {ov : Option Over} {sz i : Nat} (hB : checkB ops ks (ov.map (·.s)) sz = true) (ho : isOver (ks i) = false) : ∀ v, ov = some v → v.s ≠ i := fun v hv e => by
 unfold checkB at hB
 rw [hv] at hB
 simp only [Option.map_some, Bool.and_eq_true] at hB
 rw [e, ho] at hB
 cases hB.2.2
theorem bw_same {ov : Option Over} {w0 : World} {L : Nat → Bool} {i : Nat} (ho : ∀ v, ov = some v → v.s ≠ i) : bw ov w0 (fun k => if k = i then true else L k) = bw ov w0 L := by
 unfold bw
 cases ov with
 | none => rfl
 | some v => simp only [if_neg (ho v rfl)]
theorem below_both {N g : Nat} {w0 w : World} {t : TypeId} {old cs : Array Value} (h : Below N w0 w) (hg : w0.heap[g]? = some (.cells old t (0, 0))) (hN : N = w0.heap.size) : Below N (w0.setRow g cs) (w.setRow g cs) := by
 have hlt : g < N := by rw [hN]; exact lt_of_row hg
 refine ⟨h.os, h.tape, h.output, by simpa using h.size, fun k hk => ?_⟩
 by_cases e : k = g
 ·
  subst e
  rw [setRow_heap _ _ _ cs _ _ hg, setRow_heap _ _ _ cs _ _ (below_row h hlt hg)]
 ·
  rw [setRow_other _ _ _ _ e, setRow_other _ _ _ _ e, h.block k hk]
/-- One operation. -/
theorem wpOp_steady {ks : Nat → Kind} {ov : Option Over} {sz : Nat} {w0 : World} {val : Nat → Value} {ps : Nat → Nat} {L : Nat → Bool} {a0 a : Act} {i : Nat} {o : Oper} {w : World} {Q : Exit → Act → World → Prop} {K : Act → World → Prop} (hB : checkB ops ks (ov.map (·.s)) sz = true) (hz : a0.tmps.size = sz) (h : At ops ks (ov.map (·.s)) sz val ps L a0 a i o)
  (hw : Wd ks ov w0 ps L w) (hob : Ob P ops w0 ks ov o i (fr ops val a0 i) (val i)) (hK : ∀ a w, Then ops ks ov w0 val L a0 i a w → K a w) : wpOp P ops Q i K a w := by
 unfold wpOp
 simp only [h.op]
 unfold Ob at hob
 cases hk : ks i with
 | plain =>
  simp only [hk] at hob
  have hp : ∀ k, isPutOf k (ks i) = false := fun k => by rw [hk]; rfl
  obtain ⟨e1, e2⟩ := exec_agree hB hz h hp
  have fin : ∀ w', Below w.heap.size w w' → K (a.put o.dst (val i)) w' := fun w' hb => hK _ _ (then_later hB hz h hw hb (by rw [hk]; rfl) hp (by rw [hk]; rfl))
  rw [e2]
  rcases hob with ⟨hwant, hrun⟩ | ⟨hwant, hv⟩
  ·
   rw [if_pos hwant]
   refine .inl ?_
   have hbase : Below w0.heap.size w0 w := by
    have hb := hw.base
    unfold bw at hb
    cases hov : ov with
    | none => rw [hov] at hb; exact hb
    | some v =>
     rw [hov] at hb
     have hd : depB ops v.s i = true := (spec_of hB h.op).plain v.s (by rw [hov]; rfl) (by rw [hk]; rfl)
     have hLs : L v.s = false := by
      cases e : L v.s with
      | false => rfl
      | true => have := closed_dep h.closed hd e; rw [h.off] at this; cases this
     simp only [hLs, Bool.false_eq_true, if_false] at hb
     exact hb
   have hr := hrun w hbase
   unfold Oper.wp
   rw [e1]
   generalize (execOp (fr ops val a0 i).eval o).run P w = r at *
   cases r with
   | ok n w' =>
    cases n <;> simp only [steadyUpon] at hr <;> simp only [Oper.upon]
    case value u =>
     obtain ⟨rfl, rfl⟩ := hr
     exact fin _ (Below.refl _ _)
    case enter f args =>
     obtain ⟨rfl, hc⟩ := hr
     exact hc.mono fun e w'' ⟨he, hb⟩ => by subst he; exact fin _ hb
   | halt x w' => simp only [steadyUpon] at hr
  ·
   rw [if_neg (by rw [hwant]; simp), ← hv]
   exact fin _ (Below.refl _ _)
 | late =>
  simp only [hk] at hob
  have hp : ∀ k, isPutOf k (ks i) = false := fun k => by rw [hk]; rfl
  obtain ⟨e1, e2⟩ := exec_agree hB hz h hp
  have fin : K (a.put o.dst (val i)) w := hK _ _ (then_later hB hz h hw (Below.refl _ _) (by rw [hk]; rfl) hp (by rw [hk]; rfl))
  rw [e2]
  rcases hob with ⟨hwant, hrun⟩ | ⟨hwant, hv⟩
  ·
   rw [if_pos hwant]
   refine .inl ?_
   have hr := hrun w
   unfold Oper.wp
   rw [e1]
   generalize (execOp (fr ops val a0 i).eval o).run P w = r at *
   cases r with
   | ok n w' =>
    cases n <;> simp only [lateUpon] at hr <;> simp only [Oper.upon]
    case value u =>
     obtain ⟨rfl, rfl⟩ := hr
     exact fin
   | halt x w' => simp only [lateUpon] at hr
  ·
   rw [if_neg (by rw [hwant]; simp), ← hv]
   exact fin
 | make t zs s cs =>
  simp only [hk] at hob
  obtain ⟨hg, hop, hzero⟩ := hob
  rw [if_pos (by simp [Region.wanted, hg])]
  refine .inl ?_
  have hrun : (execOp a.eval o).run P w = .ok (.value (.pointer (some ⟨w.heap.size, 0, none⟩))) (w.alloc (.cells zs t)) := by
   unfold execOp
   simp only [hop]
   simp [Instr.alloc, Sem.run_bind, hzero, newVar, newRow, Value.cells]
  unfold Oper.wp
  rw [hrun]
  simp only [Oper.upon]
  refine hK _ _ ⟨fun k => if k = i then w.heap.size else ps k, ?_, ?_, ?_, ?_⟩
  ·
   have := h.st.step (val' := vp ks (fun k => if k = i then w.heap.size else ps k) val) i h.off (uniq hB h.op) (small hB hz h.op) (fun k hk => by unfold vp; simp only [if_neg hk])
   rw [dst_of h.op, show vp ks (fun k => if k = i then w.heap.size else ps k) val i = .pointer (some ⟨w.heap.size, 0, none⟩) by unfold vp; rw [if_pos (by rw [hk]; rfl)]; simp] at this
   exact this
  ·
   rw [bw_same (over_ne hB (by rw [hk]; rfl))]
   exact hw.base.alloc hw.size _
  ·
   intro k t' zs' s' cs' hk' hl'
   by_cases e : k = i
   ·
    subst e
    rw [hk] at hk'
    cases hk'
    have hs : L s = false ∧ s ≠ k := by
     rcases (spec_of hB h.op).make t zs s cs hk with h1 | h1
     ·
      refine ⟨?_, fun e => ?_⟩
      ·
       cases e : L s with
       | false => rfl
       | true => have := h.within s e; omega
      ·
       have := (Array.getElem?_eq_some_iff.1 h.op).1
       omega
     ·
      have hsk : ks s = .put k := by
       cases e : ks s with
       | put j => rw [e] at h1; simp only [isPutOf, beq_iff_eq] at h1; rw [h1]
       | _ => rw [e] at h1; cases h1
      refine ⟨?_, fun e => by rw [e, hk] at hsk; cases hsk⟩
      cases e : L s with
      | false => rfl
      | true =>
       have hd := ((spec_of hB (Array.getElem?_eq_getElem (h.within s e))).put k hsk).2
       have := closed_dep h.closed hd e
       rw [h.off] at this
       cases this
    refine ⟨?_, ?_⟩
    ·
     simp only [if_pos]; exact hw.size
    ·
     simp only [if_pos, if_neg hs.2, hs.1]
     exact heap_alloc_new w _
   ·
    rw [if_neg e] at hl'
    obtain ⟨h1, h2⟩ := hw.rows k t' zs' s' cs' hk' hl'
    have hs : s' ≠ i := fun e' => by
     subst e'
     rcases (spec_of hB (Array.getElem?_eq_getElem (h.within k hl'))).make t' zs' s' cs' hk' with h3 | h3
     ·
      have := (Array.getElem?_eq_some_iff.1 h.op).1
      omega
     ·
      rw [hk] at h3; cases h3
    simp only [if_neg e, if_neg hs]
    exact ⟨h1, row_alloc h2 _⟩
  ·
   intro k k' m1 m2 l1 l2 hne
   have old : ∀ j, isMake (ks j) = true → L j = true → ps j < w.heap.size := fun j hj hl => by
    cases e : ks j with
    | make t' zs' s' cs' => exact lt_of_row (hw.rows j t' zs' s' cs' e hl).2
    | _ => rw [e] at hj; cases hj
   by_cases e : k = i
   ·
    have e' : k' ≠ i := fun h => hne (by rw [e, h])
    rw [if_neg e'] at l2
    have := old k' m2 l2
    simp only [if_pos e, if_neg e']
    omega
   ·
    rw [if_neg e] at l1
    have o1 := old k m1 l1
    by_cases e' : k' = i
    ·
     simp only [if_neg e, if_pos e']
     omega
    ·
     rw [if_neg e'] at l2
     simp only [if_neg e, if_neg e']
     exact hw.apart k k' m1 m2 l1 l2 hne
 | put k =>
  simp only [hk] at hob
  obtain ⟨hg, hdst, ty, d, y, t, zs, cs, hop, hyd, hkd, hkm, hy, hi, hzs, hone⟩ := hob
  rw [if_pos (by simp [Region.wanted, hg])]
  refine .inl ?_
  have hd := ((spec_of hB h.op).put k hk).2
  have hLk : L k = true := by
   obtain ⟨o', ho', e, he, hb, rfl⟩ := dep_of hd
   obtain rfl : o = o' := Option.some.inj (h.op.symm.trans ho')
   exact h.ready e he hb
  obtain ⟨h1, h2⟩ := hw.rows k t zs i cs hkm hLk
  rw [h.off, if_neg (by simp)] at h2
  have hx : a.eval (.tmp d) = .pointer (some ⟨ps k, 0, none⟩) := by
   rw [eval_tmp, h.st.done k d hkd hLk]
   unfold vp
   rw [if_pos (by rw [hkm]; rfl)]
  have hy' : a.eval y = .agg cs := by
   rw [← hy]
   cases y with
   | tmp t' =>
    rw [eval_tmp, eval_tmp]
    have hl : t' ∈ o.looksAt ops := looks_operand (by rw [hop]; simp [Op.operands])
    refine agree hB hz h hl fun k' hk' => ?_
    have := (spec_of hB h.op).looks t' hl k' hk'
    cases e : isMake (ks k') with
    | false => rfl
    | true =>
     rw [if_pos e, hk] at this
     have e2 : k = k' := by simpa [isPutOf] using this.1
     subst e2
     rw [hkd] at hk'
     cases hk'
     exact absurd rfl hyd
   | _ => rfl
  refine wp_store_row ty (.tmp d) y hop (ps k) cs hx hy' t zs h2 hi hzs hone ?_
  rw [hdst]
  have hother : ∀ k' t' zs' s' cs', ks k' = .make t' zs' s' cs' → L k' = true → k' ≠ k → s' ≠ i := fun k' t' zs' s' cs' hk' hl' hne e => by
   subst e
   rcases (spec_of hB (Array.getElem?_eq_getElem (h.within k' hl'))).make t' zs' s' cs' hk' with h3 | h3
   ·
    have := (Array.getElem?_eq_some_iff.1 h.op).1
    omega
   ·
    rw [hk] at h3; simp [isPutOf] at h3; exact hne h3.symm
  refine hK _ _ ⟨ps, ?_, ?_, ?_, ?_⟩
  ·
   have := h.st.step (val' := vp ks ps val) i h.off (uniq hB h.op) (small hB hz h.op) (fun _ _ => rfl)
   rw [dst_of h.op, hdst] at this
   exact this
  ·
   rw [bw_same (over_ne hB (by rw [hk]; rfl))]
   exact below_setRow hw.base h1 _
  ·
   intro k' t' zs' s' cs' hk' hl'
   have hki : k' ≠ i := fun e => by rw [e, hk] at hk'; cases hk'
   rw [if_neg hki] at hl'
   by_cases e : k' = k
   ·
    subst e
    rw [hkm] at hk'
    cases hk'
    exact ⟨h1, by rw [if_pos (by simp)]; exact setRow_heap _ _ _ cs _ _ h2⟩
   ·
    obtain ⟨g1, g2⟩ := hw.rows k' t' zs' s' cs' hk' hl'
    refine ⟨g1, ?_⟩
    rw [setRow_other _ _ _ _ (hw.apart k' k (by rw [hk']; rfl) (by rw [hkm]; rfl) hl' hLk e)]
    simp only [if_neg (hother k' t' zs' s' cs' hk' hl' e)]
    exact g2
  ·
   intro k1 k2 m1 m2 l1 l2 hne
   have e1 : k1 ≠ i := fun e => by rw [e, hk] at m1; cases m1
   have e2 : k2 ≠ i := fun e => by rw [e, hk] at m2; cases m2
   rw [if_neg e1] at l1
   rw [if_neg e2] at l2
   exact hw.apart k1 k2 m1 m2 l1 l2 hne
 | over =>
  simp only [hk] at hob
  obtain ⟨hg, hdst, ty, x, y, v, hov, hvs, hop, hrow, hlay⟩ := hob
  rw [if_pos (by simp [Region.wanted, hg])]
  refine .inl ?_
  have hm : ∀ t ∈ o.looksAt ops, ∀ k, dstOf ops k = some t → isMake (ks k) = false := fun t ht k hk' => by
   have hl := (spec_of hB h.op).looks t ht k hk'
   cases e : isMake (ks k) with
   | false => rfl
   | true => rw [if_pos e, hk] at hl; cases hl.1
  have hev : ∀ z ∈ o.op.operands, a.eval z = (fr ops val a0 i).eval z := fun z hz' => by
   cases z with
   | tmp t => rw [eval_tmp, eval_tmp]; exact agree hB hz h (looks_operand hz') (hm t (looks_operand hz'))
   | _ => rfl
  have hx' := hev x (by rw [hop]; simp [Op.operands])
  have hy' := hev y (by rw [hop]; simp [Op.operands])
  rw [← hx', ← hy'] at hlay
  have hb := hw.base
  unfold bw at hb
  rw [hov] at hb
  simp only [hvs, h.off, Bool.false_eq_true, if_false] at hb
  have hrow' := below_row hb (lt_of_row hrow) hrow
  have fin : K (a.put o.dst undef) (w.setRow v.g v.cs) → o.upon P a K Q ((execOp a.eval o).run P w) := by
   intro hk
   rcases hlay with ⟨hx, hy, hi, hzs, hone⟩ | ⟨off, hx, hoff, hcs, hi, hone⟩
   ·
    exact wp_store_row ty x y hop v.g v.cs hx hy v.t v.old hrow' hi hzs hone hk
   ·
    rw [run_cell_over hrow' hoff hop hx rfl hi hone, ← hcs]
    exact hk
  refine fin ?_
  rw [hdst]
  refine hK _ _ ⟨ps, ?_, ?_, ?_, ?_⟩
  ·
   have := h.st.step (val' := vp ks ps val) i h.off (uniq hB h.op) (small hB hz h.op) (fun _ _ => rfl)
   rw [dst_of h.op, hdst] at this
   exact this
  ·
   unfold bw
   rw [hov]
   simp only [hvs, if_pos]
   exact below_both hb hrow rfl
  ·
   intro k' t' zs' s' cs' hk' hl'
   have hki : k' ≠ i := fun e => by rw [e, hk] at hk'; cases hk'
   rw [if_neg hki] at hl'
   obtain ⟨g1, g2⟩ := hw.rows k' t' zs' s' cs' hk' hl'
   refine ⟨g1, ?_⟩
   have hs : s' ≠ i := fun e => by
    subst e
    rcases (spec_of hB (Array.getElem?_eq_getElem (h.within k' hl'))).make t' zs' s' cs' hk' with h3 | h3
    ·
     have := (Array.getElem?_eq_some_iff.1 h.op).1
     omega
    ·
     rw [hk] at h3; cases h3
   have := lt_of_row hrow
   rw [setRow_other _ _ _ _ (by omega)]
   simp only [if_neg hs]
   exact g2
  ·
   intro k1 k2 m1 m2 l1 l2 hne
   have e1 : k1 ≠ i := fun e => by rw [e, hk] at m1; cases m1
   have e2 : k2 ≠ i := fun e => by rw [e, hk] at m2; cases m2
   rw [if_neg e1] at l1
   rw [if_neg e2] at l2
   exact hw.apart k1 k2 m1 m2 l1 l2 hne

/-! ### Every order -/
theorem getD_set' (x : Array Bool) (i k : Nat) (hi : i < x.size) : (x.setIfInBounds i true).getD k false = if k = i then true else x.getD k false := by
 by_cases e : k = i
 ·
  subst e; simp [hi]
 ·
  rw [if_neg e]
  simp [Array.getElem?_setIfInBounds_ne (Ne.symm e)]
theorem getD_tf {x : Array Bool} {i : Nat} (hi : i < x.size) : x.getD i true = x.getD i false := by simp [hi]
theorem countP_drop {p q : Nat → Bool} {i : Nat} (hp : p i = true) (hq : q i = false) (he : ∀ k, k ≠ i → q k = p k) : ∀ l : List Nat, i ∈ l → l.countP q < l.countP p
 | [], h => by cases h
 | x :: l, h => by
  have hle : l.countP q ≤ l.countP p := List.countP_mono_left fun k _ hk => by
   by_cases e : k = i
   ·
    subst e; exact hp
   ·
    rw [← he k e]; exact hk
  by_cases e : x = i
  ·
   subst e
   rw [List.countP_cons_of_neg (by simp [hq]), List.countP_cons_of_pos hp]
   omega
  ·
   have hmem : i ∈ l := by
    rcases List.mem_cons.1 h with h' | h'
    ·
     exact absurd h'.symm e
    ·
     exact h'
   have ih := countP_drop hp hq he l hmem
   by_cases hx : p x = true
   ·
    rw [List.countP_cons_of_pos hx, List.countP_cons_of_pos (by rw [he x e]; exact hx)]; omega
   ·
    rw [List.countP_cons_of_neg hx, List.countP_cons_of_neg (by rw [he x e]; exact hx)]; omega
theorem all_listed {ks : Nat → Kind} {ov : Option Nat} {sz : Nat} (hB : checkB ops ks ov sz = true) {x : Array Bool} (hs : x.size = ops.size) (hr : Region.ready .any ops x = []) : ∀ i, i < ops.size → x.getD i false = true := by
 intro i
 induction i using Nat.strongRecOn with
 | _ i ih =>
  intro hi
  cases e : x.getD i false with
  | true => rfl
  | false =>
   have ho := Array.getElem?_eq_getElem hi
   have : i ∈ Region.ready .any ops x := mem_ready.2 ⟨by rw [getD_tf (by omega)]; exact e, _, ho, fun e he hb => by
    have := (spec_of hB ho).lower e he hb
    exact ih e.on this (by omega)⟩
   rw [hr] at this
   cases this
theorem wpAny_steady {ks : Nat → Kind} {ov : Option Over} {sz : Nat} {w0 : World} {val : Nat → Value} {a0 : Act} {Q : Exit → Act → World → Prop} (hB : checkB ops ks (ov.map (·.s)) sz = true) (hz : a0.tmps.size = sz)
  (hob : ∀ i o, ops[i]? = some o → Ob P ops w0 ks ov o i (fr ops val a0 i) (val i))
  (hfin : ∀ ps a w, St ops (vp ks ps val) (fun k => decide (k < ops.size)) a0 a → Wd ks ov w0 ps (fun k => decide (k < ops.size)) w → Q .normal a w) :
  ∀ (fuel : Nat) (x : Array Bool) (ps : Nat → Nat) (a : Act) (w : World), x.size = ops.size → (List.range ops.size).countP (fun i => !x.getD i false) ≤ fuel →
   St ops (vp ks ps val) (fun k => x.getD k false) a0 a → Wd ks ov w0 ps (fun k => x.getD k false) w → Closed ops (fun k => x.getD k false) → wpAny P .any ops Q fuel x a w := by
 have done : ∀ (x : Array Bool) (ps : Nat → Nat) (a : Act) (w : World), x.size = ops.size → St ops (vp ks ps val) (fun k => x.getD k false) a0 a → Wd ks ov w0 ps (fun k => x.getD k false) w → (∀ i, i < ops.size → x.getD i false = true) → Q .normal a w := by
  intro x ps a w hs hst hwd hall
  have e : ∀ k, decide (k < ops.size) = x.getD k false := fun k => by
   by_cases hk : k < ops.size
   ·
    rw [hall k hk]; simpa using hk
   ·
    have : x.getD k false = false := by simp [Array.getElem?_eq_none (show x.size ≤ k by omega)]
    rw [this]; simpa using hk
  exact hfin ps a w (hst.congr e) (hwd.congr e)
 intro fuel
 induction fuel with
 | zero =>
  intro x ps a w hs hc hst hwd hcl
  have hall : ∀ i, i < ops.size → x.getD i false = true := fun i hi => by
   have h0 : (List.range ops.size).countP (fun i => !x.getD i false) = 0 := by omega
   have := List.countP_eq_zero.1 h0 i (by simpa using hi)
   simpa using this
  refine ⟨?_, done x ps a w hs hst hwd hall⟩
  cases hr : Region.ready .any ops x with
  | nil => rfl
  | cons i r =>
   have hi : i ∈ Region.ready .any ops x := by rw [hr]; exact List.mem_cons_self
   obtain ⟨h1, o, ho, _⟩ := mem_ready.1 hi
   have hlt := (Array.getElem?_eq_some_iff.1 ho).1
   rw [getD_tf (by omega), hall i hlt] at h1
   cases h1
 | succ fuel ih =>
  intro x ps a w hs hc hst hwd hcl
  refine ⟨fun hr => done x ps a w hs hst hwd (all_listed hB hs hr), fun i hi => ?_⟩
  obtain ⟨h1, o, ho, hall⟩ := mem_ready.1 hi
  have hlt := (Array.getElem?_eq_some_iff.1 ho).1
  rw [getD_tf (by omega)] at h1
  have hat : At ops ks (ov.map (·.s)) sz val ps (fun k => x.getD k false) a0 a i o := ⟨ho, hst, hcl, h1, hall, fun k hk => by
   rcases Nat.lt_or_ge k ops.size with h | h
   ·
    exact h
   ·
    simp [Array.getElem?_eq_none (show x.size ≤ k by omega)] at hk⟩
  refine wpOp_steady hB hz hat hwd (hob i o ho) fun a' w' ⟨ps', g1, g2⟩ => ?_
  have e : ∀ k, (x.setIfInBounds i true).getD k false = if k = i then true else x.getD k false := fun k => getD_set' x i k (by omega)
  refine ih (x.setIfInBounds i true) ps' a' w' (by simpa using hs) ?_ (g1.congr e) (g2.congr e) ?_
  ·
   have := countP_drop (p := fun k => !x.getD k false) (q := fun k => !(x.setIfInBounds i true).getD k false) (i := i) (by simp only [h1]; rfl) (by simp only [e i, if_pos]; rfl) (fun k hk => by simp only [e k, if_neg hk]) (List.range ops.size) (by simpa using hlt)
   omega
  ·
   intro j o' ho' hj e' he' hb'
   simp only [e] at hj ⊢
   by_cases hji : j = i
   ·
    subst hji
    obtain rfl : o = o' := Option.some.inj (ho.symm.trans ho')
    have := hall e' he' hb'
    by_cases hk : e'.on = j
    ·
     rw [if_pos hk]
    ·
     rw [if_neg hk]; exact this
   ·
    rw [if_neg hji] at hj
    have := hcl j o' ho' hj e' he' hb'
    by_cases hk : e'.on = i
    ·
     rw [if_pos hk]
    ·
     rw [if_neg hk]; exact this

theorem rep_getD (n k : Nat) : (Array.replicate n false).getD k false = false := by
 rcases Nat.lt_or_ge k n with h | h
 ·
  simp [h]
 ·
  simp [Array.getElem?_eq_none (show (Array.replicate n false).size ≤ k by simpa using h)]
/-- The frame at the end: what was made stands in its slots. -/
def fin (ps : Nat → Nat) (mk : List (Nat × Tmp)) (a : Act) : Act := mk.foldl (fun a p => a.put (some p.2) (.pointer (some ⟨ps p.1, 0, none⟩))) a
theorem fin_defers (ps : Nat → Nat) : ∀ (mk : List (Nat × Tmp)) (a : Act), (fin ps mk a).defers = a.defers
 | [], _ => rfl
 | p :: mk, a => (fin_defers ps mk _).trans (put_defers _ _ _)
theorem fin_size (ps : Nat → Nat) : ∀ (mk : List (Nat × Tmp)) (a : Act), (fin ps mk a).tmps.size = a.tmps.size
 | [], _ => rfl
 | p :: mk, a => (fin_size ps mk _).trans (put_size _ _ _)
theorem fin_other (ps : Nat → Nat) (t : Tmp) : ∀ (mk : List (Nat × Tmp)) (a : Act), (∀ p ∈ mk, p.2 ≠ t) → (fin ps mk a).tmps.getD t undef = a.tmps.getD t undef
 | [], _, _ => rfl
 | p :: mk, a, h => (fin_other ps t mk _ (fun q hq => h q (List.mem_cons_of_mem _ hq))).trans (put_getD_other _ _ _ _ (fun e => h p List.mem_cons_self (Option.some.inj e)))
theorem fin_here (ps : Nat → Nat) (k : Nat) (t : Tmp) : ∀ (mk : List (Nat × Tmp)) (a : Act), t < a.tmps.size → (k, t) ∈ mk → (∀ p ∈ mk, p.2 = t → p.1 = k) → (fin ps mk a).tmps.getD t undef = .pointer (some ⟨ps k, 0, none⟩)
 | [], _, _, h, _ => by cases h
 | p :: mk, a, ht, h, hu => by
  by_cases hm : (k, t) ∈ mk
  ·
   exact fin_here ps k t mk _ (by rw [put_size]; exact ht) hm (fun q hq => hu q (List.mem_cons_of_mem _ hq))
  ·
   have hp : p = (k, t) := by
    rcases List.mem_cons.1 h with h' | h'
    ·
     exact h'.symm
    ·
     exact absurd h' hm
   subst hp
   refine (fin_other ps t mk _ (fun q hq e => hm ?_)).trans (put_getD_same _ _ _ ht)
   have h1 := hu q (List.mem_cons_of_mem _ hq) e
   obtain ⟨q1, q2⟩ := q
   simp only at e h1
   subst e; subst h1
   exact hq
def mkB (ops : Array Oper) (ks : Nat → Kind) (mk : List (Nat × Tmp)) : Bool :=
 (mk.all fun p => isMake (ks p.1) && dstOf ops p.1 == some p.2) && (List.range ops.size).all fun k => !isMake (ks k) || mk.any fun p => p.1 == k

/-- The walk behind a name that does not unfold: else Lean's own look at a goal would run through what is not wanted. -/
structure Wk (P : Program) (ops : Array Oper) (w0 : World) (ks : Nat → Kind) (ov : Option Over) (Fin : Act → Prop) (l : List Oper) (i : Nat) (a : Act) : Prop where
 run : wpSt P ops w0 ks ov Fin l i a
/-- **A region that draws its order, walked once in the order of the text.** -/
theorem wp_region_steady {id : Nat} {l : List Oper} (kl : List Kind) (ov : Option Over) (mk : List (Nat × Tmp)) (sz : Nat) {a : Act} {w : World} {Q : Exit → Act → World → Prop} (hm : P.follows .mixedOrders = true) (hz : a.tmps.size = sz)
  (hB : checkB l.toArray (fun i => kl.getD i .plain) (ov.map (·.s)) sz = true) (hM : mkB l.toArray (fun i => kl.getD i .plain) mk = true)
  (hwk : Wk P l.toArray w.drew (fun i => kl.getD i .plain) ov (fun a' => ∀ ps w', Wd (fun i => kl.getD i .plain) ov w.drew ps (fun k => decide (k < l.length)) w' → Q .normal (fin ps mk a') w') l 0 a) : (Code.region id l.toArray true).wp P Q a w := by
 have h := hwk.run
 clear hwk
 generalize hks : (fun i => kl.getD i Kind.plain) = ks at *
 have hu : ∀ i k t, dstOf l.toArray i = some t → dstOf l.toArray k = some t → k = i := fun i k t h1 h2 => uniq hB (Array.getElem?_eq_getElem (lt_of_dst h1)) k t h1 h2
 have hsm : ∀ i t, dstOf l.toArray i = some t → t < a.tmps.size := fun i t h1 => small hB hz (Array.getElem?_eq_getElem (lt_of_dst h1)) t h1
 obtain ⟨val, _, g2, g3⟩ := wpSt_val (ops := l.toArray) a l 0 (fun _ => undef) (fun j => by simp) h
 rw [Nat.zero_add] at g2
 have hf := St.fr (val := val) (a0 := a) hu hsm l.length
 refine wp_region_any hm (wpAny_steady (val := val) hB hz (fun i o ho => by
  have := g3 i o (by simpa using ho)
  rwa [Nat.zero_add] at this) (fun ps a' w' hst hwd => ?_) _ _ (fun _ => 0) a w.drew (by simp) ?_ ?_ ?_ ?_)
 ·
  have hwd' : Wd ks ov w.drew ps (fun k => decide (k < l.length)) w' := hwd.congr (fun k => by simp)
  have e : a' = fin ps mk (fr l.toArray val a l.length) := by
   have hd : a'.defers = (fin ps mk (fr l.toArray val a l.length)).defers := by rw [hst.defers, fin_defers, hf.defers]
   have hs : a'.tmps.size = (fin ps mk (fr l.toArray val a l.length)).tmps.size := by rw [hst.size, fin_size, fr_size]
   have ht : a'.tmps = (fin ps mk (fr l.toArray val a l.length)).tmps := by
    apply Array.ext_getElem?
    intro t
    refine getElem_of_getD hs ?_
    unfold mkB at hM
    rw [Bool.and_eq_true] at hM
    have mkspec : ∀ p ∈ mk, isMake (ks p.1) = true ∧ dstOf l.toArray p.1 = some p.2 := fun p hp => by
     have := List.all_eq_true.1 hM.1 p hp
     simpa [Bool.and_eq_true] using this
    by_cases hk : ∃ k, dstOf l.toArray k = some t
    ·
     obtain ⟨k, hk⟩ := hk
     have hlt : k < l.length := by simpa using lt_of_dst hk
     rw [hst.done k t hk (by simpa using hlt)]
     have hfd := hf.done k t hk (by simpa using hlt)
     unfold vp
     by_cases hmk : isMake (ks k) = true
     ·
      rw [if_pos hmk]
      have h2 := List.all_eq_true.1 hM.2 k (by simpa using hlt)
      rw [hmk, Bool.not_true, Bool.false_or, List.any_eq_true] at h2
      obtain ⟨p, hp, hpk⟩ := h2
      have hpk' : p.1 = k := by simpa using hpk
      have hp2 : p = (k, t) := by
       obtain ⟨p1, p2⟩ := p
       simp only at hpk'
       subst hpk'
       have := (mkspec _ hp).2
       simp only at this
       rw [hk] at this
       cases this
       rfl
      rw [fin_here ps k t mk _ (by rw [fr_size]; exact hsm k t hk) (by rw [← hp2]; exact hp) (fun q hq e => hu k q.1 t hk (by rw [(mkspec q hq).2, e]))]
     ·
      rw [if_neg hmk, fin_other ps t mk _ (fun q hq e => hmk ?_), hfd]
      have h3 := mkspec q hq
      have h4 := hu k q.1 t hk (by rw [h3.2, e])
      rw [← h4]
      exact h3.1
    ·
     rw [hst.rest t (fun k hk' => absurd ⟨k, hk'⟩ hk), fin_other ps t mk _ (fun q hq e => hk ⟨q.1, by rw [(mkspec q hq).2, e]⟩), hf.rest t (fun k hk' => absurd ⟨k, hk'⟩ hk)]
   cases a'
   cases hfin : fin ps mk (fr l.toArray val a l.length)
   rw [hfin] at hd ht
   simp only at hd ht
   rw [hd, ht]
  rw [e]
  exact g2 ps w' hwd'
 ·
  have : ∀ n, (List.range n).countP (fun i => !(Array.replicate l.toArray.size false).getD i false) ≤ n := fun n => by
   have := List.countP_le_length (p := fun i => !(Array.replicate l.toArray.size false).getD i false) (l := List.range n)
   simpa using this
  exact this _
 ·
  exact (St.start _ a).congr (fun k => rep_getD _ k)
 ·
  have e : ∀ k, (Array.replicate l.toArray.size false).getD k false = false := fun k => rep_getD _ k
  refine ⟨?_, fun k t zs s cs _ hl => ?_, fun k k' _ _ hl _ _ => ?_⟩
  ·
   unfold bw
   cases ov with
   | none => exact Below.refl _ _
   | some v => simp only [e v.s, Bool.false_eq_true, if_false]; exact Below.refl _ _
  ·
   rw [e k] at hl; cases hl
  ·
   rw [e k] at hl; cases hl
 ·
  intro j o _ hj
  have e : ∀ k, (Array.replicate l.toArray.size false).getD k false = false := fun k => rep_getD _ k
  simp only [e j] at hj
  cases hj

/-! ### The walk's steps -/
section
variable {w0 : World} {ks : Nat → Kind} {ov : Option Over} {Fin : Act → Prop} {o : Oper} {r : List Oper} {i : Nat} {a : Act}
theorem st_plain0 (v : Value) (hk : ks i = .plain) (hw : Region.wanted o (yielded ops a.tmps) = true) (h1 : ∀ w, Below w0.heap.size w0 w → steadyUpon P w v ((execOp a.eval o).run P w)) (h2 : wpSt P ops w0 ks ov Fin r (i + 1) (a.put o.dst v)) : wpSt P ops w0 ks ov Fin (o :: r) i a := by
 unfold wpSt
 simp only [hk]
 rw [if_pos hw]
 exact ⟨v, h1, h2⟩
theorem st_skip0 (hk : ks i = .plain) (hw : Region.wanted o (yielded ops a.tmps) = false) (h2 : wpSt P ops w0 ks ov Fin r (i + 1) (a.put o.dst undef)) : wpSt P ops w0 ks ov Fin (o :: r) i a := by
 unfold wpSt
 simp only [hk]
 rw [if_neg (by rw [hw]; simp)]
 exact h2
theorem st_late0 (v : Value) (hk : ks i = .late) (hw : Region.wanted o (yielded ops a.tmps) = true) (h1 : ∀ w, (execOp a.eval o).run P w = .ok (.value v) w) (h2 : wpSt P ops w0 ks ov Fin r (i + 1) (a.put o.dst v)) : wpSt P ops w0 ks ov Fin (o :: r) i a := by
 unfold wpSt
 simp only [hk]
 rw [if_pos hw]
 exact ⟨v, fun w => by rw [h1 w]; exact ⟨rfl, rfl⟩, h2⟩
/-- A call. -/
theorem st_call0 (f : FuncId) (args : Array Value) (v : Value) (hk : ks i = .plain) (hw : Region.wanted o (yielded ops a.tmps) = true) (hr : ∀ w, (execOp a.eval o).run P w = .ok (.enter f args) w)
  (hc : ∀ w, Calls P f args w fun e w' => e = .returned v ∧ Below w.heap.size w w') (h2 : wpSt P ops w0 ks ov Fin r (i + 1) (a.put o.dst v)) : wpSt P ops w0 ks ov Fin (o :: r) i a :=
 st_plain0 v hk hw (fun w _ => by rw [hr w]; exact ⟨rfl, hc w⟩) h2
/-- A value that hangs on the world's old cells alone. -/
theorem st_value0 (v : Value) (hk : ks i = .plain) (hw : Region.wanted o (yielded ops a.tmps) = true) (hr : ∀ w, Below w0.heap.size w0 w → (execOp a.eval o).run P w = .ok (.value v) w) (h2 : wpSt P ops w0 ks ov Fin r (i + 1) (a.put o.dst v)) : wpSt P ops w0 ks ov Fin (o :: r) i a :=
 st_plain0 v hk hw (fun w hb => by rw [hr w hb]; exact ⟨rfl, rfl⟩) h2
/-- A whole row, or struct, is loaded. -/
theorem st_load0 (ty : TypeId) (x : Operand) (g : Nat) (t : TypeId) (cs : Array Value) (fr : Nat × Nat) (d : TypeDesc) (hk : ks i = .plain) (hw : Region.wanted o (yielded ops a.tmps) = true) (ho : o.op = .load ty x) (hx : a.eval x = .pointer (some ⟨g, 0, none⟩))
  (hg : w0.heap[g]? = some (.cells cs t fr)) (hu : P.underlying ty = some d) (hd : (match d with | .struct _ | .array _ _ => true | _ => false) = true) (hi : (P.info? ty).map (·.size) = some cs.size)
  (h2 : wpSt P ops w0 ks ov Fin r (i + 1) (a.put o.dst (.agg cs))) : wpSt P ops w0 ks ov Fin (o :: r) i a :=
 st_value0 (.agg cs) hk hw (fun w hb => by
  unfold execOp
  simp only [ho, hx, Instr.loadAt, Instr.sureAddr, Sem.run_bind, Sem.run_pure, Result.andThen_ok, run_loadVar_row w g t ty cs fr d (below_row hb (lt_of_row hg) hg) hu hd hi]) h2
theorem st_make0 (t : TypeId) (zs : Array Value) (s : Nat) (cs : Array Value) (hk : ks i = .make t zs s cs) (hg : o.guard = none) (ho : o.op = .alloc t) (hz : ∀ w, (zeroValue t).run P w = .ok (.agg zs) w) (h2 : wpSt P ops w0 ks ov Fin r (i + 1) (a.put o.dst undef)) : wpSt P ops w0 ks ov Fin (o :: r) i a := by
 unfold wpSt
 simp only [hk]
 exact ⟨⟨hg, ho, hz⟩, h2⟩
theorem st_put0 (k : Nat) (ty : TypeId) (d : Tmp) (y : Operand) (t : TypeId) (zs cs : Array Value) (hk : ks i = .put k) (hg : o.guard = none) (hd : o.dst = none) (ho : o.op = .store ty (.tmp d) y) (hy : y ≠ .tmp d) (hkd : dstOf ops k = some d) (hkm : ks k = .make t zs i cs) (he : a.eval y = .agg cs)
  (hi : (P.info? ty).map (·.size) = some cs.size) (hz : zs.size = cs.size) (h1 : cs.all (·.oneCell') = true) (h2 : wpSt P ops w0 ks ov Fin r (i + 1) a) : wpSt P ops w0 ks ov Fin (o :: r) i a := by
 unfold wpSt
 simp only [hk]
 exact ⟨⟨hg, hd, ty, d, y, t, zs, cs, ho, hy, hkd, hkm, he, hi, hz, h1⟩, h2⟩
theorem st_nil (h : Fin a) : Wk P ops w0 ks ov Fin [] i a := ⟨h⟩
theorem st_plain (v : Value) (hk : ks i = .plain) (hw : Region.wanted o (yielded ops a.tmps) = true) (h1 : ∀ w, Below w0.heap.size w0 w → steadyUpon P w v ((execOp a.eval o).run P w)) (h2 : Wk P ops w0 ks ov Fin r (i + 1) (a.put o.dst v)) : Wk P ops w0 ks ov Fin (o :: r) i a :=
 ⟨st_plain0 v hk hw h1 h2.run⟩
theorem st_skip (hk : ks i = .plain) (hw : Region.wanted o (yielded ops a.tmps) = false) (h2 : Wk P ops w0 ks ov Fin r (i + 1) (a.put o.dst undef)) : Wk P ops w0 ks ov Fin (o :: r) i a :=
 ⟨st_skip0 hk hw h2.run⟩
theorem st_late (v : Value) (hk : ks i = .late) (hw : Region.wanted o (yielded ops a.tmps) = true) (h1 : ∀ w, (execOp a.eval o).run P w = .ok (.value v) w) (h2 : Wk P ops w0 ks ov Fin r (i + 1) (a.put o.dst v)) : Wk P ops w0 ks ov Fin (o :: r) i a :=
 ⟨st_late0 v hk hw h1 h2.run⟩
theorem st_call (f : FuncId) (args : Array Value) (v : Value) (hk : ks i = .plain) (hw : Region.wanted o (yielded ops a.tmps) = true) (hr : ∀ w, (execOp a.eval o).run P w = .ok (.enter f args) w)
  (hc : ∀ w, Calls P f args w fun e w' => e = .returned v ∧ Below w.heap.size w w') (h2 : Wk P ops w0 ks ov Fin r (i + 1) (a.put o.dst v)) : Wk P ops w0 ks ov Fin (o :: r) i a :=
 ⟨st_call0 f args v hk hw hr hc h2.run⟩
theorem st_value (v : Value) (hk : ks i = .plain) (hw : Region.wanted o (yielded ops a.tmps) = true) (hr : ∀ w, Below w0.heap.size w0 w → (execOp a.eval o).run P w = .ok (.value v) w) (h2 : Wk P ops w0 ks ov Fin r (i + 1) (a.put o.dst v)) : Wk P ops w0 ks ov Fin (o :: r) i a :=
 ⟨st_value0 v hk hw hr h2.run⟩
theorem st_load (ty : TypeId) (x : Operand) (g : Nat) (t : TypeId) (cs : Array Value) (fr : Nat × Nat) (d : TypeDesc) (hk : ks i = .plain) (hw : Region.wanted o (yielded ops a.tmps) = true) (ho : o.op = .load ty x) (hx : a.eval x = .pointer (some ⟨g, 0, none⟩))
  (hg : w0.heap[g]? = some (.cells cs t fr)) (hu : P.underlying ty = some d) (hd : (match d with | .struct _ | .array _ _ => true | _ => false) = true) (hi : (P.info? ty).map (·.size) = some cs.size)
  (h2 : Wk P ops w0 ks ov Fin r (i + 1) (a.put o.dst (.agg cs))) : Wk P ops w0 ks ov Fin (o :: r) i a :=
 ⟨st_load0 ty x g t cs fr d hk hw ho hx hg hu hd hi h2.run⟩
theorem st_make (t : TypeId) (zs : Array Value) (s : Nat) (cs : Array Value) (hk : ks i = .make t zs s cs) (hg : o.guard = none) (ho : o.op = .alloc t) (hz : ∀ w, (zeroValue t).run P w = .ok (.agg zs) w) (h2 : Wk P ops w0 ks ov Fin r (i + 1) (a.put o.dst undef)) : Wk P ops w0 ks ov Fin (o :: r) i a :=
 ⟨st_make0 t zs s cs hk hg ho hz h2.run⟩
theorem st_put (k : Nat) (ty : TypeId) (d : Tmp) (y : Operand) (t : TypeId) (zs cs : Array Value) (hk : ks i = .put k) (hg : o.guard = none) (hd : o.dst = none) (ho : o.op = .store ty (.tmp d) y) (hy : y ≠ .tmp d) (hkd : dstOf ops k = some d) (hkm : ks k = .make t zs i cs) (he : a.eval y = .agg cs)
  (hi : (P.info? ty).map (·.size) = some cs.size) (hz : zs.size = cs.size) (h1 : cs.all (·.oneCell') = true) (h2 : Wk P ops w0 ks ov Fin r (i + 1) a) : Wk P ops w0 ks ov Fin (o :: r) i a :=
 ⟨st_put0 k ty d y t zs cs hk hg hd ho hy hkd hkm he hi hz h1 h2.run⟩
/-- What stands in a row from an offset on. -/
theorem rangeAt_row {w : World} {g off : Nat} {cs : Array Value} {t : TypeId} {fr : Nat × Nat} (h : w.heap[g]? = some (.cells cs t fr)) {ps : List Value} (hp : (cs.toList.drop off).take ps.length = ps) : w.rangeAt g off ps := by
 intro j v hv
 rw [cell_of_row w g (off + j) cs t fr h]
 rw [← hp] at hv
 have hj : j < ps.length := by
  have := (List.getElem?_eq_some_iff.1 hv).1
  simp at this
  omega
 rw [List.getElem?_take_of_lt hj, List.getElem?_drop] at hv
 simpa using hv
/-- One cell of a row (a field that is a number) is loaded. -/
theorem st_cell (ty : TypeId) (x : Operand) (g off : Nat) (v : Value) (t : TypeId) (cs : Array Value) (fr : Nat × Nat) (hk : ks i = .plain) (hw : Region.wanted o (yielded ops a.tmps) = true) (ho : o.op = .load ty x) (hx : a.eval x = .pointer (some ⟨g, off, none⟩))
  (hg : w0.heap[g]? = some (.cells cs t fr)) (hp : cs[off]? = some v) (hd : ∀ w, (isAgg ty).run P w = .ok false w)
  (h2 : Wk P ops w0 ks ov Fin r (i + 1) (a.put o.dst v)) : Wk P ops w0 ks ov Fin (o :: r) i a :=
 st_value v hk hw (fun w hb => by
  have hc : w.cell? ⟨g, off, none⟩ = some v := by rw [cell_of_row w g off cs t fr (below_row hb (lt_of_row hg) hg)]; exact hp
  unfold execOp
  simp [ho, hx, Instr.loadAt, Instr.sureAddr, loadVar, hd, hc]) h2
/-- Behind the region, where nothing old was stored over. -/
theorem Wd.below {ps : Nat → Nat} {L : Nat → Bool} {w : World} (h : Wd ks none w0 ps L w) : Below w0.heap.size w0 w := h.base
/-- .. where a row was stored over. -/
theorem Wd.belowOver {v : Over} {ps : Nat → Nat} {L : Nat → Bool} {w : World} (h : Wd ks (some v) w0 ps L w) (hs : L v.s = true) : Below w0.heap.size (w0.setRow v.g v.cs) w := by
 have := h.base
 unfold bw at this
 simpa only [hs, if_pos] using this
/-- What was made holds what was stored. -/
theorem Wd.row {ps : Nat → Nat} {L : Nat → Bool} {w : World} (h : Wd ks ov w0 ps L w) {k : Nat} {t : TypeId} {zs cs : Array Value} {s : Nat} (hk : ks k = .make t zs s cs) (hl : L k = true) (hs : L s = true) : w0.heap.size ≤ ps k ∧ w.heap[ps k]? = some (.cells cs t (0, 0)) := by
 have := h.rows k t zs s cs hk hl
 rwa [if_pos hs] at this
end
end
end Go.Proofs.Ytbacchdkankioaa.Steady
