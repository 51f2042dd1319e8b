/-
  A region that draws its order, walked once in the order of the text: loads, calls that make memory, variables made and stored to, one store over an older row. Conditions: the check of the region's edges and slots (a Bool, by the kernel), and each operation's own.
-/
import Derived.Test.YtcelmgkjkdbliaaArr
import Derived.Orders
namespace Go.Proofs.Ytcelmgkjkdbliaa.Steady
open Go.ChangeShapes Go.WideShapes Go.ChangeAt Go.RowKit
open Arr
set_option linter.unusedVariables false

/-- What an operation is: 'plain' reads, reckons or calls; 'late' hangs on no world; 'make' makes a variable of type t with cells zs, which operation s then turns to cs; 'put k' stores into what operation k made; 'over' stores over an older row. -/
inductive Kind where
  | plain | late
  | make (t : TypeId) (zs : Array Value) (s : Nat) (cs : Array Value)
  | put (k : Nat)
  | over
structure Over where
  s : Nat
  g : Nat
  t : TypeId
  old : Array Value
  cs : Array Value

/-- What a store over an older row lays: the whole row, or one cell of it. -/
def Lays (P : Program) (ty : TypeId) (X Y : Value) (v : Over) : Prop :=
  (X = .pointer (some ⟨v.g, 0, none⟩) ∧ Y = .agg v.cs ∧ (P.info? ty).map (·.size) = some v.cs.size ∧ v.old.size = v.cs.size ∧ v.cs.all (·.oneCell') = true) ∨
  ∃ off, X = .pointer (some ⟨v.g, off, none⟩) ∧ off < v.old.size ∧ v.cs = v.old.setIfInBounds off Y ∧ (P.info? ty).map (·.size) = some 1 ∧ Y.oneCell' = true
section
variable (ops : Array Oper)
def dstOf (i : Nat) : Option Tmp := (ops[i]?).bind (·.dst)
def depB (i k : Nat) : Bool := match ops[i]? with
  | some o => o.after.any fun e => Region.binds .any e && e.on == k
  | none => false
def isMake : Kind → Bool | .make .. => true | _ => false
def isPutOf (k : Nat) : Kind → Bool | .put j => j == k | _ => false
def isOver : Kind → Bool | .over => true | _ => false
def isPlain : Kind → Bool | .plain => true | _ => false
def notSelect : Op → Bool | .select .. => false | _ => true
/-- The check of one operation. -/
def checkAt (ks : Nat → Kind) (ov : Option Nat) (sz i : Nat) : Bool := match ops[i]? with
  | none => false
  | some o =>
    (o.after.all fun e => !Region.binds .any e || decide (e.on < i)) && notSelect o.op &&
    (match o.dst with | none => true | some t => decide (t < sz) && (List.range ops.size).all fun k => k == i || dstOf ops k != some t) &&
    ((o.looksAt ops).all fun t => (List.range ops.size).all fun k => dstOf ops k != some t || (if isMake (ks k) then isPutOf k (ks i) && depB ops i k else depB ops i k || k == i || depB ops k i)) &&
    (match ks i with
      | .make _ _ s _ => decide (ops.size ≤ s) || isPutOf i (ks s)
      | .put k => (match ks k with | .make _ _ s _ => s == i | _ => false) && depB ops i k && decide (k < ops.size)
      | .over => ov == some i
      | _ => true) &&
    (match ov with | some s => !isPlain (ks i) || depB ops s i | none => true)
def checkB (ks : Nat → Kind) (ov : Option Nat) (sz : Nat) : Bool := (List.range ops.size).all (checkAt ops ks ov sz) && (match ov with | some s => decide (s < ops.size) && isOver (ks s) | none => true)
end

section
variable {P : Program} {ops : Array Oper}

/-- What one run yields: a value in the world that it got, or a call that answers it and leaves all that lay there. -/
def steadyUpon (P : Program) (w : World) (v : Value) : Result Next → Prop
  | .ok (.value u) w' => w' = w ∧ u = v
  | .ok (.enter f args) w' => w' = w ∧ Calls P f args w (fun e w'' => e = .returned v ∧ Below w.heap.size w w'')
  | _ => False
def lateUpon (w : World) (v : Value) : Result Next → Prop
  | .ok (.value u) w' => w' = w ∧ u = v
  | _ => False

/-- The walk in the order of the text. -/
def wpSt (P : Program) (ops : Array Oper) (w0 : World) (ks : Nat → Kind) (ov : Option Over) (Fin : Act → Prop) : List Oper → Nat → Act → Prop
  | [], _, a => Fin a
  | o :: r, i, a => match ks i with
    | .plain => if Region.wanted o (yielded ops a.tmps) then ∃ v, (∀ w, Below w0.heap.size w0 w → steadyUpon P w v ((execOp a.eval o).run P w)) ∧ wpSt P ops w0 ks ov Fin r (i + 1) (a.put o.dst v)
        else wpSt P ops w0 ks ov Fin r (i + 1) (a.put o.dst undef)
    | .late => if Region.wanted o (yielded ops a.tmps) then ∃ v, (∀ w, lateUpon w v ((execOp a.eval o).run P w)) ∧ wpSt P ops w0 ks ov Fin r (i + 1) (a.put o.dst v)
        else wpSt P ops w0 ks ov Fin r (i + 1) (a.put o.dst undef)
    | .make t zs s cs => (o.guard = none ∧ o.op = .alloc t ∧ (∀ w, (zeroValue t).run P w = .ok (.agg zs) w)) ∧ wpSt P ops w0 ks ov Fin r (i + 1) (a.put o.dst undef)
    | .put k => (o.guard = none ∧ o.dst = none ∧ ∃ ty d y t zs cs, o.op = .store ty (.tmp d) y ∧ y ≠ .tmp d ∧ dstOf ops k = some d ∧ ks k = .make t zs i cs ∧ a.eval y = .agg cs ∧ (P.info? ty).map (·.size) = some cs.size ∧ zs.size = cs.size ∧ cs.all (·.oneCell') = true) ∧ wpSt P ops w0 ks ov Fin r (i + 1) a
    | .over => (o.guard = none ∧ o.dst = none ∧ ∃ ty x y v, ov = some v ∧ v.s = i ∧ o.op = .store ty x y ∧ w0.heap[v.g]? = some (.cells v.old v.t (0, 0)) ∧ Lays P ty (a.eval x) (a.eval y) v) ∧ wpSt P ops w0 ks ov Fin r (i + 1) a

/-- The frame behind the first i operations, in the order of the text. -/
def fr (ops : Array Oper) (val : Nat → Value) (a : Act) : Nat → Act
  | 0 => a
  | i + 1 => (fr ops val a i).put (dstOf ops i) (val i)

/-! ### The state on the way, whatever the order -/
/-- Slots: what is listed has its value, the rest is as it was. -/
structure St (ops : Array Oper) (val : Nat → Value) (L : Nat → Bool) (a0 a : Act) : Prop where
  defers : a.defers = a0.defers
  size : a.tmps.size = a0.tmps.size
  done : ∀ k t, dstOf ops k = some t → L k = true → a.tmps.getD t undef = val k
  rest : ∀ t, (∀ k, dstOf ops k = some t → L k = false) → a.tmps.getD t undef = a0.tmps.getD t undef

theorem put_getD_same (a : Act) (t : Nat) (v : Value) (h : t < a.tmps.size) : (a.put (some t) v).tmps.getD t undef = v := by
  simp [Act.put, h]
theorem put_getD_other (a : Act) (d : Option Tmp) (t : Nat) (v : Value) (h : d ≠ some t) : (a.put d v).tmps.getD t undef = a.tmps.getD t undef := by
  cases d with
  | none => rfl
  | some d =>
    have : d ≠ t := fun e => h (by rw [e])
    simp [Act.put, Array.getElem?_setIfInBounds_ne this]
theorem put_size (a : Act) (d : Option Tmp) (v : Value) : (a.put d v).tmps.size = a.tmps.size := by cases d <;> simp [Act.put]
theorem put_defers (a : Act) (d : Option Tmp) (v : Value) : (a.put d v).defers = a.defers := by cases d <;> rfl

/-- One more is listed. -/
theorem St.step {val val' : Nat → Value} {L : Nat → Bool} {a0 a : Act} (h : St ops val L a0 a) (i : Nat) (hL : L i = false)
    (hu : ∀ k t, dstOf ops i = some t → dstOf ops k = some t → k = i) (hz : ∀ t, dstOf ops i = some t → t < a0.tmps.size) (hv : ∀ k, k ≠ i → val' k = val k) :
    St ops val' (fun k => if k = i then true else L k) a0 (a.put (dstOf ops i) (val' i)) := by
  refine ⟨by rw [put_defers, h.defers], by rw [put_size, h.size], fun k t hk hl => ?_, fun t ht => ?_⟩
  · by_cases e : k = i
    · subst e
      rw [hk, put_getD_same _ _ _ (by rw [h.size]; exact hz t hk)]
    · rw [if_neg e] at hl
      have hne : dstOf ops i ≠ some t := fun hh => e (hu k t hh hk)
      rw [put_getD_other _ _ _ _ hne, hv k e]
      exact h.done k t hk hl
  · have hne : dstOf ops i ≠ some t := fun hh => by simpa using ht i hh
    rw [put_getD_other _ _ _ _ hne]
    refine h.rest t (fun k hk => ?_)
    have := ht k hk
    by_cases e : k = i
    · subst e; simp at this
    · rwa [if_neg e] at this
theorem St.congr {val : Nat → Value} {L L' : Nat → Bool} {a0 a : Act} (h : St ops val L a0 a) (e : ∀ k, L' k = L k) : St ops val L' a0 a :=
  ⟨h.defers, h.size, fun k t hk hl => h.done k t hk (by rw [← e k]; exact hl), fun t ht => h.rest t (fun k hk => by rw [← e k]; exact ht k hk)⟩
theorem St.start (val : Nat → Value) (a0 : Act) : St ops val (fun _ => false) a0 a0 := ⟨rfl, rfl, (fun _ _ _ h => Bool.noConfusion h), (fun _ _ => rfl)⟩
theorem St.fr {val : Nat → Value} {a0 : Act} (hu : ∀ i k t, dstOf ops i = some t → dstOf ops k = some t → k = i) (hz : ∀ i t, dstOf ops i = some t → t < a0.tmps.size) :
    ∀ i, St ops val (fun k => decide (k < i)) a0 (fr ops val a0 i)
  | 0 => (St.start val a0).congr (fun k => by simp)
  | i + 1 => by
    refine ((St.fr hu hz i).step (val' := val) i (by simp) (fun k t => hu i k t) (fun t => hz i t) (fun _ _ => rfl)).congr (fun k => ?_)
    by_cases e : k = i
    · subst e; simp
    · rw [if_neg e]; exact decide_eq_decide.2 (by omega)

/-! ### What the check gives -/
theorem lt_of_dst {k : Nat} {t : Tmp} (h : dstOf ops k = some t) : k < ops.size := by
  rcases Nat.lt_or_ge k ops.size with h' | h'
  · exact h'
  · simp [dstOf, Array.getElem?_eq_none h'] at h
theorem dep_of {i k : Nat} (h : depB ops i k = true) : ∃ o, ops[i]? = some o ∧ ∃ e ∈ o.after, Region.binds .any e = true ∧ e.on = k := by
  unfold depB at h
  split at h
  · rename_i o ho
    obtain ⟨e, he, hb⟩ := Array.any_eq_true'.1 h
    simp only [Bool.and_eq_true, beq_iff_eq] at hb
    exact ⟨o, ho, e, he, hb.1, hb.2⟩
  · cases h
structure Spec (ops : Array Oper) (ks : Nat → Kind) (ov : Option Nat) (sz i : Nat) (o : Oper) : Prop where
  lower : ∀ e ∈ o.after, Region.binds .any e = true → e.on < i
  select : ∀ cs b, o.op ≠ .select cs b
  dst : ∀ t, o.dst = some t → t < sz ∧ ∀ k, dstOf ops k = some t → k = i
  looks : ∀ t ∈ o.looksAt ops, ∀ k, dstOf ops k = some t → if isMake (ks k) = true then isPutOf k (ks i) = true ∧ depB ops i k = true else depB ops i k = true ∨ k = i ∨ depB ops k i = true
  make : ∀ t zs s cs, ks i = .make t zs s cs → ops.size ≤ s ∨ isPutOf i (ks s) = true
  put : ∀ k, ks i = .put k → k < ops.size ∧ depB ops i k = true
  over : ks i = .over → ov = some i
  plain : ∀ s, ov = some s → isPlain (ks i) = true → depB ops s i = true
/-! ### One operation, whatever has come up before -/
/-- The closed lists. -/
def Closed (ops : Array Oper) (L : Nat → Bool) : Prop := ∀ j o, ops[j]? = some o → L j = true → ∀ e ∈ o.after, Region.binds .any e = true → L e.on = true
theorem closed_dep {L : Nat → Bool} (h : Closed ops L) {i k : Nat} (hd : depB ops i k = true) (hi : L i = true) : L k = true := by
  obtain ⟨o, ho, e, he, hb, rfl⟩ := dep_of hd
  exact h i o ho hi e he hb
/-- The value of what is made stands for the block. -/
def vp (ks : Nat → Kind) (ps : Nat → Nat) (val : Nat → Value) (k : Nat) : Value := if isMake (ks k) = true then .pointer (some ⟨ps k, 0, none⟩) else val k
structure At (ops : Array Oper) (ks : Nat → Kind) (ov : Option Nat) (sz : Nat) (val : Nat → Value) (ps : Nat → Nat) (L : Nat → Bool) (a0 a : Act) (i : Nat) (o : Oper) : Prop where
  op : ops[i]? = some o
  st : St ops (vp ks ps val) L a0 a
  closed : Closed ops L
  off : L i = false
  ready : ∀ e ∈ o.after, Region.binds .any e = true → L e.on = true
  within : ∀ k, L k = true → k < ops.size
theorem eval_tmp (a : Act) (t : Tmp) : a.eval (.tmp t) = a.tmps.getD t undef := rfl
/-- The world on the way. -/
def bw (ov : Option Over) (w0 : World) (L : Nat → Bool) : World := match ov with
  | some v => if L v.s = true then w0.setRow v.g v.cs else w0
  | none => w0
structure Wd (ks : Nat → Kind) (ov : Option Over) (w0 : World) (ps : Nat → Nat) (L : Nat → Bool) (w : World) : Prop where
  base : Below w0.heap.size (bw ov w0 L) w
  rows : ∀ k t zs s cs, ks k = .make t zs s cs → L k = true → w0.heap.size ≤ ps k ∧ w.heap[ps k]? = some (.cells (if L s = true then cs else zs) t (0, 0))
  apart : ∀ k k', isMake (ks k) = true → isMake (ks k') = true → L k = true → L k' = true → k ≠ k' → ps k ≠ ps k'
theorem bw_size (ov : Option Over) (w0 : World) (L : Nat → Bool) : (bw ov w0 L).heap.size = w0.heap.size := by
  unfold bw
  cases ov with
  | none => rfl
  | some v => simp only; split <;> simp
theorem Wd.size {ks : Nat → Kind} {ov : Option Over} {w0 : World} {ps : Nat → Nat} {L : Nat → Bool} {w : World} (h : Wd ks ov w0 ps L w) : w0.heap.size ≤ w.heap.size := by
  have := h.base.size; rwa [bw_size] at this
/-- Another one is listed that makes nothing and stores nothing: what lay there lies there. -/
theorem Wd.later {ks : Nat → Kind} {ov : Option Over} {w0 : World} {ps : Nat → Nat} {L : Nat → Bool} {w w' : World} (h : Wd ks ov w0 ps L w) (i : Nat) (hb : Below w.heap.size w w')
    (hi : isMake (ks i) = false) (hs : ∀ k t zs s cs, ks k = .make t zs s cs → L k = true → s ≠ i) (ho : ∀ v, ov = some v → v.s ≠ i) : Wd ks ov w0 ps (fun k => if k = i then true else L k) w' := by
  have e : bw ov w0 (fun k => if k = i then true else L k) = bw ov w0 L := by
    unfold bw
    cases ov with
    | none => rfl
    | some v => simp only [if_neg (ho v rfl)]
  refine ⟨by rw [e]; exact h.base.trans (hb.mono h.size), fun k t zs s cs hk hl => ?_, fun k k' hk hk' hl hl' hne => ?_⟩
  · have hki : k ≠ i := fun e => by rw [← e, hk] at hi; cases hi
    rw [if_neg hki] at hl
    obtain ⟨h1, h2⟩ := h.rows k t zs s cs hk hl
    refine ⟨h1, ?_⟩
    rw [if_neg (hs k t zs s cs hk hl)]
    exact below_row hb (lt_of_row h2) h2
  · have hki : k ≠ i := fun e => by rw [← e, hk] at hi; cases hi
    have hki' : k' ≠ i := fun e => by rw [← e, hk'] at hi; cases hi
    rw [if_neg hki] at hl
    rw [if_neg hki'] at hl'
    exact h.apart k k' hk hk' hl hl' hne
theorem Wd.congr {ks : Nat → Kind} {ov : Option Over} {w0 : World} {ps : Nat → Nat} {L L' : Nat → Bool} {w : World} (h : Wd ks ov w0 ps L w) (e : ∀ k, L' k = L k) : Wd ks ov w0 ps L' w := by
  obtain rfl : L' = L := funext e
  exact h

/-! ### Every order -/
/-- The frame at the end: what was made stands in its slots. -/
def fin (ps : Nat → Nat) (mk : List (Nat × Tmp)) (a : Act) : Act := mk.foldl (fun a p => a.put (some p.2) (.pointer (some ⟨ps p.1, 0, none⟩))) a
/-- The walk behind a name that does not unfold: else Lean's own look at a goal would run through what is not wanted. -/
structure Wk (P : Program) (ops : Array Oper) (w0 : World) (ks : Nat → Kind) (ov : Option Over) (Fin : Act → Prop) (l : List Oper) (i : Nat) (a : Act) : Prop where
  run : wpSt P ops w0 ks ov Fin l i a
/-! ### The walk's steps -/
section
variable {w0 : World} {ks : Nat → Kind} {ov : Option Over} {Fin : Act → Prop} {o : Oper} {r : List Oper} {i : Nat} {a : Act}
/-- Behind the region, where nothing old was stored over. -/
theorem Wd.below {ps : Nat → Nat} {L : Nat → Bool} {w : World} (h : Wd ks none w0 ps L w) : Below w0.heap.size w0 w := h.base
/-- .. where a row was stored over. -/
theorem Wd.belowOver {v : Over} {ps : Nat → Nat} {L : Nat → Bool} {w : World} (h : Wd ks (some v) w0 ps L w) (hs : L v.s = true) : Below w0.heap.size (w0.setRow v.g v.cs) w := by
  have := h.base
  unfold bw at this
  simpa only [hs, if_pos] using this
/-- What was made holds what was stored. -/
theorem Wd.row {ps : Nat → Nat} {L : Nat → Bool} {w : World} (h : Wd ks ov w0 ps L w) {k : Nat} {t : TypeId} {zs cs : Array Value} {s : Nat} (hk : ks k = .make t zs s cs) (hl : L k = true) (hs : L s = true) : w0.heap.size ≤ ps k ∧ w.heap[ps k]? = some (.cells cs t (0, 0)) := by
  have := h.rows k t zs s cs hk hl
  rwa [if_pos hs] at this
end
end
end Go.Proofs.Ytcelmgkjkdbliaa.Steady
