/-
  Slices in the walks of Sx and Sw: those that came in, those that the function makes and appends to, and calls that hand rows back. No condition.
-/
import Derived.Test.YtjpkcpoamkameaaSw
import Derived.Laws.OwnMore
import Derived.Deep.Slices
import Derived.Lib.SliceRun
namespace Go.Proofs.Ytjpkcpoamkameaa.Sl
open Go.ChangeShapes Go.WideShapes Go.ChangeAt Go.RowKit
open Arr Steady Sx Sw
set_option linter.unusedVariables false

/-- The address of cell k behind a slice's base. -/
def eaddr (p : Option Addr) (k : Nat) : Value := .pointer (p.map (·.add k))
/-- What a slice reads as: its cells. -/
def Reads (w : World) (p : Option Addr) (xs : List Value) : Prop := ∀ j u, xs[j]? = some u → ∃ a, p = some a ∧ w.cell? (a.add j) = some u
/-- .. wherever the rows stand. -/
def SlAt (w0 : World) (R : List Rw) (p : Option Addr) (xs : List Value) : Prop := ∀ w, Env w0 w R → Reads w p xs
theorem add_block (a : Addr) (j : Nat) : (a.add j).block = a.block := by unfold Addr.add; split <;> rfl
theorem reads_block {w w' : World} {p : Option Addr} {xs : List Value} (h : Reads w p xs) (hb : ∀ a, p = some a → a.block < w.heap.size → w'.heap[a.block]? = w.heap[a.block]?) : Reads w' p xs := by
  intro j u hj
  obtain ⟨a, ha, hc⟩ := h j u hj
  refine ⟨a, ha, ?_⟩
  have hlt : (a.add j).block < w.heap.size := World.block_lt_of_cell? w _ hc
  rw [add_block] at hlt
  rw [World.cell?_of_block (w := w) (w' := w') (by rw [add_block]; exact hb a ha hlt)]
  exact hc
theorem reads_below {w0 w : World} {p : Option Addr} {xs : List Value} (h : Reads w0 p xs) (hb : Below w0.heap.size w0 w) : Reads w p xs := reads_block h (fun a _ hlt => hb.block _ hlt)
theorem sl_old {w0 : World} {R : List Rw} {p : Option Addr} {xs : List Value} (h : Reads w0 p xs) : SlAt w0 R p xs := fun _ hE => reads_below h hE.below
theorem reads_nil (w : World) (p : Option Addr) : Reads w p [] := by intro j u h; simp at h
theorem SlAt.some {w0 w : World} {R : List Rw} {p : Option Addr} {xs : List Value} (h : SlAt w0 R p xs) (hE : Env w0 w R) {k : Nat} (hk : k < xs.length) : ∃ a, p = some a ∧ w.cell? (a.add k) = some xs[k] := h w hE k xs[k] (List.getElem?_eq_getElem hk)

/-- A slice that the function made: none yet, or a row of its own. -/
inductive Own where
  | none
  | row (g cap : Nat) (cur : Array Value)
def Own.ptr : Own → Option Addr | .none => Option.none | .row g _ _ => some ⟨g, 0, Option.none⟩
def Own.cap : Own → Nat | .none => 0 | .row _ c _ => c
def Own.rows (e : TypeId) : Own → List Rw | .none => [] | .row g _ cur => [⟨g, cur, e⟩]
/-- It has n elements of so many cells: xs. -/
def Own.Has (s : Own) (size n : Nat) (xs : List Value) : Prop := xs.length = n * size ∧ match s with
  | .none => n = 0
  | .row _ cap cur => n ≤ cap ∧ cap ≤ maxLen ∧ cur.size = cap * size ∧ cur.toList.take (n * size) = xs
abbrev Own.val (s : Own) (n : Nat) : Value := .slice s.ptr n s.cap
theorem Own.has_none (size : Nat) : Own.none.Has size 0 [] := ⟨by simp, rfl⟩
theorem Own.has_lit (g n size : Nat) (cs : Array Value) (hm : n ≤ maxLen) (hs : cs.size = n * size) : (Own.row g n cs).Has size n cs.toList := ⟨by simpa using hs, Nat.le_refl _, hm, hs, List.take_of_length_le (by rw [Array.length_toList, hs]; exact Nat.le_refl _)⟩
section
variable {P : Program} {ops : Array Oper} {Q : Exit → Act → World → Prop} {l rest : List Oper} {o : Oper} {a : Act} {w0 w : World} {R A B : List Rw} {e : TypeId} {s : Own} {size n : Nat} {xs : List Value}
theorem Own.at (hE : Env w0 w R) (hR : R = A ++ (s.rows e ++ B)) {g cap : Nat} {cur : Array Value} (hs : s = .row g cap cur) : w.heap[g]? = some (.cells cur e (0, 0)) := by
  subst hs
  exact hE.row ⟨g, cur, e⟩ (by rw [hR]; simp [Own.rows])
/-! ### Calls that hand rows back -/
theorem Env.join {w' : World} {S : List Rw} (h : Env w0 w R) (h' : Env w w' S) : Env w0 w' (S ++ R) := by
  refine ⟨h.below.trans (h'.below.mono h.below.size), fun r hr => ?_, fun r hr => ?_, ?_⟩
  · rcases List.mem_append.1 hr with hr | hr
    · exact Nat.le_trans h.below.size (h'.own r hr)
    · exact h.own r hr
  · rcases List.mem_append.1 hr with hr | hr
    · exact h'.row r hr
    · exact below_row h'.below (lt_of_row (h.row r hr)) (h.row r hr)
  · rw [List.pairwise_append]
    refine ⟨h'.apart, h.apart, fun r hr r' hr' => ?_⟩
    have h1 := h'.own r hr
    have h2 := lt_of_row (h.row r' hr')
    omega
section
variable {ks : Nat → Kind} {ov : Option Over} {mk : List (Nat × Tmp)} {N i : Nat} {r : List Oper}
end

/-! ### Single operations at elements -/
section
variable {p : Option Addr} {x y : Operand} {t ty : TypeId} {c k : Nat}
theorem er_index (k size : Nat) {kk : IntKind} {E : Int} (hS : SlAt w0 R p xs) (ho : o.op = .indexAddr t x y) (hx : a.eval x = .slice p n c) (hy : a.eval y = .int kk E) (he : E = (k : Int)) (hk : k < n) (hl : xs.length = n * size) (h0 : 0 < size)
    (hu : P.underlying t = some (.slice ty)) (hs : (P.info? ty).map (·.size) = some size) : ∀ w, Env w0 w R → (execOp a.eval o).run P w = .ok (.value (eaddr p (k * size))) w := by
  intro w hE
  have hkl : k * size < xs.length := by rw [hl]; exact Nat.mul_lt_mul_of_pos_right hk h0
  obtain ⟨b, rfl, _⟩ := hS.some hE hkl
  cases hq : P.info? ty with
  | none => simp [hq] at hs
  | some i =>
    have hz : i.size = size := by simpa [hq] using hs
    unfold execOp
    simp only [ho, hx, hy, he]
    have h1 : (0 : Int) ≤ (k : Int) := by omega
    have h2 : (k : Int) < (n : Int) := by omega
    simp [Instr.indexAt, asIntOf, run_underlying hu, sizeOf, typeInfo, hq, hz, hk, eaddr]
theorem er_part (m : Nat) (ps : List Value) {d : TypeDesc} (hS : SlAt w0 R p xs) (ho : o.op = .load t x) (hx : a.eval x = eaddr p m) (hm : (xs.drop m).take ps.length = ps) (h0 : 0 < ps.length) (hu : P.underlying t = some d) (hd : d.isRow = true) (hi : (P.info? t).map (·.size) = some ps.length) :
    ∀ w, Env w0 w R → (execOp a.eval o).run P w = .ok (.value (.agg ps.toArray)) w := by
  intro w hE
  have hcell : ∀ j u, ps[j]? = some u → xs[m + j]? = some u := by
    intro j u hj
    rw [← hm, List.getElem?_take] at hj
    split at hj
    · rwa [List.getElem?_drop] at hj
    · cases hj
  obtain ⟨b, rfl, hc0⟩ := hS w hE m _ (by simpa using hcell 0 ps[0] (List.getElem?_eq_getElem h0))
  have hl : ∀ j u, ps[j]? = some u → w.cell? ((b.add m).add j) = some u := by
    intro j u hj
    obtain ⟨b', hb', hc⟩ := hS w hE (m + j) u (hcell j u hj)
    cases hb'
    rw [Go.Deep.add_add]
    exact hc
  have hr := run_loadCells_list (P := P) w (b.add m) ps hl
  cases hq : P.info? t with
  | none => simp [hq] at hi
  | some i =>
    have hz : i.size = ps.length := by simpa [hq] using hi
    have hag : (isAgg t).run P w = .ok true w := by
      unfold isAgg
      rw [Sem.run_bind, run_underlying hu w]
      cases d <;> first | rfl | cases hd
    unfold execOp
    simp [ho, hx, eaddr, Instr.loadAt, Instr.sureAddr, loadVar, hag, sizeOf, typeInfo, hq, hz, hr]
theorem er_len (ho : o.op = .call { callee := .builtin .len, args := #[x], argTypes := #[t] }) (hx : a.eval x = .slice p n c) (hu : P.underlying t = some (.slice ty)) (w : World) : (execOp a.eval o).run P w = .ok (.value (.int .i64 (n : Int))) w := by
  unfold execOp
  simp [ho, hx, resolve, invoke, builtin, Builtin.len_, run_underlying hu, goInt]
end
/-! ### Appending -/
def Own.blk : Own → Option Nat | .none => Option.none | .row g _ _ => some g
theorem Env.own_step {w' : World} {s' : Own} (h : Env w0 w (A ++ (s.rows e ++ B))) (hg : w.grownBy w' s.blk) (hs' : ∀ g cap cur, s' = .row g cap cur → w'.heap[g]? = some (.cells cur e (0, 0)) ∧ ((∃ c k, s = .row g c k) ∨ w.heap.size ≤ g)) : Env w0 w' (A ++ (s'.rows e ++ B)) := by
  have hown : ∀ g, s.blk = some g → w0.heap.size ≤ g := by
    intro g hb
    cases s with
    | none => cases hb
    | row g' c k =>
      cases hb
      exact h.own ⟨g, k, e⟩ (by simp [Own.rows])
  have hap := h.apart
  rw [List.pairwise_append, List.pairwise_append] at hap
  obtain ⟨hA, ⟨_, hB, hsB⟩, hAs⟩ := hap
  have hne : ∀ r, r ∈ A ∨ r ∈ B → s.blk ≠ some r.g := by
    intro r hr hb
    cases s with
    | none => cases hb
    | row g' c k =>
      cases hb
      rcases hr with hr | hr
      · exact hAs r hr ⟨r.g, k, e⟩ (by simp [Own.rows]) rfl
      · exact hsB ⟨r.g, k, e⟩ (by simp [Own.rows]) r hr rfl
  have hmem : ∀ r, r ∈ A ∨ r ∈ B → r ∈ A ++ (s.rows e ++ B) := by
    intro r hr
    rcases hr with hr | hr <;> simp [hr]
  have hkeep : ∀ r, r ∈ A ∨ r ∈ B → w'.heap[r.g]? = some (.cells r.cs r.t (0, 0)) := by
    intro r hr
    have h1 := h.row r (hmem r hr)
    rw [hg.block r.g (lt_of_row h1) (fun e => hne r hr e.symm)]
    exact h1
  have hge : ∀ r ∈ s'.rows e, w0.heap.size ≤ r.g ∧ w'.heap[r.g]? = some (.cells r.cs r.t (0, 0)) ∧ ∀ q, q ∈ A ∨ q ∈ B → r.g ≠ q.g := by
    intro r hr
    cases s' with
    | none => cases hr
    | row g' c k =>
      simp only [Own.rows, List.mem_singleton] at hr
      subst hr
      obtain ⟨h1, h2⟩ := hs' g' c k rfl
      refine ⟨?_, h1, fun q hq => ?_⟩
      · rcases h2 with ⟨c', k', rfl⟩ | h2
        · exact hown g' rfl
        · exact Nat.le_trans h.below.size h2
      · rcases h2 with ⟨c', k', rfl⟩ | h2
        · exact fun e => hne q hq (by rw [← e]; rfl)
        · have := lt_of_row (h.row q (hmem q hq))
          show g' ≠ q.g
          omega
  have hs1 : (s'.rows e).Pairwise fun r q => r.g ≠ q.g := by cases s' <;> simp [Own.rows]
  refine ⟨⟨hg.os.trans h.below.os, hg.tape.trans h.below.tape, hg.output.trans h.below.output, Nat.le_trans h.below.size hg.size, fun k hk => ?_⟩, fun r hr => ?_, fun r hr => ?_, ?_⟩
  · rw [hg.block k (Nat.lt_of_lt_of_le hk h.below.size) (fun e => by have := hown k e.symm; omega)]
    exact h.below.block k hk
  · rcases List.mem_append.1 hr with hr | hr
    · exact h.own r (hmem r (.inl hr))
    · rcases List.mem_append.1 hr with hr | hr
      · exact (hge r hr).1
      · exact h.own r (hmem r (.inr hr))
  · rcases List.mem_append.1 hr with hr | hr
    · exact hkeep r (.inl hr)
    · rcases List.mem_append.1 hr with hr | hr
      · exact (hge r hr).2.1
      · exact hkeep r (.inr hr)
  · rw [List.pairwise_append, List.pairwise_append]
    refine ⟨hA, ⟨hs1, hB, fun r hr q hq => (hge r hr).2.2 q (.inr hq)⟩, fun r hr q hq => ?_⟩
    rcases List.mem_append.1 hq with hq | hq
    · exact fun e => (hge q hq).2.2 r (.inl hr) e.symm
    · exact hAs r hr q (List.mem_append_right _ hq)
/-- A call that hands back a slice of its own making. -/
theorem Env.perm {R' : List Rw} (h : Env w0 w R) (hp : R.Perm R') : Env w0 w R' :=
  ⟨h.below, fun r hr => h.own r (hp.mem_iff.2 hr), fun r hr => h.row r (hp.mem_iff.2 hr), (hp.pairwise_iff (fun h e => h e.symm)).1 h.apart⟩
theorem Env.tail (h : Env w0 w R) (hs : (s.rows e ++ []).Sublist R) : Env w0 w (s.rows e) := h.sub (by rwa [List.append_nil] at hs)

/-! ### What stands in a row, by its elements -/
def flat {α : Type} (enc : α → List Value) (L : List α) : List Value := L.flatMap enc
theorem flat_length {α : Type} {enc : α → List Value} {size : Nat} (hs : ∀ x, (enc x).length = size) (L : List α) : (flat enc L).length = L.length * size := by
  induction L with
  | nil => simp [flat]
  | cons x r ih =>
    simp only [flat, List.flatMap_cons, List.length_append, List.length_cons] at *
    rw [ih, hs, Nat.add_mul]
    omega
theorem flat_part {α : Type} [Inhabited α] {enc : α → List Value} {size : Nat} (hs : ∀ x, (enc x).length = size) (L : List α) (k : Nat) (hk : k < L.length) : ((flat enc L).drop (k * size)).take size = enc L[k]! := by
  induction L generalizing k with
  | nil => simp at hk
  | cons x r ih =>
    cases k with
    | zero => simp [flat, hs x]
    | succ k =>
      have h1 : (flat enc (x :: r)).drop ((k + 1) * size) = (flat enc r).drop (k * size) := by
        show ((x :: r).flatMap enc).drop _ = _
        rw [List.flatMap_cons, List.drop_append, hs x, List.drop_eq_nil_of_le (by rw [hs x, Nat.add_mul]; omega), List.nil_append]
        congr 1
        rw [Nat.add_mul]
        omega
      rw [h1, ih k (by simpa using hk)]
      simp
theorem flat_cell {α : Type} [Inhabited α] {enc : α → List Value} {size : Nat} (hs : ∀ x, (enc x).length = size) (L : List α) (k j : Nat) (hk : k < L.length) (hj : j < size) : (flat enc L)[k * size + j]? = (enc L[k]!)[j]? := by
  rw [← flat_part hs L k hk, List.getElem?_take, if_pos hj, List.getElem?_drop]
end
end Go.Proofs.Ytjpkcpoamkameaa.Sl
