/-
  Slices in the walks of Sx and Sw: those that came in, those that the function makes and appends to, and calls that hand rows back. No condition.
-/
import Derived.Test.YtbacchdkankioaaSw
import Derived.Laws.OwnMore
import Derived.Deep.Slices
import Derived.Lib.SliceRun
namespace Go.Proofs.Ytbacchdkankioaa.Sl
open Go.ChangeShapes Go.WideShapes Go.ChangeAt Go.RowKit
open Arr Steady Sx Sw
set_option linter.unusedVariables false

/-- The address of cell k behind a slice's base. -/
def eaddr (p : Option Addr) (k : Nat) : Value := .pointer (p.map (·.add k))
/-- What a slice reads as: its cells. -/
def Reads (w : World) (p : Option Addr) (xs : List Value) : Prop := ∀ j u, xs[j]? = some u → ∃ a, p = some a ∧ w.cell? (a.add j) = some u
/-- .. wherever the rows stand. -/
def SlAt (w0 : World) (R : List Rw) (p : Option Addr) (xs : List Value) : Prop := ∀ w, Env w0 w R → Reads w p xs
theorem add_block (a : Addr) (j : Nat) : (a.add j).block = a.block := by unfold Addr.add; split <;> rfl
theorem reads_block {w w' : World} {p : Option Addr} {xs : List Value} (h : Reads w p xs) (hb : ∀ a, p = some a → a.block < w.heap.size → w'.heap[a.block]? = w.heap[a.block]?) : Reads w' p xs := by
  intro j u hj
  obtain ⟨a, ha, hc⟩ := h j u hj
  refine ⟨a, ha, ?_⟩
  have hlt : (a.add j).block < w.heap.size := World.block_lt_of_cell? w _ hc
  rw [add_block] at hlt
  rw [World.cell?_of_block (w := w) (w' := w') (by rw [add_block]; exact hb a ha hlt)]
  exact hc
theorem reads_below {w0 w : World} {p : Option Addr} {xs : List Value} (h : Reads w0 p xs) (hb : Below w0.heap.size w0 w) : Reads w p xs := reads_block h (fun a _ hlt => hb.block _ hlt)
theorem sl_old {w0 : World} {R : List Rw} {p : Option Addr} {xs : List Value} (h : Reads w0 p xs) : SlAt w0 R p xs := fun _ hE => reads_below h hE.below
theorem reads_nil (w : World) (p : Option Addr) : Reads w p [] := by intro j u h; simp at h
theorem SlAt.some {w0 w : World} {R : List Rw} {p : Option Addr} {xs : List Value} (h : SlAt w0 R p xs) (hE : Env w0 w R) {k : Nat} (hk : k < xs.length) : ∃ a, p = some a ∧ w.cell? (a.add k) = some xs[k] := h w hE k xs[k] (List.getElem?_eq_getElem hk)

/-- A slice that the function made: none yet, or a row of its own. -/
inductive Own where
  | none
  | row (g cap : Nat) (cur : Array Value)
def Own.ptr : Own → Option Addr | .none => Option.none | .row g _ _ => some ⟨g, 0, Option.none⟩
def Own.cap : Own → Nat | .none => 0 | .row _ c _ => c
def Own.rows (e : TypeId) : Own → List Rw | .none => [] | .row g _ cur => [⟨g, cur, e⟩]
/-- It has n elements of so many cells: xs. -/
def Own.Has (s : Own) (size n : Nat) (xs : List Value) : Prop := xs.length = n * size ∧ match s with
  | .none => n = 0
  | .row _ cap cur => n ≤ cap ∧ cap ≤ maxLen ∧ cur.size = cap * size ∧ cur.toList.take (n * size) = xs
abbrev Own.val (s : Own) (n : Nat) : Value := .slice s.ptr n s.cap
theorem Own.has_none (size : Nat) : Own.none.Has size 0 [] := ⟨by simp, rfl⟩
theorem Own.has_lit (g n size : Nat) (cs : Array Value) (hm : n ≤ maxLen) (hs : cs.size = n * size) : (Own.row g n cs).Has size n cs.toList := ⟨by simpa using hs, Nat.le_refl _, hm, hs, List.take_of_length_le (by rw [Array.length_toList, hs]; exact Nat.le_refl _)⟩
section
variable {P : Program} {ops : Array Oper} {Q : Exit → Act → World → Prop} {l rest : List Oper} {o : Oper} {a : Act} {w0 w : World} {R A B : List Rw} {e : TypeId} {s : Own} {size n : Nat} {xs : List Value}
theorem Own.at (hE : Env w0 w R) (hR : R = A ++ (s.rows e ++ B)) {g cap : Nat} {cur : Array Value} (hs : s = .row g cap cur) : w.heap[g]? = some (.cells cur e (0, 0)) := by
  subst hs
  exact hE.row ⟨g, cur, e⟩ (by rw [hR]; simp [Own.rows])
theorem sl_own (A B : List Rw) {s : Own} (hs : s.Has size n xs) (hR : R = A ++ (s.rows e ++ B)) : SlAt w0 R s.ptr xs := by
  intro w hE j u hj
  cases s with
  | none =>
    obtain ⟨hl, h0⟩ := hs
    subst h0
    have : xs = [] := List.eq_nil_of_length_eq_zero (by simpa using hl)
    subst this
    simp at hj
  | row g cap cur =>
    obtain ⟨hl, hn, hm, hc, ht⟩ := hs
    refine ⟨_, rfl, ?_⟩
    have hadd : (⟨g, 0, Option.none⟩ : Addr).add j = ⟨g, j, Option.none⟩ := by unfold Addr.add; split <;> simp_all
    rw [hadd, cell_of_row w g j cur e (0, 0) (Own.at hE hR rfl)]
    rw [← ht, List.getElem?_take] at hj
    split at hj
    · simpa using hj
    · cases hj
theorem sl_row (i : Nat) {g : Nat} {cs : Array Value} {t : TypeId} (hi : R[i]? = some ⟨g, cs, t⟩) : SlAt w0 R (some ⟨g, 0, Option.none⟩) cs.toList := by
  intro w hE j u hj
  refine ⟨_, rfl, ?_⟩
  have hadd : (⟨g, 0, Option.none⟩ : Addr).add j = ⟨g, j, Option.none⟩ := by unfold Addr.add; split <;> simp_all
  rw [hadd, cell_of_row w g j cs t (0, 0) (hE.rowAt hi)]
  simpa using hj

/-! ### Calls that hand rows back -/
theorem Env.join {w' : World} {S : List Rw} (h : Env w0 w R) (h' : Env w w' S) : Env w0 w' (S ++ R) := by
  refine ⟨h.below.trans (h'.below.mono h.below.size), fun r hr => ?_, fun r hr => ?_, ?_⟩
  · rcases List.mem_append.1 hr with hr | hr
    · exact Nat.le_trans h.below.size (h'.own r hr)
    · exact h.own r hr
  · rcases List.mem_append.1 hr with hr | hr
    · exact h'.row r hr
    · exact below_row h'.below (lt_of_row (h.row r hr)) (h.row r hr)
  · rw [List.pairwise_append]
    refine ⟨h'.apart, h.apart, fun r hr r' hr' => ?_⟩
    have h1 := h'.own r hr
    have h2 := lt_of_row (h.row r' hr')
    omega
/-- A call whose contract reads the rows. -/
theorem wl_call_at (f : FuncId) (args : Array Value) (v : Value) (hw : Region.wanted o (yielded ops a.tmps) = true) (hr : ∀ w, (execOp a.eval o).run P w = .ok (.enter f args) w)
    (hc : ∀ w, Env w0 w R → Calls P f args w fun e w' => e = .returned v ∧ Below w.heap.size w w') (h : Wl P ops Q rest (a.put o.dst v) w0 R) : Wl P ops Q (o :: rest) a w0 R :=
  wl_upon hw (fun w hE => by
    rw [hr w]
    refine (hc w hE).mono ?_
    rintro e w' ⟨rfl, hb⟩
    exact h.run w' (hE.call hb))
section
variable {ks : Nat → Kind} {ov : Option Over} {mk : List (Nat × Tmp)} {N i : Nat} {r : List Oper}
theorem ws_read (v : Value) (hk : ks i = .plain) (hw : Region.wanted o (yielded ops a.tmps) = true) (hr : ∀ w, Env w0 w R → (execOp a.eval o).run P w = .ok (.value v) w) (h : Ws P ops ks ov mk N Q r (i + 1) (a.put o.dst v) w0 R) : Ws P ops ks ov mk N Q (o :: r) i a w0 R :=
  ⟨fun w hE => st_value v hk hw (fun W hb => hr W (hE.drew.call hb)) (h.run w hE)⟩
theorem ws_call_at (f : FuncId) (args : Array Value) (v : Value) (hk : ks i = .plain) (hw : Region.wanted o (yielded ops a.tmps) = true) (hr : ∀ w, (execOp a.eval o).run P w = .ok (.enter f args) w)
    (hc : ∀ w, Env w0 w R → Calls P f args w fun e w' => e = .returned v ∧ Below w.heap.size w w') (h : Ws P ops ks ov mk N Q r (i + 1) (a.put o.dst v) w0 R) : Ws P ops ks ov mk N Q (o :: r) i a w0 R :=
  ⟨fun w hE => st_plain v hk hw (fun W hb => by rw [hr W]; exact ⟨rfl, hc W (hE.drew.call hb)⟩) (h.run w hE)⟩
end

/-! ### Single operations at elements -/
section
variable {p : Option Addr} {x y : Operand} {t ty : TypeId} {c k : Nat}
theorem er_index (k size : Nat) {kk : IntKind} {E : Int} (hS : SlAt w0 R p xs) (ho : o.op = .indexAddr t x y) (hx : a.eval x = .slice p n c) (hy : a.eval y = .int kk E) (he : E = (k : Int)) (hk : k < n) (hl : xs.length = n * size) (h0 : 0 < size)
    (hu : P.underlying t = some (.slice ty)) (hs : (P.info? ty).map (·.size) = some size) : ∀ w, Env w0 w R → (execOp a.eval o).run P w = .ok (.value (eaddr p (k * size))) w := by
  intro w hE
  have hkl : k * size < xs.length := by rw [hl]; exact Nat.mul_lt_mul_of_pos_right hk h0
  obtain ⟨b, rfl, _⟩ := hS.some hE hkl
  cases hq : P.info? ty with
  | none => simp [hq] at hs
  | some i =>
    have hz : i.size = size := by simpa [hq] using hs
    unfold execOp
    simp only [ho, hx, hy, he]
    have h1 : (0 : Int) ≤ (k : Int) := by omega
    have h2 : (k : Int) < (n : Int) := by omega
    simp [Instr.indexAt, asIntOf, run_underlying hu, sizeOf, typeInfo, hq, hz, hk, eaddr]
theorem er_field (m f off : Nat) {fs : Array Field} {fl : Field} (hS : SlAt w0 R p xs) (ho : o.op = .fieldAddr t x f) (hx : a.eval x = eaddr p m) (hm : m < xs.length) (hu : P.underlying t = some (.struct fs)) (hf : fs[f]? = some fl) (hoff : fl.offset = off)
    {z : Nat} (hs : (P.info? fl.type).map (·.size) = some (z + 1)) : ∀ w, Env w0 w R → (execOp a.eval o).run P w = .ok (.value (eaddr p (m + off))) w := by
  intro w hE
  obtain ⟨b, rfl, _⟩ := hS.some hE hm
  cases hq : P.info? fl.type with
  | none => simp [hq] at hs
  | some i =>
    have hz : i.size = z + 1 := by simpa [hq] using hs
    unfold execOp
    simp only [ho, hx]
    simp [Instr.fieldAt, Instr.sureAddr, fieldPlace, run_underlying hu, sizeOf, typeInfo, hq, hz, hf, hoff, eaddr, Go.Deep.add_add]
theorem er_cell (m : Nat) (v : Value) (hS : SlAt w0 R p xs) (ho : o.op = .load t x) (hx : a.eval x = eaddr p m) (hm : xs[m]? = some v) (hd : ∀ w, (isAgg t).run P w = .ok false w) : ∀ w, Env w0 w R → (execOp a.eval o).run P w = .ok (.value v) w := by
  intro w hE
  obtain ⟨b, rfl, hc⟩ := hS w hE m v hm
  unfold execOp
  simp [ho, hx, eaddr, Instr.loadAt, Instr.sureAddr, loadVar, hd, hc]
theorem er_part (m : Nat) (ps : List Value) {d : TypeDesc} (hS : SlAt w0 R p xs) (ho : o.op = .load t x) (hx : a.eval x = eaddr p m) (hm : (xs.drop m).take ps.length = ps) (h0 : 0 < ps.length) (hu : P.underlying t = some d) (hd : d.isRow = true) (hi : (P.info? t).map (·.size) = some ps.length) :
    ∀ w, Env w0 w R → (execOp a.eval o).run P w = .ok (.value (.agg ps.toArray)) w := by
  intro w hE
  have hcell : ∀ j u, ps[j]? = some u → xs[m + j]? = some u := by
    intro j u hj
    rw [← hm, List.getElem?_take] at hj
    split at hj
    · rwa [List.getElem?_drop] at hj
    · cases hj
  obtain ⟨b, rfl, hc0⟩ := hS w hE m _ (by simpa using hcell 0 ps[0] (List.getElem?_eq_getElem h0))
  have hl : ∀ j u, ps[j]? = some u → w.cell? ((b.add m).add j) = some u := by
    intro j u hj
    obtain ⟨b', hb', hc⟩ := hS w hE (m + j) u (hcell j u hj)
    cases hb'
    rw [Go.Deep.add_add]
    exact hc
  have hr := run_loadCells_list (P := P) w (b.add m) ps hl
  cases hq : P.info? t with
  | none => simp [hq] at hi
  | some i =>
    have hz : i.size = ps.length := by simpa [hq] using hi
    have hag : (isAgg t).run P w = .ok true w := by
      unfold isAgg
      rw [Sem.run_bind, run_underlying hu w]
      cases d <;> first | rfl | cases hd
    unfold execOp
    simp [ho, hx, eaddr, Instr.loadAt, Instr.sureAddr, loadVar, hag, sizeOf, typeInfo, hq, hz, hr]
theorem er_nil {t' : TypeId} {n' c' : Nat} {b : Bool} (ho : o.op = .binOp .eql t x y t') (hx : a.eval x = .slice p n c) (hy : a.eval y = .slice none n' c') (hg : ∀ w, (eqGuard .eql t x y (.slice p n c) (.slice none n' c')).run P w = .ok () w) (hu : P.underlying t = some (.slice ty)) (hb : p.isNone = b) (w : World) : (execOp a.eval o).run P w = .ok (.value (.bool b)) w := by
  subst hb
  unfold execOp
  simp [ho, hx, hy, hg, Lib.run_eql_slice_nil w t ty p n c n' c' hu]
theorem er_len (ho : o.op = .call { callee := .builtin .len, args := #[x], argTypes := #[t] }) (hx : a.eval x = .slice p n c) (hu : P.underlying t = some (.slice ty)) (w : World) : (execOp a.eval o).run P w = .ok (.value (.int .i64 (n : Int))) w := by
  unfold execOp
  simp [ho, hx, resolve, invoke, builtin, Builtin.len_, run_underlying hu, goInt]
end
/-! ### Appending -/
theorem row_keep (w : World) (ob : Obj) {k : Nat} (hk : k < w.heap.size) : (w.alloc ob).heap[k]? = w.heap[k]? := by simp only [World.alloc]; rw [Array.getElem?_push, if_neg (by omega)]
def Own.blk : Own → Option Nat | .none => Option.none | .row g _ _ => some g
theorem Env.own_step {w' : World} {s' : Own} (h : Env w0 w (A ++ (s.rows e ++ B))) (hg : w.grownBy w' s.blk) (hs' : ∀ g cap cur, s' = .row g cap cur → w'.heap[g]? = some (.cells cur e (0, 0)) ∧ ((∃ c k, s = .row g c k) ∨ w.heap.size ≤ g)) : Env w0 w' (A ++ (s'.rows e ++ B)) := by
  have hown : ∀ g, s.blk = some g → w0.heap.size ≤ g := by
    intro g hb
    cases s with
    | none => cases hb
    | row g' c k =>
      cases hb
      exact h.own ⟨g, k, e⟩ (by simp [Own.rows])
  have hap := h.apart
  rw [List.pairwise_append, List.pairwise_append] at hap
  obtain ⟨hA, ⟨_, hB, hsB⟩, hAs⟩ := hap
  have hne : ∀ r, r ∈ A ∨ r ∈ B → s.blk ≠ some r.g := by
    intro r hr hb
    cases s with
    | none => cases hb
    | row g' c k =>
      cases hb
      rcases hr with hr | hr
      · exact hAs r hr ⟨r.g, k, e⟩ (by simp [Own.rows]) rfl
      · exact hsB ⟨r.g, k, e⟩ (by simp [Own.rows]) r hr rfl
  have hmem : ∀ r, r ∈ A ∨ r ∈ B → r ∈ A ++ (s.rows e ++ B) := by
    intro r hr
    rcases hr with hr | hr <;> simp [hr]
  have hkeep : ∀ r, r ∈ A ∨ r ∈ B → w'.heap[r.g]? = some (.cells r.cs r.t (0, 0)) := by
    intro r hr
    have h1 := h.row r (hmem r hr)
    rw [hg.block r.g (lt_of_row h1) (fun e => hne r hr e.symm)]
    exact h1
  have hge : ∀ r ∈ s'.rows e, w0.heap.size ≤ r.g ∧ w'.heap[r.g]? = some (.cells r.cs r.t (0, 0)) ∧ ∀ q, q ∈ A ∨ q ∈ B → r.g ≠ q.g := by
    intro r hr
    cases s' with
    | none => cases hr
    | row g' c k =>
      simp only [Own.rows, List.mem_singleton] at hr
      subst hr
      obtain ⟨h1, h2⟩ := hs' g' c k rfl
      refine ⟨?_, h1, fun q hq => ?_⟩
      · rcases h2 with ⟨c', k', rfl⟩ | h2
        · exact hown g' rfl
        · exact Nat.le_trans h.below.size h2
      · rcases h2 with ⟨c', k', rfl⟩ | h2
        · exact fun e => hne q hq (by rw [← e]; rfl)
        · have := lt_of_row (h.row q (hmem q hq))
          show g' ≠ q.g
          omega
  have hs1 : (s'.rows e).Pairwise fun r q => r.g ≠ q.g := by cases s' <;> simp [Own.rows]
  refine ⟨⟨hg.os.trans h.below.os, hg.tape.trans h.below.tape, hg.output.trans h.below.output, Nat.le_trans h.below.size hg.size, fun k hk => ?_⟩, fun r hr => ?_, fun r hr => ?_, ?_⟩
  · rw [hg.block k (Nat.lt_of_lt_of_le hk h.below.size) (fun e => by have := hown k e.symm; omega)]
    exact h.below.block k hk
  · rcases List.mem_append.1 hr with hr | hr
    · exact h.own r (hmem r (.inl hr))
    · rcases List.mem_append.1 hr with hr | hr
      · exact (hge r hr).1
      · exact h.own r (hmem r (.inr hr))
  · rcases List.mem_append.1 hr with hr | hr
    · exact hkeep r (.inl hr)
    · rcases List.mem_append.1 hr with hr | hr
      · exact (hge r hr).2.1
      · exact hkeep r (.inr hr)
  · rw [List.pairwise_append, List.pairwise_append]
    refine ⟨hA, ⟨hs1, hB, fun r hr q hq => (hge r hr).2.2 q (.inr hq)⟩, fun r hr q hq => ?_⟩
    rcases List.mem_append.1 hq with hq | hq
    · exact fun e => (hge q hq).2.2 r (.inl hr) e.symm
    · exact hAs r hr q (List.mem_append_right _ hq)
theorem run_append {p : Option Addr} {t ty : TypeId} {i : TypeInfo} {z : Value} {m c bytes : Nat} {ys : List Value} (hE : Env w0 w (A ++ (s.rows e ++ B))) (hs : s.Has size n xs) (hS : Reads w p ys) (hl : ys.length = m * size) (h1 : ∀ u ∈ ys, u.oneCell' = true)
    (ht : P.underlying t = some (.slice e)) (hi : P.info? e = some i) (hz : i.zero = some z) (hsz : i.size = size) (hby : i.bytes = bytes) (hzs : z.cells.size = size) (h0 : 0 < size) (h63 : n + m ≤ maxLen) (hfit : (n + m) * bytes ≤ 140737488355328) :
    ∃ s' w', (Builtin.append_ #[t, t] ty #[s.val n, .slice p m c]).run P w = .ok (s'.val (n + m)) w' ∧ Own.Has s' size (n + m) (xs ++ ys) ∧ Env w0 w' (A ++ (s'.rows e ++ B)) := by
  subst hsz
  subst hby
  have hsm : n + m ≤ 9223372036854775807 := by simp only [maxLen] at h63; omega
  have hlen : (xs ++ ys).length = (n + m) * i.size := by rw [List.length_append, hs.1, hl, Nat.add_mul]
  by_cases hm : m = 0
  · subst hm
    have hy : ys = [] := List.eq_nil_of_length_eq_zero (by simpa using hl)
    subst hy
    refine ⟨s, w, ?_, by simpa using hs, hE⟩
    have hn : n ≤ s.cap := by
      cases s with
      | none => rw [show n = 0 from hs.2]; exact Nat.zero_le _
      | row g cap cur => exact hs.2.1
    have hf : (Builtin.firstCells i.size 0 (.slice p 0 c)).run P w = .ok #[] w := by
      cases p with
      | none => simp [Builtin.firstCells]
      | some b => simp [Builtin.firstCells, loadCells, loadCellsFrom]
    cases s with
    | none =>
      have h00 : n = 0 := hs.2
      subst h00
      simp [Builtin.append_, run_underlying ht, sizeOf, typeInfo, hi, Builtin.lenOf, Own.val, Own.ptr, Own.cap, hf]
    | row g cap cur =>
      have hn' : n ≤ cap := hn
      simp [Builtin.append_, run_underlying ht, sizeOf, typeInfo, hi, Builtin.lenOf, Own.val, Own.ptr, Own.cap, hf, hn', storeCells]
  · have hm0 : 0 < ys.length := by rw [hl]; exact Nat.mul_pos (by omega) h0
    obtain ⟨b, rfl, _⟩ := hS 0 ys[0] (List.getElem?_eq_getElem hm0)
    have hnews : ∀ j u, ys[j]? = some u → w.cell? (b.add j) = some u := by
      intro j u hj
      obtain ⟨b', hb', hc⟩ := hS j u hj
      cases hb'
      exact hc
    have fresh : ∀ old, Own.Has (.row w.heap.size (grownCap w (n + m) old e) (xs.toArray ++ ys.toArray ++ Builtin.zeroCells z.cells (grownCap w (n + m) old e - (n + m)))) i.size (n + m) (xs ++ ys) ∧
        Env w0 (w.drew.alloc (.cells (xs.toArray ++ ys.toArray ++ Builtin.zeroCells z.cells (grownCap w (n + m) old e - (n + m))) e)) (A ++ (Own.rows e (.row w.heap.size (grownCap w (n + m) old e) (xs.toArray ++ ys.toArray ++ Builtin.zeroCells z.cells (grownCap w (n + m) old e - (n + m)))) ++ B)) := by
      intro old
      have hge := grownCap_ge w (n + m) old e
      refine ⟨⟨hlen, hge, grownCap_le_maxLen w (n + m) old e h63, ?_, ?_⟩, Env.own_step (s := s) hE ⟨rfl, rfl, rfl, by simp, fun k hk _ => row_keep w.drew _ hk⟩ (fun g cap cur hh => ?_)⟩
      · simp only [Array.size_append, List.size_toArray, size_zeroCells, hzs, hs.1, hl, ← Nat.add_mul]
        congr 1
        omega
      · simp only [Array.toList_append]
        rw [← hlen]
        exact List.take_left
      · cases hh
        exact ⟨heap_alloc_new w.drew _, .inr (Nat.le_refl _)⟩
    cases s with
    | none =>
      have h00 : n = 0 := hs.2
      subst h00
      have hx : xs = [] := List.eq_nil_of_length_eq_zero (by simpa using hs.1)
      subst hx
      have hr := run_append_nil (P := P) w t ty e i z ht hi hz b m c ys hl hnews (by omega) (by omega) (by simp only [Nat.zero_add] at hfit; omega)
      have hf := fresh 0
      refine ⟨.row w.heap.size (grownCap w (0 + m) 0 e) _, _, ?_, hf⟩
      simpa [Own.val, Own.ptr, Own.cap] using hr
    | row g cap cur =>
      obtain ⟨hxl, hn, hcm, hcs, htake⟩ := hs
      have hrow := Own.at hE rfl (s := .row g cap cur) rfl
      by_cases hroom : n + m ≤ cap
      · have hfit' : n * i.size + ys.length ≤ cur.size := by rw [hl, hcs, ← Nat.add_mul]; exact Nat.mul_le_mul_right _ hroom
        have hr := run_append_room (P := P) w t ty e i ht hi g n cap cur hrow b m c ys hl hnews h1 hroom hfit'
        refine ⟨.row g cap (cur.toList.take (n * i.size) ++ ys ++ cur.toList.drop (n * i.size + ys.length)).toArray, _, hr, ⟨hlen, hroom, hcm, ?_, ?_⟩, Env.own_step (s := .row g cap cur) hE ⟨rfl, rfl, rfl, by simp, fun k _ hk => setRow_other w g k _ (fun e => hk (by simp [Own.blk, e]))⟩ (fun g' c' k' hh => ?_)⟩
        · simp only [List.size_toArray, List.length_append, List.length_take, List.length_drop, Array.length_toList]
          omega
        · rw [htake, ← hlen]
          exact List.take_left
        · cases hh
          exact ⟨setRow_heap w g cur _ e _ hrow, .inl ⟨_, _, rfl⟩⟩
      · have holds : ∀ j u, xs[j]? = some u → w.cell? ((⟨g, 0, Option.none⟩ : Addr).add j) = some u := by
          intro j u hj
          obtain ⟨b', hb', hc⟩ := sl_own A B (s := .row g cap cur) ⟨hxl, hn, hcm, hcs, htake⟩ rfl w hE j u hj
          cases hb'
          exact hc
        have hr := run_append_grow (P := P) w t ty e i z ht hi hz ⟨g, 0, Option.none⟩ n cap xs hxl holds b m c ys hl hnews (by omega) (by omega) (growslice_fits (by omega) hfit)
        exact ⟨.row w.heap.size (grownCap w (n + m) cap e) _, _, hr, fresh cap⟩
/-- What is asked of an element's type: its cells, its bytes, a zero. -/
def Elem (P : Program) (e : TypeId) (size bytes : Nat) : Prop := (P.info? e).map (fun i => (i.size, i.bytes, i.zero.map (·.cells.size))) = some (size, bytes, some size)
theorem wl_append (A B : List Rw) (s : Own) {p : Option Addr} {x y : Operand} {t : TypeId} {m c bytes : Nat} {ys : List Value} (hR : R = A ++ (s.rows e ++ B)) (hs : s.Has size n xs) (hS : SlAt w0 R p ys) (hl : ys.length = m * size) (h1 : ∀ u ∈ ys, u.oneCell' = true)
    (hw : Region.wanted o (yielded ops a.tmps) = true) (ho : o.op = .call { callee := .builtin .append, args := #[x, y], argTypes := #[t, t] }) (hx : a.eval x = s.val n) (hy : a.eval y = .slice p m c) (ht : P.underlying t = some (.slice e)) (hi : Elem P e size bytes) (h0 : 0 < size)
    (h63 : n + m ≤ maxLen) (hfit : (n + m) * bytes ≤ 140737488355328) (h : ∀ s' : Own, s'.Has size (n + m) (xs ++ ys) → Wl P ops Q rest (a.put o.dst (s'.val (n + m))) w0 (A ++ (s'.rows e ++ B))) : Wl P ops Q (o :: rest) a w0 R :=
  wl_upon hw (fun w hE => by
    cases hq : P.info? e with
    | none => simp [Elem, hq] at hi
    | some i =>
      cases hzq : i.zero with
      | none => simp [Elem, hq, hzq] at hi
      | some z =>
        have hh : i.size = size ∧ i.bytes = bytes ∧ z.cells.size = size := by simpa [Elem, hq, hzq] using hi
        have hS' := hS w hE
        subst hR
        obtain ⟨s', w', hr, h2, h3⟩ := run_append (P := P) (ty := o.type) (c := c) hE hs hS' hl h1 ht hq hzq hh.1 hh.2.1 hh.2.2 h0 h63 hfit
        unfold execOp
        simp only [ho, resolve, invoke, builtin, Sem.run_bind, Sem.run_pure, Result.andThen_ok, List.map_toArray, List.map_cons, List.map_nil, hx, hy, hr]
        exact (h s' h2).run w' h3)
/-- A row of a slice's literal. -/
theorem wl_lit (cs : Array Value) (len : Nat) (hw : Region.wanted o (yielded ops a.tmps) = true) (hr : ∀ w, (execOp a.eval o).run P w = .ok (.value (.slice (some ⟨w.heap.size, 0, Option.none⟩) len len)) (w.alloc (.cells cs e)))
    (h : ∀ g, Wl P ops Q rest (a.put o.dst (.slice (some ⟨g, 0, Option.none⟩) len len)) w0 (⟨g, cs, e⟩ :: R)) : Wl P ops Q (o :: rest) a w0 R :=
  wl_upon hw (fun w hE => by rw [hr w]; exact (h w.heap.size).run _ (hE.alloc cs e))
/-- A call that hands back a slice of its own making. -/
theorem Env.perm {R' : List Rw} (h : Env w0 w R) (hp : R.Perm R') : Env w0 w R' :=
  ⟨h.below, fun r hr => h.own r (hp.mem_iff.2 hr), fun r hr => h.row r (hp.mem_iff.2 hr), (hp.pairwise_iff (fun h e => h e.symm)).1 h.apart⟩
theorem wl_call_own {ι : Type} (Y T : List Rw) (f : FuncId) (args : Array Value) (v : ι → Value) (S : ι → Own) (φ : ι → Prop) (hR : R = Y ++ T) (hw : Region.wanted o (yielded ops a.tmps) = true) (hr : ∀ w, (execOp a.eval o).run P w = .ok (.enter f args) w)
    (hc : ∀ w, Env w0 w R → Calls P f args w fun k w' => ∃ j, φ j ∧ k = .returned (v j) ∧ Env w w' ((S j).rows e)) (h : ∀ j, φ j → Wl P ops Q rest (a.put o.dst (v j)) w0 (Y ++ ((S j).rows e ++ T))) : Wl P ops Q (o :: rest) a w0 R := by
  refine wl_upon hw (fun w hE => ?_)
  rw [hr w]
  refine (hc w hE).mono ?_
  rintro k w' ⟨j, hj, rfl, hE'⟩
  refine (h j hj).run w' ?_
  subst hR
  exact Env.perm (Env.join hE hE') (List.perm_append_comm_assoc _ _ _)

theorem Env.tail (h : Env w0 w R) (hs : (s.rows e ++ []).Sublist R) : Env w0 w (s.rows e) := h.sub (by rwa [List.append_nil] at hs)

/-! ### What stands in a row, by its elements -/
def flat {α : Type} (enc : α → List Value) (L : List α) : List Value := L.flatMap enc
theorem flat_length {α : Type} {enc : α → List Value} {size : Nat} (hs : ∀ x, (enc x).length = size) (L : List α) : (flat enc L).length = L.length * size := by
  induction L with
  | nil => simp [flat]
  | cons x r ih =>
    simp only [flat, List.flatMap_cons, List.length_append, List.length_cons] at *
    rw [ih, hs, Nat.add_mul]
    omega
theorem flat_append {α : Type} (enc : α → List Value) (L M : List α) : flat enc (L ++ M) = flat enc L ++ flat enc M := by simp [flat]
theorem flat_lenn {α : Type} {enc : α → List Value} {size n : Nat} (hz : ∀ x, (enc x).length = size) {L : List α} (h : L.length = n) : (flat enc L).length = n * size := by rw [flat_length hz, h]
theorem flat_one {α : Type} {enc : α → List Value} (h : ∀ x, ∀ u ∈ enc x, u.oneCell' = true) (L : List α) : ∀ u ∈ flat enc L, u.oneCell' = true := by
  intro u hu
  obtain ⟨x, _, hx⟩ := List.mem_flatMap.1 hu
  exact h x u hx
theorem flat_part {α : Type} [Inhabited α] {enc : α → List Value} {size : Nat} (hs : ∀ x, (enc x).length = size) (L : List α) (k : Nat) (hk : k < L.length) : ((flat enc L).drop (k * size)).take size = enc L[k]! := by
  induction L generalizing k with
  | nil => simp at hk
  | cons x r ih =>
    cases k with
    | zero => simp [flat, hs x]
    | succ k =>
      have h1 : (flat enc (x :: r)).drop ((k + 1) * size) = (flat enc r).drop (k * size) := by
        show ((x :: r).flatMap enc).drop _ = _
        rw [List.flatMap_cons, List.drop_append, hs x, List.drop_eq_nil_of_le (by rw [hs x, Nat.add_mul]; omega), List.nil_append]
        congr 1
        rw [Nat.add_mul]
        omega
      rw [h1, ih k (by simpa using hk)]
      simp
theorem flat_cell {α : Type} [Inhabited α] {enc : α → List Value} {size : Nat} (hs : ∀ x, (enc x).length = size) (L : List α) (k j : Nat) (hk : k < L.length) (hj : j < size) : (flat enc L)[k * size + j]? = (enc L[k]!)[j]? := by
  rw [← flat_part hs L k hk, List.getElem?_take, if_pos hj, List.getElem?_drop]
theorem flat_lt {α : Type} {enc : α → List Value} {size : Nat} (hs : ∀ x, (enc x).length = size) (L : List α) (k j : Nat) (hk : k < L.length) (hj : j < size) : k * size + j < (flat enc L).length := by
  rw [flat_length hs]
  have := Nat.mul_le_mul_right size (show k + 1 ≤ L.length from hk)
  rw [Nat.add_mul] at this
  omega
theorem has_snoc {α : Type} {enc : α → List Value} {s : Own} {size n : Nat} {L : List α} {x : α} (h : s.Has size n (flat enc L ++ enc x)) : s.Has size n (flat enc (L ++ [x])) := by
  rw [flat_append]
  simpa [flat] using h
theorem take_snoc {α : Type} [Inhabited α] (L : List α) (i : Nat) (h : i < L.length) : L.take (i + 1) = L.take i ++ [L[i]!] := by
  rw [List.take_add_one, List.getElem?_eq_getElem h, getElem!_pos L i h]
  rfl
end
end Go.Proofs.Ytbacchdkankioaa.Sl
