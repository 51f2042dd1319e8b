/-
  THE ENGINE, further: slices of arrays, calls of function values with two arguments, a region that draws its order with operations behind the one that hangs on all others. No program.
  THE ENGINE, further: what turns below while the function's own rows stay: an iterator's step, a store into an older row, loops with both. No program.
-/
import Derived.Test.YtbacchdkankioaaMp
import Derived.Test.YtbacchdkankioaaFns
import Derived.Test.YtbacchdkankioaaRdr
namespace Go.Proofs.Ytbacchdkankioaa.Re
open Go.ChangeShapes Go.WideShapes Go.ChangeAt Go.RowKit Go.Maps Go.WideAt
open Arr Steady Sx Sw Sl Sb Sc Si Sj Sk Sh Fns Rdr Mp
set_option linter.unusedVariables false
set_option linter.unusedSimpArgs false

section
variable {P : Program} {o : Oper} {a : Act} {x y : Operand} {t ty : TypeId} {w0 : World} {R : List Rw}
theorem er_arrslice {kk : IntKind} {n h g off : Nat} {H : Int} {z : Nat} (ho : o.op = .slice t x none (some y) none) (hx : a.eval x = .pointer (some ⟨g, off, none⟩)) (hy : a.eval y = .int kk H) (hH : H = (h : Int)) (hh : h ≤ n) (hu : P.underlying t = some (.array n ty)) (hs : (P.info? ty).map (·.size) = some z) (w : World) :
    (execOp a.eval o).run P w = .ok (.value (.slice (some ⟨g, off, none⟩) h n)) w := by
  subst hH
  have ht : P.underlying t = some (.array (P.arrayLen t) (P.elem t)) := by simp [Program.elem, Program.arrayLen, hu]
  have he : P.elem t = ty := by simp [Program.elem, hu]
  have hl : P.arrayLen t = n := by simp [Program.arrayLen, hu]
  cases hq : P.info? ty with
  | none => simp [hq] at hs
  | some i =>
    unfold execOp
    simp only [ho, hx, hy]
    have h1 := run_sliceAt_array_h (P := P) w t ⟨g, off, none⟩ ht kk (h : Int) (by omega) (by rw [hl]; omega)
    simp only [Option.map_none, Option.map_some, hy, h1, Sem.run_bind, sizeOf, typeInfo, he, hq]
    simp [go_sem, slicedAt, hq, he, sizeOf, typeInfo, Addr.add, Program.arrayLen, hu]
theorem er_arrall {n g off : Nat} {z : Nat} (ho : o.op = .slice t x none none none) (hx : a.eval x = .pointer (some ⟨g, off, none⟩)) (hu : P.underlying t = some (.array n ty)) (hs : (P.info? ty).map (·.size) = some z) (w : World) :
    (execOp a.eval o).run P w = .ok (.value (.slice (some ⟨g, off, none⟩) n n)) w := by
  have ht : P.underlying t = some (.array (P.arrayLen t) (P.elem t)) := by simp [Program.elem, Program.arrayLen, hu]
  have he : P.elem t = ty := by simp [Program.elem, hu]
  have hl : P.arrayLen t = n := by simp [Program.arrayLen, hu]
  cases hq : P.info? ty with
  | none => simp [hq] at hs
  | some i =>
    unfold execOp
    simp only [ho, hx]
    have h1 := run_sliceAt_array_all (P := P) w t ⟨g, off, none⟩ ht
    simp only [Option.map_none, Option.map_some, h1, Sem.run_bind, sizeOf, typeInfo, he, hq]
    simp [go_sem, slicedAt, hq, he, sizeOf, typeInfo, Addr.add, Program.arrayLen, hu]
/-- A part of a row, as a slice. -/
theorem sl_rowpart (i off : Nat) {g : Nat} {cs : Array Value} {xs : List Value} (hi : R[i]? = some ⟨g, cs, t⟩) (hx : ∀ j u, xs[j]? = some u → cs[off + j]? = some u) : SlAt w0 R (some ⟨g, off, none⟩) xs := by
  intro w hE j u hj
  refine ⟨_, rfl, ?_⟩
  have hadd : (⟨g, off, Option.none⟩ : Addr).add j = ⟨g, off + j, Option.none⟩ := by unfold Addr.add; split <;> simp_all
  rw [hadd, cell_of_row w g (off + j) cs t (0, 0) (hE.rowAt hi)]
  exact hx j u hj
theorem er_value2 {F : FuncId} {CB : Array Value} {u v : Value} {f : Operand} {ts : Array TypeId} (eg : Enters P F) (ho : o.op = .call { callee := .value f, args := #[x, y], argTypes := ts }) (hf : a.eval f = .func (.func F) #[] CB) (hx : a.eval x = u) (hy : a.eval y = v) :
    ∀ w, (execOp a.eval o).run P w = .ok (.enter F (#[u, v] ++ CB)) w := by
  intro w
  unfold execOp
  simp only [ho]
  have := eg (#[u, v] ++ CB) w
  simp [resolve, Deferred.ofValue, hf, hx, hy, invoke]
  simpa using this
/-- A literal of two elements, of one cell each. -/
theorem run_lit2 {e : TypeId} {u v z : Value} (ho : o.op = .buildSlice t 2 #[(0, x), (1, y)]) (hx : a.eval x = u) (hy : a.eval y = v) (hu : u.cells = #[u]) (hv : v.cells = #[v]) (ht : P.underlying t = some (.slice e)) (hs : (P.info? e).map (fun i => (i.size, i.zero)) = some (1, some z)) (hz : z.cells.size = 1) (w : World) :
    (execOp a.eval o).run P w = .ok (.value (.slice (some ⟨w.heap.size, 0, Option.none⟩) 2 2)) (w.alloc (.cells #[u, v] e)) := by
  cases hq : P.info? e with
  | none => simp [hq] at hs
  | some i =>
    have h1 : i.size = 1 ∧ i.zero = some z := by simpa [hq] using hs
    unfold execOp
    simp [ho, hx, hy, hu, hv, hz, Instr.buildSlice, run_underlying ht, sizeOf, typeInfo, zeroValue, hq, h1.1, h1.2, newRow, Instr.fill]
    refine congrArg (fun c => w.alloc (.cells c e)) ?_
    apply Array.ext
    · simp
    · intro j h1 h2
      have hj : j = 0 ∨ j = 1 := by simp at h2; omega
      rcases hj with rfl | rfl <;> simp
end
/-! ### Function bodies without a return; calls that turn some rows -/
section
variable {P : Program} {ops : Array Oper} {Q : Exit → Act → World → Prop} {rest : List Oper} {o : Oper} {a : Act} {w0 : World} {R : List Rw}
end
/-! ### A region that draws its order: behind the operation that hangs on all others some that only hand on a value -/
section
variable {P : Program} {ops : Array Oper} {Γ : Type} {sz : Nat} {Q : Exit → Act → World → Prop} {val : Γ → Nat → Value} {rows : (Nat → Bool) → Γ → List Rw} {Fc : (Nat → Bool) → Γ → Prop} {a0 : Act} {w0 : World}
theorem wc_draw_back {id : Nat} {l : List Oper} {a : Act} {R : List Rw} (m : Nat) (val : Γ → Nat → Value) (rows : (Nat → Bool) → Γ → List Rw) (Fc : (Nat → Bool) → Γ → Prop) (Fin : Γ → World → Prop) (γ0 : Γ) (sz : Nat) (F : Γ → Act)
    (hm : P.follows .mixedOrders = true) (hz : a.tmps.size = sz) (hB : checkB l.toArray late none sz = true) (h0 : rows (fun _ => false) γ0 = R) (hF : Fc (fun _ => false) γ0) (hml : m < l.length)
    (ha : ∀ γ, fr l.toArray (val γ) a l.length = F γ)
    (step : ∀ i o, l[i]? = some o → i < m → SpN P l.toArray sz Q val rows Fc a w0 m i o)
    (last : ∀ o, l[m]? = some o → ∀ L γ a' w, Rd l.toArray sz (val γ) L a a' m o → Fc L γ → Env w0 w (rows L γ) → ∀ K : Act → World → Prop, (∀ γ' w', (∀ k, L k = true → val γ' k = val γ k) → Fin γ' w' → K (a'.put o.dst (val γ' m)) w') → wpOp P l.toArray Q m K a' w)
    (back : ∀ i o, l[i]? = some o → m < i → o.guard = none ∧ (∀ L γ a', Rd l.toArray sz (val γ) L a a' i o → L m = true) ∧ (∀ L γ a' w, Rd l.toArray sz (val γ) L a a' i o → (execOp a'.eval o).run P w = .ok (.value (val γ i)) w))
    (hfin : ∀ γ w, Fin γ w → We Q .normal (F γ) w []) : Wc P (.region id l.toArray true) Q a w0 R := by
  subst h0
  refine ⟨fun w hE => wp_region_any hm (wpAny_inv (sz := sz) (val := val) (Inv := fun L γ w => if L m = true then Fin γ w else Fc L γ ∧ Env w0 w (rows L γ)) (a0 := a) hB hz ?_ ?_ _ _ γ0 a w.drew (by simp) ?_ ?_ ?_ ?_)⟩
  · rintro i o L γ a' w' h hI K hK
    rcases Nat.lt_trichotomy i m with hi | hi | hi
    · have hs := step i o (by simpa using h.op) hi
      have hoff := hs.off L γ a' h
      simp only [hoff, Bool.false_eq_true, if_false] at hI
      refine hs.sp.run L γ a' w' h hI.1 hI.2 K (fun γ' w'' hv hF' hE' => hK γ' w'' hv ?_)
      have e : one L i m = false := by simp only [one]; rw [if_neg (by omega)]; exact hoff
      simp only [e, Bool.false_eq_true, if_false]
      exact ⟨hF', hE'⟩
    · subst hi
      have hoff : L i = false := h.off
      simp only [hoff, Bool.false_eq_true, if_false] at hI
      refine last o (by simpa using h.op) L γ a' w' h hI.1 hI.2 K (fun γ' w'' hv hFin => hK γ' w'' hv ?_)
      simp only [one, if_true]
      exact hFin
    · obtain ⟨hg, h1, h2⟩ := back i o (by simpa using h.op) hi
      have hon := h1 L γ a' h
      simp only [hon, if_true] at hI
      refine h.give hg (val γ i) (h2 L γ a' w' h) ?_
      refine hK γ w' (fun _ _ => rfl) ?_
      have e : one L i m = true := by simp only [one]; rw [if_neg (by omega)]; exact hon
      simp only [e, if_true]
      exact hI
  · rintro γ a' w' hst hI
    rw [fr_of_st hB hz hst]
    have e : l.toArray.size = l.length := by simp
    rw [e] at hI ⊢
    have e2 : decide (m < l.length) = true := decide_eq_true hml
    simp only [e2, if_true] at hI
    rw [ha γ]
    exact (hfin γ w' hI).run w' (Env.nil w')
  · have : ∀ n, (List.range n).countP (fun i => !(Array.replicate l.toArray.size false).getD i false) ≤ n := fun n => by
      have := List.countP_le_length (p := fun i => !(Array.replicate l.toArray.size false).getD i false) (l := List.range n)
      simpa using this
    exact this _
  · exact (St.start _ a).congr (fun k => rep_getD _ k)
  · have e : (fun k => (Array.replicate l.toArray.size false).getD k false) = fun _ => false := funext (rep_getD _)
    rw [e]
    simp only [Bool.false_eq_true, if_false]
    exact ⟨hF, hE.drew⟩
  · intro j o _ hj
    have e : ∀ k, (Array.replicate l.toArray.size false).getD k false = false := fun k => rep_getD _ k
    simp only [e j] at hj
    cases hj
end
end Go.Proofs.Ytbacchdkankioaa.Re
namespace Go.Proofs.Ytbacchdkankioaa.Rbk
open Go.ChangeShapes Go.WideShapes Go.ChangeAt Go.RowKit Go.Maps Go.WideAt
open Arr Steady Sx Sw Sl Sb Sc Si Sj Sk Sh Fns Rdr Mp Re
set_option linter.unusedVariables false
set_option linter.unusedSimpArgs false

theorem but_new {T : List Nat} {a b c : World} (h : But [] a b) (k : But T b c) (hT : ∀ x ∈ T, a.heap.size ≤ x) : But [] a c :=
  But.drop (T := T) (S := []) ((h.mono (by simp)).trans (k.mono (by simp))) hT
theorem but_env {w W : World} (h : But [] w W) {w' : World} {R : List Rw} (hE : Env W w' R) : Env w w' R := Env.rebase h.below hE
/-- The first world, with what turned in it; the own rows stay. -/
theorem trunc {w0 w w' : World} {R : List Rw} {g : Nat} (hE : Env w0 w R) (hb : But [g] w w') (hg : g < w0.heap.size) : ∃ w1 : World, But [g] w0 w1 ∧ Env w1 w' R ∧ w1.heap.size = w0.heap.size ∧ ∀ k, k < w0.heap.size → w1.heap[k]? = w'.heap[k]? := by
  have hs : w0.heap.size ≤ w'.heap.size := Nat.le_trans hE.below.size hb.size
  have hk : ∀ k, k < w0.heap.size → (w'.heap.extract 0 w0.heap.size)[k]? = w'.heap[k]? := fun k hk => by
    rw [Array.getElem?_extract]
    simp
    intro h; omega
  have hz : (w'.heap.extract 0 w0.heap.size).size = w0.heap.size := by simp; omega
  refine ⟨{ w' with heap := w'.heap.extract 0 w0.heap.size }, ⟨?_, ?_, ?_, Nat.le_of_eq hz.symm, fun k h1 h2 => ?_⟩, ⟨⟨rfl, rfl, rfl, ?_, fun k h1 => ?_⟩, fun r hr => ?_, fun r hr => ?_, hE.apart⟩, hz, hk⟩
  · exact hb.os.trans hE.below.os
  · exact hb.tape.trans hE.below.tape
  · exact hb.output.trans hE.below.output
  · show (w'.heap.extract 0 w0.heap.size)[k]? = _
    rw [hk k h1, hb.block k (Nat.lt_of_lt_of_le h1 hE.below.size) h2, hE.below.block k h1]
  · show (w'.heap.extract 0 w0.heap.size).size ≤ _
    rw [hz]; exact hs
  · have h2 : k < w0.heap.size := by have : k < (w'.heap.extract 0 w0.heap.size).size := h1; rwa [hz] at this
    exact (hk k h2).symm
  · show (w'.heap.extract 0 w0.heap.size).size ≤ _
    rw [hz]; exact hE.own r hr
  · refine hb.row (hE.row r hr) (fun e => ?_)
    have e2 : r.g = g := by simpa using e
    have := hE.own r hr
    omega
theorem ranges_same {H : Type} {P : Program} {k : TypeId} {Rd : Value → Option (DataW H × List MemPlace)} {b r n : Nat} {D : DataW H} {left : Lit → Bool} {cnt : Nat} {w w1 : World} (ho : w.ranges P k Rd b r n D left cnt) (h1 : w1.heap[b]? = w.heap[b]?) (h2 : w1.heap[r]? = w.heap[r]?) : w1.ranges P k Rd b r n D left cnt := by
  obtain ⟨es, clock, since, seen, c0, hb, F, h3, h4, hrr, h5⟩ := ho
  exact ⟨es, clock, since, seen, c0, h1.trans hb, F, h3, h4, h2.trans hrr, h5⟩
theorem cur_same {P : Program} {b r : Nat} {v : Value} {w w1 : World} (h : Cur P w b r v) (h1 : w1.heap[b]? = w.heap[b]?) (h2 : w1.heap[r]? = w.heap[r]?) : Cur P w1 b r v := fun w' e1 e2 => h w' (e1.trans h1) (e2.trans h2)
section
variable {H : Type} {P : Program} {ops : Array Oper} {Q : Exit → Act → World → Prop} {rest : List Oper} {o : Oper} {a : Act} {w0 w : World} {R : List Rw} {k e t : TypeId} {Rd : Value → Option (DataW H × List MemPlace)} {b r n : Nat} {D : DataW H} {left : Lit → Bool} {cnt : Nat} {c x y : Code}
theorem wl_next_keep {α β : Type} {it : Operand} (mkK : α → Value) (mkV : β → Value) (hg : o.guard = none) (hop : o.op = .next it false) (K : Keyed P k) (invK : ∀ key kl, keyOf P k key = some kl → ∃ x, key = mkK x) (invV : ∀ v y, Rd v = some y → ∃ c, v = mkV c)
    (hit : a.eval it = .pointer (some ⟨r, 0, none⟩)) (hrg : w0.ranges P k Rd b r n D left cnt) (hbl : b < w0.heap.size) (hrl : r < w0.heap.size) (done : cnt = 0 → (∀ kl, left kl = false) → Wl P ops Q rest (a.put o.dst (.tuple #[.bool false])) w0 R)
    (more : ∀ (x : α) (c : β) (kl : Lit) (y : DataW H × List MemPlace) (w' : World) (cnt' : Nat), keyOf P k (mkK x) = some kl → left kl = true → Rd (mkV c) = some y → w'.ranges P k Rd b r n D (fun z => left z && !z.sameKey kl) cnt' → cnt' < cnt → But [r] w0 w' → Cur P w' b r (.tuple #[mkK x, mkV c]) → Wl P ops Q rest (a.put o.dst (.tuple #[.bool true, mkK x, mkV c])) w' R) : Wl P ops Q (o :: rest) a w0 R :=
  ⟨fun w hE => wpList_next_ranges w hg it hop k K Rd mkK mkV invK invV b r n D left cnt hit (ranges_env hrg hE) (fun h1 h2 => (done h1 h2).run w hE)
    (fun x c kl y w' cnt' hk hl hv hat hrg' hlt hgr hsz hen => by
      obtain ⟨w1, t1, t2, t3, t4⟩ := trunc hE (But.of_grown hgr) hrl
      exact (more x c kl y w1 cnt' hk hl hv (ranges_same hrg' (t4 b hbl) (t4 r hrl)) hlt t1 (cur_same (cur_of hrg' hen) (t4 b hbl) (t4 r hrl))).run w' t2)⟩
theorem wl_put_keep (ty : TypeId) (x y : Operand) {g : Nat} {t : TypeId} {old : Array Value} (cs : Array Value) (hb : w0.heap[g]? = some (.cells old t (0, 0))) (hw : Region.wanted o (yielded ops a.tmps) = true) (ho : o.op = .store ty x y) (hx : a.eval x = .pointer (some ⟨g, 0, none⟩)) (hy : a.eval y = .agg cs)
    (hs : (P.info? ty).map (·.size) = some cs.size) (hz : old.size = cs.size) (h1 : cs.all (·.oneCell') = true) (h : ∀ w', But [g] w0 w' → w'.heap[g]? = some (.cells cs t (0, 0)) → Wl P ops Q rest (a.put o.dst undef) w' R) : Wl P ops Q (o :: rest) a w0 R :=
  wl_upon hw (fun w hE => by
    have hr := below_row hE.below (lt_of_row hb) hb
    have hlt := lt_of_row hb
    obtain ⟨w1, t1, t2, t3, t4⟩ := trunc hE (But.setRow (w := w) (g := g) (cs := cs)) hlt
    exact wp_store_row ty x y ho g cs hx hy t old hr hs hz h1 ((h w1 t1 ((t4 g hlt).trans (row_setRow hr))).run _ t2))
theorem wl_putc_keep (ty : TypeId) (x y : Operand) {g off : Nat} {t : TypeId} {cs : Array Value} (old v : Value) (hb : w0.heap[g]? = some (.cells cs t (0, 0))) (hw : Region.wanted o (yielded ops a.tmps) = true) (ho : o.op = .store ty x y) (hx : a.eval x = .pointer (some ⟨g, off, none⟩)) (hy : a.eval y = v)
    (hp : cs[off]? = some old) (hs : (P.info? ty).map (·.size) = some 1) (h1 : v.oneCell' = true) (h : ∀ w', But [g] w0 w' → w'.heap[g]? = some (.cells (cs.setIfInBounds off v) t (0, 0)) → Wl P ops Q rest (a.put o.dst undef) w' R) : Wl P ops Q (o :: rest) a w0 R :=
  wl_upon hw (fun w hE => by
    have hr := below_row hE.below (lt_of_row hb) hb
    have hlt := lt_of_row hb
    obtain ⟨w1, t1, t2, t3, t4⟩ := trunc hE (But.setRow (w := w) (g := g) (cs := cs.setIfInBounds off v)) hlt
    rw [run_store_cell hr hp ho hx hy hs h1]
    exact (h w1 t1 ((t4 g hlt).trans (row_setRow hr))).run _ t2)
/-- Ways that meet, each with a first world and rows of its own. -/
def MeetR {ι : Type} (F : ι → Act) (Rs : ι → List Rw) (φ : ι → World → Prop) : Act → World → Prop := fun a w => ∃ j w1, φ j w1 ∧ a = F j ∧ Env w1 w (Rs j)
theorem we_meetr {ι : Type} {F : ι → Act} {Rs : ι → List Rw} {φ : ι → World → Prop} (j : ι) (hφ : φ j w0) (ha : a = F j) (hs : (Rs j).Sublist R) : We (Exit.then (MeetR F Rs φ) Q) .normal a w0 R := ⟨fun w hE => ⟨j, w0, hφ, ha, hE.sub hs⟩⟩
theorem wc_loopr {ι : Type} (F : ι → Act) (Rs : ι → List Rw) (φ : ι → World → Prop) (μ : ι → Nat) (j : ι) (hφ : φ j w0) (ha : a = F j) (hs : (Rs j).Sublist R)
    (round : ∀ i w1, φ i w1 → Wc P c (Exit.then (MeetR F Rs (fun k w => φ k w ∧ μ k < μ i)) Q) (F i) w1 (Rs i)) : Wc P (.loop c) Q a w0 R := by
  refine wc_loopb F (fun j w => ∃ w1, φ j w1 ∧ Env w1 w (Rs j)) μ j (fun w hE => ⟨w0, hφ, hE.sub hs⟩) ha (fun i w hi => ?_)
  obtain ⟨w1, h1, hE⟩ := hi
  refine ⟨fun w2 hE2 => ?_⟩
  refine wp_mono ((round i w1 h1).run w2 (hE.call hE2.below)) (fun e a' w' hq => ?_)
  cases e with
  | normal =>
    obtain ⟨k, w3, ⟨h2, h3⟩, h4, h5⟩ := (hq : MeetR F Rs (fun k w => φ k w ∧ μ k < μ i) a' w')
    exact ⟨k, ⟨⟨w3, h2, h5⟩, h3⟩, h4⟩
  | _ => exact hq
/-- A row beside an iterator that turns. -/
theorem rng_row (ho : w0.ranges P k Rd b r n D left cnt) {w' : World} (h : But [r] w0 w') {g : Nat} {cs : Array Value} {t : TypeId} {fr : Nat × Nat} (hg : w0.heap[g]? = some (.cells cs t fr)) : w'.heap[g]? = some (.cells cs t fr) := by
  obtain ⟨es, clock, since, seen, c0, hb, F, h1, h2, hrr, h3⟩ := ho
  refine h.row hg (fun e => ?_)
  obtain rfl : g = r := by simpa using e
  rw [hrr] at hg
  cases hg
theorem rng_lt (ho : w0.ranges P k Rd b r n D left cnt) : b < w0.heap.size ∧ r < w0.heap.size := by
  obtain ⟨es, clock, since, seen, c0, hb, F, h1, h2, hrr, h3⟩ := ho
  exact ⟨(Array.getElem?_eq_some_iff.1 hb).1, (Array.getElem?_eq_some_iff.1 hrr).1⟩
/-- What is gone through beside a row that turns. -/
theorem rng_put (ho : w0.ranges P k Rd b r n D left cnt) {w' : World} {g : Nat} (h : But [g] w0 w') {cs : Array Value} {t : TypeId} {fr : Nat × Nat} (hg : w0.heap[g]? = some (.cells cs t fr)) : w'.ranges P k Rd b r n D left cnt := by
  have h2 := ho
  obtain ⟨es, clock, since, seen, c0, hb, F, h1, h2', hrr, h3⟩ := h2
  refine h.ranges ho (fun e => ?_) (fun e => ?_)
  · obtain rfl : b = g := by simpa using e
    rw [hb] at hg; cases hg
  · obtain rfl : r = g := by simpa using e
    rw [hrr] at hg; cases hg
end
end Go.Proofs.Ytbacchdkankioaa.Rbk
