/-
  WHAT AN ARGUMENT HOLDS, whatever its type: numbers, bools, slices and structs, one in another; with the form's own reach (how great a slice may be). No program.
-/
import Derived.Test.YtbacchdkankioaaPostb
import Derived.Test.YtbacchdkankioaaMsc
import Derived.Deep.Slices
import Derived.SizedLaws
namespace Go.Proofs.Ytbacchdkankioaa.Opn
open Go.ChangeShapes Go.WideShapes Go.RowKit Go.Deep
open Sl Sb Sj Sk
set_option linter.unusedVariables false
set_option linter.unusedSimpArgs false
section
variable {H : Type} {eh : TypeId × Value → H} {P : Program} {W : World}
/-- No part is greater than the form's reach. -/
def Light (P : Program) (t : TypeId) (d : DataW H) : Prop := ∀ n ∈ d.weights P t, n ≤ reachBytes
/-- What is read at a type: cells enc y, with φ y. -/
structure Opens (eh : TypeId × Value → H) (P : Program) (W : World) (t : TypeId) {α : Type} (enc : α → List Value) (φ : α → Prop) : Prop where
  run : ∀ (fuel : Nat) (cs : List Value) (x : DataW H × List MemPlace), DataW.trod eh P W 0 (fun _ => true) true fuel t cs = some x → Light P t x.1 → ∃ y : α, cs = enc y ∧ φ y
theorem opens_int {t : TypeId} {k : IntKind} (ht : P.underlying t = some (.int k)) : Opens eh P W t (fun z : Int => [.int k z]) (fun z => (Lit.int k z).wf = true) :=
  ⟨fun fuel cs x h _ => by
    obtain ⟨z, rfl, _, hw⟩ := DataW.trod_int ht h
    exact ⟨z, rfl, hw⟩⟩
/-- The same in other words. -/
theorem opens_as {t : TypeId} {α β : Type} {enc : α → List Value} {φ : α → Prop} {enc' : β → List Value} {φ' : β → Prop} (f : α → β) (o : Opens eh P W t enc φ) (h : ∀ a, φ a → enc a = enc' (f a) ∧ φ' (f a)) : Opens eh P W t enc' φ' :=
  ⟨fun fuel cs x hx hl => by
    obtain ⟨a, rfl, ha⟩ := o.run fuel cs x hx hl
    exact ⟨f a, (h a ha).1, (h a ha).2⟩⟩
/-- A slice: its place, its elements, its capacity. -/
structure SlV (α : Type) where
  p : Option Addr
  L : List α
  c : Nat
structure SlOk (W : World) {α : Type} (enc : α → List Value) (φ : α → Prop) (b : Nat) (s : SlV α) : Prop where
  reads : Reads W s.p (flat enc s.L)
  each : ∀ y ∈ s.L, φ y
  small : s.L.length * b ≤ reachBytes
  cap : s.L.length ≤ s.c
  max : s.c ≤ maxLen
theorem weights_all {e : TypeId} : ∀ {ds : List (DataW H)} {d : DataW H}, d ∈ ds → ∀ n ∈ d.weights P e, n ∈ DataW.weightsAll P e ds
  | d0 :: ds, d, hd, n, hn => by
    unfold DataW.weightsAll
    rcases List.mem_cons.1 hd with rfl | hd
    · exact List.mem_append_left _ hn
    · exact List.mem_append_right _ (weights_all hd n hn)
theorem opens_slice {α : Type} [Inhabited α] {t e : TypeId} {z b : Nat} {enc : α → List Value} {φ : α → Prop} (ht : P.underlying t = some (.slice e)) (hc : P.cellsOf e = z) (hb : P.bytesOf e = b) (hz : ∀ y, (enc y).length = z) (o : Opens eh P W e enc φ) :
    Opens eh P W t (fun s : SlV α => [.slice s.p s.L.length s.c]) (SlOk W enc φ b) :=
  ⟨fun fuel cs x h hl => by
    rcases DataW.trod_slice ht h with ⟨rfl, rfl⟩ | ⟨a, len, cap, elems, rest, n, _, rfl, rfl, _, hlc, hm, hlen, hel, _, _⟩
    · exact ⟨⟨none, [], 0⟩, rfl, reads_nil _ _, fun y hy => by simp at hy, by simp, Nat.le_refl _, Nat.zero_le _⟩
    · have hw : ∀ y ∈ elems, Light P e y.1 := fun y hy n hn => hl n (by
        show n ∈ DataW.weights P t (.slice (elems.map (·.1)) (rest.map (·.1)))
        unfold DataW.weights
        rw [ht]
        exact List.mem_cons_of_mem _ (List.mem_append_left _ (weights_all (List.mem_map.2 ⟨y, hy, rfl⟩) n hn)))
      have hs : (elems.length + rest.length) * b ≤ reachBytes := hl _ (by
        show _ ∈ DataW.weights P t (.slice (elems.map (·.1)) (rest.map (·.1)))
        unfold DataW.weights
        rw [ht]
        exact List.mem_cons.2 (.inl (by rw [List.length_map, List.length_map, hb])))
      have each : ∀ i, i < len → ∃ y : α, (∀ r, r < z → W.cell? (a.add (i * z + r)) = (enc y)[r]?) ∧ φ y := by
        intro i hi
        have h1 := hel i hi
        have hi' : i < elems.length := by omega
        rw [List.getElem?_eq_getElem hi', hc] at h1
        obtain ⟨cs', h2, h3⟩ := Option.bind_eq_some_iff.1 h1
        obtain ⟨_, _, h4⟩ := World.cells?_some h2
        obtain ⟨y, rfl, hy⟩ := o.run _ _ _ h3 (hw _ (List.getElem_mem hi'))
        exact ⟨y, fun r hr => by rw [← h4 r hr, Addr.add_add], hy⟩
      obtain ⟨F, hF⟩ := choose_lt each
      have hL : ((List.range len).map F).length = len := by simp
      have hg : ∀ i, i < len → ((List.range len).map F)[i]! = F i := fun i hi => by
        rw [getElem!_pos _ i (by rw [hL]; exact hi)]
        simp
      refine ⟨⟨some a, (List.range len).map F, cap⟩, by show _ = [Value.slice (some a) ((List.range len).map F).length cap]; rw [hL], ?_, ?_, ?_, by show ((List.range len).map F).length ≤ cap; rw [hL]; exact hlc, hm⟩
      · intro j u hj
        refine ⟨a, rfl, ?_⟩
        have hjl : j < len * z := by
          have := (List.getElem?_eq_some_iff.1 hj).1
          rwa [flat_length hz, hL] at this
        have hz0 : 0 < z := Nat.pos_of_ne_zero (fun e => by rw [e] at hjl; omega)
        have hd : j / z < len := (Nat.div_lt_iff_lt_mul hz0).2 hjl
        have hm' : j % z < z := Nat.mod_lt _ hz0
        have e3 : j = j / z * z + j % z := by rw [Nat.mul_comm]; exact (Nat.div_add_mod j z).symm
        rw [e3] at hj ⊢
        rw [flat_cell hz _ _ _ (by rw [hL]; exact hd) hm', hg _ hd] at hj
        rw [(hF _ hd).1 _ hm', hj]
      · intro y hy
        obtain ⟨i, hi, rfl⟩ := List.mem_map.1 hy
        exact (hF i (List.mem_range.1 hi)).2
      · show ((List.range len).map F).length * b ≤ reachBytes
        rw [hL, ← hlen]
        exact Nat.le_trans (Nat.mul_le_mul_right b (Nat.le_add_right _ _)) hs⟩
/-- The fields of a struct, from an offset on. -/
structure OpensF (eh : TypeId × Value → H) (P : Program) (W : World) (fs : List Field) (off z : Nat) {α : Type} (enc : α → List Value) (φ : α → Prop) : Prop where
  run : ∀ (n : Nat) (cs : List Value) (xs : List (DataW H × List MemPlace)), xs.length = fs.length → (∀ (i : Nat) (f : Field), fs[i]? = some f → DataW.trod eh P W 0 (fun _ => true) true n f.type ((cs.drop f.offset).take (P.cellsOf f.type)) = xs[i]?) →
    (∀ (i : Nat) (f : Field) x, fs[i]? = some f → xs[i]? = some x → Light P f.type x.1) → ∃ y : α, (cs.drop off).take z = enc y ∧ φ y
theorem opensF_one {f : Field} {off z : Nat} {α : Type} {enc : α → List Value} {φ : α → Prop} (ho : f.offset = off) (hc : P.cellsOf f.type = z) (o : Opens eh P W f.type enc φ) : OpensF eh P W [f] off z enc φ :=
  ⟨fun n cs xs hl ht hw => by
    obtain ⟨x, rfl⟩ : ∃ x, xs = [x] := List.length_eq_one_iff.1 hl
    have h := ht 0 f rfl
    rw [ho, hc] at h
    exact o.run n _ x h (hw 0 f x rfl rfl)⟩
theorem opensF_cons {f : Field} {fs : List Field} {off m z : Nat} {α β : Type} {enc : α → List Value} {φ : α → Prop} {enc' : β → List Value} {φ' : β → Prop} (ho : f.offset = off) (hc : P.cellsOf f.type = m) (o : Opens eh P W f.type enc φ) (r : OpensF eh P W fs (off + m) z enc' φ') :
    OpensF eh P W (f :: fs) off (m + z) (fun y : α × β => enc y.1 ++ enc' y.2) (fun y => φ y.1 ∧ φ' y.2) :=
  ⟨fun n cs xs hl ht hw => by
    cases xs with
    | nil => simp at hl
    | cons x xs =>
      have h := ht 0 f rfl
      rw [ho, hc] at h
      obtain ⟨a, ha, ha'⟩ := o.run n _ x h (hw 0 f x rfl rfl)
      obtain ⟨b, hb, hb'⟩ := r.run n cs xs (by simpa using hl) (fun i g hi => by have := ht (i + 1) g (by simpa using hi); simpa using this) (fun i g y hi hy => hw (i + 1) g y (by simpa using hi) (by simpa using hy))
      refine ⟨(a, b), ?_, ha', hb'⟩
      show _ = enc a ++ enc' b
      rw [List.take_add, List.drop_drop, ha, hb]⟩
theorem opens_struct {t : TypeId} {fs : Array Field} {l : List Field} {z : Nat} {α : Type} {enc : α → List Value} {φ : α → Prop} (ht : P.underlying t = some (.struct fs)) (hl : fs.toList = l) (hz : P.cellsOf t = z) (o : OpensF eh P W l 0 z enc φ) : Opens eh P W t enc φ :=
  ⟨fun fuel cs x h hw => by
    obtain ⟨xs, n, _, rfl, hc, hlen, hf⟩ := DataW.trod_struct ht h
    subst hl
    obtain ⟨y, hy, hy'⟩ := o.run n cs xs (by simpa using hlen) (fun i f hi => hf i f (by simpa using hi)) (fun i f x hi hx k hk => hw k (by
      show k ∈ DataW.weights P t (.agg (xs.map (·.1)))
      unfold DataW.weights
      rw [ht]
      exact DataW.weights_mem_each (j := i) (t := f.type) (d := x.1) (by rw [List.getElem?_map, hi]; rfl) (by rw [List.getElem?_map, hx]; rfl) k hk))
    rw [List.drop_zero, ← hz, ← hc, List.take_length] at hy
    exact ⟨y, hy, hy'⟩⟩
/-- A struct as an argument. -/
theorem open_agg {t : TypeId} {fs : Array Field} {v : Value} {d : DataW H} {p : List MemPlace} {r : Reach} {b0 : Nat} {α : Type} {enc : α → List Value} {φ : α → Prop} (ht : P.underlying t = some (.struct fs)) (hv : Value.okWide P W r b0 t v) (h : DataW.Trod eh P W 0 (fun _ => true) true t v d p) (hl : Light P t d) (o : Opens eh P W t enc φ) :
    ∃ y : α, v = .agg (enc y).toArray ∧ φ y := by
  obtain ⟨cs, rfl, _⟩ := okWide_struct ht hv
  obtain ⟨n, hn⟩ := h
  obtain ⟨y, hy, hy'⟩ := o.run n _ _ hn hl
  refine ⟨y, ?_, hy'⟩
  have e : cs.toList = enc y := hy
  rw [← e]
/-- A slice as an argument. -/
theorem open_slice {t e : TypeId} {v : Value} {d : DataW H} {p : List MemPlace} {r : Reach} {b0 : Nat} {α : Type} {φ : SlV α → Prop} (ht : P.underlying t = some (.slice e)) (hv : Value.okWide P W r b0 t v) (h : DataW.Trod eh P W 0 (fun _ => true) true t v d p) (hl : Light P t d) (o : Opens eh P W t (fun s : SlV α => [.slice s.p s.L.length s.c]) φ) :
    ∃ s : SlV α, v = .slice s.p s.L.length s.c ∧ φ s := by
  obtain ⟨a, n, c, rfl⟩ := okWide_slice ht hv
  obtain ⟨n, hn⟩ := h
  obtain ⟨y, hy, hy'⟩ := o.run n _ _ hn hl
  exact ⟨y, by simpa [Value.cells] using hy, hy'⟩
theorem light_at {ts : List TypeId} {ds : List (DataW H)} (h : (DataW.weightsEach P ts ds).all (· ≤ reachBytes) = true) {j : Nat} {t : TypeId} {d : DataW H} (ht : ts[j]? = some t) (hd : ds[j]? = some d) : Light P t d := fun n hn => by
  have := List.all_eq_true.1 h _ (DataW.weights_mem_each ht hd n hn)
  simpa using this
end
end Go.Proofs.Ytbacchdkankioaa.Opn
