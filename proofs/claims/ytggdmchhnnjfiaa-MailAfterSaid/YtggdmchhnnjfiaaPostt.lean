/-
  What arguments hold that came in: lists of texts, and structs and arrays of plain cells by value. Condition: none.
-/
import Derived.Test.YtggdmchhnnjfiaaPostb
import Derived.Test.YtggdmchhnnjfiaaMl
import Derived.Deep.Matrix
import Derived.OpenShut
namespace Go.Proofs.Ytggdmchhnnjfiaa.Postt
open Go.ChangeShapes Go.WideShapes Go.RowKit Go.Deep
open Sl Sb Ml
set_option linter.unusedVariables false
set_option linter.unusedSimpArgs false
section
variable {H : Type} {enc : TypeId × Value → H} {P : Program}
/-- A list of texts as an argument: what it holds. -/
theorem open_texts {t e q : TypeId} {W : World} {v : Value} {d : DataW H} {p : List MemPlace} (ht : P.underlying t = some (.slice e)) (he : P.underlying e = some (.slice q)) (hq : P.underlying q = some (.int .u8)) (ce : P.cellsOf e = 1) (cq : P.cellsOf q = 1) (hv : v.cells = #[v])
    (h : DataW.Trod enc P W 0 (fun _ => true) true t v d p) : ∃ (b : Option Addr) (n c : Nat) (T : List Tx), v = .slice b n c ∧ T.length = n ∧ Reads W b (flat tx T) ∧ OkT W T ∧ n ≤ c ∧ c ≤ maxLen := by
  obtain ⟨n, hn⟩ := h
  rw [hv] at hn
  rcases open_int_rows ht he hq ce cq hn with ⟨h1, _⟩ | ⟨a, len, cap, A, L, C, Z, h1, _, hlc, hm, _, hcell⟩
  · have e1 : v = .slice none 0 0 := by simpa using h1
    exact ⟨none, 0, 0, [], e1, rfl, reads_nil _ _, ok_nil _, Nat.le_refl _, Nat.zero_le _⟩
  · have e1 : v = .slice (some a) len cap := by simpa using h1
    let F : Nat → Tx := fun r => ⟨A r, ((Z r).take (L r)).map fun n => UInt8.ofNat n.toNat, C r⟩
    have hFl : ∀ r, r < cap → (F r).L.length = L r := by
      intro r hr
      obtain ⟨_, h2, _, h3, _⟩ := hcell r hr
      show (((Z r).take (L r)).map _).length = L r
      rw [List.length_map, List.length_take]
      omega
    have hl : ((List.range len).map F).length = len := by simp
    refine ⟨some a, len, cap, (List.range len).map F, e1, hl, ?_, ?_, hlc, hm⟩
    · intro j u hj
      refine ⟨a, rfl, ?_⟩
      have hjl : j < len := by
        have := (List.getElem?_eq_some_iff.1 hj).1
        rwa [tx_len, hl] at this
      rw [tx_map, List.getElem?_map, List.getElem?_map, List.getElem?_range hjl] at hj
      have h2 := (hcell j (by omega)).1
      rw [h2, ← hj]
      show _ = some (Value.slice (A j) (F j).L.length (C j))
      rw [hFl j (by omega)]
    · intro t ht'
      obtain ⟨r, hr, rfl⟩ := List.mem_map.1 ht'
      have hr' : r < cap := by have := List.mem_range.1 hr; omega
      obtain ⟨_, h2, h2m, h3, hwf, h4, h5⟩ := hcell r hr'
      refine ⟨?_, by rw [hFl r hr']; exact h2, h2m⟩
      intro j u hj
      have hjl : j < L r := by
        have := (List.getElem?_eq_some_iff.1 hj).1
        rwa [ub_len, hFl r hr'] at this
      cases hA : A r with
      | none => have := h4 hA; omega
      | some b =>
        refine ⟨b, hA, ?_⟩
        rw [ub_get _ j (by rw [hFl r hr']; exact hjl), getElem!_pos _ j (by rw [hFl r hr']; exact hjl)] at hj
        rw [(h5 b hA).2 j (by omega)]
        have hjz : j < (Z r).length := by omega
        have hw := hwf (Z r)[j] (List.getElem_mem _)
        simp [Lit.wf, IntKind.min, IntKind.max, IntKind.bits, IntKind.signed] at hw
        have hg : (Z r).getD j 0 = (Z r)[j] := by simp [List.getD, hjz]
        rw [hg, ← hj]
        congr 2
        show _ = ((((((Z r).take (L r)).map fun n => UInt8.ofNat n.toNat)[j]'_).toNat : Nat) : Int)
        simp only [List.getElem_map, List.getElem_take]
        have h6 : (Z r)[j].toNat < 256 := by omega
        rw [UInt8.toNat_ofNat_of_lt' (by simpa using h6)]
        omega

/-! ### Plain cells by value -/
section
variable {w : World} {base : Nat} {spare : Nat → Bool} {held : Bool} {cs : List Value} {x : DataW H × List MemPlace}
theorem part_get {off m j : Nat} {v : Value} (h : ((cs.drop off).take m)[j]? = some v) (hj : j < m) : cs[off + j]? = some v := by
  rwa [List.getElem?_take, if_pos hj, List.getElem?_drop] at h
theorem array_ints {t e : TypeId} {n fuel : Nat} {k : IntKind} (ht : P.underlying t = some (.array n e)) (he : P.underlying e = some (.int k)) (hc : P.cellsOf e = 1) (h : DataW.trod enc P w base spare held fuel t cs = some x) :
    x.2 = [] ∧ ∀ j, j < n → ∃ z, cs[j]? = some (.int k z) ∧ (Lit.int k z).wf = true := by
  obtain ⟨xs, m, _, rfl, _, hl, hf⟩ := DataW.trod_array ht h
  have each : ∀ i, i < n → ∃ y, xs[i]? = some y ∧ ∃ z, (cs.drop (i * 1)).take 1 = [.int k z] ∧ y.2 = [] ∧ (Lit.int k z).wf = true := by
    intro i hi
    have h1 := hf i hi
    rw [List.getElem?_eq_getElem (by omega), hc] at h1
    obtain ⟨z, e1, e2, e3⟩ := DataW.trod_int he h1
    exact ⟨_, List.getElem?_eq_getElem (by omega), z, e1, by rw [e2], e3⟩
  refine ⟨?_, fun j hj => ?_⟩
  · rw [List.flatMap_eq_nil_iff]
    intro y hy
    obtain ⟨i, hi, rfl⟩ := List.mem_iff_getElem.1 hy
    obtain ⟨y, h1, _, _, h2, _⟩ := each i (by omega)
    rw [List.getElem?_eq_getElem hi] at h1
    rw [Option.some.inj h1]
    exact h2
  · obtain ⟨y, _, z, h1, _, h2⟩ := each j hj
    have h3 : ((cs.drop (j * 1)).take 1)[0]? = some (.int k z) := by rw [h1]; rfl
    have h4 := part_get h3 (by decide)
    exact ⟨z, by simpa using h4, h2⟩
theorem array_bools {t e : TypeId} {n fuel : Nat} (ht : P.underlying t = some (.array n e)) (he : P.underlying e = some .bool) (hc : P.cellsOf e = 1) (h : DataW.trod enc P w base spare held fuel t cs = some x) :
    x.2 = [] ∧ ∀ j, j < n → ∃ z, cs[j]? = some (.bool z) := by
  obtain ⟨xs, m, _, rfl, _, hl, hf⟩ := DataW.trod_array ht h
  have each : ∀ i, i < n → ∃ y, xs[i]? = some y ∧ ∃ z, (cs.drop (i * 1)).take 1 = [.bool z] ∧ y.2 = [] := by
    intro i hi
    have h1 := hf i hi
    rw [List.getElem?_eq_getElem (by omega), hc] at h1
    obtain ⟨z, e1, e2⟩ := DataW.trod_bool he h1
    exact ⟨_, List.getElem?_eq_getElem (by omega), z, e1, by rw [e2]⟩
  refine ⟨?_, fun j hj => ?_⟩
  · rw [List.flatMap_eq_nil_iff]
    intro y hy
    obtain ⟨i, hi, rfl⟩ := List.mem_iff_getElem.1 hy
    obtain ⟨y, h1, _, _, h2⟩ := each i (by omega)
    rw [List.getElem?_eq_getElem hi] at h1
    rw [Option.some.inj h1]
    exact h2
  · obtain ⟨y, _, z, h1, _⟩ := each j hj
    have h3 : ((cs.drop (j * 1)).take 1)[0]? = some (.bool z) := by rw [h1]; rfl
    have h4 := part_get h3 (by decide)
    exact ⟨z, by simpa using h4⟩
/-- A field of a struct. -/
theorem field_at {t : TypeId} {fs : Array Field} {fuel : Nat} (ht : P.underlying t = some (.struct fs)) (h : DataW.trod enc P w base spare held fuel t cs = some x) :
    ∃ xs : List (DataW H × List MemPlace), x.2 = xs.flatMap (·.2) ∧ xs.length = fs.size ∧ cs.length = P.cellsOf t ∧ ∀ (i : Nat) (f : Field), fs[i]? = some f → ∃ n y, xs[i]? = some y ∧ DataW.trod enc P w base spare held n f.type ((cs.drop f.offset).take (P.cellsOf f.type)) = some y := by
  obtain ⟨xs, n, _, rfl, hc, hl, hf⟩ := DataW.trod_struct ht h
  refine ⟨xs, rfl, hl, hc, fun i f hi => ?_⟩
  have hlt : i < fs.size := (Array.getElem?_eq_some_iff.1 hi).1
  have h1 := hf i f hi
  rw [List.getElem?_eq_getElem (by omega)] at h1
  exact ⟨n, _, List.getElem?_eq_getElem (by omega), h1⟩
theorem places_nil {xs : List (DataW H × List MemPlace)} (h : ∀ (i : Nat) y, xs[i]? = some y → y.2 = []) : xs.flatMap (·.2) = [] := by
  rw [List.flatMap_eq_nil_iff]
  intro y hy
  obtain ⟨i, hi, rfl⟩ := List.mem_iff_getElem.1 hy
  exact h i _ (List.getElem?_eq_getElem hi)
end
theorem list16 {α : Type} {l : List α} (h : l.length = 16) : ∃ a b c d e f g i j k m n o p q r, l = [a, b, c, d, e, f, g, i, j, k, m, n, o, p, q, r] := by
  match l, h with
  | [a, b, c, d, e, f, g, i, j, k, m, n, o, p, q, r], _ => exact ⟨a, b, c, d, e, f, g, i, j, k, m, n, o, p, q, r, rfl⟩
/-- A mail as an argument. -/
theorem open_mail {t tb ti : TypeId} {fs : Array Field} {r : Reach} {b0 : Nat} {W : World} {sp : Nat → Bool} {hd : Bool} {v : Value} {d : DataW H} {p : List MemPlace} {f0 f1 f2 f3 f4 f5 : Field} (hfs : fs = #[f0, f1, f2, f3, f4, f5]) (ht : P.underlying t = some (.struct fs)) (hC : P.cellsOf t = 16)
    (hb : P.underlying f0.type = some (.array 6 tb)) (hb1 : P.underlying tb = some .bool) (cb : P.cellsOf tb = 1) (hi : P.underlying f1.type = some (.array 6 ti)) (hi1 : P.underlying ti = some (.int .i64)) (ci : P.cellsOf ti = 1) (z0 : P.cellsOf f0.type = 6) (z1 : P.cellsOf f1.type = 6)
    (u2 : P.underlying f2.type = some (.int .i64)) (u3 : P.underlying f3.type = some (.int .i64)) (u4 : P.underlying f4.type = some (.int .i64)) (u5 : P.underlying f5.type = some (.int .i64)) (z2 : P.cellsOf f2.type = 1) (z3 : P.cellsOf f3.type = 1) (z4 : P.cellsOf f4.type = 1) (z5 : P.cellsOf f5.type = 1)
    (o0 : f0.offset = 0) (o1 : f1.offset = 6) (o2 : f2.offset = 12) (o3 : f3.offset = 13) (o4 : f4.offset = 14) (o5 : f5.offset = 15)
    (hv : Value.okWide P W r b0 t v) (h : DataW.Trod enc P W 0 sp hd t v d p) : p = [] ∧ ∃ (h : Nat → Bool) (u : Nat → Int) (b s c y : Int), v = .agg (mrow h u b s c y).toArray := by
  obtain ⟨cs, rfl, hsz⟩ := okWide_struct ht hv
  obtain ⟨n, hn⟩ := h
  obtain ⟨xs, hp, hl, hlen, hf⟩ := field_at ht hn
  subst hfs
  have hp' : p = xs.flatMap (·.2) := hp
  have hcs : (Value.agg cs).cells.toList = cs.toList := rfl
  rw [hcs] at hf
  have g0 : ∃ y, xs[0]? = some y ∧ y.2 = [] ∧ ∀ j, j < 6 → ∃ z, cs.toList[0 + j]? = some (.bool z) := by
    obtain ⟨n, y, h1, h2⟩ := hf 0 f0 rfl
    obtain ⟨h3, h4⟩ := array_bools hb hb1 cb h2
    exact ⟨y, h1, h3, fun j hj => by obtain ⟨z, e⟩ := h4 j hj; rw [o0, z0] at e; exact ⟨z, part_get e hj⟩⟩
  have g1 : ∃ y, xs[1]? = some y ∧ y.2 = [] ∧ ∀ j, j < 6 → ∃ z, cs.toList[6 + j]? = some (.int .i64 z) := by
    obtain ⟨n, y, h1, h2⟩ := hf 1 f1 rfl
    obtain ⟨h3, h4⟩ := array_ints hi hi1 ci h2
    exact ⟨y, h1, h3, fun j hj => by obtain ⟨z, e, _⟩ := h4 j hj; rw [o1, z1] at e; exact ⟨z, part_get e hj⟩⟩
  have gi : ∀ (i : Nat) (f : Field) (o : Nat), #[f0, f1, f2, f3, f4, f5][i]? = some f → P.underlying f.type = some (.int .i64) → P.cellsOf f.type = 1 → f.offset = o → ∃ y, xs[i]? = some y ∧ y.2 = [] ∧ ∃ z, cs.toList[o + 0]? = some (.int .i64 z) := by
    intro i f o hfi hu hz ho
    obtain ⟨n, y, h1, h2⟩ := hf i f hfi
    obtain ⟨z, e1, e2, _⟩ := DataW.trod_int hu h2
    rw [ho, hz] at e1
    exact ⟨y, h1, by rw [e2], z, part_get (by rw [e1]; rfl) (by decide)⟩
  obtain ⟨y0, x0, q0, k0⟩ := g0
  obtain ⟨y1, x1, q1, k1⟩ := g1
  obtain ⟨y2, x2, q2, b, k2⟩ := gi 2 f2 12 rfl u2 z2 o2
  obtain ⟨y3, x3, q3, s, k3⟩ := gi 3 f3 13 rfl u3 z3 o3
  obtain ⟨y4, x4, q4, c, k4⟩ := gi 4 f4 14 rfl u4 z4 o4
  obtain ⟨y5, x5, q5, y, k5⟩ := gi 5 f5 15 rfl u5 z5 o5
  obtain ⟨h, hh⟩ := choose_lt k0
  obtain ⟨u, hu⟩ := choose_lt k1
  refine ⟨?_, h, u, b, s, c, y, ?_⟩
  · rw [hp']
    refine places_nil (fun i y hi => ?_)
    have hlt : i < 6 := by
      have := (List.getElem?_eq_some_iff.1 hi).1
      rw [hl] at this
      exact this
    rcases six hlt with rfl | rfl | rfl | rfl | rfl | rfl
    · rw [x0] at hi; rw [← Option.some.inj hi]; exact q0
    · rw [x1] at hi; rw [← Option.some.inj hi]; exact q1
    · rw [x2] at hi; rw [← Option.some.inj hi]; exact q2
    · rw [x3] at hi; rw [← Option.some.inj hi]; exact q3
    · rw [x4] at hi; rw [← Option.some.inj hi]; exact q4
    · rw [x5] at hi; rw [← Option.some.inj hi]; exact q5
  · have e : cs.toList = mrow h u b s c y := by
      obtain ⟨c0, c1, c2, c3, c4, c5, c6, c7, c8, c9, c10, c11, c12, c13, c14, c15, e⟩ := list16 (l := cs.toList) (by rw [Array.length_toList, hsz, hC])
      rw [e] at hh hu k2 k3 k4 k5 ⊢
      have a0 := hh 0 (by decide)
      have a1 := hh 1 (by decide)
      have a2 := hh 2 (by decide)
      have a3 := hh 3 (by decide)
      have a4 := hh 4 (by decide)
      have a5 := hh 5 (by decide)
      have e0 := hu 0 (by decide)
      have e1 := hu 1 (by decide)
      have e2 := hu 2 (by decide)
      have e3 := hu 3 (by decide)
      have e4 := hu 4 (by decide)
      have e5 := hu 5 (by decide)
      simp at a0 a1 a2 a3 a4 a5 e0 e1 e2 e3 e4 e5 k2 k3 k4 k5
      subst a0 a1 a2 a3 a4 a5 e0 e1 e2 e3 e4 e5 k2 k3 k4 k5
      rfl
    rw [← e]
theorem okWide_array {t e : TypeId} {n : Nat} {r : Reach} {b0 : Nat} {W : World} {v : Value} (ht : P.underlying t = some (.array n e)) (h : Value.okWide P W r b0 t v) : ∃ cs, v = .agg cs ∧ cs.size = P.cellsOf t := by
  simp only [Value.okWide, ht] at h
  obtain ⟨cs, h1, h2, _⟩ := h
  exact ⟨cs, h1, h2⟩
/-- Five small numbers as an argument. -/
theorem open_five {t e : TypeId} {k : IntKind} {W : World} {sp : Nat → Bool} {hd : Bool} {cs : Array Value} {d : DataW H} {p : List MemPlace} (ht : P.underlying t = some (.array 5 e)) (he : P.underlying e = some (.int k)) (hc : P.cellsOf e = 1) (hC : cs.size = 5)
    (h : DataW.Trod enc P W 0 sp hd t (.agg cs) d p) : p = [] ∧ ∃ v1 v2 v3 v4 v5 : Int, cs = #[.int k v1, .int k v2, .int k v3, .int k v4, .int k v5] ∧ (Lit.int k v1).wf = true ∧ (Lit.int k v2).wf = true ∧ (Lit.int k v3).wf = true ∧ (Lit.int k v4).wf = true ∧ (Lit.int k v5).wf = true := by
  obtain ⟨n, hn⟩ := h
  have hcs : (Value.agg cs).cells.toList = cs.toList := rfl
  rw [hcs] at hn
  obtain ⟨h1, h2⟩ := array_ints ht he hc hn
  refine ⟨h1, ?_⟩
  obtain ⟨l⟩ := cs
  match l, hC with
  | [c0, c1, c2, c3, c4], _ =>
    obtain ⟨v1, e1, w1⟩ := h2 0 (by decide)
    obtain ⟨v2, e2, w2⟩ := h2 1 (by decide)
    obtain ⟨v3, e3, w3⟩ := h2 2 (by decide)
    obtain ⟨v4, e4, w4⟩ := h2 3 (by decide)
    obtain ⟨v5, e5, w5⟩ := h2 4 (by decide)
    simp at e1 e2 e3 e4 e5
    subst e1 e2 e3 e4 e5
    exact ⟨v1, v2, v3, v4, v5, rfl, w1, w2, w3, w4, w5⟩
end
end Go.Proofs.Ytggdmchhnnjfiaa.Postt
