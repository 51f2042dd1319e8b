/-
  The last step of a row whose arguments may lie in memory: what the call leaves agrees with the old world below the old heap's size, so each argument reads as it read. Condition: the row reads no package-level variable.
-/
import Derived.Test.YtkbaponpebkpiaaRows
import Derived.Below
import Derived.ChangeSame
import Derived.ProofKit
import Derived.WideKeyArgs
import Derived.Deep.SlicePairs
import Derived.Test.YtkbaponpebkpiaaVs2
namespace Go.Proofs.Ytkbaponpebkpiaa.Postm
open Go.ChangeShapes Go.WideShapes Go.RowKit Go.Deep
open Sl Vs
section
variable {H : Type} {enc : TypeId × Value → H} {P : Program}
theorem trodAll_stays (hl : laidOutB P = true) {W W' : World} {sp : Nat → Bool} : ∀ {ts : List TypeId} {vs : List Value} {ds : List (DataW H)} {ps : List MemPlace},
    (∀ t ∈ ts, P.readableRec t = true ∧ t < P.types.size) → DataW.TrodAll enc P W 0 (fun _ => true) true ts vs ds ps → (∀ x ∈ ps, W.sameAt W' x) → (∀ x ∈ ps, sp x.block = true) → DataW.TrodAll enc P W' 0 sp true ts vs ds ps
  | [], _, _, _, _, h, _, _ => by
    obtain ⟨rfl, rfl, rfl⟩ := trodAll_nil h
    exact trodAll_mk0
  | t :: r, _, _, _, hT, h, hs, hp => by
    obtain ⟨v, vs1, d, ds1, a, b, rfl, rfl, rfl, h1, h2⟩ := trodAll_cons h
    have ht := hT t (List.mem_cons_self ..)
    exact ⟨a, b, WideElems.Trod_stays hl ht.1 ht.2 h1 (fun x hx => hs x (List.mem_append_left _ hx)) (fun x hx => hp x (List.mem_append_left _ hx)),
      trodAll_stays hl (fun u hu => hT u (List.mem_cons_of_mem _ hu)) h2 (fun x hx => hs x (List.mem_append_right _ hx)) (fun x hx => hp x (List.mem_append_right _ hx)), rfl⟩
theorem post_mem {f : Func} {s : ChangeSpec} {apart fresh handsOn again : Bool} {W W' : World} {args : Array Value} {v : Value} {ds gs : List (DataW H)} {before : List MemPlace}
    (hl : laidOutB P = true) (hT : ∀ t ∈ f.params.toList, P.readableRec t = true ∧ t < P.types.size) (hvs : s.vars = [])
    (hW : DataW.Whole enc P f.params.toList s.vars apart W args.toList ds gs before) (hargs : (s.fn H (ds ++ gs)).args = ds)
    (hr : ∀ (b : Nat) (sp : Nat → Bool) (hd : Bool), DataW.TrodAll enc P W' b sp hd f.resultTypes.toList (v.resultList f.resultTypes.size) (s.fn H (ds ++ gs)).results [])
    (hv : ∀ sp : Nat → Bool, DataW.TrodVars enc P W' sp s.vars (s.fn H (ds ++ gs)).vars [])
    (hb : Below W.heap.size W W')
    (hk : ∀ (j : Nat) (t : TypeId) (r : Value), f.resultTypes[j]? = some t → (v.resultList f.resultTypes.size)[j]? = some r → Value.okWide P W' .any 0 t r) :
    s.post enc P f apart fresh handsOn again W args v W' := by
  have hW2 := hW
  have hlt : ∀ p ∈ before, p.block < W.heap.size := fun p hp => hW.lt p hp
  obtain ⟨p, q, hA, hV, hps, hz, hn⟩ := hW
  have hq : q = [] := by
    rw [hvs] at hV
    exact (trodVars_none hV).2
  subst hq
  rw [List.append_nil] at hps
  subst hps
  have again' : ∀ sp : Nat → Bool, (∀ x ∈ before, sp x.block = true) → DataW.TrodAll enc P W' 0 sp true f.params.toList args.toList (s.fn H (ds ++ gs)).args before := by
    intro sp hsp
    rw [hargs]
    exact trodAll_stays hl hT hA (fun x hx => hb.same (hlt x hx)) hsp
  refine ⟨ds, gs, before, [], before, [], hW2, hr _ _ _, again' _ (fun x hx => by simpa using hlt x hx), hv _, hb.frame _, fun _ => ⟨hk, _, _, ([] ++ before) ++ [], ⟨[] ++ before, [], trodAll_append (again' _ (fun _ _ => rfl)) (hr _ _ _), hv _, rfl, ?_, ?_⟩, ?_⟩⟩
  · intro b off hp
    have hin : MemPlace.cell b off ∈ before := by simpa using hp
    rw [hb.frozen (hlt _ hin)]
    exact hz b off hin
  · intro ha
    simpa using hn ha
  · intro x hx _
    simpa using hx
/-- A slice of pairs of integers as an argument: its cells, and that they fit. -/
theorem open_pairs {t e : TypeId} {f0 f1 : Field} {W : World} {v : Value} {d : DataW H} {p : List MemPlace} (ht : P.underlying t = some (.slice e)) (he : P.underlying e = some (.struct #[f0, f1])) (ce : P.cellsOf e = 2) (o0 : f0.offset = 0) (o1 : f1.offset = 1)
    (c0 : P.cellsOf f0.type = 1) (c1 : P.cellsOf f1.type = 1) (i0 : P.underlying f0.type = some (.int .i64)) (i1 : P.underlying f1.type = some (.int .i64)) (hv : v.cells = #[v]) (h : DataW.Trod enc P W 0 (fun _ => true) true t v d p) :
    ∃ (q : Option Addr) (c : Nat) (L : Spans), v = .slice q L.length c ∧ Reads W q (flat enc2 L) ∧ FitL L := by
  obtain ⟨n, hn⟩ := h
  rw [hv] at hn
  rcases open_slice_pairs ht he ce o0 o1 c0 c1 hn with ⟨h1, _⟩ | ⟨a, len, cap, m, k, V0, V1, D0, D1, P0, P1, h1, _, hlc, _, hm, _, hcell⟩
  · have e1 : v = .slice none 0 0 := by simpa using h1
    exact ⟨none, 0, [], e1, reads_nil _ _, fun s hs => by simp at hs⟩
  · have e1 : v = .slice (some a) len cap := by simpa using h1
    rw [if_pos rfl] at hm
    have each : ∀ i, i < len → ∃ s : Int × Int, W.cell? (a.add (i * 2)) = some (.int .i64 s.1) ∧ W.cell? (a.add (i * 2 + 1)) = some (.int .i64 s.2) ∧ (Lit.int .i64 s.1).wf = true ∧ (Lit.int .i64 s.2).wf = true := by
      intro i hi
      obtain ⟨x0, x1, t0, t1⟩ := hcell i (by omega)
      obtain ⟨z0, e0, _, w0⟩ := DataW.trod_int i0 t0
      obtain ⟨z1, e1, _, w1⟩ := DataW.trod_int i1 t1
      have e0' : V0 i = .int .i64 z0 := by simpa using e0
      have e1' : V1 i = .int .i64 z1 := by simpa using e1
      exact ⟨(z0, z1), by rw [x0, e0'], by rw [x1, e1'], w0, w1⟩
    obtain ⟨S, hS⟩ := choose_lt each
    have hL : ((List.range len).map S).length = len := by simp
    refine ⟨some a, cap, (List.range len).map S, by rw [hL]; exact e1, ?_, ?_⟩
    · intro j u hj
      refine ⟨a, rfl, ?_⟩
      have hjl : j < len * 2 := by
        have := (List.getElem?_eq_some_iff.1 hj).1
        rw [flat_length (enc := enc2) (size := 2) (fun _ => rfl), hL] at this
        exact this
      have hd : j / 2 < len := by omega
      have e3 : j = j / 2 * 2 + j % 2 := by omega
      have hget : ((List.range len).map S)[j / 2]! = S (j / 2) := by
        rw [getElem!_pos _ (j / 2) (by rw [hL]; exact hd)]
        simp
      rw [e3, flat_cell (enc := enc2) (size := 2) (fun _ => rfl) _ (j / 2) (j % 2) (by rw [hL]; exact hd) (by omega), hget] at hj
      rw [e3]
      have hs := hS (j / 2) hd
      rcases Nat.mod_two_eq_zero_or_one j with h2 | h2
      · rw [h2] at hj ⊢
        have : u = .int .i64 (S (j / 2)).1 := by simpa [enc2] using hj.symm
        rw [this, Nat.add_zero]
        exact hs.1
      · rw [h2] at hj ⊢
        have : u = .int .i64 (S (j / 2)).2 := by simpa [enc2] using hj.symm
        rw [this]
        exact hs.2.1
    · intro s hs
      obtain ⟨i, hi, rfl⟩ := List.mem_map.1 hs
      have hi' : i < len := List.mem_range.1 hi
      obtain ⟨_, _, w0, w1⟩ := hS i hi'
      simp [Lit.wf, IntKind.min, IntKind.max, IntKind.bits, IntKind.signed] at w0 w1
      exact ⟨by omega, by omega⟩
end
end Go.Proofs.Ytkbaponpebkpiaa.Postm
