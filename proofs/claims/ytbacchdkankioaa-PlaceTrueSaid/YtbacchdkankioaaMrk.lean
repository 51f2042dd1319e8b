/-
  Growing way by way, each one to its ends before the next one: what has been collected. No program.
  Routes as the keys of a map. Condition: numbers of 64 bits.
  A map whose keys are routes, told by a list of routes. No program's function.
  Growing way by way, each one to its ends before the next one, and stopping at the first that is too long or one too many; a map among what is read. No program.
-/
import Derived.Test.YtbacchdkankioaaMrt
import Derived.Test.YtbacchdkankioaaMp
import Derived.DeepKeys5
namespace Go.Proofs.Ytbacchdkankioaa.Rtd
open Go.ChangeShapes Go.WideShapes Go.ChangeAt Go.RowKit
open Arr Steady Sx Sw Sl Sb Sc Vs Gr Tk Tkh Tkl Rt Rtm Rtg Rtp Rtk
set_option linter.unusedVariables false
section
variable {G : List Sg} {f hi lo : Int}
/-- From some ways on: what was collected (L), and is now (K); whether one was too long. -/
structure Dfs (G : List Sg) (f hi lo : Int) (T : List Ro) (L K : List Ro) (d e : Bool) : Prop where
  sound : ∀ r ∈ K, r ∈ L ∨ Fin G f hi T lo r
  keeps : ∀ r ∈ L, r ∈ K
  deep : e = true → d = true ∨ Deep G f hi T
  dkeep : d = true → e = true
  full : e = false → (∀ r, Fin G f hi T lo r → r ∈ K) ∧ ¬ Deep G f hi T
theorem vis_stop {t r : Ro} (hs : Stop G f hi t) (h : Vis G f hi [t] r) : r = t := (vis_head h).elim id (fun k => absurd hs k.1)
theorem vis_none {r : Ro} (h : Vis G f hi [] r) : False := by
  induction h with
  | base hr => cases hr
  | step _ _ _ ih => exact ih
theorem vis_app {T U : List Ro} {r : Ro} : Vis G f hi (T ++ U) r ↔ Vis G f hi T r ∨ Vis G f hi U r := by
  constructor
  · intro h
    obtain ⟨t, ht, hv⟩ := vis_one h
    exact (List.mem_append.1 ht).imp (fun k => vis_of (fun r hr => by obtain rfl := List.mem_singleton.1 hr; exact .base k) hv) (fun k => vis_of (fun r hr => by obtain rfl := List.mem_singleton.1 hr; exact .base k) hv)
  · rintro (h | h)
    · exact vis_of (fun r hr => .base (List.mem_append_left _ hr)) h
    · exact vis_of (fun r hr => .base (List.mem_append_right _ hr)) h
theorem fin_app {T U : List Ro} {r : Ro} : Fin G f hi (T ++ U) lo r ↔ Fin G f hi T lo r ∨ Fin G f hi U lo r := by
  unfold Rt.Fin
  rw [vis_app]
  constructor
  · rintro ⟨h | h, k⟩
    · exact .inl ⟨h, k⟩
    · exact .inr ⟨h, k⟩
  · rintro (⟨h, k⟩ | ⟨h, k⟩)
    · exact ⟨.inl h, k⟩
    · exact ⟨.inr h, k⟩
theorem deep_app {T U : List Ro} : Deep G f hi (T ++ U) ↔ Deep G f hi T ∨ Deep G f hi U := by
  constructor
  · rintro ⟨r, h, k⟩
    exact (vis_app.1 h).imp (fun h => ⟨r, h, k⟩) (fun h => ⟨r, h, k⟩)
  · rintro (⟨r, h, k⟩ | ⟨r, h, k⟩)
    · exact ⟨r, vis_app.2 (.inl h), k⟩
    · exact ⟨r, vis_app.2 (.inr h), k⟩
/-- Ways in their order. -/
theorem asc_of : ∀ {L : List Ro}, (∀ r ∈ L, r.length ≤ 12) → ∃ Y, Asc Y ∧ ∀ r, r ∈ Y ↔ r ∈ L
  | [], _ => ⟨[], List.Pairwise.nil, fun r => Iff.rfl⟩
  | x :: L, h => by
    obtain ⟨Y, h1, h2⟩ := asc_of (L := L) (fun r hr => h r (List.mem_cons_of_mem _ hr))
    have h3 := asc_ins (x := x) (L := Y) (fun y hy => h y (List.mem_cons_of_mem _ ((h2 y).1 hy))) (h x List.mem_cons_self) h1
    refine ⟨ins ltB x Y, h3.1, fun r => ⟨fun hr => ?_, fun hr => ?_⟩⟩
    · rcases ins_sub ltB x Y r hr with e | k
      · subst e; exact List.mem_cons_self
      · exact List.mem_cons_of_mem _ ((h2 r).1 k)
    · rcases List.mem_cons.1 hr with e | k
      · subst e; exact h3.2
      · exact ins_keep ltB x Y r ((h2 r).2 k)
theorem nodup_len : ∀ {L K : List Ro}, L.Nodup → (∀ r ∈ L, r ∈ K) → L.length ≤ K.length := by
  intro L
  induction L with
  | nil => intro K _ _; exact Nat.zero_le _
  | cons x L ih =>
    intro K hL h
    obtain ⟨l1, l2⟩ := List.nodup_cons.1 hL
    have hx := h x List.mem_cons_self
    have := ih (K := K.erase x) l2 (fun r hr => (List.mem_erase_of_ne (fun (e : r = x) => l1 (by rw [← e]; exact hr))).2 (h r (List.mem_cons_of_mem _ hr)))
    rw [List.length_erase_of_mem hx] at this
    have := List.length_pos_of_mem hx
    rw [List.length_cons]
    omega
/-! ### What a set grows to, by what was collected -/
variable {X K : List Ro}
theorem few_of (h : Dfs G f hi lo X [] K false false) (hl : K.length ≤ 16) : ¬ (Deep G f hi X ∨ Many G f hi X lo) := by
  rintro (k | ⟨Y, k1, k2, k3⟩)
  · exact (h.full rfl).2 k
  · have := sub_len k1 (fun r hr => (h.full rfl).1 r (k3 r hr))
    omega
theorem dfs_none (h : Dfs G f hi lo X [] [] false false) (hb : ¬ (hi < lo ∨ lo < -f)) : growS G f hi X lo = (40, []) :=
  grow_eq (.inr (.inr (.inl ⟨hb, few_of h (Nat.zero_le _), fun r hr => (by have k := (h.full rfl).1 r hr; cases k), rfl⟩)))
theorem dfs_some {Y : List Ro} (h : Dfs G f hi lo X [] K false false) (hl : K.length ≤ 16) (h0 : K ≠ []) (hY : Asc Y) (hm : ∀ r, r ∈ Y ↔ r ∈ K) (hb : ¬ (hi < lo ∨ lo < -f)) : growS G f hi X lo = (0, Y) := by
  refine grow_eq (.inr (.inr (.inr ⟨hb, few_of h hl, ?_, rfl, hY, fun r => ⟨fun hr => ?_, fun hr => (hm r).2 ((h.full rfl).1 r hr)⟩⟩)))
  · obtain ⟨r, hr⟩ := List.exists_mem_of_ne_nil K h0
    exact ⟨r, (h.sound r hr).elim (fun e => by cases e) id⟩
  · exact (h.sound r ((hm r).1 hr)).elim (fun e => by cases e) id
end
end Go.Proofs.Ytbacchdkankioaa.Rtd
namespace Go.Proofs.Ytbacchdkankioaa.Rkey
open Go.ChangeShapes Go.WideShapes Go.ChangeAt Go.RowKit Go.Maps Go.WideAt
open Arr Steady Sx Sw Sl Sb Sc Sh Vs Gr Tk Tkh Tkl Rt Rtm Rtg Rtp Rtk Rts Mp
set_option linter.unusedVariables false
set_option linter.unusedSimpArgs false
set_option maxRecDepth 100000

theorem mapM_some {α β : Type} {f : α → Option β} {g : α → β} : ∀ {l : List α}, (∀ x ∈ l, f x = some (g x)) → l.mapM f = some (l.map g)
  | [], _ => rfl
  | x :: l, h => by
    rw [List.mapM_cons, h x List.mem_cons_self, mapM_some (fun y hy => h y (List.mem_cons_of_mem _ hy))]
    rfl
section
variable {P : Program} {t e : TypeId}
theorem lits_int (hu : P.underlying t = some (.int .i64)) {a : Int} (wa : (Lit.int .i64 a).wf = true) (m : Nat) : P.keyLits (m + 1) t [.int .i64 a] = some [.int .i64 a] := by
  unfold Program.keyLits
  simp [hu, wa]
theorem lits_arr {n : Nat} (hu : P.underlying t = some (.array n e)) (he : P.underlying e = some (.int .i64)) (ct : P.cellsOf t = n) (ce : P.cellsOf e = 1) (m : Nat) (L : List Int) (hL : L.length = n) (hw : ∀ a ∈ L, (Lit.int .i64 a).wf = true) :
    P.keyLits (m + 2) t (L.map (Value.int .i64)) = some ((List.range n).map fun i => [Lit.int .i64 (L.getD i 0)]).flatten := by
  unfold Program.keyLits
  simp only [hu]
  rw [if_pos (by rw [List.length_map, hL, ct])]
  rw [mapM_some (g := fun i => [Lit.int .i64 (L.getD i 0)]) (fun i hi => by
    have hi' : i < L.length := by rw [hL]; exact List.mem_range.1 hi
    have e1 : ((L.map (Value.int .i64)).drop (i * P.cellsOf e)).take (P.cellsOf e) = [.int .i64 (L.getD i 0)] := by
      rw [ce, Nat.mul_one, List.drop_eq_getElem_cons (by rw [List.length_map]; exact hi')]
      simp [List.getD_eq_getElem?_getD, hi']
    rw [e1]
    exact lits_int he (by
      have : L.getD i 0 = L[i] := by simp [List.getD_eq_getElem?_getD, hi']
      rw [this]
      exact hw _ (List.getElem_mem hi')) m)]
  rfl
end
theorem size_ex : ∃ m, Try.prog.types.size = m + 2 := ⟨Try.prog.types.size - 2, by kernel_rfl⟩
theorem key_type : Try.prog.keyType 92 = true := by kernel_rfl
/-- The law of such keys. -/
theorem law : Keyed Try.prog 92 := Keyed.of_law (deep_law_gate (by kernel_rfl) (by decide +kernel) (by decide +kernel) key_type (by kernel_rfl))
/-- A route's value, and what it reads as. -/
def rv (n : Int) (L : List Int) : Value := .agg (Value.int .i64 n :: L.map (Value.int .i64)).toArray
theorem key_ex {n : Int} {L : List Int} (hL : L.length = 12) (hn : (Lit.int .i64 n).wf = true) (hw : ∀ a ∈ L, (Lit.int .i64 a).wf = true) : ∃ kl, keyOf Try.prog 92 (rv n L) = some kl := by
  obtain ⟨m, hm⟩ := size_ex
  unfold keyOf
  simp only [Try.underlying92]
  rw [if_pos (by
    have h1 := key_type
    have h2 : (rv n L).formed Try.prog 92 = true := by
      unfold rv Value.formed
      simp only [Try.underlying92]
      have : Try.prog.cellsOf 92 = 13 := by kernel_rfl
      simp [this, hL]
    rw [h1, h2]; rfl), hm]
  have hc : (rv n L).cells.toList = Value.int .i64 n :: L.map (Value.int .i64) := by simp [rv, Value.cells]
  rw [hc]
  have c0 : Try.prog.cellsOf 92 = 13 := by kernel_rfl
  have c1 : Try.prog.cellsOf 3 = 1 := by kernel_rfl
  have c2 : Try.prog.cellsOf 90 = 12 := by kernel_rfl
  unfold Program.keyLits
  simp only [Try.underlying92]
  rw [if_pos ⟨by simp [hL, c0], by first | decide | (simp; done)⟩]
  have l1 := lits_int (P := Try.prog) Try.underlying3 hn (m + 1)
  have l2 := lits_arr (P := Try.prog) Try.underlying90 Try.underlying3 c2 c1 m L hL hw
  have t12 : (L.map (Value.int .i64)).take 12 = L.map (Value.int .i64) := List.take_of_length_le (by simp [hL])
  simp only [List.mapM_cons, List.mapM_nil, List.drop_zero, List.drop_succ_cons, c1, c2, List.take_succ_cons, List.take_zero, t12, l1, l2]
  exact ⟨_, rfl⟩
/-- Two values that read alike are one. -/
theorem key_inj {v v' : Value} {kl : Lit} (h : keyOf Try.prog 92 v = some kl) (h' : keyOf Try.prog 92 v' = some kl) : v = v' := law.inj h h'
end Go.Proofs.Ytbacchdkankioaa.Rkey
namespace Go.Proofs.Ytbacchdkankioaa.Rkd
open Go.ChangeShapes Go.WideShapes Go.ChangeAt Go.RowKit Go.Maps Go.WideAt
open Arr Steady Sx Sw Sl Sb Sc Sh Vs Gr Tk Tkh Tkl Rt Rtm Rtg Rtp Rtk Rts Mp Rkey
set_option linter.unusedVariables false
set_option linter.unusedSimpArgs false
set_option maxRecDepth 100000

/-- A route's value. -/
def rtv (r : Ro) : Value := .agg #[.int .i64 (r.length : Int), .int .i64 (pad r 0), .int .i64 (pad r 1), .int .i64 (pad r 2), .int .i64 (pad r 3), .int .i64 (pad r 4), .int .i64 (pad r 5), .int .i64 (pad r 6), .int .i64 (pad r 7), .int .i64 (pad r 8), .int .i64 (pad r 9), .int .i64 (pad r 10), .int .i64 (pad r 11)]
theorem rtv_rv (r : Ro) : rtv r = rv (r.length : Int) [pad r 0, pad r 1, pad r 2, pad r 3, pad r 4, pad r 5, pad r 6, pad r 7, pad r 8, pad r 9, pad r 10, pad r 11] := rfl
theorem rtv_inj {a b : Ro} (ha : a.length ≤ 12) (hb : b.length ≤ 12) (h : rtv a = rtv b) : a = b := by
  unfold rtv at h
  injection h with h
  have hl := congrArg Array.toList h
  simp only [List.cons.injEq, Value.int.injEq, true_and, and_true] at hl
  obtain ⟨e, e0, e1, e2, e3, e4, e5, e6, e7, e8, e9, e10, e11⟩ := hl
  have el : a.length = b.length := by omega
  refine List.ext_getElem el (fun i h1 h2 => ?_)
  have pa : pad a i = a[i] := by unfold pad; rw [if_pos h1, getElem!_pos a i h1]
  have pb : pad b i = b[i] := by unfold pad; rw [if_pos h2, getElem!_pos b i h2]
  rw [← pa, ← pb]
  have hi : i < 12 := by omega
  rcases (show i = 0 ∨ i = 1 ∨ i = 2 ∨ i = 3 ∨ i = 4 ∨ i = 5 ∨ i = 6 ∨ i = 7 ∨ i = 8 ∨ i = 9 ∨ i = 10 ∨ i = 11 by omega) with rfl | rfl | rfl | rfl | rfl | rfl | rfl | rfl | rfl | rfl | rfl | rfl <;> assumption
/-- What a route's value reads as: for a route of a track. -/
theorem key_of {G : List Sg} {r : Ro} (hr : RtOk G r) (hn : G.length ≤ 140737488355328) : ∃ kl, keyOf Try.prog 92 (rtv r) = some kl := by
  rw [rtv_rv]
  have wfi : ∀ a : Int, 0 ≤ a → a ≤ 140737488355328 → (Lit.int .i64 a).wf = true := fun a h1 h2 => by simp [Lit.wf, IntKind.min, IntKind.max, IntKind.bits, IntKind.signed]; omega
  have hp : ∀ i, 0 ≤ pad r i ∧ pad r i ≤ 140737488355328 := fun i => by
    unfold pad
    by_cases h : i < r.length
    · rw [if_pos h]; have := hr.each i h; omega
    · rw [if_neg h]; omega
  refine key_ex rfl (wfi _ (by omega) (by have := hr.few; omega)) (fun a ha => ?_)
  simp only [List.mem_cons, List.not_mem_nil, or_false] at ha
  rcases ha with rfl | rfl | rfl | rfl | rfl | rfl | rfl | rfl | rfl | rfl | rfl | rfl <;> exact wfi _ (hp _).1 (hp _).2
section
variable {H : Type}
/-- The map's keys are these routes, each once. -/
structure Keys (D : DataW H) (L : List Ro) : Prop where
  tidy : Tidy D
  few : ∀ r ∈ L, r.length ≤ 12
  has : ∀ r ∈ L, ∃ kl, keyOf Try.prog 92 (rtv r) = some kl ∧ Maps.has D kl = true
  only : ∀ kl, Maps.has D kl = true → ∃ r ∈ L, keyOf Try.prog 92 (rtv r) = some kl
  once : L.Nodup
  size : Maps.size D = L.length
theorem keys_nil : Keys (.map [] : DataW H) [] := ⟨tidy_empty, fun r hr => (by cases hr), fun r hr => (by cases hr), fun kl h => (by cases h), List.nodup_nil, rfl⟩
theorem keys_mem {D : DataW H} {L : List Ro} (h : Keys D L) {r : Ro} (hr : r.length ≤ 12) {kl : Lit} (hk : keyOf Try.prog 92 (rtv r) = some kl) : Maps.has D kl = true ↔ r ∈ L := by
  constructor
  · intro h1
    obtain ⟨s, hs, hk2⟩ := h.only kl h1
    rw [← rtv_inj (h.few s hs) hr (key_inj hk2 hk)]
    exact hs
  · intro h1
    obtain ⟨kl', hk', h2⟩ := h.has r h1
    rw [hk] at hk'
    cases hk'
    exact h2
/-- A key is put. -/
theorem keys_put {D : DataW H} {L : List Ro} (h : Keys D L) {r : Ro} (hr : r.length ≤ 12) {kl : Lit} (hk : keyOf Try.prog 92 (rtv r) = some kl) (d : DataW H) : ∃ K, Keys (D.put kl d) K ∧ ∀ x, x ∈ K ↔ x ∈ L ∨ x = r := by
  have hkey : IsKeyLit kl := law.key hk
  have same : ∀ kl', Maps.has (D.put kl d) kl' = true ↔ kl' = kl ∨ Maps.has D kl' = true := fun kl' => by
    by_cases e : kl' = kl
    · subst e
      exact ⟨fun _ => .inl rfl, fun _ => has_put_same h.tidy.isMap hkey d⟩
    · rw [has_put_other e]
      exact ⟨.inr, fun k => k.elim (fun k => absurd k e) id⟩
  by_cases hm : r ∈ L
  · refine ⟨L, ⟨h.tidy.put hkey d, h.few, fun x hx => ?_, fun kl' h1 => ?_, h.once, ?_⟩, fun x => ⟨.inl, fun k => k.elim id (fun e => by rw [e]; exact hm)⟩⟩
    · obtain ⟨kl', h1, h2⟩ := h.has x hx
      exact ⟨kl', h1, (same kl').2 (.inr h2)⟩
    · rcases (same kl').1 h1 with e | h2
      · subst e; exact ⟨r, hm, hk⟩
      · exact h.only kl' h2
    · rw [size_put h.tidy, if_pos ((keys_mem h hr hk).2 hm)]; exact h.size
  · refine ⟨L ++ [r], ⟨h.tidy.put hkey d, fun x hx => ?_, fun x hx => ?_, fun kl' h1 => ?_, ?_, ?_⟩, fun x => by simp⟩
    · rcases List.mem_append.1 hx with h1 | h1
      · exact h.few x h1
      · obtain rfl := List.mem_singleton.1 h1; exact hr
    · rcases List.mem_append.1 hx with h1 | h1
      · obtain ⟨kl', h2, h3⟩ := h.has x h1
        exact ⟨kl', h2, (same kl').2 (.inr h3)⟩
      · obtain rfl := List.mem_singleton.1 h1
        exact ⟨kl, hk, (same kl).2 (.inl rfl)⟩
    · rcases (same kl').1 h1 with e | h2
      · subst e; exact ⟨r, List.mem_append_right _ (List.mem_singleton.2 rfl), hk⟩
      · obtain ⟨s, hs, k2⟩ := h.only kl' h2
        exact ⟨s, List.mem_append_left _ hs, k2⟩
    · exact List.nodup_append.2 ⟨h.once, List.pairwise_singleton _ _, fun a ha b hb e => hm (by obtain rfl := List.mem_singleton.1 hb; rw [← e]; exact ha)⟩
    · have hn : ¬ Maps.has D kl = true := fun k => hm ((keys_mem h hr hk).1 k)
      rw [size_put h.tidy, if_neg hn, h.size, List.length_append]
      rfl
/-- What has come of a map that is gone through: these, each once; left: what is still to come. -/
structure Come (L O : List Ro) (left : Lit → Bool) : Prop where
  sub : ∀ r ∈ O, r ∈ L
  once : O.Nodup
  rest : ∀ r kl, r ∈ L → keyOf Try.prog 92 (rtv r) = some kl → (left kl = true ↔ r ∉ O)
  only : ∀ kl, left kl = true → ∃ r ∈ L, keyOf Try.prog 92 (rtv r) = some kl
theorem come_start {D : DataW H} {L : List Ro} (h : Keys D L) : Come L [] (Maps.has D) :=
  ⟨fun r hr => (by cases hr), List.nodup_nil, fun r kl hr hk => ⟨fun _ k => (by cases k), fun _ => (keys_mem h (h.few r hr) hk).2 hr⟩, h.only⟩
theorem come_next {D : DataW H} {L O : List Ro} {left : Lit → Bool} (hD : Keys D L) (h : Come L O left) {v : Value} {kl : Lit} (hk : keyOf Try.prog 92 v = some kl) (hl : left kl = true) : ∃ r ∈ L, v = rtv r ∧ r ∉ O ∧ Come L (O ++ [r]) (fun z => left z && !z.sameKey kl) := by
  obtain ⟨r, hr, hk2⟩ := h.only kl hl
  have hno := (h.rest r kl hr hk2).1 hl
  refine ⟨r, hr, key_inj hk hk2, hno, ⟨fun x hx => ?_, ?_, fun x kl' hx hkx => ?_, fun kl' h1 => ?_⟩⟩
  · rcases List.mem_append.1 hx with h1 | h1
    · exact h.sub x h1
    · obtain rfl := List.mem_singleton.1 h1; exact hr
  · exact List.nodup_append.2 ⟨h.once, List.pairwise_singleton _ _, fun a ha b hb e => hno (by obtain rfl := List.mem_singleton.1 hb; rw [← e]; exact ha)⟩
  · have h1 := h.rest x kl' hx hkx
    have hkey : IsKeyLit kl := law.key hk2
    by_cases e : kl' = kl
    · subst e
      have : x = r := rtv_inj (hD.few x hx) (hD.few r hr) (key_inj hkx hk2)
      subst this
      have hs : kl'.sameKey kl' = true := (sameKey_iff hkey).2 rfl
      simp [hs]
    · have hs : kl'.sameKey kl = false := sameKey_ne e
      have hx' : x ≠ r := fun e2 => e (by subst e2; rw [hk2] at hkx; cases hkx; rfl)
      simp only [hs, Bool.not_false, Bool.and_true, List.mem_append, List.mem_singleton, not_or]
      rw [h1]
      exact ⟨fun k => ⟨k, hx'⟩, fun k => k.1⟩
  · simp only [Bool.and_eq_true] at h1
    exact h.only kl' h1.1
theorem come_end {D : DataW H} {L O : List Ro} {left : Lit → Bool} (hD : Keys D L) (h : Come L O left) (hl : ∀ kl, left kl = false) : ∀ r, r ∈ O ↔ r ∈ L := fun r => ⟨h.sub r, fun hr => by
  obtain ⟨kl, hk, _⟩ := hD.has r hr
  have h1 := h.rest r kl hr hk
  rw [hl kl] at h1
  exact Classical.byContradiction fun hn => by have := h1.2 hn; cases this⟩
end
end Go.Proofs.Ytbacchdkankioaa.Rkd
namespace Go.Proofs.Ytbacchdkankioaa.Rte
open Go.ChangeShapes Go.WideShapes Go.ChangeAt Go.RowKit Go.Maps Go.WideAt
open Arr Steady Sx Sw Sl Sb Sc Sh Vs Gr Tk Tkh Tkl Rt Rtm Rtg Rtp Rtk Rts Mp Rkey Rkd Rtd
set_option linter.unusedVariables false
section
variable {G : List Sg} {f hi lo : Int}
/-- From the ways T on: what was collected (K), and is now (M); whether it may go on. -/
structure Ds (G : List Sg) (f hi lo : Int) (T K M : List Ro) (ok : Bool) : Prop where
  sound : ∀ r ∈ M, r ∈ K ∨ Fin G f hi T lo r
  keeps : ∀ r ∈ K, r ∈ M
  yes : ok = true → (∀ r, Fin G f hi T lo r → r ∈ M) ∧ ¬ Deep G f hi T ∧ M.length ≤ 16
  no : ok = false → Deep G f hi T ∨ 16 < M.length
theorem ds_nil {K : List Ro} (h : K.length ≤ 16) : Ds G f hi lo [] K K true :=
  ⟨fun r hr => .inl hr, fun r hr => hr, fun _ => ⟨fun r hr => (vis_none hr.1).elim, fun ⟨r, h, _⟩ => vis_none h, h⟩, fun h => by cases h⟩
theorem ds_put {t : Ro} {K M : List Ro} (hs : Stop G f hi t) (hl : lo ≤ endR G f t) (hM : ∀ r, r ∈ M ↔ r ∈ K ∨ r = t) : Ds G f hi lo [t] K M (decide (M.length ≤ 16)) :=
  ⟨fun r hr => ((hM r).1 hr).imp id (fun e => by subst e; exact ⟨.base (List.mem_singleton.2 rfl), hs, hl⟩), fun r hr => (hM r).2 (.inl hr),
    fun h => ⟨fun r hr => (hM r).2 (.inr (vis_stop hs hr.1)), fun ⟨r, h1, h2, _⟩ => h2 (vis_stop hs h1 ▸ hs), of_decide_eq_true h⟩, fun h => .inr (by have := of_decide_eq_false h; omega)⟩
theorem ds_out {t : Ro} {K : List Ro} (hs : Stop G f hi t) (hl : ¬ lo ≤ endR G f t) : Ds G f hi lo [t] K K (decide (K.length ≤ 16)) :=
  ⟨fun r hr => .inl hr, fun r hr => hr, fun h => ⟨fun r hr => absurd (vis_stop hs hr.1 ▸ hr.2.2) hl, fun ⟨r, h1, h2, _⟩ => h2 (vis_stop hs h1 ▸ hs), of_decide_eq_true h⟩, fun h => .inr (by have := of_decide_eq_false h; omega)⟩
theorem ds_deep {t : Ro} {K : List Ro} (hs : ¬ Stop G f hi t) (hl : 12 ≤ t.length) : Ds G f hi lo [t] K K false :=
  ⟨fun r hr => .inl hr, fun r hr => hr, fun h => (by cases h), fun _ => .inl ⟨t, .base (List.mem_singleton.2 rfl), hs, hl⟩⟩
theorem ds_app {T U K M N : List Ro} {b : Bool} (h : Ds G f hi lo T K M true) (k : Ds G f hi lo U M N b) : Ds G f hi lo (T ++ U) K N b := by
  obtain ⟨h1, h2, h3⟩ := h.yes rfl
  refine ⟨fun r hr => ?_, fun r hr => k.keeps r (h.keeps r hr), fun hb => ?_, fun hb => ?_⟩
  · rcases k.sound r hr with e | e
    · exact (h.sound r e).imp id (fun e => fin_app.2 (.inl e))
    · exact .inr (fin_app.2 (.inr e))
  · obtain ⟨k1, k2, k3⟩ := k.yes hb
    exact ⟨fun r hr => (fin_app.1 hr).elim (fun x => k.keeps r (h1 r x)) (k1 r), fun x => (deep_app.1 x).elim h2 k2, k3⟩
  · exact (k.no hb).imp (fun x => deep_app.2 (.inr x)) id
theorem ds_more {T U K M : List Ro} (h : Ds G f hi lo T K M false) : Ds G f hi lo (T ++ U) K M false :=
  ⟨fun r hr => (h.sound r hr).imp id (fun e => fin_app.2 (.inl e)), h.keeps, fun k => (by cases k), fun _ => (h.no rfl).imp (fun x => deep_app.2 (.inl x)) id⟩
/-- The ways that go on from t, by its first next ones. -/
def ons (t : Ro) (Y : List Int) : List Ro := Y.map (fun n => t ++ [n])
theorem ons_take {t : Ro} {Y : List Int} {i : Nat} (hi : i < Y.length) : ons t (Y.take (i + 1)) = ons t (Y.take i) ++ [t ++ [Y[i]!]] := by
  unfold ons
  rw [take_snoc Y i hi, List.map_append]
  rfl
theorem ons_split {t : Ro} {Y : List Int} (i : Nat) : ons t Y = ons t (Y.take i) ++ ons t (Y.drop i) := by unfold ons; rw [← List.map_append, List.take_append_drop]
theorem ds_step {t : Ro} {K M : List Ro} {b : Bool} (hs : ¬ Stop G f hi t) (hl : t.length < 12) (h : Ds G f hi lo (ons t (nxt G t)) K M b) : Ds G f hi lo [t] K M b := by
  have v1 : ∀ {r}, Vis G f hi (ons t (nxt G t)) r → Vis G f hi [t] r := fun {r} => vis_of (fun r hr => by
    obtain ⟨n, hn, rfl⟩ := List.mem_map.1 hr
    exact .step (.base (List.mem_singleton.2 rfl)) hs hn)
  have v2 : ∀ {r}, Vis G f hi [t] r → r = t ∨ Vis G f hi (ons t (nxt G t)) r := fun {r} k => by
    rcases vis_head k with e1 | ⟨_, n, hn, hv⟩
    · exact .inl e1
    · exact .inr (vis_of (fun r hr => by obtain rfl := List.mem_singleton.1 hr; exact .base (List.mem_map.2 ⟨n, hn, rfl⟩)) hv)
  refine ⟨fun r hr => (h.sound r hr).imp id (fun k => ⟨v1 k.1, k.2⟩), h.keeps, fun hb => ?_, fun hb => (h.no hb).imp (fun ⟨r, k1, k2⟩ => ⟨r, v1 k1, k2⟩) id⟩
  obtain ⟨h1, h2, h3⟩ := h.yes hb
  refine ⟨fun r hr => ?_, fun ⟨r, k1, k2, k3⟩ => ?_, h3⟩
  · rcases v2 hr.1 with e1 | k
    · exact absurd (e1 ▸ hr.2.1) hs
    · exact h1 r ⟨k, hr.2⟩
  · rcases v2 k1 with e1 | k
    · subst e1; omega
    · exact h2 ⟨r, k, k2, k3⟩
theorem ds_few {T K M : List Ro} {b : Bool} (h : Ds G f hi lo T K M b) (hb : b = true) : M.length ≤ 16 := (h.yes hb).2.2
/-! ### What a set grows to -/
variable {X M : List Ro}
theorem ds_no (h : Ds G f hi lo X [] M false) (h12 : ∀ r ∈ M, r.length ≤ 12) (hn : M.Nodup) (hb : ¬ (hi < lo ∨ lo < -f)) : growS G f hi X lo = (13, []) := by
  rcases h.no rfl with k | k
  · exact grow_eq (.inr (.inl ⟨hb, .inl k, rfl⟩))
  · obtain ⟨Y, h1, h2⟩ := asc_of h12
    have hlen := nodup_len hn (fun r hr => (h2 r).2 hr)
    exact grow_eq (.inr (.inl ⟨hb, .inr ⟨Y, h1, by omega, fun r hr => (h.sound r ((h2 r).1 hr)).elim (fun e => by cases e) id⟩, rfl⟩))
theorem ds_dfs (h : Ds G f hi lo X [] M true) : Dfs G f hi lo X [] M false false :=
  ⟨h.sound, h.keeps, (by intro k; cases k), (by intro k; cases k), fun _ => ⟨(h.yes rfl).1, (h.yes rfl).2.1⟩⟩
theorem ds_none (h : Ds G f hi lo X [] [] true) (hb : ¬ (hi < lo ∨ lo < -f)) : growS G f hi X lo = (40, []) := dfs_none (ds_dfs h) hb
theorem ds_some {Y : List Ro} (h : Ds G f hi lo X [] M true) (h0 : M ≠ []) (hY : Asc Y) (hm : ∀ r, r ∈ Y ↔ r ∈ M) (hb : ¬ (hi < lo ∨ lo < -f)) : growS G f hi X lo = (0, Y) := dfs_some (ds_dfs h) (h.yes rfl).2.2 h0 hY hm hb
end
/-! ### What is read beside a map that turns -/
section
variable {H : Type} {P : Program} {k : TypeId} {Rd : Value → Option (DataW H × List MemPlace)} {b n : Nat} {D : DataW H} {w w' : World}
theorem but_row (ho : w.ownsMap P k Rd b n D) (h : But [b] w w') {g : Nat} {cs : Array Value} {t : TypeId} {fr : Nat × Nat} (hg : w.heap[g]? = some (.cells cs t fr)) : w'.heap[g]? = some (.cells cs t fr) := by
  obtain ⟨es, clock, hb, _⟩ := ho
  refine h.row hg (fun e => ?_)
  obtain rfl : g = b := by simpa using e
  rw [hb] at hg
  cases hg
theorem but_reads (ho : w.ownsMap P k Rd b n D) (h : But [b] w w') {p : Option Addr} {xs : List Value} (hr : Reads w p xs) : Reads w' p xs := by
  intro j u hj
  obtain ⟨a, rfl, hc⟩ := hr j u hj
  refine ⟨a, rfl, h.cell hc (fun e => ?_)⟩
  obtain ⟨es, clock, hb, _⟩ := ho
  obtain ⟨cs, t, fr, hx⟩ := cell_lt hc
  have e2 : (a.add j).block = b := by simpa using e
  rw [e2, hb] at hx
  cases hx
theorem but_oks (ho : w.ownsMap P k Rd b n D) (h : But [b] w w') {G : List Sg} (hG : OkS w G) : OkS w' G := fun s hs => ⟨but_reads ho h (hG s hs).p, but_reads ho h (hG s hs).x, (hG s hs).fewP, (hG s hs).fewX⟩
end
/-- The map's values: none but the empty struct. -/
def Rz {H : Type} : Value → Option (DataW H × List MemPlace)
  | .agg cs => if cs.size = 0 then some (.map [], []) else none
  | _ => none
theorem rz_unit {H : Type} : (Rz (H := H)) (.agg #[]) = some (.map [], []) := rfl
theorem rz_inv {H : Type} {v : Value} {y : DataW H × List MemPlace} (h : Rz v = some y) : ∃ c : Unit, v = .agg #[] := by
  cases v with
  | agg cs =>
    unfold Rz at h
    by_cases e : cs.size = 0
    · exact ⟨(), by rw [Array.eq_empty_of_size_eq_zero e]⟩
    · simp [e] at h
  | _ => simp [Rz] at h
theorem pw_snoc {l : Nat} (h : l < 12) : 2 ^ (13 - l) = 2 * 2 ^ (13 - (l + 1)) := by
  rw [show 13 - l = (13 - (l + 1)) + 1 by omega, Nat.pow_succ]
  omega
end Go.Proofs.Ytbacchdkankioaa.Rte
