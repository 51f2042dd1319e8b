/-
  THE ENGINE, further: maps, and a first world that changes on the way ('the base'): what is written into memory that lay there before, by an operation or by a call. No program.
-/
import Derived.Test.YtbacchdkankioaaMsf
import Derived.Maps.OwnSet
import Derived.Maps.RangeWalk
import Derived.DeepKeys4
namespace Go.Proofs.Ytbacchdkankioaa.Mp
open Go.ChangeShapes Go.WideShapes Go.ChangeAt Go.RowKit Go.Maps Go.WideAt
open Arr Steady Sx Sw Sl Sb Sc Si Sj Sk Sh Sfn
set_option linter.unusedVariables false
set_option linter.unusedSimpArgs false

/-! ### What turns is told by a list of blocks -/
/-- All that w had is as it was, but for the blocks S. -/
structure But (S : List Nat) (w w' : World) : Prop where
  os : w'.os = w.os
  tape : w'.tape = w.tape
  output : w'.output = w.output
  size : w.heap.size ≤ w'.heap.size
  block : ∀ k, k < w.heap.size → k ∉ S → w'.heap[k]? = w.heap[k]?
theorem But.refl (S : List Nat) (w : World) : But S w w := ⟨rfl, rfl, rfl, Nat.le_refl _, fun _ _ _ => rfl⟩
theorem But.trans {S : List Nat} {a b c : World} (h : But S a b) (k : But S b c) : But S a c :=
  ⟨k.os.trans h.os, k.tape.trans h.tape, k.output.trans h.output, Nat.le_trans h.size k.size, fun i hi hn => (k.block i (Nat.lt_of_lt_of_le hi h.size) hn).trans (h.block i hi hn)⟩
theorem But.mono {S T : List Nat} {a b : World} (h : But S a b) (hs : S ⊆ T) : But T a b := ⟨h.os, h.tape, h.output, h.size, fun i hi hn => h.block i hi (fun hm => hn (hs hm))⟩
theorem But.of_below {S : List Nat} {a b : World} (h : Below a.heap.size a b) : But S a b := ⟨h.os, h.tape, h.output, h.size, fun i hi _ => h.block i hi⟩
theorem But.below {a b : World} (h : But [] a b) : Below a.heap.size a b := ⟨h.os, h.tape, h.output, h.size, fun i hi => h.block i hi (by simp)⟩
theorem But.of_grown {a b : World} {r : Nat} (h : a.grownBy b (some r)) : But [r] a b := ⟨h.os, h.tape, h.output, h.size, fun i hi hn => h.block i hi (fun e => hn (by simpa using e))⟩
theorem But.of_grown0 {S : List Nat} {a b : World} (h : a.grownBy b none) : But S a b := ⟨h.os, h.tape, h.output, h.size, fun i hi hn => h.block i hi (by simp)⟩
/-- Blocks that are new since a don't matter to it. -/
theorem But.drop {S T : List Nat} {a b : World} (h : But (T ++ S) a b) (hT : ∀ k ∈ T, a.heap.size ≤ k) : But S a b := ⟨h.os, h.tape, h.output, h.size, fun i hi hn => h.block i hi (fun hm => (List.mem_append.1 hm).elim (fun k => by have := hT i k; omega) hn)⟩
theorem But.row {S : List Nat} {w w' : World} (h : But S w w') {g : Nat} {o : Obj} (hg : w.heap[g]? = some o) (hn : g ∉ S) : w'.heap[g]? = some o := (h.block g (Array.getElem?_eq_some_iff.1 hg).1 hn).trans hg
theorem cell_lt {w : World} {a : Addr} {v : Value} (h : w.cell? a = some v) : ∃ cs t fr, w.heap[a.block]? = some (.cells cs t fr) := by
  unfold World.cell? at h
  split at h
  · rename_i cs t fr hb
    exact ⟨_, _, _, hb⟩
  · cases h
theorem But.cell {S : List Nat} {w w' : World} (h : But S w w') {a : Addr} {v : Value} (hc : w.cell? a = some v) (hn : a.block ∉ S) : w'.cell? a = some v := by
  obtain ⟨cs, t, fr, hb⟩ := cell_lt hc
  have hb' := h.row hb hn
  unfold World.cell? at hc ⊢
  rw [hb'] 
  rw [hb] at hc
  exact hc
/-- What is read where cells lie isn't touched where none of the blocks that turn is the one read. -/
theorem But.reads {S : List Nat} {w w' : World} {p : Option Addr} {xs : List Value} (h : But S w w') (hr : Reads w p xs) (hn : ∀ a, p = some a → a.block ∉ S) : Reads w' p xs := by
  intro j u hj
  obtain ⟨a, rfl, hc⟩ := hr j u hj
  exact ⟨a, rfl, h.cell hc (by have := hn a rfl; unfold Addr.add; split <;> exact this)⟩
/-! ### Rebasing -/
section
variable {P : Program} {ops : Array Oper} {Q : Exit → Act → World → Prop} {rest : List Oper} {o : Oper} {a : Act} {w0 : World} {R : List Rw} {l : List Oper} {c x y : Code} {e : Exit}
/-- From here on the world that stands here is the first one. -/
theorem wl_base (h : ∀ w, Env w0 w R → Wl P ops Q l a w []) : Wl P ops Q l a w0 R := ⟨fun w hE => (h w hE).run w (Env.nil w)⟩
theorem wc_base (h : ∀ w, Env w0 w R → Wc P c Q a w []) : Wc P c Q a w0 R := ⟨fun w hE => (h w hE).run w (Env.nil w)⟩
/-- A call that turns what lay there. -/
theorem wl_call_base {ι : Type} (f : FuncId) (args : Array Value) (v : ι → Value) (φ : ι → World → Prop) (hw : Region.wanted o (yielded ops a.tmps) = true) (hr : ∀ w, (execOp a.eval o).run P w = .ok (.enter f args) w)
    (hc : ∀ w, Env w0 w R → Calls P f args w fun e w' => ∃ j, φ j w' ∧ e = .returned (v j)) (h : ∀ j w, φ j w → Wl P ops Q rest (a.put o.dst (v j)) w []) : Wl P ops Q (o :: rest) a w0 R :=
  wl_upon hw (fun w hE => by
    rw [hr w]
    refine (hc w hE).mono ?_
    rintro e w' ⟨j, hj, rfl⟩
    exact (h j w' hj).run w' (Env.nil w'))
/-! ### Loops and cuts whose first world changes -/
/-- Ways that meet, each with a world of its own. -/
def MeetB {ι : Type} (F : ι → Act) (φ : ι → World → Prop) : Act → World → Prop := fun a w => ∃ j, φ j w ∧ a = F j
theorem we_meetb {ι : Type} {F : ι → Act} {φ : ι → World → Prop} (j : ι) (hφ : ∀ w, Env w0 w R → φ j w) (ha : a = F j) : We (Exit.then (MeetB F φ) Q) .normal a w0 R := ⟨fun w hE => ⟨j, hφ w hE, ha⟩⟩
theorem wc_loopb {ι : Type} (F : ι → Act) (φ : ι → World → Prop) (μ : ι → Nat) (j : ι) (hφ : ∀ w, Env w0 w R → φ j w) (ha : a = F j)
    (round : ∀ i w, φ i w → Wc P c (Exit.then (MeetB F (fun k w => φ k w ∧ μ k < μ i)) Q) (F i) w []) : Wc P (.loop c) Q a w0 R := by
  refine ⟨fun w hE => ?_⟩
  intro b k cs
  have key : ∀ n i w, μ i = n → φ i w → ∃ e a' w', Q e a' w' ∧ Arrives P (lone (b.at (F i) (.code c :: .inLoop c :: k)) cs w) b k cs e a' w' := by
    intro n
    induction n using Nat.strongRecOn with
    | _ n ih =>
      intro i w hn hi
      obtain ⟨e, a₁, w₁, hq, harr⟩ := (round i w hi).run w (Env.nil w) b (.inLoop c :: k) cs
      cases e with
      | normal =>
        obtain ⟨i₁, ⟨hi₁, hlt⟩, rfl⟩ := (hq : MeetB F (fun k w => φ k w ∧ μ k < μ i) a₁ w₁)
        obtain ⟨e₂, a₂, w₂, hq₂, harr₂⟩ := ih (μ i₁) (hn ▸ hlt) i₁ w₁ rfl hi₁
        exact ⟨e₂, a₂, w₂, hq₂, .of_steps (Steps.trans harr (.one step_inLoop)) harr₂⟩
      | exit id => exact ⟨_, a₁, w₁, hq, .pass (x := .inLoop c) rfl (fun _ _ => .inl (by simp)) harr⟩
      | goto l => exact ⟨_, a₁, w₁, hq, .pass (x := .inLoop c) rfl (fun _ _ => .inl (by simp)) harr⟩
      | ret => exact ⟨_, a₁, w₁, hq, .pass (x := .inLoop c) rfl (fun _ _ => .inl (by simp)) harr⟩
      | panic ch => exact ⟨_, a₁, w₁, hq, .pass (x := .inLoop c) rfl (fun _ _ => .inl (by simp)) harr⟩
      | outgrown => exact ⟨_, a₁, w₁, hq, .pass (x := .inLoop c) rfl (fun _ _ => .inl (by simp)) harr⟩
  obtain ⟨e, a', w', hq, harr⟩ := key _ j w rfl (hφ w hE)
  subst ha
  exact ⟨e, a', w', hq, .of_steps (.one step_loop) harr⟩
end
/-! ### Stores into what lay there -/
section
variable {P : Program} {ops : Array Oper} {Q : Exit → Act → World → Prop} {rest : List Oper} {o : Oper} {a : Act} {w0 : World}
theorem But.setRow {w : World} {g : Nat} {cs : Array Value} : But [g] w (w.setRow g cs) := ⟨rfl, rfl, rfl, by simp [World.setRow], fun k _ hk => setRow_other w g k cs (fun e => hk (by simp [e]))⟩
theorem row_setRow {w : World} {g : Nat} {cs cs' : Array Value} {t : TypeId} (h : w.heap[g]? = some (.cells cs t (0, 0))) : (w.setRow g cs').heap[g]? = some (.cells cs' t (0, 0)) := by
  simp only [World.setRow]
  rw [Array.getElem?_modify, if_pos rfl, h]
  rfl
end
/-! ### A region that draws its order, whose last operation hangs on all the others -/
section
variable {P : Program} {ops : Array Oper} {Γ : Type} {sz : Nat} {Q : Exit → Act → World → Prop} {val : Γ → Nat → Value} {rows : (Nat → Bool) → Γ → List Rw} {Fc : (Nat → Bool) → Γ → Prop} {a0 : Act} {w0 : World} {i m : Nat} {o : Oper} {r : List Oper}
/-- One ahead of the last: where it is done, the last one isn't yet. -/
structure SpN (P : Program) (ops : Array Oper) (sz : Nat) (Q : Exit → Act → World → Prop) {Γ : Type} (val : Γ → Nat → Value) (rows : (Nat → Bool) → Γ → List Rw) (Fc : (Nat → Bool) → Γ → Prop) (a0 : Act) (w0 : World) (m i : Nat) (o : Oper) : Prop where
  off : ∀ L γ a, Rd ops sz (val γ) L a0 a i o → L m = false
  sp : Sp P ops sz Q val rows Fc a0 w0 i o
structure SpsN (P : Program) (ops : Array Oper) (sz : Nat) (Q : Exit → Act → World → Prop) {Γ : Type} (val : Γ → Nat → Value) (rows : (Nat → Bool) → Γ → List Rw) (Fc : (Nat → Bool) → Γ → Prop) (a0 : Act) (w0 : World) (m : Nat) (l : List Oper) (i : Nat) : Prop where
  run : ∀ j o, l[j]? = some o → i + j ≠ m → SpN P ops sz Q val rows Fc a0 w0 m (i + j) o
end
/-! ### Maps -/
theorem grown_of {w w' : World} (h : Below w.heap.size w w') (row : Option Nat) : w.grownBy w' row := ⟨h.os, h.tape, h.output, h.size, fun i hi _ => h.block i hi⟩
section
variable {H : Type} {P : Program} {ops : Array Oper} {Q : Exit → Act → World → Prop} {rest : List Oper} {o : Oper} {a : Act} {w0 w : World} {R : List Rw} {k e t : TypeId} {Rd : Value → Option (DataW H × List MemPlace)} {b r n : Nat} {D : DataW H} {left : Lit → Bool} {cnt : Nat}
theorem own_env (h : w0.ownsMap P k Rd b n D) (hE : Env w0 w R) : w.ownsMap P k Rd b n D := h.kept (grown_of hE.below none) (by simp)
theorem ranges_env (h : w0.ranges P k Rd b r n D left cnt) (hE : Env w0 w R) : w.ranges P k Rd b r n D left cnt := h.kept (grown_of hE.below none) (by simp) (by simp)
theorem But.owns {S : List Nat} {w' : World} (h : But S w w') (ho : w.ownsMap P k Rd b n D) (hn : b ∉ S) : w'.ownsMap P k Rd b n D := by
  obtain ⟨es, clock, hb, r⟩ := ho
  exact ⟨es, clock, h.row hb hn, r⟩
theorem But.ranges {S : List Nat} {w' : World} (h : But S w w') (ho : w.ranges P k Rd b r n D left cnt) (hn : b ∉ S) (hr : r ∉ S) : w'.ranges P k Rd b r n D left cnt := by
  obtain ⟨es, clock, since, seen, c0, hb, F, h1, h2, hrr, h3⟩ := ho
  exact ⟨es, clock, since, seen, c0, h.row hb hn, F, h1, h2, h.row hrr hr, h3⟩
theorem wl_map_make (hop : o.op = .makeMap t none) (hg : o.guard = none) (h : ∀ w' b, w0.heap.size ≤ b → b < w'.heap.size → w'.ownsMap P k Rd b 0 (.map []) → But [] w0 w' → Wl P ops Q rest (a.put o.dst (.map (some b))) w' []) : Wl P ops Q (o :: rest) a w0 [] :=
  ⟨fun w hE => wpList_plain hg fun K' hK' => by
    unfold Oper.wp
    simp [execOp, hop, run_makeMap, Result.andThen]
    exact hK' _ _ ((h (w.alloc (.map #[] 0)) w.heap.size hE.below.size (World.ownsMap_made w P k Rd).lt (World.ownsMap_made w P k Rd) ((But.of_below hE.below).trans (But.of_grown0 (World.grownBy_alloc w _ none)))).run _ (Env.nil _))⟩
theorem wl_map_update {m x v : Operand} {key val : Value} {kl : Lit} {d : DataW H} {ps : List MemPlace} (hg : o.guard = none) (hop : o.op = .mapUpdate t m x v) (K : Keyed P k) (ht : P.underlying t = some (.map k e)) (hm : a.eval m = .map (some b)) (hx : a.eval x = key) (hv : a.eval v = val) (hkey : keyOf P k key = some kl) (hval : Rd val = some (d, ps))
    (hown : w0.ownsMap P k Rd b n D) (hn : n < maxLen) (h : ∀ w', But [b] w0 w' → w'.ownsMap P k Rd b (n + 1) (D.put kl d) → Wl P ops Q rest (a.put o.dst undef) w' []) : Wl P ops Q (o :: rest) a w0 [] :=
  ⟨fun w hE => wpList_mapUpdate_own w hg m x v t hop k e K ht Rd b n D hm (own_env hown hE) hn key val kl hx hv hkey d ps hval (fun w' h1 h2 => (h w' ((But.of_below hE.below).trans (But.of_grown h2)) h1).run w' (Env.nil w'))⟩
theorem wl_map_len {m : Operand} {ts : Array TypeId} (hg : o.guard = none) (hop : o.op = .call { callee := .builtin .len, args := #[m], argTypes := #[t] }) (ht : P.underlying t = some (.map k e)) (hm : a.eval m = .map (some b)) (hown : w0.ownsMap P k Rd b n D) (h : Wl P ops Q rest (a.put o.dst (.int .i64 (Maps.size D))) w0 R) : Wl P ops Q (o :: rest) a w0 R :=
  ⟨fun w hE => wpList_len_own w hg m t hop k e ht Rd b n D hm (own_env hown hE) (h.run w hE)⟩
theorem wl_map_range {m : Operand} (hg : o.guard = none) (hop : o.op = .range t m) (K : Keyed P k) (ht : P.underlying t = some (.map k e)) (hm : a.eval m = .map (some b)) (hown : w0.ownsMap P k Rd b n D)
    (h : ∀ w' r, w0.heap.size ≤ r → w'.ranges P k Rd b r n D (Maps.has D) (Maps.size D) → But [] w0 w' → Wl P ops Q rest (a.put o.dst (.pointer (some ⟨r, 0, none⟩))) w' []) : Wl P ops Q (o :: rest) a w0 [] :=
  ⟨fun w hE => wpList_range_own w hg m t hop k e K ht Rd b n D hm (own_env hown hE) (fun w' h1 h2 h3 => (h w' w.heap.size hE.below.size h1 ((But.of_below hE.below).trans (But.of_grown0 h2))).run w' (Env.nil w'))⟩
/-- The entry that has come reads so wherever the map and its iterator stand as they do. -/
def Cur (P : Program) (w : World) (b r : Nat) (v : Value) : Prop := ∀ w', w'.heap[b]? = w.heap[b]? → w'.heap[r]? = w.heap[r]? → (Instr.entry (.pointer (some ⟨r, 0, none⟩))).run P w' = .ok v w'
theorem cur_of {v : Value} (h : w.ranges P k Rd b r n D left cnt) (hen : (Instr.entry (.pointer (some ⟨r, 0, none⟩))).run P w = .ok v w) : Cur P w b r v := by
  obtain ⟨es, clock, since, seen, c0, hb, F, h1, h2, hr, h3⟩ := h
  intro w' e1 e2
  rw [hb] at e1
  rw [hr] at e2
  simp only [Instr.entry, getObj, Sem.run_bind, Sem.run, hr, hb, Result.andThen] at hen
  simp only [Instr.entry, getObj, Sem.run_bind, Sem.run, e1, e2, Result.andThen]
  cases hs : seen.back? with
  | none => simp only [hs] at hen; cases hen
  | some s =>
    simp only [hs, getObj, Sem.run_bind, Sem.run, hb, Result.andThen] at hen
    simp only [getObj, Sem.run_bind, Sem.run, e1, Result.andThen]
    by_cases hc : (clock != c0) = true
    · simp only [hc, if_true] at hen; cases hen
    · simp only [hc, if_false, Bool.false_eq_true] at hen ⊢
      cases hf : es.find? (fun x => x.born == s) with
      | none => simp only [hf] at hen; cases hen
      | some e' => simp only [hf] at hen ⊢; cases hen; rfl
theorem wl_map_entry {it : Operand} {v : Value} (hg : o.guard = none) (hop : o.op = .entry it) (hit : a.eval it = .pointer (some ⟨r, 0, none⟩)) (hc : Cur P w0 b r v) (hb : b < w0.heap.size) (hr : r < w0.heap.size) (h : Wl P ops Q rest (a.put o.dst v) w0 R) : Wl P ops Q (o :: rest) a w0 R :=
  ⟨fun w hE => wpList_plain hg fun K' hK' => by
    unfold Oper.wp
    simp [execOp, hop, hit, hc w (hE.below.block b hb) (hE.below.block r hr), Result.andThen]
    exact hK' _ _ (h.run w hE)⟩
end
end Go.Proofs.Ytbacchdkankioaa.Mp
