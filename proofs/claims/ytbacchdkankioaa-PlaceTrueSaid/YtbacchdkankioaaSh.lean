/-
  THE ENGINE, further: a region that draws its order and holds one call that hands back rows of its own (an open number of them): what is made is a letter, the values that hang on it are told by it. No program.
-/
import Derived.Test.YtbacchdkankioaaMsc
namespace Go.Proofs.Ytbacchdkankioaa.Sh
open Go.ChangeShapes Go.WideShapes Go.ChangeAt Go.RowKit
open Arr Steady Sx Sw Sl Sb Sc Si Sj Sk
set_option linter.unusedVariables false
set_option linter.unusedSimpArgs false
set_option maxRecDepth 100000

/-- Rows that hold a slice, wherever they stand. -/
def Held (N : List Rw) (p : Option Addr) (xs : List Value) : Prop := ∀ w0, SlAt w0 N p xs
theorem Held.mono {N R : List Rw} {p : Option Addr} {xs : List Value} (h : Held N p xs) (hs : N.Sublist R) : Held R p xs := fun w0 W hE => h w0 W (hE.sub hs)
theorem held_own {s : Own} {size n : Nat} {xs : List Value} {e : TypeId} (h : s.Has size n xs) : Held (s.rows e) s.ptr xs := fun w0 => sl_own (e := e) [] [] h (by simp)
theorem held_at {N R : List Rw} {p : Option Addr} {xs : List Value} {w0 W : World} (h : Held N p xs) (hs : N.Sublist R) (hE : Env w0 W R) : Reads W p xs := h w0 W (hE.sub hs)
theorem sl_held {N R : List Rw} {p : Option Addr} {xs : List Value} {w0 : World} (h : Held N p xs) (hs : N.Sublist R) : SlAt w0 R p xs := fun W hE => h w0 W (hE.sub hs)
section
variable {P : Program} {ops : Array Oper}
/-- What is asked of one operation in its frame. -/
def OpOk (P : Program) (ops : Array Oper) (w0 : World) (R : List Rw) (o : Oper) (a : Act) (v : Value) : Prop :=
  (Region.wanted o (yielded ops a.tmps) = true ∧ ∀ w, Env w0 w R → steadyUpon P w v ((execOp a.eval o).run P w)) ∨ (Region.wanted o (yielded ops a.tmps) = false ∧ v = undef)
/-- The call that hands back rows. -/
def OwnOk (P : Program) (ops : Array Oper) (f : FuncId) (args : Array Value) (o : Oper) (a : Act) : Prop :=
  Region.wanted o (yielded ops a.tmps) = true ∧ ∀ w, (execOp a.eval o).run P w = .ok (.enter f args) w
/-- The walk in the order of the text; T: what is asked. -/
def WgP (P : Program) (ops : Array Oper) (w0 : World) (R : List Rw) (T : Nat → Bool) (i0 : Nat) (f : FuncId) (args : Array Value) (vs : Nat → Value) (Fin : Act → Prop) : List Oper → Nat → Act → Prop
  | [], _, a => Fin a
  | o :: r, i, a => ((i = i0 → OwnOk P ops f args o a) ∧ (i ≠ i0 → T i = true → OpOk P ops w0 R o a (vs i))) ∧ WgP P ops w0 R T i0 f args vs Fin r (i + 1) (a.put o.dst (vs i))
structure Wg (P : Program) (ops : Array Oper) (w0 : World) (R : List Rw) (T : Nat → Bool) (i0 : Nat) (f : FuncId) (args : Array Value) (vs : Nat → Value) (Fin : Act → Prop) (l : List Oper) (i : Nat) (a : Act) : Prop where
  run : WgP P ops w0 R T i0 f args vs Fin l i a
theorem wg_at {w0 : World} {R : List Rw} {T : Nat → Bool} {i0 : Nat} {f : FuncId} {args : Array Value} {vs : Nat → Value} {Fin : Act → Prop} (a0 : Act) : ∀ (l : List Oper) (i : Nat), (∀ j, l[j]? = ops[i + j]?) → WgP P ops w0 R T i0 f args vs Fin l i (fr ops vs a0 i) →
    (∀ j o, l[j]? = some o → (i + j = i0 → OwnOk P ops f args o (fr ops vs a0 (i + j))) ∧ (i + j ≠ i0 → T (i + j) = true → OpOk P ops w0 R o (fr ops vs a0 (i + j)) (vs (i + j)))) ∧ Fin (fr ops vs a0 (i + l.length)) := by
  intro l
  induction l with
  | nil => intro i _ h; exact ⟨fun j o hj => by simp at hj, h⟩
  | cons o r ih =>
    intro i hl h
    obtain ⟨h1, h2⟩ := h
    have ho : ops[i]? = some o := by have := hl 0; simpa using this.symm
    have e : (fr ops vs a0 i).put o.dst (vs i) = fr ops vs a0 (i + 1) := by
      show _ = (fr ops vs a0 i).put (dstOf ops i) (vs i)
      rw [dst_of ho]
    rw [e] at h2
    obtain ⟨k1, k2⟩ := ih (i + 1) (fun j => by have := hl (j + 1); rw [show i + 1 + j = i + (j + 1) by omega]; simpa using this) h2
    refine ⟨fun j o' hj => ?_, ?_⟩
    · cases j with
      | zero =>
        obtain rfl : o = o' := by simpa using hj
        exact h1
      | succ j =>
        have := k1 j o' (by simpa using hj)
        rwa [show i + 1 + j = i + (j + 1) by omega] at this
    · rwa [show i + (o :: r).length = i + 1 + r.length by simp; omega]
end
section
variable {P : Program} {ops : Array Oper} {w0 : World} {R : List Rw} {T : Nat → Bool} {i0 : Nat} {f0 : FuncId} {args0 : Array Value} {vs : Nat → Value} {Fin : Act → Prop} {r : List Oper} {o : Oper} {i : Nat} {a : Act}
theorem wg_nil (h : Fin a) : Wg P ops w0 R T i0 f0 args0 vs Fin [] i a := ⟨h⟩
theorem wg_step (v : Value) (hk : vs i = v) (hi : decide (i = i0) = false) (h1 : OpOk P ops w0 R o a v) (h : Wg P ops w0 R T i0 f0 args0 vs Fin r (i + 1) (a.put o.dst v)) : Wg P ops w0 R T i0 f0 args0 vs Fin (o :: r) i a := by
  subst hk
  exact ⟨⟨fun e => absurd e (of_decide_eq_false hi), fun _ _ => h1⟩, h.run⟩
/-- Not asked. -/
theorem wg_pass (v : Value) (hk : vs i = v) (hi : decide (i = i0) = false) (hT : T i = false) (h : Wg P ops w0 R T i0 f0 args0 vs Fin r (i + 1) (a.put o.dst v)) : Wg P ops w0 R T i0 f0 args0 vs Fin (o :: r) i a := by
  subst hk
  exact ⟨⟨fun e => absurd e (of_decide_eq_false hi), fun _ e => by rw [hT] at e; cases e⟩, h.run⟩
theorem wg_own (v : Value) (hk : vs i = v) (hi : i = i0) (hw : Region.wanted o (yielded ops a.tmps) = true) (hr : ∀ w, (execOp a.eval o).run P w = .ok (.enter f0 args0) w) (h : Wg P ops w0 R T i0 f0 args0 vs Fin r (i + 1) (a.put o.dst v)) : Wg P ops w0 R T i0 f0 args0 vs Fin (o :: r) i a := by
  subst hk
  exact ⟨⟨fun _ => ⟨hw, hr⟩, fun e => absurd hi e⟩, h.run⟩
theorem wg_val (v : Value) (hk : vs i = v) (hi : decide (i = i0) = false) (hw : Region.wanted o (yielded ops a.tmps) = true) (h1 : ∀ w, (execOp a.eval o).run P w = .ok (.value v) w) (h : Wg P ops w0 R T i0 f0 args0 vs Fin r (i + 1) (a.put o.dst v)) : Wg P ops w0 R T i0 f0 args0 vs Fin (o :: r) i a :=
  wg_step v hk hi (.inl ⟨hw, fun w _ => by rw [h1 w]; exact ⟨rfl, rfl⟩⟩) h
theorem wg_read (v : Value) (hk : vs i = v) (hi : decide (i = i0) = false) (hw : Region.wanted o (yielded ops a.tmps) = true) (h1 : ∀ w, Env w0 w R → (execOp a.eval o).run P w = .ok (.value v) w) (h : Wg P ops w0 R T i0 f0 args0 vs Fin r (i + 1) (a.put o.dst v)) : Wg P ops w0 R T i0 f0 args0 vs Fin (o :: r) i a :=
  wg_step v hk hi (.inl ⟨hw, fun w hE => by rw [h1 w hE]; exact ⟨rfl, rfl⟩⟩) h
theorem wg_call_at (f : FuncId) (args : Array Value) (v : Value) (hk : vs i = v) (hi : decide (i = i0) = false) (hw : Region.wanted o (yielded ops a.tmps) = true) (hr : ∀ w, (execOp a.eval o).run P w = .ok (.enter f args) w)
    (hc : ∀ w, Env w0 w R → Calls P f args w fun e w' => e = .returned v ∧ Below w.heap.size w w') (h : Wg P ops w0 R T i0 f0 args0 vs Fin r (i + 1) (a.put o.dst v)) : Wg P ops w0 R T i0 f0 args0 vs Fin (o :: r) i a :=
  wg_step v hk hi (.inl ⟨hw, fun w hE => by rw [hr w]; exact ⟨rfl, hc w hE⟩⟩) h
theorem wg_load (ty : TypeId) (x : Operand) {g : Nat} {t : TypeId} {cs : Array Value} {fr : Nat × Nat} {d : TypeDesc} (hrow : RowAt w0 R g cs t fr) (hk : vs i = .agg cs) (hi0 : decide (i = i0) = false) (hw : Region.wanted o (yielded ops a.tmps) = true) (ho : o.op = .load ty x) (hx : a.eval x = .pointer (some ⟨g, 0, none⟩))
    (hu : P.underlying ty = some d) (hd : (match d with | .struct _ | .array _ _ => true | _ => false) = true) (hi : (P.info? ty).map (·.size) = some cs.size) (h : Wg P ops w0 R T i0 f0 args0 vs Fin r (i + 1) (a.put o.dst (.agg cs))) : Wg P ops w0 R T i0 f0 args0 vs Fin (o :: r) i a :=
  wg_read _ hk hi0 hw (fun w hE => load_row (hrow w hE) ho hx hu hd hi) h
theorem wg_cell (ty : TypeId) (x : Operand) {g off : Nat} (v : Value) {t : TypeId} {cs : Array Value} {fr : Nat × Nat} (hrow : RowAt w0 R g cs t fr) (hk : vs i = v) (hi0 : decide (i = i0) = false) (hw : Region.wanted o (yielded ops a.tmps) = true) (ho : o.op = .load ty x) (hx : a.eval x = .pointer (some ⟨g, off, none⟩))
    (hp : cs[off]? = some v) (hd : ∀ w, (isAgg ty).run P w = .ok false w) (h : Wg P ops w0 R T i0 f0 args0 vs Fin r (i + 1) (a.put o.dst v)) : Wg P ops w0 R T i0 f0 args0 vs Fin (o :: r) i a :=
  wg_read _ hk hi0 hw (fun w hE => load_cell (hrow w hE) hp ho hx hd) h
end
/-- The values: those that hang on what is made by a letter. -/
def gval (D : Nat → Bool) (v0 : Nat → Value) (z : Nat → Value) (k : Nat) : Value := bif D k then z k else v0 k
def grows {Γ : Type} (R : List Rw) (R' : Γ → List Rw) : Option Γ → List Rw
  | none => R
  | some g => R' g
theorem wc_draw_ghost {P : Program} {Γ : Type} {id : Nat} {l : List Oper} {Q : Exit → Act → World → Prop} {a : Act} {w0 : World} {R : List Rw} (i0 : Nat) (f : FuncId) (args : Array Value) (D : Nat → Bool) (v0 : Nat → Value) (V2 : Γ → Nat → Value) (N : Γ → List Rw) (R' : Γ → List Rw) (φ : Γ → Prop) (sz : Nat)
    (hm : P.follows .mixedOrders = true) (hz : a.tmps.size = sz) (hB : checkB l.toArray late none sz = true)
    (hD : ((List.range l.length).all fun k => !D k || k == i0 || (List.range l.length).any fun j => depB l.toArray k j && D j) = true) (hi : D i0 = true) (hlt : i0 < l.length)
    (hR : ∀ g, R' g = R ++ N g)
    (hc : ∀ w, Env w0 w R → Calls P f args w fun k w' => ∃ g, φ g ∧ k = .returned (V2 g i0) ∧ Env w w' (N g))
    (h1 : ∀ z : Nat → Value, Wg P l.toArray w0 R (fun i => !D i) i0 f args (gval D v0 z) (fun _ => True) l 0 a)
    (h2 : ∀ g, φ g → Wg P l.toArray w0 (R' g) D i0 f args (gval D v0 (V2 g)) (fun a' => We Q .normal a' w0 (R' g)) l 0 a) : Wc P (.region id l.toArray true) Q a w0 R := by
  have hj : ∀ j, l[j]? = l.toArray[0 + j]? := fun j => by simp
  have lower : ∀ i k, depB l.toArray i k = true → k < i := fun i k hd => by
    obtain ⟨o, ho, e, he, hb, rfl⟩ := dep_of hd
    exact (spec_of hB ho).lower e he hb
  have back : ∀ L : Nat → Bool, Closed l.toArray L → (∀ k, L k = true → k < l.toArray.size) → ∀ n k, k < n → L k = true → D k = true → L i0 = true := by
    intro L hcl hin n
    induction n with
    | zero => intro k hk; omega
    | succ n ih =>
      intro k hk hl hd
      have h := List.all_eq_true.1 hD k (by simpa using hin k hl)
      rw [hd] at h
      by_cases e : k = i0
      · rw [← e]; exact hl
      · have h' : ((List.range l.length).any fun j => depB l.toArray k j && D j) = true := by simpa [e] using h
        obtain ⟨j, _, hjj⟩ := List.any_eq_true.1 h'
        rw [Bool.and_eq_true] at hjj
        exact ih j (by have := lower k j hjj.1; omega) (closed_dep hcl hjj.1 hl) hjj.2
  let ζ : Option Γ → Nat → Value := fun γ k => match γ with | none => undef | some g => V2 g k
  refine wc_draw_inv (Γ := Option Γ) (fun γ => gval D v0 (ζ γ)) (fun _ γ => grows R R' γ) (fun L γ => match γ with | none => L i0 = false | some g => L i0 = true ∧ φ g) none sz hm hz hB rfl rfl ⟨fun j o hjo => ⟨fun L γ a' w h hF hE K hK => ?_⟩⟩ (fun γ hF => ?_)
  · rw [Nat.zero_add] at h hK ⊢
    have hop := h.op
    have hAt : At l.toArray late none sz (gval D v0 (ζ γ)) (fun _ => 0) L a a' j o := ⟨h.op, by
      have e : vp late (fun _ => 0) (gval D v0 (ζ γ)) = gval D v0 (ζ γ) := funext fun k => if_neg (by simp [late, isMake])
      rw [e]
      exact h.st, h.closed, h.off, h.ready, h.within⟩
    obtain ⟨ex, ew⟩ := exec_agree hB hz hAt (fun _ => rfl)
    unfold wpOp
    simp only [hop]
    rw [ew]
    by_cases e : j = i0
    · subst e
      cases γ with
      | some g => exact absurd hF.1 (by rw [h.off]; simp)
      | none =>
        have k := ((wg_at a l 0 hj (h1 (ζ none)).run).1 j o hjo).1 (by omega)
        rw [Nat.zero_add] at k
        rw [if_pos k.1]
        refine .inl ?_
        show o.upon P a' K Q ((execOp a'.eval o).run P w)
        rw [ex, k.2 w]
        refine (hc w hE).mono ?_
        rintro x w' ⟨g, hg, rfl, hE'⟩
        have hv : gval D v0 (ζ (some g)) j = V2 g j := by show (bif D j then V2 g j else v0 j) = _; rw [hi]; rfl
        have := hK (some g) w' (fun k hk => by
          show (bif D k then V2 g k else v0 k) = (bif D k then undef else v0 k)
          cases hd : D k with
          | false => rfl
          | true => exact absurd (back L h.closed h.within (k + 1) k (by omega) hk hd) (by rw [h.off]; simp)) ⟨by show one L j j = true; simp [one], hg⟩ (by
            show Env w0 w' (R' g)
            rw [hR g]
            exact Env.perm (Env.join hE hE') List.perm_append_comm)
        rw [hv] at this
        exact this
    · have fin : ∀ v, gval D v0 (ζ γ) j = v → ∀ w', Env w0 w' (grows R R' γ) → K (a'.put o.dst v) w' := by
        rintro v rfl w' hE'
        refine hK γ w' (fun _ _ => rfl) ?_ ?_
        · cases γ with
          | none => show one L j i0 = false; unfold one; rw [if_neg (fun h => e h.symm)]; exact hF
          | some g => exact ⟨by show one L j i0 = true; unfold one; rw [if_neg (fun h => e h.symm)]; exact hF.1, hF.2⟩
        · exact hE'
      have key : ∀ R1 : List Rw, Env w0 w R1 → OpOk P l.toArray w0 R1 o (fr l.toArray (gval D v0 (ζ γ)) a j) (gval D v0 (ζ γ) j) → (if Region.wanted o (yielded l.toArray (fr l.toArray (gval D v0 (ζ γ)) a j).tmps) = true then o.wp P a' w K Q ∨ o.asks P a' w ∧ LetsOut Q else K (a'.put o.dst undef) w) := by
        intro R1 hE1 ok
        have hE2 : ∀ w', Below w.heap.size w w' → Env w0 w' (grows R R' γ) := fun w' hb => Env.call hE hb
        rcases ok with ⟨k1, k2⟩ | ⟨k1, k2⟩
        · rw [if_pos k1]
          refine .inl ?_
          show o.upon P a' K Q ((execOp a'.eval o).run P w)
          rw [ex]
          have k3 := k2 w hE1
          cases hr : (execOp (fr l.toArray (gval D v0 (ζ γ)) a j).eval o).run P w with
          | ok nx w1 =>
            rw [hr] at k3
            cases nx with
            | value u =>
              obtain ⟨rfl, rfl⟩ := k3
              exact fin _ rfl _ hE
            | enter f' args' =>
              obtain ⟨rfl, k4⟩ := k3
              refine k4.mono ?_
              rintro x w' ⟨rfl, hb⟩
              exact fin _ rfl w' (hE2 w' hb)
            | _ => exact k3.elim
          | _ => rw [hr] at k3; exact k3.elim
        · rw [if_neg (by rw [k1]; simp)]
          exact fin undef k2 w hE
      cases hd : D j with
      | true =>
        have hl : L i0 = true := by
          have h' := List.all_eq_true.1 hD j (by
            have := (Array.getElem?_eq_some_iff.1 hop).1
            simpa using this)
          rw [hd] at h'
          have h'' : ((List.range l.length).any fun k => depB l.toArray j k && D k) = true := by simpa [e] using h'
          obtain ⟨k, _, hk⟩ := List.any_eq_true.1 h''
          rw [Bool.and_eq_true] at hk
          exact back L h.closed h.within (k + 1) k (by omega) (h.dep hk.1) hk.2
        cases γ with
        | none => exact absurd hl (by rw [show L i0 = false from hF]; simp)
        | some g =>
          have k := ((wg_at a l 0 hj (h2 g hF.2).run).1 j o hjo).2 (by omega) (by rw [Nat.zero_add]; exact hd)
          rw [Nat.zero_add] at k
          exact key (R' g) hE k
      | false =>
        have k := ((wg_at a l 0 hj (h1 (ζ γ)).run).1 j o hjo).2 (by omega) (by rw [Nat.zero_add, hd]; rfl)
        rw [Nat.zero_add] at k
        refine key R ?_ k
        cases γ with
        | none => exact hE
        | some g =>
          have hE' : Env w0 w (R' g) := hE
          rw [hR g] at hE'
          exact hE'.sub (List.sublist_append_left _ _)
  · cases γ with
    | none =>
      exfalso
      have hlt' : ¬ i0 < l.length := by simpa using hF
      exact hlt' hlt
    | some g =>
      have k := (wg_at a l 0 hj (h2 g hF.2).run).2
      rw [Nat.zero_add] at k
      exact k
/-- A call that hands back an open number of rows. -/
theorem wl_call_open {P : Program} {ops : Array Oper} {Q : Exit → Act → World → Prop} {rest : List Oper} {o : Oper} {a : Act} {w0 : World} {R : List Rw} {ι : Type} (R' : ι → List Rw) (f : FuncId) (args : Array Value) (v : ι → Value) (N : ι → List Rw) (φ : ι → Prop) (hR : ∀ j, R' j = R ++ N j) (hw : Region.wanted o (yielded ops a.tmps) = true) (hr : ∀ w, (execOp a.eval o).run P w = .ok (.enter f args) w)
    (hc : ∀ w, Env w0 w R → Calls P f args w fun k w' => ∃ j, φ j ∧ k = .returned (v j) ∧ Env w w' (N j)) (h : ∀ j, φ j → Wl P ops Q rest (a.put o.dst (v j)) w0 (R' j)) : Wl P ops Q (o :: rest) a w0 R := by
  refine wl_upon hw (fun w hE => ?_)
  rw [hr w]
  refine (hc w hE).mono ?_
  rintro k w' ⟨j, hj, rfl, hE'⟩
  refine (h j hj).run w' ?_
  rw [hR j]
  exact Env.perm (Env.join hE hE') List.perm_append_comm
section
variable {P : Program} {o : Oper} {a : Act} {x y : Operand} {t ty : TypeId} {p : Option Addr} {n c : Nat}
end
section
variable {P : Program} {a : Act} {w0 : World} {R : List Rw}
end
end Go.Proofs.Ytbacchdkankioaa.Sh
