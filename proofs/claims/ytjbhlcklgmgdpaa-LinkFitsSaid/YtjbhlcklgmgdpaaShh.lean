/-
  THE ENGINE, further: a region that draws its order and holds two calls that hand back rows of their own, the second one behind the first. No program.
-/
import Derived.Test.YtjbhlcklgmgdpaaSh
namespace Go.Proofs.Ytjbhlcklgmgdpaa.Shh
open Go.ChangeShapes Go.WideShapes Go.ChangeAt Go.RowKit
open Arr Steady Sx Sw Sl Sb Sc Si Sj Sk Sh
set_option linter.unusedVariables false
set_option linter.unusedSimpArgs false
set_option maxRecDepth 100000

/-- The values: by a letter those behind the first call, by another one those behind the second. -/
def gval2 (lev : Nat → Nat) (v0 : Nat → Value) (a b : Nat → Value) (k : Nat) : Value := match lev k with
  | 0 => v0 k
  | 1 => a k
  | _ => b k
def z1 {Γ0 Γ1 : Type} (V1 : Γ0 → Nat → Value) : Option (Γ0 × Option Γ1) → Nat → Value
  | none, _ => undef
  | some (g, _), k => V1 g k
def z2 {Γ0 Γ1 : Type} (V2 : Γ0 → Γ1 → Nat → Value) : Option (Γ0 × Option Γ1) → Nat → Value
  | some (g, some h), k => V2 g h k
  | _, _ => undef
def rows2 {Γ0 Γ1 : Type} (R : List Rw) (R1 : Γ0 → List Rw) (R2 : Γ0 → Γ1 → List Rw) : Option (Γ0 × Option Γ1) → List Rw
  | none => R
  | some (g, none) => R1 g
  | some (g, some h) => R2 g h
def facts2 {Γ0 Γ1 : Type} (i0 i1 : Nat) (φ0 : Γ0 → Prop) (φ1 : Γ0 → Γ1 → Prop) (L : Nat → Bool) : Option (Γ0 × Option Γ1) → Prop
  | none => L i0 = false ∧ L i1 = false
  | some (g, none) => L i0 = true ∧ L i1 = false ∧ φ0 g
  | some (g, some h) => L i0 = true ∧ L i1 = true ∧ φ0 g ∧ φ1 g h
theorem wc_draw_ghost2 {P : Program} {Γ0 Γ1 : Type} {id : Nat} {l : List Oper} {Q : Exit → Act → World → Prop} {a : Act} {w0 : World} {R : List Rw} (i0 i1 : Nat) (f f' : FuncId) (args : Array Value) (args' : Γ0 → Array Value) (lev : Nat → Nat) (v0 : Nat → Value) (V1 : Γ0 → Nat → Value) (V2 : Γ0 → Γ1 → Nat → Value)
    (N1 : Γ0 → List Rw) (N2 : Γ0 → Γ1 → List Rw) (R1 : Γ0 → List Rw) (R2 : Γ0 → Γ1 → List Rw) (φ0 : Γ0 → Prop) (φ1 : Γ0 → Γ1 → Prop) (sz : Nat)
    (hm : P.follows .mixedOrders = true) (hz : a.tmps.size = sz) (hB : checkB l.toArray late none sz = true)
    (hD1 : ((List.range l.length).all fun k => decide (lev k = 0) || k == i0 || (List.range l.length).any fun j => depB l.toArray k j && decide (1 ≤ lev j)) = true)
    (hD2 : ((List.range l.length).all fun k => decide (lev k ≤ 1) || k == i1 || (List.range l.length).any fun j => depB l.toArray k j && decide (2 ≤ lev j)) = true)
    (hi0 : lev i0 = 1) (hi1 : lev i1 = 2) (hdep : ((List.range l.length).any fun j => depB l.toArray i1 j && decide (1 ≤ lev j)) = true) (hlt : i0 < l.length) (hlt1 : i1 < l.length)
    (hR1 : ∀ g, R1 g = R ++ N1 g) (hR2 : ∀ g h, R2 g h = R1 g ++ N2 g h)
    (hc : ∀ w, Env w0 w R → Calls P f args w fun k w' => ∃ g, φ0 g ∧ k = .returned (V1 g i0) ∧ Env w w' (N1 g))
    (hc' : ∀ g, φ0 g → ∀ w, Env w0 w (R1 g) → Calls P f' (args' g) w fun k w' => ∃ h, φ1 g h ∧ k = .returned (V2 g h i1) ∧ Env w w' (N2 g h))
    (h0 : ∀ y z : Nat → Value, Wg P l.toArray w0 R (fun i => decide (lev i = 0)) i0 f args (gval2 lev v0 y z) (fun _ => True) l 0 a)
    (h1 : ∀ g, φ0 g → ∀ z : Nat → Value, Wg P l.toArray w0 (R1 g) (fun i => decide (lev i = 1) && i != i0) i1 f' (args' g) (gval2 lev v0 (V1 g) z) (fun _ => True) l 0 a)
    (h2 : ∀ g h, φ0 g → φ1 g h → Wg P l.toArray w0 (R2 g h) (fun i => decide (2 ≤ lev i)) i1 f' (args' g) (gval2 lev v0 (V1 g) (V2 g h)) (fun a' => We Q .normal a' w0 (R2 g h)) l 0 a) : Wc P (.region id l.toArray true) Q a w0 R := by
  have hj : ∀ j, l[j]? = l.toArray[0 + j]? := fun j => by simp
  have lower : ∀ i k, depB l.toArray i k = true → k < i := fun i k hd => by
    obtain ⟨o, ho, e, he, hb, rfl⟩ := dep_of hd
    exact (spec_of hB ho).lower e he hb
  have back : ∀ (m i : Nat), (((List.range l.length).all fun k => decide (lev k < m) || k == i || (List.range l.length).any fun j => depB l.toArray k j && decide (m ≤ lev j)) = true) → ∀ L : Nat → Bool, Closed l.toArray L → (∀ k, L k = true → k < l.toArray.size) → ∀ n k, k < n → L k = true → m ≤ lev k → L i = true := by
    intro m i hD L hcl hin n
    induction n with
    | zero => intro k hk; omega
    | succ n ih =>
      intro k hk hl hd
      have h := List.all_eq_true.1 hD k (by simpa using hin k hl)
      by_cases e : k = i
      · rw [← e]; exact hl
      · have h' : ((List.range l.length).any fun j => depB l.toArray k j && decide (m ≤ lev j)) = true := by
          rw [decide_eq_false (by omega), show (k == i) = false by simpa using e] at h
          simpa using h
        obtain ⟨j, _, hjj⟩ := List.any_eq_true.1 h'
        rw [Bool.and_eq_true] at hjj
        exact ih j (by have := lower k j hjj.1; omega) (closed_dep hcl hjj.1 hl) (of_decide_eq_true hjj.2)
  have b1 := back 1 i0 (by simpa [Nat.lt_one_iff] using hD1)
  have b2 := back 2 i1 (by
    rw [show (fun k => decide (lev k < 2) || k == i1 || (List.range l.length).any fun j => depB l.toArray k j && decide (2 ≤ lev j)) = (fun k => decide (lev k ≤ 1) || k == i1 || (List.range l.length).any fun j => depB l.toArray k j && decide (2 ≤ lev j)) from funext fun k => by
      congr 2
      exact decide_eq_decide.2 (by omega)]
    exact hD2)
  have e01 : i1 ≠ i0 := fun e => by rw [e, hi0] at hi1; cases hi1
  have up : ∀ L : Nat → Bool, Closed l.toArray L → (∀ k, L k = true → k < l.toArray.size) → L i1 = true → L i0 = true := fun L hcl hin h => by
    obtain ⟨j, _, hjj⟩ := List.any_eq_true.1 hdep
    rw [Bool.and_eq_true] at hjj
    exact b1 L hcl hin (j + 1) j (by omega) (closed_dep hcl hjj.1 h) (of_decide_eq_true hjj.2)
  refine wc_draw_inv (Γ := Option (Γ0 × Option Γ1)) (fun γ => gval2 lev v0 (z1 V1 γ) (z2 V2 γ)) (fun _ γ => rows2 R R1 R2 γ) (fun L γ => facts2 i0 i1 φ0 φ1 L γ) none sz hm hz hB rfl ⟨rfl, rfl⟩ ⟨fun j o hjo => ⟨fun L γ a' w h hF hE K hK => ?_⟩⟩ (fun γ hF => ?_)
  · rw [Nat.zero_add] at h hK ⊢
    have hop := h.op
    have hAt : At l.toArray late none sz (gval2 lev v0 (z1 V1 γ) (z2 V2 γ)) (fun _ => 0) L a a' j o := ⟨h.op, by
      have e : vp late (fun _ => 0) (gval2 lev v0 (z1 V1 γ) (z2 V2 γ)) = gval2 lev v0 (z1 V1 γ) (z2 V2 γ) := funext fun k => if_neg (by simp [late, isMake])
      rw [e]
      exact h.st, h.closed, h.off, h.ready, h.within⟩
    obtain ⟨ex, ew⟩ := exec_agree hB hz hAt (fun _ => rfl)
    unfold wpOp
    simp only [hop]
    rw [ew]
    have hjl : j < l.length := by
      have := (Array.getElem?_eq_some_iff.1 hop).1
      simpa using this
    have oneF : ∀ i, i ≠ j → one L j i = L i := fun i hi => by unfold one; rw [if_neg hi]
    by_cases e : j = i0
    · subst e
      match γ, h, hF, hE, hK, hAt, ex, ew with
      | some (g, none), h, hF, _, _, _, _, _ => exact absurd hF.1 (by rw [h.off]; simp)
      | some (g, some g'), h, hF, _, _, _, _, _ => exact absurd hF.1 (by rw [h.off]; simp)
      | none, h, hF, hE, hK, hAt, ex, ew =>
        have k := ((wg_at a l 0 hj (h0 (z1 V1 (none : Option (Γ0 × Option Γ1))) (z2 V2 none)).run).1 j o hjo).1 (by omega)
        rw [Nat.zero_add] at k
        rw [if_pos k.1]
        refine .inl ?_
        show o.upon P a' K Q ((execOp a'.eval o).run P w)
        rw [ex, k.2 w]
        refine (hc w hE).mono ?_
        rintro x w' ⟨g, hg, rfl, hE'⟩
        have hv : gval2 lev v0 (z1 V1 (some (g, (none : Option Γ1)))) (z2 V2 (some (g, (none : Option Γ1)))) j = V1 g j := by unfold gval2; rw [hi0]; rfl
        have := hK (some (g, none)) w' (fun k hk => by
          have hk0 : lev k = 0 := by
            rcases Nat.eq_zero_or_pos (lev k) with h' | h'
            · exact h'
            · exact absurd (b1 L h.closed h.within (k + 1) k (by omega) hk h') (by rw [h.off]; simp)
          unfold gval2
          rw [hk0]
          rfl) ⟨by show one L j j = true; simp [one], by rw [oneF _ e01]; exact hF.2, hg⟩ (by
            show Env w0 w' (R1 g)
            rw [hR1 g]
            exact Env.perm (Env.join hE hE') List.perm_append_comm)
        rw [hv] at this
        exact this
    · by_cases e1 : j = i1
      · subst e1
        have hl0 : L i0 = true := by
          obtain ⟨k, _, hkk⟩ := List.any_eq_true.1 hdep
          rw [Bool.and_eq_true] at hkk
          exact b1 L h.closed h.within (k + 1) k (by omega) (h.dep hkk.1) (of_decide_eq_true hkk.2)
        match γ, h, hF, hE, hK, hAt, ex, ew with
        | none, _, hF, _, _, _, _, _ => exact absurd hl0 (by rw [show L i0 = false from hF.1]; simp)
        | some (g, some g'), h, hF, _, _, _, _, _ => exact absurd hF.2.1 (by rw [h.off]; simp)
        | some (g, none), h, hF, hE, hK, hAt, ex, ew =>
          have k := ((wg_at a l 0 hj (h1 g hF.2.2 (z2 V2 (some (g, none)))).run).1 j o hjo).1 (by omega)
          rw [Nat.zero_add] at k
          rw [show z1 V1 (some (g, (none : Option Γ1))) = V1 g from rfl] at *
          rw [if_pos k.1]
          refine .inl ?_
          show o.upon P a' K Q ((execOp a'.eval o).run P w)
          rw [ex, k.2 w]
          refine (hc' g hF.2.2 w hE).mono ?_
          rintro x w' ⟨g', hg', rfl, hE'⟩
          have hv : gval2 lev v0 (z1 V1 (some (g, some g'))) (z2 V2 (some (g, some g'))) j = V2 g g' j := by unfold gval2; rw [hi1]; rfl
          have := hK (some (g, some g')) w' (fun k hk => by
            have hk2 : lev k ≠ 0 → lev k = 1 := fun hn => by
              rcases Nat.lt_or_ge (lev k) 2 with h' | h'
              · omega
              · exact absurd (b2 L h.closed h.within (k + 1) k (by omega) hk h') (by rw [h.off]; simp)
            unfold gval2
            by_cases h00 : lev k = 0
            · rw [h00]; rfl
            · rw [hk2 h00]; rfl) ⟨by rw [oneF _ (fun h => e h.symm)]; exact hF.1, by show one L j j = true; simp [one], hF.2.2, hg'⟩ (by
              show Env w0 w' (R2 g g')
              rw [hR2 g g']
              exact Env.perm (Env.join hE hE') List.perm_append_comm)
          rw [hv] at this
          exact this
      · have hfa : ∀ γ, facts2 i0 i1 φ0 φ1 L γ → facts2 i0 i1 φ0 φ1 (one L j) γ := by
          intro γ hf
          match γ, hf with
          | none, hf => exact ⟨by rw [oneF _ (fun h => e h.symm)]; exact hf.1, by rw [oneF _ (fun h => e1 h.symm)]; exact hf.2⟩
          | some (g, none), hf => exact ⟨by rw [oneF _ (fun h => e h.symm)]; exact hf.1, by rw [oneF _ (fun h => e1 h.symm)]; exact hf.2.1, hf.2.2⟩
          | some (g, some g'), hf => exact ⟨by rw [oneF _ (fun h => e h.symm)]; exact hf.1, by rw [oneF _ (fun h => e1 h.symm)]; exact hf.2.1, hf.2.2⟩
        have key : ∀ R1' : List Rw, Env w0 w R1' → OpOk P l.toArray w0 R1' o (fr l.toArray (gval2 lev v0 (z1 V1 γ) (z2 V2 γ)) a j) (gval2 lev v0 (z1 V1 γ) (z2 V2 γ) j) → (if Region.wanted o (yielded l.toArray (fr l.toArray (gval2 lev v0 (z1 V1 γ) (z2 V2 γ)) a j).tmps) = true then o.wp P a' w K Q ∨ o.asks P a' w ∧ LetsOut Q else K (a'.put o.dst undef) w) := by
          intro R1' hE1 ok
          rcases ok with ⟨k1, k2⟩ | ⟨k1, k2⟩
          · rw [if_pos k1]
            refine .inl ?_
            show o.upon P a' K Q ((execOp a'.eval o).run P w)
            rw [ex]
            have k3 := k2 w hE1
            cases hr : (execOp (fr l.toArray (gval2 lev v0 (z1 V1 γ) (z2 V2 γ)) a j).eval o).run P w with
            | ok nx w1 =>
              rw [hr] at k3
              cases nx with
              | value u =>
                obtain ⟨rfl, rfl⟩ := k3
                exact hK γ _ (fun _ _ => rfl) (hfa γ hF) hE
              | enter f2 args2 =>
                obtain ⟨rfl, k4⟩ := k3
                refine k4.mono ?_
                rintro x w' ⟨rfl, hb⟩
                exact hK γ w' (fun _ _ => rfl) (hfa γ hF) (Env.call hE hb)
              | _ => exact k3.elim
            | _ => rw [hr] at k3; exact k3.elim
          · rw [if_neg (by rw [k1]; simp)]
            have := hK γ w (fun _ _ => rfl) (hfa γ hF) hE
            rw [k2] at this
            exact this
        have dl : ∀ (m i : Nat), (((List.range l.length).all fun k => decide (lev k < m) || k == i || (List.range l.length).any fun j => depB l.toArray k j && decide (m ≤ lev j)) = true) → j ≠ i → m ≤ lev j → ∃ k, L k = true ∧ m ≤ lev k := by
          intro m i hD hne hm'
          have h' := List.all_eq_true.1 hD j (by simpa using hjl)
          rw [decide_eq_false (by omega), show (j == i) = false by simpa using hne] at h'
          have h'' : ((List.range l.length).any fun k => depB l.toArray j k && decide (m ≤ lev k)) = true := by simpa using h'
          obtain ⟨k, _, hk⟩ := List.any_eq_true.1 h''
          rw [Bool.and_eq_true] at hk
          exact ⟨k, h.dep hk.1, of_decide_eq_true hk.2⟩
        have sub1 : ∀ g, (R.Sublist (R1 g)) := fun g => by rw [hR1]; exact List.sublist_append_left _ _
        have sub2 : ∀ g g', ((R1 g).Sublist (R2 g g')) := fun g g' => by rw [hR2]; exact List.sublist_append_left _ _
        rcases Nat.lt_or_ge (lev j) 1 with hl | hl
        · have hl0 : lev j = 0 := by omega
          have k := ((wg_at a l 0 hj (h0 (z1 V1 γ) (z2 V2 γ)).run).1 j o hjo).2 (by omega) (by rw [Nat.zero_add]; exact decide_eq_true hl0)
          rw [Nat.zero_add] at k
          refine key R ?_ k
          match γ, hE with
          | none, hE => exact hE
          | some (g, none), hE => exact Env.sub hE (sub1 g)
          | some (g, some g'), hE => exact Env.sub hE ((sub1 g).trans (sub2 g g'))
        · obtain ⟨k0, hk0, hk1⟩ := dl 1 i0 (by simpa [Nat.lt_one_iff] using hD1) e hl
          have hL0 : L i0 = true := b1 L h.closed h.within (k0 + 1) k0 (by omega) hk0 hk1
          rcases Nat.lt_or_ge (lev j) 2 with hl2 | hl2
          · have hl1 : lev j = 1 := by omega
            match γ, hF, hE, key with
            | none, hF, _, _ => exact absurd hL0 (by rw [show L i0 = false from hF.1]; simp)
            | some (g, none), hF, hE, key =>
              have k := ((wg_at a l 0 hj (h1 g hF.2.2 (z2 V2 (some (g, none)))).run).1 j o hjo).2 (by omega) (by rw [Nat.zero_add, decide_eq_true hl1]; simpa using e)
              rw [Nat.zero_add] at k
              exact key (R1 g) hE k
            | some (g, some g'), hF, hE, key =>
              have k := ((wg_at a l 0 hj (h1 g hF.2.2.1 (z2 V2 (some (g, some g')))).run).1 j o hjo).2 (by omega) (by rw [Nat.zero_add, decide_eq_true hl1]; simpa using e)
              rw [Nat.zero_add] at k
              exact key (R1 g) (Env.sub hE (sub2 g g')) k
          · obtain ⟨k2, hk2, hk3⟩ := dl 2 i1 (by
              rw [show (fun k => decide (lev k < 2) || k == i1 || (List.range l.length).any fun j => depB l.toArray k j && decide (2 ≤ lev j)) = (fun k => decide (lev k ≤ 1) || k == i1 || (List.range l.length).any fun j => depB l.toArray k j && decide (2 ≤ lev j)) from funext fun k => by
                congr 2
                exact decide_eq_decide.2 (by omega)]
              exact hD2) e1 hl2
            have hL1 : L i1 = true := b2 L h.closed h.within (k2 + 1) k2 (by omega) hk2 hk3
            match γ, hF, hE, key with
            | none, hF, _, _ => exact absurd hL0 (by rw [show L i0 = false from hF.1]; simp)
            | some (g, none), hF, _, _ => exact absurd hL1 (by rw [show L i1 = false from hF.2.1]; simp)
            | some (g, some g'), hF, hE, key =>
              have k := ((wg_at a l 0 hj (h2 g g' hF.2.2.1 hF.2.2.2).run).1 j o hjo).2 (by omega) (by rw [Nat.zero_add]; exact decide_eq_true hl2)
              rw [Nat.zero_add] at k
              exact key (R2 g g') hE k
  · match γ, hF with
    | none, hF =>
      have := hF.1
      exact absurd hlt (by simpa using this)
    | some (g, none), hF =>
      have := hF.2.1
      exact absurd hlt1 (by simpa using this)
    | some (g, some g'), hF =>
      have k := (wg_at a l 0 hj (h2 g g' hF.2.2.1 hF.2.2.2).run).2
      rw [Nat.zero_add] at k
      exact k
end Go.Proofs.Ytjbhlcklgmgdpaa.Shh
