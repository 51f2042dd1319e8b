/-
  Which places a group may be read at, without a program.
-/
import Derived.Test.YtjbhlcklgmgdpaaMrt
import Derived.Test.YtjbhlcklgmgdpaaCf
namespace Go.Proofs.Ytjbhlcklgmgdpaa.Lkm
open Go.ChangeShapes Go.WideShapes Go.ChangeAt Go.RowKit
open Arr Steady Sx Sw Sl Sb Sc Sh Vs Gr Tk Tkh Tkl Rt Rtm Rtg Rtp Rtk Rts Cf
set_option linter.unusedVariables false
/-- Those places that are near enough. -/
def near (W lo hi x : Int) : Bool := decide (lo ≤ x + W) && decide (x - W ≤ hi)
def fitL (W lo hi : Int) (P : List Int) : List Int := P.filter (near W lo hi)
theorem fit_snoc (W lo hi : Int) (P : List Int) (x : Int) : fitL W lo hi (P ++ [x]) = fitL W lo hi P ++ (if near W lo hi x then [x] else []) := by
  unfold fitL
  rw [List.filter_append]
  congr 1
  by_cases h : near W lo hi x = true
  · simp [h]
  · simp [h]
/-- How far from its place a group may be read. -/
def winG (c : Cf) (g : Gp) : Int := g.acc + c.an + g.slack
/-- The places of a group on some ways at which it fits. -/
def fitG (c : Cf) (G : List Sg) (H : List Gp) (f lo hi gi : Int) (X : List Ro) : List Int := if 0 ≤ gi ∧ gi < H.length then fitL (winG c (H[gi.toNat]!)) lo hi (plc G f (H[gi.toNat]!).seg (H[gi.toNat]!).off X X.length) else []
/-- Both ends of a span are within 2^45, and in order. -/
def Small (lo hi : Int) : Prop := lo ≤ hi ∧ -35184372088832 ≤ lo ∧ hi ≤ 35184372088832
instance (lo hi : Int) : Decidable (Small lo hi) := by unfold Small; infer_instance
theorem small_no1 {lo hi : Int} (h : ¬ lo ≤ hi) : decide (Small lo hi) = false := decide_eq_false (fun k => h k.1)
theorem small_no2 {lo hi : Int} (h : ¬ -35184372088832 ≤ lo) : decide (Small lo hi) = false := decide_eq_false (fun k => h k.2.1)
theorem small_hi {lo hi : Int} (h : lo ≤ hi) (k : -35184372088832 ≤ lo) : decide (Small lo hi) = decide (hi ≤ 35184372088832) := by
  by_cases e : hi ≤ 35184372088832
  · rw [decide_eq_true e]; exact decide_eq_true ⟨h, k, e⟩
  · rw [decide_eq_false e]; exact decide_eq_false (fun z => e z.2.2)
/-! ### Walking along the places -/
theorem fit_all (W lo hi : Int) (P : List Int) (i : Nat) (hi' : i < P.length) : fitL W lo hi P = fitL W lo hi (P.take i) ++ ((if near W lo hi (P[i]!) then [P[i]!] else []) ++ fitL W lo hi (P.drop (i + 1))) := by
  have e : P = P.take i ++ ([P[i]!] ++ P.drop (i + 1)) := by
    rw [getElem!_pos P i hi', ← List.append_assoc]
    have : P.take (i + 1) = P.take i ++ [P[i]] := by rw [List.take_add_one, List.getElem?_eq_getElem hi']; rfl
    rw [← this, List.take_append_drop]
  have h : fitL W lo hi [P[i]!] = if near W lo hi (P[i]!) then [P[i]!] else [] := by
    have := fit_snoc W lo hi [] (P[i]!)
    simpa [fitL] using this
  conv => lhs; rw [e]
  unfold fitL at h ⊢
  rw [List.filter_append, List.filter_append, h]
theorem fit_next (W lo hi : Int) (P : List Int) (i : Nat) (hi' : i < P.length) : (fitL W lo hi (P.take (i + 1))).length = (fitL W lo hi (P.take i)).length + (if near W lo hi (P[i]!) then 1 else 0) := by
  have e : P.take (i + 1) = P.take i ++ [P[i]!] := by rw [List.take_add_one, List.getElem?_eq_getElem hi', getElem!_pos P i hi']; rfl
  rw [e, fit_snoc, List.length_append]
  split <;> rfl
theorem fit_here {W lo hi : Int} {P : List Int} {i n : Nat} (hi' : i < P.length) (hn : n = (fitL W lo hi (P.take i)).length) (h : near W lo hi (P[i]!) = true) : n < (fitL W lo hi P).length ∧ (fitL W lo hi P)[n]! = P[i]! := by
  have e := fit_all W lo hi P i hi'
  rw [h] at e
  simp only [if_true] at e
  subst hn
  have hl : (fitL W lo hi (P.take i)).length < (fitL W lo hi P).length := by rw [e]; simp
  refine ⟨hl, ?_⟩
  rw [getElem!_pos (fitL W lo hi P) _ hl]
  have : (fitL W lo hi P)[(fitL W lo hi (P.take i)).length]? = some (P[i]!) := by
    rw [e, List.getElem?_append_right (Nat.le_refl _), Nat.sub_self]
    rfl
  rw [List.getElem?_eq_getElem hl] at this
  exact Option.some.inj this
theorem fit_len (W lo hi : Int) (P : List Int) : (fitL W lo hi P).length ≤ P.length := List.length_filter_le _ _
theorem fit_take {W lo hi : Int} {P : List Int} {i n : Nat} (h : n = (fitL W lo hi (P.take i)).length) : n ≤ i := by
  have a := fit_len W lo hi (P.take i)
  rw [List.length_take] at a
  omega
theorem near_yes {W lo hi x : Int} (h : ¬ x + W < lo) (k : ¬ hi < x - W) : near W lo hi x = true := by unfold near; rw [decide_eq_true (by omega), decide_eq_true (by omega)]; rfl
theorem near_no {W lo hi x : Int} (h : x + W < lo ∨ hi < x - W) : near W lo hi x = false := by
  unfold near
  rcases h with h | h
  · rw [decide_eq_false (p := lo ≤ x + W) (by omega)]; rfl
  · rw [decide_eq_false (p := x - W ≤ hi) (by omega), Bool.and_false]
/-- Each place of a group on some ways lies within 2^45. -/
theorem ins_mem {lt : Int → Int → Bool} {x y : Int} {L : List Int} (h : y ∈ ins lt x L) : y = x ∨ y ∈ L := by
  induction L with
  | nil => exact .inl (by simpa [ins] using h)
  | cons z r ih =>
    unfold ins at h
    split at h
    · rcases List.mem_cons.1 h with h | h
      · exact .inr (by rw [h]; exact List.mem_cons_self)
      · rcases ih h with h | h
        · exact .inl h
        · exact .inr (List.mem_cons_of_mem _ h)
    · split at h
      · rcases List.mem_cons.1 h with h | h
        · exact .inl h
        · exact .inr h
      · exact .inr h
theorem plr_lim {G : List Sg} {f sg off : Int} {r : Ro} (hG : ∀ j, j < G.length → SegMay (G[j]!) G.length) (hr : RtOk G r) (hf : 0 ≤ f ∧ f ≤ 1099511627776) (ho : 0 ≤ off ∧ off ≤ 1099511627776) {Q : List Int} (hQ : ∀ x ∈ Q, -1099511627776 ≤ x ∧ x ≤ 14293651161088) : ∀ k, k ≤ r.length → ∀ x ∈ plr G f sg off r Q k, -1099511627776 ≤ x ∧ x ≤ 14293651161088 := by
  intro k
  induction k with
  | zero => intro _ x hx; exact hQ x hx
  | succ k ih =>
    intro hk x hx
    unfold plr at hx
    split at hx
    · rcases ins_mem hx with rfl | hx
      · have e := end_in (f := f) hG hr k (by omega)
        have := hr.few
        omega
      · exact ih (by omega) x hx
    · exact ih (by omega) x hx
theorem plc_lim {G : List Sg} {f sg off : Int} {X : List Ro} (hG : ∀ j, j < G.length → SegMay (G[j]!) G.length) (hX : ∀ r ∈ X, RtOk G r) (hf : 0 ≤ f ∧ f ≤ 1099511627776) (ho : 0 ≤ off ∧ off ≤ 1099511627776) : ∀ i, i ≤ X.length → ∀ x ∈ plc G f sg off X i, -1099511627776 ≤ x ∧ x ≤ 14293651161088 := by
  intro i
  induction i with
  | zero => intro _ x hx; cases hx
  | succ i ih =>
    intro hi x hx
    have hm : X[i]! ∈ X := by rw [getElem!_pos X i hi]; exact List.getElem_mem hi
    exact plr_lim hG (hX _ hm) hf ho (ih (by omega)) _ (Nat.le_refl _) x hx
theorem at_lim {P : List Int} (h : ∀ x ∈ P, -1099511627776 ≤ x ∧ x ≤ 14293651161088) {i : Nat} (hi : i < P.length) : -1099511627776 ≤ P[i]! ∧ P[i]! ≤ 14293651161088 := by
  rw [getElem!_pos P i hi]
  exact h _ (List.getElem_mem hi)
theorem fit_in {c : Cf} {G : List Sg} {H : List Gp} {f lo hi gi : Int} {X : List Ro} (h : 0 ≤ gi ∧ gi < H.length) : fitG c G H f lo hi gi X = fitL (winG c (H[gi.toNat]!)) lo hi (plc G f (H[gi.toNat]!).seg (H[gi.toNat]!).off X X.length) := by unfold fitG; rw [if_pos h]
theorem fit_out {c : Cf} {G : List Sg} {H : List Gp} {f lo hi gi : Int} {X : List Ro} (h : ¬ (0 ≤ gi ∧ gi < H.length)) : fitG c G H f lo hi gi X = [] := by unfold fitG; rw [if_neg h]
end Go.Proofs.Ytjbhlcklgmgdpaa.Lkm
