/-
  Cuts s[k:] of slices whose elements have several cells, in the walks of Sx and Sw. No condition.
-/
import Derived.Test.YtbacchdkankioaaMsc
namespace Go.Proofs.Ytbacchdkankioaa.Sz
open Go.ChangeShapes Go.WideShapes Go.ChangeAt Go.RowKit
open Arr Steady Sx Sw Sl Sb Sc
set_option linter.unusedVariables false
set_option linter.unusedSimpArgs false

/-- Where a slice begins whose first k elements are cut off. -/
def subz (z : Nat) (p : Option Addr) (k c : Nat) : Option Addr := if c = k then p else p.map (·.add (k * z))
theorem flat_drop {α : Type} {enc : α → List Value} {z : Nat} (hz : ∀ x, (enc x).length = z) : ∀ (k : Nat) (L : List α), flat enc (L.drop k) = (flat enc L).drop (k * z) := by
  intro k
  induction k with
  | zero => intro L; simp
  | succ k ih =>
    intro L
    cases L with
    | nil => simp [flat]
    | cons x L =>
      rw [List.drop_succ_cons, ih L]
      have e1 : flat enc (x :: L) = enc x ++ flat enc L := by simp [flat]
      have e2 : (k + 1) * z = z + k * z := by rw [Nat.succ_mul, Nat.add_comm]
      have e3 : (enc x).drop (z + k * z) = [] := List.drop_of_length_le (by rw [hz x]; omega)
      rw [e1, e2, List.drop_append, e3, hz x, Nat.add_sub_cancel_left, List.nil_append]
theorem drop_len {α : Type} {L : List α} {n k : Nat} (h : L.length = n) : (L.drop k).length = n - k := by rw [List.length_drop, h]
section
variable {P : Program} {o : Oper} {a : Act} {x y : Operand} {t ty : TypeId} {p : Option Addr} {n c : Nat} {w0 : World} {R : List Rw}
theorem sl_dropz {α : Type} {enc : α → List Value} {z : Nat} (hz : ∀ x, (enc x).length = z) {L : List α} (k c : Nat) (hc : L.length ≤ c) (h : SlAt w0 R p (flat enc L)) : SlAt w0 R (subz z p k c) (flat enc (L.drop k)) := by
  by_cases hk : c = k
  · intro w hE j u hj
    rw [List.drop_of_length_le (by omega)] at hj
    simp [flat] at hj
  intro w hE j u hj
  rw [flat_drop hz, List.getElem?_drop] at hj
  obtain ⟨b, rfl, hcell⟩ := h w hE _ _ hj
  unfold subz
  rw [if_neg hk]
  exact ⟨b.add (k * z), rfl, by rw [Go.Deep.add_add]; exact hcell⟩
theorem er_dropz {kk : IntKind} {l : Nat} {H : Int} (z : Nat) (ho : o.op = .slice t x (some y) none none) (hx : a.eval x = .slice p n c) (hy : a.eval y = .int kk H) (hH : H = (l : Int)) (hl : l ≤ n) (hu : P.underlying t = some (.slice ty)) (hs : (P.info? ty).map (·.size) = some z) (w : World) :
    (execOp a.eval o).run P w = .ok (.value (.slice (subz z p l c) (n - l) (c - l))) w := by
  subst hH
  have ht : P.underlying t = some (.slice (P.elem t)) := by simp [Program.elem, hu]
  have he : P.elem t = ty := by simp [Program.elem, hu]
  cases hq : P.info? ty with
  | none => simp [hq] at hs
  | some i =>
    have hz : i.size = z := by simpa [hq] using hs
    unfold execOp
    simp only [ho, hx, hy]
    have h1 := run_sliceAt_slice (P := P) w t (.slice p n c) (some (.int kk (l : Int))) none none ht
    have h2 := run_slice_l (P := P) w t p n c ht kk (l : Int) (by omega) (by omega)
    simp only [Option.map_none, Option.map_some, hy, h1, h2, Sem.run_bind, sizeOf, typeInfo, he, hq, hz]
    simp [go_sem, sliced, hz, hq, he, sizeOf, typeInfo, subz]
end
end Go.Proofs.Ytbacchdkankioaa.Sz
