/-
  WHAT AN ARGUMENT HOLDS, further: arrays of three. No program.
-/
import Derived.Test.YtlfienfjdjfcoaaOpn
import Derived.Test.YtlfienfjdjfcoaaPostt
namespace Go.Proofs.Ytlfienfjdjfcoaa.Opna
open Go.ChangeShapes Go.WideShapes Go.RowKit Go.Deep
open Sl Sb Sj Sk Opn
set_option linter.unusedVariables false
set_option linter.unusedSimpArgs false
section
variable {H : Type} {eh : TypeId × Value → H} {P : Program} {W : World}
theorem opens_array3 {t e : TypeId} {z : Nat} {α : Type} {enc : α → List Value} {φ : α → Prop} (ht : P.underlying t = some (.array 3 e)) (hc : P.cellsOf e = z) (ha : P.cellsOf t = 3 * z) (o : Opens eh P W e enc φ) :
    Opens eh P W t (fun y : α × α × α => enc y.1 ++ (enc y.2.1 ++ enc y.2.2)) (fun y => φ y.1 ∧ φ y.2.1 ∧ φ y.2.2) :=
  ⟨fun fuel cs x h hw => by
    obtain ⟨xs, m, _, rfl, hlen, hl, hf⟩ := DataW.trod_array ht h
    have each : ∀ i, i < 3 → ∃ y : α, (cs.drop (i * z)).take z = enc y ∧ φ y := by
      intro i hi
      have h1 := hf i hi
      have hi' : i < xs.length := by omega
      rw [List.getElem?_eq_getElem hi', hc] at h1
      exact o.run _ _ _ h1 (fun n hn => hw n (by
        show n ∈ DataW.weights P t (.agg (xs.map (·.1)))
        unfold DataW.weights
        rw [ht]
        exact weights_all (List.mem_map.2 ⟨_, List.getElem_mem hi', rfl⟩) n hn))
    obtain ⟨a, ha1, ha2⟩ := each 0 (by omega)
    obtain ⟨b, hb1, hb2⟩ := each 1 (by omega)
    obtain ⟨c, hc1, hc2⟩ := each 2 (by omega)
    refine ⟨(a, b, c), ?_, ha2, hb2, hc2⟩
    show cs = enc a ++ (enc b ++ enc c)
    rw [← ha1, ← hb1, ← hc1, Nat.zero_mul, List.drop_zero, Nat.one_mul]
    have h3 : (cs.drop (2 * z)).take z = cs.drop (2 * z) := List.take_of_length_le (by rw [List.length_drop]; omega)
    rw [h3, show 2 * z = z + z by omega, ← List.drop_drop, List.take_append_drop, List.take_append_drop]⟩
/-- An array as an argument. -/
theorem open_array {t e : TypeId} {n : Nat} {v : Value} {d : DataW H} {p : List MemPlace} {r : Reach} {b0 : Nat} {α : Type} {enc : α → List Value} {φ : α → Prop} (ht : P.underlying t = some (.array n e)) (hv : Value.okWide P W r b0 t v) (h : DataW.Trod eh P W 0 (fun _ => true) true t v d p) (hl : Light P t d) (o : Opens eh P W t enc φ) :
    ∃ y : α, v = .agg (enc y).toArray ∧ φ y := by
  obtain ⟨cs, rfl, _⟩ := Postt.okWide_array ht hv
  obtain ⟨n, hn⟩ := h
  obtain ⟨y, hy, hy'⟩ := o.run n _ _ hn hl
  refine ⟨y, ?_, hy'⟩
  have e : cs.toList = enc y := hy
  rw [← e]
end
end Go.Proofs.Ytlfienfjdjfcoaa.Opna
