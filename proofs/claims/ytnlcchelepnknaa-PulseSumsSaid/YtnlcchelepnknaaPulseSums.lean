/-
  PulseSums: for every input the law returns true, and each argument reads afterwards as it read before. No condition.
-/
import Derived.Test.YtnlcchelepnknaaRows
import Derived.Test.YtnlcchelepnknaaPostb
import Derived.Test.YtnlcchelepnknaaPostk
import Derived.Test.YtnlcchelepnknaaPulseSumsWalk
import Derived.WalkKit
import Derived.ProofKit
import Derived.OpenShut
namespace Go.Proofs.Ytnlcchelepnknaa.pulseSums
open Go.ChangeShapes Go.WideShapes Go.ChangeAt Go.RowKit
set_option linter.unusedVariables false

theorem own : ownKnob Try.prog.godebug = none := by kernel_rfl

theorem cells_bool : Try.prog.cellsOf 4 = 1 := by kernel_rfl
theorem cells_int16 : Try.prog.cellsOf 42 = 1 := by kernel_rfl
set_option maxRecDepth 100000 in
theorem lifted (os : Os) (started : os.Started) (H : Type) (enc : TypeId × Value → H) :
    ReturnsInHanded {} Try.checked os 5 .any (Rows.pulseSumsSpec.pre6 enc Try.prog Try.f5 Rows.pulseSumsRow.domain false) (Rows.pulseSumsSpec.post enc Try.prog Try.f5 false true false false) := by
  refine returnsInHanded_of_change (C := Try.checked) own started (by kernel_rfl) Try.func5
    (ChangeSpec.witness6 (enc := enc) (C := Try.checked) false ⟨#[], #[.int .i64 0, .slice none 0 0, .slice none 0 0], []⟩ 8 (by kernel_rfl) (by kernel_rfl) (by kernel_rfl) (by kernel_rfl)) ?_
  intro W base args ds gs before hval0 hW hcnd _
  have hval : ∀ (j : Nat) t v, Try.f5.params[j]? = some t → args[j]? = some v → Value.okWide Try.prog W .any base t v := hval0
  have hW' := hW
  obtain ⟨p, q, hA0, hV, rfl, hfz, hnd⟩ := hW
  have hA : DataW.TrodAll enc Try.prog W 0 (fun _ => true) true Try.f5.params.toList args.toList ds p := hA0
  rw [Try.params5] at hA hval
  obtain ⟨v0, vs0, d0, ds0, p0, q0, hargs, rfl, rfl, h0, r0⟩ := trodAll_cons hA
  obtain ⟨v1, vs1, d1, ds1, p1, q1, rfl, rfl, rfl, h1, r1⟩ := trodAll_cons r0
  obtain ⟨v2, vs2, d2, ds2, p2, q2, rfl, rfl, rfl, h2, r2⟩ := trodAll_cons r1
  obtain ⟨rfl, rfl, rfl⟩ := trodAll_nil r2
  obtain rfl : args = #[v0, v1, v2] := by cases args; simp_all
  obtain ⟨rfl, rfl⟩ := trodVars_none hV
  obtain ⟨a0, rfl, rfl, rfl, w0⟩ := open_int Try.underlying2 (hval 0 2 v0 rfl rfl) h0
  obtain ⟨z1, l1, k1, rfl⟩ := okWide_slice Try.underlying40 (hval 1 40 v1 rfl rfl)
  obtain ⟨b1, c1, L1, e1, hR1, hZ1, hF1, hG1⟩ := Postk.open_nums (k := .i16) Try.underlying40 Try.underlying42 cells_int16 rfl h1
  rw [e1]
  obtain ⟨z2, l2, k2, rfl⟩ := okWide_slice Try.underlying41 (hval 2 41 v2 rfl rfl)
  obtain ⟨b2, c2, L2, e2, hR2, hF2, hG2⟩ := Postk.open_bits Try.underlying41 Try.underlying4 cells_bool rfl h2
  rw [e2]
  clear hA0 hval0
  refine (Walks.pulseSums_walk a0 w0 L1 b1 c1 L2 b2 c2 W hR1 (Postk.bounds16 hZ1) hR2).mono fun e W' ⟨he, hg⟩ => ?_
  subst he
  rw [e1, e2] at hW'
  exact ⟨_, rfl, Postb.post_mem (by kernel_rfl) (of_decide_eq_true (by kernel_rfl)) rfl hW' rfl (fun _ _ _ => (trodAll_cons_mk (shut_bool Try.underlying4 _) trodAll_mk0)) (fun _ => rfl)
    hg (ok_one (by kernel_rfl) rfl (okWide_bool_mk Try.underlying4 _))⟩

theorem over : Rows.pulseSumsRow.holds Try.pinned (OpenSpec.ofChange Rows.pulseSumsSpec) :=
  OpenClaim.holds_of_wide 5 Try.f5 rfl rfl rfl rfl rfl rfl rfl ⟨rfl, rfl, rfl, rfl, rfl⟩ rfl rfl rfl rfl rfl (by kernel_rfl) Try.func5 (by kernel_rfl)
    (of_decide_eq_true (by kernel_rfl)) (by unfold Func.isWrapper; first | (rw [if_pos (by decide +kernel)]; kernel_rfl) | (rw [if_neg (by decide +kernel)]; exact ⟨rfl, rfl⟩))
    (fun os started H enc _ => lifted os started H enc)

/-- The statement. -/
theorem proved : Rows.PulseSumsSaid := over
#print axioms proved
end Go.Proofs.Ytnlcchelepnknaa.pulseSums
