/-
  MailFirst: for every input the law returns true, and each argument reads afterwards as it read before. No condition.
-/
import Derived.Test.YtggdmchhnnjfiaaRows
import Derived.Test.YtggdmchhnnjfiaaPostb
import Derived.Test.YtggdmchhnnjfiaaPostt
import Derived.Test.YtggdmchhnnjfiaaMailFirstWalk
import Derived.WalkKit
import Derived.ProofKit
import Derived.OpenShut
namespace Go.Proofs.Ytggdmchhnnjfiaa.mailFirst
open Go.ChangeShapes Go.WideShapes Go.ChangeAt Go.RowKit
set_option linter.unusedVariables false

theorem own : ownKnob Try.prog.godebug = none := by kernel_rfl

theorem cells_u8 : Try.prog.cellsOf 5 = 1 := by kernel_rfl
set_option maxRecDepth 100000 in
theorem lifted (os : Os) (started : os.Started) (H : Type) (enc : TypeId × Value → H) :
    ReturnsInHanded {} Try.checked os 6 .any (Rows.mailFirstSpec.pre6 enc Try.prog Try.f6 Rows.mailFirstRow.domain false) (Rows.mailFirstSpec.post enc Try.prog Try.f6 false true false false) := by
  refine returnsInHanded_of_change (C := Try.checked) own started (by kernel_rfl) Try.func6
    (ChangeSpec.witness6 (enc := enc) (C := Try.checked) false ⟨#[], #[.int .i64 0, .agg #[.int .i16 0, .int .i16 0, .int .i16 0, .int .i16 0, .int .i16 0], .slice none 0 0], []⟩ 8 (by kernel_rfl) (by kernel_rfl) (by kernel_rfl) (by kernel_rfl)) ?_
  intro W base args ds gs before hval0 hW hcnd _
  have hval : ∀ (j : Nat) t v, Try.f6.params[j]? = some t → args[j]? = some v → Value.okWide Try.prog W .any base t v := hval0
  have hW' := hW
  obtain ⟨p, q, hA0, hV, rfl, hfz, hnd⟩ := hW
  have hA : DataW.TrodAll enc Try.prog W 0 (fun _ => true) true Try.f6.params.toList args.toList ds p := hA0
  rw [Try.params6] at hA hval
  obtain ⟨v0, vs0, d0, ds0, p0, q0, hargs, rfl, rfl, h0, r0⟩ := trodAll_cons hA
  obtain ⟨v1, vs1, d1, ds1, p1, q1, rfl, rfl, rfl, h1, r1⟩ := trodAll_cons r0
  obtain ⟨v2, vs2, d2, ds2, p2, q2, rfl, rfl, rfl, h2, r2⟩ := trodAll_cons r1
  obtain ⟨rfl, rfl, rfl⟩ := trodAll_nil r2
  obtain rfl : args = #[v0, v1, v2] := by cases args; simp_all
  obtain ⟨rfl, rfl⟩ := trodVars_none hV
  obtain ⟨a0, rfl, rfl, rfl, w0⟩ := open_int Try.underlying3 (hval 0 3 v0 rfl rfl) h0
  obtain ⟨ar1, rfl, az1⟩ := Postt.okWide_array Try.underlying40 (hval 1 40 v1 rfl rfl)
  obtain ⟨rfl, x1_1, x1_2, x1_3, x1_4, x1_5, rfl, y1_1, y1_2, y1_3, y1_4, y1_5⟩ := Postt.open_five Try.underlying40 Try.underlying39 (by kernel_rfl) (az1.trans (by kernel_rfl)) h1
  obtain ⟨z2, l2, k2, rfl⟩ := okWide_slice Try.underlying22 (hval 2 22 v2 rfl rfl)
  obtain ⟨b2, n2, c2, T2, e2, hl2, hR2, hT2, hF2, hG2⟩ := Postt.open_texts Try.underlying22 Try.underlying45 Try.underlying5 (by kernel_rfl) cells_u8 rfl h2
  rw [e2]
  clear hA0 hval0
  refine (Walks.mailFirst_walk a0 w0 x1_1 x1_2 x1_3 x1_4 x1_5 y1_1 y1_2 y1_3 y1_4 y1_5 T2 b2 n2 c2 W hl2 hR2 hT2 hF2 hG2).mono fun e W' ⟨he, hg⟩ => ?_
  subst he
  rw [e2] at hW'
  exact ⟨_, rfl, Postb.post_mem (by kernel_rfl) (of_decide_eq_true (by kernel_rfl)) rfl hW' rfl (fun _ _ _ => (trodAll_cons_mk (shut_bool Try.underlying4 _) trodAll_mk0)) (fun _ => rfl)
    hg (ok_one (by kernel_rfl) rfl (okWide_bool_mk Try.underlying4 _))⟩

theorem over : Rows.mailFirstRow.holds Try.pinned (OpenSpec.ofChange Rows.mailFirstSpec) :=
  OpenClaim.holds_of_wide 6 Try.f6 rfl rfl rfl rfl rfl rfl rfl ⟨rfl, rfl, rfl, rfl, rfl⟩ rfl rfl rfl rfl rfl (by kernel_rfl) Try.func6 (by kernel_rfl)
    (of_decide_eq_true (by kernel_rfl)) (by unfold Func.isWrapper; first | (rw [if_pos (by decide +kernel)]; kernel_rfl) | (rw [if_neg (by decide +kernel)]; exact ⟨rfl, rfl⟩))
    (fun os started H enc _ => lifted os started H enc)

/-- The statement. -/
theorem proved : Rows.MailFirstSaid := over
#print axioms proved
end Go.Proofs.Ytggdmchhnnjfiaa.mailFirst
