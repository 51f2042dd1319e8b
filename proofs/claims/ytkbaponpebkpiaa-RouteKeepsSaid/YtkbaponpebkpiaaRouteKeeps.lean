/-
  RouteKeeps: for every input the law returns true, and each argument reads afterwards as it read before. No condition.
-/
import Derived.Test.YtkbaponpebkpiaaRows
import Derived.Test.YtkbaponpebkpiaaPostm
import Derived.Test.YtkbaponpebkpiaaTkop
import Derived.SizedLaws
import Derived.Test.YtkbaponpebkpiaaPostk
import Derived.Test.YtkbaponpebkpiaaRouteKeepsWalk
import Derived.WalkKit
import Derived.ProofKit
import Derived.OpenShut
namespace Go.Proofs.Ytkbaponpebkpiaa.routeKeeps
open Go.ChangeShapes Go.WideShapes Go.ChangeAt Go.RowKit
set_option linter.unusedVariables false

theorem own : ownKnob Try.prog.godebug = none := by kernel_rfl

theorem cells_span_Span : Try.prog.cellsOf 53 = 2 := by kernel_rfl
theorem cells_bool : Try.prog.cellsOf 4 = 1 := by kernel_rfl
set_option maxRecDepth 100000 in
theorem lifted (os : Os) (started : os.Started) (H : Type) (enc : TypeId × Value → H) :
    ReturnsInHanded {} Try.checked os 5 .any (Rows.routeKeepsSpec.pre6 enc Try.prog Try.f5 Rows.routeKeepsRow.domain false) (Rows.routeKeepsSpec.post enc Try.prog Try.f5 false true false false) := by
  refine returnsInHanded_of_change_sized (C := Try.checked) own started (by kernel_rfl) Try.func5
    (ChangeSpec.witness6 (enc := enc) (C := Try.checked) false ⟨#[], #[.agg #[.slice none 0 0, .slice none 0 0], .int .i64 0, .int .i64 0, .slice none 0 0, .slice none 0 0], []⟩ 8 (by kernel_rfl) (by kernel_rfl) (by kernel_rfl) (by kernel_rfl)) ?_
  intro W base args ds gs before hval0 hW hcnd hsz _
  have hval : ∀ (j : Nat) t v, Try.f5.params[j]? = some t → args[j]? = some v → Value.okWide Try.prog W .any base t v := hval0
  have hW' := hW
  obtain ⟨p, q, hA0, hV, rfl, hfz, hnd⟩ := hW
  have hA : DataW.TrodAll enc Try.prog W 0 (fun _ => true) true Try.f5.params.toList args.toList ds p := hA0
  rw [Try.params5] at hA hval hsz
  obtain ⟨v0, vs0, d0, ds0, p0, q0, hargs, rfl, rfl, h0, r0⟩ := trodAll_cons hA
  obtain ⟨v1, vs1, d1, ds1, p1, q1, rfl, rfl, rfl, h1, r1⟩ := trodAll_cons r0
  obtain ⟨v2, vs2, d2, ds2, p2, q2, rfl, rfl, rfl, h2, r2⟩ := trodAll_cons r1
  obtain ⟨v3, vs3, d3, ds3, p3, q3, rfl, rfl, rfl, h3, r3⟩ := trodAll_cons r2
  obtain ⟨v4, vs4, d4, ds4, p4, q4, rfl, rfl, rfl, h4, r4⟩ := trodAll_cons r3
  obtain ⟨rfl, rfl, rfl⟩ := trodAll_nil r4
  obtain rfl : args = #[v0, v1, v2, v3, v4] := by cases args; simp_all
  obtain ⟨rfl, rfl⟩ := trodVars_none hV
  obtain ⟨z0, rfl, k0⟩ := Tkop.open_track (hval 0 25 v0 rfl rfl) h0 (Opn.light_at hsz (j := 0) rfl rfl)
  obtain ⟨a1, rfl, rfl, rfl, w1⟩ := open_int Try.underlying3 (hval 1 3 v1 rfl rfl) h1
  obtain ⟨a2, rfl, rfl, rfl, w2⟩ := open_int Try.underlying2 (hval 2 2 v2 rfl rfl) h2
  obtain ⟨z3, l3, k3, rfl⟩ := okWide_slice Try.underlying59 (hval 3 59 v3 rfl rfl)
  obtain ⟨b3, c3, L3, e3, hR3, hF3, hG3⟩ := Postk.open_bits Try.underlying59 Try.underlying4 cells_bool rfl h3
  rw [e3]
  obtain ⟨z4, l4, k4, rfl⟩ := okWide_slice Try.underlying26 (hval 4 26 v4 rfl rfl)
  obtain ⟨b4, c4, L4, e4, hR4, hF4⟩ := Postm.open_pairs Try.underlying26 Try.underlying53 cells_span_Span rfl rfl (by kernel_rfl) (by kernel_rfl) Try.underlying2 Try.underlying2 rfl h4
  rw [e4]
  clear hA0 hval0
  refine (Walks.routeKeeps_walk z0.G z0.H z0.p z0.q z0.c z0.d a1 w1 a2 w2 L3 b3 c3 L4 b4 c4 W k0.segs k0.ok k0.grps k0.fewG k0.fewH k0.capG k0.capH k0.capX hR3 hR4 hF4).mono fun e W' ⟨he, hg⟩ => ?_
  subst he
  rw [e3, e4] at hW'
  exact ⟨_, rfl, Postm.post_mem (by kernel_rfl) (of_decide_eq_true (by kernel_rfl)) rfl hW' rfl (fun _ _ _ => (trodAll_cons_mk (shut_bool Try.underlying4 _) trodAll_mk0)) (fun _ => rfl)
    hg (ok_one (by kernel_rfl) rfl (okWide_bool_mk Try.underlying4 _))⟩

theorem over : Rows.routeKeepsRow.holds Try.pinned (OpenSpec.ofChange Rows.routeKeepsSpec) :=
  OpenClaim.holds_of_wide 5 Try.f5 rfl rfl rfl rfl rfl rfl rfl ⟨rfl, rfl, rfl, rfl, rfl⟩ rfl rfl rfl rfl rfl (by kernel_rfl) Try.func5 (by kernel_rfl)
    (of_decide_eq_true (by kernel_rfl)) (by unfold Func.isWrapper; first | (rw [if_pos (by decide +kernel)]; kernel_rfl) | (rw [if_neg (by decide +kernel)]; exact ⟨rfl, rfl⟩))
    (fun os started H enc _ => lifted os started H enc)

/-- The statement. -/
theorem proved : Rows.RouteKeepsSaid := over
#print axioms proved
end Go.Proofs.Ytkbaponpebkpiaa.routeKeeps
