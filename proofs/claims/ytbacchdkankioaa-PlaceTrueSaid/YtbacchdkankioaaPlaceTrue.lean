/-
  PlaceTrue: for every input the law returns true, and each argument reads afterwards as it read before. No condition.
-/
import Derived.Test.YtbacchdkankioaaRows
import Derived.Test.YtbacchdkankioaaPostb
import Derived.Test.YtbacchdkankioaaCfop
import Derived.Test.YtbacchdkankioaaPlop
import Derived.Test.YtbacchdkankioaaTkop
import Derived.SizedLaws
import Derived.Test.YtbacchdkankioaaPostk
import Derived.Test.YtbacchdkankioaaPlaceTrueWalk
import Derived.Lib.SmallJoins
import Derived.WalkKit
import Derived.ProofKit
import Derived.OpenShut
namespace Go.Proofs.Ytbacchdkankioaa.placeTrue
open Go.ChangeShapes Go.WideShapes Go.ChangeAt Go.RowKit Go.Joins
set_option linter.unusedVariables false

theorem own : ownKnob Try.prog.godebug = none := by kernel_rfl

theorem cells_span_Span : Try.prog.cellsOf 32 = 2 := by kernel_rfl
theorem cells_bool : Try.prog.cellsOf 4 = 1 := by kernel_rfl
set_option maxRecDepth 100000 in
theorem lifted (os : Os) (started : os.Started) (H : Type) (enc : TypeId × Value → H) :
    ReturnsInHanded {} Try.checked os 4 .any (Rows.placeTrueSpec.pre6 enc Try.prog Try.f4 Rows.placeTrueRow.domain false) (Rows.placeTrueSpec.post enc Try.prog Try.f4 false true false false) := by
  refine returnsInHanded_of_change_sized (C := Try.checked) own started (by kernel_rfl) Try.func4
    (ChangeSpec.witness6 (enc := enc) (C := Try.checked) false ⟨#[], #[.agg #[.int .i64 0, .int .i64 0, .int .i64 0, .int .i64 0, .int .i64 0, .int .i64 0, .int .i64 0, .int .i64 0, .int .i64 0, .int .i64 0, .int .i64 0, .int .i64 0, .int .i64 0, .int .i64 0], .agg #[.slice none 0 0, .slice none 0 0], .int .i64 0, .int .i64 0, .agg #[.int .i64 0, .int .i64 0], .slice none 0 0, .slice none 0 0], []⟩ 8 (by kernel_rfl) (by kernel_rfl) (by kernel_rfl) (by kernel_rfl)) ?_
  intro W base args ds gs before hval0 hW hcnd hsz _
  have hval : ∀ (j : Nat) t v, Try.f4.params[j]? = some t → args[j]? = some v → Value.okWide Try.prog W .any base t v := hval0
  have hW' := hW
  obtain ⟨p, q, hA0, hV, rfl, hfz, hnd⟩ := hW
  have hA : DataW.TrodAll enc Try.prog W 0 (fun _ => true) true Try.f4.params.toList args.toList ds p := hA0
  rw [Try.params4] at hA hval hsz
  obtain ⟨v0, vs0, d0, ds0, p0, q0, hargs, rfl, rfl, h0, r0⟩ := trodAll_cons hA
  obtain ⟨v1, vs1, d1, ds1, p1, q1, rfl, rfl, rfl, h1, r1⟩ := trodAll_cons r0
  obtain ⟨v2, vs2, d2, ds2, p2, q2, rfl, rfl, rfl, h2, r2⟩ := trodAll_cons r1
  obtain ⟨v3, vs3, d3, ds3, p3, q3, rfl, rfl, rfl, h3, r3⟩ := trodAll_cons r2
  obtain ⟨v4, vs4, d4, ds4, p4, q4, rfl, rfl, rfl, h4, r4⟩ := trodAll_cons r3
  obtain ⟨v5, vs5, d5, ds5, p5, q5, rfl, rfl, rfl, h5, r5⟩ := trodAll_cons r4
  obtain ⟨v6, vs6, d6, ds6, p6, q6, rfl, rfl, rfl, h6, r6⟩ := trodAll_cons r5
  obtain ⟨rfl, rfl, rfl⟩ := trodAll_nil r6
  obtain rfl : args = #[v0, v1, v2, v3, v4, v5, v6] := by cases args; simp_all
  obtain ⟨rfl, rfl⟩ := trodVars_none hV
  obtain ⟨z0, rfl, k0⟩ := Cfop.open_conf (hval 0 23 v0 rfl rfl) h0 (Opn.light_at hsz (j := 0) rfl rfl)
  obtain ⟨z1, rfl, k1⟩ := Tkop.open_track (hval 1 27 v1 rfl rfl) h1 (Opn.light_at hsz (j := 1) rfl rfl)
  obtain ⟨a2, rfl, rfl, rfl, w2⟩ := open_int Try.underlying3 (hval 2 3 v2 rfl rfl) h2
  obtain ⟨a3, rfl, rfl, rfl, w3⟩ := open_int Try.underlying2 (hval 3 2 v3 rfl rfl) h3
  obtain ⟨c4_0, c4_1, y4_0, y4_1, m4, rfl, rfl, rfl, hy4_0, hy4_1⟩ := open_agg2 Try.underlying32 (by kernel_rfl) cells_span_Span (hval 4 32 v4 rfl rfl) h4
  obtain ⟨a4_0, e4_0, rfl, w4_0⟩ := DataW.trod_int Try.underlying2 hy4_0
  obtain ⟨a4_1, e4_1, rfl, w4_1⟩ := DataW.trod_int Try.underlying2 hy4_1
  simp at e4_0 e4_1
  subst e4_0 e4_1
  obtain ⟨z5, rfl, k5⟩ := Plop.open_rides (hval 5 59 v5 rfl rfl) h5 (Opn.light_at hsz (j := 5) rfl rfl)
  obtain ⟨z6, l6, k6, rfl⟩ := okWide_slice Try.underlying60 (hval 6 60 v6 rfl rfl)
  obtain ⟨b6, c6, L6, e6, hR6, hF6, hG6⟩ := Postk.open_bits Try.underlying60 Try.underlying4 cells_bool rfl h6
  rw [e6]
  clear hA0 hval0
  refine (Walks.placeTrue_walk z0 z1.G z1.H z1.p z1.q z1.c z1.d a2 w2 a3 w3 a4_0 w4_0 a4_1 w4_1 z5.L z5.p z5.c L6 b6 c6 W  k1.segs k1.ok k1.grps k1.fewG k1.fewH k1.capG k1.capH k1.capX k5.reads k5.few hR6).mono fun e W' ⟨he, hg⟩ => ?_
  subst he
  rw [e6] at hW'
  exact ⟨_, rfl, Postb.post_mem (by kernel_rfl) (of_decide_eq_true (by kernel_rfl)) rfl hW' rfl (fun _ _ _ => (trodAll_cons_mk (shut_bool Try.underlying4 _) trodAll_mk0)) (fun _ => rfl)
    hg (ok_one (by kernel_rfl) rfl (okWide_bool_mk Try.underlying4 _))⟩

theorem over : Rows.placeTrueRow.holds Try.pinned (OpenSpec.ofChange Rows.placeTrueSpec) :=
  OpenClaim.holds_of_wide 4 Try.f4 rfl rfl rfl rfl rfl rfl rfl ⟨rfl, rfl, rfl, rfl, rfl⟩ rfl rfl rfl rfl rfl (by kernel_rfl) Try.func4 (by kernel_rfl)
    (of_decide_eq_true (by kernel_rfl)) (by unfold Func.isWrapper; first | (rw [if_pos (by decide +kernel)]; kernel_rfl) | (rw [if_neg (by decide +kernel)]; exact ⟨rfl, rfl⟩))
    (fun os started H enc _ => lifted os started H enc)

/-- The statement. -/
theorem proved : Rows.PlaceTrueSaid := over
#print axioms proved
end Go.Proofs.Ytbacchdkankioaa.placeTrue
