/-
  No cell of these rows narrows 'for every input' (looked for: loops, veiled, ifaces, maps, wideKeys, modest, calm, conditions, laid).
  DERIVED. THE GIVEN ROWS OF THIS SEAT. 4 by the template 'for every input the law returns true; each argument reads behind the call as it read before'; 0 by the template 'total and deterministic' (their statements: YtlbfecplhbkfiaaTotals.lean).
  GIVEN WITH THE SEED: the statements are not yours to turn. If you find one false, say at which input.
  Laid BY PROGRAM, IN A SANDBOX (cutbox-rows.mjs): the forced cells as the released guide's own fill.sh prints them over the translation 7384ad9ce2ac43b2… (all of the seat's roots in one cut). By AI agents, Wed Nov 11 2026. No macro, syntax, notation, axiom, sorry.
-/
import Derived.Test.YtlbfecplhbkfiaaChecked
import GoSem.Claim
import GoSem.ClaimJoined
import GoSem.ClaimMapViews
import Derived.JoinedTies
import Derived.KernelRfl
namespace Go.Proofs.Ytlbfecplhbkfiaa
/- THE CELL 'sum', in the pinned program and in every row, IS THE sha256 OF THE DUMP (.gsa) THAT YtlbfecplhbkfiaaProg.lean LOADS. Nothing in Lean hashes anything: it is a label: what it is worth is what the hold of that sum in a sandbox is worth. -/
noncomputable def Try.pinned : Pinned := { name := "ytlbfecplhbkfiaa", sum := "7384ad9ce2ac43b21709034ec470e6c23a73403ed1ef1e7f68f9095b4f317867", checked := Try.checked }
namespace Rows
def none {H : Type} : Left H := { results := [], args := [] }

/-- 'odographlaw10.GradeChecks': WHATEVER THE INPUT: true; the input reads as it did. -/
def gradeChecksSpec : ChangeSpec := { name := "gradeChecks", fn := fun _ => fun
  | [d1, d2] => { results := [.lit (.bool true)], args := [d1, d2] }
  | _ => none }
def gradeChecksRow : OpenClaim := { program := "ytlbfecplhbkfiaa", sum := "7384ad9ce2ac43b21709034ec470e6c23a73403ed1ef1e7f68f9095b4f317867", func := "odograph/odographlaw10.GradeChecks", spec := "gradeChecks", unfollowed := true, recurses := true, apart := false }
def GradeChecksSaid : Prop := gradeChecksRow.holds Try.pinned (OpenSpec.ofChange gradeChecksSpec)

/-- ITS FALSE NEIGHBOUR: 'it returns false'. Refute it at one input. -/
def gradeChecksWrong : ChangeSpec := { name := "gradeChecks", fn := fun _ => fun
  | [d1, d2] => { results := [.lit (.bool false)], args := [d1, d2] }
  | _ => none }
def GradeChecksWrongFalsely : Prop := gradeChecksRow.holds Try.pinned (OpenSpec.ofChange gradeChecksWrong)

/-- 'odographlaw10.GradeAt': WHATEVER THE INPUT: true; the input reads as it did. -/
def gradeAtSpec : ChangeSpec := { name := "gradeAt", fn := fun _ => fun
  | [d1, d2, d3] => { results := [.lit (.bool true)], args := [d1, d2, d3] }
  | _ => none }
def gradeAtRow : OpenClaim := { program := "ytlbfecplhbkfiaa", sum := "7384ad9ce2ac43b21709034ec470e6c23a73403ed1ef1e7f68f9095b4f317867", func := "odograph/odographlaw10.GradeAt", spec := "gradeAt", unfollowed := true, recurses := true, apart := false }
def GradeAtSaid : Prop := gradeAtRow.holds Try.pinned (OpenSpec.ofChange gradeAtSpec)

/-- ITS FALSE NEIGHBOUR: 'it returns false'. Refute it at one input. -/
def gradeAtWrong : ChangeSpec := { name := "gradeAt", fn := fun _ => fun
  | [d1, d2, d3] => { results := [.lit (.bool false)], args := [d1, d2, d3] }
  | _ => none }
def GradeAtWrongFalsely : Prop := gradeAtRow.holds Try.pinned (OpenSpec.ofChange gradeAtWrong)

/-- 'odographlaw10.GradeBounds': WHATEVER THE INPUT: true; the input reads as it did. -/
def gradeBoundsSpec : ChangeSpec := { name := "gradeBounds", fn := fun _ => fun
  | [d1, d2] => { results := [.lit (.bool true)], args := [d1, d2] }
  | _ => none }
def gradeBoundsRow : OpenClaim := { program := "ytlbfecplhbkfiaa", sum := "7384ad9ce2ac43b21709034ec470e6c23a73403ed1ef1e7f68f9095b4f317867", func := "odograph/odographlaw10.GradeBounds", spec := "gradeBounds", unfollowed := true, recurses := true, apart := false }
def GradeBoundsSaid : Prop := gradeBoundsRow.holds Try.pinned (OpenSpec.ofChange gradeBoundsSpec)

/-- ITS FALSE NEIGHBOUR: 'it returns false'. Refute it at one input. -/
def gradeBoundsWrong : ChangeSpec := { name := "gradeBounds", fn := fun _ => fun
  | [d1, d2] => { results := [.lit (.bool false)], args := [d1, d2] }
  | _ => none }
def GradeBoundsWrongFalsely : Prop := gradeBoundsRow.holds Try.pinned (OpenSpec.ofChange gradeBoundsWrong)

/-- 'odographlaw10.GradeWiden': WHATEVER THE INPUT: true; the input reads as it did. -/
def gradeWidenSpec : ChangeSpec := { name := "gradeWiden", fn := fun _ => fun
  | [d1, d2, d3, d4] => { results := [.lit (.bool true)], args := [d1, d2, d3, d4] }
  | _ => none }
def gradeWidenRow : OpenClaim := { program := "ytlbfecplhbkfiaa", sum := "7384ad9ce2ac43b21709034ec470e6c23a73403ed1ef1e7f68f9095b4f317867", func := "odograph/odographlaw10.GradeWiden", spec := "gradeWiden", unfollowed := true, recurses := true, apart := false }
def GradeWidenSaid : Prop := gradeWidenRow.holds Try.pinned (OpenSpec.ofChange gradeWidenSpec)

/-- ITS FALSE NEIGHBOUR: 'it returns false'. Refute it at one input. -/
def gradeWidenWrong : ChangeSpec := { name := "gradeWiden", fn := fun _ => fun
  | [d1, d2, d3, d4] => { results := [.lit (.bool false)], args := [d1, d2, d3, d4] }
  | _ => none }
def GradeWidenWrongFalsely : Prop := gradeWidenRow.holds Try.pinned (OpenSpec.ofChange gradeWidenWrong)

/- THE SECOND FORM. 'bulk': how many values and letters a reading holds, each counted each time it is reached (what is shared counts as often as it is met; a slice's spare places count too). A statement '..UptoSaid' is the law's where the arguments, and the package variables that the reading takes, are together of bulk at most 1048576: NARROWER than '..Said'. Prove '..Said' where nothing that the law and all that it calls make is longer than what came in: it says more and counts as full. Else prove '..UptoSaid'. A law counts once. -/
mutual
def uptoBulk {H : Type} : DataW H → Nat
  | .lit (.string bytes) => bytes.length + 1
  | .lit _ => 1
  | .nil => 1
  | .ptr d => uptoBulk d + 1
  | .slice elems spare => uptoBulkAll elems + uptoBulkAll spare + 1
  | .agg parts => uptoBulkAll parts + 1
  | .iface _ d => uptoBulk d + 1
  | .map entries => uptoBulkEntries entries + 1
  | .held _ => 1
def uptoBulkAll {H : Type} : List (DataW H) → Nat
  | [] => 0
  | d :: r => uptoBulk d + uptoBulkAll r
def uptoBulkEntries {H : Type} : List (Lit × DataW H) → Nat
  | [] => 0
  | x :: r => uptoBulkEntry x + uptoBulkEntries r
def uptoBulkEntry {H : Type} : Lit × DataW H → Nat
  | (.string bytes, d) => bytes.length + uptoBulk d + 1
  | (_, d) => uptoBulk d + 1
 end
def uptoSmall : (H : Type) → List (DataW H) → Bool := fun _ ds => decide (uptoBulkAll ds ≤ 1048576)
def OpenSpec.upto (s : _root_.Go.ChangeSpec) : _root_.Go.OpenSpec := { _root_.Go.OpenSpec.ofChange s with cond := some uptoSmall }

/-- 'odographlaw10.GradeChecks', WHERE WHAT IT READS IS OF BULK AT MOST 1048576: true; the input reads as it did. -/
def gradeChecksUptoRow : OpenClaim := { program := "ytlbfecplhbkfiaa", sum := "7384ad9ce2ac43b21709034ec470e6c23a73403ed1ef1e7f68f9095b4f317867", func := "odograph/odographlaw10.GradeChecks", spec := "gradeChecks", unfollowed := true, recurses := true, apart := false, narrowed := true }
def GradeChecksUptoSaid : Prop := gradeChecksUptoRow.holds Try.pinned (OpenSpec.upto gradeChecksSpec)

/-- 'odographlaw10.GradeAt', WHERE WHAT IT READS IS OF BULK AT MOST 1048576: true; the input reads as it did. -/
def gradeAtUptoRow : OpenClaim := { program := "ytlbfecplhbkfiaa", sum := "7384ad9ce2ac43b21709034ec470e6c23a73403ed1ef1e7f68f9095b4f317867", func := "odograph/odographlaw10.GradeAt", spec := "gradeAt", unfollowed := true, recurses := true, apart := false, narrowed := true }
def GradeAtUptoSaid : Prop := gradeAtUptoRow.holds Try.pinned (OpenSpec.upto gradeAtSpec)

/-- 'odographlaw10.GradeBounds', WHERE WHAT IT READS IS OF BULK AT MOST 1048576: true; the input reads as it did. -/
def gradeBoundsUptoRow : OpenClaim := { program := "ytlbfecplhbkfiaa", sum := "7384ad9ce2ac43b21709034ec470e6c23a73403ed1ef1e7f68f9095b4f317867", func := "odograph/odographlaw10.GradeBounds", spec := "gradeBounds", unfollowed := true, recurses := true, apart := false, narrowed := true }
def GradeBoundsUptoSaid : Prop := gradeBoundsUptoRow.holds Try.pinned (OpenSpec.upto gradeBoundsSpec)

/-- 'odographlaw10.GradeWiden', WHERE WHAT IT READS IS OF BULK AT MOST 1048576: true; the input reads as it did. -/
def gradeWidenUptoRow : OpenClaim := { program := "ytlbfecplhbkfiaa", sum := "7384ad9ce2ac43b21709034ec470e6c23a73403ed1ef1e7f68f9095b4f317867", func := "odograph/odographlaw10.GradeWiden", spec := "gradeWiden", unfollowed := true, recurses := true, apart := false, narrowed := true }
def GradeWidenUptoSaid : Prop := gradeWidenUptoRow.holds Try.pinned (OpenSpec.upto gradeWidenSpec)

end Rows
end Go.Proofs.Ytlbfecplhbkfiaa
