/-
  No cell of these rows narrows 'for every input' (looked for: loops, veiled, ifaces, maps, wideKeys, modest, calm, conditions, laid).
  DERIVED. THE GIVEN ROWS OF THIS SEAT. 3 by the template 'for every input the law returns true; each argument reads behind the call as it read before'; 0 by the template 'total and deterministic' (their statements: YtjpkcpoamkameaaTotals.lean).
  GIVEN WITH THE SEED: the statements are not yours to turn. If you find one false, say at which input.
  Laid BY PROGRAM, IN A SANDBOX (cutbox-rows.mjs): the forced cells as the released guide's own fill.sh prints them over the translation 6d597bb5b4547012… (all of the seat's roots in one cut). By AI agents, Wed Nov 11 2026. No macro, syntax, notation, axiom, sorry.
-/
import Derived.Test.YtjpkcpoamkameaaChecked
import GoSem.Claim
import GoSem.ClaimJoined
import GoSem.ClaimMapViews
import Derived.JoinedTies
import Derived.KernelRfl
namespace Go.Proofs.Ytjpkcpoamkameaa
/- THE CELL 'sum', in the pinned program and in every row, IS THE sha256 OF THE DUMP (.gsa) THAT YtjpkcpoamkameaaProg.lean LOADS. Nothing in Lean hashes anything: it is a label: what it is worth is what the hold of that sum in a sandbox is worth. -/
noncomputable def Try.pinned : Pinned := { name := "ytjpkcpoamkameaa", sum := "6d597bb5b45470120679d68683f69891a8007b590272d93f70824eec57b5dd3c", checked := Try.checked }
namespace Rows
def none {H : Type} : Left H := { results := [], args := [] }

/-- 'odographlaw19.RollPlays': WHATEVER THE INPUT: true; the input reads as it did. -/
def rollPlaysSpec : ChangeSpec := { name := "rollPlays", fn := fun _ => fun
  | [d1, d2] => { results := [.lit (.bool true)], args := [d1, d2] }
  | _ => none }
def rollPlaysRow : OpenClaim := { program := "ytjpkcpoamkameaa", sum := "6d597bb5b45470120679d68683f69891a8007b590272d93f70824eec57b5dd3c", func := "odograph/odographlaw19.RollPlays", spec := "rollPlays", apart := false }
def RollPlaysSaid : Prop := rollPlaysRow.holds Try.pinned (OpenSpec.ofChange rollPlaysSpec)

/-- ITS FALSE NEIGHBOUR: 'it returns false'. Refute it at one input. -/
def rollPlaysWrong : ChangeSpec := { name := "rollPlays", fn := fun _ => fun
  | [d1, d2] => { results := [.lit (.bool false)], args := [d1, d2] }
  | _ => none }
def RollPlaysWrongFalsely : Prop := rollPlaysRow.holds Try.pinned (OpenSpec.ofChange rollPlaysWrong)

/-- 'odographlaw19.RollTrue': WHATEVER THE INPUT: true; the input reads as it did. -/
def rollTrueSpec : ChangeSpec := { name := "rollTrue", fn := fun _ => fun
  | [d1, d2] => { results := [.lit (.bool true)], args := [d1, d2] }
  | _ => none }
def rollTrueRow : OpenClaim := { program := "ytjpkcpoamkameaa", sum := "6d597bb5b45470120679d68683f69891a8007b590272d93f70824eec57b5dd3c", func := "odograph/odographlaw19.RollTrue", spec := "rollTrue", apart := false }
def RollTrueSaid : Prop := rollTrueRow.holds Try.pinned (OpenSpec.ofChange rollTrueSpec)

/-- ITS FALSE NEIGHBOUR: 'it returns false'. Refute it at one input. -/
def rollTrueWrong : ChangeSpec := { name := "rollTrue", fn := fun _ => fun
  | [d1, d2] => { results := [.lit (.bool false)], args := [d1, d2] }
  | _ => none }
def RollTrueWrongFalsely : Prop := rollTrueRow.holds Try.pinned (OpenSpec.ofChange rollTrueWrong)

/-- 'odographlaw19.RollMirrored': WHATEVER THE INPUT: true; the input reads as it did. -/
def rollMirroredSpec : ChangeSpec := { name := "rollMirrored", fn := fun _ => fun
  | [d1, d2] => { results := [.lit (.bool true)], args := [d1, d2] }
  | _ => none }
def rollMirroredRow : OpenClaim := { program := "ytjpkcpoamkameaa", sum := "6d597bb5b45470120679d68683f69891a8007b590272d93f70824eec57b5dd3c", func := "odograph/odographlaw19.RollMirrored", spec := "rollMirrored", apart := false }
def RollMirroredSaid : Prop := rollMirroredRow.holds Try.pinned (OpenSpec.ofChange rollMirroredSpec)

/-- ITS FALSE NEIGHBOUR: 'it returns false'. Refute it at one input. -/
def rollMirroredWrong : ChangeSpec := { name := "rollMirrored", fn := fun _ => fun
  | [d1, d2] => { results := [.lit (.bool false)], args := [d1, d2] }
  | _ => none }
def RollMirroredWrongFalsely : Prop := rollMirroredRow.holds Try.pinned (OpenSpec.ofChange rollMirroredWrong)

/- THE SECOND FORM. 'bulk': how many values and letters a reading holds, each counted each time it is reached (what is shared counts as often as it is met; a slice's spare places count too). A statement '..UptoSaid' is the law's where the arguments, and the package variables that the reading takes, are together of bulk at most 1048576: NARROWER than '..Said'. Prove '..Said' where nothing that the law and all that it calls make is longer than what came in: it says more and counts as full. Else prove '..UptoSaid'. A law counts once. -/
mutual
def uptoBulk {H : Type} : DataW H → Nat
  | .lit (.string bytes) => bytes.length + 1
  | .lit _ => 1
  | .nil => 1
  | .ptr d => uptoBulk d + 1
  | .slice elems spare => uptoBulkAll elems + uptoBulkAll spare + 1
  | .agg parts => uptoBulkAll parts + 1
  | .iface _ d => uptoBulk d + 1
  | .map entries => uptoBulkEntries entries + 1
  | .held _ => 1
def uptoBulkAll {H : Type} : List (DataW H) → Nat
  | [] => 0
  | d :: r => uptoBulk d + uptoBulkAll r
def uptoBulkEntries {H : Type} : List (Lit × DataW H) → Nat
  | [] => 0
  | x :: r => uptoBulkEntry x + uptoBulkEntries r
def uptoBulkEntry {H : Type} : Lit × DataW H → Nat
  | (.string bytes, d) => bytes.length + uptoBulk d + 1
  | (_, d) => uptoBulk d + 1
 end
def uptoSmall : (H : Type) → List (DataW H) → Bool := fun _ ds => decide (uptoBulkAll ds ≤ 1048576)
def OpenSpec.upto (s : _root_.Go.ChangeSpec) : _root_.Go.OpenSpec := { _root_.Go.OpenSpec.ofChange s with cond := some uptoSmall }

/-- 'odographlaw19.RollPlays', WHERE WHAT IT READS IS OF BULK AT MOST 1048576: true; the input reads as it did. -/
def rollPlaysUptoRow : OpenClaim := { program := "ytjpkcpoamkameaa", sum := "6d597bb5b45470120679d68683f69891a8007b590272d93f70824eec57b5dd3c", func := "odograph/odographlaw19.RollPlays", spec := "rollPlays", apart := false, narrowed := true }
def RollPlaysUptoSaid : Prop := rollPlaysUptoRow.holds Try.pinned (OpenSpec.upto rollPlaysSpec)

/-- 'odographlaw19.RollTrue', WHERE WHAT IT READS IS OF BULK AT MOST 1048576: true; the input reads as it did. -/
def rollTrueUptoRow : OpenClaim := { program := "ytjpkcpoamkameaa", sum := "6d597bb5b45470120679d68683f69891a8007b590272d93f70824eec57b5dd3c", func := "odograph/odographlaw19.RollTrue", spec := "rollTrue", apart := false, narrowed := true }
def RollTrueUptoSaid : Prop := rollTrueUptoRow.holds Try.pinned (OpenSpec.upto rollTrueSpec)

/-- 'odographlaw19.RollMirrored', WHERE WHAT IT READS IS OF BULK AT MOST 1048576: true; the input reads as it did. -/
def rollMirroredUptoRow : OpenClaim := { program := "ytjpkcpoamkameaa", sum := "6d597bb5b45470120679d68683f69891a8007b590272d93f70824eec57b5dd3c", func := "odograph/odographlaw19.RollMirrored", spec := "rollMirrored", apart := false, narrowed := true }
def RollMirroredUptoSaid : Prop := rollMirroredUptoRow.holds Try.pinned (OpenSpec.upto rollMirroredSpec)

end Rows
end Go.Proofs.Ytjpkcpoamkameaa
