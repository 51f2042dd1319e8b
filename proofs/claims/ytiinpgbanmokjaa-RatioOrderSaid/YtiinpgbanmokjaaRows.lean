/-
  No cell of these rows narrows 'for every input' (looked for: loops, veiled, ifaces, maps, wideKeys, modest, calm, conditions, laid).
  DERIVED. THE GIVEN ROWS OF THIS SEAT. 5 by the template 'for every input the law returns true; each argument reads behind the call as it read before'; 0 by the template 'total and deterministic' (their statements: YtiinpgbanmokjaaTotals.lean).
  GIVEN WITH THE SEED: the statements are not yours to turn. If you find one false, say at which input.
  Laid BY PROGRAM, IN A SANDBOX (cutbox-rows.mjs): the forced cells as the released guide's own fill.sh prints them over the translation c13ace7ff5d12147… (all of the seat's roots in one cut). By AI agents, Wed Nov 11 2026. No macro, syntax, notation, axiom, sorry.
-/
import Derived.Test.YtiinpgbanmokjaaChecked
import GoSem.Claim
import GoSem.ClaimJoined
import GoSem.ClaimMapViews
import Derived.JoinedTies
import Derived.KernelRfl
namespace Go.Proofs.Ytiinpgbanmokjaa
/- THE CELL 'sum', in the pinned program and in every row, IS THE sha256 OF THE DUMP (.gsa) THAT YtiinpgbanmokjaaProg.lean LOADS. Nothing in Lean hashes anything: it is a label: what it is worth is what the hold of that sum in a sandbox is worth. -/
noncomputable def Try.pinned : Pinned := { name := "ytiinpgbanmokjaa", sum := "c13ace7ff5d12147b684f70a2a7f86050dd22a281debc99527a8a3dac1681ee9", checked := Try.checked }
namespace Rows
def none {H : Type} : Left H := { results := [], args := [] }

/-- 'odographlaw03.RatioFloors': WHATEVER THE INPUT: true; the input reads as it did. -/
def ratioFloorsSpec : ChangeSpec := { name := "ratioFloors", fn := fun _ => fun
  | [d1, d2, d3] => { results := [.lit (.bool true)], args := [d1, d2, d3] }
  | _ => none }
def ratioFloorsRow : OpenClaim := { program := "ytiinpgbanmokjaa", sum := "c13ace7ff5d12147b684f70a2a7f86050dd22a281debc99527a8a3dac1681ee9", func := "odograph/odographlaw03.RatioFloors", spec := "ratioFloors", inPlace := ["math/bits.Add64"], named := ["math/bits.divideError", "math/bits.overflowError"], apart := false }
def RatioFloorsSaid : Prop := ratioFloorsRow.holds Try.pinned (OpenSpec.ofChange ratioFloorsSpec)

/-- ITS FALSE NEIGHBOUR: 'it returns false'. Refute it at one input. -/
def ratioFloorsWrong : ChangeSpec := { name := "ratioFloors", fn := fun _ => fun
  | [d1, d2, d3] => { results := [.lit (.bool false)], args := [d1, d2, d3] }
  | _ => none }
def RatioFloorsWrongFalsely : Prop := ratioFloorsRow.holds Try.pinned (OpenSpec.ofChange ratioFloorsWrong)

/-- 'odographlaw03.RatioCeils': WHATEVER THE INPUT: true; the input reads as it did. -/
def ratioCeilsSpec : ChangeSpec := { name := "ratioCeils", fn := fun _ => fun
  | [d1, d2, d3] => { results := [.lit (.bool true)], args := [d1, d2, d3] }
  | _ => none }
def ratioCeilsRow : OpenClaim := { program := "ytiinpgbanmokjaa", sum := "c13ace7ff5d12147b684f70a2a7f86050dd22a281debc99527a8a3dac1681ee9", func := "odograph/odographlaw03.RatioCeils", spec := "ratioCeils", inPlace := ["math/bits.Add64"], named := ["math/bits.divideError", "math/bits.overflowError"], apart := false }
def RatioCeilsSaid : Prop := ratioCeilsRow.holds Try.pinned (OpenSpec.ofChange ratioCeilsSpec)

/-- ITS FALSE NEIGHBOUR: 'it returns false'. Refute it at one input. -/
def ratioCeilsWrong : ChangeSpec := { name := "ratioCeils", fn := fun _ => fun
  | [d1, d2, d3] => { results := [.lit (.bool false)], args := [d1, d2, d3] }
  | _ => none }
def RatioCeilsWrongFalsely : Prop := ratioCeilsRow.holds Try.pinned (OpenSpec.ofChange ratioCeilsWrong)

/-- 'odographlaw03.RatioBoth': WHATEVER THE INPUT: true; the input reads as it did. -/
def ratioBothSpec : ChangeSpec := { name := "ratioBoth", fn := fun _ => fun
  | [d1, d2, d3] => { results := [.lit (.bool true)], args := [d1, d2, d3] }
  | _ => none }
def ratioBothRow : OpenClaim := { program := "ytiinpgbanmokjaa", sum := "c13ace7ff5d12147b684f70a2a7f86050dd22a281debc99527a8a3dac1681ee9", func := "odograph/odographlaw03.RatioBoth", spec := "ratioBoth", inPlace := ["math/bits.Add64"], named := ["math/bits.divideError", "math/bits.overflowError"], apart := false }
def RatioBothSaid : Prop := ratioBothRow.holds Try.pinned (OpenSpec.ofChange ratioBothSpec)

/-- ITS FALSE NEIGHBOUR: 'it returns false'. Refute it at one input. -/
def ratioBothWrong : ChangeSpec := { name := "ratioBoth", fn := fun _ => fun
  | [d1, d2, d3] => { results := [.lit (.bool false)], args := [d1, d2, d3] }
  | _ => none }
def RatioBothWrongFalsely : Prop := ratioBothRow.holds Try.pinned (OpenSpec.ofChange ratioBothWrong)

/-- 'odographlaw03.RatioRoots': WHATEVER THE INPUT: true; the input reads as it did. -/
def ratioRootsSpec : ChangeSpec := { name := "ratioRoots", fn := fun _ => fun
  | [d1, d2] => { results := [.lit (.bool true)], args := [d1, d2] }
  | _ => none }
def ratioRootsRow : OpenClaim := { program := "ytiinpgbanmokjaa", sum := "c13ace7ff5d12147b684f70a2a7f86050dd22a281debc99527a8a3dac1681ee9", func := "odograph/odographlaw03.RatioRoots", spec := "ratioRoots", inPlace := ["math/bits.Add64"], named := ["math/bits.divideError", "math/bits.overflowError"], apart := false }
def RatioRootsSaid : Prop := ratioRootsRow.holds Try.pinned (OpenSpec.ofChange ratioRootsSpec)

/-- ITS FALSE NEIGHBOUR: 'it returns false'. Refute it at one input. -/
def ratioRootsWrong : ChangeSpec := { name := "ratioRoots", fn := fun _ => fun
  | [d1, d2] => { results := [.lit (.bool false)], args := [d1, d2] }
  | _ => none }
def RatioRootsWrongFalsely : Prop := ratioRootsRow.holds Try.pinned (OpenSpec.ofChange ratioRootsWrong)

/-- 'odographlaw03.RatioOrder': WHATEVER THE INPUT: true; the input reads as it did. -/
def ratioOrderSpec : ChangeSpec := { name := "ratioOrder", fn := fun _ => fun
  | [d1, d2, d3, d4] => { results := [.lit (.bool true)], args := [d1, d2, d3, d4] }
  | _ => none }
def ratioOrderRow : OpenClaim := { program := "ytiinpgbanmokjaa", sum := "c13ace7ff5d12147b684f70a2a7f86050dd22a281debc99527a8a3dac1681ee9", func := "odograph/odographlaw03.RatioOrder", spec := "ratioOrder", inPlace := ["math/bits.Add64"], named := ["math/bits.divideError", "math/bits.overflowError"], apart := false }
def RatioOrderSaid : Prop := ratioOrderRow.holds Try.pinned (OpenSpec.ofChange ratioOrderSpec)

/-- ITS FALSE NEIGHBOUR: 'it returns false'. Refute it at one input. -/
def ratioOrderWrong : ChangeSpec := { name := "ratioOrder", fn := fun _ => fun
  | [d1, d2, d3, d4] => { results := [.lit (.bool false)], args := [d1, d2, d3, d4] }
  | _ => none }
def RatioOrderWrongFalsely : Prop := ratioOrderRow.holds Try.pinned (OpenSpec.ofChange ratioOrderWrong)

/- THE SECOND FORM. 'bulk': how many values and letters a reading holds, each counted each time it is reached (what is shared counts as often as it is met; a slice's spare places count too). A statement '..UptoSaid' is the law's where the arguments, and the package variables that the reading takes, are together of bulk at most 1048576: NARROWER than '..Said'. Prove '..Said' where nothing that the law and all that it calls make is longer than what came in: it says more and counts as full. Else prove '..UptoSaid'. A law counts once. -/
mutual
def uptoBulk {H : Type} : DataW H → Nat
  | .lit (.string bytes) => bytes.length + 1
  | .lit _ => 1
  | .nil => 1
  | .ptr d => uptoBulk d + 1
  | .slice elems spare => uptoBulkAll elems + uptoBulkAll spare + 1
  | .agg parts => uptoBulkAll parts + 1
  | .iface _ d => uptoBulk d + 1
  | .map entries => uptoBulkEntries entries + 1
  | .held _ => 1
def uptoBulkAll {H : Type} : List (DataW H) → Nat
  | [] => 0
  | d :: r => uptoBulk d + uptoBulkAll r
def uptoBulkEntries {H : Type} : List (Lit × DataW H) → Nat
  | [] => 0
  | x :: r => uptoBulkEntry x + uptoBulkEntries r
def uptoBulkEntry {H : Type} : Lit × DataW H → Nat
  | (.string bytes, d) => bytes.length + uptoBulk d + 1
  | (_, d) => uptoBulk d + 1
 end
def uptoSmall : (H : Type) → List (DataW H) → Bool := fun _ ds => decide (uptoBulkAll ds ≤ 1048576)
def OpenSpec.upto (s : _root_.Go.ChangeSpec) : _root_.Go.OpenSpec := { _root_.Go.OpenSpec.ofChange s with cond := some uptoSmall }

/-- 'odographlaw03.RatioFloors', WHERE WHAT IT READS IS OF BULK AT MOST 1048576: true; the input reads as it did. -/
def ratioFloorsUptoRow : OpenClaim := { program := "ytiinpgbanmokjaa", sum := "c13ace7ff5d12147b684f70a2a7f86050dd22a281debc99527a8a3dac1681ee9", func := "odograph/odographlaw03.RatioFloors", spec := "ratioFloors", inPlace := ["math/bits.Add64"], named := ["math/bits.divideError", "math/bits.overflowError"], apart := false, narrowed := true }
def RatioFloorsUptoSaid : Prop := ratioFloorsUptoRow.holds Try.pinned (OpenSpec.upto ratioFloorsSpec)

/-- 'odographlaw03.RatioCeils', WHERE WHAT IT READS IS OF BULK AT MOST 1048576: true; the input reads as it did. -/
def ratioCeilsUptoRow : OpenClaim := { program := "ytiinpgbanmokjaa", sum := "c13ace7ff5d12147b684f70a2a7f86050dd22a281debc99527a8a3dac1681ee9", func := "odograph/odographlaw03.RatioCeils", spec := "ratioCeils", inPlace := ["math/bits.Add64"], named := ["math/bits.divideError", "math/bits.overflowError"], apart := false, narrowed := true }
def RatioCeilsUptoSaid : Prop := ratioCeilsUptoRow.holds Try.pinned (OpenSpec.upto ratioCeilsSpec)

/-- 'odographlaw03.RatioBoth', WHERE WHAT IT READS IS OF BULK AT MOST 1048576: true; the input reads as it did. -/
def ratioBothUptoRow : OpenClaim := { program := "ytiinpgbanmokjaa", sum := "c13ace7ff5d12147b684f70a2a7f86050dd22a281debc99527a8a3dac1681ee9", func := "odograph/odographlaw03.RatioBoth", spec := "ratioBoth", inPlace := ["math/bits.Add64"], named := ["math/bits.divideError", "math/bits.overflowError"], apart := false, narrowed := true }
def RatioBothUptoSaid : Prop := ratioBothUptoRow.holds Try.pinned (OpenSpec.upto ratioBothSpec)

/-- 'odographlaw03.RatioRoots', WHERE WHAT IT READS IS OF BULK AT MOST 1048576: true; the input reads as it did. -/
def ratioRootsUptoRow : OpenClaim := { program := "ytiinpgbanmokjaa", sum := "c13ace7ff5d12147b684f70a2a7f86050dd22a281debc99527a8a3dac1681ee9", func := "odograph/odographlaw03.RatioRoots", spec := "ratioRoots", inPlace := ["math/bits.Add64"], named := ["math/bits.divideError", "math/bits.overflowError"], apart := false, narrowed := true }
def RatioRootsUptoSaid : Prop := ratioRootsUptoRow.holds Try.pinned (OpenSpec.upto ratioRootsSpec)

/-- 'odographlaw03.RatioOrder', WHERE WHAT IT READS IS OF BULK AT MOST 1048576: true; the input reads as it did. -/
def ratioOrderUptoRow : OpenClaim := { program := "ytiinpgbanmokjaa", sum := "c13ace7ff5d12147b684f70a2a7f86050dd22a281debc99527a8a3dac1681ee9", func := "odograph/odographlaw03.RatioOrder", spec := "ratioOrder", inPlace := ["math/bits.Add64"], named := ["math/bits.divideError", "math/bits.overflowError"], apart := false, narrowed := true }
def RatioOrderUptoSaid : Prop := ratioOrderUptoRow.holds Try.pinned (OpenSpec.upto ratioOrderSpec)

end Rows
end Go.Proofs.Ytiinpgbanmokjaa
