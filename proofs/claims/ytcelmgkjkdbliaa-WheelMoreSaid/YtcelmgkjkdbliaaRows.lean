/-
  No cell of these rows narrows 'for every input' (looked for: loops, veiled, ifaces, maps, wideKeys, modest, calm, conditions, laid).
  DERIVED. THE GIVEN ROWS OF THIS SEAT. 4 by the template 'for every input the law returns true; each argument reads behind the call as it read before'; 0 by the template 'total and deterministic' (their statements: YtcelmgkjkdbliaaTotals.lean).
  GIVEN WITH THE SEED: the statements are not yours to turn. If you find one false, say at which input.
  Laid BY PROGRAM, IN A SANDBOX (cutbox-rows.mjs): the forced cells as the released guide's own fill.sh prints them over the translation 36fd927860457be6… (all of the seat's roots in one cut). By AI agents, Wed Nov 11 2026. No macro, syntax, notation, axiom, sorry.
-/
import Derived.Test.YtcelmgkjkdbliaaChecked
import GoSem.Claim
import GoSem.ClaimJoined
import GoSem.ClaimMapViews
import Derived.JoinedTies
import Derived.KernelRfl
namespace Go.Proofs.Ytcelmgkjkdbliaa
/- THE CELL 'sum', in the pinned program and in every row, IS THE sha256 OF THE DUMP (.gsa) THAT YtcelmgkjkdbliaaProg.lean LOADS. Nothing in Lean hashes anything: it is a label: what it is worth is what the hold of that sum in a sandbox is worth. -/
noncomputable def Try.pinned : Pinned := { name := "ytcelmgkjkdbliaa", sum := "36fd927860457be6ce0ea42997a8fe5ad2a121a7c6ea8a905061ab7f3fe062de", checked := Try.checked }
namespace Rows
def none {H : Type} : Left H := { results := [], args := [] }

/-- 'odographlaw16.WheelLearns': WHATEVER THE INPUT: true; the input reads as it did. -/
def wheelLearnsSpec : ChangeSpec := { name := "wheelLearns", fn := fun _ => fun
  | [d1, d2, d3, d4] => { results := [.lit (.bool true)], args := [d1, d2, d3, d4] }
  | _ => none }
def wheelLearnsRow : OpenClaim := { program := "ytcelmgkjkdbliaa", sum := "36fd927860457be6ce0ea42997a8fe5ad2a121a7c6ea8a905061ab7f3fe062de", func := "odograph/odographlaw16.WheelLearns", spec := "wheelLearns", inPlace := ["math/bits.Add64"], named := ["math/bits.divideError", "math/bits.overflowError"], apart := false }
def WheelLearnsSaid : Prop := wheelLearnsRow.holds Try.pinned (OpenSpec.ofChange wheelLearnsSpec)

/-- ITS FALSE NEIGHBOUR: 'it returns false'. Refute it at one input. -/
def wheelLearnsWrong : ChangeSpec := { name := "wheelLearns", fn := fun _ => fun
  | [d1, d2, d3, d4] => { results := [.lit (.bool false)], args := [d1, d2, d3, d4] }
  | _ => none }
def WheelLearnsWrongFalsely : Prop := wheelLearnsRow.holds Try.pinned (OpenSpec.ofChange wheelLearnsWrong)

/-- 'odographlaw16.WheelTrue': WHATEVER THE INPUT: true; the input reads as it did. -/
def wheelTrueSpec : ChangeSpec := { name := "wheelTrue", fn := fun _ => fun
  | [d1, d2, d3, d4, d5, d6] => { results := [.lit (.bool true)], args := [d1, d2, d3, d4, d5, d6] }
  | _ => none }
def wheelTrueRow : OpenClaim := { program := "ytcelmgkjkdbliaa", sum := "36fd927860457be6ce0ea42997a8fe5ad2a121a7c6ea8a905061ab7f3fe062de", func := "odograph/odographlaw16.WheelTrue", spec := "wheelTrue", inPlace := ["math/bits.Add64"], named := ["math/bits.divideError", "math/bits.overflowError"], apart := false }
def WheelTrueSaid : Prop := wheelTrueRow.holds Try.pinned (OpenSpec.ofChange wheelTrueSpec)

/-- ITS FALSE NEIGHBOUR: 'it returns false'. Refute it at one input. -/
def wheelTrueWrong : ChangeSpec := { name := "wheelTrue", fn := fun _ => fun
  | [d1, d2, d3, d4, d5, d6] => { results := [.lit (.bool false)], args := [d1, d2, d3, d4, d5, d6] }
  | _ => none }
def WheelTrueWrongFalsely : Prop := wheelTrueRow.holds Try.pinned (OpenSpec.ofChange wheelTrueWrong)

/-- 'odographlaw16.WheelBack': WHATEVER THE INPUT: true; the input reads as it did. -/
def wheelBackSpec : ChangeSpec := { name := "wheelBack", fn := fun _ => fun
  | [d1, d2, d3, d4] => { results := [.lit (.bool true)], args := [d1, d2, d3, d4] }
  | _ => none }
def wheelBackRow : OpenClaim := { program := "ytcelmgkjkdbliaa", sum := "36fd927860457be6ce0ea42997a8fe5ad2a121a7c6ea8a905061ab7f3fe062de", func := "odograph/odographlaw16.WheelBack", spec := "wheelBack", inPlace := ["math/bits.Add64"], named := ["math/bits.divideError", "math/bits.overflowError"], apart := false }
def WheelBackSaid : Prop := wheelBackRow.holds Try.pinned (OpenSpec.ofChange wheelBackSpec)

/-- ITS FALSE NEIGHBOUR: 'it returns false'. Refute it at one input. -/
def wheelBackWrong : ChangeSpec := { name := "wheelBack", fn := fun _ => fun
  | [d1, d2, d3, d4] => { results := [.lit (.bool false)], args := [d1, d2, d3, d4] }
  | _ => none }
def WheelBackWrongFalsely : Prop := wheelBackRow.holds Try.pinned (OpenSpec.ofChange wheelBackWrong)

/-- 'odographlaw16.WheelMore': WHATEVER THE INPUT: true; the input reads as it did. -/
def wheelMoreSpec : ChangeSpec := { name := "wheelMore", fn := fun _ => fun
  | [d1, d2, d3, d4, d5] => { results := [.lit (.bool true)], args := [d1, d2, d3, d4, d5] }
  | _ => none }
def wheelMoreRow : OpenClaim := { program := "ytcelmgkjkdbliaa", sum := "36fd927860457be6ce0ea42997a8fe5ad2a121a7c6ea8a905061ab7f3fe062de", func := "odograph/odographlaw16.WheelMore", spec := "wheelMore", inPlace := ["math/bits.Add64"], named := ["math/bits.divideError", "math/bits.overflowError"], apart := false }
def WheelMoreSaid : Prop := wheelMoreRow.holds Try.pinned (OpenSpec.ofChange wheelMoreSpec)

/-- ITS FALSE NEIGHBOUR: 'it returns false'. Refute it at one input. -/
def wheelMoreWrong : ChangeSpec := { name := "wheelMore", fn := fun _ => fun
  | [d1, d2, d3, d4, d5] => { results := [.lit (.bool false)], args := [d1, d2, d3, d4, d5] }
  | _ => none }
def WheelMoreWrongFalsely : Prop := wheelMoreRow.holds Try.pinned (OpenSpec.ofChange wheelMoreWrong)

/- THE SECOND FORM. 'bulk': how many values and letters a reading holds, each counted each time it is reached (what is shared counts as often as it is met; a slice's spare places count too). A statement '..UptoSaid' is the law's where the arguments, and the package variables that the reading takes, are together of bulk at most 1048576: NARROWER than '..Said'. Prove '..Said' where nothing that the law and all that it calls make is longer than what came in: it says more and counts as full. Else prove '..UptoSaid'. A law counts once. -/
mutual
def uptoBulk {H : Type} : DataW H → Nat
  | .lit (.string bytes) => bytes.length + 1
  | .lit _ => 1
  | .nil => 1
  | .ptr d => uptoBulk d + 1
  | .slice elems spare => uptoBulkAll elems + uptoBulkAll spare + 1
  | .agg parts => uptoBulkAll parts + 1
  | .iface _ d => uptoBulk d + 1
  | .map entries => uptoBulkEntries entries + 1
  | .held _ => 1
def uptoBulkAll {H : Type} : List (DataW H) → Nat
  | [] => 0
  | d :: r => uptoBulk d + uptoBulkAll r
def uptoBulkEntries {H : Type} : List (Lit × DataW H) → Nat
  | [] => 0
  | x :: r => uptoBulkEntry x + uptoBulkEntries r
def uptoBulkEntry {H : Type} : Lit × DataW H → Nat
  | (.string bytes, d) => bytes.length + uptoBulk d + 1
  | (_, d) => uptoBulk d + 1
 end
def uptoSmall : (H : Type) → List (DataW H) → Bool := fun _ ds => decide (uptoBulkAll ds ≤ 1048576)
def OpenSpec.upto (s : _root_.Go.ChangeSpec) : _root_.Go.OpenSpec := { _root_.Go.OpenSpec.ofChange s with cond := some uptoSmall }

/-- 'odographlaw16.WheelLearns', WHERE WHAT IT READS IS OF BULK AT MOST 1048576: true; the input reads as it did. -/
def wheelLearnsUptoRow : OpenClaim := { program := "ytcelmgkjkdbliaa", sum := "36fd927860457be6ce0ea42997a8fe5ad2a121a7c6ea8a905061ab7f3fe062de", func := "odograph/odographlaw16.WheelLearns", spec := "wheelLearns", inPlace := ["math/bits.Add64"], named := ["math/bits.divideError", "math/bits.overflowError"], apart := false, narrowed := true }
def WheelLearnsUptoSaid : Prop := wheelLearnsUptoRow.holds Try.pinned (OpenSpec.upto wheelLearnsSpec)

/-- 'odographlaw16.WheelTrue', WHERE WHAT IT READS IS OF BULK AT MOST 1048576: true; the input reads as it did. -/
def wheelTrueUptoRow : OpenClaim := { program := "ytcelmgkjkdbliaa", sum := "36fd927860457be6ce0ea42997a8fe5ad2a121a7c6ea8a905061ab7f3fe062de", func := "odograph/odographlaw16.WheelTrue", spec := "wheelTrue", inPlace := ["math/bits.Add64"], named := ["math/bits.divideError", "math/bits.overflowError"], apart := false, narrowed := true }
def WheelTrueUptoSaid : Prop := wheelTrueUptoRow.holds Try.pinned (OpenSpec.upto wheelTrueSpec)

/-- 'odographlaw16.WheelBack', WHERE WHAT IT READS IS OF BULK AT MOST 1048576: true; the input reads as it did. -/
def wheelBackUptoRow : OpenClaim := { program := "ytcelmgkjkdbliaa", sum := "36fd927860457be6ce0ea42997a8fe5ad2a121a7c6ea8a905061ab7f3fe062de", func := "odograph/odographlaw16.WheelBack", spec := "wheelBack", inPlace := ["math/bits.Add64"], named := ["math/bits.divideError", "math/bits.overflowError"], apart := false, narrowed := true }
def WheelBackUptoSaid : Prop := wheelBackUptoRow.holds Try.pinned (OpenSpec.upto wheelBackSpec)

/-- 'odographlaw16.WheelMore', WHERE WHAT IT READS IS OF BULK AT MOST 1048576: true; the input reads as it did. -/
def wheelMoreUptoRow : OpenClaim := { program := "ytcelmgkjkdbliaa", sum := "36fd927860457be6ce0ea42997a8fe5ad2a121a7c6ea8a905061ab7f3fe062de", func := "odograph/odographlaw16.WheelMore", spec := "wheelMore", inPlace := ["math/bits.Add64"], named := ["math/bits.divideError", "math/bits.overflowError"], apart := false, narrowed := true }
def WheelMoreUptoSaid : Prop := wheelMoreUptoRow.holds Try.pinned (OpenSpec.upto wheelMoreSpec)

end Rows
end Go.Proofs.Ytcelmgkjkdbliaa
