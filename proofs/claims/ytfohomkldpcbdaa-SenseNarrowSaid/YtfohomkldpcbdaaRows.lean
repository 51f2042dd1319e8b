/-
  No cell of these rows narrows 'for every input' (looked for: loops, veiled, ifaces, maps, wideKeys, modest, calm, conditions, laid).
  DERIVED. THE GIVEN ROWS OF THIS SEAT. 6 by the template 'for every input the law returns true; each argument reads behind the call as it read before'; 0 by the template 'total and deterministic' (their statements: YtfohomkldpcbdaaTotals.lean).
  GIVEN WITH THE SEED: the statements are not yours to turn. If you find one false, say at which input.
  Laid BY PROGRAM, IN A SANDBOX (cutbox-rows.mjs): the forced cells as the released guide's own fill.sh prints them over the translation 0e574a774dac9079… (all of the seat's roots in one cut). By AI agents, Wed Nov 11 2026. No macro, syntax, notation, axiom, sorry.
-/
import Derived.Test.YtfohomkldpcbdaaChecked
import GoSem.Claim
import GoSem.ClaimJoined
import GoSem.ClaimMapViews
import Derived.JoinedTies
import Derived.KernelRfl
namespace Go.Proofs.Ytfohomkldpcbdaa
/- THE CELL 'sum', in the pinned program and in every row, IS THE sha256 OF THE DUMP (.gsa) THAT YtfohomkldpcbdaaProg.lean LOADS. Nothing in Lean hashes anything: it is a label: what it is worth is what the hold of that sum in a sandbox is worth. -/
noncomputable def Try.pinned : Pinned := { name := "ytfohomkldpcbdaa", sum := "0e574a774dac9079ef83b9d35663d136139b39495777876d70b760d50ead4d0c", checked := Try.checked }
namespace Rows
def none {H : Type} : Left H := { results := [], args := [] }

/-- 'odographlaw15.SenseTachos': WHATEVER THE INPUT: true; the input reads as it did. -/
def senseTachosSpec : ChangeSpec := { name := "senseTachos", fn := fun _ => fun
  | [d1, d2, d3] => { results := [.lit (.bool true)], args := [d1, d2, d3] }
  | _ => none }
def senseTachosRow : OpenClaim := { program := "ytfohomkldpcbdaa", sum := "0e574a774dac9079ef83b9d35663d136139b39495777876d70b760d50ead4d0c", func := "odograph/odographlaw15.SenseTachos", spec := "senseTachos", inPlace := ["math/bits.Add64"], named := ["math/bits.divideError", "math/bits.overflowError"], apart := false }
def SenseTachosSaid : Prop := senseTachosRow.holds Try.pinned (OpenSpec.ofChange senseTachosSpec)

/-- ITS FALSE NEIGHBOUR: 'it returns false'. Refute it at one input. -/
def senseTachosWrong : ChangeSpec := { name := "senseTachos", fn := fun _ => fun
  | [d1, d2, d3] => { results := [.lit (.bool false)], args := [d1, d2, d3] }
  | _ => none }
def SenseTachosWrongFalsely : Prop := senseTachosRow.holds Try.pinned (OpenSpec.ofChange senseTachosWrong)

/-- 'odographlaw15.SenseTrue': WHATEVER THE INPUT: true; the input reads as it did. -/
def senseTrueSpec : ChangeSpec := { name := "senseTrue", fn := fun _ => fun
  | [d1, d2, d3, d4, d5] => { results := [.lit (.bool true)], args := [d1, d2, d3, d4, d5] }
  | _ => none }
def senseTrueRow : OpenClaim := { program := "ytfohomkldpcbdaa", sum := "0e574a774dac9079ef83b9d35663d136139b39495777876d70b760d50ead4d0c", func := "odograph/odographlaw15.SenseTrue", spec := "senseTrue", inPlace := ["math/bits.Add64"], named := ["math/bits.divideError", "math/bits.overflowError"], apart := false }
def SenseTrueSaid : Prop := senseTrueRow.holds Try.pinned (OpenSpec.ofChange senseTrueSpec)

/-- ITS FALSE NEIGHBOUR: 'it returns false'. Refute it at one input. -/
def senseTrueWrong : ChangeSpec := { name := "senseTrue", fn := fun _ => fun
  | [d1, d2, d3, d4, d5] => { results := [.lit (.bool false)], args := [d1, d2, d3, d4, d5] }
  | _ => none }
def SenseTrueWrongFalsely : Prop := senseTrueRow.holds Try.pinned (OpenSpec.ofChange senseTrueWrong)

/-- 'odographlaw15.SenseRadar': WHATEVER THE INPUT: true; the input reads as it did. -/
def senseRadarSpec : ChangeSpec := { name := "senseRadar", fn := fun _ => fun
  | [d1, d2, d3] => { results := [.lit (.bool true)], args := [d1, d2, d3] }
  | _ => none }
def senseRadarRow : OpenClaim := { program := "ytfohomkldpcbdaa", sum := "0e574a774dac9079ef83b9d35663d136139b39495777876d70b760d50ead4d0c", func := "odograph/odographlaw15.SenseRadar", spec := "senseRadar", inPlace := ["math/bits.Add64"], named := ["math/bits.divideError", "math/bits.overflowError"], apart := false }
def SenseRadarSaid : Prop := senseRadarRow.holds Try.pinned (OpenSpec.ofChange senseRadarSpec)

/-- ITS FALSE NEIGHBOUR: 'it returns false'. Refute it at one input. -/
def senseRadarWrong : ChangeSpec := { name := "senseRadar", fn := fun _ => fun
  | [d1, d2, d3] => { results := [.lit (.bool false)], args := [d1, d2, d3] }
  | _ => none }
def SenseRadarWrongFalsely : Prop := senseRadarRow.holds Try.pinned (OpenSpec.ofChange senseRadarWrong)

/-- 'odographlaw15.SenseAccel': WHATEVER THE INPUT: true; the input reads as it did. -/
def senseAccelSpec : ChangeSpec := { name := "senseAccel", fn := fun _ => fun
  | [d1, d2, d3, d4, d5, d6, d7] => { results := [.lit (.bool true)], args := [d1, d2, d3, d4, d5, d6, d7] }
  | _ => none }
def senseAccelRow : OpenClaim := { program := "ytfohomkldpcbdaa", sum := "0e574a774dac9079ef83b9d35663d136139b39495777876d70b760d50ead4d0c", func := "odograph/odographlaw15.SenseAccel", spec := "senseAccel", inPlace := ["math/bits.Add64"], named := ["math/bits.divideError", "math/bits.overflowError"], apart := false }
def SenseAccelSaid : Prop := senseAccelRow.holds Try.pinned (OpenSpec.ofChange senseAccelSpec)

/-- ITS FALSE NEIGHBOUR: 'it returns false'. Refute it at one input. -/
def senseAccelWrong : ChangeSpec := { name := "senseAccel", fn := fun _ => fun
  | [d1, d2, d3, d4, d5, d6, d7] => { results := [.lit (.bool false)], args := [d1, d2, d3, d4, d5, d6, d7] }
  | _ => none }
def SenseAccelWrongFalsely : Prop := senseAccelRow.holds Try.pinned (OpenSpec.ofChange senseAccelWrong)

/-- 'odographlaw15.SensePrior': WHATEVER THE INPUT: true; the input reads as it did. -/
def sensePriorSpec : ChangeSpec := { name := "sensePrior", fn := fun _ => fun
  | [d1, d2, d3] => { results := [.lit (.bool true)], args := [d1, d2, d3] }
  | _ => none }
def sensePriorRow : OpenClaim := { program := "ytfohomkldpcbdaa", sum := "0e574a774dac9079ef83b9d35663d136139b39495777876d70b760d50ead4d0c", func := "odograph/odographlaw15.SensePrior", spec := "sensePrior", inPlace := ["math/bits.Add64"], named := ["math/bits.divideError", "math/bits.overflowError"], apart := false }
def SensePriorSaid : Prop := sensePriorRow.holds Try.pinned (OpenSpec.ofChange sensePriorSpec)

/-- ITS FALSE NEIGHBOUR: 'it returns false'. Refute it at one input. -/
def sensePriorWrong : ChangeSpec := { name := "sensePrior", fn := fun _ => fun
  | [d1, d2, d3] => { results := [.lit (.bool false)], args := [d1, d2, d3] }
  | _ => none }
def SensePriorWrongFalsely : Prop := sensePriorRow.holds Try.pinned (OpenSpec.ofChange sensePriorWrong)

/-- 'odographlaw15.SenseNarrow': WHATEVER THE INPUT: true; the input reads as it did. -/
def senseNarrowSpec : ChangeSpec := { name := "senseNarrow", fn := fun _ => fun
  | [d1, d2, d3, d4] => { results := [.lit (.bool true)], args := [d1, d2, d3, d4] }
  | _ => none }
def senseNarrowRow : OpenClaim := { program := "ytfohomkldpcbdaa", sum := "0e574a774dac9079ef83b9d35663d136139b39495777876d70b760d50ead4d0c", func := "odograph/odographlaw15.SenseNarrow", spec := "senseNarrow", inPlace := ["math/bits.Add64"], named := ["math/bits.divideError", "math/bits.overflowError"], apart := false }
def SenseNarrowSaid : Prop := senseNarrowRow.holds Try.pinned (OpenSpec.ofChange senseNarrowSpec)

/-- ITS FALSE NEIGHBOUR: 'it returns false'. Refute it at one input. -/
def senseNarrowWrong : ChangeSpec := { name := "senseNarrow", fn := fun _ => fun
  | [d1, d2, d3, d4] => { results := [.lit (.bool false)], args := [d1, d2, d3, d4] }
  | _ => none }
def SenseNarrowWrongFalsely : Prop := senseNarrowRow.holds Try.pinned (OpenSpec.ofChange senseNarrowWrong)

/- THE SECOND FORM. 'bulk': how many values and letters a reading holds, each counted each time it is reached (what is shared counts as often as it is met; a slice's spare places count too). A statement '..UptoSaid' is the law's where the arguments, and the package variables that the reading takes, are together of bulk at most 1048576: NARROWER than '..Said'. Prove '..Said' where nothing that the law and all that it calls make is longer than what came in: it says more and counts as full. Else prove '..UptoSaid'. A law counts once. -/
mutual
def uptoBulk {H : Type} : DataW H → Nat
  | .lit (.string bytes) => bytes.length + 1
  | .lit _ => 1
  | .nil => 1
  | .ptr d => uptoBulk d + 1
  | .slice elems spare => uptoBulkAll elems + uptoBulkAll spare + 1
  | .agg parts => uptoBulkAll parts + 1
  | .iface _ d => uptoBulk d + 1
  | .map entries => uptoBulkEntries entries + 1
  | .held _ => 1
def uptoBulkAll {H : Type} : List (DataW H) → Nat
  | [] => 0
  | d :: r => uptoBulk d + uptoBulkAll r
def uptoBulkEntries {H : Type} : List (Lit × DataW H) → Nat
  | [] => 0
  | x :: r => uptoBulkEntry x + uptoBulkEntries r
def uptoBulkEntry {H : Type} : Lit × DataW H → Nat
  | (.string bytes, d) => bytes.length + uptoBulk d + 1
  | (_, d) => uptoBulk d + 1
 end
def uptoSmall : (H : Type) → List (DataW H) → Bool := fun _ ds => decide (uptoBulkAll ds ≤ 1048576)
def OpenSpec.upto (s : _root_.Go.ChangeSpec) : _root_.Go.OpenSpec := { _root_.Go.OpenSpec.ofChange s with cond := some uptoSmall }

/-- 'odographlaw15.SenseTachos', WHERE WHAT IT READS IS OF BULK AT MOST 1048576: true; the input reads as it did. -/
def senseTachosUptoRow : OpenClaim := { program := "ytfohomkldpcbdaa", sum := "0e574a774dac9079ef83b9d35663d136139b39495777876d70b760d50ead4d0c", func := "odograph/odographlaw15.SenseTachos", spec := "senseTachos", inPlace := ["math/bits.Add64"], named := ["math/bits.divideError", "math/bits.overflowError"], apart := false, narrowed := true }
def SenseTachosUptoSaid : Prop := senseTachosUptoRow.holds Try.pinned (OpenSpec.upto senseTachosSpec)

/-- 'odographlaw15.SenseTrue', WHERE WHAT IT READS IS OF BULK AT MOST 1048576: true; the input reads as it did. -/
def senseTrueUptoRow : OpenClaim := { program := "ytfohomkldpcbdaa", sum := "0e574a774dac9079ef83b9d35663d136139b39495777876d70b760d50ead4d0c", func := "odograph/odographlaw15.SenseTrue", spec := "senseTrue", inPlace := ["math/bits.Add64"], named := ["math/bits.divideError", "math/bits.overflowError"], apart := false, narrowed := true }
def SenseTrueUptoSaid : Prop := senseTrueUptoRow.holds Try.pinned (OpenSpec.upto senseTrueSpec)

/-- 'odographlaw15.SenseRadar', WHERE WHAT IT READS IS OF BULK AT MOST 1048576: true; the input reads as it did. -/
def senseRadarUptoRow : OpenClaim := { program := "ytfohomkldpcbdaa", sum := "0e574a774dac9079ef83b9d35663d136139b39495777876d70b760d50ead4d0c", func := "odograph/odographlaw15.SenseRadar", spec := "senseRadar", inPlace := ["math/bits.Add64"], named := ["math/bits.divideError", "math/bits.overflowError"], apart := false, narrowed := true }
def SenseRadarUptoSaid : Prop := senseRadarUptoRow.holds Try.pinned (OpenSpec.upto senseRadarSpec)

/-- 'odographlaw15.SenseAccel', WHERE WHAT IT READS IS OF BULK AT MOST 1048576: true; the input reads as it did. -/
def senseAccelUptoRow : OpenClaim := { program := "ytfohomkldpcbdaa", sum := "0e574a774dac9079ef83b9d35663d136139b39495777876d70b760d50ead4d0c", func := "odograph/odographlaw15.SenseAccel", spec := "senseAccel", inPlace := ["math/bits.Add64"], named := ["math/bits.divideError", "math/bits.overflowError"], apart := false, narrowed := true }
def SenseAccelUptoSaid : Prop := senseAccelUptoRow.holds Try.pinned (OpenSpec.upto senseAccelSpec)

/-- 'odographlaw15.SensePrior', WHERE WHAT IT READS IS OF BULK AT MOST 1048576: true; the input reads as it did. -/
def sensePriorUptoRow : OpenClaim := { program := "ytfohomkldpcbdaa", sum := "0e574a774dac9079ef83b9d35663d136139b39495777876d70b760d50ead4d0c", func := "odograph/odographlaw15.SensePrior", spec := "sensePrior", inPlace := ["math/bits.Add64"], named := ["math/bits.divideError", "math/bits.overflowError"], apart := false, narrowed := true }
def SensePriorUptoSaid : Prop := sensePriorUptoRow.holds Try.pinned (OpenSpec.upto sensePriorSpec)

/-- 'odographlaw15.SenseNarrow', WHERE WHAT IT READS IS OF BULK AT MOST 1048576: true; the input reads as it did. -/
def senseNarrowUptoRow : OpenClaim := { program := "ytfohomkldpcbdaa", sum := "0e574a774dac9079ef83b9d35663d136139b39495777876d70b760d50ead4d0c", func := "odograph/odographlaw15.SenseNarrow", spec := "senseNarrow", inPlace := ["math/bits.Add64"], named := ["math/bits.divideError", "math/bits.overflowError"], apart := false, narrowed := true }
def SenseNarrowUptoSaid : Prop := senseNarrowUptoRow.holds Try.pinned (OpenSpec.upto senseNarrowSpec)

end Rows
end Go.Proofs.Ytfohomkldpcbdaa
