/-
  No cell of these rows narrows 'for every input' (looked for: loops, veiled, ifaces, maps, wideKeys, modest, calm, conditions, laid).
  DERIVED. THE GIVEN ROWS OF THIS SEAT. 4 by the template 'for every input the law returns true; each argument reads behind the call as it read before'; 0 by the template 'total and deterministic' (their statements: YtnlcchelepnknaaTotals.lean).
  GIVEN WITH THE SEED: the statements are not yours to turn. If you find one false, say at which input.
  Laid BY PROGRAM, IN A SANDBOX (cutbox-rows.mjs): the forced cells as the released guide's own fill.sh prints them over the translation 07b54ab652386e0f… (all of the seat's roots in one cut). By AI agents, Wed Nov 11 2026. No macro, syntax, notation, axiom, sorry.
-/
import Derived.Test.YtnlcchelepnknaaChecked
import GoSem.Claim
import GoSem.ClaimJoined
import GoSem.ClaimMapViews
import Derived.JoinedTies
import Derived.KernelRfl
namespace Go.Proofs.Ytnlcchelepnknaa
/- THE CELL 'sum', in the pinned program and in every row, IS THE sha256 OF THE DUMP (.gsa) THAT YtnlcchelepnknaaProg.lean LOADS. Nothing in Lean hashes anything: it is a label: what it is worth is what the hold of that sum in a sandbox is worth. -/
noncomputable def Try.pinned : Pinned := { name := "ytnlcchelepnknaa", sum := "07b54ab652386e0f7e98ded6a286b94ee8d9e03929f8660b6236834692f6825b", checked := Try.checked }
namespace Rows
def none {H : Type} : Left H := { results := [], args := [] }

/-- 'odographlaw09.PulseDeltas': WHATEVER THE INPUT: true; the input reads as it did. -/
def pulseDeltasSpec : ChangeSpec := { name := "pulseDeltas", fn := fun _ => fun
  | [d1, d2] => { results := [.lit (.bool true)], args := [d1, d2] }
  | _ => none }
def pulseDeltasRow : OpenClaim := { program := "ytnlcchelepnknaa", sum := "07b54ab652386e0f7e98ded6a286b94ee8d9e03929f8660b6236834692f6825b", func := "odograph/odographlaw09.PulseDeltas", spec := "pulseDeltas", apart := false }
def PulseDeltasSaid : Prop := pulseDeltasRow.holds Try.pinned (OpenSpec.ofChange pulseDeltasSpec)

/-- ITS FALSE NEIGHBOUR: 'it returns false'. Refute it at one input. -/
def pulseDeltasWrong : ChangeSpec := { name := "pulseDeltas", fn := fun _ => fun
  | [d1, d2] => { results := [.lit (.bool false)], args := [d1, d2] }
  | _ => none }
def PulseDeltasWrongFalsely : Prop := pulseDeltasRow.holds Try.pinned (OpenSpec.ofChange pulseDeltasWrong)

/-- 'odographlaw09.PulseNexts': WHATEVER THE INPUT: true; the input reads as it did. -/
def pulseNextsSpec : ChangeSpec := { name := "pulseNexts", fn := fun _ => fun
  | [d1, d2, d3] => { results := [.lit (.bool true)], args := [d1, d2, d3] }
  | _ => none }
def pulseNextsRow : OpenClaim := { program := "ytnlcchelepnknaa", sum := "07b54ab652386e0f7e98ded6a286b94ee8d9e03929f8660b6236834692f6825b", func := "odograph/odographlaw09.PulseNexts", spec := "pulseNexts", apart := false }
def PulseNextsSaid : Prop := pulseNextsRow.holds Try.pinned (OpenSpec.ofChange pulseNextsSpec)

/-- ITS FALSE NEIGHBOUR: 'it returns false'. Refute it at one input. -/
def pulseNextsWrong : ChangeSpec := { name := "pulseNexts", fn := fun _ => fun
  | [d1, d2, d3] => { results := [.lit (.bool false)], args := [d1, d2, d3] }
  | _ => none }
def PulseNextsWrongFalsely : Prop := pulseNextsRow.holds Try.pinned (OpenSpec.ofChange pulseNextsWrong)

/-- 'odographlaw09.PulseSums': WHATEVER THE INPUT: true; the input reads as it did. -/
def pulseSumsSpec : ChangeSpec := { name := "pulseSums", fn := fun _ => fun
  | [d1, d2, d3] => { results := [.lit (.bool true)], args := [d1, d2, d3] }
  | _ => none }
def pulseSumsRow : OpenClaim := { program := "ytnlcchelepnknaa", sum := "07b54ab652386e0f7e98ded6a286b94ee8d9e03929f8660b6236834692f6825b", func := "odograph/odographlaw09.PulseSums", spec := "pulseSums", apart := false }
def PulseSumsSaid : Prop := pulseSumsRow.holds Try.pinned (OpenSpec.ofChange pulseSumsSpec)

/-- ITS FALSE NEIGHBOUR: 'it returns false'. Refute it at one input. -/
def pulseSumsWrong : ChangeSpec := { name := "pulseSums", fn := fun _ => fun
  | [d1, d2, d3] => { results := [.lit (.bool false)], args := [d1, d2, d3] }
  | _ => none }
def PulseSumsWrongFalsely : Prop := pulseSumsRow.holds Try.pinned (OpenSpec.ofChange pulseSumsWrong)

/-- 'odographlaw09.PulseBack': WHATEVER THE INPUT: true; the input reads as it did. -/
def pulseBackSpec : ChangeSpec := { name := "pulseBack", fn := fun _ => fun
  | [d1, d2] => { results := [.lit (.bool true)], args := [d1, d2] }
  | _ => none }
def pulseBackRow : OpenClaim := { program := "ytnlcchelepnknaa", sum := "07b54ab652386e0f7e98ded6a286b94ee8d9e03929f8660b6236834692f6825b", func := "odograph/odographlaw09.PulseBack", spec := "pulseBack", apart := false }
def PulseBackSaid : Prop := pulseBackRow.holds Try.pinned (OpenSpec.ofChange pulseBackSpec)

/-- ITS FALSE NEIGHBOUR: 'it returns false'. Refute it at one input. -/
def pulseBackWrong : ChangeSpec := { name := "pulseBack", fn := fun _ => fun
  | [d1, d2] => { results := [.lit (.bool false)], args := [d1, d2] }
  | _ => none }
def PulseBackWrongFalsely : Prop := pulseBackRow.holds Try.pinned (OpenSpec.ofChange pulseBackWrong)

/- THE SECOND FORM. 'bulk': how many values and letters a reading holds, each counted each time it is reached (what is shared counts as often as it is met; a slice's spare places count too). A statement '..UptoSaid' is the law's where the arguments, and the package variables that the reading takes, are together of bulk at most 1048576: NARROWER than '..Said'. Prove '..Said' where nothing that the law and all that it calls make is longer than what came in: it says more and counts as full. Else prove '..UptoSaid'. A law counts once. -/
mutual
def uptoBulk {H : Type} : DataW H → Nat
  | .lit (.string bytes) => bytes.length + 1
  | .lit _ => 1
  | .nil => 1
  | .ptr d => uptoBulk d + 1
  | .slice elems spare => uptoBulkAll elems + uptoBulkAll spare + 1
  | .agg parts => uptoBulkAll parts + 1
  | .iface _ d => uptoBulk d + 1
  | .map entries => uptoBulkEntries entries + 1
  | .held _ => 1
def uptoBulkAll {H : Type} : List (DataW H) → Nat
  | [] => 0
  | d :: r => uptoBulk d + uptoBulkAll r
def uptoBulkEntries {H : Type} : List (Lit × DataW H) → Nat
  | [] => 0
  | x :: r => uptoBulkEntry x + uptoBulkEntries r
def uptoBulkEntry {H : Type} : Lit × DataW H → Nat
  | (.string bytes, d) => bytes.length + uptoBulk d + 1
  | (_, d) => uptoBulk d + 1
 end
def uptoSmall : (H : Type) → List (DataW H) → Bool := fun _ ds => decide (uptoBulkAll ds ≤ 1048576)
def OpenSpec.upto (s : _root_.Go.ChangeSpec) : _root_.Go.OpenSpec := { _root_.Go.OpenSpec.ofChange s with cond := some uptoSmall }

/-- 'odographlaw09.PulseDeltas', WHERE WHAT IT READS IS OF BULK AT MOST 1048576: true; the input reads as it did. -/
def pulseDeltasUptoRow : OpenClaim := { program := "ytnlcchelepnknaa", sum := "07b54ab652386e0f7e98ded6a286b94ee8d9e03929f8660b6236834692f6825b", func := "odograph/odographlaw09.PulseDeltas", spec := "pulseDeltas", apart := false, narrowed := true }
def PulseDeltasUptoSaid : Prop := pulseDeltasUptoRow.holds Try.pinned (OpenSpec.upto pulseDeltasSpec)

/-- 'odographlaw09.PulseNexts', WHERE WHAT IT READS IS OF BULK AT MOST 1048576: true; the input reads as it did. -/
def pulseNextsUptoRow : OpenClaim := { program := "ytnlcchelepnknaa", sum := "07b54ab652386e0f7e98ded6a286b94ee8d9e03929f8660b6236834692f6825b", func := "odograph/odographlaw09.PulseNexts", spec := "pulseNexts", apart := false, narrowed := true }
def PulseNextsUptoSaid : Prop := pulseNextsUptoRow.holds Try.pinned (OpenSpec.upto pulseNextsSpec)

/-- 'odographlaw09.PulseSums', WHERE WHAT IT READS IS OF BULK AT MOST 1048576: true; the input reads as it did. -/
def pulseSumsUptoRow : OpenClaim := { program := "ytnlcchelepnknaa", sum := "07b54ab652386e0f7e98ded6a286b94ee8d9e03929f8660b6236834692f6825b", func := "odograph/odographlaw09.PulseSums", spec := "pulseSums", apart := false, narrowed := true }
def PulseSumsUptoSaid : Prop := pulseSumsUptoRow.holds Try.pinned (OpenSpec.upto pulseSumsSpec)

/-- 'odographlaw09.PulseBack', WHERE WHAT IT READS IS OF BULK AT MOST 1048576: true; the input reads as it did. -/
def pulseBackUptoRow : OpenClaim := { program := "ytnlcchelepnknaa", sum := "07b54ab652386e0f7e98ded6a286b94ee8d9e03929f8660b6236834692f6825b", func := "odograph/odographlaw09.PulseBack", spec := "pulseBack", apart := false, narrowed := true }
def PulseBackUptoSaid : Prop := pulseBackUptoRow.holds Try.pinned (OpenSpec.upto pulseBackSpec)

end Rows
end Go.Proofs.Ytnlcchelepnknaa
