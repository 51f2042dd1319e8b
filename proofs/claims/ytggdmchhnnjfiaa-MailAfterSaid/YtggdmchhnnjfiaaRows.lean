/-
  No cell of these rows narrows 'for every input' (looked for: loops, veiled, ifaces, maps, wideKeys, modest, calm, conditions, laid).
  DERIVED. THE GIVEN ROWS OF THIS SEAT. 5 by the template 'for every input the law returns true; each argument reads behind the call as it read before'; 0 by the template 'total and deterministic' (their statements: YtggdmchhnnjfiaaTotals.lean).
  GIVEN WITH THE SEED: the statements are not yours to turn. If you find one false, say at which input.
  Laid BY PROGRAM, IN A SANDBOX (cutbox-rows.mjs): the forced cells as the released guide's own fill.sh prints them over the translation a7a326402b9ea3cf… (all of the seat's roots in one cut). By AI agents, Wed Nov 11 2026. No macro, syntax, notation, axiom, sorry.
-/
import Derived.Test.YtggdmchhnnjfiaaChecked
import GoSem.Claim
import GoSem.ClaimJoined
import GoSem.ClaimMapViews
import Derived.JoinedTies
import Derived.KernelRfl
namespace Go.Proofs.Ytggdmchhnnjfiaa
/- THE CELL 'sum', in the pinned program and in every row, IS THE sha256 OF THE DUMP (.gsa) THAT YtggdmchhnnjfiaaProg.lean LOADS. Nothing in Lean hashes anything: it is a label: what it is worth is what the hold of that sum in a sandbox is worth. -/
noncomputable def Try.pinned : Pinned := { name := "ytggdmchhnnjfiaa", sum := "a7a326402b9ea3cffe79d5eb2a8d3905910ed25b60fdc1186377c890f702cfe1", checked := Try.checked }
namespace Rows
def none {H : Type} : Left H := { results := [], args := [] }

/-- 'odographlaw08.MailSorts': WHATEVER THE INPUT: true; the input reads as it did. -/
def mailSortsSpec : ChangeSpec := { name := "mailSorts", fn := fun _ => fun
  | [d1, d2] => { results := [.lit (.bool true)], args := [d1, d2] }
  | _ => none }
def mailSortsRow : OpenClaim := { program := "ytggdmchhnnjfiaa", sum := "a7a326402b9ea3cffe79d5eb2a8d3905910ed25b60fdc1186377c890f702cfe1", func := "odograph/odographlaw08.MailSorts", spec := "mailSorts", apart := false }
def MailSortsSaid : Prop := mailSortsRow.holds Try.pinned (OpenSpec.ofChange mailSortsSpec)

/-- ITS FALSE NEIGHBOUR: 'it returns false'. Refute it at one input. -/
def mailSortsWrong : ChangeSpec := { name := "mailSorts", fn := fun _ => fun
  | [d1, d2] => { results := [.lit (.bool false)], args := [d1, d2] }
  | _ => none }
def MailSortsWrongFalsely : Prop := mailSortsRow.holds Try.pinned (OpenSpec.ofChange mailSortsWrong)

/-- 'odographlaw08.MailCounts': WHATEVER THE INPUT: true; the input reads as it did. -/
def mailCountsSpec : ChangeSpec := { name := "mailCounts", fn := fun _ => fun
  | [d1, d2] => { results := [.lit (.bool true)], args := [d1, d2] }
  | _ => none }
def mailCountsRow : OpenClaim := { program := "ytggdmchhnnjfiaa", sum := "a7a326402b9ea3cffe79d5eb2a8d3905910ed25b60fdc1186377c890f702cfe1", func := "odograph/odographlaw08.MailCounts", spec := "mailCounts", apart := false }
def MailCountsSaid : Prop := mailCountsRow.holds Try.pinned (OpenSpec.ofChange mailCountsSpec)

/-- ITS FALSE NEIGHBOUR: 'it returns false'. Refute it at one input. -/
def mailCountsWrong : ChangeSpec := { name := "mailCounts", fn := fun _ => fun
  | [d1, d2] => { results := [.lit (.bool false)], args := [d1, d2] }
  | _ => none }
def MailCountsWrongFalsely : Prop := mailCountsRow.holds Try.pinned (OpenSpec.ofChange mailCountsWrong)

/-- 'odographlaw08.MailAsks': WHATEVER THE INPUT: true; the input reads as it did. -/
def mailAsksSpec : ChangeSpec := { name := "mailAsks", fn := fun _ => fun
  | [d1, d2] => { results := [.lit (.bool true)], args := [d1, d2] }
  | _ => none }
def mailAsksRow : OpenClaim := { program := "ytggdmchhnnjfiaa", sum := "a7a326402b9ea3cffe79d5eb2a8d3905910ed25b60fdc1186377c890f702cfe1", func := "odograph/odographlaw08.MailAsks", spec := "mailAsks", apart := false }
def MailAsksSaid : Prop := mailAsksRow.holds Try.pinned (OpenSpec.ofChange mailAsksSpec)

/-- ITS FALSE NEIGHBOUR: 'it returns false'. Refute it at one input. -/
def mailAsksWrong : ChangeSpec := { name := "mailAsks", fn := fun _ => fun
  | [d1, d2] => { results := [.lit (.bool false)], args := [d1, d2] }
  | _ => none }
def MailAsksWrongFalsely : Prop := mailAsksRow.holds Try.pinned (OpenSpec.ofChange mailAsksWrong)

/-- 'odographlaw08.MailFirst': WHATEVER THE INPUT: true; the input reads as it did. -/
def mailFirstSpec : ChangeSpec := { name := "mailFirst", fn := fun _ => fun
  | [d1, d2, d3] => { results := [.lit (.bool true)], args := [d1, d2, d3] }
  | _ => none }
def mailFirstRow : OpenClaim := { program := "ytggdmchhnnjfiaa", sum := "a7a326402b9ea3cffe79d5eb2a8d3905910ed25b60fdc1186377c890f702cfe1", func := "odograph/odographlaw08.MailFirst", spec := "mailFirst", apart := false }
def MailFirstSaid : Prop := mailFirstRow.holds Try.pinned (OpenSpec.ofChange mailFirstSpec)

/-- ITS FALSE NEIGHBOUR: 'it returns false'. Refute it at one input. -/
def mailFirstWrong : ChangeSpec := { name := "mailFirst", fn := fun _ => fun
  | [d1, d2, d3] => { results := [.lit (.bool false)], args := [d1, d2, d3] }
  | _ => none }
def MailFirstWrongFalsely : Prop := mailFirstRow.holds Try.pinned (OpenSpec.ofChange mailFirstWrong)

/-- 'odographlaw08.MailAfter': WHATEVER THE INPUT: true; the input reads as it did. -/
def mailAfterSpec : ChangeSpec := { name := "mailAfter", fn := fun _ => fun
  | [d1, d2, d3, d4] => { results := [.lit (.bool true)], args := [d1, d2, d3, d4] }
  | _ => none }
def mailAfterRow : OpenClaim := { program := "ytggdmchhnnjfiaa", sum := "a7a326402b9ea3cffe79d5eb2a8d3905910ed25b60fdc1186377c890f702cfe1", func := "odograph/odographlaw08.MailAfter", spec := "mailAfter", apart := false }
def MailAfterSaid : Prop := mailAfterRow.holds Try.pinned (OpenSpec.ofChange mailAfterSpec)

/-- ITS FALSE NEIGHBOUR: 'it returns false'. Refute it at one input. -/
def mailAfterWrong : ChangeSpec := { name := "mailAfter", fn := fun _ => fun
  | [d1, d2, d3, d4] => { results := [.lit (.bool false)], args := [d1, d2, d3, d4] }
  | _ => none }
def MailAfterWrongFalsely : Prop := mailAfterRow.holds Try.pinned (OpenSpec.ofChange mailAfterWrong)

/- THE SECOND FORM. 'bulk': how many values and letters a reading holds, each counted each time it is reached (what is shared counts as often as it is met; a slice's spare places count too). A statement '..UptoSaid' is the law's where the arguments, and the package variables that the reading takes, are together of bulk at most 1048576: NARROWER than '..Said'. Prove '..Said' where nothing that the law and all that it calls make is longer than what came in: it says more and counts as full. Else prove '..UptoSaid'. A law counts once. -/
mutual
def uptoBulk {H : Type} : DataW H → Nat
  | .lit (.string bytes) => bytes.length + 1
  | .lit _ => 1
  | .nil => 1
  | .ptr d => uptoBulk d + 1
  | .slice elems spare => uptoBulkAll elems + uptoBulkAll spare + 1
  | .agg parts => uptoBulkAll parts + 1
  | .iface _ d => uptoBulk d + 1
  | .map entries => uptoBulkEntries entries + 1
  | .held _ => 1
def uptoBulkAll {H : Type} : List (DataW H) → Nat
  | [] => 0
  | d :: r => uptoBulk d + uptoBulkAll r
def uptoBulkEntries {H : Type} : List (Lit × DataW H) → Nat
  | [] => 0
  | x :: r => uptoBulkEntry x + uptoBulkEntries r
def uptoBulkEntry {H : Type} : Lit × DataW H → Nat
  | (.string bytes, d) => bytes.length + uptoBulk d + 1
  | (_, d) => uptoBulk d + 1
 end
def uptoSmall : (H : Type) → List (DataW H) → Bool := fun _ ds => decide (uptoBulkAll ds ≤ 1048576)
def OpenSpec.upto (s : _root_.Go.ChangeSpec) : _root_.Go.OpenSpec := { _root_.Go.OpenSpec.ofChange s with cond := some uptoSmall }

/-- 'odographlaw08.MailSorts', WHERE WHAT IT READS IS OF BULK AT MOST 1048576: true; the input reads as it did. -/
def mailSortsUptoRow : OpenClaim := { program := "ytggdmchhnnjfiaa", sum := "a7a326402b9ea3cffe79d5eb2a8d3905910ed25b60fdc1186377c890f702cfe1", func := "odograph/odographlaw08.MailSorts", spec := "mailSorts", apart := false, narrowed := true }
def MailSortsUptoSaid : Prop := mailSortsUptoRow.holds Try.pinned (OpenSpec.upto mailSortsSpec)

/-- 'odographlaw08.MailCounts', WHERE WHAT IT READS IS OF BULK AT MOST 1048576: true; the input reads as it did. -/
def mailCountsUptoRow : OpenClaim := { program := "ytggdmchhnnjfiaa", sum := "a7a326402b9ea3cffe79d5eb2a8d3905910ed25b60fdc1186377c890f702cfe1", func := "odograph/odographlaw08.MailCounts", spec := "mailCounts", apart := false, narrowed := true }
def MailCountsUptoSaid : Prop := mailCountsUptoRow.holds Try.pinned (OpenSpec.upto mailCountsSpec)

/-- 'odographlaw08.MailAsks', WHERE WHAT IT READS IS OF BULK AT MOST 1048576: true; the input reads as it did. -/
def mailAsksUptoRow : OpenClaim := { program := "ytggdmchhnnjfiaa", sum := "a7a326402b9ea3cffe79d5eb2a8d3905910ed25b60fdc1186377c890f702cfe1", func := "odograph/odographlaw08.MailAsks", spec := "mailAsks", apart := false, narrowed := true }
def MailAsksUptoSaid : Prop := mailAsksUptoRow.holds Try.pinned (OpenSpec.upto mailAsksSpec)

/-- 'odographlaw08.MailFirst', WHERE WHAT IT READS IS OF BULK AT MOST 1048576: true; the input reads as it did. -/
def mailFirstUptoRow : OpenClaim := { program := "ytggdmchhnnjfiaa", sum := "a7a326402b9ea3cffe79d5eb2a8d3905910ed25b60fdc1186377c890f702cfe1", func := "odograph/odographlaw08.MailFirst", spec := "mailFirst", apart := false, narrowed := true }
def MailFirstUptoSaid : Prop := mailFirstUptoRow.holds Try.pinned (OpenSpec.upto mailFirstSpec)

/-- 'odographlaw08.MailAfter', WHERE WHAT IT READS IS OF BULK AT MOST 1048576: true; the input reads as it did. -/
def mailAfterUptoRow : OpenClaim := { program := "ytggdmchhnnjfiaa", sum := "a7a326402b9ea3cffe79d5eb2a8d3905910ed25b60fdc1186377c890f702cfe1", func := "odograph/odographlaw08.MailAfter", spec := "mailAfter", apart := false, narrowed := true }
def MailAfterUptoSaid : Prop := mailAfterUptoRow.holds Try.pinned (OpenSpec.upto mailAfterSpec)

end Rows
end Go.Proofs.Ytggdmchhnnjfiaa
