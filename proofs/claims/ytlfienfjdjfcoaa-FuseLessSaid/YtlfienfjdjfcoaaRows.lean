/-
  No cell of these rows narrows 'for every input' (looked for: loops, veiled, ifaces, maps, wideKeys, modest, calm, conditions, laid).
  DERIVED. THE GIVEN ROWS OF THIS SEAT. 6 by the template 'for every input the law returns true; each argument reads behind the call as it read before'; 0 by the template 'total and deterministic' (their statements: YtlfienfjdjfcoaaTotals.lean).
  GIVEN WITH THE SEED: the statements are not yours to turn. If you find one false, say at which input.
  Laid BY PROGRAM, IN A SANDBOX (cutbox-rows.mjs): the forced cells as the released guide's own fill.sh prints them over the translation 9a8a24d7541d042e… (all of the seat's roots in one cut). By AI agents, Wed Nov 11 2026. No macro, syntax, notation, axiom, sorry.
-/
import Derived.Test.YtlfienfjdjfcoaaChecked
import GoSem.Claim
import GoSem.ClaimJoined
import GoSem.ClaimMapViews
import Derived.JoinedTies
import Derived.KernelRfl
namespace Go.Proofs.Ytlfienfjdjfcoaa
/- THE CELL 'sum', in the pinned program and in every row, IS THE sha256 OF THE DUMP (.gsa) THAT YtlfienfjdjfcoaaProg.lean LOADS. Nothing in Lean hashes anything: it is a label: what it is worth is what the hold of that sum in a sandbox is worth. -/
noncomputable def Try.pinned : Pinned := { name := "ytlfienfjdjfcoaa", sum := "9a8a24d7541d042e4efcedb8066aa6d298af0c90871c8d1aa1ea9c876aaf2060", checked := Try.checked }
namespace Rows
def none {H : Type} : Left H := { results := [], args := [] }

/-- 'odographlaw17.FuseFuses': WHATEVER THE INPUT: true; the input reads as it did. -/
def fuseFusesSpec : ChangeSpec := { name := "fuseFuses", fn := fun _ => fun
  | [d1, d2, d3] => { results := [.lit (.bool true)], args := [d1, d2, d3] }
  | _ => none }
def fuseFusesRow : OpenClaim := { program := "ytlfienfjdjfcoaa", sum := "9a8a24d7541d042e4efcedb8066aa6d298af0c90871c8d1aa1ea9c876aaf2060", func := "odograph/odographlaw17.FuseFuses", spec := "fuseFuses", unfollowed := true, recurses := true, apart := false }
def FuseFusesSaid : Prop := fuseFusesRow.holds Try.pinned (OpenSpec.ofChange fuseFusesSpec)

/-- ITS FALSE NEIGHBOUR: 'it returns false'. Refute it at one input. -/
def fuseFusesWrong : ChangeSpec := { name := "fuseFuses", fn := fun _ => fun
  | [d1, d2, d3] => { results := [.lit (.bool false)], args := [d1, d2, d3] }
  | _ => none }
def FuseFusesWrongFalsely : Prop := fuseFusesRow.holds Try.pinned (OpenSpec.ofChange fuseFusesWrong)

/-- 'odographlaw17.FuseTrue': WHATEVER THE INPUT: true; the input reads as it did. -/
def fuseTrueSpec : ChangeSpec := { name := "fuseTrue", fn := fun _ => fun
  | [d1, d2, d3, d4] => { results := [.lit (.bool true)], args := [d1, d2, d3, d4] }
  | _ => none }
def fuseTrueRow : OpenClaim := { program := "ytlfienfjdjfcoaa", sum := "9a8a24d7541d042e4efcedb8066aa6d298af0c90871c8d1aa1ea9c876aaf2060", func := "odograph/odographlaw17.FuseTrue", spec := "fuseTrue", unfollowed := true, recurses := true, apart := false }
def FuseTrueSaid : Prop := fuseTrueRow.holds Try.pinned (OpenSpec.ofChange fuseTrueSpec)

/-- ITS FALSE NEIGHBOUR: 'it returns false'. Refute it at one input. -/
def fuseTrueWrong : ChangeSpec := { name := "fuseTrue", fn := fun _ => fun
  | [d1, d2, d3, d4] => { results := [.lit (.bool false)], args := [d1, d2, d3, d4] }
  | _ => none }
def FuseTrueWrongFalsely : Prop := fuseTrueRow.holds Try.pinned (OpenSpec.ofChange fuseTrueWrong)

/-- 'odographlaw17.FuseWidth': WHATEVER THE INPUT: true; the input reads as it did. -/
def fuseWidthSpec : ChangeSpec := { name := "fuseWidth", fn := fun _ => fun
  | [d1, d2, d3, d4] => { results := [.lit (.bool true)], args := [d1, d2, d3, d4] }
  | _ => none }
def fuseWidthRow : OpenClaim := { program := "ytlfienfjdjfcoaa", sum := "9a8a24d7541d042e4efcedb8066aa6d298af0c90871c8d1aa1ea9c876aaf2060", func := "odograph/odographlaw17.FuseWidth", spec := "fuseWidth", unfollowed := true, recurses := true, apart := false }
def FuseWidthSaid : Prop := fuseWidthRow.holds Try.pinned (OpenSpec.ofChange fuseWidthSpec)

/-- ITS FALSE NEIGHBOUR: 'it returns false'. Refute it at one input. -/
def fuseWidthWrong : ChangeSpec := { name := "fuseWidth", fn := fun _ => fun
  | [d1, d2, d3, d4] => { results := [.lit (.bool false)], args := [d1, d2, d3, d4] }
  | _ => none }
def FuseWidthWrongFalsely : Prop := fuseWidthRow.holds Try.pinned (OpenSpec.ofChange fuseWidthWrong)

/-- 'odographlaw17.FuseInside': WHATEVER THE INPUT: true; the input reads as it did. -/
def fuseInsideSpec : ChangeSpec := { name := "fuseInside", fn := fun _ => fun
  | [d1, d2, d3] => { results := [.lit (.bool true)], args := [d1, d2, d3] }
  | _ => none }
def fuseInsideRow : OpenClaim := { program := "ytlfienfjdjfcoaa", sum := "9a8a24d7541d042e4efcedb8066aa6d298af0c90871c8d1aa1ea9c876aaf2060", func := "odograph/odographlaw17.FuseInside", spec := "fuseInside", unfollowed := true, recurses := true, apart := false }
def FuseInsideSaid : Prop := fuseInsideRow.holds Try.pinned (OpenSpec.ofChange fuseInsideSpec)

/-- ITS FALSE NEIGHBOUR: 'it returns false'. Refute it at one input. -/
def fuseInsideWrong : ChangeSpec := { name := "fuseInside", fn := fun _ => fun
  | [d1, d2, d3] => { results := [.lit (.bool false)], args := [d1, d2, d3] }
  | _ => none }
def FuseInsideWrongFalsely : Prop := fuseInsideRow.holds Try.pinned (OpenSpec.ofChange fuseInsideWrong)

/-- 'odographlaw17.FuseTwins': WHATEVER THE INPUT: true; the input reads as it did. -/
def fuseTwinsSpec : ChangeSpec := { name := "fuseTwins", fn := fun _ => fun
  | [d1, d2, d3] => { results := [.lit (.bool true)], args := [d1, d2, d3] }
  | _ => none }
def fuseTwinsRow : OpenClaim := { program := "ytlfienfjdjfcoaa", sum := "9a8a24d7541d042e4efcedb8066aa6d298af0c90871c8d1aa1ea9c876aaf2060", func := "odograph/odographlaw17.FuseTwins", spec := "fuseTwins", unfollowed := true, recurses := true, apart := false }
def FuseTwinsSaid : Prop := fuseTwinsRow.holds Try.pinned (OpenSpec.ofChange fuseTwinsSpec)

/-- ITS FALSE NEIGHBOUR: 'it returns false'. Refute it at one input. -/
def fuseTwinsWrong : ChangeSpec := { name := "fuseTwins", fn := fun _ => fun
  | [d1, d2, d3] => { results := [.lit (.bool false)], args := [d1, d2, d3] }
  | _ => none }
def FuseTwinsWrongFalsely : Prop := fuseTwinsRow.holds Try.pinned (OpenSpec.ofChange fuseTwinsWrong)

/-- 'odographlaw17.FuseLess': WHATEVER THE INPUT: true; the input reads as it did. -/
def fuseLessSpec : ChangeSpec := { name := "fuseLess", fn := fun _ => fun
  | [d1, d2, d3] => { results := [.lit (.bool true)], args := [d1, d2, d3] }
  | _ => none }
def fuseLessRow : OpenClaim := { program := "ytlfienfjdjfcoaa", sum := "9a8a24d7541d042e4efcedb8066aa6d298af0c90871c8d1aa1ea9c876aaf2060", func := "odograph/odographlaw17.FuseLess", spec := "fuseLess", unfollowed := true, recurses := true, apart := false }
def FuseLessSaid : Prop := fuseLessRow.holds Try.pinned (OpenSpec.ofChange fuseLessSpec)

/-- ITS FALSE NEIGHBOUR: 'it returns false'. Refute it at one input. -/
def fuseLessWrong : ChangeSpec := { name := "fuseLess", fn := fun _ => fun
  | [d1, d2, d3] => { results := [.lit (.bool false)], args := [d1, d2, d3] }
  | _ => none }
def FuseLessWrongFalsely : Prop := fuseLessRow.holds Try.pinned (OpenSpec.ofChange fuseLessWrong)

/- THE SECOND FORM. 'bulk': how many values and letters a reading holds, each counted each time it is reached (what is shared counts as often as it is met; a slice's spare places count too). A statement '..UptoSaid' is the law's where the arguments, and the package variables that the reading takes, are together of bulk at most 1048576: NARROWER than '..Said'. Prove '..Said' where nothing that the law and all that it calls make is longer than what came in: it says more and counts as full. Else prove '..UptoSaid'. A law counts once. -/
mutual
def uptoBulk {H : Type} : DataW H → Nat
  | .lit (.string bytes) => bytes.length + 1
  | .lit _ => 1
  | .nil => 1
  | .ptr d => uptoBulk d + 1
  | .slice elems spare => uptoBulkAll elems + uptoBulkAll spare + 1
  | .agg parts => uptoBulkAll parts + 1
  | .iface _ d => uptoBulk d + 1
  | .map entries => uptoBulkEntries entries + 1
  | .held _ => 1
def uptoBulkAll {H : Type} : List (DataW H) → Nat
  | [] => 0
  | d :: r => uptoBulk d + uptoBulkAll r
def uptoBulkEntries {H : Type} : List (Lit × DataW H) → Nat
  | [] => 0
  | x :: r => uptoBulkEntry x + uptoBulkEntries r
def uptoBulkEntry {H : Type} : Lit × DataW H → Nat
  | (.string bytes, d) => bytes.length + uptoBulk d + 1
  | (_, d) => uptoBulk d + 1
 end
def uptoSmall : (H : Type) → List (DataW H) → Bool := fun _ ds => decide (uptoBulkAll ds ≤ 1048576)
def OpenSpec.upto (s : _root_.Go.ChangeSpec) : _root_.Go.OpenSpec := { _root_.Go.OpenSpec.ofChange s with cond := some uptoSmall }

/-- 'odographlaw17.FuseFuses', WHERE WHAT IT READS IS OF BULK AT MOST 1048576: true; the input reads as it did. -/
def fuseFusesUptoRow : OpenClaim := { program := "ytlfienfjdjfcoaa", sum := "9a8a24d7541d042e4efcedb8066aa6d298af0c90871c8d1aa1ea9c876aaf2060", func := "odograph/odographlaw17.FuseFuses", spec := "fuseFuses", unfollowed := true, recurses := true, apart := false, narrowed := true }
def FuseFusesUptoSaid : Prop := fuseFusesUptoRow.holds Try.pinned (OpenSpec.upto fuseFusesSpec)

/-- 'odographlaw17.FuseTrue', WHERE WHAT IT READS IS OF BULK AT MOST 1048576: true; the input reads as it did. -/
def fuseTrueUptoRow : OpenClaim := { program := "ytlfienfjdjfcoaa", sum := "9a8a24d7541d042e4efcedb8066aa6d298af0c90871c8d1aa1ea9c876aaf2060", func := "odograph/odographlaw17.FuseTrue", spec := "fuseTrue", unfollowed := true, recurses := true, apart := false, narrowed := true }
def FuseTrueUptoSaid : Prop := fuseTrueUptoRow.holds Try.pinned (OpenSpec.upto fuseTrueSpec)

/-- 'odographlaw17.FuseWidth', WHERE WHAT IT READS IS OF BULK AT MOST 1048576: true; the input reads as it did. -/
def fuseWidthUptoRow : OpenClaim := { program := "ytlfienfjdjfcoaa", sum := "9a8a24d7541d042e4efcedb8066aa6d298af0c90871c8d1aa1ea9c876aaf2060", func := "odograph/odographlaw17.FuseWidth", spec := "fuseWidth", unfollowed := true, recurses := true, apart := false, narrowed := true }
def FuseWidthUptoSaid : Prop := fuseWidthUptoRow.holds Try.pinned (OpenSpec.upto fuseWidthSpec)

/-- 'odographlaw17.FuseInside', WHERE WHAT IT READS IS OF BULK AT MOST 1048576: true; the input reads as it did. -/
def fuseInsideUptoRow : OpenClaim := { program := "ytlfienfjdjfcoaa", sum := "9a8a24d7541d042e4efcedb8066aa6d298af0c90871c8d1aa1ea9c876aaf2060", func := "odograph/odographlaw17.FuseInside", spec := "fuseInside", unfollowed := true, recurses := true, apart := false, narrowed := true }
def FuseInsideUptoSaid : Prop := fuseInsideUptoRow.holds Try.pinned (OpenSpec.upto fuseInsideSpec)

/-- 'odographlaw17.FuseTwins', WHERE WHAT IT READS IS OF BULK AT MOST 1048576: true; the input reads as it did. -/
def fuseTwinsUptoRow : OpenClaim := { program := "ytlfienfjdjfcoaa", sum := "9a8a24d7541d042e4efcedb8066aa6d298af0c90871c8d1aa1ea9c876aaf2060", func := "odograph/odographlaw17.FuseTwins", spec := "fuseTwins", unfollowed := true, recurses := true, apart := false, narrowed := true }
def FuseTwinsUptoSaid : Prop := fuseTwinsUptoRow.holds Try.pinned (OpenSpec.upto fuseTwinsSpec)

/-- 'odographlaw17.FuseLess', WHERE WHAT IT READS IS OF BULK AT MOST 1048576: true; the input reads as it did. -/
def fuseLessUptoRow : OpenClaim := { program := "ytlfienfjdjfcoaa", sum := "9a8a24d7541d042e4efcedb8066aa6d298af0c90871c8d1aa1ea9c876aaf2060", func := "odograph/odographlaw17.FuseLess", spec := "fuseLess", unfollowed := true, recurses := true, apart := false, narrowed := true }
def FuseLessUptoSaid : Prop := fuseLessUptoRow.holds Try.pinned (OpenSpec.upto fuseLessSpec)

end Rows
end Go.Proofs.Ytlfienfjdjfcoaa
