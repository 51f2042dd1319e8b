/-
  No cell of these rows narrows 'for every input' (looked for: loops, veiled, ifaces, maps, wideKeys, modest, calm, conditions, laid).
  DERIVED. THE GIVEN ROWS OF THIS SEAT. 4 by the template 'for every input the law returns true; each argument reads behind the call as it read before'; 0 by the template 'total and deterministic' (their statements: YtppfkjbafbajgaaTotals.lean).
  GIVEN WITH THE SEED: the statements are not yours to turn. If you find one false, say at which input.
  Laid BY PROGRAM, IN A SANDBOX (cutbox-rows.mjs): the forced cells as the released guide's own fill.sh prints them over the translation b9c6d09bb26ba892… (all of the seat's roots in one cut). By AI agents, Wed Nov 11 2026. No macro, syntax, notation, axiom, sorry.
-/
import Derived.Test.YtppfkjbafbajgaaChecked
import GoSem.Claim
import GoSem.ClaimJoined
import GoSem.ClaimMapViews
import Derived.JoinedTies
import Derived.KernelRfl
namespace Go.Proofs.Ytppfkjbafbajgaa
/- THE CELL 'sum', in the pinned program and in every row, IS THE sha256 OF THE DUMP (.gsa) THAT YtppfkjbafbajgaaProg.lean LOADS. Nothing in Lean hashes anything: it is a label: what it is worth is what the hold of that sum in a sandbox is worth. -/
noncomputable def Try.pinned : Pinned := { name := "ytppfkjbafbajgaa", sum := "b9c6d09bb26ba8922b0824abb76dee61873060c3be48fee9effca4ccb5da2236", checked := Try.checked }
namespace Rows
def none {H : Type} : Left H := { results := [], args := [] }

/-- 'odographlaw05.VoteCounts': WHATEVER THE INPUT: true; the input reads as it did. -/
def voteCountsSpec : ChangeSpec := { name := "voteCounts", fn := fun _ => fun
  | [d] => { results := [.lit (.bool true)], args := [d] }
  | _ => none }
def voteCountsRow : OpenClaim := { program := "ytppfkjbafbajgaa", sum := "b9c6d09bb26ba8922b0824abb76dee61873060c3be48fee9effca4ccb5da2236", func := "odograph/odographlaw05.VoteCounts", spec := "voteCounts", unfollowed := true, recurses := true, apart := false }
def VoteCountsSaid : Prop := voteCountsRow.holds Try.pinned (OpenSpec.ofChange voteCountsSpec)

/-- ITS FALSE NEIGHBOUR: 'it returns false'. Refute it at one input. -/
def voteCountsWrong : ChangeSpec := { name := "voteCounts", fn := fun _ => fun
  | [d] => { results := [.lit (.bool false)], args := [d] }
  | _ => none }
def VoteCountsWrongFalsely : Prop := voteCountsRow.holds Try.pinned (OpenSpec.ofChange voteCountsWrong)

/-- 'odographlaw05.VoteSafe': WHATEVER THE INPUT: true; the input reads as it did. -/
def voteSafeSpec : ChangeSpec := { name := "voteSafe", fn := fun _ => fun
  | [d1, d2, d3] => { results := [.lit (.bool true)], args := [d1, d2, d3] }
  | _ => none }
def voteSafeRow : OpenClaim := { program := "ytppfkjbafbajgaa", sum := "b9c6d09bb26ba8922b0824abb76dee61873060c3be48fee9effca4ccb5da2236", func := "odograph/odographlaw05.VoteSafe", spec := "voteSafe", unfollowed := true, recurses := true, apart := false }
def VoteSafeSaid : Prop := voteSafeRow.holds Try.pinned (OpenSpec.ofChange voteSafeSpec)

/-- ITS FALSE NEIGHBOUR: 'it returns false'. Refute it at one input. -/
def voteSafeWrong : ChangeSpec := { name := "voteSafe", fn := fun _ => fun
  | [d1, d2, d3] => { results := [.lit (.bool false)], args := [d1, d2, d3] }
  | _ => none }
def VoteSafeWrongFalsely : Prop := voteSafeRow.holds Try.pinned (OpenSpec.ofChange voteSafeWrong)

/-- 'odographlaw05.VoteStrays': WHATEVER THE INPUT: true; the input reads as it did. -/
def voteStraysSpec : ChangeSpec := { name := "voteStrays", fn := fun _ => fun
  | [d1, d2] => { results := [.lit (.bool true)], args := [d1, d2] }
  | _ => none }
def voteStraysRow : OpenClaim := { program := "ytppfkjbafbajgaa", sum := "b9c6d09bb26ba8922b0824abb76dee61873060c3be48fee9effca4ccb5da2236", func := "odograph/odographlaw05.VoteStrays", spec := "voteStrays", unfollowed := true, recurses := true, apart := false }
def VoteStraysSaid : Prop := voteStraysRow.holds Try.pinned (OpenSpec.ofChange voteStraysSpec)

/-- ITS FALSE NEIGHBOUR: 'it returns false'. Refute it at one input. -/
def voteStraysWrong : ChangeSpec := { name := "voteStrays", fn := fun _ => fun
  | [d1, d2] => { results := [.lit (.bool false)], args := [d1, d2] }
  | _ => none }
def VoteStraysWrongFalsely : Prop := voteStraysRow.holds Try.pinned (OpenSpec.ofChange voteStraysWrong)

/-- 'odographlaw05.VoteTurns': WHATEVER THE INPUT: true; the input reads as it did. -/
def voteTurnsSpec : ChangeSpec := { name := "voteTurns", fn := fun _ => fun
  | [d] => { results := [.lit (.bool true)], args := [d] }
  | _ => none }
def voteTurnsRow : OpenClaim := { program := "ytppfkjbafbajgaa", sum := "b9c6d09bb26ba8922b0824abb76dee61873060c3be48fee9effca4ccb5da2236", func := "odograph/odographlaw05.VoteTurns", spec := "voteTurns", unfollowed := true, recurses := true, apart := false }
def VoteTurnsSaid : Prop := voteTurnsRow.holds Try.pinned (OpenSpec.ofChange voteTurnsSpec)

/-- ITS FALSE NEIGHBOUR: 'it returns false'. Refute it at one input. -/
def voteTurnsWrong : ChangeSpec := { name := "voteTurns", fn := fun _ => fun
  | [d] => { results := [.lit (.bool false)], args := [d] }
  | _ => none }
def VoteTurnsWrongFalsely : Prop := voteTurnsRow.holds Try.pinned (OpenSpec.ofChange voteTurnsWrong)

/- THE SECOND FORM. 'bulk': how many values and letters a reading holds, each counted each time it is reached (what is shared counts as often as it is met; a slice's spare places count too). A statement '..UptoSaid' is the law's where the arguments, and the package variables that the reading takes, are together of bulk at most 1048576: NARROWER than '..Said'. Prove '..Said' where nothing that the law and all that it calls make is longer than what came in: it says more and counts as full. Else prove '..UptoSaid'. A law counts once. -/
mutual
def uptoBulk {H : Type} : DataW H → Nat
  | .lit (.string bytes) => bytes.length + 1
  | .lit _ => 1
  | .nil => 1
  | .ptr d => uptoBulk d + 1
  | .slice elems spare => uptoBulkAll elems + uptoBulkAll spare + 1
  | .agg parts => uptoBulkAll parts + 1
  | .iface _ d => uptoBulk d + 1
  | .map entries => uptoBulkEntries entries + 1
  | .held _ => 1
def uptoBulkAll {H : Type} : List (DataW H) → Nat
  | [] => 0
  | d :: r => uptoBulk d + uptoBulkAll r
def uptoBulkEntries {H : Type} : List (Lit × DataW H) → Nat
  | [] => 0
  | x :: r => uptoBulkEntry x + uptoBulkEntries r
def uptoBulkEntry {H : Type} : Lit × DataW H → Nat
  | (.string bytes, d) => bytes.length + uptoBulk d + 1
  | (_, d) => uptoBulk d + 1
 end
def uptoSmall : (H : Type) → List (DataW H) → Bool := fun _ ds => decide (uptoBulkAll ds ≤ 1048576)
def OpenSpec.upto (s : _root_.Go.ChangeSpec) : _root_.Go.OpenSpec := { _root_.Go.OpenSpec.ofChange s with cond := some uptoSmall }

/-- 'odographlaw05.VoteCounts', WHERE WHAT IT READS IS OF BULK AT MOST 1048576: true; the input reads as it did. -/
def voteCountsUptoRow : OpenClaim := { program := "ytppfkjbafbajgaa", sum := "b9c6d09bb26ba8922b0824abb76dee61873060c3be48fee9effca4ccb5da2236", func := "odograph/odographlaw05.VoteCounts", spec := "voteCounts", unfollowed := true, recurses := true, apart := false, narrowed := true }
def VoteCountsUptoSaid : Prop := voteCountsUptoRow.holds Try.pinned (OpenSpec.upto voteCountsSpec)

/-- 'odographlaw05.VoteSafe', WHERE WHAT IT READS IS OF BULK AT MOST 1048576: true; the input reads as it did. -/
def voteSafeUptoRow : OpenClaim := { program := "ytppfkjbafbajgaa", sum := "b9c6d09bb26ba8922b0824abb76dee61873060c3be48fee9effca4ccb5da2236", func := "odograph/odographlaw05.VoteSafe", spec := "voteSafe", unfollowed := true, recurses := true, apart := false, narrowed := true }
def VoteSafeUptoSaid : Prop := voteSafeUptoRow.holds Try.pinned (OpenSpec.upto voteSafeSpec)

/-- 'odographlaw05.VoteStrays', WHERE WHAT IT READS IS OF BULK AT MOST 1048576: true; the input reads as it did. -/
def voteStraysUptoRow : OpenClaim := { program := "ytppfkjbafbajgaa", sum := "b9c6d09bb26ba8922b0824abb76dee61873060c3be48fee9effca4ccb5da2236", func := "odograph/odographlaw05.VoteStrays", spec := "voteStrays", unfollowed := true, recurses := true, apart := false, narrowed := true }
def VoteStraysUptoSaid : Prop := voteStraysUptoRow.holds Try.pinned (OpenSpec.upto voteStraysSpec)

/-- 'odographlaw05.VoteTurns', WHERE WHAT IT READS IS OF BULK AT MOST 1048576: true; the input reads as it did. -/
def voteTurnsUptoRow : OpenClaim := { program := "ytppfkjbafbajgaa", sum := "b9c6d09bb26ba8922b0824abb76dee61873060c3be48fee9effca4ccb5da2236", func := "odograph/odographlaw05.VoteTurns", spec := "voteTurns", unfollowed := true, recurses := true, apart := false, narrowed := true }
def VoteTurnsUptoSaid : Prop := voteTurnsUptoRow.holds Try.pinned (OpenSpec.upto voteTurnsSpec)

end Rows
end Go.Proofs.Ytppfkjbafbajgaa
