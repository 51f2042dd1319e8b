/-
  No cell of these rows narrows 'for every input' (looked for: loops, veiled, ifaces, maps, wideKeys, modest, calm, conditions, laid).
  DERIVED. THE GIVEN ROWS OF THIS SEAT. 5 by the template 'for every input the law returns true; each argument reads behind the call as it read before'; 0 by the template 'total and deterministic' (their statements: YtdkahonmblnlgaaTotals.lean).
  GIVEN WITH THE SEED: the statements are not yours to turn. If you find one false, say at which input.
  Laid BY PROGRAM, IN A SANDBOX (cutbox-rows.mjs): the forced cells as the released guide's own fill.sh prints them over the translation 1e9dc9264a25f67c… (all of the seat's roots in one cut). By AI agents, Wed Nov 11 2026. No macro, syntax, notation, axiom, sorry.
-/
import Derived.Test.YtdkahonmblnlgaaChecked
import GoSem.Claim
import GoSem.ClaimJoined
import GoSem.ClaimMapViews
import Derived.JoinedTies
import Derived.KernelRfl
namespace Go.Proofs.Ytdkahonmblnlgaa
/- THE CELL 'sum', in the pinned program and in every row, IS THE sha256 OF THE DUMP (.gsa) THAT YtdkahonmblnlgaaProg.lean LOADS. Nothing in Lean hashes anything: it is a label: what it is worth is what the hold of that sum in a sandbox is worth. -/
noncomputable def Try.pinned : Pinned := { name := "ytdkahonmblnlgaa", sum := "1e9dc9264a25f67c5690d2d978e2388a98ac20dd01b2fb23d213b972c18403af", checked := Try.checked }
namespace Rows
def none {H : Type} : Left H := { results := [], args := [] }

/-- 'odographlaw11.TrackChecks': WHATEVER THE INPUT: true; the input reads as it did. -/
def trackChecksSpec : ChangeSpec := { name := "trackChecks", fn := fun _ => fun
  | [d] => { results := [.lit (.bool true)], args := [d] }
  | _ => none }
def trackChecksRow : OpenClaim := { program := "ytdkahonmblnlgaa", sum := "1e9dc9264a25f67c5690d2d978e2388a98ac20dd01b2fb23d213b972c18403af", func := "odograph/odographlaw11.TrackChecks", spec := "trackChecks", unfollowed := true, recurses := true, apart := false }
def TrackChecksSaid : Prop := trackChecksRow.holds Try.pinned (OpenSpec.ofChange trackChecksSpec)

/-- ITS FALSE NEIGHBOUR: 'it returns false'. Refute it at one input. -/
def trackChecksWrong : ChangeSpec := { name := "trackChecks", fn := fun _ => fun
  | [d] => { results := [.lit (.bool false)], args := [d] }
  | _ => none }
def TrackChecksWrongFalsely : Prop := trackChecksRow.holds Try.pinned (OpenSpec.ofChange trackChecksWrong)

/-- 'odographlaw11.TrackFinds': WHATEVER THE INPUT: true; the input reads as it did. -/
def trackFindsSpec : ChangeSpec := { name := "trackFinds", fn := fun _ => fun
  | [d1, d2] => { results := [.lit (.bool true)], args := [d1, d2] }
  | _ => none }
def trackFindsRow : OpenClaim := { program := "ytdkahonmblnlgaa", sum := "1e9dc9264a25f67c5690d2d978e2388a98ac20dd01b2fb23d213b972c18403af", func := "odograph/odographlaw11.TrackFinds", spec := "trackFinds", unfollowed := true, recurses := true, apart := false }
def TrackFindsSaid : Prop := trackFindsRow.holds Try.pinned (OpenSpec.ofChange trackFindsSpec)

/-- ITS FALSE NEIGHBOUR: 'it returns false'. Refute it at one input. -/
def trackFindsWrong : ChangeSpec := { name := "trackFinds", fn := fun _ => fun
  | [d1, d2] => { results := [.lit (.bool false)], args := [d1, d2] }
  | _ => none }
def TrackFindsWrongFalsely : Prop := trackFindsRow.holds Try.pinned (OpenSpec.ofChange trackFindsWrong)

/-- 'odographlaw11.TrackGrades': WHATEVER THE INPUT: true; the input reads as it did. -/
def trackGradesSpec : ChangeSpec := { name := "trackGrades", fn := fun _ => fun
  | [d] => { results := [.lit (.bool true)], args := [d] }
  | _ => none }
def trackGradesRow : OpenClaim := { program := "ytdkahonmblnlgaa", sum := "1e9dc9264a25f67c5690d2d978e2388a98ac20dd01b2fb23d213b972c18403af", func := "odograph/odographlaw11.TrackGrades", spec := "trackGrades", unfollowed := true, recurses := true, apart := false }
def TrackGradesSaid : Prop := trackGradesRow.holds Try.pinned (OpenSpec.ofChange trackGradesSpec)

/-- ITS FALSE NEIGHBOUR: 'it returns false'. Refute it at one input. -/
def trackGradesWrong : ChangeSpec := { name := "trackGrades", fn := fun _ => fun
  | [d] => { results := [.lit (.bool false)], args := [d] }
  | _ => none }
def TrackGradesWrongFalsely : Prop := trackGradesRow.holds Try.pinned (OpenSpec.ofChange trackGradesWrong)

/-- 'odographlaw11.TrackFollows': WHATEVER THE INPUT: true; the input reads as it did. -/
def trackFollowsSpec : ChangeSpec := { name := "trackFollows", fn := fun _ => fun
  | [d1, d2, d3] => { results := [.lit (.bool true)], args := [d1, d2, d3] }
  | _ => none }
def trackFollowsRow : OpenClaim := { program := "ytdkahonmblnlgaa", sum := "1e9dc9264a25f67c5690d2d978e2388a98ac20dd01b2fb23d213b972c18403af", func := "odograph/odographlaw11.TrackFollows", spec := "trackFollows", unfollowed := true, recurses := true, apart := false }
def TrackFollowsSaid : Prop := trackFollowsRow.holds Try.pinned (OpenSpec.ofChange trackFollowsSpec)

/-- ITS FALSE NEIGHBOUR: 'it returns false'. Refute it at one input. -/
def trackFollowsWrong : ChangeSpec := { name := "trackFollows", fn := fun _ => fun
  | [d1, d2, d3] => { results := [.lit (.bool false)], args := [d1, d2, d3] }
  | _ => none }
def TrackFollowsWrongFalsely : Prop := trackFollowsRow.holds Try.pinned (OpenSpec.ofChange trackFollowsWrong)

/-- 'odographlaw11.TrackLess': WHATEVER THE INPUT: true; the input reads as it did. -/
def trackLessSpec : ChangeSpec := { name := "trackLess", fn := fun _ => fun
  | [d] => { results := [.lit (.bool true)], args := [d] }
  | _ => none }
def trackLessRow : OpenClaim := { program := "ytdkahonmblnlgaa", sum := "1e9dc9264a25f67c5690d2d978e2388a98ac20dd01b2fb23d213b972c18403af", func := "odograph/odographlaw11.TrackLess", spec := "trackLess", unfollowed := true, recurses := true, apart := false }
def TrackLessSaid : Prop := trackLessRow.holds Try.pinned (OpenSpec.ofChange trackLessSpec)

/-- ITS FALSE NEIGHBOUR: 'it returns false'. Refute it at one input. -/
def trackLessWrong : ChangeSpec := { name := "trackLess", fn := fun _ => fun
  | [d] => { results := [.lit (.bool false)], args := [d] }
  | _ => none }
def TrackLessWrongFalsely : Prop := trackLessRow.holds Try.pinned (OpenSpec.ofChange trackLessWrong)

/- THE SECOND FORM. 'bulk': how many values and letters a reading holds, each counted each time it is reached (what is shared counts as often as it is met; a slice's spare places count too). A statement '..UptoSaid' is the law's where the arguments, and the package variables that the reading takes, are together of bulk at most 1048576: NARROWER than '..Said'. Prove '..Said' where nothing that the law and all that it calls make is longer than what came in: it says more and counts as full. Else prove '..UptoSaid'. A law counts once. -/
mutual
def uptoBulk {H : Type} : DataW H → Nat
  | .lit (.string bytes) => bytes.length + 1
  | .lit _ => 1
  | .nil => 1
  | .ptr d => uptoBulk d + 1
  | .slice elems spare => uptoBulkAll elems + uptoBulkAll spare + 1
  | .agg parts => uptoBulkAll parts + 1
  | .iface _ d => uptoBulk d + 1
  | .map entries => uptoBulkEntries entries + 1
  | .held _ => 1
def uptoBulkAll {H : Type} : List (DataW H) → Nat
  | [] => 0
  | d :: r => uptoBulk d + uptoBulkAll r
def uptoBulkEntries {H : Type} : List (Lit × DataW H) → Nat
  | [] => 0
  | x :: r => uptoBulkEntry x + uptoBulkEntries r
def uptoBulkEntry {H : Type} : Lit × DataW H → Nat
  | (.string bytes, d) => bytes.length + uptoBulk d + 1
  | (_, d) => uptoBulk d + 1
 end
def uptoSmall : (H : Type) → List (DataW H) → Bool := fun _ ds => decide (uptoBulkAll ds ≤ 1048576)
def OpenSpec.upto (s : _root_.Go.ChangeSpec) : _root_.Go.OpenSpec := { _root_.Go.OpenSpec.ofChange s with cond := some uptoSmall }

/-- 'odographlaw11.TrackChecks', WHERE WHAT IT READS IS OF BULK AT MOST 1048576: true; the input reads as it did. -/
def trackChecksUptoRow : OpenClaim := { program := "ytdkahonmblnlgaa", sum := "1e9dc9264a25f67c5690d2d978e2388a98ac20dd01b2fb23d213b972c18403af", func := "odograph/odographlaw11.TrackChecks", spec := "trackChecks", unfollowed := true, recurses := true, apart := false, narrowed := true }
def TrackChecksUptoSaid : Prop := trackChecksUptoRow.holds Try.pinned (OpenSpec.upto trackChecksSpec)

/-- 'odographlaw11.TrackFinds', WHERE WHAT IT READS IS OF BULK AT MOST 1048576: true; the input reads as it did. -/
def trackFindsUptoRow : OpenClaim := { program := "ytdkahonmblnlgaa", sum := "1e9dc9264a25f67c5690d2d978e2388a98ac20dd01b2fb23d213b972c18403af", func := "odograph/odographlaw11.TrackFinds", spec := "trackFinds", unfollowed := true, recurses := true, apart := false, narrowed := true }
def TrackFindsUptoSaid : Prop := trackFindsUptoRow.holds Try.pinned (OpenSpec.upto trackFindsSpec)

/-- 'odographlaw11.TrackGrades', WHERE WHAT IT READS IS OF BULK AT MOST 1048576: true; the input reads as it did. -/
def trackGradesUptoRow : OpenClaim := { program := "ytdkahonmblnlgaa", sum := "1e9dc9264a25f67c5690d2d978e2388a98ac20dd01b2fb23d213b972c18403af", func := "odograph/odographlaw11.TrackGrades", spec := "trackGrades", unfollowed := true, recurses := true, apart := false, narrowed := true }
def TrackGradesUptoSaid : Prop := trackGradesUptoRow.holds Try.pinned (OpenSpec.upto trackGradesSpec)

/-- 'odographlaw11.TrackFollows', WHERE WHAT IT READS IS OF BULK AT MOST 1048576: true; the input reads as it did. -/
def trackFollowsUptoRow : OpenClaim := { program := "ytdkahonmblnlgaa", sum := "1e9dc9264a25f67c5690d2d978e2388a98ac20dd01b2fb23d213b972c18403af", func := "odograph/odographlaw11.TrackFollows", spec := "trackFollows", unfollowed := true, recurses := true, apart := false, narrowed := true }
def TrackFollowsUptoSaid : Prop := trackFollowsUptoRow.holds Try.pinned (OpenSpec.upto trackFollowsSpec)

/-- 'odographlaw11.TrackLess', WHERE WHAT IT READS IS OF BULK AT MOST 1048576: true; the input reads as it did. -/
def trackLessUptoRow : OpenClaim := { program := "ytdkahonmblnlgaa", sum := "1e9dc9264a25f67c5690d2d978e2388a98ac20dd01b2fb23d213b972c18403af", func := "odograph/odographlaw11.TrackLess", spec := "trackLess", unfollowed := true, recurses := true, apart := false, narrowed := true }
def TrackLessUptoSaid : Prop := trackLessUptoRow.holds Try.pinned (OpenSpec.upto trackLessSpec)

end Rows
end Go.Proofs.Ytdkahonmblnlgaa
