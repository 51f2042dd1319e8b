/-
  No cell of these rows narrows 'for every input' (looked for: loops, veiled, ifaces, maps, wideKeys, modest, calm, conditions, laid).
  DERIVED. THE GIVEN ROWS OF THIS SEAT. 4 by the template 'for every input the law returns true; each argument reads behind the call as it read before'; 0 by the template 'total and deterministic' (their statements: YtkbaponpebkpiaaTotals.lean).
  GIVEN WITH THE SEED: the statements are not yours to turn. If you find one false, say at which input.
  Laid BY PROGRAM, IN A SANDBOX (cutbox-rows.mjs): the forced cells as the released guide's own fill.sh prints them over the translation e7f0a36b68d0e3d9… (all of the seat's roots in one cut). By AI agents, Wed Nov 11 2026. No macro, syntax, notation, axiom, sorry.
-/
import Derived.Test.YtkbaponpebkpiaaChecked
import GoSem.Claim
import GoSem.ClaimJoined
import GoSem.ClaimMapViews
import Derived.JoinedTies
import Derived.KernelRfl
namespace Go.Proofs.Ytkbaponpebkpiaa
/- THE CELL 'sum', in the pinned program and in every row, IS THE sha256 OF THE DUMP (.gsa) THAT YtkbaponpebkpiaaProg.lean LOADS. Nothing in Lean hashes anything: it is a label: what it is worth is what the hold of that sum in a sandbox is worth. -/
noncomputable def Try.pinned : Pinned := { name := "ytkbaponpebkpiaa", sum := "e7f0a36b68d0e3d9e675543b1eadf15a67916175eda7a050428818861c331a04", checked := Try.checked }
namespace Rows
def none {H : Type} : Left H := { results := [], args := [] }

/-- 'odographlaw14.RouteGrows': WHATEVER THE INPUT: true; the input reads as it did. -/
def routeGrowsSpec : ChangeSpec := { name := "routeGrows", fn := fun _ => fun
  | [d1, d2, d3, d4] => { results := [.lit (.bool true)], args := [d1, d2, d3, d4] }
  | _ => none }
def routeGrowsRow : OpenClaim := { program := "ytkbaponpebkpiaa", sum := "e7f0a36b68d0e3d9e675543b1eadf15a67916175eda7a050428818861c331a04", func := "odograph/odographlaw14.RouteGrows", spec := "routeGrows", unfollowed := true, recurses := true, plainKeys := false, apart := false }
def RouteGrowsSaid : Prop := routeGrowsRow.holds Try.pinned (OpenSpec.ofChange routeGrowsSpec)

/-- ITS FALSE NEIGHBOUR: 'it returns false'. Refute it at one input. -/
def routeGrowsWrong : ChangeSpec := { name := "routeGrows", fn := fun _ => fun
  | [d1, d2, d3, d4] => { results := [.lit (.bool false)], args := [d1, d2, d3, d4] }
  | _ => none }
def RouteGrowsWrongFalsely : Prop := routeGrowsRow.holds Try.pinned (OpenSpec.ofChange routeGrowsWrong)

/-- 'odographlaw14.RoutePlaces': WHATEVER THE INPUT: true; the input reads as it did. -/
def routePlacesSpec : ChangeSpec := { name := "routePlaces", fn := fun _ => fun
  | [d1, d2, d3, d4, d5] => { results := [.lit (.bool true)], args := [d1, d2, d3, d4, d5] }
  | _ => none }
def routePlacesRow : OpenClaim := { program := "ytkbaponpebkpiaa", sum := "e7f0a36b68d0e3d9e675543b1eadf15a67916175eda7a050428818861c331a04", func := "odograph/odographlaw14.RoutePlaces", spec := "routePlaces", unfollowed := true, recurses := true, plainKeys := false, apart := false }
def RoutePlacesSaid : Prop := routePlacesRow.holds Try.pinned (OpenSpec.ofChange routePlacesSpec)

/-- ITS FALSE NEIGHBOUR: 'it returns false'. Refute it at one input. -/
def routePlacesWrong : ChangeSpec := { name := "routePlaces", fn := fun _ => fun
  | [d1, d2, d3, d4, d5] => { results := [.lit (.bool false)], args := [d1, d2, d3, d4, d5] }
  | _ => none }
def RoutePlacesWrongFalsely : Prop := routePlacesRow.holds Try.pinned (OpenSpec.ofChange routePlacesWrong)

/-- 'odographlaw14.RouteKeeps': WHATEVER THE INPUT: true; the input reads as it did. -/
def routeKeepsSpec : ChangeSpec := { name := "routeKeeps", fn := fun _ => fun
  | [d1, d2, d3, d4, d5] => { results := [.lit (.bool true)], args := [d1, d2, d3, d4, d5] }
  | _ => none }
def routeKeepsRow : OpenClaim := { program := "ytkbaponpebkpiaa", sum := "e7f0a36b68d0e3d9e675543b1eadf15a67916175eda7a050428818861c331a04", func := "odograph/odographlaw14.RouteKeeps", spec := "routeKeeps", unfollowed := true, recurses := true, plainKeys := false, apart := false }
def RouteKeepsSaid : Prop := routeKeepsRow.holds Try.pinned (OpenSpec.ofChange routeKeepsSpec)

/-- ITS FALSE NEIGHBOUR: 'it returns false'. Refute it at one input. -/
def routeKeepsWrong : ChangeSpec := { name := "routeKeeps", fn := fun _ => fun
  | [d1, d2, d3, d4, d5] => { results := [.lit (.bool false)], args := [d1, d2, d3, d4, d5] }
  | _ => none }
def RouteKeepsWrongFalsely : Prop := routeKeepsRow.holds Try.pinned (OpenSpec.ofChange routeKeepsWrong)

/-- 'odographlaw14.RouteAgain': WHATEVER THE INPUT: true; the input reads as it did. -/
def routeAgainSpec : ChangeSpec := { name := "routeAgain", fn := fun _ => fun
  | [d1, d2, d3, d4, d5] => { results := [.lit (.bool true)], args := [d1, d2, d3, d4, d5] }
  | _ => none }
def routeAgainRow : OpenClaim := { program := "ytkbaponpebkpiaa", sum := "e7f0a36b68d0e3d9e675543b1eadf15a67916175eda7a050428818861c331a04", func := "odograph/odographlaw14.RouteAgain", spec := "routeAgain", unfollowed := true, recurses := true, plainKeys := false, apart := false }
def RouteAgainSaid : Prop := routeAgainRow.holds Try.pinned (OpenSpec.ofChange routeAgainSpec)

/-- ITS FALSE NEIGHBOUR: 'it returns false'. Refute it at one input. -/
def routeAgainWrong : ChangeSpec := { name := "routeAgain", fn := fun _ => fun
  | [d1, d2, d3, d4, d5] => { results := [.lit (.bool false)], args := [d1, d2, d3, d4, d5] }
  | _ => none }
def RouteAgainWrongFalsely : Prop := routeAgainRow.holds Try.pinned (OpenSpec.ofChange routeAgainWrong)

/- THE SECOND FORM. 'bulk': how many values and letters a reading holds, each counted each time it is reached (what is shared counts as often as it is met; a slice's spare places count too). A statement '..UptoSaid' is the law's where the arguments, and the package variables that the reading takes, are together of bulk at most 1048576: NARROWER than '..Said'. Prove '..Said' where nothing that the law and all that it calls make is longer than what came in: it says more and counts as full. Else prove '..UptoSaid'. A law counts once. -/
mutual
def uptoBulk {H : Type} : DataW H → Nat
  | .lit (.string bytes) => bytes.length + 1
  | .lit _ => 1
  | .nil => 1
  | .ptr d => uptoBulk d + 1
  | .slice elems spare => uptoBulkAll elems + uptoBulkAll spare + 1
  | .agg parts => uptoBulkAll parts + 1
  | .iface _ d => uptoBulk d + 1
  | .map entries => uptoBulkEntries entries + 1
  | .held _ => 1
def uptoBulkAll {H : Type} : List (DataW H) → Nat
  | [] => 0
  | d :: r => uptoBulk d + uptoBulkAll r
def uptoBulkEntries {H : Type} : List (Lit × DataW H) → Nat
  | [] => 0
  | x :: r => uptoBulkEntry x + uptoBulkEntries r
def uptoBulkEntry {H : Type} : Lit × DataW H → Nat
  | (.string bytes, d) => bytes.length + uptoBulk d + 1
  | (_, d) => uptoBulk d + 1
 end
def uptoSmall : (H : Type) → List (DataW H) → Bool := fun _ ds => decide (uptoBulkAll ds ≤ 1048576)
def OpenSpec.upto (s : _root_.Go.ChangeSpec) : _root_.Go.OpenSpec := { _root_.Go.OpenSpec.ofChange s with cond := some uptoSmall }

/-- 'odographlaw14.RouteGrows', WHERE WHAT IT READS IS OF BULK AT MOST 1048576: true; the input reads as it did. -/
def routeGrowsUptoRow : OpenClaim := { program := "ytkbaponpebkpiaa", sum := "e7f0a36b68d0e3d9e675543b1eadf15a67916175eda7a050428818861c331a04", func := "odograph/odographlaw14.RouteGrows", spec := "routeGrows", unfollowed := true, recurses := true, plainKeys := false, apart := false, narrowed := true }
def RouteGrowsUptoSaid : Prop := routeGrowsUptoRow.holds Try.pinned (OpenSpec.upto routeGrowsSpec)

/-- 'odographlaw14.RoutePlaces', WHERE WHAT IT READS IS OF BULK AT MOST 1048576: true; the input reads as it did. -/
def routePlacesUptoRow : OpenClaim := { program := "ytkbaponpebkpiaa", sum := "e7f0a36b68d0e3d9e675543b1eadf15a67916175eda7a050428818861c331a04", func := "odograph/odographlaw14.RoutePlaces", spec := "routePlaces", unfollowed := true, recurses := true, plainKeys := false, apart := false, narrowed := true }
def RoutePlacesUptoSaid : Prop := routePlacesUptoRow.holds Try.pinned (OpenSpec.upto routePlacesSpec)

/-- 'odographlaw14.RouteKeeps', WHERE WHAT IT READS IS OF BULK AT MOST 1048576: true; the input reads as it did. -/
def routeKeepsUptoRow : OpenClaim := { program := "ytkbaponpebkpiaa", sum := "e7f0a36b68d0e3d9e675543b1eadf15a67916175eda7a050428818861c331a04", func := "odograph/odographlaw14.RouteKeeps", spec := "routeKeeps", unfollowed := true, recurses := true, plainKeys := false, apart := false, narrowed := true }
def RouteKeepsUptoSaid : Prop := routeKeepsUptoRow.holds Try.pinned (OpenSpec.upto routeKeepsSpec)

/-- 'odographlaw14.RouteAgain', WHERE WHAT IT READS IS OF BULK AT MOST 1048576: true; the input reads as it did. -/
def routeAgainUptoRow : OpenClaim := { program := "ytkbaponpebkpiaa", sum := "e7f0a36b68d0e3d9e675543b1eadf15a67916175eda7a050428818861c331a04", func := "odograph/odographlaw14.RouteAgain", spec := "routeAgain", unfollowed := true, recurses := true, plainKeys := false, apart := false, narrowed := true }
def RouteAgainUptoSaid : Prop := routeAgainUptoRow.holds Try.pinned (OpenSpec.upto routeAgainSpec)

end Rows
end Go.Proofs.Ytkbaponpebkpiaa
