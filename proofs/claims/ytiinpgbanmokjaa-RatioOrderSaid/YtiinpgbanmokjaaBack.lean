/-
  Contracts of Back, Times and told of the reference. Conditions: signs 1 or -1, sizes below 2^127.
-/
import Derived.Test.YtiinpgbanmokjaaRef
import Derived.Deep.RegionWith
import Derived.BigGuardPart
namespace Go.Proofs.Ytiinpgbanmokjaa.Ref
open Go.ChangeShapes Go.WideShapes Go.ChangeAt Go.RowKit
open Num
set_option linter.unusedVariables false

theorem bcell' {W w1 : World} (hb : Below W.heap.size W w1) : (∀ b o, b < W.heap.size → w1.cell? ⟨b, o, none⟩ = W.cell? ⟨b, o, none⟩) ∧ (∀ b o, b < W.heap.size → w1.frozen? ⟨b, o, none⟩ = W.frozen? ⟨b, o, none⟩) :=
  ⟨fun b o h => hb.cell (p := ⟨b, o, none⟩) h, fun b o h => hb.frozen (p := ⟨b, o, none⟩) h⟩
theorem ret_pair {a b : Int} {c : Bool} (h : a = b) : Ending.returned (.tuple #[.int .i64 a, .bool c]) = .returned (.tuple #[.int .i64 b, .bool c]) := by rw [h]
theorem d4_least : D4 9223372036854775808 = .agg #[.int .u64 0, .int .u64 2147483648, .int .u64 0, .int .u64 0] := by unfold D4; rfl

theorem two_digits {n : Int} (h0 : 0 ≤ n) (h : n ≤ 9223372036854775808) : 0 ≤ n % 4294967296 ∧ n % 4294967296 ≤ 4294967295 ∧ 0 ≤ n / 4294967296 % 4294967296 ∧ n / 4294967296 % 4294967296 ≤ 2147483648 ∧ n / 4294967296 % 4294967296 * 4294967296 + n % 4294967296 = n := by omega
end Go.Proofs.Ytiinpgbanmokjaa.Ref
