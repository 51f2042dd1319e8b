/-
  The walk of WideProducts: for any two numbers of 64 bits it returns true. No condition.
-/
import Derived.Test.YtjniohijomoakaaWdiv
import Derived.Test.YtjniohijomoakaaWprod
namespace Go.Proofs.Ytjniohijomoakaa.Walks
open Go.ChangeShapes Go.WideShapes Go.ChangeAt Go.RowKit
open Arr Bt Ref Wide Steady
set_option linter.unusedVariables false
set_option maxRecDepth 100000

theorem nat_of_wf {a : Int} (h : (Lit.int .u64 a).wf = true) : ∃ n : Nat, a = n ∧ H n := by
  have h1 : 0 ≤ a ∧ a ≤ 18446744073709551615 := by simpa [Lit.wf, IntKind.min, IntKind.max, IntKind.bits, IntKind.signed] using h
  exact ⟨a.toNat, by omega, by unfold H; omega⟩
theorem eql_bv (n : Nat) (w : World) : (Op.equalIn 10000 25 (.agg (bv n)) (.agg (bv n))).run Try.prog w = .ok true w :=
  run_equalIn_ints 9998 128 _ 25 3 .i64 w Try.underlying25 Try.underlying3 infoInt
theorem bits_of (n : Nat) (w : World) (hn : W128 n) :
    Calls Try.prog 10 #[.agg #[.int .u64 ((n / 18446744073709551616 : Nat) : Int), .int .u64 ((n % 18446744073709551616 : Nat) : Int)]] w fun e w' => e = .returned (.agg (bv n)) ∧ Below w.heap.size w w' := by
  have c := bits_any (n / 18446744073709551616) (n % 18446744073709551616) w (hi_H hn) (lo_H n)
  rw [show n / 18446744073709551616 * 18446744073709551616 + n % 18446744073709551616 = n by omega] at c
  exact c
theorem wideProducts_walk (a : Int) (wa : (Lit.int .u64 a).wf = true) (b : Int) (wb : (Lit.int .u64 b).wf = true) (w : World) :
    Calls Try.prog 3 #[.int .u64 a, .int .u64 b] w fun e w' => e = .returned (.bool true) ∧ Below w.heap.size w w' := by
  obtain ⟨n, rfl, hn⟩ := nat_of_wf wa
  obtain ⟨m, rfl, hm⟩ := nat_of_wf wb
  clear wa wb
  have c1 := fun W => Wide.mul_any n m W hn hm
  have c2 := fun W => bits_of (n * m) W (prodW hn hm)
  have c3 := fun W => Ref.mul_any n m W hn hm
  unfold UV at c1
  have he := eql_bv (n * m)
  generalize n * m / 18446744073709551616 = p at *
  generalize n * m % 18446744073709551616 = q at *
  generalize bv (n * m) = B at *
  clear hn hm
  go_enter Try.func3, Try.ntmps3
  go_wp2_with (first
    | (go_at_call 9; ((with_reducible refine (anchor_any _).mono ?_); rintro e w1 ⟨rfl, h1⟩))
    | (go_at_call 11; ((with_reducible refine (c1 _).mono ?_); rintro e w2 ⟨rfl, h2⟩))
    | (go_at_call 10; ((with_reducible refine (c2 _).mono ?_); rintro e w3 ⟨rfl, h3⟩))
    | (go_at_call 12; ((with_reducible refine (c3 _).mono ?_); rintro e w4 ⟨rfl, h4⟩)))
  go_ret
  have s1 := h1.size
  have s2 := h2.size
  have s3 := h3.size
  exact ⟨rfl, ((h1.trans (h2.mono s1)).trans (h3.mono (by omega))).trans (h4.mono (by omega))⟩
end Go.Proofs.Ytjniohijomoakaa.Walks
