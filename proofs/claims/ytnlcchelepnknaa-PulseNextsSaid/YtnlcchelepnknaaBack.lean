/-
  Contracts of Back, Times and told of the reference. Conditions: signs 1 or -1, sizes below 2^127.
-/
import Derived.Test.YtnlcchelepnknaaRef
import Derived.Deep.RegionWith
import Derived.BigGuardPart
namespace Go.Proofs.Ytnlcchelepnknaa.Ref
open Go.ChangeShapes Go.WideShapes Go.ChangeAt Go.RowKit
open Num
set_option linter.unusedVariables false

theorem bcell' {W w1 : World} (hb : Below W.heap.size W w1) : (∀ b o, b < W.heap.size → w1.cell? ⟨b, o, none⟩ = W.cell? ⟨b, o, none⟩) ∧ (∀ b o, b < W.heap.size → w1.frozen? ⟨b, o, none⟩ = W.frozen? ⟨b, o, none⟩) :=
  ⟨fun b o h => hb.cell (p := ⟨b, o, none⟩) h, fun b o h => hb.frozen (p := ⟨b, o, none⟩) h⟩
theorem ret_pair {a b : Int} {c : Bool} (h : a = b) : Ending.returned (.tuple #[.int .i64 a, .bool c]) = .returned (.tuple #[.int .i64 b, .bool c]) := by rw [h]
theorem d4_least : D4 9223372036854775808 = .agg #[.int .u64 0, .int .u64 2147483648, .int .u64 0, .int .u64 0] := by unfold D4; rfl

theorem back_under (n : Int) (w : World) (hn : 9223372036854775808 < n) :
    Calls Try.prog 11 #[NV (-1) n] w fun e w' => e = .returned (.tuple #[.int .i64 (-9223372036854775808), .bool false]) ∧ Below w.heap.size w w' := by
  have c := fun W => less_any 9223372036854775808 n W
  rw [decide_eq_true hn, d4_least] at c
  clear hn
  unfold D4 at c
  unfold NV
  generalize n % 4294967296 = a0 at *
  generalize n / 4294967296 % 4294967296 = a1 at *
  generalize n / 18446744073709551616 % 4294967296 = a2 at *
  generalize n / 79228162514264337593543950336 = a3 at *
  go_enter Try.func11, Try.ntmps11
  go_wp2_with (go_at_call 15; refine (c _).mono ?_; rintro e w1 ⟨rfl, hb⟩; obtain ⟨hc, hf⟩ := bcell' hb; have hz := hb.size; simp at hz)
  go_ret2
  refine ⟨rfl, ?_⟩
  exact (((Below.refl _ _).alloc (Nat.le_refl _) _).alloc (by simp) _).trans (hb.mono (by simp; omega))
theorem back_over (n : Int) (w : World) (hn : 9223372036854775808 ≤ n) :
    Calls Try.prog 11 #[NV 1 n] w fun e w' => e = .returned (.tuple #[.int .i64 9223372036854775807, .bool false]) ∧ Below w.heap.size w w' := by
  have c := fun W => less_any n 9223372036854775808 W
  rw [decide_eq_false (by omega), d4_least] at c
  clear hn
  unfold D4 at c
  unfold NV
  generalize n % 4294967296 = a0 at *
  generalize n / 4294967296 % 4294967296 = a1 at *
  generalize n / 18446744073709551616 % 4294967296 = a2 at *
  generalize n / 79228162514264337593543950336 = a3 at *
  go_enter Try.func11, Try.ntmps11
  go_wp2_with (go_at_call 15; refine (c _).mono ?_; rintro e w1 ⟨rfl, hb⟩; obtain ⟨hc, hf⟩ := bcell' hb; have hz := hb.size; simp at hz)
  go_ret2
  refine ⟨rfl, ?_⟩
  exact (((Below.refl _ _).alloc (Nat.le_refl _) _).alloc (by simp) _).trans (hb.mono (by simp; omega))
theorem two_digits {n : Int} (h0 : 0 ≤ n) (h : n ≤ 9223372036854775808) : 0 ≤ n % 4294967296 ∧ n % 4294967296 ≤ 4294967295 ∧ 0 ≤ n / 4294967296 % 4294967296 ∧ n / 4294967296 % 4294967296 ≤ 2147483648 ∧ n / 4294967296 % 4294967296 * 4294967296 + n % 4294967296 = n := by omega
theorem back_minus (n : Int) (w : World) (h0 : 0 ≤ n) (hn : n ≤ 9223372036854775808) :
    Calls Try.prog 11 #[NV (-1) n] w fun e w' => e = .returned (.tuple #[.int .i64 (-n), .bool true]) ∧ Below w.heap.size w w' := by
  have c := fun W => less_any 9223372036854775808 n W
  rw [decide_eq_false (by omega), d4_least] at c
  obtain ⟨p0, q0, p1, q1, e⟩ := two_digits h0 hn
  unfold D4 at c
  unfold NV
  generalize n % 4294967296 = a0 at *
  generalize n / 4294967296 % 4294967296 = a1 at *
  generalize n / 18446744073709551616 % 4294967296 = a2 at *
  generalize n / 79228162514264337593543950336 = a3 at *
  have E := Lib.hid e
  clear e
  go_enter Try.func11, Try.ntmps11
  go_wp2_with (go_at_call 15; refine (c _).mono ?_; rintro e w1 ⟨rfl, hb⟩; obtain ⟨hc, hf⟩ := bcell' hb; have hz := hb.size; simp at hz)
  go_ret2
  refine ⟨?_, ?_⟩
  · exact ret_pair (by rw [E.out]; simp only [IntKind.wrap, IntKind.bits, IntKind.signed, wrap64]; simp; omega)
  exact (((Below.refl _ _).alloc (Nat.le_refl _) _).alloc (by simp) _).trans (hb.mono (by simp; omega))
theorem back_plus (n : Int) (w : World) (h0 : 0 ≤ n) (hn : n < 9223372036854775808) :
    Calls Try.prog 11 #[NV 1 n] w fun e w' => e = .returned (.tuple #[.int .i64 n, .bool true]) ∧ Below w.heap.size w w' := by
  have c := fun W => less_any n 9223372036854775808 W
  rw [decide_eq_true hn, d4_least] at c
  obtain ⟨p0, q0, p1, q1, e⟩ := two_digits h0 (by omega)
  unfold D4 at c
  unfold NV
  generalize n % 4294967296 = a0 at *
  generalize n / 4294967296 % 4294967296 = a1 at *
  generalize n / 18446744073709551616 % 4294967296 = a2 at *
  generalize n / 79228162514264337593543950336 = a3 at *
  have E := Lib.hid e
  clear e
  go_enter Try.func11, Try.ntmps11
  go_wp2_with (go_at_call 15; refine (c _).mono ?_; rintro e w1 ⟨rfl, hb⟩; obtain ⟨hc, hf⟩ := bcell' hb; have hz := hb.size; simp at hz)
  go_ret2
  refine ⟨?_, ?_⟩
  · exact ret_pair (by rw [E.out]; unfold wrap64; omega)
  exact (((Below.refl _ _).alloc (Nat.le_refl _) _).alloc (by simp) _).trans (hb.mono (by simp; omega))

/-- What is told of a number with sign s and size n: it, or the nearest that fits; and whether it fits. -/
theorem back_any (s n : Int) (w : World) (hs : s = 1 ∨ s = -1) (h0 : 0 ≤ n) :
    Calls Try.prog 11 #[NV s n] w fun e w' => e = .returned (.tuple #[.int .i64 (sat (s * n)), .bool (decide (Fits (s * n)))]) ∧ Below w.heap.size w w' := by
  rcases hs with rfl | rfl
  · rw [Int.one_mul]
    by_cases h : n < 9223372036854775808
    · have hf : Fits n := by unfold Fits; omega
      rw [sat_fits hf, decide_eq_true hf]
      exact back_plus n w h0 h
    · have hf : ¬ Fits n := by unfold Fits; omega
      have hs : sat n = 9223372036854775807 := by unfold sat; split <;> (try split) <;> omega
      rw [hs, decide_eq_false hf]
      exact back_over n w (by omega)
  · have e : -1 * n = -n := by omega
    rw [e]
    by_cases h : n ≤ 9223372036854775808
    · have hf : Fits (-n) := by unfold Fits; omega
      rw [sat_fits hf, decide_eq_true hf]
      exact back_minus n w h0 h
    · have hf : ¬ Fits (-n) := by unfold Fits; omega
      have hs : sat (-n) = -9223372036854775808 := by unfold sat; split <;> (try split) <;> omega
      rw [hs, decide_eq_false hf]
      exact back_under n w (by omega)

end Go.Proofs.Ytnlcchelepnknaa.Ref
