/-
  Contract of package wide: the quotient, told of natural numbers; the document's examples. Condition: halves below 2^64.
-/
import Derived.Test.YtcelmgkjkdbliaaKnuth
import Derived.Test.YtcelmgkjkdbliaaWroot
namespace Go.Proofs.Ytcelmgkjkdbliaa.Wide
open Go.ChangeShapes Go.WideShapes Go.ChangeAt Go.RowKit
open Arr Bt
set_option linter.unusedVariables false
set_option maxRecDepth 100000

theorem div64_any (hi lo y : Nat) (w : World) (hy : hi < y) (h1 : H y) (h2 : H lo) :
    Calls Try.prog 28 #[.int .u64 hi, .int .u64 lo, .int .u64 y] w fun e w' => e = .returned (.tuple #[.int .u64 ((num hi lo / y : Nat) : Int), .int .u64 ((num hi lo % y : Nat) : Int)]) ∧ ∃ n, w' = w.drewN n := by
  by_cases h0 : hi = 0
  · subst h0
    have e : num 0 lo = lo := by unfold num; omega
    rw [e]
    exact div64_zero lo y w hy h2
  · exact (div64_pos hi lo y w (by omega) hy h1 h2).mono fun e w' ⟨a, b⟩ => ⟨a, 0, b⟩
theorem split_div {xh xl d : Nat} (hd : 0 < d) (hd' : H d) (h2 : H xl) : num xh xl / d = num (xh / d) (num (xh % d) xl / d) ∧ num xh xl % d = num (xh % d) xl % d ∧ H (num (xh % d) xl / d) := by
  have e := Nat.div_add_mod xh d
  have e2 : num xh xl = d * (xh / d * 18446744073709551616) + num (xh % d) xl := by
    unfold num
    rw [show d * (xh / d * 18446744073709551616) = d * (xh / d) * 18446744073709551616 by ac_rfl]
    omega
  refine ⟨?_, ?_, ?_⟩
  · rw [e2, Nat.mul_add_div hd]
    unfold num
    omega
  · rw [e2, Nat.mul_add_mod]
  · have hl := Nat.mod_lt xh hd
    unfold H at *
    rw [Nat.div_lt_iff_lt_mul hd]
    have := Nat.mul_le_mul_right 18446744073709551616 (show xh % d + 1 ≤ d from hl)
    unfold num
    omega
theorem div_none (xh xl : Nat) (w : World) :
    Calls Try.prog 22 #[.agg #[.int .u64 xh, .int .u64 xl], .int .u64 0] w fun e w' => e = .returned (.tuple #[.agg #[.int .u64 0, .int .u64 0], .int .u64 0, .int .i64 21]) ∧ Below w.heap.size w w' := by
  go_enter Try.func22, Try.ntmps22
  go_wp2
  refine bodyPost_ret (v := .tuple #[.agg #[.int .u64 0, .int .u64 0], .int .u64 0, .int .i64 21]) (by simp [results, Try.results22, go_sem]) rfl ⟨rfl, ?_⟩
  exact ((Below.refl _ _).alloc (Nat.le_refl _) _).alloc (by simp) _
theorem div_halves (xh xl d : Nat) (w : World) (h1 : H xh) (h2 : H xl) (hd : H d) (h0 : 0 < d) :
    Calls Try.prog 22 #[.agg #[.int .u64 xh, .int .u64 xl], .int .u64 d] w fun e w' => e = .returned (.tuple #[UV (num xh xl / d), .int .u64 ((num xh xl % d : Nat) : Int), .int .i64 0]) ∧ Below w.heap.size w w' := by
  obtain ⟨s1, s2, s3⟩ := split_div (xh := xh) h0 hd h2
  rw [s1, s2, uv_num s3]
  have c := fun W => div64_any (xh % d) xl d W (Nat.mod_lt _ h0) hd h2
  have t1 : ((d : Int) == 0) = false := by simp; omega
  have p1 : (1 : Int) ≤ (d : Int) := by omega
  have p2 : (0 : Int) ≤ (xh : Int) := by omega
  have e1 : IntKind.u64.wrap ((xh : Int) / (d : Int)) = ((xh / d : Nat) : Int) := by
    have h3 : xh / d ≤ xh := Nat.div_le_self _ _
    rw [← Int.natCast_ediv, IntKind.wrap_u64]; unfold H at h1; generalize xh / d = q at *; omega
  have e2 : (xh : Int) % (d : Int) = ((xh % d : Nat) : Int) := (Int.natCast_emod _ _).symm
  generalize num (xh % d) xl / d = Q at *
  generalize num (xh % d) xl % d = T at *
  generalize hq : xh / d = q at *
  generalize hr : xh % d = r at *
  clear hq hr s1 s2 s3 h1 h2 hd h0
  go_enter Try.func22, Try.ntmps22
  go_wp2
  go_quiet (fail)
  go_wp2_with (go_at_call 28; first | ((with_reducible refine (c _).mono ?_); rintro e w' ⟨rfl, nn, rfl⟩) | (rw [e2]; (with_reducible refine (c _).mono ?_); rintro e w' ⟨rfl, nn, rfl⟩))
  refine bodyPost_ret (v := .tuple #[.agg #[.int .u64 q, .int .u64 Q], .int .u64 T, .int .i64 0]) (by simp [results, Try.results22, go_sem]) rfl ⟨rfl, ?_⟩
  exact ((below_drewN (((Below.refl _ _).alloc (Nat.le_refl _) _).alloc (by simp) _) _).setCell (by simp) _).setCell (by simp) _
end Go.Proofs.Ytcelmgkjkdbliaa.Wide
