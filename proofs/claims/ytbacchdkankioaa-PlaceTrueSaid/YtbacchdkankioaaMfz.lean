/-
  What all sensors together say, without a program. No condition.
  The reference of layer 5 (how many spans have a number; the least and the greatest that so many have), and the law's own helpers. Condition: at most a million spans.
  The reference of layer 17 (what all sensors say). Conditions: spans within 2^60, where one is fit.
-/
import Derived.Test.YtbacchdkankioaaVs2
import Derived.Test.YtbacchdkankioaaSpn
import Derived.Test.YtbacchdkankioaaVs
import Derived.Test.YtbacchdkankioaaSmu
namespace Go.Proofs.Ytbacchdkankioaa.Fzm
open Go.ChangeShapes Go.WideShapes Go.ChangeAt Go.RowKit
open Arr Steady Sx Sw Sl Vs
set_option linter.unusedVariables false
set_option linter.unusedSimpArgs false

/-- A sensor: whether it is fit, and what it says. -/
structure Sr where
  f : Bool
  lo : Int
  hi : Int
/-- What one says, if it is fit. -/
def one1 (x : Sr) : Spans := match x.f with | true => [(x.lo, x.hi)] | false => []
def fitL (x y z : Sr) : Spans := one1 x ++ (one1 y ++ one1 z)
def nF (x y z : Sr) : Nat := (fitL x y z).length
/-- What all have in common; what two of three have. -/
def agr (x y z : Sr) : Int × Int × Bool := byZ (fitL x y z) (max (nF x y z : Int) 1)
def say (x y z : Sr) : Int × Int × Bool := if (agr x y z).2.2 = true then agr x y z else if (nF x y z : Int) = 3 then byZ (fitL x y z) 2 else (0, 0, false)
/-- A speed and a conflict, narrowed. -/
def nar (s : Int × Int × Bool) (a b : Int) : Int × Int × Bool := if max s.1 a ≤ min s.2.1 b then (max s.1 a, min s.2.1 b, s.2.2) else (s.1, s.2.1, true)
def first (p q : Int) (x y z : Sr) : Int × Int × Bool := if (say x y z).2.2 = true then nar (p, q, false) (say x y z).1 (say x y z).2.1 else (p, q, decide (0 < (nF x y z : Int)))
def spd (p q : Int) (x y z a : Sr) : Int × Int × Bool := match a.f with | true => nar (first p q x y z) a.lo a.hi | false => first p q x y z
/-- Which way a tachometer slips, where all say s. -/
def slip (x : Sr) (s : Int × Int × Bool) : Int := if max x.lo s.1 ≤ min x.hi s.2.1 then 0 else if (0 ≤ (s.1 + s.2.1) / 2 ∧ s.2.1 < x.lo) ∨ ((s.1 + s.2.1) / 2 < 0 ∧ x.hi < s.1) then 1 else -1
def slips (x y z u : Sr) : Int := if (say x y z).2.2 = true ∧ (agr x y z).2.2 = false then slip u (say x y z) else 0
structure Fz where
  lo : Int
  hi : Int
  n : Int
  cl : Bool
  cf : Bool
  s0 : Int
  s1 : Int
def clean (x y z : Sr) : Bool := decide ((nF x y z : Int) = 3) && (agr x y z).2.2
def fz (p q : Int) (x y z a : Sr) : Fz := ⟨(spd p q x y z a).1, (spd p q x y z a).2.1, (nF x y z : Int), clean x y z, (spd p q x y z a).2.2, slips x y z x, slips x y z y⟩
/-- A span that is right, and not too far out. -/
def mayF (a b : Int) : Bool := decide (a ≤ b ∧ -1152921504606846976 ≤ a ∧ b ≤ 1152921504606846976)
theorem may_of {a b : Int} (h : mayF a b = true) : a ≤ b ∧ -1152921504606846976 ≤ a ∧ b ≤ 1152921504606846976 := of_decide_eq_true h
/-! ### Who has a number -/
/-! ### What is said stays within the prior -/
/-! ### A number that all, or two of three, have -/
/-! ### Widths -/
/-! ### Counted one by one -/
/-! ### The other way round -/
/-! ### Step by step -/
/-! ### With less -/
end Go.Proofs.Ytbacchdkankioaa.Fzm
namespace Go.Proofs.Ytbacchdkankioaa.Vref
open Go.ChangeShapes Go.WideShapes Go.ChangeAt Go.RowKit
open Arr Steady Sx Sw Sl Spn Vs
set_option linter.unusedVariables false
set_option maxRecDepth 100000

end Go.Proofs.Ytbacchdkankioaa.Vref
namespace Go.Proofs.Ytbacchdkankioaa.Fzref
open Go.ChangeShapes Go.WideShapes Go.ChangeAt Go.RowKit
open Arr Steady Sx Sw Sl Sb Sc Si Sj Sk Sh Sfn Smu Vs Vref Fzm
set_option linter.unusedVariables false
set_option linter.unusedSimpArgs false
set_option maxRecDepth 100000

theorem tdiv_two {a : Int} (h1 : -4611686018427387904 ≤ a) (h2 : a ≤ 4611686018427387904) : -4611686018427387904 ≤ Int.tdiv a 2 ∧ Int.tdiv a 2 ≤ 4611686018427387904 := by
  have := Int.natAbs_tdiv_le_natAbs a 2
  omega
set_option maxHeartbeats 2000000 in
theorem mid_any (a b : Int) (w : World) (h1 : -2305843009213693952 ≤ a) (h2 : a ≤ 2305843009213693952) (h3 : -2305843009213693952 ≤ b) (h4 : b ≤ 2305843009213693952) :
    Calls Try.prog 25 #[.int .i64 a, .int .i64 b] w fun e w' => e = .returned (.int .i64 ((a + b) / 2)) ∧ Below w.heap.size w w' := by
  have t1 := tdiv_two (a := a + b) (by omega) (by omega)
  refine calls_sx Try.func25 rfl ?_
  simp only [Try.ntmps25, List.size_toArray, List.length_cons, List.length_nil, Nat.reduceAdd, Nat.reduceSub, Array.replicate_succ, Array.replicate_zero, List.push_toArray, List.append_toArray, List.nil_append, List.cons_append]
  refine wc_seq ?_
  refine wc_region ?_
  refine wl_val (.int .i64 0) rfl (fun _ => rfl) ?_
  simp only [Act.put, Xa, Xz, Xs]
  refine wl_nil ?_
  refine we_then ?_
  refine wc_seq ?_
  refine wc_region ?_
  refine wl_val (.int .i64 a) rfl (fun _ => rfl) ?_
  simp only [Act.put, Xa, Xz, Xs]
  refine wl_val (.int .i64 b) rfl (fun _ => rfl) ?_
  simp only [Act.put, Xa, Xz, Xs]
  refine wl_val (.int .i64 (a + b)) rfl (fun w => run_arith (op := .add) rfl rfl rfl Try.underlying2 (congrArg some (i64_in (by omega) (by omega))) w) ?_
  simp only [Act.put, Xa, Xz, Xs]
  refine wl_val (.int .i64 (Int.tdiv (a + b) 2)) rfl (fun w => run_tdiv rfl rfl rfl Try.underlying2 (by omega) (i64_in (by omega) (by omega)) w) ?_
  simp only [Act.put, Xa, Xz, Xs]
  refine wl_val (.int .i64 (Int.tdiv (a + b) 2)) rfl (fun _ => rfl) ?_
  simp only [Act.put, Xa, Xz, Xs]
  refine wl_nil ?_
  refine we_then ?_
  refine wc_seq ?_
  refine wc_seq ?_
  refine wc_region ?_
  refine wl_val (.int .i64 a) rfl (fun _ => rfl) ?_
  simp only [Act.put, Xa, Xz, Xs]
  refine wl_val (.int .i64 b) rfl (fun _ => rfl) ?_
  simp only [Act.put, Xa, Xz, Xs]
  refine wl_val (.int .i64 (a + b)) rfl (fun w => run_arith (op := .add) rfl rfl rfl Try.underlying2 (congrArg some (i64_in (by omega) (by omega))) w) ?_
  simp only [Act.put, Xa, Xz, Xs]
  refine wl_val (.int .i64 (Int.tmod (a + b) 2)) rfl (fun w => run_tmod (by omega) rfl rfl rfl w) ?_
  simp only [Act.put, Xa, Xz, Xs]
  refine wl_val (.bool (decide ((Int.tmod (a + b) 2) < 0))) rfl (fun w => run_cmp rfl rfl rfl Try.underlying2 rfl w) ?_
  simp only [Act.put, Xa, Xz, Xs]
  refine wl_nil ?_
  refine we_then ?_
  cases h1 : (decide ((Int.tmod (a + b) 2) < 0))
  · skip
    have p1 : ¬ ((Int.tmod (a + b) 2) < 0) := of_decide_eq_false h1
    refine wc_false rfl ?_
    refine wc_skip ?_
    refine we_then ?_
    refine wc_seq ?_
    refine wc_region ?_
    refine wl_val (.int .i64 (Int.tdiv (a + b) 2)) rfl (fun _ => rfl) ?_
    simp only [Act.put, Xa, Xz, Xs]
    refine wl_val (.int .i64 (Int.tdiv (a + b) 2)) rfl (fun _ => rfl) ?_
    simp only [Act.put, Xa, Xz, Xs]
    refine wl_nil ?_
    refine we_then ?_
    refine wc_ret ?_
    refine we_ret1 (.int .i64 (Int.tdiv (a + b) 2)) rfl rfl rfl (fun w1 hE => ?_)
    have e0 := tdiv_down (a := a + b) (b := 2) (by omega)
    rw [if_neg p1] at e0
    exact ⟨by rw [← e0], hE.below⟩
  · skip
    have p1 : (Int.tmod (a + b) 2) < 0 := of_decide_eq_true h1
    refine wc_true rfl ?_
    refine wc_region ?_
    refine wl_val (.int .i64 (Int.tdiv (a + b) 2)) rfl (fun _ => rfl) ?_
    simp only [Act.put, Xa, Xz, Xs]
    refine wl_val (.int .i64 ((Int.tdiv (a + b) 2) - 1)) rfl (fun w => run_arith (op := .sub) rfl rfl rfl Try.underlying2 (congrArg some (i64_in (by omega) (by omega))) w) ?_
    simp only [Act.put, Xa, Xz, Xs]
    refine wl_val (.int .i64 ((Int.tdiv (a + b) 2) - 1)) rfl (fun _ => rfl) ?_
    simp only [Act.put, Xa, Xz, Xs]
    refine wl_nil ?_
    refine we_then ?_
    refine wc_seq ?_
    refine wc_region ?_
    refine wl_val (.int .i64 ((Int.tdiv (a + b) 2) - 1)) rfl (fun _ => rfl) ?_
    simp only [Act.put, Xa, Xz, Xs]
    refine wl_val (.int .i64 ((Int.tdiv (a + b) 2) - 1)) rfl (fun _ => rfl) ?_
    simp only [Act.put, Xa, Xz, Xs]
    refine wl_nil ?_
    refine we_then ?_
    refine wc_ret ?_
    refine we_ret1 (.int .i64 ((Int.tdiv (a + b) 2) - 1)) rfl rfl rfl (fun w1 hE => ?_)
    have e0 := tdiv_down (a := a + b) (b := 2) (by omega)
    rw [if_pos p1] at e0
    exact ⟨by rw [← e0], hE.below⟩
end Go.Proofs.Ytbacchdkankioaa.Fzref
