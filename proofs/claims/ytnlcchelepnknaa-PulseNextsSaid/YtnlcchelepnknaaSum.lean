/-
  Contracts of Sum, Back and told: the reference's sums of signed numbers and what is told of them. Conditions: signs 1 or -1, sizes below 2^127.
-/
import Derived.Test.YtnlcchelepnknaaRef
import Derived.Deep.RegionWith
import Derived.Deep.RegionHeld3
import Derived.BigGuardPart
namespace Go.Proofs.Ytnlcchelepnknaa.Ref
open Go.ChangeShapes Go.WideShapes Go.ChangeAt Go.RowKit
open Num
set_option linter.unusedVariables false

theorem bcell {W w1 : World} (hb : Below W.heap.size W w1) : (∀ b o, b < W.heap.size → w1.cell? ⟨b, o, none⟩ = W.cell? ⟨b, o, none⟩) ∧ (∀ b o, b < W.heap.size → w1.frozen? ⟨b, o, none⟩ = W.frozen? ⟨b, o, none⟩) :=
  ⟨fun b o h => hb.cell (p := ⟨b, o, none⟩) h, fun b o h => hb.frozen (p := ⟨b, o, none⟩) h⟩
theorem bcell_drew {W w1 : World} (hb : Below W.drew.heap.size W.drew w1) : (∀ b o, b < W.heap.size → w1.cell? ⟨b, o, none⟩ = W.cell? ⟨b, o, none⟩) ∧ (∀ b o, b < W.heap.size → w1.frozen? ⟨b, o, none⟩ = W.frozen? ⟨b, o, none⟩) :=
  ⟨fun b o h => hb.cell (p := ⟨b, o, none⟩) h, fun b o h => hb.frozen (p := ⟨b, o, none⟩) h⟩
theorem bsize_drew {W w1 : World} (hb : Below W.drew.heap.size W.drew w1) : W.heap.size ≤ w1.heap.size := hb.size
/-- Half of the room of four digits. -/
def Half (n : Int) : Prop := 0 ≤ n ∧ n < 170141183460469231731687303715884105728
theorem half_four {n : Int} (h : Half n) : Four n := by unfold Half at h; unfold Four; omega
theorem half_sum {n m : Int} (h : Half n) (k : Half m) : Four (n + m) := by unfold Half at h k; unfold Four; omega

set_option maxHeartbeats 2000000 in
theorem sum_same (s n m : Int) (w : World) (hn : Half n) (hm : Half m) :
    Calls Try.prog 12 #[NV s n, NV s m] w fun e w' => e = .returned (NV s (n + m)) ∧ Below w.heap.size w w' := by
  have c := fun W => plus_any n m W (half_four hn) (half_four hm) (half_sum hn hm)
  clear hn hm
  unfold D4 at c
  unfold NV
  generalize (n + m) % 4294967296 = r0 at *
  generalize (n + m) / 4294967296 % 4294967296 = r1 at *
  generalize (n + m) / 18446744073709551616 % 4294967296 = r2 at *
  generalize (n + m) / 79228162514264337593543950336 = r3 at *
  generalize n % 4294967296 = a0 at *
  generalize n / 4294967296 % 4294967296 = a1 at *
  generalize n / 18446744073709551616 % 4294967296 = a2 at *
  generalize n / 79228162514264337593543950336 = a3 at *
  generalize m % 4294967296 = b0 at *
  generalize m / 4294967296 % 4294967296 = b1 at *
  generalize m / 18446744073709551616 % 4294967296 = b2 at *
  generalize m / 79228162514264337593543950336 = b3 at *
  go_enter Try.func12, Try.ntmps12
  go_wp2
  go_region_with (go_at_call 16; refine (c _).mono ?_; rintro e w1 ⟨rfl, hb⟩; obtain ⟨hc, hf⟩ := bcell hb; have hz := hb.size; simp at hz)
  all_goals
    go_wp2
    refine bodyPost_ret (v := ?v) ?h1 rfl ?h2
    case h1 =>
      simp [results, Try.results12, go_sem, hc]
      try rfl
    case h2 =>
      refine ⟨rfl, ?_⟩
      repeat (first | (with_reducible exact Below.refl _ _) | (with_reducible refine below_drewN ?_ _) | (with_reducible refine Below.drew ?_) | (with_reducible refine Below.setCell ?_ (by first | (simp; done) | (simp; omega)) _) | (with_reducible refine Below.trans ?_ (hb.mono (by first | (simp; done) | (simp; omega)))) | (with_reducible refine Below.alloc ?_ (by first | (simp; done) | (simp; omega)) _))
set_option maxHeartbeats 2000000 in
theorem sum_less (s u n m : Int) (w : World) (hne : s ≠ u) (hn : Half n) (hm : Half m) (hl : n < m) :
    Calls Try.prog 12 #[NV s n, NV u m] w fun e w' => e = .returned (NV u (m - n)) ∧ Below w.heap.size w w' := by
  have c := fun W => minus_any m n W (half_four hm) (half_four hn) (by omega)
  have cl := fun W => less_any n m W
  rw [decide_eq_true (by omega)] at cl
  have hq : (s == u) = false := by simpa using hne
  clear hn hm hl
  unfold D4 at c cl
  unfold NV
  generalize (m - n) % 4294967296 = r0 at *
  generalize (m - n) / 4294967296 % 4294967296 = r1 at *
  generalize (m - n) / 18446744073709551616 % 4294967296 = r2 at *
  generalize (m - n) / 79228162514264337593543950336 = r3 at *
  generalize n % 4294967296 = a0 at *
  generalize n / 4294967296 % 4294967296 = a1 at *
  generalize n / 18446744073709551616 % 4294967296 = a2 at *
  generalize n / 79228162514264337593543950336 = a3 at *
  generalize m % 4294967296 = b0 at *
  generalize m / 4294967296 % 4294967296 = b1 at *
  generalize m / 18446744073709551616 % 4294967296 = b2 at *
  generalize m / 79228162514264337593543950336 = b3 at *
  go_enter Try.func12, Try.ntmps12
  go_wp2_with (go_at_call 15; refine (cl _).mono ?_; rintro e w2 ⟨rfl, hb2⟩; obtain ⟨hc2, hf2⟩ := bcell hb2; have hz2 := hb2.size; simp at hz2; have hz3 : w.heap.size < w2.heap.size := (by omega); have hz4 : w.heap.size + 1 < w2.heap.size := (by omega); have hz5 : w.heap.size + 1 + 1 < w2.heap.size := (by omega))
  go_region_with (go_at_call 17; refine (c _).mono ?_; rintro e w1 ⟨rfl, hb⟩; obtain ⟨hc, hf⟩ := bcell_drew hb; have hz := bsize_drew hb)
  all_goals
    go_wp2
    refine bodyPost_ret (v := ?v) ?h1 rfl ?h2
    case h1 =>
      simp [results, Try.results12, go_sem, hc, hc2, hz5]
      try rfl
    case h2 =>
      refine ⟨rfl, ?_⟩
      repeat (first | (with_reducible exact Below.refl _ _) | (with_reducible refine below_drewN ?_ _) | (with_reducible refine Below.drew ?_) | (with_reducible refine Below.setCell ?_ (by first | (simp; done) | (simp; omega)) _) | (with_reducible refine Below.trans ?_ (hb.mono (by first | (simp; done) | (simp; omega)))) | (with_reducible refine Below.trans ?_ (hb2.mono (by first | (simp; done) | (simp; omega)))) | (with_reducible refine Below.alloc ?_ (by first | (simp; done) | (simp; omega)) _))
set_option maxHeartbeats 2000000 in
theorem sum_more (s u n m : Int) (w : World) (hne : s ≠ u) (hn : Half n) (hm : Half m) (hl : m ≤ n) :
    Calls Try.prog 12 #[NV s n, NV u m] w fun e w' => e = .returned (NV s (n - m)) ∧ Below w.heap.size w w' := by
  have c := fun W => minus_any n m W (half_four hn) (half_four hm) (by omega)
  have cl := fun W => less_any n m W
  rw [decide_eq_false (by omega)] at cl
  have hq : (s == u) = false := by simpa using hne
  clear hn hm hl
  unfold D4 at c cl
  unfold NV
  generalize (n - m) % 4294967296 = r0 at *
  generalize (n - m) / 4294967296 % 4294967296 = r1 at *
  generalize (n - m) / 18446744073709551616 % 4294967296 = r2 at *
  generalize (n - m) / 79228162514264337593543950336 = r3 at *
  generalize n % 4294967296 = a0 at *
  generalize n / 4294967296 % 4294967296 = a1 at *
  generalize n / 18446744073709551616 % 4294967296 = a2 at *
  generalize n / 79228162514264337593543950336 = a3 at *
  generalize m % 4294967296 = b0 at *
  generalize m / 4294967296 % 4294967296 = b1 at *
  generalize m / 18446744073709551616 % 4294967296 = b2 at *
  generalize m / 79228162514264337593543950336 = b3 at *
  go_enter Try.func12, Try.ntmps12
  go_wp2_with (go_at_call 15; refine (cl _).mono ?_; rintro e w2 ⟨rfl, hb2⟩; obtain ⟨hc2, hf2⟩ := bcell hb2; have hz2 := hb2.size; simp at hz2; have hz3 : w.heap.size < w2.heap.size := (by omega); have hz4 : w.heap.size + 1 < w2.heap.size := (by omega); have hz5 : w.heap.size + 1 + 1 < w2.heap.size := (by omega))
  go_region_with (go_at_call 17; refine (c _).mono ?_; rintro e w1 ⟨rfl, hb⟩; obtain ⟨hc, hf⟩ := bcell_drew hb; have hz := bsize_drew hb)
  all_goals
    go_wp2
    refine bodyPost_ret (v := ?v) ?h1 rfl ?h2
    case h1 =>
      simp [results, Try.results12, go_sem, hc, hc2, hz5]
      try rfl
    case h2 =>
      refine ⟨rfl, ?_⟩
      repeat (first | (with_reducible exact Below.refl _ _) | (with_reducible refine below_drewN ?_ _) | (with_reducible refine Below.drew ?_) | (with_reducible refine Below.setCell ?_ (by first | (simp; done) | (simp; omega)) _) | (with_reducible refine Below.trans ?_ (hb.mono (by first | (simp; done) | (simp; omega)))) | (with_reducible refine Below.trans ?_ (hb2.mono (by first | (simp; done) | (simp; omega)))) | (with_reducible refine Below.alloc ?_ (by first | (simp; done) | (simp; omega)) _))
end Go.Proofs.Ytnlcchelepnknaa.Ref
