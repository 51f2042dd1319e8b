/-
  The walk of NumSigns: for any integer of 64 bits it returns true. No condition.
-/
import Derived.Test.YtkonggpambpjeaaDigits
namespace Go.Proofs.Ytkonggpambpjeaa.Walks
open Go.ChangeShapes Go.WideShapes Go.ChangeAt Go.RowKit
open Num Ref
set_option linter.unusedVariables false
theorem isNum_abs {a u d0 d1 d2 d3 : Int} (h : IsNum a u d0 d1 d2 d3) : IsNum (abs a) 1 d0 d1 d2 d3 := by
  obtain ⟨n, hu, h0, hz, r⟩ := h
  refine ⟨n, .inl rfl, h0, ?_, r⟩
  unfold abs
  rcases hu with rfl | rfl <;> split <;> omega
theorem sign_neg (a : Int) (w : World) (h : a < 0) : Calls Try.prog 25 #[.int .i64 a] w fun e w' => e = .returned (.int .i64 (-1)) ∧ w = w' := by
  have c := sign_any a w; rw [if_pos h] at c; exact c
theorem sign_pos (a : Int) (w : World) (h : 0 < a) : Calls Try.prog 25 #[.int .i64 a] w fun e w' => e = .returned (.int .i64 1) ∧ w = w' := by
  have c := sign_any a w; rw [if_neg (by omega), if_pos h] at c; exact c
theorem sign_none (a : Int) (w : World) (h : ¬ a < 0) (k : ¬ 0 < a) : Calls Try.prog 25 #[.int .i64 a] w fun e w' => e = .returned (.int .i64 0) ∧ w = w' := by
  have c := sign_any a w; rw [if_neg h, if_neg k] at c; exact c
set_option maxHeartbeats 2000000 in
theorem numSigns_walk (a : Int) (wa : (Lit.int .i64 a).wf = true) (w : World) :
    Calls Try.prog 5 #[.int .i64 a] w fun e w' => e = .returned (.bool true) ∧ Below w.heap.size w w' := by
  have ha := Lib.hid (fits_of_wf wa)
  clear wa
  by_cases hn : a < 0
  · go_enter Try.func5, Try.ntmps5
    go_wp2_with (first
      | (go_at_call 8; refine (anchor_any _).mono ?_; rintro e w' ⟨rfl, rfl⟩)
      | (go_at_call 9; ((with_reducible refine (of_num a _ ha.out).mono ?_); rintro e w1 ⟨⟨u, d0, d1, d2, d3, rfl, hx⟩, hb1⟩; have Hx := Lib.hid hx; clear hx))
      | (go_at_call 21; ((with_reducible refine (neg_num a _ ha.out).mono ?_); rintro e w' ⟨rfl, rfl⟩))
      | (go_at_call 22; ((with_reducible refine (abs_num a _ ha.out).mono ?_); rintro e w' ⟨rfl, rfl⟩))
      | (go_at_call 13; ((with_reducible refine (minor_num a u d0 d1 d2 d3 _ Hx.out).mono ?_); rintro e w2 ⟨⟨v, c0, c1, c2, c3, rfl, hy⟩, hb2⟩; have Hy := Lib.hid hy; clear hy; obtain ⟨hc2, hf2⟩ := bcell hb2; have hs2 := hb2.size; simp at hs2; have q2 : w1.heap.size < w2.heap.size := (by omega)))
      | (go_at_call 15; ((with_reducible refine (told_num (-a) v c0 c1 c2 c3 _ Hy.out).mono ?_); rintro e w3 ⟨rfl, hb3⟩; obtain ⟨hc3, hf3⟩ := bcell hb3; have hs3 := hb3.size; have q3 : w1.heap.size < w3.heap.size := (by omega)))
      | (go_at_call 15; ((with_reducible refine (told_num (abs a) 1 d0 d1 d2 d3 _ (isNum_abs Hx.out)).mono ?_); rintro e w4 ⟨rfl, hb4⟩))
      | (go_at_call 23; ((with_reducible refine (size_any a _ ha.out).mono ?_); rintro e w' ⟨rfl, rfl⟩))
      | (go_at_call 24; ((with_reducible refine (rsize_any a _ ha.out).mono ?_); rintro e w' ⟨rfl, rfl⟩))
      | (go_at_call 25; ((with_reducible refine (sign_neg a _ hn).mono ?_); rintro e w' ⟨rfl, rfl⟩)))
    go_ret
    refine ⟨rfl, ?_⟩
    have h1 := hb1.size
    exact (((hb1.alloc h1 _).trans (hb2.mono (by simp; omega))).trans (hb3.mono (by omega))).trans (hb4.mono (by omega))
  · by_cases hp : 0 < a
    · go_enter Try.func5, Try.ntmps5
      go_wp2_with (first
        | (go_at_call 8; refine (anchor_any _).mono ?_; rintro e w' ⟨rfl, rfl⟩)
        | (go_at_call 9; ((with_reducible refine (of_num a _ ha.out).mono ?_); rintro e w1 ⟨⟨u, d0, d1, d2, d3, rfl, hx⟩, hb1⟩; have Hx := Lib.hid hx; clear hx))
        | (go_at_call 21; ((with_reducible refine (neg_num a _ ha.out).mono ?_); rintro e w' ⟨rfl, rfl⟩))
        | (go_at_call 22; ((with_reducible refine (abs_num a _ ha.out).mono ?_); rintro e w' ⟨rfl, rfl⟩))
        | (go_at_call 13; ((with_reducible refine (minor_num a u d0 d1 d2 d3 _ Hx.out).mono ?_); rintro e w2 ⟨⟨v, c0, c1, c2, c3, rfl, hy⟩, hb2⟩; have Hy := Lib.hid hy; clear hy; obtain ⟨hc2, hf2⟩ := bcell hb2; have hs2 := hb2.size; simp at hs2; have q2 : w1.heap.size < w2.heap.size := (by omega)))
        | (go_at_call 15; ((with_reducible refine (told_num (-a) v c0 c1 c2 c3 _ Hy.out).mono ?_); rintro e w3 ⟨rfl, hb3⟩; obtain ⟨hc3, hf3⟩ := bcell hb3; have hs3 := hb3.size; have q3 : w1.heap.size < w3.heap.size := (by omega)))
        | (go_at_call 15; ((with_reducible refine (told_num (abs a) 1 d0 d1 d2 d3 _ (isNum_abs Hx.out)).mono ?_); rintro e w4 ⟨rfl, hb4⟩))
        | (go_at_call 23; ((with_reducible refine (size_any a _ ha.out).mono ?_); rintro e w' ⟨rfl, rfl⟩))
        | (go_at_call 24; ((with_reducible refine (rsize_any a _ ha.out).mono ?_); rintro e w' ⟨rfl, rfl⟩))
        | (go_at_call 25; ((with_reducible refine (sign_pos a _ hp).mono ?_); rintro e w' ⟨rfl, rfl⟩)))
      go_ret
      refine ⟨rfl, ?_⟩
      have h1 := hb1.size
      exact (((hb1.alloc h1 _).trans (hb2.mono (by simp; omega))).trans (hb3.mono (by omega))).trans (hb4.mono (by omega))
    · have cs := fun W => sign_none a W hn hp
      go_enter Try.func5, Try.ntmps5
      go_wp2_with (first
        | (go_at_call 8; refine (anchor_any _).mono ?_; rintro e w' ⟨rfl, rfl⟩)
        | (go_at_call 9; ((with_reducible refine (of_num a _ ha.out).mono ?_); rintro e w1 ⟨⟨u, d0, d1, d2, d3, rfl, hx⟩, hb1⟩; have Hx := Lib.hid hx; clear hx))
        | (go_at_call 21; ((with_reducible refine (neg_num a _ ha.out).mono ?_); rintro e w' ⟨rfl, rfl⟩))
        | (go_at_call 22; ((with_reducible refine (abs_num a _ ha.out).mono ?_); rintro e w' ⟨rfl, rfl⟩))
        | (go_at_call 13; ((with_reducible refine (minor_num a u d0 d1 d2 d3 _ Hx.out).mono ?_); rintro e w2 ⟨⟨v, c0, c1, c2, c3, rfl, hy⟩, hb2⟩; have Hy := Lib.hid hy; clear hy; obtain ⟨hc2, hf2⟩ := bcell hb2; have hs2 := hb2.size; simp at hs2; have q2 : w1.heap.size < w2.heap.size := (by omega)))
        | (go_at_call 15; ((with_reducible refine (told_num (-a) v c0 c1 c2 c3 _ Hy.out).mono ?_); rintro e w3 ⟨rfl, hb3⟩; obtain ⟨hc3, hf3⟩ := bcell hb3; have hs3 := hb3.size; have q3 : w1.heap.size < w3.heap.size := (by omega)))
        | (go_at_call 15; ((with_reducible refine (told_num (abs a) 1 d0 d1 d2 d3 _ (isNum_abs Hx.out)).mono ?_); rintro e w4 ⟨rfl, hb4⟩))
        | (go_at_call 23; ((with_reducible refine (size_any a _ ha.out).mono ?_); rintro e w' ⟨rfl, rfl⟩))
        | (go_at_call 24; ((with_reducible refine (rsize_any a _ ha.out).mono ?_); rintro e w' ⟨rfl, rfl⟩))
        | (go_at_call 25; ((with_reducible refine (cs _).mono ?_); rintro e w' ⟨rfl, rfl⟩)))
      go_ret
      refine ⟨rfl, ?_⟩
      have h1 := hb1.size
      exact (((hb1.alloc h1 _).trans (hb2.mono (by simp; omega))).trans (hb3.mono (by omega))).trans (hb4.mono (by omega))
end Go.Proofs.Ytkonggpambpjeaa.Walks
