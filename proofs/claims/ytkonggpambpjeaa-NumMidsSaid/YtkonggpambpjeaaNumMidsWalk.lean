/-
  The walk of NumMids: for any three integers of 64 bits it returns true. No condition.
-/
import Derived.Test.YtkonggpambpjeaaDigits
import Derived.Deep.DeepCutAuto
import Derived.Handy
namespace Go.Proofs.Ytkonggpambpjeaa.Walks
open Go.ChangeShapes Go.WideShapes Go.ChangeAt Go.RowKit
open Num Ref
set_option linter.unusedVariables false

/-- A number lies in block g. -/
def One (g : Nat) (u d0 d1 d2 d3 : Int) (w : World) : Prop :=
  g + 1 ≤ w.heap.size ∧ w.cell? ⟨g, 0, none⟩ = some (.int .i64 u) ∧ w.cell? ⟨g, 1, none⟩ = some (.int .u64 d0) ∧ w.cell? ⟨g, 2, none⟩ = some (.int .u64 d1) ∧ w.cell? ⟨g, 3, none⟩ = some (.int .u64 d2) ∧ w.cell? ⟨g, 4, none⟩ = some (.int .u64 d3)
theorem one_out {g : Nat} {u d0 d1 d2 d3 : Int} {w : World} (h : One g u d0 d1 d2 d3 w) : One g u d0 d1 d2 d3 w ∧ w.cell? ⟨g, 0, none⟩ = some (.int .i64 u) ∧ w.cell? ⟨g, 1, none⟩ = some (.int .u64 d0) ∧ w.cell? ⟨g, 2, none⟩ = some (.int .u64 d1) ∧ w.cell? ⟨g, 3, none⟩ = some (.int .u64 d2) ∧ w.cell? ⟨g, 4, none⟩ = some (.int .u64 d3) := ⟨h, h.2⟩
theorem one_below {g : Nat} {u d0 d1 d2 d3 : Int} {w w' : World} (h : One g u d0 d1 d2 d3 w) (hb : Below (g + 1) w w') : One g u d0 d1 d2 d3 w' := by
  obtain ⟨hz, h0, h1, h2, h3, h4⟩ := h
  refine ⟨Nat.le_trans hz hb.size, ?_, ?_, ?_, ?_, ?_⟩
  all_goals (refine (hb.cell (by simp)).trans ?_; assumption)
theorem one_call {g : Nat} {u d0 d1 d2 d3 : Int} {w w' : World} (hb : Below w.heap.size w w') (h : One g u d0 d1 d2 d3 w ∧ w.cell? ⟨g, 0, none⟩ = some (.int .i64 u) ∧ w.cell? ⟨g, 1, none⟩ = some (.int .u64 d0) ∧ w.cell? ⟨g, 2, none⟩ = some (.int .u64 d1) ∧ w.cell? ⟨g, 3, none⟩ = some (.int .u64 d2) ∧ w.cell? ⟨g, 4, none⟩ = some (.int .u64 d3)) :
    One g u d0 d1 d2 d3 w' ∧ w'.cell? ⟨g, 0, none⟩ = some (.int .i64 u) ∧ w'.cell? ⟨g, 1, none⟩ = some (.int .u64 d0) ∧ w'.cell? ⟨g, 2, none⟩ = some (.int .u64 d1) ∧ w'.cell? ⟨g, 3, none⟩ = some (.int .u64 d2) ∧ w'.cell? ⟨g, 4, none⟩ = some (.int .u64 d3) :=
  one_out (one_below h.1 (hb.mono h.1.1))
theorem one_alloc {g : Nat} {u d0 d1 d2 d3 : Int} {w : World} {o : Obj} (h : One g u d0 d1 d2 d3 w ∧ w.cell? ⟨g, 0, none⟩ = some (.int .i64 u) ∧ w.cell? ⟨g, 1, none⟩ = some (.int .u64 d0) ∧ w.cell? ⟨g, 2, none⟩ = some (.int .u64 d1) ∧ w.cell? ⟨g, 3, none⟩ = some (.int .u64 d2) ∧ w.cell? ⟨g, 4, none⟩ = some (.int .u64 d3)) :
    One g u d0 d1 d2 d3 (w.alloc o) ∧ (w.alloc o).cell? ⟨g, 0, none⟩ = some (.int .i64 u) ∧ (w.alloc o).cell? ⟨g, 1, none⟩ = some (.int .u64 d0) ∧ (w.alloc o).cell? ⟨g, 2, none⟩ = some (.int .u64 d1) ∧ (w.alloc o).cell? ⟨g, 3, none⟩ = some (.int .u64 d2) ∧ (w.alloc o).cell? ⟨g, 4, none⟩ = some (.int .u64 d3) :=
  one_out (one_below h.1 ((Below.refl _ _).alloc h.1.1 _))
theorem one_early {g : Nat} {u d0 d1 d2 d3 : Int} {w : World} {o : Obj} (h : One g u d0 d1 d2 d3 w.drew ∧ w.drew.cell? ⟨g, 0, none⟩ = some (.int .i64 u) ∧ w.drew.cell? ⟨g, 1, none⟩ = some (.int .u64 d0) ∧ w.drew.cell? ⟨g, 2, none⟩ = some (.int .u64 d1) ∧ w.drew.cell? ⟨g, 3, none⟩ = some (.int .u64 d2) ∧ w.drew.cell? ⟨g, 4, none⟩ = some (.int .u64 d3)) :
    One g u d0 d1 d2 d3 (w.alloc o).drew ∧ (w.alloc o).drew.cell? ⟨g, 0, none⟩ = some (.int .i64 u) ∧ (w.alloc o).drew.cell? ⟨g, 1, none⟩ = some (.int .u64 d0) ∧ (w.alloc o).drew.cell? ⟨g, 2, none⟩ = some (.int .u64 d1) ∧ (w.alloc o).drew.cell? ⟨g, 3, none⟩ = some (.int .u64 d2) ∧ (w.alloc o).drew.cell? ⟨g, 4, none⟩ = some (.int .u64 d3) :=
  one_out (one_below h.1 ⟨rfl, rfl, rfl, by show w.heap.size ≤ (w.alloc o).heap.size; simp, fun k hk => Below.heap_alloc w o k (Nat.lt_of_lt_of_le hk h.1.1)⟩)
theorem one_start (w : World) (u d0 d1 d2 d3 : Int) (t : TypeId) :
    One w.heap.size u d0 d1 d2 d3 (w.alloc (.cells #[.int .i64 u, .int .u64 d0, .int .u64 d1, .int .u64 d2, .int .u64 d3] t)).drew := by
  unfold One; simp [go_sem]
/-- What the statement 'rest := ..' leaves: a number in a block of its own. -/
def Cut5 (z : Int) (w : World) (s9 : Value) (wx : World) : Prop :=
  ∃ (p : Nat) (u d0 d1 d2 d3 : Int), s9 = .pointer (some ⟨p, 0, none⟩) ∧ p < wx.heap.size ∧ IsNum z u d0 d1 d2 d3 ∧ Below w.heap.size w wx ∧
    (wx.cell? ⟨p, 0, none⟩ = some (.int .i64 u) ∧ wx.cell? ⟨p, 1, none⟩ = some (.int .u64 d0) ∧ wx.cell? ⟨p, 2, none⟩ = some (.int .u64 d1) ∧ wx.cell? ⟨p, 3, none⟩ = some (.int .u64 d2) ∧ wx.cell? ⟨p, 4, none⟩ = some (.int .u64 d3))
theorem small_sum {a b : Int} (ha : Fits a) (hb : Fits b) : Small (a + b) := by unfold Fits at ha hb; unfold Small; omega
theorem small_minus {m : Int} (hm : Fits m) : Small (-(m + m)) := by unfold Fits at hm; unfold Small; omega
theorem clamp_lo {x lo hi : Int} (h : lo ≤ hi) (k : x < lo) : clamp x lo hi = lo := by unfold clamp; omega
theorem clamp_hi {x lo hi : Int} (h : lo ≤ hi) (k : hi < x) : clamp x lo hi = hi := by unfold clamp; omega
theorem clamp_in {x lo hi : Int} (k : lo ≤ x) (k' : x ≤ hi) : clamp x lo hi = x := by unfold clamp; omega
theorem clamp_over {x lo hi : Int} (h : lo ≤ hi) : clamp x hi lo = hi := by unfold clamp; omega
theorem rest_cases (a b m : Int) (h : m = (a + b) / 2) : a + b + -(m + m) = 0 ∨ a + b + -(m + m) = 1 := by omega
theorem mid_between {a b m : Int} (h : m = (a + b) / 2) : (a ≤ b → a ≤ m ∧ m ≤ b) ∧ (b < a → b ≤ m ∧ m ≤ a) := by omega
/-- What is told of the rest, where it is the number r. -/
theorem back_rest (z r u d0 d1 d2 d3 : Int) (w : World) (h : IsNum z u d0 d1 d2 d3) (e : z = r) (hr : Fits r) :
    Calls Try.prog 14 #[.agg #[.int .i64 u, .int .u64 d0, .int .u64 d1, .int .u64 d2, .int .u64 d3]] w fun e w' => e = .returned (.tuple #[.int .i64 r, .bool true]) ∧ Below w.heap.size w w' := by
  subst e
  have c := back_num z u d0 d1 d2 d3 w h
  rw [sat_fits hr, show fitB z = true from decide_eq_true hr] at c
  exact c
set_option maxRecDepth 100000 in
set_option maxHeartbeats 16000000 in
theorem numMids_walk (a : Int) (wa : (Lit.int .i64 a).wf = true) (b : Int) (wb : (Lit.int .i64 b).wf = true) (x : Int) (wx : (Lit.int .i64 x).wf = true) (w : World) :
    Calls Try.prog 6 #[.int .i64 a, .int .i64 b, .int .i64 x] w fun e w' => e = .returned (.bool true) ∧ Below w.heap.size w w' := by
  have ha := Lib.hid (fits_of_wf wa)
  have hb := Lib.hid (fits_of_wf wb)
  clear wa wb wx
  have cm := fun W => mid_any a b W ha.out hb.out
  obtain ⟨m, hm⟩ : ∃ m : Int, m = (a + b) / 2 := ⟨_, rfl⟩
  rw [← hm] at cm
  have fm : Hid (Fits m) := by
    have h1 := ha.out
    have h2 := hb.out
    exact (by unfold Fits at *; omega : Fits m)
  have HM := Lib.hid hm
  have tok1 : True := trivial
  clear hm
  go_enter Try.func6, Try.ntmps6
  go_upto_region 5 with (first
    | (go_at_call 8; refine (anchor_any _).mono ?_; rintro e w' ⟨rfl, rfl⟩)
    | (go_at_call 26; ((with_reducible refine (cm _).mono ?_); rintro e w' ⟨rfl, rfl⟩))
    | (have _t := tok1; go_at_call 9; ((with_reducible refine (of_num m _ fm.out).mono ?_); rintro e w1 ⟨⟨u1, x0, x1, x2, x3, rfl, h1⟩, hb1⟩; have H1 := Lib.hid h1; clear h1 tok1))
    | (go_at_call 9; ((with_reducible refine (of_num m _ fm.out).mono ?_); rintro e w2 ⟨⟨u2, y0, y1, y2, y3, rfl, h2⟩, hb2⟩; have H2 := Lib.hid h2; clear h2))
    | (go_at_call 12; ((with_reducible refine (sum_num m u1 x0 x1 x2 x3 m u2 y0 y1 y2 y3 _ H1.out H2.out (fits_small fm.out) (fits_small fm.out)).mono ?_); rintro e w3 ⟨⟨u, d0, d1, d2, d3, rfl, hx⟩, hb3⟩; have Hx := Lib.hid hx; clear hx)))
  have k1 : w.heap.size ≤ w1.heap.size := hb1.size
  have k2 : w.heap.size ≤ w2.heap.size := Nat.le_trans hb1.size hb2.size
  have k3 : w.heap.size ≤ w3.heap.size := Nat.le_trans k2 hb3.size
  have T0 := one_start w3 u d0 d1 d2 d3 26
  go_cut [9] (fun s9 wx => Cut5 (a + b + -(m + m)) w s9 wx)
  case first =>
    go_region_held3 (fun w' => One w3.heap.size u d0 d1 d2 d3 w' ∧ w'.cell? ⟨w3.heap.size, 0, none⟩ = some (.int .i64 u) ∧ w'.cell? ⟨w3.heap.size, 1, none⟩ = some (.int .u64 d0) ∧ w'.cell? ⟨w3.heap.size, 2, none⟩ = some (.int .u64 d1) ∧ w'.cell? ⟨w3.heap.size, 3, none⟩ = some (.int .u64 d2) ∧ w'.cell? ⟨w3.heap.size, 4, none⟩ = some (.int .u64 d3))
      (with_reducible first | exact one_call (by assumption) (by assumption) | exact one_alloc (by assumption) | exact one_early (by assumption) | (refine one_out (one_below T8 ?_); repeat (first | exact Below.refl _ _ | refine Below.setCell ?_ (by first | assumption | (dsimp only; omega)) _ | refine Below.alloc ?_ (by first | assumption | (simp [World.setCell]; done) | (simp [World.setCell]; omega)) _)) | exact one_out T0)
      (first
        | (go_at_call 9; ((with_reducible refine (of_num a _ ha.out).mono ?_); rintro e w4 ⟨⟨eau, ea0, ea1, ea2, ea3, rfl, hh⟩, hb4⟩; obtain ⟨hc4, hf4⟩ := bcell hb4; have hs4 := hb4.size; (try simp at hs4); (try have q40 : w3.heap.size + 1 < w4.heap.size := (by omega)); have hz4 : w3.heap.size + 1 ≤ w4.heap.size := (by omega); have HA := Lib.hid hh; clear hh))
        | (go_at_call 9; ((with_reducible refine (of_num b _ hb.out).mono ?_); rintro e w5 ⟨⟨ebu, eb0, eb1, eb2, eb3, rfl, hh⟩, hb5⟩; obtain ⟨hc5, hf5⟩ := bcell hb5; have hs5 := hb5.size; (try simp at hs5); (try have q50 : w3.heap.size + 1 < w5.heap.size := (by omega)); (try have q51 : w4.heap.size < w5.heap.size := (by omega)); have hz5 : w3.heap.size + 1 ≤ w5.heap.size := (by omega); have HB := Lib.hid hh; clear hh))
        | (go_at_call 12; ((with_reducible refine (sum_num a eau ea0 ea1 ea2 ea3 b ebu eb0 eb1 eb2 eb3 _ HA.out HB.out (fits_small ha.out) (fits_small hb.out)).mono ?_); rintro e w6 ⟨⟨esu, es0, es1, es2, es3, rfl, hh⟩, hb6⟩; obtain ⟨hc6, hf6⟩ := bcell hb6; have hs6 := hb6.size; (try simp at hs6); (try have q60 : w3.heap.size + 1 < w6.heap.size := (by omega)); (try have q61 : w4.heap.size < w6.heap.size := (by omega)); (try have q62 : w5.heap.size < w6.heap.size := (by omega)); have hz6 : w3.heap.size + 1 ≤ w6.heap.size := (by omega); have HS := Lib.hid hh; clear hh))
        | (go_at_call 13; ((with_reducible refine (minor_num (m + m) u d0 d1 d2 d3 _ Hx.out).mono ?_); rintro e w7 ⟨⟨emu, em0, em1, em2, em3, rfl, hh⟩, hb7⟩; obtain ⟨hc7, hf7⟩ := bcell hb7; have hs7 := hb7.size; (try simp at hs7); (try have q70 : w3.heap.size + 1 < w7.heap.size := (by omega)); (try have q71 : w4.heap.size < w7.heap.size := (by omega)); (try have q72 : w5.heap.size < w7.heap.size := (by omega)); (try have q73 : w6.heap.size < w7.heap.size := (by omega)); have hz7 : w3.heap.size + 1 ≤ w7.heap.size := (by omega); have HMm := Lib.hid hh; clear hh))
        | (go_at_call 12; ((with_reducible refine (sum_num (a + b) esu es0 es1 es2 es3 (-(m + m)) emu em0 em1 em2 em3 _ HS.out HMm.out (small_sum ha.out hb.out) (small_minus fm.out)).mono ?_); rintro e w8 ⟨⟨ezu, ez0, ez1, ez2, ez3, rfl, hh⟩, hb8⟩; obtain ⟨hc8, hf8⟩ := bcell hb8; have hs8 := hb8.size; (try simp at hs8); (try have q80 : w3.heap.size + 1 < w8.heap.size := (by omega)); (try have q81 : w4.heap.size < w8.heap.size := (by omega)); (try have q82 : w5.heap.size < w8.heap.size := (by omega)); (try have q83 : w6.heap.size < w8.heap.size := (by omega)); (try have q84 : w7.heap.size < w8.heap.size := (by omega)); have hz8 : w3.heap.size + 1 ≤ w8.heap.size := (by omega); have T8 : One w3.heap.size u d0 d1 d2 d3 w8 := (one_call hb8 (by assumption)).1; have HZ := Lib.hid hh; clear hh)))
    all_goals
      go_wp2_with fail
      go_meet
      unfold Cut5
      refine ⟨_, _, _, _, _, _, rfl, ?_, HZ.out, ?_, ⟨?_, ?_, ?_, ?_, ?_⟩⟩
      · go_size
      · repeat (first | (with_reducible exact Below.refl _ _) | (with_reducible refine Below.drew ?_) | (with_reducible refine Below.setCell ?_ (by go_size) _) | (with_reducible refine Below.alloc ?_ (by go_size) _) | (with_reducible refine Below.trans ?_ (hb8.mono (by go_size))) | (with_reducible refine Below.trans ?_ (hb7.mono (by go_size))) | (with_reducible refine Below.trans ?_ (hb6.mono (by go_size))) | (with_reducible refine Below.trans ?_ (hb5.mono (by go_size))) | (with_reducible refine Below.trans ?_ (hb4.mono (by go_size))) | (with_reducible refine Below.trans ?_ (hb3.mono (by go_size))) | (with_reducible refine Below.trans ?_ (hb2.mono (by go_size))) | (with_reducible refine Below.trans ?_ (hb1.mono (by go_size))) )
      all_goals first | (go_simp; done) | (simp (maxDischargeDepth := 8) [go_sem, *]; done)
  case rest =>
    obtain ⟨p, eu, e0, e1, e2, e3, rfl, hp, hz, hB, ⟨g0, g1, g2, g3, g4⟩⟩ := hcut
    have hsz := hB.size
    have HZ := Lib.hid hz
    clear hz T0 hb1 hb2 hb3 k1 k2 k3 Hx H1 H2 cm
    obtain ⟨mb1, mb2⟩ := mid_between HM.out
    have RC := Lib.hid (rest_cases a b m HM.out)
    have cb0 := fun (h : a + b + -(m + m) = 0) W => back_rest _ 0 eu e0 e1 e2 e3 W HZ.out h (by unfold Fits; omega)
    have cb1 := fun (h : a + b + -(m + m) = 1) W => back_rest _ 1 eu e0 e1 e2 e3 W HZ.out h (by unfold Fits; omega)
    by_cases hlt : a < b
    · have hab : a ≤ b := by omega
      obtain ⟨ma, mb⟩ := mb1 hab
      clear mb1 mb2
      by_cases hx1 : x < a
      · have hxe : Hid (x < a) := hx1
        rcases RC.out with hr | hr
        · have cb := cb0 hr
          clear cb0 cb1 hr RC HM
          have cc := fun W => clamp_any x a b W
          rw [clamp_lo hab hxe.out] at cc
          have cd := fun W => clamp_any x b a W
          rw [clamp_over hab] at cd
          go_wp2_with (first
            | (go_at_call 14; ((with_reducible refine (cb _).mono ?_); rintro e w6 ⟨rfl, hb6⟩))
            | (go_at_call 27; ((with_reducible refine (cc _).mono ?_); rintro e w' ⟨rfl, rfl⟩))
            | (go_at_call 27; ((with_reducible refine (cd _).mono ?_); rintro e w' ⟨rfl, rfl⟩)))
          all_goals
            go_ret
            exact ⟨rfl, hB.trans (hb6.mono hsz)⟩
        · have cb := cb1 hr
          clear cb0 cb1 hr RC HM
          have cc := fun W => clamp_any x a b W
          rw [clamp_lo hab hxe.out] at cc
          have cd := fun W => clamp_any x b a W
          rw [clamp_over hab] at cd
          go_wp2_with (first
            | (go_at_call 14; ((with_reducible refine (cb _).mono ?_); rintro e w6 ⟨rfl, hb6⟩))
            | (go_at_call 27; ((with_reducible refine (cc _).mono ?_); rintro e w' ⟨rfl, rfl⟩))
            | (go_at_call 27; ((with_reducible refine (cd _).mono ?_); rintro e w' ⟨rfl, rfl⟩)))
          all_goals
            go_ret
            exact ⟨rfl, hB.trans (hb6.mono hsz)⟩
      · by_cases hx2 : b < x
        · have hxe : Hid (b < x) := hx2
          rcases RC.out with hr | hr
          · have cb := cb0 hr
            clear cb0 cb1 hr RC HM
            have cc := fun W => clamp_any x a b W
            rw [clamp_hi hab hxe.out] at cc
            have cd := fun W => clamp_any x b a W
            rw [clamp_over hab] at cd
            go_wp2_with (first
              | (go_at_call 14; ((with_reducible refine (cb _).mono ?_); rintro e w6 ⟨rfl, hb6⟩))
              | (go_at_call 27; ((with_reducible refine (cc _).mono ?_); rintro e w' ⟨rfl, rfl⟩))
              | (go_at_call 27; ((with_reducible refine (cd _).mono ?_); rintro e w' ⟨rfl, rfl⟩)))
            all_goals
              go_ret
              exact ⟨rfl, hB.trans (hb6.mono hsz)⟩
          · have cb := cb1 hr
            clear cb0 cb1 hr RC HM
            have cc := fun W => clamp_any x a b W
            rw [clamp_hi hab hxe.out] at cc
            have cd := fun W => clamp_any x b a W
            rw [clamp_over hab] at cd
            go_wp2_with (first
              | (go_at_call 14; ((with_reducible refine (cb _).mono ?_); rintro e w6 ⟨rfl, hb6⟩))
              | (go_at_call 27; ((with_reducible refine (cc _).mono ?_); rintro e w' ⟨rfl, rfl⟩))
              | (go_at_call 27; ((with_reducible refine (cd _).mono ?_); rintro e w' ⟨rfl, rfl⟩)))
            all_goals
              go_ret
              exact ⟨rfl, hB.trans (hb6.mono hsz)⟩
        · have hx3 : a ≤ x := by omega
          have hx4 : x ≤ b := by omega
          clear hx1 hx2
          rcases RC.out with hr | hr
          · have cb := cb0 hr
            clear cb0 cb1 hr RC HM
            have cc := fun W => clamp_any x a b W
            rw [clamp_in hx3 hx4] at cc
            have cd := fun W => clamp_any x b a W
            rw [clamp_over hab] at cd
            go_wp2_with (first
              | (go_at_call 14; ((with_reducible refine (cb _).mono ?_); rintro e w6 ⟨rfl, hb6⟩))
              | (go_at_call 27; ((with_reducible refine (cc _).mono ?_); rintro e w' ⟨rfl, rfl⟩))
              | (go_at_call 27; ((with_reducible refine (cd _).mono ?_); rintro e w' ⟨rfl, rfl⟩)))
            all_goals
              go_ret
              exact ⟨rfl, hB.trans (hb6.mono hsz)⟩
          · have cb := cb1 hr
            clear cb0 cb1 hr RC HM
            have cc := fun W => clamp_any x a b W
            rw [clamp_in hx3 hx4] at cc
            have cd := fun W => clamp_any x b a W
            rw [clamp_over hab] at cd
            go_wp2_with (first
              | (go_at_call 14; ((with_reducible refine (cb _).mono ?_); rintro e w6 ⟨rfl, hb6⟩))
              | (go_at_call 27; ((with_reducible refine (cc _).mono ?_); rintro e w' ⟨rfl, rfl⟩))
              | (go_at_call 27; ((with_reducible refine (cd _).mono ?_); rintro e w' ⟨rfl, rfl⟩)))
            all_goals
              go_ret
              exact ⟨rfl, hB.trans (hb6.mono hsz)⟩
    · by_cases heq : a = b
      · subst heq
        obtain ⟨ma, mb⟩ := mb1 (Int.le_refl a)
        have hma : a = m := by omega
        subst hma
        clear mb1 mb2 ma mb hlt
        by_cases hx1 : x < a
        · have hxe : Hid (x < a) := hx1
          rcases RC.out with hr | hr
          · have cb := cb0 hr
            clear cb0 cb1 hr RC HM
            have cc := fun W => clamp_any x a a W
            rw [clamp_lo (Int.le_refl a) hxe.out] at cc
            have cd := fun W => clamp_any x a a W
            rw [clamp_over (Int.le_refl a)] at cd
            go_wp2_with (first
              | (go_at_call 14; ((with_reducible refine (cb _).mono ?_); rintro e w6 ⟨rfl, hb6⟩))
              | (go_at_call 27; ((with_reducible refine (cc _).mono ?_); rintro e w' ⟨rfl, rfl⟩))
              | (go_at_call 27; ((with_reducible refine (cd _).mono ?_); rintro e w' ⟨rfl, rfl⟩)))
            all_goals
              go_ret
              exact ⟨rfl, hB.trans (hb6.mono hsz)⟩
          · have cb := cb1 hr
            clear cb0 cb1 hr RC HM
            have cc := fun W => clamp_any x a a W
            rw [clamp_lo (Int.le_refl a) hxe.out] at cc
            have cd := fun W => clamp_any x a a W
            rw [clamp_over (Int.le_refl a)] at cd
            go_wp2_with (first
              | (go_at_call 14; ((with_reducible refine (cb _).mono ?_); rintro e w6 ⟨rfl, hb6⟩))
              | (go_at_call 27; ((with_reducible refine (cc _).mono ?_); rintro e w' ⟨rfl, rfl⟩))
              | (go_at_call 27; ((with_reducible refine (cd _).mono ?_); rintro e w' ⟨rfl, rfl⟩)))
            all_goals
              go_ret
              exact ⟨rfl, hB.trans (hb6.mono hsz)⟩
        · by_cases hx2 : a < x
          · have hxe : Hid (a < x) := hx2
            rcases RC.out with hr | hr
            · have cb := cb0 hr
              clear cb0 cb1 hr RC HM
              have cc := fun W => clamp_any x a a W
              rw [clamp_hi (Int.le_refl a) hxe.out] at cc
              have cd := fun W => clamp_any x a a W
              rw [clamp_over (Int.le_refl a)] at cd
              go_wp2_with (first
                | (go_at_call 14; ((with_reducible refine (cb _).mono ?_); rintro e w6 ⟨rfl, hb6⟩))
                | (go_at_call 27; ((with_reducible refine (cc _).mono ?_); rintro e w' ⟨rfl, rfl⟩))
                | (go_at_call 27; ((with_reducible refine (cd _).mono ?_); rintro e w' ⟨rfl, rfl⟩)))
              all_goals
                go_ret
                exact ⟨rfl, hB.trans (hb6.mono hsz)⟩
            · have cb := cb1 hr
              clear cb0 cb1 hr RC HM
              have cc := fun W => clamp_any x a a W
              rw [clamp_hi (Int.le_refl a) hxe.out] at cc
              have cd := fun W => clamp_any x a a W
              rw [clamp_over (Int.le_refl a)] at cd
              go_wp2_with (first
                | (go_at_call 14; ((with_reducible refine (cb _).mono ?_); rintro e w6 ⟨rfl, hb6⟩))
                | (go_at_call 27; ((with_reducible refine (cc _).mono ?_); rintro e w' ⟨rfl, rfl⟩))
                | (go_at_call 27; ((with_reducible refine (cd _).mono ?_); rintro e w' ⟨rfl, rfl⟩)))
              all_goals
                go_ret
                exact ⟨rfl, hB.trans (hb6.mono hsz)⟩
          · have hx3 : a = x := by omega
            subst hx3
            clear hx1 hx2
            rcases RC.out with hr | hr
            · have cb := cb0 hr
              clear cb0 cb1 hr RC HM
              have cc := fun W => clamp_any a a a W
              rw [clamp_in (Int.le_refl a) (Int.le_refl a)] at cc
              have cd := fun W => clamp_any a a a W
              rw [clamp_over (Int.le_refl a)] at cd
              go_wp2_with (first
                | (go_at_call 14; ((with_reducible refine (cb _).mono ?_); rintro e w6 ⟨rfl, hb6⟩))
                | (go_at_call 27; ((with_reducible refine (cc _).mono ?_); rintro e w' ⟨rfl, rfl⟩))
                | (go_at_call 27; ((with_reducible refine (cd _).mono ?_); rintro e w' ⟨rfl, rfl⟩)))
              all_goals
                go_ret
                exact ⟨rfl, hB.trans (hb6.mono hsz)⟩
            · have cb := cb1 hr
              clear cb0 cb1 hr RC HM
              have cc := fun W => clamp_any a a a W
              rw [clamp_in (Int.le_refl a) (Int.le_refl a)] at cc
              have cd := fun W => clamp_any a a a W
              rw [clamp_over (Int.le_refl a)] at cd
              go_wp2_with (first
                | (go_at_call 14; ((with_reducible refine (cb _).mono ?_); rintro e w6 ⟨rfl, hb6⟩))
                | (go_at_call 27; ((with_reducible refine (cc _).mono ?_); rintro e w' ⟨rfl, rfl⟩))
                | (go_at_call 27; ((with_reducible refine (cd _).mono ?_); rintro e w' ⟨rfl, rfl⟩)))
              all_goals
                go_ret
                exact ⟨rfl, hB.trans (hb6.mono hsz)⟩
      · have hba : b < a := by omega
        clear hlt heq
        have hle : b ≤ a := by omega
        obtain ⟨mb, ma⟩ := mb2 hba
        clear mb1 mb2
        by_cases hx1 : x < b
        · have hxe : Hid (x < b) := hx1
          have hxa : x ≤ a := by omega
          rcases RC.out with hr | hr
          · have cb := cb0 hr
            clear cb0 cb1 hr RC HM
            have cc := fun W => clamp_any x b a W
            rw [clamp_lo (Int.le_of_lt hba) hxe.out] at cc
            have cd := fun W => clamp_any x a b W
            rw [clamp_over (Int.le_of_lt hba)] at cd
            go_wp2_with (first
              | (go_at_call 14; ((with_reducible refine (cb _).mono ?_); rintro e w6 ⟨rfl, hb6⟩))
              | (go_at_call 27; ((with_reducible refine (cc _).mono ?_); rintro e w' ⟨rfl, rfl⟩))
              | (go_at_call 27; ((with_reducible refine (cd _).mono ?_); rintro e w' ⟨rfl, rfl⟩)))
            all_goals
              go_ret
              exact ⟨rfl, hB.trans (hb6.mono hsz)⟩
          · have cb := cb1 hr
            clear cb0 cb1 hr RC HM
            have cc := fun W => clamp_any x b a W
            rw [clamp_lo (Int.le_of_lt hba) hxe.out] at cc
            have cd := fun W => clamp_any x a b W
            rw [clamp_over (Int.le_of_lt hba)] at cd
            go_wp2_with (first
              | (go_at_call 14; ((with_reducible refine (cb _).mono ?_); rintro e w6 ⟨rfl, hb6⟩))
              | (go_at_call 27; ((with_reducible refine (cc _).mono ?_); rintro e w' ⟨rfl, rfl⟩))
              | (go_at_call 27; ((with_reducible refine (cd _).mono ?_); rintro e w' ⟨rfl, rfl⟩)))
            all_goals
              go_ret
              exact ⟨rfl, hB.trans (hb6.mono hsz)⟩
        · by_cases hx2 : a < x
          · have hxe : Hid (a < x) := hx2
            rcases RC.out with hr | hr
            · have cb := cb0 hr
              clear cb0 cb1 hr RC HM
              have cc := fun W => clamp_any x b a W
              rw [clamp_hi (Int.le_of_lt hba) hxe.out] at cc
              have cd := fun W => clamp_any x a b W
              rw [clamp_over (Int.le_of_lt hba)] at cd
              go_wp2_with (first
                | (go_at_call 14; ((with_reducible refine (cb _).mono ?_); rintro e w6 ⟨rfl, hb6⟩))
                | (go_at_call 27; ((with_reducible refine (cc _).mono ?_); rintro e w' ⟨rfl, rfl⟩))
                | (go_at_call 27; ((with_reducible refine (cd _).mono ?_); rintro e w' ⟨rfl, rfl⟩)))
              all_goals
                go_ret
                exact ⟨rfl, hB.trans (hb6.mono hsz)⟩
            · have cb := cb1 hr
              clear cb0 cb1 hr RC HM
              have cc := fun W => clamp_any x b a W
              rw [clamp_hi (Int.le_of_lt hba) hxe.out] at cc
              have cd := fun W => clamp_any x a b W
              rw [clamp_over (Int.le_of_lt hba)] at cd
              go_wp2_with (first
                | (go_at_call 14; ((with_reducible refine (cb _).mono ?_); rintro e w6 ⟨rfl, hb6⟩))
                | (go_at_call 27; ((with_reducible refine (cc _).mono ?_); rintro e w' ⟨rfl, rfl⟩))
                | (go_at_call 27; ((with_reducible refine (cd _).mono ?_); rintro e w' ⟨rfl, rfl⟩)))
              all_goals
                go_ret
                exact ⟨rfl, hB.trans (hb6.mono hsz)⟩
          · have hx3 : b ≤ x := by omega
            have hx4 : x ≤ a := by omega
            clear hx1 hx2
            rcases RC.out with hr | hr
            · have cb := cb0 hr
              clear cb0 cb1 hr RC HM
              have cc := fun W => clamp_any x b a W
              rw [clamp_in hx3 hx4] at cc
              have cd := fun W => clamp_any x a b W
              rw [clamp_over (Int.le_of_lt hba)] at cd
              go_wp2_with (first
                | (go_at_call 14; ((with_reducible refine (cb _).mono ?_); rintro e w6 ⟨rfl, hb6⟩))
                | (go_at_call 27; ((with_reducible refine (cc _).mono ?_); rintro e w' ⟨rfl, rfl⟩))
                | (go_at_call 27; ((with_reducible refine (cd _).mono ?_); rintro e w' ⟨rfl, rfl⟩)))
              all_goals
                go_ret
                exact ⟨rfl, hB.trans (hb6.mono hsz)⟩
            · have cb := cb1 hr
              clear cb0 cb1 hr RC HM
              have cc := fun W => clamp_any x b a W
              rw [clamp_in hx3 hx4] at cc
              have cd := fun W => clamp_any x a b W
              rw [clamp_over (Int.le_of_lt hba)] at cd
              go_wp2_with (first
                | (go_at_call 14; ((with_reducible refine (cb _).mono ?_); rintro e w6 ⟨rfl, hb6⟩))
                | (go_at_call 27; ((with_reducible refine (cc _).mono ?_); rintro e w' ⟨rfl, rfl⟩))
                | (go_at_call 27; ((with_reducible refine (cd _).mono ?_); rintro e w' ⟨rfl, rfl⟩)))
              all_goals
                go_ret
                exact ⟨rfl, hB.trans (hb6.mono hsz)⟩
end Go.Proofs.Ytkonggpambpjeaa.Walks
