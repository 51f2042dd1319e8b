/-
  The walk of NumSums: for any two integers of 64 bits it returns true. No condition.
-/
import Derived.Test.YtkonggpambpjeaaDigits
import Derived.Deep.DeepCutAuto
import Derived.Handy
namespace Go.Proofs.Ytkonggpambpjeaa.Walks
open Go.ChangeShapes Go.WideShapes Go.ChangeAt Go.RowKit
open Num Ref
set_option linter.unusedVariables false

/-- Two numbers lie in the blocks g and g + 1. -/
def Two (g : Nat) (u d0 d1 d2 d3 v c0 c1 c2 c3 : Int) (w : World) : Prop :=
  g + 2 ≤ w.heap.size ∧ w.cell? ⟨g, 0, none⟩ = some (.int .i64 u) ∧ w.cell? ⟨g, 1, none⟩ = some (.int .u64 d0) ∧ w.cell? ⟨g, 2, none⟩ = some (.int .u64 d1) ∧ w.cell? ⟨g, 3, none⟩ = some (.int .u64 d2) ∧ w.cell? ⟨g, 4, none⟩ = some (.int .u64 d3) ∧ w.cell? ⟨g + 1, 0, none⟩ = some (.int .i64 v) ∧ w.cell? ⟨g + 1, 1, none⟩ = some (.int .u64 c0) ∧ w.cell? ⟨g + 1, 2, none⟩ = some (.int .u64 c1) ∧ w.cell? ⟨g + 1, 3, none⟩ = some (.int .u64 c2) ∧ w.cell? ⟨g + 1, 4, none⟩ = some (.int .u64 c3)
theorem two_out {g : Nat} {u d0 d1 d2 d3 v c0 c1 c2 c3 : Int} {w : World} (h : Two g u d0 d1 d2 d3 v c0 c1 c2 c3 w) : Two g u d0 d1 d2 d3 v c0 c1 c2 c3 w ∧ w.cell? ⟨g, 0, none⟩ = some (.int .i64 u) ∧ w.cell? ⟨g, 1, none⟩ = some (.int .u64 d0) ∧ w.cell? ⟨g, 2, none⟩ = some (.int .u64 d1) ∧ w.cell? ⟨g, 3, none⟩ = some (.int .u64 d2) ∧ w.cell? ⟨g, 4, none⟩ = some (.int .u64 d3) ∧ w.cell? ⟨g + 1, 0, none⟩ = some (.int .i64 v) ∧ w.cell? ⟨g + 1, 1, none⟩ = some (.int .u64 c0) ∧ w.cell? ⟨g + 1, 2, none⟩ = some (.int .u64 c1) ∧ w.cell? ⟨g + 1, 3, none⟩ = some (.int .u64 c2) ∧ w.cell? ⟨g + 1, 4, none⟩ = some (.int .u64 c3) := ⟨h, h.2⟩
theorem two_below {g : Nat} {u d0 d1 d2 d3 v c0 c1 c2 c3 : Int} {w w' : World} (h : Two g u d0 d1 d2 d3 v c0 c1 c2 c3 w) (hb : Below (g + 2) w w') : Two g u d0 d1 d2 d3 v c0 c1 c2 c3 w' := by
  obtain ⟨hz, h0, h1, h2, h3, h4, h5, h6, h7, h8, h9⟩ := h
  refine ⟨Nat.le_trans hz hb.size, ?_, ?_, ?_, ?_, ?_, ?_, ?_, ?_, ?_, ?_⟩
  all_goals (refine (hb.cell (by simp)).trans ?_; assumption)
theorem keep_call {g : Nat} {u d0 d1 d2 d3 v c0 c1 c2 c3 : Int} {w w' : World} (hb : Below w.heap.size w w') (h : Two g u d0 d1 d2 d3 v c0 c1 c2 c3 w ∧ w.cell? ⟨g, 0, none⟩ = some (.int .i64 u) ∧ w.cell? ⟨g, 1, none⟩ = some (.int .u64 d0) ∧ w.cell? ⟨g, 2, none⟩ = some (.int .u64 d1) ∧ w.cell? ⟨g, 3, none⟩ = some (.int .u64 d2) ∧ w.cell? ⟨g, 4, none⟩ = some (.int .u64 d3) ∧ w.cell? ⟨g + 1, 0, none⟩ = some (.int .i64 v) ∧ w.cell? ⟨g + 1, 1, none⟩ = some (.int .u64 c0) ∧ w.cell? ⟨g + 1, 2, none⟩ = some (.int .u64 c1) ∧ w.cell? ⟨g + 1, 3, none⟩ = some (.int .u64 c2) ∧ w.cell? ⟨g + 1, 4, none⟩ = some (.int .u64 c3)) :
    Two g u d0 d1 d2 d3 v c0 c1 c2 c3 w' ∧ w'.cell? ⟨g, 0, none⟩ = some (.int .i64 u) ∧ w'.cell? ⟨g, 1, none⟩ = some (.int .u64 d0) ∧ w'.cell? ⟨g, 2, none⟩ = some (.int .u64 d1) ∧ w'.cell? ⟨g, 3, none⟩ = some (.int .u64 d2) ∧ w'.cell? ⟨g, 4, none⟩ = some (.int .u64 d3) ∧ w'.cell? ⟨g + 1, 0, none⟩ = some (.int .i64 v) ∧ w'.cell? ⟨g + 1, 1, none⟩ = some (.int .u64 c0) ∧ w'.cell? ⟨g + 1, 2, none⟩ = some (.int .u64 c1) ∧ w'.cell? ⟨g + 1, 3, none⟩ = some (.int .u64 c2) ∧ w'.cell? ⟨g + 1, 4, none⟩ = some (.int .u64 c3) :=
  two_out (two_below h.1 (hb.mono h.1.1))
theorem keep_alloc {g : Nat} {u d0 d1 d2 d3 v c0 c1 c2 c3 : Int} {w : World} {o : Obj} (h : Two g u d0 d1 d2 d3 v c0 c1 c2 c3 w ∧ w.cell? ⟨g, 0, none⟩ = some (.int .i64 u) ∧ w.cell? ⟨g, 1, none⟩ = some (.int .u64 d0) ∧ w.cell? ⟨g, 2, none⟩ = some (.int .u64 d1) ∧ w.cell? ⟨g, 3, none⟩ = some (.int .u64 d2) ∧ w.cell? ⟨g, 4, none⟩ = some (.int .u64 d3) ∧ w.cell? ⟨g + 1, 0, none⟩ = some (.int .i64 v) ∧ w.cell? ⟨g + 1, 1, none⟩ = some (.int .u64 c0) ∧ w.cell? ⟨g + 1, 2, none⟩ = some (.int .u64 c1) ∧ w.cell? ⟨g + 1, 3, none⟩ = some (.int .u64 c2) ∧ w.cell? ⟨g + 1, 4, none⟩ = some (.int .u64 c3)) :
    Two g u d0 d1 d2 d3 v c0 c1 c2 c3 (w.alloc o) ∧ (w.alloc o).cell? ⟨g, 0, none⟩ = some (.int .i64 u) ∧ (w.alloc o).cell? ⟨g, 1, none⟩ = some (.int .u64 d0) ∧ (w.alloc o).cell? ⟨g, 2, none⟩ = some (.int .u64 d1) ∧ (w.alloc o).cell? ⟨g, 3, none⟩ = some (.int .u64 d2) ∧ (w.alloc o).cell? ⟨g, 4, none⟩ = some (.int .u64 d3) ∧ (w.alloc o).cell? ⟨g + 1, 0, none⟩ = some (.int .i64 v) ∧ (w.alloc o).cell? ⟨g + 1, 1, none⟩ = some (.int .u64 c0) ∧ (w.alloc o).cell? ⟨g + 1, 2, none⟩ = some (.int .u64 c1) ∧ (w.alloc o).cell? ⟨g + 1, 3, none⟩ = some (.int .u64 c2) ∧ (w.alloc o).cell? ⟨g + 1, 4, none⟩ = some (.int .u64 c3) :=
  two_out (two_below h.1 ((Below.refl _ _).alloc h.1.1 _))
theorem keep_early {g : Nat} {u d0 d1 d2 d3 v c0 c1 c2 c3 : Int} {w : World} {o : Obj} (h : Two g u d0 d1 d2 d3 v c0 c1 c2 c3 w.drew ∧ w.drew.cell? ⟨g, 0, none⟩ = some (.int .i64 u) ∧ w.drew.cell? ⟨g, 1, none⟩ = some (.int .u64 d0) ∧ w.drew.cell? ⟨g, 2, none⟩ = some (.int .u64 d1) ∧ w.drew.cell? ⟨g, 3, none⟩ = some (.int .u64 d2) ∧ w.drew.cell? ⟨g, 4, none⟩ = some (.int .u64 d3) ∧ w.drew.cell? ⟨g + 1, 0, none⟩ = some (.int .i64 v) ∧ w.drew.cell? ⟨g + 1, 1, none⟩ = some (.int .u64 c0) ∧ w.drew.cell? ⟨g + 1, 2, none⟩ = some (.int .u64 c1) ∧ w.drew.cell? ⟨g + 1, 3, none⟩ = some (.int .u64 c2) ∧ w.drew.cell? ⟨g + 1, 4, none⟩ = some (.int .u64 c3)) :
    Two g u d0 d1 d2 d3 v c0 c1 c2 c3 (w.alloc o).drew ∧ (w.alloc o).drew.cell? ⟨g, 0, none⟩ = some (.int .i64 u) ∧ (w.alloc o).drew.cell? ⟨g, 1, none⟩ = some (.int .u64 d0) ∧ (w.alloc o).drew.cell? ⟨g, 2, none⟩ = some (.int .u64 d1) ∧ (w.alloc o).drew.cell? ⟨g, 3, none⟩ = some (.int .u64 d2) ∧ (w.alloc o).drew.cell? ⟨g, 4, none⟩ = some (.int .u64 d3) ∧ (w.alloc o).drew.cell? ⟨g + 1, 0, none⟩ = some (.int .i64 v) ∧ (w.alloc o).drew.cell? ⟨g + 1, 1, none⟩ = some (.int .u64 c0) ∧ (w.alloc o).drew.cell? ⟨g + 1, 2, none⟩ = some (.int .u64 c1) ∧ (w.alloc o).drew.cell? ⟨g + 1, 3, none⟩ = some (.int .u64 c2) ∧ (w.alloc o).drew.cell? ⟨g + 1, 4, none⟩ = some (.int .u64 c3) :=
  two_out (two_below h.1 ⟨rfl, rfl, rfl, by show w.heap.size ≤ (w.alloc o).heap.size; simp, fun k hk => Below.heap_alloc w o k (Nat.lt_of_lt_of_le hk h.1.1)⟩)
theorem keep_store {g : Nat} {u d0 d1 d2 d3 v c0 c1 c2 c3 : Int} {w : World} {a : Addr} {x : Value} (h : Two g u d0 d1 d2 d3 v c0 c1 c2 c3 w ∧ w.cell? ⟨g, 0, none⟩ = some (.int .i64 u) ∧ w.cell? ⟨g, 1, none⟩ = some (.int .u64 d0) ∧ w.cell? ⟨g, 2, none⟩ = some (.int .u64 d1) ∧ w.cell? ⟨g, 3, none⟩ = some (.int .u64 d2) ∧ w.cell? ⟨g, 4, none⟩ = some (.int .u64 d3) ∧ w.cell? ⟨g + 1, 0, none⟩ = some (.int .i64 v) ∧ w.cell? ⟨g + 1, 1, none⟩ = some (.int .u64 c0) ∧ w.cell? ⟨g + 1, 2, none⟩ = some (.int .u64 c1) ∧ w.cell? ⟨g + 1, 3, none⟩ = some (.int .u64 c2) ∧ w.cell? ⟨g + 1, 4, none⟩ = some (.int .u64 c3)) (ha : g + 2 ≤ a.block) :
    Two g u d0 d1 d2 d3 v c0 c1 c2 c3 (w.setCell a x) ∧ (w.setCell a x).cell? ⟨g, 0, none⟩ = some (.int .i64 u) ∧ (w.setCell a x).cell? ⟨g, 1, none⟩ = some (.int .u64 d0) ∧ (w.setCell a x).cell? ⟨g, 2, none⟩ = some (.int .u64 d1) ∧ (w.setCell a x).cell? ⟨g, 3, none⟩ = some (.int .u64 d2) ∧ (w.setCell a x).cell? ⟨g, 4, none⟩ = some (.int .u64 d3) ∧ (w.setCell a x).cell? ⟨g + 1, 0, none⟩ = some (.int .i64 v) ∧ (w.setCell a x).cell? ⟨g + 1, 1, none⟩ = some (.int .u64 c0) ∧ (w.setCell a x).cell? ⟨g + 1, 2, none⟩ = some (.int .u64 c1) ∧ (w.setCell a x).cell? ⟨g + 1, 3, none⟩ = some (.int .u64 c2) ∧ (w.setCell a x).cell? ⟨g + 1, 4, none⟩ = some (.int .u64 c3) :=
  two_out (two_below h.1 ((Below.refl _ _).setCell ha _))
theorem below_fold {B : Nat} {w : World} (hz : B ≤ w.heap.size) (o1 o2 p1 p2 : Obj) : Below B ((w.alloc o1).alloc o2) ((w.alloc p1).alloc p2) :=
  ⟨rfl, rfl, rfl, by simp, fun k hk => by
    rw [Below.heap_alloc _ _ _ (by simp; omega), Below.heap_alloc _ _ _ (by omega), Below.heap_alloc _ _ _ (by simp; omega), Below.heap_alloc _ _ _ (by omega)]⟩
theorem keep_fold {g : Nat} {u d0 d1 d2 d3 v c0 c1 c2 c3 : Int} {w : World} {o1 o2 p1 p2 : Obj} (hz : g + 2 ≤ w.heap.size) (h : Two g u d0 d1 d2 d3 v c0 c1 c2 c3 ((w.alloc o1).alloc o2) ∧ ((w.alloc o1).alloc o2).cell? ⟨g, 0, none⟩ = some (.int .i64 u) ∧ ((w.alloc o1).alloc o2).cell? ⟨g, 1, none⟩ = some (.int .u64 d0) ∧ ((w.alloc o1).alloc o2).cell? ⟨g, 2, none⟩ = some (.int .u64 d1) ∧ ((w.alloc o1).alloc o2).cell? ⟨g, 3, none⟩ = some (.int .u64 d2) ∧ ((w.alloc o1).alloc o2).cell? ⟨g, 4, none⟩ = some (.int .u64 d3) ∧ ((w.alloc o1).alloc o2).cell? ⟨g + 1, 0, none⟩ = some (.int .i64 v) ∧ ((w.alloc o1).alloc o2).cell? ⟨g + 1, 1, none⟩ = some (.int .u64 c0) ∧ ((w.alloc o1).alloc o2).cell? ⟨g + 1, 2, none⟩ = some (.int .u64 c1) ∧ ((w.alloc o1).alloc o2).cell? ⟨g + 1, 3, none⟩ = some (.int .u64 c2) ∧ ((w.alloc o1).alloc o2).cell? ⟨g + 1, 4, none⟩ = some (.int .u64 c3)) :
    Two g u d0 d1 d2 d3 v c0 c1 c2 c3 ((w.alloc p1).alloc p2) ∧ ((w.alloc p1).alloc p2).cell? ⟨g, 0, none⟩ = some (.int .i64 u) ∧ ((w.alloc p1).alloc p2).cell? ⟨g, 1, none⟩ = some (.int .u64 d0) ∧ ((w.alloc p1).alloc p2).cell? ⟨g, 2, none⟩ = some (.int .u64 d1) ∧ ((w.alloc p1).alloc p2).cell? ⟨g, 3, none⟩ = some (.int .u64 d2) ∧ ((w.alloc p1).alloc p2).cell? ⟨g, 4, none⟩ = some (.int .u64 d3) ∧ ((w.alloc p1).alloc p2).cell? ⟨g + 1, 0, none⟩ = some (.int .i64 v) ∧ ((w.alloc p1).alloc p2).cell? ⟨g + 1, 1, none⟩ = some (.int .u64 c0) ∧ ((w.alloc p1).alloc p2).cell? ⟨g + 1, 2, none⟩ = some (.int .u64 c1) ∧ ((w.alloc p1).alloc p2).cell? ⟨g + 1, 3, none⟩ = some (.int .u64 c2) ∧ ((w.alloc p1).alloc p2).cell? ⟨g + 1, 4, none⟩ = some (.int .u64 c3) :=
  two_out (two_below h.1 (below_fold hz _ _ _ _))
theorem two_start (w : World) (u d0 d1 d2 d3 v c0 c1 c2 c3 : Int) (t : TypeId) :
    Two w.heap.size u d0 d1 d2 d3 v c0 c1 c2 c3 ((w.alloc (.cells #[.int .i64 u, .int .u64 d0, .int .u64 d1, .int .u64 d2, .int .u64 d3] t)).alloc (.cells #[.int .i64 v, .int .u64 c0, .int .u64 c1, .int .u64 c2, .int .u64 c3] t)).drew := by
  unfold Two; simp [go_sem]

/-- What the statement 'sum, less := ..' leaves: two numbers in blocks of their own. -/
def Cut6 (a b : Int) (w : World) (s11 s12 : Value) (wx : World) : Prop :=
  ∃ (p q : Nat) (s x0 x1 x2 x3 t z0 z1 z2 z3 : Int), s11 = .pointer (some ⟨p, 0, none⟩) ∧ s12 = .pointer (some ⟨q, 0, none⟩) ∧ p < wx.heap.size ∧ q < wx.heap.size ∧
    IsNum (a + b) s x0 x1 x2 x3 ∧ IsNum (a + -b) t z0 z1 z2 z3 ∧ Below w.heap.size w wx ∧
    (wx.cell? ⟨p, 0, none⟩ = some (.int .i64 s) ∧ wx.cell? ⟨p, 1, none⟩ = some (.int .u64 x0) ∧ wx.cell? ⟨p, 2, none⟩ = some (.int .u64 x1) ∧ wx.cell? ⟨p, 3, none⟩ = some (.int .u64 x2) ∧ wx.cell? ⟨p, 4, none⟩ = some (.int .u64 x3)) ∧
    (wx.cell? ⟨q, 0, none⟩ = some (.int .i64 t) ∧ wx.cell? ⟨q, 1, none⟩ = some (.int .u64 z0) ∧ wx.cell? ⟨q, 2, none⟩ = some (.int .u64 z1) ∧ wx.cell? ⟨q, 3, none⟩ = some (.int .u64 z2) ∧ wx.cell? ⟨q, 4, none⟩ = some (.int .u64 z3))
set_option maxHeartbeats 16000000 in
theorem numSums_walk (a : Int) (wa : (Lit.int .i64 a).wf = true) (b : Int) (wb : (Lit.int .i64 b).wf = true) (w : World) :
    Calls Try.prog 3 #[.int .i64 a, .int .i64 b] w fun e w' => e = .returned (.bool true) ∧ Below w.heap.size w w' := by
  have ha := Lib.hid (fits_of_wf wa)
  have hb := Lib.hid (fits_of_wf wb)
  clear wa wb
  go_enter Try.func3, Try.ntmps3
  go_upto_region 6 with (first
    | (go_at_call 8; refine (anchor_any _).mono ?_; rintro e w' ⟨rfl, rfl⟩)
    | (go_at_call 9; ((with_reducible refine (of_num a _ ha.out).mono ?_); rintro e w1 ⟨⟨u, d0, d1, d2, d3, rfl, hx⟩, hb1⟩; have Hx := Lib.hid hx; clear hx))
    | (go_at_call 9; ((with_reducible refine (of_num b _ hb.out).mono ?_); rintro e w2 ⟨⟨v, c0, c1, c2, c3, rfl, hy⟩, hb2⟩; have Hy := Lib.hid hy; clear hy))
    | (go_at_call 10; ((with_reducible refine (add_num a b _ ha.out hb.out).mono ?_); rintro e w' ⟨rfl, rfl⟩))
    | (go_at_call 11; ((with_reducible refine (sub_num a b _ ha.out hb.out).mono ?_); rintro e w' ⟨rfl, rfl⟩)))
  have k1 : w.heap.size ≤ w1.heap.size := hb1.size
  have k2 : w.heap.size ≤ w2.heap.size := Nat.le_trans hb1.size hb2.size
  have T0 := two_start w2 u d0 d1 d2 d3 v c0 c1 c2 c3 26
  go_cut [11, 12] (fun s11 s12 wx => Cut6 a b w s11 s12 wx)
  case first =>
    go_region_held3 (fun w' => Two w2.heap.size u d0 d1 d2 d3 v c0 c1 c2 c3 w' ∧ w'.cell? ⟨w2.heap.size, 0, none⟩ = some (.int .i64 u) ∧ w'.cell? ⟨w2.heap.size, 1, none⟩ = some (.int .u64 d0) ∧ w'.cell? ⟨w2.heap.size, 2, none⟩ = some (.int .u64 d1) ∧ w'.cell? ⟨w2.heap.size, 3, none⟩ = some (.int .u64 d2) ∧ w'.cell? ⟨w2.heap.size, 4, none⟩ = some (.int .u64 d3) ∧ w'.cell? ⟨w2.heap.size + 1, 0, none⟩ = some (.int .i64 v) ∧ w'.cell? ⟨w2.heap.size + 1, 1, none⟩ = some (.int .u64 c0) ∧ w'.cell? ⟨w2.heap.size + 1, 2, none⟩ = some (.int .u64 c1) ∧ w'.cell? ⟨w2.heap.size + 1, 3, none⟩ = some (.int .u64 c2) ∧ w'.cell? ⟨w2.heap.size + 1, 4, none⟩ = some (.int .u64 c3))
      (with_reducible first | exact keep_call (by assumption) (by assumption) | exact keep_alloc (by assumption) | exact keep_early (by assumption) | (refine two_out (two_below T5 ?_); repeat (first | exact Below.refl _ _ | refine Below.setCell ?_ (by first | assumption | (dsimp only; omega)) _ | refine Below.alloc ?_ (by first | assumption | (simp [World.setCell]; done) | (simp [World.setCell]; omega)) _)) | exact two_out T0)
      (first
        | (go_at_call 12; ((with_reducible refine (sum_num a u d0 d1 d2 d3 b v c0 c1 c2 c3 _ Hx.out Hy.out (fits_small ha.out) (fits_small hb.out)).mono ?_); rintro e w3 ⟨⟨s, x0, x1, x2, x3, rfl, hs⟩, hb3⟩; obtain ⟨hc3, hf3⟩ := bcell hb3; have hs3 := hb3.size; (try simp at hs3); (try have q30 : w2.heap.size + 1 + 1 < w3.heap.size := (by omega)); (try have r30 : w2.heap.size + 1 + 1 < w3.heap.size + 1 := (by omega)); (try have q31 : w2.heap.size + 1 + 1 + 1 < w3.heap.size := (by omega)); (try have r31 : w2.heap.size + 1 + 1 + 1 < w3.heap.size + 1 := (by omega)); have hz3 : w2.heap.size + 2 ≤ w3.heap.size := (by omega); have Hs := Lib.hid hs; clear hs))
        | (go_at_call 13; ((with_reducible refine (minor_num b v c0 c1 c2 c3 _ Hy.out).mono ?_); rintro e w4 ⟨⟨m, y0, y1, y2, y3, rfl, hm⟩, hb4⟩; obtain ⟨hc4, hf4⟩ := bcell hb4; have hs4 := hb4.size; (try simp at hs4); (try have q40 : w2.heap.size + 1 + 1 < w4.heap.size := (by omega)); (try have r40 : w2.heap.size + 1 + 1 < w4.heap.size + 1 := (by omega)); (try have q41 : w2.heap.size + 1 + 1 + 1 < w4.heap.size := (by omega)); (try have r41 : w2.heap.size + 1 + 1 + 1 < w4.heap.size + 1 := (by omega)); (try have q42 : w3.heap.size < w4.heap.size := (by omega)); (try have r42 : w3.heap.size < w4.heap.size + 1 := (by omega)); (try have q43 : w3.heap.size + 1 < w4.heap.size := (by omega)); (try have r43 : w3.heap.size + 1 < w4.heap.size + 1 := (by omega)); have hz4 : w2.heap.size + 2 ≤ w4.heap.size := (by omega); have Hm := Lib.hid hm; clear hm))
        | (go_at_call 12; ((with_reducible refine (sum_num a u d0 d1 d2 d3 (-b) m y0 y1 y2 y3 _ Hx.out Hm.out (fits_small ha.out) (fits_small_neg hb.out)).mono ?_); rintro e w5 ⟨⟨t, z0, z1, z2, z3, rfl, ht⟩, hb5⟩; obtain ⟨hc5, hf5⟩ := bcell hb5; have hs5 := hb5.size; (try simp at hs5); (try have q50 : w2.heap.size + 1 + 1 < w5.heap.size := (by omega)); (try have r50 : w2.heap.size + 1 + 1 < w5.heap.size + 1 := (by omega)); (try have q51 : w2.heap.size + 1 + 1 + 1 < w5.heap.size := (by omega)); (try have r51 : w2.heap.size + 1 + 1 + 1 < w5.heap.size + 1 := (by omega)); (try have q52 : w3.heap.size < w5.heap.size := (by omega)); (try have r52 : w3.heap.size < w5.heap.size + 1 := (by omega)); (try have q53 : w3.heap.size + 1 < w5.heap.size := (by omega)); (try have r53 : w3.heap.size + 1 < w5.heap.size + 1 := (by omega)); (try have q54 : w4.heap.size < w5.heap.size := (by omega)); (try have r54 : w4.heap.size < w5.heap.size + 1 := (by omega)); (try have q55 : w4.heap.size + 1 < w5.heap.size := (by omega)); (try have r55 : w4.heap.size + 1 < w5.heap.size + 1 := (by omega)); have hz5 : w2.heap.size + 2 ≤ w5.heap.size := (by omega); have T5 : Two w2.heap.size u d0 d1 d2 d3 v c0 c1 c2 c3 w5 := (keep_call hb5 (by assumption)).1; have Ht := Lib.hid ht; clear ht)))
    all_goals
      go_wp2_with fail
      go_meet
      unfold Cut6
      refine ⟨_, _, _, _, _, _, _, _, _, _, _, _, rfl, rfl, ?_, ?_, Hs.out, Ht.out, ?_, ⟨?_, ?_, ?_, ?_, ?_⟩, ⟨?_, ?_, ?_, ?_, ?_⟩⟩
      · go_size
      · go_size
      · repeat (first | (with_reducible exact Below.refl _ _) | (with_reducible refine Below.drew ?_) | (with_reducible refine Below.setCell ?_ (by go_size) _) | (with_reducible refine Below.alloc ?_ (by go_size) _) | (with_reducible refine Below.trans ?_ (hb5.mono (by go_size))) | (with_reducible refine Below.trans ?_ (hb4.mono (by go_size))) | (with_reducible refine Below.trans ?_ (hb3.mono (by go_size))) | (with_reducible refine Below.trans ?_ (hb2.mono (by go_size))) | (with_reducible refine Below.trans ?_ (hb1.mono (by go_size))) )
      all_goals first | (go_simp; done) | (simp (maxDischargeDepth := 8) [go_sem, *]; done)
  case rest =>
    obtain ⟨p, q, s, x0, x1, x2, x3, t, z0, z1, z2, z3, rfl, rfl, hp5, hq5, hs, ht, hB, ⟨e0, e1, e2, e3, e4⟩, ⟨f0, f1, f2, f3, f4⟩⟩ := hcut
    have Hs := Lib.hid hs
    have Ht := Lib.hid ht
    clear hs ht T0 hb1 hb2 Hx Hy k1 k2
    go_wp2_with (first
      | (go_at_call 14; ((with_reducible refine (back_num (a + b) s x0 x1 x2 x3 _ Hs.out).mono ?_); rintro e w6 ⟨rfl, hb6⟩; obtain ⟨hc6, hf6⟩ := bcell hb6; have hp6 : p < w6.heap.size := Nat.lt_of_lt_of_le hp5 hb6.size; have hq6 : q < w6.heap.size := Nat.lt_of_lt_of_le hq5 hb6.size))
      | (go_at_call 14; ((with_reducible refine (back_num (a + -b) t z0 z1 z2 z3 _ Ht.out).mono ?_); rintro e w7 ⟨rfl, hb7⟩; obtain ⟨hc7, hf7⟩ := bcell hb7; have hp7 : p < w7.heap.size := Nat.lt_of_lt_of_le hp6 hb7.size; have hq7 : q < w7.heap.size := Nat.lt_of_lt_of_le hq6 hb7.size))
      | (go_at_call 15; ((with_reducible refine (told_num (a + b) s x0 x1 x2 x3 _ Hs.out).mono ?_); rintro e w8 ⟨rfl, hb8⟩; obtain ⟨hc8, hf8⟩ := bcell hb8; have hp8 : p < w8.heap.size := Nat.lt_of_lt_of_le hp7 hb8.size; have hq8 : q < w8.heap.size := Nat.lt_of_lt_of_le hq7 hb8.size))
      | (go_at_call 15; ((with_reducible refine (told_num (a + -b) t z0 z1 z2 z3 _ Ht.out).mono ?_); rintro e w9 ⟨rfl, hb9⟩; obtain ⟨hc9, hf9⟩ := bcell hb9; have hp9 : p < w9.heap.size := Nat.lt_of_lt_of_le hp8 hb9.size; have hq9 : q < w9.heap.size := Nat.lt_of_lt_of_le hq8 hb9.size))
      | (go_at_call 16; ((with_reducible refine (addsat_any a b _ ha.out hb.out).mono ?_); rintro e w' ⟨rfl, rfl⟩))
      | (go_at_call 17; ((with_reducible refine (subsat_num a b _ ha.out hb.out).mono ?_); rintro e w' ⟨rfl, rfl⟩)))
    go_ret
    refine ⟨rfl, ?_⟩
    have hsz := hB.size
    have h6 := hb6.size
    have h7 := hb7.size
    have h8 := hb8.size
    exact (((hB.trans (hb6.mono (by omega))).trans (hb7.mono (by omega))).trans (hb8.mono (by omega))).trans (hb9.mono (by omega))
end Go.Proofs.Ytkonggpambpjeaa.Walks
