/-
 The laws of layer 20: their helpers, and their example. No condition.
-/
import Derived.Test.YtjbhlcklgmgdpaaLnk
import Derived.Test.YtjbhlcklgmgdpaaMro
import Derived.Test.YtjbhlcklgmgdpaaShh
import Derived.Test.YtjbhlcklgmgdpaaSfn
import Derived.Test.YtjbhlcklgmgdpaaSpn
namespace Go.Proofs.Ytjbhlcklgmgdpaa.Lklw
open Go.ChangeShapes Go.WideShapes Go.ChangeAt Go.RowKit
open Arr Steady Sx Sw Sl Sb Sc Si Sj Sk Sh Vs Gr Tk Tkh Tkl Rt Rtm Rtg Rtp Rtk Rts Shh Sfn Cf Lkm
set_option linter.unusedVariables false
set_option linter.unusedSimpArgs false
set_option maxRecDepth 100000

set_option maxHeartbeats 2000000 in
theorem small_any (a b : Int) (w : World) :
  Calls Try.prog 6 #[.agg #[.int .i64 a, .int .i64 b]] w fun e w' => e = .returned (.bool (decide (Small a b))) ∧ Below w.heap.size w w' := by
 refine calls_sx Try.func6 rfl ?_
 simp only [Try.ntmps6, List.size_toArray, List.length_cons, List.length_nil, Nat.reduceAdd, Nat.reduceSub, Array.replicate_succ, Array.replicate_zero, List.push_toArray, List.append_toArray, List.nil_append, List.cons_append]
 refine wc_seq ?_
 refine wc_region ?_
 refine wl_new 23 (#[.int .i64 a, .int .i64 b]) rfl (fun _ => by go_simp) ?_
 intro g1
 simp only [Act.put, Xa, Xz, Xs]
 refine wl_val (.bool false) rfl (fun _ => rfl) ?_
 simp only [Act.put, Xa, Xz, Xs]
 refine wl_nil ?_
 refine we_then ?_
 refine wc_seq ?_
 refine wc_region ?_
 refine wl_val (.pointer (some ⟨g1, 0, none⟩)) rfl (fun _ => by go_simp) ?_
 simp only [Act.put, Xa, Xz, Xs]
 refine wl_cell 2 (.tmp 3) (.int .i64 a) (own_row 0 rfl) rfl rfl rfl rfl Try.isAgg2 ?_
 simp only [Act.put, Xa, Xz, Xs]
 refine wl_val (.pointer (some ⟨g1, 1, none⟩)) rfl (fun _ => by go_simp) ?_
 simp only [Act.put, Xa, Xz, Xs]
 refine wl_cell 2 (.tmp 5) (.int .i64 b) (own_row 0 rfl) rfl rfl rfl rfl Try.isAgg2 ?_
 simp only [Act.put, Xa, Xz, Xs]
 refine wl_val (.bool (decide (a ≤ b))) rfl (fun w => run_cmp rfl rfl rfl Try.underlying2 rfl w) ?_
 simp only [Act.put, Xa, Xz, Xs]
 refine wl_val (.bool (decide (a ≤ b))) rfl (fun _ => rfl) ?_
 simp only [Act.put, Xa, Xz, Xs]
 cases h2 : (decide (a ≤ b))
 ·
  skip
  have p2 : ¬ (a ≤ b) := of_decide_eq_false h2
  refine wl_skip rfl ?_
  simp only [Act.put, Xa, Xz, Xs]
  refine wl_skip rfl ?_
  simp only [Act.put, Xa, Xz, Xs]
  refine wl_skip rfl ?_
  simp only [Act.put, Xa, Xz, Xs]
  refine wl_val (.bool false) rfl (fun _ => rfl) ?_
  simp only [Act.put, Xa, Xz, Xs]
  refine wl_val (.bool false) rfl (fun _ => rfl) ?_
  simp only [Act.put, Xa, Xz, Xs]
  refine wl_skip rfl ?_
  simp only [Act.put, Xa, Xz, Xs]
  refine wl_skip rfl ?_
  simp only [Act.put, Xa, Xz, Xs]
  refine wl_skip rfl ?_
  simp only [Act.put, Xa, Xz, Xs]
  refine wl_val (.bool false) rfl (fun _ => rfl) ?_
  simp only [Act.put, Xa, Xz, Xs]
  refine wl_val (.bool false) rfl (fun _ => rfl) ?_
  simp only [Act.put, Xa, Xz, Xs]
  refine wl_nil ?_
  refine we_then ?_
  refine wc_ret ?_
  refine we_ret1 (.bool false) rfl rfl rfl (fun w1 hE => ?_)
  rw [show decide (Small a b) = false from by first | exact small_no1 (by omega) | exact small_no2 (by omega)]
  exact ⟨rfl, hE.below⟩
 ·
  skip
  have p2 : a ≤ b := of_decide_eq_true h2
  refine wl_val (.pointer (some ⟨g1, 0, none⟩)) rfl (fun _ => by go_simp) ?_
  simp only [Act.put, Xa, Xz, Xs]
  refine wl_cell 2 (.tmp 9) (.int .i64 a) (own_row 0 rfl) rfl rfl rfl rfl Try.isAgg2 ?_
  simp only [Act.put, Xa, Xz, Xs]
  refine wl_val (.bool (decide (-35184372088832 ≤ a))) rfl (fun w => run_cmp rfl rfl rfl Try.underlying2 rfl w) ?_
  simp only [Act.put, Xa, Xz, Xs]
  refine wl_val (.bool (decide (-35184372088832 ≤ a))) rfl (fun _ => rfl) ?_
  simp only [Act.put, Xa, Xz, Xs]
  refine wl_val (.bool (decide (-35184372088832 ≤ a))) rfl (fun _ => rfl) ?_
  simp only [Act.put, Xa, Xz, Xs]
  cases h3 : (decide (-35184372088832 ≤ a))
  ·
   skip
   have p3 : ¬ (-35184372088832 ≤ a) := of_decide_eq_false h3
   refine wl_skip rfl ?_
   simp only [Act.put, Xa, Xz, Xs]
   refine wl_skip rfl ?_
   simp only [Act.put, Xa, Xz, Xs]
   refine wl_skip rfl ?_
   simp only [Act.put, Xa, Xz, Xs]
   refine wl_val (.bool false) rfl (fun _ => rfl) ?_
   simp only [Act.put, Xa, Xz, Xs]
   refine wl_val (.bool false) rfl (fun _ => rfl) ?_
   simp only [Act.put, Xa, Xz, Xs]
   refine wl_nil ?_
   refine we_then ?_
   refine wc_ret ?_
   refine we_ret1 (.bool false) rfl rfl rfl (fun w1 hE => ?_)
   rw [show decide (Small a b) = false from by first | exact small_no1 (by omega) | exact small_no2 (by omega)]
   exact ⟨rfl, hE.below⟩
  ·
   skip
   have p3 : -35184372088832 ≤ a := of_decide_eq_true h3
   refine wl_val (.pointer (some ⟨g1, 1, none⟩)) rfl (fun _ => by go_simp) ?_
   simp only [Act.put, Xa, Xz, Xs]
   refine wl_cell 2 (.tmp 14) (.int .i64 b) (own_row 0 rfl) rfl rfl rfl rfl Try.isAgg2 ?_
   simp only [Act.put, Xa, Xz, Xs]
   refine wl_val (.bool (decide (b ≤ 35184372088832))) rfl (fun w => run_cmp rfl rfl rfl Try.underlying2 rfl w) ?_
   simp only [Act.put, Xa, Xz, Xs]
   refine wl_val (.bool (decide (b ≤ 35184372088832))) rfl (fun _ => rfl) ?_
   simp only [Act.put, Xa, Xz, Xs]
   refine wl_val (.bool (decide (b ≤ 35184372088832))) rfl (fun _ => rfl) ?_
   simp only [Act.put, Xa, Xz, Xs]
   refine wl_nil ?_
   refine we_then ?_
   refine wc_ret ?_
   refine we_ret1 (.bool (decide (b ≤ 35184372088832))) rfl rfl rfl (fun w1 hE => ?_)
   rw [small_hi (by omega) (by omega)]
   exact ⟨rfl, hE.below⟩
set_option maxHeartbeats 2000000 in
theorem usual_any  (w : World) :
  Calls Try.prog 18 #[] w fun e w' => e = .returned (.agg #[.int .i64 1024, .int .i64 131072, .int .i64 131072, .int .i64 0, .int .i64 0, .int .i64 0, .int .i64 1000, .int .i64 100, .int .i64 5, .int .i64 1, .int .i64 128, .int .i64 10, .int .i64 5, .int .i64 1]) ∧ Below w.heap.size w w' := by
 refine calls_sx Try.func18 rfl ?_
 simp only [Try.ntmps18, List.size_toArray, List.length_nil, Nat.reduceSub, Array.replicate_succ, Array.replicate_zero, List.push_toArray, List.append_toArray, List.nil_append, List.cons_append]
 refine wc_seq ?_
 refine wc_region ?_
 refine wl_new 31 (#[.int .i64 0, .int .i64 0, .int .i64 0, .int .i64 0, .int .i64 0, .int .i64 0, .int .i64 0, .int .i64 0, .int .i64 0, .int .i64 0, .int .i64 0, .int .i64 0, .int .i64 0, .int .i64 0]) rfl (fun _ => by go_simp) ?_
 intro g1
 simp only [Act.put, Xa, Xz]
 refine wl_nil ?_
 refine we_then ?_
 refine wc_seq ?_
 refine wc_region ?_
 refine wl_val (.agg #[.int .i64 1024, .int .i64 131072, .int .i64 131072, .int .i64 0, .int .i64 0, .int .i64 0, .int .i64 1000, .int .i64 100, .int .i64 5, .int .i64 1, .int .i64 128, .int .i64 10, .int .i64 5, .int .i64 1]) rfl (fun _ => by go_simp) ?_
 simp only [Act.put, Xa, Xz, Xs]
 refine wl_store 0 31 (.tmp 0) (.tmp 1) (#[.int .i64 1024, .int .i64 131072, .int .i64 131072, .int .i64 0, .int .i64 0, .int .i64 0, .int .i64 1000, .int .i64 100, .int .i64 5, .int .i64 1, .int .i64 128, .int .i64 10, .int .i64 5, .int .i64 1]) rfl rfl rfl rfl rfl (by kernel_rfl) rfl (by simp [Value.oneCell']) ?_
 simp only [Act.put, List.set_cons_zero]
 refine wl_nil ?_
 refine we_then ?_
 refine wc_ret ?_
 refine we_ret_cell (own_row 0 rfl) rfl rfl rfl Try.underlying31 rfl (by kernel_rfl) (fun w1 hE => ?_)
 exact ⟨rfl, hE.below⟩
theorem usual_ok : wrong (⟨1024, 131072, 131072, 0, 0, 0, 1000, 100, 5, 1, 128, 10, 5, 1⟩ : Cf) = 0 := by decide
def exG (a : Option Addr) : List Sg := [⟨900, a, [(0, 0)], 1, none, [], 0⟩]
def exH : List Gp := [⟨1, 0, 125, 0, 0⟩, ⟨2, 0, 126, 0, 0⟩]
theorem may_ex (a : Option Addr) : TrackMay (exG a) exH := by
 have mp : May [(0, 0)] 900 := ⟨by simp, by simp, by simp, fun i hi => by
  obtain rfl : i = 0 := by simpa using hi
  exact ⟨by simp, by simp, by simp, fun h => by omega⟩⟩
 refine ⟨⟨by simp [exG], by simp [exG], by simp [exH]⟩, fun j hj => ?_, fun j hj => ?_⟩
 ·
  obtain rfl : j = 0 := by simpa [exG] using hj
  exact ⟨by simp [exG], by simp [exG], mp, by simp [exG], fun j hj => by simp [exG] at hj, fun h => by simp [exG] at h⟩
 ·
  rcases (show j = 0 ∨ j = 1 by simp [exH] at hj; omega) with rfl | rfl
  ·
   exact ⟨by simp [exH, lastId], by simp [exH], by simp [exH], by simp [exH, exG], by simp [exH], by simp [exH, exG], by simp [exH], by simp [exH], by simp [exH], by simp [exH]⟩
  ·
   exact ⟨by simp [exH, lastId], by simp [exH], by simp [exH], by simp [exH, exG], by simp [exH], by simp [exH, exG], by simp [exH], by simp [exH], by simp [exH], by simp [exH]⟩
theorem oks_ex {W : World} {a : Option Addr} (h : Reads W a [.int .i64 0, .int .i64 0]) : OkS W (exG a) := by
 intro s hs
 obtain rfl : s = ⟨900, a, [(0, 0)], 1, none, [], 0⟩ := by simpa [exG] using hs
 exact ⟨h, reads_nil _ _, by simp, by simp⟩
theorem fit_ex0 (a : Option Addr) : fitG (⟨1024, 131072, 131072, 0, 0, 0, 1000, 100, 5, 1, 128, 10, 5, 1⟩ : Cf) (exG a) exH 0 100 120 0 [[0]] = [125] := rfl
theorem fit_ex1 (a : Option Addr) : fitG (⟨1024, 131072, 131072, 0, 0, 0, 1000, 100, 5, 1, 128, 10, 5, 1⟩ : Cf) (exG a) exH 0 100 120 1 [[0]] = [] := rfl
theorem fitting_ex (gi : Int) (P : List Int) (n : Nat) (p q a ps : Option Addr) (cs : Nat) (w : World) (hP : fitG (⟨1024, 131072, 131072, 0, 0, 0, 1000, 100, 5, 1, 128, 10, 5, 1⟩ : Cf) (exG a) exH 0 100 120 gi [[0]] = P) (hn : P.length = n) (hg : 0 ≤ gi ∧ gi ≤ 1) (hS : Reads w p [.int .i64 900, .slice a 1 1, .slice none 0 0]) (hA : Reads w a [.int .i64 0, .int .i64 0]) (hH : Reads w q [.int .i64 1, .int .i64 0, .int .i64 125, .int .i64 0, .int .i64 0, .int .i64 2, .int .i64 0, .int .i64 126, .int .i64 0, .int .i64 0]) (hR : Reads w ps (flat rt [[0]])) :
  Calls Try.prog 13 #[.agg #[.int .i64 1024, .int .i64 131072, .int .i64 131072, .int .i64 0, .int .i64 0, .int .i64 0, .int .i64 1000, .int .i64 100, .int .i64 5, .int .i64 1, .int .i64 128, .int .i64 10, .int .i64 5, .int .i64 1], .agg #[.slice p 1 1, .slice q 2 2], .agg #[.int .i64 0, .slice ps 1 cs], .agg #[.int .i64 100, .int .i64 120], .int .i64 gi] w fun e w' => ∃ z : Pz, Held z.N z.p (flat enc1 P) ∧ e = .returned (.slice z.p n z.c) ∧ Env w w' z.N := by
 refine (Lnk.fitting_any (⟨1024, 131072, 131072, 0, 0, 0, 1000, 100, 5, 1, 128, 10, 5, 1⟩ : Cf) 100 120 gi (exG a) exH p q 1 2 0 0 [[0]] ps cs w (ok_of usual_ok) hS (oks_ex hA) hH (may_ex a) (begin_ok (by simp [exG]) (by simp [exG])) hR ⟨by omega, by omega, by omega⟩ ⟨by omega, by omega⟩).mono ?_
 rintro e w' ⟨z, ⟨hz, hh⟩, rfl, hE⟩
 rw [hz, hP] at hh
 rw [hz, hP, hn]
 exact ⟨⟨z.p, z.c, z.N⟩, hh, rfl, hE⟩
set_option maxHeartbeats 4000000 in
theorem anchor_any  (w : World) :
  Calls Try.prog 5 #[] w fun e w' => e = .returned (.bool true) ∧ Below w.heap.size w w' := by
 have x0 : ([125] : List Int).length = 1 := rfl
 have x1 : ([125] : List Int)[0]! = 125 := rfl
 refine calls_sx Try.func5 rfl ?_
 simp only [Try.ntmps5, List.size_toArray, List.length_nil, Nat.reduceSub, Array.replicate_succ, Array.replicate_zero, List.push_toArray, List.append_toArray, List.nil_append, List.cons_append]
 refine wc_seq ?_
 refine wc_region ?_
 refine wl_val (.bool false) rfl (fun _ => rfl) ?_
 simp only [Act.put, Xa, Xz]
 refine wl_nil ?_
 refine we_then ?_
 refine wc_seq ?_
 refine wc_region ?_
 refine wl_val (.agg #[.int .i64 0, .int .i64 0]) rfl (fun _ => by go_simp) ?_
 simp only [Act.put, Xa, Xz, Xs]
 refine wl_lit (e := 65) #[.int .i64 0, .int .i64 0] 1 rfl (fun _ => by go_simp) ?_
 intro g1
 simp only [Act.put, Xa, Xz, Xs]
 refine wl_val (.agg #[.int .i64 900, .slice (some ⟨g1, 0, none⟩) 1 1, .slice none 0 0]) rfl (fun _ => by go_simp) ?_
 simp only [Act.put, Xa, Xz, Xs]
 refine wl_lit (e := 68) #[.int .i64 900, .slice (some ⟨g1, 0, none⟩) 1 1, .slice none 0 0] 1 rfl (fun _ => by go_simp) ?_
 intro g2
 simp only [Act.put, Xa, Xz, Xs]
 refine wl_val (.agg #[.int .i64 1, .int .i64 0, .int .i64 125, .int .i64 0, .int .i64 0]) rfl (fun _ => by go_simp) ?_
 simp only [Act.put, Xa, Xz, Xs]
 refine wl_val (.agg #[.int .i64 2, .int .i64 0, .int .i64 126, .int .i64 0, .int .i64 0]) rfl (fun _ => by go_simp) ?_
 simp only [Act.put, Xa, Xz, Xs]
 refine wl_lit (e := 60) #[.int .i64 1, .int .i64 0, .int .i64 125, .int .i64 0, .int .i64 0, .int .i64 2, .int .i64 0, .int .i64 126, .int .i64 0, .int .i64 0] 2 rfl (fun _ => by go_simp) ?_
 intro g3
 simp only [Act.put, Xa, Xz, Xs]
 refine wl_val (.agg #[.slice (some ⟨g2, 0, none⟩) 1 1, .slice (some ⟨g3, 0, none⟩) 2 2]) rfl (fun _ => by go_simp) ?_
 simp only [Act.put, Xa, Xz, Xs]
 refine wl_new 35 (#[.slice none 0 0, .slice none 0 0]) rfl (fun _ => by go_simp) ?_
 intro g4
 simp only [Act.put, Xa, Xz, Xs]
 refine wl_store 0 35 (.tmp 1) (.tmp 12) (#[.slice (some ⟨g2, 0, none⟩) 1 1, .slice (some ⟨g3, 0, none⟩) 2 2]) rfl rfl rfl rfl rfl (by kernel_rfl) rfl (by simp [Value.oneCell']) ?_
 simp only [Act.put, List.set_cons_zero]
 refine wl_nil ?_
 refine we_then ?_
 refine wc_seq ?_
 refine wc_region ?_
 refine wl_call_open (ι := Pz) (fun zz => match zz with | zk5 => ⟨g4, #[.slice (some ⟨g2, 0, none⟩) 1 1, .slice (some ⟨g3, 0, none⟩) 2 2], 35⟩ :: ⟨g3, #[.int .i64 1, .int .i64 0, .int .i64 125, .int .i64 0, .int .i64 0, .int .i64 2, .int .i64 0, .int .i64 126, .int .i64 0, .int .i64 0], 60⟩ :: ⟨g2, #[.int .i64 900, .slice (some ⟨g1, 0, none⟩) 1 1, .slice none 0 0], 68⟩ :: ⟨g1, #[.int .i64 0, .int .i64 0], 65⟩ :: zk5.N) 11 #[.int .i64 0, .int .i64 0] (fun zz => match zz with | zk5 => .agg #[.int .i64 0, .slice zk5.p 1 zk5.c]) (fun zz => match zz with | zk5 => zk5.N) (fun zz => match zz with | zk5 => Held zk5.N zk5.p (flat rt [[0]])) (by rintro zk5; simp) rfl (fun _ => by go_simp) (fun W hE => Rou.begin_any 0 0 W) ?_
 rintro zk5 k5
 (try dsimp only)
 simp only [Act.put, Xa, Xz, Xs]
 refine wl_new 41 (#[.int .i64 0, .slice none 0 0]) rfl (fun _ => by go_simp) ?_
 intro g6
 simp only [Act.put, Xa, Xz, Xs]
 refine wl_store 0 41 (.tmp 2) (.tmp 13) (#[.int .i64 0, .slice zk5.p 1 zk5.c]) rfl rfl rfl rfl rfl (by kernel_rfl) rfl (by simp [Value.oneCell']) ?_
 simp only [Act.put, List.set_cons_zero]
 refine wl_nil ?_
 refine we_then ?_
 refine wc_seq ?_
 refine wc_region ?_
 refine wl_val (.agg #[.int .i64 100, .int .i64 120]) rfl (fun _ => by go_simp) ?_
 simp only [Act.put, Xa, Xz, Xs]
 refine wl_new 23 (#[.int .i64 0, .int .i64 0]) rfl (fun _ => by go_simp) ?_
 intro g7
 simp only [Act.put, Xa, Xz, Xs]
 refine wl_store 0 23 (.tmp 3) (.tmp 14) (#[.int .i64 100, .int .i64 120]) rfl rfl rfl rfl rfl (by kernel_rfl) rfl (by simp [Value.oneCell']) ?_
 simp only [Act.put, List.set_cons_zero]
 refine wl_nil ?_
 refine we_then ?_
 refine wc_seq ?_
 refine wc_draw_ghost (Γ := Pz) 4 13 #[.agg #[.int .i64 1024, .int .i64 131072, .int .i64 131072, .int .i64 0, .int .i64 0, .int .i64 0, .int .i64 1000, .int .i64 100, .int .i64 5, .int .i64 1, .int .i64 128, .int .i64 10, .int .i64 5, .int .i64 1], .agg #[.slice (some ⟨g2, 0, none⟩) 1 1, .slice (some ⟨g3, 0, none⟩) 2 2], .agg #[.int .i64 0, .slice zk5.p 1 zk5.c], .agg #[.int .i64 100, .int .i64 120], .int .i64 0] (fun j9 => [false, false, false, false, true, true].getD j9 false) (fun j9 => [.agg #[.int .i64 1024, .int .i64 131072, .int .i64 131072, .int .i64 0, .int .i64 0, .int .i64 0, .int .i64 1000, .int .i64 100, .int .i64 5, .int .i64 1, .int .i64 128, .int .i64 10, .int .i64 5, .int .i64 1], .agg #[.slice (some ⟨g2, 0, none⟩) 1 1, .slice (some ⟨g3, 0, none⟩) 2 2], .agg #[.int .i64 0, .slice zk5.p 1 zk5.c], .agg #[.int .i64 100, .int .i64 120], undef, undef].getD j9 undef) (fun zz => match zz with | zk8 => fun j9 => [undef, undef, undef, undef, .slice zk8.p 1 zk8.c, .slice zk8.p 1 zk8.c].getD j9 undef) (fun zz => match zz with | zk8 => zk8.N) (fun zz => match zz with | zk8 => ⟨g7, #[.int .i64 100, .int .i64 120], 23⟩ :: ⟨g6, #[.int .i64 0, .slice zk5.p 1 zk5.c], 41⟩ :: ⟨g4, #[.slice (some ⟨g2, 0, none⟩) 1 1, .slice (some ⟨g3, 0, none⟩) 2 2], 35⟩ :: ⟨g3, #[.int .i64 1, .int .i64 0, .int .i64 125, .int .i64 0, .int .i64 0, .int .i64 2, .int .i64 0, .int .i64 126, .int .i64 0, .int .i64 0], 60⟩ :: ⟨g2, #[.int .i64 900, .slice (some ⟨g1, 0, none⟩) 1 1, .slice none 0 0], 68⟩ :: ⟨g1, #[.int .i64 0, .int .i64 0], 65⟩ :: (zk5.N ++ zk8.N)) (fun zz => match zz with | zk8 => Held zk8.N zk8.p (flat enc1 [125])) 38 (by kernel_rfl) rfl (by kernel_rfl) (by kernel_rfl) rfl (by decide) (by rintro zk8; simp) (fun W hE => fitting_ex 0 [125] 1 _ _ _ _ _ W (fit_ex0 _) rfl (by decide) ((sl_row 4 rfl) W hE) ((sl_row 5 rfl) W hE) ((sl_row 3 rfl) W hE) ((sl_held k5 (List.Sublist.cons _ (List.Sublist.cons _ (List.Sublist.cons _ (List.Sublist.cons _ (List.Sublist.cons _ (List.Sublist.cons _ (List.Sublist.refl _)))))))) W hE)) ?_ ?_
 ·
  intro z
  refine wg_call 18 #[] (.agg #[.int .i64 1024, .int .i64 131072, .int .i64 131072, .int .i64 0, .int .i64 0, .int .i64 0, .int .i64 1000, .int .i64 100, .int .i64 5, .int .i64 1, .int .i64 128, .int .i64 10, .int .i64 5, .int .i64 1]) rfl rfl rfl (fun _ => by go_simp) (fun W => usual_any W) ?_
  simp only [Nat.reduceAdd, Act.put, Xa, Xz, Xs]
  refine wg_load 35 (.tmp 1) (own_row 2 rfl) rfl rfl rfl rfl rfl Try.underlying35 rfl (by kernel_rfl) ?_
  simp only [Nat.reduceAdd, Act.put, Xa, Xz, Xs]
  refine wg_load 41 (.tmp 2) (own_row 1 rfl) rfl rfl rfl rfl rfl Try.underlying41 rfl (by kernel_rfl) ?_
  simp only [Nat.reduceAdd, Act.put, Xa, Xz, Xs]
  refine wg_load 23 (.tmp 3) (own_row 0 rfl) rfl rfl rfl rfl rfl Try.underlying23 rfl (by kernel_rfl) ?_
  simp only [Nat.reduceAdd, Act.put, Xa, Xz, Xs]
  refine wg_own (z 4) rfl rfl rfl (fun _ => by go_simp) ?_
  simp only [Nat.reduceAdd, Act.put, Xa, Xz, Xs]
  refine wg_pass (z 5) rfl rfl rfl ?_
  simp only [Nat.reduceAdd, Act.put, Xa, Xz, Xs]
  exact wg_nil trivial
 ·
  rintro zk8 k8
  (try dsimp only)
  refine wg_pass (.agg #[.int .i64 1024, .int .i64 131072, .int .i64 131072, .int .i64 0, .int .i64 0, .int .i64 0, .int .i64 1000, .int .i64 100, .int .i64 5, .int .i64 1, .int .i64 128, .int .i64 10, .int .i64 5, .int .i64 1]) rfl rfl rfl ?_
  simp only [Nat.reduceAdd, Act.put, Xa, Xz, Xs]
  refine wg_pass (.agg #[.slice (some ⟨g2, 0, none⟩) 1 1, .slice (some ⟨g3, 0, none⟩) 2 2]) rfl rfl rfl ?_
  simp only [Nat.reduceAdd, Act.put, Xa, Xz, Xs]
  refine wg_pass (.agg #[.int .i64 0, .slice zk5.p 1 zk5.c]) rfl rfl rfl ?_
  simp only [Nat.reduceAdd, Act.put, Xa, Xz, Xs]
  refine wg_pass (.agg #[.int .i64 100, .int .i64 120]) rfl rfl rfl ?_
  simp only [Nat.reduceAdd, Act.put, Xa, Xz, Xs]
  refine wg_own (.slice zk8.p 1 zk8.c) rfl rfl rfl (fun _ => by go_simp) ?_
  simp only [Nat.reduceAdd, Act.put, Xa, Xz, Xs]
  refine wg_val (.slice zk8.p 1 zk8.c) rfl rfl rfl (fun _ => rfl) ?_
  simp only [Nat.reduceAdd, Act.put, Xa, Xz, Xs]
  refine wg_nil ?_
  refine we_then ?_
  refine wc_seq ?_
  cases h9 : ((([125])[0]!) == 125)
  ·
   skip
   have p9 : ¬ ((([125])[0]!) = 125) := by first | (simp; done) | (simp at h9; done) | simpa using h9
   refine wc_draw [.late, .late, .late, .late, .late, .plain, .plain, .late, .late, .late, .plain, .plain, .plain, .plain, .plain, .late, .late, .late, .late] none [] 38 (by kernel_rfl) rfl (by kernel_rfl) (by kernel_rfl) ?_
   refine ws_late (.slice zk8.p 1 zk8.c) rfl rfl (fun _ => rfl) ?_
   simp only [Nat.reduceAdd, Act.put, Xa, Xz, Xs]
   refine ws_late (.int .i64 1) rfl rfl (fun w => er_len rfl rfl Try.underlying46 w) ?_
   simp only [Nat.reduceAdd, Act.put, Xa, Xz, Xs]
   refine ws_late (.bool true) rfl rfl (fun w => run_cmp rfl rfl rfl Try.underlying3 rfl w) ?_
   simp only [Nat.reduceAdd, Act.put, Xa, Xz, Xs]
   refine ws_late (.bool true) rfl rfl (fun _ => rfl) ?_
   simp only [Nat.reduceAdd, Act.put, Xa, Xz, Xs]
   refine ws_late (.slice zk8.p 1 zk8.c) rfl rfl (fun _ => rfl) ?_
   simp only [Nat.reduceAdd, Act.put, Xa, Xz, Xs]
   refine ws_read (eaddr zk8.p (0 * 1)) rfl rfl (er_index 0 1 (sl_held k8 (List.Sublist.cons _ (List.Sublist.cons _ (List.Sublist.cons _ (List.Sublist.cons _ (List.Sublist.cons _ (List.Sublist.cons _ (List.sublist_append_of_sublist_right (List.Sublist.refl _))))))))) rfl rfl rfl rfl (by omega) (flat_length (enc := enc1) (size := 1) (fun _ => rfl) _) (by decide) Try.underlying46 (by kernel_rfl)) ?_
   simp only [Nat.reduceAdd, Act.put, Xa, Xz, Xs]
   refine ws_read (.int .i64 (([125])[0]!)) rfl rfl (er_cell (0 * 1) (.int .i64 (([125])[0]!)) (sl_held k8 (List.Sublist.cons _ (List.Sublist.cons _ (List.Sublist.cons _ (List.Sublist.cons _ (List.Sublist.cons _ (List.Sublist.cons _ (List.sublist_append_of_sublist_right (List.Sublist.refl _))))))))) rfl rfl (flat_cell (enc := enc1) (fun _ => rfl) ([125]) 0 0 (by omega) (by decide)) Try.isAgg2) ?_
   simp only [Nat.reduceAdd, Act.put, Xa, Xz, Xs]
   refine ws_late (.bool false) rfl rfl (fun w => run_cmp (b := false) rfl rfl rfl Try.underlying2 (by exact congrArg some h9) w) ?_
   simp only [Nat.reduceAdd, Act.put, Xa, Xz, Xs]
   refine ws_late (.bool false) rfl rfl (fun _ => rfl) ?_
   simp only [Nat.reduceAdd, Act.put, Xa, Xz, Xs]
   refine ws_late (.bool false) rfl rfl (fun _ => rfl) ?_
   simp only [Nat.reduceAdd, Act.put, Xa, Xz, Xs]
   refine ws_skip rfl rfl ?_
   simp only [Nat.reduceAdd, Act.put, Xa, Xz, Xs]
   refine ws_skip rfl rfl ?_
   simp only [Nat.reduceAdd, Act.put, Xa, Xz, Xs]
   refine ws_skip rfl rfl ?_
   simp only [Nat.reduceAdd, Act.put, Xa, Xz, Xs]
   refine ws_skip rfl rfl ?_
   simp only [Nat.reduceAdd, Act.put, Xa, Xz, Xs]
   refine ws_skip rfl rfl ?_
   simp only [Nat.reduceAdd, Act.put, Xa, Xz, Xs]
   refine ws_skip_late rfl rfl ?_
   simp only [Nat.reduceAdd, Act.put, Xa, Xz, Xs]
   refine ws_skip_late rfl rfl ?_
   simp only [Nat.reduceAdd, Act.put, Xa, Xz, Xs]
   refine ws_late (.bool false) rfl rfl (fun _ => rfl) ?_
   simp only [Nat.reduceAdd, Act.put, Xa, Xz, Xs]
   refine ws_late (.bool false) rfl rfl (fun _ => rfl) ?_
   simp only [Nat.reduceAdd, Act.put, Xa, Xz]
   refine ws_nil [] trivial (by simp) ?_
   intro ps10
   simp only [fin, List.foldl_nil, List.map, List.nil_append]
   refine we_then ?_
   refine wc_ret ?_
   refine we_ret1 (.bool false) rfl rfl rfl (fun w1 hE => ?_)
   exact (by exfalso; simp at *)
  ·
   skip
   have p9 : (([125])[0]!) = 125 := by first | (simp; done) | (simp at h9; done) | simpa using h9
   refine wc_draw_ghost (Γ := Pz) 14 13 #[.agg #[.int .i64 1024, .int .i64 131072, .int .i64 131072, .int .i64 0, .int .i64 0, .int .i64 0, .int .i64 1000, .int .i64 100, .int .i64 5, .int .i64 1, .int .i64 128, .int .i64 10, .int .i64 5, .int .i64 1], .agg #[.slice (some ⟨g2, 0, none⟩) 1 1, .slice (some ⟨g3, 0, none⟩) 2 2], .agg #[.int .i64 0, .slice zk5.p 1 zk5.c], .agg #[.int .i64 100, .int .i64 120], .int .i64 1] (fun j9 => [false, false, false, false, false, false, false, false, false, false, false, false, false, false, true, true, true, true, true].getD j9 false) (fun j9 => [.slice zk8.p 1 zk8.c, .int .i64 1, .bool true, .bool true, .slice zk8.p 1 zk8.c, eaddr zk8.p (0 * 1), .int .i64 (([125])[0]!), .bool true, .bool true, .bool true, .agg #[.int .i64 1024, .int .i64 131072, .int .i64 131072, .int .i64 0, .int .i64 0, .int .i64 0, .int .i64 1000, .int .i64 100, .int .i64 5, .int .i64 1, .int .i64 128, .int .i64 10, .int .i64 5, .int .i64 1], .agg #[.slice (some ⟨g2, 0, none⟩) 1 1, .slice (some ⟨g3, 0, none⟩) 2 2], .agg #[.int .i64 0, .slice zk5.p 1 zk5.c], .agg #[.int .i64 100, .int .i64 120], undef, undef, undef, undef, undef].getD j9 undef) (fun zz => match zz with | zk11 => fun j9 => [undef, undef, undef, undef, undef, undef, undef, undef, undef, undef, undef, undef, undef, undef, .slice zk11.p 0 zk11.c, .int .i64 0, .bool true, .bool true, .bool true].getD j9 undef) (fun zz => match zz with | zk11 => zk11.N) (fun zz => match zz with | zk11 => ⟨g7, #[.int .i64 100, .int .i64 120], 23⟩ :: ⟨g6, #[.int .i64 0, .slice zk5.p 1 zk5.c], 41⟩ :: ⟨g4, #[.slice (some ⟨g2, 0, none⟩) 1 1, .slice (some ⟨g3, 0, none⟩) 2 2], 35⟩ :: ⟨g3, #[.int .i64 1, .int .i64 0, .int .i64 125, .int .i64 0, .int .i64 0, .int .i64 2, .int .i64 0, .int .i64 126, .int .i64 0, .int .i64 0], 60⟩ :: ⟨g2, #[.int .i64 900, .slice (some ⟨g1, 0, none⟩) 1 1, .slice none 0 0], 68⟩ :: ⟨g1, #[.int .i64 0, .int .i64 0], 65⟩ :: (zk5.N ++ (zk8.N ++ zk11.N))) (fun zz => match zz with | zk11 => Held zk11.N zk11.p (flat enc1 [])) 38 (by kernel_rfl) rfl (by kernel_rfl) (by kernel_rfl) rfl (by decide) (by rintro zk11; simp) (fun W hE => fitting_ex 1 ([] : List Int) 0 _ _ _ _ _ W (fit_ex1 _) rfl (by decide) ((sl_row 4 rfl) W hE) ((sl_row 5 rfl) W hE) ((sl_row 3 rfl) W hE) ((sl_held k5 (List.Sublist.cons _ (List.Sublist.cons _ (List.Sublist.cons _ (List.Sublist.cons _ (List.Sublist.cons _ (List.Sublist.cons _ (List.sublist_append_left _ _)))))))) W hE)) ?_ ?_
   ·
    intro z
    refine wg_val (.slice zk8.p 1 zk8.c) rfl rfl rfl (fun _ => rfl) ?_
    simp only [Nat.reduceAdd, Act.put, Xa, Xz, Xs]
    refine wg_val (.int .i64 1) rfl rfl rfl (fun w => er_len rfl rfl Try.underlying46 w) ?_
    simp only [Nat.reduceAdd, Act.put, Xa, Xz, Xs]
    refine wg_val (.bool true) rfl rfl rfl (fun w => run_cmp rfl rfl rfl Try.underlying3 rfl w) ?_
    simp only [Nat.reduceAdd, Act.put, Xa, Xz, Xs]
    refine wg_val (.bool true) rfl rfl rfl (fun _ => rfl) ?_
    simp only [Nat.reduceAdd, Act.put, Xa, Xz, Xs]
    refine wg_val (.slice zk8.p 1 zk8.c) rfl rfl rfl (fun _ => rfl) ?_
    simp only [Nat.reduceAdd, Act.put, Xa, Xz, Xs]
    refine wg_read (eaddr zk8.p (0 * 1)) rfl rfl rfl (er_index 0 1 (sl_held k8 (List.Sublist.cons _ (List.Sublist.cons _ (List.Sublist.cons _ (List.Sublist.cons _ (List.Sublist.cons _ (List.Sublist.cons _ (List.sublist_append_of_sublist_right (List.Sublist.refl _))))))))) rfl rfl rfl rfl (by omega) (flat_length (enc := enc1) (size := 1) (fun _ => rfl) _) (by decide) Try.underlying46 (by kernel_rfl)) ?_
    simp only [Nat.reduceAdd, Act.put, Xa, Xz, Xs]
    refine wg_read (.int .i64 (([125])[0]!)) rfl rfl rfl (er_cell (0 * 1) (.int .i64 (([125])[0]!)) (sl_held k8 (List.Sublist.cons _ (List.Sublist.cons _ (List.Sublist.cons _ (List.Sublist.cons _ (List.Sublist.cons _ (List.Sublist.cons _ (List.sublist_append_of_sublist_right (List.Sublist.refl _))))))))) rfl rfl (flat_cell (enc := enc1) (fun _ => rfl) ([125]) 0 0 (by omega) (by decide)) Try.isAgg2) ?_
    simp only [Nat.reduceAdd, Act.put, Xa, Xz, Xs]
    refine wg_val (.bool true) rfl rfl rfl (fun w => run_cmp (b := true) rfl rfl rfl Try.underlying2 (by exact congrArg some h9) w) ?_
    simp only [Nat.reduceAdd, Act.put, Xa, Xz, Xs]
    refine wg_val (.bool true) rfl rfl rfl (fun _ => rfl) ?_
    simp only [Nat.reduceAdd, Act.put, Xa, Xz, Xs]
    refine wg_val (.bool true) rfl rfl rfl (fun _ => rfl) ?_
    simp only [Nat.reduceAdd, Act.put, Xa, Xz, Xs]
    refine wg_call 18 #[] (.agg #[.int .i64 1024, .int .i64 131072, .int .i64 131072, .int .i64 0, .int .i64 0, .int .i64 0, .int .i64 1000, .int .i64 100, .int .i64 5, .int .i64 1, .int .i64 128, .int .i64 10, .int .i64 5, .int .i64 1]) rfl rfl rfl (fun _ => by go_simp) (fun W => usual_any W) ?_
    simp only [Nat.reduceAdd, Act.put, Xa, Xz, Xs]
    refine wg_load 35 (.tmp 1) (own_row 2 rfl) rfl rfl rfl rfl rfl Try.underlying35 rfl (by kernel_rfl) ?_
    simp only [Nat.reduceAdd, Act.put, Xa, Xz, Xs]
    refine wg_load 41 (.tmp 2) (own_row 1 rfl) rfl rfl rfl rfl rfl Try.underlying41 rfl (by kernel_rfl) ?_
    simp only [Nat.reduceAdd, Act.put, Xa, Xz, Xs]
    refine wg_load 23 (.tmp 3) (own_row 0 rfl) rfl rfl rfl rfl rfl Try.underlying23 rfl (by kernel_rfl) ?_
    simp only [Nat.reduceAdd, Act.put, Xa, Xz, Xs]
    refine wg_own (z 14) rfl rfl rfl (fun _ => by go_simp) ?_
    simp only [Nat.reduceAdd, Act.put, Xa, Xz, Xs]
    refine wg_pass (z 15) rfl rfl rfl ?_
    simp only [Nat.reduceAdd, Act.put, Xa, Xz, Xs]
    refine wg_pass (z 16) rfl rfl rfl ?_
    simp only [Nat.reduceAdd, Act.put, Xa, Xz, Xs]
    refine wg_pass (z 17) rfl rfl rfl ?_
    simp only [Nat.reduceAdd, Act.put, Xa, Xz, Xs]
    refine wg_pass (z 18) rfl rfl rfl ?_
    simp only [Nat.reduceAdd, Act.put, Xa, Xz]
    exact wg_nil trivial
   ·
    rintro zk11 k11
    (try dsimp only)
    refine wg_pass (.slice zk8.p 1 zk8.c) rfl rfl rfl ?_
    simp only [Nat.reduceAdd, Act.put, Xa, Xz, Xs]
    refine wg_pass (.int .i64 1) rfl rfl rfl ?_
    simp only [Nat.reduceAdd, Act.put, Xa, Xz, Xs]
    refine wg_pass (.bool true) rfl rfl rfl ?_
    simp only [Nat.reduceAdd, Act.put, Xa, Xz, Xs]
    refine wg_pass (.bool true) rfl rfl rfl ?_
    simp only [Nat.reduceAdd, Act.put, Xa, Xz, Xs]
    refine wg_pass (.slice zk8.p 1 zk8.c) rfl rfl rfl ?_
    simp only [Nat.reduceAdd, Act.put, Xa, Xz, Xs]
    refine wg_pass (eaddr zk8.p (0 * 1)) rfl rfl rfl ?_
    simp only [Nat.reduceAdd, Act.put, Xa, Xz, Xs]
    refine wg_pass (.int .i64 (([125])[0]!)) rfl rfl rfl ?_
    simp only [Nat.reduceAdd, Act.put, Xa, Xz, Xs]
    refine wg_pass (.bool true) rfl rfl rfl ?_
    simp only [Nat.reduceAdd, Act.put, Xa, Xz, Xs]
    refine wg_pass (.bool true) rfl rfl rfl ?_
    simp only [Nat.reduceAdd, Act.put, Xa, Xz, Xs]
    refine wg_pass (.bool true) rfl rfl rfl ?_
    simp only [Nat.reduceAdd, Act.put, Xa, Xz, Xs]
    refine wg_pass (.agg #[.int .i64 1024, .int .i64 131072, .int .i64 131072, .int .i64 0, .int .i64 0, .int .i64 0, .int .i64 1000, .int .i64 100, .int .i64 5, .int .i64 1, .int .i64 128, .int .i64 10, .int .i64 5, .int .i64 1]) rfl rfl rfl ?_
    simp only [Nat.reduceAdd, Act.put, Xa, Xz, Xs]
    refine wg_pass (.agg #[.slice (some ⟨g2, 0, none⟩) 1 1, .slice (some ⟨g3, 0, none⟩) 2 2]) rfl rfl rfl ?_
    simp only [Nat.reduceAdd, Act.put, Xa, Xz, Xs]
    refine wg_pass (.agg #[.int .i64 0, .slice zk5.p 1 zk5.c]) rfl rfl rfl ?_
    simp only [Nat.reduceAdd, Act.put, Xa, Xz, Xs]
    refine wg_pass (.agg #[.int .i64 100, .int .i64 120]) rfl rfl rfl ?_
    simp only [Nat.reduceAdd, Act.put, Xa, Xz, Xs]
    refine wg_own (.slice zk11.p 0 zk11.c) rfl rfl rfl (fun _ => by go_simp) ?_
    simp only [Nat.reduceAdd, Act.put, Xa, Xz, Xs]
    refine wg_val (.int .i64 0) rfl rfl rfl (fun w => er_len rfl rfl Try.underlying46 w) ?_
    simp only [Nat.reduceAdd, Act.put, Xa, Xz, Xs]
    refine wg_val (.bool true) rfl rfl rfl (fun w => run_cmp rfl rfl rfl Try.underlying3 rfl w) ?_
    simp only [Nat.reduceAdd, Act.put, Xa, Xz, Xs]
    refine wg_val (.bool true) rfl rfl rfl (fun _ => rfl) ?_
    simp only [Nat.reduceAdd, Act.put, Xa, Xz, Xs]
    refine wg_val (.bool true) rfl rfl rfl (fun _ => rfl) ?_
    simp only [Nat.reduceAdd, Act.put, Xa, Xz]
    refine wg_nil ?_
    refine we_then ?_
    refine wc_ret ?_
    refine we_ret1 (.bool true) rfl rfl rfl (fun w1 hE => ?_)
    exact ⟨rfl, hE.below⟩
end Go.Proofs.Ytjbhlcklgmgdpaa.Lklw
