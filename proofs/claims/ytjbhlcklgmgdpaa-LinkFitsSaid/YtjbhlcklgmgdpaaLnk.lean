/-
 Package link. Conditions: a configuration and a track that may be, a set of routes of it, spans within 2^45.
-/
import Derived.Test.YtjbhlcklgmgdpaaLkm
import Derived.Test.YtjbhlcklgmgdpaaMro
import Derived.Test.YtjbhlcklgmgdpaaSpo
import Derived.Test.YtjbhlcklgmgdpaaShh
import Derived.Test.YtjbhlcklgmgdpaaSfn
import Derived.Test.YtjbhlcklgmgdpaaSmu
import Derived.Test.YtjbhlcklgmgdpaaSk
namespace Go.Proofs.Ytjbhlcklgmgdpaa.Lnk
open Go.ChangeShapes Go.WideShapes Go.ChangeAt Go.RowKit
open Arr Steady Sx Sw Sl Sb Sc Si Sk Sh Smu Shh Sfn Vs Gr Tk Tkh Tkl Rt Rtm Rtg Rtp Rtk Rts Cf Lkm
set_option linter.unusedVariables false
set_option linter.unusedSimpArgs false
set_option maxRecDepth 100000

theorem told_yes {r : Bool} {X Y : Int} (hr : r = true) (h1 : -9223372036854775808 ≤ X) (h2 : X ≤ Y) (h3 : Y ≤ 9223372036854775807) : Spo.tB r X Y = true := by
 have f1 : Num.Fits X := by unfold Num.Fits; omega
 have f2 : Num.Fits Y := by unfold Num.Fits; omega
 unfold Spo.tB Spo.fitB
 rw [hr, decide_eq_true f1, decide_eq_true f2, decide_eq_true h2]; rfl
/-- How wide a span is, if it is right. -/
def wd (a b : Int) : Int := if a ≤ b then b - a else 0
/-- How far a place is from a span. -/
def aw (x lo hi : Int) : Int := max (wd x lo) (wd hi x)
theorem wd_any (a b : Int) (w : World) (ha : Num.Fits a) (hb : Num.Fits b) :
  Calls Try.prog 66 #[.agg #[.int .i64 a, .int .i64 b]] w fun e w' => e = .returned (.int .u64 (wd a b)) ∧ Below w.heap.size w w' := by
 unfold wd
 by_cases h : a ≤ b
 ·
  rw [if_pos h]; exact Spo.width_any a b w ha hb h
 ·
  rw [if_neg h]; exact Spo.width_none a b w h
theorem aw_near {W x lo hi : Int} (hw : 0 ≤ W) (h : lo ≤ hi) : decide (aw x lo hi ≤ W) = near W lo hi x := by
 unfold aw wd near
 by_cases a : lo ≤ x + W <;> by_cases b : x - W ≤ hi
 ·
  rw [decide_eq_true a, decide_eq_true b]; exact decide_eq_true (by split <;> split <;> omega)
 ·
  rw [decide_eq_true a, decide_eq_false b]; exact decide_eq_false (by split <;> split <;> omega)
 ·
  rw [decide_eq_false a, decide_eq_true b]; exact decide_eq_false (by split <;> split <;> omega)
 ·
  rw [decide_eq_false a, decide_eq_false b]; exact decide_eq_false (by split <;> split <;> omega)
set_option maxHeartbeats 2000000 in
theorem passage_core (a b c d p q x y : Int) (w : World) (c2 : ∀ W, Calls Try.prog 20 #[.agg #[.int .i64 c, .int .i64 d], .agg #[.int .i64 0, .int .i64 0]] W fun e w' => e = .returned (.agg #[.int .i64 p, .int .i64 q]) ∧ Below W.heap.size W w')
  (c3 : ∀ W, Calls Try.prog 19 #[.agg #[.int .i64 a, .int .i64 b], .agg #[.int .i64 p, .int .i64 q]] W fun e w' => e = .returned (.tuple #[.agg #[.int .i64 x, .int .i64 y], .bool true]) ∧ Below W.heap.size W w') :
  Calls Try.prog 7 #[.agg #[.int .i64 a, .int .i64 b], .agg #[.int .i64 c, .int .i64 d]] w fun e w' => e = .returned (.tuple #[.agg #[.int .i64 x, .int .i64 y], .bool true]) ∧ Below w.heap.size w w' := by
 refine calls_sx Try.func7 rfl ?_
 simp only [Try.ntmps7, List.size_toArray, List.length_cons, List.length_nil, Nat.reduceAdd, Nat.reduceSub, Array.replicate_succ, Array.replicate_zero, List.push_toArray, List.append_toArray, List.nil_append, List.cons_append]
 refine wc_seq ?_
 refine wc_region ?_
 refine wl_new 23 (#[.int .i64 a, .int .i64 b]) rfl (fun _ => by go_simp) ?_
 intro g1
 simp only [Act.put, Xa, Xz, Xs]
 refine wl_new 23 (#[.int .i64 c, .int .i64 d]) rfl (fun _ => by go_simp) ?_
 intro g2
 simp only [Act.put, Xa, Xz, Xs]
 refine wl_new 23 (#[.int .i64 0, .int .i64 0]) rfl (fun _ => by go_simp) ?_
 intro g3
 simp only [Act.put, Xa, Xz, Xs]
 refine wl_val (.bool false) rfl (fun _ => rfl) ?_
 simp only [Act.put, Xa, Xz, Xs]
 refine wl_nil ?_
 refine we_then ?_
 refine wc_seq ?_
 refine wc_draw [.plain, .plain, .plain, .plain, .plain, .late, .late, .over, .late] (some ⟨7, g3, 23, #[.int .i64 0, .int .i64 0], #[.int .i64 x, .int .i64 y]⟩) [] 13 (by kernel_rfl) rfl (by kernel_rfl) (by kernel_rfl) ?_
 refine ws_load 23 (.tmp 2) (own_row 2 rfl) rfl rfl rfl rfl Try.underlying23 rfl (by kernel_rfl) ?_
 simp only [Nat.reduceAdd, Act.put, Xa, Xz, Xs]
 refine ws_load 23 (.tmp 3) (own_row 1 rfl) rfl rfl rfl rfl Try.underlying23 rfl (by kernel_rfl) ?_
 simp only [Nat.reduceAdd, Act.put, Xa, Xz, Xs]
 refine ws_call 21 #[.int .i64 0] (.agg #[.int .i64 0, .int .i64 0]) rfl rfl (fun _ => by go_simp) (fun W => Spo.at_any 0 W) ?_
 simp only [Nat.reduceAdd, Act.put, Xa, Xz, Xs]
 refine ws_call 20 #[.agg #[.int .i64 c, .int .i64 d], .agg #[.int .i64 0, .int .i64 0]] (.agg #[.int .i64 p, .int .i64 q]) rfl rfl (fun _ => by go_simp) (fun W => c2 W) ?_
 simp only [Nat.reduceAdd, Act.put, Xa, Xz, Xs]
 refine ws_call 19 #[.agg #[.int .i64 a, .int .i64 b], .agg #[.int .i64 p, .int .i64 q]] (.tuple #[.agg #[.int .i64 x, .int .i64 y], .bool true]) rfl rfl (fun _ => by go_simp) (fun W => c3 W) ?_
 simp only [Nat.reduceAdd, Act.put, Xa, Xz, Xs]
 refine ws_late (.agg #[.int .i64 x, .int .i64 y]) rfl rfl (fun _ => by go_simp) ?_
 simp only [Nat.reduceAdd, Act.put, Xa, Xz, Xs]
 refine ws_late (.bool true) rfl rfl (fun _ => by go_simp) ?_
 simp only [Nat.reduceAdd, Act.put, Xa, Xz, Xs]
 refine ws_over 0 _ 23 (.tmp 4) (.tmp 11) rfl rfl rfl rfl rfl rfl rfl rfl rfl (by kernel_rfl) rfl (by simp [Value.oneCell']) ?_
 simp only [Nat.reduceAdd]
 refine ws_late (.bool true) rfl rfl (fun _ => rfl) ?_
 simp only [Nat.reduceAdd, Act.put, Xa, Xz, Xs]
 refine ws_nil_over 0 rfl (show 7 < 9 by decide) [] trivial (by simp) ?_
 intro ps4
 simp only [fin, List.foldl_nil, List.map, List.nil_append]
 refine we_then ?_
 refine wc_ret ?_
 refine we_ret_cell_tmp (.bool true) (own_row 0 rfl) rfl rfl rfl rfl Try.underlying23 rfl (by kernel_rfl) (fun w1 hE => ?_)
 exact ⟨rfl, hE.below⟩
theorem passage_any (a b c d : Int) (w : World) (h : Small a b) (k : Small c d) :
  Calls Try.prog 7 #[.agg #[.int .i64 a, .int .i64 b], .agg #[.int .i64 c, .int .i64 d]] w fun e w' => e = .returned (.tuple #[.agg #[.int .i64 (a + min 0 c), .int .i64 (b + max 0 d)], .bool true]) ∧ Below w.heap.size w w' := by
 obtain ⟨h1, h2, h3⟩ := h
 obtain ⟨k1, k2, k3⟩ := k
 refine passage_core a b c d (min 0 c) (max 0 d) _ _ w (fun W => Spo.hull_both c d 0 0 _ _ W k1 (by omega) (by omega) (by omega)) (fun W => ?_)
 have h9 := Spo.add_any a b (min 0 c) (max 0 d) W (by unfold Num.Fits; omega) (by unfold Num.Fits; omega) (by unfold Num.Fits; omega) (by unfold Num.Fits; omega)
 rw [told_yes (r := decide (a ≤ b) && decide (min 0 c ≤ max 0 d)) (X := a + min 0 c) (Y := b + max 0 d) (by rw [decide_eq_true (by omega), decide_eq_true (by omega)]; rfl) (by omega) (by omega) (by omega)] at h9
 exact h9
set_option maxHeartbeats 2000000 in
theorem window_core (k : Cf) (u : Gp) (w : World) (h1 : 0 ≤ u.acc ∧ u.acc ≤ 1048576) (h2 : 0 ≤ u.slack ∧ u.slack ≤ 16777216) (h3 : 0 ≤ k.an ∧ k.an ≤ 1048576) :
  Calls Try.prog 16 #[.agg #[.int .i64 k.pu, .int .i64 k.lo, .int .i64 k.hi, .int .i64 k.rb, .int .i64 k.rp, .int .i64 k.ae, .int .i64 k.ms, .int .i64 k.ma, .int .i64 k.an, .int .i64 k.st, .int .i64 k.ss, .int .i64 k.ro, .int .i64 k.ti, .int .i64 k.br], .agg #[.int .i64 u.id, .int .i64 u.seg, .int .i64 u.off, .int .i64 u.acc, .int .i64 u.slack]] w fun e w' => e = .returned (.int .i64 (u.acc + k.an + u.slack)) ∧ Below w.heap.size w w' := by
 refine calls_sx Try.func16 rfl ?_
 simp only [Try.ntmps16, List.size_toArray, List.length_cons, List.length_nil, Nat.reduceAdd, Nat.reduceSub, Array.replicate_succ, Array.replicate_zero, List.push_toArray, List.append_toArray, List.nil_append, List.cons_append]
 refine wc_seq ?_
 refine wc_region ?_
 refine wl_new 31 (#[.int .i64 k.pu, .int .i64 k.lo, .int .i64 k.hi, .int .i64 k.rb, .int .i64 k.rp, .int .i64 k.ae, .int .i64 k.ms, .int .i64 k.ma, .int .i64 k.an, .int .i64 k.st, .int .i64 k.ss, .int .i64 k.ro, .int .i64 k.ti, .int .i64 k.br]) rfl (fun _ => by go_simp) ?_
 intro g1
 simp only [Act.put, Xa, Xz, Xs]
 refine wl_new 60 (#[.int .i64 u.id, .int .i64 u.seg, .int .i64 u.off, .int .i64 u.acc, .int .i64 u.slack]) rfl (fun _ => by go_simp) ?_
 intro g2
 simp only [Act.put, Xa, Xz, Xs]
 refine wl_val (.int .i64 0) rfl (fun _ => rfl) ?_
 simp only [Act.put, Xa, Xz, Xs]
 refine wl_nil ?_
 refine we_then ?_
 refine wc_seq ?_
 refine wc_region ?_
 refine wl_val (.pointer (some ⟨g2, 3, none⟩)) rfl (fun _ => by go_simp) ?_
 simp only [Act.put, Xa, Xz, Xs]
 refine wl_cell 2 (.tmp 5) (.int .i64 u.acc) (own_row 0 rfl) rfl rfl rfl rfl Try.isAgg2 ?_
 simp only [Act.put, Xa, Xz, Xs]
 refine wl_val (.pointer (some ⟨g1, 8, none⟩)) rfl (fun _ => by go_simp) ?_
 simp only [Act.put, Xa, Xz, Xs]
 refine wl_cell 2 (.tmp 7) (.int .i64 k.an) (own_row 1 rfl) rfl rfl rfl rfl Try.isAgg2 ?_
 simp only [Act.put, Xa, Xz, Xs]
 refine wl_val (.int .i64 (u.acc + k.an)) rfl (fun w => run_arith (op := .add) rfl rfl rfl Try.underlying2 (congrArg some (i64_in (by omega) (by omega))) w) ?_
 simp only [Act.put, Xa, Xz, Xs]
 refine wl_val (.pointer (some ⟨g2, 4, none⟩)) rfl (fun _ => by go_simp) ?_
 simp only [Act.put, Xa, Xz, Xs]
 refine wl_cell 2 (.tmp 10) (.int .i64 u.slack) (own_row 0 rfl) rfl rfl rfl rfl Try.isAgg2 ?_
 simp only [Act.put, Xa, Xz, Xs]
 refine wl_val (.int .i64 ((u.acc + k.an) + u.slack)) rfl (fun w => run_arith (op := .add) rfl rfl rfl Try.underlying2 (congrArg some (i64_in (by omega) (by omega))) w) ?_
 simp only [Act.put, Xa, Xz, Xs]
 refine wl_val (.int .i64 ((u.acc + k.an) + u.slack)) rfl (fun _ => rfl) ?_
 simp only [Act.put, Xa, Xz, Xs]
 refine wl_nil ?_
 refine we_then ?_
 refine wc_ret ?_
 refine we_ret1 (.int .i64 ((u.acc + k.an) + u.slack)) rfl rfl rfl (fun w1 hE => ?_)
 exact ⟨rfl, hE.below⟩
theorem window_any (k : Cf) (u : Gp) (w : World) (hk : Ok k) (h1 : 0 ≤ u.acc ∧ u.acc ≤ 1048576) (h2 : 0 ≤ u.slack ∧ u.slack ≤ 16777216) :
  Calls Try.prog 16 #[.agg #[.int .i64 k.pu, .int .i64 k.lo, .int .i64 k.hi, .int .i64 k.rb, .int .i64 k.rp, .int .i64 k.ae, .int .i64 k.ms, .int .i64 k.ma, .int .i64 k.an, .int .i64 k.st, .int .i64 k.ss, .int .i64 k.ro, .int .i64 k.ti, .int .i64 k.br], .agg #[.int .i64 u.id, .int .i64 u.seg, .int .i64 u.off, .int .i64 u.acc, .int .i64 u.slack]] w fun e w' => e = .returned (.int .i64 (winG k u)) ∧ Below w.heap.size w w' := window_core k u w h1 h2 ⟨hk.an1, hk.an2⟩
set_option maxHeartbeats 2000000 in
theorem away_any (x lo hi : Int) (w : World) (hx : Num.Fits x) (hl : Num.Fits lo) (hh : Num.Fits hi) :
  Calls Try.prog 50 #[.int .i64 x, .agg #[.int .i64 lo, .int .i64 hi]] w fun e w' => e = .returned (.int .u64 (aw x lo hi)) ∧ Below w.heap.size w w' := by
 refine calls_sx Try.func50 rfl ?_
 simp only [Try.ntmps50, List.size_toArray, List.length_cons, List.length_nil, Nat.reduceAdd, Nat.reduceSub, Array.replicate_succ, Array.replicate_zero, List.push_toArray, List.append_toArray, List.nil_append, List.cons_append]
 refine wc_seq ?_
 refine wc_region ?_
 refine wl_new 23 (#[.int .i64 lo, .int .i64 hi]) rfl (fun _ => by go_simp) ?_
 intro g1
 simp only [Act.put, Xa, Xz, Xs]
 refine wl_val (.int .u64 0) rfl (fun _ => rfl) ?_
 simp only [Act.put, Xa, Xz, Xs]
 refine wl_nil ?_
 refine we_then ?_
 refine wc_seq ?_
 refine wc_draw [.late, .late, .plain, .late, .late, .plain, .late, .late, .make 23 (#[.int .i64 0, .int .i64 0]) 10 (#[.int .i64 x, .int .i64 lo]), .make 23 (#[.int .i64 0, .int .i64 0]) 11 (#[.int .i64 hi, .int .i64 x]), .put 8, .put 9] none [(8, 5), (9, 6)] 20 (by kernel_rfl) rfl (by kernel_rfl) (by kernel_rfl) ?_
 refine ws_late (.int .i64 x) rfl rfl (fun _ => rfl) ?_
 simp only [Nat.reduceAdd, Act.put, Xa, Xz, Xs]
 refine ws_late (.pointer (some ⟨g1, 0, none⟩)) rfl rfl (fun _ => by go_simp) ?_
 simp only [Nat.reduceAdd, Act.put, Xa, Xz, Xs]
 refine ws_cell 2 (.tmp 8) (.int .i64 lo) (own_row 0 rfl) rfl rfl rfl rfl rfl Try.isAgg2 ?_
 simp only [Nat.reduceAdd, Act.put, Xa, Xz, Xs]
 refine ws_late (.agg #[.int .i64 x, .int .i64 lo]) rfl rfl (fun _ => by go_simp) ?_
 simp only [Nat.reduceAdd, Act.put, Xa, Xz, Xs]
 refine ws_late (.pointer (some ⟨g1, 1, none⟩)) rfl rfl (fun _ => by go_simp) ?_
 simp only [Nat.reduceAdd, Act.put, Xa, Xz, Xs]
 refine ws_cell 2 (.tmp 11) (.int .i64 hi) (own_row 0 rfl) rfl rfl rfl rfl rfl Try.isAgg2 ?_
 simp only [Nat.reduceAdd, Act.put, Xa, Xz, Xs]
 refine ws_late (.int .i64 x) rfl rfl (fun _ => rfl) ?_
 simp only [Nat.reduceAdd, Act.put, Xa, Xz, Xs]
 refine ws_late (.agg #[.int .i64 hi, .int .i64 x]) rfl rfl (fun _ => by go_simp) ?_
 simp only [Nat.reduceAdd, Act.put, Xa, Xz, Xs]
 refine ws_make 23 (#[.int .i64 0, .int .i64 0]) 10 (#[.int .i64 x, .int .i64 lo]) rfl rfl rfl (zero_of_info (n := 2) (by kernel_rfl)).1 ?_
 simp only [Nat.reduceAdd, Act.put, Xa, Xz, Xs]
 refine ws_make 23 (#[.int .i64 0, .int .i64 0]) 11 (#[.int .i64 hi, .int .i64 x]) rfl rfl rfl (zero_of_info (n := 2) (by kernel_rfl)).1 ?_
 simp only [Nat.reduceAdd, Act.put, Xa, Xz, Xs]
 refine ws_put 8 23 5 (.tmp 10) _ _ _ rfl rfl rfl rfl (by simp) rfl rfl rfl (by kernel_rfl) rfl (by simp [Value.oneCell']) ?_
 simp only [Nat.reduceAdd]
 refine ws_put 9 23 6 (.tmp 14) _ _ _ rfl rfl rfl rfl (by simp) rfl rfl rfl (by kernel_rfl) rfl (by simp [Value.oneCell']) ?_
 simp only [Nat.reduceAdd]
 refine ws_nil [(8, #[.int .i64 x, .int .i64 lo], 23), (9, #[.int .i64 hi, .int .i64 x], 23)] ⟨⟨by decide, _, _, _, rfl, .inl ⟨by decide, rfl⟩⟩, ⟨⟨by decide, _, _, _, rfl, .inl ⟨by decide, rfl⟩⟩, trivial⟩⟩ (by simp) ?_
 intro ps2
 simp only [fin, List.foldl_cons, List.foldl_nil, List.map, rowOf, List.cons_append, List.nil_append, Act.put, Xa, Xz, Xs]
 refine we_then ?_
 refine wc_seq ?_
 refine wc_draw [.plain, .plain, .plain, .plain, .late, .late] none [] 20 (by kernel_rfl) rfl (by kernel_rfl) (by kernel_rfl) ?_
 refine ws_load 23 (.tmp 5) (own_row 0 rfl) rfl rfl rfl rfl Try.underlying23 rfl (by kernel_rfl) ?_
 simp only [Nat.reduceAdd, Act.put, Xa, Xz, Xs]
 refine ws_call 66 #[.agg #[.int .i64 x, .int .i64 lo]] (.int .u64 (wd x lo)) rfl rfl (fun _ => by go_simp) (fun W => wd_any x lo W (by assumption) (by assumption)) ?_
 simp only [Nat.reduceAdd, Act.put, Xa, Xz, Xs]
 refine ws_load 23 (.tmp 6) (own_row 1 rfl) rfl rfl rfl rfl Try.underlying23 rfl (by kernel_rfl) ?_
 simp only [Nat.reduceAdd, Act.put, Xa, Xz, Xs]
 refine ws_call 66 #[.agg #[.int .i64 hi, .int .i64 x]] (.int .u64 (wd hi x)) rfl rfl (fun _ => by go_simp) (fun W => wd_any hi x W (by assumption) (by assumption)) ?_
 simp only [Nat.reduceAdd, Act.put, Xa, Xz, Xs]
 refine ws_late (.int .u64 (max (wd x lo) (wd hi x))) rfl rfl (fun w => by first | exact run_max2 rfl rfl rfl rfl w | exact run_maxn2 rfl rfl rfl rfl w | go_simp) ?_
 simp only [Nat.reduceAdd, Act.put, Xa, Xz, Xs]
 refine ws_late (.int .u64 (max (wd x lo) (wd hi x))) rfl rfl (fun _ => rfl) ?_
 simp only [Nat.reduceAdd, Act.put, Xa, Xz, Xs]
 refine ws_nil [] trivial (by simp) ?_
 intro ps3
 simp only [fin, List.foldl_nil, List.map, List.nil_append]
 refine we_then ?_
 refine wc_ret ?_
 refine we_ret1 (.int .u64 (max (wd x lo) (wd hi x))) rfl rfl rfl (fun w1 hE => ?_)
 exact ⟨rfl, hE.below⟩
set_option maxHeartbeats 2000000 in
theorem fits_core (k : Cf) (u : Gp) (x lo hi W : Int) (w : World) (hx : Num.Fits x) (hl : Num.Fits lo) (hh : Num.Fits hi) (h0 : 0 ≤ W ∧ W ≤ 1099511627776) (hq : lo ≤ hi)
  (c1 : ∀ W9, Calls Try.prog 16 #[.agg #[.int .i64 k.pu, .int .i64 k.lo, .int .i64 k.hi, .int .i64 k.rb, .int .i64 k.rp, .int .i64 k.ae, .int .i64 k.ms, .int .i64 k.ma, .int .i64 k.an, .int .i64 k.st, .int .i64 k.ss, .int .i64 k.ro, .int .i64 k.ti, .int .i64 k.br], .agg #[.int .i64 u.id, .int .i64 u.seg, .int .i64 u.off, .int .i64 u.acc, .int .i64 u.slack]] W9 fun e w' => e = .returned (.int .i64 W) ∧ Below W9.heap.size W9 w') :
  Calls Try.prog 30 #[.agg #[.int .i64 k.pu, .int .i64 k.lo, .int .i64 k.hi, .int .i64 k.rb, .int .i64 k.rp, .int .i64 k.ae, .int .i64 k.ms, .int .i64 k.ma, .int .i64 k.an, .int .i64 k.st, .int .i64 k.ss, .int .i64 k.ro, .int .i64 k.ti, .int .i64 k.br], .agg #[.int .i64 u.id, .int .i64 u.seg, .int .i64 u.off, .int .i64 u.acc, .int .i64 u.slack], .int .i64 x, .agg #[.int .i64 lo, .int .i64 hi]] w fun e w' => e = .returned (.bool (near W lo hi x)) ∧ Below w.heap.size w w' := by
 refine calls_sx Try.func30 rfl ?_
 simp only [Try.ntmps30, List.size_toArray, List.length_cons, List.length_nil, Nat.reduceAdd, Nat.reduceSub, Array.replicate_succ, Array.replicate_zero, List.push_toArray, List.append_toArray, List.nil_append, List.cons_append]
 refine wc_seq ?_
 refine wc_region ?_
 refine wl_new 31 (#[.int .i64 k.pu, .int .i64 k.lo, .int .i64 k.hi, .int .i64 k.rb, .int .i64 k.rp, .int .i64 k.ae, .int .i64 k.ms, .int .i64 k.ma, .int .i64 k.an, .int .i64 k.st, .int .i64 k.ss, .int .i64 k.ro, .int .i64 k.ti, .int .i64 k.br]) rfl (fun _ => by go_simp) ?_
 intro g1
 simp only [Act.put, Xa, Xz, Xs]
 refine wl_new 60 (#[.int .i64 u.id, .int .i64 u.seg, .int .i64 u.off, .int .i64 u.acc, .int .i64 u.slack]) rfl (fun _ => by go_simp) ?_
 intro g2
 simp only [Act.put, Xa, Xz, Xs]
 refine wl_new 23 (#[.int .i64 lo, .int .i64 hi]) rfl (fun _ => by go_simp) ?_
 intro g3
 simp only [Act.put, Xa, Xz, Xs]
 refine wl_val (.bool false) rfl (fun _ => rfl) ?_
 simp only [Act.put, Xa, Xz, Xs]
 refine wl_nil ?_
 refine we_then ?_
 refine wc_seq ?_
 refine wc_region ?_
 refine wl_load 31 (.tmp 4) (own_row 2 rfl) rfl rfl rfl Try.underlying31 rfl (by kernel_rfl) ?_
 simp only [Act.put, Xa, Xz, Xs]
 refine wl_load 60 (.tmp 5) (own_row 1 rfl) rfl rfl rfl Try.underlying60 rfl (by kernel_rfl) ?_
 simp only [Act.put, Xa, Xz, Xs]
 refine wl_call 16 #[.agg #[.int .i64 k.pu, .int .i64 k.lo, .int .i64 k.hi, .int .i64 k.rb, .int .i64 k.rp, .int .i64 k.ae, .int .i64 k.ms, .int .i64 k.ma, .int .i64 k.an, .int .i64 k.st, .int .i64 k.ss, .int .i64 k.ro, .int .i64 k.ti, .int .i64 k.br], .agg #[.int .i64 u.id, .int .i64 u.seg, .int .i64 u.off, .int .i64 u.acc, .int .i64 u.slack]] (.int .i64 W) rfl (fun _ => by go_simp) (fun W9 => c1 W9) ?_
 simp only [Act.put, Xa, Xz, Xs]
 refine wl_val (.int .i64 W) rfl (fun _ => rfl) ?_
 simp only [Act.put, Xa, Xz, Xs]
 refine wl_nil ?_
 refine we_then ?_
 refine wc_seq ?_
 refine wc_region ?_
 refine wl_val (.int .i64 W) rfl (fun _ => rfl) ?_
 simp only [Act.put, Xa, Xz, Xs]
 refine wl_val (.bool (decide (0 ≤ W))) rfl (fun w => run_cmp rfl rfl rfl Try.underlying2 rfl w) ?_
 simp only [Act.put, Xa, Xz, Xs]
 refine wl_val (.bool (decide (0 ≤ W))) rfl (fun _ => rfl) ?_
 simp only [Act.put, Xa, Xz, Xs]
 cases h4 : (decide (0 ≤ W))
 ·
  skip
  have p4 : ¬ (0 ≤ W) := of_decide_eq_false h4
  exact (by exfalso; omega)
 ·
  skip
  have p4 : 0 ≤ W := of_decide_eq_true h4
  refine wl_skip rfl ?_
  simp only [Act.put, Xa, Xz, Xs]
  refine wl_skip rfl ?_
  simp only [Act.put, Xa, Xz, Xs]
  refine wl_skip rfl ?_
  simp only [Act.put, Xa, Xz, Xs]
  refine wl_val (.bool true) rfl (fun _ => rfl) ?_
  simp only [Act.put, Xa, Xz, Xs]
  refine wl_val (.bool true) rfl (fun _ => rfl) ?_
  simp only [Act.put, Xa, Xz, Xs]
  refine wl_val (.int .i64 x) rfl (fun _ => rfl) ?_
  simp only [Act.put, Xa, Xz, Xs]
  refine wl_load 23 (.tmp 7) (own_row 0 rfl) rfl rfl rfl Try.underlying23 rfl (by kernel_rfl) ?_
  simp only [Act.put, Xa, Xz, Xs]
  refine wl_call 50 #[.int .i64 x, .agg #[.int .i64 lo, .int .i64 hi]] (.int .u64 (aw x lo hi)) rfl (fun _ => by go_simp) (fun W => away_any x lo hi W hx hl hh) ?_
  simp only [Act.put, Xa, Xz, Xs]
  refine wl_val (.int .i64 W) rfl (fun _ => rfl) ?_
  simp only [Act.put, Xa, Xz, Xs]
  refine wl_val (.int .u64 W) rfl (fun w => Sw.run_conv rfl rfl Try.underlying2 Try.underlying114 (u64_in (by omega) (by omega)) w) ?_
  simp only [Act.put, Xa, Xz, Xs]
  refine wl_val (.bool (decide (aw x lo hi ≤ W))) rfl (fun w => run_cmp rfl rfl rfl Try.underlying114 rfl w) ?_
  simp only [Act.put, Xa, Xz, Xs]
  refine wl_val (.bool (decide (aw x lo hi ≤ W))) rfl (fun _ => rfl) ?_
  simp only [Act.put, Xa, Xz, Xs]
  refine wl_val (.bool (decide (aw x lo hi ≤ W))) rfl (fun _ => rfl) ?_
  simp only [Act.put, Xa, Xz, Xs]
  refine wl_nil ?_
  refine we_then ?_
  refine wc_ret ?_
  refine we_ret1 (.bool (decide (aw x lo hi ≤ W))) rfl rfl rfl (fun w1 hE => ?_)
  exact ⟨by rw [← aw_near h0.1 hq], hE.below⟩
theorem fits_any (k : Cf) (u : Gp) (x lo hi : Int) (w : World) (hk : Ok k) (h1 : 0 ≤ u.acc ∧ u.acc ≤ 1048576) (h2 : 0 ≤ u.slack ∧ u.slack ≤ 16777216) (hp : Small lo hi) (hx : -1099511627776 ≤ x ∧ x ≤ 14293651161088) :
  Calls Try.prog 30 #[.agg #[.int .i64 k.pu, .int .i64 k.lo, .int .i64 k.hi, .int .i64 k.rb, .int .i64 k.rp, .int .i64 k.ae, .int .i64 k.ms, .int .i64 k.ma, .int .i64 k.an, .int .i64 k.st, .int .i64 k.ss, .int .i64 k.ro, .int .i64 k.ti, .int .i64 k.br], .agg #[.int .i64 u.id, .int .i64 u.seg, .int .i64 u.off, .int .i64 u.acc, .int .i64 u.slack], .int .i64 x, .agg #[.int .i64 lo, .int .i64 hi]] w fun e w' => e = .returned (.bool (near (winG k u) lo hi x)) ∧ Below w.heap.size w w' := by
 obtain ⟨p1, p2, p3⟩ := hp
 have a1 := hk.an1
 have a2 := hk.an2
 exact fits_core k u x lo hi (winG k u) w (by unfold Num.Fits; omega) (by unfold Num.Fits; omega) (by unfold Num.Fits; omega) (by unfold winG; omega) p1 (fun W => window_any k u W hk h1 h2)
theorem fno {W lo hi : Int} {P : List Int} {i : Nat} (hi' : i < P.length) (h : near W lo hi (P[i]!) = false) : fitL W lo hi (P.take (i + 1)) = fitL W lo hi (P.take i) := by
 rw [List.take_add_one, List.getElem?_eq_getElem hi', ← getElem!_pos P i hi']
 show fitL W lo hi (_ ++ [_]) = _
 rw [fit_snoc, h]; simp
theorem fyes {W lo hi : Int} {P : List Int} {i : Nat} (hi' : i < P.length) (h : near W lo hi (P[i]!) = true) : fitL W lo hi (P.take (i + 1)) = fitL W lo hi (P.take i) ++ [P[i]!] := by
 rw [List.take_add_one, List.getElem?_eq_getElem hi', ← getElem!_pos P i hi']
 show fitL W lo hi (_ ++ [_]) = _
 rw [fit_snoc, h]; simp
set_option maxHeartbeats 4000000 in
theorem fitting_any (k : Cf) (lo hi gi : Int) (G : List Sg) (H : List Gp) (p q : Option Addr) (c d : Nat) (s0 f : Int) (X : List Ro) (ps : Option Addr) (cs : Nat) (w : World) (hk : Ok k) (hS : Reads w p (flat sg G)) (hG : OkS w G) (hH : Reads w q (flat gp H)) (hM : TrackMay G H) (hX : SetOk G s0 f X) (hR : Reads w ps (flat rt X)) (hp : Small lo hi) (hgi : -9223372036854775808 ≤ gi ∧ gi ≤ 9223372036854775807) :
  Calls Try.prog 13 #[.agg #[.int .i64 k.pu, .int .i64 k.lo, .int .i64 k.hi, .int .i64 k.rb, .int .i64 k.rp, .int .i64 k.ae, .int .i64 k.ms, .int .i64 k.ma, .int .i64 k.an, .int .i64 k.st, .int .i64 k.ss, .int .i64 k.ro, .int .i64 k.ti, .int .i64 k.br], .agg #[.slice p G.length c, .slice q H.length d], .agg #[.int .i64 f, .slice ps X.length cs], .agg #[.int .i64 lo, .int .i64 hi], .int .i64 gi] w fun e w' => ∃ z : Lz, (z.L = fitG k G H f lo hi gi X ∧ Held z.N z.p (flat enc1 z.L)) ∧ e = .returned (.slice z.p z.L.length z.c) ∧ Env w w' z.N := by
 have hs3 := hM.sizes.2.2
 have hfr := Rou.frm_in hM hX
 have lim0 : 0 ≤ gi ∧ gi < H.length → ∀ x ∈ plc G f (H[gi.toNat]!).seg (H[gi.toNat]!).off X X.length, -1099511627776 ≤ x ∧ x ≤ 14293651161088 := fun h => by
  have gl := hM.grps gi.toNat (by omega)
  have g1 := gl.off0
  have g2 := gl.offn
  have g3 := gl.seg0
  have g4 := gl.segn
  have g5 := (hM.segs (H[gi.toNat]!).seg.toNat (by omega)).high
  exact plc_lim hM.segs (fun r hr => (hX.wf r hr).ok) ⟨hfr.1, by omega⟩ ⟨by omega, by omega⟩ _ (Nat.le_refl _)
 have lsz0 : (if 0 ≤ gi ∧ gi < H.length then plc G f (H[gi.toNat]!).seg (H[gi.toNat]!).off X X.length else []).length ≤ 1000 := by
  split
  ·
   have h9 := plc_len G f (H[gi.toNat]!).seg (H[gi.toNat]!).off X (fun i hi => (hX.wf _ (by rw [getElem!_pos X i hi]; exact List.getElem_mem _)).ok.few) X.length (Nat.le_refl _)
   have h8 := hX.few
   omega
  ·
   exact Nat.zero_le _
 refine calls_sx Try.func13 rfl ?_
 simp only [Try.ntmps13, List.size_toArray, List.length_cons, List.length_nil, Nat.reduceAdd, Nat.reduceSub, Array.replicate_succ, Array.replicate_zero, List.push_toArray, List.append_toArray, List.nil_append, List.cons_append]
 refine wc_seq ?_
 refine wc_region ?_
 refine wl_new 31 (#[.int .i64 k.pu, .int .i64 k.lo, .int .i64 k.hi, .int .i64 k.rb, .int .i64 k.rp, .int .i64 k.ae, .int .i64 k.ms, .int .i64 k.ma, .int .i64 k.an, .int .i64 k.st, .int .i64 k.ss, .int .i64 k.ro, .int .i64 k.ti, .int .i64 k.br]) rfl (fun _ => by go_simp) ?_
 intro g1
 simp only [Act.put, Xa, Xz, Xs]
 refine wl_new 35 (#[.slice p G.length c, .slice q H.length d]) rfl (fun _ => by go_simp) ?_
 intro g2
 simp only [Act.put, Xa, Xz, Xs]
 refine wl_new 41 (#[.int .i64 f, .slice ps X.length cs]) rfl (fun _ => by go_simp) ?_
 intro g3
 simp only [Act.put, Xa, Xz, Xs]
 refine wl_new 23 (#[.int .i64 lo, .int .i64 hi]) rfl (fun _ => by go_simp) ?_
 intro g4
 simp only [Act.put, Xa, Xz, Xs]
 refine wl_val (.slice none 0 0) rfl (fun _ => rfl) ?_
 simp only [Act.put, Xa, Xz, Xs]
 refine wl_nil ?_
 refine we_then ?_
 refine wc_seq ?_
 refine wc_region ?_
 refine wl_val (.slice none 0 0) rfl (fun _ => rfl) ?_
 simp only [Act.put, Xa, Xz, Xs]
 refine wl_nil ?_
 refine we_then ?_
 refine wc_seq ?_
 refine wc_seq ?_
 refine wc_region ?_
 refine wl_load 41 (.tmp 7) (own_row 1 rfl) rfl rfl rfl Try.underlying41 rfl (by kernel_rfl) ?_
 simp only [Act.put, Xa, Xz, Xs]
 refine wl_load 35 (.tmp 6) (own_row 2 rfl) rfl rfl rfl Try.underlying35 rfl (by kernel_rfl) ?_
 simp only [Act.put, Xa, Xz, Xs]
 refine wl_val (.int .i64 gi) rfl (fun _ => rfl) ?_
 simp only [Act.put, Xa, Xz, Xs]
 refine wl_call_open (ι := Lz) (fun zz => match zz with | zk5 => ⟨g4, #[.int .i64 lo, .int .i64 hi], 23⟩ :: ⟨g3, #[.int .i64 f, .slice ps X.length cs], 41⟩ :: ⟨g2, #[.slice p G.length c, .slice q H.length d], 35⟩ :: ⟨g1, #[.int .i64 k.pu, .int .i64 k.lo, .int .i64 k.hi, .int .i64 k.rb, .int .i64 k.rp, .int .i64 k.ae, .int .i64 k.ms, .int .i64 k.ma, .int .i64 k.an, .int .i64 k.st, .int .i64 k.ss, .int .i64 k.ro, .int .i64 k.ti, .int .i64 k.br], 31⟩ :: zk5.N) 29 #[.agg #[.int .i64 f, .slice ps X.length cs], .agg #[.slice p G.length c, .slice q H.length d], .int .i64 gi] (fun zz => match zz with | zk5 => .slice zk5.p zk5.L.length zk5.c) (fun zz => match zz with | zk5 => zk5.N) (fun zz => match zz with | zk5 => zk5.L = (if 0 ≤ gi ∧ gi < H.length then plc G f (H[gi.toNat]!).seg (H[gi.toNat]!).off X X.length else []) ∧ Held zk5.N zk5.p (flat enc1 zk5.L)) (by rintro zk5; simp) rfl (fun _ => by go_simp) (fun W hE => Rou.places_any gi G H p q c d s0 f X ps cs W (sl_old (R := []) hS W (hE.sub (List.nil_sublist _))) (oks_below hG hE.below) (sl_old (R := []) hH W (hE.sub (List.nil_sublist _))) hM hX (sl_old (R := []) hR W (hE.sub (List.nil_sublist _))) hgi) ?_
 rintro zk5 k5
 (try dsimp only)
 simp only [Act.put, Xa, Xz, Xs]
 refine wl_val (.int .i64 (zk5.L.length : Int)) rfl (fun w => er_len rfl rfl Try.underlying46 w) ?_
 simp only [Act.put, Xa, Xz, Xs]
 refine wl_val (.int .i64 0) rfl (fun _ => rfl) ?_
 simp only [Act.put, Xa, Xz, Xs]
 refine wl_nil ?_
 refine we_then ?_
 refine wc_block ?_
 have lim : 0 ≤ gi ∧ gi < H.length → ∀ x ∈ zk5.L, -1099511627776 ≤ x ∧ x ≤ 14293651161088 := fun h => by rw [k5.1, if_pos h]; exact lim0 h
 have lem : ¬ (0 ≤ gi ∧ gi < H.length) → zk5.L.length = 0 := fun h => by rw [k5.1, if_neg h]; rfl
 have lsz : zk5.L.length ≤ 1000 := by rw [k5.1]; exact lsz0
 refine wc_loop (fun (zz : Nat × Nat × Own × Value × Value × Value × Value × Value × Value × Value × Value × Value × Value × Value × Value × Value × Value × Value × Value × Value × Value) => match zz with | ⟨i, m, s, u13, u20, u21, u22, u23, u24, u25, u26, u27, u28, u29, u30, u31, u32, u33, u34, u35, u36⟩ => ({ tmps := #[.agg #[.int .i64 k.pu, .int .i64 k.lo, .int .i64 k.hi, .int .i64 k.rb, .int .i64 k.rp, .int .i64 k.ae, .int .i64 k.ms, .int .i64 k.ma, .int .i64 k.an, .int .i64 k.st, .int .i64 k.ss, .int .i64 k.ro, .int .i64 k.ti, .int .i64 k.br], .agg #[.slice p G.length c, .slice q H.length d], .agg #[.int .i64 f, .slice ps X.length cs], .agg #[.int .i64 lo, .int .i64 hi], .int .i64 gi, .pointer (some ⟨g1, 0, none⟩), .pointer (some ⟨g2, 0, none⟩), .pointer (some ⟨g3, 0, none⟩), .pointer (some ⟨g4, 0, none⟩), undef, .slice none 0 0, .slice s.ptr m s.cap, undef, u13, .agg #[.int .i64 f, .slice ps X.length cs], .agg #[.slice p G.length c, .slice q H.length d], .int .i64 gi, .slice zk5.p zk5.L.length zk5.c, .int .i64 (zk5.L.length : Int), .int .i64 (i : Int), u20, u21, u22, u23, u24, u25, u26, u27, u28, u29, u30, u31, u32, u33, u34, u35, u36, undef], defers := [] } : Act)) (fun (zz : Nat × Nat × Own × Value × Value × Value × Value × Value × Value × Value × Value × Value × Value × Value × Value × Value × Value × Value × Value × Value × Value) => match zz with | ⟨i, m, s, u13, u20, u21, u22, u23, u24, u25, u26, u27, u28, u29, u30, u31, u32, u33, u34, u35, u36⟩ => ⟨g4, #[.int .i64 lo, .int .i64 hi], 23⟩ :: ⟨g3, #[.int .i64 f, .slice ps X.length cs], 41⟩ :: ⟨g2, #[.slice p G.length c, .slice q H.length d], 35⟩ :: ⟨g1, #[.int .i64 k.pu, .int .i64 k.lo, .int .i64 k.hi, .int .i64 k.rb, .int .i64 k.rp, .int .i64 k.ae, .int .i64 k.ms, .int .i64 k.ma, .int .i64 k.an, .int .i64 k.st, .int .i64 k.ss, .int .i64 k.ro, .int .i64 k.ti, .int .i64 k.br], 31⟩ :: (s.rows 2 ++ zk5.N)) (fun (zz : Nat × Nat × Own × Value × Value × Value × Value × Value × Value × Value × Value × Value × Value × Value × Value × Value × Value × Value × Value × Value × Value) => match zz with | ⟨i, m, s, u13, u20, u21, u22, u23, u24, u25, u26, u27, u28, u29, u30, u31, u32, u33, u34, u35, u36⟩ => i ≤ zk5.L.length ∧ m = (fitL (winG k (H[gi.toNat]!)) lo hi (zk5.L.take i)).length ∧ s.Has 1 m (flat enc1 (fitL (winG k (H[gi.toNat]!)) lo hi (zk5.L.take i)))) (fun (zz : Nat × Nat × Own × Value × Value × Value × Value × Value × Value × Value × Value × Value × Value × Value × Value × Value × Value × Value × Value × Value × Value) => match zz with | ⟨i, m, s, u13, u20, u21, u22, u23, u24, u25, u26, u27, u28, u29, u30, u31, u32, u33, u34, u35, u36⟩ => zk5.L.length - i) ⟨0, 0, Own.none, _, _, _, _, _, _, _, _, _, _, _, _, _, _, _, _, _, _⟩ (by (try dsimp only); exact ⟨by omega, rfl, Own.has_none 1⟩) rfl (List.Sublist.cons_cons _ (List.Sublist.cons_cons _ (List.Sublist.cons_cons _ (List.Sublist.cons_cons _ (List.Sublist.refl _))))) ?_
 rintro ⟨i, m, s, u13, u20, u21, u22, u23, u24, u25, u26, u27, u28, u29, u30, u31, u32, u33, u34, u35, u36⟩ hφ
 (try dsimp only at hφ ⊢)
 obtain ⟨b1, b2, b3⟩ := hφ
 have b4 := fit_take b2
 refine wc_seq ?_
 refine wc_region ?_
 refine wl_val (.bool (decide ((i : Int) < (zk5.L.length : Int)))) rfl (fun w => run_cmp rfl rfl rfl Try.underlying3 rfl w) ?_
 simp only [Act.put, Xa, Xz, Xs]
 refine wl_nil ?_
 refine we_then ?_
 refine wc_seq ?_
 cases h6 : (decide ((i : Int) < (zk5.L.length : Int)))
 ·
  skip
  have p6 : ¬ ((i : Int) < (zk5.L.length : Int)) := of_decide_eq_false h6
  refine wc_false rfl ?_
  refine wc_exit ?_
  refine we_then_exit ?_
  refine we_then_exit ?_
  refine we_in_here ?_
  refine we_then ?_
  refine wc_seq ?_
  refine wc_region ?_
  refine wl_val (.slice s.ptr m s.cap) rfl (fun _ => rfl) ?_
  simp only [Act.put, Xa, Xz, Xs]
  refine wl_val (.slice s.ptr m s.cap) rfl (fun _ => rfl) ?_
  simp only [Act.put, Xa, Xz, Xs]
  refine wl_nil ?_
  refine we_then ?_
  refine wc_ret ?_
  refine we_ret1 (.slice s.ptr m s.cap) rfl rfl rfl (fun w1 hE => ?_)
  have e1 : i = zk5.L.length := by omega
  rw [e1, List.take_length] at b2 b3
  have e2 : fitL (winG k (H[gi.toNat]!)) lo hi zk5.L = fitG k G H f lo hi gi X := by
   unfold fitG
   by_cases h : 0 ≤ gi ∧ gi < H.length
   ·
    rw [if_pos h, k5.1, if_pos h]
   ·
    rw [if_neg h, k5.1, if_neg h]; rfl
  rw [e2] at b2 b3
  subst b2
  exact ⟨⟨s.ptr, fitG k G H f lo hi gi X, s.cap, s.rows 2⟩, ⟨rfl, held_own b3⟩, rfl, Env.tail hE (List.Sublist.cons _ (List.Sublist.cons _ (List.Sublist.cons _ (List.Sublist.cons _ (List.Sublist.append_left (List.nil_sublist _) _)))))⟩
 ·
  skip
  have p6 : (i : Int) < (zk5.L.length : Int) := of_decide_eq_true h6
  refine wc_true rfl ?_
  refine wc_skip ?_
  refine we_then ?_
  refine wc_seq ?_
  refine wc_block ?_
  refine wc_seq ?_
  have hgr : 0 ≤ gi ∧ gi < H.length := Classical.byContradiction (fun h => by have := lem h; omega)
  have lm : ∀ i, i < zk5.L.length → _ := fun i hi => at_lim (lim hgr) hi
  have gl := hM.grps gi.toNat (by omega)
  have gm1 : 0 ≤ (H[gi.toNat]!).acc ∧ (H[gi.toNat]!).acc ≤ 1048576 := ⟨gl.acc0, gl.accn⟩
  have gm2 : 0 ≤ (H[gi.toNat]!).slack ∧ (H[gi.toNat]!).slack ≤ 16777216 := ⟨gl.sl0, gl.sln⟩
  refine wc_region ?_
  refine wl_read (eaddr zk5.p (i * 1)) rfl (er_index i 1 (sl_held k5.2 (List.Sublist.cons _ (List.Sublist.cons _ (List.Sublist.cons _ (List.Sublist.cons _ (List.sublist_append_of_sublist_right (List.Sublist.refl _))))))) rfl rfl rfl rfl (by omega) (flat_length (enc := enc1) (size := 1) (fun _ => rfl) _) (by decide) Try.underlying46 (by kernel_rfl)) ?_
  simp only [Act.put, Xa, Xz, Xs]
  refine wl_read (.int .i64 (zk5.L[i]!)) rfl (er_cell (i * 1) (.int .i64 (zk5.L[i]!)) (sl_held k5.2 (List.Sublist.cons _ (List.Sublist.cons _ (List.Sublist.cons _ (List.Sublist.cons _ (List.sublist_append_of_sublist_right (List.Sublist.refl _))))))) rfl rfl (flat_cell (enc := enc1) (fun _ => rfl) zk5.L i 0 (by omega) (by decide)) Try.isAgg2) ?_
  simp only [Act.put, Xa, Xz, Xs]
  refine wl_val (.int .i64 (zk5.L[i]!)) rfl (fun _ => rfl) ?_
  simp only [Act.put, Xa, Xz, Xs]
  refine wl_nil ?_
  refine we_then ?_
  refine wc_seq ?_
  refine wc_draw [.plain, .late, .plain, .late, .plain, .plain, .late, .plain, .plain] none [] 38 (by kernel_rfl) rfl (by kernel_rfl) (by kernel_rfl) ?_
  refine ws_load 31 (.tmp 5) (own_row 3 rfl) rfl rfl rfl rfl Try.underlying31 rfl (by kernel_rfl) ?_
  simp only [Nat.reduceAdd, Act.put, Xa, Xz, Xs]
  refine ws_late (.pointer (some ⟨g2, 1, none⟩)) rfl rfl (fun _ => by go_simp) ?_
  simp only [Nat.reduceAdd, Act.put, Xa, Xz, Xs]
  refine ws_cell 33 (.tmp 24) (.slice q H.length d) (own_row 2 rfl) rfl rfl rfl rfl rfl Try.isAgg33 ?_
  simp only [Nat.reduceAdd, Act.put, Xa, Xz, Xs]
  refine ws_late (.int .i64 gi) rfl rfl (fun _ => rfl) ?_
  simp only [Nat.reduceAdd, Act.put, Xa, Xz, Xs]
  refine ws_read (eaddr q ((gi.toNat) * 5)) rfl rfl (er_index (gi.toNat) 5 (sl_old hH) rfl rfl rfl (by omega) (by omega) (flat_length (enc := gp) (size := 5) (fun _ => rfl) _) (by decide) Try.underlying33 (by kernel_rfl)) ?_
  simp only [Nat.reduceAdd, Act.put, Xa, Xz, Xs]
  refine ws_read (.agg #[.int .i64 ((H[gi.toNat]!).id), .int .i64 ((H[gi.toNat]!).seg), .int .i64 ((H[gi.toNat]!).off), .int .i64 ((H[gi.toNat]!).acc), .int .i64 ((H[gi.toNat]!).slack)]) rfl rfl (er_part ((gi.toNat) * 5) [.int .i64 ((H[gi.toNat]!).id), .int .i64 ((H[gi.toNat]!).seg), .int .i64 ((H[gi.toNat]!).off), .int .i64 ((H[gi.toNat]!).acc), .int .i64 ((H[gi.toNat]!).slack)] (sl_old hH) rfl rfl (flat_part (enc := gp) (fun _ => rfl) H (gi.toNat) (by omega)) (Nat.zero_lt_succ _) Try.underlying60 rfl (by kernel_rfl)) ?_
  simp only [Nat.reduceAdd, Act.put, Xa, Xz, Xs]
  refine ws_late (.int .i64 (zk5.L[i]!)) rfl rfl (fun _ => rfl) ?_
  simp only [Nat.reduceAdd, Act.put, Xa, Xz, Xs]
  refine ws_load 23 (.tmp 8) (own_row 0 rfl) rfl rfl rfl rfl Try.underlying23 rfl (by kernel_rfl) ?_
  simp only [Nat.reduceAdd, Act.put, Xa, Xz, Xs]
  refine ws_call 30 #[.agg #[.int .i64 k.pu, .int .i64 k.lo, .int .i64 k.hi, .int .i64 k.rb, .int .i64 k.rp, .int .i64 k.ae, .int .i64 k.ms, .int .i64 k.ma, .int .i64 k.an, .int .i64 k.st, .int .i64 k.ss, .int .i64 k.ro, .int .i64 k.ti, .int .i64 k.br], .agg #[.int .i64 ((H[gi.toNat]!).id), .int .i64 ((H[gi.toNat]!).seg), .int .i64 ((H[gi.toNat]!).off), .int .i64 ((H[gi.toNat]!).acc), .int .i64 ((H[gi.toNat]!).slack)], .int .i64 (zk5.L[i]!), .agg #[.int .i64 lo, .int .i64 hi]] (.bool (near (winG k (H[gi.toNat]!)) lo hi (zk5.L[i]!))) rfl rfl (fun _ => by go_simp) (fun W => fits_any k (H[gi.toNat]!) (zk5.L[i]!) lo hi W hk gm1 gm2 hp (lm i (by omega))) ?_
  simp only [Nat.reduceAdd, Act.put, Xa, Xz, Xs]
  refine ws_nil [] trivial (by simp) ?_
  intro ps7
  simp only [fin, List.foldl_nil, List.map, List.nil_append]
  refine we_then ?_
  cases h8 : (near (winG k (H[gi.toNat]!)) lo hi (zk5.L[i]!))
  ·
   skip
   refine wc_false rfl ?_
   refine wc_skip ?_
   refine we_in ?_
   refine we_then ?_
   refine wc_region ?_
   refine wl_val (.int .i64 ((i + 1 : Nat) : Int)) rfl (fun w => run_nat (X := i) (Y := 1) (Z := i + 1) rfl rfl rfl rfl (by omega) w) ?_
   simp only [Act.put, Xa, Xz, Xs]
   refine wl_val (.int .i64 ((i + 1 : Nat) : Int)) rfl (fun _ => rfl) ?_
   simp only [Act.put, Xa, Xz, Xs]
   refine wl_nil ?_
   exact we_meet ⟨(i + 1), m, s, _, _, _, _, _, _, _, _, _, _, _, _, _, _, _, _, _, _⟩ (by (try dsimp only); exact ⟨⟨by omega, by rw [fno (by omega) h8]; exact b2, by rw [fno (by omega) h8]; exact b3⟩, by omega⟩) rfl (List.Sublist.cons_cons _ (List.Sublist.cons_cons _ (List.Sublist.cons_cons _ (List.Sublist.cons_cons _ (List.Sublist.refl _)))))
  ·
   skip
   refine wc_true rfl ?_
   refine wc_region ?_
   refine wl_val (.slice s.ptr m s.cap) rfl (fun _ => rfl) ?_
   simp only [Act.put, Xa, Xz, Xs]
   refine wl_val (.int .i64 (zk5.L[i]!)) rfl (fun _ => rfl) ?_
   simp only [Act.put, Xa, Xz, Xs]
   refine wl_lit (e := 2) #[.int .i64 (zk5.L[i]!)] 1 rfl (fun _ => by go_simp) ?_
   intro g9
   simp only [Act.put, Xa, Xz, Xs]
   refine wl_append (e := 2) (size := 1) (bytes := 8) (m := 1) [⟨g9, #[.int .i64 (zk5.L[i]!)], 2⟩, ⟨g4, #[.int .i64 lo, .int .i64 hi], 23⟩, ⟨g3, #[.int .i64 f, .slice ps X.length cs], 41⟩, ⟨g2, #[.slice p G.length c, .slice q H.length d], 35⟩, ⟨g1, #[.int .i64 k.pu, .int .i64 k.lo, .int .i64 k.hi, .int .i64 k.rb, .int .i64 k.rp, .int .i64 k.ae, .int .i64 k.ms, .int .i64 k.ma, .int .i64 k.an, .int .i64 k.st, .int .i64 k.ss, .int .i64 k.ro, .int .i64 k.ti, .int .i64 k.br], 31⟩] zk5.N s (ys := [.int .i64 (zk5.L[i]!)]) rfl b3 (sl_row 0 rfl) rfl (by simp [Value.oneCell']) rfl rfl rfl rfl Try.underlying46 (by unfold Elem; kernel_rfl) (by decide) (by unfold maxLen; omega) (by omega) ?_
   intro s10 hs10
   simp only [List.cons_append, List.nil_append, Act.put, Xa, Xz, Xs]
   refine wl_val (.slice s10.ptr (m + 1) s10.cap) rfl (fun _ => rfl) ?_
   simp only [Act.put, Xa, Xz, Xs]
   refine wl_nil ?_
   refine we_in ?_
   refine we_then ?_
   refine wc_region ?_
   refine wl_val (.int .i64 ((i + 1 : Nat) : Int)) rfl (fun w => run_nat (X := i) (Y := 1) (Z := i + 1) rfl rfl rfl rfl (by omega) w) ?_
   simp only [Act.put, Xa, Xz, Xs]
   refine wl_val (.int .i64 ((i + 1 : Nat) : Int)) rfl (fun _ => rfl) ?_
   simp only [Act.put, Xa, Xz, Xs]
   refine wl_nil ?_
   exact we_meet ⟨(i + 1), (m + 1), s10, _, _, _, _, _, _, _, _, _, _, _, _, _, _, _, _, _, _⟩ (by (try dsimp only); exact ⟨⟨by omega, by rw [fyes (by omega) h8, List.length_append, ← b2]; rfl, by rw [fyes (by omega) h8]; exact has_snoc hs10⟩, by omega⟩) rfl (List.Sublist.cons _ (List.Sublist.cons_cons _ (List.Sublist.cons_cons _ (List.Sublist.cons_cons _ (List.Sublist.cons_cons _ (List.Sublist.refl _))))))
end Go.Proofs.Ytjbhlcklgmgdpaa.Lnk
