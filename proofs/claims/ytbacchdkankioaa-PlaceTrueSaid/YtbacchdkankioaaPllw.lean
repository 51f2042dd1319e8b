/-
  The laws of layer 21: their example. No condition.
-/
import Derived.Test.YtbacchdkankioaaPla
import Derived.Test.YtbacchdkankioaaMrl
import Derived.Test.YtbacchdkankioaaMsf
namespace Go.Proofs.Ytbacchdkankioaa.Pllw
open Go.ChangeShapes Go.WideShapes Go.ChangeAt Go.RowKit
open Arr Steady Sx Sw Sl Sb Sc Si Sj Sk Sh Vs Gr Tk Tkh Tkl Rt Rtm Rtg Rtp Rtk Rts Rtsm Shh Sfn Cf Plm Rtlc
set_option linter.unusedVariables false
set_option linter.unusedSimpArgs false
set_option maxRecDepth 100000

theorem usual_ok : wrong (⟨1024, 131072, 131072, 0, 0, 0, 1000, 100, 3, 1, 128, 0, 5, 1⟩ : Cf) = 0 := by decide
def exG (a : Option Addr) : List Sg := [⟨900, a, [(0, 0)], 1, none, [], 0⟩]
def exH : List Gp := [⟨1, 0, 125, 2, 0⟩]
theorem may_ex (a : Option Addr) : TrackMay (exG a) exH := by
  have mp : May [(0, 0)] 900 := ⟨by simp, by simp, by simp, fun i hi => by
    obtain rfl : i = 0 := by simpa using hi
    exact ⟨by simp, by simp, by simp, fun h => by omega⟩⟩
  refine ⟨⟨by simp [exG], by simp [exG], by simp [exH]⟩, fun j hj => ?_, fun j hj => ?_⟩
  · obtain rfl : j = 0 := by simpa [exG] using hj
    exact ⟨by simp [exG], by simp [exG], mp, by simp [exG], fun j hj => by simp [exG] at hj, fun h => by simp [exG] at h⟩
  · obtain rfl : j = 0 := by simpa [exH] using hj
    exact ⟨by simp [exH, lastId], by simp [exH], by simp [exH], by simp [exH, exG], by simp [exH], by simp [exH, exG], by simp [exH], by simp [exH], by simp [exH], by simp [exH]⟩
theorem oks_ex {W : World} {a : Option Addr} (h : Reads W a [.int .i64 0, .int .i64 0]) : OkS W (exG a) := by
  intro s hs
  obtain rfl : s = ⟨900, a, [(0, 0)], 1, none, [], 0⟩ := by simpa [exG] using hs
  exact ⟨h, reads_nil _ _, by simp, by simp⟩
theorem reset_ex (p q a : Option Addr) (w : World) (hS : Reads w p [.int .i64 900, .slice a 1 1, .slice none 0 0]) (hA : Reads w a [.int .i64 0, .int .i64 0]) (hH : Reads w q [.int .i64 1, .int .i64 0, .int .i64 125, .int .i64 2, .int .i64 0]) :
    Calls Try.prog 9 #[.agg #[.int .i64 1024, .int .i64 131072, .int .i64 131072, .int .i64 0, .int .i64 0, .int .i64 0, .int .i64 1000, .int .i64 100, .int .i64 3, .int .i64 1, .int .i64 128, .int .i64 0, .int .i64 5, .int .i64 1], .agg #[.slice p 1 1, .slice q 1 1], .int .i64 0, .agg #[.int .i64 10, .int .i64 20]] w fun e w' => ∃ z : Pz, True ∧ e = .returned (.agg #[.bool true, .int .i64 0, .int .i64 (-5), .int .i64 25, .int .i64 10, .int .i64 125, .slice z.p 1 z.c]) ∧ Env w w' z.N := by
  refine (Pla.reset_any (⟨1024, 131072, 131072, 0, 0, 0, 1000, 100, 3, 1, 128, 0, 5, 1⟩ : Cf) 0 10 20 (exG a) exH p q 1 1 w (ok_of usual_ok) hS (oks_ex hA) hH (may_ex a) (by simp [exH]) (by decide)).mono ?_
  rintro e w' ⟨z, hz, rfl, hE⟩
  exact ⟨z, trivial, rfl, hE⟩
set_option maxHeartbeats 4000000 in
theorem anchor_any  (w : World) :
    Calls Try.prog 5 #[] w fun e w' => e = .returned (.bool true) ∧ Below w.heap.size w w' := by
  refine calls_sx Try.func5 rfl ?_
  simp only [Try.ntmps5, List.size_toArray, List.length_nil, Nat.reduceSub, Array.replicate_succ, Array.replicate_zero, List.push_toArray, List.append_toArray, List.nil_append, List.cons_append]
  refine wc_seq ?_
  refine wc_region ?_
  refine wl_val (.bool false) rfl (fun _ => rfl) ?_
  simp only [Act.put, Xa, Xz]
  refine wl_nil ?_
  refine we_then ?_
  refine wc_seq ?_
  refine wc_region ?_
  refine wl_val (.agg #[.int .i64 1024, .int .i64 131072, .int .i64 131072, .int .i64 0, .int .i64 0, .int .i64 0, .int .i64 1000, .int .i64 100, .int .i64 3, .int .i64 1, .int .i64 128, .int .i64 0, .int .i64 5, .int .i64 1]) rfl (fun _ => by go_simp) ?_
  simp only [Act.put, Xa, Xz, Xs]
  refine wl_new 23 (#[.int .i64 0, .int .i64 0, .int .i64 0, .int .i64 0, .int .i64 0, .int .i64 0, .int .i64 0, .int .i64 0, .int .i64 0, .int .i64 0, .int .i64 0, .int .i64 0, .int .i64 0, .int .i64 0]) rfl (fun _ => by go_simp) ?_
  intro g1
  simp only [Act.put, Xa, Xz, Xs]
  refine wl_store 0 23 (.tmp 1) (.tmp 4) (#[.int .i64 1024, .int .i64 131072, .int .i64 131072, .int .i64 0, .int .i64 0, .int .i64 0, .int .i64 1000, .int .i64 100, .int .i64 3, .int .i64 1, .int .i64 128, .int .i64 0, .int .i64 5, .int .i64 1]) rfl rfl rfl rfl rfl (by kernel_rfl) rfl (by simp [Value.oneCell']) ?_
  simp only [Act.put, List.set_cons_zero]
  refine wl_nil ?_
  refine we_then ?_
  refine wc_seq ?_
  refine wc_region ?_
  refine wl_val (.agg #[.int .i64 0, .int .i64 0]) rfl (fun _ => by go_simp) ?_
  simp only [Act.put, Xa, Xz, Xs]
  refine wl_lit (e := 74) #[.int .i64 0, .int .i64 0] 1 rfl (fun _ => by go_simp) ?_
  intro g2
  simp only [Act.put, Xa, Xz, Xs]
  refine wl_val (.agg #[.int .i64 900, .slice (some ⟨g2, 0, none⟩) 1 1, .slice none 0 0]) rfl (fun _ => by go_simp) ?_
  simp only [Act.put, Xa, Xz, Xs]
  refine wl_lit (e := 66) #[.int .i64 900, .slice (some ⟨g2, 0, none⟩) 1 1, .slice none 0 0] 1 rfl (fun _ => by go_simp) ?_
  intro g3
  simp only [Act.put, Xa, Xz, Xs]
  refine wl_val (.agg #[.int .i64 1, .int .i64 0, .int .i64 125, .int .i64 2, .int .i64 0]) rfl (fun _ => by go_simp) ?_
  simp only [Act.put, Xa, Xz, Xs]
  refine wl_lit (e := 62) #[.int .i64 1, .int .i64 0, .int .i64 125, .int .i64 2, .int .i64 0] 1 rfl (fun _ => by go_simp) ?_
  intro g4
  simp only [Act.put, Xa, Xz, Xs]
  refine wl_val (.agg #[.slice (some ⟨g3, 0, none⟩) 1 1, .slice (some ⟨g4, 0, none⟩) 1 1]) rfl (fun _ => by go_simp) ?_
  simp only [Act.put, Xa, Xz, Xs]
  refine wl_new 27 (#[.slice none 0 0, .slice none 0 0]) rfl (fun _ => by go_simp) ?_
  intro g5
  simp only [Act.put, Xa, Xz, Xs]
  refine wl_store 0 27 (.tmp 2) (.tmp 11) (#[.slice (some ⟨g3, 0, none⟩) 1 1, .slice (some ⟨g4, 0, none⟩) 1 1]) rfl rfl rfl rfl rfl (by kernel_rfl) rfl (by simp [Value.oneCell']) ?_
  simp only [Act.put, List.set_cons_zero]
  refine wl_nil ?_
  refine we_then ?_
  refine wc_seq ?_
  refine wc_region ?_
  refine wl_load 23 (.tmp 1) (own_row 4 rfl) rfl rfl rfl Try.underlying23 rfl (by kernel_rfl) ?_
  simp only [Act.put, Xa, Xz, Xs]
  refine wl_load 27 (.tmp 2) (own_row 0 rfl) rfl rfl rfl Try.underlying27 rfl (by kernel_rfl) ?_
  simp only [Act.put, Xa, Xz, Xs]
  refine wl_val (.agg #[.int .i64 10, .int .i64 20]) rfl (fun _ => by go_simp) ?_
  simp only [Act.put, Xa, Xz, Xs]
  refine wl_call_open (ι := Pz) (fun zz => match zz with | zk6 => ⟨g5, #[.slice (some ⟨g3, 0, none⟩) 1 1, .slice (some ⟨g4, 0, none⟩) 1 1], 27⟩ :: ⟨g4, #[.int .i64 1, .int .i64 0, .int .i64 125, .int .i64 2, .int .i64 0], 62⟩ :: ⟨g3, #[.int .i64 900, .slice (some ⟨g2, 0, none⟩) 1 1, .slice none 0 0], 66⟩ :: ⟨g2, #[.int .i64 0, .int .i64 0], 74⟩ :: ⟨g1, #[.int .i64 1024, .int .i64 131072, .int .i64 131072, .int .i64 0, .int .i64 0, .int .i64 0, .int .i64 1000, .int .i64 100, .int .i64 3, .int .i64 1, .int .i64 128, .int .i64 0, .int .i64 5, .int .i64 1], 23⟩ :: zk6.N) 9 #[.agg #[.int .i64 1024, .int .i64 131072, .int .i64 131072, .int .i64 0, .int .i64 0, .int .i64 0, .int .i64 1000, .int .i64 100, .int .i64 3, .int .i64 1, .int .i64 128, .int .i64 0, .int .i64 5, .int .i64 1], .agg #[.slice (some ⟨g3, 0, none⟩) 1 1, .slice (some ⟨g4, 0, none⟩) 1 1], .int .i64 0, .agg #[.int .i64 10, .int .i64 20]] (fun zz => match zz with | zk6 => .agg #[.bool true, .int .i64 0, .int .i64 (-5), .int .i64 25, .int .i64 10, .int .i64 125, .slice zk6.p 1 zk6.c]) (fun zz => match zz with | zk6 => zk6.N) (fun zz => match zz with | zk6 => True) (by rintro zk6; simp) rfl (fun _ => by go_simp) (fun W hE => reset_ex _ _ _ W ((sl_row 2 rfl) W hE) ((sl_row 3 rfl) W hE) ((sl_row 1 rfl) W hE)) ?_
  rintro zk6 k6
  (try dsimp only)
  simp only [Act.put, Xa, Xz, Xs]
  refine wl_new 38 (#[.bool false, .int .i64 0, .int .i64 0, .int .i64 0, .int .i64 0, .int .i64 0, .slice none 0 0]) rfl (fun _ => by go_simp) ?_
  intro g7
  simp only [Act.put, Xa, Xz, Xs]
  refine wl_store 0 38 (.tmp 3) (.tmp 15) (#[.bool true, .int .i64 0, .int .i64 (-5), .int .i64 25, .int .i64 10, .int .i64 125, .slice zk6.p 1 zk6.c]) rfl rfl rfl rfl rfl (by kernel_rfl) rfl (by simp [Value.oneCell']) ?_
  simp only [Act.put, List.set_cons_zero]
  refine wl_nil ?_
  refine we_then ?_
  refine wc_seq ?_
  refine wc_region ?_
  refine wl_val (.pointer (some ⟨g7, 0, none⟩)) rfl (fun _ => by go_simp) ?_
  simp only [Act.put, Xa, Xz, Xs]
  refine wl_cell 4 (.tmp 16) (.bool true) (own_row 0 rfl) rfl rfl rfl rfl Try.isAgg4 ?_
  simp only [Act.put, Xa, Xz, Xs]
  refine wl_val (.bool true) rfl (fun _ => rfl) ?_
  simp only [Act.put, Xa, Xz, Xs]
  refine wl_val (.pointer (some ⟨g7, 2, none⟩)) rfl (fun _ => by go_simp) ?_
  simp only [Act.put, Xa, Xz, Xs]
  refine wl_part 32 (.tmp 19) [.int .i64 (-5), .int .i64 25] (own_row 0 rfl) rfl rfl rfl rfl Try.underlying32 rfl (by kernel_rfl) ?_
  simp only [Act.put, Xa, Xz, Xs]
  refine wl_val (.agg #[.int .i64 (-5), .int .i64 25]) rfl (fun _ => by go_simp) ?_
  simp only [Act.put, Xa, Xz, Xs]
  refine wl_val (.bool true) rfl (fun _ => by go_simp) ?_
  simp only [Act.put, Xa, Xz, Xs]
  refine wl_val (.bool true) rfl (fun _ => rfl) ?_
  simp only [Act.put, Xa, Xz, Xs]
  refine wl_val (.bool true) rfl (fun _ => rfl) ?_
  simp only [Act.put, Xa, Xz, Xs]
  refine wl_val (.pointer (some ⟨g7, 4, none⟩)) rfl (fun _ => by go_simp) ?_
  simp only [Act.put, Xa, Xz, Xs]
  refine wl_cell 2 (.tmp 25) (.int .i64 10) (own_row 0 rfl) rfl rfl rfl rfl Try.isAgg2 ?_
  simp only [Act.put, Xa, Xz, Xs]
  refine wl_val (.bool true) rfl (fun w => run_cmp rfl rfl rfl Try.underlying2 rfl w) ?_
  simp only [Act.put, Xa, Xz, Xs]
  refine wl_val (.bool true) rfl (fun _ => rfl) ?_
  simp only [Act.put, Xa, Xz, Xs]
  refine wl_val (.bool true) rfl (fun _ => rfl) ?_
  simp only [Act.put, Xa, Xz]
  refine wl_nil ?_
  refine we_then ?_
  refine wc_ret ?_
  refine we_ret1 (.bool true) rfl rfl rfl (fun w1 hE => ?_)
  exact ⟨rfl, hE.below⟩
end Go.Proofs.Ytbacchdkankioaa.Pllw
