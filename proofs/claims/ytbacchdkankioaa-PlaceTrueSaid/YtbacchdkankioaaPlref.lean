/-
 The reference of layer 21: Reset, Move. Condition: at most 2^47 of each.
-/
import Derived.Test.YtbacchdkankioaaPlm
import Derived.Test.YtbacchdkankioaaRtgrow
import Derived.Test.YtbacchdkankioaaMfz
import Derived.Test.YtbacchdkankioaaMrt
import Derived.Test.YtbacchdkankioaaMsf
namespace Go.Proofs.Ytbacchdkankioaa.Plref
open Go.ChangeShapes Go.WideShapes Go.ChangeAt Go.RowKit
open Arr Steady Sx Sw Sl Sb Sc Si Sj Sk Sh Vs Gr Tk Tkh Tkl Rt Rtm Rtg Rtp Rtk Rts Rtsm Sfn Cf Plm
set_option linter.unusedVariables false
set_option linter.unusedSimpArgs false
set_option maxRecDepth 100000

/-- What the reference's Reset hands back. -/
structure Rz where
 x : Ix
 p : Option Addr
 c : Nat
 N : List Rw
structure RzOk (s : Int) (z : Rz) : Prop where
 X : z.x.X = [s]
 held : Held z.N z.p (flat ix [z.x])
 each : HeldI z.N [z.x]
set_option maxHeartbeats 4000000 in
theorem reset_any (k : Cf) (gi lo hi : Int) (G : List Sg) (H : List Gp) (p q : Option Addr) (c d : Nat) (w : World) (hk : Ok k) (hS : Reads w p (flat sg G)) (hG : OkS w G) (hH : Reads w q (flat gp H)) (hn : G.length ≤ 140737488355328) (hm : H.length ≤ 140737488355328) (hM : TrackMay G H) (hgi : 0 ≤ gi ∧ gi < H.length) (hv : lo ≤ hi ∧ -k.ms ≤ lo ∧ hi ≤ k.ms) :
  Calls Try.prog 10 #[.agg #[.int .i64 k.pu, .int .i64 k.lo, .int .i64 k.hi, .int .i64 k.rb, .int .i64 k.rp, .int .i64 k.ae, .int .i64 k.ms, .int .i64 k.ma, .int .i64 k.an, .int .i64 k.st, .int .i64 k.ss, .int .i64 k.ro, .int .i64 k.ti, .int .i64 k.br], .agg #[.slice p G.length c, .slice q H.length d], .int .i64 gi, .int .i64 lo, .int .i64 hi] w fun e w' => ∃ z : Rz, RzOk (H[gi.toNat]!).seg z ∧ e = .returned (.agg #[.int .i64 1, .int .i64 gi, .int .i64 (-((H[gi.toNat]!).acc + k.an) + min lo 0), .int .i64 ((H[gi.toNat]!).acc + k.an + max hi 0), .int .i64 ((min lo 0 + max hi 0) / 2), .int .i64 (H[gi.toNat]!).off, .slice z.p 1 z.c]) ∧ Env w w' z.N := by
 have k1 := hk.an1
 have k2 := hk.an2
 have k3 := hk.ms1
 have k4 := hk.ms2
 refine calls_sx Try.func10 rfl ?_
 simp only [Try.ntmps10, List.size_toArray, List.length_cons, List.length_nil, Nat.reduceAdd, Nat.reduceSub, Array.replicate_succ, Array.replicate_zero, List.push_toArray, List.append_toArray, List.nil_append, List.cons_append]
 refine wc_seq ?_
 refine wc_region ?_
 refine wl_new 46 (#[.int .i64 k.pu, .int .i64 k.lo, .int .i64 k.hi, .int .i64 k.rb, .int .i64 k.rp, .int .i64 k.ae, .int .i64 k.ms, .int .i64 k.ma, .int .i64 k.an, .int .i64 k.st, .int .i64 k.ss, .int .i64 k.ro, .int .i64 k.ti, .int .i64 k.br]) rfl (fun _ => by go_simp) ?_
 intro g1
 simp only [Act.put, Xa, Xz, Xs]
 refine wl_new 50 (#[.slice p G.length c, .slice q H.length d]) rfl (fun _ => by go_simp) ?_
 intro g2
 simp only [Act.put, Xa, Xz, Xs]
 refine wl_new 44 (#[.int .i64 0, .int .i64 0, .int .i64 0, .int .i64 0, .int .i64 0, .int .i64 0, .slice none 0 0]) rfl (fun _ => by go_simp) ?_
 intro g3
 simp only [Act.put, Xa, Xz, Xs]
 refine wl_nil ?_
 refine we_then ?_
 refine wc_seq ?_
 have gk := hM.grps gi.toNat (by omega)
 have q3 := gk.off0
 have q4 := gk.offn
 have q5 := gk.acc0
 have q6 := gk.accn
 refine wc_region ?_
 refine wl_val (.pointer (some ⟨g2, 1, none⟩)) rfl (fun _ => by go_simp) ?_
 simp only [Act.put, Xa, Xz, Xs]
 refine wl_cell 48 (.tmp 14) (.slice q H.length d) (own_row 1 rfl) rfl rfl rfl rfl Try.isAgg48 ?_
 simp only [Act.put, Xa, Xz, Xs]
 refine wl_val (.int .i64 gi) rfl (fun _ => rfl) ?_
 simp only [Act.put, Xa, Xz, Xs]
 refine wl_read (eaddr q ((gi.toNat) * 5)) rfl (er_index (gi.toNat) 5 (sl_old hH) rfl rfl rfl (by omega) (by omega) (flat_length (enc := gp) (size := 5) (fun _ => rfl) _) (by decide) Try.underlying48 (by kernel_rfl)) ?_
 simp only [Act.put, Xa, Xz, Xs]
 refine wl_read (.agg #[.int .i64 ((H[gi.toNat]!).id), .int .i64 ((H[gi.toNat]!).seg), .int .i64 ((H[gi.toNat]!).off), .int .i64 ((H[gi.toNat]!).acc), .int .i64 ((H[gi.toNat]!).slack)]) rfl (er_part ((gi.toNat) * 5) [.int .i64 ((H[gi.toNat]!).id), .int .i64 ((H[gi.toNat]!).seg), .int .i64 ((H[gi.toNat]!).off), .int .i64 ((H[gi.toNat]!).acc), .int .i64 ((H[gi.toNat]!).slack)] (sl_old hH) rfl rfl (flat_part (enc := gp) (fun _ => rfl) H (gi.toNat) (by omega)) (Nat.zero_lt_succ _) Try.underlying84 rfl (by kernel_rfl)) ?_
 simp only [Act.put, Xa, Xz, Xs]
 refine wl_new 84 (#[.int .i64 0, .int .i64 0, .int .i64 0, .int .i64 0, .int .i64 0]) rfl (fun _ => by go_simp) ?_
 intro g4
 simp only [Act.put, Xa, Xz, Xs]
 refine wl_store 0 84 (.tmp 11) (.tmp 18) (#[.int .i64 ((H[gi.toNat]!).id), .int .i64 ((H[gi.toNat]!).seg), .int .i64 ((H[gi.toNat]!).off), .int .i64 ((H[gi.toNat]!).acc), .int .i64 ((H[gi.toNat]!).slack)]) rfl rfl rfl rfl rfl (by kernel_rfl) rfl (by simp [Value.oneCell']) ?_
 simp only [Act.put, List.set_cons_zero]
 refine wl_nil ?_
 refine we_then ?_
 refine wc_seq ?_
 refine wc_region ?_
 refine wl_val (.pointer (some ⟨g4, 3, none⟩)) rfl (fun _ => by go_simp) ?_
 simp only [Act.put, Xa, Xz, Xs]
 refine wl_cell 2 (.tmp 19) (.int .i64 ((H[gi.toNat]!).acc)) (own_row 0 rfl) rfl rfl rfl rfl Try.isAgg2 ?_
 simp only [Act.put, Xa, Xz, Xs]
 refine wl_val (.pointer (some ⟨g1, 8, none⟩)) rfl (fun _ => by go_simp) ?_
 simp only [Act.put, Xa, Xz, Xs]
 refine wl_cell 2 (.tmp 21) (.int .i64 k.an) (own_row 3 rfl) rfl rfl rfl rfl Try.isAgg2 ?_
 simp only [Act.put, Xa, Xz, Xs]
 refine wl_val (.int .i64 (((H[gi.toNat]!).acc) + k.an)) rfl (fun w => run_arith (op := .add) rfl rfl rfl Try.underlying2 (congrArg some (i64_in (by omega) (by omega))) w) ?_
 simp only [Act.put, Xa, Xz, Xs]
 refine wl_val (.int .i64 (((H[gi.toNat]!).acc) + k.an)) rfl (fun _ => rfl) ?_
 simp only [Act.put, Xa, Xz, Xs]
 refine wl_nil ?_
 refine we_then ?_
 refine wc_seq ?_
 refine wc_region ?_
 refine wl_val (.int .i64 gi) rfl (fun _ => rfl) ?_
 simp only [Act.put, Xa, Xz, Xs]
 refine wl_val (.int .i64 (((H[gi.toNat]!).acc) + k.an)) rfl (fun _ => rfl) ?_
 simp only [Act.put, Xa, Xz, Xs]
 refine wl_val (.int .i64 (-(((H[gi.toNat]!).acc) + k.an))) rfl (fun w => run_neg rfl rfl Try.underlying2 (i64_in (by omega) (by omega)) w) ?_
 simp only [Act.put, Xa, Xz, Xs]
 refine wl_val (.int .i64 (((H[gi.toNat]!).acc) + k.an)) rfl (fun _ => rfl) ?_
 simp only [Act.put, Xa, Xz, Xs]
 refine wl_val (.pointer (some ⟨g4, 2, none⟩)) rfl (fun _ => by go_simp) ?_
 simp only [Act.put, Xa, Xz, Xs]
 refine wl_cell 2 (.tmp 28) (.int .i64 ((H[gi.toNat]!).off)) (own_row 0 rfl) rfl rfl rfl rfl Try.isAgg2 ?_
 simp only [Act.put, Xa, Xz, Xs]
 refine wl_val (.pointer (some ⟨g4, 1, none⟩)) rfl (fun _ => by go_simp) ?_
 simp only [Act.put, Xa, Xz, Xs]
 refine wl_cell 3 (.tmp 30) (.int .i64 ((H[gi.toNat]!).seg)) (own_row 0 rfl) rfl rfl rfl rfl Try.isAgg3 ?_
 simp only [Act.put, Xa, Xz, Xs]
 refine wl_lit (e := 3) #[.int .i64 ((H[gi.toNat]!).seg)] 1 rfl (fun _ => by go_simp) ?_
 intro g5
 simp only [Act.put, Xa, Xz, Xs]
 refine wl_lit (e := 63) #[.slice (some ⟨g5, 0, none⟩) 1 1] 1 rfl (fun _ => by go_simp) ?_
 intro g6
 simp only [Act.put, Xa, Xz, Xs]
 refine wl_val (.agg #[.int .i64 ((H[gi.toNat]!).off), .slice (some ⟨g6, 0, none⟩) 1 1]) rfl (fun _ => by go_simp) ?_
 simp only [Act.put, Xa, Xz, Xs]
 refine wl_val (.agg #[.int .i64 1, .int .i64 gi, .int .i64 (-(((H[gi.toNat]!).acc) + k.an)), .int .i64 (((H[gi.toNat]!).acc) + k.an), .int .i64 0, .int .i64 ((H[gi.toNat]!).off), .slice (some ⟨g6, 0, none⟩) 1 1]) rfl (fun _ => by go_simp) ?_
 simp only [Act.put, Xa, Xz, Xs]
 refine wl_new 44 (#[.int .i64 0, .int .i64 0, .int .i64 0, .int .i64 0, .int .i64 0, .int .i64 0, .slice none 0 0]) rfl (fun _ => by go_simp) ?_
 intro g7
 simp only [Act.put, Xa, Xz, Xs]
 refine wl_store 0 44 (.tmp 13) (.tmp 35) (#[.int .i64 1, .int .i64 gi, .int .i64 (-(((H[gi.toNat]!).acc) + k.an)), .int .i64 (((H[gi.toNat]!).acc) + k.an), .int .i64 0, .int .i64 ((H[gi.toNat]!).off), .slice (some ⟨g6, 0, none⟩) 1 1]) rfl rfl rfl rfl rfl (by kernel_rfl) rfl (by simp [Value.oneCell']) ?_
 simp only [Act.put, List.set_cons_zero]
 refine wl_nil ?_
 refine we_then ?_
 refine wc_seq ?_
 refine wc_seq ?_
 refine wc_region ?_
 refine wl_val (.int .i64 lo) rfl (fun _ => rfl) ?_
 simp only [Act.put, Xa, Xz, Xs]
 refine wl_val (.bool (decide (lo < 0))) rfl (fun w => run_cmp rfl rfl rfl Try.underlying2 rfl w) ?_
 simp only [Act.put, Xa, Xz, Xs]
 refine wl_nil ?_
 refine we_then ?_
 cases h8 : (decide (lo < 0))
 ·
  skip
  have p8 : ¬ (lo < 0) := of_decide_eq_false h8
  refine wc_false rfl ?_
  refine wc_skip ?_
  refine we_then ?_
  refine wc_seq ?_
  refine wc_seq ?_
  refine wc_region ?_
  refine wl_val (.int .i64 hi) rfl (fun _ => rfl) ?_
  simp only [Act.put, Xa, Xz, Xs]
  refine wl_val (.bool (decide (0 < hi))) rfl (fun w => run_cmp rfl rfl rfl Try.underlying2 rfl w) ?_
  simp only [Act.put, Xa, Xz, Xs]
  refine wl_nil ?_
  refine we_then ?_
  cases h9 : (decide (0 < hi))
  ·
   skip
   have p9 : ¬ (0 < hi) := of_decide_eq_false h9
   refine wc_false rfl ?_
   refine wc_skip ?_
   refine we_then ?_
   refine wc_seq ?_
   refine wc_region ?_
   refine wl_val (.pointer (some ⟨g7, 2, none⟩)) rfl (fun _ => by go_simp) ?_
   simp only [Act.put, Xa, Xz, Xs]
   refine wl_cell 2 (.tmp 50) (.int .i64 (-(((H[gi.toNat]!).acc) + k.an))) (own_row 0 rfl) rfl rfl rfl rfl Try.isAgg2 ?_
   simp only [Act.put, Xa, Xz, Xs]
   refine wl_val (.pointer (some ⟨g7, 3, none⟩)) rfl (fun _ => by go_simp) ?_
   simp only [Act.put, Xa, Xz, Xs]
   refine wl_cell 2 (.tmp 52) (.int .i64 (((H[gi.toNat]!).acc) + k.an)) (own_row 0 rfl) rfl rfl rfl rfl Try.isAgg2 ?_
   simp only [Act.put, Xa, Xz, Xs]
   refine wl_call 25 #[.int .i64 (-(((H[gi.toNat]!).acc) + k.an)), .int .i64 (((H[gi.toNat]!).acc) + k.an)] (.int .i64 (((-(((H[gi.toNat]!).acc) + k.an)) + (((H[gi.toNat]!).acc) + k.an)) / 2)) rfl (fun _ => by go_simp) (fun W => Fzref.mid_any (-(((H[gi.toNat]!).acc) + k.an)) (((H[gi.toNat]!).acc) + k.an) W (by omega) (by omega) (by omega) (by omega)) ?_
   simp only [Act.put, Xa, Xz, Xs]
   refine wl_val (.pointer (some ⟨g7, 4, none⟩)) rfl (fun _ => by go_simp) ?_
   simp only [Act.put, Xa, Xz, Xs]
   refine wl_store_cell 0 2 (.tmp 55) (.tmp 54) (.int .i64 0) (.int .i64 (((-(((H[gi.toNat]!).acc) + k.an)) + (((H[gi.toNat]!).acc) + k.an)) / 2)) rfl rfl rfl rfl rfl rfl (by kernel_rfl) rfl ?_
   simp only [Act.put, List.set_cons_zero]
   refine wl_nil ?_
   refine we_then ?_
   refine wc_seq ?_
   refine wc_region ?_
   refine wl_load 44 (.tmp 13) (own_row 0 rfl) rfl rfl rfl Try.underlying44 rfl (by kernel_rfl) ?_
   simp only [Act.put, Xa, Xz, Xs]
   refine wl_store 4 44 (.tmp 10) (.tmp 56) (#[.int .i64 1, .int .i64 gi, .int .i64 (-(((H[gi.toNat]!).acc) + k.an)), .int .i64 (((H[gi.toNat]!).acc) + k.an), .int .i64 (((-(((H[gi.toNat]!).acc) + k.an)) + (((H[gi.toNat]!).acc) + k.an)) / 2), .int .i64 ((H[gi.toNat]!).off), .slice (some ⟨g6, 0, none⟩) 1 1]) rfl rfl rfl rfl rfl (by kernel_rfl) rfl (by simp [Value.oneCell']) ?_
   simp only [Act.put, List.set_cons_zero, List.set_cons_succ]
   refine wl_nil ?_
   refine we_then ?_
   refine wc_ret ?_
   refine we_ret_cell (own_row 4 rfl) rfl rfl rfl Try.underlying44 rfl (by kernel_rfl) (fun w1 hE => ?_)
   have e1 : -((H[gi.toNat]!).acc + k.an) + min lo 0 = -(((H[gi.toNat]!).acc) + k.an) := by omega
   have e2 : (H[gi.toNat]!).acc + k.an + max hi 0 = ((H[gi.toNat]!).acc) + k.an := by omega
   have e3 : (min lo 0 + max hi 0) / 2 = ((-(((H[gi.toNat]!).acc) + k.an)) + (((H[gi.toNat]!).acc) + k.an)) / 2 := by omega
   refine ⟨⟨⟨some ⟨g5, 0, none⟩, [(H[gi.toNat]!).seg], 1⟩, some ⟨g6, 0, none⟩, 1, [⟨g6, #[.slice (some ⟨g5, 0, none⟩) 1 1], 63⟩, ⟨g5, #[.int .i64 ((H[gi.toNat]!).seg)], 3⟩]⟩, ⟨rfl, held_top, fun x hx => by obtain rfl := List.mem_singleton.1 hx; exact held_sec⟩, ?_, hE.sub (List.Sublist.cons _ (List.Sublist.cons_cons _ (List.Sublist.cons_cons _ (List.Sublist.cons _ (List.Sublist.cons _ (List.Sublist.cons _ (List.Sublist.cons _ List.Sublist.slnil)))))))⟩
   rw [e1, e2, e3]
  ·
   skip
   have p9 : 0 < hi := of_decide_eq_true h9
   refine wc_true rfl ?_
   refine wc_region ?_
   refine wl_val (.pointer (some ⟨g7, 3, none⟩)) rfl (fun _ => by go_simp) ?_
   simp only [Act.put, Xa, Xz, Xs]
   refine wl_cell 2 (.tmp 45) (.int .i64 (((H[gi.toNat]!).acc) + k.an)) (own_row 0 rfl) rfl rfl rfl rfl Try.isAgg2 ?_
   simp only [Act.put, Xa, Xz, Xs]
   refine wl_val (.int .i64 hi) rfl (fun _ => rfl) ?_
   simp only [Act.put, Xa, Xz, Xs]
   refine wl_val (.int .i64 ((((H[gi.toNat]!).acc) + k.an) + hi)) rfl (fun w => run_arith (op := .add) rfl rfl rfl Try.underlying2 (congrArg some (i64_in (by omega) (by omega))) w) ?_
   simp only [Act.put, Xa, Xz, Xs]
   refine wl_val (.pointer (some ⟨g7, 3, none⟩)) rfl (fun _ => by go_simp) ?_
   simp only [Act.put, Xa, Xz, Xs]
   refine wl_store_cell 0 2 (.tmp 49) (.tmp 48) (.int .i64 (((H[gi.toNat]!).acc) + k.an)) (.int .i64 ((((H[gi.toNat]!).acc) + k.an) + hi)) rfl rfl rfl rfl rfl rfl (by kernel_rfl) rfl ?_
   simp only [Act.put, List.set_cons_zero]
   refine wl_nil ?_
   refine we_then ?_
   refine wc_seq ?_
   refine wc_region ?_
   refine wl_val (.pointer (some ⟨g7, 2, none⟩)) rfl (fun _ => by go_simp) ?_
   simp only [Act.put, Xa, Xz, Xs]
   refine wl_cell 2 (.tmp 50) (.int .i64 (-(((H[gi.toNat]!).acc) + k.an))) (own_row 0 rfl) rfl rfl rfl rfl Try.isAgg2 ?_
   simp only [Act.put, Xa, Xz, Xs]
   refine wl_val (.pointer (some ⟨g7, 3, none⟩)) rfl (fun _ => by go_simp) ?_
   simp only [Act.put, Xa, Xz, Xs]
   refine wl_cell 2 (.tmp 52) (.int .i64 ((((H[gi.toNat]!).acc) + k.an) + hi)) (own_row 0 rfl) rfl rfl rfl rfl Try.isAgg2 ?_
   simp only [Act.put, Xa, Xz, Xs]
   refine wl_call 25 #[.int .i64 (-(((H[gi.toNat]!).acc) + k.an)), .int .i64 ((((H[gi.toNat]!).acc) + k.an) + hi)] (.int .i64 (((-(((H[gi.toNat]!).acc) + k.an)) + ((((H[gi.toNat]!).acc) + k.an) + hi)) / 2)) rfl (fun _ => by go_simp) (fun W => Fzref.mid_any (-(((H[gi.toNat]!).acc) + k.an)) ((((H[gi.toNat]!).acc) + k.an) + hi) W (by omega) (by omega) (by omega) (by omega)) ?_
   simp only [Act.put, Xa, Xz, Xs]
   refine wl_val (.pointer (some ⟨g7, 4, none⟩)) rfl (fun _ => by go_simp) ?_
   simp only [Act.put, Xa, Xz, Xs]
   refine wl_store_cell 0 2 (.tmp 55) (.tmp 54) (.int .i64 0) (.int .i64 (((-(((H[gi.toNat]!).acc) + k.an)) + ((((H[gi.toNat]!).acc) + k.an) + hi)) / 2)) rfl rfl rfl rfl rfl rfl (by kernel_rfl) rfl ?_
   simp only [Act.put, List.set_cons_zero]
   refine wl_nil ?_
   refine we_then ?_
   refine wc_seq ?_
   refine wc_region ?_
   refine wl_load 44 (.tmp 13) (own_row 0 rfl) rfl rfl rfl Try.underlying44 rfl (by kernel_rfl) ?_
   simp only [Act.put, Xa, Xz, Xs]
   refine wl_store 4 44 (.tmp 10) (.tmp 56) (#[.int .i64 1, .int .i64 gi, .int .i64 (-(((H[gi.toNat]!).acc) + k.an)), .int .i64 ((((H[gi.toNat]!).acc) + k.an) + hi), .int .i64 (((-(((H[gi.toNat]!).acc) + k.an)) + ((((H[gi.toNat]!).acc) + k.an) + hi)) / 2), .int .i64 ((H[gi.toNat]!).off), .slice (some ⟨g6, 0, none⟩) 1 1]) rfl rfl rfl rfl rfl (by kernel_rfl) rfl (by simp [Value.oneCell']) ?_
   simp only [Act.put, List.set_cons_zero, List.set_cons_succ]
   refine wl_nil ?_
   refine we_then ?_
   refine wc_ret ?_
   refine we_ret_cell (own_row 4 rfl) rfl rfl rfl Try.underlying44 rfl (by kernel_rfl) (fun w1 hE => ?_)
   have e1 : -((H[gi.toNat]!).acc + k.an) + min lo 0 = -(((H[gi.toNat]!).acc) + k.an) := by omega
   have e2 : (H[gi.toNat]!).acc + k.an + max hi 0 = (((H[gi.toNat]!).acc) + k.an) + hi := by omega
   have e3 : (min lo 0 + max hi 0) / 2 = ((-(((H[gi.toNat]!).acc) + k.an)) + ((((H[gi.toNat]!).acc) + k.an) + hi)) / 2 := by omega
   refine ⟨⟨⟨some ⟨g5, 0, none⟩, [(H[gi.toNat]!).seg], 1⟩, some ⟨g6, 0, none⟩, 1, [⟨g6, #[.slice (some ⟨g5, 0, none⟩) 1 1], 63⟩, ⟨g5, #[.int .i64 ((H[gi.toNat]!).seg)], 3⟩]⟩, ⟨rfl, held_top, fun x hx => by obtain rfl := List.mem_singleton.1 hx; exact held_sec⟩, ?_, hE.sub (List.Sublist.cons _ (List.Sublist.cons_cons _ (List.Sublist.cons_cons _ (List.Sublist.cons _ (List.Sublist.cons _ (List.Sublist.cons _ (List.Sublist.cons _ List.Sublist.slnil)))))))⟩
   rw [e1, e2, e3]
 ·
  skip
  have p8 : lo < 0 := of_decide_eq_true h8
  refine wc_true rfl ?_
  refine wc_region ?_
  refine wl_val (.pointer (some ⟨g7, 2, none⟩)) rfl (fun _ => by go_simp) ?_
  simp only [Act.put, Xa, Xz, Xs]
  refine wl_cell 2 (.tmp 38) (.int .i64 (-(((H[gi.toNat]!).acc) + k.an))) (own_row 0 rfl) rfl rfl rfl rfl Try.isAgg2 ?_
  simp only [Act.put, Xa, Xz, Xs]
  refine wl_val (.int .i64 lo) rfl (fun _ => rfl) ?_
  simp only [Act.put, Xa, Xz, Xs]
  refine wl_val (.int .i64 ((-(((H[gi.toNat]!).acc) + k.an)) + lo)) rfl (fun w => run_arith (op := .add) rfl rfl rfl Try.underlying2 (congrArg some (i64_in (by omega) (by omega))) w) ?_
  simp only [Act.put, Xa, Xz, Xs]
  refine wl_val (.pointer (some ⟨g7, 2, none⟩)) rfl (fun _ => by go_simp) ?_
  simp only [Act.put, Xa, Xz, Xs]
  refine wl_store_cell 0 2 (.tmp 42) (.tmp 41) (.int .i64 (-(((H[gi.toNat]!).acc) + k.an))) (.int .i64 ((-(((H[gi.toNat]!).acc) + k.an)) + lo)) rfl rfl rfl rfl rfl rfl (by kernel_rfl) rfl ?_
  simp only [Act.put, List.set_cons_zero]
  refine wl_nil ?_
  refine we_then ?_
  refine wc_seq ?_
  refine wc_seq ?_
  refine wc_region ?_
  refine wl_val (.int .i64 hi) rfl (fun _ => rfl) ?_
  simp only [Act.put, Xa, Xz, Xs]
  refine wl_val (.bool (decide (0 < hi))) rfl (fun w => run_cmp rfl rfl rfl Try.underlying2 rfl w) ?_
  simp only [Act.put, Xa, Xz, Xs]
  refine wl_nil ?_
  refine we_then ?_
  cases h10 : (decide (0 < hi))
  ·
   skip
   have p10 : ¬ (0 < hi) := of_decide_eq_false h10
   refine wc_false rfl ?_
   refine wc_skip ?_
   refine we_then ?_
   refine wc_seq ?_
   refine wc_region ?_
   refine wl_val (.pointer (some ⟨g7, 2, none⟩)) rfl (fun _ => by go_simp) ?_
   simp only [Act.put, Xa, Xz, Xs]
   refine wl_cell 2 (.tmp 50) (.int .i64 ((-(((H[gi.toNat]!).acc) + k.an)) + lo)) (own_row 0 rfl) rfl rfl rfl rfl Try.isAgg2 ?_
   simp only [Act.put, Xa, Xz, Xs]
   refine wl_val (.pointer (some ⟨g7, 3, none⟩)) rfl (fun _ => by go_simp) ?_
   simp only [Act.put, Xa, Xz, Xs]
   refine wl_cell 2 (.tmp 52) (.int .i64 (((H[gi.toNat]!).acc) + k.an)) (own_row 0 rfl) rfl rfl rfl rfl Try.isAgg2 ?_
   simp only [Act.put, Xa, Xz, Xs]
   refine wl_call 25 #[.int .i64 ((-(((H[gi.toNat]!).acc) + k.an)) + lo), .int .i64 (((H[gi.toNat]!).acc) + k.an)] (.int .i64 ((((-(((H[gi.toNat]!).acc) + k.an)) + lo) + (((H[gi.toNat]!).acc) + k.an)) / 2)) rfl (fun _ => by go_simp) (fun W => Fzref.mid_any ((-(((H[gi.toNat]!).acc) + k.an)) + lo) (((H[gi.toNat]!).acc) + k.an) W (by omega) (by omega) (by omega) (by omega)) ?_
   simp only [Act.put, Xa, Xz, Xs]
   refine wl_val (.pointer (some ⟨g7, 4, none⟩)) rfl (fun _ => by go_simp) ?_
   simp only [Act.put, Xa, Xz, Xs]
   refine wl_store_cell 0 2 (.tmp 55) (.tmp 54) (.int .i64 0) (.int .i64 ((((-(((H[gi.toNat]!).acc) + k.an)) + lo) + (((H[gi.toNat]!).acc) + k.an)) / 2)) rfl rfl rfl rfl rfl rfl (by kernel_rfl) rfl ?_
   simp only [Act.put, List.set_cons_zero]
   refine wl_nil ?_
   refine we_then ?_
   refine wc_seq ?_
   refine wc_region ?_
   refine wl_load 44 (.tmp 13) (own_row 0 rfl) rfl rfl rfl Try.underlying44 rfl (by kernel_rfl) ?_
   simp only [Act.put, Xa, Xz, Xs]
   refine wl_store 4 44 (.tmp 10) (.tmp 56) (#[.int .i64 1, .int .i64 gi, .int .i64 ((-(((H[gi.toNat]!).acc) + k.an)) + lo), .int .i64 (((H[gi.toNat]!).acc) + k.an), .int .i64 ((((-(((H[gi.toNat]!).acc) + k.an)) + lo) + (((H[gi.toNat]!).acc) + k.an)) / 2), .int .i64 ((H[gi.toNat]!).off), .slice (some ⟨g6, 0, none⟩) 1 1]) rfl rfl rfl rfl rfl (by kernel_rfl) rfl (by simp [Value.oneCell']) ?_
   simp only [Act.put, List.set_cons_zero, List.set_cons_succ]
   refine wl_nil ?_
   refine we_then ?_
   refine wc_ret ?_
   refine we_ret_cell (own_row 4 rfl) rfl rfl rfl Try.underlying44 rfl (by kernel_rfl) (fun w1 hE => ?_)
   have e1 : -((H[gi.toNat]!).acc + k.an) + min lo 0 = (-(((H[gi.toNat]!).acc) + k.an)) + lo := by omega
   have e2 : (H[gi.toNat]!).acc + k.an + max hi 0 = ((H[gi.toNat]!).acc) + k.an := by omega
   have e3 : (min lo 0 + max hi 0) / 2 = (((-(((H[gi.toNat]!).acc) + k.an)) + lo) + (((H[gi.toNat]!).acc) + k.an)) / 2 := by omega
   refine ⟨⟨⟨some ⟨g5, 0, none⟩, [(H[gi.toNat]!).seg], 1⟩, some ⟨g6, 0, none⟩, 1, [⟨g6, #[.slice (some ⟨g5, 0, none⟩) 1 1], 63⟩, ⟨g5, #[.int .i64 ((H[gi.toNat]!).seg)], 3⟩]⟩, ⟨rfl, held_top, fun x hx => by obtain rfl := List.mem_singleton.1 hx; exact held_sec⟩, ?_, hE.sub (List.Sublist.cons _ (List.Sublist.cons_cons _ (List.Sublist.cons_cons _ (List.Sublist.cons _ (List.Sublist.cons _ (List.Sublist.cons _ (List.Sublist.cons _ List.Sublist.slnil)))))))⟩
   rw [e1, e2, e3]
  ·
   skip
   have p10 : 0 < hi := of_decide_eq_true h10
   refine wc_true rfl ?_
   refine wc_region ?_
   refine wl_val (.pointer (some ⟨g7, 3, none⟩)) rfl (fun _ => by go_simp) ?_
   simp only [Act.put, Xa, Xz, Xs]
   refine wl_cell 2 (.tmp 45) (.int .i64 (((H[gi.toNat]!).acc) + k.an)) (own_row 0 rfl) rfl rfl rfl rfl Try.isAgg2 ?_
   simp only [Act.put, Xa, Xz, Xs]
   refine wl_val (.int .i64 hi) rfl (fun _ => rfl) ?_
   simp only [Act.put, Xa, Xz, Xs]
   refine wl_val (.int .i64 ((((H[gi.toNat]!).acc) + k.an) + hi)) rfl (fun w => run_arith (op := .add) rfl rfl rfl Try.underlying2 (congrArg some (i64_in (by omega) (by omega))) w) ?_
   simp only [Act.put, Xa, Xz, Xs]
   refine wl_val (.pointer (some ⟨g7, 3, none⟩)) rfl (fun _ => by go_simp) ?_
   simp only [Act.put, Xa, Xz, Xs]
   refine wl_store_cell 0 2 (.tmp 49) (.tmp 48) (.int .i64 (((H[gi.toNat]!).acc) + k.an)) (.int .i64 ((((H[gi.toNat]!).acc) + k.an) + hi)) rfl rfl rfl rfl rfl rfl (by kernel_rfl) rfl ?_
   simp only [Act.put, List.set_cons_zero]
   refine wl_nil ?_
   refine we_then ?_
   refine wc_seq ?_
   refine wc_region ?_
   refine wl_val (.pointer (some ⟨g7, 2, none⟩)) rfl (fun _ => by go_simp) ?_
   simp only [Act.put, Xa, Xz, Xs]
   refine wl_cell 2 (.tmp 50) (.int .i64 ((-(((H[gi.toNat]!).acc) + k.an)) + lo)) (own_row 0 rfl) rfl rfl rfl rfl Try.isAgg2 ?_
   simp only [Act.put, Xa, Xz, Xs]
   refine wl_val (.pointer (some ⟨g7, 3, none⟩)) rfl (fun _ => by go_simp) ?_
   simp only [Act.put, Xa, Xz, Xs]
   refine wl_cell 2 (.tmp 52) (.int .i64 ((((H[gi.toNat]!).acc) + k.an) + hi)) (own_row 0 rfl) rfl rfl rfl rfl Try.isAgg2 ?_
   simp only [Act.put, Xa, Xz, Xs]
   refine wl_call 25 #[.int .i64 ((-(((H[gi.toNat]!).acc) + k.an)) + lo), .int .i64 ((((H[gi.toNat]!).acc) + k.an) + hi)] (.int .i64 ((((-(((H[gi.toNat]!).acc) + k.an)) + lo) + ((((H[gi.toNat]!).acc) + k.an) + hi)) / 2)) rfl (fun _ => by go_simp) (fun W => Fzref.mid_any ((-(((H[gi.toNat]!).acc) + k.an)) + lo) ((((H[gi.toNat]!).acc) + k.an) + hi) W (by omega) (by omega) (by omega) (by omega)) ?_
   simp only [Act.put, Xa, Xz, Xs]
   refine wl_val (.pointer (some ⟨g7, 4, none⟩)) rfl (fun _ => by go_simp) ?_
   simp only [Act.put, Xa, Xz, Xs]
   refine wl_store_cell 0 2 (.tmp 55) (.tmp 54) (.int .i64 0) (.int .i64 ((((-(((H[gi.toNat]!).acc) + k.an)) + lo) + ((((H[gi.toNat]!).acc) + k.an) + hi)) / 2)) rfl rfl rfl rfl rfl rfl (by kernel_rfl) rfl ?_
   simp only [Act.put, List.set_cons_zero]
   refine wl_nil ?_
   refine we_then ?_
   refine wc_seq ?_
   refine wc_region ?_
   refine wl_load 44 (.tmp 13) (own_row 0 rfl) rfl rfl rfl Try.underlying44 rfl (by kernel_rfl) ?_
   simp only [Act.put, Xa, Xz, Xs]
   refine wl_store 4 44 (.tmp 10) (.tmp 56) (#[.int .i64 1, .int .i64 gi, .int .i64 ((-(((H[gi.toNat]!).acc) + k.an)) + lo), .int .i64 ((((H[gi.toNat]!).acc) + k.an) + hi), .int .i64 ((((-(((H[gi.toNat]!).acc) + k.an)) + lo) + ((((H[gi.toNat]!).acc) + k.an) + hi)) / 2), .int .i64 ((H[gi.toNat]!).off), .slice (some ⟨g6, 0, none⟩) 1 1]) rfl rfl rfl rfl rfl (by kernel_rfl) rfl (by simp [Value.oneCell']) ?_
   simp only [Act.put, List.set_cons_zero, List.set_cons_succ]
   refine wl_nil ?_
   refine we_then ?_
   refine wc_ret ?_
   refine we_ret_cell (own_row 4 rfl) rfl rfl rfl Try.underlying44 rfl (by kernel_rfl) (fun w1 hE => ?_)
   have e1 : -((H[gi.toNat]!).acc + k.an) + min lo 0 = (-(((H[gi.toNat]!).acc) + k.an)) + lo := by omega
   have e2 : (H[gi.toNat]!).acc + k.an + max hi 0 = (((H[gi.toNat]!).acc) + k.an) + hi := by omega
   have e3 : (min lo 0 + max hi 0) / 2 = (((-(((H[gi.toNat]!).acc) + k.an)) + lo) + ((((H[gi.toNat]!).acc) + k.an) + hi)) / 2 := by omega
   refine ⟨⟨⟨some ⟨g5, 0, none⟩, [(H[gi.toNat]!).seg], 1⟩, some ⟨g6, 0, none⟩, 1, [⟨g6, #[.slice (some ⟨g5, 0, none⟩) 1 1], 63⟩, ⟨g5, #[.int .i64 ((H[gi.toNat]!).seg)], 3⟩]⟩, ⟨rfl, held_top, fun x hx => by obtain rfl := List.mem_singleton.1 hx; exact held_sec⟩, ?_, hE.sub (List.Sublist.cons _ (List.Sublist.cons_cons _ (List.Sublist.cons_cons _ (List.Sublist.cons _ (List.Sublist.cons _ (List.Sublist.cons _ (List.Sublist.cons _ List.Sublist.slnil)))))))⟩
   rw [e1, e2, e3]
theorem growF (F f lo hi : Int) (T0 : List Ix) (tp : Option Addr) (tc : Nat) (G : List Sg) (H : List Gp) (p q : Option Addr) (c d : Nat) (w : World) (hF : F = f) (hS : Reads w p (flat sg G)) (hG : OkS w G) (hH : Reads w q (flat gp H)) (hn : G.length ≤ 140737488355328) (hm : H.length ≤ 140737488355328) (hM : ∀ j, j < G.length → SegMay (G[j]!) G.length) (hf : 0 ≤ f ∧ f ≤ 1099511627776) (hT : Reads w tp (flat ix T0)) (hO : OkI w T0) (hR : ∀ x ∈ T0, RtOk G x.X) (hX : ∀ r ∈ xs T0, 1 ≤ r.length ∧ r.length ≤ 12) (h16 : T0.length ≤ 16) :
  Calls Try.prog 31 #[.agg #[.slice p G.length c, .slice q H.length d], .agg #[.int .i64 F, .slice tp T0.length tc], .int .i64 lo, .int .i64 hi] w fun e w' => ∃ z : Gz, GzOk G f hi lo T0 z ∧ e = .returned (.tuple #[.agg #[.int .i64 z.F, .slice z.p z.O.length z.c], .int .i64 (z.e : Nat)]) ∧ Env w w' z.N := by
 subst hF
 exact Rtgrow.grow_any F lo hi T0 tp tc G H p q c d w hS hG hH hn hm hM hf hT hO hR hX h16
theorem held_nil (N : List Rw) : Held N none [] := fun w0 W hE => reads_nil _ _
set_option maxHeartbeats 4000000 in
theorem move_in (lo hi : Int) (Q : Mr) (s0 f : Int) (G : List Sg) (H : List Gp) (p q : Option Addr) (c d : Nat) (w : World) (hS : Reads w p (flat sg G)) (hG : OkS w G) (hH : Reads w q (flat gp H)) (hn : G.length ≤ 140737488355328) (hm : H.length ≤ 140737488355328) (hM : ∀ j, j < G.length → SegMay (G[j]!) G.length) (hMs : Segs G) (hW : ∀ r ∈ xs Q.O, RtWf G s0 r) (hf : 0 ≤ f ∧ f ≤ 1099511627776) (hT : Reads w Q.p (flat ix Q.O)) (hO : OkI w Q.O) (hR : ∀ x ∈ Q.O, RtOk G x.X) (hX : ∀ r ∈ xs Q.O, 1 ≤ r.length ∧ r.length ≤ 12) (h16 : Q.O.length ≤ 16) (hon : Q.on = 1) (hQF : Q.F = f) (hl : -17592186044416 ≤ Q.lo) (hm1 : Q.lo ≤ Q.est) (hm2 : Q.est ≤ Q.hi) (hh : Q.hi ≤ 17592186044416) (hv : lo ≤ hi ∧ -1099511627776 ≤ lo ∧ hi ≤ 1099511627776) :
  Calls Try.prog 14 #[.agg #[.slice p G.length c, .slice q H.length d], .agg #[.int .i64 Q.on, .int .i64 Q.gi, .int .i64 Q.lo, .int .i64 Q.hi, .int .i64 Q.est, .int .i64 Q.F, .slice Q.p Q.O.length Q.c], .int .i64 lo, .int .i64 hi] w fun e w' => ∃ z : Mr, MrOk G Q.gi f (Q.lo + lo) (Q.hi + hi) (Q.est + (lo + hi) / 2) Q.O z ∧ e = .returned (.tuple #[.agg #[.int .i64 z.on, .int .i64 z.gi, .int .i64 z.lo, .int .i64 z.hi, .int .i64 z.est, .int .i64 z.F, .slice z.p z.O.length z.c], .int .i64 (z.e : Nat)]) ∧ Env w w' z.N := by
 refine calls_sx Try.func14 rfl ?_
 simp only [Try.ntmps14, List.size_toArray, List.length_cons, List.length_nil, Nat.reduceAdd, Nat.reduceSub, Array.replicate_succ, Array.replicate_zero, List.push_toArray, List.append_toArray, List.nil_append, List.cons_append]
 refine wc_seq ?_
 refine wc_region ?_
 refine wl_new 50 (#[.slice p G.length c, .slice q H.length d]) rfl (fun _ => by go_simp) ?_
 intro g1
 simp only [Act.put, Xa, Xz, Xs]
 refine wl_new 44 (#[.int .i64 Q.on, .int .i64 Q.gi, .int .i64 Q.lo, .int .i64 Q.hi, .int .i64 Q.est, .int .i64 Q.F, .slice Q.p Q.O.length Q.c]) rfl (fun _ => by go_simp) ?_
 intro g2
 simp only [Act.put, Xa, Xz, Xs]
 refine wl_new 44 (#[.int .i64 0, .int .i64 0, .int .i64 0, .int .i64 0, .int .i64 0, .int .i64 0, .slice none 0 0]) rfl (fun _ => by go_simp) ?_
 intro g3
 simp only [Act.put, Xa, Xz, Xs]
 refine wl_val (.int .i64 0) rfl (fun _ => rfl) ?_
 simp only [Act.put, Xa, Xz, Xs]
 refine wl_nil ?_
 refine we_then ?_
 refine wc_seq ?_
 refine wc_seq ?_
 refine wc_region ?_
 refine wl_val (.pointer (some ⟨g2, 0, none⟩)) rfl (fun _ => by go_simp) ?_
 simp only [Act.put, Xa, Xz, Xs]
 refine wl_cell 3 (.tmp 15) (.int .i64 Q.on) (own_row 1 rfl) rfl rfl rfl rfl Try.isAgg3 ?_
 simp only [Act.put, Xa, Xz, Xs]
 refine wl_val (.bool (Q.on == 0)) rfl (fun w => run_cmp rfl rfl rfl Try.underlying3 rfl w) ?_
 simp only [Act.put, Xa, Xz, Xs]
 refine wl_nil ?_
 refine we_then ?_
 cases h4 : (Q.on == 0)
 ·
  skip
  have p4 : ¬ (Q.on = 0) := by first | (simp; done) | (simp at h4; done) | simpa using h4
  refine wc_false rfl ?_
  refine wc_skip ?_
  refine we_then ?_
  refine wc_seq ?_
  refine wc_region ?_
  refine wl_val (.pointer (some ⟨g2, 2, none⟩)) rfl (fun _ => by go_simp) ?_
  simp only [Act.put, Xa, Xz, Xs]
  refine wl_cell 2 (.tmp 19) (.int .i64 Q.lo) (own_row 1 rfl) rfl rfl rfl rfl Try.isAgg2 ?_
  simp only [Act.put, Xa, Xz, Xs]
  refine wl_val (.int .i64 lo) rfl (fun _ => rfl) ?_
  simp only [Act.put, Xa, Xz, Xs]
  refine wl_val (.int .i64 (Q.lo + lo)) rfl (fun w => run_arith (op := .add) rfl rfl rfl Try.underlying2 (congrArg some (i64_in (by omega) (by omega))) w) ?_
  simp only [Act.put, Xa, Xz, Xs]
  refine wl_val (.int .i64 (Q.lo + lo)) rfl (fun _ => rfl) ?_
  simp only [Act.put, Xa, Xz, Xs]
  refine wl_nil ?_
  refine we_then ?_
  refine wc_seq ?_
  refine wc_region ?_
  refine wl_val (.pointer (some ⟨g2, 3, none⟩)) rfl (fun _ => by go_simp) ?_
  simp only [Act.put, Xa, Xz, Xs]
  refine wl_cell 2 (.tmp 23) (.int .i64 Q.hi) (own_row 1 rfl) rfl rfl rfl rfl Try.isAgg2 ?_
  simp only [Act.put, Xa, Xz, Xs]
  refine wl_val (.int .i64 hi) rfl (fun _ => rfl) ?_
  simp only [Act.put, Xa, Xz, Xs]
  refine wl_val (.int .i64 (Q.hi + hi)) rfl (fun w => run_arith (op := .add) rfl rfl rfl Try.underlying2 (congrArg some (i64_in (by omega) (by omega))) w) ?_
  simp only [Act.put, Xa, Xz, Xs]
  refine wl_val (.int .i64 (Q.hi + hi)) rfl (fun _ => rfl) ?_
  simp only [Act.put, Xa, Xz, Xs]
  refine wl_nil ?_
  refine we_then ?_
  refine wc_seq ?_
  refine wc_seq ?_
  refine wc_region ?_
  refine wl_val (.int .i64 (Q.lo + lo)) rfl (fun _ => rfl) ?_
  simp only [Act.put, Xa, Xz, Xs]
  refine wl_val (.bool (decide (Q.lo + lo < -17592186044416))) rfl (fun w => run_cmp rfl rfl rfl Try.underlying2 rfl w) ?_
  simp only [Act.put, Xa, Xz, Xs]
  refine wl_val (.bool (decide (Q.lo + lo < -17592186044416))) rfl (fun _ => rfl) ?_
  simp only [Act.put, Xa, Xz, Xs]
  cases h5 : (decide (Q.lo + lo < -17592186044416))
  ·
   skip
   have p5 : ¬ (Q.lo + lo < -17592186044416) := of_decide_eq_false h5
   refine wl_val (.int .i64 (Q.hi + hi)) rfl (fun _ => rfl) ?_
   simp only [Act.put, Xa, Xz, Xs]
   refine wl_val (.bool (decide (17592186044416 < Q.hi + hi))) rfl (fun w => run_cmp rfl rfl rfl Try.underlying2 rfl w) ?_
   simp only [Act.put, Xa, Xz, Xs]
   refine wl_val (.bool (decide (17592186044416 < Q.hi + hi))) rfl (fun _ => rfl) ?_
   simp only [Act.put, Xa, Xz, Xs]
   refine wl_nil ?_
   refine we_then ?_
   cases h6 : (decide (17592186044416 < Q.hi + hi))
   ·
    skip
    have p6 : ¬ (17592186044416 < Q.hi + hi) := of_decide_eq_false h6
    refine wc_false rfl ?_
    refine wc_skip ?_
    refine we_then ?_
    refine wc_seq ?_
    refine wc_region ?_
    refine wl_load 50 (.tmp 4) (own_row 2 rfl) rfl rfl rfl Try.underlying50 rfl (by kernel_rfl) ?_
    simp only [Act.put, Xa, Xz, Xs]
    refine wl_val (.pointer (some ⟨g2, 5, none⟩)) rfl (fun _ => by go_simp) ?_
    simp only [Act.put, Xa, Xz, Xs]
    refine wl_part 42 (.tmp 36) [.int .i64 Q.F, .slice Q.p Q.O.length Q.c] (own_row 1 rfl) rfl rfl rfl rfl Try.underlying42 rfl (by kernel_rfl) ?_
    simp only [Act.put, Xa, Xz, Xs]
    refine wl_val (.int .i64 (Q.lo + lo)) rfl (fun _ => rfl) ?_
    simp only [Act.put, Xa, Xz, Xs]
    refine wl_val (.int .i64 (Q.hi + hi)) rfl (fun _ => rfl) ?_
    simp only [Act.put, Xa, Xz, Xs]
    refine wl_call_open (ι := Gz) (fun zz => match zz with | zk7 => ⟨g3, #[.int .i64 0, .int .i64 0, .int .i64 0, .int .i64 0, .int .i64 0, .int .i64 0, .slice none 0 0], 44⟩ :: ⟨g2, #[.int .i64 Q.on, .int .i64 Q.gi, .int .i64 Q.lo, .int .i64 Q.hi, .int .i64 Q.est, .int .i64 Q.F, .slice Q.p Q.O.length Q.c], 44⟩ :: ⟨g1, #[.slice p G.length c, .slice q H.length d], 50⟩ :: zk7.N) 31 #[.agg #[.slice p G.length c, .slice q H.length d], .agg #[.int .i64 Q.F, .slice Q.p Q.O.length Q.c], .int .i64 (Q.lo + lo), .int .i64 (Q.hi + hi)] (fun zz => match zz with | zk7 => .tuple #[.agg #[.int .i64 zk7.F, .slice zk7.p zk7.O.length zk7.c], .int .i64 (zk7.e : Int)]) (fun zz => match zz with | zk7 => zk7.N) (fun zz => match zz with | zk7 => GzOk G f (Q.hi + hi) (Q.lo + lo) Q.O zk7) (by rintro zk7; simp) rfl (fun _ => by go_simp) (fun W hE => growF Q.F f (Q.lo + lo) (Q.hi + hi) Q.O Q.p Q.c G H p q c d W hQF ((sl_old hS) W hE) (oks_below hG hE.below) ((sl_old hH) W hE) hn hm hM ⟨hf.1, hf.2⟩ ((sl_old hT) W hE) (oki_below hO hE.below) hR hX h16) ?_
    rintro zk7 k7
    (try dsimp only)
    simp only [Act.put, Xa, Xz, Xs]
    refine wl_val (.tuple #[.agg #[.int .i64 zk7.F, .slice zk7.p zk7.O.length zk7.c], .int .i64 (zk7.e : Int)]) rfl (fun _ => rfl) ?_
    simp only [Act.put, Xa, Xz, Xs]
    refine wl_val (.agg #[.int .i64 zk7.F, .slice zk7.p zk7.O.length zk7.c]) rfl (fun _ => by go_simp) ?_
    simp only [Act.put, Xa, Xz, Xs]
    refine wl_val (.int .i64 (zk7.e : Int)) rfl (fun _ => by go_simp) ?_
    simp only [Act.put, Xa, Xz, Xs]
    refine wl_new 42 (#[.int .i64 0, .slice none 0 0]) rfl (fun _ => by go_simp) ?_
    intro g8
    simp only [Act.put, Xa, Xz, Xs]
    refine wl_store 0 42 (.tmp 12) (.tmp 41) (#[.int .i64 zk7.F, .slice zk7.p zk7.O.length zk7.c]) rfl rfl rfl rfl rfl (by kernel_rfl) rfl (by simp [Value.oneCell']) ?_
    simp only [Act.put, List.set_cons_zero]
    refine wl_val (.int .i64 (zk7.e : Int)) rfl (fun _ => rfl) ?_
    simp only [Act.put, Xa, Xz, Xs]
    refine wl_nil ?_
    refine we_then ?_
    refine wc_seq ?_
    refine wc_seq ?_
    refine wc_region ?_
    refine wl_val (.int .i64 (zk7.e : Int)) rfl (fun _ => rfl) ?_
    simp only [Act.put, Xa, Xz, Xs]
    refine wl_val (.bool ((zk7.e : Int) != 0)) rfl (fun w => run_cmp rfl rfl rfl Try.underlying3 rfl w) ?_
    simp only [Act.put, Xa, Xz, Xs]
    refine wl_nil ?_
    refine we_then ?_
    cases h9 : ((zk7.e : Int) != 0)
    ·
     skip
     have p9 : ¬ ((zk7.e : Int) ≠ 0) := by first | (simp; done) | (simp at h9; done) | simpa using h9
     refine wc_false rfl ?_
     refine wc_skip ?_
     refine we_then ?_
     refine wc_seq ?_
     refine wc_draw [.late, .plain, .late, .late, .plain, .late, .late] none [] 68 (by kernel_rfl) rfl (by kernel_rfl) (by kernel_rfl) ?_
     refine ws_late (.pointer (some ⟨g2, 4, none⟩)) rfl rfl (fun _ => by go_simp) ?_
     simp only [Nat.reduceAdd, Act.put, Xa, Xz, Xs]
     refine ws_cell 2 (.tmp 47) (.int .i64 Q.est) (own_row 2 rfl) rfl rfl rfl rfl rfl Try.isAgg2 ?_
     simp only [Nat.reduceAdd, Act.put, Xa, Xz, Xs]
     refine ws_late (.int .i64 lo) rfl rfl (fun _ => rfl) ?_
     simp only [Nat.reduceAdd, Act.put, Xa, Xz, Xs]
     refine ws_late (.int .i64 hi) rfl rfl (fun _ => rfl) ?_
     simp only [Nat.reduceAdd, Act.put, Xa, Xz, Xs]
     refine ws_call 25 #[.int .i64 lo, .int .i64 hi] (.int .i64 ((lo + hi) / 2)) rfl rfl (fun _ => by go_simp) (fun W => Fzref.mid_any lo hi W (by omega) (by omega) (by omega) (by omega)) ?_
     simp only [Nat.reduceAdd, Act.put, Xa, Xz, Xs]
     refine ws_late (.int .i64 (Q.est + ((lo + hi) / 2))) rfl rfl (fun w => run_arith (op := .add) rfl rfl rfl Try.underlying2 (congrArg some (i64_in (by omega) (by omega))) w) ?_
     simp only [Nat.reduceAdd, Act.put, Xa, Xz, Xs]
     refine ws_late (.int .i64 (Q.est + ((lo + hi) / 2))) rfl rfl (fun _ => rfl) ?_
     simp only [Nat.reduceAdd, Act.put, Xa, Xz, Xs]
     refine ws_nil [] trivial (by simp) ?_
     intro ps10
     simp only [fin, List.foldl_nil, List.map, List.nil_append]
     refine we_then ?_
     refine wc_seq ?_
     refine wc_seq ?_
     refine wc_region ?_
     refine wl_val (.int .i64 (Q.est + ((lo + hi) / 2))) rfl (fun _ => rfl) ?_
     simp only [Act.put, Xa, Xz, Xs]
     refine wl_val (.int .i64 (Q.hi + hi)) rfl (fun _ => rfl) ?_
     simp only [Act.put, Xa, Xz, Xs]
     refine wl_val (.bool (decide (Q.hi + hi < Q.est + ((lo + hi) / 2)))) rfl (fun w => run_cmp rfl rfl rfl Try.underlying2 rfl w) ?_
     simp only [Act.put, Xa, Xz, Xs]
     refine wl_nil ?_
     refine we_then ?_
     cases h11 : (decide (Q.hi + hi < Q.est + ((lo + hi) / 2)))
     ·
      skip
      have p11 : ¬ (Q.hi + hi < Q.est + ((lo + hi) / 2)) := of_decide_eq_false h11
      refine wc_false rfl ?_
      refine wc_skip ?_
      refine we_then ?_
      refine wc_seq ?_
      refine wc_seq ?_
      refine wc_region ?_
      refine wl_val (.int .i64 (Q.est + ((lo + hi) / 2))) rfl (fun _ => rfl) ?_
      simp only [Act.put, Xa, Xz, Xs]
      refine wl_val (.int .i64 (Q.lo + lo)) rfl (fun _ => rfl) ?_
      simp only [Act.put, Xa, Xz, Xs]
      refine wl_val (.bool (decide (Q.est + ((lo + hi) / 2) < Q.lo + lo))) rfl (fun w => run_cmp rfl rfl rfl Try.underlying2 rfl w) ?_
      simp only [Act.put, Xa, Xz, Xs]
      refine wl_nil ?_
      refine we_then ?_
      cases h12 : (decide (Q.est + ((lo + hi) / 2) < Q.lo + lo))
      ·
       skip
       have p12 : ¬ (Q.est + ((lo + hi) / 2) < Q.lo + lo) := of_decide_eq_false h12
       refine wc_false rfl ?_
       refine wc_skip ?_
       refine we_then ?_
       refine wc_seq ?_
       refine wc_region ?_
       refine wl_val (.pointer (some ⟨g2, 1, none⟩)) rfl (fun _ => by go_simp) ?_
       simp only [Act.put, Xa, Xz, Xs]
       refine wl_cell 3 (.tmp 61) (.int .i64 Q.gi) (own_row 2 rfl) rfl rfl rfl rfl Try.isAgg3 ?_
       simp only [Act.put, Xa, Xz, Xs]
       refine wl_val (.int .i64 (Q.lo + lo)) rfl (fun _ => rfl) ?_
       simp only [Act.put, Xa, Xz, Xs]
       refine wl_val (.int .i64 (Q.hi + hi)) rfl (fun _ => rfl) ?_
       simp only [Act.put, Xa, Xz, Xs]
       refine wl_val (.int .i64 (Q.est + ((lo + hi) / 2))) rfl (fun _ => rfl) ?_
       simp only [Act.put, Xa, Xz, Xs]
       refine wl_load 42 (.tmp 12) (own_row 0 rfl) rfl rfl rfl Try.underlying42 rfl (by kernel_rfl) ?_
       simp only [Act.put, Xa, Xz, Xs]
       refine wl_val (.agg #[.int .i64 1, .int .i64 Q.gi, .int .i64 (Q.lo + lo), .int .i64 (Q.hi + hi), .int .i64 (Q.est + ((lo + hi) / 2)), .int .i64 zk7.F, .slice zk7.p zk7.O.length zk7.c]) rfl (fun _ => by go_simp) ?_
       simp only [Act.put, Xa, Xz, Xs]
       refine wl_store 1 44 (.tmp 8) (.tmp 67) (#[.int .i64 1, .int .i64 Q.gi, .int .i64 (Q.lo + lo), .int .i64 (Q.hi + hi), .int .i64 (Q.est + ((lo + hi) / 2)), .int .i64 zk7.F, .slice zk7.p zk7.O.length zk7.c]) rfl rfl rfl rfl rfl (by kernel_rfl) rfl (by simp [Value.oneCell']) ?_
       simp only [Act.put, List.set_cons_zero, List.set_cons_succ]
       refine wl_val (.int .i64 0) rfl (fun _ => rfl) ?_
       simp only [Act.put, Xa, Xz, Xs]
       refine wl_nil ?_
       refine we_then ?_
       refine wc_ret ?_
       refine we_ret_cell_tmp (.int .i64 0) (own_row 1 rfl) rfl rfl rfl rfl Try.underlying44 rfl (by kernel_rfl) (fun w1 hE => ?_)
       have is9 : mvS G f (xs Q.O) (Q.lo + lo) (Q.hi + hi) = (zk7.e, xs zk7.O) := by rw [mvS_in (by omega)]; exact k7.is
       have z0 : zk7.e = 0 := by omega
       have e3 : est1 (Q.lo + lo) (Q.hi + hi) (Q.est + (lo + hi) / 2) = Q.est + ((lo + hi) / 2) := by unfold est1; omega
       exact ⟨⟨0, 1, Q.gi, Q.lo + lo, Q.hi + hi, Q.est + ((lo + hi) / 2), zk7.F, zk7.p, zk7.O, zk7.c, zk7.N⟩, ⟨by rw [is9, z0], fun _ => ⟨rfl, rfl, rfl, rfl, e3.symm, k7.frm z0⟩, fun h => absurd rfl h, k7.held, k7.mem⟩, rfl, hE.sub (List.Sublist.cons _ (List.Sublist.cons _ (List.Sublist.cons _ (List.Sublist.cons _ (List.Sublist.refl _)))))⟩
      ·
       skip
       have p12 : Q.est + ((lo + hi) / 2) < Q.lo + lo := of_decide_eq_true h12
       refine wc_true rfl ?_
       refine wc_region ?_
       refine wl_val (.int .i64 (Q.lo + lo)) rfl (fun _ => rfl) ?_
       simp only [Act.put, Xa, Xz, Xs]
       refine wl_val (.int .i64 (Q.lo + lo)) rfl (fun _ => rfl) ?_
       simp only [Act.put, Xa, Xz, Xs]
       refine wl_nil ?_
       refine we_then ?_
       refine wc_seq ?_
       refine wc_region ?_
       refine wl_val (.pointer (some ⟨g2, 1, none⟩)) rfl (fun _ => by go_simp) ?_
       simp only [Act.put, Xa, Xz, Xs]
       refine wl_cell 3 (.tmp 61) (.int .i64 Q.gi) (own_row 2 rfl) rfl rfl rfl rfl Try.isAgg3 ?_
       simp only [Act.put, Xa, Xz, Xs]
       refine wl_val (.int .i64 (Q.lo + lo)) rfl (fun _ => rfl) ?_
       simp only [Act.put, Xa, Xz, Xs]
       refine wl_val (.int .i64 (Q.hi + hi)) rfl (fun _ => rfl) ?_
       simp only [Act.put, Xa, Xz, Xs]
       refine wl_val (.int .i64 (Q.lo + lo)) rfl (fun _ => rfl) ?_
       simp only [Act.put, Xa, Xz, Xs]
       refine wl_load 42 (.tmp 12) (own_row 0 rfl) rfl rfl rfl Try.underlying42 rfl (by kernel_rfl) ?_
       simp only [Act.put, Xa, Xz, Xs]
       refine wl_val (.agg #[.int .i64 1, .int .i64 Q.gi, .int .i64 (Q.lo + lo), .int .i64 (Q.hi + hi), .int .i64 (Q.lo + lo), .int .i64 zk7.F, .slice zk7.p zk7.O.length zk7.c]) rfl (fun _ => by go_simp) ?_
       simp only [Act.put, Xa, Xz, Xs]
       refine wl_store 1 44 (.tmp 8) (.tmp 67) (#[.int .i64 1, .int .i64 Q.gi, .int .i64 (Q.lo + lo), .int .i64 (Q.hi + hi), .int .i64 (Q.lo + lo), .int .i64 zk7.F, .slice zk7.p zk7.O.length zk7.c]) rfl rfl rfl rfl rfl (by kernel_rfl) rfl (by simp [Value.oneCell']) ?_
       simp only [Act.put, List.set_cons_zero, List.set_cons_succ]
       refine wl_val (.int .i64 0) rfl (fun _ => rfl) ?_
       simp only [Act.put, Xa, Xz, Xs]
       refine wl_nil ?_
       refine we_then ?_
       refine wc_ret ?_
       refine we_ret_cell_tmp (.int .i64 0) (own_row 1 rfl) rfl rfl rfl rfl Try.underlying44 rfl (by kernel_rfl) (fun w1 hE => ?_)
       have is9 : mvS G f (xs Q.O) (Q.lo + lo) (Q.hi + hi) = (zk7.e, xs zk7.O) := by rw [mvS_in (by omega)]; exact k7.is
       have z0 : zk7.e = 0 := by omega
       have e3 : est1 (Q.lo + lo) (Q.hi + hi) (Q.est + (lo + hi) / 2) = Q.lo + lo := by unfold est1; omega
       exact ⟨⟨0, 1, Q.gi, Q.lo + lo, Q.hi + hi, Q.lo + lo, zk7.F, zk7.p, zk7.O, zk7.c, zk7.N⟩, ⟨by rw [is9, z0], fun _ => ⟨rfl, rfl, rfl, rfl, e3.symm, k7.frm z0⟩, fun h => absurd rfl h, k7.held, k7.mem⟩, rfl, hE.sub (List.Sublist.cons _ (List.Sublist.cons _ (List.Sublist.cons _ (List.Sublist.cons _ (List.Sublist.refl _)))))⟩
     ·
      skip
      have p11 : Q.hi + hi < Q.est + ((lo + hi) / 2) := of_decide_eq_true h11
      refine wc_true rfl ?_
      refine wc_region ?_
      refine wl_val (.int .i64 (Q.hi + hi)) rfl (fun _ => rfl) ?_
      simp only [Act.put, Xa, Xz, Xs]
      refine wl_val (.int .i64 (Q.hi + hi)) rfl (fun _ => rfl) ?_
      simp only [Act.put, Xa, Xz, Xs]
      refine wl_nil ?_
      refine we_then ?_
      refine wc_seq ?_
      refine wc_seq ?_
      refine wc_region ?_
      refine wl_val (.int .i64 (Q.hi + hi)) rfl (fun _ => rfl) ?_
      simp only [Act.put, Xa, Xz, Xs]
      refine wl_val (.int .i64 (Q.lo + lo)) rfl (fun _ => rfl) ?_
      simp only [Act.put, Xa, Xz, Xs]
      refine wl_val (.bool (decide (Q.hi + hi < Q.lo + lo))) rfl (fun w => run_cmp rfl rfl rfl Try.underlying2 rfl w) ?_
      simp only [Act.put, Xa, Xz, Xs]
      refine wl_nil ?_
      refine we_then ?_
      cases h13 : (decide (Q.hi + hi < Q.lo + lo))
      ·
       skip
       have p13 : ¬ (Q.hi + hi < Q.lo + lo) := of_decide_eq_false h13
       refine wc_false rfl ?_
       refine wc_skip ?_
       refine we_then ?_
       refine wc_seq ?_
       refine wc_region ?_
       refine wl_val (.pointer (some ⟨g2, 1, none⟩)) rfl (fun _ => by go_simp) ?_
       simp only [Act.put, Xa, Xz, Xs]
       refine wl_cell 3 (.tmp 61) (.int .i64 Q.gi) (own_row 2 rfl) rfl rfl rfl rfl Try.isAgg3 ?_
       simp only [Act.put, Xa, Xz, Xs]
       refine wl_val (.int .i64 (Q.lo + lo)) rfl (fun _ => rfl) ?_
       simp only [Act.put, Xa, Xz, Xs]
       refine wl_val (.int .i64 (Q.hi + hi)) rfl (fun _ => rfl) ?_
       simp only [Act.put, Xa, Xz, Xs]
       refine wl_val (.int .i64 (Q.hi + hi)) rfl (fun _ => rfl) ?_
       simp only [Act.put, Xa, Xz, Xs]
       refine wl_load 42 (.tmp 12) (own_row 0 rfl) rfl rfl rfl Try.underlying42 rfl (by kernel_rfl) ?_
       simp only [Act.put, Xa, Xz, Xs]
       refine wl_val (.agg #[.int .i64 1, .int .i64 Q.gi, .int .i64 (Q.lo + lo), .int .i64 (Q.hi + hi), .int .i64 (Q.hi + hi), .int .i64 zk7.F, .slice zk7.p zk7.O.length zk7.c]) rfl (fun _ => by go_simp) ?_
       simp only [Act.put, Xa, Xz, Xs]
       refine wl_store 1 44 (.tmp 8) (.tmp 67) (#[.int .i64 1, .int .i64 Q.gi, .int .i64 (Q.lo + lo), .int .i64 (Q.hi + hi), .int .i64 (Q.hi + hi), .int .i64 zk7.F, .slice zk7.p zk7.O.length zk7.c]) rfl rfl rfl rfl rfl (by kernel_rfl) rfl (by simp [Value.oneCell']) ?_
       simp only [Act.put, List.set_cons_zero, List.set_cons_succ]
       refine wl_val (.int .i64 0) rfl (fun _ => rfl) ?_
       simp only [Act.put, Xa, Xz, Xs]
       refine wl_nil ?_
       refine we_then ?_
       refine wc_ret ?_
       refine we_ret_cell_tmp (.int .i64 0) (own_row 1 rfl) rfl rfl rfl rfl Try.underlying44 rfl (by kernel_rfl) (fun w1 hE => ?_)
       have is9 : mvS G f (xs Q.O) (Q.lo + lo) (Q.hi + hi) = (zk7.e, xs zk7.O) := by rw [mvS_in (by omega)]; exact k7.is
       have z0 : zk7.e = 0 := by omega
       have e3 : est1 (Q.lo + lo) (Q.hi + hi) (Q.est + (lo + hi) / 2) = Q.hi + hi := by unfold est1; omega
       exact ⟨⟨0, 1, Q.gi, Q.lo + lo, Q.hi + hi, Q.hi + hi, zk7.F, zk7.p, zk7.O, zk7.c, zk7.N⟩, ⟨by rw [is9, z0], fun _ => ⟨rfl, rfl, rfl, rfl, e3.symm, k7.frm z0⟩, fun h => absurd rfl h, k7.held, k7.mem⟩, rfl, hE.sub (List.Sublist.cons _ (List.Sublist.cons _ (List.Sublist.cons _ (List.Sublist.cons _ (List.Sublist.refl _)))))⟩
      ·
       skip
       have p13 : Q.hi + hi < Q.lo + lo := of_decide_eq_true h13
       refine wc_true rfl ?_
       refine wc_region ?_
       refine wl_val (.int .i64 (Q.lo + lo)) rfl (fun _ => rfl) ?_
       simp only [Act.put, Xa, Xz, Xs]
       refine wl_val (.int .i64 (Q.lo + lo)) rfl (fun _ => rfl) ?_
       simp only [Act.put, Xa, Xz, Xs]
       refine wl_nil ?_
       refine we_then ?_
       refine wc_seq ?_
       refine wc_region ?_
       refine wl_val (.pointer (some ⟨g2, 1, none⟩)) rfl (fun _ => by go_simp) ?_
       simp only [Act.put, Xa, Xz, Xs]
       refine wl_cell 3 (.tmp 61) (.int .i64 Q.gi) (own_row 2 rfl) rfl rfl rfl rfl Try.isAgg3 ?_
       simp only [Act.put, Xa, Xz, Xs]
       refine wl_val (.int .i64 (Q.lo + lo)) rfl (fun _ => rfl) ?_
       simp only [Act.put, Xa, Xz, Xs]
       refine wl_val (.int .i64 (Q.hi + hi)) rfl (fun _ => rfl) ?_
       simp only [Act.put, Xa, Xz, Xs]
       refine wl_val (.int .i64 (Q.lo + lo)) rfl (fun _ => rfl) ?_
       simp only [Act.put, Xa, Xz, Xs]
       refine wl_load 42 (.tmp 12) (own_row 0 rfl) rfl rfl rfl Try.underlying42 rfl (by kernel_rfl) ?_
       simp only [Act.put, Xa, Xz, Xs]
       refine wl_val (.agg #[.int .i64 1, .int .i64 Q.gi, .int .i64 (Q.lo + lo), .int .i64 (Q.hi + hi), .int .i64 (Q.lo + lo), .int .i64 zk7.F, .slice zk7.p zk7.O.length zk7.c]) rfl (fun _ => by go_simp) ?_
       simp only [Act.put, Xa, Xz, Xs]
       refine wl_store 1 44 (.tmp 8) (.tmp 67) (#[.int .i64 1, .int .i64 Q.gi, .int .i64 (Q.lo + lo), .int .i64 (Q.hi + hi), .int .i64 (Q.lo + lo), .int .i64 zk7.F, .slice zk7.p zk7.O.length zk7.c]) rfl rfl rfl rfl rfl (by kernel_rfl) rfl (by simp [Value.oneCell']) ?_
       simp only [Act.put, List.set_cons_zero, List.set_cons_succ]
       refine wl_val (.int .i64 0) rfl (fun _ => rfl) ?_
       simp only [Act.put, Xa, Xz, Xs]
       refine wl_nil ?_
       refine we_then ?_
       refine wc_ret ?_
       refine we_ret_cell_tmp (.int .i64 0) (own_row 1 rfl) rfl rfl rfl rfl Try.underlying44 rfl (by kernel_rfl) (fun w1 hE => ?_)
       have is9 : mvS G f (xs Q.O) (Q.lo + lo) (Q.hi + hi) = (zk7.e, xs zk7.O) := by rw [mvS_in (by omega)]; exact k7.is
       have z0 : zk7.e = 0 := by omega
       have e3 : est1 (Q.lo + lo) (Q.hi + hi) (Q.est + (lo + hi) / 2) = Q.lo + lo := by unfold est1; omega
       exact ⟨⟨0, 1, Q.gi, Q.lo + lo, Q.hi + hi, Q.lo + lo, zk7.F, zk7.p, zk7.O, zk7.c, zk7.N⟩, ⟨by rw [is9, z0], fun _ => ⟨rfl, rfl, rfl, rfl, e3.symm, k7.frm z0⟩, fun h => absurd rfl h, k7.held, k7.mem⟩, rfl, hE.sub (List.Sublist.cons _ (List.Sublist.cons _ (List.Sublist.cons _ (List.Sublist.cons _ (List.Sublist.refl _)))))⟩
    ·
     skip
     have p9 : (zk7.e : Int) ≠ 0 := by first | (simp; done) | (simp at h9; done) | simpa using h9
     refine wc_true rfl ?_
     refine wc_seq ?_
     refine wc_region ?_
     refine wl_val (.agg #[.int .i64 0, .int .i64 0, .int .i64 0, .int .i64 0, .int .i64 0, .int .i64 0, .slice none 0 0]) rfl (fun _ => by go_simp) ?_
     simp only [Act.put, Xa, Xz, Xs]
     refine wl_val (.int .i64 (zk7.e : Int)) rfl (fun _ => rfl) ?_
     simp only [Act.put, Xa, Xz, Xs]
     refine wl_store 1 44 (.tmp 8) (.tmp 45) (#[.int .i64 0, .int .i64 0, .int .i64 0, .int .i64 0, .int .i64 0, .int .i64 0, .slice none 0 0]) rfl rfl rfl rfl rfl (by kernel_rfl) rfl (by simp [Value.oneCell']) ?_
     simp only [Act.put, List.set_cons_zero, List.set_cons_succ]
     refine wl_val (.int .i64 (zk7.e : Int)) rfl (fun _ => rfl) ?_
     simp only [Act.put, Xa, Xz, Xs]
     refine wl_nil ?_
     refine we_then ?_
     refine wc_ret ?_
     refine we_then_ret ?_
     refine we_ret_cell_tmp (.int .i64 (zk7.e : Int)) (own_row 1 rfl) rfl rfl rfl rfl Try.underlying44 rfl (by kernel_rfl) (fun w1 hE => ?_)
     have is9 : mvS G f (xs Q.O) (Q.lo + lo) (Q.hi + hi) = (zk7.e, xs zk7.O) := by rw [mvS_in (by omega)]; exact k7.is
     have n9 := mv_none hMs hW is9 (by omega)
     have n8 : zk7.O = [] := List.length_eq_zero_iff.1 (by rw [← xs_len, n9.1]; rfl)
     exact ⟨⟨zk7.e, 0, 0, 0, 0, 0, 0, none, [], 0, []⟩, ⟨by rw [is9, n8], fun h => absurd h (by (try dsimp only); omega), fun _ => ⟨rfl, rfl, rfl, rfl, rfl, rfl⟩, held_nil _, mem_nil⟩, rfl, hE.sub (List.nil_sublist _)⟩
   ·
    skip
    have p6 : 17592186044416 < Q.hi + hi := of_decide_eq_true h6
    refine wc_true rfl ?_
    refine wc_seq ?_
    refine wc_region ?_
    refine wl_val (.agg #[.int .i64 0, .int .i64 0, .int .i64 0, .int .i64 0, .int .i64 0, .int .i64 0, .slice none 0 0]) rfl (fun _ => by go_simp) ?_
    simp only [Act.put, Xa, Xz, Xs]
    refine wl_store 0 44 (.tmp 8) (.tmp 33) (#[.int .i64 0, .int .i64 0, .int .i64 0, .int .i64 0, .int .i64 0, .int .i64 0, .slice none 0 0]) rfl rfl rfl rfl rfl (by kernel_rfl) rfl (by simp [Value.oneCell']) ?_
    simp only [Act.put, List.set_cons_zero]
    refine wl_val (.int .i64 20) rfl (fun _ => rfl) ?_
    simp only [Act.put, Xa, Xz, Xs]
    refine wl_nil ?_
    refine we_then ?_
    refine wc_ret ?_
    refine we_then_ret ?_
    refine we_ret_cell_tmp (.int .i64 20) (own_row 0 rfl) rfl rfl rfl rfl Try.underlying44 rfl (by kernel_rfl) (fun w1 hE => ?_)
    exact ⟨⟨20, 0, 0, 0, 0, 0, 0, none, [], 0, []⟩, ⟨by rw [mvS_over (by omega)]; rfl, fun h => absurd h (by decide), fun _ => ⟨rfl, rfl, rfl, rfl, rfl, rfl⟩, held_nil _, mem_nil⟩, rfl, hE.sub (List.nil_sublist _)⟩
  ·
   skip
   have p5 : Q.lo + lo < -17592186044416 := of_decide_eq_true h5
   refine wl_skip rfl ?_
   simp only [Act.put, Xa, Xz, Xs]
   refine wl_skip rfl ?_
   simp only [Act.put, Xa, Xz, Xs]
   refine wl_val (.bool true) rfl (fun _ => rfl) ?_
   simp only [Act.put, Xa, Xz, Xs]
   refine wl_nil ?_
   refine we_then ?_
   refine wc_true rfl ?_
   refine wc_seq ?_
   refine wc_region ?_
   refine wl_val (.agg #[.int .i64 0, .int .i64 0, .int .i64 0, .int .i64 0, .int .i64 0, .int .i64 0, .slice none 0 0]) rfl (fun _ => by go_simp) ?_
   simp only [Act.put, Xa, Xz, Xs]
   refine wl_store 0 44 (.tmp 8) (.tmp 33) (#[.int .i64 0, .int .i64 0, .int .i64 0, .int .i64 0, .int .i64 0, .int .i64 0, .slice none 0 0]) rfl rfl rfl rfl rfl (by kernel_rfl) rfl (by simp [Value.oneCell']) ?_
   simp only [Act.put, List.set_cons_zero]
   refine wl_val (.int .i64 20) rfl (fun _ => rfl) ?_
   simp only [Act.put, Xa, Xz, Xs]
   refine wl_nil ?_
   refine we_then ?_
   refine wc_ret ?_
   refine we_then_ret ?_
   refine we_ret_cell_tmp (.int .i64 20) (own_row 0 rfl) rfl rfl rfl rfl Try.underlying44 rfl (by kernel_rfl) (fun w1 hE => ?_)
   exact ⟨⟨20, 0, 0, 0, 0, 0, 0, none, [], 0, []⟩, ⟨by rw [mvS_over (by omega)]; rfl, fun h => absurd h (by decide), fun _ => ⟨rfl, rfl, rfl, rfl, rfl, rfl⟩, held_nil _, mem_nil⟩, rfl, hE.sub (List.nil_sublist _)⟩
 ·
  skip
  have p4 : Q.on = 0 := by first | (simp; done) | (simp at h4; done) | simpa using h4
  exact (by exfalso; omega)
end Go.Proofs.Ytbacchdkankioaa.Plref
