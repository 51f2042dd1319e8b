/-
 PlaceTrue: the law's walk. No condition.
-/
import Derived.Test.YtbacchdkankioaaPllw
import Derived.Test.YtbacchdkankioaaPlla
import Derived.Test.YtbacchdkankioaaPlref
import Derived.Test.YtbacchdkankioaaSpo
import Derived.Test.YtbacchdkankioaaPlld
import Derived.Test.YtbacchdkankioaaSmu
import Derived.Test.YtbacchdkankioaaMsc
namespace Go.Proofs.Ytbacchdkankioaa.Walks
open Go.ChangeShapes Go.WideShapes Go.ChangeAt Go.RowKit
open Arr Steady Sx Sw Sl Sb Sc Si Sj Sk Sh Vs Gr Tk Tkh Tkl Rt Rtm Rtg Rtp Rtk Rts Rtsm Shh Sfn Cf Plm Pllw Plla Plref Rtla Rtlc Plld Smu Sk
set_option linter.unusedVariables false
set_option linter.unusedSimpArgs false
set_option maxRecDepth 100000

set_option maxHeartbeats 16000000 in
theorem placeTrue_walk (k : Cf) (G : List Sg) (H : List Gp) (p q : Option Addr) (c d : Nat) (gi : Int) (wgi : (Lit.int .i64 gi).wf = true) (x : Int) (wx : (Lit.int .i64 x).wf = true) (lo : Int) (wlo : (Lit.int .i64 lo).wf = true) (hi : Int) (whi : (Lit.int .i64 hi).wf = true) (R : List Rd3) (rp : Option Addr) (rc : Nat) (B : List Bool) (bp : Option Addr) (bc : Nat) (w : World) (hS : Reads w p (flat sg G)) (hG : OkS w G) (hH : Reads w q (flat gp H)) (hn : G.length ≤ 140737488355328) (hm : H.length ≤ 140737488355328) (hcc : G.length ≤ c) (hcd : H.length ≤ d) (hC : ∀ s ∈ G, s.X.length ≤ s.nc) (hR : Reads w rp (flat rd3 R)) (hrn : R.length ≤ 140737488355328) (hB : Reads w bp (flat encb B)) :
  Calls Try.prog 4 #[.agg #[.int .i64 k.pu, .int .i64 k.lo, .int .i64 k.hi, .int .i64 k.rb, .int .i64 k.rp, .int .i64 k.ae, .int .i64 k.ms, .int .i64 k.ma, .int .i64 k.an, .int .i64 k.st, .int .i64 k.ss, .int .i64 k.ro, .int .i64 k.ti, .int .i64 k.br], .agg #[.slice p G.length c, .slice q H.length d], .int .i64 gi, .int .i64 x, .agg #[.int .i64 lo, .int .i64 hi], .slice rp R.length rc, .slice bp B.length bc] w fun e w' => e = .returned (.bool true) ∧ Below w.heap.size w w' := by
 refine calls_sx Try.func4 rfl ?_
 simp only [Try.ntmps4, List.size_toArray, List.length_cons, List.length_nil, Nat.reduceAdd, Nat.reduceSub, Array.replicate_succ, Array.replicate_zero, List.push_toArray, List.append_toArray, List.nil_append, List.cons_append]
 refine wc_seq ?_
 refine wc_region ?_
 refine wl_new 23 (#[.int .i64 k.pu, .int .i64 k.lo, .int .i64 k.hi, .int .i64 k.rb, .int .i64 k.rp, .int .i64 k.ae, .int .i64 k.ms, .int .i64 k.ma, .int .i64 k.an, .int .i64 k.st, .int .i64 k.ss, .int .i64 k.ro, .int .i64 k.ti, .int .i64 k.br]) rfl (fun _ => by go_simp) ?_
 intro g1
 simp only [Act.put, Xa, Xz, Xs]
 refine wl_new 27 (#[.slice p G.length c, .slice q H.length d]) rfl (fun _ => by go_simp) ?_
 intro g2
 simp only [Act.put, Xa, Xz, Xs]
 refine wl_new 32 (#[.int .i64 lo, .int .i64 hi]) rfl (fun _ => by go_simp) ?_
 intro g3
 simp only [Act.put, Xa, Xz, Xs]
 refine wl_val (.bool false) rfl (fun _ => rfl) ?_
 simp only [Act.put, Xa, Xz, Xs]
 refine wl_nil ?_
 refine we_then ?_
 refine wc_seq ?_
 refine wc_seq ?_
 refine wc_region ?_
 refine wl_call 5 #[] (.bool true) rfl (fun _ => by go_simp) (fun W => Pllw.anchor_any W) ?_
 simp only [Act.put, Xa, Xz, Xs]
 refine wl_val (.bool false) rfl (fun _ => by go_simp) ?_
 simp only [Act.put, Xa, Xz, Xs]
 refine wl_nil ?_
 refine we_then ?_
 refine wc_false rfl ?_
 refine wc_skip ?_
 refine we_then ?_
 refine wc_seq ?_
 refine wc_seq ?_
 refine wc_region ?_
 refine wl_load 23 (.tmp 7) (own_row 2 rfl) rfl rfl rfl Try.underlying23 rfl (by kernel_rfl) ?_
 simp only [Act.put, Xa, Xz, Xs]
 refine wl_load 27 (.tmp 8) (own_row 1 rfl) rfl rfl rfl Try.underlying27 rfl (by kernel_rfl) ?_
 simp only [Act.put, Xa, Xz, Xs]
 refine wl_val (.int .i64 gi) rfl (fun _ => rfl) ?_
 simp only [Act.put, Xa, Xz, Xs]
 refine wl_call_at 6 #[.agg #[.int .i64 k.pu, .int .i64 k.lo, .int .i64 k.hi, .int .i64 k.rb, .int .i64 k.rp, .int .i64 k.ae, .int .i64 k.ms, .int .i64 k.ma, .int .i64 k.an, .int .i64 k.st, .int .i64 k.ss, .int .i64 k.ro, .int .i64 k.ti, .int .i64 k.br], .agg #[.slice p G.length c, .slice q H.length d], .int .i64 gi] (.bool (mayP k G H gi)) rfl (fun _ => by go_simp) (fun W hE => may_any21 k gi G H _ _ _ _ W ((sl_old hS) W hE) (oks_below hG hE.below) ((sl_old hH) W hE) hn hm) ?_
 simp only [Act.put, Xa, Xz, Xs]
 refine wl_val (.bool (!(mayP k G H gi))) rfl (fun _ => by go_simp) ?_
 simp only [Act.put, Xa, Xz, Xs]
 refine wl_val (.bool (!(mayP k G H gi))) rfl (fun _ => rfl) ?_
 simp only [Act.put, Xa, Xz, Xs]
 cases h4 : (mayP k G H gi)
 ·
  skip
  refine wl_skip rfl ?_
  simp only [Act.put, Xa, Xz, Xs]
  refine wl_skip rfl ?_
  simp only [Act.put, Xa, Xz, Xs]
  refine wl_skip rfl ?_
  simp only [Act.put, Xa, Xz, Xs]
  refine wl_val (.bool true) rfl (fun _ => rfl) ?_
  simp only [Act.put, Xa, Xz, Xs]
  refine wl_val (.bool true) rfl (fun _ => rfl) ?_
  simp only [Act.put, Xa, Xz, Xs]
  refine wl_skip rfl ?_
  simp only [Act.put, Xa, Xz, Xs]
  refine wl_skip rfl ?_
  simp only [Act.put, Xa, Xz, Xs]
  refine wl_skip rfl ?_
  simp only [Act.put, Xa, Xz, Xs]
  refine wl_val (.bool true) rfl (fun _ => rfl) ?_
  simp only [Act.put, Xa, Xz, Xs]
  refine wl_val (.bool true) rfl (fun _ => rfl) ?_
  simp only [Act.put, Xa, Xz, Xs]
  refine wl_skip rfl ?_
  simp only [Act.put, Xa, Xz, Xs]
  refine wl_skip rfl ?_
  simp only [Act.put, Xa, Xz, Xs]
  refine wl_skip rfl ?_
  simp only [Act.put, Xa, Xz, Xs]
  refine wl_val (.bool true) rfl (fun _ => rfl) ?_
  simp only [Act.put, Xa, Xz, Xs]
  refine wl_val (.bool true) rfl (fun _ => rfl) ?_
  simp only [Act.put, Xa, Xz, Xs]
  refine wl_skip rfl ?_
  simp only [Act.put, Xa, Xz, Xs]
  refine wl_skip rfl ?_
  simp only [Act.put, Xa, Xz, Xs]
  refine wl_skip rfl ?_
  simp only [Act.put, Xa, Xz, Xs]
  refine wl_skip rfl ?_
  simp only [Act.put, Xa, Xz, Xs]
  refine wl_skip rfl ?_
  simp only [Act.put, Xa, Xz, Xs]
  refine wl_skip rfl ?_
  simp only [Act.put, Xa, Xz, Xs]
  refine wl_skip rfl ?_
  simp only [Act.put, Xa, Xz, Xs]
  refine wl_skip rfl ?_
  simp only [Act.put, Xa, Xz, Xs]
  refine wl_skip rfl ?_
  simp only [Act.put, Xa, Xz, Xs]
  refine wl_val (.bool true) rfl (fun _ => rfl) ?_
  simp only [Act.put, Xa, Xz, Xs]
  refine wl_nil ?_
  refine we_then ?_
  refine wc_true rfl ?_
  refine wc_seq ?_
  refine wc_region ?_
  refine wl_val (.bool true) rfl (fun _ => rfl) ?_
  simp only [Act.put, Xa, Xz, Xs]
  refine wl_nil ?_
  refine we_then ?_
  refine wc_ret ?_
  refine we_then_ret ?_
  refine we_ret1 (.bool true) rfl rfl rfl (fun w1 hE => ?_)
  exact ⟨rfl, hE.below⟩
 ·
  skip
  refine wl_val (.slice rp R.length rc) rfl (fun _ => rfl) ?_
  simp only [Act.put, Xa, Xz, Xs]
  refine wl_val (.int .i64 (R.length : Int)) rfl (fun w => er_len rfl rfl Try.underlying59 w) ?_
  simp only [Act.put, Xa, Xz, Xs]
  refine wl_val (.bool (decide (30 < (R.length : Int)))) rfl (fun w => run_cmp rfl rfl rfl Try.underlying3 rfl w) ?_
  simp only [Act.put, Xa, Xz, Xs]
  refine wl_val (.bool (decide (30 < (R.length : Int)))) rfl (fun _ => rfl) ?_
  simp only [Act.put, Xa, Xz, Xs]
  refine wl_val (.bool (decide (30 < (R.length : Int)))) rfl (fun _ => rfl) ?_
  simp only [Act.put, Xa, Xz, Xs]
  cases h5 : (decide (30 < (R.length : Int)))
  ·
   skip
   have p5 : ¬ (30 < (R.length : Int)) := of_decide_eq_false h5
   refine wl_val (.slice bp B.length bc) rfl (fun _ => rfl) ?_
   simp only [Act.put, Xa, Xz, Xs]
   refine wl_val (.int .i64 (B.length : Int)) rfl (fun w => er_len rfl rfl Try.underlying60 w) ?_
   simp only [Act.put, Xa, Xz, Xs]
   refine wl_val (.bool (decide (11 < (B.length : Int)))) rfl (fun w => run_cmp rfl rfl rfl Try.underlying3 rfl w) ?_
   simp only [Act.put, Xa, Xz, Xs]
   refine wl_val (.bool (decide (11 < (B.length : Int)))) rfl (fun _ => rfl) ?_
   simp only [Act.put, Xa, Xz, Xs]
   refine wl_val (.bool (decide (11 < (B.length : Int)))) rfl (fun _ => rfl) ?_
   simp only [Act.put, Xa, Xz, Xs]
   cases h6 : (decide (11 < (B.length : Int)))
   ·
    skip
    have p6 : ¬ (11 < (B.length : Int)) := of_decide_eq_false h6
    refine wl_load 32 (.tmp 11) (own_row 0 rfl) rfl rfl rfl Try.underlying32 rfl (by kernel_rfl) ?_
    simp only [Act.put, Xa, Xz, Xs]
    refine wl_call 7 #[.agg #[.int .i64 lo, .int .i64 hi]] (.bool (decide (lo ≤ hi))) rfl (fun _ => by go_simp) (fun W => Spo.right_any lo hi W) ?_
    simp only [Act.put, Xa, Xz, Xs]
    refine wl_val (.bool (!(decide (lo ≤ hi)))) rfl (fun _ => by go_simp) ?_
    simp only [Act.put, Xa, Xz, Xs]
    refine wl_val (.bool (!(decide (lo ≤ hi)))) rfl (fun _ => rfl) ?_
    simp only [Act.put, Xa, Xz, Xs]
    refine wl_val (.bool (!(decide (lo ≤ hi)))) rfl (fun _ => rfl) ?_
    simp only [Act.put, Xa, Xz, Xs]
    cases h7 : (decide (lo ≤ hi))
    ·
     skip
     have p7 : ¬ (lo ≤ hi) := of_decide_eq_false h7
     refine wl_skip rfl ?_
     simp only [Act.put, Xa, Xz, Xs]
     refine wl_skip rfl ?_
     simp only [Act.put, Xa, Xz, Xs]
     refine wl_skip rfl ?_
     simp only [Act.put, Xa, Xz, Xs]
     refine wl_skip rfl ?_
     simp only [Act.put, Xa, Xz, Xs]
     refine wl_skip rfl ?_
     simp only [Act.put, Xa, Xz, Xs]
     refine wl_skip rfl ?_
     simp only [Act.put, Xa, Xz, Xs]
     refine wl_skip rfl ?_
     simp only [Act.put, Xa, Xz, Xs]
     refine wl_skip rfl ?_
     simp only [Act.put, Xa, Xz, Xs]
     refine wl_skip rfl ?_
     simp only [Act.put, Xa, Xz, Xs]
     refine wl_val (.bool true) rfl (fun _ => rfl) ?_
     simp only [Act.put, Xa, Xz, Xs]
     refine wl_nil ?_
     refine we_then ?_
     refine wc_true rfl ?_
     refine wc_seq ?_
     refine wc_region ?_
     refine wl_val (.bool true) rfl (fun _ => rfl) ?_
     simp only [Act.put, Xa, Xz, Xs]
     refine wl_nil ?_
     refine we_then ?_
     refine wc_ret ?_
     refine we_then_ret ?_
     refine we_ret1 (.bool true) rfl rfl rfl (fun w1 hE => ?_)
     exact ⟨rfl, hE.below⟩
    ·
     skip
     have p7 : lo ≤ hi := of_decide_eq_true h7
     refine wl_load 32 (.tmp 11) (own_row 0 rfl) rfl rfl rfl Try.underlying32 rfl (by kernel_rfl) ?_
     simp only [Act.put, Xa, Xz, Xs]
     refine wl_val (.pointer (some ⟨g1, 6, none⟩)) rfl (fun _ => by go_simp) ?_
     simp only [Act.put, Xa, Xz, Xs]
     refine wl_cell 2 (.tmp 51) (.int .i64 k.ms) (own_row 2 rfl) rfl rfl rfl rfl Try.isAgg2 ?_
     simp only [Act.put, Xa, Xz, Xs]
     refine wl_val (.int .i64 (-k.ms)) rfl (fun w => run_neg rfl rfl Try.underlying2 (i64_in (by have hk9 := ok_of (mayP_of h4).1; have := hk9.ms1; have := hk9.ms2; omega) (by have hk9 := ok_of (mayP_of h4).1; have := hk9.ms1; have := hk9.ms2; omega)) w) ?_
     simp only [Act.put, Xa, Xz, Xs]
     refine wl_val (.pointer (some ⟨g1, 6, none⟩)) rfl (fun _ => by go_simp) ?_
     simp only [Act.put, Xa, Xz, Xs]
     refine wl_cell 2 (.tmp 54) (.int .i64 k.ms) (own_row 2 rfl) rfl rfl rfl rfl Try.isAgg2 ?_
     simp only [Act.put, Xa, Xz, Xs]
     refine wl_val (.agg #[.int .i64 (-k.ms), .int .i64 k.ms]) rfl (fun _ => by go_simp) ?_
     simp only [Act.put, Xa, Xz, Xs]
     refine wl_call 8 #[.agg #[.int .i64 lo, .int .i64 hi], .agg #[.int .i64 (-k.ms), .int .i64 k.ms]] (.bool (!decide (lo ≤ hi) || decide ((-k.ms) ≤ lo) && decide (hi ≤ k.ms))) rfl (fun _ => by go_simp) (fun W => Spo.in_any lo hi (-k.ms) k.ms W) ?_
     simp only [Act.put, Xa, Xz, Xs]
     refine wl_val (.bool (!((!decide (lo ≤ hi) || decide ((-k.ms) ≤ lo) && decide (hi ≤ k.ms))))) rfl (fun _ => by go_simp) ?_
     simp only [Act.put, Xa, Xz, Xs]
     refine wl_val (.bool (!((!decide (lo ≤ hi) || decide ((-k.ms) ≤ lo) && decide (hi ≤ k.ms))))) rfl (fun _ => rfl) ?_
     simp only [Act.put, Xa, Xz, Xs]
     refine wl_nil ?_
     refine we_then ?_
     cases h8 : (!decide (lo ≤ hi) || decide ((-k.ms) ≤ lo) && decide (hi ≤ k.ms))
     ·
      skip
      have p8 : ¬ ((¬ (lo ≤ hi)) ∨ (((-k.ms) ≤ lo) ∧ (hi ≤ k.ms))) := by first | (simp; done) | (simp at h8; done) | simpa using h8
      refine wc_true rfl ?_
      refine wc_seq ?_
      refine wc_region ?_
      refine wl_val (.bool true) rfl (fun _ => rfl) ?_
      simp only [Act.put, Xa, Xz, Xs]
      refine wl_nil ?_
      refine we_then ?_
      refine wc_ret ?_
      refine we_then_ret ?_
      refine we_ret1 (.bool true) rfl rfl rfl (fun w1 hE => ?_)
      exact ⟨rfl, hE.below⟩
     ·
      skip
      have p8 : (¬ (lo ≤ hi)) ∨ (((-k.ms) ≤ lo) ∧ (hi ≤ k.ms)) := by first | (simp; done) | (simp at h8; done) | simpa using h8
      refine wc_false rfl ?_
      refine wc_skip ?_
      refine we_then ?_
      refine wc_seq ?_
      have hmp := mayP_of h4
      have hk := ok_of hmp.1
      have hM := hmp.2.1
      have hgi := hmp.2.2
      have hsz := hM.sizes
      have k1 := hk.an1
      have k2 := hk.an2
      have k3 := hk.ms1
      have k4 := hk.ms2
      have gk := hM.grps gi.toNat (by omega)
      have q1 := gk.seg0
      have q2 := gk.segn
      have q3 := gk.off0
      have q4 := gk.offn
      have q5 := gk.acc0
      have q6 := gk.accn
      have q7 := (hM.segs (H[gi.toNat]!).seg.toNat (by omega)).high
      refine wc_region ?_
      refine wl_val (.pointer (some ⟨g2, 1, none⟩)) rfl (fun _ => by go_simp) ?_
      simp only [Act.put, Xa, Xz, Xs]
      refine wl_cell 25 (.tmp 60) (.slice q H.length d) (own_row 1 rfl) rfl rfl rfl rfl Try.isAgg25 ?_
      simp only [Act.put, Xa, Xz, Xs]
      refine wl_val (.int .i64 gi) rfl (fun _ => rfl) ?_
      simp only [Act.put, Xa, Xz, Xs]
      refine wl_read (eaddr q ((gi.toNat) * 5)) rfl (er_index (gi.toNat) 5 (sl_old hH) rfl rfl rfl (by omega) (by omega) (flat_length (enc := gp) (size := 5) (fun _ => rfl) _) (by decide) Try.underlying25 (by kernel_rfl)) ?_
      simp only [Act.put, Xa, Xz, Xs]
      refine wl_read (.agg #[.int .i64 ((H[gi.toNat]!).id), .int .i64 ((H[gi.toNat]!).seg), .int .i64 ((H[gi.toNat]!).off), .int .i64 ((H[gi.toNat]!).acc), .int .i64 ((H[gi.toNat]!).slack)]) rfl (er_part ((gi.toNat) * 5) [.int .i64 ((H[gi.toNat]!).id), .int .i64 ((H[gi.toNat]!).seg), .int .i64 ((H[gi.toNat]!).off), .int .i64 ((H[gi.toNat]!).acc), .int .i64 ((H[gi.toNat]!).slack)] (sl_old hH) rfl rfl (flat_part (enc := gp) (fun _ => rfl) H (gi.toNat) (by omega)) (Nat.zero_lt_succ _) Try.underlying62 rfl (by kernel_rfl)) ?_
      simp only [Act.put, Xa, Xz, Xs]
      refine wl_new 62 (#[.int .i64 0, .int .i64 0, .int .i64 0, .int .i64 0, .int .i64 0]) rfl (fun _ => by go_simp) ?_
      intro g9
      simp only [Act.put, Xa, Xz, Xs]
      refine wl_store 0 62 (.tmp 15) (.tmp 64) (#[.int .i64 ((H[gi.toNat]!).id), .int .i64 ((H[gi.toNat]!).seg), .int .i64 ((H[gi.toNat]!).off), .int .i64 ((H[gi.toNat]!).acc), .int .i64 ((H[gi.toNat]!).slack)]) rfl rfl rfl rfl rfl (by kernel_rfl) rfl (by simp [Value.oneCell']) ?_
      simp only [Act.put, List.set_cons_zero]
      refine wl_nil ?_
      refine we_then ?_
      refine wc_seq ?_
      refine wc_region ?_
      refine wl_val (.pointer (some ⟨g9, 1, none⟩)) rfl (fun _ => by go_simp) ?_
      simp only [Act.put, Xa, Xz, Xs]
      refine wl_cell 3 (.tmp 65) (.int .i64 ((H[gi.toNat]!).seg)) (own_row 0 rfl) rfl rfl rfl rfl Try.isAgg3 ?_
      simp only [Act.put, Xa, Xz, Xs]
      refine wl_lit (e := 3) #[.int .i64 ((H[gi.toNat]!).seg)] 1 rfl (fun _ => by go_simp) ?_
      intro g10
      simp only [Act.put, Xa, Xz, Xs]
      refine wl_val (.slice (some ⟨g10, 0, none⟩) 1 1) rfl (fun _ => rfl) ?_
      simp only [Act.put, Xa, Xz, Xs]
      refine wl_nil ?_
      refine we_then ?_
      refine wc_seq ?_
      refine wc_seq ?_
      refine wc_perm (R' := [⟨g9, #[.int .i64 ((H[gi.toNat]!).id), .int .i64 ((H[gi.toNat]!).seg), .int .i64 ((H[gi.toNat]!).off), .int .i64 ((H[gi.toNat]!).acc), .int .i64 ((H[gi.toNat]!).slack)], 62⟩, ⟨g3, #[.int .i64 lo, .int .i64 hi], 32⟩, ⟨g2, #[.slice p G.length c, .slice q H.length d], 27⟩, ⟨g1, #[.int .i64 k.pu, .int .i64 k.lo, .int .i64 k.hi, .int .i64 k.rb, .int .i64 k.rp, .int .i64 k.ae, .int .i64 k.ms, .int .i64 k.ma, .int .i64 k.an, .int .i64 k.st, .int .i64 k.ss, .int .i64 k.ro, .int .i64 k.ti, .int .i64 k.br], 23⟩, ⟨g10, #[.int .i64 ((H[gi.toNat]!).seg)], 3⟩]) (show ([⟨g10, #[.int .i64 ((H[gi.toNat]!).seg)], 3⟩] ++ [⟨g9, #[.int .i64 ((H[gi.toNat]!).id), .int .i64 ((H[gi.toNat]!).seg), .int .i64 ((H[gi.toNat]!).off), .int .i64 ((H[gi.toNat]!).acc), .int .i64 ((H[gi.toNat]!).slack)], 62⟩, ⟨g3, #[.int .i64 lo, .int .i64 hi], 32⟩, ⟨g2, #[.slice p G.length c, .slice q H.length d], 27⟩, ⟨g1, #[.int .i64 k.pu, .int .i64 k.lo, .int .i64 k.hi, .int .i64 k.rb, .int .i64 k.rp, .int .i64 k.ae, .int .i64 k.ms, .int .i64 k.ma, .int .i64 k.an, .int .i64 k.st, .int .i64 k.ss, .int .i64 k.ro, .int .i64 k.ti, .int .i64 k.br], 23⟩] : List Rw).Perm ([⟨g9, #[.int .i64 ((H[gi.toNat]!).id), .int .i64 ((H[gi.toNat]!).seg), .int .i64 ((H[gi.toNat]!).off), .int .i64 ((H[gi.toNat]!).acc), .int .i64 ((H[gi.toNat]!).slack)], 62⟩, ⟨g3, #[.int .i64 lo, .int .i64 hi], 32⟩, ⟨g2, #[.slice p G.length c, .slice q H.length d], 27⟩, ⟨g1, #[.int .i64 k.pu, .int .i64 k.lo, .int .i64 k.hi, .int .i64 k.rb, .int .i64 k.rp, .int .i64 k.ae, .int .i64 k.ms, .int .i64 k.ma, .int .i64 k.an, .int .i64 k.st, .int .i64 k.ss, .int .i64 k.ro, .int .i64 k.ti, .int .i64 k.br], 23⟩] ++ [⟨g10, #[.int .i64 ((H[gi.toNat]!).seg)], 3⟩]) from List.perm_append_comm) ?_
      have ok1 : SetOk G (H[gi.toNat]!).seg (H[gi.toNat]!).off [[(H[gi.toNat]!).seg]] := begin_ok ⟨q1, q2⟩ ⟨q3, by omega⟩
      refine wc_region ?_
      refine wl_val (.slice bp B.length bc) rfl (fun _ => rfl) ?_
      simp only [Act.put, Xa, Xz, Xs]
      refine wl_val (.int .i64 (B.length : Int)) rfl (fun w => er_len rfl rfl Try.underlying60 w) ?_
      simp only [Act.put, Xa, Xz, Xs]
      refine wl_val (.int .i64 0) rfl (fun _ => rfl) ?_
      simp only [Act.put, Xa, Xz, Xs]
      refine wl_nil ?_
      refine we_then ?_
      refine wc_block ?_
      refine wc_loop (fun (zz : Nat × Own × List Int × Nat × Value × Value × Value × Value × Value × Value × Value × Value × Value × Value × Value × Value × Value × Value × Value × Value × Value × Value × Value × Value × Value × Value × Value × Value × Value × Value × Value × Value × Value × Value × Value × Value × Value × Value) => match zz with | ⟨i, pw, Pl, pn, u18, u19, u20, u71, u72, u73, u74, u75, u76, u77, u78, u79, u80, u81, u82, u83, u84, u85, u86, u87, u88, u89, u90, u91, u92, u93, u94, u95, u96, u97, u98, u99, u100, u101⟩ => ({ tmps := #[.agg #[.int .i64 k.pu, .int .i64 k.lo, .int .i64 k.hi, .int .i64 k.rb, .int .i64 k.rp, .int .i64 k.ae, .int .i64 k.ms, .int .i64 k.ma, .int .i64 k.an, .int .i64 k.st, .int .i64 k.ss, .int .i64 k.ro, .int .i64 k.ti, .int .i64 k.br], .agg #[.slice p G.length c, .slice q H.length d], .int .i64 gi, .int .i64 x, .agg #[.int .i64 lo, .int .i64 hi], .slice rp R.length rc, .slice bp B.length bc, .pointer (some ⟨g1, 0, none⟩), .pointer (some ⟨g2, 0, none⟩), undef, undef, .pointer (some ⟨g3, 0, none⟩), undef, undef, .bool false, .pointer (some ⟨g9, 0, none⟩), .slice pw.ptr pn pw.cap, undef, u18, u19, u20, undef, undef, undef, undef, undef, undef, .bool true, .bool false, .agg #[.int .i64 k.pu, .int .i64 k.lo, .int .i64 k.hi, .int .i64 k.rb, .int .i64 k.rp, .int .i64 k.ae, .int .i64 k.ms, .int .i64 k.ma, .int .i64 k.an, .int .i64 k.st, .int .i64 k.ss, .int .i64 k.ro, .int .i64 k.ti, .int .i64 k.br], .agg #[.slice p G.length c, .slice q H.length d], .int .i64 gi, .bool true, .bool false, .bool false, .slice rp R.length rc, .int .i64 (R.length : Int), .bool false, .bool false, .bool false, .slice bp B.length bc, .int .i64 (B.length : Int), .bool false, .bool false, .bool false, .agg #[.int .i64 lo, .int .i64 hi], .bool true, .bool false, .bool false, .bool false, .agg #[.int .i64 lo, .int .i64 hi], .pointer (some ⟨g1, 6, none⟩), .int .i64 k.ms, .int .i64 (-k.ms), .pointer (some ⟨g1, 6, none⟩), .int .i64 k.ms, .agg #[.int .i64 (-k.ms), .int .i64 k.ms], .bool true, .bool (!(true)), .bool (!(true)), .pointer (some ⟨g2, 1, none⟩), .slice q H.length d, .int .i64 gi, eaddr q ((gi.toNat) * 5), .agg #[.int .i64 ((H[gi.toNat]!).id), .int .i64 ((H[gi.toNat]!).seg), .int .i64 ((H[gi.toNat]!).off), .int .i64 ((H[gi.toNat]!).acc), .int .i64 ((H[gi.toNat]!).slack)], .pointer (some ⟨g9, 1, none⟩), .int .i64 ((H[gi.toNat]!).seg), .slice ((Own.row g10 1 #[.int .i64 ((H[gi.toNat]!).seg)]).ptr) 1 ((Own.row g10 1 #[.int .i64 ((H[gi.toNat]!).seg)]).cap), .slice bp B.length bc, .int .i64 (B.length : Int), .int .i64 (i : Int), u71, u72, u73, u74, u75, u76, u77, u78, u79, u80, u81, u82, u83, u84, u85, u86, u87, u88, u89, u90, u91, u92, u93, u94, u95, u96, u97, u98, u99, u100, u101, undef, undef, undef, undef, undef, undef, undef, undef, undef, undef, undef, undef, undef, undef, undef, undef, undef, undef, undef, undef, undef, undef, undef, undef, undef, undef, undef, undef, undef, undef, undef, undef, undef, undef, undef, undef, undef, undef, undef, undef, undef, undef, undef, undef, undef, undef, undef, undef, undef, undef, undef, undef, undef, undef, undef, undef, undef, undef, undef, undef, undef, undef, undef, undef, undef, undef, undef, undef, undef, undef, undef, undef, undef, undef, undef, undef, undef, undef, undef, undef, undef, undef, undef, undef, undef, undef, undef, undef, undef, undef, undef, undef, undef, undef, undef, undef, undef, undef, undef, undef, undef, undef, undef, undef, undef, undef, undef, undef, undef, undef, undef, undef, undef, undef, undef, undef, undef, undef, undef, undef, undef, undef], defers := [] } : Act)) (fun (zz : Nat × Own × List Int × Nat × Value × Value × Value × Value × Value × Value × Value × Value × Value × Value × Value × Value × Value × Value × Value × Value × Value × Value × Value × Value × Value × Value × Value × Value × Value × Value × Value × Value × Value × Value × Value × Value × Value × Value) => match zz with | ⟨i, pw, Pl, pn, u18, u19, u20, u71, u72, u73, u74, u75, u76, u77, u78, u79, u80, u81, u82, u83, u84, u85, u86, u87, u88, u89, u90, u91, u92, u93, u94, u95, u96, u97, u98, u99, u100, u101⟩ => ⟨g9, #[.int .i64 ((H[gi.toNat]!).id), .int .i64 ((H[gi.toNat]!).seg), .int .i64 ((H[gi.toNat]!).off), .int .i64 ((H[gi.toNat]!).acc), .int .i64 ((H[gi.toNat]!).slack)], 62⟩ :: ⟨g3, #[.int .i64 lo, .int .i64 hi], 32⟩ :: ⟨g2, #[.slice p G.length c, .slice q H.length d], 27⟩ :: ⟨g1, #[.int .i64 k.pu, .int .i64 k.lo, .int .i64 k.hi, .int .i64 k.rb, .int .i64 k.rp, .int .i64 k.ae, .int .i64 k.ms, .int .i64 k.ma, .int .i64 k.an, .int .i64 k.st, .int .i64 k.ss, .int .i64 k.ro, .int .i64 k.ti, .int .i64 k.br], 23⟩ :: (pw.rows 3 ++ [])) (fun (zz : Nat × Own × List Int × Nat × Value × Value × Value × Value × Value × Value × Value × Value × Value × Value × Value × Value × Value × Value × Value × Value × Value × Value × Value × Value × Value × Value × Value × Value × Value × Value × Value × Value × Value × Value × Value × Value × Value × Value) => match zz with | ⟨i, pw, Pl, pn, u18, u19, u20, u71, u72, u73, u74, u75, u76, u77, u78, u79, u80, u81, u82, u83, u84, u85, u86, u87, u88, u89, u90, u91, u92, u93, u94, u95, u96, u97, u98, u99, u100, u101⟩ => i ≤ B.length ∧ Pl.length = pn ∧ pw.Has 1 pn (flat enc1 Pl) ∧ RtWf G (H[gi.toNat]!).seg Pl ∧ pn ≤ i + 1) (fun (zz : Nat × Own × List Int × Nat × Value × Value × Value × Value × Value × Value × Value × Value × Value × Value × Value × Value × Value × Value × Value × Value × Value × Value × Value × Value × Value × Value × Value × Value × Value × Value × Value × Value × Value × Value × Value × Value × Value × Value) => match zz with | ⟨i, pw, Pl, pn, u18, u19, u20, u71, u72, u73, u74, u75, u76, u77, u78, u79, u80, u81, u82, u83, u84, u85, u86, u87, u88, u89, u90, u91, u92, u93, u94, u95, u96, u97, u98, u99, u100, u101⟩ => B.length - i) ⟨0, (Own.row g10 1 #[.int .i64 ((H[gi.toNat]!).seg)]), [(H[gi.toNat]!).seg], 1, _, _, _, _, _, _, _, _, _, _, _, _, _, _, _, _, _, _, _, _, _, _, _, _, _, _, _, _, _, _, _, _, _, _⟩ ⟨Nat.zero_le _, rfl, Own.has_lit g10 1 1 #[.int .i64 (H[gi.toNat]!).seg] (by decide) rfl, (ok1.wf [(H[gi.toNat]!).seg] (List.mem_singleton.2 rfl)), by omega⟩ rfl (List.Sublist.cons_cons _ (List.Sublist.cons_cons _ (List.Sublist.cons_cons _ (List.Sublist.cons_cons _ (List.Sublist.append_left List.Sublist.slnil _))))) ?_
      rintro ⟨i, pw, Pl, pn, u18, u19, u20, u71, u72, u73, u74, u75, u76, u77, u78, u79, u80, u81, u82, u83, u84, u85, u86, u87, u88, u89, u90, u91, u92, u93, u94, u95, u96, u97, u98, u99, u100, u101⟩ hφ
      (try dsimp only at hφ ⊢)
      obtain ⟨b1, b2, b3, b4, b5⟩ := hφ
      have b6 := b4.ok.some
      have b7 := b4.ok.few
      have b8 := b4.ok.each (pn - 1) (by omega)
      refine wc_seq ?_
      refine wc_region ?_
      refine wl_val (.bool (decide ((i : Int) < (B.length : Int)))) rfl (fun w => run_cmp rfl rfl rfl Try.underlying3 rfl w) ?_
      simp only [Act.put, Xa, Xz, Xs]
      refine wl_nil ?_
      refine we_then ?_
      refine wc_seq ?_
      cases h11 : (decide ((i : Int) < (B.length : Int)))
      ·
       skip
       have p11 : ¬ ((i : Int) < (B.length : Int)) := of_decide_eq_false h11
       refine wc_false rfl ?_
       refine wc_exit ?_
       refine we_then_exit ?_
       refine we_then_exit ?_
       refine we_in_here ?_
       refine we_then ?_
       refine wc_seq ?_
       refine wc_draw_ghost (Γ := Cp) 1 11 #[.agg #[.slice p G.length c, .slice q H.length d]] (fun j9 => [false, true, false, false, false, true, true].getD j9 false) (fun j9 => [.agg #[.slice p G.length c, .slice q H.length d], undef, .pointer (some ⟨g9, 2, none⟩), .int .i64 ((H[gi.toNat]!).off), .slice pw.ptr pn pw.cap, undef, undef].getD j9 undef) (fun zz => match zz with | zk12 => fun j9 => [undef, .agg #[.slice zk12.p zk12.K.length zk12.c, .slice zk12.q H.length zk12.d], undef, undef, undef, .int .i64 (endR G (H[gi.toNat]!).off Pl), .int .i64 (endR G (H[gi.toNat]!).off Pl)].getD j9 undef) (fun zz => match zz with | zk12 => zk12.N) (fun zz => match zz with | zk12 => ⟨g9, #[.int .i64 ((H[gi.toNat]!).id), .int .i64 ((H[gi.toNat]!).seg), .int .i64 ((H[gi.toNat]!).off), .int .i64 ((H[gi.toNat]!).acc), .int .i64 ((H[gi.toNat]!).slack)], 62⟩ :: ⟨g3, #[.int .i64 lo, .int .i64 hi], 32⟩ :: ⟨g2, #[.slice p G.length c, .slice q H.length d], 27⟩ :: ⟨g1, #[.int .i64 k.pu, .int .i64 k.lo, .int .i64 k.hi, .int .i64 k.rb, .int .i64 k.rp, .int .i64 k.ae, .int .i64 k.ms, .int .i64 k.ma, .int .i64 k.an, .int .i64 k.st, .int .i64 k.ss, .int .i64 k.ro, .int .i64 k.ti, .int .i64 k.br], 23⟩ :: (pw.rows 3 ++ zk12.N)) (fun zz => match zz with | zk12 => CpOk G H zk12) 224 (by kernel_rfl) rfl (by kernel_rfl) (by kernel_rfl) rfl (by decide) (by rintro zk12; simp) (fun W hE => refs_open21 G H _ _ _ _ W ((sl_old hS) W hE) (oks_below hG hE.below) ((sl_old hH) W hE) (may_few hM).1 (may_few hM).2) ?_ ?_
       ·
        intro z
        refine wg_load 27 (.tmp 8) (own_row 2 rfl) rfl rfl rfl rfl rfl Try.underlying27 rfl (by kernel_rfl) ?_
        simp only [Nat.reduceAdd, Act.put, Xa, Xz, Xs]
        refine wg_own (z 1) rfl rfl rfl (fun _ => by go_simp) ?_
        simp only [Nat.reduceAdd, Act.put, Xa, Xz, Xs]
        refine wg_val (.pointer (some ⟨g9, 2, none⟩)) rfl rfl rfl (fun _ => by go_simp) ?_
        simp only [Nat.reduceAdd, Act.put, Xa, Xz, Xs]
        refine wg_cell 2 (.tmp 104) (.int .i64 ((H[gi.toNat]!).off)) (own_row 0 rfl) rfl rfl rfl rfl rfl rfl Try.isAgg2 ?_
        simp only [Nat.reduceAdd, Act.put, Xa, Xz, Xs]
        refine wg_val (.slice pw.ptr pn pw.cap) rfl rfl rfl (fun _ => rfl) ?_
        simp only [Nat.reduceAdd, Act.put, Xa, Xz, Xs]
        refine wg_pass (z 5) rfl rfl rfl ?_
        simp only [Nat.reduceAdd, Act.put, Xa, Xz, Xs]
        refine wg_pass (z 6) rfl rfl rfl ?_
        simp only [Nat.reduceAdd, Act.put, Xa, Xz, Xs]
        exact wg_nil trivial
       ·
        rintro zk12 k12
        (try dsimp only)
        refine wg_pass (.agg #[.slice p G.length c, .slice q H.length d]) rfl rfl rfl ?_
        simp only [Nat.reduceAdd, Act.put, Xa, Xz, Xs]
        refine wg_own (.agg #[.slice zk12.p zk12.K.length zk12.c, .slice zk12.q H.length zk12.d]) rfl rfl rfl (fun _ => by go_simp) ?_
        simp only [Nat.reduceAdd, Act.put, Xa, Xz, Xs]
        refine wg_pass (.pointer (some ⟨g9, 2, none⟩)) rfl rfl rfl ?_
        simp only [Nat.reduceAdd, Act.put, Xa, Xz, Xs]
        refine wg_pass (.int .i64 ((H[gi.toNat]!).off)) rfl rfl rfl ?_
        simp only [Nat.reduceAdd, Act.put, Xa, Xz, Xs]
        refine wg_pass (.slice pw.ptr pn pw.cap) rfl rfl rfl ?_
        simp only [Nat.reduceAdd, Act.put, Xa, Xz, Xs]
        refine wg_call_at 15 #[.agg #[.slice zk12.p zk12.K.length zk12.c, .slice zk12.q H.length zk12.d], .int .i64 ((H[gi.toNat]!).off), .slice pw.ptr pn pw.cap] (.int .i64 (endR G (H[gi.toNat]!).off Pl)) rfl rfl rfl (fun _ => by go_simp) (fun W hE => end_lenr (H[gi.toNat]!).off Pl _ _ zk12.K H _ _ zk12.c zk12.d pn W (held_at k12.segs (List.Sublist.cons _ (List.Sublist.cons _ (List.Sublist.cons _ (List.Sublist.cons _ (List.sublist_append_of_sublist_right (List.Sublist.refl _)))))) hE) (k12.ok _ _ hG (hE.sub (List.Sublist.cons _ (List.Sublist.cons _ (List.Sublist.cons _ (List.Sublist.cons _ (List.sublist_append_of_sublist_right (List.Sublist.refl _)))))))) (held_at k12.grps (List.Sublist.cons _ (List.Sublist.cons _ (List.Sublist.cons _ (List.Sublist.cons _ (List.sublist_append_of_sublist_right (List.Sublist.refl _)))))) hE) (by rw [k12.same.length]; omega) (by omega) (segs_same k12.same hM.segs) ⟨q3, by omega⟩ ((sl_own [⟨g9, #[.int .i64 ((H[gi.toNat]!).id), .int .i64 ((H[gi.toNat]!).seg), .int .i64 ((H[gi.toNat]!).off), .int .i64 ((H[gi.toNat]!).acc), .int .i64 ((H[gi.toNat]!).slack)], 62⟩, ⟨g3, #[.int .i64 lo, .int .i64 hi], 32⟩, ⟨g2, #[.slice p G.length c, .slice q H.length d], 27⟩, ⟨g1, #[.int .i64 k.pu, .int .i64 k.lo, .int .i64 k.hi, .int .i64 k.rb, .int .i64 k.rp, .int .i64 k.ae, .int .i64 k.ms, .int .i64 k.ma, .int .i64 k.an, .int .i64 k.st, .int .i64 k.ss, .int .i64 k.ro, .int .i64 k.ti, .int .i64 k.br], 23⟩] zk12.N b3 rfl) W hE) (rtok_same k12.same b4.ok) b2 (endR_same k12.same)) ?_
        simp only [Nat.reduceAdd, Act.put, Xa, Xz, Xs]
        refine wg_val (.int .i64 (endR G (H[gi.toNat]!).off Pl)) rfl rfl rfl (fun _ => rfl) ?_
        simp only [Nat.reduceAdd, Act.put, Xa, Xz, Xs]
        refine wg_nil ?_
        refine we_then ?_
        refine wc_seq ?_
        refine wc_region ?_
        refine wl_load 23 (.tmp 7) (own_row 3 rfl) rfl rfl rfl Try.underlying23 rfl (by kernel_rfl) ?_
        simp only [Act.put, Xa, Xz, Xs]
        refine wl_load 27 (.tmp 8) (own_row 2 rfl) rfl rfl rfl Try.underlying27 rfl (by kernel_rfl) ?_
        simp only [Act.put, Xa, Xz, Xs]
        refine wl_val (.int .i64 gi) rfl (fun _ => rfl) ?_
        simp only [Act.put, Xa, Xz, Xs]
        refine wl_load 32 (.tmp 11) (own_row 1 rfl) rfl rfl rfl Try.underlying32 rfl (by kernel_rfl) ?_
        simp only [Act.put, Xa, Xz, Xs]
        refine wl_call_open (ι := Pz) (fun zz => match zz with | zk13 => ⟨g9, #[.int .i64 ((H[gi.toNat]!).id), .int .i64 ((H[gi.toNat]!).seg), .int .i64 ((H[gi.toNat]!).off), .int .i64 ((H[gi.toNat]!).acc), .int .i64 ((H[gi.toNat]!).slack)], 62⟩ :: ⟨g3, #[.int .i64 lo, .int .i64 hi], 32⟩ :: ⟨g2, #[.slice p G.length c, .slice q H.length d], 27⟩ :: ⟨g1, #[.int .i64 k.pu, .int .i64 k.lo, .int .i64 k.hi, .int .i64 k.rb, .int .i64 k.rp, .int .i64 k.ae, .int .i64 k.ms, .int .i64 k.ma, .int .i64 k.an, .int .i64 k.st, .int .i64 k.ss, .int .i64 k.ro, .int .i64 k.ti, .int .i64 k.br], 23⟩ :: (pw.rows 3 ++ (zk12.N ++ zk13.N))) 9 #[.agg #[.int .i64 k.pu, .int .i64 k.lo, .int .i64 k.hi, .int .i64 k.rb, .int .i64 k.rp, .int .i64 k.ae, .int .i64 k.ms, .int .i64 k.ma, .int .i64 k.an, .int .i64 k.st, .int .i64 k.ss, .int .i64 k.ro, .int .i64 k.ti, .int .i64 k.br], .agg #[.slice p G.length c, .slice q H.length d], .int .i64 gi, .agg #[.int .i64 lo, .int .i64 hi]] (fun zz => match zz with | zk13 => .agg #[.bool true, .int .i64 gi, .int .i64 (-((H[gi.toNat]!).acc + k.an) + min lo 0), .int .i64 ((H[gi.toNat]!).acc + k.an + max hi 0), .int .i64 ((min lo 0 + max hi 0) / 2), .int .i64 ((H[gi.toNat]!).off), .slice zk13.p 1 zk13.c]) (fun zz => match zz with | zk13 => zk13.N) (fun zz => match zz with | zk13 => Held zk13.N zk13.p (flat rt [[(H[gi.toNat]!).seg]])) (by rintro zk13; simp) rfl (fun _ => by go_simp) (fun W hE => Pla.reset_any k gi lo hi G H _ _ _ _ W hk ((sl_old hS) W hE) (oks_below hG hE.below) ((sl_old hH) W hE) hM hgi ⟨by omega, by omega, by omega⟩) ?_
        rintro zk13 k13
        (try dsimp only)
        simp only [Act.put, Xa, Xz, Xs]
        refine wl_new 38 (#[.bool false, .int .i64 0, .int .i64 0, .int .i64 0, .int .i64 0, .int .i64 0, .slice none 0 0]) rfl (fun _ => by go_simp) ?_
        intro g14
        simp only [Act.put, Xa, Xz, Xs]
        refine wl_store 0 38 (.tmp 22) (.tmp 112) (#[.bool true, .int .i64 gi, .int .i64 (-((H[gi.toNat]!).acc + k.an) + min lo 0), .int .i64 ((H[gi.toNat]!).acc + k.an + max hi 0), .int .i64 ((min lo 0 + max hi 0) / 2), .int .i64 ((H[gi.toNat]!).off), .slice zk13.p 1 zk13.c]) rfl rfl rfl rfl rfl (by kernel_rfl) rfl (by simp [Value.oneCell']) ?_
        simp only [Act.put, List.set_cons_zero]
        refine wl_nil ?_
        refine we_then ?_
        refine wc_seq ?_
        refine wc_seq ?_
        have has0 : HasR [[(H[gi.toNat]!).seg]] Pl := ⟨[(H[gi.toNat]!).seg], List.mem_singleton.2 rfl, fun k h1 h2 => by (obtain rfl : k = 0 := (by simpa using h1)); exact b4.first.symm⟩
        refine wc_region ?_
        refine wl_val (.pointer (some ⟨g14, 2, none⟩)) rfl (fun _ => by go_simp) ?_
        simp only [Act.put, Xa, Xz, Xs]
        refine wl_part 32 (.tmp 113) [.int .i64 (-((H[gi.toNat]!).acc + k.an) + min lo 0), .int .i64 ((H[gi.toNat]!).acc + k.an + max hi 0)] (own_row 0 rfl) rfl rfl rfl rfl Try.underlying32 rfl (by kernel_rfl) ?_
        simp only [Act.put, Xa, Xz, Xs]
        refine wl_val (.int .i64 x) rfl (fun _ => rfl) ?_
        simp only [Act.put, Xa, Xz, Xs]
        refine wl_call 16 #[.agg #[.int .i64 (-((H[gi.toNat]!).acc + k.an) + min lo 0), .int .i64 ((H[gi.toNat]!).acc + k.an + max hi 0)], .int .i64 x] (.bool (decide ((-((H[gi.toNat]!).acc + k.an) + min lo 0) ≤ x) && decide (x ≤ ((H[gi.toNat]!).acc + k.an + max hi 0)))) rfl (fun _ => by go_simp) (fun W => Spo.has_any (-((H[gi.toNat]!).acc + k.an) + min lo 0) ((H[gi.toNat]!).acc + k.an + max hi 0) x W) ?_
        simp only [Act.put, Xa, Xz, Xs]
        refine wl_val (.bool (!((decide ((-((H[gi.toNat]!).acc + k.an) + min lo 0) ≤ x) && decide (x ≤ ((H[gi.toNat]!).acc + k.an + max hi 0)))))) rfl (fun _ => by go_simp) ?_
        simp only [Act.put, Xa, Xz, Xs]
        refine wl_val (.bool (!((decide ((-((H[gi.toNat]!).acc + k.an) + min lo 0) ≤ x) && decide (x ≤ ((H[gi.toNat]!).acc + k.an + max hi 0)))))) rfl (fun _ => rfl) ?_
        simp only [Act.put, Xa, Xz, Xs]
        cases h15 : (decide ((-((H[gi.toNat]!).acc + k.an) + min lo 0) ≤ x) && decide (x ≤ ((H[gi.toNat]!).acc + k.an + max hi 0)))
        ·
         skip
         have p15 : ¬ (((-((H[gi.toNat]!).acc + k.an) + min lo 0) ≤ x) ∧ (x ≤ ((H[gi.toNat]!).acc + k.an + max hi 0))) := by first | (simp; done) | (simp at h15; done) | simpa using h15
         refine wl_skip rfl ?_
         simp only [Act.put, Xa, Xz, Xs]
         refine wl_skip rfl ?_
         simp only [Act.put, Xa, Xz, Xs]
         refine wl_skip rfl ?_
         simp only [Act.put, Xa, Xz, Xs]
         refine wl_skip rfl ?_
         simp only [Act.put, Xa, Xz, Xs]
         refine wl_skip rfl ?_
         simp only [Act.put, Xa, Xz, Xs]
         refine wl_val (.bool true) rfl (fun _ => rfl) ?_
         simp only [Act.put, Xa, Xz, Xs]
         refine wl_nil ?_
         refine we_then ?_
         refine wc_true rfl ?_
         refine wc_seq ?_
         refine wc_region ?_
         refine wl_val (.pointer (some ⟨g14, 2, none⟩)) rfl (fun _ => by go_simp) ?_
         simp only [Act.put, Xa, Xz, Xs]
         refine wl_part 32 (.tmp 125) [.int .i64 (-((H[gi.toNat]!).acc + k.an) + min lo 0), .int .i64 ((H[gi.toNat]!).acc + k.an + max hi 0)] (own_row 0 rfl) rfl rfl rfl rfl Try.underlying32 rfl (by kernel_rfl) ?_
         simp only [Act.put, Xa, Xz, Xs]
         refine wl_val (.int .i64 x) rfl (fun _ => rfl) ?_
         simp only [Act.put, Xa, Xz, Xs]
         refine wl_call 16 #[.agg #[.int .i64 (-((H[gi.toNat]!).acc + k.an) + min lo 0), .int .i64 ((H[gi.toNat]!).acc + k.an + max hi 0)], .int .i64 x] (.bool false) rfl (fun _ => by go_simp) (fun W => by have x9 := Spo.has_any (-((H[gi.toNat]!).acc + k.an) + min lo 0) ((H[gi.toNat]!).acc + k.an + max hi 0) x W; rwa [h15] at x9) ?_
         simp only [Act.put, Xa, Xz, Xs]
         refine wl_val (.bool true) rfl (fun _ => by go_simp) ?_
         simp only [Act.put, Xa, Xz, Xs]
         refine wl_val (.bool true) rfl (fun _ => rfl) ?_
         simp only [Act.put, Xa, Xz, Xs]
         refine wl_nil ?_
         refine we_then ?_
         refine wc_ret ?_
         refine we_then_ret ?_
         refine we_ret1 (.bool true) rfl rfl rfl (fun w1 hE => ?_)
         exact ⟨rfl, hE.below⟩
        ·
         skip
         have p15 : ((-((H[gi.toNat]!).acc + k.an) + min lo 0) ≤ x) ∧ (x ≤ ((H[gi.toNat]!).acc + k.an + max hi 0)) := by first | (simp; done) | (simp at h15; done) | simpa using h15
         refine wl_val (.pointer (some ⟨g14, 5, none⟩)) rfl (fun _ => by go_simp) ?_
         simp only [Act.put, Xa, Xz, Xs]
         refine wl_part 36 (.tmp 119) [.int .i64 ((H[gi.toNat]!).off), .slice zk13.p 1 zk13.c] (own_row 0 rfl) rfl rfl rfl rfl Try.underlying36 rfl (by kernel_rfl) ?_
         simp only [Act.put, Xa, Xz, Xs]
         refine wl_val (.slice pw.ptr pn pw.cap) rfl (fun _ => rfl) ?_
         simp only [Act.put, Xa, Xz, Xs]
         refine wl_call_at 17 #[.agg #[.int .i64 ((H[gi.toNat]!).off), .slice zk13.p 1 zk13.c], .slice pw.ptr pn pw.cap] (.bool true) rfl (fun _ => by go_simp) (fun W hE => has_true G (H[gi.toNat]!).seg (H[gi.toNat]!).off (H[gi.toNat]!).off [[(H[gi.toNat]!).seg]] _ _ Pl pn _ _ W rfl ok1 ((sl_held k13 (List.Sublist.cons _ (List.Sublist.cons _ (List.Sublist.cons _ (List.Sublist.cons _ (List.Sublist.cons _ (List.sublist_append_of_sublist_right (List.sublist_append_of_sublist_right (List.Sublist.refl _))))))))) W hE) b2 ((sl_own [⟨g14, #[.bool true, .int .i64 gi, .int .i64 (-((H[gi.toNat]!).acc + k.an) + min lo 0), .int .i64 ((H[gi.toNat]!).acc + k.an + max hi 0), .int .i64 ((min lo 0 + max hi 0) / 2), .int .i64 ((H[gi.toNat]!).off), .slice zk13.p 1 zk13.c], 38⟩, ⟨g9, #[.int .i64 ((H[gi.toNat]!).id), .int .i64 ((H[gi.toNat]!).seg), .int .i64 ((H[gi.toNat]!).off), .int .i64 ((H[gi.toNat]!).acc), .int .i64 ((H[gi.toNat]!).slack)], 62⟩, ⟨g3, #[.int .i64 lo, .int .i64 hi], 32⟩, ⟨g2, #[.slice p G.length c, .slice q H.length d], 27⟩, ⟨g1, #[.int .i64 k.pu, .int .i64 k.lo, .int .i64 k.hi, .int .i64 k.rb, .int .i64 k.rp, .int .i64 k.ae, .int .i64 k.ms, .int .i64 k.ma, .int .i64 k.an, .int .i64 k.st, .int .i64 k.ss, .int .i64 k.ro, .int .i64 k.ti, .int .i64 k.br], 23⟩] (zk12.N ++ zk13.N) b3 rfl) W hE) has0 (by omega) (Roub.has_cap b3)) ?_
         simp only [Act.put, Xa, Xz, Xs]
         refine wl_val (.bool false) rfl (fun _ => by go_simp) ?_
         simp only [Act.put, Xa, Xz, Xs]
         refine wl_val (.bool false) rfl (fun _ => rfl) ?_
         simp only [Act.put, Xa, Xz, Xs]
         refine wl_nil ?_
         refine we_then ?_
         refine wc_false rfl ?_
         refine wc_skip ?_
         refine we_then ?_
         refine wc_seq ?_
         refine wc_seq ?_
         refine wc_region ?_
         refine wl_val (.slice rp R.length rc) rfl (fun _ => rfl) ?_
         simp only [Act.put, Xa, Xz, Xs]
         refine wl_val (.int .i64 (R.length : Int)) rfl (fun w => er_len rfl rfl Try.underlying59 w) ?_
         simp only [Act.put, Xa, Xz, Xs]
         refine wl_val (.int .i64 0) rfl (fun _ => rfl) ?_
         simp only [Act.put, Xa, Xz, Xs]
         refine wl_nil ?_
         refine we_then ?_
         refine wc_block ?_
         refine wc_loop (fun (zz : Nat × Mv × Int × List Rw × Value × Value × Value × Value × Value × Value × Value × Value × Value × Value × Value × Value × Value × Value × Value × Value × Value × Value × Value × Value × Value × Value × Value × Value × Value × Value × Value × Value × Value × Value × Value × Value × Value × Value × Value × Value × Value × Value × Value × Value × Value × Value × Value × Value × Value × Value × Value × Value × Value × Value × Value × Value × Value × Value × Value × Value × Value × Value × Value × Value × Value × Value × Value × Value × Value × Value × Value × Value × Value × Value × Value × Value × Value × Value × Value × Value × Value × Value × Value × Value × Value × Value × Value × Value × Value × Value × Value × Value × Value × Value × Value × Value × Value × Value × Value) => match zz with | ⟨j, Pm, xa, Nn, u14, u24, u25, u26, u133, u134, u135, u136, u137, u138, u139, u140, u141, u142, u143, u144, u145, u146, u147, u148, u149, u150, u151, u152, u153, u154, u155, u156, u157, u158, u159, u160, u161, u162, u163, u164, u165, u166, u167, u168, u169, u170, u171, u172, u173, u174, u175, u176, u177, u178, u179, u180, u181, u182, u183, u184, u185, u186, u187, u188, u189, u190, u191, u192, u193, u194, u195, u196, u197, u198, u199, u200, u201, u202, u203, u204, u205, u206, u207, u208, u209, u210, u211, u212, u213, u214, u215, u216, u217, u218, u219, u220, u221, u222, u223⟩ => ({ tmps := #[.agg #[.int .i64 k.pu, .int .i64 k.lo, .int .i64 k.hi, .int .i64 k.rb, .int .i64 k.rp, .int .i64 k.ae, .int .i64 k.ms, .int .i64 k.ma, .int .i64 k.an, .int .i64 k.st, .int .i64 k.ss, .int .i64 k.ro, .int .i64 k.ti, .int .i64 k.br], .agg #[.slice p G.length c, .slice q H.length d], .int .i64 gi, .int .i64 xa, .agg #[.int .i64 lo, .int .i64 hi], .slice rp R.length rc, .slice bp B.length bc, .pointer (some ⟨g1, 0, none⟩), .pointer (some ⟨g2, 0, none⟩), undef, undef, .pointer (some ⟨g3, 0, none⟩), undef, undef, u14, .pointer (some ⟨g9, 0, none⟩), .slice pw.ptr pn pw.cap, undef, u18, u19, u20, .int .i64 (endR G (H[gi.toNat]!).off Pl), .pointer (some ⟨g14, 0, none⟩), undef, u24, u25, u26, .bool true, .bool false, .agg #[.int .i64 k.pu, .int .i64 k.lo, .int .i64 k.hi, .int .i64 k.rb, .int .i64 k.rp, .int .i64 k.ae, .int .i64 k.ms, .int .i64 k.ma, .int .i64 k.an, .int .i64 k.st, .int .i64 k.ss, .int .i64 k.ro, .int .i64 k.ti, .int .i64 k.br], .agg #[.slice p G.length c, .slice q H.length d], .int .i64 gi, .bool true, .bool false, .bool false, .slice rp R.length rc, .int .i64 (R.length : Int), .bool false, .bool false, .bool false, .slice bp B.length bc, .int .i64 (B.length : Int), .bool false, .bool false, .bool false, .agg #[.int .i64 lo, .int .i64 hi], .bool true, .bool false, .bool false, .bool false, .agg #[.int .i64 lo, .int .i64 hi], .pointer (some ⟨g1, 6, none⟩), .int .i64 k.ms, .int .i64 (-k.ms), .pointer (some ⟨g1, 6, none⟩), .int .i64 k.ms, .agg #[.int .i64 (-k.ms), .int .i64 k.ms], .bool true, .bool (!(true)), .bool (!(true)), .pointer (some ⟨g2, 1, none⟩), .slice q H.length d, .int .i64 gi, eaddr q ((gi.toNat) * 5), .agg #[.int .i64 ((H[gi.toNat]!).id), .int .i64 ((H[gi.toNat]!).seg), .int .i64 ((H[gi.toNat]!).off), .int .i64 ((H[gi.toNat]!).acc), .int .i64 ((H[gi.toNat]!).slack)], .pointer (some ⟨g9, 1, none⟩), .int .i64 ((H[gi.toNat]!).seg), .slice ((Own.row g10 1 #[.int .i64 ((H[gi.toNat]!).seg)]).ptr) 1 ((Own.row g10 1 #[.int .i64 ((H[gi.toNat]!).seg)]).cap), .slice bp B.length bc, .int .i64 (B.length : Int), .int .i64 (i : Int), .bool false, u72, u73, u74, u75, u76, u77, u78, u79, u80, u81, u82, u83, u84, u85, u86, u87, u88, u89, u90, u91, u92, u93, u94, u95, u96, u97, u98, u99, u100, u101, .agg #[.slice p G.length c, .slice q H.length d], .agg #[.slice zk12.p zk12.K.length zk12.c, .slice zk12.q H.length zk12.d], .pointer (some ⟨g9, 2, none⟩), .int .i64 ((H[gi.toNat]!).off), .slice pw.ptr pn pw.cap, .int .i64 (endR G (H[gi.toNat]!).off Pl), .agg #[.int .i64 k.pu, .int .i64 k.lo, .int .i64 k.hi, .int .i64 k.rb, .int .i64 k.rp, .int .i64 k.ae, .int .i64 k.ms, .int .i64 k.ma, .int .i64 k.an, .int .i64 k.st, .int .i64 k.ss, .int .i64 k.ro, .int .i64 k.ti, .int .i64 k.br], .agg #[.slice p G.length c, .slice q H.length d], .int .i64 gi, .agg #[.int .i64 lo, .int .i64 hi], .agg #[.bool true, .int .i64 gi, .int .i64 (-((H[gi.toNat]!).acc + k.an) + min lo 0), .int .i64 ((H[gi.toNat]!).acc + k.an + max hi 0), .int .i64 ((min lo 0 + max hi 0) / 2), .int .i64 ((H[gi.toNat]!).off), .slice zk13.p 1 zk13.c], .pointer (some ⟨g14, 2, none⟩), .agg #[.int .i64 (-((H[gi.toNat]!).acc + k.an) + min lo 0), .int .i64 ((H[gi.toNat]!).acc + k.an + max hi 0)], .int .i64 x, .bool true, .bool (!(true)), .bool (!(true)), .pointer (some ⟨g14, 5, none⟩), .agg #[.int .i64 ((H[gi.toNat]!).off), .slice zk13.p 1 zk13.c], .slice pw.ptr pn pw.cap, .bool true, .bool false, .bool false, undef, undef, undef, undef, undef, .slice rp R.length rc, .int .i64 (R.length : Int), .int .i64 (j : Int), u133, u134, u135, u136, u137, u138, u139, u140, u141, u142, u143, u144, u145, u146, u147, u148, u149, u150, u151, u152, u153, u154, u155, u156, u157, u158, u159, u160, u161, u162, u163, u164, u165, u166, u167, u168, u169, u170, u171, u172, u173, u174, u175, u176, u177, u178, u179, u180, u181, u182, u183, u184, u185, u186, u187, u188, u189, u190, u191, u192, u193, u194, u195, u196, u197, u198, u199, u200, u201, u202, u203, u204, u205, u206, u207, u208, u209, u210, u211, u212, u213, u214, u215, u216, u217, u218, u219, u220, u221, u222, u223], defers := [] } : Act)) (fun (zz : Nat × Mv × Int × List Rw × Value × Value × Value × Value × Value × Value × Value × Value × Value × Value × Value × Value × Value × Value × Value × Value × Value × Value × Value × Value × Value × Value × Value × Value × Value × Value × Value × Value × Value × Value × Value × Value × Value × Value × Value × Value × Value × Value × Value × Value × Value × Value × Value × Value × Value × Value × Value × Value × Value × Value × Value × Value × Value × Value × Value × Value × Value × Value × Value × Value × Value × Value × Value × Value × Value × Value × Value × Value × Value × Value × Value × Value × Value × Value × Value × Value × Value × Value × Value × Value × Value × Value × Value × Value × Value × Value × Value × Value × Value × Value × Value × Value × Value × Value × Value) => match zz with | ⟨j, Pm, xa, Nn, u14, u24, u25, u26, u133, u134, u135, u136, u137, u138, u139, u140, u141, u142, u143, u144, u145, u146, u147, u148, u149, u150, u151, u152, u153, u154, u155, u156, u157, u158, u159, u160, u161, u162, u163, u164, u165, u166, u167, u168, u169, u170, u171, u172, u173, u174, u175, u176, u177, u178, u179, u180, u181, u182, u183, u184, u185, u186, u187, u188, u189, u190, u191, u192, u193, u194, u195, u196, u197, u198, u199, u200, u201, u202, u203, u204, u205, u206, u207, u208, u209, u210, u211, u212, u213, u214, u215, u216, u217, u218, u219, u220, u221, u222, u223⟩ => ⟨g14, #[.bool Pm.on, .int .i64 Pm.gi, .int .i64 Pm.lo, .int .i64 Pm.hi, .int .i64 Pm.est, .int .i64 Pm.F, .slice Pm.p Pm.X.length Pm.c], 38⟩ :: ⟨g9, #[.int .i64 ((H[gi.toNat]!).id), .int .i64 ((H[gi.toNat]!).seg), .int .i64 ((H[gi.toNat]!).off), .int .i64 ((H[gi.toNat]!).acc), .int .i64 ((H[gi.toNat]!).slack)], 62⟩ :: ⟨g3, #[.int .i64 lo, .int .i64 hi], 32⟩ :: ⟨g2, #[.slice p G.length c, .slice q H.length d], 27⟩ :: ⟨g1, #[.int .i64 k.pu, .int .i64 k.lo, .int .i64 k.hi, .int .i64 k.rb, .int .i64 k.rp, .int .i64 k.ae, .int .i64 k.ms, .int .i64 k.ma, .int .i64 k.an, .int .i64 k.st, .int .i64 k.ss, .int .i64 k.ro, .int .i64 k.ti, .int .i64 k.br], 23⟩ :: (pw.rows 3 ++ Nn)) (fun (zz : Nat × Mv × Int × List Rw × Value × Value × Value × Value × Value × Value × Value × Value × Value × Value × Value × Value × Value × Value × Value × Value × Value × Value × Value × Value × Value × Value × Value × Value × Value × Value × Value × Value × Value × Value × Value × Value × Value × Value × Value × Value × Value × Value × Value × Value × Value × Value × Value × Value × Value × Value × Value × Value × Value × Value × Value × Value × Value × Value × Value × Value × Value × Value × Value × Value × Value × Value × Value × Value × Value × Value × Value × Value × Value × Value × Value × Value × Value × Value × Value × Value × Value × Value × Value × Value × Value × Value × Value × Value × Value × Value × Value × Value × Value × Value × Value × Value × Value × Value × Value) => match zz with | ⟨j, Pm, xa, Nn, u14, u24, u25, u26, u133, u134, u135, u136, u137, u138, u139, u140, u141, u142, u143, u144, u145, u146, u147, u148, u149, u150, u151, u152, u153, u154, u155, u156, u157, u158, u159, u160, u161, u162, u163, u164, u165, u166, u167, u168, u169, u170, u171, u172, u173, u174, u175, u176, u177, u178, u179, u180, u181, u182, u183, u184, u185, u186, u187, u188, u189, u190, u191, u192, u193, u194, u195, u196, u197, u198, u199, u200, u201, u202, u203, u204, u205, u206, u207, u208, u209, u210, u211, u212, u213, u214, u215, u216, u217, u218, u219, u220, u221, u222, u223⟩ => j ≤ R.length ∧ PlOk G (H[gi.toNat]!).seg (H[gi.toNat]!).off Pm ∧ Held Nn Pm.p (flat rt Pm.X) ∧ HasR Pm.X Pl ∧ Pm.lo ≤ xa ∧ xa ≤ Pm.hi) (fun (zz : Nat × Mv × Int × List Rw × Value × Value × Value × Value × Value × Value × Value × Value × Value × Value × Value × Value × Value × Value × Value × Value × Value × Value × Value × Value × Value × Value × Value × Value × Value × Value × Value × Value × Value × Value × Value × Value × Value × Value × Value × Value × Value × Value × Value × Value × Value × Value × Value × Value × Value × Value × Value × Value × Value × Value × Value × Value × Value × Value × Value × Value × Value × Value × Value × Value × Value × Value × Value × Value × Value × Value × Value × Value × Value × Value × Value × Value × Value × Value × Value × Value × Value × Value × Value × Value × Value × Value × Value × Value × Value × Value × Value × Value × Value × Value × Value × Value × Value × Value × Value) => match zz with | ⟨j, Pm, xa, Nn, u14, u24, u25, u26, u133, u134, u135, u136, u137, u138, u139, u140, u141, u142, u143, u144, u145, u146, u147, u148, u149, u150, u151, u152, u153, u154, u155, u156, u157, u158, u159, u160, u161, u162, u163, u164, u165, u166, u167, u168, u169, u170, u171, u172, u173, u174, u175, u176, u177, u178, u179, u180, u181, u182, u183, u184, u185, u186, u187, u188, u189, u190, u191, u192, u193, u194, u195, u196, u197, u198, u199, u200, u201, u202, u203, u204, u205, u206, u207, u208, u209, u210, u211, u212, u213, u214, u215, u216, u217, u218, u219, u220, u221, u222, u223⟩ => R.length - j) ⟨0, (⟨0, true, gi, -((H[gi.toNat]!).acc + k.an) + min lo 0, (H[gi.toNat]!).acc + k.an + max hi 0, (min lo 0 + max hi 0) / 2, (H[gi.toNat]!).off, zk13.p, [[(H[gi.toNat]!).seg]], zk13.c, []⟩ : Mv), x, zk13.N, _, _, _, _, _, _, _, _, _, _, _, _, _, _, _, _, _, _, _, _, _, _, _, _, _, _, _, _, _, _, _, _, _, _, _, _, _, _, _, _, _, _, _, _, _, _, _, _, _, _, _, _, _, _, _, _, _, _, _, _, _, _, _, _, _, _, _, _, _, _, _, _, _, _, _, _, _, _, _, _, _, _, _, _, _, _, _, _, _, _, _, _, _, _, _⟩ ⟨Nat.zero_le _, ⟨rfl, rfl, ok1, by (try dsimp only); omega, by (try dsimp only); omega, by (try dsimp only); omega⟩, k13, has0, by (try dsimp only); omega, by (try dsimp only); omega⟩ rfl (List.Sublist.cons_cons _ (List.Sublist.cons_cons _ (List.Sublist.cons_cons _ (List.Sublist.cons_cons _ (List.Sublist.cons_cons _ (List.Sublist.append_left (List.sublist_append_of_sublist_right (List.Sublist.refl _)) _)))))) ?_
         rintro ⟨j, Pm, xa, Nn, u14, u24, u25, u26, u133, u134, u135, u136, u137, u138, u139, u140, u141, u142, u143, u144, u145, u146, u147, u148, u149, u150, u151, u152, u153, u154, u155, u156, u157, u158, u159, u160, u161, u162, u163, u164, u165, u166, u167, u168, u169, u170, u171, u172, u173, u174, u175, u176, u177, u178, u179, u180, u181, u182, u183, u184, u185, u186, u187, u188, u189, u190, u191, u192, u193, u194, u195, u196, u197, u198, u199, u200, u201, u202, u203, u204, u205, u206, u207, u208, u209, u210, u211, u212, u213, u214, u215, u216, u217, u218, u219, u220, u221, u222, u223⟩ hφ
         (try dsimp only at hφ ⊢)
         obtain ⟨c1, c2, c3, c4, c5, c6⟩ := hφ
         have c7 := c2.lo
         have c8 := c2.mid
         have c9 := c2.hi
         refine wc_seq ?_
         refine wc_region ?_
         refine wl_val (.bool (decide ((j : Int) < (R.length : Int)))) rfl (fun w => run_cmp rfl rfl rfl Try.underlying3 rfl w) ?_
         simp only [Act.put, Xa, Xz, Xs]
         refine wl_nil ?_
         refine we_then ?_
         refine wc_seq ?_
         cases h16 : (decide ((j : Int) < (R.length : Int)))
         ·
          skip
          have p16 : ¬ ((j : Int) < (R.length : Int)) := of_decide_eq_false h16
          refine wc_false rfl ?_
          refine wc_exit ?_
          refine we_then_exit ?_
          refine we_then_exit ?_
          refine we_in_here ?_
          refine we_then ?_
          refine wc_seq ?_
          refine wc_region ?_
          refine wl_val (.bool true) rfl (fun _ => rfl) ?_
          simp only [Act.put, Xa, Xz, Xs]
          refine wl_nil ?_
          refine we_then ?_
          refine wc_ret ?_
          refine we_ret1 (.bool true) rfl rfl rfl (fun w1 hE => ?_)
          exact ⟨rfl, hE.below⟩
         ·
          skip
          have p16 : (j : Int) < (R.length : Int) := of_decide_eq_true h16
          refine wc_true rfl ?_
          refine wc_skip ?_
          refine we_then ?_
          refine wc_seq ?_
          refine wc_block ?_
          refine wc_seq ?_
          refine wc_region ?_
          refine wl_read (eaddr rp (j * 3)) rfl (er_index j 3 (sl_old hR) rfl rfl rfl rfl (by omega) (flat_length (enc := rd3) (size := 3) (fun _ => rfl) _) (by decide) Try.underlying59 (by kernel_rfl)) ?_
          simp only [Act.put, Xa, Xz, Xs]
          refine wl_read (.agg #[.int .i64 ((R[j]!).1), .int .i64 ((R[j]!).2.1), .int .i64 ((R[j]!).2.2)]) rfl (er_part (j * 3) [.int .i64 ((R[j]!).1), .int .i64 ((R[j]!).2.1), .int .i64 ((R[j]!).2.2)] (sl_old hR) rfl rfl (flat_part (enc := rd3) (fun _ => rfl) R j (by omega)) (Nat.zero_lt_succ _) Try.underlying71 rfl (by kernel_rfl)) ?_
          simp only [Act.put, Xa, Xz, Xs]
          refine wl_new 71 (#[.int .i64 0, .int .i64 0, .int .i64 0]) rfl (fun _ => by go_simp) ?_
          intro g17
          simp only [Act.put, Xa, Xz, Xs]
          refine wl_store 0 71 (.tmp 24) (.tmp 135) (#[.int .i64 ((R[j]!).1), .int .i64 ((R[j]!).2.1), .int .i64 ((R[j]!).2.2)]) rfl rfl rfl rfl rfl (by kernel_rfl) rfl (by simp [Value.oneCell']) ?_
          simp only [Act.put, List.set_cons_zero]
          refine wl_nil ?_
          refine we_then ?_
          refine wc_seq ?_
          refine wc_seq ?_
          refine wc_region ?_
          refine wl_val (.pointer (some ⟨g17, 0, none⟩)) rfl (fun _ => by go_simp) ?_
          simp only [Act.put, Xa, Xz, Xs]
          refine wl_val (.pointer (some ⟨g17, 0, none⟩)) rfl (fun _ => by go_simp) ?_
          simp only [Act.put, Xa, Xz, Xs]
          refine wl_cell 2 (.tmp 137) (.int .i64 ((R[j]!).1)) (own_row 0 rfl) rfl rfl rfl rfl Try.isAgg2 ?_
          simp only [Act.put, Xa, Xz, Xs]
          refine wl_val (.pointer (some ⟨g17, 0, none⟩)) rfl (fun _ => by go_simp) ?_
          simp only [Act.put, Xa, Xz, Xs]
          refine wl_val (.pointer (some ⟨g17, 1, none⟩)) rfl (fun _ => by go_simp) ?_
          simp only [Act.put, Xa, Xz, Xs]
          refine wl_cell 2 (.tmp 140) (.int .i64 ((R[j]!).2.1)) (own_row 0 rfl) rfl rfl rfl rfl Try.isAgg2 ?_
          simp only [Act.put, Xa, Xz, Xs]
          refine wl_val (.bool (decide ((R[j]!).2.1 < (R[j]!).1))) rfl (fun w => run_cmp rfl rfl rfl Try.underlying2 rfl w) ?_
          simp only [Act.put, Xa, Xz, Xs]
          refine wl_val (.bool (decide ((R[j]!).2.1 < (R[j]!).1))) rfl (fun _ => rfl) ?_
          simp only [Act.put, Xa, Xz, Xs]
          cases h18 : (decide ((R[j]!).2.1 < (R[j]!).1))
          ·
           skip
           have p18 : ¬ ((R[j]!).2.1 < (R[j]!).1) := of_decide_eq_false h18
           refine wl_val (.pointer (some ⟨g17, 0, none⟩)) rfl (fun _ => by go_simp) ?_
           simp only [Act.put, Xa, Xz, Xs]
           refine wl_val (.pointer (some ⟨g17, 0, none⟩)) rfl (fun _ => by go_simp) ?_
           simp only [Act.put, Xa, Xz, Xs]
           refine wl_cell 2 (.tmp 145) (.int .i64 ((R[j]!).1)) (own_row 0 rfl) rfl rfl rfl rfl Try.isAgg2 ?_
           simp only [Act.put, Xa, Xz, Xs]
           refine wl_val (.bool (decide ((R[j]!).1 < -1099511627776))) rfl (fun w => run_cmp rfl rfl rfl Try.underlying2 rfl w) ?_
           simp only [Act.put, Xa, Xz, Xs]
           refine wl_val (.bool (decide ((R[j]!).1 < -1099511627776))) rfl (fun _ => rfl) ?_
           simp only [Act.put, Xa, Xz, Xs]
           refine wl_val (.bool (decide ((R[j]!).1 < -1099511627776))) rfl (fun _ => rfl) ?_
           simp only [Act.put, Xa, Xz, Xs]
           cases h19 : (decide ((R[j]!).1 < -1099511627776))
           ·
            skip
            have p19 : ¬ ((R[j]!).1 < -1099511627776) := of_decide_eq_false h19
            refine wl_val (.pointer (some ⟨g17, 0, none⟩)) rfl (fun _ => by go_simp) ?_
            simp only [Act.put, Xa, Xz, Xs]
            refine wl_val (.pointer (some ⟨g17, 1, none⟩)) rfl (fun _ => by go_simp) ?_
            simp only [Act.put, Xa, Xz, Xs]
            refine wl_cell 2 (.tmp 151) (.int .i64 ((R[j]!).2.1)) (own_row 0 rfl) rfl rfl rfl rfl Try.isAgg2 ?_
            simp only [Act.put, Xa, Xz, Xs]
            refine wl_val (.bool (decide (1099511627776 < (R[j]!).2.1))) rfl (fun w => run_cmp rfl rfl rfl Try.underlying2 rfl w) ?_
            simp only [Act.put, Xa, Xz, Xs]
            refine wl_val (.bool (decide (1099511627776 < (R[j]!).2.1))) rfl (fun _ => rfl) ?_
            simp only [Act.put, Xa, Xz, Xs]
            refine wl_val (.bool (decide (1099511627776 < (R[j]!).2.1))) rfl (fun _ => rfl) ?_
            simp only [Act.put, Xa, Xz, Xs]
            cases h20 : (decide (1099511627776 < (R[j]!).2.1))
            ·
             skip
             have p20 : ¬ (1099511627776 < (R[j]!).2.1) := of_decide_eq_false h20
             refine wl_val (.pointer (some ⟨g17, 0, none⟩)) rfl (fun _ => by go_simp) ?_
             simp only [Act.put, Xa, Xz, Xs]
             refine wl_part 32 (.tmp 156) [.int .i64 ((R[j]!).1), .int .i64 ((R[j]!).2.1)] (own_row 0 rfl) rfl rfl rfl rfl Try.underlying32 rfl (by kernel_rfl) ?_
             simp only [Act.put, Xa, Xz, Xs]
             refine wl_val (.pointer (some ⟨g17, 2, none⟩)) rfl (fun _ => by go_simp) ?_
             simp only [Act.put, Xa, Xz, Xs]
             refine wl_cell 2 (.tmp 158) (.int .i64 ((R[j]!).2.2)) (own_row 0 rfl) rfl rfl rfl rfl Try.isAgg2 ?_
             simp only [Act.put, Xa, Xz, Xs]
             refine wl_call 16 #[.agg #[.int .i64 ((R[j]!).1), .int .i64 ((R[j]!).2.1)], .int .i64 ((R[j]!).2.2)] (.bool (decide (((R[j]!).1) ≤ ((R[j]!).2.2)) && decide (((R[j]!).2.2) ≤ ((R[j]!).2.1)))) rfl (fun _ => by go_simp) (fun W => Spo.has_any ((R[j]!).1) ((R[j]!).2.1) ((R[j]!).2.2) W) ?_
             simp only [Act.put, Xa, Xz, Xs]
             refine wl_val (.bool (!((decide (((R[j]!).1) ≤ ((R[j]!).2.2)) && decide (((R[j]!).2.2) ≤ ((R[j]!).2.1)))))) rfl (fun _ => by go_simp) ?_
             simp only [Act.put, Xa, Xz, Xs]
             refine wl_val (.bool (!((decide (((R[j]!).1) ≤ ((R[j]!).2.2)) && decide (((R[j]!).2.2) ≤ ((R[j]!).2.1)))))) rfl (fun _ => rfl) ?_
             simp only [Act.put, Xa, Xz, Xs]
             refine wl_nil ?_
             refine we_then ?_
             cases h21 : (decide (((R[j]!).1) ≤ ((R[j]!).2.2)) && decide (((R[j]!).2.2) ≤ ((R[j]!).2.1)))
             ·
              skip
              have p21 : ¬ ((((R[j]!).1) ≤ ((R[j]!).2.2)) ∧ (((R[j]!).2.2) ≤ ((R[j]!).2.1))) := by first | (simp; done) | (simp at h21; done) | simpa using h21
              refine wc_true rfl ?_
              refine wc_seq ?_
              refine wc_region ?_
              refine wl_val (.bool true) rfl (fun _ => rfl) ?_
              simp only [Act.put, Xa, Xz, Xs]
              refine wl_nil ?_
              refine we_then ?_
              refine wc_ret ?_
              refine we_then_ret ?_
              refine we_in_ret ?_
              refine we_then_ret ?_
              refine we_then_ret ?_
              refine we_in_ret ?_
              refine we_then_ret ?_
              refine we_ret1 (.bool true) rfl rfl rfl (fun w1 hE => ?_)
              exact ⟨rfl, hE.below⟩
             ·
              skip
              have p21 : (((R[j]!).1) ≤ ((R[j]!).2.2)) ∧ (((R[j]!).2.2) ≤ ((R[j]!).2.1)) := by first | (simp; done) | (simp at h21; done) | simpa using h21
              refine wc_false rfl ?_
              refine wc_skip ?_
              refine we_then ?_
              refine wc_seq ?_
              refine wc_region ?_
              refine wl_val (.int .i64 xa) rfl (fun _ => rfl) ?_
              simp only [Act.put, Xa, Xz, Xs]
              refine wl_val (.pointer (some ⟨g17, 2, none⟩)) rfl (fun _ => by go_simp) ?_
              simp only [Act.put, Xa, Xz, Xs]
              refine wl_cell 2 (.tmp 164) (.int .i64 ((R[j]!).2.2)) (own_row 0 rfl) rfl rfl rfl rfl Try.isAgg2 ?_
              simp only [Act.put, Xa, Xz, Xs]
              refine wl_val (.int .i64 (xa + ((R[j]!).2.2))) rfl (fun w => run_arith (op := .add) rfl rfl rfl Try.underlying2 (congrArg some (i64_in (by omega) (by omega))) w) ?_
              simp only [Act.put, Xa, Xz, Xs]
              refine wl_val (.int .i64 (xa + ((R[j]!).2.2))) rfl (fun _ => rfl) ?_
              simp only [Act.put, Xa, Xz, Xs]
              refine wl_nil ?_
              refine we_then ?_
              refine wc_seq ?_
              refine wc_region ?_
              refine wl_load 38 (.tmp 22) (own_row 1 rfl) rfl rfl rfl Try.underlying38 rfl (by kernel_rfl) ?_
              simp only [Act.put, Xa, Xz, Xs]
              refine wl_load 27 (.tmp 8) (own_row 4 rfl) rfl rfl rfl Try.underlying27 rfl (by kernel_rfl) ?_
              simp only [Act.put, Xa, Xz, Xs]
              refine wl_val (.pointer (some ⟨g17, 0, none⟩)) rfl (fun _ => by go_simp) ?_
              simp only [Act.put, Xa, Xz, Xs]
              refine wl_part 32 (.tmp 170) [.int .i64 ((R[j]!).1), .int .i64 ((R[j]!).2.1)] (own_row 0 rfl) rfl rfl rfl rfl Try.underlying32 rfl (by kernel_rfl) ?_
              simp only [Act.put, Xa, Xz, Xs]
              refine wl_call_open (ι := Mv) (fun zz => match zz with | zk22 => ⟨g17, #[.int .i64 ((R[j]!).1), .int .i64 ((R[j]!).2.1), .int .i64 ((R[j]!).2.2)], 71⟩ :: ⟨g14, #[.bool Pm.on, .int .i64 Pm.gi, .int .i64 Pm.lo, .int .i64 Pm.hi, .int .i64 Pm.est, .int .i64 Pm.F, .slice Pm.p Pm.X.length Pm.c], 38⟩ :: ⟨g9, #[.int .i64 ((H[gi.toNat]!).id), .int .i64 ((H[gi.toNat]!).seg), .int .i64 ((H[gi.toNat]!).off), .int .i64 ((H[gi.toNat]!).acc), .int .i64 ((H[gi.toNat]!).slack)], 62⟩ :: ⟨g3, #[.int .i64 lo, .int .i64 hi], 32⟩ :: ⟨g2, #[.slice p G.length c, .slice q H.length d], 27⟩ :: ⟨g1, #[.int .i64 k.pu, .int .i64 k.lo, .int .i64 k.hi, .int .i64 k.rb, .int .i64 k.rp, .int .i64 k.ae, .int .i64 k.ms, .int .i64 k.ma, .int .i64 k.an, .int .i64 k.st, .int .i64 k.ss, .int .i64 k.ro, .int .i64 k.ti, .int .i64 k.br], 23⟩ :: (pw.rows 3 ++ (Nn ++ zk22.N))) 13 #[.agg #[.bool Pm.on, .int .i64 Pm.gi, .int .i64 Pm.lo, .int .i64 Pm.hi, .int .i64 Pm.est, .int .i64 Pm.F, .slice Pm.p Pm.X.length Pm.c], .agg #[.slice p G.length c, .slice q H.length d], .agg #[.int .i64 ((R[j]!).1), .int .i64 ((R[j]!).2.1)]] (fun zz => match zz with | zk22 => .tuple #[.agg #[.bool zk22.on, .int .i64 zk22.gi, .int .i64 zk22.lo, .int .i64 zk22.hi, .int .i64 zk22.est, .int .i64 zk22.F, .slice zk22.p zk22.X.length zk22.c], .int .i64 (zk22.e : Int)]) (fun zz => match zz with | zk22 => zk22.N) (fun zz => match zz with | zk22 => MvOk G Pm.gi (H[gi.toNat]!).off (Pm.lo + ((R[j]!).1)) (Pm.hi + ((R[j]!).2.1)) (Pm.est + (((R[j]!).1) + ((R[j]!).2.1)) / 2) Pm.X zk22) (by rintro zk22; simp) rfl (fun _ => by go_simp) (fun W hE => Pla.move_any ((R[j]!).1) ((R[j]!).2.1) Pm G H _ _ _ _ (H[gi.toNat]!).seg (H[gi.toNat]!).off W ((sl_old hS) W hE) (oks_below hG hE.below) ((sl_old hH) W hE) hM c2 ((sl_held c3 (List.Sublist.cons _ (List.Sublist.cons _ (List.Sublist.cons _ (List.Sublist.cons _ (List.Sublist.cons _ (List.Sublist.cons _ (List.sublist_append_of_sublist_right (List.Sublist.refl _))))))))) W hE) ⟨by omega, by omega, by omega⟩ hC) ?_
              rintro zk22 k22
              (try dsimp only)
              have mn : zk22.e ≠ 0 → zk22.e = 20 ∨ zk22.e = 13 ∨ zk22.e = 40 := fun h => (mv_none hM.segs c2.set.wf k22.is h).2
              have is0 : zk22.e = 0 → mvS G (H[gi.toNat]!).off Pm.X (Pm.lo + (R[j]!).1) (Pm.hi + (R[j]!).2.1) = (0, zk22.X) := fun h => by have x := k22.is; rwa [h] at x
              have okz : zk22.e = 0 → SetOk G (H[gi.toNat]!).seg (H[gi.toNat]!).off zk22.X := fun h => mv_ok hM.segs c2.set (is0 h)
              have fz : zk22.e = 0 → zk22.F = (H[gi.toNat]!).off := fun h => (k22.yes h).2.2.2.2.2
              have lz : zk22.e = 0 → zk22.lo = Pm.lo + (R[j]!).1 ∧ zk22.hi = Pm.hi + (R[j]!).2.1 := fun h => ⟨(k22.yes h).2.2.1, (k22.yes h).2.2.2.1⟩
              simp only [Act.put, Xa, Xz, Xs]
              refine wl_val (.tuple #[.agg #[.bool zk22.on, .int .i64 zk22.gi, .int .i64 zk22.lo, .int .i64 zk22.hi, .int .i64 zk22.est, .int .i64 zk22.F, .slice zk22.p zk22.X.length zk22.c], .int .i64 (zk22.e : Int)]) rfl (fun _ => rfl) ?_
              simp only [Act.put, Xa, Xz, Xs]
              refine wl_val (.agg #[.bool zk22.on, .int .i64 zk22.gi, .int .i64 zk22.lo, .int .i64 zk22.hi, .int .i64 zk22.est, .int .i64 zk22.F, .slice zk22.p zk22.X.length zk22.c]) rfl (fun _ => by go_simp) ?_
              simp only [Act.put, Xa, Xz, Xs]
              refine wl_val (.int .i64 (zk22.e : Int)) rfl (fun _ => by go_simp) ?_
              simp only [Act.put, Xa, Xz, Xs]
              refine wl_new 38 (#[.bool false, .int .i64 0, .int .i64 0, .int .i64 0, .int .i64 0, .int .i64 0, .slice none 0 0]) rfl (fun _ => by go_simp) ?_
              intro g23
              simp only [Act.put, Xa, Xz, Xs]
              refine wl_store 0 38 (.tmp 25) (.tmp 173) (#[.bool zk22.on, .int .i64 zk22.gi, .int .i64 zk22.lo, .int .i64 zk22.hi, .int .i64 zk22.est, .int .i64 zk22.F, .slice zk22.p zk22.X.length zk22.c]) rfl rfl rfl rfl rfl (by kernel_rfl) rfl (by simp [Value.oneCell']) ?_
              simp only [Act.put, List.set_cons_zero]
              refine wl_val (.int .i64 (zk22.e : Int)) rfl (fun _ => rfl) ?_
              simp only [Act.put, Xa, Xz, Xs]
              refine wl_nil ?_
              refine we_then ?_
              refine wc_seq ?_
              refine wc_seq ?_
              refine wc_region ?_
              refine wl_val (.int .i64 (zk22.e : Int)) rfl (fun _ => rfl) ?_
              simp only [Act.put, Xa, Xz, Xs]
              refine wl_val (.bool ((zk22.e : Int) == 13)) rfl (fun w => run_cmp rfl rfl rfl Try.underlying53 rfl w) ?_
              simp only [Act.put, Xa, Xz, Xs]
              refine wl_val (.bool ((zk22.e : Int) == 13)) rfl (fun _ => rfl) ?_
              simp only [Act.put, Xa, Xz, Xs]
              cases h24 : ((zk22.e : Int) == 13)
              ·
               skip
               have p24 : ¬ ((zk22.e : Int) = 13) := by first | (simp; done) | (simp at h24; done) | simpa using h24
               refine wl_val (.int .i64 (zk22.e : Int)) rfl (fun _ => rfl) ?_
               simp only [Act.put, Xa, Xz, Xs]
               refine wl_val (.bool ((zk22.e : Int) == 20)) rfl (fun w => run_cmp rfl rfl rfl Try.underlying53 rfl w) ?_
               simp only [Act.put, Xa, Xz, Xs]
               refine wl_val (.bool ((zk22.e : Int) == 20)) rfl (fun _ => rfl) ?_
               simp only [Act.put, Xa, Xz, Xs]
               refine wl_val (.bool ((zk22.e : Int) == 20)) rfl (fun _ => rfl) ?_
               simp only [Act.put, Xa, Xz, Xs]
               cases h25 : ((zk22.e : Int) == 20)
               ·
                skip
                have p25 : ¬ ((zk22.e : Int) = 20) := by first | (simp; done) | (simp at h25; done) | simpa using h25
                refine wl_val (.int .i64 (xa + ((R[j]!).2.2))) rfl (fun _ => rfl) ?_
                simp only [Act.put, Xa, Xz, Xs]
                refine wl_val (.int .i64 (endR G (H[gi.toNat]!).off Pl)) rfl (fun _ => rfl) ?_
                simp only [Act.put, Xa, Xz, Xs]
                refine wl_val (.bool (decide ((endR G (H[gi.toNat]!).off Pl) < xa + ((R[j]!).2.2)))) rfl (fun w => run_cmp rfl rfl rfl Try.underlying2 rfl w) ?_
                simp only [Act.put, Xa, Xz, Xs]
                refine wl_val (.bool (decide ((endR G (H[gi.toNat]!).off Pl) < xa + ((R[j]!).2.2)))) rfl (fun _ => rfl) ?_
                simp only [Act.put, Xa, Xz, Xs]
                refine wl_val (.bool (decide ((endR G (H[gi.toNat]!).off Pl) < xa + ((R[j]!).2.2)))) rfl (fun _ => rfl) ?_
                simp only [Act.put, Xa, Xz, Xs]
                cases h26 : (decide ((endR G (H[gi.toNat]!).off Pl) < xa + ((R[j]!).2.2)))
                ·
                 skip
                 have p26 : ¬ ((endR G (H[gi.toNat]!).off Pl) < xa + ((R[j]!).2.2)) := of_decide_eq_false h26
                 refine wl_val (.int .i64 (xa + ((R[j]!).2.2))) rfl (fun _ => rfl) ?_
                 simp only [Act.put, Xa, Xz, Xs]
                 refine wl_val (.pointer (some ⟨g9, 2, none⟩)) rfl (fun _ => by go_simp) ?_
                 simp only [Act.put, Xa, Xz, Xs]
                 refine wl_cell 2 (.tmp 188) (.int .i64 ((H[gi.toNat]!).off)) (own_row 3 rfl) rfl rfl rfl rfl Try.isAgg2 ?_
                 simp only [Act.put, Xa, Xz, Xs]
                 refine wl_val (.int .i64 (-(H[gi.toNat]!).off)) rfl (fun w => run_neg rfl rfl Try.underlying2 (i64_in (by omega) (by omega)) w) ?_
                 simp only [Act.put, Xa, Xz, Xs]
                 refine wl_val (.bool (decide (xa + ((R[j]!).2.2) < (-(H[gi.toNat]!).off)))) rfl (fun w => run_cmp rfl rfl rfl Try.underlying2 rfl w) ?_
                 simp only [Act.put, Xa, Xz, Xs]
                 refine wl_val (.bool (decide (xa + ((R[j]!).2.2) < (-(H[gi.toNat]!).off)))) rfl (fun _ => rfl) ?_
                 simp only [Act.put, Xa, Xz, Xs]
                 refine wl_nil ?_
                 refine we_then ?_
                 cases h27 : (decide (xa + ((R[j]!).2.2) < (-(H[gi.toNat]!).off)))
                 ·
                  skip
                  have p27 : ¬ (xa + ((R[j]!).2.2) < (-(H[gi.toNat]!).off)) := of_decide_eq_false h27
                  refine wc_false rfl ?_
                  refine wc_skip ?_
                  refine we_then ?_
                  refine wc_seq ?_
                  refine wc_seq ?_
                  have hasz : zk22.e = 0 → HasR zk22.X Pl := fun h => (mv_keep hM.segs c2.set b4 (by omega) c4 (by omega) (mv_low hM.segs c2.set (is0 h)) k22.is (by omega) (by omega)).2
                  have lost : zk22.e = 40 → Pm.lo + (R[j]!).1 < -(H[gi.toNat]!).off := fun h => mv_lost (b := Pm.hi + (R[j]!).2.1) hM.segs c2.set b4 (by omega) c4 (by omega) (by have x := k22.is; rwa [h] at x)
                  refine wc_region ?_
                  refine wl_val (.int .i64 (zk22.e : Int)) rfl (fun _ => rfl) ?_
                  simp only [Act.put, Xa, Xz, Xs]
                  refine wl_val (.bool ((zk22.e : Int) == 40)) rfl (fun w => run_cmp rfl rfl rfl Try.underlying53 rfl w) ?_
                  simp only [Act.put, Xa, Xz, Xs]
                  refine wl_nil ?_
                  refine we_then ?_
                  cases h28 : ((zk22.e : Int) == 40)
                  ·
                   skip
                   have p28 : ¬ ((zk22.e : Int) = 40) := by first | (simp; done) | (simp at h28; done) | simpa using h28
                   refine wc_false rfl ?_
                   refine wc_skip ?_
                   refine we_then ?_
                   refine wc_seq ?_
                   refine wc_seq ?_
                   refine wc_region ?_
                   refine wl_val (.int .i64 (zk22.e : Int)) rfl (fun _ => rfl) ?_
                   simp only [Act.put, Xa, Xz, Xs]
                   refine wl_val (.bool ((zk22.e : Int) != 0)) rfl (fun w => run_cmp rfl rfl rfl Try.underlying53 rfl w) ?_
                   simp only [Act.put, Xa, Xz, Xs]
                   refine wl_val (.bool ((zk22.e : Int) != 0)) rfl (fun _ => rfl) ?_
                   simp only [Act.put, Xa, Xz, Xs]
                   cases h29 : ((zk22.e : Int) != 0)
                   ·
                    skip
                    have p29 : ¬ ((zk22.e : Int) ≠ 0) := by first | (simp; done) | (simp at h29; done) | simpa using h29
                    refine wl_val (.pointer (some ⟨g23, 2, none⟩)) rfl (fun _ => by go_simp) ?_
                    simp only [Act.put, Xa, Xz, Xs]
                    refine wl_part 32 (.tmp 209) [.int .i64 zk22.lo, .int .i64 zk22.hi] (own_row 0 rfl) rfl rfl rfl rfl Try.underlying32 rfl (by kernel_rfl) ?_
                    simp only [Act.put, Xa, Xz, Xs]
                    refine wl_val (.int .i64 (xa + ((R[j]!).2.2))) rfl (fun _ => rfl) ?_
                    simp only [Act.put, Xa, Xz, Xs]
                    refine wl_call 16 #[.agg #[.int .i64 zk22.lo, .int .i64 zk22.hi], .int .i64 (xa + ((R[j]!).2.2))] (.bool (decide (zk22.lo ≤ (xa + ((R[j]!).2.2))) && decide ((xa + ((R[j]!).2.2)) ≤ zk22.hi))) rfl (fun _ => by go_simp) (fun W => Spo.has_any zk22.lo zk22.hi (xa + ((R[j]!).2.2)) W) ?_
                    simp only [Act.put, Xa, Xz, Xs]
                    refine wl_val (.bool (!((decide (zk22.lo ≤ (xa + ((R[j]!).2.2))) && decide ((xa + ((R[j]!).2.2)) ≤ zk22.hi))))) rfl (fun _ => by go_simp) ?_
                    simp only [Act.put, Xa, Xz, Xs]
                    refine wl_val (.bool (!((decide (zk22.lo ≤ (xa + ((R[j]!).2.2))) && decide ((xa + ((R[j]!).2.2)) ≤ zk22.hi))))) rfl (fun _ => rfl) ?_
                    simp only [Act.put, Xa, Xz, Xs]
                    refine wl_val (.bool (!((decide (zk22.lo ≤ (xa + ((R[j]!).2.2))) && decide ((xa + ((R[j]!).2.2)) ≤ zk22.hi))))) rfl (fun _ => rfl) ?_
                    simp only [Act.put, Xa, Xz, Xs]
                    cases h30 : (decide (zk22.lo ≤ (xa + ((R[j]!).2.2))) && decide ((xa + ((R[j]!).2.2)) ≤ zk22.hi))
                    ·
                     skip
                     have p30 : ¬ ((zk22.lo ≤ (xa + ((R[j]!).2.2))) ∧ ((xa + ((R[j]!).2.2)) ≤ zk22.hi)) := by first | (simp; done) | (simp at h30; done) | simpa using h30
                     refine wl_skip rfl ?_
                     simp only [Act.put, Xa, Xz, Xs]
                     refine wl_skip rfl ?_
                     simp only [Act.put, Xa, Xz, Xs]
                     refine wl_skip rfl ?_
                     simp only [Act.put, Xa, Xz, Xs]
                     refine wl_skip rfl ?_
                     simp only [Act.put, Xa, Xz, Xs]
                     refine wl_skip rfl ?_
                     simp only [Act.put, Xa, Xz, Xs]
                     refine wl_val (.bool true) rfl (fun _ => rfl) ?_
                     simp only [Act.put, Xa, Xz, Xs]
                     refine wl_nil ?_
                     refine we_then ?_
                     refine wc_true rfl ?_
                     refine wc_seq ?_
                     refine wc_region ?_
                     refine wl_val (.bool false) rfl (fun _ => rfl) ?_
                     simp only [Act.put, Xa, Xz, Xs]
                     refine wl_nil ?_
                     refine we_then ?_
                     refine wc_ret ?_
                     refine we_then_ret ?_
                     refine we_in_ret ?_
                     refine we_then_ret ?_
                     refine we_then_ret ?_
                     refine we_in_ret ?_
                     refine we_then_ret ?_
                     refine we_ret1 (.bool false) rfl rfl rfl (fun w1 hE => ?_)
                     exact (by exfalso; omega)
                    ·
                     skip
                     have p30 : (zk22.lo ≤ (xa + ((R[j]!).2.2))) ∧ ((xa + ((R[j]!).2.2)) ≤ zk22.hi) := by first | (simp; done) | (simp at h30; done) | simpa using h30
                     refine wl_val (.pointer (some ⟨g23, 5, none⟩)) rfl (fun _ => by go_simp) ?_
                     simp only [Act.put, Xa, Xz, Xs]
                     refine wl_part 36 (.tmp 216) [.int .i64 zk22.F, .slice zk22.p zk22.X.length zk22.c] (own_row 0 rfl) rfl rfl rfl rfl Try.underlying36 rfl (by kernel_rfl) ?_
                     simp only [Act.put, Xa, Xz, Xs]
                     refine wl_val (.slice pw.ptr pn pw.cap) rfl (fun _ => rfl) ?_
                     simp only [Act.put, Xa, Xz, Xs]
                     refine wl_call_at 17 #[.agg #[.int .i64 zk22.F, .slice zk22.p zk22.X.length zk22.c], .slice pw.ptr pn pw.cap] (.bool true) rfl (fun _ => by go_simp) (fun W hE => has_true G (H[gi.toNat]!).seg (H[gi.toNat]!).off zk22.F zk22.X _ _ Pl pn _ _ W (fz (by omega)) (okz (by omega)) ((sl_held k22.held (List.Sublist.cons _ (List.Sublist.cons _ (List.Sublist.cons _ (List.Sublist.cons _ (List.Sublist.cons _ (List.Sublist.cons _ (List.Sublist.cons _ (List.sublist_append_of_sublist_right (List.sublist_append_of_sublist_right (List.Sublist.refl _))))))))))) W hE) b2 ((sl_own [⟨g23, #[.bool zk22.on, .int .i64 zk22.gi, .int .i64 zk22.lo, .int .i64 zk22.hi, .int .i64 zk22.est, .int .i64 zk22.F, .slice zk22.p zk22.X.length zk22.c], 38⟩, ⟨g17, #[.int .i64 ((R[j]!).1), .int .i64 ((R[j]!).2.1), .int .i64 ((R[j]!).2.2)], 71⟩, ⟨g14, #[.bool Pm.on, .int .i64 Pm.gi, .int .i64 Pm.lo, .int .i64 Pm.hi, .int .i64 Pm.est, .int .i64 Pm.F, .slice Pm.p Pm.X.length Pm.c], 38⟩, ⟨g9, #[.int .i64 ((H[gi.toNat]!).id), .int .i64 ((H[gi.toNat]!).seg), .int .i64 ((H[gi.toNat]!).off), .int .i64 ((H[gi.toNat]!).acc), .int .i64 ((H[gi.toNat]!).slack)], 62⟩, ⟨g3, #[.int .i64 lo, .int .i64 hi], 32⟩, ⟨g2, #[.slice p G.length c, .slice q H.length d], 27⟩, ⟨g1, #[.int .i64 k.pu, .int .i64 k.lo, .int .i64 k.hi, .int .i64 k.rb, .int .i64 k.rp, .int .i64 k.ae, .int .i64 k.ms, .int .i64 k.ma, .int .i64 k.an, .int .i64 k.st, .int .i64 k.ss, .int .i64 k.ro, .int .i64 k.ti, .int .i64 k.br], 23⟩] (Nn ++ zk22.N) b3 rfl) W hE) (hasz (by omega)) (by omega) (Roub.has_cap b3)) ?_
                     simp only [Act.put, Xa, Xz, Xs]
                     refine wl_val (.bool false) rfl (fun _ => by go_simp) ?_
                     simp only [Act.put, Xa, Xz, Xs]
                     refine wl_val (.bool false) rfl (fun _ => rfl) ?_
                     simp only [Act.put, Xa, Xz, Xs]
                     refine wl_nil ?_
                     refine we_then ?_
                     refine wc_false rfl ?_
                     refine wc_skip ?_
                     refine we_then ?_
                     refine wc_region ?_
                     refine wl_load 38 (.tmp 25) (own_row 0 rfl) rfl rfl rfl Try.underlying38 rfl (by kernel_rfl) ?_
                     simp only [Act.put, Xa, Xz, Xs]
                     refine wl_store 2 38 (.tmp 22) (.tmp 222) (#[.bool zk22.on, .int .i64 zk22.gi, .int .i64 zk22.lo, .int .i64 zk22.hi, .int .i64 zk22.est, .int .i64 zk22.F, .slice zk22.p zk22.X.length zk22.c]) rfl rfl rfl rfl rfl (by kernel_rfl) rfl (by simp [Value.oneCell']) ?_
                     simp only [Act.put, List.set_cons_zero, List.set_cons_succ]
                     refine wl_nil ?_
                     refine we_in ?_
                     refine we_then ?_
                     refine wc_region ?_
                     refine wl_val (.int .i64 ((j + 1 : Nat) : Int)) rfl (fun w => run_nat (X := j) (Y := 1) (Z := j + 1) rfl rfl rfl rfl (by omega) w) ?_
                     simp only [Act.put, Xa, Xz, Xs]
                     refine wl_val (.int .i64 ((j + 1 : Nat) : Int)) rfl (fun _ => rfl) ?_
                     simp only [Act.put, Xa, Xz, Xs]
                     refine wl_nil ?_
                     exact we_meet ⟨(j + 1), zk22, (xa + (R[j]!).2.2), zk22.N, _, _, _, _, _, _, _, _, _, _, _, _, _, _, _, _, _, _, _, _, _, _, _, _, _, _, _, _, _, _, _, _, _, _, _, _, _, _, _, _, _, _, _, _, _, _, _, _, _, _, _, _, _, _, _, _, _, _, _, _, _, _, _, _, _, _, _, _, _, _, _, _, _, _, _, _, _, _, _, _, _, _, _, _, _, _, _, _, _, _, _, _, _, _, _⟩ (by (try dsimp only); exact ⟨⟨by omega, pl_next hM.segs c2.set (by omega) k22 (by omega), k22.held, hasz (by omega), by omega, by omega⟩, by omega⟩) rfl (List.Sublist.cons _ (List.Sublist.cons _ (List.Sublist.cons_cons _ (List.Sublist.cons_cons _ (List.Sublist.cons_cons _ (List.Sublist.cons_cons _ (List.Sublist.cons_cons _ (List.Sublist.append_left (List.sublist_append_of_sublist_right (List.Sublist.refl _)) _))))))))
                   ·
                    skip
                    have p29 : (zk22.e : Int) ≠ 0 := by first | (simp; done) | (simp at h29; done) | simpa using h29
                    refine wl_skip rfl ?_
                    simp only [Act.put, Xa, Xz, Xs]
                    refine wl_skip rfl ?_
                    simp only [Act.put, Xa, Xz, Xs]
                    refine wl_skip rfl ?_
                    simp only [Act.put, Xa, Xz, Xs]
                    refine wl_skip rfl ?_
                    simp only [Act.put, Xa, Xz, Xs]
                    refine wl_skip rfl ?_
                    simp only [Act.put, Xa, Xz, Xs]
                    refine wl_val (.bool true) rfl (fun _ => rfl) ?_
                    simp only [Act.put, Xa, Xz, Xs]
                    refine wl_val (.bool true) rfl (fun _ => rfl) ?_
                    simp only [Act.put, Xa, Xz, Xs]
                    refine wl_skip rfl ?_
                    simp only [Act.put, Xa, Xz, Xs]
                    refine wl_skip rfl ?_
                    simp only [Act.put, Xa, Xz, Xs]
                    refine wl_skip rfl ?_
                    simp only [Act.put, Xa, Xz, Xs]
                    refine wl_skip rfl ?_
                    simp only [Act.put, Xa, Xz, Xs]
                    refine wl_skip rfl ?_
                    simp only [Act.put, Xa, Xz, Xs]
                    refine wl_val (.bool true) rfl (fun _ => rfl) ?_
                    simp only [Act.put, Xa, Xz, Xs]
                    refine wl_nil ?_
                    refine we_then ?_
                    refine wc_true rfl ?_
                    refine wc_seq ?_
                    refine wc_region ?_
                    refine wl_val (.bool false) rfl (fun _ => rfl) ?_
                    simp only [Act.put, Xa, Xz, Xs]
                    refine wl_nil ?_
                    refine we_then ?_
                    refine wc_ret ?_
                    refine we_then_ret ?_
                    refine we_in_ret ?_
                    refine we_then_ret ?_
                    refine we_then_ret ?_
                    refine we_in_ret ?_
                    refine we_then_ret ?_
                    refine we_ret1 (.bool false) rfl rfl rfl (fun w1 hE => ?_)
                    exact (by exfalso; omega)
                  ·
                   skip
                   have p28 : (zk22.e : Int) = 40 := by first | (simp; done) | (simp at h28; done) | simpa using h28
                   refine wc_true rfl ?_
                   refine wc_seq ?_
                   refine wc_region ?_
                   refine wl_val (.pointer (some ⟨g14, 2, none⟩)) rfl (fun _ => by go_simp) ?_
                   simp only [Act.put, Xa, Xz, Xs]
                   refine wl_val (.pointer (some ⟨g14, 2, none⟩)) rfl (fun _ => by go_simp) ?_
                   simp only [Act.put, Xa, Xz, Xs]
                   refine wl_cell 2 (.tmp 196) (.int .i64 Pm.lo) (own_row 2 rfl) rfl rfl rfl rfl Try.isAgg2 ?_
                   simp only [Act.put, Xa, Xz, Xs]
                   refine wl_val (.pointer (some ⟨g17, 0, none⟩)) rfl (fun _ => by go_simp) ?_
                   simp only [Act.put, Xa, Xz, Xs]
                   refine wl_val (.pointer (some ⟨g17, 0, none⟩)) rfl (fun _ => by go_simp) ?_
                   simp only [Act.put, Xa, Xz, Xs]
                   refine wl_cell 2 (.tmp 199) (.int .i64 ((R[j]!).1)) (own_row 1 rfl) rfl rfl rfl rfl Try.isAgg2 ?_
                   simp only [Act.put, Xa, Xz, Xs]
                   refine wl_val (.int .i64 (Pm.lo + ((R[j]!).1))) rfl (fun w => run_arith (op := .add) rfl rfl rfl Try.underlying2 (congrArg some (i64_in (by omega) (by omega))) w) ?_
                   simp only [Act.put, Xa, Xz, Xs]
                   refine wl_val (.pointer (some ⟨g9, 2, none⟩)) rfl (fun _ => by go_simp) ?_
                   simp only [Act.put, Xa, Xz, Xs]
                   refine wl_cell 2 (.tmp 202) (.int .i64 ((H[gi.toNat]!).off)) (own_row 3 rfl) rfl rfl rfl rfl Try.isAgg2 ?_
                   simp only [Act.put, Xa, Xz, Xs]
                   refine wl_val (.int .i64 (-(H[gi.toNat]!).off)) rfl (fun w => run_neg rfl rfl Try.underlying2 (i64_in (by omega) (by omega)) w) ?_
                   simp only [Act.put, Xa, Xz, Xs]
                   refine wl_val (.bool (decide (Pm.lo + ((R[j]!).1) < (-(H[gi.toNat]!).off)))) rfl (fun w => run_cmp rfl rfl rfl Try.underlying2 rfl w) ?_
                   simp only [Act.put, Xa, Xz, Xs]
                   refine wl_val (.bool (decide (Pm.lo + ((R[j]!).1) < (-(H[gi.toNat]!).off)))) rfl (fun _ => rfl) ?_
                   simp only [Act.put, Xa, Xz, Xs]
                   refine wl_nil ?_
                   refine we_then ?_
                   refine wc_ret ?_
                   refine we_then_ret ?_
                   refine we_in_ret ?_
                   refine we_then_ret ?_
                   refine we_then_ret ?_
                   refine we_in_ret ?_
                   refine we_then_ret ?_
                   refine we_ret1 (.bool (decide (Pm.lo + ((R[j]!).1) < (-(H[gi.toNat]!).off)))) rfl rfl rfl (fun w1 hE => ?_)
                   exact ⟨by rw [show (decide (Pm.lo + ((R[j]!).1) < (-(H[gi.toNat]!).off))) = true from decide_eq_true (by omega)], hE.below⟩
                 ·
                  skip
                  have p27 : xa + ((R[j]!).2.2) < (-(H[gi.toNat]!).off) := of_decide_eq_true h27
                  refine wc_true rfl ?_
                  refine wc_seq ?_
                  refine wc_region ?_
                  refine wl_val (.bool true) rfl (fun _ => rfl) ?_
                  simp only [Act.put, Xa, Xz, Xs]
                  refine wl_nil ?_
                  refine we_then ?_
                  refine wc_ret ?_
                  refine we_then_ret ?_
                  refine we_in_ret ?_
                  refine we_then_ret ?_
                  refine we_then_ret ?_
                  refine we_in_ret ?_
                  refine we_then_ret ?_
                  refine we_ret1 (.bool true) rfl rfl rfl (fun w1 hE => ?_)
                  exact ⟨rfl, hE.below⟩
                ·
                 skip
                 have p26 : (endR G (H[gi.toNat]!).off Pl) < xa + ((R[j]!).2.2) := of_decide_eq_true h26
                 refine wl_skip rfl ?_
                 simp only [Act.put, Xa, Xz, Xs]
                 refine wl_skip rfl ?_
                 simp only [Act.put, Xa, Xz, Xs]
                 refine wl_skip rfl ?_
                 simp only [Act.put, Xa, Xz, Xs]
                 refine wl_skip rfl ?_
                 simp only [Act.put, Xa, Xz, Xs]
                 refine wl_skip rfl ?_
                 simp only [Act.put, Xa, Xz, Xs]
                 refine wl_val (.bool true) rfl (fun _ => rfl) ?_
                 simp only [Act.put, Xa, Xz, Xs]
                 refine wl_nil ?_
                 refine we_then ?_
                 refine wc_true rfl ?_
                 refine wc_seq ?_
                 refine wc_region ?_
                 refine wl_val (.bool true) rfl (fun _ => rfl) ?_
                 simp only [Act.put, Xa, Xz, Xs]
                 refine wl_nil ?_
                 refine we_then ?_
                 refine wc_ret ?_
                 refine we_then_ret ?_
                 refine we_in_ret ?_
                 refine we_then_ret ?_
                 refine we_then_ret ?_
                 refine we_in_ret ?_
                 refine we_then_ret ?_
                 refine we_ret1 (.bool true) rfl rfl rfl (fun w1 hE => ?_)
                 exact ⟨rfl, hE.below⟩
               ·
                skip
                have p25 : (zk22.e : Int) = 20 := by first | (simp; done) | (simp at h25; done) | simpa using h25
                refine wl_skip rfl ?_
                simp only [Act.put, Xa, Xz, Xs]
                refine wl_skip rfl ?_
                simp only [Act.put, Xa, Xz, Xs]
                refine wl_skip rfl ?_
                simp only [Act.put, Xa, Xz, Xs]
                refine wl_val (.bool true) rfl (fun _ => rfl) ?_
                simp only [Act.put, Xa, Xz, Xs]
                refine wl_val (.bool true) rfl (fun _ => rfl) ?_
                simp only [Act.put, Xa, Xz, Xs]
                refine wl_skip rfl ?_
                simp only [Act.put, Xa, Xz, Xs]
                refine wl_skip rfl ?_
                simp only [Act.put, Xa, Xz, Xs]
                refine wl_skip rfl ?_
                simp only [Act.put, Xa, Xz, Xs]
                refine wl_skip rfl ?_
                simp only [Act.put, Xa, Xz, Xs]
                refine wl_skip rfl ?_
                simp only [Act.put, Xa, Xz, Xs]
                refine wl_val (.bool true) rfl (fun _ => rfl) ?_
                simp only [Act.put, Xa, Xz, Xs]
                refine wl_nil ?_
                refine we_then ?_
                refine wc_true rfl ?_
                refine wc_seq ?_
                refine wc_region ?_
                refine wl_val (.bool true) rfl (fun _ => rfl) ?_
                simp only [Act.put, Xa, Xz, Xs]
                refine wl_nil ?_
                refine we_then ?_
                refine wc_ret ?_
                refine we_then_ret ?_
                refine we_in_ret ?_
                refine we_then_ret ?_
                refine we_then_ret ?_
                refine we_in_ret ?_
                refine we_then_ret ?_
                refine we_ret1 (.bool true) rfl rfl rfl (fun w1 hE => ?_)
                exact ⟨rfl, hE.below⟩
              ·
               skip
               have p24 : (zk22.e : Int) = 13 := by first | (simp; done) | (simp at h24; done) | simpa using h24
               refine wl_skip rfl ?_
               simp only [Act.put, Xa, Xz, Xs]
               refine wl_skip rfl ?_
               simp only [Act.put, Xa, Xz, Xs]
               refine wl_val (.bool true) rfl (fun _ => rfl) ?_
               simp only [Act.put, Xa, Xz, Xs]
               refine wl_val (.bool true) rfl (fun _ => rfl) ?_
               simp only [Act.put, Xa, Xz, Xs]
               refine wl_skip rfl ?_
               simp only [Act.put, Xa, Xz, Xs]
               refine wl_skip rfl ?_
               simp only [Act.put, Xa, Xz, Xs]
               refine wl_skip rfl ?_
               simp only [Act.put, Xa, Xz, Xs]
               refine wl_val (.bool true) rfl (fun _ => rfl) ?_
               simp only [Act.put, Xa, Xz, Xs]
               refine wl_val (.bool true) rfl (fun _ => rfl) ?_
               simp only [Act.put, Xa, Xz, Xs]
               refine wl_skip rfl ?_
               simp only [Act.put, Xa, Xz, Xs]
               refine wl_skip rfl ?_
               simp only [Act.put, Xa, Xz, Xs]
               refine wl_skip rfl ?_
               simp only [Act.put, Xa, Xz, Xs]
               refine wl_skip rfl ?_
               simp only [Act.put, Xa, Xz, Xs]
               refine wl_skip rfl ?_
               simp only [Act.put, Xa, Xz, Xs]
               refine wl_val (.bool true) rfl (fun _ => rfl) ?_
               simp only [Act.put, Xa, Xz, Xs]
               refine wl_nil ?_
               refine we_then ?_
               refine wc_true rfl ?_
               refine wc_seq ?_
               refine wc_region ?_
               refine wl_val (.bool true) rfl (fun _ => rfl) ?_
               simp only [Act.put, Xa, Xz, Xs]
               refine wl_nil ?_
               refine we_then ?_
               refine wc_ret ?_
               refine we_then_ret ?_
               refine we_in_ret ?_
               refine we_then_ret ?_
               refine we_then_ret ?_
               refine we_in_ret ?_
               refine we_then_ret ?_
               refine we_ret1 (.bool true) rfl rfl rfl (fun w1 hE => ?_)
               exact ⟨rfl, hE.below⟩
            ·
             skip
             have p20 : 1099511627776 < (R[j]!).2.1 := of_decide_eq_true h20
             refine wl_skip rfl ?_
             simp only [Act.put, Xa, Xz, Xs]
             refine wl_skip rfl ?_
             simp only [Act.put, Xa, Xz, Xs]
             refine wl_skip rfl ?_
             simp only [Act.put, Xa, Xz, Xs]
             refine wl_skip rfl ?_
             simp only [Act.put, Xa, Xz, Xs]
             refine wl_skip rfl ?_
             simp only [Act.put, Xa, Xz, Xs]
             refine wl_skip rfl ?_
             simp only [Act.put, Xa, Xz, Xs]
             refine wl_val (.bool true) rfl (fun _ => rfl) ?_
             simp only [Act.put, Xa, Xz, Xs]
             refine wl_nil ?_
             refine we_then ?_
             refine wc_true rfl ?_
             refine wc_seq ?_
             refine wc_region ?_
             refine wl_val (.bool true) rfl (fun _ => rfl) ?_
             simp only [Act.put, Xa, Xz, Xs]
             refine wl_nil ?_
             refine we_then ?_
             refine wc_ret ?_
             refine we_then_ret ?_
             refine we_in_ret ?_
             refine we_then_ret ?_
             refine we_then_ret ?_
             refine we_in_ret ?_
             refine we_then_ret ?_
             refine we_ret1 (.bool true) rfl rfl rfl (fun w1 hE => ?_)
             exact ⟨rfl, hE.below⟩
           ·
            skip
            have p19 : (R[j]!).1 < -1099511627776 := of_decide_eq_true h19
            refine wl_skip rfl ?_
            simp only [Act.put, Xa, Xz, Xs]
            refine wl_skip rfl ?_
            simp only [Act.put, Xa, Xz, Xs]
            refine wl_skip rfl ?_
            simp only [Act.put, Xa, Xz, Xs]
            refine wl_skip rfl ?_
            simp only [Act.put, Xa, Xz, Xs]
            refine wl_val (.bool true) rfl (fun _ => rfl) ?_
            simp only [Act.put, Xa, Xz, Xs]
            refine wl_val (.bool true) rfl (fun _ => rfl) ?_
            simp only [Act.put, Xa, Xz, Xs]
            refine wl_skip rfl ?_
            simp only [Act.put, Xa, Xz, Xs]
            refine wl_skip rfl ?_
            simp only [Act.put, Xa, Xz, Xs]
            refine wl_skip rfl ?_
            simp only [Act.put, Xa, Xz, Xs]
            refine wl_skip rfl ?_
            simp only [Act.put, Xa, Xz, Xs]
            refine wl_skip rfl ?_
            simp only [Act.put, Xa, Xz, Xs]
            refine wl_skip rfl ?_
            simp only [Act.put, Xa, Xz, Xs]
            refine wl_val (.bool true) rfl (fun _ => rfl) ?_
            simp only [Act.put, Xa, Xz, Xs]
            refine wl_nil ?_
            refine we_then ?_
            refine wc_true rfl ?_
            refine wc_seq ?_
            refine wc_region ?_
            refine wl_val (.bool true) rfl (fun _ => rfl) ?_
            simp only [Act.put, Xa, Xz, Xs]
            refine wl_nil ?_
            refine we_then ?_
            refine wc_ret ?_
            refine we_then_ret ?_
            refine we_in_ret ?_
            refine we_then_ret ?_
            refine we_then_ret ?_
            refine we_in_ret ?_
            refine we_then_ret ?_
            refine we_ret1 (.bool true) rfl rfl rfl (fun w1 hE => ?_)
            exact ⟨rfl, hE.below⟩
          ·
           skip
           have p18 : (R[j]!).2.1 < (R[j]!).1 := of_decide_eq_true h18
           refine wl_skip rfl ?_
           simp only [Act.put, Xa, Xz, Xs]
           refine wl_skip rfl ?_
           simp only [Act.put, Xa, Xz, Xs]
           refine wl_skip rfl ?_
           simp only [Act.put, Xa, Xz, Xs]
           refine wl_skip rfl ?_
           simp only [Act.put, Xa, Xz, Xs]
           refine wl_val (.bool true) rfl (fun _ => rfl) ?_
           simp only [Act.put, Xa, Xz, Xs]
           refine wl_val (.bool true) rfl (fun _ => rfl) ?_
           simp only [Act.put, Xa, Xz, Xs]
           refine wl_skip rfl ?_
           simp only [Act.put, Xa, Xz, Xs]
           refine wl_skip rfl ?_
           simp only [Act.put, Xa, Xz, Xs]
           refine wl_skip rfl ?_
           simp only [Act.put, Xa, Xz, Xs]
           refine wl_skip rfl ?_
           simp only [Act.put, Xa, Xz, Xs]
           refine wl_val (.bool true) rfl (fun _ => rfl) ?_
           simp only [Act.put, Xa, Xz, Xs]
           refine wl_val (.bool true) rfl (fun _ => rfl) ?_
           simp only [Act.put, Xa, Xz, Xs]
           refine wl_skip rfl ?_
           simp only [Act.put, Xa, Xz, Xs]
           refine wl_skip rfl ?_
           simp only [Act.put, Xa, Xz, Xs]
           refine wl_skip rfl ?_
           simp only [Act.put, Xa, Xz, Xs]
           refine wl_skip rfl ?_
           simp only [Act.put, Xa, Xz, Xs]
           refine wl_skip rfl ?_
           simp only [Act.put, Xa, Xz, Xs]
           refine wl_skip rfl ?_
           simp only [Act.put, Xa, Xz, Xs]
           refine wl_val (.bool true) rfl (fun _ => rfl) ?_
           simp only [Act.put, Xa, Xz, Xs]
           refine wl_nil ?_
           refine we_then ?_
           refine wc_true rfl ?_
           refine wc_seq ?_
           refine wc_region ?_
           refine wl_val (.bool true) rfl (fun _ => rfl) ?_
           simp only [Act.put, Xa, Xz, Xs]
           refine wl_nil ?_
           refine we_then ?_
           refine wc_ret ?_
           refine we_then_ret ?_
           refine we_in_ret ?_
           refine we_then_ret ?_
           refine we_then_ret ?_
           refine we_in_ret ?_
           refine we_then_ret ?_
           refine we_ret1 (.bool true) rfl rfl rfl (fun w1 hE => ?_)
           exact ⟨rfl, hE.below⟩
      ·
       skip
       have p11 : (i : Int) < (B.length : Int) := of_decide_eq_true h11
       refine wc_true rfl ?_
       refine wc_skip ?_
       refine we_then ?_
       refine wc_seq ?_
       refine wc_block ?_
       refine wc_seq ?_
       refine wc_region ?_
       refine wl_read (eaddr bp (i * 1)) rfl (er_index i 1 (sl_old hB) rfl rfl rfl rfl (by omega) (flat_length (enc := encb) (size := 1) (fun _ => rfl) _) (by decide) Try.underlying60 (by kernel_rfl)) ?_
       simp only [Act.put, Xa, Xz, Xs]
       refine wl_read (.bool (B[i]!)) rfl (er_cell (i * 1) (.bool (B[i]!)) (sl_old hB) rfl rfl (flat_cell (enc := encb) (fun _ => rfl) B i 0 (by omega) (by decide)) Try.isAgg4) ?_
       simp only [Act.put, Xa, Xz, Xs]
       refine wl_val (.bool (B[i]!)) rfl (fun _ => rfl) ?_
       simp only [Act.put, Xa, Xz, Xs]
       refine wl_nil ?_
       refine we_then ?_
       refine wc_seq ?_
       have sm := hM.segs (Pl[pn - 1]!).toNat (by omega)
       have sm2 := sm.two
       refine wc_draw [.late, .plain, .late, .late, .late, .late, .plain, .plain, .plain, .plain, .plain, .late] none [] 224 (by kernel_rfl) rfl (by kernel_rfl) (by kernel_rfl) ?_
       refine ws_late (.pointer (some ⟨g2, 0, none⟩)) rfl rfl (fun _ => by go_simp) ?_
       simp only [Nat.reduceAdd, Act.put, Xa, Xz, Xs]
       refine ws_cell 24 (.tmp 74) (.slice p G.length c) (own_row 2 rfl) rfl rfl rfl rfl rfl Try.isAgg24 ?_
       simp only [Nat.reduceAdd, Act.put, Xa, Xz, Xs]
       refine ws_late (.slice pw.ptr pn pw.cap) rfl rfl (fun _ => rfl) ?_
       simp only [Nat.reduceAdd, Act.put, Xa, Xz, Xs]
       refine ws_late (.slice pw.ptr pn pw.cap) rfl rfl (fun _ => rfl) ?_
       simp only [Nat.reduceAdd, Act.put, Xa, Xz, Xs]
       refine ws_late (.int .i64 (pn : Int)) rfl rfl (fun w => er_len rfl rfl Try.underlying63 w) ?_
       simp only [Nat.reduceAdd, Act.put, Xa, Xz, Xs]
       refine ws_late (.int .i64 ((pn - 1 : Nat) : Int)) rfl rfl (fun w => run_nat (X := pn) (Y := 1) (Z := pn - 1) rfl rfl rfl (natOf_sub (by omega)) (by omega) w) ?_
       simp only [Nat.reduceAdd, Act.put, Xa, Xz, Xs]
       refine ws_read (eaddr pw.ptr ((pn - 1) * 1)) rfl rfl (er_index (pn - 1) 1 (sl_own [⟨g9, #[.int .i64 ((H[gi.toNat]!).id), .int .i64 ((H[gi.toNat]!).seg), .int .i64 ((H[gi.toNat]!).off), .int .i64 ((H[gi.toNat]!).acc), .int .i64 ((H[gi.toNat]!).slack)], 62⟩, ⟨g3, #[.int .i64 lo, .int .i64 hi], 32⟩, ⟨g2, #[.slice p G.length c, .slice q H.length d], 27⟩, ⟨g1, #[.int .i64 k.pu, .int .i64 k.lo, .int .i64 k.hi, .int .i64 k.rb, .int .i64 k.rp, .int .i64 k.ae, .int .i64 k.ms, .int .i64 k.ma, .int .i64 k.an, .int .i64 k.st, .int .i64 k.ss, .int .i64 k.ro, .int .i64 k.ti, .int .i64 k.br], 23⟩] [] b3 rfl) rfl rfl rfl rfl (by omega) (flat_lenn (enc := enc1) (size := 1) (fun _ => rfl) b2) (by decide) Try.underlying63 (by kernel_rfl)) ?_
       simp only [Nat.reduceAdd, Act.put, Xa, Xz, Xs]
       refine ws_read (.int .i64 (Pl[pn - 1]!)) rfl rfl (er_cell ((pn - 1) * 1) (.int .i64 (Pl[pn - 1]!)) (sl_own [⟨g9, #[.int .i64 ((H[gi.toNat]!).id), .int .i64 ((H[gi.toNat]!).seg), .int .i64 ((H[gi.toNat]!).off), .int .i64 ((H[gi.toNat]!).acc), .int .i64 ((H[gi.toNat]!).slack)], 62⟩, ⟨g3, #[.int .i64 lo, .int .i64 hi], 32⟩, ⟨g2, #[.slice p G.length c, .slice q H.length d], 27⟩, ⟨g1, #[.int .i64 k.pu, .int .i64 k.lo, .int .i64 k.hi, .int .i64 k.rb, .int .i64 k.rp, .int .i64 k.ae, .int .i64 k.ms, .int .i64 k.ma, .int .i64 k.an, .int .i64 k.st, .int .i64 k.ss, .int .i64 k.ro, .int .i64 k.ti, .int .i64 k.br], 23⟩] [] b3 rfl) rfl rfl (flat_cell (enc := enc1) (fun _ => rfl) Pl (pn - 1) 0 (by omega) (by decide)) Try.isAgg3) ?_
       simp only [Nat.reduceAdd, Act.put, Xa, Xz, Xs]
       refine ws_read (eaddr p (((Pl[pn - 1]!).toNat) * 3)) rfl rfl (er_index ((Pl[pn - 1]!).toNat) 3 (sl_old hS) rfl rfl rfl (by omega) (by omega) (flat_length (enc := sg) (size := 3) (fun _ => rfl) _) (by decide) Try.underlying24 (by kernel_rfl)) ?_
       simp only [Nat.reduceAdd, Act.put, Xa, Xz, Xs]
       refine ws_read (eaddr p (((Pl[pn - 1]!).toNat) * 3 + 2)) rfl rfl (er_field (z := 0) (((Pl[pn - 1]!).toNat) * 3) 2 2 (sl_old hS) rfl rfl (flat_lt (enc := sg) (fun _ => rfl) G ((Pl[pn - 1]!).toNat) 0 (by omega) (by decide)) Try.underlying66 rfl rfl (by kernel_rfl)) ?_
       simp only [Nat.reduceAdd, Act.put, Xa, Xz, Xs]
       refine ws_read (.slice ((G[(Pl[pn - 1]!).toNat]!).np) ((G[(Pl[pn - 1]!).toNat]!).X.length) ((G[(Pl[pn - 1]!).toNat]!).nc)) rfl rfl (er_cell (((Pl[pn - 1]!).toNat) * 3 + 2) (.slice ((G[(Pl[pn - 1]!).toNat]!).np) ((G[(Pl[pn - 1]!).toNat]!).X.length) ((G[(Pl[pn - 1]!).toNat]!).nc)) (sl_old hS) rfl rfl (flat_cell (enc := sg) (fun _ => rfl) G ((Pl[pn - 1]!).toNat) 2 (by omega) (by decide)) Try.isAgg63) ?_
       simp only [Nat.reduceAdd, Act.put, Xa, Xz, Xs]
       refine ws_late (.slice ((G[(Pl[pn - 1]!).toNat]!).np) ((G[(Pl[pn - 1]!).toNat]!).X.length) ((G[(Pl[pn - 1]!).toNat]!).nc)) rfl rfl (fun _ => rfl) ?_
       simp only [Nat.reduceAdd, Act.put, Xa, Xz, Xs]
       refine ws_nil [] trivial (by simp) ?_
       intro ps31
       simp only [fin, List.foldl_nil, List.map, List.nil_append]
       refine we_then ?_
       refine wc_seq ?_
       refine wc_seq ?_
       refine wc_region ?_
       refine wl_val (.slice ((G[(Pl[pn - 1]!).toNat]!).np) ((G[(Pl[pn - 1]!).toNat]!).X.length) ((G[(Pl[pn - 1]!).toNat]!).nc)) rfl (fun _ => rfl) ?_
       simp only [Act.put, Xa, Xz, Xs]
       refine wl_val (.int .i64 (((G[(Pl[pn - 1]!).toNat]!).X.length : Nat) : Int)) rfl (fun w => er_len rfl rfl Try.underlying63 w) ?_
       simp only [Act.put, Xa, Xz, Xs]
       refine wl_val (.bool ((((G[(Pl[pn - 1]!).toNat]!).X.length : Nat) : Int) == 0)) rfl (fun w => run_cmp rfl rfl rfl Try.underlying3 rfl w) ?_
       simp only [Act.put, Xa, Xz, Xs]
       refine wl_nil ?_
       refine we_then ?_
       cases h32 : ((((G[(Pl[pn - 1]!).toNat]!).X.length : Nat) : Int) == 0)
       ·
        skip
        have p32 : ¬ ((((G[(Pl[pn - 1]!).toNat]!).X.length : Nat) : Int) = 0) := by first | (simp; done) | (simp at h32; done) | simpa using h32
        refine wc_false rfl ?_
        refine wc_skip ?_
        refine we_then ?_
        refine wc_seq ?_
        refine wc_region ?_
        refine wl_val (.int .i64 0) rfl (fun _ => rfl) ?_
        simp only [Act.put, Xa, Xz, Xs]
        refine wl_nil ?_
        refine we_then ?_
        refine wc_seq ?_
        refine wc_seq ?_
        refine wc_region ?_
        refine wl_val (.bool (B[i]!)) rfl (fun _ => rfl) ?_
        simp only [Act.put, Xa, Xz, Xs]
        refine wl_val (.bool (B[i]!)) rfl (fun _ => rfl) ?_
        simp only [Act.put, Xa, Xz, Xs]
        cases h33 : ((B[i]!))
        ·
         skip
         refine wl_skip rfl ?_
         simp only [Act.put, Xa, Xz, Xs]
         refine wl_skip rfl ?_
         simp only [Act.put, Xa, Xz, Xs]
         refine wl_skip rfl ?_
         simp only [Act.put, Xa, Xz, Xs]
         refine wl_val (.bool false) rfl (fun _ => rfl) ?_
         simp only [Act.put, Xa, Xz, Xs]
         refine wl_nil ?_
         refine we_then ?_
         refine wc_false rfl ?_
         refine wc_skip ?_
         refine we_then ?_
         refine wc_region ?_
         refine wl_val (.slice pw.ptr pn pw.cap) rfl (fun _ => rfl) ?_
         simp only [Act.put, Xa, Xz, Xs]
         refine wl_val (.slice ((G[(Pl[pn - 1]!).toNat]!).np) ((G[(Pl[pn - 1]!).toNat]!).X.length) ((G[(Pl[pn - 1]!).toNat]!).nc)) rfl (fun _ => rfl) ?_
         simp only [Act.put, Xa, Xz, Xs]
         refine wl_val (.int .i64 0) rfl (fun _ => rfl) ?_
         simp only [Act.put, Xa, Xz, Xs]
         refine wl_read (eaddr ((G[(Pl[pn - 1]!).toNat]!).np) (0 * 1)) rfl (er_index 0 1 (sl_old (sg_at hG (by omega)).x) rfl rfl rfl rfl (by omega) (flat_length (enc := enc1) (size := 1) (fun _ => rfl) _) (by decide) Try.underlying63 (by kernel_rfl)) ?_
         simp only [Act.put, Xa, Xz, Xs]
         refine wl_read (.int .i64 (((G[(Pl[pn - 1]!).toNat]!).X)[0]!)) rfl (er_cell (0 * 1) (.int .i64 (((G[(Pl[pn - 1]!).toNat]!).X)[0]!)) (sl_old (sg_at hG (by omega)).x) rfl rfl (flat_cell (enc := enc1) (fun _ => rfl) ((G[(Pl[pn - 1]!).toNat]!).X) 0 0 (by omega) (by decide)) Try.isAgg3) ?_
         simp only [Act.put, Xa, Xz, Xs]
         refine wl_lit (e := 3) #[.int .i64 (((G[(Pl[pn - 1]!).toNat]!).X)[0]!)] 1 rfl (fun _ => by go_simp) ?_
         intro g34
         simp only [Act.put, Xa, Xz, Xs]
         refine wl_append (e := 3) (size := 1) (bytes := 8) (m := 1) [⟨g34, #[.int .i64 (((G[(Pl[pn - 1]!).toNat]!).X)[0]!)], 3⟩, ⟨g9, #[.int .i64 ((H[gi.toNat]!).id), .int .i64 ((H[gi.toNat]!).seg), .int .i64 ((H[gi.toNat]!).off), .int .i64 ((H[gi.toNat]!).acc), .int .i64 ((H[gi.toNat]!).slack)], 62⟩, ⟨g3, #[.int .i64 lo, .int .i64 hi], 32⟩, ⟨g2, #[.slice p G.length c, .slice q H.length d], 27⟩, ⟨g1, #[.int .i64 k.pu, .int .i64 k.lo, .int .i64 k.hi, .int .i64 k.rb, .int .i64 k.rp, .int .i64 k.ae, .int .i64 k.ms, .int .i64 k.ma, .int .i64 k.an, .int .i64 k.st, .int .i64 k.ss, .int .i64 k.ro, .int .i64 k.ti, .int .i64 k.br], 23⟩] [] pw (ys := [.int .i64 (((G[(Pl[pn - 1]!).toNat]!).X)[0]!)]) rfl b3 (sl_row 0 rfl) rfl (by simp [Value.oneCell']) rfl rfl rfl rfl Try.underlying63 (by unfold Elem; kernel_rfl) (by decide) (by unfold maxLen; omega) (by omega) ?_
         intro s35 hs35
         simp only [List.cons_append, List.nil_append, Act.put, Xa, Xz, Xs]
         refine wl_val (.slice s35.ptr (pn + 1) s35.cap) rfl (fun _ => rfl) ?_
         simp only [Act.put, Xa, Xz, Xs]
         refine wl_nil ?_
         refine we_in ?_
         refine we_then ?_
         refine wc_region ?_
         refine wl_val (.int .i64 ((i + 1 : Nat) : Int)) rfl (fun w => run_nat (X := i) (Y := 1) (Z := i + 1) rfl rfl rfl rfl (by omega) w) ?_
         simp only [Act.put, Xa, Xz, Xs]
         refine wl_val (.int .i64 ((i + 1 : Nat) : Int)) rfl (fun _ => rfl) ?_
         simp only [Act.put, Xa, Xz, Xs]
         refine wl_nil ?_
         exact we_meet ⟨(i + 1), s35, (Pl ++ [((G[(Pl[pn - 1]!).toNat]!).X)[0]!]), (pn + 1), _, _, _, _, _, _, _, _, _, _, _, _, _, _, _, _, _, _, _, _, _, _, _, _, _, _, _, _, _, _, _, _, _, _⟩ (by (try dsimp only); have m9 : (((G[(Pl[pn - 1]!).toNat]!).X)[0]!) ∈ nxt G Pl := (by unfold nxt; rw [b2]; exact get_memi (by omega)); exact ⟨⟨by omega, by rw [List.length_append, b2]; rfl, has_snoc (x := ((G[(Pl[pn - 1]!).toNat]!).X)[0]!) hs35, wf_snoc hM.segs b4 (by omega) m9, by omega⟩, by omega⟩) rfl (List.Sublist.cons _ (List.Sublist.cons_cons _ (List.Sublist.cons_cons _ (List.Sublist.cons_cons _ (List.Sublist.cons_cons _ (List.Sublist.append_left List.Sublist.slnil _))))))
        ·
         skip
         refine wl_val (.slice ((G[(Pl[pn - 1]!).toNat]!).np) ((G[(Pl[pn - 1]!).toNat]!).X.length) ((G[(Pl[pn - 1]!).toNat]!).nc)) rfl (fun _ => rfl) ?_
         simp only [Act.put, Xa, Xz, Xs]
         refine wl_val (.int .i64 (((G[(Pl[pn - 1]!).toNat]!).X.length : Nat) : Int)) rfl (fun w => er_len rfl rfl Try.underlying63 w) ?_
         simp only [Act.put, Xa, Xz, Xs]
         refine wl_val (.bool ((((G[(Pl[pn - 1]!).toNat]!).X.length : Nat) : Int) == 2)) rfl (fun w => run_cmp rfl rfl rfl Try.underlying3 rfl w) ?_
         simp only [Act.put, Xa, Xz, Xs]
         refine wl_val (.bool ((((G[(Pl[pn - 1]!).toNat]!).X.length : Nat) : Int) == 2)) rfl (fun _ => rfl) ?_
         simp only [Act.put, Xa, Xz, Xs]
         refine wl_nil ?_
         refine we_then ?_
         cases h36 : ((((G[(Pl[pn - 1]!).toNat]!).X.length : Nat) : Int) == 2)
         ·
          skip
          have p36 : ¬ ((((G[(Pl[pn - 1]!).toNat]!).X.length : Nat) : Int) = 2) := by first | (simp; done) | (simp at h36; done) | simpa using h36
          refine wc_false rfl ?_
          refine wc_skip ?_
          refine we_then ?_
          refine wc_region ?_
          refine wl_val (.slice pw.ptr pn pw.cap) rfl (fun _ => rfl) ?_
          simp only [Act.put, Xa, Xz, Xs]
          refine wl_val (.slice ((G[(Pl[pn - 1]!).toNat]!).np) ((G[(Pl[pn - 1]!).toNat]!).X.length) ((G[(Pl[pn - 1]!).toNat]!).nc)) rfl (fun _ => rfl) ?_
          simp only [Act.put, Xa, Xz, Xs]
          refine wl_val (.int .i64 0) rfl (fun _ => rfl) ?_
          simp only [Act.put, Xa, Xz, Xs]
          refine wl_read (eaddr ((G[(Pl[pn - 1]!).toNat]!).np) (0 * 1)) rfl (er_index 0 1 (sl_old (sg_at hG (by omega)).x) rfl rfl rfl rfl (by omega) (flat_length (enc := enc1) (size := 1) (fun _ => rfl) _) (by decide) Try.underlying63 (by kernel_rfl)) ?_
          simp only [Act.put, Xa, Xz, Xs]
          refine wl_read (.int .i64 (((G[(Pl[pn - 1]!).toNat]!).X)[0]!)) rfl (er_cell (0 * 1) (.int .i64 (((G[(Pl[pn - 1]!).toNat]!).X)[0]!)) (sl_old (sg_at hG (by omega)).x) rfl rfl (flat_cell (enc := enc1) (fun _ => rfl) ((G[(Pl[pn - 1]!).toNat]!).X) 0 0 (by omega) (by decide)) Try.isAgg3) ?_
          simp only [Act.put, Xa, Xz, Xs]
          refine wl_lit (e := 3) #[.int .i64 (((G[(Pl[pn - 1]!).toNat]!).X)[0]!)] 1 rfl (fun _ => by go_simp) ?_
          intro g37
          simp only [Act.put, Xa, Xz, Xs]
          refine wl_append (e := 3) (size := 1) (bytes := 8) (m := 1) [⟨g37, #[.int .i64 (((G[(Pl[pn - 1]!).toNat]!).X)[0]!)], 3⟩, ⟨g9, #[.int .i64 ((H[gi.toNat]!).id), .int .i64 ((H[gi.toNat]!).seg), .int .i64 ((H[gi.toNat]!).off), .int .i64 ((H[gi.toNat]!).acc), .int .i64 ((H[gi.toNat]!).slack)], 62⟩, ⟨g3, #[.int .i64 lo, .int .i64 hi], 32⟩, ⟨g2, #[.slice p G.length c, .slice q H.length d], 27⟩, ⟨g1, #[.int .i64 k.pu, .int .i64 k.lo, .int .i64 k.hi, .int .i64 k.rb, .int .i64 k.rp, .int .i64 k.ae, .int .i64 k.ms, .int .i64 k.ma, .int .i64 k.an, .int .i64 k.st, .int .i64 k.ss, .int .i64 k.ro, .int .i64 k.ti, .int .i64 k.br], 23⟩] [] pw (ys := [.int .i64 (((G[(Pl[pn - 1]!).toNat]!).X)[0]!)]) rfl b3 (sl_row 0 rfl) rfl (by simp [Value.oneCell']) rfl rfl rfl rfl Try.underlying63 (by unfold Elem; kernel_rfl) (by decide) (by unfold maxLen; omega) (by omega) ?_
          intro s38 hs38
          simp only [List.cons_append, List.nil_append, Act.put, Xa, Xz, Xs]
          refine wl_val (.slice s38.ptr (pn + 1) s38.cap) rfl (fun _ => rfl) ?_
          simp only [Act.put, Xa, Xz, Xs]
          refine wl_nil ?_
          refine we_in ?_
          refine we_then ?_
          refine wc_region ?_
          refine wl_val (.int .i64 ((i + 1 : Nat) : Int)) rfl (fun w => run_nat (X := i) (Y := 1) (Z := i + 1) rfl rfl rfl rfl (by omega) w) ?_
          simp only [Act.put, Xa, Xz, Xs]
          refine wl_val (.int .i64 ((i + 1 : Nat) : Int)) rfl (fun _ => rfl) ?_
          simp only [Act.put, Xa, Xz, Xs]
          refine wl_nil ?_
          exact we_meet ⟨(i + 1), s38, (Pl ++ [((G[(Pl[pn - 1]!).toNat]!).X)[0]!]), (pn + 1), _, _, _, _, _, _, _, _, _, _, _, _, _, _, _, _, _, _, _, _, _, _, _, _, _, _, _, _, _, _, _, _, _, _⟩ (by (try dsimp only); have m9 : (((G[(Pl[pn - 1]!).toNat]!).X)[0]!) ∈ nxt G Pl := (by unfold nxt; rw [b2]; exact get_memi (by omega)); exact ⟨⟨by omega, by rw [List.length_append, b2]; rfl, has_snoc (x := ((G[(Pl[pn - 1]!).toNat]!).X)[0]!) hs38, wf_snoc hM.segs b4 (by omega) m9, by omega⟩, by omega⟩) rfl (List.Sublist.cons _ (List.Sublist.cons_cons _ (List.Sublist.cons_cons _ (List.Sublist.cons_cons _ (List.Sublist.cons_cons _ (List.Sublist.append_left List.Sublist.slnil _))))))
         ·
          skip
          have p36 : (((G[(Pl[pn - 1]!).toNat]!).X.length : Nat) : Int) = 2 := by first | (simp; done) | (simp at h36; done) | simpa using h36
          refine wc_true rfl ?_
          refine wc_region ?_
          refine wl_val (.int .i64 1) rfl (fun _ => rfl) ?_
          simp only [Act.put, Xa, Xz, Xs]
          refine wl_nil ?_
          refine we_then ?_
          refine wc_region ?_
          refine wl_val (.slice pw.ptr pn pw.cap) rfl (fun _ => rfl) ?_
          simp only [Act.put, Xa, Xz, Xs]
          refine wl_val (.slice ((G[(Pl[pn - 1]!).toNat]!).np) ((G[(Pl[pn - 1]!).toNat]!).X.length) ((G[(Pl[pn - 1]!).toNat]!).nc)) rfl (fun _ => rfl) ?_
          simp only [Act.put, Xa, Xz, Xs]
          refine wl_val (.int .i64 1) rfl (fun _ => rfl) ?_
          simp only [Act.put, Xa, Xz, Xs]
          refine wl_read (eaddr ((G[(Pl[pn - 1]!).toNat]!).np) (1 * 1)) rfl (er_index 1 1 (sl_old (sg_at hG (by omega)).x) rfl rfl rfl rfl (by omega) (flat_length (enc := enc1) (size := 1) (fun _ => rfl) _) (by decide) Try.underlying63 (by kernel_rfl)) ?_
          simp only [Act.put, Xa, Xz, Xs]
          refine wl_read (.int .i64 (((G[(Pl[pn - 1]!).toNat]!).X)[1]!)) rfl (er_cell (1 * 1) (.int .i64 (((G[(Pl[pn - 1]!).toNat]!).X)[1]!)) (sl_old (sg_at hG (by omega)).x) rfl rfl (flat_cell (enc := enc1) (fun _ => rfl) ((G[(Pl[pn - 1]!).toNat]!).X) 1 0 (by omega) (by decide)) Try.isAgg3) ?_
          simp only [Act.put, Xa, Xz, Xs]
          refine wl_lit (e := 3) #[.int .i64 (((G[(Pl[pn - 1]!).toNat]!).X)[1]!)] 1 rfl (fun _ => by go_simp) ?_
          intro g39
          simp only [Act.put, Xa, Xz, Xs]
          refine wl_append (e := 3) (size := 1) (bytes := 8) (m := 1) [⟨g39, #[.int .i64 (((G[(Pl[pn - 1]!).toNat]!).X)[1]!)], 3⟩, ⟨g9, #[.int .i64 ((H[gi.toNat]!).id), .int .i64 ((H[gi.toNat]!).seg), .int .i64 ((H[gi.toNat]!).off), .int .i64 ((H[gi.toNat]!).acc), .int .i64 ((H[gi.toNat]!).slack)], 62⟩, ⟨g3, #[.int .i64 lo, .int .i64 hi], 32⟩, ⟨g2, #[.slice p G.length c, .slice q H.length d], 27⟩, ⟨g1, #[.int .i64 k.pu, .int .i64 k.lo, .int .i64 k.hi, .int .i64 k.rb, .int .i64 k.rp, .int .i64 k.ae, .int .i64 k.ms, .int .i64 k.ma, .int .i64 k.an, .int .i64 k.st, .int .i64 k.ss, .int .i64 k.ro, .int .i64 k.ti, .int .i64 k.br], 23⟩] [] pw (ys := [.int .i64 (((G[(Pl[pn - 1]!).toNat]!).X)[1]!)]) rfl b3 (sl_row 0 rfl) rfl (by simp [Value.oneCell']) rfl rfl rfl rfl Try.underlying63 (by unfold Elem; kernel_rfl) (by decide) (by unfold maxLen; omega) (by omega) ?_
          intro s40 hs40
          simp only [List.cons_append, List.nil_append, Act.put, Xa, Xz, Xs]
          refine wl_val (.slice s40.ptr (pn + 1) s40.cap) rfl (fun _ => rfl) ?_
          simp only [Act.put, Xa, Xz, Xs]
          refine wl_nil ?_
          refine we_in ?_
          refine we_then ?_
          refine wc_region ?_
          refine wl_val (.int .i64 ((i + 1 : Nat) : Int)) rfl (fun w => run_nat (X := i) (Y := 1) (Z := i + 1) rfl rfl rfl rfl (by omega) w) ?_
          simp only [Act.put, Xa, Xz, Xs]
          refine wl_val (.int .i64 ((i + 1 : Nat) : Int)) rfl (fun _ => rfl) ?_
          simp only [Act.put, Xa, Xz, Xs]
          refine wl_nil ?_
          exact we_meet ⟨(i + 1), s40, (Pl ++ [((G[(Pl[pn - 1]!).toNat]!).X)[1]!]), (pn + 1), _, _, _, _, _, _, _, _, _, _, _, _, _, _, _, _, _, _, _, _, _, _, _, _, _, _, _, _, _, _, _, _, _, _⟩ (by (try dsimp only); have m9 : (((G[(Pl[pn - 1]!).toNat]!).X)[1]!) ∈ nxt G Pl := (by unfold nxt; rw [b2]; exact get_memi (by omega)); exact ⟨⟨by omega, by rw [List.length_append, b2]; rfl, has_snoc (x := ((G[(Pl[pn - 1]!).toNat]!).X)[1]!) hs40, wf_snoc hM.segs b4 (by omega) m9, by omega⟩, by omega⟩) rfl (List.Sublist.cons _ (List.Sublist.cons_cons _ (List.Sublist.cons_cons _ (List.Sublist.cons_cons _ (List.Sublist.cons_cons _ (List.Sublist.append_left List.Sublist.slnil _))))))
       ·
        skip
        have p32 : (((G[(Pl[pn - 1]!).toNat]!).X.length : Nat) : Int) = 0 := by first | (simp; done) | (simp at h32; done) | simpa using h32
        refine wc_true rfl ?_
        refine wc_exit ?_
        refine we_then_exit ?_
        refine we_in_out rfl ?_
        refine we_then_exit ?_
        refine we_then_exit ?_
        refine we_in_here ?_
        refine we_then ?_
        refine wc_seq ?_
        refine wc_draw_ghost (Γ := Cp) 1 11 #[.agg #[.slice p G.length c, .slice q H.length d]] (fun j9 => [false, true, false, false, false, true, true].getD j9 false) (fun j9 => [.agg #[.slice p G.length c, .slice q H.length d], undef, .pointer (some ⟨g9, 2, none⟩), .int .i64 ((H[gi.toNat]!).off), .slice pw.ptr pn pw.cap, undef, undef].getD j9 undef) (fun zz => match zz with | zk41 => fun j9 => [undef, .agg #[.slice zk41.p zk41.K.length zk41.c, .slice zk41.q H.length zk41.d], undef, undef, undef, .int .i64 (endR G (H[gi.toNat]!).off Pl), .int .i64 (endR G (H[gi.toNat]!).off Pl)].getD j9 undef) (fun zz => match zz with | zk41 => zk41.N) (fun zz => match zz with | zk41 => ⟨g9, #[.int .i64 ((H[gi.toNat]!).id), .int .i64 ((H[gi.toNat]!).seg), .int .i64 ((H[gi.toNat]!).off), .int .i64 ((H[gi.toNat]!).acc), .int .i64 ((H[gi.toNat]!).slack)], 62⟩ :: ⟨g3, #[.int .i64 lo, .int .i64 hi], 32⟩ :: ⟨g2, #[.slice p G.length c, .slice q H.length d], 27⟩ :: ⟨g1, #[.int .i64 k.pu, .int .i64 k.lo, .int .i64 k.hi, .int .i64 k.rb, .int .i64 k.rp, .int .i64 k.ae, .int .i64 k.ms, .int .i64 k.ma, .int .i64 k.an, .int .i64 k.st, .int .i64 k.ss, .int .i64 k.ro, .int .i64 k.ti, .int .i64 k.br], 23⟩ :: (pw.rows 3 ++ zk41.N)) (fun zz => match zz with | zk41 => CpOk G H zk41) 224 (by kernel_rfl) rfl (by kernel_rfl) (by kernel_rfl) rfl (by decide) (by rintro zk41; simp) (fun W hE => refs_open21 G H _ _ _ _ W ((sl_old hS) W hE) (oks_below hG hE.below) ((sl_old hH) W hE) (may_few hM).1 (may_few hM).2) ?_ ?_
        ·
         intro z
         refine wg_load 27 (.tmp 8) (own_row 2 rfl) rfl rfl rfl rfl rfl Try.underlying27 rfl (by kernel_rfl) ?_
         simp only [Nat.reduceAdd, Act.put, Xa, Xz, Xs]
         refine wg_own (z 1) rfl rfl rfl (fun _ => by go_simp) ?_
         simp only [Nat.reduceAdd, Act.put, Xa, Xz, Xs]
         refine wg_val (.pointer (some ⟨g9, 2, none⟩)) rfl rfl rfl (fun _ => by go_simp) ?_
         simp only [Nat.reduceAdd, Act.put, Xa, Xz, Xs]
         refine wg_cell 2 (.tmp 104) (.int .i64 ((H[gi.toNat]!).off)) (own_row 0 rfl) rfl rfl rfl rfl rfl rfl Try.isAgg2 ?_
         simp only [Nat.reduceAdd, Act.put, Xa, Xz, Xs]
         refine wg_val (.slice pw.ptr pn pw.cap) rfl rfl rfl (fun _ => rfl) ?_
         simp only [Nat.reduceAdd, Act.put, Xa, Xz, Xs]
         refine wg_pass (z 5) rfl rfl rfl ?_
         simp only [Nat.reduceAdd, Act.put, Xa, Xz, Xs]
         refine wg_pass (z 6) rfl rfl rfl ?_
         simp only [Nat.reduceAdd, Act.put, Xa, Xz, Xs]
         exact wg_nil trivial
        ·
         rintro zk41 k41
         (try dsimp only)
         refine wg_pass (.agg #[.slice p G.length c, .slice q H.length d]) rfl rfl rfl ?_
         simp only [Nat.reduceAdd, Act.put, Xa, Xz, Xs]
         refine wg_own (.agg #[.slice zk41.p zk41.K.length zk41.c, .slice zk41.q H.length zk41.d]) rfl rfl rfl (fun _ => by go_simp) ?_
         simp only [Nat.reduceAdd, Act.put, Xa, Xz, Xs]
         refine wg_pass (.pointer (some ⟨g9, 2, none⟩)) rfl rfl rfl ?_
         simp only [Nat.reduceAdd, Act.put, Xa, Xz, Xs]
         refine wg_pass (.int .i64 ((H[gi.toNat]!).off)) rfl rfl rfl ?_
         simp only [Nat.reduceAdd, Act.put, Xa, Xz, Xs]
         refine wg_pass (.slice pw.ptr pn pw.cap) rfl rfl rfl ?_
         simp only [Nat.reduceAdd, Act.put, Xa, Xz, Xs]
         refine wg_call_at 15 #[.agg #[.slice zk41.p zk41.K.length zk41.c, .slice zk41.q H.length zk41.d], .int .i64 ((H[gi.toNat]!).off), .slice pw.ptr pn pw.cap] (.int .i64 (endR G (H[gi.toNat]!).off Pl)) rfl rfl rfl (fun _ => by go_simp) (fun W hE => end_lenr (H[gi.toNat]!).off Pl _ _ zk41.K H _ _ zk41.c zk41.d pn W (held_at k41.segs (List.Sublist.cons _ (List.Sublist.cons _ (List.Sublist.cons _ (List.Sublist.cons _ (List.sublist_append_of_sublist_right (List.Sublist.refl _)))))) hE) (k41.ok _ _ hG (hE.sub (List.Sublist.cons _ (List.Sublist.cons _ (List.Sublist.cons _ (List.Sublist.cons _ (List.sublist_append_of_sublist_right (List.Sublist.refl _)))))))) (held_at k41.grps (List.Sublist.cons _ (List.Sublist.cons _ (List.Sublist.cons _ (List.Sublist.cons _ (List.sublist_append_of_sublist_right (List.Sublist.refl _)))))) hE) (by rw [k41.same.length]; omega) (by omega) (segs_same k41.same hM.segs) ⟨q3, by omega⟩ ((sl_own [⟨g9, #[.int .i64 ((H[gi.toNat]!).id), .int .i64 ((H[gi.toNat]!).seg), .int .i64 ((H[gi.toNat]!).off), .int .i64 ((H[gi.toNat]!).acc), .int .i64 ((H[gi.toNat]!).slack)], 62⟩, ⟨g3, #[.int .i64 lo, .int .i64 hi], 32⟩, ⟨g2, #[.slice p G.length c, .slice q H.length d], 27⟩, ⟨g1, #[.int .i64 k.pu, .int .i64 k.lo, .int .i64 k.hi, .int .i64 k.rb, .int .i64 k.rp, .int .i64 k.ae, .int .i64 k.ms, .int .i64 k.ma, .int .i64 k.an, .int .i64 k.st, .int .i64 k.ss, .int .i64 k.ro, .int .i64 k.ti, .int .i64 k.br], 23⟩] zk41.N b3 rfl) W hE) (rtok_same k41.same b4.ok) b2 (endR_same k41.same)) ?_
         simp only [Nat.reduceAdd, Act.put, Xa, Xz, Xs]
         refine wg_val (.int .i64 (endR G (H[gi.toNat]!).off Pl)) rfl rfl rfl (fun _ => rfl) ?_
         simp only [Nat.reduceAdd, Act.put, Xa, Xz, Xs]
         refine wg_nil ?_
         refine we_then ?_
         refine wc_seq ?_
         refine wc_region ?_
         refine wl_load 23 (.tmp 7) (own_row 3 rfl) rfl rfl rfl Try.underlying23 rfl (by kernel_rfl) ?_
         simp only [Act.put, Xa, Xz, Xs]
         refine wl_load 27 (.tmp 8) (own_row 2 rfl) rfl rfl rfl Try.underlying27 rfl (by kernel_rfl) ?_
         simp only [Act.put, Xa, Xz, Xs]
         refine wl_val (.int .i64 gi) rfl (fun _ => rfl) ?_
         simp only [Act.put, Xa, Xz, Xs]
         refine wl_load 32 (.tmp 11) (own_row 1 rfl) rfl rfl rfl Try.underlying32 rfl (by kernel_rfl) ?_
         simp only [Act.put, Xa, Xz, Xs]
         refine wl_call_open (ι := Pz) (fun zz => match zz with | zk42 => ⟨g9, #[.int .i64 ((H[gi.toNat]!).id), .int .i64 ((H[gi.toNat]!).seg), .int .i64 ((H[gi.toNat]!).off), .int .i64 ((H[gi.toNat]!).acc), .int .i64 ((H[gi.toNat]!).slack)], 62⟩ :: ⟨g3, #[.int .i64 lo, .int .i64 hi], 32⟩ :: ⟨g2, #[.slice p G.length c, .slice q H.length d], 27⟩ :: ⟨g1, #[.int .i64 k.pu, .int .i64 k.lo, .int .i64 k.hi, .int .i64 k.rb, .int .i64 k.rp, .int .i64 k.ae, .int .i64 k.ms, .int .i64 k.ma, .int .i64 k.an, .int .i64 k.st, .int .i64 k.ss, .int .i64 k.ro, .int .i64 k.ti, .int .i64 k.br], 23⟩ :: (pw.rows 3 ++ (zk41.N ++ zk42.N))) 9 #[.agg #[.int .i64 k.pu, .int .i64 k.lo, .int .i64 k.hi, .int .i64 k.rb, .int .i64 k.rp, .int .i64 k.ae, .int .i64 k.ms, .int .i64 k.ma, .int .i64 k.an, .int .i64 k.st, .int .i64 k.ss, .int .i64 k.ro, .int .i64 k.ti, .int .i64 k.br], .agg #[.slice p G.length c, .slice q H.length d], .int .i64 gi, .agg #[.int .i64 lo, .int .i64 hi]] (fun zz => match zz with | zk42 => .agg #[.bool true, .int .i64 gi, .int .i64 (-((H[gi.toNat]!).acc + k.an) + min lo 0), .int .i64 ((H[gi.toNat]!).acc + k.an + max hi 0), .int .i64 ((min lo 0 + max hi 0) / 2), .int .i64 ((H[gi.toNat]!).off), .slice zk42.p 1 zk42.c]) (fun zz => match zz with | zk42 => zk42.N) (fun zz => match zz with | zk42 => Held zk42.N zk42.p (flat rt [[(H[gi.toNat]!).seg]])) (by rintro zk42; simp) rfl (fun _ => by go_simp) (fun W hE => Pla.reset_any k gi lo hi G H _ _ _ _ W hk ((sl_old hS) W hE) (oks_below hG hE.below) ((sl_old hH) W hE) hM hgi ⟨by omega, by omega, by omega⟩) ?_
         rintro zk42 k42
         (try dsimp only)
         simp only [Act.put, Xa, Xz, Xs]
         refine wl_new 38 (#[.bool false, .int .i64 0, .int .i64 0, .int .i64 0, .int .i64 0, .int .i64 0, .slice none 0 0]) rfl (fun _ => by go_simp) ?_
         intro g43
         simp only [Act.put, Xa, Xz, Xs]
         refine wl_store 0 38 (.tmp 22) (.tmp 112) (#[.bool true, .int .i64 gi, .int .i64 (-((H[gi.toNat]!).acc + k.an) + min lo 0), .int .i64 ((H[gi.toNat]!).acc + k.an + max hi 0), .int .i64 ((min lo 0 + max hi 0) / 2), .int .i64 ((H[gi.toNat]!).off), .slice zk42.p 1 zk42.c]) rfl rfl rfl rfl rfl (by kernel_rfl) rfl (by simp [Value.oneCell']) ?_
         simp only [Act.put, List.set_cons_zero]
         refine wl_nil ?_
         refine we_then ?_
         refine wc_seq ?_
         refine wc_seq ?_
         have has0 : HasR [[(H[gi.toNat]!).seg]] Pl := ⟨[(H[gi.toNat]!).seg], List.mem_singleton.2 rfl, fun k h1 h2 => by (obtain rfl : k = 0 := (by simpa using h1)); exact b4.first.symm⟩
         refine wc_region ?_
         refine wl_val (.pointer (some ⟨g43, 2, none⟩)) rfl (fun _ => by go_simp) ?_
         simp only [Act.put, Xa, Xz, Xs]
         refine wl_part 32 (.tmp 113) [.int .i64 (-((H[gi.toNat]!).acc + k.an) + min lo 0), .int .i64 ((H[gi.toNat]!).acc + k.an + max hi 0)] (own_row 0 rfl) rfl rfl rfl rfl Try.underlying32 rfl (by kernel_rfl) ?_
         simp only [Act.put, Xa, Xz, Xs]
         refine wl_val (.int .i64 x) rfl (fun _ => rfl) ?_
         simp only [Act.put, Xa, Xz, Xs]
         refine wl_call 16 #[.agg #[.int .i64 (-((H[gi.toNat]!).acc + k.an) + min lo 0), .int .i64 ((H[gi.toNat]!).acc + k.an + max hi 0)], .int .i64 x] (.bool (decide ((-((H[gi.toNat]!).acc + k.an) + min lo 0) ≤ x) && decide (x ≤ ((H[gi.toNat]!).acc + k.an + max hi 0)))) rfl (fun _ => by go_simp) (fun W => Spo.has_any (-((H[gi.toNat]!).acc + k.an) + min lo 0) ((H[gi.toNat]!).acc + k.an + max hi 0) x W) ?_
         simp only [Act.put, Xa, Xz, Xs]
         refine wl_val (.bool (!((decide ((-((H[gi.toNat]!).acc + k.an) + min lo 0) ≤ x) && decide (x ≤ ((H[gi.toNat]!).acc + k.an + max hi 0)))))) rfl (fun _ => by go_simp) ?_
         simp only [Act.put, Xa, Xz, Xs]
         refine wl_val (.bool (!((decide ((-((H[gi.toNat]!).acc + k.an) + min lo 0) ≤ x) && decide (x ≤ ((H[gi.toNat]!).acc + k.an + max hi 0)))))) rfl (fun _ => rfl) ?_
         simp only [Act.put, Xa, Xz, Xs]
         cases h44 : (decide ((-((H[gi.toNat]!).acc + k.an) + min lo 0) ≤ x) && decide (x ≤ ((H[gi.toNat]!).acc + k.an + max hi 0)))
         ·
          skip
          have p44 : ¬ (((-((H[gi.toNat]!).acc + k.an) + min lo 0) ≤ x) ∧ (x ≤ ((H[gi.toNat]!).acc + k.an + max hi 0))) := by first | (simp; done) | (simp at h44; done) | simpa using h44
          refine wl_skip rfl ?_
          simp only [Act.put, Xa, Xz, Xs]
          refine wl_skip rfl ?_
          simp only [Act.put, Xa, Xz, Xs]
          refine wl_skip rfl ?_
          simp only [Act.put, Xa, Xz, Xs]
          refine wl_skip rfl ?_
          simp only [Act.put, Xa, Xz, Xs]
          refine wl_skip rfl ?_
          simp only [Act.put, Xa, Xz, Xs]
          refine wl_val (.bool true) rfl (fun _ => rfl) ?_
          simp only [Act.put, Xa, Xz, Xs]
          refine wl_nil ?_
          refine we_then ?_
          refine wc_true rfl ?_
          refine wc_seq ?_
          refine wc_region ?_
          refine wl_val (.pointer (some ⟨g43, 2, none⟩)) rfl (fun _ => by go_simp) ?_
          simp only [Act.put, Xa, Xz, Xs]
          refine wl_part 32 (.tmp 125) [.int .i64 (-((H[gi.toNat]!).acc + k.an) + min lo 0), .int .i64 ((H[gi.toNat]!).acc + k.an + max hi 0)] (own_row 0 rfl) rfl rfl rfl rfl Try.underlying32 rfl (by kernel_rfl) ?_
          simp only [Act.put, Xa, Xz, Xs]
          refine wl_val (.int .i64 x) rfl (fun _ => rfl) ?_
          simp only [Act.put, Xa, Xz, Xs]
          refine wl_call 16 #[.agg #[.int .i64 (-((H[gi.toNat]!).acc + k.an) + min lo 0), .int .i64 ((H[gi.toNat]!).acc + k.an + max hi 0)], .int .i64 x] (.bool false) rfl (fun _ => by go_simp) (fun W => by have x9 := Spo.has_any (-((H[gi.toNat]!).acc + k.an) + min lo 0) ((H[gi.toNat]!).acc + k.an + max hi 0) x W; rwa [h44] at x9) ?_
          simp only [Act.put, Xa, Xz, Xs]
          refine wl_val (.bool true) rfl (fun _ => by go_simp) ?_
          simp only [Act.put, Xa, Xz, Xs]
          refine wl_val (.bool true) rfl (fun _ => rfl) ?_
          simp only [Act.put, Xa, Xz, Xs]
          refine wl_nil ?_
          refine we_then ?_
          refine wc_ret ?_
          refine we_then_ret ?_
          refine we_ret1 (.bool true) rfl rfl rfl (fun w1 hE => ?_)
          exact ⟨rfl, hE.below⟩
         ·
          skip
          have p44 : ((-((H[gi.toNat]!).acc + k.an) + min lo 0) ≤ x) ∧ (x ≤ ((H[gi.toNat]!).acc + k.an + max hi 0)) := by first | (simp; done) | (simp at h44; done) | simpa using h44
          refine wl_val (.pointer (some ⟨g43, 5, none⟩)) rfl (fun _ => by go_simp) ?_
          simp only [Act.put, Xa, Xz, Xs]
          refine wl_part 36 (.tmp 119) [.int .i64 ((H[gi.toNat]!).off), .slice zk42.p 1 zk42.c] (own_row 0 rfl) rfl rfl rfl rfl Try.underlying36 rfl (by kernel_rfl) ?_
          simp only [Act.put, Xa, Xz, Xs]
          refine wl_val (.slice pw.ptr pn pw.cap) rfl (fun _ => rfl) ?_
          simp only [Act.put, Xa, Xz, Xs]
          refine wl_call_at 17 #[.agg #[.int .i64 ((H[gi.toNat]!).off), .slice zk42.p 1 zk42.c], .slice pw.ptr pn pw.cap] (.bool true) rfl (fun _ => by go_simp) (fun W hE => has_true G (H[gi.toNat]!).seg (H[gi.toNat]!).off (H[gi.toNat]!).off [[(H[gi.toNat]!).seg]] _ _ Pl pn _ _ W rfl ok1 ((sl_held k42 (List.Sublist.cons _ (List.Sublist.cons _ (List.Sublist.cons _ (List.Sublist.cons _ (List.Sublist.cons _ (List.sublist_append_of_sublist_right (List.sublist_append_of_sublist_right (List.Sublist.refl _))))))))) W hE) b2 ((sl_own [⟨g43, #[.bool true, .int .i64 gi, .int .i64 (-((H[gi.toNat]!).acc + k.an) + min lo 0), .int .i64 ((H[gi.toNat]!).acc + k.an + max hi 0), .int .i64 ((min lo 0 + max hi 0) / 2), .int .i64 ((H[gi.toNat]!).off), .slice zk42.p 1 zk42.c], 38⟩, ⟨g9, #[.int .i64 ((H[gi.toNat]!).id), .int .i64 ((H[gi.toNat]!).seg), .int .i64 ((H[gi.toNat]!).off), .int .i64 ((H[gi.toNat]!).acc), .int .i64 ((H[gi.toNat]!).slack)], 62⟩, ⟨g3, #[.int .i64 lo, .int .i64 hi], 32⟩, ⟨g2, #[.slice p G.length c, .slice q H.length d], 27⟩, ⟨g1, #[.int .i64 k.pu, .int .i64 k.lo, .int .i64 k.hi, .int .i64 k.rb, .int .i64 k.rp, .int .i64 k.ae, .int .i64 k.ms, .int .i64 k.ma, .int .i64 k.an, .int .i64 k.st, .int .i64 k.ss, .int .i64 k.ro, .int .i64 k.ti, .int .i64 k.br], 23⟩] (zk41.N ++ zk42.N) b3 rfl) W hE) has0 (by omega) (Roub.has_cap b3)) ?_
          simp only [Act.put, Xa, Xz, Xs]
          refine wl_val (.bool false) rfl (fun _ => by go_simp) ?_
          simp only [Act.put, Xa, Xz, Xs]
          refine wl_val (.bool false) rfl (fun _ => rfl) ?_
          simp only [Act.put, Xa, Xz, Xs]
          refine wl_nil ?_
          refine we_then ?_
          refine wc_false rfl ?_
          refine wc_skip ?_
          refine we_then ?_
          refine wc_seq ?_
          refine wc_seq ?_
          refine wc_region ?_
          refine wl_val (.slice rp R.length rc) rfl (fun _ => rfl) ?_
          simp only [Act.put, Xa, Xz, Xs]
          refine wl_val (.int .i64 (R.length : Int)) rfl (fun w => er_len rfl rfl Try.underlying59 w) ?_
          simp only [Act.put, Xa, Xz, Xs]
          refine wl_val (.int .i64 0) rfl (fun _ => rfl) ?_
          simp only [Act.put, Xa, Xz, Xs]
          refine wl_nil ?_
          refine we_then ?_
          refine wc_block ?_
          refine wc_loop (fun (zz : Nat × Mv × Int × List Rw × Value × Value × Value × Value × Value × Value × Value × Value × Value × Value × Value × Value × Value × Value × Value × Value × Value × Value × Value × Value × Value × Value × Value × Value × Value × Value × Value × Value × Value × Value × Value × Value × Value × Value × Value × Value × Value × Value × Value × Value × Value × Value × Value × Value × Value × Value × Value × Value × Value × Value × Value × Value × Value × Value × Value × Value × Value × Value × Value × Value × Value × Value × Value × Value × Value × Value × Value × Value × Value × Value × Value × Value × Value × Value × Value × Value × Value × Value × Value × Value × Value × Value × Value × Value × Value × Value × Value × Value × Value × Value × Value × Value × Value × Value × Value) => match zz with | ⟨j, Pm, xa, Nn, u14, u24, u25, u26, u133, u134, u135, u136, u137, u138, u139, u140, u141, u142, u143, u144, u145, u146, u147, u148, u149, u150, u151, u152, u153, u154, u155, u156, u157, u158, u159, u160, u161, u162, u163, u164, u165, u166, u167, u168, u169, u170, u171, u172, u173, u174, u175, u176, u177, u178, u179, u180, u181, u182, u183, u184, u185, u186, u187, u188, u189, u190, u191, u192, u193, u194, u195, u196, u197, u198, u199, u200, u201, u202, u203, u204, u205, u206, u207, u208, u209, u210, u211, u212, u213, u214, u215, u216, u217, u218, u219, u220, u221, u222, u223⟩ => ({ tmps := #[.agg #[.int .i64 k.pu, .int .i64 k.lo, .int .i64 k.hi, .int .i64 k.rb, .int .i64 k.rp, .int .i64 k.ae, .int .i64 k.ms, .int .i64 k.ma, .int .i64 k.an, .int .i64 k.st, .int .i64 k.ss, .int .i64 k.ro, .int .i64 k.ti, .int .i64 k.br], .agg #[.slice p G.length c, .slice q H.length d], .int .i64 gi, .int .i64 xa, .agg #[.int .i64 lo, .int .i64 hi], .slice rp R.length rc, .slice bp B.length bc, .pointer (some ⟨g1, 0, none⟩), .pointer (some ⟨g2, 0, none⟩), undef, undef, .pointer (some ⟨g3, 0, none⟩), undef, undef, u14, .pointer (some ⟨g9, 0, none⟩), .slice pw.ptr pn pw.cap, undef, .bool (B[i]!), .slice ((G[(Pl[pn - 1]!).toNat]!).np) ((G[(Pl[pn - 1]!).toNat]!).X.length) ((G[(Pl[pn - 1]!).toNat]!).nc), u20, .int .i64 (endR G (H[gi.toNat]!).off Pl), .pointer (some ⟨g43, 0, none⟩), undef, u24, u25, u26, .bool true, .bool false, .agg #[.int .i64 k.pu, .int .i64 k.lo, .int .i64 k.hi, .int .i64 k.rb, .int .i64 k.rp, .int .i64 k.ae, .int .i64 k.ms, .int .i64 k.ma, .int .i64 k.an, .int .i64 k.st, .int .i64 k.ss, .int .i64 k.ro, .int .i64 k.ti, .int .i64 k.br], .agg #[.slice p G.length c, .slice q H.length d], .int .i64 gi, .bool true, .bool false, .bool false, .slice rp R.length rc, .int .i64 (R.length : Int), .bool false, .bool false, .bool false, .slice bp B.length bc, .int .i64 (B.length : Int), .bool false, .bool false, .bool false, .agg #[.int .i64 lo, .int .i64 hi], .bool true, .bool false, .bool false, .bool false, .agg #[.int .i64 lo, .int .i64 hi], .pointer (some ⟨g1, 6, none⟩), .int .i64 k.ms, .int .i64 (-k.ms), .pointer (some ⟨g1, 6, none⟩), .int .i64 k.ms, .agg #[.int .i64 (-k.ms), .int .i64 k.ms], .bool true, .bool (!(true)), .bool (!(true)), .pointer (some ⟨g2, 1, none⟩), .slice q H.length d, .int .i64 gi, eaddr q ((gi.toNat) * 5), .agg #[.int .i64 ((H[gi.toNat]!).id), .int .i64 ((H[gi.toNat]!).seg), .int .i64 ((H[gi.toNat]!).off), .int .i64 ((H[gi.toNat]!).acc), .int .i64 ((H[gi.toNat]!).slack)], .pointer (some ⟨g9, 1, none⟩), .int .i64 ((H[gi.toNat]!).seg), .slice ((Own.row g10 1 #[.int .i64 ((H[gi.toNat]!).seg)]).ptr) 1 ((Own.row g10 1 #[.int .i64 ((H[gi.toNat]!).seg)]).cap), .slice bp B.length bc, .int .i64 (B.length : Int), .int .i64 (i : Int), .bool true, eaddr bp (i * 1), .bool (B[i]!), .pointer (some ⟨g2, 0, none⟩), .slice p G.length c, .slice pw.ptr pn pw.cap, .slice pw.ptr pn pw.cap, .int .i64 (pn : Int), .int .i64 ((pn - 1 : Nat) : Int), eaddr pw.ptr ((pn - 1) * 1), .int .i64 (Pl[pn - 1]!), eaddr p (((Pl[pn - 1]!).toNat) * 3), eaddr p (((Pl[pn - 1]!).toNat) * 3 + 2), .slice ((G[(Pl[pn - 1]!).toNat]!).np) ((G[(Pl[pn - 1]!).toNat]!).X.length) ((G[(Pl[pn - 1]!).toNat]!).nc), .slice ((G[(Pl[pn - 1]!).toNat]!).np) ((G[(Pl[pn - 1]!).toNat]!).X.length) ((G[(Pl[pn - 1]!).toNat]!).nc), .int .i64 (((G[(Pl[pn - 1]!).toNat]!).X.length : Nat) : Int), .bool true, u88, u89, u90, u91, u92, u93, u94, u95, u96, u97, u98, u99, u100, u101, .agg #[.slice p G.length c, .slice q H.length d], .agg #[.slice zk41.p zk41.K.length zk41.c, .slice zk41.q H.length zk41.d], .pointer (some ⟨g9, 2, none⟩), .int .i64 ((H[gi.toNat]!).off), .slice pw.ptr pn pw.cap, .int .i64 (endR G (H[gi.toNat]!).off Pl), .agg #[.int .i64 k.pu, .int .i64 k.lo, .int .i64 k.hi, .int .i64 k.rb, .int .i64 k.rp, .int .i64 k.ae, .int .i64 k.ms, .int .i64 k.ma, .int .i64 k.an, .int .i64 k.st, .int .i64 k.ss, .int .i64 k.ro, .int .i64 k.ti, .int .i64 k.br], .agg #[.slice p G.length c, .slice q H.length d], .int .i64 gi, .agg #[.int .i64 lo, .int .i64 hi], .agg #[.bool true, .int .i64 gi, .int .i64 (-((H[gi.toNat]!).acc + k.an) + min lo 0), .int .i64 ((H[gi.toNat]!).acc + k.an + max hi 0), .int .i64 ((min lo 0 + max hi 0) / 2), .int .i64 ((H[gi.toNat]!).off), .slice zk42.p 1 zk42.c], .pointer (some ⟨g43, 2, none⟩), .agg #[.int .i64 (-((H[gi.toNat]!).acc + k.an) + min lo 0), .int .i64 ((H[gi.toNat]!).acc + k.an + max hi 0)], .int .i64 x, .bool true, .bool (!(true)), .bool (!(true)), .pointer (some ⟨g43, 5, none⟩), .agg #[.int .i64 ((H[gi.toNat]!).off), .slice zk42.p 1 zk42.c], .slice pw.ptr pn pw.cap, .bool true, .bool false, .bool false, undef, undef, undef, undef, undef, .slice rp R.length rc, .int .i64 (R.length : Int), .int .i64 (j : Int), u133, u134, u135, u136, u137, u138, u139, u140, u141, u142, u143, u144, u145, u146, u147, u148, u149, u150, u151, u152, u153, u154, u155, u156, u157, u158, u159, u160, u161, u162, u163, u164, u165, u166, u167, u168, u169, u170, u171, u172, u173, u174, u175, u176, u177, u178, u179, u180, u181, u182, u183, u184, u185, u186, u187, u188, u189, u190, u191, u192, u193, u194, u195, u196, u197, u198, u199, u200, u201, u202, u203, u204, u205, u206, u207, u208, u209, u210, u211, u212, u213, u214, u215, u216, u217, u218, u219, u220, u221, u222, u223], defers := [] } : Act)) (fun (zz : Nat × Mv × Int × List Rw × Value × Value × Value × Value × Value × Value × Value × Value × Value × Value × Value × Value × Value × Value × Value × Value × Value × Value × Value × Value × Value × Value × Value × Value × Value × Value × Value × Value × Value × Value × Value × Value × Value × Value × Value × Value × Value × Value × Value × Value × Value × Value × Value × Value × Value × Value × Value × Value × Value × Value × Value × Value × Value × Value × Value × Value × Value × Value × Value × Value × Value × Value × Value × Value × Value × Value × Value × Value × Value × Value × Value × Value × Value × Value × Value × Value × Value × Value × Value × Value × Value × Value × Value × Value × Value × Value × Value × Value × Value × Value × Value × Value × Value × Value × Value) => match zz with | ⟨j, Pm, xa, Nn, u14, u24, u25, u26, u133, u134, u135, u136, u137, u138, u139, u140, u141, u142, u143, u144, u145, u146, u147, u148, u149, u150, u151, u152, u153, u154, u155, u156, u157, u158, u159, u160, u161, u162, u163, u164, u165, u166, u167, u168, u169, u170, u171, u172, u173, u174, u175, u176, u177, u178, u179, u180, u181, u182, u183, u184, u185, u186, u187, u188, u189, u190, u191, u192, u193, u194, u195, u196, u197, u198, u199, u200, u201, u202, u203, u204, u205, u206, u207, u208, u209, u210, u211, u212, u213, u214, u215, u216, u217, u218, u219, u220, u221, u222, u223⟩ => ⟨g43, #[.bool Pm.on, .int .i64 Pm.gi, .int .i64 Pm.lo, .int .i64 Pm.hi, .int .i64 Pm.est, .int .i64 Pm.F, .slice Pm.p Pm.X.length Pm.c], 38⟩ :: ⟨g9, #[.int .i64 ((H[gi.toNat]!).id), .int .i64 ((H[gi.toNat]!).seg), .int .i64 ((H[gi.toNat]!).off), .int .i64 ((H[gi.toNat]!).acc), .int .i64 ((H[gi.toNat]!).slack)], 62⟩ :: ⟨g3, #[.int .i64 lo, .int .i64 hi], 32⟩ :: ⟨g2, #[.slice p G.length c, .slice q H.length d], 27⟩ :: ⟨g1, #[.int .i64 k.pu, .int .i64 k.lo, .int .i64 k.hi, .int .i64 k.rb, .int .i64 k.rp, .int .i64 k.ae, .int .i64 k.ms, .int .i64 k.ma, .int .i64 k.an, .int .i64 k.st, .int .i64 k.ss, .int .i64 k.ro, .int .i64 k.ti, .int .i64 k.br], 23⟩ :: (pw.rows 3 ++ Nn)) (fun (zz : Nat × Mv × Int × List Rw × Value × Value × Value × Value × Value × Value × Value × Value × Value × Value × Value × Value × Value × Value × Value × Value × Value × Value × Value × Value × Value × Value × Value × Value × Value × Value × Value × Value × Value × Value × Value × Value × Value × Value × Value × Value × Value × Value × Value × Value × Value × Value × Value × Value × Value × Value × Value × Value × Value × Value × Value × Value × Value × Value × Value × Value × Value × Value × Value × Value × Value × Value × Value × Value × Value × Value × Value × Value × Value × Value × Value × Value × Value × Value × Value × Value × Value × Value × Value × Value × Value × Value × Value × Value × Value × Value × Value × Value × Value × Value × Value × Value × Value × Value × Value) => match zz with | ⟨j, Pm, xa, Nn, u14, u24, u25, u26, u133, u134, u135, u136, u137, u138, u139, u140, u141, u142, u143, u144, u145, u146, u147, u148, u149, u150, u151, u152, u153, u154, u155, u156, u157, u158, u159, u160, u161, u162, u163, u164, u165, u166, u167, u168, u169, u170, u171, u172, u173, u174, u175, u176, u177, u178, u179, u180, u181, u182, u183, u184, u185, u186, u187, u188, u189, u190, u191, u192, u193, u194, u195, u196, u197, u198, u199, u200, u201, u202, u203, u204, u205, u206, u207, u208, u209, u210, u211, u212, u213, u214, u215, u216, u217, u218, u219, u220, u221, u222, u223⟩ => j ≤ R.length ∧ PlOk G (H[gi.toNat]!).seg (H[gi.toNat]!).off Pm ∧ Held Nn Pm.p (flat rt Pm.X) ∧ HasR Pm.X Pl ∧ Pm.lo ≤ xa ∧ xa ≤ Pm.hi) (fun (zz : Nat × Mv × Int × List Rw × Value × Value × Value × Value × Value × Value × Value × Value × Value × Value × Value × Value × Value × Value × Value × Value × Value × Value × Value × Value × Value × Value × Value × Value × Value × Value × Value × Value × Value × Value × Value × Value × Value × Value × Value × Value × Value × Value × Value × Value × Value × Value × Value × Value × Value × Value × Value × Value × Value × Value × Value × Value × Value × Value × Value × Value × Value × Value × Value × Value × Value × Value × Value × Value × Value × Value × Value × Value × Value × Value × Value × Value × Value × Value × Value × Value × Value × Value × Value × Value × Value × Value × Value × Value × Value × Value × Value × Value × Value × Value × Value × Value × Value × Value × Value) => match zz with | ⟨j, Pm, xa, Nn, u14, u24, u25, u26, u133, u134, u135, u136, u137, u138, u139, u140, u141, u142, u143, u144, u145, u146, u147, u148, u149, u150, u151, u152, u153, u154, u155, u156, u157, u158, u159, u160, u161, u162, u163, u164, u165, u166, u167, u168, u169, u170, u171, u172, u173, u174, u175, u176, u177, u178, u179, u180, u181, u182, u183, u184, u185, u186, u187, u188, u189, u190, u191, u192, u193, u194, u195, u196, u197, u198, u199, u200, u201, u202, u203, u204, u205, u206, u207, u208, u209, u210, u211, u212, u213, u214, u215, u216, u217, u218, u219, u220, u221, u222, u223⟩ => R.length - j) ⟨0, (⟨0, true, gi, -((H[gi.toNat]!).acc + k.an) + min lo 0, (H[gi.toNat]!).acc + k.an + max hi 0, (min lo 0 + max hi 0) / 2, (H[gi.toNat]!).off, zk42.p, [[(H[gi.toNat]!).seg]], zk42.c, []⟩ : Mv), x, zk42.N, _, _, _, _, _, _, _, _, _, _, _, _, _, _, _, _, _, _, _, _, _, _, _, _, _, _, _, _, _, _, _, _, _, _, _, _, _, _, _, _, _, _, _, _, _, _, _, _, _, _, _, _, _, _, _, _, _, _, _, _, _, _, _, _, _, _, _, _, _, _, _, _, _, _, _, _, _, _, _, _, _, _, _, _, _, _, _, _, _, _, _, _, _, _, _⟩ ⟨Nat.zero_le _, ⟨rfl, rfl, ok1, by (try dsimp only); omega, by (try dsimp only); omega, by (try dsimp only); omega⟩, k42, has0, by (try dsimp only); omega, by (try dsimp only); omega⟩ rfl (List.Sublist.cons_cons _ (List.Sublist.cons_cons _ (List.Sublist.cons_cons _ (List.Sublist.cons_cons _ (List.Sublist.cons_cons _ (List.Sublist.append_left (List.sublist_append_of_sublist_right (List.Sublist.refl _)) _)))))) ?_
          rintro ⟨j, Pm, xa, Nn, u14, u24, u25, u26, u133, u134, u135, u136, u137, u138, u139, u140, u141, u142, u143, u144, u145, u146, u147, u148, u149, u150, u151, u152, u153, u154, u155, u156, u157, u158, u159, u160, u161, u162, u163, u164, u165, u166, u167, u168, u169, u170, u171, u172, u173, u174, u175, u176, u177, u178, u179, u180, u181, u182, u183, u184, u185, u186, u187, u188, u189, u190, u191, u192, u193, u194, u195, u196, u197, u198, u199, u200, u201, u202, u203, u204, u205, u206, u207, u208, u209, u210, u211, u212, u213, u214, u215, u216, u217, u218, u219, u220, u221, u222, u223⟩ hφ
          (try dsimp only at hφ ⊢)
          obtain ⟨c1, c2, c3, c4, c5, c6⟩ := hφ
          have c7 := c2.lo
          have c8 := c2.mid
          have c9 := c2.hi
          refine wc_seq ?_
          refine wc_region ?_
          refine wl_val (.bool (decide ((j : Int) < (R.length : Int)))) rfl (fun w => run_cmp rfl rfl rfl Try.underlying3 rfl w) ?_
          simp only [Act.put, Xa, Xz, Xs]
          refine wl_nil ?_
          refine we_then ?_
          refine wc_seq ?_
          cases h45 : (decide ((j : Int) < (R.length : Int)))
          ·
           skip
           have p45 : ¬ ((j : Int) < (R.length : Int)) := of_decide_eq_false h45
           refine wc_false rfl ?_
           refine wc_exit ?_
           refine we_then_exit ?_
           refine we_then_exit ?_
           refine we_in_here ?_
           refine we_then ?_
           refine wc_seq ?_
           refine wc_region ?_
           refine wl_val (.bool true) rfl (fun _ => rfl) ?_
           simp only [Act.put, Xa, Xz, Xs]
           refine wl_nil ?_
           refine we_then ?_
           refine wc_ret ?_
           refine we_ret1 (.bool true) rfl rfl rfl (fun w1 hE => ?_)
           exact ⟨rfl, hE.below⟩
          ·
           skip
           have p45 : (j : Int) < (R.length : Int) := of_decide_eq_true h45
           refine wc_true rfl ?_
           refine wc_skip ?_
           refine we_then ?_
           refine wc_seq ?_
           refine wc_block ?_
           refine wc_seq ?_
           refine wc_region ?_
           refine wl_read (eaddr rp (j * 3)) rfl (er_index j 3 (sl_old hR) rfl rfl rfl rfl (by omega) (flat_length (enc := rd3) (size := 3) (fun _ => rfl) _) (by decide) Try.underlying59 (by kernel_rfl)) ?_
           simp only [Act.put, Xa, Xz, Xs]
           refine wl_read (.agg #[.int .i64 ((R[j]!).1), .int .i64 ((R[j]!).2.1), .int .i64 ((R[j]!).2.2)]) rfl (er_part (j * 3) [.int .i64 ((R[j]!).1), .int .i64 ((R[j]!).2.1), .int .i64 ((R[j]!).2.2)] (sl_old hR) rfl rfl (flat_part (enc := rd3) (fun _ => rfl) R j (by omega)) (Nat.zero_lt_succ _) Try.underlying71 rfl (by kernel_rfl)) ?_
           simp only [Act.put, Xa, Xz, Xs]
           refine wl_new 71 (#[.int .i64 0, .int .i64 0, .int .i64 0]) rfl (fun _ => by go_simp) ?_
           intro g46
           simp only [Act.put, Xa, Xz, Xs]
           refine wl_store 0 71 (.tmp 24) (.tmp 135) (#[.int .i64 ((R[j]!).1), .int .i64 ((R[j]!).2.1), .int .i64 ((R[j]!).2.2)]) rfl rfl rfl rfl rfl (by kernel_rfl) rfl (by simp [Value.oneCell']) ?_
           simp only [Act.put, List.set_cons_zero]
           refine wl_nil ?_
           refine we_then ?_
           refine wc_seq ?_
           refine wc_seq ?_
           refine wc_region ?_
           refine wl_val (.pointer (some ⟨g46, 0, none⟩)) rfl (fun _ => by go_simp) ?_
           simp only [Act.put, Xa, Xz, Xs]
           refine wl_val (.pointer (some ⟨g46, 0, none⟩)) rfl (fun _ => by go_simp) ?_
           simp only [Act.put, Xa, Xz, Xs]
           refine wl_cell 2 (.tmp 137) (.int .i64 ((R[j]!).1)) (own_row 0 rfl) rfl rfl rfl rfl Try.isAgg2 ?_
           simp only [Act.put, Xa, Xz, Xs]
           refine wl_val (.pointer (some ⟨g46, 0, none⟩)) rfl (fun _ => by go_simp) ?_
           simp only [Act.put, Xa, Xz, Xs]
           refine wl_val (.pointer (some ⟨g46, 1, none⟩)) rfl (fun _ => by go_simp) ?_
           simp only [Act.put, Xa, Xz, Xs]
           refine wl_cell 2 (.tmp 140) (.int .i64 ((R[j]!).2.1)) (own_row 0 rfl) rfl rfl rfl rfl Try.isAgg2 ?_
           simp only [Act.put, Xa, Xz, Xs]
           refine wl_val (.bool (decide ((R[j]!).2.1 < (R[j]!).1))) rfl (fun w => run_cmp rfl rfl rfl Try.underlying2 rfl w) ?_
           simp only [Act.put, Xa, Xz, Xs]
           refine wl_val (.bool (decide ((R[j]!).2.1 < (R[j]!).1))) rfl (fun _ => rfl) ?_
           simp only [Act.put, Xa, Xz, Xs]
           cases h47 : (decide ((R[j]!).2.1 < (R[j]!).1))
           ·
            skip
            have p47 : ¬ ((R[j]!).2.1 < (R[j]!).1) := of_decide_eq_false h47
            refine wl_val (.pointer (some ⟨g46, 0, none⟩)) rfl (fun _ => by go_simp) ?_
            simp only [Act.put, Xa, Xz, Xs]
            refine wl_val (.pointer (some ⟨g46, 0, none⟩)) rfl (fun _ => by go_simp) ?_
            simp only [Act.put, Xa, Xz, Xs]
            refine wl_cell 2 (.tmp 145) (.int .i64 ((R[j]!).1)) (own_row 0 rfl) rfl rfl rfl rfl Try.isAgg2 ?_
            simp only [Act.put, Xa, Xz, Xs]
            refine wl_val (.bool (decide ((R[j]!).1 < -1099511627776))) rfl (fun w => run_cmp rfl rfl rfl Try.underlying2 rfl w) ?_
            simp only [Act.put, Xa, Xz, Xs]
            refine wl_val (.bool (decide ((R[j]!).1 < -1099511627776))) rfl (fun _ => rfl) ?_
            simp only [Act.put, Xa, Xz, Xs]
            refine wl_val (.bool (decide ((R[j]!).1 < -1099511627776))) rfl (fun _ => rfl) ?_
            simp only [Act.put, Xa, Xz, Xs]
            cases h48 : (decide ((R[j]!).1 < -1099511627776))
            ·
             skip
             have p48 : ¬ ((R[j]!).1 < -1099511627776) := of_decide_eq_false h48
             refine wl_val (.pointer (some ⟨g46, 0, none⟩)) rfl (fun _ => by go_simp) ?_
             simp only [Act.put, Xa, Xz, Xs]
             refine wl_val (.pointer (some ⟨g46, 1, none⟩)) rfl (fun _ => by go_simp) ?_
             simp only [Act.put, Xa, Xz, Xs]
             refine wl_cell 2 (.tmp 151) (.int .i64 ((R[j]!).2.1)) (own_row 0 rfl) rfl rfl rfl rfl Try.isAgg2 ?_
             simp only [Act.put, Xa, Xz, Xs]
             refine wl_val (.bool (decide (1099511627776 < (R[j]!).2.1))) rfl (fun w => run_cmp rfl rfl rfl Try.underlying2 rfl w) ?_
             simp only [Act.put, Xa, Xz, Xs]
             refine wl_val (.bool (decide (1099511627776 < (R[j]!).2.1))) rfl (fun _ => rfl) ?_
             simp only [Act.put, Xa, Xz, Xs]
             refine wl_val (.bool (decide (1099511627776 < (R[j]!).2.1))) rfl (fun _ => rfl) ?_
             simp only [Act.put, Xa, Xz, Xs]
             cases h49 : (decide (1099511627776 < (R[j]!).2.1))
             ·
              skip
              have p49 : ¬ (1099511627776 < (R[j]!).2.1) := of_decide_eq_false h49
              refine wl_val (.pointer (some ⟨g46, 0, none⟩)) rfl (fun _ => by go_simp) ?_
              simp only [Act.put, Xa, Xz, Xs]
              refine wl_part 32 (.tmp 156) [.int .i64 ((R[j]!).1), .int .i64 ((R[j]!).2.1)] (own_row 0 rfl) rfl rfl rfl rfl Try.underlying32 rfl (by kernel_rfl) ?_
              simp only [Act.put, Xa, Xz, Xs]
              refine wl_val (.pointer (some ⟨g46, 2, none⟩)) rfl (fun _ => by go_simp) ?_
              simp only [Act.put, Xa, Xz, Xs]
              refine wl_cell 2 (.tmp 158) (.int .i64 ((R[j]!).2.2)) (own_row 0 rfl) rfl rfl rfl rfl Try.isAgg2 ?_
              simp only [Act.put, Xa, Xz, Xs]
              refine wl_call 16 #[.agg #[.int .i64 ((R[j]!).1), .int .i64 ((R[j]!).2.1)], .int .i64 ((R[j]!).2.2)] (.bool (decide (((R[j]!).1) ≤ ((R[j]!).2.2)) && decide (((R[j]!).2.2) ≤ ((R[j]!).2.1)))) rfl (fun _ => by go_simp) (fun W => Spo.has_any ((R[j]!).1) ((R[j]!).2.1) ((R[j]!).2.2) W) ?_
              simp only [Act.put, Xa, Xz, Xs]
              refine wl_val (.bool (!((decide (((R[j]!).1) ≤ ((R[j]!).2.2)) && decide (((R[j]!).2.2) ≤ ((R[j]!).2.1)))))) rfl (fun _ => by go_simp) ?_
              simp only [Act.put, Xa, Xz, Xs]
              refine wl_val (.bool (!((decide (((R[j]!).1) ≤ ((R[j]!).2.2)) && decide (((R[j]!).2.2) ≤ ((R[j]!).2.1)))))) rfl (fun _ => rfl) ?_
              simp only [Act.put, Xa, Xz, Xs]
              refine wl_nil ?_
              refine we_then ?_
              cases h50 : (decide (((R[j]!).1) ≤ ((R[j]!).2.2)) && decide (((R[j]!).2.2) ≤ ((R[j]!).2.1)))
              ·
               skip
               have p50 : ¬ ((((R[j]!).1) ≤ ((R[j]!).2.2)) ∧ (((R[j]!).2.2) ≤ ((R[j]!).2.1))) := by first | (simp; done) | (simp at h50; done) | simpa using h50
               refine wc_true rfl ?_
               refine wc_seq ?_
               refine wc_region ?_
               refine wl_val (.bool true) rfl (fun _ => rfl) ?_
               simp only [Act.put, Xa, Xz, Xs]
               refine wl_nil ?_
               refine we_then ?_
               refine wc_ret ?_
               refine we_then_ret ?_
               refine we_in_ret ?_
               refine we_then_ret ?_
               refine we_then_ret ?_
               refine we_in_ret ?_
               refine we_then_ret ?_
               refine we_ret1 (.bool true) rfl rfl rfl (fun w1 hE => ?_)
               exact ⟨rfl, hE.below⟩
              ·
               skip
               have p50 : (((R[j]!).1) ≤ ((R[j]!).2.2)) ∧ (((R[j]!).2.2) ≤ ((R[j]!).2.1)) := by first | (simp; done) | (simp at h50; done) | simpa using h50
               refine wc_false rfl ?_
               refine wc_skip ?_
               refine we_then ?_
               refine wc_seq ?_
               refine wc_region ?_
               refine wl_val (.int .i64 xa) rfl (fun _ => rfl) ?_
               simp only [Act.put, Xa, Xz, Xs]
               refine wl_val (.pointer (some ⟨g46, 2, none⟩)) rfl (fun _ => by go_simp) ?_
               simp only [Act.put, Xa, Xz, Xs]
               refine wl_cell 2 (.tmp 164) (.int .i64 ((R[j]!).2.2)) (own_row 0 rfl) rfl rfl rfl rfl Try.isAgg2 ?_
               simp only [Act.put, Xa, Xz, Xs]
               refine wl_val (.int .i64 (xa + ((R[j]!).2.2))) rfl (fun w => run_arith (op := .add) rfl rfl rfl Try.underlying2 (congrArg some (i64_in (by omega) (by omega))) w) ?_
               simp only [Act.put, Xa, Xz, Xs]
               refine wl_val (.int .i64 (xa + ((R[j]!).2.2))) rfl (fun _ => rfl) ?_
               simp only [Act.put, Xa, Xz, Xs]
               refine wl_nil ?_
               refine we_then ?_
               refine wc_seq ?_
               refine wc_region ?_
               refine wl_load 38 (.tmp 22) (own_row 1 rfl) rfl rfl rfl Try.underlying38 rfl (by kernel_rfl) ?_
               simp only [Act.put, Xa, Xz, Xs]
               refine wl_load 27 (.tmp 8) (own_row 4 rfl) rfl rfl rfl Try.underlying27 rfl (by kernel_rfl) ?_
               simp only [Act.put, Xa, Xz, Xs]
               refine wl_val (.pointer (some ⟨g46, 0, none⟩)) rfl (fun _ => by go_simp) ?_
               simp only [Act.put, Xa, Xz, Xs]
               refine wl_part 32 (.tmp 170) [.int .i64 ((R[j]!).1), .int .i64 ((R[j]!).2.1)] (own_row 0 rfl) rfl rfl rfl rfl Try.underlying32 rfl (by kernel_rfl) ?_
               simp only [Act.put, Xa, Xz, Xs]
               refine wl_call_open (ι := Mv) (fun zz => match zz with | zk51 => ⟨g46, #[.int .i64 ((R[j]!).1), .int .i64 ((R[j]!).2.1), .int .i64 ((R[j]!).2.2)], 71⟩ :: ⟨g43, #[.bool Pm.on, .int .i64 Pm.gi, .int .i64 Pm.lo, .int .i64 Pm.hi, .int .i64 Pm.est, .int .i64 Pm.F, .slice Pm.p Pm.X.length Pm.c], 38⟩ :: ⟨g9, #[.int .i64 ((H[gi.toNat]!).id), .int .i64 ((H[gi.toNat]!).seg), .int .i64 ((H[gi.toNat]!).off), .int .i64 ((H[gi.toNat]!).acc), .int .i64 ((H[gi.toNat]!).slack)], 62⟩ :: ⟨g3, #[.int .i64 lo, .int .i64 hi], 32⟩ :: ⟨g2, #[.slice p G.length c, .slice q H.length d], 27⟩ :: ⟨g1, #[.int .i64 k.pu, .int .i64 k.lo, .int .i64 k.hi, .int .i64 k.rb, .int .i64 k.rp, .int .i64 k.ae, .int .i64 k.ms, .int .i64 k.ma, .int .i64 k.an, .int .i64 k.st, .int .i64 k.ss, .int .i64 k.ro, .int .i64 k.ti, .int .i64 k.br], 23⟩ :: (pw.rows 3 ++ (Nn ++ zk51.N))) 13 #[.agg #[.bool Pm.on, .int .i64 Pm.gi, .int .i64 Pm.lo, .int .i64 Pm.hi, .int .i64 Pm.est, .int .i64 Pm.F, .slice Pm.p Pm.X.length Pm.c], .agg #[.slice p G.length c, .slice q H.length d], .agg #[.int .i64 ((R[j]!).1), .int .i64 ((R[j]!).2.1)]] (fun zz => match zz with | zk51 => .tuple #[.agg #[.bool zk51.on, .int .i64 zk51.gi, .int .i64 zk51.lo, .int .i64 zk51.hi, .int .i64 zk51.est, .int .i64 zk51.F, .slice zk51.p zk51.X.length zk51.c], .int .i64 (zk51.e : Int)]) (fun zz => match zz with | zk51 => zk51.N) (fun zz => match zz with | zk51 => MvOk G Pm.gi (H[gi.toNat]!).off (Pm.lo + ((R[j]!).1)) (Pm.hi + ((R[j]!).2.1)) (Pm.est + (((R[j]!).1) + ((R[j]!).2.1)) / 2) Pm.X zk51) (by rintro zk51; simp) rfl (fun _ => by go_simp) (fun W hE => Pla.move_any ((R[j]!).1) ((R[j]!).2.1) Pm G H _ _ _ _ (H[gi.toNat]!).seg (H[gi.toNat]!).off W ((sl_old hS) W hE) (oks_below hG hE.below) ((sl_old hH) W hE) hM c2 ((sl_held c3 (List.Sublist.cons _ (List.Sublist.cons _ (List.Sublist.cons _ (List.Sublist.cons _ (List.Sublist.cons _ (List.Sublist.cons _ (List.sublist_append_of_sublist_right (List.Sublist.refl _))))))))) W hE) ⟨by omega, by omega, by omega⟩ hC) ?_
               rintro zk51 k51
               (try dsimp only)
               have mn : zk51.e ≠ 0 → zk51.e = 20 ∨ zk51.e = 13 ∨ zk51.e = 40 := fun h => (mv_none hM.segs c2.set.wf k51.is h).2
               have is0 : zk51.e = 0 → mvS G (H[gi.toNat]!).off Pm.X (Pm.lo + (R[j]!).1) (Pm.hi + (R[j]!).2.1) = (0, zk51.X) := fun h => by have x := k51.is; rwa [h] at x
               have okz : zk51.e = 0 → SetOk G (H[gi.toNat]!).seg (H[gi.toNat]!).off zk51.X := fun h => mv_ok hM.segs c2.set (is0 h)
               have fz : zk51.e = 0 → zk51.F = (H[gi.toNat]!).off := fun h => (k51.yes h).2.2.2.2.2
               have lz : zk51.e = 0 → zk51.lo = Pm.lo + (R[j]!).1 ∧ zk51.hi = Pm.hi + (R[j]!).2.1 := fun h => ⟨(k51.yes h).2.2.1, (k51.yes h).2.2.2.1⟩
               simp only [Act.put, Xa, Xz, Xs]
               refine wl_val (.tuple #[.agg #[.bool zk51.on, .int .i64 zk51.gi, .int .i64 zk51.lo, .int .i64 zk51.hi, .int .i64 zk51.est, .int .i64 zk51.F, .slice zk51.p zk51.X.length zk51.c], .int .i64 (zk51.e : Int)]) rfl (fun _ => rfl) ?_
               simp only [Act.put, Xa, Xz, Xs]
               refine wl_val (.agg #[.bool zk51.on, .int .i64 zk51.gi, .int .i64 zk51.lo, .int .i64 zk51.hi, .int .i64 zk51.est, .int .i64 zk51.F, .slice zk51.p zk51.X.length zk51.c]) rfl (fun _ => by go_simp) ?_
               simp only [Act.put, Xa, Xz, Xs]
               refine wl_val (.int .i64 (zk51.e : Int)) rfl (fun _ => by go_simp) ?_
               simp only [Act.put, Xa, Xz, Xs]
               refine wl_new 38 (#[.bool false, .int .i64 0, .int .i64 0, .int .i64 0, .int .i64 0, .int .i64 0, .slice none 0 0]) rfl (fun _ => by go_simp) ?_
               intro g52
               simp only [Act.put, Xa, Xz, Xs]
               refine wl_store 0 38 (.tmp 25) (.tmp 173) (#[.bool zk51.on, .int .i64 zk51.gi, .int .i64 zk51.lo, .int .i64 zk51.hi, .int .i64 zk51.est, .int .i64 zk51.F, .slice zk51.p zk51.X.length zk51.c]) rfl rfl rfl rfl rfl (by kernel_rfl) rfl (by simp [Value.oneCell']) ?_
               simp only [Act.put, List.set_cons_zero]
               refine wl_val (.int .i64 (zk51.e : Int)) rfl (fun _ => rfl) ?_
               simp only [Act.put, Xa, Xz, Xs]
               refine wl_nil ?_
               refine we_then ?_
               refine wc_seq ?_
               refine wc_seq ?_
               refine wc_region ?_
               refine wl_val (.int .i64 (zk51.e : Int)) rfl (fun _ => rfl) ?_
               simp only [Act.put, Xa, Xz, Xs]
               refine wl_val (.bool ((zk51.e : Int) == 13)) rfl (fun w => run_cmp rfl rfl rfl Try.underlying53 rfl w) ?_
               simp only [Act.put, Xa, Xz, Xs]
               refine wl_val (.bool ((zk51.e : Int) == 13)) rfl (fun _ => rfl) ?_
               simp only [Act.put, Xa, Xz, Xs]
               cases h53 : ((zk51.e : Int) == 13)
               ·
                skip
                have p53 : ¬ ((zk51.e : Int) = 13) := by first | (simp; done) | (simp at h53; done) | simpa using h53
                refine wl_val (.int .i64 (zk51.e : Int)) rfl (fun _ => rfl) ?_
                simp only [Act.put, Xa, Xz, Xs]
                refine wl_val (.bool ((zk51.e : Int) == 20)) rfl (fun w => run_cmp rfl rfl rfl Try.underlying53 rfl w) ?_
                simp only [Act.put, Xa, Xz, Xs]
                refine wl_val (.bool ((zk51.e : Int) == 20)) rfl (fun _ => rfl) ?_
                simp only [Act.put, Xa, Xz, Xs]
                refine wl_val (.bool ((zk51.e : Int) == 20)) rfl (fun _ => rfl) ?_
                simp only [Act.put, Xa, Xz, Xs]
                cases h54 : ((zk51.e : Int) == 20)
                ·
                 skip
                 have p54 : ¬ ((zk51.e : Int) = 20) := by first | (simp; done) | (simp at h54; done) | simpa using h54
                 refine wl_val (.int .i64 (xa + ((R[j]!).2.2))) rfl (fun _ => rfl) ?_
                 simp only [Act.put, Xa, Xz, Xs]
                 refine wl_val (.int .i64 (endR G (H[gi.toNat]!).off Pl)) rfl (fun _ => rfl) ?_
                 simp only [Act.put, Xa, Xz, Xs]
                 refine wl_val (.bool (decide ((endR G (H[gi.toNat]!).off Pl) < xa + ((R[j]!).2.2)))) rfl (fun w => run_cmp rfl rfl rfl Try.underlying2 rfl w) ?_
                 simp only [Act.put, Xa, Xz, Xs]
                 refine wl_val (.bool (decide ((endR G (H[gi.toNat]!).off Pl) < xa + ((R[j]!).2.2)))) rfl (fun _ => rfl) ?_
                 simp only [Act.put, Xa, Xz, Xs]
                 refine wl_val (.bool (decide ((endR G (H[gi.toNat]!).off Pl) < xa + ((R[j]!).2.2)))) rfl (fun _ => rfl) ?_
                 simp only [Act.put, Xa, Xz, Xs]
                 cases h55 : (decide ((endR G (H[gi.toNat]!).off Pl) < xa + ((R[j]!).2.2)))
                 ·
                  skip
                  have p55 : ¬ ((endR G (H[gi.toNat]!).off Pl) < xa + ((R[j]!).2.2)) := of_decide_eq_false h55
                  refine wl_val (.int .i64 (xa + ((R[j]!).2.2))) rfl (fun _ => rfl) ?_
                  simp only [Act.put, Xa, Xz, Xs]
                  refine wl_val (.pointer (some ⟨g9, 2, none⟩)) rfl (fun _ => by go_simp) ?_
                  simp only [Act.put, Xa, Xz, Xs]
                  refine wl_cell 2 (.tmp 188) (.int .i64 ((H[gi.toNat]!).off)) (own_row 3 rfl) rfl rfl rfl rfl Try.isAgg2 ?_
                  simp only [Act.put, Xa, Xz, Xs]
                  refine wl_val (.int .i64 (-(H[gi.toNat]!).off)) rfl (fun w => run_neg rfl rfl Try.underlying2 (i64_in (by omega) (by omega)) w) ?_
                  simp only [Act.put, Xa, Xz, Xs]
                  refine wl_val (.bool (decide (xa + ((R[j]!).2.2) < (-(H[gi.toNat]!).off)))) rfl (fun w => run_cmp rfl rfl rfl Try.underlying2 rfl w) ?_
                  simp only [Act.put, Xa, Xz, Xs]
                  refine wl_val (.bool (decide (xa + ((R[j]!).2.2) < (-(H[gi.toNat]!).off)))) rfl (fun _ => rfl) ?_
                  simp only [Act.put, Xa, Xz, Xs]
                  refine wl_nil ?_
                  refine we_then ?_
                  cases h56 : (decide (xa + ((R[j]!).2.2) < (-(H[gi.toNat]!).off)))
                  ·
                   skip
                   have p56 : ¬ (xa + ((R[j]!).2.2) < (-(H[gi.toNat]!).off)) := of_decide_eq_false h56
                   refine wc_false rfl ?_
                   refine wc_skip ?_
                   refine we_then ?_
                   refine wc_seq ?_
                   refine wc_seq ?_
                   have hasz : zk51.e = 0 → HasR zk51.X Pl := fun h => (mv_keep hM.segs c2.set b4 (by omega) c4 (by omega) (mv_low hM.segs c2.set (is0 h)) k51.is (by omega) (by omega)).2
                   have lost : zk51.e = 40 → Pm.lo + (R[j]!).1 < -(H[gi.toNat]!).off := fun h => mv_lost (b := Pm.hi + (R[j]!).2.1) hM.segs c2.set b4 (by omega) c4 (by omega) (by have x := k51.is; rwa [h] at x)
                   refine wc_region ?_
                   refine wl_val (.int .i64 (zk51.e : Int)) rfl (fun _ => rfl) ?_
                   simp only [Act.put, Xa, Xz, Xs]
                   refine wl_val (.bool ((zk51.e : Int) == 40)) rfl (fun w => run_cmp rfl rfl rfl Try.underlying53 rfl w) ?_
                   simp only [Act.put, Xa, Xz, Xs]
                   refine wl_nil ?_
                   refine we_then ?_
                   cases h57 : ((zk51.e : Int) == 40)
                   ·
                    skip
                    have p57 : ¬ ((zk51.e : Int) = 40) := by first | (simp; done) | (simp at h57; done) | simpa using h57
                    refine wc_false rfl ?_
                    refine wc_skip ?_
                    refine we_then ?_
                    refine wc_seq ?_
                    refine wc_seq ?_
                    refine wc_region ?_
                    refine wl_val (.int .i64 (zk51.e : Int)) rfl (fun _ => rfl) ?_
                    simp only [Act.put, Xa, Xz, Xs]
                    refine wl_val (.bool ((zk51.e : Int) != 0)) rfl (fun w => run_cmp rfl rfl rfl Try.underlying53 rfl w) ?_
                    simp only [Act.put, Xa, Xz, Xs]
                    refine wl_val (.bool ((zk51.e : Int) != 0)) rfl (fun _ => rfl) ?_
                    simp only [Act.put, Xa, Xz, Xs]
                    cases h58 : ((zk51.e : Int) != 0)
                    ·
                     skip
                     have p58 : ¬ ((zk51.e : Int) ≠ 0) := by first | (simp; done) | (simp at h58; done) | simpa using h58
                     refine wl_val (.pointer (some ⟨g52, 2, none⟩)) rfl (fun _ => by go_simp) ?_
                     simp only [Act.put, Xa, Xz, Xs]
                     refine wl_part 32 (.tmp 209) [.int .i64 zk51.lo, .int .i64 zk51.hi] (own_row 0 rfl) rfl rfl rfl rfl Try.underlying32 rfl (by kernel_rfl) ?_
                     simp only [Act.put, Xa, Xz, Xs]
                     refine wl_val (.int .i64 (xa + ((R[j]!).2.2))) rfl (fun _ => rfl) ?_
                     simp only [Act.put, Xa, Xz, Xs]
                     refine wl_call 16 #[.agg #[.int .i64 zk51.lo, .int .i64 zk51.hi], .int .i64 (xa + ((R[j]!).2.2))] (.bool (decide (zk51.lo ≤ (xa + ((R[j]!).2.2))) && decide ((xa + ((R[j]!).2.2)) ≤ zk51.hi))) rfl (fun _ => by go_simp) (fun W => Spo.has_any zk51.lo zk51.hi (xa + ((R[j]!).2.2)) W) ?_
                     simp only [Act.put, Xa, Xz, Xs]
                     refine wl_val (.bool (!((decide (zk51.lo ≤ (xa + ((R[j]!).2.2))) && decide ((xa + ((R[j]!).2.2)) ≤ zk51.hi))))) rfl (fun _ => by go_simp) ?_
                     simp only [Act.put, Xa, Xz, Xs]
                     refine wl_val (.bool (!((decide (zk51.lo ≤ (xa + ((R[j]!).2.2))) && decide ((xa + ((R[j]!).2.2)) ≤ zk51.hi))))) rfl (fun _ => rfl) ?_
                     simp only [Act.put, Xa, Xz, Xs]
                     refine wl_val (.bool (!((decide (zk51.lo ≤ (xa + ((R[j]!).2.2))) && decide ((xa + ((R[j]!).2.2)) ≤ zk51.hi))))) rfl (fun _ => rfl) ?_
                     simp only [Act.put, Xa, Xz, Xs]
                     cases h59 : (decide (zk51.lo ≤ (xa + ((R[j]!).2.2))) && decide ((xa + ((R[j]!).2.2)) ≤ zk51.hi))
                     ·
                      skip
                      have p59 : ¬ ((zk51.lo ≤ (xa + ((R[j]!).2.2))) ∧ ((xa + ((R[j]!).2.2)) ≤ zk51.hi)) := by first | (simp; done) | (simp at h59; done) | simpa using h59
                      refine wl_skip rfl ?_
                      simp only [Act.put, Xa, Xz, Xs]
                      refine wl_skip rfl ?_
                      simp only [Act.put, Xa, Xz, Xs]
                      refine wl_skip rfl ?_
                      simp only [Act.put, Xa, Xz, Xs]
                      refine wl_skip rfl ?_
                      simp only [Act.put, Xa, Xz, Xs]
                      refine wl_skip rfl ?_
                      simp only [Act.put, Xa, Xz, Xs]
                      refine wl_val (.bool true) rfl (fun _ => rfl) ?_
                      simp only [Act.put, Xa, Xz, Xs]
                      refine wl_nil ?_
                      refine we_then ?_
                      refine wc_true rfl ?_
                      refine wc_seq ?_
                      refine wc_region ?_
                      refine wl_val (.bool false) rfl (fun _ => rfl) ?_
                      simp only [Act.put, Xa, Xz, Xs]
                      refine wl_nil ?_
                      refine we_then ?_
                      refine wc_ret ?_
                      refine we_then_ret ?_
                      refine we_in_ret ?_
                      refine we_then_ret ?_
                      refine we_then_ret ?_
                      refine we_in_ret ?_
                      refine we_then_ret ?_
                      refine we_ret1 (.bool false) rfl rfl rfl (fun w1 hE => ?_)
                      exact (by exfalso; omega)
                     ·
                      skip
                      have p59 : (zk51.lo ≤ (xa + ((R[j]!).2.2))) ∧ ((xa + ((R[j]!).2.2)) ≤ zk51.hi) := by first | (simp; done) | (simp at h59; done) | simpa using h59
                      refine wl_val (.pointer (some ⟨g52, 5, none⟩)) rfl (fun _ => by go_simp) ?_
                      simp only [Act.put, Xa, Xz, Xs]
                      refine wl_part 36 (.tmp 216) [.int .i64 zk51.F, .slice zk51.p zk51.X.length zk51.c] (own_row 0 rfl) rfl rfl rfl rfl Try.underlying36 rfl (by kernel_rfl) ?_
                      simp only [Act.put, Xa, Xz, Xs]
                      refine wl_val (.slice pw.ptr pn pw.cap) rfl (fun _ => rfl) ?_
                      simp only [Act.put, Xa, Xz, Xs]
                      refine wl_call_at 17 #[.agg #[.int .i64 zk51.F, .slice zk51.p zk51.X.length zk51.c], .slice pw.ptr pn pw.cap] (.bool true) rfl (fun _ => by go_simp) (fun W hE => has_true G (H[gi.toNat]!).seg (H[gi.toNat]!).off zk51.F zk51.X _ _ Pl pn _ _ W (fz (by omega)) (okz (by omega)) ((sl_held k51.held (List.Sublist.cons _ (List.Sublist.cons _ (List.Sublist.cons _ (List.Sublist.cons _ (List.Sublist.cons _ (List.Sublist.cons _ (List.Sublist.cons _ (List.sublist_append_of_sublist_right (List.sublist_append_of_sublist_right (List.Sublist.refl _))))))))))) W hE) b2 ((sl_own [⟨g52, #[.bool zk51.on, .int .i64 zk51.gi, .int .i64 zk51.lo, .int .i64 zk51.hi, .int .i64 zk51.est, .int .i64 zk51.F, .slice zk51.p zk51.X.length zk51.c], 38⟩, ⟨g46, #[.int .i64 ((R[j]!).1), .int .i64 ((R[j]!).2.1), .int .i64 ((R[j]!).2.2)], 71⟩, ⟨g43, #[.bool Pm.on, .int .i64 Pm.gi, .int .i64 Pm.lo, .int .i64 Pm.hi, .int .i64 Pm.est, .int .i64 Pm.F, .slice Pm.p Pm.X.length Pm.c], 38⟩, ⟨g9, #[.int .i64 ((H[gi.toNat]!).id), .int .i64 ((H[gi.toNat]!).seg), .int .i64 ((H[gi.toNat]!).off), .int .i64 ((H[gi.toNat]!).acc), .int .i64 ((H[gi.toNat]!).slack)], 62⟩, ⟨g3, #[.int .i64 lo, .int .i64 hi], 32⟩, ⟨g2, #[.slice p G.length c, .slice q H.length d], 27⟩, ⟨g1, #[.int .i64 k.pu, .int .i64 k.lo, .int .i64 k.hi, .int .i64 k.rb, .int .i64 k.rp, .int .i64 k.ae, .int .i64 k.ms, .int .i64 k.ma, .int .i64 k.an, .int .i64 k.st, .int .i64 k.ss, .int .i64 k.ro, .int .i64 k.ti, .int .i64 k.br], 23⟩] (Nn ++ zk51.N) b3 rfl) W hE) (hasz (by omega)) (by omega) (Roub.has_cap b3)) ?_
                      simp only [Act.put, Xa, Xz, Xs]
                      refine wl_val (.bool false) rfl (fun _ => by go_simp) ?_
                      simp only [Act.put, Xa, Xz, Xs]
                      refine wl_val (.bool false) rfl (fun _ => rfl) ?_
                      simp only [Act.put, Xa, Xz, Xs]
                      refine wl_nil ?_
                      refine we_then ?_
                      refine wc_false rfl ?_
                      refine wc_skip ?_
                      refine we_then ?_
                      refine wc_region ?_
                      refine wl_load 38 (.tmp 25) (own_row 0 rfl) rfl rfl rfl Try.underlying38 rfl (by kernel_rfl) ?_
                      simp only [Act.put, Xa, Xz, Xs]
                      refine wl_store 2 38 (.tmp 22) (.tmp 222) (#[.bool zk51.on, .int .i64 zk51.gi, .int .i64 zk51.lo, .int .i64 zk51.hi, .int .i64 zk51.est, .int .i64 zk51.F, .slice zk51.p zk51.X.length zk51.c]) rfl rfl rfl rfl rfl (by kernel_rfl) rfl (by simp [Value.oneCell']) ?_
                      simp only [Act.put, List.set_cons_zero, List.set_cons_succ]
                      refine wl_nil ?_
                      refine we_in ?_
                      refine we_then ?_
                      refine wc_region ?_
                      refine wl_val (.int .i64 ((j + 1 : Nat) : Int)) rfl (fun w => run_nat (X := j) (Y := 1) (Z := j + 1) rfl rfl rfl rfl (by omega) w) ?_
                      simp only [Act.put, Xa, Xz, Xs]
                      refine wl_val (.int .i64 ((j + 1 : Nat) : Int)) rfl (fun _ => rfl) ?_
                      simp only [Act.put, Xa, Xz, Xs]
                      refine wl_nil ?_
                      exact we_meet ⟨(j + 1), zk51, (xa + (R[j]!).2.2), zk51.N, _, _, _, _, _, _, _, _, _, _, _, _, _, _, _, _, _, _, _, _, _, _, _, _, _, _, _, _, _, _, _, _, _, _, _, _, _, _, _, _, _, _, _, _, _, _, _, _, _, _, _, _, _, _, _, _, _, _, _, _, _, _, _, _, _, _, _, _, _, _, _, _, _, _, _, _, _, _, _, _, _, _, _, _, _, _, _, _, _, _, _, _, _, _, _⟩ (by (try dsimp only); exact ⟨⟨by omega, pl_next hM.segs c2.set (by omega) k51 (by omega), k51.held, hasz (by omega), by omega, by omega⟩, by omega⟩) rfl (List.Sublist.cons _ (List.Sublist.cons _ (List.Sublist.cons_cons _ (List.Sublist.cons_cons _ (List.Sublist.cons_cons _ (List.Sublist.cons_cons _ (List.Sublist.cons_cons _ (List.Sublist.append_left (List.sublist_append_of_sublist_right (List.Sublist.refl _)) _))))))))
                    ·
                     skip
                     have p58 : (zk51.e : Int) ≠ 0 := by first | (simp; done) | (simp at h58; done) | simpa using h58
                     refine wl_skip rfl ?_
                     simp only [Act.put, Xa, Xz, Xs]
                     refine wl_skip rfl ?_
                     simp only [Act.put, Xa, Xz, Xs]
                     refine wl_skip rfl ?_
                     simp only [Act.put, Xa, Xz, Xs]
                     refine wl_skip rfl ?_
                     simp only [Act.put, Xa, Xz, Xs]
                     refine wl_skip rfl ?_
                     simp only [Act.put, Xa, Xz, Xs]
                     refine wl_val (.bool true) rfl (fun _ => rfl) ?_
                     simp only [Act.put, Xa, Xz, Xs]
                     refine wl_val (.bool true) rfl (fun _ => rfl) ?_
                     simp only [Act.put, Xa, Xz, Xs]
                     refine wl_skip rfl ?_
                     simp only [Act.put, Xa, Xz, Xs]
                     refine wl_skip rfl ?_
                     simp only [Act.put, Xa, Xz, Xs]
                     refine wl_skip rfl ?_
                     simp only [Act.put, Xa, Xz, Xs]
                     refine wl_skip rfl ?_
                     simp only [Act.put, Xa, Xz, Xs]
                     refine wl_skip rfl ?_
                     simp only [Act.put, Xa, Xz, Xs]
                     refine wl_val (.bool true) rfl (fun _ => rfl) ?_
                     simp only [Act.put, Xa, Xz, Xs]
                     refine wl_nil ?_
                     refine we_then ?_
                     refine wc_true rfl ?_
                     refine wc_seq ?_
                     refine wc_region ?_
                     refine wl_val (.bool false) rfl (fun _ => rfl) ?_
                     simp only [Act.put, Xa, Xz, Xs]
                     refine wl_nil ?_
                     refine we_then ?_
                     refine wc_ret ?_
                     refine we_then_ret ?_
                     refine we_in_ret ?_
                     refine we_then_ret ?_
                     refine we_then_ret ?_
                     refine we_in_ret ?_
                     refine we_then_ret ?_
                     refine we_ret1 (.bool false) rfl rfl rfl (fun w1 hE => ?_)
                     exact (by exfalso; omega)
                   ·
                    skip
                    have p57 : (zk51.e : Int) = 40 := by first | (simp; done) | (simp at h57; done) | simpa using h57
                    refine wc_true rfl ?_
                    refine wc_seq ?_
                    refine wc_region ?_
                    refine wl_val (.pointer (some ⟨g43, 2, none⟩)) rfl (fun _ => by go_simp) ?_
                    simp only [Act.put, Xa, Xz, Xs]
                    refine wl_val (.pointer (some ⟨g43, 2, none⟩)) rfl (fun _ => by go_simp) ?_
                    simp only [Act.put, Xa, Xz, Xs]
                    refine wl_cell 2 (.tmp 196) (.int .i64 Pm.lo) (own_row 2 rfl) rfl rfl rfl rfl Try.isAgg2 ?_
                    simp only [Act.put, Xa, Xz, Xs]
                    refine wl_val (.pointer (some ⟨g46, 0, none⟩)) rfl (fun _ => by go_simp) ?_
                    simp only [Act.put, Xa, Xz, Xs]
                    refine wl_val (.pointer (some ⟨g46, 0, none⟩)) rfl (fun _ => by go_simp) ?_
                    simp only [Act.put, Xa, Xz, Xs]
                    refine wl_cell 2 (.tmp 199) (.int .i64 ((R[j]!).1)) (own_row 1 rfl) rfl rfl rfl rfl Try.isAgg2 ?_
                    simp only [Act.put, Xa, Xz, Xs]
                    refine wl_val (.int .i64 (Pm.lo + ((R[j]!).1))) rfl (fun w => run_arith (op := .add) rfl rfl rfl Try.underlying2 (congrArg some (i64_in (by omega) (by omega))) w) ?_
                    simp only [Act.put, Xa, Xz, Xs]
                    refine wl_val (.pointer (some ⟨g9, 2, none⟩)) rfl (fun _ => by go_simp) ?_
                    simp only [Act.put, Xa, Xz, Xs]
                    refine wl_cell 2 (.tmp 202) (.int .i64 ((H[gi.toNat]!).off)) (own_row 3 rfl) rfl rfl rfl rfl Try.isAgg2 ?_
                    simp only [Act.put, Xa, Xz, Xs]
                    refine wl_val (.int .i64 (-(H[gi.toNat]!).off)) rfl (fun w => run_neg rfl rfl Try.underlying2 (i64_in (by omega) (by omega)) w) ?_
                    simp only [Act.put, Xa, Xz, Xs]
                    refine wl_val (.bool (decide (Pm.lo + ((R[j]!).1) < (-(H[gi.toNat]!).off)))) rfl (fun w => run_cmp rfl rfl rfl Try.underlying2 rfl w) ?_
                    simp only [Act.put, Xa, Xz, Xs]
                    refine wl_val (.bool (decide (Pm.lo + ((R[j]!).1) < (-(H[gi.toNat]!).off)))) rfl (fun _ => rfl) ?_
                    simp only [Act.put, Xa, Xz, Xs]
                    refine wl_nil ?_
                    refine we_then ?_
                    refine wc_ret ?_
                    refine we_then_ret ?_
                    refine we_in_ret ?_
                    refine we_then_ret ?_
                    refine we_then_ret ?_
                    refine we_in_ret ?_
                    refine we_then_ret ?_
                    refine we_ret1 (.bool (decide (Pm.lo + ((R[j]!).1) < (-(H[gi.toNat]!).off)))) rfl rfl rfl (fun w1 hE => ?_)
                    exact ⟨by rw [show (decide (Pm.lo + ((R[j]!).1) < (-(H[gi.toNat]!).off))) = true from decide_eq_true (by omega)], hE.below⟩
                  ·
                   skip
                   have p56 : xa + ((R[j]!).2.2) < (-(H[gi.toNat]!).off) := of_decide_eq_true h56
                   refine wc_true rfl ?_
                   refine wc_seq ?_
                   refine wc_region ?_
                   refine wl_val (.bool true) rfl (fun _ => rfl) ?_
                   simp only [Act.put, Xa, Xz, Xs]
                   refine wl_nil ?_
                   refine we_then ?_
                   refine wc_ret ?_
                   refine we_then_ret ?_
                   refine we_in_ret ?_
                   refine we_then_ret ?_
                   refine we_then_ret ?_
                   refine we_in_ret ?_
                   refine we_then_ret ?_
                   refine we_ret1 (.bool true) rfl rfl rfl (fun w1 hE => ?_)
                   exact ⟨rfl, hE.below⟩
                 ·
                  skip
                  have p55 : (endR G (H[gi.toNat]!).off Pl) < xa + ((R[j]!).2.2) := of_decide_eq_true h55
                  refine wl_skip rfl ?_
                  simp only [Act.put, Xa, Xz, Xs]
                  refine wl_skip rfl ?_
                  simp only [Act.put, Xa, Xz, Xs]
                  refine wl_skip rfl ?_
                  simp only [Act.put, Xa, Xz, Xs]
                  refine wl_skip rfl ?_
                  simp only [Act.put, Xa, Xz, Xs]
                  refine wl_skip rfl ?_
                  simp only [Act.put, Xa, Xz, Xs]
                  refine wl_val (.bool true) rfl (fun _ => rfl) ?_
                  simp only [Act.put, Xa, Xz, Xs]
                  refine wl_nil ?_
                  refine we_then ?_
                  refine wc_true rfl ?_
                  refine wc_seq ?_
                  refine wc_region ?_
                  refine wl_val (.bool true) rfl (fun _ => rfl) ?_
                  simp only [Act.put, Xa, Xz, Xs]
                  refine wl_nil ?_
                  refine we_then ?_
                  refine wc_ret ?_
                  refine we_then_ret ?_
                  refine we_in_ret ?_
                  refine we_then_ret ?_
                  refine we_then_ret ?_
                  refine we_in_ret ?_
                  refine we_then_ret ?_
                  refine we_ret1 (.bool true) rfl rfl rfl (fun w1 hE => ?_)
                  exact ⟨rfl, hE.below⟩
                ·
                 skip
                 have p54 : (zk51.e : Int) = 20 := by first | (simp; done) | (simp at h54; done) | simpa using h54
                 refine wl_skip rfl ?_
                 simp only [Act.put, Xa, Xz, Xs]
                 refine wl_skip rfl ?_
                 simp only [Act.put, Xa, Xz, Xs]
                 refine wl_skip rfl ?_
                 simp only [Act.put, Xa, Xz, Xs]
                 refine wl_val (.bool true) rfl (fun _ => rfl) ?_
                 simp only [Act.put, Xa, Xz, Xs]
                 refine wl_val (.bool true) rfl (fun _ => rfl) ?_
                 simp only [Act.put, Xa, Xz, Xs]
                 refine wl_skip rfl ?_
                 simp only [Act.put, Xa, Xz, Xs]
                 refine wl_skip rfl ?_
                 simp only [Act.put, Xa, Xz, Xs]
                 refine wl_skip rfl ?_
                 simp only [Act.put, Xa, Xz, Xs]
                 refine wl_skip rfl ?_
                 simp only [Act.put, Xa, Xz, Xs]
                 refine wl_skip rfl ?_
                 simp only [Act.put, Xa, Xz, Xs]
                 refine wl_val (.bool true) rfl (fun _ => rfl) ?_
                 simp only [Act.put, Xa, Xz, Xs]
                 refine wl_nil ?_
                 refine we_then ?_
                 refine wc_true rfl ?_
                 refine wc_seq ?_
                 refine wc_region ?_
                 refine wl_val (.bool true) rfl (fun _ => rfl) ?_
                 simp only [Act.put, Xa, Xz, Xs]
                 refine wl_nil ?_
                 refine we_then ?_
                 refine wc_ret ?_
                 refine we_then_ret ?_
                 refine we_in_ret ?_
                 refine we_then_ret ?_
                 refine we_then_ret ?_
                 refine we_in_ret ?_
                 refine we_then_ret ?_
                 refine we_ret1 (.bool true) rfl rfl rfl (fun w1 hE => ?_)
                 exact ⟨rfl, hE.below⟩
               ·
                skip
                have p53 : (zk51.e : Int) = 13 := by first | (simp; done) | (simp at h53; done) | simpa using h53
                refine wl_skip rfl ?_
                simp only [Act.put, Xa, Xz, Xs]
                refine wl_skip rfl ?_
                simp only [Act.put, Xa, Xz, Xs]
                refine wl_val (.bool true) rfl (fun _ => rfl) ?_
                simp only [Act.put, Xa, Xz, Xs]
                refine wl_val (.bool true) rfl (fun _ => rfl) ?_
                simp only [Act.put, Xa, Xz, Xs]
                refine wl_skip rfl ?_
                simp only [Act.put, Xa, Xz, Xs]
                refine wl_skip rfl ?_
                simp only [Act.put, Xa, Xz, Xs]
                refine wl_skip rfl ?_
                simp only [Act.put, Xa, Xz, Xs]
                refine wl_val (.bool true) rfl (fun _ => rfl) ?_
                simp only [Act.put, Xa, Xz, Xs]
                refine wl_val (.bool true) rfl (fun _ => rfl) ?_
                simp only [Act.put, Xa, Xz, Xs]
                refine wl_skip rfl ?_
                simp only [Act.put, Xa, Xz, Xs]
                refine wl_skip rfl ?_
                simp only [Act.put, Xa, Xz, Xs]
                refine wl_skip rfl ?_
                simp only [Act.put, Xa, Xz, Xs]
                refine wl_skip rfl ?_
                simp only [Act.put, Xa, Xz, Xs]
                refine wl_skip rfl ?_
                simp only [Act.put, Xa, Xz, Xs]
                refine wl_val (.bool true) rfl (fun _ => rfl) ?_
                simp only [Act.put, Xa, Xz, Xs]
                refine wl_nil ?_
                refine we_then ?_
                refine wc_true rfl ?_
                refine wc_seq ?_
                refine wc_region ?_
                refine wl_val (.bool true) rfl (fun _ => rfl) ?_
                simp only [Act.put, Xa, Xz, Xs]
                refine wl_nil ?_
                refine we_then ?_
                refine wc_ret ?_
                refine we_then_ret ?_
                refine we_in_ret ?_
                refine we_then_ret ?_
                refine we_then_ret ?_
                refine we_in_ret ?_
                refine we_then_ret ?_
                refine we_ret1 (.bool true) rfl rfl rfl (fun w1 hE => ?_)
                exact ⟨rfl, hE.below⟩
             ·
              skip
              have p49 : 1099511627776 < (R[j]!).2.1 := of_decide_eq_true h49
              refine wl_skip rfl ?_
              simp only [Act.put, Xa, Xz, Xs]
              refine wl_skip rfl ?_
              simp only [Act.put, Xa, Xz, Xs]
              refine wl_skip rfl ?_
              simp only [Act.put, Xa, Xz, Xs]
              refine wl_skip rfl ?_
              simp only [Act.put, Xa, Xz, Xs]
              refine wl_skip rfl ?_
              simp only [Act.put, Xa, Xz, Xs]
              refine wl_skip rfl ?_
              simp only [Act.put, Xa, Xz, Xs]
              refine wl_val (.bool true) rfl (fun _ => rfl) ?_
              simp only [Act.put, Xa, Xz, Xs]
              refine wl_nil ?_
              refine we_then ?_
              refine wc_true rfl ?_
              refine wc_seq ?_
              refine wc_region ?_
              refine wl_val (.bool true) rfl (fun _ => rfl) ?_
              simp only [Act.put, Xa, Xz, Xs]
              refine wl_nil ?_
              refine we_then ?_
              refine wc_ret ?_
              refine we_then_ret ?_
              refine we_in_ret ?_
              refine we_then_ret ?_
              refine we_then_ret ?_
              refine we_in_ret ?_
              refine we_then_ret ?_
              refine we_ret1 (.bool true) rfl rfl rfl (fun w1 hE => ?_)
              exact ⟨rfl, hE.below⟩
            ·
             skip
             have p48 : (R[j]!).1 < -1099511627776 := of_decide_eq_true h48
             refine wl_skip rfl ?_
             simp only [Act.put, Xa, Xz, Xs]
             refine wl_skip rfl ?_
             simp only [Act.put, Xa, Xz, Xs]
             refine wl_skip rfl ?_
             simp only [Act.put, Xa, Xz, Xs]
             refine wl_skip rfl ?_
             simp only [Act.put, Xa, Xz, Xs]
             refine wl_val (.bool true) rfl (fun _ => rfl) ?_
             simp only [Act.put, Xa, Xz, Xs]
             refine wl_val (.bool true) rfl (fun _ => rfl) ?_
             simp only [Act.put, Xa, Xz, Xs]
             refine wl_skip rfl ?_
             simp only [Act.put, Xa, Xz, Xs]
             refine wl_skip rfl ?_
             simp only [Act.put, Xa, Xz, Xs]
             refine wl_skip rfl ?_
             simp only [Act.put, Xa, Xz, Xs]
             refine wl_skip rfl ?_
             simp only [Act.put, Xa, Xz, Xs]
             refine wl_skip rfl ?_
             simp only [Act.put, Xa, Xz, Xs]
             refine wl_skip rfl ?_
             simp only [Act.put, Xa, Xz, Xs]
             refine wl_val (.bool true) rfl (fun _ => rfl) ?_
             simp only [Act.put, Xa, Xz, Xs]
             refine wl_nil ?_
             refine we_then ?_
             refine wc_true rfl ?_
             refine wc_seq ?_
             refine wc_region ?_
             refine wl_val (.bool true) rfl (fun _ => rfl) ?_
             simp only [Act.put, Xa, Xz, Xs]
             refine wl_nil ?_
             refine we_then ?_
             refine wc_ret ?_
             refine we_then_ret ?_
             refine we_in_ret ?_
             refine we_then_ret ?_
             refine we_then_ret ?_
             refine we_in_ret ?_
             refine we_then_ret ?_
             refine we_ret1 (.bool true) rfl rfl rfl (fun w1 hE => ?_)
             exact ⟨rfl, hE.below⟩
           ·
            skip
            have p47 : (R[j]!).2.1 < (R[j]!).1 := of_decide_eq_true h47
            refine wl_skip rfl ?_
            simp only [Act.put, Xa, Xz, Xs]
            refine wl_skip rfl ?_
            simp only [Act.put, Xa, Xz, Xs]
            refine wl_skip rfl ?_
            simp only [Act.put, Xa, Xz, Xs]
            refine wl_skip rfl ?_
            simp only [Act.put, Xa, Xz, Xs]
            refine wl_val (.bool true) rfl (fun _ => rfl) ?_
            simp only [Act.put, Xa, Xz, Xs]
            refine wl_val (.bool true) rfl (fun _ => rfl) ?_
            simp only [Act.put, Xa, Xz, Xs]
            refine wl_skip rfl ?_
            simp only [Act.put, Xa, Xz, Xs]
            refine wl_skip rfl ?_
            simp only [Act.put, Xa, Xz, Xs]
            refine wl_skip rfl ?_
            simp only [Act.put, Xa, Xz, Xs]
            refine wl_skip rfl ?_
            simp only [Act.put, Xa, Xz, Xs]
            refine wl_val (.bool true) rfl (fun _ => rfl) ?_
            simp only [Act.put, Xa, Xz, Xs]
            refine wl_val (.bool true) rfl (fun _ => rfl) ?_
            simp only [Act.put, Xa, Xz, Xs]
            refine wl_skip rfl ?_
            simp only [Act.put, Xa, Xz, Xs]
            refine wl_skip rfl ?_
            simp only [Act.put, Xa, Xz, Xs]
            refine wl_skip rfl ?_
            simp only [Act.put, Xa, Xz, Xs]
            refine wl_skip rfl ?_
            simp only [Act.put, Xa, Xz, Xs]
            refine wl_skip rfl ?_
            simp only [Act.put, Xa, Xz, Xs]
            refine wl_skip rfl ?_
            simp only [Act.put, Xa, Xz, Xs]
            refine wl_val (.bool true) rfl (fun _ => rfl) ?_
            simp only [Act.put, Xa, Xz, Xs]
            refine wl_nil ?_
            refine we_then ?_
            refine wc_true rfl ?_
            refine wc_seq ?_
            refine wc_region ?_
            refine wl_val (.bool true) rfl (fun _ => rfl) ?_
            simp only [Act.put, Xa, Xz, Xs]
            refine wl_nil ?_
            refine we_then ?_
            refine wc_ret ?_
            refine we_then_ret ?_
            refine we_in_ret ?_
            refine we_then_ret ?_
            refine we_then_ret ?_
            refine we_in_ret ?_
            refine we_then_ret ?_
            refine we_ret1 (.bool true) rfl rfl rfl (fun w1 hE => ?_)
            exact ⟨rfl, hE.below⟩
   ·
    skip
    have p6 : 11 < (B.length : Int) := of_decide_eq_true h6
    refine wl_skip rfl ?_
    simp only [Act.put, Xa, Xz, Xs]
    refine wl_skip rfl ?_
    simp only [Act.put, Xa, Xz, Xs]
    refine wl_skip rfl ?_
    simp only [Act.put, Xa, Xz, Xs]
    refine wl_val (.bool true) rfl (fun _ => rfl) ?_
    simp only [Act.put, Xa, Xz, Xs]
    refine wl_val (.bool true) rfl (fun _ => rfl) ?_
    simp only [Act.put, Xa, Xz, Xs]
    refine wl_skip rfl ?_
    simp only [Act.put, Xa, Xz, Xs]
    refine wl_skip rfl ?_
    simp only [Act.put, Xa, Xz, Xs]
    refine wl_skip rfl ?_
    simp only [Act.put, Xa, Xz, Xs]
    refine wl_skip rfl ?_
    simp only [Act.put, Xa, Xz, Xs]
    refine wl_skip rfl ?_
    simp only [Act.put, Xa, Xz, Xs]
    refine wl_skip rfl ?_
    simp only [Act.put, Xa, Xz, Xs]
    refine wl_skip rfl ?_
    simp only [Act.put, Xa, Xz, Xs]
    refine wl_skip rfl ?_
    simp only [Act.put, Xa, Xz, Xs]
    refine wl_skip rfl ?_
    simp only [Act.put, Xa, Xz, Xs]
    refine wl_val (.bool true) rfl (fun _ => rfl) ?_
    simp only [Act.put, Xa, Xz, Xs]
    refine wl_nil ?_
    refine we_then ?_
    refine wc_true rfl ?_
    refine wc_seq ?_
    refine wc_region ?_
    refine wl_val (.bool true) rfl (fun _ => rfl) ?_
    simp only [Act.put, Xa, Xz, Xs]
    refine wl_nil ?_
    refine we_then ?_
    refine wc_ret ?_
    refine we_then_ret ?_
    refine we_ret1 (.bool true) rfl rfl rfl (fun w1 hE => ?_)
    exact ⟨rfl, hE.below⟩
  ·
   skip
   have p5 : 30 < (R.length : Int) := of_decide_eq_true h5
   refine wl_skip rfl ?_
   simp only [Act.put, Xa, Xz, Xs]
   refine wl_skip rfl ?_
   simp only [Act.put, Xa, Xz, Xs]
   refine wl_skip rfl ?_
   simp only [Act.put, Xa, Xz, Xs]
   refine wl_val (.bool true) rfl (fun _ => rfl) ?_
   simp only [Act.put, Xa, Xz, Xs]
   refine wl_val (.bool true) rfl (fun _ => rfl) ?_
   simp only [Act.put, Xa, Xz, Xs]
   refine wl_skip rfl ?_
   simp only [Act.put, Xa, Xz, Xs]
   refine wl_skip rfl ?_
   simp only [Act.put, Xa, Xz, Xs]
   refine wl_skip rfl ?_
   simp only [Act.put, Xa, Xz, Xs]
   refine wl_val (.bool true) rfl (fun _ => rfl) ?_
   simp only [Act.put, Xa, Xz, Xs]
   refine wl_val (.bool true) rfl (fun _ => rfl) ?_
   simp only [Act.put, Xa, Xz, Xs]
   refine wl_skip rfl ?_
   simp only [Act.put, Xa, Xz, Xs]
   refine wl_skip rfl ?_
   simp only [Act.put, Xa, Xz, Xs]
   refine wl_skip rfl ?_
   simp only [Act.put, Xa, Xz, Xs]
   refine wl_skip rfl ?_
   simp only [Act.put, Xa, Xz, Xs]
   refine wl_skip rfl ?_
   simp only [Act.put, Xa, Xz, Xs]
   refine wl_skip rfl ?_
   simp only [Act.put, Xa, Xz, Xs]
   refine wl_skip rfl ?_
   simp only [Act.put, Xa, Xz, Xs]
   refine wl_skip rfl ?_
   simp only [Act.put, Xa, Xz, Xs]
   refine wl_skip rfl ?_
   simp only [Act.put, Xa, Xz, Xs]
   refine wl_val (.bool true) rfl (fun _ => rfl) ?_
   simp only [Act.put, Xa, Xz, Xs]
   refine wl_nil ?_
   refine we_then ?_
   refine wc_true rfl ?_
   refine wc_seq ?_
   refine wc_region ?_
   refine wl_val (.bool true) rfl (fun _ => rfl) ?_
   simp only [Act.put, Xa, Xz, Xs]
   refine wl_nil ?_
   refine we_then ?_
   refine wc_ret ?_
   refine we_then_ret ?_
   refine we_ret1 (.bool true) rfl rfl rfl (fun w1 hE => ?_)
   exact ⟨rfl, hE.below⟩
end Go.Proofs.Ytbacchdkankioaa.Walks
