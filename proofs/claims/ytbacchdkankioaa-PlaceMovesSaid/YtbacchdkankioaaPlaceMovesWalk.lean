/-
 PlaceMoves: the law's walk. No condition.
-/
import Derived.Test.YtbacchdkankioaaPllw
import Derived.Test.YtbacchdkankioaaPlla
import Derived.Test.YtbacchdkankioaaPlref
import Derived.Test.YtbacchdkankioaaSpo
import Derived.Test.YtbacchdkankioaaPlld
import Derived.Test.YtbacchdkankioaaSz
import Derived.Test.YtbacchdkankioaaSmu
namespace Go.Proofs.Ytbacchdkankioaa.Walks
open Go.ChangeShapes Go.WideShapes Go.ChangeAt Go.RowKit
open Arr Steady Sx Sw Sl Sb Sc Si Sj Sk Sh Vs Gr Tk Tkh Tkl Rt Rtm Rtg Rtp Rtk Rts Rtsm Shh Sfn Cf Plm Pllw Plla Plref Rtla Rtlc Plld Sz Smu
set_option linter.unusedVariables false
set_option linter.unusedSimpArgs false
set_option maxRecDepth 100000

set_option maxHeartbeats 16000000 in
theorem placeMoves_walk (k : Cf) (G : List Sg) (H : List Gp) (p q : Option Addr) (c d : Nat) (gi : Int) (wgi : (Lit.int .i64 gi).wf = true) (L : Spans) (lp : Option Addr) (lc : Nat) (w : World) (hS : Reads w p (flat sg G)) (hG : OkS w G) (hH : Reads w q (flat gp H)) (hn : G.length ≤ 140737488355328) (hm : H.length ≤ 140737488355328) (hcc : G.length ≤ c) (hcd : H.length ≤ d) (hC : ∀ s ∈ G, s.X.length ≤ s.nc) (hL : Reads w lp (flat enc2 L)) (hF : FitL L) (hlc : L.length ≤ lc) (hln : L.length ≤ 140737488355328) :
  Calls Try.prog 3 #[.agg #[.int .i64 k.pu, .int .i64 k.lo, .int .i64 k.hi, .int .i64 k.rb, .int .i64 k.rp, .int .i64 k.ae, .int .i64 k.ms, .int .i64 k.ma, .int .i64 k.an, .int .i64 k.st, .int .i64 k.ss, .int .i64 k.ro, .int .i64 k.ti, .int .i64 k.br], .agg #[.slice p G.length c, .slice q H.length d], .int .i64 gi, .slice lp L.length lc] w fun e w' => e = .returned (.bool true) ∧ Below w.heap.size w w' := by
 refine calls_sx Try.func3 rfl ?_
 simp only [Try.ntmps3, List.size_toArray, List.length_cons, List.length_nil, Nat.reduceAdd, Nat.reduceSub, Array.replicate_succ, Array.replicate_zero, List.push_toArray, List.append_toArray, List.nil_append, List.cons_append]
 refine wc_seq ?_
 refine wc_region ?_
 refine wl_new 23 (#[.int .i64 k.pu, .int .i64 k.lo, .int .i64 k.hi, .int .i64 k.rb, .int .i64 k.rp, .int .i64 k.ae, .int .i64 k.ms, .int .i64 k.ma, .int .i64 k.an, .int .i64 k.st, .int .i64 k.ss, .int .i64 k.ro, .int .i64 k.ti, .int .i64 k.br]) rfl (fun _ => by go_simp) ?_
 intro g1
 simp only [Act.put, Xa, Xz, Xs]
 refine wl_new 27 (#[.slice p G.length c, .slice q H.length d]) rfl (fun _ => by go_simp) ?_
 intro g2
 simp only [Act.put, Xa, Xz, Xs]
 refine wl_val (.bool false) rfl (fun _ => rfl) ?_
 simp only [Act.put, Xa, Xz, Xs]
 refine wl_nil ?_
 refine we_then ?_
 refine wc_seq ?_
 refine wc_seq ?_
 refine wc_region ?_
 refine wl_call 5 #[] (.bool true) rfl (fun _ => by go_simp) (fun W => Pllw.anchor_any W) ?_
 simp only [Act.put, Xa, Xz, Xs]
 refine wl_val (.bool false) rfl (fun _ => by go_simp) ?_
 simp only [Act.put, Xa, Xz, Xs]
 refine wl_nil ?_
 refine we_then ?_
 refine wc_false rfl ?_
 refine wc_skip ?_
 refine we_then ?_
 refine wc_seq ?_
 refine wc_seq ?_
 refine wc_region ?_
 refine wl_load 23 (.tmp 4) (own_row 1 rfl) rfl rfl rfl Try.underlying23 rfl (by kernel_rfl) ?_
 simp only [Act.put, Xa, Xz, Xs]
 refine wl_load 27 (.tmp 5) (own_row 0 rfl) rfl rfl rfl Try.underlying27 rfl (by kernel_rfl) ?_
 simp only [Act.put, Xa, Xz, Xs]
 refine wl_val (.int .i64 gi) rfl (fun _ => rfl) ?_
 simp only [Act.put, Xa, Xz, Xs]
 refine wl_call_at 6 #[.agg #[.int .i64 k.pu, .int .i64 k.lo, .int .i64 k.hi, .int .i64 k.rb, .int .i64 k.rp, .int .i64 k.ae, .int .i64 k.ms, .int .i64 k.ma, .int .i64 k.an, .int .i64 k.st, .int .i64 k.ss, .int .i64 k.ro, .int .i64 k.ti, .int .i64 k.br], .agg #[.slice p G.length c, .slice q H.length d], .int .i64 gi] (.bool (mayP k G H gi)) rfl (fun _ => by go_simp) (fun W hE => may_any21 k gi G H _ _ _ _ W ((sl_old hS) W hE) (oks_below hG hE.below) ((sl_old hH) W hE) hn hm) ?_
 simp only [Act.put, Xa, Xz, Xs]
 refine wl_val (.bool (!(mayP k G H gi))) rfl (fun _ => by go_simp) ?_
 simp only [Act.put, Xa, Xz, Xs]
 refine wl_val (.bool (!(mayP k G H gi))) rfl (fun _ => rfl) ?_
 simp only [Act.put, Xa, Xz, Xs]
 cases h3 : (mayP k G H gi)
 ·
  skip
  refine wl_skip rfl ?_
  simp only [Act.put, Xa, Xz, Xs]
  refine wl_skip rfl ?_
  simp only [Act.put, Xa, Xz, Xs]
  refine wl_skip rfl ?_
  simp only [Act.put, Xa, Xz, Xs]
  refine wl_val (.bool true) rfl (fun _ => rfl) ?_
  simp only [Act.put, Xa, Xz, Xs]
  refine wl_val (.bool true) rfl (fun _ => rfl) ?_
  simp only [Act.put, Xa, Xz, Xs]
  refine wl_skip rfl ?_
  simp only [Act.put, Xa, Xz, Xs]
  refine wl_skip rfl ?_
  simp only [Act.put, Xa, Xz, Xs]
  refine wl_skip rfl ?_
  simp only [Act.put, Xa, Xz, Xs]
  refine wl_val (.bool true) rfl (fun _ => rfl) ?_
  simp only [Act.put, Xa, Xz, Xs]
  refine wl_nil ?_
  refine we_then ?_
  refine wc_true rfl ?_
  refine wc_seq ?_
  refine wc_region ?_
  refine wl_val (.bool true) rfl (fun _ => rfl) ?_
  simp only [Act.put, Xa, Xz, Xs]
  refine wl_nil ?_
  refine we_then ?_
  refine wc_ret ?_
  refine we_then_ret ?_
  refine we_ret1 (.bool true) rfl rfl rfl (fun w1 hE => ?_)
  exact ⟨rfl, hE.below⟩
 ·
  skip
  refine wl_val (.slice lp L.length lc) rfl (fun _ => rfl) ?_
  simp only [Act.put, Xa, Xz, Xs]
  refine wl_val (.int .i64 (L.length : Int)) rfl (fun w => er_len rfl rfl Try.underlying28 w) ?_
  simp only [Act.put, Xa, Xz, Xs]
  refine wl_val (.bool ((L.length : Int) == 0)) rfl (fun w => run_cmp rfl rfl rfl Try.underlying3 rfl w) ?_
  simp only [Act.put, Xa, Xz, Xs]
  refine wl_val (.bool ((L.length : Int) == 0)) rfl (fun _ => rfl) ?_
  simp only [Act.put, Xa, Xz, Xs]
  refine wl_val (.bool ((L.length : Int) == 0)) rfl (fun _ => rfl) ?_
  simp only [Act.put, Xa, Xz, Xs]
  cases h4 : ((L.length : Int) == 0)
  ·
   skip
   have p4 : ¬ ((L.length : Int) = 0) := by first | (simp; done) | (simp at h4; done) | simpa using h4
   refine wl_val (.slice lp L.length lc) rfl (fun _ => rfl) ?_
   simp only [Act.put, Xa, Xz, Xs]
   refine wl_val (.int .i64 (L.length : Int)) rfl (fun w => er_len rfl rfl Try.underlying28 w) ?_
   simp only [Act.put, Xa, Xz, Xs]
   refine wl_val (.bool (decide (30 < (L.length : Int)))) rfl (fun w => run_cmp rfl rfl rfl Try.underlying3 rfl w) ?_
   simp only [Act.put, Xa, Xz, Xs]
   refine wl_val (.bool (decide (30 < (L.length : Int)))) rfl (fun _ => rfl) ?_
   simp only [Act.put, Xa, Xz, Xs]
   refine wl_nil ?_
   refine we_then ?_
   cases h5 : (decide (30 < (L.length : Int)))
   ·
    skip
    have p5 : ¬ (30 < (L.length : Int)) := of_decide_eq_false h5
    refine wc_false rfl ?_
    refine wc_skip ?_
    refine we_then ?_
    refine wc_seq ?_
    refine wc_seq ?_
    have hmp := mayP_of h3
    have hk := ok_of hmp.1
    have hM := hmp.2.1
    have hgi := hmp.2.2
    have hsz := hM.sizes
    have k1 := hk.an1
    have k2 := hk.an2
    have k3 := hk.ms1
    have k4 := hk.ms2
    have gk := hM.grps gi.toNat (by omega)
    have q1 := gk.seg0
    have q2 := gk.segn
    have q3 := gk.off0
    have q4 := gk.offn
    have q5 := gk.acc0
    have q6 := gk.accn
    have q7 := (hM.segs (H[gi.toNat]!).seg.toNat (by omega)).high
    refine wc_draw [.late, .plain, .plain, .plain, .late, .late, .late, .plain, .plain, .late, .plain, .late, .late, .plain, .late, .plain, .late, .late] none [] 130 (by kernel_rfl) rfl (by kernel_rfl) (by kernel_rfl) ?_
    refine ws_late (.slice lp L.length lc) rfl rfl (fun _ => rfl) ?_
    simp only [Nat.reduceAdd, Act.put, Xa, Xz, Xs]
    refine ws_read (eaddr lp (0 * 2)) rfl rfl (er_index 0 2 (sl_old hL) rfl rfl rfl rfl (by omega) (flat_length (enc := enc2) (size := 2) (fun _ => rfl) _) (by decide) Try.underlying28 (by kernel_rfl)) ?_
    simp only [Nat.reduceAdd, Act.put, Xa, Xz, Xs]
    refine ws_read (.agg #[.int .i64 ((L[0]!).1), .int .i64 ((L[0]!).2)]) rfl rfl (er_part (0 * 2) [.int .i64 ((L[0]!).1), .int .i64 ((L[0]!).2)] (sl_old hL) rfl rfl (flat_part (enc := enc2) (fun _ => rfl) L 0 (by omega)) (Nat.zero_lt_succ _) Try.underlying32 rfl (by kernel_rfl)) ?_
    simp only [Nat.reduceAdd, Act.put, Xa, Xz, Xs]
    refine ws_call 7 #[.agg #[.int .i64 ((L[0]!).1), .int .i64 ((L[0]!).2)]] (.bool (decide (((L[0]!).1) ≤ ((L[0]!).2)))) rfl rfl (fun _ => by go_simp) (fun W => Spo.right_any ((L[0]!).1) ((L[0]!).2) W) ?_
    simp only [Nat.reduceAdd, Act.put, Xa, Xz, Xs]
    refine ws_late (.bool (!(decide (((L[0]!).1) ≤ ((L[0]!).2))))) rfl rfl (fun _ => by go_simp) ?_
    simp only [Nat.reduceAdd, Act.put, Xa, Xz, Xs]
    refine ws_late (.bool (!(decide (((L[0]!).1) ≤ ((L[0]!).2))))) rfl rfl (fun _ => rfl) ?_
    simp only [Nat.reduceAdd, Act.put, Xa, Xz, Xs]
    cases h6 : (decide (((L[0]!).1) ≤ ((L[0]!).2)))
    ·
     skip
     have p6 : ¬ (((L[0]!).1) ≤ ((L[0]!).2)) := of_decide_eq_false h6
     refine ws_skip_late rfl rfl ?_
     simp only [Nat.reduceAdd, Act.put, Xa, Xz, Xs]
     refine ws_skip rfl rfl ?_
     simp only [Nat.reduceAdd, Act.put, Xa, Xz, Xs]
     refine ws_skip rfl rfl ?_
     simp only [Nat.reduceAdd, Act.put, Xa, Xz, Xs]
     refine ws_skip_late rfl rfl ?_
     simp only [Nat.reduceAdd, Act.put, Xa, Xz, Xs]
     refine ws_skip rfl rfl ?_
     simp only [Nat.reduceAdd, Act.put, Xa, Xz, Xs]
     refine ws_skip_late rfl rfl ?_
     simp only [Nat.reduceAdd, Act.put, Xa, Xz, Xs]
     refine ws_skip_late rfl rfl ?_
     simp only [Nat.reduceAdd, Act.put, Xa, Xz, Xs]
     refine ws_skip rfl rfl ?_
     simp only [Nat.reduceAdd, Act.put, Xa, Xz, Xs]
     refine ws_skip_late rfl rfl ?_
     simp only [Nat.reduceAdd, Act.put, Xa, Xz, Xs]
     refine ws_skip rfl rfl ?_
     simp only [Nat.reduceAdd, Act.put, Xa, Xz, Xs]
     refine ws_skip_late rfl rfl ?_
     simp only [Nat.reduceAdd, Act.put, Xa, Xz, Xs]
     refine ws_late (.bool true) rfl rfl (fun _ => rfl) ?_
     simp only [Nat.reduceAdd, Act.put, Xa, Xz, Xs]
     refine ws_nil [] trivial (by simp) ?_
     intro ps7
     simp only [fin, List.foldl_nil, List.map, List.nil_append]
     refine we_then ?_
     refine wc_true rfl ?_
     refine wc_seq ?_
     refine wc_region ?_
     refine wl_val (.bool true) rfl (fun _ => rfl) ?_
     simp only [Act.put, Xa, Xz, Xs]
     refine wl_nil ?_
     refine we_then ?_
     refine wc_ret ?_
     refine we_then_ret ?_
     refine we_ret1 (.bool true) rfl rfl rfl (fun w1 hE => ?_)
     exact ⟨rfl, hE.below⟩
    ·
     skip
     have p6 : ((L[0]!).1) ≤ ((L[0]!).2) := of_decide_eq_true h6
     refine ws_late (.slice lp L.length lc) rfl rfl (fun _ => rfl) ?_
     simp only [Nat.reduceAdd, Act.put, Xa, Xz, Xs]
     refine ws_read (eaddr lp (0 * 2)) rfl rfl (er_index 0 2 (sl_old hL) rfl rfl rfl rfl (by omega) (flat_length (enc := enc2) (size := 2) (fun _ => rfl) _) (by decide) Try.underlying28 (by kernel_rfl)) ?_
     simp only [Nat.reduceAdd, Act.put, Xa, Xz, Xs]
     refine ws_read (.agg #[.int .i64 ((L[0]!).1), .int .i64 ((L[0]!).2)]) rfl rfl (er_part (0 * 2) [.int .i64 ((L[0]!).1), .int .i64 ((L[0]!).2)] (sl_old hL) rfl rfl (flat_part (enc := enc2) (fun _ => rfl) L 0 (by omega)) (Nat.zero_lt_succ _) Try.underlying32 rfl (by kernel_rfl)) ?_
     simp only [Nat.reduceAdd, Act.put, Xa, Xz, Xs]
     refine ws_late (.pointer (some ⟨g1, 6, none⟩)) rfl rfl (fun _ => by go_simp) ?_
     simp only [Nat.reduceAdd, Act.put, Xa, Xz, Xs]
     refine ws_cell 2 (.tmp 43) (.int .i64 k.ms) (own_row 1 rfl) rfl rfl rfl rfl rfl Try.isAgg2 ?_
     simp only [Nat.reduceAdd, Act.put, Xa, Xz, Xs]
     refine ws_late (.int .i64 (-k.ms)) rfl rfl (fun w => run_neg rfl rfl Try.underlying2 (i64_in (by omega) (by omega)) w) ?_
     simp only [Nat.reduceAdd, Act.put, Xa, Xz, Xs]
     refine ws_late (.pointer (some ⟨g1, 6, none⟩)) rfl rfl (fun _ => by go_simp) ?_
     simp only [Nat.reduceAdd, Act.put, Xa, Xz, Xs]
     refine ws_cell 2 (.tmp 46) (.int .i64 k.ms) (own_row 1 rfl) rfl rfl rfl rfl rfl Try.isAgg2 ?_
     simp only [Nat.reduceAdd, Act.put, Xa, Xz, Xs]
     refine ws_late (.agg #[.int .i64 (-k.ms), .int .i64 k.ms]) rfl rfl (fun _ => by go_simp) ?_
     simp only [Nat.reduceAdd, Act.put, Xa, Xz, Xs]
     refine ws_call 8 #[.agg #[.int .i64 ((L[0]!).1), .int .i64 ((L[0]!).2)], .agg #[.int .i64 (-k.ms), .int .i64 k.ms]] (.bool (!decide (((L[0]!).1) ≤ ((L[0]!).2)) || decide ((-k.ms) ≤ ((L[0]!).1)) && decide (((L[0]!).2) ≤ k.ms))) rfl rfl (fun _ => by go_simp) (fun W => Spo.in_any ((L[0]!).1) ((L[0]!).2) (-k.ms) k.ms W) ?_
     simp only [Nat.reduceAdd, Act.put, Xa, Xz, Xs]
     refine ws_late (.bool (!((!decide (((L[0]!).1) ≤ ((L[0]!).2)) || decide ((-k.ms) ≤ ((L[0]!).1)) && decide (((L[0]!).2) ≤ k.ms))))) rfl rfl (fun _ => by go_simp) ?_
     simp only [Nat.reduceAdd, Act.put, Xa, Xz, Xs]
     refine ws_late (.bool (!((!decide (((L[0]!).1) ≤ ((L[0]!).2)) || decide ((-k.ms) ≤ ((L[0]!).1)) && decide (((L[0]!).2) ≤ k.ms))))) rfl rfl (fun _ => rfl) ?_
     simp only [Nat.reduceAdd, Act.put, Xa, Xz, Xs]
     refine ws_nil [] trivial (by simp) ?_
     intro ps8
     simp only [fin, List.foldl_nil, List.map, List.nil_append]
     refine we_then ?_
     cases h9 : (!decide (((L[0]!).1) ≤ ((L[0]!).2)) || decide ((-k.ms) ≤ ((L[0]!).1)) && decide (((L[0]!).2) ≤ k.ms))
     ·
      skip
      have p9 : ¬ ((¬ (((L[0]!).1) ≤ ((L[0]!).2))) ∨ (((-k.ms) ≤ ((L[0]!).1)) ∧ (((L[0]!).2) ≤ k.ms))) := by first | (simp; done) | (simp at h9; done) | simpa using h9
      refine wc_true rfl ?_
      refine wc_seq ?_
      refine wc_region ?_
      refine wl_val (.bool true) rfl (fun _ => rfl) ?_
      simp only [Act.put, Xa, Xz, Xs]
      refine wl_nil ?_
      refine we_then ?_
      refine wc_ret ?_
      refine we_then_ret ?_
      refine we_ret1 (.bool true) rfl rfl rfl (fun w1 hE => ?_)
      exact ⟨rfl, hE.below⟩
     ·
      skip
      have p9 : (¬ (((L[0]!).1) ≤ ((L[0]!).2))) ∨ (((-k.ms) ≤ ((L[0]!).1)) ∧ (((L[0]!).2) ≤ k.ms)) := by first | (simp; done) | (simp at h9; done) | simpa using h9
      refine wc_false rfl ?_
      refine wc_skip ?_
      refine we_then ?_
      refine wc_seq ?_
      refine wc_draw_fin (Γ := Pz × Nat) (fun γ9 j9 => [.agg #[.int .i64 k.pu, .int .i64 k.lo, .int .i64 k.hi, .int .i64 k.rb, .int .i64 k.rp, .int .i64 k.ae, .int .i64 k.ms, .int .i64 k.ma, .int .i64 k.an, .int .i64 k.st, .int .i64 k.ss, .int .i64 k.ro, .int .i64 k.ti, .int .i64 k.br], .agg #[.slice p G.length c, .slice q H.length d], .int .i64 gi, .slice lp L.length lc, eaddr lp (0 * 2), .agg #[.int .i64 ((L[0]!).1), .int .i64 ((L[0]!).2)], .agg #[.bool true, .int .i64 gi, .int .i64 (-((H[gi.toNat]!).acc + k.an) + min ((L[0]!).1) 0), .int .i64 ((H[gi.toNat]!).acc + k.an + max ((L[0]!).2) 0), .int .i64 ((min ((L[0]!).1) 0 + max ((L[0]!).2) 0) / 2), .int .i64 ((H[gi.toNat]!).off), .slice γ9.1.p 1 γ9.1.c], .pointer (some ⟨γ9.2, 0, none⟩), undef].getD j9 undef) (fun ld γ9 => ((if ld 7 = true then [⟨γ9.2, if ld 8 = true then #[.bool true, .int .i64 gi, .int .i64 (-((H[gi.toNat]!).acc + k.an) + min ((L[0]!).1) 0), .int .i64 ((H[gi.toNat]!).acc + k.an + max ((L[0]!).2) 0), .int .i64 ((min ((L[0]!).1) 0 + max ((L[0]!).2) 0) / 2), .int .i64 ((H[gi.toNat]!).off), .slice γ9.1.p 1 γ9.1.c] else #[.bool false, .int .i64 0, .int .i64 0, .int .i64 0, .int .i64 0, .int .i64 0, .slice none 0 0], 38⟩] else []) ++ ((if ld 6 = true then γ9.1.N else []) ++ [⟨g2, #[.slice p G.length c, .slice q H.length d], 27⟩, ⟨g1, #[.int .i64 k.pu, .int .i64 k.lo, .int .i64 k.hi, .int .i64 k.rb, .int .i64 k.rp, .int .i64 k.ae, .int .i64 k.ms, .int .i64 k.ma, .int .i64 k.an, .int .i64 k.st, .int .i64 k.ss, .int .i64 k.ro, .int .i64 k.ti, .int .i64 k.br], 23⟩]))) (fun ld γ9 => (ld 6 = true → Held γ9.1.N γ9.1.p (flat rt [[(H[gi.toNat]!).seg]])) ∧ True) ((⟨none, 0, []⟩, 0)) 130 (fun γ9 => ({ tmps := #[.agg #[.int .i64 k.pu, .int .i64 k.lo, .int .i64 k.hi, .int .i64 k.rb, .int .i64 k.rp, .int .i64 k.ae, .int .i64 k.ms, .int .i64 k.ma, .int .i64 k.an, .int .i64 k.st, .int .i64 k.ss, .int .i64 k.ro, .int .i64 k.ti, .int .i64 k.br], .agg #[.slice p G.length c, .slice q H.length d], .int .i64 gi, .slice lp L.length lc, .pointer (some ⟨g1, 0, none⟩), .pointer (some ⟨g2, 0, none⟩), undef, undef, .bool false, .pointer (some ⟨γ9.2, 0, none⟩), undef, undef, undef, undef, undef, undef, undef, .bool true, .bool false, .agg #[.int .i64 k.pu, .int .i64 k.lo, .int .i64 k.hi, .int .i64 k.rb, .int .i64 k.rp, .int .i64 k.ae, .int .i64 k.ms, .int .i64 k.ma, .int .i64 k.an, .int .i64 k.st, .int .i64 k.ss, .int .i64 k.ro, .int .i64 k.ti, .int .i64 k.br], .agg #[.slice p G.length c, .slice q H.length d], .int .i64 gi, .bool true, .bool false, .bool false, .slice lp L.length lc, .int .i64 (L.length : Int), .bool false, .bool false, .bool false, .slice lp L.length lc, .int .i64 (L.length : Int), .bool false, .bool false, .slice lp L.length lc, eaddr lp (0 * 2), .agg #[.int .i64 ((L[0]!).1), .int .i64 ((L[0]!).2)], .bool true, .bool false, .bool false, .slice lp L.length lc, eaddr lp (0 * 2), .agg #[.int .i64 ((L[0]!).1), .int .i64 ((L[0]!).2)], .pointer (some ⟨g1, 6, none⟩), .int .i64 k.ms, .int .i64 (-k.ms), .pointer (some ⟨g1, 6, none⟩), .int .i64 k.ms, .agg #[.int .i64 (-k.ms), .int .i64 k.ms], .bool true, .bool (!(true)), .bool (!(true)), .agg #[.int .i64 k.pu, .int .i64 k.lo, .int .i64 k.hi, .int .i64 k.rb, .int .i64 k.rp, .int .i64 k.ae, .int .i64 k.ms, .int .i64 k.ma, .int .i64 k.an, .int .i64 k.st, .int .i64 k.ss, .int .i64 k.ro, .int .i64 k.ti, .int .i64 k.br], .agg #[.slice p G.length c, .slice q H.length d], .int .i64 gi, .slice lp L.length lc, eaddr lp (0 * 2), .agg #[.int .i64 ((L[0]!).1), .int .i64 ((L[0]!).2)], .agg #[.bool true, .int .i64 gi, .int .i64 (-((H[gi.toNat]!).acc + k.an) + min ((L[0]!).1) 0), .int .i64 ((H[gi.toNat]!).acc + k.an + max ((L[0]!).2) 0), .int .i64 ((min ((L[0]!).1) 0 + max ((L[0]!).2) 0) / 2), .int .i64 ((H[gi.toNat]!).off), .slice γ9.1.p 1 γ9.1.c], undef, undef, undef, undef, undef, undef, undef, undef, undef, undef, undef, undef, undef, undef, undef, undef, undef, undef, undef, undef, undef, undef, undef, undef, undef, undef, undef, undef, undef, undef, undef, undef, undef, undef, undef, undef, undef, undef, undef, undef, undef, undef, undef, undef, undef, undef, undef, undef, undef, undef, undef, undef, undef, undef, undef, undef, undef, undef, undef, undef, undef, undef, undef, undef, undef, undef, undef, undef, undef, undef, undef], defers := [] } : Act)) (fun γ9 => ([⟨γ9.2, #[.bool true, .int .i64 gi, .int .i64 (-((H[gi.toNat]!).acc + k.an) + min ((L[0]!).1) 0), .int .i64 ((H[gi.toNat]!).acc + k.an + max ((L[0]!).2) 0), .int .i64 ((min ((L[0]!).1) 0 + max ((L[0]!).2) 0) / 2), .int .i64 ((H[gi.toNat]!).off), .slice γ9.1.p 1 γ9.1.c], 38⟩] ++ (γ9.1.N ++ [⟨g2, #[.slice p G.length c, .slice q H.length d], 27⟩, ⟨g1, #[.int .i64 k.pu, .int .i64 k.lo, .int .i64 k.hi, .int .i64 k.rb, .int .i64 k.rp, .int .i64 k.ae, .int .i64 k.ms, .int .i64 k.ma, .int .i64 k.an, .int .i64 k.st, .int .i64 k.ss, .int .i64 k.ro, .int .i64 k.ti, .int .i64 k.br], 23⟩]))) (by kernel_rfl) rfl (by kernel_rfl) rfl (by simp) (fun _ => by kernel_rfl) (fun _ => rfl) ?_ ?_
      ·
       skip
       refine sps_cons (sp_valg (fun γ9 => .agg #[.int .i64 k.pu, .int .i64 k.lo, .int .i64 k.hi, .int .i64 k.rb, .int .i64 k.rp, .int .i64 k.ae, .int .i64 k.ms, .int .i64 k.ma, .int .i64 k.an, .int .i64 k.st, .int .i64 k.ss, .int .i64 k.ro, .int .i64 k.ti, .int .i64 k.br]) rfl (fun _ => rfl) (fun _ _ h => h) (fun _ _ => rfl) (fun ld γ9 a9 w9 h9 hF9 hE9 => by obtain ⟨zk10, g11⟩ := γ9; exact load_row (hE9.row ⟨g1, #[.int .i64 k.pu, .int .i64 k.lo, .int .i64 k.hi, .int .i64 k.rb, .int .i64 k.rp, .int .i64 k.ae, .int .i64 k.ms, .int .i64 k.ma, .int .i64 k.an, .int .i64 k.st, .int .i64 k.ss, .int .i64 k.ro, .int .i64 k.ti, .int .i64 k.br], 23⟩ (List.mem_append_right _ (List.mem_append_right _ (mem_of_at (i := 1) rfl)))) rfl (h9.out (by kernel_rfl) rfl) Try.underlying23 rfl (by kernel_rfl))) ?_
       refine sps_cons (sp_valg (fun γ9 => .agg #[.slice p G.length c, .slice q H.length d]) rfl (fun _ => rfl) (fun _ _ h => h) (fun _ _ => rfl) (fun ld γ9 a9 w9 h9 hF9 hE9 => by obtain ⟨zk10, g11⟩ := γ9; exact load_row (hE9.row ⟨g2, #[.slice p G.length c, .slice q H.length d], 27⟩ (List.mem_append_right _ (List.mem_append_right _ (mem_of_at (i := 0) rfl)))) rfl (h9.out (by kernel_rfl) rfl) Try.underlying27 rfl (by kernel_rfl))) ?_
       refine sps_cons (sp_valg (fun γ9 => .int .i64 gi) rfl (fun _ => rfl) (fun _ _ h => h) (fun _ _ => rfl) (fun ld γ9 a9 w9 h9 hF9 hE9 => by obtain ⟨zk10, g11⟩ := γ9; exact run_moveg (by rfl) (h9.out (by kernel_rfl) rfl))) ?_
       refine sps_cons (sp_valg (fun γ9 => .slice lp L.length lc) rfl (fun _ => rfl) (fun _ _ h => h) (fun _ _ => rfl) (fun ld γ9 a9 w9 h9 hF9 hE9 => by obtain ⟨zk10, g11⟩ := γ9; exact run_moveg (by rfl) (h9.out (by kernel_rfl) rfl))) ?_
       refine sps_cons (sp_valg (fun γ9 => eaddr lp (0 * 2)) rfl (fun _ => rfl) (fun _ _ h => h) (fun _ _ => rfl) (fun ld γ9 a9 w9 h9 hF9 hE9 => by obtain ⟨zk10, g11⟩ := γ9; exact (er_index 0 2 (sl_old hL) rfl (h9.tmp 3 rfl (h9.dep (by kernel_rfl))) rfl rfl (by omega) (flat_length (enc := enc2) (size := 2) (fun _ => rfl) _) (by decide) Try.underlying28 (by kernel_rfl)) w9 hE9)) ?_
       refine sps_cons (sp_valg (fun γ9 => .agg #[.int .i64 ((L[0]!).1), .int .i64 ((L[0]!).2)]) rfl (fun _ => rfl) (fun _ _ h => h) (fun _ _ => rfl) (fun ld γ9 a9 w9 h9 hF9 hE9 => by obtain ⟨zk10, g11⟩ := γ9; exact (er_part (0 * 2) [.int .i64 ((L[0]!).1), .int .i64 ((L[0]!).2)] (sl_old hL) rfl (h9.tmp 4 rfl (h9.dep (by kernel_rfl))) (flat_part (enc := enc2) (fun _ => rfl) L 0 (by omega)) (Nat.zero_lt_succ _) Try.underlying32 rfl (by kernel_rfl)) w9 hE9)) ?_
       refine sps_cons (sp_open 9 (fun (zk10 : Pz) => .agg #[.bool true, .int .i64 gi, .int .i64 (-((H[gi.toNat]!).acc + k.an) + min ((L[0]!).1) 0), .int .i64 ((H[gi.toNat]!).acc + k.an + max ((L[0]!).2) 0), .int .i64 ((min ((L[0]!).1) 0 + max ((L[0]!).2) 0) / 2), .int .i64 ((H[gi.toNat]!).off), .slice zk10.p 1 zk10.c]) (fun (zk10 : Pz) => zk10.N) (fun (zk10 : Pz) => Held zk10.N zk10.p (flat rt [[(H[gi.toNat]!).seg]])) rfl (fun ld γ9 a9 w9 h9 hF9 hE9 => ?_)) ?_
       ·
        obtain ⟨yy, g11⟩ := γ9
        have dl6 : ld 6 = false := h9.off
        have dl8 : ld 8 = false := h9.non (by kernel_rfl)
        have hS9 := hE9
        dsimp only at hS9
        simp only [dl6, dl8, if_true, if_false, Bool.false_eq_true, List.nil_append] at hS9
        have hE0 : Env w w9 ([⟨g2, #[.slice p G.length c, .slice q H.length d], 27⟩, ⟨g1, #[.int .i64 k.pu, .int .i64 k.lo, .int .i64 k.hi, .int .i64 k.rb, .int .i64 k.rp, .int .i64 k.ae, .int .i64 k.ms, .int .i64 k.ma, .int .i64 k.an, .int .i64 k.st, .int .i64 k.ss, .int .i64 k.ro, .int .i64 k.ti, .int .i64 k.br], 23⟩]) := (hS9.sub (List.sublist_append_right _ _))
        have e0 : a9.eval (.tmp 52) = .agg #[.int .i64 k.pu, .int .i64 k.lo, .int .i64 k.hi, .int .i64 k.rb, .int .i64 k.rp, .int .i64 k.ae, .int .i64 k.ms, .int .i64 k.ma, .int .i64 k.an, .int .i64 k.st, .int .i64 k.ss, .int .i64 k.ro, .int .i64 k.ti, .int .i64 k.br] := (h9.tmp 0 rfl (h9.dep (by kernel_rfl)))
        have e1 : a9.eval (.tmp 53) = .agg #[.slice p G.length c, .slice q H.length d] := (h9.tmp 1 rfl (h9.dep (by kernel_rfl)))
        have e2 : a9.eval (.tmp 54) = .int .i64 gi := (h9.tmp 2 rfl (h9.dep (by kernel_rfl)))
        have e3 : a9.eval (.tmp 57) = .agg #[.int .i64 ((L[0]!).1), .int .i64 ((L[0]!).2)] := (h9.tmp 5 rfl (h9.dep (by kernel_rfl)))
        refine ⟨#[.agg #[.int .i64 k.pu, .int .i64 k.lo, .int .i64 k.hi, .int .i64 k.rb, .int .i64 k.rp, .int .i64 k.ae, .int .i64 k.ms, .int .i64 k.ma, .int .i64 k.an, .int .i64 k.st, .int .i64 k.ss, .int .i64 k.ro, .int .i64 k.ti, .int .i64 k.br], .agg #[.slice p G.length c, .slice q H.length d], .int .i64 gi, .agg #[.int .i64 ((L[0]!).1), .int .i64 ((L[0]!).2)]], er_callg (enters_of Try.func9 (by kernel_rfl) rfl) rfl (by simp only [List.map_toArray, List.map_cons, List.map_nil, e0, e1, e2, e3]) w9, (Pla.reset_any k gi ((L[0]!).1) ((L[0]!).2) G H _ _ _ _ w9 hk ((sl_old hS) w9 hE0) (oks_below hG hE0.below) ((sl_old hH) w9 hE0) hM hgi ⟨by omega, by omega, by omega⟩), fun zk10 k10 => ?_⟩
        refine ⟨(zk10, g11), rfl, ?_, ?_, ?_⟩
        ·
         intro k hk
         have hk2 : k < 9 := h9.within k hk
         have hb : k = 0 ∨ k = 1 ∨ k = 2 ∨ k = 3 ∨ k = 4 ∨ k = 5 ∨ k = 6 ∨ k = 7 ∨ k = 8 := by omega
         rcases hb with rfl | rfl | rfl | rfl | rfl | rfl | rfl | rfl | rfl
         ·
          rfl
         ·
          rfl
         ·
          rfl
         ·
          rfl
         ·
          rfl
         ·
          rfl
         ·
          rw [dl6] at hk; cases hk
         ·
          rfl
         ·
          rfl
        ·
         exact ⟨fun _ => k10, trivial⟩
        ·
         skip
         have od6 : Si.one ld 6 6 = true := rfl
         have od7 : Si.one ld 6 7 = ld 7 := rfl
         have od8 : Si.one ld 6 8 = ld 8 := rfl
         dsimp only
         simp only [od6, od7, od8, dl8, dl6, if_true, if_false, Bool.false_eq_true, List.nil_append]
         exact pin1 _ _ _
       refine sps_cons (sp_alloc (#[.bool false, .int .i64 0, .int .i64 0, .int .i64 0, .int .i64 0, .int .i64 0, .slice none 0 0]) 38 rfl (fun a9 w9 => by go_simp) (fun ld γ9 a9 n9 h9 hF9 => ?_)) ?_
       ·
        obtain ⟨zk10, yy⟩ := γ9
        have dl7 : ld 7 = false := h9.off
        have dl8 : ld 8 = false := h9.non (by kernel_rfl)
        refine ⟨(zk10, n9), rfl, ?_, hF9, ?_⟩
        ·
         intro k hk
         have hk2 : k < 9 := h9.within k hk
         have hb : k = 0 ∨ k = 1 ∨ k = 2 ∨ k = 3 ∨ k = 4 ∨ k = 5 ∨ k = 6 ∨ k = 7 ∨ k = 8 := by omega
         rcases hb with rfl | rfl | rfl | rfl | rfl | rfl | rfl | rfl | rfl
         ·
          rfl
         ·
          rfl
         ·
          rfl
         ·
          rfl
         ·
          rfl
         ·
          rfl
         ·
          rfl
         ·
          rw [dl7] at hk; cases hk
         ·
          rfl
        ·
         skip
         have od6 : Si.one ld 7 6 = ld 6 := rfl
         have od7 : Si.one ld 7 7 = true := rfl
         have od8 : Si.one ld 7 8 = ld 8 := rfl
         dsimp only
         simp only [od6, od7, od8, dl8, dl7, if_true, if_false, Bool.false_eq_true, List.nil_append]
         exact pin0 [_] _
       refine sps_cons (sp_put 38 (.tmp 9) (.tmp 58) rfl rfl (fun ld γ9 a9 h9 hF9 => ?_)) ?_
       ·
        obtain ⟨zk10, g11⟩ := γ9
        have dl8 : ld 8 = false := h9.off
        have dl7 : ld 7 = true := h9.dep (by kernel_rfl)
        have dl6 : ld 6 = true := h9.dep (by kernel_rfl)
        refine ⟨g11, #[.bool true, .int .i64 gi, .int .i64 (-((H[gi.toNat]!).acc + k.an) + min ((L[0]!).1) 0), .int .i64 ((H[gi.toNat]!).acc + k.an + max ((L[0]!).2) 0), .int .i64 ((min ((L[0]!).1) 0 + max ((L[0]!).2) 0) / 2), .int .i64 ((H[gi.toNat]!).off), .slice zk10.p 1 zk10.c], #[.bool false, .int .i64 0, .int .i64 0, .int .i64 0, .int .i64 0, .int .i64 0, .slice none 0 0], 38, ((if ld 6 = true then zk10.N else []) ++ [⟨g2, #[.slice p G.length c, .slice q H.length d], 27⟩, ⟨g1, #[.int .i64 k.pu, .int .i64 k.lo, .int .i64 k.hi, .int .i64 k.rb, .int .i64 k.rp, .int .i64 k.ae, .int .i64 k.ms, .int .i64 k.ma, .int .i64 k.an, .int .i64 k.st, .int .i64 k.ss, .int .i64 k.ro, .int .i64 k.ti, .int .i64 k.br], 23⟩]), (h9.tmp 7 rfl (h9.dep (by kernel_rfl))), (h9.tmp 6 rfl (h9.dep (by kernel_rfl))), (by kernel_rfl), rfl, (by simp [Value.oneCell']), ?_, rfl, hF9, ?_⟩
        ·
         dsimp only
         simp only [dl7, dl8, if_true, if_false, Bool.false_eq_true]
         exact (pin0 [_] _).symm
        ·
         skip
         have od6 : Si.one ld 8 6 = ld 6 := rfl
         have od7 : Si.one ld 8 7 = ld 7 := rfl
         have od8 : Si.one ld 8 8 = true := rfl
         dsimp only
         simp only [od6, od7, od8, dl6, dl7, dl8, if_true, if_false, Bool.false_eq_true, List.nil_append]
         exact pin0 [_] _
       exact sps_nil
      rintro ⟨zk10, g11⟩ ⟨k10, -⟩
      replace k10 := k10 (by decide)
      (try dsimp only at k10)
      (try dsimp only)
      refine we_perm (R' := ⟨g11, #[.bool true, .int .i64 gi, .int .i64 (-((H[gi.toNat]!).acc + k.an) + min ((L[0]!).1) 0), .int .i64 ((H[gi.toNat]!).acc + k.an + max ((L[0]!).2) 0), .int .i64 ((min ((L[0]!).1) 0 + max ((L[0]!).2) 0) / 2), .int .i64 ((H[gi.toNat]!).off), .slice zk10.p 1 zk10.c], 38⟩ :: ⟨g2, #[.slice p G.length c, .slice q H.length d], 27⟩ :: ⟨g1, #[.int .i64 k.pu, .int .i64 k.lo, .int .i64 k.hi, .int .i64 k.rb, .int .i64 k.rp, .int .i64 k.ae, .int .i64 k.ms, .int .i64 k.ma, .int .i64 k.an, .int .i64 k.st, .int .i64 k.ss, .int .i64 k.ro, .int .i64 k.ti, .int .i64 k.br], 23⟩ :: zk10.N) ((pf1 [⟨g11, #[.bool true, .int .i64 gi, .int .i64 (-((H[gi.toNat]!).acc + k.an) + min ((L[0]!).1) 0), .int .i64 ((H[gi.toNat]!).acc + k.an + max ((L[0]!).2) 0), .int .i64 ((min ((L[0]!).1) 0 + max ((L[0]!).2) 0) / 2), .int .i64 ((H[gi.toNat]!).off), .slice zk10.p 1 zk10.c], 38⟩] _ _).trans (List.Perm.of_eq (by first | rfl | simp only [List.append_assoc, List.cons_append, List.nil_append]))) ?_
      refine we_then ?_
      refine wc_seq ?_
      refine wc_draw_fin (Γ := Cp × Rz × Nat) (fun γ9 j9 => [.agg #[.int .i64 k.pu, .int .i64 k.lo, .int .i64 k.hi, .int .i64 k.rb, .int .i64 k.rp, .int .i64 k.ae, .int .i64 k.ms, .int .i64 k.ma, .int .i64 k.an, .int .i64 k.st, .int .i64 k.ss, .int .i64 k.ro, .int .i64 k.ti, .int .i64 k.br], .agg #[.slice p G.length c, .slice q H.length d], .agg #[.slice γ9.1.p γ9.1.K.length γ9.1.c, .slice γ9.1.q H.length γ9.1.d], .int .i64 gi, .slice lp L.length lc, eaddr lp (0 * 2), eaddr lp (0 * 2 + 0), .int .i64 ((L[0]!).1), .slice lp L.length lc, eaddr lp (0 * 2), eaddr lp (0 * 2 + 1), .int .i64 ((L[0]!).2), .agg #[.int .i64 1, .int .i64 gi, .int .i64 (-((H[gi.toNat]!).acc + k.an) + min ((L[0]!).1) 0), .int .i64 ((H[gi.toNat]!).acc + k.an + max ((L[0]!).2) 0), .int .i64 ((min ((L[0]!).1) 0 + max ((L[0]!).2) 0) / 2), .int .i64 ((H[gi.toNat]!).off), .slice γ9.2.1.p 1 γ9.2.1.c], .pointer (some ⟨γ9.2.2, 0, none⟩), undef].getD j9 undef) (fun ld γ9 => ((if ld 13 = true then [⟨γ9.2.2, if ld 14 = true then #[.int .i64 1, .int .i64 gi, .int .i64 (-((H[gi.toNat]!).acc + k.an) + min ((L[0]!).1) 0), .int .i64 ((H[gi.toNat]!).acc + k.an + max ((L[0]!).2) 0), .int .i64 ((min ((L[0]!).1) 0 + max ((L[0]!).2) 0) / 2), .int .i64 ((H[gi.toNat]!).off), .slice γ9.2.1.p 1 γ9.2.1.c] else #[.int .i64 0, .int .i64 0, .int .i64 0, .int .i64 0, .int .i64 0, .int .i64 0, .slice none 0 0], 44⟩] else []) ++ ((if ld 12 = true then γ9.2.1.N else []) ++ ((if ld 2 = true then γ9.1.N else []) ++ ⟨g11, #[.bool true, .int .i64 gi, .int .i64 (-((H[gi.toNat]!).acc + k.an) + min ((L[0]!).1) 0), .int .i64 ((H[gi.toNat]!).acc + k.an + max ((L[0]!).2) 0), .int .i64 ((min ((L[0]!).1) 0 + max ((L[0]!).2) 0) / 2), .int .i64 ((H[gi.toNat]!).off), .slice zk10.p 1 zk10.c], 38⟩ :: ⟨g2, #[.slice p G.length c, .slice q H.length d], 27⟩ :: ⟨g1, #[.int .i64 k.pu, .int .i64 k.lo, .int .i64 k.hi, .int .i64 k.rb, .int .i64 k.rp, .int .i64 k.ae, .int .i64 k.ms, .int .i64 k.ma, .int .i64 k.an, .int .i64 k.st, .int .i64 k.ss, .int .i64 k.ro, .int .i64 k.ti, .int .i64 k.br], 23⟩ :: zk10.N)))) (fun ld γ9 => (ld 2 = true → CpOk G H γ9.1) ∧ (ld 12 = true → RzOk (H[gi.toNat]!).seg γ9.2.1) ∧ True) ((⟨[], none, 0, none, 0, []⟩, ⟨⟨none, [], 0⟩, none, 0, []⟩, 0)) 130 (fun γ9 => ({ tmps := #[.agg #[.int .i64 k.pu, .int .i64 k.lo, .int .i64 k.hi, .int .i64 k.rb, .int .i64 k.rp, .int .i64 k.ae, .int .i64 k.ms, .int .i64 k.ma, .int .i64 k.an, .int .i64 k.st, .int .i64 k.ss, .int .i64 k.ro, .int .i64 k.ti, .int .i64 k.br], .agg #[.slice p G.length c, .slice q H.length d], .int .i64 gi, .slice lp L.length lc, .pointer (some ⟨g1, 0, none⟩), .pointer (some ⟨g2, 0, none⟩), undef, undef, .bool false, .pointer (some ⟨g11, 0, none⟩), .pointer (some ⟨γ9.2.2, 0, none⟩), undef, undef, undef, undef, undef, undef, .bool true, .bool false, .agg #[.int .i64 k.pu, .int .i64 k.lo, .int .i64 k.hi, .int .i64 k.rb, .int .i64 k.rp, .int .i64 k.ae, .int .i64 k.ms, .int .i64 k.ma, .int .i64 k.an, .int .i64 k.st, .int .i64 k.ss, .int .i64 k.ro, .int .i64 k.ti, .int .i64 k.br], .agg #[.slice p G.length c, .slice q H.length d], .int .i64 gi, .bool true, .bool false, .bool false, .slice lp L.length lc, .int .i64 (L.length : Int), .bool false, .bool false, .bool false, .slice lp L.length lc, .int .i64 (L.length : Int), .bool false, .bool false, .slice lp L.length lc, eaddr lp (0 * 2), .agg #[.int .i64 ((L[0]!).1), .int .i64 ((L[0]!).2)], .bool true, .bool false, .bool false, .slice lp L.length lc, eaddr lp (0 * 2), .agg #[.int .i64 ((L[0]!).1), .int .i64 ((L[0]!).2)], .pointer (some ⟨g1, 6, none⟩), .int .i64 k.ms, .int .i64 (-k.ms), .pointer (some ⟨g1, 6, none⟩), .int .i64 k.ms, .agg #[.int .i64 (-k.ms), .int .i64 k.ms], .bool true, .bool (!(true)), .bool (!(true)), .agg #[.int .i64 k.pu, .int .i64 k.lo, .int .i64 k.hi, .int .i64 k.rb, .int .i64 k.rp, .int .i64 k.ae, .int .i64 k.ms, .int .i64 k.ma, .int .i64 k.an, .int .i64 k.st, .int .i64 k.ss, .int .i64 k.ro, .int .i64 k.ti, .int .i64 k.br], .agg #[.slice p G.length c, .slice q H.length d], .int .i64 gi, .slice lp L.length lc, eaddr lp (0 * 2), .agg #[.int .i64 ((L[0]!).1), .int .i64 ((L[0]!).2)], .agg #[.bool true, .int .i64 gi, .int .i64 (-((H[gi.toNat]!).acc + k.an) + min ((L[0]!).1) 0), .int .i64 ((H[gi.toNat]!).acc + k.an + max ((L[0]!).2) 0), .int .i64 ((min ((L[0]!).1) 0 + max ((L[0]!).2) 0) / 2), .int .i64 ((H[gi.toNat]!).off), .slice zk10.p 1 zk10.c], .agg #[.int .i64 k.pu, .int .i64 k.lo, .int .i64 k.hi, .int .i64 k.rb, .int .i64 k.rp, .int .i64 k.ae, .int .i64 k.ms, .int .i64 k.ma, .int .i64 k.an, .int .i64 k.st, .int .i64 k.ss, .int .i64 k.ro, .int .i64 k.ti, .int .i64 k.br], .agg #[.slice p G.length c, .slice q H.length d], .agg #[.slice γ9.1.p γ9.1.K.length γ9.1.c, .slice γ9.1.q H.length γ9.1.d], .int .i64 gi, .slice lp L.length lc, eaddr lp (0 * 2), eaddr lp (0 * 2 + 0), .int .i64 ((L[0]!).1), .slice lp L.length lc, eaddr lp (0 * 2), eaddr lp (0 * 2 + 1), .int .i64 ((L[0]!).2), .agg #[.int .i64 1, .int .i64 gi, .int .i64 (-((H[gi.toNat]!).acc + k.an) + min ((L[0]!).1) 0), .int .i64 ((H[gi.toNat]!).acc + k.an + max ((L[0]!).2) 0), .int .i64 ((min ((L[0]!).1) 0 + max ((L[0]!).2) 0) / 2), .int .i64 ((H[gi.toNat]!).off), .slice γ9.2.1.p 1 γ9.2.1.c], undef, undef, undef, undef, undef, undef, undef, undef, undef, undef, undef, undef, undef, undef, undef, undef, undef, undef, undef, undef, undef, undef, undef, undef, undef, undef, undef, undef, undef, undef, undef, undef, undef, undef, undef, undef, undef, undef, undef, undef, undef, undef, undef, undef, undef, undef, undef, undef, undef, undef, undef, undef, undef, undef, undef, undef, undef, undef], defers := [] } : Act)) (fun γ9 => ([⟨γ9.2.2, #[.int .i64 1, .int .i64 gi, .int .i64 (-((H[gi.toNat]!).acc + k.an) + min ((L[0]!).1) 0), .int .i64 ((H[gi.toNat]!).acc + k.an + max ((L[0]!).2) 0), .int .i64 ((min ((L[0]!).1) 0 + max ((L[0]!).2) 0) / 2), .int .i64 ((H[gi.toNat]!).off), .slice γ9.2.1.p 1 γ9.2.1.c], 44⟩] ++ (γ9.2.1.N ++ (γ9.1.N ++ ⟨g11, #[.bool true, .int .i64 gi, .int .i64 (-((H[gi.toNat]!).acc + k.an) + min ((L[0]!).1) 0), .int .i64 ((H[gi.toNat]!).acc + k.an + max ((L[0]!).2) 0), .int .i64 ((min ((L[0]!).1) 0 + max ((L[0]!).2) 0) / 2), .int .i64 ((H[gi.toNat]!).off), .slice zk10.p 1 zk10.c], 38⟩ :: ⟨g2, #[.slice p G.length c, .slice q H.length d], 27⟩ :: ⟨g1, #[.int .i64 k.pu, .int .i64 k.lo, .int .i64 k.hi, .int .i64 k.rb, .int .i64 k.rp, .int .i64 k.ae, .int .i64 k.ms, .int .i64 k.ma, .int .i64 k.an, .int .i64 k.st, .int .i64 k.ss, .int .i64 k.ro, .int .i64 k.ti, .int .i64 k.br], 23⟩ :: zk10.N)))) (by kernel_rfl) rfl (by kernel_rfl) rfl (by simp) (fun _ => by kernel_rfl) (fun _ => rfl) ?_ ?_
      ·
       skip
       refine sps_cons (sp_valg (fun γ9 => .agg #[.int .i64 k.pu, .int .i64 k.lo, .int .i64 k.hi, .int .i64 k.rb, .int .i64 k.rp, .int .i64 k.ae, .int .i64 k.ms, .int .i64 k.ma, .int .i64 k.an, .int .i64 k.st, .int .i64 k.ss, .int .i64 k.ro, .int .i64 k.ti, .int .i64 k.br]) rfl (fun _ => rfl) (fun _ _ h => h) (fun _ _ => rfl) (fun ld γ9 a9 w9 h9 hF9 hE9 => by obtain ⟨zk12, zk13, g14⟩ := γ9; exact load_row (hE9.row ⟨g1, #[.int .i64 k.pu, .int .i64 k.lo, .int .i64 k.hi, .int .i64 k.rb, .int .i64 k.rp, .int .i64 k.ae, .int .i64 k.ms, .int .i64 k.ma, .int .i64 k.an, .int .i64 k.st, .int .i64 k.ss, .int .i64 k.ro, .int .i64 k.ti, .int .i64 k.br], 23⟩ (List.mem_append_right _ (List.mem_append_right _ (List.mem_append_right _ (mem_of_at (i := 2) rfl))))) rfl (h9.out (by kernel_rfl) rfl) Try.underlying23 rfl (by kernel_rfl))) ?_
       refine sps_cons (sp_valg (fun γ9 => .agg #[.slice p G.length c, .slice q H.length d]) rfl (fun _ => rfl) (fun _ _ h => h) (fun _ _ => rfl) (fun ld γ9 a9 w9 h9 hF9 hE9 => by obtain ⟨zk12, zk13, g14⟩ := γ9; exact load_row (hE9.row ⟨g2, #[.slice p G.length c, .slice q H.length d], 27⟩ (List.mem_append_right _ (List.mem_append_right _ (List.mem_append_right _ (mem_of_at (i := 1) rfl))))) rfl (h9.out (by kernel_rfl) rfl) Try.underlying27 rfl (by kernel_rfl))) ?_
       refine sps_cons (sp_open 11 (fun (zk12 : Cp) => .agg #[.slice zk12.p zk12.K.length zk12.c, .slice zk12.q H.length zk12.d]) (fun (zk12 : Cp) => zk12.N) (fun (zk12 : Cp) => CpOk G H zk12) rfl (fun ld γ9 a9 w9 h9 hF9 hE9 => ?_)) ?_
       ·
        obtain ⟨yy, zk13, g14⟩ := γ9
        have dl2 : ld 2 = false := h9.off
        have dl12 : ld 12 = false := h9.non (by kernel_rfl)
        have dl14 : ld 14 = false := h9.non (by kernel_rfl)
        have hS9 := hE9
        dsimp only at hS9
        simp only [dl2, dl12, dl14, if_true, if_false, Bool.false_eq_true, List.nil_append] at hS9
        have hE0 : Env w w9 (⟨g11, #[.bool true, .int .i64 gi, .int .i64 (-((H[gi.toNat]!).acc + k.an) + min ((L[0]!).1) 0), .int .i64 ((H[gi.toNat]!).acc + k.an + max ((L[0]!).2) 0), .int .i64 ((min ((L[0]!).1) 0 + max ((L[0]!).2) 0) / 2), .int .i64 ((H[gi.toNat]!).off), .slice zk10.p 1 zk10.c], 38⟩ :: ⟨g2, #[.slice p G.length c, .slice q H.length d], 27⟩ :: ⟨g1, #[.int .i64 k.pu, .int .i64 k.lo, .int .i64 k.hi, .int .i64 k.rb, .int .i64 k.rp, .int .i64 k.ae, .int .i64 k.ms, .int .i64 k.ma, .int .i64 k.an, .int .i64 k.st, .int .i64 k.ss, .int .i64 k.ro, .int .i64 k.ti, .int .i64 k.br], 23⟩ :: zk10.N) := (hS9.sub (List.sublist_append_right _ _))
        have e0 : a9.eval (.tmp 60) = .agg #[.slice p G.length c, .slice q H.length d] := (h9.tmp 1 rfl (h9.dep (by kernel_rfl)))
        refine ⟨#[.agg #[.slice p G.length c, .slice q H.length d]], er_callg (enters_of Try.func11 (by kernel_rfl) rfl) rfl (by simp only [List.map_toArray, List.map_cons, List.map_nil, e0]) w9, (refs_open21 G H _ _ _ _ w9 ((sl_old hS) w9 hE0) (oks_below hG hE0.below) ((sl_old hH) w9 hE0) (may_few hM).1 (may_few hM).2), fun zk12 k12 => ?_⟩
        refine ⟨(zk12, zk13, g14), rfl, ?_, ?_, ?_⟩
        ·
         intro k hk
         have hk2 : k < 15 := h9.within k hk
         have hb : k = 0 ∨ k = 1 ∨ k = 2 ∨ k = 3 ∨ k = 4 ∨ k = 5 ∨ k = 6 ∨ k = 7 ∨ k = 8 ∨ k = 9 ∨ k = 10 ∨ k = 11 ∨ k = 12 ∨ k = 13 ∨ k = 14 := by omega
         rcases hb with rfl | rfl | rfl | rfl | rfl | rfl | rfl | rfl | rfl | rfl | rfl | rfl | rfl | rfl | rfl
         ·
          rfl
         ·
          rfl
         ·
          rw [dl2] at hk; cases hk
         ·
          rfl
         ·
          rfl
         ·
          rfl
         ·
          rfl
         ·
          rfl
         ·
          rfl
         ·
          rfl
         ·
          rfl
         ·
          rfl
         ·
          rfl
         ·
          rfl
         ·
          rfl
        ·
         exact ⟨fun _ => k12, (fun e => by (have e1 : ld 12 = true := e); rw [dl12] at e1; cases e1), trivial⟩
        ·
         skip
         have od2 : Si.one ld 2 2 = true := rfl
         have od12 : Si.one ld 2 12 = ld 12 := rfl
         have od13 : Si.one ld 2 13 = ld 13 := rfl
         have od14 : Si.one ld 2 14 = ld 14 := rfl
         dsimp only
         simp only [od2, od12, od13, od14, dl12, dl14, dl2, if_true, if_false, Bool.false_eq_true, List.nil_append]
         exact pin1 _ _ _
       refine sps_cons (sp_valg (fun γ9 => .int .i64 gi) rfl (fun _ => rfl) (fun _ _ h => h) (fun _ _ => rfl) (fun ld γ9 a9 w9 h9 hF9 hE9 => by obtain ⟨zk12, zk13, g14⟩ := γ9; exact run_moveg (by rfl) (h9.out (by kernel_rfl) rfl))) ?_
       refine sps_cons (sp_valg (fun γ9 => .slice lp L.length lc) rfl (fun _ => rfl) (fun _ _ h => h) (fun _ _ => rfl) (fun ld γ9 a9 w9 h9 hF9 hE9 => by obtain ⟨zk12, zk13, g14⟩ := γ9; exact run_moveg (by rfl) (h9.out (by kernel_rfl) rfl))) ?_
       refine sps_cons (sp_valg (fun γ9 => eaddr lp (0 * 2)) rfl (fun _ => rfl) (fun _ _ h => h) (fun _ _ => rfl) (fun ld γ9 a9 w9 h9 hF9 hE9 => by obtain ⟨zk12, zk13, g14⟩ := γ9; exact (er_index 0 2 (sl_old hL) rfl (h9.tmp 4 rfl (h9.dep (by kernel_rfl))) rfl rfl (by omega) (flat_length (enc := enc2) (size := 2) (fun _ => rfl) _) (by decide) Try.underlying28 (by kernel_rfl)) w9 hE9)) ?_
       refine sps_cons (sp_valg (fun γ9 => eaddr lp (0 * 2 + 0)) rfl (fun _ => rfl) (fun _ _ h => h) (fun _ _ => rfl) (fun ld γ9 a9 w9 h9 hF9 hE9 => by obtain ⟨zk12, zk13, g14⟩ := γ9; exact (er_field (z := 0) (0 * 2) 0 0 (sl_old hL) rfl (h9.tmp 5 rfl (h9.dep (by kernel_rfl))) (flat_lt (enc := enc2) (fun _ => rfl) L 0 0 (by omega) (by decide)) Try.underlying32 rfl rfl (by kernel_rfl)) w9 hE9)) ?_
       refine sps_cons (sp_valg (fun γ9 => .int .i64 ((L[0]!).1)) rfl (fun _ => rfl) (fun _ _ h => h) (fun _ _ => rfl) (fun ld γ9 a9 w9 h9 hF9 hE9 => by obtain ⟨zk12, zk13, g14⟩ := γ9; exact (er_cell (0 * 2 + 0) (.int .i64 ((L[0]!).1)) (sl_old hL) rfl (h9.tmp 6 rfl (h9.dep (by kernel_rfl))) (flat_cell (enc := enc2) (fun _ => rfl) L 0 0 (by omega) (by decide)) Try.isAgg2) w9 hE9)) ?_
       refine sps_cons (sp_valg (fun γ9 => .slice lp L.length lc) rfl (fun _ => rfl) (fun _ _ h => h) (fun _ _ => rfl) (fun ld γ9 a9 w9 h9 hF9 hE9 => by obtain ⟨zk12, zk13, g14⟩ := γ9; exact run_moveg (by rfl) (h9.out (by kernel_rfl) rfl))) ?_
       refine sps_cons (sp_valg (fun γ9 => eaddr lp (0 * 2)) rfl (fun _ => rfl) (fun _ _ h => h) (fun _ _ => rfl) (fun ld γ9 a9 w9 h9 hF9 hE9 => by obtain ⟨zk12, zk13, g14⟩ := γ9; exact (er_index 0 2 (sl_old hL) rfl (h9.tmp 8 rfl (h9.dep (by kernel_rfl))) rfl rfl (by omega) (flat_length (enc := enc2) (size := 2) (fun _ => rfl) _) (by decide) Try.underlying28 (by kernel_rfl)) w9 hE9)) ?_
       refine sps_cons (sp_valg (fun γ9 => eaddr lp (0 * 2 + 1)) rfl (fun _ => rfl) (fun _ _ h => h) (fun _ _ => rfl) (fun ld γ9 a9 w9 h9 hF9 hE9 => by obtain ⟨zk12, zk13, g14⟩ := γ9; exact (er_field (z := 0) (0 * 2) 1 1 (sl_old hL) rfl (h9.tmp 9 rfl (h9.dep (by kernel_rfl))) (flat_lt (enc := enc2) (fun _ => rfl) L 0 0 (by omega) (by decide)) Try.underlying32 rfl rfl (by kernel_rfl)) w9 hE9)) ?_
       refine sps_cons (sp_valg (fun γ9 => .int .i64 ((L[0]!).2)) rfl (fun _ => rfl) (fun _ _ h => h) (fun _ _ => rfl) (fun ld γ9 a9 w9 h9 hF9 hE9 => by obtain ⟨zk12, zk13, g14⟩ := γ9; exact (er_cell (0 * 2 + 1) (.int .i64 ((L[0]!).2)) (sl_old hL) rfl (h9.tmp 10 rfl (h9.dep (by kernel_rfl))) (flat_cell (enc := enc2) (fun _ => rfl) L 0 1 (by omega) (by decide)) Try.isAgg2) w9 hE9)) ?_
       refine sps_cons (sp_open 10 (fun (zk13 : Rz) => .agg #[.int .i64 1, .int .i64 gi, .int .i64 (-((H[gi.toNat]!).acc + k.an) + min ((L[0]!).1) 0), .int .i64 ((H[gi.toNat]!).acc + k.an + max ((L[0]!).2) 0), .int .i64 ((min ((L[0]!).1) 0 + max ((L[0]!).2) 0) / 2), .int .i64 ((H[gi.toNat]!).off), .slice zk13.p 1 zk13.c]) (fun (zk13 : Rz) => zk13.N) (fun (zk13 : Rz) => RzOk (H[gi.toNat]!).seg zk13) rfl (fun ld γ9 a9 w9 h9 hF9 hE9 => ?_)) ?_
       ·
        obtain ⟨zk12, yy, g14⟩ := γ9
        have dl12 : ld 12 = false := h9.off
        have dl2 : ld 2 = true := h9.dep (by kernel_rfl)
        have dl14 : ld 14 = false := h9.non (by kernel_rfl)
        have k12 := hF9.1 dl2
        have hS9 := hE9
        dsimp only at hS9
        simp only [dl2, dl12, dl14, if_true, if_false, Bool.false_eq_true, List.nil_append] at hS9
        have hE0 : Env w w9 (⟨g11, #[.bool true, .int .i64 gi, .int .i64 (-((H[gi.toNat]!).acc + k.an) + min ((L[0]!).1) 0), .int .i64 ((H[gi.toNat]!).acc + k.an + max ((L[0]!).2) 0), .int .i64 ((min ((L[0]!).1) 0 + max ((L[0]!).2) 0) / 2), .int .i64 ((H[gi.toNat]!).off), .slice zk10.p 1 zk10.c], 38⟩ :: ⟨g2, #[.slice p G.length c, .slice q H.length d], 27⟩ :: ⟨g1, #[.int .i64 k.pu, .int .i64 k.lo, .int .i64 k.hi, .int .i64 k.rb, .int .i64 k.rp, .int .i64 k.ae, .int .i64 k.ms, .int .i64 k.ma, .int .i64 k.an, .int .i64 k.st, .int .i64 k.ss, .int .i64 k.ro, .int .i64 k.ti, .int .i64 k.br], 23⟩ :: (zk10.N ++ zk12.N)) := Env.perm (hS9.sub (List.sublist_append_right _ _)) ((pf1 [] _ _).trans (List.Perm.of_eq (by first | rfl | simp only [List.append_assoc, List.cons_append, List.nil_append])))
        have e0 : a9.eval (.tmp 59) = .agg #[.int .i64 k.pu, .int .i64 k.lo, .int .i64 k.hi, .int .i64 k.rb, .int .i64 k.rp, .int .i64 k.ae, .int .i64 k.ms, .int .i64 k.ma, .int .i64 k.an, .int .i64 k.st, .int .i64 k.ss, .int .i64 k.ro, .int .i64 k.ti, .int .i64 k.br] := (h9.tmp 0 rfl (h9.dep (by kernel_rfl)))
        have e1 : a9.eval (.tmp 61) = .agg #[.slice zk12.p zk12.K.length zk12.c, .slice zk12.q H.length zk12.d] := (h9.tmp 2 rfl (h9.dep (by kernel_rfl)))
        have e2 : a9.eval (.tmp 62) = .int .i64 gi := (h9.tmp 3 rfl (h9.dep (by kernel_rfl)))
        have e3 : a9.eval (.tmp 66) = .int .i64 ((L[0]!).1) := (h9.tmp 7 rfl (h9.dep (by kernel_rfl)))
        have e4 : a9.eval (.tmp 70) = .int .i64 ((L[0]!).2) := (h9.tmp 11 rfl (h9.dep (by kernel_rfl)))
        refine ⟨#[.agg #[.int .i64 k.pu, .int .i64 k.lo, .int .i64 k.hi, .int .i64 k.rb, .int .i64 k.rp, .int .i64 k.ae, .int .i64 k.ms, .int .i64 k.ma, .int .i64 k.an, .int .i64 k.st, .int .i64 k.ss, .int .i64 k.ro, .int .i64 k.ti, .int .i64 k.br], .agg #[.slice zk12.p zk12.K.length zk12.c, .slice zk12.q H.length zk12.d], .int .i64 gi, .int .i64 ((L[0]!).1), .int .i64 ((L[0]!).2)], er_callg (enters_of Try.func10 (by kernel_rfl) rfl) rfl (by simp only [List.map_toArray, List.map_cons, List.map_nil, e0, e1, e2, e3, e4]) w9, (reset_ref k gi ((L[0]!).1) ((L[0]!).2) G zk12.K H _ _ zk12.c zk12.d w9 hk (held_at k12.segs (List.Sublist.cons _ (List.Sublist.cons _ (List.Sublist.cons _ (List.sublist_append_of_sublist_right (List.Sublist.refl _))))) hE0) (k12.ok _ _ hG (hE0.sub (List.Sublist.cons _ (List.Sublist.cons _ (List.Sublist.cons _ (List.sublist_append_of_sublist_right (List.Sublist.refl _))))))) (held_at k12.grps (List.Sublist.cons _ (List.Sublist.cons _ (List.Sublist.cons _ (List.sublist_append_of_sublist_right (List.Sublist.refl _))))) hE0) hM k12.same hgi ⟨by omega, by omega, by omega⟩), fun zk13 k13 => ?_⟩
        refine ⟨(zk12, zk13, g14), rfl, ?_, ?_, ?_⟩
        ·
         intro k hk
         have hk2 : k < 15 := h9.within k hk
         have hb : k = 0 ∨ k = 1 ∨ k = 2 ∨ k = 3 ∨ k = 4 ∨ k = 5 ∨ k = 6 ∨ k = 7 ∨ k = 8 ∨ k = 9 ∨ k = 10 ∨ k = 11 ∨ k = 12 ∨ k = 13 ∨ k = 14 := by omega
         rcases hb with rfl | rfl | rfl | rfl | rfl | rfl | rfl | rfl | rfl | rfl | rfl | rfl | rfl | rfl | rfl
         ·
          rfl
         ·
          rfl
         ·
          rfl
         ·
          rfl
         ·
          rfl
         ·
          rfl
         ·
          rfl
         ·
          rfl
         ·
          rfl
         ·
          rfl
         ·
          rfl
         ·
          rfl
         ·
          rw [dl12] at hk; cases hk
         ·
          rfl
         ·
          rfl
        ·
         exact ⟨fun _ => k12, fun _ => k13, trivial⟩
        ·
         skip
         have od2 : Si.one ld 12 2 = ld 2 := rfl
         have od12 : Si.one ld 12 12 = true := rfl
         have od13 : Si.one ld 12 13 = ld 13 := rfl
         have od14 : Si.one ld 12 14 = ld 14 := rfl
         dsimp only
         simp only [od2, od12, od13, od14, dl2, dl14, dl12, if_true, if_false, Bool.false_eq_true, List.nil_append]
         exact pin1 _ _ _
       refine sps_cons (sp_alloc (#[.int .i64 0, .int .i64 0, .int .i64 0, .int .i64 0, .int .i64 0, .int .i64 0, .slice none 0 0]) 44 rfl (fun a9 w9 => by go_simp) (fun ld γ9 a9 n9 h9 hF9 => ?_)) ?_
       ·
        obtain ⟨zk12, zk13, yy⟩ := γ9
        have dl13 : ld 13 = false := h9.off
        have dl14 : ld 14 = false := h9.non (by kernel_rfl)
        refine ⟨(zk12, zk13, n9), rfl, ?_, hF9, ?_⟩
        ·
         intro k hk
         have hk2 : k < 15 := h9.within k hk
         have hb : k = 0 ∨ k = 1 ∨ k = 2 ∨ k = 3 ∨ k = 4 ∨ k = 5 ∨ k = 6 ∨ k = 7 ∨ k = 8 ∨ k = 9 ∨ k = 10 ∨ k = 11 ∨ k = 12 ∨ k = 13 ∨ k = 14 := by omega
         rcases hb with rfl | rfl | rfl | rfl | rfl | rfl | rfl | rfl | rfl | rfl | rfl | rfl | rfl | rfl | rfl
         ·
          rfl
         ·
          rfl
         ·
          rfl
         ·
          rfl
         ·
          rfl
         ·
          rfl
         ·
          rfl
         ·
          rfl
         ·
          rfl
         ·
          rfl
         ·
          rfl
         ·
          rfl
         ·
          rfl
         ·
          rw [dl13] at hk; cases hk
         ·
          rfl
        ·
         skip
         have od2 : Si.one ld 13 2 = ld 2 := rfl
         have od12 : Si.one ld 13 12 = ld 12 := rfl
         have od13 : Si.one ld 13 13 = true := rfl
         have od14 : Si.one ld 13 14 = ld 14 := rfl
         dsimp only
         simp only [od2, od12, od13, od14, dl14, dl13, if_true, if_false, Bool.false_eq_true, List.nil_append]
         exact pin0 [_] _
       refine sps_cons (sp_put 44 (.tmp 10) (.tmp 71) rfl rfl (fun ld γ9 a9 h9 hF9 => ?_)) ?_
       ·
        obtain ⟨zk12, zk13, g14⟩ := γ9
        have dl14 : ld 14 = false := h9.off
        have dl13 : ld 13 = true := h9.dep (by kernel_rfl)
        have dl2 : ld 2 = true := h9.dep (by kernel_rfl)
        have dl12 : ld 12 = true := h9.dep (by kernel_rfl)
        refine ⟨g14, #[.int .i64 1, .int .i64 gi, .int .i64 (-((H[gi.toNat]!).acc + k.an) + min ((L[0]!).1) 0), .int .i64 ((H[gi.toNat]!).acc + k.an + max ((L[0]!).2) 0), .int .i64 ((min ((L[0]!).1) 0 + max ((L[0]!).2) 0) / 2), .int .i64 ((H[gi.toNat]!).off), .slice zk13.p 1 zk13.c], #[.int .i64 0, .int .i64 0, .int .i64 0, .int .i64 0, .int .i64 0, .int .i64 0, .slice none 0 0], 44, ((if ld 12 = true then zk13.N else []) ++ ((if ld 2 = true then zk12.N else []) ++ ⟨g11, #[.bool true, .int .i64 gi, .int .i64 (-((H[gi.toNat]!).acc + k.an) + min ((L[0]!).1) 0), .int .i64 ((H[gi.toNat]!).acc + k.an + max ((L[0]!).2) 0), .int .i64 ((min ((L[0]!).1) 0 + max ((L[0]!).2) 0) / 2), .int .i64 ((H[gi.toNat]!).off), .slice zk10.p 1 zk10.c], 38⟩ :: ⟨g2, #[.slice p G.length c, .slice q H.length d], 27⟩ :: ⟨g1, #[.int .i64 k.pu, .int .i64 k.lo, .int .i64 k.hi, .int .i64 k.rb, .int .i64 k.rp, .int .i64 k.ae, .int .i64 k.ms, .int .i64 k.ma, .int .i64 k.an, .int .i64 k.st, .int .i64 k.ss, .int .i64 k.ro, .int .i64 k.ti, .int .i64 k.br], 23⟩ :: zk10.N)), (h9.tmp 13 rfl (h9.dep (by kernel_rfl))), (h9.tmp 12 rfl (h9.dep (by kernel_rfl))), (by kernel_rfl), rfl, (by simp [Value.oneCell']), ?_, rfl, hF9, ?_⟩
        ·
         dsimp only
         simp only [dl13, dl14, if_true, if_false, Bool.false_eq_true]
         exact (pin0 [_] _).symm
        ·
         skip
         have od2 : Si.one ld 14 2 = ld 2 := rfl
         have od12 : Si.one ld 14 12 = ld 12 := rfl
         have od13 : Si.one ld 14 13 = ld 13 := rfl
         have od14 : Si.one ld 14 14 = true := rfl
         dsimp only
         simp only [od2, od12, od13, od14, dl2, dl12, dl13, dl14, if_true, if_false, Bool.false_eq_true, List.nil_append]
         exact pin0 [_] _
       exact sps_nil
      rintro ⟨zk12, zk13, g14⟩ ⟨k12, k13, -⟩
      replace k12 := k12 (by decide)
      (try dsimp only at k12)
      replace k13 := k13 (by decide)
      (try dsimp only at k13)
      (try dsimp only)
      refine we_perm (R' := ⟨g14, #[.int .i64 1, .int .i64 gi, .int .i64 (-((H[gi.toNat]!).acc + k.an) + min ((L[0]!).1) 0), .int .i64 ((H[gi.toNat]!).acc + k.an + max ((L[0]!).2) 0), .int .i64 ((min ((L[0]!).1) 0 + max ((L[0]!).2) 0) / 2), .int .i64 ((H[gi.toNat]!).off), .slice zk13.p 1 zk13.c], 44⟩ :: ⟨g11, #[.bool true, .int .i64 gi, .int .i64 (-((H[gi.toNat]!).acc + k.an) + min ((L[0]!).1) 0), .int .i64 ((H[gi.toNat]!).acc + k.an + max ((L[0]!).2) 0), .int .i64 ((min ((L[0]!).1) 0 + max ((L[0]!).2) 0) / 2), .int .i64 ((H[gi.toNat]!).off), .slice zk10.p 1 zk10.c], 38⟩ :: ⟨g2, #[.slice p G.length c, .slice q H.length d], 27⟩ :: ⟨g1, #[.int .i64 k.pu, .int .i64 k.lo, .int .i64 k.hi, .int .i64 k.rb, .int .i64 k.rp, .int .i64 k.ae, .int .i64 k.ms, .int .i64 k.ma, .int .i64 k.an, .int .i64 k.st, .int .i64 k.ss, .int .i64 k.ro, .int .i64 k.ti, .int .i64 k.br], 23⟩ :: (zk10.N ++ (zk12.N ++ zk13.N))) ((pf2 [⟨g14, #[.int .i64 1, .int .i64 gi, .int .i64 (-((H[gi.toNat]!).acc + k.an) + min ((L[0]!).1) 0), .int .i64 ((H[gi.toNat]!).acc + k.an + max ((L[0]!).2) 0), .int .i64 ((min ((L[0]!).1) 0 + max ((L[0]!).2) 0) / 2), .int .i64 ((H[gi.toNat]!).off), .slice zk13.p 1 zk13.c], 44⟩] _ _ _).trans (List.Perm.of_eq (by first | rfl | simp only [List.append_assoc, List.cons_append, List.nil_append]))) ?_
      refine we_then ?_
      refine wc_seq ?_
      refine wc_seq ?_
      have ok1 : SetOk G (H[gi.toNat]!).seg (H[gi.toNat]!).off [[(H[gi.toNat]!).seg]] := begin_ok ⟨q1, q2⟩ ⟨q3, by omega⟩
      have ok0 : SetOk G (H[gi.toNat]!).seg (H[gi.toNat]!).off (xs [zk13.x]) := by rw [show xs [zk13.x] = [[(H[gi.toNat]!).seg]] from by show [zk13.x.X] = _; rw [k13.X]]; exact ok1
      refine wc_region ?_
      refine wl_load 38 (.tmp 9) (own_row 1 rfl) rfl rfl rfl Try.underlying38 rfl (by kernel_rfl) ?_
      simp only [Act.put, Xa, Xz, Xs]
      refine wl_load 44 (.tmp 10) (own_row 0 rfl) rfl rfl rfl Try.underlying44 rfl (by kernel_rfl) ?_
      simp only [Act.put, Xa, Xz, Xs]
      refine wl_call_at 12 #[.agg #[.bool true, .int .i64 gi, .int .i64 (-((H[gi.toNat]!).acc + k.an) + min ((L[0]!).1) 0), .int .i64 ((H[gi.toNat]!).acc + k.an + max ((L[0]!).2) 0), .int .i64 ((min ((L[0]!).1) 0 + max ((L[0]!).2) 0) / 2), .int .i64 ((H[gi.toNat]!).off), .slice zk10.p 1 zk10.c], .agg #[.int .i64 1, .int .i64 gi, .int .i64 (-((H[gi.toNat]!).acc + k.an) + min ((L[0]!).1) 0), .int .i64 ((H[gi.toNat]!).acc + k.an + max ((L[0]!).2) 0), .int .i64 ((min ((L[0]!).1) 0 + max ((L[0]!).2) 0) / 2), .int .i64 ((H[gi.toNat]!).off), .slice zk13.p 1 zk13.c]] (.bool true) rfl (fun _ => by go_simp) (fun W hE => same_any21 G (⟨0, true, gi, -((H[gi.toNat]!).acc + k.an) + min ((L[0]!).1) 0, (H[gi.toNat]!).acc + k.an + max ((L[0]!).2) 0, (min ((L[0]!).1) 0 + max ((L[0]!).2) 0) / 2, (H[gi.toNat]!).off, zk10.p, [[(H[gi.toNat]!).seg]], zk10.c, []⟩ : Mv) (⟨0, 1, gi, -((H[gi.toNat]!).acc + k.an) + min ((L[0]!).1) 0, (H[gi.toNat]!).acc + k.an + max ((L[0]!).2) 0, (min ((L[0]!).1) 0 + max ((L[0]!).2) 0) / 2, (H[gi.toNat]!).off, zk13.p, [zk13.x], zk13.c, []⟩ : Mr) W (⟨rfl, rfl, rfl, rfl, rfl, rfl, (show [[(H[gi.toNat]!).seg]] = [zk13.x.X] by rw [k13.X])⟩ : Eqs (⟨0, true, gi, -((H[gi.toNat]!).acc + k.an) + min ((L[0]!).1) 0, (H[gi.toNat]!).acc + k.an + max ((L[0]!).2) 0, (min ((L[0]!).1) 0 + max ((L[0]!).2) 0) / 2, (H[gi.toNat]!).off, zk10.p, [[(H[gi.toNat]!).seg]], zk10.c, []⟩ : Mv) (⟨0, 1, gi, -((H[gi.toNat]!).acc + k.an) + min ((L[0]!).1) 0, (H[gi.toNat]!).acc + k.an + max ((L[0]!).2) 0, (min ((L[0]!).1) 0 + max ((L[0]!).2) 0) / 2, (H[gi.toNat]!).off, zk13.p, [zk13.x], zk13.c, []⟩ : Mr)) ((sl_held k10 (List.Sublist.cons _ (List.Sublist.cons _ (List.Sublist.cons _ (List.Sublist.cons _ (List.sublist_append_left _ _)))))) W hE) ((sl_held k13.held (List.Sublist.cons _ (List.Sublist.cons _ (List.Sublist.cons _ (List.Sublist.cons _ (List.sublist_append_of_sublist_right (List.sublist_append_of_sublist_right (List.Sublist.refl _)))))))) W hE) (heldi_ok (s0 := (H[gi.toNat]!).seg) (f := (H[gi.toNat]!).off) k13.each ok0 (List.Sublist.cons _ (List.Sublist.cons _ (List.Sublist.cons _ (List.Sublist.cons _ (List.sublist_append_of_sublist_right (List.sublist_append_of_sublist_right (List.Sublist.refl _))))))) hE) (set_rt ok0) (by simp)) ?_
      simp only [Act.put, Xa, Xz, Xs]
      refine wl_val (.bool false) rfl (fun _ => by go_simp) ?_
      simp only [Act.put, Xa, Xz, Xs]
      refine wl_nil ?_
      refine we_then ?_
      refine wc_false rfl ?_
      refine wc_skip ?_
      refine we_then ?_
      refine wc_seq ?_
      refine wc_seq ?_
      refine wc_region ?_
      refine wl_val (.slice lp L.length lc) rfl (fun _ => rfl) ?_
      simp only [Act.put, Xa, Xz, Xs]
      refine wl_val (.slice (subz 2 lp 1 lc) (L.length - 1) (lc - 1)) rfl (fun w => er_dropz (l := 1) 2 rfl rfl rfl rfl (by omega) Try.underlying28 (by kernel_rfl) w) ?_
      simp only [Act.put, Xa, Xz, Xs]
      refine wl_val (.int .i64 ((L.length - 1 : Nat) : Int)) rfl (fun w => er_len rfl rfl Try.underlying28 w) ?_
      simp only [Act.put, Xa, Xz, Xs]
      refine wl_val (.int .i64 0) rfl (fun _ => rfl) ?_
      simp only [Act.put, Xa, Xz, Xs]
      refine wl_nil ?_
      refine we_then ?_
      refine wc_block ?_
      refine wc_loop (fun (zz : Nat × Mv × Mr × List Rw × Value × Value × Value × Value × Value × Value × Value × Value × Value × Value × Value × Value × Value × Value × Value × Value × Value × Value × Value × Value × Value × Value × Value × Value × Value × Value × Value × Value × Value × Value × Value × Value × Value × Value × Value × Value × Value × Value × Value × Value × Value × Value × Value × Value × Value × Value × Value × Value × Value × Value × Value × Value × Value × Value × Value × Value) => match zz with | ⟨i, Pm, Qm, Nn, u8, u12, u13, u14, u15, u16, u80, u81, u82, u83, u84, u85, u86, u87, u88, u89, u90, u91, u92, u93, u94, u95, u96, u97, u98, u99, u100, u101, u102, u103, u104, u105, u106, u107, u108, u109, u110, u111, u112, u113, u114, u115, u116, u117, u118, u119, u120, u121, u122, u123, u124, u125, u126, u127, u128, u129⟩ => ({ tmps := #[.agg #[.int .i64 k.pu, .int .i64 k.lo, .int .i64 k.hi, .int .i64 k.rb, .int .i64 k.rp, .int .i64 k.ae, .int .i64 k.ms, .int .i64 k.ma, .int .i64 k.an, .int .i64 k.st, .int .i64 k.ss, .int .i64 k.ro, .int .i64 k.ti, .int .i64 k.br], .agg #[.slice p G.length c, .slice q H.length d], .int .i64 gi, .slice lp L.length lc, .pointer (some ⟨g1, 0, none⟩), .pointer (some ⟨g2, 0, none⟩), undef, undef, u8, .pointer (some ⟨g11, 0, none⟩), .pointer (some ⟨g14, 0, none⟩), undef, u12, u13, u14, u15, u16, .bool true, .bool false, .agg #[.int .i64 k.pu, .int .i64 k.lo, .int .i64 k.hi, .int .i64 k.rb, .int .i64 k.rp, .int .i64 k.ae, .int .i64 k.ms, .int .i64 k.ma, .int .i64 k.an, .int .i64 k.st, .int .i64 k.ss, .int .i64 k.ro, .int .i64 k.ti, .int .i64 k.br], .agg #[.slice p G.length c, .slice q H.length d], .int .i64 gi, .bool true, .bool false, .bool false, .slice lp L.length lc, .int .i64 (L.length : Int), .bool false, .bool false, .bool false, .slice lp L.length lc, .int .i64 (L.length : Int), .bool false, .bool false, .slice lp L.length lc, eaddr lp (0 * 2), .agg #[.int .i64 ((L[0]!).1), .int .i64 ((L[0]!).2)], .bool true, .bool false, .bool false, .slice lp L.length lc, eaddr lp (0 * 2), .agg #[.int .i64 ((L[0]!).1), .int .i64 ((L[0]!).2)], .pointer (some ⟨g1, 6, none⟩), .int .i64 k.ms, .int .i64 (-k.ms), .pointer (some ⟨g1, 6, none⟩), .int .i64 k.ms, .agg #[.int .i64 (-k.ms), .int .i64 k.ms], .bool true, .bool (!(true)), .bool (!(true)), .agg #[.int .i64 k.pu, .int .i64 k.lo, .int .i64 k.hi, .int .i64 k.rb, .int .i64 k.rp, .int .i64 k.ae, .int .i64 k.ms, .int .i64 k.ma, .int .i64 k.an, .int .i64 k.st, .int .i64 k.ss, .int .i64 k.ro, .int .i64 k.ti, .int .i64 k.br], .agg #[.slice p G.length c, .slice q H.length d], .int .i64 gi, .slice lp L.length lc, eaddr lp (0 * 2), .agg #[.int .i64 ((L[0]!).1), .int .i64 ((L[0]!).2)], .agg #[.bool true, .int .i64 gi, .int .i64 (-((H[gi.toNat]!).acc + k.an) + min ((L[0]!).1) 0), .int .i64 ((H[gi.toNat]!).acc + k.an + max ((L[0]!).2) 0), .int .i64 ((min ((L[0]!).1) 0 + max ((L[0]!).2) 0) / 2), .int .i64 ((H[gi.toNat]!).off), .slice zk10.p 1 zk10.c], .agg #[.int .i64 k.pu, .int .i64 k.lo, .int .i64 k.hi, .int .i64 k.rb, .int .i64 k.rp, .int .i64 k.ae, .int .i64 k.ms, .int .i64 k.ma, .int .i64 k.an, .int .i64 k.st, .int .i64 k.ss, .int .i64 k.ro, .int .i64 k.ti, .int .i64 k.br], .agg #[.slice p G.length c, .slice q H.length d], .agg #[.slice zk12.p zk12.K.length zk12.c, .slice zk12.q H.length zk12.d], .int .i64 gi, .slice lp L.length lc, eaddr lp (0 * 2), eaddr lp (0 * 2 + 0), .int .i64 ((L[0]!).1), .slice lp L.length lc, eaddr lp (0 * 2), eaddr lp (0 * 2 + 1), .int .i64 ((L[0]!).2), .agg #[.int .i64 1, .int .i64 gi, .int .i64 (-((H[gi.toNat]!).acc + k.an) + min ((L[0]!).1) 0), .int .i64 ((H[gi.toNat]!).acc + k.an + max ((L[0]!).2) 0), .int .i64 ((min ((L[0]!).1) 0 + max ((L[0]!).2) 0) / 2), .int .i64 ((H[gi.toNat]!).off), .slice zk13.p 1 zk13.c], .agg #[.bool true, .int .i64 gi, .int .i64 (-((H[gi.toNat]!).acc + k.an) + min ((L[0]!).1) 0), .int .i64 ((H[gi.toNat]!).acc + k.an + max ((L[0]!).2) 0), .int .i64 ((min ((L[0]!).1) 0 + max ((L[0]!).2) 0) / 2), .int .i64 ((H[gi.toNat]!).off), .slice zk10.p 1 zk10.c], .agg #[.int .i64 1, .int .i64 gi, .int .i64 (-((H[gi.toNat]!).acc + k.an) + min ((L[0]!).1) 0), .int .i64 ((H[gi.toNat]!).acc + k.an + max ((L[0]!).2) 0), .int .i64 ((min ((L[0]!).1) 0 + max ((L[0]!).2) 0) / 2), .int .i64 ((H[gi.toNat]!).off), .slice zk13.p 1 zk13.c], .bool true, .bool false, .slice lp L.length lc, .slice (subz 2 lp 1 lc) (L.length - 1) (lc - 1), .int .i64 ((L.length - 1 : Nat) : Int), .int .i64 (i : Int), u80, u81, u82, u83, u84, u85, u86, u87, u88, u89, u90, u91, u92, u93, u94, u95, u96, u97, u98, u99, u100, u101, u102, u103, u104, u105, u106, u107, u108, u109, u110, u111, u112, u113, u114, u115, u116, u117, u118, u119, u120, u121, u122, u123, u124, u125, u126, u127, u128, u129], defers := [] } : Act)) (fun (zz : Nat × Mv × Mr × List Rw × Value × Value × Value × Value × Value × Value × Value × Value × Value × Value × Value × Value × Value × Value × Value × Value × Value × Value × Value × Value × Value × Value × Value × Value × Value × Value × Value × Value × Value × Value × Value × Value × Value × Value × Value × Value × Value × Value × Value × Value × Value × Value × Value × Value × Value × Value × Value × Value × Value × Value × Value × Value × Value × Value × Value × Value) => match zz with | ⟨i, Pm, Qm, Nn, u8, u12, u13, u14, u15, u16, u80, u81, u82, u83, u84, u85, u86, u87, u88, u89, u90, u91, u92, u93, u94, u95, u96, u97, u98, u99, u100, u101, u102, u103, u104, u105, u106, u107, u108, u109, u110, u111, u112, u113, u114, u115, u116, u117, u118, u119, u120, u121, u122, u123, u124, u125, u126, u127, u128, u129⟩ => ⟨g14, #[.int .i64 Qm.on, .int .i64 Qm.gi, .int .i64 Qm.lo, .int .i64 Qm.hi, .int .i64 Qm.est, .int .i64 Qm.F, .slice Qm.p Qm.O.length Qm.c], 44⟩ :: ⟨g11, #[.bool Pm.on, .int .i64 Pm.gi, .int .i64 Pm.lo, .int .i64 Pm.hi, .int .i64 Pm.est, .int .i64 Pm.F, .slice Pm.p Pm.X.length Pm.c], 38⟩ :: ⟨g2, #[.slice p G.length c, .slice q H.length d], 27⟩ :: ⟨g1, #[.int .i64 k.pu, .int .i64 k.lo, .int .i64 k.hi, .int .i64 k.rb, .int .i64 k.rp, .int .i64 k.ae, .int .i64 k.ms, .int .i64 k.ma, .int .i64 k.an, .int .i64 k.st, .int .i64 k.ss, .int .i64 k.ro, .int .i64 k.ti, .int .i64 k.br], 23⟩ :: Nn) (fun (zz : Nat × Mv × Mr × List Rw × Value × Value × Value × Value × Value × Value × Value × Value × Value × Value × Value × Value × Value × Value × Value × Value × Value × Value × Value × Value × Value × Value × Value × Value × Value × Value × Value × Value × Value × Value × Value × Value × Value × Value × Value × Value × Value × Value × Value × Value × Value × Value × Value × Value × Value × Value × Value × Value × Value × Value × Value × Value × Value × Value × Value × Value) => match zz with | ⟨i, Pm, Qm, Nn, u8, u12, u13, u14, u15, u16, u80, u81, u82, u83, u84, u85, u86, u87, u88, u89, u90, u91, u92, u93, u94, u95, u96, u97, u98, u99, u100, u101, u102, u103, u104, u105, u106, u107, u108, u109, u110, u111, u112, u113, u114, u115, u116, u117, u118, u119, u120, u121, u122, u123, u124, u125, u126, u127, u128, u129⟩ => i ≤ L.length - 1 ∧ PlOk G (H[gi.toNat]!).seg (H[gi.toNat]!).off Pm ∧ Eqs Pm Qm ∧ Held Nn Pm.p (flat rt Pm.X) ∧ Held Nn Qm.p (flat ix Qm.O) ∧ HeldI Nn Qm.O) (fun (zz : Nat × Mv × Mr × List Rw × Value × Value × Value × Value × Value × Value × Value × Value × Value × Value × Value × Value × Value × Value × Value × Value × Value × Value × Value × Value × Value × Value × Value × Value × Value × Value × Value × Value × Value × Value × Value × Value × Value × Value × Value × Value × Value × Value × Value × Value × Value × Value × Value × Value × Value × Value × Value × Value × Value × Value × Value × Value × Value × Value × Value × Value) => match zz with | ⟨i, Pm, Qm, Nn, u8, u12, u13, u14, u15, u16, u80, u81, u82, u83, u84, u85, u86, u87, u88, u89, u90, u91, u92, u93, u94, u95, u96, u97, u98, u99, u100, u101, u102, u103, u104, u105, u106, u107, u108, u109, u110, u111, u112, u113, u114, u115, u116, u117, u118, u119, u120, u121, u122, u123, u124, u125, u126, u127, u128, u129⟩ => L.length - 1 - i) ⟨0, (⟨0, true, gi, -((H[gi.toNat]!).acc + k.an) + min ((L[0]!).1) 0, (H[gi.toNat]!).acc + k.an + max ((L[0]!).2) 0, (min ((L[0]!).1) 0 + max ((L[0]!).2) 0) / 2, (H[gi.toNat]!).off, zk10.p, [[(H[gi.toNat]!).seg]], zk10.c, []⟩ : Mv), (⟨0, 1, gi, -((H[gi.toNat]!).acc + k.an) + min ((L[0]!).1) 0, (H[gi.toNat]!).acc + k.an + max ((L[0]!).2) 0, (min ((L[0]!).1) 0 + max ((L[0]!).2) 0) / 2, (H[gi.toNat]!).off, zk13.p, [zk13.x], zk13.c, []⟩ : Mr), (zk10.N ++ (zk12.N ++ zk13.N)), _, _, _, _, _, _, _, _, _, _, _, _, _, _, _, _, _, _, _, _, _, _, _, _, _, _, _, _, _, _, _, _, _, _, _, _, _, _, _, _, _, _, _, _, _, _, _, _, _, _, _, _, _, _, _, _⟩ ⟨Nat.zero_le _, ⟨rfl, rfl, ok1, by (try dsimp only); omega, by (try dsimp only); omega, by (try dsimp only); omega⟩, (⟨rfl, rfl, rfl, rfl, rfl, rfl, (show [[(H[gi.toNat]!).seg]] = [zk13.x.X] by rw [k13.X])⟩ : Eqs (⟨0, true, gi, -((H[gi.toNat]!).acc + k.an) + min ((L[0]!).1) 0, (H[gi.toNat]!).acc + k.an + max ((L[0]!).2) 0, (min ((L[0]!).1) 0 + max ((L[0]!).2) 0) / 2, (H[gi.toNat]!).off, zk10.p, [[(H[gi.toNat]!).seg]], zk10.c, []⟩ : Mv) (⟨0, 1, gi, -((H[gi.toNat]!).acc + k.an) + min ((L[0]!).1) 0, (H[gi.toNat]!).acc + k.an + max ((L[0]!).2) 0, (min ((L[0]!).1) 0 + max ((L[0]!).2) 0) / 2, (H[gi.toNat]!).off, zk13.p, [zk13.x], zk13.c, []⟩ : Mr)), Held.mono k10 (List.sublist_append_left _ _), Held.mono k13.held (((List.Sublist.refl _).trans (List.sublist_append_right _ _)).trans (List.sublist_append_right _ _)), HeldI.mono k13.each (((List.Sublist.refl _).trans (List.sublist_append_right _ _)).trans (List.sublist_append_right _ _))⟩ rfl (List.Sublist.cons_cons _ (List.Sublist.cons_cons _ (List.Sublist.cons_cons _ (List.Sublist.cons_cons _ (List.Sublist.refl _))))) ?_
      rintro ⟨i, Pm, Qm, Nn, u8, u12, u13, u14, u15, u16, u80, u81, u82, u83, u84, u85, u86, u87, u88, u89, u90, u91, u92, u93, u94, u95, u96, u97, u98, u99, u100, u101, u102, u103, u104, u105, u106, u107, u108, u109, u110, u111, u112, u113, u114, u115, u116, u117, u118, u119, u120, u121, u122, u123, u124, u125, u126, u127, u128, u129⟩ hφ
      (try dsimp only at hφ ⊢)
      obtain ⟨b1, b2, b3, b4, b5, b6⟩ := hφ
      have b7 := b2.lo
      have b8 := b2.mid
      have b9 := b2.hi
      have drn : (L.drop 1).length = L.length - 1 := by rw [List.length_drop]
      refine wc_seq ?_
      refine wc_region ?_
      refine wl_val (.bool (decide ((i : Int) < ((L.length - 1 : Nat) : Int)))) rfl (fun w => run_cmp rfl rfl rfl Try.underlying3 rfl w) ?_
      simp only [Act.put, Xa, Xz, Xs]
      refine wl_nil ?_
      refine we_then ?_
      refine wc_seq ?_
      cases h15 : (decide ((i : Int) < ((L.length - 1 : Nat) : Int)))
      ·
       skip
       have p15 : ¬ ((i : Int) < ((L.length - 1 : Nat) : Int)) := of_decide_eq_false h15
       refine wc_false rfl ?_
       refine wc_exit ?_
       refine we_then_exit ?_
       refine we_then_exit ?_
       refine we_in_here ?_
       refine we_then ?_
       refine wc_seq ?_
       refine wc_region ?_
       refine wl_val (.bool true) rfl (fun _ => rfl) ?_
       simp only [Act.put, Xa, Xz, Xs]
       refine wl_nil ?_
       refine we_then ?_
       refine wc_ret ?_
       refine we_ret1 (.bool true) rfl rfl rfl (fun w1 hE => ?_)
       exact ⟨rfl, hE.below⟩
      ·
       skip
       have p15 : (i : Int) < ((L.length - 1 : Nat) : Int) := of_decide_eq_true h15
       refine wc_true rfl ?_
       refine wc_skip ?_
       refine we_then ?_
       refine wc_seq ?_
       refine wc_block ?_
       refine wc_seq ?_
       refine wc_region ?_
       refine wl_read (eaddr (subz 2 lp 1 lc) (i * 2)) rfl (er_index i 2 (sl_dropz (enc := enc2) (z := 2) (fun _ => rfl) 1 lc (by omega) (sl_old hL)) rfl rfl rfl rfl (by omega) (flat_lenn (enc := enc2) (size := 2) (fun _ => rfl) (drop_len (k := 1) rfl)) (by decide) Try.underlying28 (by kernel_rfl)) ?_
       simp only [Act.put, Xa, Xz, Xs]
       refine wl_read (.agg #[.int .i64 (((L.drop 1)[i]!).1), .int .i64 (((L.drop 1)[i]!).2)]) rfl (er_part (i * 2) [.int .i64 (((L.drop 1)[i]!).1), .int .i64 (((L.drop 1)[i]!).2)] (sl_dropz (enc := enc2) (z := 2) (fun _ => rfl) 1 lc (by omega) (sl_old hL)) rfl rfl (flat_part (enc := enc2) (fun _ => rfl) (L.drop 1) i (by omega)) (Nat.zero_lt_succ _) Try.underlying32 rfl (by kernel_rfl)) ?_
       simp only [Act.put, Xa, Xz, Xs]
       refine wl_new 32 (#[.int .i64 0, .int .i64 0]) rfl (fun _ => by go_simp) ?_
       intro g16
       simp only [Act.put, Xa, Xz, Xs]
       refine wl_store 0 32 (.tmp 12) (.tmp 82) (#[.int .i64 (((L.drop 1)[i]!).1), .int .i64 (((L.drop 1)[i]!).2)]) rfl rfl rfl rfl rfl (by kernel_rfl) rfl (by simp [Value.oneCell']) ?_
       simp only [Act.put, List.set_cons_zero]
       refine wl_nil ?_
       refine we_then ?_
       refine wc_seq ?_
       refine wc_seq ?_
       refine wc_region ?_
       refine wl_val (.pointer (some ⟨g16, 0, none⟩)) rfl (fun _ => by go_simp) ?_
       simp only [Act.put, Xa, Xz, Xs]
       refine wl_cell 2 (.tmp 83) (.int .i64 (((L.drop 1)[i]!).1)) (own_row 0 rfl) rfl rfl rfl rfl Try.isAgg2 ?_
       simp only [Act.put, Xa, Xz, Xs]
       refine wl_val (.pointer (some ⟨g16, 1, none⟩)) rfl (fun _ => by go_simp) ?_
       simp only [Act.put, Xa, Xz, Xs]
       refine wl_cell 2 (.tmp 85) (.int .i64 (((L.drop 1)[i]!).2)) (own_row 0 rfl) rfl rfl rfl rfl Try.isAgg2 ?_
       simp only [Act.put, Xa, Xz, Xs]
       refine wl_val (.bool (decide (((L.drop 1)[i]!).2 < ((L.drop 1)[i]!).1))) rfl (fun w => run_cmp rfl rfl rfl Try.underlying2 rfl w) ?_
       simp only [Act.put, Xa, Xz, Xs]
       refine wl_val (.bool (decide (((L.drop 1)[i]!).2 < ((L.drop 1)[i]!).1))) rfl (fun _ => rfl) ?_
       simp only [Act.put, Xa, Xz, Xs]
       cases h17 : (decide (((L.drop 1)[i]!).2 < ((L.drop 1)[i]!).1))
       ·
        skip
        have p17 : ¬ (((L.drop 1)[i]!).2 < ((L.drop 1)[i]!).1) := of_decide_eq_false h17
        refine wl_val (.pointer (some ⟨g16, 0, none⟩)) rfl (fun _ => by go_simp) ?_
        simp only [Act.put, Xa, Xz, Xs]
        refine wl_cell 2 (.tmp 89) (.int .i64 (((L.drop 1)[i]!).1)) (own_row 0 rfl) rfl rfl rfl rfl Try.isAgg2 ?_
        simp only [Act.put, Xa, Xz, Xs]
        refine wl_val (.bool (decide (((L.drop 1)[i]!).1 < -1099511627776))) rfl (fun w => run_cmp rfl rfl rfl Try.underlying2 rfl w) ?_
        simp only [Act.put, Xa, Xz, Xs]
        refine wl_val (.bool (decide (((L.drop 1)[i]!).1 < -1099511627776))) rfl (fun _ => rfl) ?_
        simp only [Act.put, Xa, Xz, Xs]
        refine wl_val (.bool (decide (((L.drop 1)[i]!).1 < -1099511627776))) rfl (fun _ => rfl) ?_
        simp only [Act.put, Xa, Xz, Xs]
        cases h18 : (decide (((L.drop 1)[i]!).1 < -1099511627776))
        ·
         skip
         have p18 : ¬ (((L.drop 1)[i]!).1 < -1099511627776) := of_decide_eq_false h18
         refine wl_val (.pointer (some ⟨g16, 1, none⟩)) rfl (fun _ => by go_simp) ?_
         simp only [Act.put, Xa, Xz, Xs]
         refine wl_cell 2 (.tmp 94) (.int .i64 (((L.drop 1)[i]!).2)) (own_row 0 rfl) rfl rfl rfl rfl Try.isAgg2 ?_
         simp only [Act.put, Xa, Xz, Xs]
         refine wl_val (.bool (decide (1099511627776 < ((L.drop 1)[i]!).2))) rfl (fun w => run_cmp rfl rfl rfl Try.underlying2 rfl w) ?_
         simp only [Act.put, Xa, Xz, Xs]
         refine wl_val (.bool (decide (1099511627776 < ((L.drop 1)[i]!).2))) rfl (fun _ => rfl) ?_
         simp only [Act.put, Xa, Xz, Xs]
         refine wl_nil ?_
         refine we_then ?_
         cases h19 : (decide (1099511627776 < ((L.drop 1)[i]!).2))
         ·
          skip
          have p19 : ¬ (1099511627776 < ((L.drop 1)[i]!).2) := of_decide_eq_false h19
          refine wc_false rfl ?_
          refine wc_skip ?_
          refine we_then ?_
          refine wc_seq ?_
          refine wc_region ?_
          refine wl_load 38 (.tmp 9) (own_row 2 rfl) rfl rfl rfl Try.underlying38 rfl (by kernel_rfl) ?_
          simp only [Act.put, Xa, Xz, Xs]
          refine wl_load 27 (.tmp 5) (own_row 3 rfl) rfl rfl rfl Try.underlying27 rfl (by kernel_rfl) ?_
          simp only [Act.put, Xa, Xz, Xs]
          refine wl_load 32 (.tmp 12) (own_row 0 rfl) rfl rfl rfl Try.underlying32 rfl (by kernel_rfl) ?_
          simp only [Act.put, Xa, Xz, Xs]
          refine wl_call_open (ι := Mv) (fun zz => match zz with | zk20 => ⟨g16, #[.int .i64 (((L.drop 1)[i]!).1), .int .i64 (((L.drop 1)[i]!).2)], 32⟩ :: ⟨g14, #[.int .i64 Qm.on, .int .i64 Qm.gi, .int .i64 Qm.lo, .int .i64 Qm.hi, .int .i64 Qm.est, .int .i64 Qm.F, .slice Qm.p Qm.O.length Qm.c], 44⟩ :: ⟨g11, #[.bool Pm.on, .int .i64 Pm.gi, .int .i64 Pm.lo, .int .i64 Pm.hi, .int .i64 Pm.est, .int .i64 Pm.F, .slice Pm.p Pm.X.length Pm.c], 38⟩ :: ⟨g2, #[.slice p G.length c, .slice q H.length d], 27⟩ :: ⟨g1, #[.int .i64 k.pu, .int .i64 k.lo, .int .i64 k.hi, .int .i64 k.rb, .int .i64 k.rp, .int .i64 k.ae, .int .i64 k.ms, .int .i64 k.ma, .int .i64 k.an, .int .i64 k.st, .int .i64 k.ss, .int .i64 k.ro, .int .i64 k.ti, .int .i64 k.br], 23⟩ :: (Nn ++ zk20.N)) 13 #[.agg #[.bool Pm.on, .int .i64 Pm.gi, .int .i64 Pm.lo, .int .i64 Pm.hi, .int .i64 Pm.est, .int .i64 Pm.F, .slice Pm.p Pm.X.length Pm.c], .agg #[.slice p G.length c, .slice q H.length d], .agg #[.int .i64 (((L.drop 1)[i]!).1), .int .i64 (((L.drop 1)[i]!).2)]] (fun zz => match zz with | zk20 => .tuple #[.agg #[.bool zk20.on, .int .i64 zk20.gi, .int .i64 zk20.lo, .int .i64 zk20.hi, .int .i64 zk20.est, .int .i64 zk20.F, .slice zk20.p zk20.X.length zk20.c], .int .i64 (zk20.e : Int)]) (fun zz => match zz with | zk20 => zk20.N) (fun zz => match zz with | zk20 => MvOk G Pm.gi (H[gi.toNat]!).off (Pm.lo + (((L.drop 1)[i]!).1)) (Pm.hi + (((L.drop 1)[i]!).2)) (Pm.est + ((((L.drop 1)[i]!).1) + (((L.drop 1)[i]!).2)) / 2) Pm.X zk20) (by rintro zk20; simp) rfl (fun _ => by go_simp) (fun W hE => Pla.move_any (((L.drop 1)[i]!).1) (((L.drop 1)[i]!).2) Pm G H _ _ _ _ (H[gi.toNat]!).seg (H[gi.toNat]!).off W ((sl_old hS) W hE) (oks_below hG hE.below) ((sl_old hH) W hE) hM b2 ((sl_held b4 (List.Sublist.cons _ (List.Sublist.cons _ (List.Sublist.cons _ (List.Sublist.cons _ (List.Sublist.cons _ (List.Sublist.refl _))))))) W hE) ⟨by omega, by omega, by omega⟩ hC) ?_
          rintro zk20 k20
          (try dsimp only)
          simp only [Act.put, Xa, Xz, Xs]
          refine wl_val (.tuple #[.agg #[.bool zk20.on, .int .i64 zk20.gi, .int .i64 zk20.lo, .int .i64 zk20.hi, .int .i64 zk20.est, .int .i64 zk20.F, .slice zk20.p zk20.X.length zk20.c], .int .i64 (zk20.e : Int)]) rfl (fun _ => rfl) ?_
          simp only [Act.put, Xa, Xz, Xs]
          refine wl_val (.agg #[.bool zk20.on, .int .i64 zk20.gi, .int .i64 zk20.lo, .int .i64 zk20.hi, .int .i64 zk20.est, .int .i64 zk20.F, .slice zk20.p zk20.X.length zk20.c]) rfl (fun _ => by go_simp) ?_
          simp only [Act.put, Xa, Xz, Xs]
          refine wl_val (.int .i64 (zk20.e : Int)) rfl (fun _ => by go_simp) ?_
          simp only [Act.put, Xa, Xz, Xs]
          refine wl_new 38 (#[.bool false, .int .i64 0, .int .i64 0, .int .i64 0, .int .i64 0, .int .i64 0, .slice none 0 0]) rfl (fun _ => by go_simp) ?_
          intro g21
          simp only [Act.put, Xa, Xz, Xs]
          refine wl_store 0 38 (.tmp 13) (.tmp 103) (#[.bool zk20.on, .int .i64 zk20.gi, .int .i64 zk20.lo, .int .i64 zk20.hi, .int .i64 zk20.est, .int .i64 zk20.F, .slice zk20.p zk20.X.length zk20.c]) rfl rfl rfl rfl rfl (by kernel_rfl) rfl (by simp [Value.oneCell']) ?_
          simp only [Act.put, List.set_cons_zero]
          refine wl_val (.int .i64 (zk20.e : Int)) rfl (fun _ => rfl) ?_
          simp only [Act.put, Xa, Xz, Xs]
          refine wl_nil ?_
          refine we_then ?_
          refine wc_seq ?_
          refine wc_draw_fin (Γ := Cp × Mr × Nat) (fun γ9 j9 => [.agg #[.slice p G.length c, .slice q H.length d], .agg #[.slice γ9.1.p γ9.1.K.length γ9.1.c, .slice γ9.1.q H.length γ9.1.d], .agg #[.int .i64 Qm.on, .int .i64 Qm.gi, .int .i64 Qm.lo, .int .i64 Qm.hi, .int .i64 Qm.est, .int .i64 Qm.F, .slice Qm.p Qm.O.length Qm.c], .pointer (some ⟨g16, 0, none⟩), .int .i64 (((L.drop 1)[i]!).1), .pointer (some ⟨g16, 1, none⟩), .int .i64 (((L.drop 1)[i]!).2), .tuple #[.agg #[.int .i64 γ9.2.1.on, .int .i64 γ9.2.1.gi, .int .i64 γ9.2.1.lo, .int .i64 γ9.2.1.hi, .int .i64 γ9.2.1.est, .int .i64 γ9.2.1.F, .slice γ9.2.1.p γ9.2.1.O.length γ9.2.1.c], .int .i64 (γ9.2.1.e : Int)], .tuple #[.agg #[.int .i64 γ9.2.1.on, .int .i64 γ9.2.1.gi, .int .i64 γ9.2.1.lo, .int .i64 γ9.2.1.hi, .int .i64 γ9.2.1.est, .int .i64 γ9.2.1.F, .slice γ9.2.1.p γ9.2.1.O.length γ9.2.1.c], .int .i64 (γ9.2.1.e : Int)], .agg #[.int .i64 γ9.2.1.on, .int .i64 γ9.2.1.gi, .int .i64 γ9.2.1.lo, .int .i64 γ9.2.1.hi, .int .i64 γ9.2.1.est, .int .i64 γ9.2.1.F, .slice γ9.2.1.p γ9.2.1.O.length γ9.2.1.c], .int .i64 (γ9.2.1.e : Int), .pointer (some ⟨γ9.2.2, 0, none⟩), undef, .int .i64 (γ9.2.1.e : Int)].getD j9 undef) (fun ld γ9 => ((if ld 11 = true then [⟨γ9.2.2, if ld 12 = true then #[.int .i64 γ9.2.1.on, .int .i64 γ9.2.1.gi, .int .i64 γ9.2.1.lo, .int .i64 γ9.2.1.hi, .int .i64 γ9.2.1.est, .int .i64 γ9.2.1.F, .slice γ9.2.1.p γ9.2.1.O.length γ9.2.1.c] else #[.int .i64 0, .int .i64 0, .int .i64 0, .int .i64 0, .int .i64 0, .int .i64 0, .slice none 0 0], 44⟩] else []) ++ ((if ld 7 = true then γ9.2.1.N else []) ++ ((if ld 1 = true then γ9.1.N else []) ++ ⟨g21, #[.bool zk20.on, .int .i64 zk20.gi, .int .i64 zk20.lo, .int .i64 zk20.hi, .int .i64 zk20.est, .int .i64 zk20.F, .slice zk20.p zk20.X.length zk20.c], 38⟩ :: ⟨g16, #[.int .i64 (((L.drop 1)[i]!).1), .int .i64 (((L.drop 1)[i]!).2)], 32⟩ :: ⟨g14, #[.int .i64 Qm.on, .int .i64 Qm.gi, .int .i64 Qm.lo, .int .i64 Qm.hi, .int .i64 Qm.est, .int .i64 Qm.F, .slice Qm.p Qm.O.length Qm.c], 44⟩ :: ⟨g11, #[.bool Pm.on, .int .i64 Pm.gi, .int .i64 Pm.lo, .int .i64 Pm.hi, .int .i64 Pm.est, .int .i64 Pm.F, .slice Pm.p Pm.X.length Pm.c], 38⟩ :: ⟨g2, #[.slice p G.length c, .slice q H.length d], 27⟩ :: ⟨g1, #[.int .i64 k.pu, .int .i64 k.lo, .int .i64 k.hi, .int .i64 k.rb, .int .i64 k.rp, .int .i64 k.ae, .int .i64 k.ms, .int .i64 k.ma, .int .i64 k.an, .int .i64 k.st, .int .i64 k.ss, .int .i64 k.ro, .int .i64 k.ti, .int .i64 k.br], 23⟩ :: (Nn ++ zk20.N))))) (fun ld γ9 => (ld 1 = true → CpOk G H γ9.1) ∧ (ld 7 = true → MrOk G Qm.gi (H[gi.toNat]!).off (Qm.lo + ((L.drop 1)[i]!).1) (Qm.hi + ((L.drop 1)[i]!).2) (Qm.est + (((L.drop 1)[i]!).1 + ((L.drop 1)[i]!).2) / 2) Qm.O γ9.2.1) ∧ True) ((⟨[], none, 0, none, 0, []⟩, ⟨0, 0, 0, 0, 0, 0, 0, none, [], 0, []⟩, 0)) 130 (fun γ9 => ({ tmps := #[.agg #[.int .i64 k.pu, .int .i64 k.lo, .int .i64 k.hi, .int .i64 k.rb, .int .i64 k.rp, .int .i64 k.ae, .int .i64 k.ms, .int .i64 k.ma, .int .i64 k.an, .int .i64 k.st, .int .i64 k.ss, .int .i64 k.ro, .int .i64 k.ti, .int .i64 k.br], .agg #[.slice p G.length c, .slice q H.length d], .int .i64 gi, .slice lp L.length lc, .pointer (some ⟨g1, 0, none⟩), .pointer (some ⟨g2, 0, none⟩), undef, undef, u8, .pointer (some ⟨g11, 0, none⟩), .pointer (some ⟨g14, 0, none⟩), undef, .pointer (some ⟨g16, 0, none⟩), .pointer (some ⟨g21, 0, none⟩), .int .i64 (zk20.e : Int), .pointer (some ⟨γ9.2.2, 0, none⟩), .int .i64 (γ9.2.1.e : Int), .bool true, .bool false, .agg #[.int .i64 k.pu, .int .i64 k.lo, .int .i64 k.hi, .int .i64 k.rb, .int .i64 k.rp, .int .i64 k.ae, .int .i64 k.ms, .int .i64 k.ma, .int .i64 k.an, .int .i64 k.st, .int .i64 k.ss, .int .i64 k.ro, .int .i64 k.ti, .int .i64 k.br], .agg #[.slice p G.length c, .slice q H.length d], .int .i64 gi, .bool true, .bool false, .bool false, .slice lp L.length lc, .int .i64 (L.length : Int), .bool false, .bool false, .bool false, .slice lp L.length lc, .int .i64 (L.length : Int), .bool false, .bool false, .slice lp L.length lc, eaddr lp (0 * 2), .agg #[.int .i64 ((L[0]!).1), .int .i64 ((L[0]!).2)], .bool true, .bool false, .bool false, .slice lp L.length lc, eaddr lp (0 * 2), .agg #[.int .i64 ((L[0]!).1), .int .i64 ((L[0]!).2)], .pointer (some ⟨g1, 6, none⟩), .int .i64 k.ms, .int .i64 (-k.ms), .pointer (some ⟨g1, 6, none⟩), .int .i64 k.ms, .agg #[.int .i64 (-k.ms), .int .i64 k.ms], .bool true, .bool (!(true)), .bool (!(true)), .agg #[.int .i64 k.pu, .int .i64 k.lo, .int .i64 k.hi, .int .i64 k.rb, .int .i64 k.rp, .int .i64 k.ae, .int .i64 k.ms, .int .i64 k.ma, .int .i64 k.an, .int .i64 k.st, .int .i64 k.ss, .int .i64 k.ro, .int .i64 k.ti, .int .i64 k.br], .agg #[.slice p G.length c, .slice q H.length d], .int .i64 gi, .slice lp L.length lc, eaddr lp (0 * 2), .agg #[.int .i64 ((L[0]!).1), .int .i64 ((L[0]!).2)], .agg #[.bool true, .int .i64 gi, .int .i64 (-((H[gi.toNat]!).acc + k.an) + min ((L[0]!).1) 0), .int .i64 ((H[gi.toNat]!).acc + k.an + max ((L[0]!).2) 0), .int .i64 ((min ((L[0]!).1) 0 + max ((L[0]!).2) 0) / 2), .int .i64 ((H[gi.toNat]!).off), .slice zk10.p 1 zk10.c], .agg #[.int .i64 k.pu, .int .i64 k.lo, .int .i64 k.hi, .int .i64 k.rb, .int .i64 k.rp, .int .i64 k.ae, .int .i64 k.ms, .int .i64 k.ma, .int .i64 k.an, .int .i64 k.st, .int .i64 k.ss, .int .i64 k.ro, .int .i64 k.ti, .int .i64 k.br], .agg #[.slice p G.length c, .slice q H.length d], .agg #[.slice zk12.p zk12.K.length zk12.c, .slice zk12.q H.length zk12.d], .int .i64 gi, .slice lp L.length lc, eaddr lp (0 * 2), eaddr lp (0 * 2 + 0), .int .i64 ((L[0]!).1), .slice lp L.length lc, eaddr lp (0 * 2), eaddr lp (0 * 2 + 1), .int .i64 ((L[0]!).2), .agg #[.int .i64 1, .int .i64 gi, .int .i64 (-((H[gi.toNat]!).acc + k.an) + min ((L[0]!).1) 0), .int .i64 ((H[gi.toNat]!).acc + k.an + max ((L[0]!).2) 0), .int .i64 ((min ((L[0]!).1) 0 + max ((L[0]!).2) 0) / 2), .int .i64 ((H[gi.toNat]!).off), .slice zk13.p 1 zk13.c], .agg #[.bool true, .int .i64 gi, .int .i64 (-((H[gi.toNat]!).acc + k.an) + min ((L[0]!).1) 0), .int .i64 ((H[gi.toNat]!).acc + k.an + max ((L[0]!).2) 0), .int .i64 ((min ((L[0]!).1) 0 + max ((L[0]!).2) 0) / 2), .int .i64 ((H[gi.toNat]!).off), .slice zk10.p 1 zk10.c], .agg #[.int .i64 1, .int .i64 gi, .int .i64 (-((H[gi.toNat]!).acc + k.an) + min ((L[0]!).1) 0), .int .i64 ((H[gi.toNat]!).acc + k.an + max ((L[0]!).2) 0), .int .i64 ((min ((L[0]!).1) 0 + max ((L[0]!).2) 0) / 2), .int .i64 ((H[gi.toNat]!).off), .slice zk13.p 1 zk13.c], .bool true, .bool false, .slice lp L.length lc, .slice (subz 2 lp 1 lc) (L.length - 1) (lc - 1), .int .i64 ((L.length - 1 : Nat) : Int), .int .i64 (i : Int), .bool true, eaddr (subz 2 lp 1 lc) (i * 2), .agg #[.int .i64 (((L.drop 1)[i]!).1), .int .i64 (((L.drop 1)[i]!).2)], .pointer (some ⟨g16, 0, none⟩), .int .i64 (((L.drop 1)[i]!).1), .pointer (some ⟨g16, 1, none⟩), .int .i64 (((L.drop 1)[i]!).2), .bool false, .bool false, .pointer (some ⟨g16, 0, none⟩), .int .i64 (((L.drop 1)[i]!).1), .bool false, .bool false, .bool false, .pointer (some ⟨g16, 1, none⟩), .int .i64 (((L.drop 1)[i]!).2), .bool false, .bool false, .tuple #[.agg #[.bool zk20.on, .int .i64 zk20.gi, .int .i64 zk20.lo, .int .i64 zk20.hi, .int .i64 zk20.est, .int .i64 zk20.F, .slice zk20.p zk20.X.length zk20.c], .int .i64 (zk20.e : Int)], .agg #[.bool Pm.on, .int .i64 Pm.gi, .int .i64 Pm.lo, .int .i64 Pm.hi, .int .i64 Pm.est, .int .i64 Pm.F, .slice Pm.p Pm.X.length Pm.c], .agg #[.slice p G.length c, .slice q H.length d], .agg #[.int .i64 (((L.drop 1)[i]!).1), .int .i64 (((L.drop 1)[i]!).2)], .tuple #[.agg #[.bool zk20.on, .int .i64 zk20.gi, .int .i64 zk20.lo, .int .i64 zk20.hi, .int .i64 zk20.est, .int .i64 zk20.F, .slice zk20.p zk20.X.length zk20.c], .int .i64 (zk20.e : Int)], .agg #[.bool zk20.on, .int .i64 zk20.gi, .int .i64 zk20.lo, .int .i64 zk20.hi, .int .i64 zk20.est, .int .i64 zk20.F, .slice zk20.p zk20.X.length zk20.c], .int .i64 (zk20.e : Int), .tuple #[.agg #[.int .i64 γ9.2.1.on, .int .i64 γ9.2.1.gi, .int .i64 γ9.2.1.lo, .int .i64 γ9.2.1.hi, .int .i64 γ9.2.1.est, .int .i64 γ9.2.1.F, .slice γ9.2.1.p γ9.2.1.O.length γ9.2.1.c], .int .i64 (γ9.2.1.e : Int)], .agg #[.slice p G.length c, .slice q H.length d], .agg #[.slice γ9.1.p γ9.1.K.length γ9.1.c, .slice γ9.1.q H.length γ9.1.d], .agg #[.int .i64 Qm.on, .int .i64 Qm.gi, .int .i64 Qm.lo, .int .i64 Qm.hi, .int .i64 Qm.est, .int .i64 Qm.F, .slice Qm.p Qm.O.length Qm.c], .pointer (some ⟨g16, 0, none⟩), .int .i64 (((L.drop 1)[i]!).1), .pointer (some ⟨g16, 1, none⟩), .int .i64 (((L.drop 1)[i]!).2), .tuple #[.agg #[.int .i64 γ9.2.1.on, .int .i64 γ9.2.1.gi, .int .i64 γ9.2.1.lo, .int .i64 γ9.2.1.hi, .int .i64 γ9.2.1.est, .int .i64 γ9.2.1.F, .slice γ9.2.1.p γ9.2.1.O.length γ9.2.1.c], .int .i64 (γ9.2.1.e : Int)], .agg #[.int .i64 γ9.2.1.on, .int .i64 γ9.2.1.gi, .int .i64 γ9.2.1.lo, .int .i64 γ9.2.1.hi, .int .i64 γ9.2.1.est, .int .i64 γ9.2.1.F, .slice γ9.2.1.p γ9.2.1.O.length γ9.2.1.c], .int .i64 (γ9.2.1.e : Int), u116, u117, u118, u119, u120, u121, u122, u123, u124, u125, u126, u127, u128, u129], defers := [] } : Act)) (fun γ9 => ([⟨γ9.2.2, #[.int .i64 γ9.2.1.on, .int .i64 γ9.2.1.gi, .int .i64 γ9.2.1.lo, .int .i64 γ9.2.1.hi, .int .i64 γ9.2.1.est, .int .i64 γ9.2.1.F, .slice γ9.2.1.p γ9.2.1.O.length γ9.2.1.c], 44⟩] ++ (γ9.2.1.N ++ (γ9.1.N ++ ⟨g21, #[.bool zk20.on, .int .i64 zk20.gi, .int .i64 zk20.lo, .int .i64 zk20.hi, .int .i64 zk20.est, .int .i64 zk20.F, .slice zk20.p zk20.X.length zk20.c], 38⟩ :: ⟨g16, #[.int .i64 (((L.drop 1)[i]!).1), .int .i64 (((L.drop 1)[i]!).2)], 32⟩ :: ⟨g14, #[.int .i64 Qm.on, .int .i64 Qm.gi, .int .i64 Qm.lo, .int .i64 Qm.hi, .int .i64 Qm.est, .int .i64 Qm.F, .slice Qm.p Qm.O.length Qm.c], 44⟩ :: ⟨g11, #[.bool Pm.on, .int .i64 Pm.gi, .int .i64 Pm.lo, .int .i64 Pm.hi, .int .i64 Pm.est, .int .i64 Pm.F, .slice Pm.p Pm.X.length Pm.c], 38⟩ :: ⟨g2, #[.slice p G.length c, .slice q H.length d], 27⟩ :: ⟨g1, #[.int .i64 k.pu, .int .i64 k.lo, .int .i64 k.hi, .int .i64 k.rb, .int .i64 k.rp, .int .i64 k.ae, .int .i64 k.ms, .int .i64 k.ma, .int .i64 k.an, .int .i64 k.st, .int .i64 k.ss, .int .i64 k.ro, .int .i64 k.ti, .int .i64 k.br], 23⟩ :: (Nn ++ zk20.N))))) (by kernel_rfl) rfl (by kernel_rfl) rfl (by simp) (fun _ => by kernel_rfl) (fun _ => rfl) ?_ ?_
          ·
           skip
           refine sps_cons (sp_valg (fun γ9 => .agg #[.slice p G.length c, .slice q H.length d]) rfl (fun _ => rfl) (fun _ _ h => h) (fun _ _ => rfl) (fun ld γ9 a9 w9 h9 hF9 hE9 => by obtain ⟨zk22, zk23, g24⟩ := γ9; exact load_row (hE9.row ⟨g2, #[.slice p G.length c, .slice q H.length d], 27⟩ (List.mem_append_right _ (List.mem_append_right _ (List.mem_append_right _ (mem_of_at (i := 4) rfl))))) rfl (h9.out (by kernel_rfl) rfl) Try.underlying27 rfl (by kernel_rfl))) ?_
           refine sps_cons (sp_open 11 (fun (zk22 : Cp) => .agg #[.slice zk22.p zk22.K.length zk22.c, .slice zk22.q H.length zk22.d]) (fun (zk22 : Cp) => zk22.N) (fun (zk22 : Cp) => CpOk G H zk22) rfl (fun ld γ9 a9 w9 h9 hF9 hE9 => ?_)) ?_
           ·
            obtain ⟨yy, zk23, g24⟩ := γ9
            have dl1 : ld 1 = false := h9.off
            have dl7 : ld 7 = false := h9.non (by kernel_rfl)
            have dl12 : ld 12 = false := h9.non (by kernel_rfl)
            have hS9 := hE9
            dsimp only at hS9
            simp only [dl1, dl7, dl12, if_true, if_false, Bool.false_eq_true, List.nil_append] at hS9
            have hE0 : Env w w9 (⟨g21, #[.bool zk20.on, .int .i64 zk20.gi, .int .i64 zk20.lo, .int .i64 zk20.hi, .int .i64 zk20.est, .int .i64 zk20.F, .slice zk20.p zk20.X.length zk20.c], 38⟩ :: ⟨g16, #[.int .i64 (((L.drop 1)[i]!).1), .int .i64 (((L.drop 1)[i]!).2)], 32⟩ :: ⟨g14, #[.int .i64 Qm.on, .int .i64 Qm.gi, .int .i64 Qm.lo, .int .i64 Qm.hi, .int .i64 Qm.est, .int .i64 Qm.F, .slice Qm.p Qm.O.length Qm.c], 44⟩ :: ⟨g11, #[.bool Pm.on, .int .i64 Pm.gi, .int .i64 Pm.lo, .int .i64 Pm.hi, .int .i64 Pm.est, .int .i64 Pm.F, .slice Pm.p Pm.X.length Pm.c], 38⟩ :: ⟨g2, #[.slice p G.length c, .slice q H.length d], 27⟩ :: ⟨g1, #[.int .i64 k.pu, .int .i64 k.lo, .int .i64 k.hi, .int .i64 k.rb, .int .i64 k.rp, .int .i64 k.ae, .int .i64 k.ms, .int .i64 k.ma, .int .i64 k.an, .int .i64 k.st, .int .i64 k.ss, .int .i64 k.ro, .int .i64 k.ti, .int .i64 k.br], 23⟩ :: (Nn ++ zk20.N)) := (hS9.sub (List.sublist_append_right _ _))
            have e0 : a9.eval (.tmp 106) = .agg #[.slice p G.length c, .slice q H.length d] := (h9.tmp 0 rfl (h9.dep (by kernel_rfl)))
            refine ⟨#[.agg #[.slice p G.length c, .slice q H.length d]], er_callg (enters_of Try.func11 (by kernel_rfl) rfl) rfl (by simp only [List.map_toArray, List.map_cons, List.map_nil, e0]) w9, (refs_open21 G H _ _ _ _ w9 ((sl_old hS) w9 hE0) (oks_below hG hE0.below) ((sl_old hH) w9 hE0) (may_few hM).1 (may_few hM).2), fun zk22 k22 => ?_⟩
            refine ⟨(zk22, zk23, g24), rfl, ?_, ?_, ?_⟩
            ·
             intro k hk
             have hk2 : k < 14 := h9.within k hk
             have hb : k = 0 ∨ k = 1 ∨ k = 2 ∨ k = 3 ∨ k = 4 ∨ k = 5 ∨ k = 6 ∨ k = 7 ∨ k = 8 ∨ k = 9 ∨ k = 10 ∨ k = 11 ∨ k = 12 ∨ k = 13 := by omega
             rcases hb with rfl | rfl | rfl | rfl | rfl | rfl | rfl | rfl | rfl | rfl | rfl | rfl | rfl | rfl
             ·
              rfl
             ·
              rw [dl1] at hk; cases hk
             ·
              rfl
             ·
              rfl
             ·
              rfl
             ·
              rfl
             ·
              rfl
             ·
              rfl
             ·
              rfl
             ·
              rfl
             ·
              rfl
             ·
              rfl
             ·
              rfl
             ·
              rfl
            ·
             exact ⟨fun _ => k22, (fun e => by (have e1 : ld 7 = true := e); rw [dl7] at e1; cases e1), trivial⟩
            ·
             skip
             have od1 : Si.one ld 1 1 = true := rfl
             have od7 : Si.one ld 1 7 = ld 7 := rfl
             have od11 : Si.one ld 1 11 = ld 11 := rfl
             have od12 : Si.one ld 1 12 = ld 12 := rfl
             dsimp only
             simp only [od1, od7, od11, od12, dl7, dl12, dl1, if_true, if_false, Bool.false_eq_true, List.nil_append]
             exact pin1 _ _ _
           refine sps_cons (sp_valg (fun γ9 => .agg #[.int .i64 Qm.on, .int .i64 Qm.gi, .int .i64 Qm.lo, .int .i64 Qm.hi, .int .i64 Qm.est, .int .i64 Qm.F, .slice Qm.p Qm.O.length Qm.c]) rfl (fun _ => rfl) (fun _ _ h => h) (fun _ _ => rfl) (fun ld γ9 a9 w9 h9 hF9 hE9 => by obtain ⟨zk22, zk23, g24⟩ := γ9; exact load_row (hE9.row ⟨g14, #[.int .i64 Qm.on, .int .i64 Qm.gi, .int .i64 Qm.lo, .int .i64 Qm.hi, .int .i64 Qm.est, .int .i64 Qm.F, .slice Qm.p Qm.O.length Qm.c], 44⟩ (List.mem_append_right _ (List.mem_append_right _ (List.mem_append_right _ (mem_of_at (i := 2) rfl))))) rfl (h9.out (by kernel_rfl) rfl) Try.underlying44 rfl (by kernel_rfl))) ?_
           refine sps_cons (sp_valg (fun γ9 => .pointer (some ⟨g16, 0, none⟩)) rfl (fun _ => rfl) (fun _ _ h => h) (fun _ _ => rfl) (fun ld γ9 a9 w9 h9 hF9 hE9 => by obtain ⟨zk22, zk23, g24⟩ := γ9; exact run_fieldAddr (f := 0) (off := 0) (d := 0) (z := 0) rfl (h9.out (by kernel_rfl) rfl) Try.underlying32 rfl rfl (by kernel_rfl) w9)) ?_
           refine sps_cons (sp_valg (fun γ9 => .int .i64 (((L.drop 1)[i]!).1)) rfl (fun _ => rfl) (fun _ _ h => h) (fun _ _ => rfl) (fun ld γ9 a9 w9 h9 hF9 hE9 => by obtain ⟨zk22, zk23, g24⟩ := γ9; exact load_cell (hE9.row ⟨g16, #[.int .i64 (((L.drop 1)[i]!).1), .int .i64 (((L.drop 1)[i]!).2)], 32⟩ (List.mem_append_right _ (List.mem_append_right _ (List.mem_append_right _ (mem_of_at (i := 1) rfl))))) rfl rfl (h9.tmp 3 rfl (h9.dep (by kernel_rfl))) Try.isAgg2)) ?_
           refine sps_cons (sp_valg (fun γ9 => .pointer (some ⟨g16, 1, none⟩)) rfl (fun _ => rfl) (fun _ _ h => h) (fun _ _ => rfl) (fun ld γ9 a9 w9 h9 hF9 hE9 => by obtain ⟨zk22, zk23, g24⟩ := γ9; exact run_fieldAddr (f := 1) (off := 0) (d := 1) (z := 0) rfl (h9.out (by kernel_rfl) rfl) Try.underlying32 rfl rfl (by kernel_rfl) w9)) ?_
           refine sps_cons (sp_valg (fun γ9 => .int .i64 (((L.drop 1)[i]!).2)) rfl (fun _ => rfl) (fun _ _ h => h) (fun _ _ => rfl) (fun ld γ9 a9 w9 h9 hF9 hE9 => by obtain ⟨zk22, zk23, g24⟩ := γ9; exact load_cell (hE9.row ⟨g16, #[.int .i64 (((L.drop 1)[i]!).1), .int .i64 (((L.drop 1)[i]!).2)], 32⟩ (List.mem_append_right _ (List.mem_append_right _ (List.mem_append_right _ (mem_of_at (i := 1) rfl))))) rfl rfl (h9.tmp 5 rfl (h9.dep (by kernel_rfl))) Try.isAgg2)) ?_
           refine sps_cons (sp_open 14 (fun (zk23 : Mr) => .tuple #[.agg #[.int .i64 zk23.on, .int .i64 zk23.gi, .int .i64 zk23.lo, .int .i64 zk23.hi, .int .i64 zk23.est, .int .i64 zk23.F, .slice zk23.p zk23.O.length zk23.c], .int .i64 (zk23.e : Int)]) (fun (zk23 : Mr) => zk23.N) (fun (zk23 : Mr) => MrOk G Qm.gi (H[gi.toNat]!).off (Qm.lo + ((L.drop 1)[i]!).1) (Qm.hi + ((L.drop 1)[i]!).2) (Qm.est + (((L.drop 1)[i]!).1 + ((L.drop 1)[i]!).2) / 2) Qm.O zk23) rfl (fun ld γ9 a9 w9 h9 hF9 hE9 => ?_)) ?_
           ·
            obtain ⟨zk22, yy, g24⟩ := γ9
            have dl7 : ld 7 = false := h9.off
            have dl1 : ld 1 = true := h9.dep (by kernel_rfl)
            have dl12 : ld 12 = false := h9.non (by kernel_rfl)
            have k22 := hF9.1 dl1
            have hS9 := hE9
            dsimp only at hS9
            simp only [dl1, dl7, dl12, if_true, if_false, Bool.false_eq_true, List.nil_append] at hS9
            have hE0 : Env w w9 (⟨g21, #[.bool zk20.on, .int .i64 zk20.gi, .int .i64 zk20.lo, .int .i64 zk20.hi, .int .i64 zk20.est, .int .i64 zk20.F, .slice zk20.p zk20.X.length zk20.c], 38⟩ :: ⟨g16, #[.int .i64 (((L.drop 1)[i]!).1), .int .i64 (((L.drop 1)[i]!).2)], 32⟩ :: ⟨g14, #[.int .i64 Qm.on, .int .i64 Qm.gi, .int .i64 Qm.lo, .int .i64 Qm.hi, .int .i64 Qm.est, .int .i64 Qm.F, .slice Qm.p Qm.O.length Qm.c], 44⟩ :: ⟨g11, #[.bool Pm.on, .int .i64 Pm.gi, .int .i64 Pm.lo, .int .i64 Pm.hi, .int .i64 Pm.est, .int .i64 Pm.F, .slice Pm.p Pm.X.length Pm.c], 38⟩ :: ⟨g2, #[.slice p G.length c, .slice q H.length d], 27⟩ :: ⟨g1, #[.int .i64 k.pu, .int .i64 k.lo, .int .i64 k.hi, .int .i64 k.rb, .int .i64 k.rp, .int .i64 k.ae, .int .i64 k.ms, .int .i64 k.ma, .int .i64 k.an, .int .i64 k.st, .int .i64 k.ss, .int .i64 k.ro, .int .i64 k.ti, .int .i64 k.br], 23⟩ :: (Nn ++ (zk20.N ++ zk22.N))) := Env.perm (hS9.sub (List.sublist_append_right _ _)) ((pf1 [] _ _).trans (List.Perm.of_eq (by first | rfl | simp only [List.append_assoc, List.cons_append, List.nil_append])))
            have e0 : a9.eval (.tmp 107) = .agg #[.slice zk22.p zk22.K.length zk22.c, .slice zk22.q H.length zk22.d] := (h9.tmp 1 rfl (h9.dep (by kernel_rfl)))
            have e1 : a9.eval (.tmp 108) = .agg #[.int .i64 Qm.on, .int .i64 Qm.gi, .int .i64 Qm.lo, .int .i64 Qm.hi, .int .i64 Qm.est, .int .i64 Qm.F, .slice Qm.p Qm.O.length Qm.c] := (h9.tmp 2 rfl (h9.dep (by kernel_rfl)))
            have e2 : a9.eval (.tmp 110) = .int .i64 (((L.drop 1)[i]!).1) := (h9.tmp 4 rfl (h9.dep (by kernel_rfl)))
            have e3 : a9.eval (.tmp 112) = .int .i64 (((L.drop 1)[i]!).2) := (h9.tmp 6 rfl (h9.dep (by kernel_rfl)))
            refine ⟨#[.agg #[.slice zk22.p zk22.K.length zk22.c, .slice zk22.q H.length zk22.d], .agg #[.int .i64 Qm.on, .int .i64 Qm.gi, .int .i64 Qm.lo, .int .i64 Qm.hi, .int .i64 Qm.est, .int .i64 Qm.F, .slice Qm.p Qm.O.length Qm.c], .int .i64 (((L.drop 1)[i]!).1), .int .i64 (((L.drop 1)[i]!).2)], er_callg (enters_of Try.func14 (by kernel_rfl) rfl) rfl (by simp only [List.map_toArray, List.map_cons, List.map_nil, e0, e1, e2, e3]) w9, (move_ref ((L.drop 1)[i]!).1 ((L.drop 1)[i]!).2 Pm Qm (H[gi.toNat]!).seg (H[gi.toNat]!).off G zk22.K H _ _ zk22.c zk22.d w9 (held_at k22.segs (List.Sublist.cons _ (List.Sublist.cons _ (List.Sublist.cons _ (List.Sublist.cons _ (List.Sublist.cons _ (List.Sublist.cons _ (List.sublist_append_of_sublist_right (List.sublist_append_of_sublist_right (List.Sublist.refl _))))))))) hE0) (k22.ok _ _ hG (hE0.sub (List.Sublist.cons _ (List.Sublist.cons _ (List.Sublist.cons _ (List.Sublist.cons _ (List.Sublist.cons _ (List.Sublist.cons _ (List.sublist_append_of_sublist_right (List.sublist_append_of_sublist_right (List.Sublist.refl _))))))))))) (held_at k22.grps (List.Sublist.cons _ (List.Sublist.cons _ (List.Sublist.cons _ (List.Sublist.cons _ (List.Sublist.cons _ (List.Sublist.cons _ (List.sublist_append_of_sublist_right (List.sublist_append_of_sublist_right (List.Sublist.refl _))))))))) hE0) hM k22.same b2 b3 ((sl_held b5 (List.Sublist.cons _ (List.Sublist.cons _ (List.Sublist.cons _ (List.Sublist.cons _ (List.Sublist.cons _ (List.Sublist.cons _ (List.sublist_append_left _ _)))))))) w9 hE0) (heldi_ok b6 (show SetOk G (H[gi.toNat]!).seg (H[gi.toNat]!).off (xs Qm.O) by rw [← b3.X]; exact b2.set) (List.Sublist.cons _ (List.Sublist.cons _ (List.Sublist.cons _ (List.Sublist.cons _ (List.Sublist.cons _ (List.Sublist.cons _ (List.sublist_append_left _ _))))))) hE0) ⟨by omega, by omega, by omega⟩), fun zk23 k23 => ?_⟩
            refine ⟨(zk22, zk23, g24), rfl, ?_, ?_, ?_⟩
            have dl8 : ld 8 = false := h9.non (by kernel_rfl)
            have dl9 : ld 9 = false := h9.non2 8 dl8 (by kernel_rfl)
            have dl10 : ld 10 = false := h9.non2 8 dl8 (by kernel_rfl)
            have dl13 : ld 13 = false := h9.non (by kernel_rfl)
            ·
             intro k hk
             have hk2 : k < 14 := h9.within k hk
             have hb : k = 0 ∨ k = 1 ∨ k = 2 ∨ k = 3 ∨ k = 4 ∨ k = 5 ∨ k = 6 ∨ k = 7 ∨ k = 8 ∨ k = 9 ∨ k = 10 ∨ k = 11 ∨ k = 12 ∨ k = 13 := by omega
             rcases hb with rfl | rfl | rfl | rfl | rfl | rfl | rfl | rfl | rfl | rfl | rfl | rfl | rfl | rfl
             ·
              rfl
             ·
              rfl
             ·
              rfl
             ·
              rfl
             ·
              rfl
             ·
              rfl
             ·
              rfl
             ·
              rw [dl7] at hk; cases hk
             ·
              rw [dl8] at hk; cases hk
             ·
              rw [dl9] at hk; cases hk
             ·
              rw [dl10] at hk; cases hk
             ·
              rfl
             ·
              rfl
             ·
              rw [dl13] at hk; cases hk
            ·
             exact ⟨fun _ => k22, fun _ => k23, trivial⟩
            ·
             skip
             have od1 : Si.one ld 7 1 = ld 1 := rfl
             have od7 : Si.one ld 7 7 = true := rfl
             have od11 : Si.one ld 7 11 = ld 11 := rfl
             have od12 : Si.one ld 7 12 = ld 12 := rfl
             dsimp only
             simp only [od1, od7, od11, od12, dl1, dl12, dl7, if_true, if_false, Bool.false_eq_true, List.nil_append]
             exact pin1 _ _ _
           refine sps_cons (sp_valg (fun γ9 => .tuple #[.agg #[.int .i64 γ9.2.1.on, .int .i64 γ9.2.1.gi, .int .i64 γ9.2.1.lo, .int .i64 γ9.2.1.hi, .int .i64 γ9.2.1.est, .int .i64 γ9.2.1.F, .slice γ9.2.1.p γ9.2.1.O.length γ9.2.1.c], .int .i64 (γ9.2.1.e : Int)]) rfl (fun _ => rfl) (fun _ _ h => h) (fun _ _ => rfl) (fun ld γ9 a9 w9 h9 hF9 hE9 => by obtain ⟨zk22, zk23, g24⟩ := γ9; exact run_moveg (by rfl) (h9.tmp 7 rfl (h9.dep (by kernel_rfl))))) ?_
           refine sps_cons (sp_valg (fun γ9 => .agg #[.int .i64 γ9.2.1.on, .int .i64 γ9.2.1.gi, .int .i64 γ9.2.1.lo, .int .i64 γ9.2.1.hi, .int .i64 γ9.2.1.est, .int .i64 γ9.2.1.F, .slice γ9.2.1.p γ9.2.1.O.length γ9.2.1.c]) rfl (fun _ => rfl) (fun _ _ h => h) (fun _ _ => rfl) (fun ld γ9 a9 w9 h9 hF9 hE9 => by obtain ⟨zk22, zk23, g24⟩ := γ9; exact run_extractg (by rfl) (h9.tmp 8 rfl (h9.dep (by kernel_rfl))) rfl)) ?_
           refine sps_cons (sp_valg (fun γ9 => .int .i64 (γ9.2.1.e : Int)) rfl (fun _ => rfl) (fun _ _ h => h) (fun _ _ => rfl) (fun ld γ9 a9 w9 h9 hF9 hE9 => by obtain ⟨zk22, zk23, g24⟩ := γ9; exact run_extractg (by rfl) (h9.tmp 8 rfl (h9.dep (by kernel_rfl))) rfl)) ?_
           refine sps_cons (sp_alloc (#[.int .i64 0, .int .i64 0, .int .i64 0, .int .i64 0, .int .i64 0, .int .i64 0, .slice none 0 0]) 44 rfl (fun a9 w9 => by go_simp) (fun ld γ9 a9 n9 h9 hF9 => ?_)) ?_
           ·
            obtain ⟨zk22, zk23, yy⟩ := γ9
            have dl11 : ld 11 = false := h9.off
            have dl12 : ld 12 = false := h9.non (by kernel_rfl)
            refine ⟨(zk22, zk23, n9), rfl, ?_, hF9, ?_⟩
            ·
             intro k hk
             have hk2 : k < 14 := h9.within k hk
             have hb : k = 0 ∨ k = 1 ∨ k = 2 ∨ k = 3 ∨ k = 4 ∨ k = 5 ∨ k = 6 ∨ k = 7 ∨ k = 8 ∨ k = 9 ∨ k = 10 ∨ k = 11 ∨ k = 12 ∨ k = 13 := by omega
             rcases hb with rfl | rfl | rfl | rfl | rfl | rfl | rfl | rfl | rfl | rfl | rfl | rfl | rfl | rfl
             ·
              rfl
             ·
              rfl
             ·
              rfl
             ·
              rfl
             ·
              rfl
             ·
              rfl
             ·
              rfl
             ·
              rfl
             ·
              rfl
             ·
              rfl
             ·
              rfl
             ·
              rw [dl11] at hk; cases hk
             ·
              rfl
             ·
              rfl
            ·
             skip
             have od1 : Si.one ld 11 1 = ld 1 := rfl
             have od7 : Si.one ld 11 7 = ld 7 := rfl
             have od11 : Si.one ld 11 11 = true := rfl
             have od12 : Si.one ld 11 12 = ld 12 := rfl
             dsimp only
             simp only [od1, od7, od11, od12, dl12, dl11, if_true, if_false, Bool.false_eq_true, List.nil_append]
             exact pin0 [_] _
           refine sps_cons (sp_put 44 (.tmp 15) (.tmp 114) rfl rfl (fun ld γ9 a9 h9 hF9 => ?_)) ?_
           ·
            obtain ⟨zk22, zk23, g24⟩ := γ9
            have dl12 : ld 12 = false := h9.off
            have dl11 : ld 11 = true := h9.dep (by kernel_rfl)
            have dl1 : ld 1 = true := h9.dep (by kernel_rfl)
            have dl7 : ld 7 = true := h9.dep (by kernel_rfl)
            refine ⟨g24, #[.int .i64 zk23.on, .int .i64 zk23.gi, .int .i64 zk23.lo, .int .i64 zk23.hi, .int .i64 zk23.est, .int .i64 zk23.F, .slice zk23.p zk23.O.length zk23.c], #[.int .i64 0, .int .i64 0, .int .i64 0, .int .i64 0, .int .i64 0, .int .i64 0, .slice none 0 0], 44, ((if ld 7 = true then zk23.N else []) ++ ((if ld 1 = true then zk22.N else []) ++ ⟨g21, #[.bool zk20.on, .int .i64 zk20.gi, .int .i64 zk20.lo, .int .i64 zk20.hi, .int .i64 zk20.est, .int .i64 zk20.F, .slice zk20.p zk20.X.length zk20.c], 38⟩ :: ⟨g16, #[.int .i64 (((L.drop 1)[i]!).1), .int .i64 (((L.drop 1)[i]!).2)], 32⟩ :: ⟨g14, #[.int .i64 Qm.on, .int .i64 Qm.gi, .int .i64 Qm.lo, .int .i64 Qm.hi, .int .i64 Qm.est, .int .i64 Qm.F, .slice Qm.p Qm.O.length Qm.c], 44⟩ :: ⟨g11, #[.bool Pm.on, .int .i64 Pm.gi, .int .i64 Pm.lo, .int .i64 Pm.hi, .int .i64 Pm.est, .int .i64 Pm.F, .slice Pm.p Pm.X.length Pm.c], 38⟩ :: ⟨g2, #[.slice p G.length c, .slice q H.length d], 27⟩ :: ⟨g1, #[.int .i64 k.pu, .int .i64 k.lo, .int .i64 k.hi, .int .i64 k.rb, .int .i64 k.rp, .int .i64 k.ae, .int .i64 k.ms, .int .i64 k.ma, .int .i64 k.an, .int .i64 k.st, .int .i64 k.ss, .int .i64 k.ro, .int .i64 k.ti, .int .i64 k.br], 23⟩ :: (Nn ++ zk20.N))), (h9.tmp 11 rfl (h9.dep (by kernel_rfl))), (h9.tmp 9 rfl (h9.dep (by kernel_rfl))), (by kernel_rfl), rfl, (by simp [Value.oneCell']), ?_, rfl, hF9, ?_⟩
            ·
             dsimp only
             simp only [dl11, dl12, if_true, if_false, Bool.false_eq_true]
             exact (pin0 [_] _).symm
            ·
             skip
             have od1 : Si.one ld 12 1 = ld 1 := rfl
             have od7 : Si.one ld 12 7 = ld 7 := rfl
             have od11 : Si.one ld 12 11 = ld 11 := rfl
             have od12 : Si.one ld 12 12 = true := rfl
             dsimp only
             simp only [od1, od7, od11, od12, dl1, dl7, dl11, dl12, if_true, if_false, Bool.false_eq_true, List.nil_append]
             exact pin0 [_] _
           refine sps_cons (sp_valg (fun γ9 => .int .i64 (γ9.2.1.e : Int)) rfl (fun _ => rfl) (fun _ _ h => h) (fun _ _ => rfl) (fun ld γ9 a9 w9 h9 hF9 hE9 => by obtain ⟨zk22, zk23, g24⟩ := γ9; exact run_assigng (by rfl) (h9.tmp 10 rfl (h9.dep (by kernel_rfl))))) ?_
           exact sps_nil
          rintro ⟨zk22, zk23, g24⟩ ⟨k22, k23, -⟩
          replace k22 := k22 (by decide)
          (try dsimp only at k22)
          replace k23 := k23 (by decide)
          (try dsimp only at k23)
          (try dsimp only)
          refine we_perm (R' := ⟨g24, #[.int .i64 zk23.on, .int .i64 zk23.gi, .int .i64 zk23.lo, .int .i64 zk23.hi, .int .i64 zk23.est, .int .i64 zk23.F, .slice zk23.p zk23.O.length zk23.c], 44⟩ :: ⟨g21, #[.bool zk20.on, .int .i64 zk20.gi, .int .i64 zk20.lo, .int .i64 zk20.hi, .int .i64 zk20.est, .int .i64 zk20.F, .slice zk20.p zk20.X.length zk20.c], 38⟩ :: ⟨g16, #[.int .i64 (((L.drop 1)[i]!).1), .int .i64 (((L.drop 1)[i]!).2)], 32⟩ :: ⟨g14, #[.int .i64 Qm.on, .int .i64 Qm.gi, .int .i64 Qm.lo, .int .i64 Qm.hi, .int .i64 Qm.est, .int .i64 Qm.F, .slice Qm.p Qm.O.length Qm.c], 44⟩ :: ⟨g11, #[.bool Pm.on, .int .i64 Pm.gi, .int .i64 Pm.lo, .int .i64 Pm.hi, .int .i64 Pm.est, .int .i64 Pm.F, .slice Pm.p Pm.X.length Pm.c], 38⟩ :: ⟨g2, #[.slice p G.length c, .slice q H.length d], 27⟩ :: ⟨g1, #[.int .i64 k.pu, .int .i64 k.lo, .int .i64 k.hi, .int .i64 k.rb, .int .i64 k.rp, .int .i64 k.ae, .int .i64 k.ms, .int .i64 k.ma, .int .i64 k.an, .int .i64 k.st, .int .i64 k.ss, .int .i64 k.ro, .int .i64 k.ti, .int .i64 k.br], 23⟩ :: (Nn ++ (zk20.N ++ (zk22.N ++ zk23.N)))) ((pf2 [⟨g24, #[.int .i64 zk23.on, .int .i64 zk23.gi, .int .i64 zk23.lo, .int .i64 zk23.hi, .int .i64 zk23.est, .int .i64 zk23.F, .slice zk23.p zk23.O.length zk23.c], 44⟩] _ _ _).trans (List.Perm.of_eq (by first | rfl | simp only [List.append_assoc, List.cons_append, List.nil_append]))) ?_
          have eq9 := eqs_of b3.X k20 (by rw [b3.gi, b3.lo, b3.hi, b3.est]; exact k23)
          have ee := eq9.1
          have fw9 := mr_few hM.segs (by rw [← b3.X]; exact b2.set) k23
          refine we_then ?_
          refine wc_seq ?_
          refine wc_seq ?_
          refine wc_region ?_
          refine wl_val (.int .i64 (zk20.e : Int)) rfl (fun _ => rfl) ?_
          simp only [Act.put, Xa, Xz, Xs]
          refine wl_val (.int .i64 (zk23.e : Int)) rfl (fun _ => rfl) ?_
          simp only [Act.put, Xa, Xz, Xs]
          refine wl_val (.bool ((zk20.e : Int) != (zk23.e : Int))) rfl (fun w => run_cmp rfl rfl rfl Try.underlying3 rfl w) ?_
          simp only [Act.put, Xa, Xz, Xs]
          refine wl_val (.bool ((zk20.e : Int) != (zk23.e : Int))) rfl (fun _ => rfl) ?_
          simp only [Act.put, Xa, Xz, Xs]
          cases h25 : ((zk20.e : Int) != (zk23.e : Int))
          ·
           skip
           have p25 : ¬ ((zk20.e : Int) ≠ (zk23.e : Int)) := by first | (simp; done) | (simp at h25; done) | simpa using h25
           refine wl_load 38 (.tmp 13) (own_row 1 rfl) rfl rfl rfl Try.underlying38 rfl (by kernel_rfl) ?_
           simp only [Act.put, Xa, Xz, Xs]
           refine wl_load 44 (.tmp 15) (own_row 0 rfl) rfl rfl rfl Try.underlying44 rfl (by kernel_rfl) ?_
           simp only [Act.put, Xa, Xz, Xs]
           refine wl_call_at 12 #[.agg #[.bool zk20.on, .int .i64 zk20.gi, .int .i64 zk20.lo, .int .i64 zk20.hi, .int .i64 zk20.est, .int .i64 zk20.F, .slice zk20.p zk20.X.length zk20.c], .agg #[.int .i64 zk23.on, .int .i64 zk23.gi, .int .i64 zk23.lo, .int .i64 zk23.hi, .int .i64 zk23.est, .int .i64 zk23.F, .slice zk23.p zk23.O.length zk23.c]] (.bool true) rfl (fun _ => by go_simp) (fun W hE => same_any21 G zk20 zk23 W eq9.2 ((sl_held k20.held (List.Sublist.cons _ (List.Sublist.cons _ (List.Sublist.cons _ (List.Sublist.cons _ (List.Sublist.cons _ (List.Sublist.cons _ (List.Sublist.cons _ (List.sublist_append_of_sublist_right (List.sublist_append_left _ _)))))))))) W hE) ((sl_held k23.held (List.Sublist.cons _ (List.Sublist.cons _ (List.Sublist.cons _ (List.Sublist.cons _ (List.Sublist.cons _ (List.Sublist.cons _ (List.Sublist.cons _ (List.sublist_append_of_sublist_right (List.sublist_append_of_sublist_right (List.sublist_append_of_sublist_right (List.Sublist.refl _)))))))))))) W hE) (heldi_rt (heldi_mem (R := ⟨g24, #[.int .i64 zk23.on, .int .i64 zk23.gi, .int .i64 zk23.lo, .int .i64 zk23.hi, .int .i64 zk23.est, .int .i64 zk23.F, .slice zk23.p zk23.O.length zk23.c], 44⟩ :: ⟨g21, #[.bool zk20.on, .int .i64 zk20.gi, .int .i64 zk20.lo, .int .i64 zk20.hi, .int .i64 zk20.est, .int .i64 zk20.F, .slice zk20.p zk20.X.length zk20.c], 38⟩ :: ⟨g16, #[.int .i64 (((L.drop 1)[i]!).1), .int .i64 (((L.drop 1)[i]!).2)], 32⟩ :: ⟨g14, #[.int .i64 Qm.on, .int .i64 Qm.gi, .int .i64 Qm.lo, .int .i64 Qm.hi, .int .i64 Qm.est, .int .i64 Qm.F, .slice Qm.p Qm.O.length Qm.c], 44⟩ :: ⟨g11, #[.bool Pm.on, .int .i64 Pm.gi, .int .i64 Pm.lo, .int .i64 Pm.hi, .int .i64 Pm.est, .int .i64 Pm.F, .slice Pm.p Pm.X.length Pm.c], 38⟩ :: ⟨g2, #[.slice p G.length c, .slice q H.length d], 27⟩ :: ⟨g1, #[.int .i64 k.pu, .int .i64 k.lo, .int .i64 k.hi, .int .i64 k.rb, .int .i64 k.rp, .int .i64 k.ae, .int .i64 k.ms, .int .i64 k.ma, .int .i64 k.an, .int .i64 k.st, .int .i64 k.ss, .int .i64 k.ro, .int .i64 k.ti, .int .i64 k.br], 23⟩ :: (Nn ++ (zk20.N ++ (zk22.N ++ zk23.N)))) b6 k23.mem (List.Sublist.cons _ (List.Sublist.cons _ (List.Sublist.cons _ (List.Sublist.cons _ (List.Sublist.cons _ (List.Sublist.cons _ (List.Sublist.cons _ (List.sublist_append_left _ _)))))))) (List.Sublist.cons _ (List.Sublist.cons _ (List.Sublist.cons _ (List.Sublist.cons _ (List.Sublist.cons _ (List.Sublist.cons _ (List.Sublist.cons _ (List.sublist_append_of_sublist_right (List.sublist_append_of_sublist_right (List.sublist_append_of_sublist_right (List.Sublist.refl _)))))))))))) k23.mem.rt (List.Sublist.refl _) hE) k23.mem.rt fw9) ?_
           simp only [Act.put, Xa, Xz, Xs]
           refine wl_val (.bool false) rfl (fun _ => by go_simp) ?_
           simp only [Act.put, Xa, Xz, Xs]
           refine wl_val (.bool false) rfl (fun _ => rfl) ?_
           simp only [Act.put, Xa, Xz, Xs]
           refine wl_nil ?_
           refine we_then ?_
           refine wc_false rfl ?_
           refine wc_skip ?_
           refine we_then ?_
           refine wc_seq ?_
           refine wc_seq ?_
           refine wc_region ?_
           refine wl_val (.int .i64 (zk20.e : Int)) rfl (fun _ => rfl) ?_
           simp only [Act.put, Xa, Xz, Xs]
           refine wl_val (.bool ((zk20.e : Int) != 0)) rfl (fun w => run_cmp rfl rfl rfl Try.underlying53 rfl w) ?_
           simp only [Act.put, Xa, Xz, Xs]
           refine wl_nil ?_
           refine we_then ?_
           cases h26 : ((zk20.e : Int) != 0)
           ·
            skip
            have p26 : ¬ ((zk20.e : Int) ≠ 0) := by first | (simp; done) | (simp at h26; done) | simpa using h26
            refine wc_false rfl ?_
            refine wc_skip ?_
            refine we_then ?_
            refine wc_draw_fin (Γ := Unit) (fun _ j9 => ([.agg #[.bool zk20.on, .int .i64 zk20.gi, .int .i64 zk20.lo, .int .i64 zk20.hi, .int .i64 zk20.est, .int .i64 zk20.F, .slice zk20.p zk20.X.length zk20.c], .agg #[.int .i64 zk23.on, .int .i64 zk23.gi, .int .i64 zk23.lo, .int .i64 zk23.hi, .int .i64 zk23.est, .int .i64 zk23.F, .slice zk23.p zk23.O.length zk23.c], undef, undef]).getD j9 undef) (fun ld _ => ⟨g24, #[.int .i64 zk23.on, .int .i64 zk23.gi, .int .i64 zk23.lo, .int .i64 zk23.hi, .int .i64 zk23.est, .int .i64 zk23.F, .slice zk23.p zk23.O.length zk23.c], 44⟩ :: ⟨g21, #[.bool zk20.on, .int .i64 zk20.gi, .int .i64 zk20.lo, .int .i64 zk20.hi, .int .i64 zk20.est, .int .i64 zk20.F, .slice zk20.p zk20.X.length zk20.c], 38⟩ :: ⟨g16, #[.int .i64 (((L.drop 1)[i]!).1), .int .i64 (((L.drop 1)[i]!).2)], 32⟩ :: ⟨g14, if ld 3 = true then #[.int .i64 zk23.on, .int .i64 zk23.gi, .int .i64 zk23.lo, .int .i64 zk23.hi, .int .i64 zk23.est, .int .i64 zk23.F, .slice zk23.p zk23.O.length zk23.c] else #[.int .i64 Qm.on, .int .i64 Qm.gi, .int .i64 Qm.lo, .int .i64 Qm.hi, .int .i64 Qm.est, .int .i64 Qm.F, .slice Qm.p Qm.O.length Qm.c], 44⟩ :: ⟨g11, if ld 2 = true then #[.bool zk20.on, .int .i64 zk20.gi, .int .i64 zk20.lo, .int .i64 zk20.hi, .int .i64 zk20.est, .int .i64 zk20.F, .slice zk20.p zk20.X.length zk20.c] else #[.bool Pm.on, .int .i64 Pm.gi, .int .i64 Pm.lo, .int .i64 Pm.hi, .int .i64 Pm.est, .int .i64 Pm.F, .slice Pm.p Pm.X.length Pm.c], 38⟩ :: ⟨g2, #[.slice p G.length c, .slice q H.length d], 27⟩ :: ⟨g1, #[.int .i64 k.pu, .int .i64 k.lo, .int .i64 k.hi, .int .i64 k.rb, .int .i64 k.rp, .int .i64 k.ae, .int .i64 k.ms, .int .i64 k.ma, .int .i64 k.an, .int .i64 k.st, .int .i64 k.ss, .int .i64 k.ro, .int .i64 k.ti, .int .i64 k.br], 23⟩ :: (Nn ++ (zk20.N ++ (zk22.N ++ zk23.N)))) (fun _ _ => True) () 130 (fun _ => ({ tmps := #[.agg #[.int .i64 k.pu, .int .i64 k.lo, .int .i64 k.hi, .int .i64 k.rb, .int .i64 k.rp, .int .i64 k.ae, .int .i64 k.ms, .int .i64 k.ma, .int .i64 k.an, .int .i64 k.st, .int .i64 k.ss, .int .i64 k.ro, .int .i64 k.ti, .int .i64 k.br], .agg #[.slice p G.length c, .slice q H.length d], .int .i64 gi, .slice lp L.length lc, .pointer (some ⟨g1, 0, none⟩), .pointer (some ⟨g2, 0, none⟩), undef, undef, u8, .pointer (some ⟨g11, 0, none⟩), .pointer (some ⟨g14, 0, none⟩), undef, .pointer (some ⟨g16, 0, none⟩), .pointer (some ⟨g21, 0, none⟩), .int .i64 (zk20.e : Int), .pointer (some ⟨g24, 0, none⟩), .int .i64 (zk23.e : Int), .bool true, .bool false, .agg #[.int .i64 k.pu, .int .i64 k.lo, .int .i64 k.hi, .int .i64 k.rb, .int .i64 k.rp, .int .i64 k.ae, .int .i64 k.ms, .int .i64 k.ma, .int .i64 k.an, .int .i64 k.st, .int .i64 k.ss, .int .i64 k.ro, .int .i64 k.ti, .int .i64 k.br], .agg #[.slice p G.length c, .slice q H.length d], .int .i64 gi, .bool true, .bool false, .bool false, .slice lp L.length lc, .int .i64 (L.length : Int), .bool false, .bool false, .bool false, .slice lp L.length lc, .int .i64 (L.length : Int), .bool false, .bool false, .slice lp L.length lc, eaddr lp (0 * 2), .agg #[.int .i64 ((L[0]!).1), .int .i64 ((L[0]!).2)], .bool true, .bool false, .bool false, .slice lp L.length lc, eaddr lp (0 * 2), .agg #[.int .i64 ((L[0]!).1), .int .i64 ((L[0]!).2)], .pointer (some ⟨g1, 6, none⟩), .int .i64 k.ms, .int .i64 (-k.ms), .pointer (some ⟨g1, 6, none⟩), .int .i64 k.ms, .agg #[.int .i64 (-k.ms), .int .i64 k.ms], .bool true, .bool (!(true)), .bool (!(true)), .agg #[.int .i64 k.pu, .int .i64 k.lo, .int .i64 k.hi, .int .i64 k.rb, .int .i64 k.rp, .int .i64 k.ae, .int .i64 k.ms, .int .i64 k.ma, .int .i64 k.an, .int .i64 k.st, .int .i64 k.ss, .int .i64 k.ro, .int .i64 k.ti, .int .i64 k.br], .agg #[.slice p G.length c, .slice q H.length d], .int .i64 gi, .slice lp L.length lc, eaddr lp (0 * 2), .agg #[.int .i64 ((L[0]!).1), .int .i64 ((L[0]!).2)], .agg #[.bool true, .int .i64 gi, .int .i64 (-((H[gi.toNat]!).acc + k.an) + min ((L[0]!).1) 0), .int .i64 ((H[gi.toNat]!).acc + k.an + max ((L[0]!).2) 0), .int .i64 ((min ((L[0]!).1) 0 + max ((L[0]!).2) 0) / 2), .int .i64 ((H[gi.toNat]!).off), .slice zk10.p 1 zk10.c], .agg #[.int .i64 k.pu, .int .i64 k.lo, .int .i64 k.hi, .int .i64 k.rb, .int .i64 k.rp, .int .i64 k.ae, .int .i64 k.ms, .int .i64 k.ma, .int .i64 k.an, .int .i64 k.st, .int .i64 k.ss, .int .i64 k.ro, .int .i64 k.ti, .int .i64 k.br], .agg #[.slice p G.length c, .slice q H.length d], .agg #[.slice zk12.p zk12.K.length zk12.c, .slice zk12.q H.length zk12.d], .int .i64 gi, .slice lp L.length lc, eaddr lp (0 * 2), eaddr lp (0 * 2 + 0), .int .i64 ((L[0]!).1), .slice lp L.length lc, eaddr lp (0 * 2), eaddr lp (0 * 2 + 1), .int .i64 ((L[0]!).2), .agg #[.int .i64 1, .int .i64 gi, .int .i64 (-((H[gi.toNat]!).acc + k.an) + min ((L[0]!).1) 0), .int .i64 ((H[gi.toNat]!).acc + k.an + max ((L[0]!).2) 0), .int .i64 ((min ((L[0]!).1) 0 + max ((L[0]!).2) 0) / 2), .int .i64 ((H[gi.toNat]!).off), .slice zk13.p 1 zk13.c], .agg #[.bool true, .int .i64 gi, .int .i64 (-((H[gi.toNat]!).acc + k.an) + min ((L[0]!).1) 0), .int .i64 ((H[gi.toNat]!).acc + k.an + max ((L[0]!).2) 0), .int .i64 ((min ((L[0]!).1) 0 + max ((L[0]!).2) 0) / 2), .int .i64 ((H[gi.toNat]!).off), .slice zk10.p 1 zk10.c], .agg #[.int .i64 1, .int .i64 gi, .int .i64 (-((H[gi.toNat]!).acc + k.an) + min ((L[0]!).1) 0), .int .i64 ((H[gi.toNat]!).acc + k.an + max ((L[0]!).2) 0), .int .i64 ((min ((L[0]!).1) 0 + max ((L[0]!).2) 0) / 2), .int .i64 ((H[gi.toNat]!).off), .slice zk13.p 1 zk13.c], .bool true, .bool false, .slice lp L.length lc, .slice (subz 2 lp 1 lc) (L.length - 1) (lc - 1), .int .i64 ((L.length - 1 : Nat) : Int), .int .i64 (i : Int), .bool true, eaddr (subz 2 lp 1 lc) (i * 2), .agg #[.int .i64 (((L.drop 1)[i]!).1), .int .i64 (((L.drop 1)[i]!).2)], .pointer (some ⟨g16, 0, none⟩), .int .i64 (((L.drop 1)[i]!).1), .pointer (some ⟨g16, 1, none⟩), .int .i64 (((L.drop 1)[i]!).2), .bool false, .bool false, .pointer (some ⟨g16, 0, none⟩), .int .i64 (((L.drop 1)[i]!).1), .bool false, .bool false, .bool false, .pointer (some ⟨g16, 1, none⟩), .int .i64 (((L.drop 1)[i]!).2), .bool false, .bool false, .tuple #[.agg #[.bool zk20.on, .int .i64 zk20.gi, .int .i64 zk20.lo, .int .i64 zk20.hi, .int .i64 zk20.est, .int .i64 zk20.F, .slice zk20.p zk20.X.length zk20.c], .int .i64 (zk20.e : Int)], .agg #[.bool Pm.on, .int .i64 Pm.gi, .int .i64 Pm.lo, .int .i64 Pm.hi, .int .i64 Pm.est, .int .i64 Pm.F, .slice Pm.p Pm.X.length Pm.c], .agg #[.slice p G.length c, .slice q H.length d], .agg #[.int .i64 (((L.drop 1)[i]!).1), .int .i64 (((L.drop 1)[i]!).2)], .tuple #[.agg #[.bool zk20.on, .int .i64 zk20.gi, .int .i64 zk20.lo, .int .i64 zk20.hi, .int .i64 zk20.est, .int .i64 zk20.F, .slice zk20.p zk20.X.length zk20.c], .int .i64 (zk20.e : Int)], .agg #[.bool zk20.on, .int .i64 zk20.gi, .int .i64 zk20.lo, .int .i64 zk20.hi, .int .i64 zk20.est, .int .i64 zk20.F, .slice zk20.p zk20.X.length zk20.c], .int .i64 (zk20.e : Int), .tuple #[.agg #[.int .i64 zk23.on, .int .i64 zk23.gi, .int .i64 zk23.lo, .int .i64 zk23.hi, .int .i64 zk23.est, .int .i64 zk23.F, .slice zk23.p zk23.O.length zk23.c], .int .i64 (zk23.e : Int)], .agg #[.slice p G.length c, .slice q H.length d], .agg #[.slice zk22.p zk22.K.length zk22.c, .slice zk22.q H.length zk22.d], .agg #[.int .i64 Qm.on, .int .i64 Qm.gi, .int .i64 Qm.lo, .int .i64 Qm.hi, .int .i64 Qm.est, .int .i64 Qm.F, .slice Qm.p Qm.O.length Qm.c], .pointer (some ⟨g16, 0, none⟩), .int .i64 (((L.drop 1)[i]!).1), .pointer (some ⟨g16, 1, none⟩), .int .i64 (((L.drop 1)[i]!).2), .tuple #[.agg #[.int .i64 zk23.on, .int .i64 zk23.gi, .int .i64 zk23.lo, .int .i64 zk23.hi, .int .i64 zk23.est, .int .i64 zk23.F, .slice zk23.p zk23.O.length zk23.c], .int .i64 (zk23.e : Int)], .agg #[.int .i64 zk23.on, .int .i64 zk23.gi, .int .i64 zk23.lo, .int .i64 zk23.hi, .int .i64 zk23.est, .int .i64 zk23.F, .slice zk23.p zk23.O.length zk23.c], .int .i64 (zk23.e : Int), .int .i64 (zk20.e : Int), .int .i64 (zk23.e : Int), .bool false, .bool false, .agg #[.bool zk20.on, .int .i64 zk20.gi, .int .i64 zk20.lo, .int .i64 zk20.hi, .int .i64 zk20.est, .int .i64 zk20.F, .slice zk20.p zk20.X.length zk20.c], .agg #[.int .i64 zk23.on, .int .i64 zk23.gi, .int .i64 zk23.lo, .int .i64 zk23.hi, .int .i64 zk23.est, .int .i64 zk23.F, .slice zk23.p zk23.O.length zk23.c], .bool true, .bool false, .bool false, .int .i64 (zk20.e : Int), .bool false, .agg #[.bool zk20.on, .int .i64 zk20.gi, .int .i64 zk20.lo, .int .i64 zk20.hi, .int .i64 zk20.est, .int .i64 zk20.F, .slice zk20.p zk20.X.length zk20.c], .agg #[.int .i64 zk23.on, .int .i64 zk23.gi, .int .i64 zk23.lo, .int .i64 zk23.hi, .int .i64 zk23.est, .int .i64 zk23.F, .slice zk23.p zk23.O.length zk23.c], u129], defers := [] } : Act)) (fun _ => ⟨g24, #[.int .i64 zk23.on, .int .i64 zk23.gi, .int .i64 zk23.lo, .int .i64 zk23.hi, .int .i64 zk23.est, .int .i64 zk23.F, .slice zk23.p zk23.O.length zk23.c], 44⟩ :: ⟨g21, #[.bool zk20.on, .int .i64 zk20.gi, .int .i64 zk20.lo, .int .i64 zk20.hi, .int .i64 zk20.est, .int .i64 zk20.F, .slice zk20.p zk20.X.length zk20.c], 38⟩ :: ⟨g16, #[.int .i64 (((L.drop 1)[i]!).1), .int .i64 (((L.drop 1)[i]!).2)], 32⟩ :: ⟨g14, #[.int .i64 zk23.on, .int .i64 zk23.gi, .int .i64 zk23.lo, .int .i64 zk23.hi, .int .i64 zk23.est, .int .i64 zk23.F, .slice zk23.p zk23.O.length zk23.c], 44⟩ :: ⟨g11, #[.bool zk20.on, .int .i64 zk20.gi, .int .i64 zk20.lo, .int .i64 zk20.hi, .int .i64 zk20.est, .int .i64 zk20.F, .slice zk20.p zk20.X.length zk20.c], 38⟩ :: ⟨g2, #[.slice p G.length c, .slice q H.length d], 27⟩ :: ⟨g1, #[.int .i64 k.pu, .int .i64 k.lo, .int .i64 k.hi, .int .i64 k.rb, .int .i64 k.rp, .int .i64 k.ae, .int .i64 k.ms, .int .i64 k.ma, .int .i64 k.an, .int .i64 k.st, .int .i64 k.ss, .int .i64 k.ro, .int .i64 k.ti, .int .i64 k.br], 23⟩ :: (Nn ++ (zk20.N ++ (zk22.N ++ zk23.N)))) (by kernel_rfl) rfl (by kernel_rfl) rfl trivial (fun _ => by kernel_rfl) (fun _ => rfl) ?_ ?_
            ·
             skip
             refine sps_cons (sp_val (.agg #[.bool zk20.on, .int .i64 zk20.gi, .int .i64 zk20.lo, .int .i64 zk20.hi, .int .i64 zk20.est, .int .i64 zk20.F, .slice zk20.p zk20.X.length zk20.c]) rfl (fun _ => rfl) (fun _ _ h => h) (fun _ _ => rfl) (fun ld γ9 a9 w9 h9 hE9 => load_row (hE9.rowAt (i := 1) rfl) rfl (h9.out (by kernel_rfl) rfl) Try.underlying38 rfl (by kernel_rfl))) ?_
             refine sps_cons (sp_val (.agg #[.int .i64 zk23.on, .int .i64 zk23.gi, .int .i64 zk23.lo, .int .i64 zk23.hi, .int .i64 zk23.est, .int .i64 zk23.F, .slice zk23.p zk23.O.length zk23.c]) rfl (fun _ => rfl) (fun _ _ h => h) (fun _ _ => rfl) (fun ld γ9 a9 w9 h9 hE9 => load_row (hE9.rowAt (i := 0) rfl) rfl (h9.out (by kernel_rfl) rfl) Try.underlying44 rfl (by kernel_rfl))) ?_
             refine sps_cons ⟨fun ld γ9 a9 w9 h9 _ hE9 K9 hK9 => h9.go rfl ?_⟩ ?_
             ·
              have l0 : ld 2 = false := h9.off
              have hE2 := hE9
              simp only [l0, Bool.false_eq_true, if_false] at hE2
              exact wp_store_row 38 _ _ rfl _ (#[.bool zk20.on, .int .i64 zk20.gi, .int .i64 zk20.lo, .int .i64 zk20.hi, .int .i64 zk20.est, .int .i64 zk20.F, .slice zk20.p zk20.X.length zk20.c]) (h9.out (by kernel_rfl) rfl) (h9.tmp 0 rfl (h9.dep (by kernel_rfl))) _ _ (hE2.rowAt (i := 4) rfl) (by kernel_rfl) rfl (by simp [Value.oneCell']) (hK9 γ9 _ (fun _ _ => rfl) trivial (hE2.setRow (i := 4) rfl (#[.bool zk20.on, .int .i64 zk20.gi, .int .i64 zk20.lo, .int .i64 zk20.hi, .int .i64 zk20.est, .int .i64 zk20.F, .slice zk20.p zk20.X.length zk20.c])))
             refine sps_cons ⟨fun ld γ9 a9 w9 h9 _ hE9 K9 hK9 => h9.go rfl ?_⟩ ?_
             ·
              have l0 : ld 3 = false := h9.off
              have hE2 := hE9
              simp only [l0, Bool.false_eq_true, if_false] at hE2
              exact wp_store_row 44 _ _ rfl _ (#[.int .i64 zk23.on, .int .i64 zk23.gi, .int .i64 zk23.lo, .int .i64 zk23.hi, .int .i64 zk23.est, .int .i64 zk23.F, .slice zk23.p zk23.O.length zk23.c]) (h9.out (by kernel_rfl) rfl) (h9.tmp 1 rfl (h9.dep (by kernel_rfl))) _ _ (hE2.rowAt (i := 3) rfl) (by kernel_rfl) rfl (by simp [Value.oneCell']) (hK9 γ9 _ (fun _ _ => rfl) trivial (hE2.setRow (i := 3) rfl (#[.int .i64 zk23.on, .int .i64 zk23.gi, .int .i64 zk23.lo, .int .i64 zk23.hi, .int .i64 zk23.est, .int .i64 zk23.F, .slice zk23.p zk23.O.length zk23.c])))
             exact sps_nil
            rintro ⟨⟩ -
            (try dsimp only)
            refine we_in ?_
            refine we_then ?_
            refine wc_region ?_
            refine wl_val (.int .i64 ((i + 1 : Nat) : Int)) rfl (fun w => run_nat (X := i) (Y := 1) (Z := i + 1) rfl rfl rfl rfl (by omega) w) ?_
            simp only [Act.put, Xa, Xz, Xs]
            refine wl_val (.int .i64 ((i + 1 : Nat) : Int)) rfl (fun _ => rfl) ?_
            simp only [Act.put, Xa, Xz, Xs]
            refine wl_nil ?_
            exact we_meet ⟨(i + 1), zk20, zk23, (Nn ++ (zk20.N ++ (zk22.N ++ zk23.N))), _, _, _, _, _, _, _, _, _, _, _, _, _, _, _, _, _, _, _, _, _, _, _, _, _, _, _, _, _, _, _, _, _, _, _, _, _, _, _, _, _, _, _, _, _, _, _, _, _, _, _, _, _, _, _, _⟩ (by (try dsimp only); exact ⟨⟨by omega, pl_next hM.segs b2.set (by have := b2.mid; omega) k20 (by omega), eq9.2, Held.mono k20.held ((List.sublist_append_left _ _).trans (List.sublist_append_right _ _)), Held.mono k23.held ((((List.Sublist.refl _).trans (List.sublist_append_right _ _)).trans (List.sublist_append_right _ _)).trans (List.sublist_append_right _ _)), heldi_mem b6 k23.mem (List.sublist_append_left _ _) ((((List.Sublist.refl _).trans (List.sublist_append_right _ _)).trans (List.sublist_append_right _ _)).trans (List.sublist_append_right _ _))⟩, by omega⟩) rfl (List.Sublist.cons _ (List.Sublist.cons _ (List.Sublist.cons _ (List.Sublist.cons_cons _ (List.Sublist.cons_cons _ (List.Sublist.cons_cons _ (List.Sublist.cons_cons _ (List.Sublist.refl _))))))))
           ·
            skip
            have p26 : (zk20.e : Int) ≠ 0 := by first | (simp; done) | (simp at h26; done) | simpa using h26
            refine wc_true rfl ?_
            refine wc_seq ?_
            refine wc_region ?_
            refine wl_val (.bool true) rfl (fun _ => rfl) ?_
            simp only [Act.put, Xa, Xz, Xs]
            refine wl_nil ?_
            refine we_then ?_
            refine wc_ret ?_
            refine we_then_ret ?_
            refine we_in_ret ?_
            refine we_then_ret ?_
            refine we_then_ret ?_
            refine we_in_ret ?_
            refine we_then_ret ?_
            refine we_ret1 (.bool true) rfl rfl rfl (fun w1 hE => ?_)
            exact ⟨rfl, hE.below⟩
          ·
           skip
           have p25 : (zk20.e : Int) ≠ (zk23.e : Int) := by first | (simp; done) | (simp at h25; done) | simpa using h25
           refine wl_skip rfl ?_
           simp only [Act.put, Xa, Xz, Xs]
           refine wl_skip rfl ?_
           simp only [Act.put, Xa, Xz, Xs]
           refine wl_skip rfl ?_
           simp only [Act.put, Xa, Xz, Xs]
           refine wl_skip rfl ?_
           simp only [Act.put, Xa, Xz, Xs]
           refine wl_val (.bool true) rfl (fun _ => rfl) ?_
           simp only [Act.put, Xa, Xz, Xs]
           refine wl_nil ?_
           refine we_then ?_
           refine wc_true rfl ?_
           refine wc_seq ?_
           refine wc_region ?_
           refine wl_val (.bool false) rfl (fun _ => rfl) ?_
           simp only [Act.put, Xa, Xz, Xs]
           refine wl_nil ?_
           refine we_then ?_
           refine wc_ret ?_
           refine we_then_ret ?_
           refine we_in_ret ?_
           refine we_then_ret ?_
           refine we_then_ret ?_
           refine we_in_ret ?_
           refine we_then_ret ?_
           refine we_ret1 (.bool false) rfl rfl rfl (fun w1 hE => ?_)
           exact (by exfalso; omega)
         ·
          skip
          have p19 : 1099511627776 < ((L.drop 1)[i]!).2 := of_decide_eq_true h19
          refine wc_true rfl ?_
          refine wc_seq ?_
          refine wc_region ?_
          refine wl_val (.bool true) rfl (fun _ => rfl) ?_
          simp only [Act.put, Xa, Xz, Xs]
          refine wl_nil ?_
          refine we_then ?_
          refine wc_ret ?_
          refine we_then_ret ?_
          refine we_in_ret ?_
          refine we_then_ret ?_
          refine we_then_ret ?_
          refine we_in_ret ?_
          refine we_then_ret ?_
          refine we_ret1 (.bool true) rfl rfl rfl (fun w1 hE => ?_)
          exact ⟨rfl, hE.below⟩
        ·
         skip
         have p18 : ((L.drop 1)[i]!).1 < -1099511627776 := of_decide_eq_true h18
         refine wl_skip rfl ?_
         simp only [Act.put, Xa, Xz, Xs]
         refine wl_skip rfl ?_
         simp only [Act.put, Xa, Xz, Xs]
         refine wl_skip rfl ?_
         simp only [Act.put, Xa, Xz, Xs]
         refine wl_val (.bool true) rfl (fun _ => rfl) ?_
         simp only [Act.put, Xa, Xz, Xs]
         refine wl_nil ?_
         refine we_then ?_
         refine wc_true rfl ?_
         refine wc_seq ?_
         refine wc_region ?_
         refine wl_val (.bool true) rfl (fun _ => rfl) ?_
         simp only [Act.put, Xa, Xz, Xs]
         refine wl_nil ?_
         refine we_then ?_
         refine wc_ret ?_
         refine we_then_ret ?_
         refine we_in_ret ?_
         refine we_then_ret ?_
         refine we_then_ret ?_
         refine we_in_ret ?_
         refine we_then_ret ?_
         refine we_ret1 (.bool true) rfl rfl rfl (fun w1 hE => ?_)
         exact ⟨rfl, hE.below⟩
       ·
        skip
        have p17 : ((L.drop 1)[i]!).2 < ((L.drop 1)[i]!).1 := of_decide_eq_true h17
        refine wl_skip rfl ?_
        simp only [Act.put, Xa, Xz, Xs]
        refine wl_skip rfl ?_
        simp only [Act.put, Xa, Xz, Xs]
        refine wl_skip rfl ?_
        simp only [Act.put, Xa, Xz, Xs]
        refine wl_val (.bool true) rfl (fun _ => rfl) ?_
        simp only [Act.put, Xa, Xz, Xs]
        refine wl_val (.bool true) rfl (fun _ => rfl) ?_
        simp only [Act.put, Xa, Xz, Xs]
        refine wl_skip rfl ?_
        simp only [Act.put, Xa, Xz, Xs]
        refine wl_skip rfl ?_
        simp only [Act.put, Xa, Xz, Xs]
        refine wl_skip rfl ?_
        simp only [Act.put, Xa, Xz, Xs]
        refine wl_val (.bool true) rfl (fun _ => rfl) ?_
        simp only [Act.put, Xa, Xz, Xs]
        refine wl_nil ?_
        refine we_then ?_
        refine wc_true rfl ?_
        refine wc_seq ?_
        refine wc_region ?_
        refine wl_val (.bool true) rfl (fun _ => rfl) ?_
        simp only [Act.put, Xa, Xz, Xs]
        refine wl_nil ?_
        refine we_then ?_
        refine wc_ret ?_
        refine we_then_ret ?_
        refine we_in_ret ?_
        refine we_then_ret ?_
        refine we_then_ret ?_
        refine we_in_ret ?_
        refine we_then_ret ?_
        refine we_ret1 (.bool true) rfl rfl rfl (fun w1 hE => ?_)
        exact ⟨rfl, hE.below⟩
   ·
    skip
    have p5 : 30 < (L.length : Int) := of_decide_eq_true h5
    refine wc_true rfl ?_
    refine wc_seq ?_
    refine wc_region ?_
    refine wl_val (.bool true) rfl (fun _ => rfl) ?_
    simp only [Act.put, Xa, Xz, Xs]
    refine wl_nil ?_
    refine we_then ?_
    refine wc_ret ?_
    refine we_then_ret ?_
    refine we_ret1 (.bool true) rfl rfl rfl (fun w1 hE => ?_)
    exact ⟨rfl, hE.below⟩
  ·
   skip
   have p4 : (L.length : Int) = 0 := by first | (simp; done) | (simp at h4; done) | simpa using h4
   refine wl_skip rfl ?_
   simp only [Act.put, Xa, Xz, Xs]
   refine wl_skip rfl ?_
   simp only [Act.put, Xa, Xz, Xs]
   refine wl_skip rfl ?_
   simp only [Act.put, Xa, Xz, Xs]
   refine wl_val (.bool true) rfl (fun _ => rfl) ?_
   simp only [Act.put, Xa, Xz, Xs]
   refine wl_nil ?_
   refine we_then ?_
   refine wc_true rfl ?_
   refine wc_seq ?_
   refine wc_region ?_
   refine wl_val (.bool true) rfl (fun _ => rfl) ?_
   simp only [Act.put, Xa, Xz, Xs]
   refine wl_nil ?_
   refine we_then ?_
   refine wc_ret ?_
   refine we_then_ret ?_
   refine we_ret1 (.bool true) rfl rfl rfl (fun w1 hE => ?_)
   exact ⟨rfl, hE.below⟩
end Go.Proofs.Ytbacchdkankioaa.Walks
