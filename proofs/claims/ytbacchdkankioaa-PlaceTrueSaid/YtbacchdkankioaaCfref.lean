/-
 The reference of layer 13 (configurations): the first rule that doesn't hold, growth, which track fits. Condition: at most 2^47 segments, groups.
-/
import Derived.Test.YtbacchdkankioaaCf
import Derived.Test.YtbacchdkankioaaMkr
namespace Go.Proofs.Ytbacchdkankioaa.Cfref
open Go.ChangeShapes Go.WideShapes Go.ChangeAt Go.RowKit
open Arr Steady Sx Sw Sl Sb Sc Vs Gr Tk Tkh Tkl Cf
set_option linter.unusedVariables false
set_option linter.unusedSimpArgs false
set_option maxRecDepth 100000

set_option maxHeartbeats 2000000 in
theorem up_any (a b : Int) (w : World) (h1 : 0 ≤ a) (h2 : a ≤ 1152921504606846976) (h3 : 1 ≤ b) (h4 : b ≤ 1152921504606846976) :
  Calls Try.prog 35 #[.int .i64 a, .int .i64 b] w fun e w' => e = .returned (.int .i64 (upq a b)) ∧ Below w.heap.size w w' := by
 have u1 : 0 ≤ (a + b - 1) / b := upq_pos h3 h1
 have u2 : (a + b - 1) / b ≤ a := upq_self h3 h1
 refine calls_sx Try.func35 rfl ?_
 simp only [Try.ntmps35, List.size_toArray, List.length_cons, List.length_nil, Nat.reduceAdd, Nat.reduceSub, Array.replicate_succ, Array.replicate_zero, List.push_toArray, List.append_toArray, List.nil_append, List.cons_append]
 refine wc_seq ?_
 refine wc_region ?_
 refine wl_val (.int .i64 0) rfl (fun _ => rfl) ?_
 simp only [Act.put, Xa, Xz, Xs]
 refine wl_nil ?_
 refine we_then ?_
 refine wc_seq ?_
 refine wc_region ?_
 refine wl_val (.int .i64 a) rfl (fun _ => rfl) ?_
 simp only [Act.put, Xa, Xz, Xs]
 refine wl_val (.int .i64 b) rfl (fun _ => rfl) ?_
 simp only [Act.put, Xa, Xz, Xs]
 refine wl_val (.int .i64 (a + b)) rfl (fun w => run_arith (op := .add) rfl rfl rfl Try.underlying2 (congrArg some (i64_in (by omega) (by omega))) w) ?_
 simp only [Act.put, Xa, Xz, Xs]
 refine wl_val (.int .i64 ((a + b) - 1)) rfl (fun w => run_arith (op := .sub) rfl rfl rfl Try.underlying2 (congrArg some (i64_in (by omega) (by omega))) w) ?_
 simp only [Act.put, Xa, Xz, Xs]
 refine wl_val (.int .i64 b) rfl (fun _ => rfl) ?_
 simp only [Act.put, Xa, Xz, Xs]
 refine wl_val (.int .i64 (((a + b) - 1) / b)) rfl (fun w => run_quo rfl rfl rfl Try.underlying2 (by omega) (by omega) (i64_in (by omega) (by omega)) w) ?_
 simp only [Act.put, Xa, Xz, Xs]
 refine wl_val (.int .i64 (((a + b) - 1) / b)) rfl (fun _ => rfl) ?_
 simp only [Act.put, Xa, Xz, Xs]
 refine wl_nil ?_
 refine we_then ?_
 refine wc_ret ?_
 refine we_ret1 (.int .i64 (((a + b) - 1) / b)) rfl rfl rfl (fun w1 hE => ?_)
 exact ⟨rfl, hE.below⟩
set_option maxHeartbeats 8000000 in
theorem wrong_any (c : Cf) (w : World) :
  Calls Try.prog 18 #[.agg #[.int .i64 c.pu, .int .i64 c.lo, .int .i64 c.hi, .int .i64 c.rb, .int .i64 c.rp, .int .i64 c.ae, .int .i64 c.ms, .int .i64 c.ma, .int .i64 c.an, .int .i64 c.st, .int .i64 c.ss, .int .i64 c.ro, .int .i64 c.ti, .int .i64 c.br]] w fun e w' => e = .returned (.int .i64 ((wrong c : Nat) : Int)) ∧ Below w.heap.size w w' := by
 refine calls_sx Try.func18 rfl ?_
 simp only [Try.ntmps18, List.size_toArray, List.length_cons, List.length_nil, Nat.reduceAdd, Nat.reduceSub, Array.replicate_succ, Array.replicate_zero, List.push_toArray, List.append_toArray, List.nil_append, List.cons_append]
 refine wc_seq ?_
 refine wc_region ?_
 refine wl_new 46 (#[.int .i64 c.pu, .int .i64 c.lo, .int .i64 c.hi, .int .i64 c.rb, .int .i64 c.rp, .int .i64 c.ae, .int .i64 c.ms, .int .i64 c.ma, .int .i64 c.an, .int .i64 c.st, .int .i64 c.ss, .int .i64 c.ro, .int .i64 c.ti, .int .i64 c.br]) rfl (fun _ => by go_simp) ?_
 intro g1
 simp only [Act.put, Xa, Xz, Xs]
 refine wl_val (.int .i64 0) rfl (fun _ => rfl) ?_
 simp only [Act.put, Xa, Xz, Xs]
 refine wl_nil ?_
 refine we_then ?_
 refine wc_seq ?_
 refine wc_seq ?_
 refine wc_region ?_
 refine wl_val (.pointer (some ⟨g1, 0, none⟩)) rfl (fun _ => by go_simp) ?_
 simp only [Act.put, Xa, Xz, Xs]
 refine wl_cell 2 (.tmp 3) (.int .i64 c.pu) (own_row 0 rfl) rfl rfl rfl rfl Try.isAgg2 ?_
 simp only [Act.put, Xa, Xz, Xs]
 refine wl_val (.bool (decide (c.pu < 1))) rfl (fun w => run_cmp rfl rfl rfl Try.underlying2 rfl w) ?_
 simp only [Act.put, Xa, Xz, Xs]
 refine wl_val (.bool (decide (c.pu < 1))) rfl (fun _ => rfl) ?_
 simp only [Act.put, Xa, Xz, Xs]
 cases h2 : (decide (c.pu < 1))
 ·
  skip
  have p2 : ¬ (c.pu < 1) := of_decide_eq_false h2
  refine wl_val (.pointer (some ⟨g1, 0, none⟩)) rfl (fun _ => by go_simp) ?_
  simp only [Act.put, Xa, Xz, Xs]
  refine wl_cell 2 (.tmp 7) (.int .i64 c.pu) (own_row 0 rfl) rfl rfl rfl rfl Try.isAgg2 ?_
  simp only [Act.put, Xa, Xz, Xs]
  refine wl_val (.bool (decide (1024 < c.pu))) rfl (fun w => run_cmp rfl rfl rfl Try.underlying2 rfl w) ?_
  simp only [Act.put, Xa, Xz, Xs]
  refine wl_val (.bool (decide (1024 < c.pu))) rfl (fun _ => rfl) ?_
  simp only [Act.put, Xa, Xz, Xs]
  refine wl_nil ?_
  refine we_then ?_
  cases h3 : (decide (1024 < c.pu))
  ·
   skip
   have p3 : ¬ (1024 < c.pu) := of_decide_eq_false h3
   refine wc_false rfl ?_
   refine wc_skip ?_
   refine we_then ?_
   refine wc_seq ?_
   refine wc_seq ?_
   refine wc_region ?_
   refine wl_val (.pointer (some ⟨g1, 1, none⟩)) rfl (fun _ => by go_simp) ?_
   simp only [Act.put, Xa, Xz, Xs]
   refine wl_cell 2 (.tmp 11) (.int .i64 c.lo) (own_row 0 rfl) rfl rfl rfl rfl Try.isAgg2 ?_
   simp only [Act.put, Xa, Xz, Xs]
   refine wl_val (.bool (decide (c.lo < 131072))) rfl (fun w => run_cmp rfl rfl rfl Try.underlying2 rfl w) ?_
   simp only [Act.put, Xa, Xz, Xs]
   refine wl_val (.bool (decide (c.lo < 131072))) rfl (fun _ => rfl) ?_
   simp only [Act.put, Xa, Xz, Xs]
   cases h4 : (decide (c.lo < 131072))
   ·
    skip
    have p4 : ¬ (c.lo < 131072) := of_decide_eq_false h4
    refine wl_val (.pointer (some ⟨g1, 1, none⟩)) rfl (fun _ => by go_simp) ?_
    simp only [Act.put, Xa, Xz, Xs]
    refine wl_cell 2 (.tmp 15) (.int .i64 c.lo) (own_row 0 rfl) rfl rfl rfl rfl Try.isAgg2 ?_
    simp only [Act.put, Xa, Xz, Xs]
    refine wl_val (.bool (decide (8388608 < c.lo))) rfl (fun w => run_cmp rfl rfl rfl Try.underlying2 rfl w) ?_
    simp only [Act.put, Xa, Xz, Xs]
    refine wl_val (.bool (decide (8388608 < c.lo))) rfl (fun _ => rfl) ?_
    simp only [Act.put, Xa, Xz, Xs]
    refine wl_val (.bool (decide (8388608 < c.lo))) rfl (fun _ => rfl) ?_
    simp only [Act.put, Xa, Xz, Xs]
    cases h5 : (decide (8388608 < c.lo))
    ·
     skip
     have p5 : ¬ (8388608 < c.lo) := of_decide_eq_false h5
     refine wl_val (.pointer (some ⟨g1, 2, none⟩)) rfl (fun _ => by go_simp) ?_
     simp only [Act.put, Xa, Xz, Xs]
     refine wl_cell 2 (.tmp 20) (.int .i64 c.hi) (own_row 0 rfl) rfl rfl rfl rfl Try.isAgg2 ?_
     simp only [Act.put, Xa, Xz, Xs]
     refine wl_val (.pointer (some ⟨g1, 1, none⟩)) rfl (fun _ => by go_simp) ?_
     simp only [Act.put, Xa, Xz, Xs]
     refine wl_cell 2 (.tmp 22) (.int .i64 c.lo) (own_row 0 rfl) rfl rfl rfl rfl Try.isAgg2 ?_
     simp only [Act.put, Xa, Xz, Xs]
     refine wl_val (.bool (decide (c.hi < c.lo))) rfl (fun w => run_cmp rfl rfl rfl Try.underlying2 rfl w) ?_
     simp only [Act.put, Xa, Xz, Xs]
     refine wl_val (.bool (decide (c.hi < c.lo))) rfl (fun _ => rfl) ?_
     simp only [Act.put, Xa, Xz, Xs]
     refine wl_val (.bool (decide (c.hi < c.lo))) rfl (fun _ => rfl) ?_
     simp only [Act.put, Xa, Xz, Xs]
     cases h6 : (decide (c.hi < c.lo))
     ·
      skip
      have p6 : ¬ (c.hi < c.lo) := of_decide_eq_false h6
      refine wl_val (.pointer (some ⟨g1, 2, none⟩)) rfl (fun _ => by go_simp) ?_
      simp only [Act.put, Xa, Xz, Xs]
      refine wl_cell 2 (.tmp 27) (.int .i64 c.hi) (own_row 0 rfl) rfl rfl rfl rfl Try.isAgg2 ?_
      simp only [Act.put, Xa, Xz, Xs]
      refine wl_val (.bool (decide (8388608 < c.hi))) rfl (fun w => run_cmp rfl rfl rfl Try.underlying2 rfl w) ?_
      simp only [Act.put, Xa, Xz, Xs]
      refine wl_val (.bool (decide (8388608 < c.hi))) rfl (fun _ => rfl) ?_
      simp only [Act.put, Xa, Xz, Xs]
      refine wl_nil ?_
      refine we_then ?_
      cases h7 : (decide (8388608 < c.hi))
      ·
       skip
       have p7 : ¬ (8388608 < c.hi) := of_decide_eq_false h7
       refine wc_false rfl ?_
       refine wc_skip ?_
       refine we_then ?_
       refine wc_seq ?_
       refine wc_seq ?_
       refine wc_region ?_
       refine wl_val (.pointer (some ⟨g1, 2, none⟩)) rfl (fun _ => by go_simp) ?_
       simp only [Act.put, Xa, Xz, Xs]
       refine wl_cell 2 (.tmp 31) (.int .i64 c.hi) (own_row 0 rfl) rfl rfl rfl rfl Try.isAgg2 ?_
       simp only [Act.put, Xa, Xz, Xs]
       refine wl_val (.pointer (some ⟨g1, 1, none⟩)) rfl (fun _ => by go_simp) ?_
       simp only [Act.put, Xa, Xz, Xs]
       refine wl_cell 2 (.tmp 33) (.int .i64 c.lo) (own_row 0 rfl) rfl rfl rfl rfl Try.isAgg2 ?_
       simp only [Act.put, Xa, Xz, Xs]
       refine wl_val (.int .i64 (c.hi - c.lo)) rfl (fun w => run_arith (op := .sub) rfl rfl rfl Try.underlying2 (congrArg some (i64_in (by omega) (by omega))) w) ?_
       simp only [Act.put, Xa, Xz, Xs]
       refine wl_val (.int .i64 ((c.hi - c.lo) * 16)) rfl (fun w => run_arith (op := .mul) rfl rfl rfl Try.underlying2 (congrArg some (i64_in (by omega) (by omega))) w) ?_
       simp only [Act.put, Xa, Xz, Xs]
       refine wl_val (.pointer (some ⟨g1, 1, none⟩)) rfl (fun _ => by go_simp) ?_
       simp only [Act.put, Xa, Xz, Xs]
       refine wl_cell 2 (.tmp 37) (.int .i64 c.lo) (own_row 0 rfl) rfl rfl rfl rfl Try.isAgg2 ?_
       simp only [Act.put, Xa, Xz, Xs]
       refine wl_val (.bool (decide (c.lo < (c.hi - c.lo) * 16))) rfl (fun w => run_cmp rfl rfl rfl Try.underlying2 rfl w) ?_
       simp only [Act.put, Xa, Xz, Xs]
       refine wl_nil ?_
       refine we_then ?_
       cases h8 : (decide (c.lo < (c.hi - c.lo) * 16))
       ·
        skip
        have p8 : ¬ (c.lo < (c.hi - c.lo) * 16) := of_decide_eq_false h8
        refine wc_false rfl ?_
        refine wc_skip ?_
        refine we_then ?_
        refine wc_seq ?_
        refine wc_seq ?_
        refine wc_region ?_
        refine wl_val (.pointer (some ⟨g1, 3, none⟩)) rfl (fun _ => by go_simp) ?_
        simp only [Act.put, Xa, Xz, Xs]
        refine wl_cell 2 (.tmp 40) (.int .i64 c.rb) (own_row 0 rfl) rfl rfl rfl rfl Try.isAgg2 ?_
        simp only [Act.put, Xa, Xz, Xs]
        refine wl_val (.bool (decide (c.rb < 0))) rfl (fun w => run_cmp rfl rfl rfl Try.underlying2 rfl w) ?_
        simp only [Act.put, Xa, Xz, Xs]
        refine wl_val (.bool (decide (c.rb < 0))) rfl (fun _ => rfl) ?_
        simp only [Act.put, Xa, Xz, Xs]
        cases h9 : (decide (c.rb < 0))
        ·
         skip
         have p9 : ¬ (c.rb < 0) := of_decide_eq_false h9
         refine wl_val (.pointer (some ⟨g1, 3, none⟩)) rfl (fun _ => by go_simp) ?_
         simp only [Act.put, Xa, Xz, Xs]
         refine wl_cell 2 (.tmp 44) (.int .i64 c.rb) (own_row 0 rfl) rfl rfl rfl rfl Try.isAgg2 ?_
         simp only [Act.put, Xa, Xz, Xs]
         refine wl_val (.bool (decide (1048576 < c.rb))) rfl (fun w => run_cmp rfl rfl rfl Try.underlying2 rfl w) ?_
         simp only [Act.put, Xa, Xz, Xs]
         refine wl_val (.bool (decide (1048576 < c.rb))) rfl (fun _ => rfl) ?_
         simp only [Act.put, Xa, Xz, Xs]
         refine wl_val (.bool (decide (1048576 < c.rb))) rfl (fun _ => rfl) ?_
         simp only [Act.put, Xa, Xz, Xs]
         cases h10 : (decide (1048576 < c.rb))
         ·
          skip
          have p10 : ¬ (1048576 < c.rb) := of_decide_eq_false h10
          refine wl_val (.pointer (some ⟨g1, 4, none⟩)) rfl (fun _ => by go_simp) ?_
          simp only [Act.put, Xa, Xz, Xs]
          refine wl_cell 2 (.tmp 49) (.int .i64 c.rp) (own_row 0 rfl) rfl rfl rfl rfl Try.isAgg2 ?_
          simp only [Act.put, Xa, Xz, Xs]
          refine wl_val (.bool (decide (c.rp < 0))) rfl (fun w => run_cmp rfl rfl rfl Try.underlying2 rfl w) ?_
          simp only [Act.put, Xa, Xz, Xs]
          refine wl_val (.bool (decide (c.rp < 0))) rfl (fun _ => rfl) ?_
          simp only [Act.put, Xa, Xz, Xs]
          refine wl_val (.bool (decide (c.rp < 0))) rfl (fun _ => rfl) ?_
          simp only [Act.put, Xa, Xz, Xs]
          cases h11 : (decide (c.rp < 0))
          ·
           skip
           have p11 : ¬ (c.rp < 0) := of_decide_eq_false h11
           refine wl_val (.pointer (some ⟨g1, 4, none⟩)) rfl (fun _ => by go_simp) ?_
           simp only [Act.put, Xa, Xz, Xs]
           refine wl_cell 2 (.tmp 54) (.int .i64 c.rp) (own_row 0 rfl) rfl rfl rfl rfl Try.isAgg2 ?_
           simp only [Act.put, Xa, Xz, Xs]
           refine wl_val (.bool (decide (65536 < c.rp))) rfl (fun w => run_cmp rfl rfl rfl Try.underlying2 rfl w) ?_
           simp only [Act.put, Xa, Xz, Xs]
           refine wl_val (.bool (decide (65536 < c.rp))) rfl (fun _ => rfl) ?_
           simp only [Act.put, Xa, Xz, Xs]
           refine wl_nil ?_
           refine we_then ?_
           cases h12 : (decide (65536 < c.rp))
           ·
            skip
            have p12 : ¬ (65536 < c.rp) := of_decide_eq_false h12
            refine wc_false rfl ?_
            refine wc_skip ?_
            refine we_then ?_
            refine wc_seq ?_
            refine wc_seq ?_
            refine wc_region ?_
            refine wl_val (.pointer (some ⟨g1, 5, none⟩)) rfl (fun _ => by go_simp) ?_
            simp only [Act.put, Xa, Xz, Xs]
            refine wl_cell 2 (.tmp 58) (.int .i64 c.ae) (own_row 0 rfl) rfl rfl rfl rfl Try.isAgg2 ?_
            simp only [Act.put, Xa, Xz, Xs]
            refine wl_val (.bool (decide (c.ae < 0))) rfl (fun w => run_cmp rfl rfl rfl Try.underlying2 rfl w) ?_
            simp only [Act.put, Xa, Xz, Xs]
            refine wl_val (.bool (decide (c.ae < 0))) rfl (fun _ => rfl) ?_
            simp only [Act.put, Xa, Xz, Xs]
            cases h13 : (decide (c.ae < 0))
            ·
             skip
             have p13 : ¬ (c.ae < 0) := of_decide_eq_false h13
             refine wl_val (.pointer (some ⟨g1, 5, none⟩)) rfl (fun _ => by go_simp) ?_
             simp only [Act.put, Xa, Xz, Xs]
             refine wl_cell 2 (.tmp 62) (.int .i64 c.ae) (own_row 0 rfl) rfl rfl rfl rfl Try.isAgg2 ?_
             simp only [Act.put, Xa, Xz, Xs]
             refine wl_val (.bool (decide (1048576 < c.ae))) rfl (fun w => run_cmp rfl rfl rfl Try.underlying2 rfl w) ?_
             simp only [Act.put, Xa, Xz, Xs]
             refine wl_val (.bool (decide (1048576 < c.ae))) rfl (fun _ => rfl) ?_
             simp only [Act.put, Xa, Xz, Xs]
             refine wl_nil ?_
             refine we_then ?_
             cases h14 : (decide (1048576 < c.ae))
             ·
              skip
              have p14 : ¬ (1048576 < c.ae) := of_decide_eq_false h14
              refine wc_false rfl ?_
              refine wc_skip ?_
              refine we_then ?_
              refine wc_seq ?_
              refine wc_seq ?_
              refine wc_region ?_
              refine wl_val (.pointer (some ⟨g1, 6, none⟩)) rfl (fun _ => by go_simp) ?_
              simp only [Act.put, Xa, Xz, Xs]
              refine wl_cell 2 (.tmp 66) (.int .i64 c.ms) (own_row 0 rfl) rfl rfl rfl rfl Try.isAgg2 ?_
              simp only [Act.put, Xa, Xz, Xs]
              refine wl_val (.bool (decide (c.ms < 1))) rfl (fun w => run_cmp rfl rfl rfl Try.underlying2 rfl w) ?_
              simp only [Act.put, Xa, Xz, Xs]
              refine wl_val (.bool (decide (c.ms < 1))) rfl (fun _ => rfl) ?_
              simp only [Act.put, Xa, Xz, Xs]
              cases h15 : (decide (c.ms < 1))
              ·
               skip
               have p15 : ¬ (c.ms < 1) := of_decide_eq_false h15
               refine wl_val (.pointer (some ⟨g1, 6, none⟩)) rfl (fun _ => by go_simp) ?_
               simp only [Act.put, Xa, Xz, Xs]
               refine wl_cell 2 (.tmp 70) (.int .i64 c.ms) (own_row 0 rfl) rfl rfl rfl rfl Try.isAgg2 ?_
               simp only [Act.put, Xa, Xz, Xs]
               refine wl_val (.bool (decide (16777216 < c.ms))) rfl (fun w => run_cmp rfl rfl rfl Try.underlying2 rfl w) ?_
               simp only [Act.put, Xa, Xz, Xs]
               refine wl_val (.bool (decide (16777216 < c.ms))) rfl (fun _ => rfl) ?_
               simp only [Act.put, Xa, Xz, Xs]
               refine wl_val (.bool (decide (16777216 < c.ms))) rfl (fun _ => rfl) ?_
               simp only [Act.put, Xa, Xz, Xs]
               cases h16 : (decide (16777216 < c.ms))
               ·
                skip
                have p16 : ¬ (16777216 < c.ms) := of_decide_eq_false h16
                refine wl_val (.pointer (some ⟨g1, 7, none⟩)) rfl (fun _ => by go_simp) ?_
                simp only [Act.put, Xa, Xz, Xs]
                refine wl_cell 2 (.tmp 75) (.int .i64 c.ma) (own_row 0 rfl) rfl rfl rfl rfl Try.isAgg2 ?_
                simp only [Act.put, Xa, Xz, Xs]
                refine wl_val (.bool (decide (c.ma < 1))) rfl (fun w => run_cmp rfl rfl rfl Try.underlying2 rfl w) ?_
                simp only [Act.put, Xa, Xz, Xs]
                refine wl_val (.bool (decide (c.ma < 1))) rfl (fun _ => rfl) ?_
                simp only [Act.put, Xa, Xz, Xs]
                refine wl_val (.bool (decide (c.ma < 1))) rfl (fun _ => rfl) ?_
                simp only [Act.put, Xa, Xz, Xs]
                cases h17 : (decide (c.ma < 1))
                ·
                 skip
                 have p17 : ¬ (c.ma < 1) := of_decide_eq_false h17
                 refine wl_val (.pointer (some ⟨g1, 7, none⟩)) rfl (fun _ => by go_simp) ?_
                 simp only [Act.put, Xa, Xz, Xs]
                 refine wl_cell 2 (.tmp 80) (.int .i64 c.ma) (own_row 0 rfl) rfl rfl rfl rfl Try.isAgg2 ?_
                 simp only [Act.put, Xa, Xz, Xs]
                 refine wl_val (.bool (decide (1048576 < c.ma))) rfl (fun w => run_cmp rfl rfl rfl Try.underlying2 rfl w) ?_
                 simp only [Act.put, Xa, Xz, Xs]
                 refine wl_val (.bool (decide (1048576 < c.ma))) rfl (fun _ => rfl) ?_
                 simp only [Act.put, Xa, Xz, Xs]
                 refine wl_nil ?_
                 refine we_then ?_
                 cases h18 : (decide (1048576 < c.ma))
                 ·
                  skip
                  have p18 : ¬ (1048576 < c.ma) := of_decide_eq_false h18
                  refine wc_false rfl ?_
                  refine wc_skip ?_
                  refine we_then ?_
                  refine wc_seq ?_
                  refine wc_seq ?_
                  have m1 := mul_in (a := c.ms) (b := c.pu) 16777216 1024 (by omega) (by omega) (by omega) (by omega)
                  refine wc_region ?_
                  refine wl_val (.pointer (some ⟨g1, 6, none⟩)) rfl (fun _ => by go_simp) ?_
                  simp only [Act.put, Xa, Xz, Xs]
                  refine wl_cell 2 (.tmp 84) (.int .i64 c.ms) (own_row 0 rfl) rfl rfl rfl rfl Try.isAgg2 ?_
                  simp only [Act.put, Xa, Xz, Xs]
                  refine wl_val (.pointer (some ⟨g1, 0, none⟩)) rfl (fun _ => by go_simp) ?_
                  simp only [Act.put, Xa, Xz, Xs]
                  refine wl_cell 2 (.tmp 86) (.int .i64 c.pu) (own_row 0 rfl) rfl rfl rfl rfl Try.isAgg2 ?_
                  simp only [Act.put, Xa, Xz, Xs]
                  refine wl_val (.int .i64 (c.ms * c.pu)) rfl (fun w => run_arith (op := .mul) rfl rfl rfl Try.underlying2 (congrArg some (i64_in (by omega) (by omega))) w) ?_
                  simp only [Act.put, Xa, Xz, Xs]
                  refine wl_val (.pointer (some ⟨g1, 1, none⟩)) rfl (fun _ => by go_simp) ?_
                  simp only [Act.put, Xa, Xz, Xs]
                  refine wl_cell 2 (.tmp 89) (.int .i64 c.lo) (own_row 0 rfl) rfl rfl rfl rfl Try.isAgg2 ?_
                  simp only [Act.put, Xa, Xz, Xs]
                  refine wl_val (.int .i64 (32000 * c.lo)) rfl (fun w => run_arith (op := .mul) rfl rfl rfl Try.underlying2 (congrArg some (i64_in (by omega) (by omega))) w) ?_
                  simp only [Act.put, Xa, Xz, Xs]
                  refine wl_val (.bool (decide (32000 * c.lo < c.ms * c.pu))) rfl (fun w => run_cmp rfl rfl rfl Try.underlying2 rfl w) ?_
                  simp only [Act.put, Xa, Xz, Xs]
                  refine wl_nil ?_
                  refine we_then ?_
                  cases h19 : (decide (32000 * c.lo < c.ms * c.pu))
                  ·
                   skip
                   have p19 : ¬ (32000 * c.lo < c.ms * c.pu) := of_decide_eq_false h19
                   refine wc_false rfl ?_
                   refine wc_skip ?_
                   refine we_then ?_
                   refine wc_seq ?_
                   refine wc_seq ?_
                   refine wc_region ?_
                   refine wl_val (.pointer (some ⟨g1, 8, none⟩)) rfl (fun _ => by go_simp) ?_
                   simp only [Act.put, Xa, Xz, Xs]
                   refine wl_cell 2 (.tmp 93) (.int .i64 c.an) (own_row 0 rfl) rfl rfl rfl rfl Try.isAgg2 ?_
                   simp only [Act.put, Xa, Xz, Xs]
                   refine wl_val (.bool (decide (c.an < 0))) rfl (fun w => run_cmp rfl rfl rfl Try.underlying2 rfl w) ?_
                   simp only [Act.put, Xa, Xz, Xs]
                   refine wl_val (.bool (decide (c.an < 0))) rfl (fun _ => rfl) ?_
                   simp only [Act.put, Xa, Xz, Xs]
                   cases h20 : (decide (c.an < 0))
                   ·
                    skip
                    have p20 : ¬ (c.an < 0) := of_decide_eq_false h20
                    refine wl_val (.pointer (some ⟨g1, 8, none⟩)) rfl (fun _ => by go_simp) ?_
                    simp only [Act.put, Xa, Xz, Xs]
                    refine wl_cell 2 (.tmp 97) (.int .i64 c.an) (own_row 0 rfl) rfl rfl rfl rfl Try.isAgg2 ?_
                    simp only [Act.put, Xa, Xz, Xs]
                    refine wl_val (.bool (decide (1048576 < c.an))) rfl (fun w => run_cmp rfl rfl rfl Try.underlying2 rfl w) ?_
                    simp only [Act.put, Xa, Xz, Xs]
                    refine wl_val (.bool (decide (1048576 < c.an))) rfl (fun _ => rfl) ?_
                    simp only [Act.put, Xa, Xz, Xs]
                    refine wl_nil ?_
                    refine we_then ?_
                    cases h21 : (decide (1048576 < c.an))
                    ·
                     skip
                     have p21 : ¬ (1048576 < c.an) := of_decide_eq_false h21
                     refine wc_false rfl ?_
                     refine wc_skip ?_
                     refine we_then ?_
                     refine wc_seq ?_
                     refine wc_seq ?_
                     refine wc_region ?_
                     refine wl_val (.pointer (some ⟨g1, 9, none⟩)) rfl (fun _ => by go_simp) ?_
                     simp only [Act.put, Xa, Xz, Xs]
                     refine wl_cell 3 (.tmp 101) (.int .i64 c.st) (own_row 0 rfl) rfl rfl rfl rfl Try.isAgg3 ?_
                     simp only [Act.put, Xa, Xz, Xs]
                     refine wl_val (.bool (decide (c.st < 1))) rfl (fun w => run_cmp rfl rfl rfl Try.underlying3 rfl w) ?_
                     simp only [Act.put, Xa, Xz, Xs]
                     refine wl_val (.bool (decide (c.st < 1))) rfl (fun _ => rfl) ?_
                     simp only [Act.put, Xa, Xz, Xs]
                     cases h22 : (decide (c.st < 1))
                     ·
                      skip
                      have p22 : ¬ (c.st < 1) := of_decide_eq_false h22
                      refine wl_val (.pointer (some ⟨g1, 9, none⟩)) rfl (fun _ => by go_simp) ?_
                      simp only [Act.put, Xa, Xz, Xs]
                      refine wl_cell 3 (.tmp 105) (.int .i64 c.st) (own_row 0 rfl) rfl rfl rfl rfl Try.isAgg3 ?_
                      simp only [Act.put, Xa, Xz, Xs]
                      refine wl_val (.bool (decide (1000 < c.st))) rfl (fun w => run_cmp rfl rfl rfl Try.underlying3 rfl w) ?_
                      simp only [Act.put, Xa, Xz, Xs]
                      refine wl_val (.bool (decide (1000 < c.st))) rfl (fun _ => rfl) ?_
                      simp only [Act.put, Xa, Xz, Xs]
                      refine wl_val (.bool (decide (1000 < c.st))) rfl (fun _ => rfl) ?_
                      simp only [Act.put, Xa, Xz, Xs]
                      cases h23 : (decide (1000 < c.st))
                      ·
                       skip
                       have p23 : ¬ (1000 < c.st) := of_decide_eq_false h23
                       refine wl_val (.pointer (some ⟨g1, 12, none⟩)) rfl (fun _ => by go_simp) ?_
                       simp only [Act.put, Xa, Xz, Xs]
                       refine wl_cell 3 (.tmp 110) (.int .i64 c.ti) (own_row 0 rfl) rfl rfl rfl rfl Try.isAgg3 ?_
                       simp only [Act.put, Xa, Xz, Xs]
                       refine wl_val (.bool (decide (c.ti < 1))) rfl (fun w => run_cmp rfl rfl rfl Try.underlying3 rfl w) ?_
                       simp only [Act.put, Xa, Xz, Xs]
                       refine wl_val (.bool (decide (c.ti < 1))) rfl (fun _ => rfl) ?_
                       simp only [Act.put, Xa, Xz, Xs]
                       refine wl_val (.bool (decide (c.ti < 1))) rfl (fun _ => rfl) ?_
                       simp only [Act.put, Xa, Xz, Xs]
                       cases h24 : (decide (c.ti < 1))
                       ·
                        skip
                        have p24 : ¬ (c.ti < 1) := of_decide_eq_false h24
                        refine wl_val (.pointer (some ⟨g1, 12, none⟩)) rfl (fun _ => by go_simp) ?_
                        simp only [Act.put, Xa, Xz, Xs]
                        refine wl_cell 3 (.tmp 115) (.int .i64 c.ti) (own_row 0 rfl) rfl rfl rfl rfl Try.isAgg3 ?_
                        simp only [Act.put, Xa, Xz, Xs]
                        refine wl_val (.bool (decide (1000 < c.ti))) rfl (fun w => run_cmp rfl rfl rfl Try.underlying3 rfl w) ?_
                        simp only [Act.put, Xa, Xz, Xs]
                        refine wl_val (.bool (decide (1000 < c.ti))) rfl (fun _ => rfl) ?_
                        simp only [Act.put, Xa, Xz, Xs]
                        refine wl_nil ?_
                        refine we_then ?_
                        cases h25 : (decide (1000 < c.ti))
                        ·
                         skip
                         have p25 : ¬ (1000 < c.ti) := of_decide_eq_false h25
                         refine wc_false rfl ?_
                         refine wc_skip ?_
                         refine we_then ?_
                         refine wc_seq ?_
                         refine wc_seq ?_
                         refine wc_draw [.late, .plain, .late, .plain, .late, .plain, .plain, .late, .late, .late, .plain, .late, .plain, .late, .late, .late, .late, .late, .plain, .late, .late] none [] 156 (by kernel_rfl) rfl (by kernel_rfl) (by kernel_rfl) ?_
                         refine ws_late (.pointer (some ⟨g1, 10, none⟩)) rfl rfl (fun _ => by go_simp) ?_
                         simp only [Nat.reduceAdd, Act.put, Xa, Xz, Xs]
                         refine ws_cell 2 (.tmp 119) (.int .i64 c.ss) (own_row 0 rfl) rfl rfl rfl rfl rfl Try.isAgg2 ?_
                         simp only [Nat.reduceAdd, Act.put, Xa, Xz, Xs]
                         refine ws_late (.pointer (some ⟨g1, 2, none⟩)) rfl rfl (fun _ => by go_simp) ?_
                         simp only [Nat.reduceAdd, Act.put, Xa, Xz, Xs]
                         refine ws_cell 2 (.tmp 121) (.int .i64 c.hi) (own_row 0 rfl) rfl rfl rfl rfl rfl Try.isAgg2 ?_
                         simp only [Nat.reduceAdd, Act.put, Xa, Xz, Xs]
                         refine ws_late (.pointer (some ⟨g1, 0, none⟩)) rfl rfl (fun _ => by go_simp) ?_
                         simp only [Nat.reduceAdd, Act.put, Xa, Xz, Xs]
                         refine ws_cell 2 (.tmp 123) (.int .i64 c.pu) (own_row 0 rfl) rfl rfl rfl rfl rfl Try.isAgg2 ?_
                         simp only [Nat.reduceAdd, Act.put, Xa, Xz, Xs]
                         refine ws_call 35 #[.int .i64 c.hi, .int .i64 c.pu] (.int .i64 (upq c.hi c.pu)) rfl rfl (fun _ => by go_simp) (fun W => up_any c.hi c.pu W (by omega) (by omega) (by omega) (by omega)) ?_
                         simp only [Nat.reduceAdd, Act.put, Xa, Xz, Xs]
                         refine ws_late (.bool (decide (c.ss < (upq c.hi c.pu)))) rfl rfl (fun w => run_cmp rfl rfl rfl Try.underlying2 rfl w) ?_
                         simp only [Nat.reduceAdd, Act.put, Xa, Xz, Xs]
                         refine ws_late (.bool (decide (c.ss < (upq c.hi c.pu)))) rfl rfl (fun _ => rfl) ?_
                         simp only [Nat.reduceAdd, Act.put, Xa, Xz, Xs]
                         cases h26 : (decide (c.ss < (upq c.hi c.pu)))
                         ·
                          skip
                          have p26 : ¬ (c.ss < (upq c.hi c.pu)) := of_decide_eq_false h26
                          refine ws_late (.pointer (some ⟨g1, 10, none⟩)) rfl rfl (fun _ => by go_simp) ?_
                          simp only [Nat.reduceAdd, Act.put, Xa, Xz, Xs]
                          refine ws_cell 2 (.tmp 128) (.int .i64 c.ss) (own_row 0 rfl) rfl rfl rfl rfl rfl Try.isAgg2 ?_
                          simp only [Nat.reduceAdd, Act.put, Xa, Xz, Xs]
                          refine ws_late (.pointer (some ⟨g1, 3, none⟩)) rfl rfl (fun _ => by go_simp) ?_
                          simp only [Nat.reduceAdd, Act.put, Xa, Xz, Xs]
                          refine ws_cell 2 (.tmp 130) (.int .i64 c.rb) (own_row 0 rfl) rfl rfl rfl rfl rfl Try.isAgg2 ?_
                          simp only [Nat.reduceAdd, Act.put, Xa, Xz, Xs]
                          refine ws_late (.int .i64 (3 * c.rb)) rfl rfl (fun w => run_arith (op := .mul) rfl rfl rfl Try.underlying2 (congrArg some (i64_in (by omega) (by omega))) w) ?_
                          simp only [Nat.reduceAdd, Act.put, Xa, Xz, Xs]
                          refine ws_late (.bool (decide (c.ss < 3 * c.rb))) rfl rfl (fun w => run_cmp rfl rfl rfl Try.underlying2 rfl w) ?_
                          simp only [Nat.reduceAdd, Act.put, Xa, Xz, Xs]
                          refine ws_late (.bool (decide (c.ss < 3 * c.rb))) rfl rfl (fun _ => rfl) ?_
                          simp only [Nat.reduceAdd, Act.put, Xa, Xz, Xs]
                          refine ws_late (.bool (decide (c.ss < 3 * c.rb))) rfl rfl (fun _ => rfl) ?_
                          simp only [Nat.reduceAdd, Act.put, Xa, Xz, Xs]
                          cases h27 : (decide (c.ss < 3 * c.rb))
                          ·
                           skip
                           have p27 : ¬ (c.ss < 3 * c.rb) := of_decide_eq_false h27
                           refine ws_late (.pointer (some ⟨g1, 10, none⟩)) rfl rfl (fun _ => by go_simp) ?_
                           simp only [Nat.reduceAdd, Act.put, Xa, Xz, Xs]
                           refine ws_cell 2 (.tmp 136) (.int .i64 c.ss) (own_row 0 rfl) rfl rfl rfl rfl rfl Try.isAgg2 ?_
                           simp only [Nat.reduceAdd, Act.put, Xa, Xz, Xs]
                           refine ws_late (.bool (decide (16777216 < c.ss))) rfl rfl (fun w => run_cmp rfl rfl rfl Try.underlying2 rfl w) ?_
                           simp only [Nat.reduceAdd, Act.put, Xa, Xz, Xs]
                           refine ws_late (.bool (decide (16777216 < c.ss))) rfl rfl (fun _ => rfl) ?_
                           simp only [Nat.reduceAdd, Act.put, Xa, Xz, Xs]
                           refine ws_nil [] trivial (by simp) ?_
                           intro ps28
                           simp only [fin, List.foldl_nil, List.map, List.nil_append]
                           refine we_then ?_
                           cases h29 : (decide (16777216 < c.ss))
                           ·
                            skip
                            have p29 : ¬ (16777216 < c.ss) := of_decide_eq_false h29
                            refine wc_false rfl ?_
                            refine wc_skip ?_
                            refine we_then ?_
                            refine wc_seq ?_
                            refine wc_seq ?_
                            refine wc_region ?_
                            refine wl_val (.pointer (some ⟨g1, 11, none⟩)) rfl (fun _ => by go_simp) ?_
                            simp only [Act.put, Xa, Xz, Xs]
                            refine wl_cell 2 (.tmp 140) (.int .i64 c.ro) (own_row 0 rfl) rfl rfl rfl rfl Try.isAgg2 ?_
                            simp only [Act.put, Xa, Xz, Xs]
                            refine wl_val (.bool (decide (c.ro < 0))) rfl (fun w => run_cmp rfl rfl rfl Try.underlying2 rfl w) ?_
                            simp only [Act.put, Xa, Xz, Xs]
                            refine wl_val (.bool (decide (c.ro < 0))) rfl (fun _ => rfl) ?_
                            simp only [Act.put, Xa, Xz, Xs]
                            cases h30 : (decide (c.ro < 0))
                            ·
                             skip
                             have p30 : ¬ (c.ro < 0) := of_decide_eq_false h30
                             refine wl_val (.pointer (some ⟨g1, 11, none⟩)) rfl (fun _ => by go_simp) ?_
                             simp only [Act.put, Xa, Xz, Xs]
                             refine wl_cell 2 (.tmp 144) (.int .i64 c.ro) (own_row 0 rfl) rfl rfl rfl rfl Try.isAgg2 ?_
                             simp only [Act.put, Xa, Xz, Xs]
                             refine wl_val (.bool (decide (1073741824 < c.ro))) rfl (fun w => run_cmp rfl rfl rfl Try.underlying2 rfl w) ?_
                             simp only [Act.put, Xa, Xz, Xs]
                             refine wl_val (.bool (decide (1073741824 < c.ro))) rfl (fun _ => rfl) ?_
                             simp only [Act.put, Xa, Xz, Xs]
                             refine wl_nil ?_
                             refine we_then ?_
                             cases h31 : (decide (1073741824 < c.ro))
                             ·
                              skip
                              have p31 : ¬ (1073741824 < c.ro) := of_decide_eq_false h31
                              refine wc_false rfl ?_
                              refine wc_skip ?_
                              refine we_then ?_
                              refine wc_seq ?_
                              refine wc_seq ?_
                              refine wc_region ?_
                              refine wl_val (.pointer (some ⟨g1, 13, none⟩)) rfl (fun _ => by go_simp) ?_
                              simp only [Act.put, Xa, Xz, Xs]
                              refine wl_cell 2 (.tmp 148) (.int .i64 c.br) (own_row 0 rfl) rfl rfl rfl rfl Try.isAgg2 ?_
                              simp only [Act.put, Xa, Xz, Xs]
                              refine wl_val (.bool (decide (c.br < 1))) rfl (fun w => run_cmp rfl rfl rfl Try.underlying2 rfl w) ?_
                              simp only [Act.put, Xa, Xz, Xs]
                              refine wl_val (.bool (decide (c.br < 1))) rfl (fun _ => rfl) ?_
                              simp only [Act.put, Xa, Xz, Xs]
                              cases h32 : (decide (c.br < 1))
                              ·
                               skip
                               have p32 : ¬ (c.br < 1) := of_decide_eq_false h32
                               refine wl_val (.pointer (some ⟨g1, 13, none⟩)) rfl (fun _ => by go_simp) ?_
                               simp only [Act.put, Xa, Xz, Xs]
                               refine wl_cell 2 (.tmp 152) (.int .i64 c.br) (own_row 0 rfl) rfl rfl rfl rfl Try.isAgg2 ?_
                               simp only [Act.put, Xa, Xz, Xs]
                               refine wl_val (.bool (decide (1048576 < c.br))) rfl (fun w => run_cmp rfl rfl rfl Try.underlying2 rfl w) ?_
                               simp only [Act.put, Xa, Xz, Xs]
                               refine wl_val (.bool (decide (1048576 < c.br))) rfl (fun _ => rfl) ?_
                               simp only [Act.put, Xa, Xz, Xs]
                               refine wl_nil ?_
                               refine we_then ?_
                               cases h33 : (decide (1048576 < c.br))
                               ·
                                skip
                                have p33 : ¬ (1048576 < c.br) := of_decide_eq_false h33
                                refine wc_false rfl ?_
                                refine wc_skip ?_
                                refine we_then ?_
                                refine wc_seq ?_
                                refine wc_region ?_
                                refine wl_val (.int .i64 0) rfl (fun _ => rfl) ?_
                                simp only [Act.put, Xa, Xz, Xs]
                                refine wl_nil ?_
                                refine we_then ?_
                                refine wc_ret ?_
                                refine we_ret1 (.int .i64 0) rfl rfl rfl (fun w1 hE => ?_)
                                rw [show wrong c = 0 from by unfold wrong; rw [if_neg (by omega), if_neg (by omega), if_neg (by omega), if_neg (by omega), if_neg (by omega), if_neg (by omega), if_neg (by omega), if_neg (by omega), if_neg (by omega), if_neg (by omega), if_neg (by omega), if_neg (by omega)]]
                                exact ⟨rfl, hE.below⟩
                               ·
                                skip
                                have p33 : 1048576 < c.br := of_decide_eq_true h33
                                refine wc_true rfl ?_
                                refine wc_seq ?_
                                refine wc_region ?_
                                refine wl_val (.int .i64 12) rfl (fun _ => rfl) ?_
                                simp only [Act.put, Xa, Xz, Xs]
                                refine wl_nil ?_
                                refine we_then ?_
                                refine wc_ret ?_
                                refine we_then_ret ?_
                                refine we_ret1 (.int .i64 12) rfl rfl rfl (fun w1 hE => ?_)
                                rw [show wrong c = 12 from by unfold wrong; rw [if_neg (by omega), if_neg (by omega), if_neg (by omega), if_neg (by omega), if_neg (by omega), if_neg (by omega), if_neg (by omega), if_neg (by omega), if_neg (by omega), if_neg (by omega), if_neg (by omega), if_pos (by omega)]]
                                exact ⟨rfl, hE.below⟩
                              ·
                               skip
                               have p32 : c.br < 1 := of_decide_eq_true h32
                               refine wl_skip rfl ?_
                               simp only [Act.put, Xa, Xz, Xs]
                               refine wl_skip rfl ?_
                               simp only [Act.put, Xa, Xz, Xs]
                               refine wl_skip rfl ?_
                               simp only [Act.put, Xa, Xz, Xs]
                               refine wl_val (.bool true) rfl (fun _ => rfl) ?_
                               simp only [Act.put, Xa, Xz, Xs]
                               refine wl_nil ?_
                               refine we_then ?_
                               refine wc_true rfl ?_
                               refine wc_seq ?_
                               refine wc_region ?_
                               refine wl_val (.int .i64 12) rfl (fun _ => rfl) ?_
                               simp only [Act.put, Xa, Xz, Xs]
                               refine wl_nil ?_
                               refine we_then ?_
                               refine wc_ret ?_
                               refine we_then_ret ?_
                               refine we_ret1 (.int .i64 12) rfl rfl rfl (fun w1 hE => ?_)
                               rw [show wrong c = 12 from by unfold wrong; rw [if_neg (by omega), if_neg (by omega), if_neg (by omega), if_neg (by omega), if_neg (by omega), if_neg (by omega), if_neg (by omega), if_neg (by omega), if_neg (by omega), if_neg (by omega), if_neg (by omega), if_pos (by omega)]]
                               exact ⟨rfl, hE.below⟩
                             ·
                              skip
                              have p31 : 1073741824 < c.ro := of_decide_eq_true h31
                              refine wc_true rfl ?_
                              refine wc_seq ?_
                              refine wc_region ?_
                              refine wl_val (.int .i64 11) rfl (fun _ => rfl) ?_
                              simp only [Act.put, Xa, Xz, Xs]
                              refine wl_nil ?_
                              refine we_then ?_
                              refine wc_ret ?_
                              refine we_then_ret ?_
                              refine we_ret1 (.int .i64 11) rfl rfl rfl (fun w1 hE => ?_)
                              rw [show wrong c = 11 from by unfold wrong; rw [if_neg (by omega), if_neg (by omega), if_neg (by omega), if_neg (by omega), if_neg (by omega), if_neg (by omega), if_neg (by omega), if_neg (by omega), if_neg (by omega), if_neg (by omega), if_pos (by omega)]]
                              exact ⟨rfl, hE.below⟩
                            ·
                             skip
                             have p30 : c.ro < 0 := of_decide_eq_true h30
                             refine wl_skip rfl ?_
                             simp only [Act.put, Xa, Xz, Xs]
                             refine wl_skip rfl ?_
                             simp only [Act.put, Xa, Xz, Xs]
                             refine wl_skip rfl ?_
                             simp only [Act.put, Xa, Xz, Xs]
                             refine wl_val (.bool true) rfl (fun _ => rfl) ?_
                             simp only [Act.put, Xa, Xz, Xs]
                             refine wl_nil ?_
                             refine we_then ?_
                             refine wc_true rfl ?_
                             refine wc_seq ?_
                             refine wc_region ?_
                             refine wl_val (.int .i64 11) rfl (fun _ => rfl) ?_
                             simp only [Act.put, Xa, Xz, Xs]
                             refine wl_nil ?_
                             refine we_then ?_
                             refine wc_ret ?_
                             refine we_then_ret ?_
                             refine we_ret1 (.int .i64 11) rfl rfl rfl (fun w1 hE => ?_)
                             rw [show wrong c = 11 from by unfold wrong; rw [if_neg (by omega), if_neg (by omega), if_neg (by omega), if_neg (by omega), if_neg (by omega), if_neg (by omega), if_neg (by omega), if_neg (by omega), if_neg (by omega), if_neg (by omega), if_pos (by omega)]]
                             exact ⟨rfl, hE.below⟩
                           ·
                            skip
                            have p29 : 16777216 < c.ss := of_decide_eq_true h29
                            refine wc_true rfl ?_
                            refine wc_seq ?_
                            refine wc_region ?_
                            refine wl_val (.int .i64 10) rfl (fun _ => rfl) ?_
                            simp only [Act.put, Xa, Xz, Xs]
                            refine wl_nil ?_
                            refine we_then ?_
                            refine wc_ret ?_
                            refine we_then_ret ?_
                            refine we_ret1 (.int .i64 10) rfl rfl rfl (fun w1 hE => ?_)
                            rw [show wrong c = 10 from by unfold wrong; rw [if_neg (by omega), if_neg (by omega), if_neg (by omega), if_neg (by omega), if_neg (by omega), if_neg (by omega), if_neg (by omega), if_neg (by omega), if_neg (by omega), if_pos (by omega)]]
                            exact ⟨rfl, hE.below⟩
                          ·
                           skip
                           have p27 : c.ss < 3 * c.rb := of_decide_eq_true h27
                           refine ws_skip_late rfl rfl ?_
                           simp only [Nat.reduceAdd, Act.put, Xa, Xz, Xs]
                           refine ws_skip rfl rfl ?_
                           simp only [Nat.reduceAdd, Act.put, Xa, Xz, Xs]
                           refine ws_skip_late rfl rfl ?_
                           simp only [Nat.reduceAdd, Act.put, Xa, Xz, Xs]
                           refine ws_late (.bool true) rfl rfl (fun _ => rfl) ?_
                           simp only [Nat.reduceAdd, Act.put, Xa, Xz, Xs]
                           refine ws_nil [] trivial (by simp) ?_
                           intro ps34
                           simp only [fin, List.foldl_nil, List.map, List.nil_append]
                           refine we_then ?_
                           refine wc_true rfl ?_
                           refine wc_seq ?_
                           refine wc_region ?_
                           refine wl_val (.int .i64 10) rfl (fun _ => rfl) ?_
                           simp only [Act.put, Xa, Xz, Xs]
                           refine wl_nil ?_
                           refine we_then ?_
                           refine wc_ret ?_
                           refine we_then_ret ?_
                           refine we_ret1 (.int .i64 10) rfl rfl rfl (fun w1 hE => ?_)
                           rw [show wrong c = 10 from by unfold wrong; rw [if_neg (by omega), if_neg (by omega), if_neg (by omega), if_neg (by omega), if_neg (by omega), if_neg (by omega), if_neg (by omega), if_neg (by omega), if_neg (by omega), if_pos (by omega)]]
                           exact ⟨rfl, hE.below⟩
                         ·
                          skip
                          have p26 : c.ss < (upq c.hi c.pu) := of_decide_eq_true h26
                          refine ws_skip_late rfl rfl ?_
                          simp only [Nat.reduceAdd, Act.put, Xa, Xz, Xs]
                          refine ws_skip rfl rfl ?_
                          simp only [Nat.reduceAdd, Act.put, Xa, Xz, Xs]
                          refine ws_skip_late rfl rfl ?_
                          simp only [Nat.reduceAdd, Act.put, Xa, Xz, Xs]
                          refine ws_skip rfl rfl ?_
                          simp only [Nat.reduceAdd, Act.put, Xa, Xz, Xs]
                          refine ws_skip_late rfl rfl ?_
                          simp only [Nat.reduceAdd, Act.put, Xa, Xz, Xs]
                          refine ws_skip_late rfl rfl ?_
                          simp only [Nat.reduceAdd, Act.put, Xa, Xz, Xs]
                          refine ws_late (.bool true) rfl rfl (fun _ => rfl) ?_
                          simp only [Nat.reduceAdd, Act.put, Xa, Xz, Xs]
                          refine ws_late (.bool true) rfl rfl (fun _ => rfl) ?_
                          simp only [Nat.reduceAdd, Act.put, Xa, Xz, Xs]
                          refine ws_skip_late rfl rfl ?_
                          simp only [Nat.reduceAdd, Act.put, Xa, Xz, Xs]
                          refine ws_skip rfl rfl ?_
                          simp only [Nat.reduceAdd, Act.put, Xa, Xz, Xs]
                          refine ws_skip_late rfl rfl ?_
                          simp only [Nat.reduceAdd, Act.put, Xa, Xz, Xs]
                          refine ws_late (.bool true) rfl rfl (fun _ => rfl) ?_
                          simp only [Nat.reduceAdd, Act.put, Xa, Xz, Xs]
                          refine ws_nil [] trivial (by simp) ?_
                          intro ps35
                          simp only [fin, List.foldl_nil, List.map, List.nil_append]
                          refine we_then ?_
                          refine wc_true rfl ?_
                          refine wc_seq ?_
                          refine wc_region ?_
                          refine wl_val (.int .i64 10) rfl (fun _ => rfl) ?_
                          simp only [Act.put, Xa, Xz, Xs]
                          refine wl_nil ?_
                          refine we_then ?_
                          refine wc_ret ?_
                          refine we_then_ret ?_
                          refine we_ret1 (.int .i64 10) rfl rfl rfl (fun w1 hE => ?_)
                          rw [show wrong c = 10 from by unfold wrong; rw [if_neg (by omega), if_neg (by omega), if_neg (by omega), if_neg (by omega), if_neg (by omega), if_neg (by omega), if_neg (by omega), if_neg (by omega), if_neg (by omega), if_pos (by omega)]]
                          exact ⟨rfl, hE.below⟩
                        ·
                         skip
                         have p25 : 1000 < c.ti := of_decide_eq_true h25
                         refine wc_true rfl ?_
                         refine wc_seq ?_
                         refine wc_region ?_
                         refine wl_val (.int .i64 9) rfl (fun _ => rfl) ?_
                         simp only [Act.put, Xa, Xz, Xs]
                         refine wl_nil ?_
                         refine we_then ?_
                         refine wc_ret ?_
                         refine we_then_ret ?_
                         refine we_ret1 (.int .i64 9) rfl rfl rfl (fun w1 hE => ?_)
                         rw [show wrong c = 9 from by unfold wrong; rw [if_neg (by omega), if_neg (by omega), if_neg (by omega), if_neg (by omega), if_neg (by omega), if_neg (by omega), if_neg (by omega), if_neg (by omega), if_pos (by omega)]]
                         exact ⟨rfl, hE.below⟩
                       ·
                        skip
                        have p24 : c.ti < 1 := of_decide_eq_true h24
                        refine wl_skip rfl ?_
                        simp only [Act.put, Xa, Xz, Xs]
                        refine wl_skip rfl ?_
                        simp only [Act.put, Xa, Xz, Xs]
                        refine wl_skip rfl ?_
                        simp only [Act.put, Xa, Xz, Xs]
                        refine wl_val (.bool true) rfl (fun _ => rfl) ?_
                        simp only [Act.put, Xa, Xz, Xs]
                        refine wl_nil ?_
                        refine we_then ?_
                        refine wc_true rfl ?_
                        refine wc_seq ?_
                        refine wc_region ?_
                        refine wl_val (.int .i64 9) rfl (fun _ => rfl) ?_
                        simp only [Act.put, Xa, Xz, Xs]
                        refine wl_nil ?_
                        refine we_then ?_
                        refine wc_ret ?_
                        refine we_then_ret ?_
                        refine we_ret1 (.int .i64 9) rfl rfl rfl (fun w1 hE => ?_)
                        rw [show wrong c = 9 from by unfold wrong; rw [if_neg (by omega), if_neg (by omega), if_neg (by omega), if_neg (by omega), if_neg (by omega), if_neg (by omega), if_neg (by omega), if_neg (by omega), if_pos (by omega)]]
                        exact ⟨rfl, hE.below⟩
                      ·
                       skip
                       have p23 : 1000 < c.st := of_decide_eq_true h23
                       refine wl_skip rfl ?_
                       simp only [Act.put, Xa, Xz, Xs]
                       refine wl_skip rfl ?_
                       simp only [Act.put, Xa, Xz, Xs]
                       refine wl_skip rfl ?_
                       simp only [Act.put, Xa, Xz, Xs]
                       refine wl_val (.bool true) rfl (fun _ => rfl) ?_
                       simp only [Act.put, Xa, Xz, Xs]
                       refine wl_val (.bool true) rfl (fun _ => rfl) ?_
                       simp only [Act.put, Xa, Xz, Xs]
                       refine wl_skip rfl ?_
                       simp only [Act.put, Xa, Xz, Xs]
                       refine wl_skip rfl ?_
                       simp only [Act.put, Xa, Xz, Xs]
                       refine wl_skip rfl ?_
                       simp only [Act.put, Xa, Xz, Xs]
                       refine wl_val (.bool true) rfl (fun _ => rfl) ?_
                       simp only [Act.put, Xa, Xz, Xs]
                       refine wl_nil ?_
                       refine we_then ?_
                       refine wc_true rfl ?_
                       refine wc_seq ?_
                       refine wc_region ?_
                       refine wl_val (.int .i64 9) rfl (fun _ => rfl) ?_
                       simp only [Act.put, Xa, Xz, Xs]
                       refine wl_nil ?_
                       refine we_then ?_
                       refine wc_ret ?_
                       refine we_then_ret ?_
                       refine we_ret1 (.int .i64 9) rfl rfl rfl (fun w1 hE => ?_)
                       rw [show wrong c = 9 from by unfold wrong; rw [if_neg (by omega), if_neg (by omega), if_neg (by omega), if_neg (by omega), if_neg (by omega), if_neg (by omega), if_neg (by omega), if_neg (by omega), if_pos (by omega)]]
                       exact ⟨rfl, hE.below⟩
                     ·
                      skip
                      have p22 : c.st < 1 := of_decide_eq_true h22
                      refine wl_skip rfl ?_
                      simp only [Act.put, Xa, Xz, Xs]
                      refine wl_skip rfl ?_
                      simp only [Act.put, Xa, Xz, Xs]
                      refine wl_skip rfl ?_
                      simp only [Act.put, Xa, Xz, Xs]
                      refine wl_val (.bool true) rfl (fun _ => rfl) ?_
                      simp only [Act.put, Xa, Xz, Xs]
                      refine wl_val (.bool true) rfl (fun _ => rfl) ?_
                      simp only [Act.put, Xa, Xz, Xs]
                      refine wl_skip rfl ?_
                      simp only [Act.put, Xa, Xz, Xs]
                      refine wl_skip rfl ?_
                      simp only [Act.put, Xa, Xz, Xs]
                      refine wl_skip rfl ?_
                      simp only [Act.put, Xa, Xz, Xs]
                      refine wl_val (.bool true) rfl (fun _ => rfl) ?_
                      simp only [Act.put, Xa, Xz, Xs]
                      refine wl_val (.bool true) rfl (fun _ => rfl) ?_
                      simp only [Act.put, Xa, Xz, Xs]
                      refine wl_skip rfl ?_
                      simp only [Act.put, Xa, Xz, Xs]
                      refine wl_skip rfl ?_
                      simp only [Act.put, Xa, Xz, Xs]
                      refine wl_skip rfl ?_
                      simp only [Act.put, Xa, Xz, Xs]
                      refine wl_val (.bool true) rfl (fun _ => rfl) ?_
                      simp only [Act.put, Xa, Xz, Xs]
                      refine wl_nil ?_
                      refine we_then ?_
                      refine wc_true rfl ?_
                      refine wc_seq ?_
                      refine wc_region ?_
                      refine wl_val (.int .i64 9) rfl (fun _ => rfl) ?_
                      simp only [Act.put, Xa, Xz, Xs]
                      refine wl_nil ?_
                      refine we_then ?_
                      refine wc_ret ?_
                      refine we_then_ret ?_
                      refine we_ret1 (.int .i64 9) rfl rfl rfl (fun w1 hE => ?_)
                      rw [show wrong c = 9 from by unfold wrong; rw [if_neg (by omega), if_neg (by omega), if_neg (by omega), if_neg (by omega), if_neg (by omega), if_neg (by omega), if_neg (by omega), if_neg (by omega), if_pos (by omega)]]
                      exact ⟨rfl, hE.below⟩
                    ·
                     skip
                     have p21 : 1048576 < c.an := of_decide_eq_true h21
                     refine wc_true rfl ?_
                     refine wc_seq ?_
                     refine wc_region ?_
                     refine wl_val (.int .i64 8) rfl (fun _ => rfl) ?_
                     simp only [Act.put, Xa, Xz, Xs]
                     refine wl_nil ?_
                     refine we_then ?_
                     refine wc_ret ?_
                     refine we_then_ret ?_
                     refine we_ret1 (.int .i64 8) rfl rfl rfl (fun w1 hE => ?_)
                     rw [show wrong c = 8 from by unfold wrong; rw [if_neg (by omega), if_neg (by omega), if_neg (by omega), if_neg (by omega), if_neg (by omega), if_neg (by omega), if_neg (by omega), if_pos (by omega)]]
                     exact ⟨rfl, hE.below⟩
                   ·
                    skip
                    have p20 : c.an < 0 := of_decide_eq_true h20
                    refine wl_skip rfl ?_
                    simp only [Act.put, Xa, Xz, Xs]
                    refine wl_skip rfl ?_
                    simp only [Act.put, Xa, Xz, Xs]
                    refine wl_skip rfl ?_
                    simp only [Act.put, Xa, Xz, Xs]
                    refine wl_val (.bool true) rfl (fun _ => rfl) ?_
                    simp only [Act.put, Xa, Xz, Xs]
                    refine wl_nil ?_
                    refine we_then ?_
                    refine wc_true rfl ?_
                    refine wc_seq ?_
                    refine wc_region ?_
                    refine wl_val (.int .i64 8) rfl (fun _ => rfl) ?_
                    simp only [Act.put, Xa, Xz, Xs]
                    refine wl_nil ?_
                    refine we_then ?_
                    refine wc_ret ?_
                    refine we_then_ret ?_
                    refine we_ret1 (.int .i64 8) rfl rfl rfl (fun w1 hE => ?_)
                    rw [show wrong c = 8 from by unfold wrong; rw [if_neg (by omega), if_neg (by omega), if_neg (by omega), if_neg (by omega), if_neg (by omega), if_neg (by omega), if_neg (by omega), if_pos (by omega)]]
                    exact ⟨rfl, hE.below⟩
                  ·
                   skip
                   have p19 : 32000 * c.lo < c.ms * c.pu := of_decide_eq_true h19
                   refine wc_true rfl ?_
                   refine wc_seq ?_
                   refine wc_region ?_
                   refine wl_val (.int .i64 7) rfl (fun _ => rfl) ?_
                   simp only [Act.put, Xa, Xz, Xs]
                   refine wl_nil ?_
                   refine we_then ?_
                   refine wc_ret ?_
                   refine we_then_ret ?_
                   refine we_ret1 (.int .i64 7) rfl rfl rfl (fun w1 hE => ?_)
                   rw [show wrong c = 7 from by unfold wrong; rw [if_neg (by omega), if_neg (by omega), if_neg (by omega), if_neg (by omega), if_neg (by omega), if_neg (by omega), if_pos (by omega)]]
                   exact ⟨rfl, hE.below⟩
                 ·
                  skip
                  have p18 : 1048576 < c.ma := of_decide_eq_true h18
                  refine wc_true rfl ?_
                  refine wc_seq ?_
                  refine wc_region ?_
                  refine wl_val (.int .i64 6) rfl (fun _ => rfl) ?_
                  simp only [Act.put, Xa, Xz, Xs]
                  refine wl_nil ?_
                  refine we_then ?_
                  refine wc_ret ?_
                  refine we_then_ret ?_
                  refine we_ret1 (.int .i64 6) rfl rfl rfl (fun w1 hE => ?_)
                  rw [show wrong c = 6 from by unfold wrong; rw [if_neg (by omega), if_neg (by omega), if_neg (by omega), if_neg (by omega), if_neg (by omega), if_pos (by omega)]]
                  exact ⟨rfl, hE.below⟩
                ·
                 skip
                 have p17 : c.ma < 1 := of_decide_eq_true h17
                 refine wl_skip rfl ?_
                 simp only [Act.put, Xa, Xz, Xs]
                 refine wl_skip rfl ?_
                 simp only [Act.put, Xa, Xz, Xs]
                 refine wl_skip rfl ?_
                 simp only [Act.put, Xa, Xz, Xs]
                 refine wl_val (.bool true) rfl (fun _ => rfl) ?_
                 simp only [Act.put, Xa, Xz, Xs]
                 refine wl_nil ?_
                 refine we_then ?_
                 refine wc_true rfl ?_
                 refine wc_seq ?_
                 refine wc_region ?_
                 refine wl_val (.int .i64 6) rfl (fun _ => rfl) ?_
                 simp only [Act.put, Xa, Xz, Xs]
                 refine wl_nil ?_
                 refine we_then ?_
                 refine wc_ret ?_
                 refine we_then_ret ?_
                 refine we_ret1 (.int .i64 6) rfl rfl rfl (fun w1 hE => ?_)
                 rw [show wrong c = 6 from by unfold wrong; rw [if_neg (by omega), if_neg (by omega), if_neg (by omega), if_neg (by omega), if_neg (by omega), if_pos (by omega)]]
                 exact ⟨rfl, hE.below⟩
               ·
                skip
                have p16 : 16777216 < c.ms := of_decide_eq_true h16
                refine wl_skip rfl ?_
                simp only [Act.put, Xa, Xz, Xs]
                refine wl_skip rfl ?_
                simp only [Act.put, Xa, Xz, Xs]
                refine wl_skip rfl ?_
                simp only [Act.put, Xa, Xz, Xs]
                refine wl_val (.bool true) rfl (fun _ => rfl) ?_
                simp only [Act.put, Xa, Xz, Xs]
                refine wl_val (.bool true) rfl (fun _ => rfl) ?_
                simp only [Act.put, Xa, Xz, Xs]
                refine wl_skip rfl ?_
                simp only [Act.put, Xa, Xz, Xs]
                refine wl_skip rfl ?_
                simp only [Act.put, Xa, Xz, Xs]
                refine wl_skip rfl ?_
                simp only [Act.put, Xa, Xz, Xs]
                refine wl_val (.bool true) rfl (fun _ => rfl) ?_
                simp only [Act.put, Xa, Xz, Xs]
                refine wl_nil ?_
                refine we_then ?_
                refine wc_true rfl ?_
                refine wc_seq ?_
                refine wc_region ?_
                refine wl_val (.int .i64 6) rfl (fun _ => rfl) ?_
                simp only [Act.put, Xa, Xz, Xs]
                refine wl_nil ?_
                refine we_then ?_
                refine wc_ret ?_
                refine we_then_ret ?_
                refine we_ret1 (.int .i64 6) rfl rfl rfl (fun w1 hE => ?_)
                rw [show wrong c = 6 from by unfold wrong; rw [if_neg (by omega), if_neg (by omega), if_neg (by omega), if_neg (by omega), if_neg (by omega), if_pos (by omega)]]
                exact ⟨rfl, hE.below⟩
              ·
               skip
               have p15 : c.ms < 1 := of_decide_eq_true h15
               refine wl_skip rfl ?_
               simp only [Act.put, Xa, Xz, Xs]
               refine wl_skip rfl ?_
               simp only [Act.put, Xa, Xz, Xs]
               refine wl_skip rfl ?_
               simp only [Act.put, Xa, Xz, Xs]
               refine wl_val (.bool true) rfl (fun _ => rfl) ?_
               simp only [Act.put, Xa, Xz, Xs]
               refine wl_val (.bool true) rfl (fun _ => rfl) ?_
               simp only [Act.put, Xa, Xz, Xs]
               refine wl_skip rfl ?_
               simp only [Act.put, Xa, Xz, Xs]
               refine wl_skip rfl ?_
               simp only [Act.put, Xa, Xz, Xs]
               refine wl_skip rfl ?_
               simp only [Act.put, Xa, Xz, Xs]
               refine wl_val (.bool true) rfl (fun _ => rfl) ?_
               simp only [Act.put, Xa, Xz, Xs]
               refine wl_val (.bool true) rfl (fun _ => rfl) ?_
               simp only [Act.put, Xa, Xz, Xs]
               refine wl_skip rfl ?_
               simp only [Act.put, Xa, Xz, Xs]
               refine wl_skip rfl ?_
               simp only [Act.put, Xa, Xz, Xs]
               refine wl_skip rfl ?_
               simp only [Act.put, Xa, Xz, Xs]
               refine wl_val (.bool true) rfl (fun _ => rfl) ?_
               simp only [Act.put, Xa, Xz, Xs]
               refine wl_nil ?_
               refine we_then ?_
               refine wc_true rfl ?_
               refine wc_seq ?_
               refine wc_region ?_
               refine wl_val (.int .i64 6) rfl (fun _ => rfl) ?_
               simp only [Act.put, Xa, Xz, Xs]
               refine wl_nil ?_
               refine we_then ?_
               refine wc_ret ?_
               refine we_then_ret ?_
               refine we_ret1 (.int .i64 6) rfl rfl rfl (fun w1 hE => ?_)
               rw [show wrong c = 6 from by unfold wrong; rw [if_neg (by omega), if_neg (by omega), if_neg (by omega), if_neg (by omega), if_neg (by omega), if_pos (by omega)]]
               exact ⟨rfl, hE.below⟩
             ·
              skip
              have p14 : 1048576 < c.ae := of_decide_eq_true h14
              refine wc_true rfl ?_
              refine wc_seq ?_
              refine wc_region ?_
              refine wl_val (.int .i64 5) rfl (fun _ => rfl) ?_
              simp only [Act.put, Xa, Xz, Xs]
              refine wl_nil ?_
              refine we_then ?_
              refine wc_ret ?_
              refine we_then_ret ?_
              refine we_ret1 (.int .i64 5) rfl rfl rfl (fun w1 hE => ?_)
              rw [show wrong c = 5 from by unfold wrong; rw [if_neg (by omega), if_neg (by omega), if_neg (by omega), if_neg (by omega), if_pos (by omega)]]
              exact ⟨rfl, hE.below⟩
            ·
             skip
             have p13 : c.ae < 0 := of_decide_eq_true h13
             refine wl_skip rfl ?_
             simp only [Act.put, Xa, Xz, Xs]
             refine wl_skip rfl ?_
             simp only [Act.put, Xa, Xz, Xs]
             refine wl_skip rfl ?_
             simp only [Act.put, Xa, Xz, Xs]
             refine wl_val (.bool true) rfl (fun _ => rfl) ?_
             simp only [Act.put, Xa, Xz, Xs]
             refine wl_nil ?_
             refine we_then ?_
             refine wc_true rfl ?_
             refine wc_seq ?_
             refine wc_region ?_
             refine wl_val (.int .i64 5) rfl (fun _ => rfl) ?_
             simp only [Act.put, Xa, Xz, Xs]
             refine wl_nil ?_
             refine we_then ?_
             refine wc_ret ?_
             refine we_then_ret ?_
             refine we_ret1 (.int .i64 5) rfl rfl rfl (fun w1 hE => ?_)
             rw [show wrong c = 5 from by unfold wrong; rw [if_neg (by omega), if_neg (by omega), if_neg (by omega), if_neg (by omega), if_pos (by omega)]]
             exact ⟨rfl, hE.below⟩
           ·
            skip
            have p12 : 65536 < c.rp := of_decide_eq_true h12
            refine wc_true rfl ?_
            refine wc_seq ?_
            refine wc_region ?_
            refine wl_val (.int .i64 4) rfl (fun _ => rfl) ?_
            simp only [Act.put, Xa, Xz, Xs]
            refine wl_nil ?_
            refine we_then ?_
            refine wc_ret ?_
            refine we_then_ret ?_
            refine we_ret1 (.int .i64 4) rfl rfl rfl (fun w1 hE => ?_)
            rw [show wrong c = 4 from by unfold wrong; rw [if_neg (by omega), if_neg (by omega), if_neg (by omega), if_pos (by omega)]]
            exact ⟨rfl, hE.below⟩
          ·
           skip
           have p11 : c.rp < 0 := of_decide_eq_true h11
           refine wl_skip rfl ?_
           simp only [Act.put, Xa, Xz, Xs]
           refine wl_skip rfl ?_
           simp only [Act.put, Xa, Xz, Xs]
           refine wl_skip rfl ?_
           simp only [Act.put, Xa, Xz, Xs]
           refine wl_val (.bool true) rfl (fun _ => rfl) ?_
           simp only [Act.put, Xa, Xz, Xs]
           refine wl_nil ?_
           refine we_then ?_
           refine wc_true rfl ?_
           refine wc_seq ?_
           refine wc_region ?_
           refine wl_val (.int .i64 4) rfl (fun _ => rfl) ?_
           simp only [Act.put, Xa, Xz, Xs]
           refine wl_nil ?_
           refine we_then ?_
           refine wc_ret ?_
           refine we_then_ret ?_
           refine we_ret1 (.int .i64 4) rfl rfl rfl (fun w1 hE => ?_)
           rw [show wrong c = 4 from by unfold wrong; rw [if_neg (by omega), if_neg (by omega), if_neg (by omega), if_pos (by omega)]]
           exact ⟨rfl, hE.below⟩
         ·
          skip
          have p10 : 1048576 < c.rb := of_decide_eq_true h10
          refine wl_skip rfl ?_
          simp only [Act.put, Xa, Xz, Xs]
          refine wl_skip rfl ?_
          simp only [Act.put, Xa, Xz, Xs]
          refine wl_skip rfl ?_
          simp only [Act.put, Xa, Xz, Xs]
          refine wl_val (.bool true) rfl (fun _ => rfl) ?_
          simp only [Act.put, Xa, Xz, Xs]
          refine wl_val (.bool true) rfl (fun _ => rfl) ?_
          simp only [Act.put, Xa, Xz, Xs]
          refine wl_skip rfl ?_
          simp only [Act.put, Xa, Xz, Xs]
          refine wl_skip rfl ?_
          simp only [Act.put, Xa, Xz, Xs]
          refine wl_skip rfl ?_
          simp only [Act.put, Xa, Xz, Xs]
          refine wl_val (.bool true) rfl (fun _ => rfl) ?_
          simp only [Act.put, Xa, Xz, Xs]
          refine wl_nil ?_
          refine we_then ?_
          refine wc_true rfl ?_
          refine wc_seq ?_
          refine wc_region ?_
          refine wl_val (.int .i64 4) rfl (fun _ => rfl) ?_
          simp only [Act.put, Xa, Xz, Xs]
          refine wl_nil ?_
          refine we_then ?_
          refine wc_ret ?_
          refine we_then_ret ?_
          refine we_ret1 (.int .i64 4) rfl rfl rfl (fun w1 hE => ?_)
          rw [show wrong c = 4 from by unfold wrong; rw [if_neg (by omega), if_neg (by omega), if_neg (by omega), if_pos (by omega)]]
          exact ⟨rfl, hE.below⟩
        ·
         skip
         have p9 : c.rb < 0 := of_decide_eq_true h9
         refine wl_skip rfl ?_
         simp only [Act.put, Xa, Xz, Xs]
         refine wl_skip rfl ?_
         simp only [Act.put, Xa, Xz, Xs]
         refine wl_skip rfl ?_
         simp only [Act.put, Xa, Xz, Xs]
         refine wl_val (.bool true) rfl (fun _ => rfl) ?_
         simp only [Act.put, Xa, Xz, Xs]
         refine wl_val (.bool true) rfl (fun _ => rfl) ?_
         simp only [Act.put, Xa, Xz, Xs]
         refine wl_skip rfl ?_
         simp only [Act.put, Xa, Xz, Xs]
         refine wl_skip rfl ?_
         simp only [Act.put, Xa, Xz, Xs]
         refine wl_skip rfl ?_
         simp only [Act.put, Xa, Xz, Xs]
         refine wl_val (.bool true) rfl (fun _ => rfl) ?_
         simp only [Act.put, Xa, Xz, Xs]
         refine wl_val (.bool true) rfl (fun _ => rfl) ?_
         simp only [Act.put, Xa, Xz, Xs]
         refine wl_skip rfl ?_
         simp only [Act.put, Xa, Xz, Xs]
         refine wl_skip rfl ?_
         simp only [Act.put, Xa, Xz, Xs]
         refine wl_skip rfl ?_
         simp only [Act.put, Xa, Xz, Xs]
         refine wl_val (.bool true) rfl (fun _ => rfl) ?_
         simp only [Act.put, Xa, Xz, Xs]
         refine wl_nil ?_
         refine we_then ?_
         refine wc_true rfl ?_
         refine wc_seq ?_
         refine wc_region ?_
         refine wl_val (.int .i64 4) rfl (fun _ => rfl) ?_
         simp only [Act.put, Xa, Xz, Xs]
         refine wl_nil ?_
         refine we_then ?_
         refine wc_ret ?_
         refine we_then_ret ?_
         refine we_ret1 (.int .i64 4) rfl rfl rfl (fun w1 hE => ?_)
         rw [show wrong c = 4 from by unfold wrong; rw [if_neg (by omega), if_neg (by omega), if_neg (by omega), if_pos (by omega)]]
         exact ⟨rfl, hE.below⟩
       ·
        skip
        have p8 : c.lo < (c.hi - c.lo) * 16 := of_decide_eq_true h8
        refine wc_true rfl ?_
        refine wc_seq ?_
        refine wc_region ?_
        refine wl_val (.int .i64 3) rfl (fun _ => rfl) ?_
        simp only [Act.put, Xa, Xz, Xs]
        refine wl_nil ?_
        refine we_then ?_
        refine wc_ret ?_
        refine we_then_ret ?_
        refine we_ret1 (.int .i64 3) rfl rfl rfl (fun w1 hE => ?_)
        rw [show wrong c = 3 from by unfold wrong; rw [if_neg (by omega), if_neg (by omega), if_pos (by omega)]]
        exact ⟨rfl, hE.below⟩
      ·
       skip
       have p7 : 8388608 < c.hi := of_decide_eq_true h7
       refine wc_true rfl ?_
       refine wc_seq ?_
       refine wc_region ?_
       refine wl_val (.int .i64 2) rfl (fun _ => rfl) ?_
       simp only [Act.put, Xa, Xz, Xs]
       refine wl_nil ?_
       refine we_then ?_
       refine wc_ret ?_
       refine we_then_ret ?_
       refine we_ret1 (.int .i64 2) rfl rfl rfl (fun w1 hE => ?_)
       rw [show wrong c = 2 from by unfold wrong; rw [if_neg (by omega), if_pos (by omega)]]
       exact ⟨rfl, hE.below⟩
     ·
      skip
      have p6 : c.hi < c.lo := of_decide_eq_true h6
      refine wl_skip rfl ?_
      simp only [Act.put, Xa, Xz, Xs]
      refine wl_skip rfl ?_
      simp only [Act.put, Xa, Xz, Xs]
      refine wl_skip rfl ?_
      simp only [Act.put, Xa, Xz, Xs]
      refine wl_val (.bool true) rfl (fun _ => rfl) ?_
      simp only [Act.put, Xa, Xz, Xs]
      refine wl_nil ?_
      refine we_then ?_
      refine wc_true rfl ?_
      refine wc_seq ?_
      refine wc_region ?_
      refine wl_val (.int .i64 2) rfl (fun _ => rfl) ?_
      simp only [Act.put, Xa, Xz, Xs]
      refine wl_nil ?_
      refine we_then ?_
      refine wc_ret ?_
      refine we_then_ret ?_
      refine we_ret1 (.int .i64 2) rfl rfl rfl (fun w1 hE => ?_)
      rw [show wrong c = 2 from by unfold wrong; rw [if_neg (by omega), if_pos (by omega)]]
      exact ⟨rfl, hE.below⟩
    ·
     skip
     have p5 : 8388608 < c.lo := of_decide_eq_true h5
     refine wl_skip rfl ?_
     simp only [Act.put, Xa, Xz, Xs]
     refine wl_skip rfl ?_
     simp only [Act.put, Xa, Xz, Xs]
     refine wl_skip rfl ?_
     simp only [Act.put, Xa, Xz, Xs]
     refine wl_skip rfl ?_
     simp only [Act.put, Xa, Xz, Xs]
     refine wl_skip rfl ?_
     simp only [Act.put, Xa, Xz, Xs]
     refine wl_val (.bool true) rfl (fun _ => rfl) ?_
     simp only [Act.put, Xa, Xz, Xs]
     refine wl_val (.bool true) rfl (fun _ => rfl) ?_
     simp only [Act.put, Xa, Xz, Xs]
     refine wl_skip rfl ?_
     simp only [Act.put, Xa, Xz, Xs]
     refine wl_skip rfl ?_
     simp only [Act.put, Xa, Xz, Xs]
     refine wl_skip rfl ?_
     simp only [Act.put, Xa, Xz, Xs]
     refine wl_val (.bool true) rfl (fun _ => rfl) ?_
     simp only [Act.put, Xa, Xz, Xs]
     refine wl_nil ?_
     refine we_then ?_
     refine wc_true rfl ?_
     refine wc_seq ?_
     refine wc_region ?_
     refine wl_val (.int .i64 2) rfl (fun _ => rfl) ?_
     simp only [Act.put, Xa, Xz, Xs]
     refine wl_nil ?_
     refine we_then ?_
     refine wc_ret ?_
     refine we_then_ret ?_
     refine we_ret1 (.int .i64 2) rfl rfl rfl (fun w1 hE => ?_)
     rw [show wrong c = 2 from by unfold wrong; rw [if_neg (by omega), if_pos (by omega)]]
     exact ⟨rfl, hE.below⟩
   ·
    skip
    have p4 : c.lo < 131072 := of_decide_eq_true h4
    refine wl_skip rfl ?_
    simp only [Act.put, Xa, Xz, Xs]
    refine wl_skip rfl ?_
    simp only [Act.put, Xa, Xz, Xs]
    refine wl_skip rfl ?_
    simp only [Act.put, Xa, Xz, Xs]
    refine wl_val (.bool true) rfl (fun _ => rfl) ?_
    simp only [Act.put, Xa, Xz, Xs]
    refine wl_val (.bool true) rfl (fun _ => rfl) ?_
    simp only [Act.put, Xa, Xz, Xs]
    refine wl_skip rfl ?_
    simp only [Act.put, Xa, Xz, Xs]
    refine wl_skip rfl ?_
    simp only [Act.put, Xa, Xz, Xs]
    refine wl_skip rfl ?_
    simp only [Act.put, Xa, Xz, Xs]
    refine wl_skip rfl ?_
    simp only [Act.put, Xa, Xz, Xs]
    refine wl_skip rfl ?_
    simp only [Act.put, Xa, Xz, Xs]
    refine wl_val (.bool true) rfl (fun _ => rfl) ?_
    simp only [Act.put, Xa, Xz, Xs]
    refine wl_val (.bool true) rfl (fun _ => rfl) ?_
    simp only [Act.put, Xa, Xz, Xs]
    refine wl_skip rfl ?_
    simp only [Act.put, Xa, Xz, Xs]
    refine wl_skip rfl ?_
    simp only [Act.put, Xa, Xz, Xs]
    refine wl_skip rfl ?_
    simp only [Act.put, Xa, Xz, Xs]
    refine wl_val (.bool true) rfl (fun _ => rfl) ?_
    simp only [Act.put, Xa, Xz, Xs]
    refine wl_nil ?_
    refine we_then ?_
    refine wc_true rfl ?_
    refine wc_seq ?_
    refine wc_region ?_
    refine wl_val (.int .i64 2) rfl (fun _ => rfl) ?_
    simp only [Act.put, Xa, Xz, Xs]
    refine wl_nil ?_
    refine we_then ?_
    refine wc_ret ?_
    refine we_then_ret ?_
    refine we_ret1 (.int .i64 2) rfl rfl rfl (fun w1 hE => ?_)
    rw [show wrong c = 2 from by unfold wrong; rw [if_neg (by omega), if_pos (by omega)]]
    exact ⟨rfl, hE.below⟩
  ·
   skip
   have p3 : 1024 < c.pu := of_decide_eq_true h3
   refine wc_true rfl ?_
   refine wc_seq ?_
   refine wc_region ?_
   refine wl_val (.int .i64 1) rfl (fun _ => rfl) ?_
   simp only [Act.put, Xa, Xz, Xs]
   refine wl_nil ?_
   refine we_then ?_
   refine wc_ret ?_
   refine we_then_ret ?_
   refine we_ret1 (.int .i64 1) rfl rfl rfl (fun w1 hE => ?_)
   rw [show wrong c = 1 from by unfold wrong; rw [if_pos (by omega)]]
   exact ⟨rfl, hE.below⟩
 ·
  skip
  have p2 : c.pu < 1 := of_decide_eq_true h2
  refine wl_skip rfl ?_
  simp only [Act.put, Xa, Xz, Xs]
  refine wl_skip rfl ?_
  simp only [Act.put, Xa, Xz, Xs]
  refine wl_skip rfl ?_
  simp only [Act.put, Xa, Xz, Xs]
  refine wl_val (.bool true) rfl (fun _ => rfl) ?_
  simp only [Act.put, Xa, Xz, Xs]
  refine wl_nil ?_
  refine we_then ?_
  refine wc_true rfl ?_
  refine wc_seq ?_
  refine wc_region ?_
  refine wl_val (.int .i64 1) rfl (fun _ => rfl) ?_
  simp only [Act.put, Xa, Xz, Xs]
  refine wl_nil ?_
  refine we_then ?_
  refine wc_ret ?_
  refine we_then_ret ?_
  refine we_ret1 (.int .i64 1) rfl rfl rfl (fun w1 hE => ?_)
  rw [show wrong c = 1 from by unfold wrong; rw [if_pos (by omega)]]
  exact ⟨rfl, hE.below⟩
end Go.Proofs.Ytbacchdkankioaa.Cfref
