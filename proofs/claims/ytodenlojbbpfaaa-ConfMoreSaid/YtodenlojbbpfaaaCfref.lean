/-
 The reference of layer 13 (configurations): the first rule that doesn't hold, growth, which track fits. Condition: at most 2^47 segments, groups.
-/
import Derived.Test.YtodenlojbbpfaaaCf
import Derived.Test.YtodenlojbbpfaaaTkref
namespace Go.Proofs.Ytodenlojbbpfaaa.Cfref
open Go.ChangeShapes Go.WideShapes Go.ChangeAt Go.RowKit
open Arr Steady Sx Sw Sl Sb Sc Vs Gr Tk Tkh Tkl Cf
set_option linter.unusedVariables false
set_option linter.unusedSimpArgs false
set_option maxRecDepth 100000

set_option maxHeartbeats 2000000 in
theorem up_any (a b : Int) (w : World) (h1 : 0 ≤ a) (h2 : a ≤ 1152921504606846976) (h3 : 1 ≤ b) (h4 : b ≤ 1152921504606846976) :
  Calls Try.prog 19 #[.int .i64 a, .int .i64 b] w fun e w' => e = .returned (.int .i64 (upq a b)) ∧ Below w.heap.size w w' := by
 have u1 : 0 ≤ (a + b - 1) / b := upq_pos h3 h1
 have u2 : (a + b - 1) / b ≤ a := upq_self h3 h1
 refine calls_sx Try.func19 rfl ?_
 simp only [Try.ntmps19, List.size_toArray, List.length_cons, List.length_nil, Nat.reduceAdd, Nat.reduceSub, Array.replicate_succ, Array.replicate_zero, List.push_toArray, List.append_toArray, List.nil_append, List.cons_append]
 refine wc_seq ?_
 refine wc_region ?_
 refine wl_val (.int .i64 0) rfl (fun _ => rfl) ?_
 simp only [Act.put, Xa, Xz, Xs]
 refine wl_nil ?_
 refine we_then ?_
 refine wc_seq ?_
 refine wc_region ?_
 refine wl_val (.int .i64 a) rfl (fun _ => rfl) ?_
 simp only [Act.put, Xa, Xz, Xs]
 refine wl_val (.int .i64 b) rfl (fun _ => rfl) ?_
 simp only [Act.put, Xa, Xz, Xs]
 refine wl_val (.int .i64 (a + b)) rfl (fun w => run_arith (op := .add) rfl rfl rfl Try.underlying2 (congrArg some (i64_in (by omega) (by omega))) w) ?_
 simp only [Act.put, Xa, Xz, Xs]
 refine wl_val (.int .i64 ((a + b) - 1)) rfl (fun w => run_arith (op := .sub) rfl rfl rfl Try.underlying2 (congrArg some (i64_in (by omega) (by omega))) w) ?_
 simp only [Act.put, Xa, Xz, Xs]
 refine wl_val (.int .i64 b) rfl (fun _ => rfl) ?_
 simp only [Act.put, Xa, Xz, Xs]
 refine wl_val (.int .i64 (((a + b) - 1) / b)) rfl (fun w => run_quo rfl rfl rfl Try.underlying2 (by omega) (by omega) (i64_in (by omega) (by omega)) w) ?_
 simp only [Act.put, Xa, Xz, Xs]
 refine wl_val (.int .i64 (((a + b) - 1) / b)) rfl (fun _ => rfl) ?_
 simp only [Act.put, Xa, Xz, Xs]
 refine wl_nil ?_
 refine we_then ?_
 refine wc_ret ?_
 refine we_ret1 (.int .i64 (((a + b) - 1) / b)) rfl rfl rfl (fun w1 hE => ?_)
 exact ⟨rfl, hE.below⟩
set_option maxHeartbeats 8000000 in
theorem wrong_any (c : Cf) (w : World) :
  Calls Try.prog 9 #[.agg #[.int .i64 c.pu, .int .i64 c.lo, .int .i64 c.hi, .int .i64 c.rb, .int .i64 c.rp, .int .i64 c.ae, .int .i64 c.ms, .int .i64 c.ma, .int .i64 c.an, .int .i64 c.st, .int .i64 c.ss, .int .i64 c.ro, .int .i64 c.ti, .int .i64 c.br]] w fun e w' => e = .returned (.int .i64 ((wrong c : Nat) : Int)) ∧ Below w.heap.size w w' := by
 refine calls_sx Try.func9 rfl ?_
 simp only [Try.ntmps9, List.size_toArray, List.length_cons, List.length_nil, Nat.reduceAdd, Nat.reduceSub, Array.replicate_succ, Array.replicate_zero, List.push_toArray, List.append_toArray, List.nil_append, List.cons_append]
 refine wc_seq ?_
 refine wc_region ?_
 refine wl_new 29 (#[.int .i64 c.pu, .int .i64 c.lo, .int .i64 c.hi, .int .i64 c.rb, .int .i64 c.rp, .int .i64 c.ae, .int .i64 c.ms, .int .i64 c.ma, .int .i64 c.an, .int .i64 c.st, .int .i64 c.ss, .int .i64 c.ro, .int .i64 c.ti, .int .i64 c.br]) rfl (fun _ => by go_simp) ?_
 intro g1
 simp only [Act.put, Xa, Xz, Xs]
 refine wl_val (.int .i64 0) rfl (fun _ => rfl) ?_
 simp only [Act.put, Xa, Xz, Xs]
 refine wl_nil ?_
 refine we_then ?_
 refine wc_seq ?_
 refine wc_seq ?_
 refine wc_region ?_
 refine wl_val (.pointer (some ⟨g1, 0, none⟩)) rfl (fun _ => by go_simp) ?_
 simp only [Act.put, Xa, Xz, Xs]
 refine wl_cell 2 (.tmp 3) (.int .i64 c.pu) (own_row 0 rfl) rfl rfl rfl rfl Try.isAgg2 ?_
 simp only [Act.put, Xa, Xz, Xs]
 refine wl_val (.bool (decide (c.pu < 1))) rfl (fun w => run_cmp rfl rfl rfl Try.underlying2 rfl w) ?_
 simp only [Act.put, Xa, Xz, Xs]
 refine wl_val (.bool (decide (c.pu < 1))) rfl (fun _ => rfl) ?_
 simp only [Act.put, Xa, Xz, Xs]
 cases h2 : (decide (c.pu < 1))
 ·
  skip
  have p2 : ¬ (c.pu < 1) := of_decide_eq_false h2
  refine wl_val (.pointer (some ⟨g1, 0, none⟩)) rfl (fun _ => by go_simp) ?_
  simp only [Act.put, Xa, Xz, Xs]
  refine wl_cell 2 (.tmp 7) (.int .i64 c.pu) (own_row 0 rfl) rfl rfl rfl rfl Try.isAgg2 ?_
  simp only [Act.put, Xa, Xz, Xs]
  refine wl_val (.bool (decide (1024 < c.pu))) rfl (fun w => run_cmp rfl rfl rfl Try.underlying2 rfl w) ?_
  simp only [Act.put, Xa, Xz, Xs]
  refine wl_val (.bool (decide (1024 < c.pu))) rfl (fun _ => rfl) ?_
  simp only [Act.put, Xa, Xz, Xs]
  refine wl_nil ?_
  refine we_then ?_
  cases h3 : (decide (1024 < c.pu))
  ·
   skip
   have p3 : ¬ (1024 < c.pu) := of_decide_eq_false h3
   refine wc_false rfl ?_
   refine wc_skip ?_
   refine we_then ?_
   refine wc_seq ?_
   refine wc_seq ?_
   refine wc_region ?_
   refine wl_val (.pointer (some ⟨g1, 1, none⟩)) rfl (fun _ => by go_simp) ?_
   simp only [Act.put, Xa, Xz, Xs]
   refine wl_cell 2 (.tmp 11) (.int .i64 c.lo) (own_row 0 rfl) rfl rfl rfl rfl Try.isAgg2 ?_
   simp only [Act.put, Xa, Xz, Xs]
   refine wl_val (.bool (decide (c.lo < 131072))) rfl (fun w => run_cmp rfl rfl rfl Try.underlying2 rfl w) ?_
   simp only [Act.put, Xa, Xz, Xs]
   refine wl_val (.bool (decide (c.lo < 131072))) rfl (fun _ => rfl) ?_
   simp only [Act.put, Xa, Xz, Xs]
   cases h4 : (decide (c.lo < 131072))
   ·
    skip
    have p4 : ¬ (c.lo < 131072) := of_decide_eq_false h4
    refine wl_val (.pointer (some ⟨g1, 1, none⟩)) rfl (fun _ => by go_simp) ?_
    simp only [Act.put, Xa, Xz, Xs]
    refine wl_cell 2 (.tmp 15) (.int .i64 c.lo) (own_row 0 rfl) rfl rfl rfl rfl Try.isAgg2 ?_
    simp only [Act.put, Xa, Xz, Xs]
    refine wl_val (.bool (decide (8388608 < c.lo))) rfl (fun w => run_cmp rfl rfl rfl Try.underlying2 rfl w) ?_
    simp only [Act.put, Xa, Xz, Xs]
    refine wl_val (.bool (decide (8388608 < c.lo))) rfl (fun _ => rfl) ?_
    simp only [Act.put, Xa, Xz, Xs]
    refine wl_val (.bool (decide (8388608 < c.lo))) rfl (fun _ => rfl) ?_
    simp only [Act.put, Xa, Xz, Xs]
    cases h5 : (decide (8388608 < c.lo))
    ·
     skip
     have p5 : ¬ (8388608 < c.lo) := of_decide_eq_false h5
     refine wl_val (.pointer (some ⟨g1, 2, none⟩)) rfl (fun _ => by go_simp) ?_
     simp only [Act.put, Xa, Xz, Xs]
     refine wl_cell 2 (.tmp 20) (.int .i64 c.hi) (own_row 0 rfl) rfl rfl rfl rfl Try.isAgg2 ?_
     simp only [Act.put, Xa, Xz, Xs]
     refine wl_val (.pointer (some ⟨g1, 1, none⟩)) rfl (fun _ => by go_simp) ?_
     simp only [Act.put, Xa, Xz, Xs]
     refine wl_cell 2 (.tmp 22) (.int .i64 c.lo) (own_row 0 rfl) rfl rfl rfl rfl Try.isAgg2 ?_
     simp only [Act.put, Xa, Xz, Xs]
     refine wl_val (.bool (decide (c.hi < c.lo))) rfl (fun w => run_cmp rfl rfl rfl Try.underlying2 rfl w) ?_
     simp only [Act.put, Xa, Xz, Xs]
     refine wl_val (.bool (decide (c.hi < c.lo))) rfl (fun _ => rfl) ?_
     simp only [Act.put, Xa, Xz, Xs]
     refine wl_val (.bool (decide (c.hi < c.lo))) rfl (fun _ => rfl) ?_
     simp only [Act.put, Xa, Xz, Xs]
     cases h6 : (decide (c.hi < c.lo))
     ·
      skip
      have p6 : ¬ (c.hi < c.lo) := of_decide_eq_false h6
      refine wl_val (.pointer (some ⟨g1, 2, none⟩)) rfl (fun _ => by go_simp) ?_
      simp only [Act.put, Xa, Xz, Xs]
      refine wl_cell 2 (.tmp 27) (.int .i64 c.hi) (own_row 0 rfl) rfl rfl rfl rfl Try.isAgg2 ?_
      simp only [Act.put, Xa, Xz, Xs]
      refine wl_val (.bool (decide (8388608 < c.hi))) rfl (fun w => run_cmp rfl rfl rfl Try.underlying2 rfl w) ?_
      simp only [Act.put, Xa, Xz, Xs]
      refine wl_val (.bool (decide (8388608 < c.hi))) rfl (fun _ => rfl) ?_
      simp only [Act.put, Xa, Xz, Xs]
      refine wl_nil ?_
      refine we_then ?_
      cases h7 : (decide (8388608 < c.hi))
      ·
       skip
       have p7 : ¬ (8388608 < c.hi) := of_decide_eq_false h7
       refine wc_false rfl ?_
       refine wc_skip ?_
       refine we_then ?_
       refine wc_seq ?_
       refine wc_seq ?_
       refine wc_region ?_
       refine wl_val (.pointer (some ⟨g1, 2, none⟩)) rfl (fun _ => by go_simp) ?_
       simp only [Act.put, Xa, Xz, Xs]
       refine wl_cell 2 (.tmp 31) (.int .i64 c.hi) (own_row 0 rfl) rfl rfl rfl rfl Try.isAgg2 ?_
       simp only [Act.put, Xa, Xz, Xs]
       refine wl_val (.pointer (some ⟨g1, 1, none⟩)) rfl (fun _ => by go_simp) ?_
       simp only [Act.put, Xa, Xz, Xs]
       refine wl_cell 2 (.tmp 33) (.int .i64 c.lo) (own_row 0 rfl) rfl rfl rfl rfl Try.isAgg2 ?_
       simp only [Act.put, Xa, Xz, Xs]
       refine wl_val (.int .i64 (c.hi - c.lo)) rfl (fun w => run_arith (op := .sub) rfl rfl rfl Try.underlying2 (congrArg some (i64_in (by omega) (by omega))) w) ?_
       simp only [Act.put, Xa, Xz, Xs]
       refine wl_val (.int .i64 ((c.hi - c.lo) * 16)) rfl (fun w => run_arith (op := .mul) rfl rfl rfl Try.underlying2 (congrArg some (i64_in (by omega) (by omega))) w) ?_
       simp only [Act.put, Xa, Xz, Xs]
       refine wl_val (.pointer (some ⟨g1, 1, none⟩)) rfl (fun _ => by go_simp) ?_
       simp only [Act.put, Xa, Xz, Xs]
       refine wl_cell 2 (.tmp 37) (.int .i64 c.lo) (own_row 0 rfl) rfl rfl rfl rfl Try.isAgg2 ?_
       simp only [Act.put, Xa, Xz, Xs]
       refine wl_val (.bool (decide (c.lo < (c.hi - c.lo) * 16))) rfl (fun w => run_cmp rfl rfl rfl Try.underlying2 rfl w) ?_
       simp only [Act.put, Xa, Xz, Xs]
       refine wl_nil ?_
       refine we_then ?_
       cases h8 : (decide (c.lo < (c.hi - c.lo) * 16))
       ·
        skip
        have p8 : ¬ (c.lo < (c.hi - c.lo) * 16) := of_decide_eq_false h8
        refine wc_false rfl ?_
        refine wc_skip ?_
        refine we_then ?_
        refine wc_seq ?_
        refine wc_seq ?_
        refine wc_region ?_
        refine wl_val (.pointer (some ⟨g1, 3, none⟩)) rfl (fun _ => by go_simp) ?_
        simp only [Act.put, Xa, Xz, Xs]
        refine wl_cell 2 (.tmp 40) (.int .i64 c.rb) (own_row 0 rfl) rfl rfl rfl rfl Try.isAgg2 ?_
        simp only [Act.put, Xa, Xz, Xs]
        refine wl_val (.bool (decide (c.rb < 0))) rfl (fun w => run_cmp rfl rfl rfl Try.underlying2 rfl w) ?_
        simp only [Act.put, Xa, Xz, Xs]
        refine wl_val (.bool (decide (c.rb < 0))) rfl (fun _ => rfl) ?_
        simp only [Act.put, Xa, Xz, Xs]
        cases h9 : (decide (c.rb < 0))
        ·
         skip
         have p9 : ¬ (c.rb < 0) := of_decide_eq_false h9
         refine wl_val (.pointer (some ⟨g1, 3, none⟩)) rfl (fun _ => by go_simp) ?_
         simp only [Act.put, Xa, Xz, Xs]
         refine wl_cell 2 (.tmp 44) (.int .i64 c.rb) (own_row 0 rfl) rfl rfl rfl rfl Try.isAgg2 ?_
         simp only [Act.put, Xa, Xz, Xs]
         refine wl_val (.bool (decide (1048576 < c.rb))) rfl (fun w => run_cmp rfl rfl rfl Try.underlying2 rfl w) ?_
         simp only [Act.put, Xa, Xz, Xs]
         refine wl_val (.bool (decide (1048576 < c.rb))) rfl (fun _ => rfl) ?_
         simp only [Act.put, Xa, Xz, Xs]
         refine wl_val (.bool (decide (1048576 < c.rb))) rfl (fun _ => rfl) ?_
         simp only [Act.put, Xa, Xz, Xs]
         cases h10 : (decide (1048576 < c.rb))
         ·
          skip
          have p10 : ¬ (1048576 < c.rb) := of_decide_eq_false h10
          refine wl_val (.pointer (some ⟨g1, 4, none⟩)) rfl (fun _ => by go_simp) ?_
          simp only [Act.put, Xa, Xz, Xs]
          refine wl_cell 2 (.tmp 49) (.int .i64 c.rp) (own_row 0 rfl) rfl rfl rfl rfl Try.isAgg2 ?_
          simp only [Act.put, Xa, Xz, Xs]
          refine wl_val (.bool (decide (c.rp < 0))) rfl (fun w => run_cmp rfl rfl rfl Try.underlying2 rfl w) ?_
          simp only [Act.put, Xa, Xz, Xs]
          refine wl_val (.bool (decide (c.rp < 0))) rfl (fun _ => rfl) ?_
          simp only [Act.put, Xa, Xz, Xs]
          refine wl_val (.bool (decide (c.rp < 0))) rfl (fun _ => rfl) ?_
          simp only [Act.put, Xa, Xz, Xs]
          cases h11 : (decide (c.rp < 0))
          ·
           skip
           have p11 : ¬ (c.rp < 0) := of_decide_eq_false h11
           refine wl_val (.pointer (some ⟨g1, 4, none⟩)) rfl (fun _ => by go_simp) ?_
           simp only [Act.put, Xa, Xz, Xs]
           refine wl_cell 2 (.tmp 54) (.int .i64 c.rp) (own_row 0 rfl) rfl rfl rfl rfl Try.isAgg2 ?_
           simp only [Act.put, Xa, Xz, Xs]
           refine wl_val (.bool (decide (65536 < c.rp))) rfl (fun w => run_cmp rfl rfl rfl Try.underlying2 rfl w) ?_
           simp only [Act.put, Xa, Xz, Xs]
           refine wl_val (.bool (decide (65536 < c.rp))) rfl (fun _ => rfl) ?_
           simp only [Act.put, Xa, Xz, Xs]
           refine wl_nil ?_
           refine we_then ?_
           cases h12 : (decide (65536 < c.rp))
           ·
            skip
            have p12 : ¬ (65536 < c.rp) := of_decide_eq_false h12
            refine wc_false rfl ?_
            refine wc_skip ?_
            refine we_then ?_
            refine wc_seq ?_
            refine wc_seq ?_
            refine wc_region ?_
            refine wl_val (.pointer (some ⟨g1, 5, none⟩)) rfl (fun _ => by go_simp) ?_
            simp only [Act.put, Xa, Xz, Xs]
            refine wl_cell 2 (.tmp 58) (.int .i64 c.ae) (own_row 0 rfl) rfl rfl rfl rfl Try.isAgg2 ?_
            simp only [Act.put, Xa, Xz, Xs]
            refine wl_val (.bool (decide (c.ae < 0))) rfl (fun w => run_cmp rfl rfl rfl Try.underlying2 rfl w) ?_
            simp only [Act.put, Xa, Xz, Xs]
            refine wl_val (.bool (decide (c.ae < 0))) rfl (fun _ => rfl) ?_
            simp only [Act.put, Xa, Xz, Xs]
            cases h13 : (decide (c.ae < 0))
            ·
             skip
             have p13 : ¬ (c.ae < 0) := of_decide_eq_false h13
             refine wl_val (.pointer (some ⟨g1, 5, none⟩)) rfl (fun _ => by go_simp) ?_
             simp only [Act.put, Xa, Xz, Xs]
             refine wl_cell 2 (.tmp 62) (.int .i64 c.ae) (own_row 0 rfl) rfl rfl rfl rfl Try.isAgg2 ?_
             simp only [Act.put, Xa, Xz, Xs]
             refine wl_val (.bool (decide (1048576 < c.ae))) rfl (fun w => run_cmp rfl rfl rfl Try.underlying2 rfl w) ?_
             simp only [Act.put, Xa, Xz, Xs]
             refine wl_val (.bool (decide (1048576 < c.ae))) rfl (fun _ => rfl) ?_
             simp only [Act.put, Xa, Xz, Xs]
             refine wl_nil ?_
             refine we_then ?_
             cases h14 : (decide (1048576 < c.ae))
             ·
              skip
              have p14 : ¬ (1048576 < c.ae) := of_decide_eq_false h14
              refine wc_false rfl ?_
              refine wc_skip ?_
              refine we_then ?_
              refine wc_seq ?_
              refine wc_seq ?_
              refine wc_region ?_
              refine wl_val (.pointer (some ⟨g1, 6, none⟩)) rfl (fun _ => by go_simp) ?_
              simp only [Act.put, Xa, Xz, Xs]
              refine wl_cell 2 (.tmp 66) (.int .i64 c.ms) (own_row 0 rfl) rfl rfl rfl rfl Try.isAgg2 ?_
              simp only [Act.put, Xa, Xz, Xs]
              refine wl_val (.bool (decide (c.ms < 1))) rfl (fun w => run_cmp rfl rfl rfl Try.underlying2 rfl w) ?_
              simp only [Act.put, Xa, Xz, Xs]
              refine wl_val (.bool (decide (c.ms < 1))) rfl (fun _ => rfl) ?_
              simp only [Act.put, Xa, Xz, Xs]
              cases h15 : (decide (c.ms < 1))
              ·
               skip
               have p15 : ¬ (c.ms < 1) := of_decide_eq_false h15
               refine wl_val (.pointer (some ⟨g1, 6, none⟩)) rfl (fun _ => by go_simp) ?_
               simp only [Act.put, Xa, Xz, Xs]
               refine wl_cell 2 (.tmp 70) (.int .i64 c.ms) (own_row 0 rfl) rfl rfl rfl rfl Try.isAgg2 ?_
               simp only [Act.put, Xa, Xz, Xs]
               refine wl_val (.bool (decide (16777216 < c.ms))) rfl (fun w => run_cmp rfl rfl rfl Try.underlying2 rfl w) ?_
               simp only [Act.put, Xa, Xz, Xs]
               refine wl_val (.bool (decide (16777216 < c.ms))) rfl (fun _ => rfl) ?_
               simp only [Act.put, Xa, Xz, Xs]
               refine wl_val (.bool (decide (16777216 < c.ms))) rfl (fun _ => rfl) ?_
               simp only [Act.put, Xa, Xz, Xs]
               cases h16 : (decide (16777216 < c.ms))
               ·
                skip
                have p16 : ¬ (16777216 < c.ms) := of_decide_eq_false h16
                refine wl_val (.pointer (some ⟨g1, 7, none⟩)) rfl (fun _ => by go_simp) ?_
                simp only [Act.put, Xa, Xz, Xs]
                refine wl_cell 2 (.tmp 75) (.int .i64 c.ma) (own_row 0 rfl) rfl rfl rfl rfl Try.isAgg2 ?_
                simp only [Act.put, Xa, Xz, Xs]
                refine wl_val (.bool (decide (c.ma < 1))) rfl (fun w => run_cmp rfl rfl rfl Try.underlying2 rfl w) ?_
                simp only [Act.put, Xa, Xz, Xs]
                refine wl_val (.bool (decide (c.ma < 1))) rfl (fun _ => rfl) ?_
                simp only [Act.put, Xa, Xz, Xs]
                refine wl_val (.bool (decide (c.ma < 1))) rfl (fun _ => rfl) ?_
                simp only [Act.put, Xa, Xz, Xs]
                cases h17 : (decide (c.ma < 1))
                ·
                 skip
                 have p17 : ¬ (c.ma < 1) := of_decide_eq_false h17
                 refine wl_val (.pointer (some ⟨g1, 7, none⟩)) rfl (fun _ => by go_simp) ?_
                 simp only [Act.put, Xa, Xz, Xs]
                 refine wl_cell 2 (.tmp 80) (.int .i64 c.ma) (own_row 0 rfl) rfl rfl rfl rfl Try.isAgg2 ?_
                 simp only [Act.put, Xa, Xz, Xs]
                 refine wl_val (.bool (decide (1048576 < c.ma))) rfl (fun w => run_cmp rfl rfl rfl Try.underlying2 rfl w) ?_
                 simp only [Act.put, Xa, Xz, Xs]
                 refine wl_val (.bool (decide (1048576 < c.ma))) rfl (fun _ => rfl) ?_
                 simp only [Act.put, Xa, Xz, Xs]
                 refine wl_nil ?_
                 refine we_then ?_
                 cases h18 : (decide (1048576 < c.ma))
                 ·
                  skip
                  have p18 : ¬ (1048576 < c.ma) := of_decide_eq_false h18
                  refine wc_false rfl ?_
                  refine wc_skip ?_
                  refine we_then ?_
                  refine wc_seq ?_
                  refine wc_seq ?_
                  have m1 := mul_in (a := c.ms) (b := c.pu) 16777216 1024 (by omega) (by omega) (by omega) (by omega)
                  refine wc_region ?_
                  refine wl_val (.pointer (some ⟨g1, 6, none⟩)) rfl (fun _ => by go_simp) ?_
                  simp only [Act.put, Xa, Xz, Xs]
                  refine wl_cell 2 (.tmp 84) (.int .i64 c.ms) (own_row 0 rfl) rfl rfl rfl rfl Try.isAgg2 ?_
                  simp only [Act.put, Xa, Xz, Xs]
                  refine wl_val (.pointer (some ⟨g1, 0, none⟩)) rfl (fun _ => by go_simp) ?_
                  simp only [Act.put, Xa, Xz, Xs]
                  refine wl_cell 2 (.tmp 86) (.int .i64 c.pu) (own_row 0 rfl) rfl rfl rfl rfl Try.isAgg2 ?_
                  simp only [Act.put, Xa, Xz, Xs]
                  refine wl_val (.int .i64 (c.ms * c.pu)) rfl (fun w => run_arith (op := .mul) rfl rfl rfl Try.underlying2 (congrArg some (i64_in (by omega) (by omega))) w) ?_
                  simp only [Act.put, Xa, Xz, Xs]
                  refine wl_val (.pointer (some ⟨g1, 1, none⟩)) rfl (fun _ => by go_simp) ?_
                  simp only [Act.put, Xa, Xz, Xs]
                  refine wl_cell 2 (.tmp 89) (.int .i64 c.lo) (own_row 0 rfl) rfl rfl rfl rfl Try.isAgg2 ?_
                  simp only [Act.put, Xa, Xz, Xs]
                  refine wl_val (.int .i64 (32000 * c.lo)) rfl (fun w => run_arith (op := .mul) rfl rfl rfl Try.underlying2 (congrArg some (i64_in (by omega) (by omega))) w) ?_
                  simp only [Act.put, Xa, Xz, Xs]
                  refine wl_val (.bool (decide (32000 * c.lo < c.ms * c.pu))) rfl (fun w => run_cmp rfl rfl rfl Try.underlying2 rfl w) ?_
                  simp only [Act.put, Xa, Xz, Xs]
                  refine wl_nil ?_
                  refine we_then ?_
                  cases h19 : (decide (32000 * c.lo < c.ms * c.pu))
                  ·
                   skip
                   have p19 : ¬ (32000 * c.lo < c.ms * c.pu) := of_decide_eq_false h19
                   refine wc_false rfl ?_
                   refine wc_skip ?_
                   refine we_then ?_
                   refine wc_seq ?_
                   refine wc_seq ?_
                   refine wc_region ?_
                   refine wl_val (.pointer (some ⟨g1, 8, none⟩)) rfl (fun _ => by go_simp) ?_
                   simp only [Act.put, Xa, Xz, Xs]
                   refine wl_cell 2 (.tmp 93) (.int .i64 c.an) (own_row 0 rfl) rfl rfl rfl rfl Try.isAgg2 ?_
                   simp only [Act.put, Xa, Xz, Xs]
                   refine wl_val (.bool (decide (c.an < 0))) rfl (fun w => run_cmp rfl rfl rfl Try.underlying2 rfl w) ?_
                   simp only [Act.put, Xa, Xz, Xs]
                   refine wl_val (.bool (decide (c.an < 0))) rfl (fun _ => rfl) ?_
                   simp only [Act.put, Xa, Xz, Xs]
                   cases h20 : (decide (c.an < 0))
                   ·
                    skip
                    have p20 : ¬ (c.an < 0) := of_decide_eq_false h20
                    refine wl_val (.pointer (some ⟨g1, 8, none⟩)) rfl (fun _ => by go_simp) ?_
                    simp only [Act.put, Xa, Xz, Xs]
                    refine wl_cell 2 (.tmp 97) (.int .i64 c.an) (own_row 0 rfl) rfl rfl rfl rfl Try.isAgg2 ?_
                    simp only [Act.put, Xa, Xz, Xs]
                    refine wl_val (.bool (decide (1048576 < c.an))) rfl (fun w => run_cmp rfl rfl rfl Try.underlying2 rfl w) ?_
                    simp only [Act.put, Xa, Xz, Xs]
                    refine wl_val (.bool (decide (1048576 < c.an))) rfl (fun _ => rfl) ?_
                    simp only [Act.put, Xa, Xz, Xs]
                    refine wl_nil ?_
                    refine we_then ?_
                    cases h21 : (decide (1048576 < c.an))
                    ·
                     skip
                     have p21 : ¬ (1048576 < c.an) := of_decide_eq_false h21
                     refine wc_false rfl ?_
                     refine wc_skip ?_
                     refine we_then ?_
                     refine wc_seq ?_
                     refine wc_seq ?_
                     refine wc_region ?_
                     refine wl_val (.pointer (some ⟨g1, 9, none⟩)) rfl (fun _ => by go_simp) ?_
                     simp only [Act.put, Xa, Xz, Xs]
                     refine wl_cell 3 (.tmp 101) (.int .i64 c.st) (own_row 0 rfl) rfl rfl rfl rfl Try.isAgg3 ?_
                     simp only [Act.put, Xa, Xz, Xs]
                     refine wl_val (.bool (decide (c.st < 1))) rfl (fun w => run_cmp rfl rfl rfl Try.underlying3 rfl w) ?_
                     simp only [Act.put, Xa, Xz, Xs]
                     refine wl_val (.bool (decide (c.st < 1))) rfl (fun _ => rfl) ?_
                     simp only [Act.put, Xa, Xz, Xs]
                     cases h22 : (decide (c.st < 1))
                     ·
                      skip
                      have p22 : ¬ (c.st < 1) := of_decide_eq_false h22
                      refine wl_val (.pointer (some ⟨g1, 9, none⟩)) rfl (fun _ => by go_simp) ?_
                      simp only [Act.put, Xa, Xz, Xs]
                      refine wl_cell 3 (.tmp 105) (.int .i64 c.st) (own_row 0 rfl) rfl rfl rfl rfl Try.isAgg3 ?_
                      simp only [Act.put, Xa, Xz, Xs]
                      refine wl_val (.bool (decide (1000 < c.st))) rfl (fun w => run_cmp rfl rfl rfl Try.underlying3 rfl w) ?_
                      simp only [Act.put, Xa, Xz, Xs]
                      refine wl_val (.bool (decide (1000 < c.st))) rfl (fun _ => rfl) ?_
                      simp only [Act.put, Xa, Xz, Xs]
                      refine wl_val (.bool (decide (1000 < c.st))) rfl (fun _ => rfl) ?_
                      simp only [Act.put, Xa, Xz, Xs]
                      cases h23 : (decide (1000 < c.st))
                      ·
                       skip
                       have p23 : ¬ (1000 < c.st) := of_decide_eq_false h23
                       refine wl_val (.pointer (some ⟨g1, 12, none⟩)) rfl (fun _ => by go_simp) ?_
                       simp only [Act.put, Xa, Xz, Xs]
                       refine wl_cell 3 (.tmp 110) (.int .i64 c.ti) (own_row 0 rfl) rfl rfl rfl rfl Try.isAgg3 ?_
                       simp only [Act.put, Xa, Xz, Xs]
                       refine wl_val (.bool (decide (c.ti < 1))) rfl (fun w => run_cmp rfl rfl rfl Try.underlying3 rfl w) ?_
                       simp only [Act.put, Xa, Xz, Xs]
                       refine wl_val (.bool (decide (c.ti < 1))) rfl (fun _ => rfl) ?_
                       simp only [Act.put, Xa, Xz, Xs]
                       refine wl_val (.bool (decide (c.ti < 1))) rfl (fun _ => rfl) ?_
                       simp only [Act.put, Xa, Xz, Xs]
                       cases h24 : (decide (c.ti < 1))
                       ·
                        skip
                        have p24 : ¬ (c.ti < 1) := of_decide_eq_false h24
                        refine wl_val (.pointer (some ⟨g1, 12, none⟩)) rfl (fun _ => by go_simp) ?_
                        simp only [Act.put, Xa, Xz, Xs]
                        refine wl_cell 3 (.tmp 115) (.int .i64 c.ti) (own_row 0 rfl) rfl rfl rfl rfl Try.isAgg3 ?_
                        simp only [Act.put, Xa, Xz, Xs]
                        refine wl_val (.bool (decide (1000 < c.ti))) rfl (fun w => run_cmp rfl rfl rfl Try.underlying3 rfl w) ?_
                        simp only [Act.put, Xa, Xz, Xs]
                        refine wl_val (.bool (decide (1000 < c.ti))) rfl (fun _ => rfl) ?_
                        simp only [Act.put, Xa, Xz, Xs]
                        refine wl_nil ?_
                        refine we_then ?_
                        cases h25 : (decide (1000 < c.ti))
                        ·
                         skip
                         have p25 : ¬ (1000 < c.ti) := of_decide_eq_false h25
                         refine wc_false rfl ?_
                         refine wc_skip ?_
                         refine we_then ?_
                         refine wc_seq ?_
                         refine wc_seq ?_
                         refine wc_draw [.late, .plain, .late, .plain, .late, .plain, .plain, .late, .late, .late, .plain, .late, .plain, .late, .late, .late, .late, .late, .plain, .late, .late] none [] 156 (by kernel_rfl) rfl (by kernel_rfl) (by kernel_rfl) ?_
                         refine ws_late (.pointer (some ⟨g1, 10, none⟩)) rfl rfl (fun _ => by go_simp) ?_
                         simp only [Nat.reduceAdd, Act.put, Xa, Xz, Xs]
                         refine ws_cell 2 (.tmp 119) (.int .i64 c.ss) (own_row 0 rfl) rfl rfl rfl rfl rfl Try.isAgg2 ?_
                         simp only [Nat.reduceAdd, Act.put, Xa, Xz, Xs]
                         refine ws_late (.pointer (some ⟨g1, 2, none⟩)) rfl rfl (fun _ => by go_simp) ?_
                         simp only [Nat.reduceAdd, Act.put, Xa, Xz, Xs]
                         refine ws_cell 2 (.tmp 121) (.int .i64 c.hi) (own_row 0 rfl) rfl rfl rfl rfl rfl Try.isAgg2 ?_
                         simp only [Nat.reduceAdd, Act.put, Xa, Xz, Xs]
                         refine ws_late (.pointer (some ⟨g1, 0, none⟩)) rfl rfl (fun _ => by go_simp) ?_
                         simp only [Nat.reduceAdd, Act.put, Xa, Xz, Xs]
                         refine ws_cell 2 (.tmp 123) (.int .i64 c.pu) (own_row 0 rfl) rfl rfl rfl rfl rfl Try.isAgg2 ?_
                         simp only [Nat.reduceAdd, Act.put, Xa, Xz, Xs]
                         refine ws_call 19 #[.int .i64 c.hi, .int .i64 c.pu] (.int .i64 (upq c.hi c.pu)) rfl rfl (fun _ => by go_simp) (fun W => up_any c.hi c.pu W (by omega) (by omega) (by omega) (by omega)) ?_
                         simp only [Nat.reduceAdd, Act.put, Xa, Xz, Xs]
                         refine ws_late (.bool (decide (c.ss < (upq c.hi c.pu)))) rfl rfl (fun w => run_cmp rfl rfl rfl Try.underlying2 rfl w) ?_
                         simp only [Nat.reduceAdd, Act.put, Xa, Xz, Xs]
                         refine ws_late (.bool (decide (c.ss < (upq c.hi c.pu)))) rfl rfl (fun _ => rfl) ?_
                         simp only [Nat.reduceAdd, Act.put, Xa, Xz, Xs]
                         cases h26 : (decide (c.ss < (upq c.hi c.pu)))
                         ·
                          skip
                          have p26 : ¬ (c.ss < (upq c.hi c.pu)) := of_decide_eq_false h26
                          refine ws_late (.pointer (some ⟨g1, 10, none⟩)) rfl rfl (fun _ => by go_simp) ?_
                          simp only [Nat.reduceAdd, Act.put, Xa, Xz, Xs]
                          refine ws_cell 2 (.tmp 128) (.int .i64 c.ss) (own_row 0 rfl) rfl rfl rfl rfl rfl Try.isAgg2 ?_
                          simp only [Nat.reduceAdd, Act.put, Xa, Xz, Xs]
                          refine ws_late (.pointer (some ⟨g1, 3, none⟩)) rfl rfl (fun _ => by go_simp) ?_
                          simp only [Nat.reduceAdd, Act.put, Xa, Xz, Xs]
                          refine ws_cell 2 (.tmp 130) (.int .i64 c.rb) (own_row 0 rfl) rfl rfl rfl rfl rfl Try.isAgg2 ?_
                          simp only [Nat.reduceAdd, Act.put, Xa, Xz, Xs]
                          refine ws_late (.int .i64 (3 * c.rb)) rfl rfl (fun w => run_arith (op := .mul) rfl rfl rfl Try.underlying2 (congrArg some (i64_in (by omega) (by omega))) w) ?_
                          simp only [Nat.reduceAdd, Act.put, Xa, Xz, Xs]
                          refine ws_late (.bool (decide (c.ss < 3 * c.rb))) rfl rfl (fun w => run_cmp rfl rfl rfl Try.underlying2 rfl w) ?_
                          simp only [Nat.reduceAdd, Act.put, Xa, Xz, Xs]
                          refine ws_late (.bool (decide (c.ss < 3 * c.rb))) rfl rfl (fun _ => rfl) ?_
                          simp only [Nat.reduceAdd, Act.put, Xa, Xz, Xs]
                          refine ws_late (.bool (decide (c.ss < 3 * c.rb))) rfl rfl (fun _ => rfl) ?_
                          simp only [Nat.reduceAdd, Act.put, Xa, Xz, Xs]
                          cases h27 : (decide (c.ss < 3 * c.rb))
                          ·
                           skip
                           have p27 : ¬ (c.ss < 3 * c.rb) := of_decide_eq_false h27
                           refine ws_late (.pointer (some ⟨g1, 10, none⟩)) rfl rfl (fun _ => by go_simp) ?_
                           simp only [Nat.reduceAdd, Act.put, Xa, Xz, Xs]
                           refine ws_cell 2 (.tmp 136) (.int .i64 c.ss) (own_row 0 rfl) rfl rfl rfl rfl rfl Try.isAgg2 ?_
                           simp only [Nat.reduceAdd, Act.put, Xa, Xz, Xs]
                           refine ws_late (.bool (decide (16777216 < c.ss))) rfl rfl (fun w => run_cmp rfl rfl rfl Try.underlying2 rfl w) ?_
                           simp only [Nat.reduceAdd, Act.put, Xa, Xz, Xs]
                           refine ws_late (.bool (decide (16777216 < c.ss))) rfl rfl (fun _ => rfl) ?_
                           simp only [Nat.reduceAdd, Act.put, Xa, Xz, Xs]
                           refine ws_nil [] trivial (by simp) ?_
                           intro ps28
                           simp only [fin, List.foldl_nil, List.map, List.nil_append]
                           refine we_then ?_
                           cases h29 : (decide (16777216 < c.ss))
                           ·
                            skip
                            have p29 : ¬ (16777216 < c.ss) := of_decide_eq_false h29
                            refine wc_false rfl ?_
                            refine wc_skip ?_
                            refine we_then ?_
                            refine wc_seq ?_
                            refine wc_seq ?_
                            refine wc_region ?_
                            refine wl_val (.pointer (some ⟨g1, 11, none⟩)) rfl (fun _ => by go_simp) ?_
                            simp only [Act.put, Xa, Xz, Xs]
                            refine wl_cell 2 (.tmp 140) (.int .i64 c.ro) (own_row 0 rfl) rfl rfl rfl rfl Try.isAgg2 ?_
                            simp only [Act.put, Xa, Xz, Xs]
                            refine wl_val (.bool (decide (c.ro < 0))) rfl (fun w => run_cmp rfl rfl rfl Try.underlying2 rfl w) ?_
                            simp only [Act.put, Xa, Xz, Xs]
                            refine wl_val (.bool (decide (c.ro < 0))) rfl (fun _ => rfl) ?_
                            simp only [Act.put, Xa, Xz, Xs]
                            cases h30 : (decide (c.ro < 0))
                            ·
                             skip
                             have p30 : ¬ (c.ro < 0) := of_decide_eq_false h30
                             refine wl_val (.pointer (some ⟨g1, 11, none⟩)) rfl (fun _ => by go_simp) ?_
                             simp only [Act.put, Xa, Xz, Xs]
                             refine wl_cell 2 (.tmp 144) (.int .i64 c.ro) (own_row 0 rfl) rfl rfl rfl rfl Try.isAgg2 ?_
                             simp only [Act.put, Xa, Xz, Xs]
                             refine wl_val (.bool (decide (1073741824 < c.ro))) rfl (fun w => run_cmp rfl rfl rfl Try.underlying2 rfl w) ?_
                             simp only [Act.put, Xa, Xz, Xs]
                             refine wl_val (.bool (decide (1073741824 < c.ro))) rfl (fun _ => rfl) ?_
                             simp only [Act.put, Xa, Xz, Xs]
                             refine wl_nil ?_
                             refine we_then ?_
                             cases h31 : (decide (1073741824 < c.ro))
                             ·
                              skip
                              have p31 : ¬ (1073741824 < c.ro) := of_decide_eq_false h31
                              refine wc_false rfl ?_
                              refine wc_skip ?_
                              refine we_then ?_
                              refine wc_seq ?_
                              refine wc_seq ?_
                              refine wc_region ?_
                              refine wl_val (.pointer (some ⟨g1, 13, none⟩)) rfl (fun _ => by go_simp) ?_
                              simp only [Act.put, Xa, Xz, Xs]
                              refine wl_cell 2 (.tmp 148) (.int .i64 c.br) (own_row 0 rfl) rfl rfl rfl rfl Try.isAgg2 ?_
                              simp only [Act.put, Xa, Xz, Xs]
                              refine wl_val (.bool (decide (c.br < 1))) rfl (fun w => run_cmp rfl rfl rfl Try.underlying2 rfl w) ?_
                              simp only [Act.put, Xa, Xz, Xs]
                              refine wl_val (.bool (decide (c.br < 1))) rfl (fun _ => rfl) ?_
                              simp only [Act.put, Xa, Xz, Xs]
                              cases h32 : (decide (c.br < 1))
                              ·
                               skip
                               have p32 : ¬ (c.br < 1) := of_decide_eq_false h32
                               refine wl_val (.pointer (some ⟨g1, 13, none⟩)) rfl (fun _ => by go_simp) ?_
                               simp only [Act.put, Xa, Xz, Xs]
                               refine wl_cell 2 (.tmp 152) (.int .i64 c.br) (own_row 0 rfl) rfl rfl rfl rfl Try.isAgg2 ?_
                               simp only [Act.put, Xa, Xz, Xs]
                               refine wl_val (.bool (decide (1048576 < c.br))) rfl (fun w => run_cmp rfl rfl rfl Try.underlying2 rfl w) ?_
                               simp only [Act.put, Xa, Xz, Xs]
                               refine wl_val (.bool (decide (1048576 < c.br))) rfl (fun _ => rfl) ?_
                               simp only [Act.put, Xa, Xz, Xs]
                               refine wl_nil ?_
                               refine we_then ?_
                               cases h33 : (decide (1048576 < c.br))
                               ·
                                skip
                                have p33 : ¬ (1048576 < c.br) := of_decide_eq_false h33
                                refine wc_false rfl ?_
                                refine wc_skip ?_
                                refine we_then ?_
                                refine wc_seq ?_
                                refine wc_region ?_
                                refine wl_val (.int .i64 0) rfl (fun _ => rfl) ?_
                                simp only [Act.put, Xa, Xz, Xs]
                                refine wl_nil ?_
                                refine we_then ?_
                                refine wc_ret ?_
                                refine we_ret1 (.int .i64 0) rfl rfl rfl (fun w1 hE => ?_)
                                rw [show wrong c = 0 from by unfold wrong; rw [if_neg (by omega), if_neg (by omega), if_neg (by omega), if_neg (by omega), if_neg (by omega), if_neg (by omega), if_neg (by omega), if_neg (by omega), if_neg (by omega), if_neg (by omega), if_neg (by omega), if_neg (by omega)]]
                                exact ⟨rfl, hE.below⟩
                               ·
                                skip
                                have p33 : 1048576 < c.br := of_decide_eq_true h33
                                refine wc_true rfl ?_
                                refine wc_seq ?_
                                refine wc_region ?_
                                refine wl_val (.int .i64 12) rfl (fun _ => rfl) ?_
                                simp only [Act.put, Xa, Xz, Xs]
                                refine wl_nil ?_
                                refine we_then ?_
                                refine wc_ret ?_
                                refine we_then_ret ?_
                                refine we_ret1 (.int .i64 12) rfl rfl rfl (fun w1 hE => ?_)
                                rw [show wrong c = 12 from by unfold wrong; rw [if_neg (by omega), if_neg (by omega), if_neg (by omega), if_neg (by omega), if_neg (by omega), if_neg (by omega), if_neg (by omega), if_neg (by omega), if_neg (by omega), if_neg (by omega), if_neg (by omega), if_pos (by omega)]]
                                exact ⟨rfl, hE.below⟩
                              ·
                               skip
                               have p32 : c.br < 1 := of_decide_eq_true h32
                               refine wl_skip rfl ?_
                               simp only [Act.put, Xa, Xz, Xs]
                               refine wl_skip rfl ?_
                               simp only [Act.put, Xa, Xz, Xs]
                               refine wl_skip rfl ?_
                               simp only [Act.put, Xa, Xz, Xs]
                               refine wl_val (.bool true) rfl (fun _ => rfl) ?_
                               simp only [Act.put, Xa, Xz, Xs]
                               refine wl_nil ?_
                               refine we_then ?_
                               refine wc_true rfl ?_
                               refine wc_seq ?_
                               refine wc_region ?_
                               refine wl_val (.int .i64 12) rfl (fun _ => rfl) ?_
                               simp only [Act.put, Xa, Xz, Xs]
                               refine wl_nil ?_
                               refine we_then ?_
                               refine wc_ret ?_
                               refine we_then_ret ?_
                               refine we_ret1 (.int .i64 12) rfl rfl rfl (fun w1 hE => ?_)
                               rw [show wrong c = 12 from by unfold wrong; rw [if_neg (by omega), if_neg (by omega), if_neg (by omega), if_neg (by omega), if_neg (by omega), if_neg (by omega), if_neg (by omega), if_neg (by omega), if_neg (by omega), if_neg (by omega), if_neg (by omega), if_pos (by omega)]]
                               exact ⟨rfl, hE.below⟩
                             ·
                              skip
                              have p31 : 1073741824 < c.ro := of_decide_eq_true h31
                              refine wc_true rfl ?_
                              refine wc_seq ?_
                              refine wc_region ?_
                              refine wl_val (.int .i64 11) rfl (fun _ => rfl) ?_
                              simp only [Act.put, Xa, Xz, Xs]
                              refine wl_nil ?_
                              refine we_then ?_
                              refine wc_ret ?_
                              refine we_then_ret ?_
                              refine we_ret1 (.int .i64 11) rfl rfl rfl (fun w1 hE => ?_)
                              rw [show wrong c = 11 from by unfold wrong; rw [if_neg (by omega), if_neg (by omega), if_neg (by omega), if_neg (by omega), if_neg (by omega), if_neg (by omega), if_neg (by omega), if_neg (by omega), if_neg (by omega), if_neg (by omega), if_pos (by omega)]]
                              exact ⟨rfl, hE.below⟩
                            ·
                             skip
                             have p30 : c.ro < 0 := of_decide_eq_true h30
                             refine wl_skip rfl ?_
                             simp only [Act.put, Xa, Xz, Xs]
                             refine wl_skip rfl ?_
                             simp only [Act.put, Xa, Xz, Xs]
                             refine wl_skip rfl ?_
                             simp only [Act.put, Xa, Xz, Xs]
                             refine wl_val (.bool true) rfl (fun _ => rfl) ?_
                             simp only [Act.put, Xa, Xz, Xs]
                             refine wl_nil ?_
                             refine we_then ?_
                             refine wc_true rfl ?_
                             refine wc_seq ?_
                             refine wc_region ?_
                             refine wl_val (.int .i64 11) rfl (fun _ => rfl) ?_
                             simp only [Act.put, Xa, Xz, Xs]
                             refine wl_nil ?_
                             refine we_then ?_
                             refine wc_ret ?_
                             refine we_then_ret ?_
                             refine we_ret1 (.int .i64 11) rfl rfl rfl (fun w1 hE => ?_)
                             rw [show wrong c = 11 from by unfold wrong; rw [if_neg (by omega), if_neg (by omega), if_neg (by omega), if_neg (by omega), if_neg (by omega), if_neg (by omega), if_neg (by omega), if_neg (by omega), if_neg (by omega), if_neg (by omega), if_pos (by omega)]]
                             exact ⟨rfl, hE.below⟩
                           ·
                            skip
                            have p29 : 16777216 < c.ss := of_decide_eq_true h29
                            refine wc_true rfl ?_
                            refine wc_seq ?_
                            refine wc_region ?_
                            refine wl_val (.int .i64 10) rfl (fun _ => rfl) ?_
                            simp only [Act.put, Xa, Xz, Xs]
                            refine wl_nil ?_
                            refine we_then ?_
                            refine wc_ret ?_
                            refine we_then_ret ?_
                            refine we_ret1 (.int .i64 10) rfl rfl rfl (fun w1 hE => ?_)
                            rw [show wrong c = 10 from by unfold wrong; rw [if_neg (by omega), if_neg (by omega), if_neg (by omega), if_neg (by omega), if_neg (by omega), if_neg (by omega), if_neg (by omega), if_neg (by omega), if_neg (by omega), if_pos (by omega)]]
                            exact ⟨rfl, hE.below⟩
                          ·
                           skip
                           have p27 : c.ss < 3 * c.rb := of_decide_eq_true h27
                           refine ws_skip_late rfl rfl ?_
                           simp only [Nat.reduceAdd, Act.put, Xa, Xz, Xs]
                           refine ws_skip rfl rfl ?_
                           simp only [Nat.reduceAdd, Act.put, Xa, Xz, Xs]
                           refine ws_skip_late rfl rfl ?_
                           simp only [Nat.reduceAdd, Act.put, Xa, Xz, Xs]
                           refine ws_late (.bool true) rfl rfl (fun _ => rfl) ?_
                           simp only [Nat.reduceAdd, Act.put, Xa, Xz, Xs]
                           refine ws_nil [] trivial (by simp) ?_
                           intro ps34
                           simp only [fin, List.foldl_nil, List.map, List.nil_append]
                           refine we_then ?_
                           refine wc_true rfl ?_
                           refine wc_seq ?_
                           refine wc_region ?_
                           refine wl_val (.int .i64 10) rfl (fun _ => rfl) ?_
                           simp only [Act.put, Xa, Xz, Xs]
                           refine wl_nil ?_
                           refine we_then ?_
                           refine wc_ret ?_
                           refine we_then_ret ?_
                           refine we_ret1 (.int .i64 10) rfl rfl rfl (fun w1 hE => ?_)
                           rw [show wrong c = 10 from by unfold wrong; rw [if_neg (by omega), if_neg (by omega), if_neg (by omega), if_neg (by omega), if_neg (by omega), if_neg (by omega), if_neg (by omega), if_neg (by omega), if_neg (by omega), if_pos (by omega)]]
                           exact ⟨rfl, hE.below⟩
                         ·
                          skip
                          have p26 : c.ss < (upq c.hi c.pu) := of_decide_eq_true h26
                          refine ws_skip_late rfl rfl ?_
                          simp only [Nat.reduceAdd, Act.put, Xa, Xz, Xs]
                          refine ws_skip rfl rfl ?_
                          simp only [Nat.reduceAdd, Act.put, Xa, Xz, Xs]
                          refine ws_skip_late rfl rfl ?_
                          simp only [Nat.reduceAdd, Act.put, Xa, Xz, Xs]
                          refine ws_skip rfl rfl ?_
                          simp only [Nat.reduceAdd, Act.put, Xa, Xz, Xs]
                          refine ws_skip_late rfl rfl ?_
                          simp only [Nat.reduceAdd, Act.put, Xa, Xz, Xs]
                          refine ws_skip_late rfl rfl ?_
                          simp only [Nat.reduceAdd, Act.put, Xa, Xz, Xs]
                          refine ws_late (.bool true) rfl rfl (fun _ => rfl) ?_
                          simp only [Nat.reduceAdd, Act.put, Xa, Xz, Xs]
                          refine ws_late (.bool true) rfl rfl (fun _ => rfl) ?_
                          simp only [Nat.reduceAdd, Act.put, Xa, Xz, Xs]
                          refine ws_skip_late rfl rfl ?_
                          simp only [Nat.reduceAdd, Act.put, Xa, Xz, Xs]
                          refine ws_skip rfl rfl ?_
                          simp only [Nat.reduceAdd, Act.put, Xa, Xz, Xs]
                          refine ws_skip_late rfl rfl ?_
                          simp only [Nat.reduceAdd, Act.put, Xa, Xz, Xs]
                          refine ws_late (.bool true) rfl rfl (fun _ => rfl) ?_
                          simp only [Nat.reduceAdd, Act.put, Xa, Xz, Xs]
                          refine ws_nil [] trivial (by simp) ?_
                          intro ps35
                          simp only [fin, List.foldl_nil, List.map, List.nil_append]
                          refine we_then ?_
                          refine wc_true rfl ?_
                          refine wc_seq ?_
                          refine wc_region ?_
                          refine wl_val (.int .i64 10) rfl (fun _ => rfl) ?_
                          simp only [Act.put, Xa, Xz, Xs]
                          refine wl_nil ?_
                          refine we_then ?_
                          refine wc_ret ?_
                          refine we_then_ret ?_
                          refine we_ret1 (.int .i64 10) rfl rfl rfl (fun w1 hE => ?_)
                          rw [show wrong c = 10 from by unfold wrong; rw [if_neg (by omega), if_neg (by omega), if_neg (by omega), if_neg (by omega), if_neg (by omega), if_neg (by omega), if_neg (by omega), if_neg (by omega), if_neg (by omega), if_pos (by omega)]]
                          exact ⟨rfl, hE.below⟩
                        ·
                         skip
                         have p25 : 1000 < c.ti := of_decide_eq_true h25
                         refine wc_true rfl ?_
                         refine wc_seq ?_
                         refine wc_region ?_
                         refine wl_val (.int .i64 9) rfl (fun _ => rfl) ?_
                         simp only [Act.put, Xa, Xz, Xs]
                         refine wl_nil ?_
                         refine we_then ?_
                         refine wc_ret ?_
                         refine we_then_ret ?_
                         refine we_ret1 (.int .i64 9) rfl rfl rfl (fun w1 hE => ?_)
                         rw [show wrong c = 9 from by unfold wrong; rw [if_neg (by omega), if_neg (by omega), if_neg (by omega), if_neg (by omega), if_neg (by omega), if_neg (by omega), if_neg (by omega), if_neg (by omega), if_pos (by omega)]]
                         exact ⟨rfl, hE.below⟩
                       ·
                        skip
                        have p24 : c.ti < 1 := of_decide_eq_true h24
                        refine wl_skip rfl ?_
                        simp only [Act.put, Xa, Xz, Xs]
                        refine wl_skip rfl ?_
                        simp only [Act.put, Xa, Xz, Xs]
                        refine wl_skip rfl ?_
                        simp only [Act.put, Xa, Xz, Xs]
                        refine wl_val (.bool true) rfl (fun _ => rfl) ?_
                        simp only [Act.put, Xa, Xz, Xs]
                        refine wl_nil ?_
                        refine we_then ?_
                        refine wc_true rfl ?_
                        refine wc_seq ?_
                        refine wc_region ?_
                        refine wl_val (.int .i64 9) rfl (fun _ => rfl) ?_
                        simp only [Act.put, Xa, Xz, Xs]
                        refine wl_nil ?_
                        refine we_then ?_
                        refine wc_ret ?_
                        refine we_then_ret ?_
                        refine we_ret1 (.int .i64 9) rfl rfl rfl (fun w1 hE => ?_)
                        rw [show wrong c = 9 from by unfold wrong; rw [if_neg (by omega), if_neg (by omega), if_neg (by omega), if_neg (by omega), if_neg (by omega), if_neg (by omega), if_neg (by omega), if_neg (by omega), if_pos (by omega)]]
                        exact ⟨rfl, hE.below⟩
                      ·
                       skip
                       have p23 : 1000 < c.st := of_decide_eq_true h23
                       refine wl_skip rfl ?_
                       simp only [Act.put, Xa, Xz, Xs]
                       refine wl_skip rfl ?_
                       simp only [Act.put, Xa, Xz, Xs]
                       refine wl_skip rfl ?_
                       simp only [Act.put, Xa, Xz, Xs]
                       refine wl_val (.bool true) rfl (fun _ => rfl) ?_
                       simp only [Act.put, Xa, Xz, Xs]
                       refine wl_val (.bool true) rfl (fun _ => rfl) ?_
                       simp only [Act.put, Xa, Xz, Xs]
                       refine wl_skip rfl ?_
                       simp only [Act.put, Xa, Xz, Xs]
                       refine wl_skip rfl ?_
                       simp only [Act.put, Xa, Xz, Xs]
                       refine wl_skip rfl ?_
                       simp only [Act.put, Xa, Xz, Xs]
                       refine wl_val (.bool true) rfl (fun _ => rfl) ?_
                       simp only [Act.put, Xa, Xz, Xs]
                       refine wl_nil ?_
                       refine we_then ?_
                       refine wc_true rfl ?_
                       refine wc_seq ?_
                       refine wc_region ?_
                       refine wl_val (.int .i64 9) rfl (fun _ => rfl) ?_
                       simp only [Act.put, Xa, Xz, Xs]
                       refine wl_nil ?_
                       refine we_then ?_
                       refine wc_ret ?_
                       refine we_then_ret ?_
                       refine we_ret1 (.int .i64 9) rfl rfl rfl (fun w1 hE => ?_)
                       rw [show wrong c = 9 from by unfold wrong; rw [if_neg (by omega), if_neg (by omega), if_neg (by omega), if_neg (by omega), if_neg (by omega), if_neg (by omega), if_neg (by omega), if_neg (by omega), if_pos (by omega)]]
                       exact ⟨rfl, hE.below⟩
                     ·
                      skip
                      have p22 : c.st < 1 := of_decide_eq_true h22
                      refine wl_skip rfl ?_
                      simp only [Act.put, Xa, Xz, Xs]
                      refine wl_skip rfl ?_
                      simp only [Act.put, Xa, Xz, Xs]
                      refine wl_skip rfl ?_
                      simp only [Act.put, Xa, Xz, Xs]
                      refine wl_val (.bool true) rfl (fun _ => rfl) ?_
                      simp only [Act.put, Xa, Xz, Xs]
                      refine wl_val (.bool true) rfl (fun _ => rfl) ?_
                      simp only [Act.put, Xa, Xz, Xs]
                      refine wl_skip rfl ?_
                      simp only [Act.put, Xa, Xz, Xs]
                      refine wl_skip rfl ?_
                      simp only [Act.put, Xa, Xz, Xs]
                      refine wl_skip rfl ?_
                      simp only [Act.put, Xa, Xz, Xs]
                      refine wl_val (.bool true) rfl (fun _ => rfl) ?_
                      simp only [Act.put, Xa, Xz, Xs]
                      refine wl_val (.bool true) rfl (fun _ => rfl) ?_
                      simp only [Act.put, Xa, Xz, Xs]
                      refine wl_skip rfl ?_
                      simp only [Act.put, Xa, Xz, Xs]
                      refine wl_skip rfl ?_
                      simp only [Act.put, Xa, Xz, Xs]
                      refine wl_skip rfl ?_
                      simp only [Act.put, Xa, Xz, Xs]
                      refine wl_val (.bool true) rfl (fun _ => rfl) ?_
                      simp only [Act.put, Xa, Xz, Xs]
                      refine wl_nil ?_
                      refine we_then ?_
                      refine wc_true rfl ?_
                      refine wc_seq ?_
                      refine wc_region ?_
                      refine wl_val (.int .i64 9) rfl (fun _ => rfl) ?_
                      simp only [Act.put, Xa, Xz, Xs]
                      refine wl_nil ?_
                      refine we_then ?_
                      refine wc_ret ?_
                      refine we_then_ret ?_
                      refine we_ret1 (.int .i64 9) rfl rfl rfl (fun w1 hE => ?_)
                      rw [show wrong c = 9 from by unfold wrong; rw [if_neg (by omega), if_neg (by omega), if_neg (by omega), if_neg (by omega), if_neg (by omega), if_neg (by omega), if_neg (by omega), if_neg (by omega), if_pos (by omega)]]
                      exact ⟨rfl, hE.below⟩
                    ·
                     skip
                     have p21 : 1048576 < c.an := of_decide_eq_true h21
                     refine wc_true rfl ?_
                     refine wc_seq ?_
                     refine wc_region ?_
                     refine wl_val (.int .i64 8) rfl (fun _ => rfl) ?_
                     simp only [Act.put, Xa, Xz, Xs]
                     refine wl_nil ?_
                     refine we_then ?_
                     refine wc_ret ?_
                     refine we_then_ret ?_
                     refine we_ret1 (.int .i64 8) rfl rfl rfl (fun w1 hE => ?_)
                     rw [show wrong c = 8 from by unfold wrong; rw [if_neg (by omega), if_neg (by omega), if_neg (by omega), if_neg (by omega), if_neg (by omega), if_neg (by omega), if_neg (by omega), if_pos (by omega)]]
                     exact ⟨rfl, hE.below⟩
                   ·
                    skip
                    have p20 : c.an < 0 := of_decide_eq_true h20
                    refine wl_skip rfl ?_
                    simp only [Act.put, Xa, Xz, Xs]
                    refine wl_skip rfl ?_
                    simp only [Act.put, Xa, Xz, Xs]
                    refine wl_skip rfl ?_
                    simp only [Act.put, Xa, Xz, Xs]
                    refine wl_val (.bool true) rfl (fun _ => rfl) ?_
                    simp only [Act.put, Xa, Xz, Xs]
                    refine wl_nil ?_
                    refine we_then ?_
                    refine wc_true rfl ?_
                    refine wc_seq ?_
                    refine wc_region ?_
                    refine wl_val (.int .i64 8) rfl (fun _ => rfl) ?_
                    simp only [Act.put, Xa, Xz, Xs]
                    refine wl_nil ?_
                    refine we_then ?_
                    refine wc_ret ?_
                    refine we_then_ret ?_
                    refine we_ret1 (.int .i64 8) rfl rfl rfl (fun w1 hE => ?_)
                    rw [show wrong c = 8 from by unfold wrong; rw [if_neg (by omega), if_neg (by omega), if_neg (by omega), if_neg (by omega), if_neg (by omega), if_neg (by omega), if_neg (by omega), if_pos (by omega)]]
                    exact ⟨rfl, hE.below⟩
                  ·
                   skip
                   have p19 : 32000 * c.lo < c.ms * c.pu := of_decide_eq_true h19
                   refine wc_true rfl ?_
                   refine wc_seq ?_
                   refine wc_region ?_
                   refine wl_val (.int .i64 7) rfl (fun _ => rfl) ?_
                   simp only [Act.put, Xa, Xz, Xs]
                   refine wl_nil ?_
                   refine we_then ?_
                   refine wc_ret ?_
                   refine we_then_ret ?_
                   refine we_ret1 (.int .i64 7) rfl rfl rfl (fun w1 hE => ?_)
                   rw [show wrong c = 7 from by unfold wrong; rw [if_neg (by omega), if_neg (by omega), if_neg (by omega), if_neg (by omega), if_neg (by omega), if_neg (by omega), if_pos (by omega)]]
                   exact ⟨rfl, hE.below⟩
                 ·
                  skip
                  have p18 : 1048576 < c.ma := of_decide_eq_true h18
                  refine wc_true rfl ?_
                  refine wc_seq ?_
                  refine wc_region ?_
                  refine wl_val (.int .i64 6) rfl (fun _ => rfl) ?_
                  simp only [Act.put, Xa, Xz, Xs]
                  refine wl_nil ?_
                  refine we_then ?_
                  refine wc_ret ?_
                  refine we_then_ret ?_
                  refine we_ret1 (.int .i64 6) rfl rfl rfl (fun w1 hE => ?_)
                  rw [show wrong c = 6 from by unfold wrong; rw [if_neg (by omega), if_neg (by omega), if_neg (by omega), if_neg (by omega), if_neg (by omega), if_pos (by omega)]]
                  exact ⟨rfl, hE.below⟩
                ·
                 skip
                 have p17 : c.ma < 1 := of_decide_eq_true h17
                 refine wl_skip rfl ?_
                 simp only [Act.put, Xa, Xz, Xs]
                 refine wl_skip rfl ?_
                 simp only [Act.put, Xa, Xz, Xs]
                 refine wl_skip rfl ?_
                 simp only [Act.put, Xa, Xz, Xs]
                 refine wl_val (.bool true) rfl (fun _ => rfl) ?_
                 simp only [Act.put, Xa, Xz, Xs]
                 refine wl_nil ?_
                 refine we_then ?_
                 refine wc_true rfl ?_
                 refine wc_seq ?_
                 refine wc_region ?_
                 refine wl_val (.int .i64 6) rfl (fun _ => rfl) ?_
                 simp only [Act.put, Xa, Xz, Xs]
                 refine wl_nil ?_
                 refine we_then ?_
                 refine wc_ret ?_
                 refine we_then_ret ?_
                 refine we_ret1 (.int .i64 6) rfl rfl rfl (fun w1 hE => ?_)
                 rw [show wrong c = 6 from by unfold wrong; rw [if_neg (by omega), if_neg (by omega), if_neg (by omega), if_neg (by omega), if_neg (by omega), if_pos (by omega)]]
                 exact ⟨rfl, hE.below⟩
               ·
                skip
                have p16 : 16777216 < c.ms := of_decide_eq_true h16
                refine wl_skip rfl ?_
                simp only [Act.put, Xa, Xz, Xs]
                refine wl_skip rfl ?_
                simp only [Act.put, Xa, Xz, Xs]
                refine wl_skip rfl ?_
                simp only [Act.put, Xa, Xz, Xs]
                refine wl_val (.bool true) rfl (fun _ => rfl) ?_
                simp only [Act.put, Xa, Xz, Xs]
                refine wl_val (.bool true) rfl (fun _ => rfl) ?_
                simp only [Act.put, Xa, Xz, Xs]
                refine wl_skip rfl ?_
                simp only [Act.put, Xa, Xz, Xs]
                refine wl_skip rfl ?_
                simp only [Act.put, Xa, Xz, Xs]
                refine wl_skip rfl ?_
                simp only [Act.put, Xa, Xz, Xs]
                refine wl_val (.bool true) rfl (fun _ => rfl) ?_
                simp only [Act.put, Xa, Xz, Xs]
                refine wl_nil ?_
                refine we_then ?_
                refine wc_true rfl ?_
                refine wc_seq ?_
                refine wc_region ?_
                refine wl_val (.int .i64 6) rfl (fun _ => rfl) ?_
                simp only [Act.put, Xa, Xz, Xs]
                refine wl_nil ?_
                refine we_then ?_
                refine wc_ret ?_
                refine we_then_ret ?_
                refine we_ret1 (.int .i64 6) rfl rfl rfl (fun w1 hE => ?_)
                rw [show wrong c = 6 from by unfold wrong; rw [if_neg (by omega), if_neg (by omega), if_neg (by omega), if_neg (by omega), if_neg (by omega), if_pos (by omega)]]
                exact ⟨rfl, hE.below⟩
              ·
               skip
               have p15 : c.ms < 1 := of_decide_eq_true h15
               refine wl_skip rfl ?_
               simp only [Act.put, Xa, Xz, Xs]
               refine wl_skip rfl ?_
               simp only [Act.put, Xa, Xz, Xs]
               refine wl_skip rfl ?_
               simp only [Act.put, Xa, Xz, Xs]
               refine wl_val (.bool true) rfl (fun _ => rfl) ?_
               simp only [Act.put, Xa, Xz, Xs]
               refine wl_val (.bool true) rfl (fun _ => rfl) ?_
               simp only [Act.put, Xa, Xz, Xs]
               refine wl_skip rfl ?_
               simp only [Act.put, Xa, Xz, Xs]
               refine wl_skip rfl ?_
               simp only [Act.put, Xa, Xz, Xs]
               refine wl_skip rfl ?_
               simp only [Act.put, Xa, Xz, Xs]
               refine wl_val (.bool true) rfl (fun _ => rfl) ?_
               simp only [Act.put, Xa, Xz, Xs]
               refine wl_val (.bool true) rfl (fun _ => rfl) ?_
               simp only [Act.put, Xa, Xz, Xs]
               refine wl_skip rfl ?_
               simp only [Act.put, Xa, Xz, Xs]
               refine wl_skip rfl ?_
               simp only [Act.put, Xa, Xz, Xs]
               refine wl_skip rfl ?_
               simp only [Act.put, Xa, Xz, Xs]
               refine wl_val (.bool true) rfl (fun _ => rfl) ?_
               simp only [Act.put, Xa, Xz, Xs]
               refine wl_nil ?_
               refine we_then ?_
               refine wc_true rfl ?_
               refine wc_seq ?_
               refine wc_region ?_
               refine wl_val (.int .i64 6) rfl (fun _ => rfl) ?_
               simp only [Act.put, Xa, Xz, Xs]
               refine wl_nil ?_
               refine we_then ?_
               refine wc_ret ?_
               refine we_then_ret ?_
               refine we_ret1 (.int .i64 6) rfl rfl rfl (fun w1 hE => ?_)
               rw [show wrong c = 6 from by unfold wrong; rw [if_neg (by omega), if_neg (by omega), if_neg (by omega), if_neg (by omega), if_neg (by omega), if_pos (by omega)]]
               exact ⟨rfl, hE.below⟩
             ·
              skip
              have p14 : 1048576 < c.ae := of_decide_eq_true h14
              refine wc_true rfl ?_
              refine wc_seq ?_
              refine wc_region ?_
              refine wl_val (.int .i64 5) rfl (fun _ => rfl) ?_
              simp only [Act.put, Xa, Xz, Xs]
              refine wl_nil ?_
              refine we_then ?_
              refine wc_ret ?_
              refine we_then_ret ?_
              refine we_ret1 (.int .i64 5) rfl rfl rfl (fun w1 hE => ?_)
              rw [show wrong c = 5 from by unfold wrong; rw [if_neg (by omega), if_neg (by omega), if_neg (by omega), if_neg (by omega), if_pos (by omega)]]
              exact ⟨rfl, hE.below⟩
            ·
             skip
             have p13 : c.ae < 0 := of_decide_eq_true h13
             refine wl_skip rfl ?_
             simp only [Act.put, Xa, Xz, Xs]
             refine wl_skip rfl ?_
             simp only [Act.put, Xa, Xz, Xs]
             refine wl_skip rfl ?_
             simp only [Act.put, Xa, Xz, Xs]
             refine wl_val (.bool true) rfl (fun _ => rfl) ?_
             simp only [Act.put, Xa, Xz, Xs]
             refine wl_nil ?_
             refine we_then ?_
             refine wc_true rfl ?_
             refine wc_seq ?_
             refine wc_region ?_
             refine wl_val (.int .i64 5) rfl (fun _ => rfl) ?_
             simp only [Act.put, Xa, Xz, Xs]
             refine wl_nil ?_
             refine we_then ?_
             refine wc_ret ?_
             refine we_then_ret ?_
             refine we_ret1 (.int .i64 5) rfl rfl rfl (fun w1 hE => ?_)
             rw [show wrong c = 5 from by unfold wrong; rw [if_neg (by omega), if_neg (by omega), if_neg (by omega), if_neg (by omega), if_pos (by omega)]]
             exact ⟨rfl, hE.below⟩
           ·
            skip
            have p12 : 65536 < c.rp := of_decide_eq_true h12
            refine wc_true rfl ?_
            refine wc_seq ?_
            refine wc_region ?_
            refine wl_val (.int .i64 4) rfl (fun _ => rfl) ?_
            simp only [Act.put, Xa, Xz, Xs]
            refine wl_nil ?_
            refine we_then ?_
            refine wc_ret ?_
            refine we_then_ret ?_
            refine we_ret1 (.int .i64 4) rfl rfl rfl (fun w1 hE => ?_)
            rw [show wrong c = 4 from by unfold wrong; rw [if_neg (by omega), if_neg (by omega), if_neg (by omega), if_pos (by omega)]]
            exact ⟨rfl, hE.below⟩
          ·
           skip
           have p11 : c.rp < 0 := of_decide_eq_true h11
           refine wl_skip rfl ?_
           simp only [Act.put, Xa, Xz, Xs]
           refine wl_skip rfl ?_
           simp only [Act.put, Xa, Xz, Xs]
           refine wl_skip rfl ?_
           simp only [Act.put, Xa, Xz, Xs]
           refine wl_val (.bool true) rfl (fun _ => rfl) ?_
           simp only [Act.put, Xa, Xz, Xs]
           refine wl_nil ?_
           refine we_then ?_
           refine wc_true rfl ?_
           refine wc_seq ?_
           refine wc_region ?_
           refine wl_val (.int .i64 4) rfl (fun _ => rfl) ?_
           simp only [Act.put, Xa, Xz, Xs]
           refine wl_nil ?_
           refine we_then ?_
           refine wc_ret ?_
           refine we_then_ret ?_
           refine we_ret1 (.int .i64 4) rfl rfl rfl (fun w1 hE => ?_)
           rw [show wrong c = 4 from by unfold wrong; rw [if_neg (by omega), if_neg (by omega), if_neg (by omega), if_pos (by omega)]]
           exact ⟨rfl, hE.below⟩
         ·
          skip
          have p10 : 1048576 < c.rb := of_decide_eq_true h10
          refine wl_skip rfl ?_
          simp only [Act.put, Xa, Xz, Xs]
          refine wl_skip rfl ?_
          simp only [Act.put, Xa, Xz, Xs]
          refine wl_skip rfl ?_
          simp only [Act.put, Xa, Xz, Xs]
          refine wl_val (.bool true) rfl (fun _ => rfl) ?_
          simp only [Act.put, Xa, Xz, Xs]
          refine wl_val (.bool true) rfl (fun _ => rfl) ?_
          simp only [Act.put, Xa, Xz, Xs]
          refine wl_skip rfl ?_
          simp only [Act.put, Xa, Xz, Xs]
          refine wl_skip rfl ?_
          simp only [Act.put, Xa, Xz, Xs]
          refine wl_skip rfl ?_
          simp only [Act.put, Xa, Xz, Xs]
          refine wl_val (.bool true) rfl (fun _ => rfl) ?_
          simp only [Act.put, Xa, Xz, Xs]
          refine wl_nil ?_
          refine we_then ?_
          refine wc_true rfl ?_
          refine wc_seq ?_
          refine wc_region ?_
          refine wl_val (.int .i64 4) rfl (fun _ => rfl) ?_
          simp only [Act.put, Xa, Xz, Xs]
          refine wl_nil ?_
          refine we_then ?_
          refine wc_ret ?_
          refine we_then_ret ?_
          refine we_ret1 (.int .i64 4) rfl rfl rfl (fun w1 hE => ?_)
          rw [show wrong c = 4 from by unfold wrong; rw [if_neg (by omega), if_neg (by omega), if_neg (by omega), if_pos (by omega)]]
          exact ⟨rfl, hE.below⟩
        ·
         skip
         have p9 : c.rb < 0 := of_decide_eq_true h9
         refine wl_skip rfl ?_
         simp only [Act.put, Xa, Xz, Xs]
         refine wl_skip rfl ?_
         simp only [Act.put, Xa, Xz, Xs]
         refine wl_skip rfl ?_
         simp only [Act.put, Xa, Xz, Xs]
         refine wl_val (.bool true) rfl (fun _ => rfl) ?_
         simp only [Act.put, Xa, Xz, Xs]
         refine wl_val (.bool true) rfl (fun _ => rfl) ?_
         simp only [Act.put, Xa, Xz, Xs]
         refine wl_skip rfl ?_
         simp only [Act.put, Xa, Xz, Xs]
         refine wl_skip rfl ?_
         simp only [Act.put, Xa, Xz, Xs]
         refine wl_skip rfl ?_
         simp only [Act.put, Xa, Xz, Xs]
         refine wl_val (.bool true) rfl (fun _ => rfl) ?_
         simp only [Act.put, Xa, Xz, Xs]
         refine wl_val (.bool true) rfl (fun _ => rfl) ?_
         simp only [Act.put, Xa, Xz, Xs]
         refine wl_skip rfl ?_
         simp only [Act.put, Xa, Xz, Xs]
         refine wl_skip rfl ?_
         simp only [Act.put, Xa, Xz, Xs]
         refine wl_skip rfl ?_
         simp only [Act.put, Xa, Xz, Xs]
         refine wl_val (.bool true) rfl (fun _ => rfl) ?_
         simp only [Act.put, Xa, Xz, Xs]
         refine wl_nil ?_
         refine we_then ?_
         refine wc_true rfl ?_
         refine wc_seq ?_
         refine wc_region ?_
         refine wl_val (.int .i64 4) rfl (fun _ => rfl) ?_
         simp only [Act.put, Xa, Xz, Xs]
         refine wl_nil ?_
         refine we_then ?_
         refine wc_ret ?_
         refine we_then_ret ?_
         refine we_ret1 (.int .i64 4) rfl rfl rfl (fun w1 hE => ?_)
         rw [show wrong c = 4 from by unfold wrong; rw [if_neg (by omega), if_neg (by omega), if_neg (by omega), if_pos (by omega)]]
         exact ⟨rfl, hE.below⟩
       ·
        skip
        have p8 : c.lo < (c.hi - c.lo) * 16 := of_decide_eq_true h8
        refine wc_true rfl ?_
        refine wc_seq ?_
        refine wc_region ?_
        refine wl_val (.int .i64 3) rfl (fun _ => rfl) ?_
        simp only [Act.put, Xa, Xz, Xs]
        refine wl_nil ?_
        refine we_then ?_
        refine wc_ret ?_
        refine we_then_ret ?_
        refine we_ret1 (.int .i64 3) rfl rfl rfl (fun w1 hE => ?_)
        rw [show wrong c = 3 from by unfold wrong; rw [if_neg (by omega), if_neg (by omega), if_pos (by omega)]]
        exact ⟨rfl, hE.below⟩
      ·
       skip
       have p7 : 8388608 < c.hi := of_decide_eq_true h7
       refine wc_true rfl ?_
       refine wc_seq ?_
       refine wc_region ?_
       refine wl_val (.int .i64 2) rfl (fun _ => rfl) ?_
       simp only [Act.put, Xa, Xz, Xs]
       refine wl_nil ?_
       refine we_then ?_
       refine wc_ret ?_
       refine we_then_ret ?_
       refine we_ret1 (.int .i64 2) rfl rfl rfl (fun w1 hE => ?_)
       rw [show wrong c = 2 from by unfold wrong; rw [if_neg (by omega), if_pos (by omega)]]
       exact ⟨rfl, hE.below⟩
     ·
      skip
      have p6 : c.hi < c.lo := of_decide_eq_true h6
      refine wl_skip rfl ?_
      simp only [Act.put, Xa, Xz, Xs]
      refine wl_skip rfl ?_
      simp only [Act.put, Xa, Xz, Xs]
      refine wl_skip rfl ?_
      simp only [Act.put, Xa, Xz, Xs]
      refine wl_val (.bool true) rfl (fun _ => rfl) ?_
      simp only [Act.put, Xa, Xz, Xs]
      refine wl_nil ?_
      refine we_then ?_
      refine wc_true rfl ?_
      refine wc_seq ?_
      refine wc_region ?_
      refine wl_val (.int .i64 2) rfl (fun _ => rfl) ?_
      simp only [Act.put, Xa, Xz, Xs]
      refine wl_nil ?_
      refine we_then ?_
      refine wc_ret ?_
      refine we_then_ret ?_
      refine we_ret1 (.int .i64 2) rfl rfl rfl (fun w1 hE => ?_)
      rw [show wrong c = 2 from by unfold wrong; rw [if_neg (by omega), if_pos (by omega)]]
      exact ⟨rfl, hE.below⟩
    ·
     skip
     have p5 : 8388608 < c.lo := of_decide_eq_true h5
     refine wl_skip rfl ?_
     simp only [Act.put, Xa, Xz, Xs]
     refine wl_skip rfl ?_
     simp only [Act.put, Xa, Xz, Xs]
     refine wl_skip rfl ?_
     simp only [Act.put, Xa, Xz, Xs]
     refine wl_skip rfl ?_
     simp only [Act.put, Xa, Xz, Xs]
     refine wl_skip rfl ?_
     simp only [Act.put, Xa, Xz, Xs]
     refine wl_val (.bool true) rfl (fun _ => rfl) ?_
     simp only [Act.put, Xa, Xz, Xs]
     refine wl_val (.bool true) rfl (fun _ => rfl) ?_
     simp only [Act.put, Xa, Xz, Xs]
     refine wl_skip rfl ?_
     simp only [Act.put, Xa, Xz, Xs]
     refine wl_skip rfl ?_
     simp only [Act.put, Xa, Xz, Xs]
     refine wl_skip rfl ?_
     simp only [Act.put, Xa, Xz, Xs]
     refine wl_val (.bool true) rfl (fun _ => rfl) ?_
     simp only [Act.put, Xa, Xz, Xs]
     refine wl_nil ?_
     refine we_then ?_
     refine wc_true rfl ?_
     refine wc_seq ?_
     refine wc_region ?_
     refine wl_val (.int .i64 2) rfl (fun _ => rfl) ?_
     simp only [Act.put, Xa, Xz, Xs]
     refine wl_nil ?_
     refine we_then ?_
     refine wc_ret ?_
     refine we_then_ret ?_
     refine we_ret1 (.int .i64 2) rfl rfl rfl (fun w1 hE => ?_)
     rw [show wrong c = 2 from by unfold wrong; rw [if_neg (by omega), if_pos (by omega)]]
     exact ⟨rfl, hE.below⟩
   ·
    skip
    have p4 : c.lo < 131072 := of_decide_eq_true h4
    refine wl_skip rfl ?_
    simp only [Act.put, Xa, Xz, Xs]
    refine wl_skip rfl ?_
    simp only [Act.put, Xa, Xz, Xs]
    refine wl_skip rfl ?_
    simp only [Act.put, Xa, Xz, Xs]
    refine wl_val (.bool true) rfl (fun _ => rfl) ?_
    simp only [Act.put, Xa, Xz, Xs]
    refine wl_val (.bool true) rfl (fun _ => rfl) ?_
    simp only [Act.put, Xa, Xz, Xs]
    refine wl_skip rfl ?_
    simp only [Act.put, Xa, Xz, Xs]
    refine wl_skip rfl ?_
    simp only [Act.put, Xa, Xz, Xs]
    refine wl_skip rfl ?_
    simp only [Act.put, Xa, Xz, Xs]
    refine wl_skip rfl ?_
    simp only [Act.put, Xa, Xz, Xs]
    refine wl_skip rfl ?_
    simp only [Act.put, Xa, Xz, Xs]
    refine wl_val (.bool true) rfl (fun _ => rfl) ?_
    simp only [Act.put, Xa, Xz, Xs]
    refine wl_val (.bool true) rfl (fun _ => rfl) ?_
    simp only [Act.put, Xa, Xz, Xs]
    refine wl_skip rfl ?_
    simp only [Act.put, Xa, Xz, Xs]
    refine wl_skip rfl ?_
    simp only [Act.put, Xa, Xz, Xs]
    refine wl_skip rfl ?_
    simp only [Act.put, Xa, Xz, Xs]
    refine wl_val (.bool true) rfl (fun _ => rfl) ?_
    simp only [Act.put, Xa, Xz, Xs]
    refine wl_nil ?_
    refine we_then ?_
    refine wc_true rfl ?_
    refine wc_seq ?_
    refine wc_region ?_
    refine wl_val (.int .i64 2) rfl (fun _ => rfl) ?_
    simp only [Act.put, Xa, Xz, Xs]
    refine wl_nil ?_
    refine we_then ?_
    refine wc_ret ?_
    refine we_then_ret ?_
    refine we_ret1 (.int .i64 2) rfl rfl rfl (fun w1 hE => ?_)
    rw [show wrong c = 2 from by unfold wrong; rw [if_neg (by omega), if_pos (by omega)]]
    exact ⟨rfl, hE.below⟩
  ·
   skip
   have p3 : 1024 < c.pu := of_decide_eq_true h3
   refine wc_true rfl ?_
   refine wc_seq ?_
   refine wc_region ?_
   refine wl_val (.int .i64 1) rfl (fun _ => rfl) ?_
   simp only [Act.put, Xa, Xz, Xs]
   refine wl_nil ?_
   refine we_then ?_
   refine wc_ret ?_
   refine we_then_ret ?_
   refine we_ret1 (.int .i64 1) rfl rfl rfl (fun w1 hE => ?_)
   rw [show wrong c = 1 from by unfold wrong; rw [if_pos (by omega)]]
   exact ⟨rfl, hE.below⟩
 ·
  skip
  have p2 : c.pu < 1 := of_decide_eq_true h2
  refine wl_skip rfl ?_
  simp only [Act.put, Xa, Xz, Xs]
  refine wl_skip rfl ?_
  simp only [Act.put, Xa, Xz, Xs]
  refine wl_skip rfl ?_
  simp only [Act.put, Xa, Xz, Xs]
  refine wl_val (.bool true) rfl (fun _ => rfl) ?_
  simp only [Act.put, Xa, Xz, Xs]
  refine wl_nil ?_
  refine we_then ?_
  refine wc_true rfl ?_
  refine wc_seq ?_
  refine wc_region ?_
  refine wl_val (.int .i64 1) rfl (fun _ => rfl) ?_
  simp only [Act.put, Xa, Xz, Xs]
  refine wl_nil ?_
  refine we_then ?_
  refine wc_ret ?_
  refine we_then_ret ?_
  refine we_ret1 (.int .i64 1) rfl rfl rfl (fun w1 hE => ?_)
  rw [show wrong c = 1 from by unfold wrong; rw [if_pos (by omega)]]
  exact ⟨rfl, hE.below⟩
set_option maxHeartbeats 2000000 in
theorem growth_any (c : Cf) (w : World) (hc : Ok c) :
  Calls Try.prog 15 #[.agg #[.int .i64 c.pu, .int .i64 c.lo, .int .i64 c.hi, .int .i64 c.rb, .int .i64 c.rp, .int .i64 c.ae, .int .i64 c.ms, .int .i64 c.ma, .int .i64 c.an, .int .i64 c.st, .int .i64 c.ss, .int .i64 c.ro, .int .i64 c.ti, .int .i64 c.br]] w fun e w' => e = .returned (.tuple #[.int .i64 (gA c), .int .i64 (gB c)]) ∧ Below w.heap.size w w' := by
 refine calls_sx Try.func15 rfl ?_
 simp only [Try.ntmps15, List.size_toArray, List.length_cons, List.length_nil, Nat.reduceAdd, Nat.reduceSub, Array.replicate_succ, Array.replicate_zero, List.push_toArray, List.append_toArray, List.nil_append, List.cons_append]
 refine wc_seq ?_
 refine wc_region ?_
 refine wl_new 29 (#[.int .i64 c.pu, .int .i64 c.lo, .int .i64 c.hi, .int .i64 c.rb, .int .i64 c.rp, .int .i64 c.ae, .int .i64 c.ms, .int .i64 c.ma, .int .i64 c.an, .int .i64 c.st, .int .i64 c.ss, .int .i64 c.ro, .int .i64 c.ti, .int .i64 c.br]) rfl (fun _ => by go_simp) ?_
 intro g1
 simp only [Act.put, Xa, Xz, Xs]
 refine wl_val (.int .i64 0) rfl (fun _ => rfl) ?_
 simp only [Act.put, Xa, Xz, Xs]
 refine wl_val (.int .i64 0) rfl (fun _ => rfl) ?_
 simp only [Act.put, Xa, Xz, Xs]
 refine wl_nil ?_
 refine we_then ?_
 refine wc_seq ?_
 obtain ⟨_, _, _, _, _, _, _, _, _, _, _, _, _, _, _, _, _, _, _, _, _, _, _, _, _, _, _, _, _, _, _⟩ := hc
 have u1 := upq_pos (a := 1048576 * (c.hi - c.lo)) (b := c.lo) (by omega) (by omega)
 have u2 := upq_le (a := 1048576 * (c.hi - c.lo)) (b := c.lo) 65536 (by omega) (by omega)
 have u3 := upq_pos (a := c.hi) (b := c.pu) (by omega) (by omega)
 have u4 := upq_self (a := c.hi) (b := c.pu) (by omega) (by omega)
 refine wc_draw [.late, .plain, .late, .plain, .late, .late, .late, .plain, .plain, .late, .late, .plain, .late, .late, .late, .plain, .late, .plain, .plain, .late, .late, .plain, .late, .late, .late, .late, .late] none [] 29 (by kernel_rfl) rfl (by kernel_rfl) (by kernel_rfl) ?_
 refine ws_late (.pointer (some ⟨g1, 2, none⟩)) rfl rfl (fun _ => by go_simp) ?_
 simp only [Nat.reduceAdd, Act.put, Xa, Xz, Xs]
 refine ws_cell 2 (.tmp 4) (.int .i64 c.hi) (own_row 0 rfl) rfl rfl rfl rfl rfl Try.isAgg2 ?_
 simp only [Nat.reduceAdd, Act.put, Xa, Xz, Xs]
 refine ws_late (.pointer (some ⟨g1, 1, none⟩)) rfl rfl (fun _ => by go_simp) ?_
 simp only [Nat.reduceAdd, Act.put, Xa, Xz, Xs]
 refine ws_cell 2 (.tmp 6) (.int .i64 c.lo) (own_row 0 rfl) rfl rfl rfl rfl rfl Try.isAgg2 ?_
 simp only [Nat.reduceAdd, Act.put, Xa, Xz, Xs]
 refine ws_late (.int .i64 (c.hi - c.lo)) rfl rfl (fun w => run_arith (op := .sub) rfl rfl rfl Try.underlying2 (congrArg some (i64_in (by omega) (by omega))) w) ?_
 simp only [Nat.reduceAdd, Act.put, Xa, Xz, Xs]
 refine ws_late (.int .i64 (1048576 * (c.hi - c.lo))) rfl rfl (fun w => run_arith (op := .mul) rfl rfl rfl Try.underlying2 (congrArg some (i64_in (by omega) (by omega))) w) ?_
 simp only [Nat.reduceAdd, Act.put, Xa, Xz, Xs]
 refine ws_late (.pointer (some ⟨g1, 1, none⟩)) rfl rfl (fun _ => by go_simp) ?_
 simp only [Nat.reduceAdd, Act.put, Xa, Xz, Xs]
 refine ws_cell 2 (.tmp 10) (.int .i64 c.lo) (own_row 0 rfl) rfl rfl rfl rfl rfl Try.isAgg2 ?_
 simp only [Nat.reduceAdd, Act.put, Xa, Xz, Xs]
 refine ws_call 19 #[.int .i64 (1048576 * (c.hi - c.lo)), .int .i64 c.lo] (.int .i64 (upq (1048576 * (c.hi - c.lo)) c.lo)) rfl rfl (fun _ => by go_simp) (fun W => up_any (1048576 * (c.hi - c.lo)) c.lo W (by omega) (by omega) (by omega) (by omega)) ?_
 simp only [Nat.reduceAdd, Act.put, Xa, Xz, Xs]
 refine ws_late (.int .i64 (4 * (upq (1048576 * (c.hi - c.lo)) c.lo))) rfl rfl (fun w => run_arith (op := .mul) rfl rfl rfl Try.underlying2 (congrArg some (i64_in (by omega) (by omega))) w) ?_
 simp only [Nat.reduceAdd, Act.put, Xa, Xz, Xs]
 refine ws_late (.pointer (some ⟨g1, 4, none⟩)) rfl rfl (fun _ => by go_simp) ?_
 simp only [Nat.reduceAdd, Act.put, Xa, Xz, Xs]
 refine ws_cell 2 (.tmp 14) (.int .i64 c.rp) (own_row 0 rfl) rfl rfl rfl rfl rfl Try.isAgg2 ?_
 simp only [Nat.reduceAdd, Act.put, Xa, Xz, Xs]
 refine ws_late (.int .i64 (6 * c.rp)) rfl rfl (fun w => run_arith (op := .mul) rfl rfl rfl Try.underlying2 (congrArg some (i64_in (by omega) (by omega))) w) ?_
 simp only [Nat.reduceAdd, Act.put, Xa, Xz, Xs]
 refine ws_late (.int .i64 ((4 * (upq (1048576 * (c.hi - c.lo)) c.lo)) + (6 * c.rp))) rfl rfl (fun w => run_arith (op := .add) rfl rfl rfl Try.underlying2 (congrArg some (i64_in (by omega) (by omega))) w) ?_
 simp only [Nat.reduceAdd, Act.put, Xa, Xz, Xs]
 refine ws_late (.pointer (some ⟨g1, 2, none⟩)) rfl rfl (fun _ => by go_simp) ?_
 simp only [Nat.reduceAdd, Act.put, Xa, Xz, Xs]
 refine ws_cell 2 (.tmp 18) (.int .i64 c.hi) (own_row 0 rfl) rfl rfl rfl rfl rfl Try.isAgg2 ?_
 simp only [Nat.reduceAdd, Act.put, Xa, Xz, Xs]
 refine ws_late (.pointer (some ⟨g1, 0, none⟩)) rfl rfl (fun _ => by go_simp) ?_
 simp only [Nat.reduceAdd, Act.put, Xa, Xz, Xs]
 refine ws_cell 2 (.tmp 20) (.int .i64 c.pu) (own_row 0 rfl) rfl rfl rfl rfl rfl Try.isAgg2 ?_
 simp only [Nat.reduceAdd, Act.put, Xa, Xz, Xs]
 refine ws_call 19 #[.int .i64 c.hi, .int .i64 c.pu] (.int .i64 (upq c.hi c.pu)) rfl rfl (fun _ => by go_simp) (fun W => up_any c.hi c.pu W (by omega) (by omega) (by omega) (by omega)) ?_
 simp only [Nat.reduceAdd, Act.put, Xa, Xz, Xs]
 refine ws_late (.int .i64 (12 * (upq c.hi c.pu))) rfl rfl (fun w => run_arith (op := .mul) rfl rfl rfl Try.underlying2 (congrArg some (i64_in (by omega) (by omega))) w) ?_
 simp only [Nat.reduceAdd, Act.put, Xa, Xz, Xs]
 refine ws_late (.pointer (some ⟨g1, 3, none⟩)) rfl rfl (fun _ => by go_simp) ?_
 simp only [Nat.reduceAdd, Act.put, Xa, Xz, Xs]
 refine ws_cell 2 (.tmp 24) (.int .i64 c.rb) (own_row 0 rfl) rfl rfl rfl rfl rfl Try.isAgg2 ?_
 simp only [Nat.reduceAdd, Act.put, Xa, Xz, Xs]
 refine ws_late (.int .i64 (6 * c.rb)) rfl rfl (fun w => run_arith (op := .mul) rfl rfl rfl Try.underlying2 (congrArg some (i64_in (by omega) (by omega))) w) ?_
 simp only [Nat.reduceAdd, Act.put, Xa, Xz, Xs]
 refine ws_late (.int .i64 ((12 * (upq c.hi c.pu)) + (6 * c.rb))) rfl rfl (fun w => run_arith (op := .add) rfl rfl rfl Try.underlying2 (congrArg some (i64_in (by omega) (by omega))) w) ?_
 simp only [Nat.reduceAdd, Act.put, Xa, Xz, Xs]
 refine ws_late (.int .i64 (((12 * (upq c.hi c.pu)) + (6 * c.rb)) + 9)) rfl rfl (fun w => run_arith (op := .add) rfl rfl rfl Try.underlying2 (congrArg some (i64_in (by omega) (by omega))) w) ?_
 simp only [Nat.reduceAdd, Act.put, Xa, Xz, Xs]
 refine ws_late (.int .i64 ((4 * (upq (1048576 * (c.hi - c.lo)) c.lo)) + (6 * c.rp))) rfl rfl (fun _ => rfl) ?_
 simp only [Nat.reduceAdd, Act.put, Xa, Xz, Xs]
 refine ws_late (.int .i64 (((12 * (upq c.hi c.pu)) + (6 * c.rb)) + 9)) rfl rfl (fun _ => rfl) ?_
 simp only [Nat.reduceAdd, Act.put, Xa, Xz, Xs]
 refine ws_nil [] trivial (by simp) ?_
 intro ps2
 simp only [fin, List.foldl_nil, List.map, List.nil_append]
 refine we_then ?_
 refine wc_ret ?_
 refine we_ret2 (.int .i64 ((4 * (upq (1048576 * (c.hi - c.lo)) c.lo)) + (6 * c.rp))) (.int .i64 (((12 * (upq c.hi c.pu)) + (6 * c.rb)) + 9)) rfl rfl rfl rfl (fun w1 hE => ?_)
 exact ⟨rfl, hE.below⟩
set_option maxHeartbeats 4000000 in
theorem fits_any (k : Cf) (G : List Sg) (H : List Gp) (p q : Option Addr) (c d : Nat) (w : World) (hS : Reads w p (flat sg G)) (hG : OkS w G) (hH : Reads w q (flat gp H)) (hn : G.length ≤ 140737488355328) (hm : H.length ≤ 140737488355328) :
  Calls Try.prog 12 #[.agg #[.int .i64 k.pu, .int .i64 k.lo, .int .i64 k.hi, .int .i64 k.rb, .int .i64 k.rp, .int .i64 k.ae, .int .i64 k.ms, .int .i64 k.ma, .int .i64 k.an, .int .i64 k.st, .int .i64 k.ss, .int .i64 k.ro, .int .i64 k.ti, .int .i64 k.br], .agg #[.slice p G.length c, .slice q H.length d]] w fun e w' => e = .returned (.tuple #[.int .i64 (((fit k G H).1 : Nat) : Int), .int .i64 (((fit k G H).2 : Nat) : Int)]) ∧ Below w.heap.size w w' := by
 refine calls_sx Try.func12 rfl ?_
 simp only [Try.ntmps12, List.size_toArray, List.length_cons, List.length_nil, Nat.reduceAdd, Nat.reduceSub, Array.replicate_succ, Array.replicate_zero, List.push_toArray, List.append_toArray, List.nil_append, List.cons_append]
 refine wc_seq ?_
 refine wc_region ?_
 refine wl_new 29 (#[.int .i64 k.pu, .int .i64 k.lo, .int .i64 k.hi, .int .i64 k.rb, .int .i64 k.rp, .int .i64 k.ae, .int .i64 k.ms, .int .i64 k.ma, .int .i64 k.an, .int .i64 k.st, .int .i64 k.ss, .int .i64 k.ro, .int .i64 k.ti, .int .i64 k.br]) rfl (fun _ => by go_simp) ?_
 intro g1
 simp only [Act.put, Xa, Xz, Xs]
 refine wl_new 42 (#[.slice p G.length c, .slice q H.length d]) rfl (fun _ => by go_simp) ?_
 intro g2
 simp only [Act.put, Xa, Xz, Xs]
 refine wl_val (.int .i64 0) rfl (fun _ => rfl) ?_
 simp only [Act.put, Xa, Xz, Xs]
 refine wl_val (.int .i64 0) rfl (fun _ => rfl) ?_
 simp only [Act.put, Xa, Xz, Xs]
 refine wl_nil ?_
 refine we_then ?_
 refine wc_seq ?_
 refine wc_seq ?_
 refine wc_region ?_
 refine wl_load 29 (.tmp 2) (own_row 1 rfl) rfl rfl rfl Try.underlying29 rfl (by kernel_rfl) ?_
 simp only [Act.put, Xa, Xz, Xs]
 refine wl_call 9 #[.agg #[.int .i64 k.pu, .int .i64 k.lo, .int .i64 k.hi, .int .i64 k.rb, .int .i64 k.rp, .int .i64 k.ae, .int .i64 k.ms, .int .i64 k.ma, .int .i64 k.an, .int .i64 k.st, .int .i64 k.ss, .int .i64 k.ro, .int .i64 k.ti, .int .i64 k.br]] (.int .i64 ((wrong k : Nat) : Int)) rfl (fun _ => by go_simp) (fun W => wrong_any k W) ?_
 simp only [Act.put, Xa, Xz, Xs]
 refine wl_val (.bool (((wrong k : Nat) : Int) != 0)) rfl (fun w => run_cmp rfl rfl rfl Try.underlying3 rfl w) ?_
 simp only [Act.put, Xa, Xz, Xs]
 refine wl_nil ?_
 refine we_then ?_
 cases h3 : (((wrong k : Nat) : Int) != 0)
 ·
  skip
  have p3 : ¬ (((wrong k : Nat) : Int) ≠ 0) := by simpa using h3
  refine wc_false rfl ?_
  refine wc_skip ?_
  refine we_then ?_
  refine wc_seq ?_
  refine wc_region ?_
  refine wl_load 42 (.tmp 3) (own_row 0 rfl) rfl rfl rfl Try.underlying42 rfl (by kernel_rfl) ?_
  simp only [Act.put, Xa, Xz, Xs]
  refine wl_call_at 22 #[.agg #[.slice p G.length c, .slice q H.length d]] (.tuple #[.int .i64 (((chk G H).1 : Nat) : Int), .int .i64 (((chk G H).2 : Nat) : Int)]) rfl (fun _ => by go_simp) (fun W hE => Tkref.check_any G H _ _ _ _ W ((sl_old hS) W hE) (oks_below hG hE.below) ((sl_old hH) W hE) hn hm) ?_
  simp only [Act.put, Xa, Xz, Xs]
  refine wl_val (.tuple #[.int .i64 (((chk G H).1 : Nat) : Int), .int .i64 (((chk G H).2 : Nat) : Int)]) rfl (fun _ => rfl) ?_
  simp only [Act.put, Xa, Xz, Xs]
  refine wl_val (.int .i64 (((chk G H).1 : Nat) : Int)) rfl (fun _ => by go_simp) ?_
  simp only [Act.put, Xa, Xz, Xs]
  refine wl_val (.int .i64 (((chk G H).2 : Nat) : Int)) rfl (fun _ => by go_simp) ?_
  simp only [Act.put, Xa, Xz, Xs]
  refine wl_val (.int .i64 (((chk G H).1 : Nat) : Int)) rfl (fun _ => rfl) ?_
  simp only [Act.put, Xa, Xz, Xs]
  refine wl_val (.int .i64 (((chk G H).2 : Nat) : Int)) rfl (fun _ => rfl) ?_
  simp only [Act.put, Xa, Xz, Xs]
  refine wl_nil ?_
  refine we_then ?_
  refine wc_seq ?_
  refine wc_seq ?_
  refine wc_region ?_
  refine wl_val (.int .i64 (((chk G H).1 : Nat) : Int)) rfl (fun _ => rfl) ?_
  simp only [Act.put, Xa, Xz, Xs]
  refine wl_val (.bool ((((chk G H).1 : Nat) : Int) != 0)) rfl (fun w => run_cmp rfl rfl rfl Try.underlying3 rfl w) ?_
  simp only [Act.put, Xa, Xz, Xs]
  refine wl_nil ?_
  refine we_then ?_
  cases h4 : ((((chk G H).1 : Nat) : Int) != 0)
  ·
   skip
   have p4 : ¬ ((((chk G H).1 : Nat) : Int) ≠ 0) := by simpa using h4
   refine wc_false rfl ?_
   refine wc_skip ?_
   refine we_then ?_
   refine wc_seq ?_
   refine wc_seq ?_
   have ck := ok_of (c := k) (by omega)
   have hM := may_of_chk (G := G) (H := H) (by omega)
   have k1 := ck.an1
   have k2 := ck.an2
   have k3 := ck.ms1
   have k4 := ck.ms2
   refine wc_region ?_
   refine wl_val (.int .i64 0) rfl (fun _ => rfl) ?_
   simp only [Act.put, Xa, Xz, Xs]
   refine wl_nil ?_
   refine we_then ?_
   refine wc_block ?_
   refine wc_loop (fun (zz : Nat × Value × Value × Value × Value × Value × Value × Value × Value × Value × Value × Value × Value × Value × Value × Value × Value × Value × Value × Value × Value × Value × Value × Value × Value × Value × Value × Value × Value × Value × Value × Value × Value × Value × Value × Value × Value × Value × Value × Value × Value × Value × Value × Value) => match zz with | ⟨i, u4, u5, u9, u10, u21, u22, u23, u24, u25, u26, u27, u28, u29, u30, u31, u32, u33, u34, u35, u36, u37, u38, u39, u40, u41, u42, u43, u44, u45, u46, u47, u48, u49, u50, u51, u52, u53, u54, u55, u56, u57, u58, u59⟩ => ({ tmps := #[.agg #[.int .i64 k.pu, .int .i64 k.lo, .int .i64 k.hi, .int .i64 k.rb, .int .i64 k.rp, .int .i64 k.ae, .int .i64 k.ms, .int .i64 k.ma, .int .i64 k.an, .int .i64 k.st, .int .i64 k.ss, .int .i64 k.ro, .int .i64 k.ti, .int .i64 k.br], .agg #[.slice p G.length c, .slice q H.length d], .pointer (some ⟨g1, 0, none⟩), .pointer (some ⟨g2, 0, none⟩), u4, u5, .int .i64 (((chk G H).1 : Nat) : Int), .int .i64 (((chk G H).2 : Nat) : Int), .int .i64 (i : Int), u9, u10, .agg #[.int .i64 k.pu, .int .i64 k.lo, .int .i64 k.hi, .int .i64 k.rb, .int .i64 k.rp, .int .i64 k.ae, .int .i64 k.ms, .int .i64 k.ma, .int .i64 k.an, .int .i64 k.st, .int .i64 k.ss, .int .i64 k.ro, .int .i64 k.ti, .int .i64 k.br], .int .i64 ((wrong k : Nat) : Int), .bool false, .tuple #[.int .i64 (((chk G H).1 : Nat) : Int), .int .i64 (((chk G H).2 : Nat) : Int)], .agg #[.slice p G.length c, .slice q H.length d], .tuple #[.int .i64 (((chk G H).1 : Nat) : Int), .int .i64 (((chk G H).2 : Nat) : Int)], .int .i64 (((chk G H).1 : Nat) : Int), .int .i64 (((chk G H).2 : Nat) : Int), .int .i64 (((chk G H).1 : Nat) : Int), .bool false, u21, u22, u23, u24, u25, u26, u27, u28, u29, u30, u31, u32, u33, u34, u35, u36, u37, u38, u39, u40, u41, u42, u43, u44, u45, u46, u47, u48, u49, u50, u51, u52, u53, u54, u55, u56, u57, u58, u59], defers := [] } : Act)) (fun (zz : Nat × Value × Value × Value × Value × Value × Value × Value × Value × Value × Value × Value × Value × Value × Value × Value × Value × Value × Value × Value × Value × Value × Value × Value × Value × Value × Value × Value × Value × Value × Value × Value × Value × Value × Value × Value × Value × Value × Value × Value × Value × Value × Value × Value) => match zz with | ⟨i, u4, u5, u9, u10, u21, u22, u23, u24, u25, u26, u27, u28, u29, u30, u31, u32, u33, u34, u35, u36, u37, u38, u39, u40, u41, u42, u43, u44, u45, u46, u47, u48, u49, u50, u51, u52, u53, u54, u55, u56, u57, u58, u59⟩ => [⟨g2, #[.slice p G.length c, .slice q H.length d], 42⟩, ⟨g1, #[.int .i64 k.pu, .int .i64 k.lo, .int .i64 k.hi, .int .i64 k.rb, .int .i64 k.rp, .int .i64 k.ae, .int .i64 k.ms, .int .i64 k.ma, .int .i64 k.an, .int .i64 k.st, .int .i64 k.ss, .int .i64 k.ro, .int .i64 k.ti, .int .i64 k.br], 29⟩]) (fun (zz : Nat × Value × Value × Value × Value × Value × Value × Value × Value × Value × Value × Value × Value × Value × Value × Value × Value × Value × Value × Value × Value × Value × Value × Value × Value × Value × Value × Value × Value × Value × Value × Value × Value × Value × Value × Value × Value × Value × Value × Value × Value × Value × Value × Value) => match zz with | ⟨i, u4, u5, u9, u10, u21, u22, u23, u24, u25, u26, u27, u28, u29, u30, u31, u32, u33, u34, u35, u36, u37, u38, u39, u40, u41, u42, u43, u44, u45, u46, u47, u48, u49, u50, u51, u52, u53, u54, u55, u56, u57, u58, u59⟩ => i ≤ H.length ∧ ∀ j, j < i → ¬ Bad k G H j) (fun (zz : Nat × Value × Value × Value × Value × Value × Value × Value × Value × Value × Value × Value × Value × Value × Value × Value × Value × Value × Value × Value × Value × Value × Value × Value × Value × Value × Value × Value × Value × Value × Value × Value × Value × Value × Value × Value × Value × Value × Value × Value × Value × Value × Value × Value) => match zz with | ⟨i, u4, u5, u9, u10, u21, u22, u23, u24, u25, u26, u27, u28, u29, u30, u31, u32, u33, u34, u35, u36, u37, u38, u39, u40, u41, u42, u43, u44, u45, u46, u47, u48, u49, u50, u51, u52, u53, u54, u55, u56, u57, u58, u59⟩ => H.length - i) ⟨0, _, _, _, _, _, _, _, _, _, _, _, _, _, _, _, _, _, _, _, _, _, _, _, _, _, _, _, _, _, _, _, _, _, _, _, _, _, _, _, _, _, _, _⟩ ⟨Nat.zero_le _, fun j hj => absurd hj (Nat.not_lt_zero j)⟩ rfl (List.Sublist.cons_cons _ (List.Sublist.cons_cons _ List.Sublist.slnil)) ?_
   rintro ⟨i, u4, u5, u9, u10, u21, u22, u23, u24, u25, u26, u27, u28, u29, u30, u31, u32, u33, u34, u35, u36, u37, u38, u39, u40, u41, u42, u43, u44, u45, u46, u47, u48, u49, u50, u51, u52, u53, u54, u55, u56, u57, u58, u59⟩ hφ
   (try dsimp only at hφ ⊢)
   obtain ⟨b1, b2⟩ := hφ
   refine wc_seq ?_
   refine wc_seq ?_
   refine wc_region ?_
   refine wl_val (.int .i64 (i : Int)) rfl (fun _ => rfl) ?_
   simp only [Act.put, Xa, Xz, Xs]
   refine wl_val (.pointer (some ⟨g2, 1, none⟩)) rfl (fun _ => by go_simp) ?_
   simp only [Act.put, Xa, Xz, Xs]
   refine wl_cell 40 (.tmp 22) (.slice q H.length d) (own_row 0 rfl) rfl rfl rfl rfl Try.isAgg40 ?_
   simp only [Act.put, Xa, Xz, Xs]
   refine wl_val (.int .i64 (H.length : Int)) rfl (fun w => er_len rfl rfl Try.underlying40 w) ?_
   simp only [Act.put, Xa, Xz, Xs]
   refine wl_val (.bool (decide ((i : Int) < (H.length : Int)))) rfl (fun w => run_cmp rfl rfl rfl Try.underlying3 rfl w) ?_
   simp only [Act.put, Xa, Xz, Xs]
   refine wl_nil ?_
   refine we_then ?_
   cases h5 : (decide ((i : Int) < (H.length : Int)))
   ·
    skip
    have p5 : ¬ ((i : Int) < (H.length : Int)) := of_decide_eq_false h5
    refine wc_false rfl ?_
    refine wc_exit ?_
    refine we_then_exit ?_
    refine we_then_exit ?_
    refine we_in_here ?_
    refine we_then ?_
    refine wc_seq ?_
    refine wc_region ?_
    refine wl_val (.int .i64 0) rfl (fun _ => rfl) ?_
    simp only [Act.put, Xa, Xz, Xs]
    refine wl_val (.int .i64 0) rfl (fun _ => rfl) ?_
    simp only [Act.put, Xa, Xz, Xs]
    refine wl_nil ?_
    refine we_then ?_
    refine wc_ret ?_
    refine we_ret2 (.int .i64 0) (.int .i64 0) rfl rfl rfl rfl (fun w1 hE => ?_)
    have e0 : fit k G H = (0, 0) := fit_eq (.inr (.inr (.inr ⟨by omega, by omega, fun j hj => b2 j (by omega), rfl⟩)))
    exact ⟨by rw [e0]; rfl, hE.below⟩
   ·
    skip
    have p5 : (i : Int) < (H.length : Int) := of_decide_eq_true h5
    refine wc_true rfl ?_
    refine wc_skip ?_
    refine we_then ?_
    refine wc_seq ?_
    refine wc_block ?_
    refine wc_seq ?_
    have gk := hM.grps i (by omega)
    have q1 := gk.seg0
    have q2 := gk.segn
    have q3 := gk.off0
    have q4 := gk.offn
    have q5 := gk.acc0
    have q6 := gk.accn
    have sk := hM.segs (H[i]!).seg.toNat (by omega)
    have q7 := sk.high
    have q8 := sk.low
    refine wc_region ?_
    refine wl_val (.pointer (some ⟨g2, 1, none⟩)) rfl (fun _ => by go_simp) ?_
    simp only [Act.put, Xa, Xz, Xs]
    refine wl_cell 40 (.tmp 28) (.slice q H.length d) (own_row 0 rfl) rfl rfl rfl rfl Try.isAgg40 ?_
    simp only [Act.put, Xa, Xz, Xs]
    refine wl_val (.int .i64 (i : Int)) rfl (fun _ => rfl) ?_
    simp only [Act.put, Xa, Xz, Xs]
    refine wl_read (eaddr q (i * 5)) rfl (er_index i 5 (sl_old hH) rfl rfl rfl rfl (by omega) (flat_length (enc := gp) (size := 5) (fun _ => rfl) _) (by decide) Try.underlying40 (by kernel_rfl)) ?_
    simp only [Act.put, Xa, Xz, Xs]
    refine wl_read (.agg #[.int .i64 ((H[i]!).id), .int .i64 ((H[i]!).seg), .int .i64 ((H[i]!).off), .int .i64 ((H[i]!).acc), .int .i64 ((H[i]!).slack)]) rfl (er_part (i * 5) [.int .i64 ((H[i]!).id), .int .i64 ((H[i]!).seg), .int .i64 ((H[i]!).off), .int .i64 ((H[i]!).acc), .int .i64 ((H[i]!).slack)] (sl_old hH) rfl rfl (flat_part (enc := gp) (fun _ => rfl) H i (by omega)) (Nat.zero_lt_succ _) Try.underlying62 rfl (by kernel_rfl)) ?_
    simp only [Act.put, Xa, Xz, Xs]
    refine wl_new 62 (#[.int .i64 0, .int .i64 0, .int .i64 0, .int .i64 0, .int .i64 0]) rfl (fun _ => by go_simp) ?_
    intro g6
    simp only [Act.put, Xa, Xz, Xs]
    refine wl_store 0 62 (.tmp 9) (.tmp 32) (#[.int .i64 ((H[i]!).id), .int .i64 ((H[i]!).seg), .int .i64 ((H[i]!).off), .int .i64 ((H[i]!).acc), .int .i64 ((H[i]!).slack)]) rfl rfl rfl rfl rfl (by kernel_rfl) rfl (by simp [Value.oneCell']) ?_
    simp only [Act.put, List.set_cons_zero]
    refine wl_nil ?_
    refine we_then ?_
    refine wc_seq ?_
    refine wc_region ?_
    refine wl_val (.pointer (some ⟨g6, 3, none⟩)) rfl (fun _ => by go_simp) ?_
    simp only [Act.put, Xa, Xz, Xs]
    refine wl_cell 2 (.tmp 33) (.int .i64 ((H[i]!).acc)) (own_row 0 rfl) rfl rfl rfl rfl Try.isAgg2 ?_
    simp only [Act.put, Xa, Xz, Xs]
    refine wl_val (.pointer (some ⟨g1, 8, none⟩)) rfl (fun _ => by go_simp) ?_
    simp only [Act.put, Xa, Xz, Xs]
    refine wl_cell 2 (.tmp 35) (.int .i64 k.an) (own_row 2 rfl) rfl rfl rfl rfl Try.isAgg2 ?_
    simp only [Act.put, Xa, Xz, Xs]
    refine wl_val (.int .i64 (((H[i]!).acc) + k.an)) rfl (fun w => run_arith (op := .add) rfl rfl rfl Try.underlying2 (congrArg some (i64_in (by omega) (by omega))) w) ?_
    simp only [Act.put, Xa, Xz, Xs]
    refine wl_val (.pointer (some ⟨g1, 6, none⟩)) rfl (fun _ => by go_simp) ?_
    simp only [Act.put, Xa, Xz, Xs]
    refine wl_cell 2 (.tmp 38) (.int .i64 k.ms) (own_row 2 rfl) rfl rfl rfl rfl Try.isAgg2 ?_
    simp only [Act.put, Xa, Xz, Xs]
    refine wl_val (.int .i64 ((((H[i]!).acc) + k.an) + k.ms)) rfl (fun w => run_arith (op := .add) rfl rfl rfl Try.underlying2 (congrArg some (i64_in (by omega) (by omega))) w) ?_
    simp only [Act.put, Xa, Xz, Xs]
    refine wl_val (.int .i64 ((((H[i]!).acc) + k.an) + k.ms)) rfl (fun _ => rfl) ?_
    simp only [Act.put, Xa, Xz, Xs]
    refine wl_nil ?_
    refine we_then ?_
    refine wc_seq ?_
    refine wc_draw [.late, .plain, .late, .late, .late, .late, .plain, .late, .plain, .plain, .plain, .plain, .late, .plain, .late, .late, .late, .late] none [] 60 (by kernel_rfl) rfl (by kernel_rfl) (by kernel_rfl) ?_
    refine ws_late (.pointer (some ⟨g6, 2, none⟩)) rfl rfl (fun _ => by go_simp) ?_
    simp only [Nat.reduceAdd, Act.put, Xa, Xz, Xs]
    refine ws_cell 2 (.tmp 41) (.int .i64 ((H[i]!).off)) (own_row 0 rfl) rfl rfl rfl rfl rfl Try.isAgg2 ?_
    simp only [Nat.reduceAdd, Act.put, Xa, Xz, Xs]
    refine ws_late (.int .i64 ((((H[i]!).acc) + k.an) + k.ms)) rfl rfl (fun _ => rfl) ?_
    simp only [Nat.reduceAdd, Act.put, Xa, Xz, Xs]
    refine ws_late (.bool (decide ((H[i]!).off < (((H[i]!).acc) + k.an) + k.ms))) rfl rfl (fun w => run_cmp rfl rfl rfl Try.underlying2 rfl w) ?_
    simp only [Nat.reduceAdd, Act.put, Xa, Xz, Xs]
    refine ws_late (.bool (decide ((H[i]!).off < (((H[i]!).acc) + k.an) + k.ms))) rfl rfl (fun _ => rfl) ?_
    simp only [Nat.reduceAdd, Act.put, Xa, Xz, Xs]
    cases h7 : (decide ((H[i]!).off < (((H[i]!).acc) + k.an) + k.ms))
    ·
     skip
     have p7 : ¬ ((H[i]!).off < (((H[i]!).acc) + k.an) + k.ms) := of_decide_eq_false h7
     refine ws_late (.pointer (some ⟨g2, 0, none⟩)) rfl rfl (fun _ => by go_simp) ?_
     simp only [Nat.reduceAdd, Act.put, Xa, Xz, Xs]
     refine ws_cell 39 (.tmp 46) (.slice p G.length c) (own_row 1 rfl) rfl rfl rfl rfl rfl Try.isAgg39 ?_
     simp only [Nat.reduceAdd, Act.put, Xa, Xz, Xs]
     refine ws_late (.pointer (some ⟨g6, 1, none⟩)) rfl rfl (fun _ => by go_simp) ?_
     simp only [Nat.reduceAdd, Act.put, Xa, Xz, Xs]
     refine ws_cell 3 (.tmp 48) (.int .i64 ((H[i]!).seg)) (own_row 0 rfl) rfl rfl rfl rfl rfl Try.isAgg3 ?_
     simp only [Nat.reduceAdd, Act.put, Xa, Xz, Xs]
     refine ws_read (eaddr p (((H[i]!).seg.toNat) * 3)) rfl rfl (er_index ((H[i]!).seg.toNat) 3 (sl_old hS) rfl rfl rfl (by omega) (by omega) (flat_length (enc := sg) (size := 3) (fun _ => rfl) _) (by decide) Try.underlying39 (by kernel_rfl)) ?_
     simp only [Nat.reduceAdd, Act.put, Xa, Xz, Xs]
     refine ws_read (eaddr p (((H[i]!).seg.toNat) * 3 + 0)) rfl rfl (er_field (z := 0) (((H[i]!).seg.toNat) * 3) 0 0 (sl_old hS) rfl rfl (flat_lt (enc := sg) (fun _ => rfl) G ((H[i]!).seg.toNat) 0 (by omega) (by decide)) Try.underlying65 rfl rfl (by kernel_rfl)) ?_
     simp only [Nat.reduceAdd, Act.put, Xa, Xz, Xs]
     refine ws_read (.int .i64 ((G[(H[i]!).seg.toNat]!).len)) rfl rfl (er_cell (((H[i]!).seg.toNat) * 3 + 0) (.int .i64 ((G[(H[i]!).seg.toNat]!).len)) (sl_old hS) rfl rfl (flat_cell (enc := sg) (fun _ => rfl) G ((H[i]!).seg.toNat) 0 (by omega) (by decide)) Try.isAgg2) ?_
     simp only [Nat.reduceAdd, Act.put, Xa, Xz, Xs]
     refine ws_late (.pointer (some ⟨g6, 2, none⟩)) rfl rfl (fun _ => by go_simp) ?_
     simp only [Nat.reduceAdd, Act.put, Xa, Xz, Xs]
     refine ws_cell 2 (.tmp 53) (.int .i64 ((H[i]!).off)) (own_row 0 rfl) rfl rfl rfl rfl rfl Try.isAgg2 ?_
     simp only [Nat.reduceAdd, Act.put, Xa, Xz, Xs]
     refine ws_late (.int .i64 (((G[(H[i]!).seg.toNat]!).len) - ((H[i]!).off))) rfl rfl (fun w => run_arith (op := .sub) rfl rfl rfl Try.underlying2 (congrArg some (i64_in (by omega) (by omega))) w) ?_
     simp only [Nat.reduceAdd, Act.put, Xa, Xz, Xs]
     refine ws_late (.int .i64 ((((H[i]!).acc) + k.an) + k.ms)) rfl rfl (fun _ => rfl) ?_
     simp only [Nat.reduceAdd, Act.put, Xa, Xz, Xs]
     refine ws_late (.bool (decide (((G[(H[i]!).seg.toNat]!).len) - ((H[i]!).off) < (((H[i]!).acc) + k.an) + k.ms))) rfl rfl (fun w => run_cmp rfl rfl rfl Try.underlying2 rfl w) ?_
     simp only [Nat.reduceAdd, Act.put, Xa, Xz, Xs]
     refine ws_late (.bool (decide (((G[(H[i]!).seg.toNat]!).len) - ((H[i]!).off) < (((H[i]!).acc) + k.an) + k.ms))) rfl rfl (fun _ => rfl) ?_
     simp only [Nat.reduceAdd, Act.put, Xa, Xz, Xs]
     refine ws_nil [] trivial (by simp) ?_
     intro ps8
     simp only [fin, List.foldl_nil, List.map, List.nil_append]
     refine we_then ?_
     cases h9 : (decide (((G[(H[i]!).seg.toNat]!).len) - ((H[i]!).off) < (((H[i]!).acc) + k.an) + k.ms))
     ·
      skip
      have p9 : ¬ (((G[(H[i]!).seg.toNat]!).len) - ((H[i]!).off) < (((H[i]!).acc) + k.an) + k.ms) := of_decide_eq_false h9
      refine wc_false rfl ?_
      refine wc_skip ?_
      refine we_in ?_
      refine we_then ?_
      refine wc_region ?_
      refine wl_val (.int .i64 (i : Int)) rfl (fun _ => rfl) ?_
      simp only [Act.put, Xa, Xz, Xs]
      refine wl_val (.int .i64 ((i + 1 : Nat) : Int)) rfl (fun w => run_nat (X := i) (Y := 1) (Z := i + 1) rfl rfl rfl rfl (by omega) w) ?_
      simp only [Act.put, Xa, Xz, Xs]
      refine wl_val (.int .i64 ((i + 1 : Nat) : Int)) rfl (fun _ => rfl) ?_
      simp only [Act.put, Xa, Xz, Xs]
      refine wl_nil ?_
      exact we_meet ⟨(i + 1), _, _, _, _, _, _, _, _, _, _, _, _, _, _, _, _, _, _, _, _, _, _, _, _, _, _, _, _, _, _, _, _, _, _, _, _, _, _, _, _, _, _, _⟩ ⟨⟨by (try dsimp only); omega, fun j hj => by rcases Nat.lt_or_eq_of_le (Nat.le_of_lt_succ hj) with h | h; exact b2 j h; subst h; unfold Bad far; omega⟩, by (try dsimp only); omega⟩ rfl (List.Sublist.cons _ (List.Sublist.cons_cons _ (List.Sublist.cons_cons _ List.Sublist.slnil)))
     ·
      skip
      have p9 : ((G[(H[i]!).seg.toNat]!).len) - ((H[i]!).off) < (((H[i]!).acc) + k.an) + k.ms := of_decide_eq_true h9
      refine wc_true rfl ?_
      refine wc_seq ?_
      refine wc_region ?_
      refine wl_val (.int .i64 (i : Int)) rfl (fun _ => rfl) ?_
      simp only [Act.put, Xa, Xz, Xs]
      refine wl_val (.int .i64 11) rfl (fun _ => rfl) ?_
      simp only [Act.put, Xa, Xz, Xs]
      refine wl_val (.int .i64 (i : Int)) rfl (fun _ => rfl) ?_
      simp only [Act.put, Xa, Xz, Xs]
      refine wl_nil ?_
      refine we_then ?_
      refine wc_ret ?_
      refine we_in_ret ?_
      refine we_then_ret ?_
      refine we_then_ret ?_
      refine we_in_ret ?_
      refine we_then_ret ?_
      refine we_ret2 (.int .i64 11) (.int .i64 (i : Int)) rfl rfl rfl rfl (fun w1 hE => ?_)
      have e0 : fit k G H = (11, i) := fit_eq (.inr (.inr (.inl ⟨by omega, by omega, rfl, (show i < H.length by omega), (show Bad k G H i by unfold Bad far; omega), b2⟩)))
      exact ⟨by rw [e0]; rfl, hE.below⟩
    ·
     skip
     have p7 : (H[i]!).off < (((H[i]!).acc) + k.an) + k.ms := of_decide_eq_true h7
     refine ws_skip_late rfl rfl ?_
     simp only [Nat.reduceAdd, Act.put, Xa, Xz, Xs]
     refine ws_skip rfl rfl ?_
     simp only [Nat.reduceAdd, Act.put, Xa, Xz, Xs]
     refine ws_skip_late rfl rfl ?_
     simp only [Nat.reduceAdd, Act.put, Xa, Xz, Xs]
     refine ws_skip rfl rfl ?_
     simp only [Nat.reduceAdd, Act.put, Xa, Xz, Xs]
     refine ws_skip rfl rfl ?_
     simp only [Nat.reduceAdd, Act.put, Xa, Xz, Xs]
     refine ws_skip rfl rfl ?_
     simp only [Nat.reduceAdd, Act.put, Xa, Xz, Xs]
     refine ws_skip rfl rfl ?_
     simp only [Nat.reduceAdd, Act.put, Xa, Xz, Xs]
     refine ws_skip_late rfl rfl ?_
     simp only [Nat.reduceAdd, Act.put, Xa, Xz, Xs]
     refine ws_skip rfl rfl ?_
     simp only [Nat.reduceAdd, Act.put, Xa, Xz, Xs]
     refine ws_skip_late rfl rfl ?_
     simp only [Nat.reduceAdd, Act.put, Xa, Xz, Xs]
     refine ws_skip_late rfl rfl ?_
     simp only [Nat.reduceAdd, Act.put, Xa, Xz, Xs]
     refine ws_skip_late rfl rfl ?_
     simp only [Nat.reduceAdd, Act.put, Xa, Xz, Xs]
     refine ws_late (.bool true) rfl rfl (fun _ => rfl) ?_
     simp only [Nat.reduceAdd, Act.put, Xa, Xz, Xs]
     refine ws_nil [] trivial (by simp) ?_
     intro ps10
     simp only [fin, List.foldl_nil, List.map, List.nil_append]
     refine we_then ?_
     refine wc_true rfl ?_
     refine wc_seq ?_
     refine wc_region ?_
     refine wl_val (.int .i64 (i : Int)) rfl (fun _ => rfl) ?_
     simp only [Act.put, Xa, Xz, Xs]
     refine wl_val (.int .i64 11) rfl (fun _ => rfl) ?_
     simp only [Act.put, Xa, Xz, Xs]
     refine wl_val (.int .i64 (i : Int)) rfl (fun _ => rfl) ?_
     simp only [Act.put, Xa, Xz, Xs]
     refine wl_nil ?_
     refine we_then ?_
     refine wc_ret ?_
     refine we_in_ret ?_
     refine we_then_ret ?_
     refine we_then_ret ?_
     refine we_in_ret ?_
     refine we_then_ret ?_
     refine we_ret2 (.int .i64 11) (.int .i64 (i : Int)) rfl rfl rfl rfl (fun w1 hE => ?_)
     have e0 : fit k G H = (11, i) := fit_eq (.inr (.inr (.inl ⟨by omega, by omega, rfl, (show i < H.length by omega), (show Bad k G H i by unfold Bad far; omega), b2⟩)))
     exact ⟨by rw [e0]; rfl, hE.below⟩
  ·
   skip
   have p4 : (((chk G H).1 : Nat) : Int) ≠ 0 := by simpa using h4
   refine wc_true rfl ?_
   refine wc_seq ?_
   refine wc_region ?_
   refine wl_val (.int .i64 51) rfl (fun _ => rfl) ?_
   simp only [Act.put, Xa, Xz, Xs]
   refine wl_val (.int .i64 0) rfl (fun _ => rfl) ?_
   simp only [Act.put, Xa, Xz, Xs]
   refine wl_nil ?_
   refine we_then ?_
   refine wc_ret ?_
   refine we_then_ret ?_
   refine we_ret2 (.int .i64 51) (.int .i64 0) rfl rfl rfl rfl (fun w1 hE => ?_)
   have e0 : fit k G H = (51, 0) := fit_eq (.inr (.inl ⟨by omega, by omega, rfl⟩))
   exact ⟨by rw [e0]; rfl, hE.below⟩
 ·
  skip
  have p3 : ((wrong k : Nat) : Int) ≠ 0 := by simpa using h3
  refine wc_true rfl ?_
  refine wc_seq ?_
  refine wc_region ?_
  refine wl_val (.int .i64 50) rfl (fun _ => rfl) ?_
  simp only [Act.put, Xa, Xz, Xs]
  refine wl_val (.int .i64 0) rfl (fun _ => rfl) ?_
  simp only [Act.put, Xa, Xz, Xs]
  refine wl_nil ?_
  refine we_then ?_
  refine wc_ret ?_
  refine we_then_ret ?_
  refine we_ret2 (.int .i64 50) (.int .i64 0) rfl rfl rfl rfl (fun w1 hE => ?_)
  have e0 : fit k G H = (50, 0) := fit_eq (.inl ⟨by omega, rfl⟩)
  exact ⟨by rw [e0]; rfl, hE.below⟩
end Go.Proofs.Ytodenlojbbpfaaa.Cfref
