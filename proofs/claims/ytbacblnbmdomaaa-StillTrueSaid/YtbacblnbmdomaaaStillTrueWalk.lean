/-
  StillTrue: the law's walk. No condition.
-/
import Derived.Test.YtbacblnbmdomaaaStlw
namespace Go.Proofs.Ytbacblnbmdomaaa.Walks
open Go.ChangeShapes Go.WideShapes Go.ChangeAt Go.RowKit
open Arr Steady Sx Sw Sl Sb Sc Si Sj Sk Sh Sfn Smu Vs Gr Tk Tkh Tkl Cf Cfref Stm Stlw
set_option linter.unusedVariables false
set_option linter.unusedSimpArgs false
set_option maxRecDepth 100000

set_option maxHeartbeats 8000000 in
theorem stillTrue_walk (k : Cf) (n : Int) (wn : (Lit.int .i64 n).wf = true) (o : Bool) (a : Int) (wa : (Lit.int .i64 a).wf = true) (b : Int) (wb : (Lit.int .i64 b).wf = true) (f : Int) (wf : (Lit.int .i64 f).wf = true) (v : Int) (wv : (Lit.int .i64 v).wf = true) (w : World) :
    Calls Try.prog 4 #[.agg #[.int .i64 k.pu, .int .i64 k.lo, .int .i64 k.hi, .int .i64 k.rb, .int .i64 k.rp, .int .i64 k.ae, .int .i64 k.ms, .int .i64 k.ma, .int .i64 k.an, .int .i64 k.st, .int .i64 k.ss, .int .i64 k.ro, .int .i64 k.ti, .int .i64 k.br], .agg #[.int .i64 n, .bool o], .agg #[.int .i64 a, .int .i64 b, .int .i64 f], .int .i64 v] w fun e w' => e = .returned (.bool true) ∧ Below w.heap.size w w' := by
  refine calls_sx Try.func4 rfl ?_
  simp only [Try.ntmps4, List.size_toArray, List.length_cons, List.length_nil, Nat.reduceAdd, Nat.reduceSub, Array.replicate_succ, Array.replicate_zero, List.push_toArray, List.append_toArray, List.nil_append, List.cons_append]
  refine wc_seq ?_
  refine wc_region ?_
  refine wl_new 23 (#[.int .i64 k.pu, .int .i64 k.lo, .int .i64 k.hi, .int .i64 k.rb, .int .i64 k.rp, .int .i64 k.ae, .int .i64 k.ms, .int .i64 k.ma, .int .i64 k.an, .int .i64 k.st, .int .i64 k.ss, .int .i64 k.ro, .int .i64 k.ti, .int .i64 k.br]) rfl (fun _ => by go_simp) ?_
  intro g1
  simp only [Act.put, Xa, Xz, Xs]
  refine wl_new 29 (#[.int .i64 n, .bool o]) rfl (fun _ => by go_simp) ?_
  intro g2
  simp only [Act.put, Xa, Xz, Xs]
  refine wl_new 33 (#[.int .i64 a, .int .i64 b, .int .i64 f]) rfl (fun _ => by go_simp) ?_
  intro g3
  simp only [Act.put, Xa, Xz, Xs]
  refine wl_val (.bool false) rfl (fun _ => rfl) ?_
  simp only [Act.put, Xa, Xz, Xs]
  refine wl_nil ?_
  refine we_then ?_
  refine wc_seq ?_
  refine wc_seq ?_
  refine wc_region ?_
  refine wl_call 6 #[] (.bool true) rfl (fun _ => by go_simp) (fun W => Stlw.anchor_any W) ?_
  simp only [Act.put, Xa, Xz, Xs]
  refine wl_val (.bool false) rfl (fun _ => by go_simp) ?_
  simp only [Act.put, Xa, Xz, Xs]
  refine wl_nil ?_
  refine we_then ?_
  refine wc_false rfl ?_
  refine wc_skip ?_
  refine we_then ?_
  refine wc_seq ?_
  refine wc_seq ?_
  refine wc_region ?_
  refine wl_load 23 (.tmp 4) (own_row 2 rfl) rfl rfl rfl Try.underlying23 rfl (by kernel_rfl) ?_
  simp only [Act.put, Xa, Xz, Xs]
  refine wl_call 7 #[.agg #[.int .i64 k.pu, .int .i64 k.lo, .int .i64 k.hi, .int .i64 k.rb, .int .i64 k.rp, .int .i64 k.ae, .int .i64 k.ms, .int .i64 k.ma, .int .i64 k.an, .int .i64 k.st, .int .i64 k.ss, .int .i64 k.ro, .int .i64 k.ti, .int .i64 k.br]] (.int .i64 ((wrong k : Nat) : Int)) rfl (fun _ => by go_simp) (fun W => wrong_any k W) ?_
  simp only [Act.put, Xa, Xz, Xs]
  refine wl_val (.bool (((wrong k : Nat) : Int) != 0)) rfl (fun w => run_cmp rfl rfl rfl Try.underlying3 rfl w) ?_
  simp only [Act.put, Xa, Xz, Xs]
  refine wl_val (.bool (((wrong k : Nat) : Int) != 0)) rfl (fun _ => rfl) ?_
  simp only [Act.put, Xa, Xz, Xs]
  cases h4 : (((wrong k : Nat) : Int) != 0)
  · skip
    have p4 : ¬ (((wrong k : Nat) : Int) ≠ 0) := by first | (simp; done) | (simp at h4; done) | simpa using h4
    refine wl_val (.pointer (some ⟨g2, 0, none⟩)) rfl (fun _ => by go_simp) ?_
    simp only [Act.put, Xa, Xz, Xs]
    refine wl_cell 3 (.tmp 16) (.int .i64 n) (own_row 1 rfl) rfl rfl rfl rfl Try.isAgg3 ?_
    simp only [Act.put, Xa, Xz, Xs]
    refine wl_val (.bool (decide (n < 0))) rfl (fun w => run_cmp rfl rfl rfl Try.underlying3 rfl w) ?_
    simp only [Act.put, Xa, Xz, Xs]
    refine wl_val (.bool (decide (n < 0))) rfl (fun _ => rfl) ?_
    simp only [Act.put, Xa, Xz, Xs]
    refine wl_val (.bool (decide (n < 0))) rfl (fun _ => rfl) ?_
    simp only [Act.put, Xa, Xz, Xs]
    cases h5 : (decide (n < 0))
    · skip
      have p5 : ¬ (n < 0) := of_decide_eq_false h5
      refine wl_val (.pointer (some ⟨g2, 0, none⟩)) rfl (fun _ => by go_simp) ?_
      simp only [Act.put, Xa, Xz, Xs]
      refine wl_cell 3 (.tmp 21) (.int .i64 n) (own_row 1 rfl) rfl rfl rfl rfl Try.isAgg3 ?_
      simp only [Act.put, Xa, Xz, Xs]
      refine wl_val (.pointer (some ⟨g1, 9, none⟩)) rfl (fun _ => by go_simp) ?_
      simp only [Act.put, Xa, Xz, Xs]
      refine wl_cell 3 (.tmp 23) (.int .i64 k.st) (own_row 2 rfl) rfl rfl rfl rfl Try.isAgg3 ?_
      simp only [Act.put, Xa, Xz, Xs]
      refine wl_val (.bool (decide (k.st < n))) rfl (fun w => run_cmp rfl rfl rfl Try.underlying3 rfl w) ?_
      simp only [Act.put, Xa, Xz, Xs]
      refine wl_val (.bool (decide (k.st < n))) rfl (fun _ => rfl) ?_
      simp only [Act.put, Xa, Xz, Xs]
      refine wl_val (.bool (decide (k.st < n))) rfl (fun _ => rfl) ?_
      simp only [Act.put, Xa, Xz, Xs]
      cases h6 : (decide (k.st < n))
      · skip
        have p6 : ¬ (k.st < n) := of_decide_eq_false h6
        refine wl_val (.pointer (some ⟨g3, 0, none⟩)) rfl (fun _ => by go_simp) ?_
        simp only [Act.put, Xa, Xz, Xs]
        refine wl_part 31 (.tmp 28) [.int .i64 a, .int .i64 b] (own_row 0 rfl) rfl rfl rfl rfl Try.underlying31 rfl (by kernel_rfl) ?_
        simp only [Act.put, Xa, Xz, Xs]
        refine wl_val (.int .i64 v) rfl (fun _ => rfl) ?_
        simp only [Act.put, Xa, Xz, Xs]
        refine wl_call 10 #[.agg #[.int .i64 a, .int .i64 b], .int .i64 v] (.bool (decide (a ≤ v) && decide (v ≤ b))) rfl (fun _ => by go_simp) (fun W => has_b a b v W) ?_
        simp only [Act.put, Xa, Xz, Xs]
        refine wl_val (.bool (!(decide (a ≤ v) && decide (v ≤ b)))) rfl (fun _ => by go_simp) ?_
        simp only [Act.put, Xa, Xz, Xs]
        refine wl_val (.bool (!(decide (a ≤ v) && decide (v ≤ b)))) rfl (fun _ => rfl) ?_
        simp only [Act.put, Xa, Xz, Xs]
        refine wl_nil ?_
        refine we_then ?_
        cases h7 : (decide (a ≤ v) && decide (v ≤ b))
        · skip
          have p7 : ¬ ((a ≤ v) ∧ (v ≤ b)) := by first | (simp; done) | (simp at h7; done) | simpa using h7
          refine wc_true rfl ?_
          refine wc_seq ?_
          refine wc_region ?_
          refine wl_val (.bool true) rfl (fun _ => rfl) ?_
          simp only [Act.put, Xa, Xz, Xs]
          refine wl_nil ?_
          refine we_then ?_
          refine wc_ret ?_
          refine we_then_ret ?_
          refine we_ret1 (.bool true) rfl rfl rfl (fun w1 hE => ?_)
          exact ⟨rfl, hE.below⟩
        · skip
          have p7 : (a ≤ v) ∧ (v ≤ b) := by first | (simp; done) | (simp at h7; done) | simpa using h7
          refine wc_false rfl ?_
          refine wc_skip ?_
          refine we_then ?_
          refine wc_seq ?_
          have hk := ok_of (c := k) (by omega)
          have hk1 := hk.st1
          have hk2 := hk.st2
          have hk3 := hk.ss2
          have hk4 := hk.rb1
          have hk5 := hk.ss3
          refine wc_region ?_
          refine wl_load 29 (.tmp 5) (own_row 1 rfl) rfl rfl rfl Try.underlying29 rfl (by kernel_rfl) ?_
          simp only [Act.put, Xa, Xz, Xs]
          refine wl_load 23 (.tmp 4) (own_row 2 rfl) rfl rfl rfl Try.underlying23 rfl (by kernel_rfl) ?_
          simp only [Act.put, Xa, Xz, Xs]
          refine wl_val (.pointer (some ⟨g3, 0, none⟩)) rfl (fun _ => by go_simp) ?_
          simp only [Act.put, Xa, Xz, Xs]
          refine wl_part 31 (.tmp 36) [.int .i64 a, .int .i64 b] (own_row 0 rfl) rfl rfl rfl rfl Try.underlying31 rfl (by kernel_rfl) ?_
          simp only [Act.put, Xa, Xz, Xs]
          refine wl_val (.pointer (some ⟨g3, 2, none⟩)) rfl (fun _ => by go_simp) ?_
          simp only [Act.put, Xa, Xz, Xs]
          refine wl_cell 3 (.tmp 38) (.int .i64 f) (own_row 0 rfl) rfl rfl rfl rfl Try.isAgg3 ?_
          simp only [Act.put, Xa, Xz, Xs]
          refine wl_call 9 #[.agg #[.int .i64 n, .bool o], .agg #[.int .i64 k.pu, .int .i64 k.lo, .int .i64 k.hi, .int .i64 k.rb, .int .i64 k.rp, .int .i64 k.ae, .int .i64 k.ms, .int .i64 k.ma, .int .i64 k.an, .int .i64 k.st, .int .i64 k.ss, .int .i64 k.ro, .int .i64 k.ti, .int .i64 k.br], .agg #[.int .i64 a, .int .i64 b], .int .i64 f] (.agg #[.int .i64 (nxN k n a b f), .bool (nxO k n a b f)]) rfl (fun _ => by go_simp) (fun W => Stl.next_any k n o a b f W hk (by omega) (by omega) (by omega)) ?_
          simp only [Act.put, Xa, Xz, Xs]
          refine wl_new 29 (#[.int .i64 0, .bool false]) rfl (fun _ => by go_simp) ?_
          intro g8
          simp only [Act.put, Xa, Xz, Xs]
          refine wl_store 0 29 (.tmp 9) (.tmp 40) (#[.int .i64 (nxN k n a b f), .bool (nxO k n a b f)]) rfl rfl rfl rfl rfl (by kernel_rfl) rfl (by simp [Value.oneCell']) ?_
          simp only [Act.put, List.set_cons_zero]
          refine wl_nil ?_
          refine we_then ?_
          refine wc_seq ?_
          refine wc_region ?_
          refine wl_val (.pointer (some ⟨g8, 1, none⟩)) rfl (fun _ => by go_simp) ?_
          simp only [Act.put, Xa, Xz, Xs]
          refine wl_cell 4 (.tmp 41) (.bool (nxO k n a b f)) (own_row 0 rfl) rfl rfl rfl rfl Try.isAgg4 ?_
          simp only [Act.put, Xa, Xz, Xs]
          refine wl_val (.bool (!(nxO k n a b f))) rfl (fun _ => by go_simp) ?_
          simp only [Act.put, Xa, Xz, Xs]
          refine wl_val (.bool (!(nxO k n a b f))) rfl (fun _ => rfl) ?_
          simp only [Act.put, Xa, Xz, Xs]
          cases h9 : (nxO k n a b f)
          · skip
            refine wl_skip rfl ?_
            simp only [Act.put, Xa, Xz, Xs]
            refine wl_skip rfl ?_
            simp only [Act.put, Xa, Xz, Xs]
            refine wl_skip rfl ?_
            simp only [Act.put, Xa, Xz, Xs]
            refine wl_skip rfl ?_
            simp only [Act.put, Xa, Xz, Xs]
            refine wl_skip rfl ?_
            simp only [Act.put, Xa, Xz, Xs]
            refine wl_skip rfl ?_
            simp only [Act.put, Xa, Xz, Xs]
            refine wl_skip rfl ?_
            simp only [Act.put, Xa, Xz, Xs]
            refine wl_skip rfl ?_
            simp only [Act.put, Xa, Xz, Xs]
            refine wl_skip rfl ?_
            simp only [Act.put, Xa, Xz, Xs]
            refine wl_skip rfl ?_
            simp only [Act.put, Xa, Xz, Xs]
            refine wl_skip rfl ?_
            simp only [Act.put, Xa, Xz, Xs]
            refine wl_skip rfl ?_
            simp only [Act.put, Xa, Xz, Xs]
            refine wl_skip rfl ?_
            simp only [Act.put, Xa, Xz, Xs]
            refine wl_skip rfl ?_
            simp only [Act.put, Xa, Xz, Xs]
            refine wl_skip rfl ?_
            simp only [Act.put, Xa, Xz, Xs]
            refine wl_skip rfl ?_
            simp only [Act.put, Xa, Xz, Xs]
            refine wl_val (.bool true) rfl (fun _ => rfl) ?_
            simp only [Act.put, Xa, Xz, Xs]
            refine wl_val (.bool true) rfl (fun _ => rfl) ?_
            simp only [Act.put, Xa, Xz, Xs]
            refine wl_nil ?_
            refine we_then ?_
            refine wc_ret ?_
            refine we_ret1 (.bool true) rfl rfl rfl (fun w1 hE => ?_)
            exact ⟨rfl, hE.below⟩
          · skip
            refine wl_val (.int .i64 v) rfl (fun _ => rfl) ?_
            simp only [Act.put, Xa, Xz, Xs]
            refine wl_val (.pointer (some ⟨g1, 10, none⟩)) rfl (fun _ => by go_simp) ?_
            simp only [Act.put, Xa, Xz, Xs]
            refine wl_cell 2 (.tmp 46) (.int .i64 k.ss) (own_row 3 rfl) rfl rfl rfl rfl Try.isAgg2 ?_
            simp only [Act.put, Xa, Xz, Xs]
            refine wl_val (.int .i64 (-k.ss)) rfl (fun w => run_neg rfl rfl Try.underlying2 (i64_in (by omega) (by omega)) w) ?_
            simp only [Act.put, Xa, Xz, Xs]
            refine wl_val (.bool (decide ((-k.ss) ≤ v))) rfl (fun w => run_cmp rfl rfl rfl Try.underlying2 rfl w) ?_
            simp only [Act.put, Xa, Xz, Xs]
            refine wl_val (.bool (decide ((-k.ss) ≤ v))) rfl (fun _ => rfl) ?_
            simp only [Act.put, Xa, Xz, Xs]
            cases h10 : (decide ((-k.ss) ≤ v))
            · skip
              have p10 : ¬ ((-k.ss) ≤ v) := of_decide_eq_false h10
              refine wl_skip rfl ?_
              simp only [Act.put, Xa, Xz, Xs]
              refine wl_skip rfl ?_
              simp only [Act.put, Xa, Xz, Xs]
              refine wl_skip rfl ?_
              simp only [Act.put, Xa, Xz, Xs]
              refine wl_skip rfl ?_
              simp only [Act.put, Xa, Xz, Xs]
              refine wl_val (.bool false) rfl (fun _ => rfl) ?_
              simp only [Act.put, Xa, Xz, Xs]
              refine wl_val (.bool false) rfl (fun _ => rfl) ?_
              simp only [Act.put, Xa, Xz, Xs]
              refine wl_skip rfl ?_
              simp only [Act.put, Xa, Xz, Xs]
              refine wl_skip rfl ?_
              simp only [Act.put, Xa, Xz, Xs]
              refine wl_skip rfl ?_
              simp only [Act.put, Xa, Xz, Xs]
              refine wl_val (.bool false) rfl (fun _ => rfl) ?_
              simp only [Act.put, Xa, Xz, Xs]
              refine wl_val (.bool false) rfl (fun _ => rfl) ?_
              simp only [Act.put, Xa, Xz, Xs]
              refine wl_val (.bool false) rfl (fun _ => rfl) ?_
              simp only [Act.put, Xa, Xz, Xs]
              refine wl_nil ?_
              refine we_then ?_
              refine wc_ret ?_
              refine we_ret1 (.bool false) rfl rfl rfl (fun w1 hE => ?_)
              have q1 := nxO_of h9
              exact (by exfalso; omega)
            · skip
              have p10 : (-k.ss) ≤ v := of_decide_eq_true h10
              refine wl_val (.int .i64 v) rfl (fun _ => rfl) ?_
              simp only [Act.put, Xa, Xz, Xs]
              refine wl_val (.pointer (some ⟨g1, 10, none⟩)) rfl (fun _ => by go_simp) ?_
              simp only [Act.put, Xa, Xz, Xs]
              refine wl_cell 2 (.tmp 52) (.int .i64 k.ss) (own_row 3 rfl) rfl rfl rfl rfl Try.isAgg2 ?_
              simp only [Act.put, Xa, Xz, Xs]
              refine wl_val (.bool (decide (v ≤ k.ss))) rfl (fun w => run_cmp rfl rfl rfl Try.underlying2 rfl w) ?_
              simp only [Act.put, Xa, Xz, Xs]
              refine wl_val (.bool (decide (v ≤ k.ss))) rfl (fun _ => rfl) ?_
              simp only [Act.put, Xa, Xz, Xs]
              refine wl_val (.bool (decide (v ≤ k.ss))) rfl (fun _ => rfl) ?_
              simp only [Act.put, Xa, Xz, Xs]
              cases h11 : (decide (v ≤ k.ss))
              · skip
                have p11 : ¬ (v ≤ k.ss) := of_decide_eq_false h11
                refine wl_skip rfl ?_
                simp only [Act.put, Xa, Xz, Xs]
                refine wl_skip rfl ?_
                simp only [Act.put, Xa, Xz, Xs]
                refine wl_skip rfl ?_
                simp only [Act.put, Xa, Xz, Xs]
                refine wl_val (.bool false) rfl (fun _ => rfl) ?_
                simp only [Act.put, Xa, Xz, Xs]
                refine wl_val (.bool false) rfl (fun _ => rfl) ?_
                simp only [Act.put, Xa, Xz, Xs]
                refine wl_val (.bool false) rfl (fun _ => rfl) ?_
                simp only [Act.put, Xa, Xz, Xs]
                refine wl_nil ?_
                refine we_then ?_
                refine wc_ret ?_
                refine we_ret1 (.bool false) rfl rfl rfl (fun w1 hE => ?_)
                have q1 := nxO_of h9
                exact (by exfalso; omega)
              · skip
                have p11 : v ≤ k.ss := of_decide_eq_true h11
                refine wl_val (.pointer (some ⟨g3, 2, none⟩)) rfl (fun _ => by go_simp) ?_
                simp only [Act.put, Xa, Xz, Xs]
                refine wl_cell 3 (.tmp 57) (.int .i64 f) (own_row 1 rfl) rfl rfl rfl rfl Try.isAgg3 ?_
                simp only [Act.put, Xa, Xz, Xs]
                refine wl_val (.bool (decide (1 ≤ f))) rfl (fun w => run_cmp rfl rfl rfl Try.underlying3 rfl w) ?_
                simp only [Act.put, Xa, Xz, Xs]
                refine wl_val (.bool (decide (1 ≤ f))) rfl (fun _ => rfl) ?_
                simp only [Act.put, Xa, Xz, Xs]
                refine wl_val (.bool (decide (1 ≤ f))) rfl (fun _ => rfl) ?_
                simp only [Act.put, Xa, Xz, Xs]
                refine wl_val (.bool (decide (1 ≤ f))) rfl (fun _ => rfl) ?_
                simp only [Act.put, Xa, Xz, Xs]
                refine wl_nil ?_
                refine we_then ?_
                refine wc_ret ?_
                refine we_ret1 (.bool (decide (1 ≤ f))) rfl rfl rfl (fun w1 hE => ?_)
                have q1 := nxO_of h9
                exact ⟨by rw [show (decide (1 ≤ f)) = true from by simp; omega], hE.below⟩
      · skip
        have p6 : k.st < n := of_decide_eq_true h6
        refine wl_skip rfl ?_
        simp only [Act.put, Xa, Xz, Xs]
        refine wl_skip rfl ?_
        simp only [Act.put, Xa, Xz, Xs]
        refine wl_skip rfl ?_
        simp only [Act.put, Xa, Xz, Xs]
        refine wl_skip rfl ?_
        simp only [Act.put, Xa, Xz, Xs]
        refine wl_skip rfl ?_
        simp only [Act.put, Xa, Xz, Xs]
        refine wl_val (.bool true) rfl (fun _ => rfl) ?_
        simp only [Act.put, Xa, Xz, Xs]
        refine wl_nil ?_
        refine we_then ?_
        refine wc_true rfl ?_
        refine wc_seq ?_
        refine wc_region ?_
        refine wl_val (.bool true) rfl (fun _ => rfl) ?_
        simp only [Act.put, Xa, Xz, Xs]
        refine wl_nil ?_
        refine we_then ?_
        refine wc_ret ?_
        refine we_then_ret ?_
        refine we_ret1 (.bool true) rfl rfl rfl (fun w1 hE => ?_)
        exact ⟨rfl, hE.below⟩
    · skip
      have p5 : n < 0 := of_decide_eq_true h5
      refine wl_skip rfl ?_
      simp only [Act.put, Xa, Xz, Xs]
      refine wl_skip rfl ?_
      simp only [Act.put, Xa, Xz, Xs]
      refine wl_skip rfl ?_
      simp only [Act.put, Xa, Xz, Xs]
      refine wl_skip rfl ?_
      simp only [Act.put, Xa, Xz, Xs]
      refine wl_skip rfl ?_
      simp only [Act.put, Xa, Xz, Xs]
      refine wl_val (.bool true) rfl (fun _ => rfl) ?_
      simp only [Act.put, Xa, Xz, Xs]
      refine wl_val (.bool true) rfl (fun _ => rfl) ?_
      simp only [Act.put, Xa, Xz, Xs]
      refine wl_skip rfl ?_
      simp only [Act.put, Xa, Xz, Xs]
      refine wl_skip rfl ?_
      simp only [Act.put, Xa, Xz, Xs]
      refine wl_skip rfl ?_
      simp only [Act.put, Xa, Xz, Xs]
      refine wl_skip rfl ?_
      simp only [Act.put, Xa, Xz, Xs]
      refine wl_skip rfl ?_
      simp only [Act.put, Xa, Xz, Xs]
      refine wl_val (.bool true) rfl (fun _ => rfl) ?_
      simp only [Act.put, Xa, Xz, Xs]
      refine wl_nil ?_
      refine we_then ?_
      refine wc_true rfl ?_
      refine wc_seq ?_
      refine wc_region ?_
      refine wl_val (.bool true) rfl (fun _ => rfl) ?_
      simp only [Act.put, Xa, Xz, Xs]
      refine wl_nil ?_
      refine we_then ?_
      refine wc_ret ?_
      refine we_then_ret ?_
      refine we_ret1 (.bool true) rfl rfl rfl (fun w1 hE => ?_)
      exact ⟨rfl, hE.below⟩
  · skip
    have p4 : ((wrong k : Nat) : Int) ≠ 0 := by first | (simp; done) | (simp at h4; done) | simpa using h4
    refine wl_skip rfl ?_
    simp only [Act.put, Xa, Xz, Xs]
    refine wl_skip rfl ?_
    simp only [Act.put, Xa, Xz, Xs]
    refine wl_skip rfl ?_
    simp only [Act.put, Xa, Xz, Xs]
    refine wl_val (.bool true) rfl (fun _ => rfl) ?_
    simp only [Act.put, Xa, Xz, Xs]
    refine wl_val (.bool true) rfl (fun _ => rfl) ?_
    simp only [Act.put, Xa, Xz, Xs]
    refine wl_skip rfl ?_
    simp only [Act.put, Xa, Xz, Xs]
    refine wl_skip rfl ?_
    simp only [Act.put, Xa, Xz, Xs]
    refine wl_skip rfl ?_
    simp only [Act.put, Xa, Xz, Xs]
    refine wl_skip rfl ?_
    simp only [Act.put, Xa, Xz, Xs]
    refine wl_skip rfl ?_
    simp only [Act.put, Xa, Xz, Xs]
    refine wl_val (.bool true) rfl (fun _ => rfl) ?_
    simp only [Act.put, Xa, Xz, Xs]
    refine wl_val (.bool true) rfl (fun _ => rfl) ?_
    simp only [Act.put, Xa, Xz, Xs]
    refine wl_skip rfl ?_
    simp only [Act.put, Xa, Xz, Xs]
    refine wl_skip rfl ?_
    simp only [Act.put, Xa, Xz, Xs]
    refine wl_skip rfl ?_
    simp only [Act.put, Xa, Xz, Xs]
    refine wl_skip rfl ?_
    simp only [Act.put, Xa, Xz, Xs]
    refine wl_skip rfl ?_
    simp only [Act.put, Xa, Xz, Xs]
    refine wl_val (.bool true) rfl (fun _ => rfl) ?_
    simp only [Act.put, Xa, Xz, Xs]
    refine wl_nil ?_
    refine we_then ?_
    refine wc_true rfl ?_
    refine wc_seq ?_
    refine wc_region ?_
    refine wl_val (.bool true) rfl (fun _ => rfl) ?_
    simp only [Act.put, Xa, Xz, Xs]
    refine wl_nil ?_
    refine we_then ?_
    refine wc_ret ?_
    refine we_then_ret ?_
    refine we_ret1 (.bool true) rfl rfl rfl (fun w1 hE => ?_)
    exact ⟨rfl, hE.below⟩
end Go.Proofs.Ytbacblnbmdomaaa.Walks
