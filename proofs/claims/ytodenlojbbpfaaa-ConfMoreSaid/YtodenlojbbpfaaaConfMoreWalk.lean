/-
 ConfMore: the law's walk. No condition.
-/
import Derived.Test.YtodenlojbbpfaaaCflw
namespace Go.Proofs.Ytodenlojbbpfaaa.Walks
open Go.ChangeShapes Go.WideShapes Go.ChangeAt Go.RowKit
open Arr Steady Sx Sw Sl Sb Sc Si Sj Sk Sh Vs Gr Tk Tkh Tkl Cf Cfref Cflw
set_option linter.unusedVariables false
set_option linter.unusedSimpArgs false
set_option maxRecDepth 100000

set_option maxHeartbeats 2000000 in
theorem confMore_walk (k : Cf) (x : Int) (wx : (Lit.int .i32 x).wf = true) (y : Int) (wy : (Lit.int .i32 y).wf = true) (b : Int) (wb : (Lit.int .i64 b).wf = true) (w : World) :
  Calls Try.prog 6 #[.agg #[.int .i64 k.pu, .int .i64 k.lo, .int .i64 k.hi, .int .i64 k.rb, .int .i64 k.rp, .int .i64 k.ae, .int .i64 k.ms, .int .i64 k.ma, .int .i64 k.an, .int .i64 k.st, .int .i64 k.ss, .int .i64 k.ro, .int .i64 k.ti, .int .i64 k.br], .int .i32 x, .int .i32 y, .int .i64 b] w fun e w' => e = .returned (.bool true) ∧ Below w.heap.size w w' := by
 have hx := i32_of_wf wx
 have hy := i32_of_wf wy
 refine calls_sx Try.func6 rfl ?_
 simp only [Try.ntmps6, List.size_toArray, List.length_cons, List.length_nil, Nat.reduceAdd, Nat.reduceSub, Array.replicate_succ, Array.replicate_zero, List.push_toArray, List.append_toArray, List.nil_append, List.cons_append]
 refine wc_seq ?_
 refine wc_region ?_
 refine wl_new 23 (#[.int .i64 k.pu, .int .i64 k.lo, .int .i64 k.hi, .int .i64 k.rb, .int .i64 k.rp, .int .i64 k.ae, .int .i64 k.ms, .int .i64 k.ma, .int .i64 k.an, .int .i64 k.st, .int .i64 k.ss, .int .i64 k.ro, .int .i64 k.ti, .int .i64 k.br]) rfl (fun _ => by go_simp) ?_
 intro g1
 simp only [Act.put, Xa, Xz, Xs]
 refine wl_val (.bool false) rfl (fun _ => rfl) ?_
 simp only [Act.put, Xa, Xz, Xs]
 refine wl_nil ?_
 refine we_then ?_
 refine wc_seq ?_
 refine wc_seq ?_
 refine wc_region ?_
 refine wl_call 7 #[] (.bool true) rfl (fun _ => by go_simp) (fun W => Cflw.anchor_any W) ?_
 simp only [Act.put, Xa, Xz, Xs]
 refine wl_val (.bool false) rfl (fun _ => by go_simp) ?_
 simp only [Act.put, Xa, Xz, Xs]
 refine wl_nil ?_
 refine we_then ?_
 refine wc_false rfl ?_
 refine wc_skip ?_
 refine we_then ?_
 refine wc_seq ?_
 refine wc_seq ?_
 refine wc_region ?_
 refine wl_load 23 (.tmp 4) (own_row 0 rfl) rfl rfl rfl Try.underlying23 rfl (by kernel_rfl) ?_
 simp only [Act.put, Xa, Xz, Xs]
 refine wl_call 9 #[.agg #[.int .i64 k.pu, .int .i64 k.lo, .int .i64 k.hi, .int .i64 k.rb, .int .i64 k.rp, .int .i64 k.ae, .int .i64 k.ms, .int .i64 k.ma, .int .i64 k.an, .int .i64 k.st, .int .i64 k.ss, .int .i64 k.ro, .int .i64 k.ti, .int .i64 k.br]] (.int .i64 ((wrong k : Nat) : Int)) rfl (fun _ => by go_simp) (fun W => wrong_any k W) ?_
 simp only [Act.put, Xa, Xz, Xs]
 refine wl_val (.bool (((wrong k : Nat) : Int) != 0)) rfl (fun w => run_cmp rfl rfl rfl Try.underlying3 rfl w) ?_
 simp only [Act.put, Xa, Xz, Xs]
 refine wl_nil ?_
 refine we_then ?_
 cases h2 : (((wrong k : Nat) : Int) != 0)
 ·
  skip
  have p2 : ¬ (((wrong k : Nat) : Int) ≠ 0) := by simpa using h2
  refine wc_false rfl ?_
  refine wc_skip ?_
  refine we_then ?_
  refine wc_seq ?_
  have hk := ok_of (c := k) (by omega)
  refine wc_region ?_
  refine wl_val (.int .i32 x) rfl (fun _ => rfl) ?_
  simp only [Act.put, Xa, Xz, Xs]
  refine wl_val (.int .i64 x) rfl (fun w => Sw.run_conv rfl rfl Try.underlying21 Try.underlying2 (i64_in (by omega) (by omega)) w) ?_
  simp only [Act.put, Xa, Xz, Xs]
  refine wl_val (.int .i32 y) rfl (fun _ => rfl) ?_
  simp only [Act.put, Xa, Xz, Xs]
  refine wl_val (.int .i64 y) rfl (fun w => Sw.run_conv rfl rfl Try.underlying21 Try.underlying2 (i64_in (by omega) (by omega)) w) ?_
  simp only [Act.put, Xa, Xz, Xs]
  refine wl_val (.int .i64 x) rfl (fun _ => rfl) ?_
  simp only [Act.put, Xa, Xz, Xs]
  refine wl_val (.int .i64 y) rfl (fun _ => rfl) ?_
  simp only [Act.put, Xa, Xz, Xs]
  refine wl_nil ?_
  refine we_then ?_
  refine wc_seq ?_
  refine wc_seq ?_
  refine wc_draw [.late, .late, .late, .late, .late, .late, .late, .late, .late, .late, .plain, .late, .plain, .plain, .late, .plain, .late, .late] none [] 82 (by kernel_rfl) rfl (by kernel_rfl) (by kernel_rfl) ?_
  refine ws_late (.int .i64 x) rfl rfl (fun _ => rfl) ?_
  simp only [Nat.reduceAdd, Act.put, Xa, Xz, Xs]
  refine ws_late (.int .i64 x) rfl rfl (fun _ => rfl) ?_
  simp only [Nat.reduceAdd, Act.put, Xa, Xz, Xs]
  refine ws_late (.int .i64 (-x)) rfl rfl (fun w => run_neg rfl rfl Try.underlying2 (i64_in (by omega) (by omega)) w) ?_
  simp only [Nat.reduceAdd, Act.put, Xa, Xz, Xs]
  refine ws_late (.int .i64 (max x (-x))) rfl rfl (fun w => by first | exact run_max2 rfl rfl rfl rfl w | go_simp) ?_
  simp only [Nat.reduceAdd, Act.put, Xa, Xz, Xs]
  refine ws_late (.int .i64 y) rfl rfl (fun _ => rfl) ?_
  simp only [Nat.reduceAdd, Act.put, Xa, Xz, Xs]
  refine ws_late (.int .i64 y) rfl rfl (fun _ => rfl) ?_
  simp only [Nat.reduceAdd, Act.put, Xa, Xz, Xs]
  refine ws_late (.int .i64 (-y)) rfl rfl (fun w => run_neg rfl rfl Try.underlying2 (i64_in (by omega) (by omega)) w) ?_
  simp only [Nat.reduceAdd, Act.put, Xa, Xz, Xs]
  refine ws_late (.int .i64 (max y (-y))) rfl rfl (fun w => by first | exact run_max2 rfl rfl rfl rfl w | go_simp) ?_
  simp only [Nat.reduceAdd, Act.put, Xa, Xz, Xs]
  refine ws_late (.bool (decide (max x (-x) ≤ max y (-y)))) rfl rfl (fun w => run_cmp rfl rfl rfl Try.underlying2 rfl w) ?_
  simp only [Nat.reduceAdd, Act.put, Xa, Xz, Xs]
  refine ws_late (.bool (decide (max x (-x) ≤ max y (-y)))) rfl rfl (fun _ => rfl) ?_
  simp only [Nat.reduceAdd, Act.put, Xa, Xz, Xs]
  cases h3 : (decide (max x (-x) ≤ max y (-y)))
  ·
   skip
   have p3 : ¬ (max x (-x) ≤ max y (-y)) := of_decide_eq_false h3
   refine ws_skip rfl rfl ?_
   simp only [Nat.reduceAdd, Act.put, Xa, Xz, Xs]
   refine ws_skip_late rfl rfl ?_
   simp only [Nat.reduceAdd, Act.put, Xa, Xz, Xs]
   refine ws_skip rfl rfl ?_
   simp only [Nat.reduceAdd, Act.put, Xa, Xz, Xs]
   refine ws_skip rfl rfl ?_
   simp only [Nat.reduceAdd, Act.put, Xa, Xz, Xs]
   refine ws_skip_late rfl rfl ?_
   simp only [Nat.reduceAdd, Act.put, Xa, Xz, Xs]
   refine ws_skip rfl rfl ?_
   simp only [Nat.reduceAdd, Act.put, Xa, Xz, Xs]
   refine ws_skip_late rfl rfl ?_
   simp only [Nat.reduceAdd, Act.put, Xa, Xz, Xs]
   refine ws_late (.bool false) rfl rfl (fun _ => rfl) ?_
   simp only [Nat.reduceAdd, Act.put, Xa, Xz, Xs]
   refine ws_nil [] trivial (by simp) ?_
   intro ps4
   simp only [fin, List.foldl_nil, List.map, List.nil_append]
   refine we_then ?_
   refine wc_false rfl ?_
   refine wc_skip ?_
   refine we_then ?_
   refine wc_seq ?_
   refine wc_region ?_
   refine wl_load 23 (.tmp 4) (own_row 0 rfl) rfl rfl rfl Try.underlying23 rfl (by kernel_rfl) ?_
   simp only [Act.put, Xa, Xz, Xs]
   refine wl_new 23 (#[.int .i64 0, .int .i64 0, .int .i64 0, .int .i64 0, .int .i64 0, .int .i64 0, .int .i64 0, .int .i64 0, .int .i64 0, .int .i64 0, .int .i64 0, .int .i64 0, .int .i64 0, .int .i64 0]) rfl (fun _ => by go_simp) ?_
   intro g5
   simp only [Act.put, Xa, Xz, Xs]
   refine wl_store 0 23 (.tmp 11) (.tmp 43) (#[.int .i64 k.pu, .int .i64 k.lo, .int .i64 k.hi, .int .i64 k.rb, .int .i64 k.rp, .int .i64 k.ae, .int .i64 k.ms, .int .i64 k.ma, .int .i64 k.an, .int .i64 k.st, .int .i64 k.ss, .int .i64 k.ro, .int .i64 k.ti, .int .i64 k.br]) rfl rfl rfl rfl rfl (by kernel_rfl) rfl (by simp [Value.oneCell']) ?_
   simp only [Act.put, List.set_cons_zero]
   refine wl_nil ?_
   refine we_then ?_
   refine wc_seq ?_
   refine wc_region ?_
   refine wl_val (.int .i64 b) rfl (fun _ => rfl) ?_
   simp only [Act.put, Xa, Xz, Xs]
   refine wl_val (.pointer (some ⟨g5, 3, none⟩)) rfl (fun _ => by go_simp) ?_
   simp only [Act.put, Xa, Xz, Xs]
   refine wl_store_cell 0 2 (.tmp 45) (.tmp 44) (.int .i64 k.rb) (.int .i64 b) rfl rfl rfl rfl rfl rfl (by kernel_rfl) rfl ?_
   simp only [Act.put, List.set_cons_zero]
   refine wl_nil ?_
   refine we_then ?_
   refine wc_seq ?_
   refine wc_seq ?_
   refine wc_region ?_
   refine wl_val (.int .i64 b) rfl (fun _ => rfl) ?_
   simp only [Act.put, Xa, Xz, Xs]
   refine wl_val (.pointer (some ⟨g1, 3, none⟩)) rfl (fun _ => by go_simp) ?_
   simp only [Act.put, Xa, Xz, Xs]
   refine wl_cell 2 (.tmp 47) (.int .i64 k.rb) (own_row 1 rfl) rfl rfl rfl rfl Try.isAgg2 ?_
   simp only [Act.put, Xa, Xz, Xs]
   refine wl_val (.bool (decide (b < k.rb))) rfl (fun w => run_cmp rfl rfl rfl Try.underlying2 rfl w) ?_
   simp only [Act.put, Xa, Xz, Xs]
   refine wl_val (.bool (decide (b < k.rb))) rfl (fun _ => rfl) ?_
   simp only [Act.put, Xa, Xz, Xs]
   cases h6 : (decide (b < k.rb))
   ·
    skip
    have p6 : ¬ (b < k.rb) := of_decide_eq_false h6
    refine wl_load 23 (.tmp 11) (own_row 0 rfl) rfl rfl rfl Try.underlying23 rfl (by kernel_rfl) ?_
    simp only [Act.put, Xa, Xz, Xs]
    refine wl_call 9 #[.agg #[.int .i64 k.pu, .int .i64 k.lo, .int .i64 k.hi, .int .i64 b, .int .i64 k.rp, .int .i64 k.ae, .int .i64 k.ms, .int .i64 k.ma, .int .i64 k.an, .int .i64 k.st, .int .i64 k.ss, .int .i64 k.ro, .int .i64 k.ti, .int .i64 k.br]] (.int .i64 ((wrong (⟨k.pu, k.lo, k.hi, b, k.rp, k.ae, k.ms, k.ma, k.an, k.st, k.ss, k.ro, k.ti, k.br⟩ : Cf) : Nat) : Int)) rfl (fun _ => by go_simp) (fun W => wrong_any (⟨k.pu, k.lo, k.hi, b, k.rp, k.ae, k.ms, k.ma, k.an, k.st, k.ss, k.ro, k.ti, k.br⟩ : Cf) W) ?_
    simp only [Act.put, Xa, Xz, Xs]
    refine wl_val (.bool (((wrong (⟨k.pu, k.lo, k.hi, b, k.rp, k.ae, k.ms, k.ma, k.an, k.st, k.ss, k.ro, k.ti, k.br⟩ : Cf) : Nat) : Int) != 0)) rfl (fun w => run_cmp rfl rfl rfl Try.underlying3 rfl w) ?_
    simp only [Act.put, Xa, Xz, Xs]
    refine wl_val (.bool (((wrong (⟨k.pu, k.lo, k.hi, b, k.rp, k.ae, k.ms, k.ma, k.an, k.st, k.ss, k.ro, k.ti, k.br⟩ : Cf) : Nat) : Int) != 0)) rfl (fun _ => rfl) ?_
    simp only [Act.put, Xa, Xz, Xs]
    refine wl_nil ?_
    refine we_then ?_
    cases h7 : (((wrong (⟨k.pu, k.lo, k.hi, b, k.rp, k.ae, k.ms, k.ma, k.an, k.st, k.ss, k.ro, k.ti, k.br⟩ : Cf) : Nat) : Int) != 0)
    ·
     skip
     have p7 : ¬ (((wrong (⟨k.pu, k.lo, k.hi, b, k.rp, k.ae, k.ms, k.ma, k.an, k.st, k.ss, k.ro, k.ti, k.br⟩ : Cf) : Nat) : Int) ≠ 0) := by simpa using h7
     refine wc_false rfl ?_
     refine wc_skip ?_
     refine we_then ?_
     refine wc_seq ?_
     refine wc_region ?_
     refine wl_load 23 (.tmp 4) (own_row 1 rfl) rfl rfl rfl Try.underlying23 rfl (by kernel_rfl) ?_
     simp only [Act.put, Xa, Xz, Xs]
     refine wl_call 14 #[.agg #[.int .i64 k.pu, .int .i64 k.lo, .int .i64 k.hi, .int .i64 k.rb, .int .i64 k.rp, .int .i64 k.ae, .int .i64 k.ms, .int .i64 k.ma, .int .i64 k.an, .int .i64 k.st, .int .i64 k.ss, .int .i64 k.ro, .int .i64 k.ti, .int .i64 k.br]] (.tuple #[.int .i64 (gA k), .int .i64 (gB k)]) rfl (fun _ => by go_simp) (fun W => Cnf.growth_any k W (ok_of (c := k) (by omega))) ?_
     simp only [Act.put, Xa, Xz, Xs]
     refine wl_val (.tuple #[.int .i64 (gA k), .int .i64 (gB k)]) rfl (fun _ => rfl) ?_
     simp only [Act.put, Xa, Xz, Xs]
     refine wl_val (.int .i64 (gA k)) rfl (fun _ => by go_simp) ?_
     simp only [Act.put, Xa, Xz, Xs]
     refine wl_val (.int .i64 (gB k)) rfl (fun _ => by go_simp) ?_
     simp only [Act.put, Xa, Xz, Xs]
     refine wl_val (.int .i64 (gA k)) rfl (fun _ => rfl) ?_
     simp only [Act.put, Xa, Xz, Xs]
     refine wl_val (.int .i64 (gB k)) rfl (fun _ => rfl) ?_
     simp only [Act.put, Xa, Xz, Xs]
     refine wl_nil ?_
     refine we_then ?_
     refine wc_seq ?_
     refine wc_region ?_
     refine wl_load 23 (.tmp 11) (own_row 0 rfl) rfl rfl rfl Try.underlying23 rfl (by kernel_rfl) ?_
     simp only [Act.put, Xa, Xz, Xs]
     refine wl_call 14 #[.agg #[.int .i64 k.pu, .int .i64 k.lo, .int .i64 k.hi, .int .i64 b, .int .i64 k.rp, .int .i64 k.ae, .int .i64 k.ms, .int .i64 k.ma, .int .i64 k.an, .int .i64 k.st, .int .i64 k.ss, .int .i64 k.ro, .int .i64 k.ti, .int .i64 k.br]] (.tuple #[.int .i64 (gA (⟨k.pu, k.lo, k.hi, b, k.rp, k.ae, k.ms, k.ma, k.an, k.st, k.ss, k.ro, k.ti, k.br⟩ : Cf)), .int .i64 (gB (⟨k.pu, k.lo, k.hi, b, k.rp, k.ae, k.ms, k.ma, k.an, k.st, k.ss, k.ro, k.ti, k.br⟩ : Cf))]) rfl (fun _ => by go_simp) (fun W => Cnf.growth_any (⟨k.pu, k.lo, k.hi, b, k.rp, k.ae, k.ms, k.ma, k.an, k.st, k.ss, k.ro, k.ti, k.br⟩ : Cf) W (ok_of (c := (⟨k.pu, k.lo, k.hi, b, k.rp, k.ae, k.ms, k.ma, k.an, k.st, k.ss, k.ro, k.ti, k.br⟩ : Cf)) (by omega))) ?_
     simp only [Act.put, Xa, Xz, Xs]
     refine wl_val (.tuple #[.int .i64 (gA (⟨k.pu, k.lo, k.hi, b, k.rp, k.ae, k.ms, k.ma, k.an, k.st, k.ss, k.ro, k.ti, k.br⟩ : Cf)), .int .i64 (gB (⟨k.pu, k.lo, k.hi, b, k.rp, k.ae, k.ms, k.ma, k.an, k.st, k.ss, k.ro, k.ti, k.br⟩ : Cf))]) rfl (fun _ => rfl) ?_
     simp only [Act.put, Xa, Xz, Xs]
     refine wl_val (.int .i64 (gA (⟨k.pu, k.lo, k.hi, b, k.rp, k.ae, k.ms, k.ma, k.an, k.st, k.ss, k.ro, k.ti, k.br⟩ : Cf))) rfl (fun _ => by go_simp) ?_
     simp only [Act.put, Xa, Xz, Xs]
     refine wl_val (.int .i64 (gB (⟨k.pu, k.lo, k.hi, b, k.rp, k.ae, k.ms, k.ma, k.an, k.st, k.ss, k.ro, k.ti, k.br⟩ : Cf))) rfl (fun _ => by go_simp) ?_
     simp only [Act.put, Xa, Xz, Xs]
     refine wl_val (.int .i64 (gA (⟨k.pu, k.lo, k.hi, b, k.rp, k.ae, k.ms, k.ma, k.an, k.st, k.ss, k.ro, k.ti, k.br⟩ : Cf))) rfl (fun _ => rfl) ?_
     simp only [Act.put, Xa, Xz, Xs]
     refine wl_val (.int .i64 (gB (⟨k.pu, k.lo, k.hi, b, k.rp, k.ae, k.ms, k.ma, k.an, k.st, k.ss, k.ro, k.ti, k.br⟩ : Cf))) rfl (fun _ => rfl) ?_
     simp only [Act.put, Xa, Xz, Xs]
     refine wl_nil ?_
     refine we_then ?_
     refine wc_seq ?_
     refine wc_draw [.late, .late, .late, .late, .late, .late, .late, .late, .late, .plain, .late, .plain, .plain, .late, .plain, .late, .late, .late] none [] 82 (by kernel_rfl) rfl (by kernel_rfl) (by kernel_rfl) ?_
     refine ws_late (.int .i64 (gA k)) rfl rfl (fun _ => rfl) ?_
     simp only [Nat.reduceAdd, Act.put, Xa, Xz, Xs]
     refine ws_late (.int .i64 (gA (⟨k.pu, k.lo, k.hi, b, k.rp, k.ae, k.ms, k.ma, k.an, k.st, k.ss, k.ro, k.ti, k.br⟩ : Cf))) rfl rfl (fun _ => rfl) ?_
     simp only [Nat.reduceAdd, Act.put, Xa, Xz, Xs]
     refine ws_late (.bool ((gA k) == (gA (⟨k.pu, k.lo, k.hi, b, k.rp, k.ae, k.ms, k.ma, k.an, k.st, k.ss, k.ro, k.ti, k.br⟩ : Cf)))) rfl rfl (fun w => run_cmp rfl rfl rfl Try.underlying2 rfl w) ?_
     simp only [Nat.reduceAdd, Act.put, Xa, Xz, Xs]
     refine ws_late (.bool ((gA k) == (gA (⟨k.pu, k.lo, k.hi, b, k.rp, k.ae, k.ms, k.ma, k.an, k.st, k.ss, k.ro, k.ti, k.br⟩ : Cf)))) rfl rfl (fun _ => rfl) ?_
     simp only [Nat.reduceAdd, Act.put, Xa, Xz, Xs]
     cases h8 : ((gA k) == (gA (⟨k.pu, k.lo, k.hi, b, k.rp, k.ae, k.ms, k.ma, k.an, k.st, k.ss, k.ro, k.ti, k.br⟩ : Cf)))
     ·
      skip
      have p8 : ¬ ((gA k) = (gA (⟨k.pu, k.lo, k.hi, b, k.rp, k.ae, k.ms, k.ma, k.an, k.st, k.ss, k.ro, k.ti, k.br⟩ : Cf))) := by simpa using h8
      refine ws_skip_late rfl rfl ?_
      simp only [Nat.reduceAdd, Act.put, Xa, Xz, Xs]
      refine ws_skip_late rfl rfl ?_
      simp only [Nat.reduceAdd, Act.put, Xa, Xz, Xs]
      refine ws_skip_late rfl rfl ?_
      simp only [Nat.reduceAdd, Act.put, Xa, Xz, Xs]
      refine ws_late (.bool false) rfl rfl (fun _ => rfl) ?_
      simp only [Nat.reduceAdd, Act.put, Xa, Xz, Xs]
      refine ws_late (.bool false) rfl rfl (fun _ => rfl) ?_
      simp only [Nat.reduceAdd, Act.put, Xa, Xz, Xs]
      refine ws_skip rfl rfl ?_
      simp only [Nat.reduceAdd, Act.put, Xa, Xz, Xs]
      refine ws_skip_late rfl rfl ?_
      simp only [Nat.reduceAdd, Act.put, Xa, Xz, Xs]
      refine ws_skip rfl rfl ?_
      simp only [Nat.reduceAdd, Act.put, Xa, Xz, Xs]
      refine ws_skip rfl rfl ?_
      simp only [Nat.reduceAdd, Act.put, Xa, Xz, Xs]
      refine ws_skip_late rfl rfl ?_
      simp only [Nat.reduceAdd, Act.put, Xa, Xz, Xs]
      refine ws_skip rfl rfl ?_
      simp only [Nat.reduceAdd, Act.put, Xa, Xz, Xs]
      refine ws_skip_late rfl rfl ?_
      simp only [Nat.reduceAdd, Act.put, Xa, Xz, Xs]
      refine ws_late (.bool false) rfl rfl (fun _ => rfl) ?_
      simp only [Nat.reduceAdd, Act.put, Xa, Xz, Xs]
      refine ws_late (.bool false) rfl rfl (fun _ => rfl) ?_
      simp only [Nat.reduceAdd, Act.put, Xa, Xz, Xs]
      refine ws_nil [] trivial (by simp) ?_
      intro ps9
      simp only [fin, List.foldl_nil, List.map, List.nil_append]
      refine we_then ?_
      refine wc_ret ?_
      refine we_ret1 (.bool false) rfl rfl rfl (fun w1 hE => ?_)
      have z1 : max x (-x) ≤ max y (-y) → err k x ≤ err k y := fun h => err_mono hk h
      have z2 : gA k = gA (⟨k.pu, k.lo, k.hi, b, k.rp, k.ae, k.ms, k.ma, k.an, k.st, k.ss, k.ro, k.ti, k.br⟩ : Cf) := rfl
      have z3 : k.rb ≤ b → gB k ≤ gB (⟨k.pu, k.lo, k.hi, b, k.rp, k.ae, k.ms, k.ma, k.an, k.st, k.ss, k.ro, k.ti, k.br⟩ : Cf) := fun h => by unfold gB; dsimp only; omega
      have z4 : k.rb ≤ b → err k x ≤ err (⟨k.pu, k.lo, k.hi, b, k.rp, k.ae, k.ms, k.ma, k.an, k.st, k.ss, k.ro, k.ti, k.br⟩ : Cf) x := fun h => by unfold err; dsimp only; omega
      exact (by exfalso; omega)
     ·
      skip
      have p8 : (gA k) = (gA (⟨k.pu, k.lo, k.hi, b, k.rp, k.ae, k.ms, k.ma, k.an, k.st, k.ss, k.ro, k.ti, k.br⟩ : Cf)) := by simpa using h8
      refine ws_late (.int .i64 (gB k)) rfl rfl (fun _ => rfl) ?_
      simp only [Nat.reduceAdd, Act.put, Xa, Xz, Xs]
      refine ws_late (.int .i64 (gB (⟨k.pu, k.lo, k.hi, b, k.rp, k.ae, k.ms, k.ma, k.an, k.st, k.ss, k.ro, k.ti, k.br⟩ : Cf))) rfl rfl (fun _ => rfl) ?_
      simp only [Nat.reduceAdd, Act.put, Xa, Xz, Xs]
      refine ws_late (.bool (decide ((gB k) ≤ (gB (⟨k.pu, k.lo, k.hi, b, k.rp, k.ae, k.ms, k.ma, k.an, k.st, k.ss, k.ro, k.ti, k.br⟩ : Cf))))) rfl rfl (fun w => run_cmp rfl rfl rfl Try.underlying2 rfl w) ?_
      simp only [Nat.reduceAdd, Act.put, Xa, Xz, Xs]
      refine ws_late (.bool (decide ((gB k) ≤ (gB (⟨k.pu, k.lo, k.hi, b, k.rp, k.ae, k.ms, k.ma, k.an, k.st, k.ss, k.ro, k.ti, k.br⟩ : Cf))))) rfl rfl (fun _ => rfl) ?_
      simp only [Nat.reduceAdd, Act.put, Xa, Xz, Xs]
      refine ws_late (.bool (decide ((gB k) ≤ (gB (⟨k.pu, k.lo, k.hi, b, k.rp, k.ae, k.ms, k.ma, k.an, k.st, k.ss, k.ro, k.ti, k.br⟩ : Cf))))) rfl rfl (fun _ => rfl) ?_
      simp only [Nat.reduceAdd, Act.put, Xa, Xz, Xs]
      cases h10 : (decide ((gB k) ≤ (gB (⟨k.pu, k.lo, k.hi, b, k.rp, k.ae, k.ms, k.ma, k.an, k.st, k.ss, k.ro, k.ti, k.br⟩ : Cf))))
      ·
       skip
       have p10 : ¬ ((gB k) ≤ (gB (⟨k.pu, k.lo, k.hi, b, k.rp, k.ae, k.ms, k.ma, k.an, k.st, k.ss, k.ro, k.ti, k.br⟩ : Cf))) := of_decide_eq_false h10
       refine ws_skip rfl rfl ?_
       simp only [Nat.reduceAdd, Act.put, Xa, Xz, Xs]
       refine ws_skip_late rfl rfl ?_
       simp only [Nat.reduceAdd, Act.put, Xa, Xz, Xs]
       refine ws_skip rfl rfl ?_
       simp only [Nat.reduceAdd, Act.put, Xa, Xz, Xs]
       refine ws_skip rfl rfl ?_
       simp only [Nat.reduceAdd, Act.put, Xa, Xz, Xs]
       refine ws_skip_late rfl rfl ?_
       simp only [Nat.reduceAdd, Act.put, Xa, Xz, Xs]
       refine ws_skip rfl rfl ?_
       simp only [Nat.reduceAdd, Act.put, Xa, Xz, Xs]
       refine ws_skip_late rfl rfl ?_
       simp only [Nat.reduceAdd, Act.put, Xa, Xz, Xs]
       refine ws_late (.bool false) rfl rfl (fun _ => rfl) ?_
       simp only [Nat.reduceAdd, Act.put, Xa, Xz, Xs]
       refine ws_late (.bool false) rfl rfl (fun _ => rfl) ?_
       simp only [Nat.reduceAdd, Act.put, Xa, Xz, Xs]
       refine ws_nil [] trivial (by simp) ?_
       intro ps11
       simp only [fin, List.foldl_nil, List.map, List.nil_append]
       refine we_then ?_
       refine wc_ret ?_
       refine we_ret1 (.bool false) rfl rfl rfl (fun w1 hE => ?_)
       have z1 : max x (-x) ≤ max y (-y) → err k x ≤ err k y := fun h => err_mono hk h
       have z2 : gA k = gA (⟨k.pu, k.lo, k.hi, b, k.rp, k.ae, k.ms, k.ma, k.an, k.st, k.ss, k.ro, k.ti, k.br⟩ : Cf) := rfl
       have z3 : k.rb ≤ b → gB k ≤ gB (⟨k.pu, k.lo, k.hi, b, k.rp, k.ae, k.ms, k.ma, k.an, k.st, k.ss, k.ro, k.ti, k.br⟩ : Cf) := fun h => by unfold gB; dsimp only; omega
       have z4 : k.rb ≤ b → err k x ≤ err (⟨k.pu, k.lo, k.hi, b, k.rp, k.ae, k.ms, k.ma, k.an, k.st, k.ss, k.ro, k.ti, k.br⟩ : Cf) x := fun h => by unfold err; dsimp only; omega
       exact (by exfalso; omega)
      ·
       skip
       have p10 : (gB k) ≤ (gB (⟨k.pu, k.lo, k.hi, b, k.rp, k.ae, k.ms, k.ma, k.an, k.st, k.ss, k.ro, k.ti, k.br⟩ : Cf)) := of_decide_eq_true h10
       refine ws_load 23 (.tmp 4) (own_row 1 rfl) rfl rfl rfl rfl Try.underlying23 rfl (by kernel_rfl) ?_
       simp only [Nat.reduceAdd, Act.put, Xa, Xz, Xs]
       refine ws_late (.int .i64 x) rfl rfl (fun _ => rfl) ?_
       simp only [Nat.reduceAdd, Act.put, Xa, Xz, Xs]
       refine ws_call 16 #[.agg #[.int .i64 k.pu, .int .i64 k.lo, .int .i64 k.hi, .int .i64 k.rb, .int .i64 k.rp, .int .i64 k.ae, .int .i64 k.ms, .int .i64 k.ma, .int .i64 k.an, .int .i64 k.st, .int .i64 k.ss, .int .i64 k.ro, .int .i64 k.ti, .int .i64 k.br], .int .i64 x] (.int .i64 (err k x)) rfl rfl (fun _ => by go_simp) (fun W => Cnf.error_any k x W (ok_of (c := k) (by omega)) (by omega) (by omega)) ?_
       simp only [Nat.reduceAdd, Act.put, Xa, Xz, Xs]
       refine ws_load 23 (.tmp 11) (own_row 0 rfl) rfl rfl rfl rfl Try.underlying23 rfl (by kernel_rfl) ?_
       simp only [Nat.reduceAdd, Act.put, Xa, Xz, Xs]
       refine ws_late (.int .i64 x) rfl rfl (fun _ => rfl) ?_
       simp only [Nat.reduceAdd, Act.put, Xa, Xz, Xs]
       refine ws_call 16 #[.agg #[.int .i64 k.pu, .int .i64 k.lo, .int .i64 k.hi, .int .i64 b, .int .i64 k.rp, .int .i64 k.ae, .int .i64 k.ms, .int .i64 k.ma, .int .i64 k.an, .int .i64 k.st, .int .i64 k.ss, .int .i64 k.ro, .int .i64 k.ti, .int .i64 k.br], .int .i64 x] (.int .i64 (err (⟨k.pu, k.lo, k.hi, b, k.rp, k.ae, k.ms, k.ma, k.an, k.st, k.ss, k.ro, k.ti, k.br⟩ : Cf) x)) rfl rfl (fun _ => by go_simp) (fun W => Cnf.error_any (⟨k.pu, k.lo, k.hi, b, k.rp, k.ae, k.ms, k.ma, k.an, k.st, k.ss, k.ro, k.ti, k.br⟩ : Cf) x W (ok_of (c := (⟨k.pu, k.lo, k.hi, b, k.rp, k.ae, k.ms, k.ma, k.an, k.st, k.ss, k.ro, k.ti, k.br⟩ : Cf)) (by omega)) (by omega) (by omega)) ?_
       simp only [Nat.reduceAdd, Act.put, Xa, Xz, Xs]
       refine ws_late (.bool (decide ((err k x) ≤ (err (⟨k.pu, k.lo, k.hi, b, k.rp, k.ae, k.ms, k.ma, k.an, k.st, k.ss, k.ro, k.ti, k.br⟩ : Cf) x)))) rfl rfl (fun w => run_cmp rfl rfl rfl Try.underlying2 rfl w) ?_
       simp only [Nat.reduceAdd, Act.put, Xa, Xz, Xs]
       refine ws_late (.bool (decide ((err k x) ≤ (err (⟨k.pu, k.lo, k.hi, b, k.rp, k.ae, k.ms, k.ma, k.an, k.st, k.ss, k.ro, k.ti, k.br⟩ : Cf) x)))) rfl rfl (fun _ => rfl) ?_
       simp only [Nat.reduceAdd, Act.put, Xa, Xz, Xs]
       refine ws_late (.bool (decide ((err k x) ≤ (err (⟨k.pu, k.lo, k.hi, b, k.rp, k.ae, k.ms, k.ma, k.an, k.st, k.ss, k.ro, k.ti, k.br⟩ : Cf) x)))) rfl rfl (fun _ => rfl) ?_
       simp only [Nat.reduceAdd, Act.put, Xa, Xz, Xs]
       refine ws_nil [] trivial (by simp) ?_
       intro ps12
       simp only [fin, List.foldl_nil, List.map, List.nil_append]
       refine we_then ?_
       refine wc_ret ?_
       refine we_ret1 (.bool (decide ((err k x) ≤ (err (⟨k.pu, k.lo, k.hi, b, k.rp, k.ae, k.ms, k.ma, k.an, k.st, k.ss, k.ro, k.ti, k.br⟩ : Cf) x)))) rfl rfl rfl (fun w1 hE => ?_)
       have z1 : max x (-x) ≤ max y (-y) → err k x ≤ err k y := fun h => err_mono hk h
       have z2 : gA k = gA (⟨k.pu, k.lo, k.hi, b, k.rp, k.ae, k.ms, k.ma, k.an, k.st, k.ss, k.ro, k.ti, k.br⟩ : Cf) := rfl
       have z3 : k.rb ≤ b → gB k ≤ gB (⟨k.pu, k.lo, k.hi, b, k.rp, k.ae, k.ms, k.ma, k.an, k.st, k.ss, k.ro, k.ti, k.br⟩ : Cf) := fun h => by unfold gB; dsimp only; omega
       have z4 : k.rb ≤ b → err k x ≤ err (⟨k.pu, k.lo, k.hi, b, k.rp, k.ae, k.ms, k.ma, k.an, k.st, k.ss, k.ro, k.ti, k.br⟩ : Cf) x := fun h => by unfold err; dsimp only; omega
       exact ⟨by rw [show (decide ((err k x) ≤ (err (⟨k.pu, k.lo, k.hi, b, k.rp, k.ae, k.ms, k.ma, k.an, k.st, k.ss, k.ro, k.ti, k.br⟩ : Cf) x))) = true from by simp; omega], hE.below⟩
    ·
     skip
     have p7 : ((wrong (⟨k.pu, k.lo, k.hi, b, k.rp, k.ae, k.ms, k.ma, k.an, k.st, k.ss, k.ro, k.ti, k.br⟩ : Cf) : Nat) : Int) ≠ 0 := by simpa using h7
     refine wc_true rfl ?_
     refine wc_seq ?_
     refine wc_region ?_
     refine wl_val (.bool true) rfl (fun _ => rfl) ?_
     simp only [Act.put, Xa, Xz, Xs]
     refine wl_nil ?_
     refine we_then ?_
     refine wc_ret ?_
     refine we_then_ret ?_
     refine we_ret1 (.bool true) rfl rfl rfl (fun w1 hE => ?_)
     exact ⟨rfl, hE.below⟩
   ·
    skip
    have p6 : b < k.rb := of_decide_eq_true h6
    refine wl_skip rfl ?_
    simp only [Act.put, Xa, Xz, Xs]
    refine wl_skip rfl ?_
    simp only [Act.put, Xa, Xz, Xs]
    refine wl_skip rfl ?_
    simp only [Act.put, Xa, Xz, Xs]
    refine wl_val (.bool true) rfl (fun _ => rfl) ?_
    simp only [Act.put, Xa, Xz, Xs]
    refine wl_nil ?_
    refine we_then ?_
    refine wc_true rfl ?_
    refine wc_seq ?_
    refine wc_region ?_
    refine wl_val (.bool true) rfl (fun _ => rfl) ?_
    simp only [Act.put, Xa, Xz, Xs]
    refine wl_nil ?_
    refine we_then ?_
    refine wc_ret ?_
    refine we_then_ret ?_
    refine we_ret1 (.bool true) rfl rfl rfl (fun w1 hE => ?_)
    exact ⟨rfl, hE.below⟩
  ·
   skip
   have p3 : max x (-x) ≤ max y (-y) := of_decide_eq_true h3
   refine ws_load 23 (.tmp 4) (own_row 0 rfl) rfl rfl rfl rfl Try.underlying23 rfl (by kernel_rfl) ?_
   simp only [Nat.reduceAdd, Act.put, Xa, Xz, Xs]
   refine ws_late (.int .i64 x) rfl rfl (fun _ => rfl) ?_
   simp only [Nat.reduceAdd, Act.put, Xa, Xz, Xs]
   refine ws_call 16 #[.agg #[.int .i64 k.pu, .int .i64 k.lo, .int .i64 k.hi, .int .i64 k.rb, .int .i64 k.rp, .int .i64 k.ae, .int .i64 k.ms, .int .i64 k.ma, .int .i64 k.an, .int .i64 k.st, .int .i64 k.ss, .int .i64 k.ro, .int .i64 k.ti, .int .i64 k.br], .int .i64 x] (.int .i64 (err k x)) rfl rfl (fun _ => by go_simp) (fun W => Cnf.error_any k x W (ok_of (c := k) (by omega)) (by omega) (by omega)) ?_
   simp only [Nat.reduceAdd, Act.put, Xa, Xz, Xs]
   refine ws_load 23 (.tmp 4) (own_row 0 rfl) rfl rfl rfl rfl Try.underlying23 rfl (by kernel_rfl) ?_
   simp only [Nat.reduceAdd, Act.put, Xa, Xz, Xs]
   refine ws_late (.int .i64 y) rfl rfl (fun _ => rfl) ?_
   simp only [Nat.reduceAdd, Act.put, Xa, Xz, Xs]
   refine ws_call 16 #[.agg #[.int .i64 k.pu, .int .i64 k.lo, .int .i64 k.hi, .int .i64 k.rb, .int .i64 k.rp, .int .i64 k.ae, .int .i64 k.ms, .int .i64 k.ma, .int .i64 k.an, .int .i64 k.st, .int .i64 k.ss, .int .i64 k.ro, .int .i64 k.ti, .int .i64 k.br], .int .i64 y] (.int .i64 (err k y)) rfl rfl (fun _ => by go_simp) (fun W => Cnf.error_any k y W (ok_of (c := k) (by omega)) (by omega) (by omega)) ?_
   simp only [Nat.reduceAdd, Act.put, Xa, Xz, Xs]
   refine ws_late (.bool (decide ((err k y) < (err k x)))) rfl rfl (fun w => run_cmp rfl rfl rfl Try.underlying2 rfl w) ?_
   simp only [Nat.reduceAdd, Act.put, Xa, Xz, Xs]
   refine ws_late (.bool (decide ((err k y) < (err k x)))) rfl rfl (fun _ => rfl) ?_
   simp only [Nat.reduceAdd, Act.put, Xa, Xz, Xs]
   refine ws_nil [] trivial (by simp) ?_
   intro ps13
   simp only [fin, List.foldl_nil, List.map, List.nil_append]
   refine we_then ?_
   cases h14 : (decide ((err k y) < (err k x)))
   ·
    skip
    have p14 : ¬ ((err k y) < (err k x)) := of_decide_eq_false h14
    refine wc_false rfl ?_
    refine wc_skip ?_
    refine we_then ?_
    refine wc_seq ?_
    refine wc_region ?_
    refine wl_load 23 (.tmp 4) (own_row 0 rfl) rfl rfl rfl Try.underlying23 rfl (by kernel_rfl) ?_
    simp only [Act.put, Xa, Xz, Xs]
    refine wl_new 23 (#[.int .i64 0, .int .i64 0, .int .i64 0, .int .i64 0, .int .i64 0, .int .i64 0, .int .i64 0, .int .i64 0, .int .i64 0, .int .i64 0, .int .i64 0, .int .i64 0, .int .i64 0, .int .i64 0]) rfl (fun _ => by go_simp) ?_
    intro g15
    simp only [Act.put, Xa, Xz, Xs]
    refine wl_store 0 23 (.tmp 11) (.tmp 43) (#[.int .i64 k.pu, .int .i64 k.lo, .int .i64 k.hi, .int .i64 k.rb, .int .i64 k.rp, .int .i64 k.ae, .int .i64 k.ms, .int .i64 k.ma, .int .i64 k.an, .int .i64 k.st, .int .i64 k.ss, .int .i64 k.ro, .int .i64 k.ti, .int .i64 k.br]) rfl rfl rfl rfl rfl (by kernel_rfl) rfl (by simp [Value.oneCell']) ?_
    simp only [Act.put, List.set_cons_zero]
    refine wl_nil ?_
    refine we_then ?_
    refine wc_seq ?_
    refine wc_region ?_
    refine wl_val (.int .i64 b) rfl (fun _ => rfl) ?_
    simp only [Act.put, Xa, Xz, Xs]
    refine wl_val (.pointer (some ⟨g15, 3, none⟩)) rfl (fun _ => by go_simp) ?_
    simp only [Act.put, Xa, Xz, Xs]
    refine wl_store_cell 0 2 (.tmp 45) (.tmp 44) (.int .i64 k.rb) (.int .i64 b) rfl rfl rfl rfl rfl rfl (by kernel_rfl) rfl ?_
    simp only [Act.put, List.set_cons_zero]
    refine wl_nil ?_
    refine we_then ?_
    refine wc_seq ?_
    refine wc_seq ?_
    refine wc_region ?_
    refine wl_val (.int .i64 b) rfl (fun _ => rfl) ?_
    simp only [Act.put, Xa, Xz, Xs]
    refine wl_val (.pointer (some ⟨g1, 3, none⟩)) rfl (fun _ => by go_simp) ?_
    simp only [Act.put, Xa, Xz, Xs]
    refine wl_cell 2 (.tmp 47) (.int .i64 k.rb) (own_row 1 rfl) rfl rfl rfl rfl Try.isAgg2 ?_
    simp only [Act.put, Xa, Xz, Xs]
    refine wl_val (.bool (decide (b < k.rb))) rfl (fun w => run_cmp rfl rfl rfl Try.underlying2 rfl w) ?_
    simp only [Act.put, Xa, Xz, Xs]
    refine wl_val (.bool (decide (b < k.rb))) rfl (fun _ => rfl) ?_
    simp only [Act.put, Xa, Xz, Xs]
    cases h16 : (decide (b < k.rb))
    ·
     skip
     have p16 : ¬ (b < k.rb) := of_decide_eq_false h16
     refine wl_load 23 (.tmp 11) (own_row 0 rfl) rfl rfl rfl Try.underlying23 rfl (by kernel_rfl) ?_
     simp only [Act.put, Xa, Xz, Xs]
     refine wl_call 9 #[.agg #[.int .i64 k.pu, .int .i64 k.lo, .int .i64 k.hi, .int .i64 b, .int .i64 k.rp, .int .i64 k.ae, .int .i64 k.ms, .int .i64 k.ma, .int .i64 k.an, .int .i64 k.st, .int .i64 k.ss, .int .i64 k.ro, .int .i64 k.ti, .int .i64 k.br]] (.int .i64 ((wrong (⟨k.pu, k.lo, k.hi, b, k.rp, k.ae, k.ms, k.ma, k.an, k.st, k.ss, k.ro, k.ti, k.br⟩ : Cf) : Nat) : Int)) rfl (fun _ => by go_simp) (fun W => wrong_any (⟨k.pu, k.lo, k.hi, b, k.rp, k.ae, k.ms, k.ma, k.an, k.st, k.ss, k.ro, k.ti, k.br⟩ : Cf) W) ?_
     simp only [Act.put, Xa, Xz, Xs]
     refine wl_val (.bool (((wrong (⟨k.pu, k.lo, k.hi, b, k.rp, k.ae, k.ms, k.ma, k.an, k.st, k.ss, k.ro, k.ti, k.br⟩ : Cf) : Nat) : Int) != 0)) rfl (fun w => run_cmp rfl rfl rfl Try.underlying3 rfl w) ?_
     simp only [Act.put, Xa, Xz, Xs]
     refine wl_val (.bool (((wrong (⟨k.pu, k.lo, k.hi, b, k.rp, k.ae, k.ms, k.ma, k.an, k.st, k.ss, k.ro, k.ti, k.br⟩ : Cf) : Nat) : Int) != 0)) rfl (fun _ => rfl) ?_
     simp only [Act.put, Xa, Xz, Xs]
     refine wl_nil ?_
     refine we_then ?_
     cases h17 : (((wrong (⟨k.pu, k.lo, k.hi, b, k.rp, k.ae, k.ms, k.ma, k.an, k.st, k.ss, k.ro, k.ti, k.br⟩ : Cf) : Nat) : Int) != 0)
     ·
      skip
      have p17 : ¬ (((wrong (⟨k.pu, k.lo, k.hi, b, k.rp, k.ae, k.ms, k.ma, k.an, k.st, k.ss, k.ro, k.ti, k.br⟩ : Cf) : Nat) : Int) ≠ 0) := by simpa using h17
      refine wc_false rfl ?_
      refine wc_skip ?_
      refine we_then ?_
      refine wc_seq ?_
      refine wc_region ?_
      refine wl_load 23 (.tmp 4) (own_row 1 rfl) rfl rfl rfl Try.underlying23 rfl (by kernel_rfl) ?_
      simp only [Act.put, Xa, Xz, Xs]
      refine wl_call 14 #[.agg #[.int .i64 k.pu, .int .i64 k.lo, .int .i64 k.hi, .int .i64 k.rb, .int .i64 k.rp, .int .i64 k.ae, .int .i64 k.ms, .int .i64 k.ma, .int .i64 k.an, .int .i64 k.st, .int .i64 k.ss, .int .i64 k.ro, .int .i64 k.ti, .int .i64 k.br]] (.tuple #[.int .i64 (gA k), .int .i64 (gB k)]) rfl (fun _ => by go_simp) (fun W => Cnf.growth_any k W (ok_of (c := k) (by omega))) ?_
      simp only [Act.put, Xa, Xz, Xs]
      refine wl_val (.tuple #[.int .i64 (gA k), .int .i64 (gB k)]) rfl (fun _ => rfl) ?_
      simp only [Act.put, Xa, Xz, Xs]
      refine wl_val (.int .i64 (gA k)) rfl (fun _ => by go_simp) ?_
      simp only [Act.put, Xa, Xz, Xs]
      refine wl_val (.int .i64 (gB k)) rfl (fun _ => by go_simp) ?_
      simp only [Act.put, Xa, Xz, Xs]
      refine wl_val (.int .i64 (gA k)) rfl (fun _ => rfl) ?_
      simp only [Act.put, Xa, Xz, Xs]
      refine wl_val (.int .i64 (gB k)) rfl (fun _ => rfl) ?_
      simp only [Act.put, Xa, Xz, Xs]
      refine wl_nil ?_
      refine we_then ?_
      refine wc_seq ?_
      refine wc_region ?_
      refine wl_load 23 (.tmp 11) (own_row 0 rfl) rfl rfl rfl Try.underlying23 rfl (by kernel_rfl) ?_
      simp only [Act.put, Xa, Xz, Xs]
      refine wl_call 14 #[.agg #[.int .i64 k.pu, .int .i64 k.lo, .int .i64 k.hi, .int .i64 b, .int .i64 k.rp, .int .i64 k.ae, .int .i64 k.ms, .int .i64 k.ma, .int .i64 k.an, .int .i64 k.st, .int .i64 k.ss, .int .i64 k.ro, .int .i64 k.ti, .int .i64 k.br]] (.tuple #[.int .i64 (gA (⟨k.pu, k.lo, k.hi, b, k.rp, k.ae, k.ms, k.ma, k.an, k.st, k.ss, k.ro, k.ti, k.br⟩ : Cf)), .int .i64 (gB (⟨k.pu, k.lo, k.hi, b, k.rp, k.ae, k.ms, k.ma, k.an, k.st, k.ss, k.ro, k.ti, k.br⟩ : Cf))]) rfl (fun _ => by go_simp) (fun W => Cnf.growth_any (⟨k.pu, k.lo, k.hi, b, k.rp, k.ae, k.ms, k.ma, k.an, k.st, k.ss, k.ro, k.ti, k.br⟩ : Cf) W (ok_of (c := (⟨k.pu, k.lo, k.hi, b, k.rp, k.ae, k.ms, k.ma, k.an, k.st, k.ss, k.ro, k.ti, k.br⟩ : Cf)) (by omega))) ?_
      simp only [Act.put, Xa, Xz, Xs]
      refine wl_val (.tuple #[.int .i64 (gA (⟨k.pu, k.lo, k.hi, b, k.rp, k.ae, k.ms, k.ma, k.an, k.st, k.ss, k.ro, k.ti, k.br⟩ : Cf)), .int .i64 (gB (⟨k.pu, k.lo, k.hi, b, k.rp, k.ae, k.ms, k.ma, k.an, k.st, k.ss, k.ro, k.ti, k.br⟩ : Cf))]) rfl (fun _ => rfl) ?_
      simp only [Act.put, Xa, Xz, Xs]
      refine wl_val (.int .i64 (gA (⟨k.pu, k.lo, k.hi, b, k.rp, k.ae, k.ms, k.ma, k.an, k.st, k.ss, k.ro, k.ti, k.br⟩ : Cf))) rfl (fun _ => by go_simp) ?_
      simp only [Act.put, Xa, Xz, Xs]
      refine wl_val (.int .i64 (gB (⟨k.pu, k.lo, k.hi, b, k.rp, k.ae, k.ms, k.ma, k.an, k.st, k.ss, k.ro, k.ti, k.br⟩ : Cf))) rfl (fun _ => by go_simp) ?_
      simp only [Act.put, Xa, Xz, Xs]
      refine wl_val (.int .i64 (gA (⟨k.pu, k.lo, k.hi, b, k.rp, k.ae, k.ms, k.ma, k.an, k.st, k.ss, k.ro, k.ti, k.br⟩ : Cf))) rfl (fun _ => rfl) ?_
      simp only [Act.put, Xa, Xz, Xs]
      refine wl_val (.int .i64 (gB (⟨k.pu, k.lo, k.hi, b, k.rp, k.ae, k.ms, k.ma, k.an, k.st, k.ss, k.ro, k.ti, k.br⟩ : Cf))) rfl (fun _ => rfl) ?_
      simp only [Act.put, Xa, Xz, Xs]
      refine wl_nil ?_
      refine we_then ?_
      refine wc_seq ?_
      refine wc_draw [.late, .late, .late, .late, .late, .late, .late, .late, .late, .plain, .late, .plain, .plain, .late, .plain, .late, .late, .late] none [] 82 (by kernel_rfl) rfl (by kernel_rfl) (by kernel_rfl) ?_
      refine ws_late (.int .i64 (gA k)) rfl rfl (fun _ => rfl) ?_
      simp only [Nat.reduceAdd, Act.put, Xa, Xz, Xs]
      refine ws_late (.int .i64 (gA (⟨k.pu, k.lo, k.hi, b, k.rp, k.ae, k.ms, k.ma, k.an, k.st, k.ss, k.ro, k.ti, k.br⟩ : Cf))) rfl rfl (fun _ => rfl) ?_
      simp only [Nat.reduceAdd, Act.put, Xa, Xz, Xs]
      refine ws_late (.bool ((gA k) == (gA (⟨k.pu, k.lo, k.hi, b, k.rp, k.ae, k.ms, k.ma, k.an, k.st, k.ss, k.ro, k.ti, k.br⟩ : Cf)))) rfl rfl (fun w => run_cmp rfl rfl rfl Try.underlying2 rfl w) ?_
      simp only [Nat.reduceAdd, Act.put, Xa, Xz, Xs]
      refine ws_late (.bool ((gA k) == (gA (⟨k.pu, k.lo, k.hi, b, k.rp, k.ae, k.ms, k.ma, k.an, k.st, k.ss, k.ro, k.ti, k.br⟩ : Cf)))) rfl rfl (fun _ => rfl) ?_
      simp only [Nat.reduceAdd, Act.put, Xa, Xz, Xs]
      cases h18 : ((gA k) == (gA (⟨k.pu, k.lo, k.hi, b, k.rp, k.ae, k.ms, k.ma, k.an, k.st, k.ss, k.ro, k.ti, k.br⟩ : Cf)))
      ·
       skip
       have p18 : ¬ ((gA k) = (gA (⟨k.pu, k.lo, k.hi, b, k.rp, k.ae, k.ms, k.ma, k.an, k.st, k.ss, k.ro, k.ti, k.br⟩ : Cf))) := by simpa using h18
       refine ws_skip_late rfl rfl ?_
       simp only [Nat.reduceAdd, Act.put, Xa, Xz, Xs]
       refine ws_skip_late rfl rfl ?_
       simp only [Nat.reduceAdd, Act.put, Xa, Xz, Xs]
       refine ws_skip_late rfl rfl ?_
       simp only [Nat.reduceAdd, Act.put, Xa, Xz, Xs]
       refine ws_late (.bool false) rfl rfl (fun _ => rfl) ?_
       simp only [Nat.reduceAdd, Act.put, Xa, Xz, Xs]
       refine ws_late (.bool false) rfl rfl (fun _ => rfl) ?_
       simp only [Nat.reduceAdd, Act.put, Xa, Xz, Xs]
       refine ws_skip rfl rfl ?_
       simp only [Nat.reduceAdd, Act.put, Xa, Xz, Xs]
       refine ws_skip_late rfl rfl ?_
       simp only [Nat.reduceAdd, Act.put, Xa, Xz, Xs]
       refine ws_skip rfl rfl ?_
       simp only [Nat.reduceAdd, Act.put, Xa, Xz, Xs]
       refine ws_skip rfl rfl ?_
       simp only [Nat.reduceAdd, Act.put, Xa, Xz, Xs]
       refine ws_skip_late rfl rfl ?_
       simp only [Nat.reduceAdd, Act.put, Xa, Xz, Xs]
       refine ws_skip rfl rfl ?_
       simp only [Nat.reduceAdd, Act.put, Xa, Xz, Xs]
       refine ws_skip_late rfl rfl ?_
       simp only [Nat.reduceAdd, Act.put, Xa, Xz, Xs]
       refine ws_late (.bool false) rfl rfl (fun _ => rfl) ?_
       simp only [Nat.reduceAdd, Act.put, Xa, Xz, Xs]
       refine ws_late (.bool false) rfl rfl (fun _ => rfl) ?_
       simp only [Nat.reduceAdd, Act.put, Xa, Xz, Xs]
       refine ws_nil [] trivial (by simp) ?_
       intro ps19
       simp only [fin, List.foldl_nil, List.map, List.nil_append]
       refine we_then ?_
       refine wc_ret ?_
       refine we_ret1 (.bool false) rfl rfl rfl (fun w1 hE => ?_)
       have z1 : max x (-x) ≤ max y (-y) → err k x ≤ err k y := fun h => err_mono hk h
       have z2 : gA k = gA (⟨k.pu, k.lo, k.hi, b, k.rp, k.ae, k.ms, k.ma, k.an, k.st, k.ss, k.ro, k.ti, k.br⟩ : Cf) := rfl
       have z3 : k.rb ≤ b → gB k ≤ gB (⟨k.pu, k.lo, k.hi, b, k.rp, k.ae, k.ms, k.ma, k.an, k.st, k.ss, k.ro, k.ti, k.br⟩ : Cf) := fun h => by unfold gB; dsimp only; omega
       have z4 : k.rb ≤ b → err k x ≤ err (⟨k.pu, k.lo, k.hi, b, k.rp, k.ae, k.ms, k.ma, k.an, k.st, k.ss, k.ro, k.ti, k.br⟩ : Cf) x := fun h => by unfold err; dsimp only; omega
       exact (by exfalso; omega)
      ·
       skip
       have p18 : (gA k) = (gA (⟨k.pu, k.lo, k.hi, b, k.rp, k.ae, k.ms, k.ma, k.an, k.st, k.ss, k.ro, k.ti, k.br⟩ : Cf)) := by simpa using h18
       refine ws_late (.int .i64 (gB k)) rfl rfl (fun _ => rfl) ?_
       simp only [Nat.reduceAdd, Act.put, Xa, Xz, Xs]
       refine ws_late (.int .i64 (gB (⟨k.pu, k.lo, k.hi, b, k.rp, k.ae, k.ms, k.ma, k.an, k.st, k.ss, k.ro, k.ti, k.br⟩ : Cf))) rfl rfl (fun _ => rfl) ?_
       simp only [Nat.reduceAdd, Act.put, Xa, Xz, Xs]
       refine ws_late (.bool (decide ((gB k) ≤ (gB (⟨k.pu, k.lo, k.hi, b, k.rp, k.ae, k.ms, k.ma, k.an, k.st, k.ss, k.ro, k.ti, k.br⟩ : Cf))))) rfl rfl (fun w => run_cmp rfl rfl rfl Try.underlying2 rfl w) ?_
       simp only [Nat.reduceAdd, Act.put, Xa, Xz, Xs]
       refine ws_late (.bool (decide ((gB k) ≤ (gB (⟨k.pu, k.lo, k.hi, b, k.rp, k.ae, k.ms, k.ma, k.an, k.st, k.ss, k.ro, k.ti, k.br⟩ : Cf))))) rfl rfl (fun _ => rfl) ?_
       simp only [Nat.reduceAdd, Act.put, Xa, Xz, Xs]
       refine ws_late (.bool (decide ((gB k) ≤ (gB (⟨k.pu, k.lo, k.hi, b, k.rp, k.ae, k.ms, k.ma, k.an, k.st, k.ss, k.ro, k.ti, k.br⟩ : Cf))))) rfl rfl (fun _ => rfl) ?_
       simp only [Nat.reduceAdd, Act.put, Xa, Xz, Xs]
       cases h20 : (decide ((gB k) ≤ (gB (⟨k.pu, k.lo, k.hi, b, k.rp, k.ae, k.ms, k.ma, k.an, k.st, k.ss, k.ro, k.ti, k.br⟩ : Cf))))
       ·
        skip
        have p20 : ¬ ((gB k) ≤ (gB (⟨k.pu, k.lo, k.hi, b, k.rp, k.ae, k.ms, k.ma, k.an, k.st, k.ss, k.ro, k.ti, k.br⟩ : Cf))) := of_decide_eq_false h20
        refine ws_skip rfl rfl ?_
        simp only [Nat.reduceAdd, Act.put, Xa, Xz, Xs]
        refine ws_skip_late rfl rfl ?_
        simp only [Nat.reduceAdd, Act.put, Xa, Xz, Xs]
        refine ws_skip rfl rfl ?_
        simp only [Nat.reduceAdd, Act.put, Xa, Xz, Xs]
        refine ws_skip rfl rfl ?_
        simp only [Nat.reduceAdd, Act.put, Xa, Xz, Xs]
        refine ws_skip_late rfl rfl ?_
        simp only [Nat.reduceAdd, Act.put, Xa, Xz, Xs]
        refine ws_skip rfl rfl ?_
        simp only [Nat.reduceAdd, Act.put, Xa, Xz, Xs]
        refine ws_skip_late rfl rfl ?_
        simp only [Nat.reduceAdd, Act.put, Xa, Xz, Xs]
        refine ws_late (.bool false) rfl rfl (fun _ => rfl) ?_
        simp only [Nat.reduceAdd, Act.put, Xa, Xz, Xs]
        refine ws_late (.bool false) rfl rfl (fun _ => rfl) ?_
        simp only [Nat.reduceAdd, Act.put, Xa, Xz, Xs]
        refine ws_nil [] trivial (by simp) ?_
        intro ps21
        simp only [fin, List.foldl_nil, List.map, List.nil_append]
        refine we_then ?_
        refine wc_ret ?_
        refine we_ret1 (.bool false) rfl rfl rfl (fun w1 hE => ?_)
        have z1 : max x (-x) ≤ max y (-y) → err k x ≤ err k y := fun h => err_mono hk h
        have z2 : gA k = gA (⟨k.pu, k.lo, k.hi, b, k.rp, k.ae, k.ms, k.ma, k.an, k.st, k.ss, k.ro, k.ti, k.br⟩ : Cf) := rfl
        have z3 : k.rb ≤ b → gB k ≤ gB (⟨k.pu, k.lo, k.hi, b, k.rp, k.ae, k.ms, k.ma, k.an, k.st, k.ss, k.ro, k.ti, k.br⟩ : Cf) := fun h => by unfold gB; dsimp only; omega
        have z4 : k.rb ≤ b → err k x ≤ err (⟨k.pu, k.lo, k.hi, b, k.rp, k.ae, k.ms, k.ma, k.an, k.st, k.ss, k.ro, k.ti, k.br⟩ : Cf) x := fun h => by unfold err; dsimp only; omega
        exact (by exfalso; omega)
       ·
        skip
        have p20 : (gB k) ≤ (gB (⟨k.pu, k.lo, k.hi, b, k.rp, k.ae, k.ms, k.ma, k.an, k.st, k.ss, k.ro, k.ti, k.br⟩ : Cf)) := of_decide_eq_true h20
        refine ws_load 23 (.tmp 4) (own_row 1 rfl) rfl rfl rfl rfl Try.underlying23 rfl (by kernel_rfl) ?_
        simp only [Nat.reduceAdd, Act.put, Xa, Xz, Xs]
        refine ws_late (.int .i64 x) rfl rfl (fun _ => rfl) ?_
        simp only [Nat.reduceAdd, Act.put, Xa, Xz, Xs]
        refine ws_call 16 #[.agg #[.int .i64 k.pu, .int .i64 k.lo, .int .i64 k.hi, .int .i64 k.rb, .int .i64 k.rp, .int .i64 k.ae, .int .i64 k.ms, .int .i64 k.ma, .int .i64 k.an, .int .i64 k.st, .int .i64 k.ss, .int .i64 k.ro, .int .i64 k.ti, .int .i64 k.br], .int .i64 x] (.int .i64 (err k x)) rfl rfl (fun _ => by go_simp) (fun W => Cnf.error_any k x W (ok_of (c := k) (by omega)) (by omega) (by omega)) ?_
        simp only [Nat.reduceAdd, Act.put, Xa, Xz, Xs]
        refine ws_load 23 (.tmp 11) (own_row 0 rfl) rfl rfl rfl rfl Try.underlying23 rfl (by kernel_rfl) ?_
        simp only [Nat.reduceAdd, Act.put, Xa, Xz, Xs]
        refine ws_late (.int .i64 x) rfl rfl (fun _ => rfl) ?_
        simp only [Nat.reduceAdd, Act.put, Xa, Xz, Xs]
        refine ws_call 16 #[.agg #[.int .i64 k.pu, .int .i64 k.lo, .int .i64 k.hi, .int .i64 b, .int .i64 k.rp, .int .i64 k.ae, .int .i64 k.ms, .int .i64 k.ma, .int .i64 k.an, .int .i64 k.st, .int .i64 k.ss, .int .i64 k.ro, .int .i64 k.ti, .int .i64 k.br], .int .i64 x] (.int .i64 (err (⟨k.pu, k.lo, k.hi, b, k.rp, k.ae, k.ms, k.ma, k.an, k.st, k.ss, k.ro, k.ti, k.br⟩ : Cf) x)) rfl rfl (fun _ => by go_simp) (fun W => Cnf.error_any (⟨k.pu, k.lo, k.hi, b, k.rp, k.ae, k.ms, k.ma, k.an, k.st, k.ss, k.ro, k.ti, k.br⟩ : Cf) x W (ok_of (c := (⟨k.pu, k.lo, k.hi, b, k.rp, k.ae, k.ms, k.ma, k.an, k.st, k.ss, k.ro, k.ti, k.br⟩ : Cf)) (by omega)) (by omega) (by omega)) ?_
        simp only [Nat.reduceAdd, Act.put, Xa, Xz, Xs]
        refine ws_late (.bool (decide ((err k x) ≤ (err (⟨k.pu, k.lo, k.hi, b, k.rp, k.ae, k.ms, k.ma, k.an, k.st, k.ss, k.ro, k.ti, k.br⟩ : Cf) x)))) rfl rfl (fun w => run_cmp rfl rfl rfl Try.underlying2 rfl w) ?_
        simp only [Nat.reduceAdd, Act.put, Xa, Xz, Xs]
        refine ws_late (.bool (decide ((err k x) ≤ (err (⟨k.pu, k.lo, k.hi, b, k.rp, k.ae, k.ms, k.ma, k.an, k.st, k.ss, k.ro, k.ti, k.br⟩ : Cf) x)))) rfl rfl (fun _ => rfl) ?_
        simp only [Nat.reduceAdd, Act.put, Xa, Xz, Xs]
        refine ws_late (.bool (decide ((err k x) ≤ (err (⟨k.pu, k.lo, k.hi, b, k.rp, k.ae, k.ms, k.ma, k.an, k.st, k.ss, k.ro, k.ti, k.br⟩ : Cf) x)))) rfl rfl (fun _ => rfl) ?_
        simp only [Nat.reduceAdd, Act.put, Xa, Xz, Xs]
        refine ws_nil [] trivial (by simp) ?_
        intro ps22
        simp only [fin, List.foldl_nil, List.map, List.nil_append]
        refine we_then ?_
        refine wc_ret ?_
        refine we_ret1 (.bool (decide ((err k x) ≤ (err (⟨k.pu, k.lo, k.hi, b, k.rp, k.ae, k.ms, k.ma, k.an, k.st, k.ss, k.ro, k.ti, k.br⟩ : Cf) x)))) rfl rfl rfl (fun w1 hE => ?_)
        have z1 : max x (-x) ≤ max y (-y) → err k x ≤ err k y := fun h => err_mono hk h
        have z2 : gA k = gA (⟨k.pu, k.lo, k.hi, b, k.rp, k.ae, k.ms, k.ma, k.an, k.st, k.ss, k.ro, k.ti, k.br⟩ : Cf) := rfl
        have z3 : k.rb ≤ b → gB k ≤ gB (⟨k.pu, k.lo, k.hi, b, k.rp, k.ae, k.ms, k.ma, k.an, k.st, k.ss, k.ro, k.ti, k.br⟩ : Cf) := fun h => by unfold gB; dsimp only; omega
        have z4 : k.rb ≤ b → err k x ≤ err (⟨k.pu, k.lo, k.hi, b, k.rp, k.ae, k.ms, k.ma, k.an, k.st, k.ss, k.ro, k.ti, k.br⟩ : Cf) x := fun h => by unfold err; dsimp only; omega
        exact ⟨by rw [show (decide ((err k x) ≤ (err (⟨k.pu, k.lo, k.hi, b, k.rp, k.ae, k.ms, k.ma, k.an, k.st, k.ss, k.ro, k.ti, k.br⟩ : Cf) x))) = true from by simp; omega], hE.below⟩
     ·
      skip
      have p17 : ((wrong (⟨k.pu, k.lo, k.hi, b, k.rp, k.ae, k.ms, k.ma, k.an, k.st, k.ss, k.ro, k.ti, k.br⟩ : Cf) : Nat) : Int) ≠ 0 := by simpa using h17
      refine wc_true rfl ?_
      refine wc_seq ?_
      refine wc_region ?_
      refine wl_val (.bool true) rfl (fun _ => rfl) ?_
      simp only [Act.put, Xa, Xz, Xs]
      refine wl_nil ?_
      refine we_then ?_
      refine wc_ret ?_
      refine we_then_ret ?_
      refine we_ret1 (.bool true) rfl rfl rfl (fun w1 hE => ?_)
      exact ⟨rfl, hE.below⟩
    ·
     skip
     have p16 : b < k.rb := of_decide_eq_true h16
     refine wl_skip rfl ?_
     simp only [Act.put, Xa, Xz, Xs]
     refine wl_skip rfl ?_
     simp only [Act.put, Xa, Xz, Xs]
     refine wl_skip rfl ?_
     simp only [Act.put, Xa, Xz, Xs]
     refine wl_val (.bool true) rfl (fun _ => rfl) ?_
     simp only [Act.put, Xa, Xz, Xs]
     refine wl_nil ?_
     refine we_then ?_
     refine wc_true rfl ?_
     refine wc_seq ?_
     refine wc_region ?_
     refine wl_val (.bool true) rfl (fun _ => rfl) ?_
     simp only [Act.put, Xa, Xz, Xs]
     refine wl_nil ?_
     refine we_then ?_
     refine wc_ret ?_
     refine we_then_ret ?_
     refine we_ret1 (.bool true) rfl rfl rfl (fun w1 hE => ?_)
     exact ⟨rfl, hE.below⟩
   ·
    skip
    have p14 : (err k y) < (err k x) := of_decide_eq_true h14
    refine wc_true rfl ?_
    refine wc_seq ?_
    refine wc_region ?_
    refine wl_val (.bool false) rfl (fun _ => rfl) ?_
    simp only [Act.put, Xa, Xz, Xs]
    refine wl_nil ?_
    refine we_then ?_
    refine wc_ret ?_
    refine we_then_ret ?_
    refine we_ret1 (.bool false) rfl rfl rfl (fun w1 hE => ?_)
    have z1 : max x (-x) ≤ max y (-y) → err k x ≤ err k y := fun h => err_mono hk h
    have z2 : gA k = gA (⟨k.pu, k.lo, k.hi, b, k.rp, k.ae, k.ms, k.ma, k.an, k.st, k.ss, k.ro, k.ti, k.br⟩ : Cf) := rfl
    have z3 : k.rb ≤ b → gB k ≤ gB (⟨k.pu, k.lo, k.hi, b, k.rp, k.ae, k.ms, k.ma, k.an, k.st, k.ss, k.ro, k.ti, k.br⟩ : Cf) := fun h => by unfold gB; dsimp only; omega
    have z4 : k.rb ≤ b → err k x ≤ err (⟨k.pu, k.lo, k.hi, b, k.rp, k.ae, k.ms, k.ma, k.an, k.st, k.ss, k.ro, k.ti, k.br⟩ : Cf) x := fun h => by unfold err; dsimp only; omega
    exact (by exfalso; omega)
 ·
  skip
  have p2 : ((wrong k : Nat) : Int) ≠ 0 := by simpa using h2
  refine wc_true rfl ?_
  refine wc_seq ?_
  refine wc_region ?_
  refine wl_val (.bool true) rfl (fun _ => rfl) ?_
  simp only [Act.put, Xa, Xz, Xs]
  refine wl_nil ?_
  refine we_then ?_
  refine wc_ret ?_
  refine we_then_ret ?_
  refine we_ret1 (.bool true) rfl rfl rfl (fun w1 hE => ?_)
  exact ⟨rfl, hE.below⟩
end Go.Proofs.Ytodenlojbbpfaaa.Walks
