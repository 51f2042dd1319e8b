/-
 Package track. Conditions: at most 2^47 of each; Find, Grades: a track that may be.
-/
import Derived.Test.YtodenlojbbpfaaaTkm
import Derived.Test.YtodenlojbbpfaaaGra
import Derived.Test.YtodenlojbbpfaaaFns
namespace Go.Proofs.Ytodenlojbbpfaaa.Tra
open Go.ChangeShapes Go.WideShapes Go.ChangeAt Go.RowKit
open Arr Steady Sx Sw Sl Sb Sc Vs Gr Grm Spn Fns Tk Tkl Tkm
set_option linter.unusedVariables false
set_option linter.unusedSimpArgs false
set_option maxRecDepth 100000

set_option maxHeartbeats 2000000 in
theorem within_any (x m : Int) (w : World) :
  Calls Try.prog 45 #[.int .i64 x, .int .i64 m] w fun e w' => e = .returned (.bool (inB x m)) ∧ Below w.heap.size w w' := by
 refine calls_sx Try.func45 rfl ?_
 simp only [Try.ntmps45, List.size_toArray, List.length_cons, List.length_nil, Nat.reduceAdd, Nat.reduceSub, Array.replicate_succ, Array.replicate_zero, List.push_toArray, List.append_toArray, List.nil_append, List.cons_append]
 refine wc_seq ?_
 refine wc_region ?_
 refine wl_val (.bool false) rfl (fun _ => rfl) ?_
 simp only [Act.put, Xa, Xz, Xs]
 refine wl_nil ?_
 refine we_then ?_
 refine wc_seq ?_
 refine wc_region ?_
 refine wl_val (.int .i64 x) rfl (fun _ => rfl) ?_
 simp only [Act.put, Xa, Xz, Xs]
 refine wl_val (.bool (decide (0 ≤ x))) rfl (fun w => run_cmp rfl rfl rfl Try.underlying2 rfl w) ?_
 simp only [Act.put, Xa, Xz, Xs]
 refine wl_val (.bool (decide (0 ≤ x))) rfl (fun _ => rfl) ?_
 simp only [Act.put, Xa, Xz, Xs]
 cases h1 : (decide (0 ≤ x))
 ·
  skip
  have p1 : ¬ (0 ≤ x) := of_decide_eq_false h1
  refine wl_skip rfl ?_
  simp only [Act.put, Xa, Xz, Xs]
  refine wl_skip rfl ?_
  simp only [Act.put, Xa, Xz, Xs]
  refine wl_skip rfl ?_
  simp only [Act.put, Xa, Xz, Xs]
  refine wl_val (.bool false) rfl (fun _ => rfl) ?_
  simp only [Act.put, Xa, Xz, Xs]
  refine wl_val (.bool false) rfl (fun _ => rfl) ?_
  simp only [Act.put, Xa, Xz, Xs]
  refine wl_nil ?_
  refine we_then ?_
  refine wc_ret ?_
  refine we_ret1 (.bool false) rfl rfl rfl (fun w1 hE => ?_)
  rw [in_no (by omega)]
  exact ⟨rfl, hE.below⟩
 ·
  skip
  have p1 : 0 ≤ x := of_decide_eq_true h1
  refine wl_val (.int .i64 x) rfl (fun _ => rfl) ?_
  simp only [Act.put, Xa, Xz, Xs]
  refine wl_val (.int .i64 m) rfl (fun _ => rfl) ?_
  simp only [Act.put, Xa, Xz, Xs]
  refine wl_val (.bool (decide (x ≤ m))) rfl (fun w => run_cmp rfl rfl rfl Try.underlying2 rfl w) ?_
  simp only [Act.put, Xa, Xz, Xs]
  refine wl_val (.bool (decide (x ≤ m))) rfl (fun _ => rfl) ?_
  simp only [Act.put, Xa, Xz, Xs]
  refine wl_val (.bool (decide (x ≤ m))) rfl (fun _ => rfl) ?_
  simp only [Act.put, Xa, Xz, Xs]
  refine wl_nil ?_
  refine we_then ?_
  refine wc_ret ?_
  refine we_ret1 (.bool (decide (x ≤ m))) rfl rfl rfl (fun w1 hE => ?_)
  rw [in_low (by omega)]
  exact ⟨rfl, hE.below⟩
set_option maxHeartbeats 2000000 in
theorem next_any (X : List Int) (p : Option Addr) (c : Nat) (m : Int) (w : World) (hX : Reads w p (flat enc1 X)) (hn : X.length ≤ 140737488355328) :
  Calls Try.prog 44 #[.slice p X.length c, .int .i64 m] w fun e w' => e = .returned (.bool (nextB X m)) ∧ Below w.heap.size w w' := by
 refine calls_sx Try.func44 rfl ?_
 simp only [Try.ntmps44, List.size_toArray, List.length_cons, List.length_nil, Nat.reduceAdd, Nat.reduceSub, Array.replicate_succ, Array.replicate_zero, List.push_toArray, List.append_toArray, List.nil_append, List.cons_append]
 refine wc_seq ?_
 refine wc_region ?_
 refine wl_val (.bool false) rfl (fun _ => rfl) ?_
 simp only [Act.put, Xa, Xz, Xs]
 refine wl_nil ?_
 refine we_then ?_
 refine wc_seq ?_
 refine wc_seq ?_
 refine wc_region ?_
 refine wl_val (.slice p X.length c) rfl (fun _ => rfl) ?_
 simp only [Act.put, Xa, Xz, Xs]
 refine wl_val (.int .i64 (X.length : Int)) rfl (fun w => er_len rfl rfl Try.underlying55 w) ?_
 simp only [Act.put, Xa, Xz, Xs]
 refine wl_val (.bool (decide (2 < (X.length : Int)))) rfl (fun w => run_cmp rfl rfl rfl Try.underlying3 rfl w) ?_
 simp only [Act.put, Xa, Xz, Xs]
 refine wl_nil ?_
 refine we_then ?_
 cases h1 : (decide (2 < (X.length : Int)))
 ·
  skip
  have p1 : ¬ (2 < (X.length : Int)) := of_decide_eq_false h1
  refine wc_false rfl ?_
  refine wc_skip ?_
  refine we_then ?_
  refine wc_seq ?_
  refine wc_region ?_
  refine wl_val (.int .i64 (-1)) rfl (fun _ => rfl) ?_
  simp only [Act.put, Xa, Xz, Xs]
  refine wl_nil ?_
  refine we_then ?_
  refine wc_seq ?_
  refine wc_seq ?_
  refine wc_region ?_
  refine wl_val (.slice p X.length c) rfl (fun _ => rfl) ?_
  simp only [Act.put, Xa, Xz, Xs]
  refine wl_val (.int .i64 (X.length : Int)) rfl (fun w => er_len rfl rfl Try.underlying55 w) ?_
  simp only [Act.put, Xa, Xz, Xs]
  refine wl_val (.int .i64 0) rfl (fun _ => rfl) ?_
  simp only [Act.put, Xa, Xz, Xs]
  refine wl_nil ?_
  refine we_then ?_
  refine wc_block ?_
  refine wc_loop (fun (zz : Nat × Int × Value × Value × Value × Value × Value × Value × Value × Value × Value × Value × Value × Value × Value × Value × Value) => match zz with | ⟨i, z, u4, u7, u14, u15, u16, u17, u18, u19, u20, u21, u22, u23, u24, u25, u26⟩ => ({ tmps := #[.slice p X.length c, .int .i64 m, undef, undef, u4, .int .i64 z, undef, u7, .slice p X.length c, .int .i64 (X.length : Int), .bool false, .slice p X.length c, .int .i64 (X.length : Int), .int .i64 (i : Int), u14, u15, u16, u17, u18, u19, u20, u21, u22, u23, u24, u25, u26], defers := [] } : Act)) (fun (zz : Nat × Int × Value × Value × Value × Value × Value × Value × Value × Value × Value × Value × Value × Value × Value × Value × Value) => match zz with | ⟨i, z, u4, u7, u14, u15, u16, u17, u18, u19, u20, u21, u22, u23, u24, u25, u26⟩ => []) (fun (zz : Nat × Int × Value × Value × Value × Value × Value × Value × Value × Value × Value × Value × Value × Value × Value × Value × Value) => match zz with | ⟨i, z, u4, u7, u14, u15, u16, u17, u18, u19, u20, u21, u22, u23, u24, u25, u26⟩ => i ≤ X.length ∧ NextInv X m i z) (fun (zz : Nat × Int × Value × Value × Value × Value × Value × Value × Value × Value × Value × Value × Value × Value × Value × Value × Value) => match zz with | ⟨i, z, u4, u7, u14, u15, u16, u17, u18, u19, u20, u21, u22, u23, u24, u25, u26⟩ => X.length - i) ⟨0, (-1), _, _, _, _, _, _, _, _, _, _, _, _, _, _, _⟩ ⟨Nat.zero_le _, next_start X m⟩ rfl List.Sublist.slnil ?_
  rintro ⟨i, z, u4, u7, u14, u15, u16, u17, u18, u19, u20, u21, u22, u23, u24, u25, u26⟩ hφ
  (try dsimp only at hφ ⊢)
  obtain ⟨b1, b2⟩ := hφ
  refine wc_seq ?_
  refine wc_region ?_
  refine wl_val (.bool (decide ((i : Int) < (X.length : Int)))) rfl (fun w => run_cmp rfl rfl rfl Try.underlying3 rfl w) ?_
  simp only [Act.put, Xa, Xz, Xs]
  refine wl_nil ?_
  refine we_then ?_
  refine wc_seq ?_
  cases h2 : (decide ((i : Int) < (X.length : Int)))
  ·
   skip
   have p2 : ¬ ((i : Int) < (X.length : Int)) := of_decide_eq_false h2
   refine wc_false rfl ?_
   refine wc_exit ?_
   refine we_then_exit ?_
   refine we_then_exit ?_
   refine we_in_here ?_
   refine we_then ?_
   refine wc_seq ?_
   refine wc_region ?_
   refine wl_val (.bool true) rfl (fun _ => rfl) ?_
   simp only [Act.put, Xa, Xz, Xs]
   refine wl_nil ?_
   refine we_then ?_
   refine wc_ret ?_
   refine we_ret1 (.bool true) rfl rfl rfl (fun w1 hE => ?_)
   have e1 : i = X.length := by omega
   subst e1
   rw [next_yes (next_end (by omega) b2)]
   exact ⟨rfl, hE.below⟩
  ·
   skip
   have p2 : (i : Int) < (X.length : Int) := of_decide_eq_true h2
   refine wc_true rfl ?_
   refine wc_skip ?_
   refine we_then ?_
   refine wc_seq ?_
   refine wc_block ?_
   refine wc_seq ?_
   refine wc_region ?_
   refine wl_read (eaddr p (i * 1)) rfl (er_index i 1 (sl_old hX) rfl rfl rfl rfl (by omega) (flat_length (enc := enc1) (size := 1) (fun _ => rfl) _) (by decide) Try.underlying55 (by kernel_rfl)) ?_
   simp only [Act.put, Xa, Xz, Xs]
   refine wl_read (.int .i64 (X[i]!)) rfl (er_cell (i * 1) (.int .i64 (X[i]!)) (sl_old hX) rfl rfl (flat_cell (enc := enc1) (fun _ => rfl) X i 0 (by omega) (by decide)) Try.isAgg3) ?_
   simp only [Act.put, Xa, Xz, Xs]
   refine wl_val (.int .i64 (X[i]!)) rfl (fun _ => rfl) ?_
   simp only [Act.put, Xa, Xz, Xs]
   refine wl_nil ?_
   refine we_then ?_
   refine wc_seq ?_
   refine wc_seq ?_
   refine wc_region ?_
   refine wl_val (.int .i64 (X[i]!)) rfl (fun _ => rfl) ?_
   simp only [Act.put, Xa, Xz, Xs]
   refine wl_val (.int .i64 z) rfl (fun _ => rfl) ?_
   simp only [Act.put, Xa, Xz, Xs]
   refine wl_val (.bool (decide ((X[i]!) ≤ z))) rfl (fun w => run_cmp rfl rfl rfl Try.underlying3 rfl w) ?_
   simp only [Act.put, Xa, Xz, Xs]
   refine wl_val (.bool (decide ((X[i]!) ≤ z))) rfl (fun _ => rfl) ?_
   simp only [Act.put, Xa, Xz, Xs]
   cases h3 : (decide ((X[i]!) ≤ z))
   ·
    skip
    have p3 : ¬ ((X[i]!) ≤ z) := of_decide_eq_false h3
    refine wl_val (.int .i64 (X[i]!)) rfl (fun _ => rfl) ?_
    simp only [Act.put, Xa, Xz, Xs]
    refine wl_val (.int .i64 m) rfl (fun _ => rfl) ?_
    simp only [Act.put, Xa, Xz, Xs]
    refine wl_val (.bool (decide (m ≤ (X[i]!)))) rfl (fun w => run_cmp rfl rfl rfl Try.underlying3 rfl w) ?_
    simp only [Act.put, Xa, Xz, Xs]
    refine wl_val (.bool (decide (m ≤ (X[i]!)))) rfl (fun _ => rfl) ?_
    simp only [Act.put, Xa, Xz, Xs]
    refine wl_nil ?_
    refine we_then ?_
    cases h4 : (decide (m ≤ (X[i]!)))
    ·
     skip
     have p4 : ¬ (m ≤ (X[i]!)) := of_decide_eq_false h4
     refine wc_false rfl ?_
     refine wc_skip ?_
     refine we_then ?_
     refine wc_region ?_
     refine wl_val (.int .i64 (X[i]!)) rfl (fun _ => rfl) ?_
     simp only [Act.put, Xa, Xz, Xs]
     refine wl_val (.int .i64 (X[i]!)) rfl (fun _ => rfl) ?_
     simp only [Act.put, Xa, Xz, Xs]
     refine wl_nil ?_
     refine we_in ?_
     refine we_then ?_
     refine wc_region ?_
     refine wl_val (.int .i64 ((i + 1 : Nat) : Int)) rfl (fun w => run_nat (X := i) (Y := 1) (Z := i + 1) rfl rfl rfl rfl (by omega) w) ?_
     simp only [Act.put, Xa, Xz, Xs]
     refine wl_val (.int .i64 ((i + 1 : Nat) : Int)) rfl (fun _ => rfl) ?_
     simp only [Act.put, Xa, Xz, Xs]
     refine wl_nil ?_
     exact we_meet ⟨(i + 1), X[i]!, _, _, _, _, _, _, _, _, _, _, _, _, _, _, _⟩ ⟨⟨by (try dsimp only); omega, next_step b2 (by omega) (by omega) (by omega) (by omega)⟩, by (try dsimp only); omega⟩ rfl List.Sublist.slnil
    ·
     skip
     have p4 : m ≤ (X[i]!) := of_decide_eq_true h4
     refine wc_true rfl ?_
     refine wc_seq ?_
     refine wc_region ?_
     refine wl_val (.bool false) rfl (fun _ => rfl) ?_
     simp only [Act.put, Xa, Xz, Xs]
     refine wl_nil ?_
     refine we_then ?_
     refine wc_ret ?_
     refine we_then_ret ?_
     refine we_in_ret ?_
     refine we_then_ret ?_
     refine we_then_ret ?_
     refine we_in_ret ?_
     refine we_then_ret ?_
     refine we_ret1 (.bool false) rfl rfl rfl (fun w1 hE => ?_)
     rw [next_no (next_bad b2 (by omega) (by omega))]
     exact ⟨rfl, hE.below⟩
   ·
    skip
    have p3 : (X[i]!) ≤ z := of_decide_eq_true h3
    refine wl_skip rfl ?_
    simp only [Act.put, Xa, Xz, Xs]
    refine wl_skip rfl ?_
    simp only [Act.put, Xa, Xz, Xs]
    refine wl_skip rfl ?_
    simp only [Act.put, Xa, Xz, Xs]
    refine wl_val (.bool true) rfl (fun _ => rfl) ?_
    simp only [Act.put, Xa, Xz, Xs]
    refine wl_nil ?_
    refine we_then ?_
    refine wc_true rfl ?_
    refine wc_seq ?_
    refine wc_region ?_
    refine wl_val (.bool false) rfl (fun _ => rfl) ?_
    simp only [Act.put, Xa, Xz, Xs]
    refine wl_nil ?_
    refine we_then ?_
    refine wc_ret ?_
    refine we_then_ret ?_
    refine we_in_ret ?_
    refine we_then_ret ?_
    refine we_then_ret ?_
    refine we_in_ret ?_
    refine we_then_ret ?_
    refine we_ret1 (.bool false) rfl rfl rfl (fun w1 hE => ?_)
    rw [next_no (next_bad b2 (by omega) (by omega))]
    exact ⟨rfl, hE.below⟩
 ·
  skip
  have p1 : 2 < (X.length : Int) := of_decide_eq_true h1
  refine wc_true rfl ?_
  refine wc_seq ?_
  refine wc_region ?_
  refine wl_val (.bool false) rfl (fun _ => rfl) ?_
  simp only [Act.put, Xa, Xz, Xs]
  refine wl_nil ?_
  refine we_then ?_
  refine wc_ret ?_
  refine we_then_ret ?_
  refine we_ret1 (.bool false) rfl rfl rfl (fun w1 hE => ?_)
  rw [next_no (fun k => by have := k.two; omega)]
  exact ⟨rfl, hE.below⟩
set_option maxHeartbeats 2000000 in
theorem segment_any (s : Sg) (m : Int) (w : World) (hs : OkSg w s) :
  Calls Try.prog 39 #[.agg #[.int .i64 s.len, .slice s.pp s.P.length s.pc, .slice s.np s.X.length s.nc], .int .i64 m] w fun e w' => e = .returned (.bool (segB s m)) ∧ Below w.heap.size w w' := by
 have f1 := hs.fewP
 have f2 := hs.fewX
 refine calls_sx Try.func39 rfl ?_
 simp only [Try.ntmps39, List.size_toArray, List.length_cons, List.length_nil, Nat.reduceAdd, Nat.reduceSub, Array.replicate_succ, Array.replicate_zero, List.push_toArray, List.append_toArray, List.nil_append, List.cons_append]
 refine wc_seq ?_
 refine wc_region ?_
 refine wl_new 57 (#[.int .i64 s.len, .slice s.pp s.P.length s.pc, .slice s.np s.X.length s.nc]) rfl (fun _ => by go_simp) ?_
 intro g1
 simp only [Act.put, Xa, Xz, Xs]
 refine wl_val (.bool false) rfl (fun _ => rfl) ?_
 simp only [Act.put, Xa, Xz, Xs]
 refine wl_nil ?_
 refine we_then ?_
 refine wc_seq ?_
 refine wc_region ?_
 refine wl_val (.pointer (some ⟨g1, 0, none⟩)) rfl (fun _ => by go_simp) ?_
 simp only [Act.put, Xa, Xz, Xs]
 refine wl_cell 2 (.tmp 5) (.int .i64 s.len) (own_row 0 rfl) rfl rfl rfl rfl Try.isAgg2 ?_
 simp only [Act.put, Xa, Xz, Xs]
 refine wl_val (.bool (decide (1 ≤ s.len))) rfl (fun w => run_cmp rfl rfl rfl Try.underlying2 rfl w) ?_
 simp only [Act.put, Xa, Xz, Xs]
 refine wl_val (.bool (decide (1 ≤ s.len))) rfl (fun _ => rfl) ?_
 simp only [Act.put, Xa, Xz, Xs]
 cases h2 : (decide (1 ≤ s.len))
 ·
  skip
  have p2 : ¬ (1 ≤ s.len) := of_decide_eq_false h2
  refine wl_skip rfl ?_
  simp only [Act.put, Xa, Xz, Xs]
  refine wl_skip rfl ?_
  simp only [Act.put, Xa, Xz, Xs]
  refine wl_skip rfl ?_
  simp only [Act.put, Xa, Xz, Xs]
  refine wl_val (.bool false) rfl (fun _ => rfl) ?_
  simp only [Act.put, Xa, Xz, Xs]
  refine wl_val (.bool false) rfl (fun _ => rfl) ?_
  simp only [Act.put, Xa, Xz, Xs]
  refine wl_skip rfl ?_
  simp only [Act.put, Xa, Xz, Xs]
  refine wl_skip rfl ?_
  simp only [Act.put, Xa, Xz, Xs]
  refine wl_skip rfl ?_
  simp only [Act.put, Xa, Xz, Xs]
  refine wl_skip rfl ?_
  simp only [Act.put, Xa, Xz, Xs]
  refine wl_skip rfl ?_
  simp only [Act.put, Xa, Xz, Xs]
  refine wl_skip rfl ?_
  simp only [Act.put, Xa, Xz, Xs]
  refine wl_val (.bool false) rfl (fun _ => rfl) ?_
  simp only [Act.put, Xa, Xz, Xs]
  refine wl_val (.bool false) rfl (fun _ => rfl) ?_
  simp only [Act.put, Xa, Xz, Xs]
  refine wl_skip rfl ?_
  simp only [Act.put, Xa, Xz, Xs]
  refine wl_skip rfl ?_
  simp only [Act.put, Xa, Xz, Xs]
  refine wl_skip rfl ?_
  simp only [Act.put, Xa, Xz, Xs]
  refine wl_skip rfl ?_
  simp only [Act.put, Xa, Xz, Xs]
  refine wl_val (.bool false) rfl (fun _ => rfl) ?_
  simp only [Act.put, Xa, Xz, Xs]
  refine wl_val (.bool false) rfl (fun _ => rfl) ?_
  simp only [Act.put, Xa, Xz, Xs]
  refine wl_nil ?_
  refine we_then ?_
  refine wc_ret ?_
  refine we_ret1 (.bool false) rfl rfl rfl (fun w1 hE => ?_)
  rw [segB_no (fun k => by have k1 := k.low; have k2 := k.high; omega)]
  exact ⟨rfl, hE.below⟩
 ·
  skip
  have p2 : 1 ≤ s.len := of_decide_eq_true h2
  refine wl_val (.pointer (some ⟨g1, 0, none⟩)) rfl (fun _ => by go_simp) ?_
  simp only [Act.put, Xa, Xz, Xs]
  refine wl_cell 2 (.tmp 9) (.int .i64 s.len) (own_row 0 rfl) rfl rfl rfl rfl Try.isAgg2 ?_
  simp only [Act.put, Xa, Xz, Xs]
  refine wl_val (.bool (decide (s.len ≤ 1099511627776))) rfl (fun w => run_cmp rfl rfl rfl Try.underlying2 rfl w) ?_
  simp only [Act.put, Xa, Xz, Xs]
  refine wl_val (.bool (decide (s.len ≤ 1099511627776))) rfl (fun _ => rfl) ?_
  simp only [Act.put, Xa, Xz, Xs]
  refine wl_val (.bool (decide (s.len ≤ 1099511627776))) rfl (fun _ => rfl) ?_
  simp only [Act.put, Xa, Xz, Xs]
  cases h3 : (decide (s.len ≤ 1099511627776))
  ·
   skip
   have p3 : ¬ (s.len ≤ 1099511627776) := of_decide_eq_false h3
   refine wl_skip rfl ?_
   simp only [Act.put, Xa, Xz, Xs]
   refine wl_skip rfl ?_
   simp only [Act.put, Xa, Xz, Xs]
   refine wl_skip rfl ?_
   simp only [Act.put, Xa, Xz, Xs]
   refine wl_skip rfl ?_
   simp only [Act.put, Xa, Xz, Xs]
   refine wl_skip rfl ?_
   simp only [Act.put, Xa, Xz, Xs]
   refine wl_skip rfl ?_
   simp only [Act.put, Xa, Xz, Xs]
   refine wl_val (.bool false) rfl (fun _ => rfl) ?_
   simp only [Act.put, Xa, Xz, Xs]
   refine wl_val (.bool false) rfl (fun _ => rfl) ?_
   simp only [Act.put, Xa, Xz, Xs]
   refine wl_skip rfl ?_
   simp only [Act.put, Xa, Xz, Xs]
   refine wl_skip rfl ?_
   simp only [Act.put, Xa, Xz, Xs]
   refine wl_skip rfl ?_
   simp only [Act.put, Xa, Xz, Xs]
   refine wl_skip rfl ?_
   simp only [Act.put, Xa, Xz, Xs]
   refine wl_val (.bool false) rfl (fun _ => rfl) ?_
   simp only [Act.put, Xa, Xz, Xs]
   refine wl_val (.bool false) rfl (fun _ => rfl) ?_
   simp only [Act.put, Xa, Xz, Xs]
   refine wl_nil ?_
   refine we_then ?_
   refine wc_ret ?_
   refine we_ret1 (.bool false) rfl rfl rfl (fun w1 hE => ?_)
   rw [segB_no (fun k => by have k1 := k.low; have k2 := k.high; omega)]
   exact ⟨rfl, hE.below⟩
  ·
   skip
   have p3 : s.len ≤ 1099511627776 := of_decide_eq_true h3
   refine wl_val (.pointer (some ⟨g1, 1, none⟩)) rfl (fun _ => by go_simp) ?_
   simp only [Act.put, Xa, Xz, Xs]
   refine wl_cell 54 (.tmp 14) (.slice s.pp s.P.length s.pc) (own_row 0 rfl) rfl rfl rfl rfl Try.isAgg54 ?_
   simp only [Act.put, Xa, Xz, Xs]
   refine wl_val (.pointer (some ⟨g1, 0, none⟩)) rfl (fun _ => by go_simp) ?_
   simp only [Act.put, Xa, Xz, Xs]
   refine wl_cell 2 (.tmp 16) (.int .i64 s.len) (own_row 0 rfl) rfl rfl rfl rfl Try.isAgg2 ?_
   simp only [Act.put, Xa, Xz, Xs]
   refine wl_call_at 43 #[.slice s.pp s.P.length s.pc, .int .i64 s.len] (.int .i64 (ckI s.P s.len)) rfl (fun _ => by go_simp) (fun W hE => Gra.check_any s.P _ _ s.len W ((sl_old hs.p) W hE) (by omega)) ?_
   simp only [Act.put, Xa, Xz, Xs]
   refine wl_val (.bool ((ckI s.P s.len) == 0)) rfl (fun w => run_cmp rfl rfl rfl Try.underlying25 rfl w) ?_
   simp only [Act.put, Xa, Xz, Xs]
   refine wl_val (.bool ((ckI s.P s.len) == 0)) rfl (fun _ => rfl) ?_
   simp only [Act.put, Xa, Xz, Xs]
   refine wl_val (.bool ((ckI s.P s.len) == 0)) rfl (fun _ => rfl) ?_
   simp only [Act.put, Xa, Xz, Xs]
   cases h4 : ((ckI s.P s.len) == 0)
   ·
    skip
    have p4 : ¬ ((ckI s.P s.len) = 0) := by first | (simp; done) | (simp at h4; done) | simpa using h4
    refine wl_skip rfl ?_
    simp only [Act.put, Xa, Xz, Xs]
    refine wl_skip rfl ?_
    simp only [Act.put, Xa, Xz, Xs]
    refine wl_skip rfl ?_
    simp only [Act.put, Xa, Xz, Xs]
    refine wl_skip rfl ?_
    simp only [Act.put, Xa, Xz, Xs]
    refine wl_val (.bool false) rfl (fun _ => rfl) ?_
    simp only [Act.put, Xa, Xz, Xs]
    refine wl_val (.bool false) rfl (fun _ => rfl) ?_
    simp only [Act.put, Xa, Xz, Xs]
    refine wl_nil ?_
    refine we_then ?_
    refine wc_ret ?_
    refine we_ret1 (.bool false) rfl rfl rfl (fun w1 hE => ?_)
    rw [segB_no (fun k => ck_not p4 k.may)]
    exact ⟨rfl, hE.below⟩
   ·
    skip
    have p4 : (ckI s.P s.len) = 0 := by first | (simp; done) | (simp at h4; done) | simpa using h4
    refine wl_val (.pointer (some ⟨g1, 2, none⟩)) rfl (fun _ => by go_simp) ?_
    simp only [Act.put, Xa, Xz, Xs]
    refine wl_cell 55 (.tmp 22) (.slice s.np s.X.length s.nc) (own_row 0 rfl) rfl rfl rfl rfl Try.isAgg55 ?_
    simp only [Act.put, Xa, Xz, Xs]
    refine wl_val (.int .i64 m) rfl (fun _ => rfl) ?_
    simp only [Act.put, Xa, Xz, Xs]
    refine wl_call_at 44 #[.slice s.np s.X.length s.nc, .int .i64 m] (.bool (nextB s.X m)) rfl (fun _ => by go_simp) (fun W hE => next_any s.X _ _ m W ((sl_old hs.x) W hE) (by omega)) ?_
    simp only [Act.put, Xa, Xz, Xs]
    refine wl_val (.bool (nextB s.X m)) rfl (fun _ => rfl) ?_
    simp only [Act.put, Xa, Xz, Xs]
    refine wl_val (.bool (nextB s.X m)) rfl (fun _ => rfl) ?_
    simp only [Act.put, Xa, Xz, Xs]
    refine wl_nil ?_
    refine we_then ?_
    refine wc_ret ?_
    refine we_ret1 (.bool (nextB s.X m)) rfl rfl rfl (fun w1 hE => ?_)
    have e0 : segB s m = nextB s.X m := by
     cases k : nextB s.X m with
     | true => exact segB_yes (seg_all (by omega) (by omega) p4 (next_of k))
     | false => exact segB_no (fun z => not_next k (seg_next z))
    exact ⟨by rw [e0], hE.below⟩
set_option maxHeartbeats 2000000 in
theorem group_any (G : List Sg) (g : Gp) (p : Option Addr) (c : Nat) (w : World) (hS : Reads w p (flat sg G)) (hn : G.length ≤ 140737488355328) :
  Calls Try.prog 40 #[.agg #[.int .i64 g.id, .int .i64 g.seg, .int .i64 g.off, .int .i64 g.acc, .int .i64 g.slack], .slice p G.length c] w fun e w' => e = .returned (.bool (grpB G g)) ∧ Below w.heap.size w w' := by
 refine calls_sx Try.func40 rfl ?_
 simp only [Try.ntmps40, List.size_toArray, List.length_cons, List.length_nil, Nat.reduceAdd, Nat.reduceSub, Array.replicate_succ, Array.replicate_zero, List.push_toArray, List.append_toArray, List.nil_append, List.cons_append]
 refine wc_seq ?_
 refine wc_region ?_
 refine wl_new 59 (#[.int .i64 g.id, .int .i64 g.seg, .int .i64 g.off, .int .i64 g.acc, .int .i64 g.slack]) rfl (fun _ => by go_simp) ?_
 intro g1
 simp only [Act.put, Xa, Xz, Xs]
 refine wl_val (.bool false) rfl (fun _ => rfl) ?_
 simp only [Act.put, Xa, Xz, Xs]
 refine wl_nil ?_
 refine we_then ?_
 refine wc_seq ?_
 refine wc_draw [.late, .plain, .late, .late, .late, .plain, .late, .late, .late, .late, .plain, .late, .late, .late, .late, .late, .late, .plain, .late, .late, .plain, .plain, .plain, .plain, .plain, .late, .late, .late, .plain, .plain, .late, .late, .late, .plain, .plain, .late, .late] none [] 41 (by kernel_rfl) rfl (by kernel_rfl) (by kernel_rfl) ?_
 refine ws_late (.pointer (some ⟨g1, 0, none⟩)) rfl rfl (fun _ => by go_simp) ?_
 simp only [Nat.reduceAdd, Act.put, Xa, Xz, Xs]
 refine ws_cell 3 (.tmp 5) (.int .i64 g.id) (own_row 0 rfl) rfl rfl rfl rfl rfl Try.isAgg3 ?_
 simp only [Nat.reduceAdd, Act.put, Xa, Xz, Xs]
 refine ws_late (.bool (decide (g.id ≤ 65535))) rfl rfl (fun w => run_cmp rfl rfl rfl Try.underlying3 rfl w) ?_
 simp only [Nat.reduceAdd, Act.put, Xa, Xz, Xs]
 refine ws_late (.bool (decide (g.id ≤ 65535))) rfl rfl (fun _ => rfl) ?_
 simp only [Nat.reduceAdd, Act.put, Xa, Xz, Xs]
 cases h2 : (decide (g.id ≤ 65535))
 ·
  skip
  have p2 : ¬ (g.id ≤ 65535) := of_decide_eq_false h2
  refine ws_skip_late rfl rfl ?_
  simp only [Nat.reduceAdd, Act.put, Xa, Xz, Xs]
  refine ws_skip rfl rfl ?_
  simp only [Nat.reduceAdd, Act.put, Xa, Xz, Xs]
  refine ws_skip_late rfl rfl ?_
  simp only [Nat.reduceAdd, Act.put, Xa, Xz, Xs]
  refine ws_late (.bool false) rfl rfl (fun _ => rfl) ?_
  simp only [Nat.reduceAdd, Act.put, Xa, Xz, Xs]
  refine ws_late (.bool false) rfl rfl (fun _ => rfl) ?_
  simp only [Nat.reduceAdd, Act.put, Xa, Xz, Xs]
  refine ws_skip_late rfl rfl ?_
  simp only [Nat.reduceAdd, Act.put, Xa, Xz, Xs]
  refine ws_skip rfl rfl ?_
  simp only [Nat.reduceAdd, Act.put, Xa, Xz, Xs]
  refine ws_skip_late rfl rfl ?_
  simp only [Nat.reduceAdd, Act.put, Xa, Xz, Xs]
  refine ws_skip_late rfl rfl ?_
  simp only [Nat.reduceAdd, Act.put, Xa, Xz, Xs]
  refine ws_skip_late rfl rfl ?_
  simp only [Nat.reduceAdd, Act.put, Xa, Xz, Xs]
  refine ws_late (.bool false) rfl rfl (fun _ => rfl) ?_
  simp only [Nat.reduceAdd, Act.put, Xa, Xz, Xs]
  refine ws_late (.bool false) rfl rfl (fun _ => rfl) ?_
  simp only [Nat.reduceAdd, Act.put, Xa, Xz, Xs]
  refine ws_skip_late rfl rfl ?_
  simp only [Nat.reduceAdd, Act.put, Xa, Xz, Xs]
  refine ws_skip rfl rfl ?_
  simp only [Nat.reduceAdd, Act.put, Xa, Xz, Xs]
  refine ws_skip_late rfl rfl ?_
  simp only [Nat.reduceAdd, Act.put, Xa, Xz, Xs]
  refine ws_skip_late rfl rfl ?_
  simp only [Nat.reduceAdd, Act.put, Xa, Xz, Xs]
  refine ws_skip rfl rfl ?_
  simp only [Nat.reduceAdd, Act.put, Xa, Xz, Xs]
  refine ws_skip rfl rfl ?_
  simp only [Nat.reduceAdd, Act.put, Xa, Xz, Xs]
  refine ws_skip rfl rfl ?_
  simp only [Nat.reduceAdd, Act.put, Xa, Xz, Xs]
  refine ws_skip rfl rfl ?_
  simp only [Nat.reduceAdd, Act.put, Xa, Xz, Xs]
  refine ws_skip rfl rfl ?_
  simp only [Nat.reduceAdd, Act.put, Xa, Xz, Xs]
  refine ws_late (.bool false) rfl rfl (fun _ => rfl) ?_
  simp only [Nat.reduceAdd, Act.put, Xa, Xz, Xs]
  refine ws_late (.bool false) rfl rfl (fun _ => rfl) ?_
  simp only [Nat.reduceAdd, Act.put, Xa, Xz, Xs]
  refine ws_skip_late rfl rfl ?_
  simp only [Nat.reduceAdd, Act.put, Xa, Xz, Xs]
  refine ws_skip rfl rfl ?_
  simp only [Nat.reduceAdd, Act.put, Xa, Xz, Xs]
  refine ws_skip rfl rfl ?_
  simp only [Nat.reduceAdd, Act.put, Xa, Xz, Xs]
  refine ws_late (.bool false) rfl rfl (fun _ => rfl) ?_
  simp only [Nat.reduceAdd, Act.put, Xa, Xz, Xs]
  refine ws_late (.bool false) rfl rfl (fun _ => rfl) ?_
  simp only [Nat.reduceAdd, Act.put, Xa, Xz, Xs]
  refine ws_skip_late rfl rfl ?_
  simp only [Nat.reduceAdd, Act.put, Xa, Xz, Xs]
  refine ws_skip rfl rfl ?_
  simp only [Nat.reduceAdd, Act.put, Xa, Xz, Xs]
  refine ws_skip rfl rfl ?_
  simp only [Nat.reduceAdd, Act.put, Xa, Xz, Xs]
  refine ws_late (.bool false) rfl rfl (fun _ => rfl) ?_
  simp only [Nat.reduceAdd, Act.put, Xa, Xz, Xs]
  refine ws_late (.bool false) rfl rfl (fun _ => rfl) ?_
  simp only [Nat.reduceAdd, Act.put, Xa, Xz, Xs]
  refine ws_nil [] trivial (by simp) ?_
  intro ps3
  simp only [fin, List.foldl_nil, List.map, List.nil_append]
  refine we_then ?_
  refine wc_ret ?_
  refine we_ret1 (.bool false) rfl rfl rfl (fun w1 hE => ?_)
  rw [grp_no (fun k => by have k1 := k.high; have k2 := k.seg0; have k3 := k.segn; have k4 := in_yes k.off; have k5 := in_yes k.acc; have k6 := in_yes k.sl; simp_all; try omega)]
  exact ⟨rfl, hE.below⟩
 ·
  skip
  have p2 : g.id ≤ 65535 := of_decide_eq_true h2
  refine ws_late (.pointer (some ⟨g1, 1, none⟩)) rfl rfl (fun _ => by go_simp) ?_
  simp only [Nat.reduceAdd, Act.put, Xa, Xz, Xs]
  refine ws_cell 3 (.tmp 9) (.int .i64 g.seg) (own_row 0 rfl) rfl rfl rfl rfl rfl Try.isAgg3 ?_
  simp only [Nat.reduceAdd, Act.put, Xa, Xz, Xs]
  refine ws_late (.bool (decide (0 ≤ g.seg))) rfl rfl (fun w => run_cmp rfl rfl rfl Try.underlying3 rfl w) ?_
  simp only [Nat.reduceAdd, Act.put, Xa, Xz, Xs]
  refine ws_late (.bool (decide (0 ≤ g.seg))) rfl rfl (fun _ => rfl) ?_
  simp only [Nat.reduceAdd, Act.put, Xa, Xz, Xs]
  refine ws_late (.bool (decide (0 ≤ g.seg))) rfl rfl (fun _ => rfl) ?_
  simp only [Nat.reduceAdd, Act.put, Xa, Xz, Xs]
  cases h4 : (decide (0 ≤ g.seg))
  ·
   skip
   have p4 : ¬ (0 ≤ g.seg) := of_decide_eq_false h4
   refine ws_skip_late rfl rfl ?_
   simp only [Nat.reduceAdd, Act.put, Xa, Xz, Xs]
   refine ws_skip rfl rfl ?_
   simp only [Nat.reduceAdd, Act.put, Xa, Xz, Xs]
   refine ws_skip_late rfl rfl ?_
   simp only [Nat.reduceAdd, Act.put, Xa, Xz, Xs]
   refine ws_skip_late rfl rfl ?_
   simp only [Nat.reduceAdd, Act.put, Xa, Xz, Xs]
   refine ws_skip_late rfl rfl ?_
   simp only [Nat.reduceAdd, Act.put, Xa, Xz, Xs]
   refine ws_late (.bool false) rfl rfl (fun _ => rfl) ?_
   simp only [Nat.reduceAdd, Act.put, Xa, Xz, Xs]
   refine ws_late (.bool false) rfl rfl (fun _ => rfl) ?_
   simp only [Nat.reduceAdd, Act.put, Xa, Xz, Xs]
   refine ws_skip_late rfl rfl ?_
   simp only [Nat.reduceAdd, Act.put, Xa, Xz, Xs]
   refine ws_skip rfl rfl ?_
   simp only [Nat.reduceAdd, Act.put, Xa, Xz, Xs]
   refine ws_skip_late rfl rfl ?_
   simp only [Nat.reduceAdd, Act.put, Xa, Xz, Xs]
   refine ws_skip_late rfl rfl ?_
   simp only [Nat.reduceAdd, Act.put, Xa, Xz, Xs]
   refine ws_skip rfl rfl ?_
   simp only [Nat.reduceAdd, Act.put, Xa, Xz, Xs]
   refine ws_skip rfl rfl ?_
   simp only [Nat.reduceAdd, Act.put, Xa, Xz, Xs]
   refine ws_skip rfl rfl ?_
   simp only [Nat.reduceAdd, Act.put, Xa, Xz, Xs]
   refine ws_skip rfl rfl ?_
   simp only [Nat.reduceAdd, Act.put, Xa, Xz, Xs]
   refine ws_skip rfl rfl ?_
   simp only [Nat.reduceAdd, Act.put, Xa, Xz, Xs]
   refine ws_late (.bool false) rfl rfl (fun _ => rfl) ?_
   simp only [Nat.reduceAdd, Act.put, Xa, Xz, Xs]
   refine ws_late (.bool false) rfl rfl (fun _ => rfl) ?_
   simp only [Nat.reduceAdd, Act.put, Xa, Xz, Xs]
   refine ws_skip_late rfl rfl ?_
   simp only [Nat.reduceAdd, Act.put, Xa, Xz, Xs]
   refine ws_skip rfl rfl ?_
   simp only [Nat.reduceAdd, Act.put, Xa, Xz, Xs]
   refine ws_skip rfl rfl ?_
   simp only [Nat.reduceAdd, Act.put, Xa, Xz, Xs]
   refine ws_late (.bool false) rfl rfl (fun _ => rfl) ?_
   simp only [Nat.reduceAdd, Act.put, Xa, Xz, Xs]
   refine ws_late (.bool false) rfl rfl (fun _ => rfl) ?_
   simp only [Nat.reduceAdd, Act.put, Xa, Xz, Xs]
   refine ws_skip_late rfl rfl ?_
   simp only [Nat.reduceAdd, Act.put, Xa, Xz, Xs]
   refine ws_skip rfl rfl ?_
   simp only [Nat.reduceAdd, Act.put, Xa, Xz, Xs]
   refine ws_skip rfl rfl ?_
   simp only [Nat.reduceAdd, Act.put, Xa, Xz, Xs]
   refine ws_late (.bool false) rfl rfl (fun _ => rfl) ?_
   simp only [Nat.reduceAdd, Act.put, Xa, Xz, Xs]
   refine ws_late (.bool false) rfl rfl (fun _ => rfl) ?_
   simp only [Nat.reduceAdd, Act.put, Xa, Xz, Xs]
   refine ws_nil [] trivial (by simp) ?_
   intro ps5
   simp only [fin, List.foldl_nil, List.map, List.nil_append]
   refine we_then ?_
   refine wc_ret ?_
   refine we_ret1 (.bool false) rfl rfl rfl (fun w1 hE => ?_)
   rw [grp_no (fun k => by have k1 := k.high; have k2 := k.seg0; have k3 := k.segn; have k4 := in_yes k.off; have k5 := in_yes k.acc; have k6 := in_yes k.sl; simp_all; try omega)]
   exact ⟨rfl, hE.below⟩
  ·
   skip
   have p4 : 0 ≤ g.seg := of_decide_eq_true h4
   refine ws_late (.pointer (some ⟨g1, 1, none⟩)) rfl rfl (fun _ => by go_simp) ?_
   simp only [Nat.reduceAdd, Act.put, Xa, Xz, Xs]
   refine ws_cell 3 (.tmp 14) (.int .i64 g.seg) (own_row 0 rfl) rfl rfl rfl rfl rfl Try.isAgg3 ?_
   simp only [Nat.reduceAdd, Act.put, Xa, Xz, Xs]
   refine ws_late (.slice p G.length c) rfl rfl (fun _ => rfl) ?_
   simp only [Nat.reduceAdd, Act.put, Xa, Xz, Xs]
   refine ws_late (.int .i64 (G.length : Int)) rfl rfl (fun w => er_len rfl rfl Try.underlying31 w) ?_
   simp only [Nat.reduceAdd, Act.put, Xa, Xz, Xs]
   refine ws_late (.bool (decide (g.seg < (G.length : Int)))) rfl rfl (fun w => run_cmp rfl rfl rfl Try.underlying3 rfl w) ?_
   simp only [Nat.reduceAdd, Act.put, Xa, Xz, Xs]
   refine ws_late (.bool (decide (g.seg < (G.length : Int)))) rfl rfl (fun _ => rfl) ?_
   simp only [Nat.reduceAdd, Act.put, Xa, Xz, Xs]
   refine ws_late (.bool (decide (g.seg < (G.length : Int)))) rfl rfl (fun _ => rfl) ?_
   simp only [Nat.reduceAdd, Act.put, Xa, Xz, Xs]
   cases h6 : (decide (g.seg < (G.length : Int)))
   ·
    skip
    have p6 : ¬ (g.seg < (G.length : Int)) := of_decide_eq_false h6
    refine ws_skip_late rfl rfl ?_
    simp only [Nat.reduceAdd, Act.put, Xa, Xz, Xs]
    refine ws_skip rfl rfl ?_
    simp only [Nat.reduceAdd, Act.put, Xa, Xz, Xs]
    refine ws_skip_late rfl rfl ?_
    simp only [Nat.reduceAdd, Act.put, Xa, Xz, Xs]
    refine ws_skip_late rfl rfl ?_
    simp only [Nat.reduceAdd, Act.put, Xa, Xz, Xs]
    refine ws_skip rfl rfl ?_
    simp only [Nat.reduceAdd, Act.put, Xa, Xz, Xs]
    refine ws_skip rfl rfl ?_
    simp only [Nat.reduceAdd, Act.put, Xa, Xz, Xs]
    refine ws_skip rfl rfl ?_
    simp only [Nat.reduceAdd, Act.put, Xa, Xz, Xs]
    refine ws_skip rfl rfl ?_
    simp only [Nat.reduceAdd, Act.put, Xa, Xz, Xs]
    refine ws_skip rfl rfl ?_
    simp only [Nat.reduceAdd, Act.put, Xa, Xz, Xs]
    refine ws_late (.bool false) rfl rfl (fun _ => rfl) ?_
    simp only [Nat.reduceAdd, Act.put, Xa, Xz, Xs]
    refine ws_late (.bool false) rfl rfl (fun _ => rfl) ?_
    simp only [Nat.reduceAdd, Act.put, Xa, Xz, Xs]
    refine ws_skip_late rfl rfl ?_
    simp only [Nat.reduceAdd, Act.put, Xa, Xz, Xs]
    refine ws_skip rfl rfl ?_
    simp only [Nat.reduceAdd, Act.put, Xa, Xz, Xs]
    refine ws_skip rfl rfl ?_
    simp only [Nat.reduceAdd, Act.put, Xa, Xz, Xs]
    refine ws_late (.bool false) rfl rfl (fun _ => rfl) ?_
    simp only [Nat.reduceAdd, Act.put, Xa, Xz, Xs]
    refine ws_late (.bool false) rfl rfl (fun _ => rfl) ?_
    simp only [Nat.reduceAdd, Act.put, Xa, Xz, Xs]
    refine ws_skip_late rfl rfl ?_
    simp only [Nat.reduceAdd, Act.put, Xa, Xz, Xs]
    refine ws_skip rfl rfl ?_
    simp only [Nat.reduceAdd, Act.put, Xa, Xz, Xs]
    refine ws_skip rfl rfl ?_
    simp only [Nat.reduceAdd, Act.put, Xa, Xz, Xs]
    refine ws_late (.bool false) rfl rfl (fun _ => rfl) ?_
    simp only [Nat.reduceAdd, Act.put, Xa, Xz, Xs]
    refine ws_late (.bool false) rfl rfl (fun _ => rfl) ?_
    simp only [Nat.reduceAdd, Act.put, Xa, Xz, Xs]
    refine ws_nil [] trivial (by simp) ?_
    intro ps7
    simp only [fin, List.foldl_nil, List.map, List.nil_append]
    refine we_then ?_
    refine wc_ret ?_
    refine we_ret1 (.bool false) rfl rfl rfl (fun w1 hE => ?_)
    rw [grp_no (fun k => by have k1 := k.high; have k2 := k.seg0; have k3 := k.segn; have k4 := in_yes k.off; have k5 := in_yes k.acc; have k6 := in_yes k.sl; simp_all; try omega)]
    exact ⟨rfl, hE.below⟩
   ·
    skip
    have p6 : g.seg < (G.length : Int) := of_decide_eq_true h6
    refine ws_late (.pointer (some ⟨g1, 2, none⟩)) rfl rfl (fun _ => by go_simp) ?_
    simp only [Nat.reduceAdd, Act.put, Xa, Xz, Xs]
    refine ws_cell 2 (.tmp 21) (.int .i64 g.off) (own_row 0 rfl) rfl rfl rfl rfl rfl Try.isAgg2 ?_
    simp only [Nat.reduceAdd, Act.put, Xa, Xz, Xs]
    refine ws_late (.slice p G.length c) rfl rfl (fun _ => rfl) ?_
    simp only [Nat.reduceAdd, Act.put, Xa, Xz, Xs]
    refine ws_late (.pointer (some ⟨g1, 1, none⟩)) rfl rfl (fun _ => by go_simp) ?_
    simp only [Nat.reduceAdd, Act.put, Xa, Xz, Xs]
    refine ws_cell 3 (.tmp 24) (.int .i64 g.seg) (own_row 0 rfl) rfl rfl rfl rfl rfl Try.isAgg3 ?_
    simp only [Nat.reduceAdd, Act.put, Xa, Xz, Xs]
    refine ws_read (eaddr p ((g.seg.toNat) * 3)) rfl rfl (er_index (g.seg.toNat) 3 (sl_old hS) rfl rfl rfl (by omega) (by omega) (flat_length (enc := sg) (size := 3) (fun _ => rfl) _) (by decide) Try.underlying31 (by kernel_rfl)) ?_
    simp only [Nat.reduceAdd, Act.put, Xa, Xz, Xs]
    refine ws_read (eaddr p ((g.seg.toNat) * 3 + 0)) rfl rfl (er_field (z := 0) ((g.seg.toNat) * 3) 0 0 (sl_old hS) rfl rfl (flat_lt (enc := sg) (fun _ => rfl) G (g.seg.toNat) 0 (by omega) (by decide)) Try.underlying57 rfl rfl (by kernel_rfl)) ?_
    simp only [Nat.reduceAdd, Act.put, Xa, Xz, Xs]
    refine ws_read (.int .i64 ((G[g.seg.toNat]!).len)) rfl rfl (er_cell ((g.seg.toNat) * 3 + 0) (.int .i64 ((G[g.seg.toNat]!).len)) (sl_old hS) rfl rfl (flat_cell (enc := sg) (fun _ => rfl) G (g.seg.toNat) 0 (by omega) (by decide)) Try.isAgg2) ?_
    simp only [Nat.reduceAdd, Act.put, Xa, Xz, Xs]
    refine ws_call 45 #[.int .i64 g.off, .int .i64 ((G[g.seg.toNat]!).len)] (.bool (inB g.off ((G[g.seg.toNat]!).len))) rfl rfl (fun _ => by go_simp) (fun W => within_any g.off ((G[g.seg.toNat]!).len) W) ?_
    simp only [Nat.reduceAdd, Act.put, Xa, Xz, Xs]
    refine ws_late (.bool (inB g.off ((G[g.seg.toNat]!).len))) rfl rfl (fun _ => rfl) ?_
    simp only [Nat.reduceAdd, Act.put, Xa, Xz, Xs]
    refine ws_late (.bool (inB g.off ((G[g.seg.toNat]!).len))) rfl rfl (fun _ => rfl) ?_
    simp only [Nat.reduceAdd, Act.put, Xa, Xz, Xs]
    cases h8 : (inB g.off ((G[g.seg.toNat]!).len))
    ·
     skip
     refine ws_skip_late rfl rfl ?_
     simp only [Nat.reduceAdd, Act.put, Xa, Xz, Xs]
     refine ws_skip rfl rfl ?_
     simp only [Nat.reduceAdd, Act.put, Xa, Xz, Xs]
     refine ws_skip rfl rfl ?_
     simp only [Nat.reduceAdd, Act.put, Xa, Xz, Xs]
     refine ws_late (.bool false) rfl rfl (fun _ => rfl) ?_
     simp only [Nat.reduceAdd, Act.put, Xa, Xz, Xs]
     refine ws_late (.bool false) rfl rfl (fun _ => rfl) ?_
     simp only [Nat.reduceAdd, Act.put, Xa, Xz, Xs]
     refine ws_skip_late rfl rfl ?_
     simp only [Nat.reduceAdd, Act.put, Xa, Xz, Xs]
     refine ws_skip rfl rfl ?_
     simp only [Nat.reduceAdd, Act.put, Xa, Xz, Xs]
     refine ws_skip rfl rfl ?_
     simp only [Nat.reduceAdd, Act.put, Xa, Xz, Xs]
     refine ws_late (.bool false) rfl rfl (fun _ => rfl) ?_
     simp only [Nat.reduceAdd, Act.put, Xa, Xz, Xs]
     refine ws_late (.bool false) rfl rfl (fun _ => rfl) ?_
     simp only [Nat.reduceAdd, Act.put, Xa, Xz, Xs]
     refine ws_nil [] trivial (by simp) ?_
     intro ps9
     simp only [fin, List.foldl_nil, List.map, List.nil_append]
     refine we_then ?_
     refine wc_ret ?_
     refine we_ret1 (.bool false) rfl rfl rfl (fun w1 hE => ?_)
     rw [grp_no (fun k => by have k1 := k.high; have k2 := k.seg0; have k3 := k.segn; have k4 := in_yes k.off; have k5 := in_yes k.acc; have k6 := in_yes k.sl; simp_all; try omega)]
     exact ⟨rfl, hE.below⟩
    ·
     skip
     refine ws_late (.pointer (some ⟨g1, 3, none⟩)) rfl rfl (fun _ => by go_simp) ?_
     simp only [Nat.reduceAdd, Act.put, Xa, Xz, Xs]
     refine ws_cell 2 (.tmp 32) (.int .i64 g.acc) (own_row 0 rfl) rfl rfl rfl rfl rfl Try.isAgg2 ?_
     simp only [Nat.reduceAdd, Act.put, Xa, Xz, Xs]
     refine ws_call 45 #[.int .i64 g.acc, .int .i64 1048576] (.bool (inB g.acc 1048576)) rfl rfl (fun _ => by go_simp) (fun W => within_any g.acc 1048576 W) ?_
     simp only [Nat.reduceAdd, Act.put, Xa, Xz, Xs]
     refine ws_late (.bool (inB g.acc 1048576)) rfl rfl (fun _ => rfl) ?_
     simp only [Nat.reduceAdd, Act.put, Xa, Xz, Xs]
     refine ws_late (.bool (inB g.acc 1048576)) rfl rfl (fun _ => rfl) ?_
     simp only [Nat.reduceAdd, Act.put, Xa, Xz, Xs]
     cases h10 : (inB g.acc 1048576)
     ·
      skip
      refine ws_skip_late rfl rfl ?_
      simp only [Nat.reduceAdd, Act.put, Xa, Xz, Xs]
      refine ws_skip rfl rfl ?_
      simp only [Nat.reduceAdd, Act.put, Xa, Xz, Xs]
      refine ws_skip rfl rfl ?_
      simp only [Nat.reduceAdd, Act.put, Xa, Xz, Xs]
      refine ws_late (.bool false) rfl rfl (fun _ => rfl) ?_
      simp only [Nat.reduceAdd, Act.put, Xa, Xz, Xs]
      refine ws_late (.bool false) rfl rfl (fun _ => rfl) ?_
      simp only [Nat.reduceAdd, Act.put, Xa, Xz, Xs]
      refine ws_nil [] trivial (by simp) ?_
      intro ps11
      simp only [fin, List.foldl_nil, List.map, List.nil_append]
      refine we_then ?_
      refine wc_ret ?_
      refine we_ret1 (.bool false) rfl rfl rfl (fun w1 hE => ?_)
      rw [grp_no (fun k => by have k1 := k.high; have k2 := k.seg0; have k3 := k.segn; have k4 := in_yes k.off; have k5 := in_yes k.acc; have k6 := in_yes k.sl; simp_all; try omega)]
      exact ⟨rfl, hE.below⟩
     ·
      skip
      refine ws_late (.pointer (some ⟨g1, 4, none⟩)) rfl rfl (fun _ => by go_simp) ?_
      simp only [Nat.reduceAdd, Act.put, Xa, Xz, Xs]
      refine ws_cell 2 (.tmp 37) (.int .i64 g.slack) (own_row 0 rfl) rfl rfl rfl rfl rfl Try.isAgg2 ?_
      simp only [Nat.reduceAdd, Act.put, Xa, Xz, Xs]
      refine ws_call 45 #[.int .i64 g.slack, .int .i64 16777216] (.bool (inB g.slack 16777216)) rfl rfl (fun _ => by go_simp) (fun W => within_any g.slack 16777216 W) ?_
      simp only [Nat.reduceAdd, Act.put, Xa, Xz, Xs]
      refine ws_late (.bool (inB g.slack 16777216)) rfl rfl (fun _ => rfl) ?_
      simp only [Nat.reduceAdd, Act.put, Xa, Xz, Xs]
      refine ws_late (.bool (inB g.slack 16777216)) rfl rfl (fun _ => rfl) ?_
      simp only [Nat.reduceAdd, Act.put, Xa, Xz, Xs]
      refine ws_nil [] trivial (by simp) ?_
      intro ps12
      simp only [fin, List.foldl_nil, List.map, List.nil_append]
      refine we_then ?_
      refine wc_ret ?_
      refine we_ret1 (.bool (inB g.slack 16777216)) rfl rfl rfl (fun w1 hE => ?_)
      have e0 : grpB G g = inB g.slack 16777216 := by
       cases k : inB g.slack 16777216 with
       | true => exact grp_yes ⟨by omega, by omega, by omega, in_of h8, in_of h10, in_of k⟩
       | false => exact grp_no (fun z => not_in k z.sl)
      exact ⟨by rw [e0], hE.below⟩
set_option maxHeartbeats 8000000 in
theorem check_any (G : List Sg) (H : List Gp) (p q : Option Addr) (c d : Nat) (w : World) (hS : Reads w p (flat sg G)) (hG : OkS w G) (hH : Reads w q (flat gp H)) (hn : G.length ≤ 140737488355328) (hm : H.length ≤ 140737488355328) :
  Calls Try.prog 20 #[.agg #[.slice p G.length c, .slice q H.length d]] w fun e w' => e = .returned (.tuple #[.int .i64 (((chk G H).1 : Nat) : Int), .int .i64 (((chk G H).2 : Nat) : Int)]) ∧ Below w.heap.size w w' := by
 refine calls_sx Try.func20 rfl ?_
 simp only [Try.ntmps20, List.size_toArray, List.length_cons, List.length_nil, Nat.reduceAdd, Nat.reduceSub, Array.replicate_succ, Array.replicate_zero, List.push_toArray, List.append_toArray, List.nil_append, List.cons_append]
 refine wc_seq ?_
 refine wc_region ?_
 refine wl_new 34 (#[.slice p G.length c, .slice q H.length d]) rfl (fun _ => by go_simp) ?_
 intro g1
 simp only [Act.put, Xa, Xz, Xs]
 refine wl_val (.int .i64 0) rfl (fun _ => rfl) ?_
 simp only [Act.put, Xa, Xz, Xs]
 refine wl_val (.int .i64 0) rfl (fun _ => rfl) ?_
 simp only [Act.put, Xa, Xz, Xs]
 refine wl_nil ?_
 refine we_then ?_
 refine wc_seq ?_
 refine wc_region ?_
 refine wl_val (.pointer (some ⟨g1, 0, none⟩)) rfl (fun _ => by go_simp) ?_
 simp only [Act.put, Xa, Xz, Xs]
 refine wl_cell 31 (.tmp 10) (.slice p G.length c) (own_row 0 rfl) rfl rfl rfl rfl Try.isAgg31 ?_
 simp only [Act.put, Xa, Xz, Xs]
 refine wl_val (.int .i64 (G.length : Int)) rfl (fun w => er_len rfl rfl Try.underlying31 w) ?_
 simp only [Act.put, Xa, Xz, Xs]
 refine wl_val (.int .i64 (G.length : Int)) rfl (fun _ => rfl) ?_
 simp only [Act.put, Xa, Xz, Xs]
 refine wl_nil ?_
 refine we_then ?_
 refine wc_seq ?_
 refine wc_seq ?_
 refine wc_region ?_
 refine wl_val (.int .i64 (G.length : Int)) rfl (fun _ => rfl) ?_
 simp only [Act.put, Xa, Xz, Xs]
 refine wl_val (.bool (decide ((G.length : Int) < 1))) rfl (fun w => run_cmp rfl rfl rfl Try.underlying3 rfl w) ?_
 simp only [Act.put, Xa, Xz, Xs]
 refine wl_val (.bool (decide ((G.length : Int) < 1))) rfl (fun _ => rfl) ?_
 simp only [Act.put, Xa, Xz, Xs]
 cases h2 : (decide ((G.length : Int) < 1))
 ·
  skip
  have p2 : ¬ ((G.length : Int) < 1) := of_decide_eq_false h2
  refine wl_val (.int .i64 (G.length : Int)) rfl (fun _ => rfl) ?_
  simp only [Act.put, Xa, Xz, Xs]
  refine wl_val (.bool (decide (200 < (G.length : Int)))) rfl (fun w => run_cmp rfl rfl rfl Try.underlying3 rfl w) ?_
  simp only [Act.put, Xa, Xz, Xs]
  refine wl_val (.bool (decide (200 < (G.length : Int)))) rfl (fun _ => rfl) ?_
  simp only [Act.put, Xa, Xz, Xs]
  refine wl_val (.bool (decide (200 < (G.length : Int)))) rfl (fun _ => rfl) ?_
  simp only [Act.put, Xa, Xz, Xs]
  cases h3 : (decide (200 < (G.length : Int)))
  ·
   skip
   have p3 : ¬ (200 < (G.length : Int)) := of_decide_eq_false h3
   refine wl_val (.pointer (some ⟨g1, 1, none⟩)) rfl (fun _ => by go_simp) ?_
   simp only [Act.put, Xa, Xz, Xs]
   refine wl_cell 32 (.tmp 20) (.slice q H.length d) (own_row 0 rfl) rfl rfl rfl rfl Try.isAgg32 ?_
   simp only [Act.put, Xa, Xz, Xs]
   refine wl_val (.int .i64 (H.length : Int)) rfl (fun w => er_len rfl rfl Try.underlying32 w) ?_
   simp only [Act.put, Xa, Xz, Xs]
   refine wl_val (.bool (decide (400 < (H.length : Int)))) rfl (fun w => run_cmp rfl rfl rfl Try.underlying3 rfl w) ?_
   simp only [Act.put, Xa, Xz, Xs]
   refine wl_val (.bool (decide (400 < (H.length : Int)))) rfl (fun _ => rfl) ?_
   simp only [Act.put, Xa, Xz, Xs]
   refine wl_nil ?_
   refine we_then ?_
   cases h4 : (decide (400 < (H.length : Int)))
   ·
    skip
    have p4 : ¬ (400 < (H.length : Int)) := of_decide_eq_false h4
    refine wc_false rfl ?_
    refine wc_skip ?_
    refine we_then ?_
    refine wc_seq ?_
    refine wc_seq ?_
    refine wc_region ?_
    refine wl_val (.pointer (some ⟨g1, 0, none⟩)) rfl (fun _ => by go_simp) ?_
    simp only [Act.put, Xa, Xz, Xs]
    refine wl_cell 31 (.tmp 25) (.slice p G.length c) (own_row 0 rfl) rfl rfl rfl rfl Try.isAgg31 ?_
    simp only [Act.put, Xa, Xz, Xs]
    refine wl_val (.int .i64 (G.length : Int)) rfl (fun w => er_len rfl rfl Try.underlying31 w) ?_
    simp only [Act.put, Xa, Xz, Xs]
    refine wl_val (.int .i64 0) rfl (fun _ => rfl) ?_
    simp only [Act.put, Xa, Xz, Xs]
    refine wl_nil ?_
    refine we_then ?_
    refine wc_block ?_
    refine wc_loop (fun (zz : Nat × Value × Value × Value × Value × Value × Value × Value × Value × Value × Value × Value × Value × Value × Value) => match zz with | ⟨i, u2, u3, u5, u6, u29, u30, u31, u32, u33, u34, u35, u36, u37, u38⟩ => ({ tmps := #[.agg #[.slice p G.length c, .slice q H.length d], .pointer (some ⟨g1, 0, none⟩), u2, u3, .int .i64 (G.length : Int), u5, u6, undef, undef, undef, .pointer (some ⟨g1, 0, none⟩), .slice p G.length c, .int .i64 (G.length : Int), .int .i64 (G.length : Int), .bool false, .bool false, .int .i64 (G.length : Int), .bool false, .bool false, .bool false, .pointer (some ⟨g1, 1, none⟩), .slice q H.length d, .int .i64 (H.length : Int), .bool false, .bool false, .pointer (some ⟨g1, 0, none⟩), .slice p G.length c, .int .i64 (G.length : Int), .int .i64 (i : Int), u29, u30, u31, u32, u33, u34, u35, u36, u37, u38, undef, undef, undef, undef, undef, undef, undef, undef, undef, undef, undef, undef, undef, undef, undef, undef, undef, undef, undef, undef, undef, undef, undef], defers := [] } : Act)) (fun (zz : Nat × Value × Value × Value × Value × Value × Value × Value × Value × Value × Value × Value × Value × Value × Value) => match zz with | ⟨i, u2, u3, u5, u6, u29, u30, u31, u32, u33, u34, u35, u36, u37, u38⟩ => [⟨g1, #[.slice p G.length c, .slice q H.length d], 34⟩]) (fun (zz : Nat × Value × Value × Value × Value × Value × Value × Value × Value × Value × Value × Value × Value × Value × Value) => match zz with | ⟨i, u2, u3, u5, u6, u29, u30, u31, u32, u33, u34, u35, u36, u37, u38⟩ => i ≤ G.length ∧ ∀ j, j < i → SegMay (G[j]!) G.length) (fun (zz : Nat × Value × Value × Value × Value × Value × Value × Value × Value × Value × Value × Value × Value × Value × Value) => match zz with | ⟨i, u2, u3, u5, u6, u29, u30, u31, u32, u33, u34, u35, u36, u37, u38⟩ => G.length - i) ⟨0, _, _, _, _, _, _, _, _, _, _, _, _, _, _⟩ ⟨Nat.zero_le _, fun j hj => absurd hj (Nat.not_lt_zero j)⟩ rfl (List.Sublist.cons_cons _ List.Sublist.slnil) ?_
    rintro ⟨i, u2, u3, u5, u6, u29, u30, u31, u32, u33, u34, u35, u36, u37, u38⟩ hφ
    (try dsimp only at hφ ⊢)
    obtain ⟨b1, b2⟩ := hφ
    refine wc_seq ?_
    refine wc_region ?_
    refine wl_val (.bool (decide ((i : Int) < (G.length : Int)))) rfl (fun w => run_cmp rfl rfl rfl Try.underlying3 rfl w) ?_
    simp only [Act.put, Xa, Xz, Xs]
    refine wl_nil ?_
    refine we_then ?_
    refine wc_seq ?_
    cases h5 : (decide ((i : Int) < (G.length : Int)))
    ·
     skip
     have p5 : ¬ ((i : Int) < (G.length : Int)) := of_decide_eq_false h5
     refine wc_false rfl ?_
     refine wc_exit ?_
     refine we_then_exit ?_
     refine we_then_exit ?_
     refine we_in_here ?_
     refine we_then ?_
     refine wc_seq ?_
     have a2 : ∀ j, j < G.length → SegMay (G[j]!) G.length := fun j hj => b2 j (by omega)
     clear b2 b1
     refine wc_region ?_
     refine wl_val (.int .i64 0) rfl (fun _ => rfl) ?_
     simp only [Act.put, Xa, Xz, Xs]
     refine wl_nil ?_
     refine we_then ?_
     refine wc_seq ?_
     refine wc_seq ?_
     refine wc_region ?_
     refine wl_val (.pointer (some ⟨g1, 1, none⟩)) rfl (fun _ => by go_simp) ?_
     simp only [Act.put, Xa, Xz, Xs]
     refine wl_cell 32 (.tmp 39) (.slice q H.length d) (own_row 0 rfl) rfl rfl rfl rfl Try.isAgg32 ?_
     simp only [Act.put, Xa, Xz, Xs]
     refine wl_val (.int .i64 (H.length : Int)) rfl (fun w => er_len rfl rfl Try.underlying32 w) ?_
     simp only [Act.put, Xa, Xz, Xs]
     refine wl_val (.int .i64 0) rfl (fun _ => rfl) ?_
     simp only [Act.put, Xa, Xz, Xs]
     refine wl_nil ?_
     refine we_then ?_
     refine wc_block ?_
     refine wc_loop (fun (zz : Nat × Int × Value × Value × Value × Value × Value × Value × Value × Value × Value × Value × Value × Value × Value × Value × Value × Value × Value × Value × Value × Value × Value × Value × Value) => match zz with | ⟨r, z, u2, u3, u8, u9, u43, u44, u45, u46, u47, u48, u49, u50, u51, u52, u53, u54, u55, u56, u57, u58, u59, u60, u61⟩ => ({ tmps := #[.agg #[.slice p G.length c, .slice q H.length d], .pointer (some ⟨g1, 0, none⟩), u2, u3, .int .i64 (G.length : Int), u5, u6, .int .i64 z, u8, u9, .pointer (some ⟨g1, 0, none⟩), .slice p G.length c, .int .i64 (G.length : Int), .int .i64 (G.length : Int), .bool false, .bool false, .int .i64 (G.length : Int), .bool false, .bool false, .bool false, .pointer (some ⟨g1, 1, none⟩), .slice q H.length d, .int .i64 (H.length : Int), .bool false, .bool false, .pointer (some ⟨g1, 0, none⟩), .slice p G.length c, .int .i64 (G.length : Int), .int .i64 (i : Int), .bool false, u30, u31, u32, u33, u34, u35, u36, u37, u38, .pointer (some ⟨g1, 1, none⟩), .slice q H.length d, .int .i64 (H.length : Int), .int .i64 (r : Int), u43, u44, u45, u46, u47, u48, u49, u50, u51, u52, u53, u54, u55, u56, u57, u58, u59, u60, u61], defers := [] } : Act)) (fun (zz : Nat × Int × Value × Value × Value × Value × Value × Value × Value × Value × Value × Value × Value × Value × Value × Value × Value × Value × Value × Value × Value × Value × Value × Value × Value) => match zz with | ⟨r, z, u2, u3, u8, u9, u43, u44, u45, u46, u47, u48, u49, u50, u51, u52, u53, u54, u55, u56, u57, u58, u59, u60, u61⟩ => [⟨g1, #[.slice p G.length c, .slice q H.length d], 34⟩]) (fun (zz : Nat × Int × Value × Value × Value × Value × Value × Value × Value × Value × Value × Value × Value × Value × Value × Value × Value × Value × Value × Value × Value × Value × Value × Value × Value) => match zz with | ⟨r, z, u2, u3, u8, u9, u43, u44, u45, u46, u47, u48, u49, u50, u51, u52, u53, u54, u55, u56, u57, u58, u59, u60, u61⟩ => r ≤ H.length ∧ (∀ j, j < r → GrpMay G H j) ∧ z = lastId H r) (fun (zz : Nat × Int × Value × Value × Value × Value × Value × Value × Value × Value × Value × Value × Value × Value × Value × Value × Value × Value × Value × Value × Value × Value × Value × Value × Value) => match zz with | ⟨r, z, u2, u3, u8, u9, u43, u44, u45, u46, u47, u48, u49, u50, u51, u52, u53, u54, u55, u56, u57, u58, u59, u60, u61⟩ => H.length - r) ⟨0, 0, _, _, _, _, _, _, _, _, _, _, _, _, _, _, _, _, _, _, _, _, _, _, _⟩ ⟨Nat.zero_le _, fun j hj => absurd hj (Nat.not_lt_zero j), rfl⟩ rfl (List.Sublist.cons_cons _ List.Sublist.slnil) ?_
     rintro ⟨r, z, u2, u3, u8, u9, u43, u44, u45, u46, u47, u48, u49, u50, u51, u52, u53, u54, u55, u56, u57, u58, u59, u60, u61⟩ hφ
     (try dsimp only at hφ ⊢)
     obtain ⟨b1, b2, b3⟩ := hφ
     refine wc_seq ?_
     refine wc_region ?_
     refine wl_val (.bool (decide ((r : Int) < (H.length : Int)))) rfl (fun w => run_cmp rfl rfl rfl Try.underlying3 rfl w) ?_
     simp only [Act.put, Xa, Xz, Xs]
     refine wl_nil ?_
     refine we_then ?_
     refine wc_seq ?_
     cases h6 : (decide ((r : Int) < (H.length : Int)))
     ·
      skip
      have p6 : ¬ ((r : Int) < (H.length : Int)) := of_decide_eq_false h6
      refine wc_false rfl ?_
      refine wc_exit ?_
      refine we_then_exit ?_
      refine we_then_exit ?_
      refine we_in_here ?_
      refine we_then ?_
      refine wc_seq ?_
      refine wc_region ?_
      refine wl_val (.int .i64 0) rfl (fun _ => rfl) ?_
      simp only [Act.put, Xa, Xz, Xs]
      refine wl_val (.int .i64 0) rfl (fun _ => rfl) ?_
      simp only [Act.put, Xa, Xz, Xs]
      refine wl_nil ?_
      refine we_then ?_
      refine wc_ret ?_
      refine we_ret2 (.int .i64 0) (.int .i64 0) rfl rfl rfl rfl (fun w1 hE => ?_)
      have e0 : chk G H = (0, 0) := chk_eq (.inr (.inr (.inr ⟨⟨by omega, by omega, by omega⟩, a2, fun j hj => b2 j (by omega), rfl⟩)))
      exact ⟨by rw [e0]; rfl, hE.below⟩
     ·
      skip
      have p6 : (r : Int) < (H.length : Int) := of_decide_eq_true h6
      refine wc_true rfl ?_
      refine wc_skip ?_
      refine we_then ?_
      refine wc_seq ?_
      refine wc_block ?_
      refine wc_seq ?_
      refine wc_region ?_
      refine wl_val (.int .i64 (r : Int)) rfl (fun _ => rfl) ?_
      simp only [Act.put, Xa, Xz, Xs]
      refine wl_read (eaddr q (r * 5)) rfl (er_index r 5 (sl_old hH) rfl rfl rfl rfl (by omega) (flat_length (enc := gp) (size := 5) (fun _ => rfl) _) (by decide) Try.underlying32 (by kernel_rfl)) ?_
      simp only [Act.put, Xa, Xz, Xs]
      refine wl_read (.agg #[.int .i64 ((H[r]!).id), .int .i64 ((H[r]!).seg), .int .i64 ((H[r]!).off), .int .i64 ((H[r]!).acc), .int .i64 ((H[r]!).slack)]) rfl (er_part (r * 5) [.int .i64 ((H[r]!).id), .int .i64 ((H[r]!).seg), .int .i64 ((H[r]!).off), .int .i64 ((H[r]!).acc), .int .i64 ((H[r]!).slack)] (sl_old hH) rfl rfl (flat_part (enc := gp) (fun _ => rfl) H r (by omega)) (Nat.zero_lt_succ _) Try.underlying59 rfl (by kernel_rfl)) ?_
      simp only [Act.put, Xa, Xz, Xs]
      refine wl_new 59 (#[.int .i64 0, .int .i64 0, .int .i64 0, .int .i64 0, .int .i64 0]) rfl (fun _ => by go_simp) ?_
      intro g7
      simp only [Act.put, Xa, Xz, Xs]
      refine wl_val (.int .i64 (r : Int)) rfl (fun _ => rfl) ?_
      simp only [Act.put, Xa, Xz, Xs]
      refine wl_store 0 59 (.tmp 9) (.tmp 46) (#[.int .i64 ((H[r]!).id), .int .i64 ((H[r]!).seg), .int .i64 ((H[r]!).off), .int .i64 ((H[r]!).acc), .int .i64 ((H[r]!).slack)]) rfl rfl rfl rfl rfl (by kernel_rfl) rfl (by simp [Value.oneCell']) ?_
      simp only [Act.put, List.set_cons_zero]
      refine wl_nil ?_
      refine we_then ?_
      refine wc_seq ?_
      refine wc_seq ?_
      refine wc_region ?_
      refine wl_val (.pointer (some ⟨g7, 0, none⟩)) rfl (fun _ => by go_simp) ?_
      simp only [Act.put, Xa, Xz, Xs]
      refine wl_cell 3 (.tmp 47) (.int .i64 ((H[r]!).id)) (own_row 0 rfl) rfl rfl rfl rfl Try.isAgg3 ?_
      simp only [Act.put, Xa, Xz, Xs]
      refine wl_val (.int .i64 z) rfl (fun _ => rfl) ?_
      simp only [Act.put, Xa, Xz, Xs]
      refine wl_val (.bool (decide ((H[r]!).id ≤ z))) rfl (fun w => run_cmp rfl rfl rfl Try.underlying3 rfl w) ?_
      simp only [Act.put, Xa, Xz, Xs]
      refine wl_val (.bool (decide ((H[r]!).id ≤ z))) rfl (fun _ => rfl) ?_
      simp only [Act.put, Xa, Xz, Xs]
      cases h8 : (decide ((H[r]!).id ≤ z))
      ·
       skip
       have p8 : ¬ ((H[r]!).id ≤ z) := of_decide_eq_false h8
       refine wl_load 59 (.tmp 9) (own_row 0 rfl) rfl rfl rfl Try.underlying59 rfl (by kernel_rfl) ?_
       simp only [Act.put, Xa, Xz, Xs]
       refine wl_val (.pointer (some ⟨g1, 0, none⟩)) rfl (fun _ => by go_simp) ?_
       simp only [Act.put, Xa, Xz, Xs]
       refine wl_cell 31 (.tmp 53) (.slice p G.length c) (own_row 1 rfl) rfl rfl rfl rfl Try.isAgg31 ?_
       simp only [Act.put, Xa, Xz, Xs]
       refine wl_call_at 40 #[.agg #[.int .i64 ((H[r]!).id), .int .i64 ((H[r]!).seg), .int .i64 ((H[r]!).off), .int .i64 ((H[r]!).acc), .int .i64 ((H[r]!).slack)], .slice p G.length c] (.bool (grpB G (H[r]!))) rfl (fun _ => by go_simp) (fun W hE => group_any G (H[r]!) _ _ W ((sl_old hS) W hE) (by omega)) ?_
       simp only [Act.put, Xa, Xz, Xs]
       refine wl_val (.bool (!(grpB G (H[r]!)))) rfl (fun _ => by go_simp) ?_
       simp only [Act.put, Xa, Xz, Xs]
       refine wl_val (.bool (!(grpB G (H[r]!)))) rfl (fun _ => rfl) ?_
       simp only [Act.put, Xa, Xz, Xs]
       refine wl_nil ?_
       refine we_then ?_
       cases h9 : (grpB G (H[r]!))
       ·
        skip
        refine wc_true rfl ?_
        refine wc_seq ?_
        refine wc_region ?_
        refine wl_val (.int .i64 (r : Int)) rfl (fun _ => rfl) ?_
        simp only [Act.put, Xa, Xz, Xs]
        refine wl_val (.int .i64 16) rfl (fun _ => rfl) ?_
        simp only [Act.put, Xa, Xz, Xs]
        refine wl_val (.int .i64 (r : Int)) rfl (fun _ => rfl) ?_
        simp only [Act.put, Xa, Xz, Xs]
        refine wl_nil ?_
        refine we_then ?_
        refine wc_ret ?_
        refine we_then_ret ?_
        refine we_in_ret ?_
        refine we_then_ret ?_
        refine we_then_ret ?_
        refine we_in_ret ?_
        refine we_then_ret ?_
        refine we_ret2 (.int .i64 16) (.int .i64 (r : Int)) rfl rfl rfl rfl (fun w1 hE => ?_)
        have e0 : chk G H = (16, r) := chk_eq (.inr (.inr (.inl ⟨⟨by omega, by omega, by omega⟩, a2, rfl, (show r < H.length by omega), (fun (k : GrpMay G H r) => not_grp h9 (grp_in k)), b2⟩)))
        exact ⟨by rw [e0]; rfl, hE.below⟩
       ·
        skip
        refine wc_false rfl ?_
        refine wc_skip ?_
        refine we_then ?_
        refine wc_region ?_
        refine wl_val (.pointer (some ⟨g7, 0, none⟩)) rfl (fun _ => by go_simp) ?_
        simp only [Act.put, Xa, Xz, Xs]
        refine wl_cell 3 (.tmp 59) (.int .i64 ((H[r]!).id)) (own_row 0 rfl) rfl rfl rfl rfl Try.isAgg3 ?_
        simp only [Act.put, Xa, Xz, Xs]
        refine wl_val (.int .i64 ((H[r]!).id)) rfl (fun _ => rfl) ?_
        simp only [Act.put, Xa, Xz, Xs]
        refine wl_nil ?_
        refine we_in ?_
        refine we_then ?_
        refine wc_region ?_
        refine wl_val (.int .i64 ((r + 1 : Nat) : Int)) rfl (fun w => run_nat (X := r) (Y := 1) (Z := r + 1) rfl rfl rfl rfl (by omega) w) ?_
        simp only [Act.put, Xa, Xz, Xs]
        refine wl_val (.int .i64 ((r + 1 : Nat) : Int)) rfl (fun _ => rfl) ?_
        simp only [Act.put, Xa, Xz, Xs]
        refine wl_nil ?_
        exact we_meet ⟨(r + 1), (H[r]!).id, _, _, _, _, _, _, _, _, _, _, _, _, _, _, _, _, _, _, _, _, _, _, _⟩ ⟨⟨by (try dsimp only); omega, fun j hj => by rcases Nat.lt_or_eq_of_le (Nat.le_of_lt_succ hj) with h | h; exact b2 j h; subst h; exact grp_may (by omega) (grp_of h9), rfl⟩, by (try dsimp only); omega⟩ rfl (List.Sublist.cons _ (List.Sublist.cons_cons _ List.Sublist.slnil))
      ·
       skip
       have p8 : (H[r]!).id ≤ z := of_decide_eq_true h8
       refine wl_skip rfl ?_
       simp only [Act.put, Xa, Xz, Xs]
       refine wl_skip rfl ?_
       simp only [Act.put, Xa, Xz, Xs]
       refine wl_skip rfl ?_
       simp only [Act.put, Xa, Xz, Xs]
       refine wl_skip rfl ?_
       simp only [Act.put, Xa, Xz, Xs]
       refine wl_skip rfl ?_
       simp only [Act.put, Xa, Xz, Xs]
       refine wl_val (.bool true) rfl (fun _ => rfl) ?_
       simp only [Act.put, Xa, Xz, Xs]
       refine wl_nil ?_
       refine we_then ?_
       refine wc_true rfl ?_
       refine wc_seq ?_
       refine wc_region ?_
       refine wl_val (.int .i64 (r : Int)) rfl (fun _ => rfl) ?_
       simp only [Act.put, Xa, Xz, Xs]
       refine wl_val (.int .i64 16) rfl (fun _ => rfl) ?_
       simp only [Act.put, Xa, Xz, Xs]
       refine wl_val (.int .i64 (r : Int)) rfl (fun _ => rfl) ?_
       simp only [Act.put, Xa, Xz, Xs]
       refine wl_nil ?_
       refine we_then ?_
       refine wc_ret ?_
       refine we_then_ret ?_
       refine we_in_ret ?_
       refine we_then_ret ?_
       refine we_then_ret ?_
       refine we_in_ret ?_
       refine we_then_ret ?_
       refine we_ret2 (.int .i64 16) (.int .i64 (r : Int)) rfl rfl rfl rfl (fun w1 hE => ?_)
       have e0 : chk G H = (16, r) := chk_eq (.inr (.inr (.inl ⟨⟨by omega, by omega, by omega⟩, a2, rfl, (show r < H.length by omega), (fun (k : GrpMay G H r) => by have k1 := k.up; rw [← b3] at k1; omega), b2⟩)))
       exact ⟨by rw [e0]; rfl, hE.below⟩
    ·
     skip
     have p5 : (i : Int) < (G.length : Int) := of_decide_eq_true h5
     refine wc_true rfl ?_
     refine wc_skip ?_
     refine we_then ?_
     refine wc_seq ?_
     refine wc_block ?_
     refine wc_seq ?_
     refine wc_region ?_
     refine wl_val (.int .i64 (i : Int)) rfl (fun _ => rfl) ?_
     simp only [Act.put, Xa, Xz, Xs]
     refine wl_read (eaddr p (i * 3)) rfl (er_index i 3 (sl_old hS) rfl rfl rfl rfl (by omega) (flat_length (enc := sg) (size := 3) (fun _ => rfl) _) (by decide) Try.underlying31 (by kernel_rfl)) ?_
     simp only [Act.put, Xa, Xz, Xs]
     refine wl_read (.agg #[.int .i64 ((G[i]!).len), .slice ((G[i]!).pp) ((G[i]!).P.length) ((G[i]!).pc), .slice ((G[i]!).np) ((G[i]!).X.length) ((G[i]!).nc)]) rfl (er_part (i * 3) [.int .i64 ((G[i]!).len), .slice ((G[i]!).pp) ((G[i]!).P.length) ((G[i]!).pc), .slice ((G[i]!).np) ((G[i]!).X.length) ((G[i]!).nc)] (sl_old hS) rfl rfl (flat_part (enc := sg) (fun _ => rfl) G i (by omega)) (Nat.zero_lt_succ _) Try.underlying57 rfl (by kernel_rfl)) ?_
     simp only [Act.put, Xa, Xz, Xs]
     refine wl_new 57 (#[.int .i64 0, .slice none 0 0, .slice none 0 0]) rfl (fun _ => by go_simp) ?_
     intro g10
     simp only [Act.put, Xa, Xz, Xs]
     refine wl_val (.int .i64 (i : Int)) rfl (fun _ => rfl) ?_
     simp only [Act.put, Xa, Xz, Xs]
     refine wl_store 0 57 (.tmp 6) (.tmp 32) (#[.int .i64 ((G[i]!).len), .slice ((G[i]!).pp) ((G[i]!).P.length) ((G[i]!).pc), .slice ((G[i]!).np) ((G[i]!).X.length) ((G[i]!).nc)]) rfl rfl rfl rfl rfl (by kernel_rfl) rfl (by simp [Value.oneCell']) ?_
     simp only [Act.put, List.set_cons_zero]
     refine wl_nil ?_
     refine we_then ?_
     refine wc_seq ?_
     refine wc_region ?_
     refine wl_load 57 (.tmp 6) (own_row 0 rfl) rfl rfl rfl Try.underlying57 rfl (by kernel_rfl) ?_
     simp only [Act.put, Xa, Xz, Xs]
     refine wl_val (.int .i64 (G.length : Int)) rfl (fun _ => rfl) ?_
     simp only [Act.put, Xa, Xz, Xs]
     refine wl_call_at 39 #[.agg #[.int .i64 ((G[i]!).len), .slice ((G[i]!).pp) ((G[i]!).P.length) ((G[i]!).pc), .slice ((G[i]!).np) ((G[i]!).X.length) ((G[i]!).nc)], .int .i64 (G.length : Int)] (.bool (segB (G[i]!) (G.length : Int))) rfl (fun _ => by go_simp) (fun W hE => segment_any (G[i]!) (G.length : Int) W (oksg_below (sg_at hG (by omega)) hE.below)) ?_
     simp only [Act.put, Xa, Xz, Xs]
     refine wl_val (.bool (!(segB (G[i]!) (G.length : Int)))) rfl (fun _ => by go_simp) ?_
     simp only [Act.put, Xa, Xz, Xs]
     refine wl_nil ?_
     refine we_then ?_
     cases h11 : (segB (G[i]!) (G.length : Int))
     ·
      skip
      refine wc_true rfl ?_
      refine wc_seq ?_
      refine wc_region ?_
      refine wl_val (.int .i64 (i : Int)) rfl (fun _ => rfl) ?_
      simp only [Act.put, Xa, Xz, Xs]
      refine wl_val (.int .i64 11) rfl (fun _ => rfl) ?_
      simp only [Act.put, Xa, Xz, Xs]
      refine wl_val (.int .i64 (i : Int)) rfl (fun _ => rfl) ?_
      simp only [Act.put, Xa, Xz, Xs]
      refine wl_nil ?_
      refine we_then ?_
      refine wc_ret ?_
      refine we_in_ret ?_
      refine we_then_ret ?_
      refine we_then_ret ?_
      refine we_in_ret ?_
      refine we_then_ret ?_
      refine we_ret2 (.int .i64 11) (.int .i64 (i : Int)) rfl rfl rfl rfl (fun w1 hE => ?_)
      have e0 : chk G H = (11, i) := chk_eq (.inr (.inl ⟨⟨by omega, by omega, by omega⟩, rfl, (show i < G.length by omega), not_seg h11, b2⟩))
      exact ⟨by rw [e0]; rfl, hE.below⟩
     ·
      skip
      refine wc_false rfl ?_
      refine wc_skip ?_
      refine we_in ?_
      refine we_then ?_
      refine wc_region ?_
      refine wl_val (.int .i64 ((i + 1 : Nat) : Int)) rfl (fun w => run_nat (X := i) (Y := 1) (Z := i + 1) rfl rfl rfl rfl (by omega) w) ?_
      simp only [Act.put, Xa, Xz, Xs]
      refine wl_val (.int .i64 ((i + 1 : Nat) : Int)) rfl (fun _ => rfl) ?_
      simp only [Act.put, Xa, Xz, Xs]
      refine wl_nil ?_
      exact we_meet ⟨(i + 1), _, _, _, _, _, _, _, _, _, _, _, _, _, _⟩ ⟨⟨by (try dsimp only); omega, fun j hj => by rcases Nat.lt_or_eq_of_le (Nat.le_of_lt_succ hj) with h | h; exact b2 j h; subst h; exact seg_of h11⟩, by (try dsimp only); omega⟩ rfl (List.Sublist.cons _ (List.Sublist.cons_cons _ List.Sublist.slnil))
   ·
    skip
    have p4 : 400 < (H.length : Int) := of_decide_eq_true h4
    refine wc_true rfl ?_
    refine wc_seq ?_
    refine wc_region ?_
    refine wl_val (.int .i64 13) rfl (fun _ => rfl) ?_
    simp only [Act.put, Xa, Xz, Xs]
    refine wl_val (.int .i64 0) rfl (fun _ => rfl) ?_
    simp only [Act.put, Xa, Xz, Xs]
    refine wl_nil ?_
    refine we_then ?_
    refine wc_ret ?_
    refine we_then_ret ?_
    refine we_ret2 (.int .i64 13) (.int .i64 0) rfl rfl rfl rfl (fun w1 hE => ?_)
    have e0 : chk G H = (13, 0) := chk_eq (.inl ⟨fun k => by have k1 := k.1; have k2 := k.2.1; have k3 := k.2.2; omega, rfl⟩)
    exact ⟨by rw [e0]; rfl, hE.below⟩
  ·
   skip
   have p3 : 200 < (G.length : Int) := of_decide_eq_true h3
   refine wl_skip rfl ?_
   simp only [Act.put, Xa, Xz, Xs]
   refine wl_skip rfl ?_
   simp only [Act.put, Xa, Xz, Xs]
   refine wl_skip rfl ?_
   simp only [Act.put, Xa, Xz, Xs]
   refine wl_skip rfl ?_
   simp only [Act.put, Xa, Xz, Xs]
   refine wl_val (.bool true) rfl (fun _ => rfl) ?_
   simp only [Act.put, Xa, Xz, Xs]
   refine wl_nil ?_
   refine we_then ?_
   refine wc_true rfl ?_
   refine wc_seq ?_
   refine wc_region ?_
   refine wl_val (.int .i64 13) rfl (fun _ => rfl) ?_
   simp only [Act.put, Xa, Xz, Xs]
   refine wl_val (.int .i64 0) rfl (fun _ => rfl) ?_
   simp only [Act.put, Xa, Xz, Xs]
   refine wl_nil ?_
   refine we_then ?_
   refine wc_ret ?_
   refine we_then_ret ?_
   refine we_ret2 (.int .i64 13) (.int .i64 0) rfl rfl rfl rfl (fun w1 hE => ?_)
   have e0 : chk G H = (13, 0) := chk_eq (.inl ⟨fun k => by have k1 := k.1; have k2 := k.2.1; have k3 := k.2.2; omega, rfl⟩)
   exact ⟨by rw [e0]; rfl, hE.below⟩
 ·
  skip
  have p2 : (G.length : Int) < 1 := of_decide_eq_true h2
  refine wl_skip rfl ?_
  simp only [Act.put, Xa, Xz, Xs]
  refine wl_skip rfl ?_
  simp only [Act.put, Xa, Xz, Xs]
  refine wl_val (.bool true) rfl (fun _ => rfl) ?_
  simp only [Act.put, Xa, Xz, Xs]
  refine wl_val (.bool true) rfl (fun _ => rfl) ?_
  simp only [Act.put, Xa, Xz, Xs]
  refine wl_skip rfl ?_
  simp only [Act.put, Xa, Xz, Xs]
  refine wl_skip rfl ?_
  simp only [Act.put, Xa, Xz, Xs]
  refine wl_skip rfl ?_
  simp only [Act.put, Xa, Xz, Xs]
  refine wl_skip rfl ?_
  simp only [Act.put, Xa, Xz, Xs]
  refine wl_val (.bool true) rfl (fun _ => rfl) ?_
  simp only [Act.put, Xa, Xz, Xs]
  refine wl_nil ?_
  refine we_then ?_
  refine wc_true rfl ?_
  refine wc_seq ?_
  refine wc_region ?_
  refine wl_val (.int .i64 13) rfl (fun _ => rfl) ?_
  simp only [Act.put, Xa, Xz, Xs]
  refine wl_val (.int .i64 0) rfl (fun _ => rfl) ?_
  simp only [Act.put, Xa, Xz, Xs]
  refine wl_nil ?_
  refine we_then ?_
  refine wc_ret ?_
  refine we_then_ret ?_
  refine we_ret2 (.int .i64 13) (.int .i64 0) rfl rfl rfl rfl (fun w1 hE => ?_)
  have e0 : chk G H = (13, 0) := chk_eq (.inl ⟨fun k => by have k1 := k.1; have k2 := k.2.1; have k3 := k.2.2; omega, rfl⟩)
  exact ⟨by rw [e0]; rfl, hE.below⟩
end Go.Proofs.Ytodenlojbbpfaaa.Tra
