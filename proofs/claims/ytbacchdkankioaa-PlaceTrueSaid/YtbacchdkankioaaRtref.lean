/-
 The reference of layer 14 (routes): where a route ends, which comes first, a route into its place. Condition: at most 2^47 of each.
-/
import Derived.Test.YtbacchdkankioaaMrt
namespace Go.Proofs.Ytbacchdkankioaa.Rtref
open Go.ChangeShapes Go.WideShapes Go.ChangeAt Go.RowKit
open Arr Steady Sx Sw Sl Sb Sc Si Sj Sk Sh Vs Gr Tk Tkh Tkl Rt Rtm
set_option linter.unusedVariables false
set_option linter.unusedSimpArgs false
set_option maxRecDepth 100000

set_option maxHeartbeats 2000000 in
theorem less_any (A B : List Int) (a b : Option Addr) (c d : Nat) (w : World) (hA : Reads w a (flat enc1 A)) (hB : Reads w b (flat enc1 B)) (hn : A.length ≤ 140737488355328) (hm : B.length ≤ 140737488355328) :
  Calls Try.prog 59 #[.slice a A.length c, .slice b B.length d] w fun e w' => e = .returned (.bool (ltB A B)) ∧ Below w.heap.size w w' := by
 refine calls_sx Try.func59 rfl ?_
 simp only [Try.ntmps59, List.size_toArray, List.length_cons, List.length_nil, Nat.reduceAdd, Nat.reduceSub, Array.replicate_succ, Array.replicate_zero, List.push_toArray, List.append_toArray, List.nil_append, List.cons_append]
 refine wc_seq ?_
 refine wc_region ?_
 refine wl_val (.bool false) rfl (fun _ => rfl) ?_
 simp only [Act.put, Xa, Xz, Xs]
 refine wl_nil ?_
 refine we_then ?_
 refine wc_seq ?_
 refine wc_seq ?_
 refine wc_region ?_
 refine wl_val (.int .i64 0) rfl (fun _ => rfl) ?_
 simp only [Act.put, Xa, Xz, Xs]
 refine wl_nil ?_
 refine we_then ?_
 refine wc_block ?_
 refine wc_loop (fun (zz : Nat × Value × Value × Value × Value × Value × Value × Value × Value × Value × Value × Value × Value × Value × Value × Value × Value × Value × Value × Value × Value × Value × Value × Value × Value × Value × Value × Value × Value × Value) => match zz with | ⟨i, u4, u6, u7, u8, u9, u10, u11, u12, u13, u14, u15, u16, u17, u18, u19, u20, u21, u22, u23, u24, u25, u26, u27, u28, u29, u30, u31, u32, u33⟩ => ({ tmps := #[.slice a A.length c, .slice b B.length d, undef, undef, u4, .int .i64 (i : Int), u6, u7, u8, u9, u10, u11, u12, u13, u14, u15, u16, u17, u18, u19, u20, u21, u22, u23, u24, u25, u26, u27, u28, u29, u30, u31, u32, u33, undef, undef, undef, undef, undef], defers := [] } : Act)) (fun (zz : Nat × Value × Value × Value × Value × Value × Value × Value × Value × Value × Value × Value × Value × Value × Value × Value × Value × Value × Value × Value × Value × Value × Value × Value × Value × Value × Value × Value × Value × Value) => match zz with | ⟨i, u4, u6, u7, u8, u9, u10, u11, u12, u13, u14, u15, u16, u17, u18, u19, u20, u21, u22, u23, u24, u25, u26, u27, u28, u29, u30, u31, u32, u33⟩ => []) (fun (zz : Nat × Value × Value × Value × Value × Value × Value × Value × Value × Value × Value × Value × Value × Value × Value × Value × Value × Value × Value × Value × Value × Value × Value × Value × Value × Value × Value × Value × Value × Value) => match zz with | ⟨i, u4, u6, u7, u8, u9, u10, u11, u12, u13, u14, u15, u16, u17, u18, u19, u20, u21, u22, u23, u24, u25, u26, u27, u28, u29, u30, u31, u32, u33⟩ => i ≤ 12 ∧ ∀ j, j < i → key A j = key B j) (fun (zz : Nat × Value × Value × Value × Value × Value × Value × Value × Value × Value × Value × Value × Value × Value × Value × Value × Value × Value × Value × Value × Value × Value × Value × Value × Value × Value × Value × Value × Value × Value) => match zz with | ⟨i, u4, u6, u7, u8, u9, u10, u11, u12, u13, u14, u15, u16, u17, u18, u19, u20, u21, u22, u23, u24, u25, u26, u27, u28, u29, u30, u31, u32, u33⟩ => 12 - i) ⟨0, _, _, _, _, _, _, _, _, _, _, _, _, _, _, _, _, _, _, _, _, _, _, _, _, _, _, _, _, _⟩ ⟨Nat.zero_le _, fun j hj => absurd hj (Nat.not_lt_zero j)⟩ rfl List.Sublist.slnil ?_
 rintro ⟨i, u4, u6, u7, u8, u9, u10, u11, u12, u13, u14, u15, u16, u17, u18, u19, u20, u21, u22, u23, u24, u25, u26, u27, u28, u29, u30, u31, u32, u33⟩ hφ
 (try dsimp only at hφ ⊢)
 obtain ⟨b1, b2⟩ := hφ
 refine wc_seq ?_
 refine wc_seq ?_
 refine wc_region ?_
 refine wl_val (.int .i64 (i : Int)) rfl (fun _ => rfl) ?_
 simp only [Act.put, Xa, Xz, Xs]
 refine wl_val (.bool (decide ((i : Int) < 12))) rfl (fun w => run_cmp rfl rfl rfl Try.underlying3 rfl w) ?_
 simp only [Act.put, Xa, Xz, Xs]
 refine wl_nil ?_
 refine we_then ?_
 cases h1 : (decide ((i : Int) < 12))
 ·
  skip
  have p1 : ¬ ((i : Int) < 12) := of_decide_eq_false h1
  refine wc_false rfl ?_
  refine wc_exit ?_
  refine we_then_exit ?_
  refine we_then_exit ?_
  refine we_in_here ?_
  refine we_then ?_
  refine wc_seq ?_
  refine wc_region ?_
  refine wl_val (.slice a A.length c) rfl (fun _ => rfl) ?_
  simp only [Act.put, Xa, Xz, Xs]
  refine wl_val (.int .i64 (A.length : Int)) rfl (fun w => er_len rfl rfl Try.underlying63 w) ?_
  simp only [Act.put, Xa, Xz, Xs]
  refine wl_val (.slice b B.length d) rfl (fun _ => rfl) ?_
  simp only [Act.put, Xa, Xz, Xs]
  refine wl_val (.int .i64 (B.length : Int)) rfl (fun w => er_len rfl rfl Try.underlying63 w) ?_
  simp only [Act.put, Xa, Xz, Xs]
  refine wl_val (.bool (decide ((A.length : Int) < (B.length : Int)))) rfl (fun w => run_cmp rfl rfl rfl Try.underlying3 rfl w) ?_
  simp only [Act.put, Xa, Xz, Xs]
  refine wl_val (.bool (decide ((A.length : Int) < (B.length : Int)))) rfl (fun _ => rfl) ?_
  simp only [Act.put, Xa, Xz, Xs]
  refine wl_nil ?_
  refine we_then ?_
  refine wc_ret ?_
  refine we_ret1 (.bool (decide ((A.length : Int) < (B.length : Int)))) rfl rfl rfl (fun w1 hE => ?_)
  exact ⟨by rw [lt_len (fun j hj => b2 j (by omega))], hE.below⟩
 ·
  skip
  have p1 : (i : Int) < 12 := of_decide_eq_true h1
  refine wc_true rfl ?_
  refine wc_skip ?_
  refine we_then ?_
  refine wc_seq ?_
  refine wc_block ?_
  refine wc_seq ?_
  refine wc_region ?_
  refine wl_val (.int .i64 0) rfl (fun _ => rfl) ?_
  simp only [Act.put, Xa, Xz, Xs]
  refine wl_nil ?_
  refine we_then ?_
  refine wc_seq ?_
  refine wc_region ?_
  refine wl_val (.int .i64 0) rfl (fun _ => rfl) ?_
  simp only [Act.put, Xa, Xz, Xs]
  refine wl_nil ?_
  refine we_then ?_
  refine wc_seq ?_
  refine wc_seq ?_
  refine wc_region ?_
  refine wl_val (.int .i64 (i : Int)) rfl (fun _ => rfl) ?_
  simp only [Act.put, Xa, Xz, Xs]
  refine wl_val (.slice a A.length c) rfl (fun _ => rfl) ?_
  simp only [Act.put, Xa, Xz, Xs]
  refine wl_val (.int .i64 (A.length : Int)) rfl (fun w => er_len rfl rfl Try.underlying63 w) ?_
  simp only [Act.put, Xa, Xz, Xs]
  refine wl_val (.bool (decide ((i : Int) < (A.length : Int)))) rfl (fun w => run_cmp rfl rfl rfl Try.underlying3 rfl w) ?_
  simp only [Act.put, Xa, Xz, Xs]
  refine wl_nil ?_
  refine we_then ?_
  cases h2 : (decide ((i : Int) < (A.length : Int)))
  ·
   skip
   have p2 : ¬ ((i : Int) < (A.length : Int)) := of_decide_eq_false h2
   refine wc_false rfl ?_
   refine wc_skip ?_
   refine we_then ?_
   refine wc_seq ?_
   refine wc_seq ?_
   refine wc_region ?_
   refine wl_val (.int .i64 (i : Int)) rfl (fun _ => rfl) ?_
   simp only [Act.put, Xa, Xz, Xs]
   refine wl_val (.slice b B.length d) rfl (fun _ => rfl) ?_
   simp only [Act.put, Xa, Xz, Xs]
   refine wl_val (.int .i64 (B.length : Int)) rfl (fun w => er_len rfl rfl Try.underlying63 w) ?_
   simp only [Act.put, Xa, Xz, Xs]
   refine wl_val (.bool (decide ((i : Int) < (B.length : Int)))) rfl (fun w => run_cmp rfl rfl rfl Try.underlying3 rfl w) ?_
   simp only [Act.put, Xa, Xz, Xs]
   refine wl_nil ?_
   refine we_then ?_
   cases h3 : (decide ((i : Int) < (B.length : Int)))
   ·
    skip
    have p3 : ¬ ((i : Int) < (B.length : Int)) := of_decide_eq_false h3
    refine wc_false rfl ?_
    refine wc_skip ?_
    refine we_then ?_
    refine wc_seq ?_
    refine wc_region ?_
    refine wl_val (.int .i64 0) rfl (fun _ => rfl) ?_
    simp only [Act.put, Xa, Xz, Xs]
    refine wl_val (.int .i64 0) rfl (fun _ => rfl) ?_
    simp only [Act.put, Xa, Xz, Xs]
    refine wl_val (.bool false) rfl (fun w => run_cmp rfl rfl rfl Try.underlying3 rfl w) ?_
    simp only [Act.put, Xa, Xz, Xs]
    refine wl_nil ?_
    refine we_then ?_
    refine wc_false rfl ?_
    refine wc_skip ?_
    refine we_in ?_
    refine we_then ?_
    refine wc_region ?_
    refine wl_val (.int .i64 (i : Int)) rfl (fun _ => rfl) ?_
    simp only [Act.put, Xa, Xz, Xs]
    refine wl_val (.int .i64 ((i + 1 : Nat) : Int)) rfl (fun w => run_nat (X := i) (Y := 1) (Z := i + 1) rfl rfl rfl rfl (by omega) w) ?_
    simp only [Act.put, Xa, Xz, Xs]
    refine wl_val (.int .i64 ((i + 1 : Nat) : Int)) rfl (fun _ => rfl) ?_
    simp only [Act.put, Xa, Xz, Xs]
    refine wl_nil ?_
    exact we_meet ⟨(i + 1), _, _, _, _, _, _, _, _, _, _, _, _, _, _, _, _, _, _, _, _, _, _, _, _, _, _, _, _, _⟩ (by (try dsimp only); have kA : key A i = 0 := key_out (by omega) (by omega); have kB : key B i = 0 := key_out (by omega) (by omega); exact ⟨⟨by omega, fun j hj => by rcases Nat.lt_or_eq_of_le (Nat.le_of_lt_succ hj) with h | h; exact b2 j h; subst h; omega⟩, by omega⟩) rfl List.Sublist.slnil
   ·
    skip
    have p3 : (i : Int) < (B.length : Int) := of_decide_eq_true h3
    refine wc_true rfl ?_
    refine wc_region ?_
    refine wl_val (.slice b B.length d) rfl (fun _ => rfl) ?_
    simp only [Act.put, Xa, Xz, Xs]
    refine wl_val (.int .i64 (i : Int)) rfl (fun _ => rfl) ?_
    simp only [Act.put, Xa, Xz, Xs]
    refine wl_read (eaddr b (i * 1)) rfl (er_index i 1 (sl_old hB) rfl rfl rfl rfl (by omega) (flat_length (enc := enc1) (size := 1) (fun _ => rfl) _) (by decide) Try.underlying63 (by kernel_rfl)) ?_
    simp only [Act.put, Xa, Xz, Xs]
    refine wl_read (.int .i64 (B[i]!)) rfl (er_cell (i * 1) (.int .i64 (B[i]!)) (sl_old hB) rfl rfl (flat_cell (enc := enc1) (fun _ => rfl) B i 0 (by omega) (by decide)) Try.isAgg3) ?_
    simp only [Act.put, Xa, Xz, Xs]
    refine wl_val (.int .i64 (B[i]!)) rfl (fun _ => rfl) ?_
    simp only [Act.put, Xa, Xz, Xs]
    refine wl_nil ?_
    refine we_then ?_
    refine wc_seq ?_
    refine wc_region ?_
    refine wl_val (.int .i64 0) rfl (fun _ => rfl) ?_
    simp only [Act.put, Xa, Xz, Xs]
    refine wl_val (.int .i64 (B[i]!)) rfl (fun _ => rfl) ?_
    simp only [Act.put, Xa, Xz, Xs]
    refine wl_val (.bool (0 != (B[i]!))) rfl (fun w => run_cmp rfl rfl rfl Try.underlying3 rfl w) ?_
    simp only [Act.put, Xa, Xz, Xs]
    refine wl_nil ?_
    refine we_then ?_
    cases h4 : (0 != (B[i]!))
    ·
     skip
     have p4 : ¬ (0 ≠ (B[i]!)) := by simpa using h4
     refine wc_false rfl ?_
     refine wc_skip ?_
     refine we_in ?_
     refine we_then ?_
     refine wc_region ?_
     refine wl_val (.int .i64 (i : Int)) rfl (fun _ => rfl) ?_
     simp only [Act.put, Xa, Xz, Xs]
     refine wl_val (.int .i64 ((i + 1 : Nat) : Int)) rfl (fun w => run_nat (X := i) (Y := 1) (Z := i + 1) rfl rfl rfl rfl (by omega) w) ?_
     simp only [Act.put, Xa, Xz, Xs]
     refine wl_val (.int .i64 ((i + 1 : Nat) : Int)) rfl (fun _ => rfl) ?_
     simp only [Act.put, Xa, Xz, Xs]
     refine wl_nil ?_
     exact we_meet ⟨(i + 1), _, _, _, _, _, _, _, _, _, _, _, _, _, _, _, _, _, _, _, _, _, _, _, _, _, _, _, _, _⟩ (by (try dsimp only); have kA : key A i = 0 := key_out (by omega) (by omega); have kB : key B i = (B[i]!) := key_in (by omega) (by omega); exact ⟨⟨by omega, fun j hj => by rcases Nat.lt_or_eq_of_le (Nat.le_of_lt_succ hj) with h | h; exact b2 j h; subst h; omega⟩, by omega⟩) rfl List.Sublist.slnil
    ·
     skip
     have p4 : 0 ≠ (B[i]!) := by simpa using h4
     refine wc_true rfl ?_
     refine wc_seq ?_
     refine wc_region ?_
     refine wl_val (.int .i64 0) rfl (fun _ => rfl) ?_
     simp only [Act.put, Xa, Xz, Xs]
     refine wl_val (.int .i64 (B[i]!)) rfl (fun _ => rfl) ?_
     simp only [Act.put, Xa, Xz, Xs]
     refine wl_val (.bool (decide (0 < (B[i]!)))) rfl (fun w => run_cmp rfl rfl rfl Try.underlying3 rfl w) ?_
     simp only [Act.put, Xa, Xz, Xs]
     refine wl_val (.bool (decide (0 < (B[i]!)))) rfl (fun _ => rfl) ?_
     simp only [Act.put, Xa, Xz, Xs]
     refine wl_nil ?_
     refine we_then ?_
     refine wc_ret ?_
     refine we_in_ret ?_
     refine we_then_ret ?_
     refine we_then_ret ?_
     refine we_in_ret ?_
     refine we_then_ret ?_
     refine we_ret1 (.bool (decide (0 < (B[i]!)))) rfl rfl rfl (fun w1 hE => ?_)
     have kA : key A i = 0 := key_out (by omega) (by omega)
     have kB : key B i = (B[i]!) := key_in (by omega) (by omega)
     exact ⟨by rw [ltB_at (i := i) (by omega) b2 (by omega), kA, kB], hE.below⟩
  ·
   skip
   have p2 : (i : Int) < (A.length : Int) := of_decide_eq_true h2
   refine wc_true rfl ?_
   refine wc_region ?_
   refine wl_val (.slice a A.length c) rfl (fun _ => rfl) ?_
   simp only [Act.put, Xa, Xz, Xs]
   refine wl_val (.int .i64 (i : Int)) rfl (fun _ => rfl) ?_
   simp only [Act.put, Xa, Xz, Xs]
   refine wl_read (eaddr a (i * 1)) rfl (er_index i 1 (sl_old hA) rfl rfl rfl rfl (by omega) (flat_length (enc := enc1) (size := 1) (fun _ => rfl) _) (by decide) Try.underlying63 (by kernel_rfl)) ?_
   simp only [Act.put, Xa, Xz, Xs]
   refine wl_read (.int .i64 (A[i]!)) rfl (er_cell (i * 1) (.int .i64 (A[i]!)) (sl_old hA) rfl rfl (flat_cell (enc := enc1) (fun _ => rfl) A i 0 (by omega) (by decide)) Try.isAgg3) ?_
   simp only [Act.put, Xa, Xz, Xs]
   refine wl_val (.int .i64 (A[i]!)) rfl (fun _ => rfl) ?_
   simp only [Act.put, Xa, Xz, Xs]
   refine wl_nil ?_
   refine we_then ?_
   refine wc_seq ?_
   refine wc_seq ?_
   refine wc_region ?_
   refine wl_val (.int .i64 (i : Int)) rfl (fun _ => rfl) ?_
   simp only [Act.put, Xa, Xz, Xs]
   refine wl_val (.slice b B.length d) rfl (fun _ => rfl) ?_
   simp only [Act.put, Xa, Xz, Xs]
   refine wl_val (.int .i64 (B.length : Int)) rfl (fun w => er_len rfl rfl Try.underlying63 w) ?_
   simp only [Act.put, Xa, Xz, Xs]
   refine wl_val (.bool (decide ((i : Int) < (B.length : Int)))) rfl (fun w => run_cmp rfl rfl rfl Try.underlying3 rfl w) ?_
   simp only [Act.put, Xa, Xz, Xs]
   refine wl_nil ?_
   refine we_then ?_
   cases h5 : (decide ((i : Int) < (B.length : Int)))
   ·
    skip
    have p5 : ¬ ((i : Int) < (B.length : Int)) := of_decide_eq_false h5
    refine wc_false rfl ?_
    refine wc_skip ?_
    refine we_then ?_
    refine wc_seq ?_
    refine wc_region ?_
    refine wl_val (.int .i64 (A[i]!)) rfl (fun _ => rfl) ?_
    simp only [Act.put, Xa, Xz, Xs]
    refine wl_val (.int .i64 0) rfl (fun _ => rfl) ?_
    simp only [Act.put, Xa, Xz, Xs]
    refine wl_val (.bool ((A[i]!) != 0)) rfl (fun w => run_cmp rfl rfl rfl Try.underlying3 rfl w) ?_
    simp only [Act.put, Xa, Xz, Xs]
    refine wl_nil ?_
    refine we_then ?_
    cases h6 : ((A[i]!) != 0)
    ·
     skip
     have p6 : ¬ ((A[i]!) ≠ 0) := by simpa using h6
     refine wc_false rfl ?_
     refine wc_skip ?_
     refine we_in ?_
     refine we_then ?_
     refine wc_region ?_
     refine wl_val (.int .i64 (i : Int)) rfl (fun _ => rfl) ?_
     simp only [Act.put, Xa, Xz, Xs]
     refine wl_val (.int .i64 ((i + 1 : Nat) : Int)) rfl (fun w => run_nat (X := i) (Y := 1) (Z := i + 1) rfl rfl rfl rfl (by omega) w) ?_
     simp only [Act.put, Xa, Xz, Xs]
     refine wl_val (.int .i64 ((i + 1 : Nat) : Int)) rfl (fun _ => rfl) ?_
     simp only [Act.put, Xa, Xz, Xs]
     refine wl_nil ?_
     exact we_meet ⟨(i + 1), _, _, _, _, _, _, _, _, _, _, _, _, _, _, _, _, _, _, _, _, _, _, _, _, _, _, _, _, _⟩ (by (try dsimp only); have kA : key A i = (A[i]!) := key_in (by omega) (by omega); have kB : key B i = 0 := key_out (by omega) (by omega); exact ⟨⟨by omega, fun j hj => by rcases Nat.lt_or_eq_of_le (Nat.le_of_lt_succ hj) with h | h; exact b2 j h; subst h; omega⟩, by omega⟩) rfl List.Sublist.slnil
    ·
     skip
     have p6 : (A[i]!) ≠ 0 := by simpa using h6
     refine wc_true rfl ?_
     refine wc_seq ?_
     refine wc_region ?_
     refine wl_val (.int .i64 (A[i]!)) rfl (fun _ => rfl) ?_
     simp only [Act.put, Xa, Xz, Xs]
     refine wl_val (.int .i64 0) rfl (fun _ => rfl) ?_
     simp only [Act.put, Xa, Xz, Xs]
     refine wl_val (.bool (decide ((A[i]!) < 0))) rfl (fun w => run_cmp rfl rfl rfl Try.underlying3 rfl w) ?_
     simp only [Act.put, Xa, Xz, Xs]
     refine wl_val (.bool (decide ((A[i]!) < 0))) rfl (fun _ => rfl) ?_
     simp only [Act.put, Xa, Xz, Xs]
     refine wl_nil ?_
     refine we_then ?_
     refine wc_ret ?_
     refine we_in_ret ?_
     refine we_then_ret ?_
     refine we_then_ret ?_
     refine we_in_ret ?_
     refine we_then_ret ?_
     refine we_ret1 (.bool (decide ((A[i]!) < 0))) rfl rfl rfl (fun w1 hE => ?_)
     have kA : key A i = (A[i]!) := key_in (by omega) (by omega)
     have kB : key B i = 0 := key_out (by omega) (by omega)
     exact ⟨by rw [ltB_at (i := i) (by omega) b2 (by omega), kA, kB], hE.below⟩
   ·
    skip
    have p5 : (i : Int) < (B.length : Int) := of_decide_eq_true h5
    refine wc_true rfl ?_
    refine wc_region ?_
    refine wl_val (.slice b B.length d) rfl (fun _ => rfl) ?_
    simp only [Act.put, Xa, Xz, Xs]
    refine wl_val (.int .i64 (i : Int)) rfl (fun _ => rfl) ?_
    simp only [Act.put, Xa, Xz, Xs]
    refine wl_read (eaddr b (i * 1)) rfl (er_index i 1 (sl_old hB) rfl rfl rfl rfl (by omega) (flat_length (enc := enc1) (size := 1) (fun _ => rfl) _) (by decide) Try.underlying63 (by kernel_rfl)) ?_
    simp only [Act.put, Xa, Xz, Xs]
    refine wl_read (.int .i64 (B[i]!)) rfl (er_cell (i * 1) (.int .i64 (B[i]!)) (sl_old hB) rfl rfl (flat_cell (enc := enc1) (fun _ => rfl) B i 0 (by omega) (by decide)) Try.isAgg3) ?_
    simp only [Act.put, Xa, Xz, Xs]
    refine wl_val (.int .i64 (B[i]!)) rfl (fun _ => rfl) ?_
    simp only [Act.put, Xa, Xz, Xs]
    refine wl_nil ?_
    refine we_then ?_
    refine wc_seq ?_
    refine wc_region ?_
    refine wl_val (.int .i64 (A[i]!)) rfl (fun _ => rfl) ?_
    simp only [Act.put, Xa, Xz, Xs]
    refine wl_val (.int .i64 (B[i]!)) rfl (fun _ => rfl) ?_
    simp only [Act.put, Xa, Xz, Xs]
    refine wl_val (.bool ((A[i]!) != (B[i]!))) rfl (fun w => run_cmp rfl rfl rfl Try.underlying3 rfl w) ?_
    simp only [Act.put, Xa, Xz, Xs]
    refine wl_nil ?_
    refine we_then ?_
    cases h7 : ((A[i]!) != (B[i]!))
    ·
     skip
     have p7 : ¬ ((A[i]!) ≠ (B[i]!)) := by simpa using h7
     refine wc_false rfl ?_
     refine wc_skip ?_
     refine we_in ?_
     refine we_then ?_
     refine wc_region ?_
     refine wl_val (.int .i64 (i : Int)) rfl (fun _ => rfl) ?_
     simp only [Act.put, Xa, Xz, Xs]
     refine wl_val (.int .i64 ((i + 1 : Nat) : Int)) rfl (fun w => run_nat (X := i) (Y := 1) (Z := i + 1) rfl rfl rfl rfl (by omega) w) ?_
     simp only [Act.put, Xa, Xz, Xs]
     refine wl_val (.int .i64 ((i + 1 : Nat) : Int)) rfl (fun _ => rfl) ?_
     simp only [Act.put, Xa, Xz, Xs]
     refine wl_nil ?_
     exact we_meet ⟨(i + 1), _, _, _, _, _, _, _, _, _, _, _, _, _, _, _, _, _, _, _, _, _, _, _, _, _, _, _, _, _⟩ (by (try dsimp only); have kA : key A i = (A[i]!) := key_in (by omega) (by omega); have kB : key B i = (B[i]!) := key_in (by omega) (by omega); exact ⟨⟨by omega, fun j hj => by rcases Nat.lt_or_eq_of_le (Nat.le_of_lt_succ hj) with h | h; exact b2 j h; subst h; omega⟩, by omega⟩) rfl List.Sublist.slnil
    ·
     skip
     have p7 : (A[i]!) ≠ (B[i]!) := by simpa using h7
     refine wc_true rfl ?_
     refine wc_seq ?_
     refine wc_region ?_
     refine wl_val (.int .i64 (A[i]!)) rfl (fun _ => rfl) ?_
     simp only [Act.put, Xa, Xz, Xs]
     refine wl_val (.int .i64 (B[i]!)) rfl (fun _ => rfl) ?_
     simp only [Act.put, Xa, Xz, Xs]
     refine wl_val (.bool (decide ((A[i]!) < (B[i]!)))) rfl (fun w => run_cmp rfl rfl rfl Try.underlying3 rfl w) ?_
     simp only [Act.put, Xa, Xz, Xs]
     refine wl_val (.bool (decide ((A[i]!) < (B[i]!)))) rfl (fun _ => rfl) ?_
     simp only [Act.put, Xa, Xz, Xs]
     refine wl_nil ?_
     refine we_then ?_
     refine wc_ret ?_
     refine we_in_ret ?_
     refine we_then_ret ?_
     refine we_then_ret ?_
     refine we_in_ret ?_
     refine we_then_ret ?_
     refine we_ret1 (.bool (decide ((A[i]!) < (B[i]!)))) rfl rfl rfl (fun w1 hE => ?_)
     have kA : key A i = (A[i]!) := key_in (by omega) (by omega)
     have kB : key B i = (B[i]!) := key_in (by omega) (by omega)
     exact ⟨by rw [ltB_at (i := i) (by omega) b2 (by omega), kA, kB], hE.below⟩
theorem has_len {s : Own} {size n m : Nat} {xs : List Value} (h : s.Has size n xs) (e : n = m) : s.Has size m xs := e ▸ h
theorem has_pre {s : Own} {n : Nat} {O : List Ix} {x : Ix} {ys : List Value} (h : s.Has 1 n (flat ix O ++ ix x ++ ys)) : s.Has 1 n (flat ix (O ++ [x]) ++ ys) := by
 rwa [flat_append, show flat ix [x] = ix x by simp [flat]]
set_option maxHeartbeats 4000000 in
theorem put_any (T : List Ix) (x : Ix) (p : Option Addr) (c : Nat) (w : World) (hT : Reads w p (flat ix T)) (hO : OkI w T) (hx : Reads w x.p (flat enc1 x.X)) (hn : T.length ≤ 1048576) (hm : x.X.length ≤ 140737488355328) :
  Calls Try.prog 47 #[.slice p T.length c, .slice x.p x.X.length x.c] w fun e w' => ∃ s : Own, s.Has 1 (ins ltI x T).length (flat ix (ins ltI x T)) ∧ e = .returned (s.val (ins ltI x T).length) ∧ Env w w' (s.rows 63) := by
 refine calls_sx Try.func47 rfl ?_
 simp only [Try.ntmps47, List.size_toArray, List.length_cons, List.length_nil, Nat.reduceAdd, Nat.reduceSub, Array.replicate_succ, Array.replicate_zero, List.push_toArray, List.append_toArray, List.nil_append, List.cons_append]
 refine wc_seq ?_
 refine wc_region ?_
 refine wl_val (.slice none 0 0) rfl (fun _ => rfl) ?_
 simp only [Act.put, Xa, Xz, Xs]
 refine wl_nil ?_
 refine we_then ?_
 refine wc_seq ?_
 refine wc_region ?_
 refine wl_val (.slice none 0 0) rfl (fun _ => rfl) ?_
 simp only [Act.put, Xa, Xz, Xs]
 refine wl_nil ?_
 refine we_then ?_
 refine wc_seq ?_
 refine wc_region ?_
 refine wl_val (.bool false) rfl (fun _ => rfl) ?_
 simp only [Act.put, Xa, Xz, Xs]
 refine wl_nil ?_
 refine we_then ?_
 refine wc_seq ?_
 refine wc_seq ?_
 refine wc_region ?_
 refine wl_val (.int .i64 0) rfl (fun _ => rfl) ?_
 simp only [Act.put, Xa, Xz, Xs]
 refine wl_nil ?_
 refine we_then ?_
 refine wc_block ?_
 refine wc_loop (fun (zz : Nat × Bool × Nat × Own × List Ix × Value × Value × Value × Value × Value × Value × Value × Value × Value × Value × Value × Value × Value × Value × Value × Value × Value × Value × Value × Value × Value × Value × Value × Value × Value × Value × Value × Value × Value × Value × Value × Value × Value × Value) => match zz with | ⟨i, f, m, s, O, u8, u9, u10, u11, u12, u13, u14, u15, u16, u17, u18, u19, u20, u21, u22, u23, u24, u25, u26, u27, u28, u29, u30, u31, u32, u33, u34, u35, u36, u37, u38, u39, u40, u41⟩ => ({ tmps := #[.slice p T.length c, .slice x.p x.X.length x.c, undef, undef, .slice none 0 0, .slice s.ptr m s.cap, .bool f, .int .i64 (i : Int), u8, u9, u10, u11, u12, u13, u14, u15, u16, u17, u18, u19, u20, u21, u22, u23, u24, u25, u26, u27, u28, u29, u30, u31, u32, u33, u34, u35, u36, u37, u38, u39, u40, u41, undef, undef, undef, undef, undef, undef, undef], defers := [] } : Act)) (fun (zz : Nat × Bool × Nat × Own × List Ix × Value × Value × Value × Value × Value × Value × Value × Value × Value × Value × Value × Value × Value × Value × Value × Value × Value × Value × Value × Value × Value × Value × Value × Value × Value × Value × Value × Value × Value × Value × Value × Value × Value × Value) => match zz with | ⟨i, f, m, s, O, u8, u9, u10, u11, u12, u13, u14, u15, u16, u17, u18, u19, u20, u21, u22, u23, u24, u25, u26, u27, u28, u29, u30, u31, u32, u33, u34, u35, u36, u37, u38, u39, u40, u41⟩ => (s.rows 63 ++ [])) (fun (zz : Nat × Bool × Nat × Own × List Ix × Value × Value × Value × Value × Value × Value × Value × Value × Value × Value × Value × Value × Value × Value × Value × Value × Value × Value × Value × Value × Value × Value × Value × Value × Value × Value × Value × Value × Value × Value × Value × Value × Value × Value) => match zz with | ⟨i, f, m, s, O, u8, u9, u10, u11, u12, u13, u14, u15, u16, u17, u18, u19, u20, u21, u22, u23, u24, u25, u26, u27, u28, u29, u30, u31, u32, u33, u34, u35, u36, u37, u38, u39, u40, u41⟩ => i ≤ T.length ∧ (f, O) = pst ltI x (T.take i) ∧ O.length = m ∧ s.Has 1 m (flat ix O)) (fun (zz : Nat × Bool × Nat × Own × List Ix × Value × Value × Value × Value × Value × Value × Value × Value × Value × Value × Value × Value × Value × Value × Value × Value × Value × Value × Value × Value × Value × Value × Value × Value × Value × Value × Value × Value × Value × Value × Value × Value × Value × Value) => match zz with | ⟨i, f, m, s, O, u8, u9, u10, u11, u12, u13, u14, u15, u16, u17, u18, u19, u20, u21, u22, u23, u24, u25, u26, u27, u28, u29, u30, u31, u32, u33, u34, u35, u36, u37, u38, u39, u40, u41⟩ => T.length - i) ⟨0, false, 0, Own.none, [], _, _, _, _, _, _, _, _, _, _, _, _, _, _, _, _, _, _, _, _, _, _, _, _, _, _, _, _, _, _, _, _, _, _⟩ ⟨Nat.zero_le _, rfl, rfl, Own.has_none 1⟩ rfl List.Sublist.slnil ?_
 rintro ⟨i, f, m, s, O, u8, u9, u10, u11, u12, u13, u14, u15, u16, u17, u18, u19, u20, u21, u22, u23, u24, u25, u26, u27, u28, u29, u30, u31, u32, u33, u34, u35, u36, u37, u38, u39, u40, u41⟩ hφ
 (try dsimp only at hφ ⊢)
 obtain ⟨b1, b2, bm, b3⟩ := hφ
 have b4 := pst_len ltI x (T.take i)
 rw [← b2, List.length_take] at b4
 dsimp only at b4
 refine wc_seq ?_
 refine wc_seq ?_
 refine wc_region ?_
 refine wl_val (.int .i64 (i : Int)) rfl (fun _ => rfl) ?_
 simp only [Act.put, Xa, Xz, Xs]
 refine wl_val (.slice p T.length c) rfl (fun _ => rfl) ?_
 simp only [Act.put, Xa, Xz, Xs]
 refine wl_val (.int .i64 (T.length : Int)) rfl (fun w => er_len rfl rfl Try.underlying40 w) ?_
 simp only [Act.put, Xa, Xz, Xs]
 refine wl_val (.bool (decide ((i : Int) < (T.length : Int)))) rfl (fun w => run_cmp rfl rfl rfl Try.underlying3 rfl w) ?_
 simp only [Act.put, Xa, Xz, Xs]
 refine wl_nil ?_
 refine we_then ?_
 cases h1 : (decide ((i : Int) < (T.length : Int)))
 ·
  skip
  have p1 : ¬ ((i : Int) < (T.length : Int)) := of_decide_eq_false h1
  refine wc_false rfl ?_
  refine wc_exit ?_
  refine we_then_exit ?_
  refine we_then_exit ?_
  refine we_in_here ?_
  refine we_then ?_
  refine wc_seq ?_
  refine wc_seq ?_
  refine wc_region ?_
  refine wl_val (.bool f) rfl (fun _ => rfl) ?_
  simp only [Act.put, Xa, Xz, Xs]
  refine wl_val (.bool (!f)) rfl (fun _ => by go_simp) ?_
  simp only [Act.put, Xa, Xz, Xs]
  refine wl_nil ?_
  refine we_then ?_
  cases h2 : (f)
  ·
   skip
   refine wc_true rfl ?_
   refine wc_region ?_
   refine wl_val (.slice s.ptr m s.cap) rfl (fun _ => rfl) ?_
   simp only [Act.put, Xa, Xz, Xs]
   refine wl_val (.slice x.p x.X.length x.c) rfl (fun _ => rfl) ?_
   simp only [Act.put, Xa, Xz, Xs]
   refine wl_lit (e := 63) #[.slice x.p x.X.length x.c] 1 rfl (fun _ => by go_simp) ?_
   intro g3
   simp only [Act.put, Xa, Xz, Xs]
   refine wl_append (e := 63) (size := 1) (bytes := 24) (m := 1) [⟨g3, #[.slice x.p x.X.length x.c], 63⟩] [] s (ys := [.slice x.p x.X.length x.c]) rfl b3 (sl_row 0 rfl) rfl (by simp [Value.oneCell']) rfl rfl rfl rfl Try.underlying40 (by unfold Elem; kernel_rfl) (by decide) (by unfold maxLen; omega) (by omega) ?_
   intro s4 hs4
   simp only [List.cons_append, List.nil_append, Act.put, Xa, Xz, Xs]
   refine wl_val (.slice s4.ptr (m + 1) s4.cap) rfl (fun _ => rfl) ?_
   simp only [Act.put, Xa, Xz, Xs]
   refine wl_nil ?_
   refine we_then ?_
   refine wc_seq ?_
   refine wc_region ?_
   refine wl_val (.slice s4.ptr (m + 1) s4.cap) rfl (fun _ => rfl) ?_
   simp only [Act.put, Xa, Xz, Xs]
   refine wl_val (.slice s4.ptr (m + 1) s4.cap) rfl (fun _ => rfl) ?_
   simp only [Act.put, Xa, Xz, Xs]
   refine wl_nil ?_
   refine we_then ?_
   refine wc_ret ?_
   refine we_ret1 (.slice s4.ptr (m + 1) s4.cap) rfl rfl rfl (fun w1 hE => ?_)
   have e1 : i = T.length := by omega
   subst e1
   have e2 := pst_ins ltI x T
   rw [List.take_length] at b2
   rw [← b2, h2] at e2
   simp only [Bool.false_eq_true, if_false] at e2
   exact ⟨s4, e2 ▸ has_len (has_snoc (x := x) hs4) (by simp [bm]), by rw [← e2, List.length_append, bm]; rfl, Env.tail hE (List.Sublist.cons _ (List.Sublist.append_left List.Sublist.slnil _))⟩
  ·
   skip
   refine wc_false rfl ?_
   refine wc_skip ?_
   refine we_then ?_
   refine wc_seq ?_
   refine wc_region ?_
   refine wl_val (.slice s.ptr m s.cap) rfl (fun _ => rfl) ?_
   simp only [Act.put, Xa, Xz, Xs]
   refine wl_val (.slice s.ptr m s.cap) rfl (fun _ => rfl) ?_
   simp only [Act.put, Xa, Xz, Xs]
   refine wl_nil ?_
   refine we_then ?_
   refine wc_ret ?_
   refine we_ret1 (.slice s.ptr m s.cap) rfl rfl rfl (fun w1 hE => ?_)
   have e1 : i = T.length := by omega
   subst e1
   have e2 := pst_ins ltI x T
   rw [List.take_length] at b2
   rw [← b2, h2] at e2
   simp only [if_true] at e2
   exact ⟨s, e2 ▸ has_len b3 bm.symm, by rw [← e2, bm], Env.tail hE (List.Sublist.append_left List.Sublist.slnil _)⟩
 ·
  skip
  have p1 : (i : Int) < (T.length : Int) := of_decide_eq_true h1
  refine wc_true rfl ?_
  refine wc_skip ?_
  refine we_then ?_
  refine wc_seq ?_
  refine wc_block ?_
  refine wc_seq ?_
  refine wc_seq ?_
  have fT := (ix_at hO (show i < T.length by omega)).few
  refine wc_region ?_
  refine wl_val (.bool f) rfl (fun _ => rfl) ?_
  simp only [Act.put, Xa, Xz, Xs]
  refine wl_val (.bool (!f)) rfl (fun _ => by go_simp) ?_
  simp only [Act.put, Xa, Xz, Xs]
  refine wl_val (.bool (!f)) rfl (fun _ => rfl) ?_
  simp only [Act.put, Xa, Xz, Xs]
  cases h5 : (f)
  ·
   skip
   refine wl_val (.slice p T.length c) rfl (fun _ => rfl) ?_
   simp only [Act.put, Xa, Xz, Xs]
   refine wl_val (.int .i64 (i : Int)) rfl (fun _ => rfl) ?_
   simp only [Act.put, Xa, Xz, Xs]
   refine wl_read (eaddr p (i * 1)) rfl (er_index i 1 (sl_old hT) rfl rfl rfl rfl (by omega) (flat_length (enc := ix) (size := 1) (fun _ => rfl) _) (by decide) Try.underlying40 (by kernel_rfl)) ?_
   simp only [Act.put, Xa, Xz, Xs]
   refine wl_read (.slice ((T[i]!).p) ((T[i]!).X.length) ((T[i]!).c)) rfl (er_cell (i * 1) (.slice ((T[i]!).p) ((T[i]!).X.length) ((T[i]!).c)) (sl_old hT) rfl rfl (flat_cell (enc := ix) (fun _ => rfl) T i 0 (by omega) (by decide)) Try.isAgg63) ?_
   simp only [Act.put, Xa, Xz, Xs]
   refine wl_val (.slice x.p x.X.length x.c) rfl (fun _ => rfl) ?_
   simp only [Act.put, Xa, Xz, Xs]
   refine wl_call_at 59 #[.slice ((T[i]!).p) ((T[i]!).X.length) ((T[i]!).c), .slice x.p x.X.length x.c] (.bool (ltB (T[i]!).X x.X)) rfl (fun _ => by go_simp) (fun W hE => less_any (T[i]!).X x.X _ _ _ _ W ((sl_old (ix_at hO (by omega)).rd) W hE) ((sl_old hx) W hE) (by omega) (by omega)) ?_
   simp only [Act.put, Xa, Xz, Xs]
   refine wl_val (.bool (!(ltB (T[i]!).X x.X))) rfl (fun _ => by go_simp) ?_
   simp only [Act.put, Xa, Xz, Xs]
   refine wl_val (.bool (!(ltB (T[i]!).X x.X))) rfl (fun _ => rfl) ?_
   simp only [Act.put, Xa, Xz, Xs]
   refine wl_nil ?_
   refine we_then ?_
   cases h6 : (ltB (T[i]!).X x.X)
   ·
    skip
    refine wc_true rfl ?_
    refine wc_seq ?_
    refine wc_seq ?_
    refine wc_region ?_
    refine wl_val (.slice x.p x.X.length x.c) rfl (fun _ => rfl) ?_
    simp only [Act.put, Xa, Xz, Xs]
    refine wl_val (.slice p T.length c) rfl (fun _ => rfl) ?_
    simp only [Act.put, Xa, Xz, Xs]
    refine wl_val (.int .i64 (i : Int)) rfl (fun _ => rfl) ?_
    simp only [Act.put, Xa, Xz, Xs]
    refine wl_read (eaddr p (i * 1)) rfl (er_index i 1 (sl_old hT) rfl rfl rfl rfl (by omega) (flat_length (enc := ix) (size := 1) (fun _ => rfl) _) (by decide) Try.underlying40 (by kernel_rfl)) ?_
    simp only [Act.put, Xa, Xz, Xs]
    refine wl_read (.slice ((T[i]!).p) ((T[i]!).X.length) ((T[i]!).c)) rfl (er_cell (i * 1) (.slice ((T[i]!).p) ((T[i]!).X.length) ((T[i]!).c)) (sl_old hT) rfl rfl (flat_cell (enc := ix) (fun _ => rfl) T i 0 (by omega) (by decide)) Try.isAgg63) ?_
    simp only [Act.put, Xa, Xz, Xs]
    refine wl_call_at 59 #[.slice x.p x.X.length x.c, .slice ((T[i]!).p) ((T[i]!).X.length) ((T[i]!).c)] (.bool (ltB x.X (T[i]!).X)) rfl (fun _ => by go_simp) (fun W hE => less_any x.X (T[i]!).X _ _ _ _ W ((sl_old hx) W hE) ((sl_old (ix_at hO (by omega)).rd) W hE) (by omega) (by omega)) ?_
    simp only [Act.put, Xa, Xz, Xs]
    refine wl_nil ?_
    refine we_then ?_
    cases h7 : (ltB x.X (T[i]!).X)
    ·
     skip
     refine wc_false rfl ?_
     refine wc_skip ?_
     refine we_then ?_
     refine wc_region ?_
     refine wl_val (.bool true) rfl (fun _ => rfl) ?_
     simp only [Act.put, Xa, Xz, Xs]
     refine wl_nil ?_
     refine we_then ?_
     refine wc_region ?_
     refine wl_val (.slice s.ptr m s.cap) rfl (fun _ => rfl) ?_
     simp only [Act.put, Xa, Xz, Xs]
     refine wl_val (.slice p T.length c) rfl (fun _ => rfl) ?_
     simp only [Act.put, Xa, Xz, Xs]
     refine wl_val (.int .i64 (i : Int)) rfl (fun _ => rfl) ?_
     simp only [Act.put, Xa, Xz, Xs]
     refine wl_read (eaddr p (i * 1)) rfl (er_index i 1 (sl_old hT) rfl rfl rfl rfl (by omega) (flat_length (enc := ix) (size := 1) (fun _ => rfl) _) (by decide) Try.underlying40 (by kernel_rfl)) ?_
     simp only [Act.put, Xa, Xz, Xs]
     refine wl_read (.slice ((T[i]!).p) ((T[i]!).X.length) ((T[i]!).c)) rfl (er_cell (i * 1) (.slice ((T[i]!).p) ((T[i]!).X.length) ((T[i]!).c)) (sl_old hT) rfl rfl (flat_cell (enc := ix) (fun _ => rfl) T i 0 (by omega) (by decide)) Try.isAgg63) ?_
     simp only [Act.put, Xa, Xz, Xs]
     refine wl_lit (e := 63) #[.slice ((T[i]!).p) ((T[i]!).X.length) ((T[i]!).c)] 1 rfl (fun _ => by go_simp) ?_
     intro g8
     simp only [Act.put, Xa, Xz, Xs]
     refine wl_append (e := 63) (size := 1) (bytes := 24) (m := 1) [⟨g8, #[.slice ((T[i]!).p) ((T[i]!).X.length) ((T[i]!).c)], 63⟩] [] s (ys := [.slice ((T[i]!).p) ((T[i]!).X.length) ((T[i]!).c)]) rfl b3 (sl_row 0 rfl) rfl (by simp [Value.oneCell']) rfl rfl rfl rfl Try.underlying40 (by unfold Elem; kernel_rfl) (by decide) (by unfold maxLen; omega) (by omega) ?_
     intro s9 hs9
     simp only [List.cons_append, List.nil_append, Act.put, Xa, Xz, Xs]
     refine wl_val (.slice s9.ptr (m + 1) s9.cap) rfl (fun _ => rfl) ?_
     simp only [Act.put, Xa, Xz, Xs]
     refine wl_nil ?_
     refine we_in ?_
     refine we_then ?_
     refine wc_region ?_
     refine wl_val (.int .i64 (i : Int)) rfl (fun _ => rfl) ?_
     simp only [Act.put, Xa, Xz, Xs]
     refine wl_val (.int .i64 ((i + 1 : Nat) : Int)) rfl (fun w => run_nat (X := i) (Y := 1) (Z := i + 1) rfl rfl rfl rfl (by omega) w) ?_
     simp only [Act.put, Xa, Xz, Xs]
     refine wl_val (.int .i64 ((i + 1 : Nat) : Int)) rfl (fun _ => rfl) ?_
     simp only [Act.put, Xa, Xz, Xs]
     refine wl_nil ?_
     exact we_meet ⟨(i + 1), true, (m + 1), s9, (O ++ [T[i]!]), _, _, _, _, _, _, _, _, _, _, _, _, _, _, _, _, _, _, _, _, _, _, _, _, _, _, _, _, _, _, _, _, _, _⟩ (by (try dsimp only); have e3 : pst ltI x (T.take (i + 1)) = (true, (O ++ [T[i]!])) := (by rw [pst_snoc ltI x T (by omega), ← b2]; unfold pstep ltI; simp only [h5, h6, h7, eq_self, and_self, true_and, and_true, and_false, false_and, if_true, if_false, Bool.false_eq_true, Bool.true_eq_false, reduceCtorEq, List.append_nil]); exact ⟨⟨by omega, e3.symm, by simp [bm], has_snoc (x := T[i]!) hs9⟩, by omega⟩) rfl (List.Sublist.cons _ (List.Sublist.append_left List.Sublist.slnil _))
    ·
     skip
     refine wc_true rfl ?_
     refine wc_region ?_
     refine wl_val (.slice s.ptr m s.cap) rfl (fun _ => rfl) ?_
     simp only [Act.put, Xa, Xz, Xs]
     refine wl_val (.slice x.p x.X.length x.c) rfl (fun _ => rfl) ?_
     simp only [Act.put, Xa, Xz, Xs]
     refine wl_lit (e := 63) #[.slice x.p x.X.length x.c] 1 rfl (fun _ => by go_simp) ?_
     intro g10
     simp only [Act.put, Xa, Xz, Xs]
     refine wl_append (e := 63) (size := 1) (bytes := 24) (m := 1) [⟨g10, #[.slice x.p x.X.length x.c], 63⟩] [] s (ys := [.slice x.p x.X.length x.c]) rfl b3 (sl_row 0 rfl) rfl (by simp [Value.oneCell']) rfl rfl rfl rfl Try.underlying40 (by unfold Elem; kernel_rfl) (by decide) (by unfold maxLen; omega) (by omega) ?_
     intro s11 hs11
     simp only [List.cons_append, List.nil_append, Act.put, Xa, Xz, Xs]
     refine wl_val (.slice s11.ptr (m + 1) s11.cap) rfl (fun _ => rfl) ?_
     simp only [Act.put, Xa, Xz, Xs]
     refine wl_nil ?_
     refine we_then ?_
     refine wc_region ?_
     refine wl_val (.bool true) rfl (fun _ => rfl) ?_
     simp only [Act.put, Xa, Xz, Xs]
     refine wl_nil ?_
     refine we_then ?_
     refine wc_region ?_
     refine wl_val (.slice s11.ptr (m + 1) s11.cap) rfl (fun _ => rfl) ?_
     simp only [Act.put, Xa, Xz, Xs]
     refine wl_val (.slice p T.length c) rfl (fun _ => rfl) ?_
     simp only [Act.put, Xa, Xz, Xs]
     refine wl_val (.int .i64 (i : Int)) rfl (fun _ => rfl) ?_
     simp only [Act.put, Xa, Xz, Xs]
     refine wl_read (eaddr p (i * 1)) rfl (er_index i 1 (sl_old hT) rfl rfl rfl rfl (by omega) (flat_length (enc := ix) (size := 1) (fun _ => rfl) _) (by decide) Try.underlying40 (by kernel_rfl)) ?_
     simp only [Act.put, Xa, Xz, Xs]
     refine wl_read (.slice ((T[i]!).p) ((T[i]!).X.length) ((T[i]!).c)) rfl (er_cell (i * 1) (.slice ((T[i]!).p) ((T[i]!).X.length) ((T[i]!).c)) (sl_old hT) rfl rfl (flat_cell (enc := ix) (fun _ => rfl) T i 0 (by omega) (by decide)) Try.isAgg63) ?_
     simp only [Act.put, Xa, Xz, Xs]
     refine wl_lit (e := 63) #[.slice ((T[i]!).p) ((T[i]!).X.length) ((T[i]!).c)] 1 rfl (fun _ => by go_simp) ?_
     intro g12
     simp only [Act.put, Xa, Xz, Xs]
     refine wl_append (e := 63) (size := 1) (bytes := 24) (m := 1) [⟨g12, #[.slice ((T[i]!).p) ((T[i]!).X.length) ((T[i]!).c)], 63⟩, ⟨g10, #[.slice x.p x.X.length x.c], 63⟩] [] s11 (ys := [.slice ((T[i]!).p) ((T[i]!).X.length) ((T[i]!).c)]) rfl hs11 (sl_row 0 rfl) rfl (by simp [Value.oneCell']) rfl rfl rfl rfl Try.underlying40 (by unfold Elem; kernel_rfl) (by decide) (by unfold maxLen; omega) (by omega) ?_
     intro s13 hs13
     simp only [List.cons_append, List.nil_append, Act.put, Xa, Xz, Xs]
     refine wl_val (.slice s13.ptr (m + 1 + 1) s13.cap) rfl (fun _ => rfl) ?_
     simp only [Act.put, Xa, Xz, Xs]
     refine wl_nil ?_
     refine we_in ?_
     refine we_then ?_
     refine wc_region ?_
     refine wl_val (.int .i64 (i : Int)) rfl (fun _ => rfl) ?_
     simp only [Act.put, Xa, Xz, Xs]
     refine wl_val (.int .i64 ((i + 1 : Nat) : Int)) rfl (fun w => run_nat (X := i) (Y := 1) (Z := i + 1) rfl rfl rfl rfl (by omega) w) ?_
     simp only [Act.put, Xa, Xz, Xs]
     refine wl_val (.int .i64 ((i + 1 : Nat) : Int)) rfl (fun _ => rfl) ?_
     simp only [Act.put, Xa, Xz, Xs]
     refine wl_nil ?_
     exact we_meet ⟨(i + 1), true, (m + 1 + 1), s13, (O ++ [x] ++ [T[i]!]), _, _, _, _, _, _, _, _, _, _, _, _, _, _, _, _, _, _, _, _, _, _, _, _, _, _, _, _, _, _, _, _, _, _⟩ (by (try dsimp only); have e3 : pst ltI x (T.take (i + 1)) = (true, (O ++ [x] ++ [T[i]!])) := (by rw [pst_snoc ltI x T (by omega), ← b2]; unfold pstep ltI; simp only [h5, h6, h7, eq_self, and_self, true_and, and_true, and_false, false_and, if_true, if_false, Bool.false_eq_true, Bool.true_eq_false, reduceCtorEq, List.append_nil]); exact ⟨⟨by omega, e3.symm, by simp [bm], has_snoc (x := T[i]!) (L := O ++ [x]) (has_pre (x := x) hs13)⟩, by omega⟩) rfl (List.Sublist.cons _ (List.Sublist.cons _ (List.Sublist.append_left List.Sublist.slnil _)))
   ·
    skip
    refine wc_false rfl ?_
    refine wc_skip ?_
    refine we_then ?_
    refine wc_region ?_
    refine wl_val (.slice s.ptr m s.cap) rfl (fun _ => rfl) ?_
    simp only [Act.put, Xa, Xz, Xs]
    refine wl_val (.slice p T.length c) rfl (fun _ => rfl) ?_
    simp only [Act.put, Xa, Xz, Xs]
    refine wl_val (.int .i64 (i : Int)) rfl (fun _ => rfl) ?_
    simp only [Act.put, Xa, Xz, Xs]
    refine wl_read (eaddr p (i * 1)) rfl (er_index i 1 (sl_old hT) rfl rfl rfl rfl (by omega) (flat_length (enc := ix) (size := 1) (fun _ => rfl) _) (by decide) Try.underlying40 (by kernel_rfl)) ?_
    simp only [Act.put, Xa, Xz, Xs]
    refine wl_read (.slice ((T[i]!).p) ((T[i]!).X.length) ((T[i]!).c)) rfl (er_cell (i * 1) (.slice ((T[i]!).p) ((T[i]!).X.length) ((T[i]!).c)) (sl_old hT) rfl rfl (flat_cell (enc := ix) (fun _ => rfl) T i 0 (by omega) (by decide)) Try.isAgg63) ?_
    simp only [Act.put, Xa, Xz, Xs]
    refine wl_lit (e := 63) #[.slice ((T[i]!).p) ((T[i]!).X.length) ((T[i]!).c)] 1 rfl (fun _ => by go_simp) ?_
    intro g14
    simp only [Act.put, Xa, Xz, Xs]
    refine wl_append (e := 63) (size := 1) (bytes := 24) (m := 1) [⟨g14, #[.slice ((T[i]!).p) ((T[i]!).X.length) ((T[i]!).c)], 63⟩] [] s (ys := [.slice ((T[i]!).p) ((T[i]!).X.length) ((T[i]!).c)]) rfl b3 (sl_row 0 rfl) rfl (by simp [Value.oneCell']) rfl rfl rfl rfl Try.underlying40 (by unfold Elem; kernel_rfl) (by decide) (by unfold maxLen; omega) (by omega) ?_
    intro s15 hs15
    simp only [List.cons_append, List.nil_append, Act.put, Xa, Xz, Xs]
    refine wl_val (.slice s15.ptr (m + 1) s15.cap) rfl (fun _ => rfl) ?_
    simp only [Act.put, Xa, Xz, Xs]
    refine wl_nil ?_
    refine we_in ?_
    refine we_then ?_
    refine wc_region ?_
    refine wl_val (.int .i64 (i : Int)) rfl (fun _ => rfl) ?_
    simp only [Act.put, Xa, Xz, Xs]
    refine wl_val (.int .i64 ((i + 1 : Nat) : Int)) rfl (fun w => run_nat (X := i) (Y := 1) (Z := i + 1) rfl rfl rfl rfl (by omega) w) ?_
    simp only [Act.put, Xa, Xz, Xs]
    refine wl_val (.int .i64 ((i + 1 : Nat) : Int)) rfl (fun _ => rfl) ?_
    simp only [Act.put, Xa, Xz, Xs]
    refine wl_nil ?_
    exact we_meet ⟨(i + 1), false, (m + 1), s15, (O ++ [T[i]!]), _, _, _, _, _, _, _, _, _, _, _, _, _, _, _, _, _, _, _, _, _, _, _, _, _, _, _, _, _, _, _, _, _, _⟩ (by (try dsimp only); have e3 : pst ltI x (T.take (i + 1)) = (false, (O ++ [T[i]!])) := (by rw [pst_snoc ltI x T (by omega), ← b2]; unfold pstep ltI; simp only [h5, h6, eq_self, and_self, true_and, and_true, and_false, false_and, if_true, if_false, Bool.false_eq_true, Bool.true_eq_false, reduceCtorEq, List.append_nil]); exact ⟨⟨by omega, e3.symm, by simp [bm], has_snoc (x := T[i]!) hs15⟩, by omega⟩) rfl (List.Sublist.cons _ (List.Sublist.append_left List.Sublist.slnil _))
  ·
   skip
   refine wl_skip rfl ?_
   simp only [Act.put, Xa, Xz, Xs]
   refine wl_skip rfl ?_
   simp only [Act.put, Xa, Xz, Xs]
   refine wl_skip rfl ?_
   simp only [Act.put, Xa, Xz, Xs]
   refine wl_skip rfl ?_
   simp only [Act.put, Xa, Xz, Xs]
   refine wl_skip rfl ?_
   simp only [Act.put, Xa, Xz, Xs]
   refine wl_skip rfl ?_
   simp only [Act.put, Xa, Xz, Xs]
   refine wl_skip rfl ?_
   simp only [Act.put, Xa, Xz, Xs]
   refine wl_val (.bool false) rfl (fun _ => rfl) ?_
   simp only [Act.put, Xa, Xz, Xs]
   refine wl_nil ?_
   refine we_then ?_
   refine wc_false rfl ?_
   refine wc_skip ?_
   refine we_then ?_
   refine wc_region ?_
   refine wl_val (.slice s.ptr m s.cap) rfl (fun _ => rfl) ?_
   simp only [Act.put, Xa, Xz, Xs]
   refine wl_val (.slice p T.length c) rfl (fun _ => rfl) ?_
   simp only [Act.put, Xa, Xz, Xs]
   refine wl_val (.int .i64 (i : Int)) rfl (fun _ => rfl) ?_
   simp only [Act.put, Xa, Xz, Xs]
   refine wl_read (eaddr p (i * 1)) rfl (er_index i 1 (sl_old hT) rfl rfl rfl rfl (by omega) (flat_length (enc := ix) (size := 1) (fun _ => rfl) _) (by decide) Try.underlying40 (by kernel_rfl)) ?_
   simp only [Act.put, Xa, Xz, Xs]
   refine wl_read (.slice ((T[i]!).p) ((T[i]!).X.length) ((T[i]!).c)) rfl (er_cell (i * 1) (.slice ((T[i]!).p) ((T[i]!).X.length) ((T[i]!).c)) (sl_old hT) rfl rfl (flat_cell (enc := ix) (fun _ => rfl) T i 0 (by omega) (by decide)) Try.isAgg63) ?_
   simp only [Act.put, Xa, Xz, Xs]
   refine wl_lit (e := 63) #[.slice ((T[i]!).p) ((T[i]!).X.length) ((T[i]!).c)] 1 rfl (fun _ => by go_simp) ?_
   intro g16
   simp only [Act.put, Xa, Xz, Xs]
   refine wl_append (e := 63) (size := 1) (bytes := 24) (m := 1) [⟨g16, #[.slice ((T[i]!).p) ((T[i]!).X.length) ((T[i]!).c)], 63⟩] [] s (ys := [.slice ((T[i]!).p) ((T[i]!).X.length) ((T[i]!).c)]) rfl b3 (sl_row 0 rfl) rfl (by simp [Value.oneCell']) rfl rfl rfl rfl Try.underlying40 (by unfold Elem; kernel_rfl) (by decide) (by unfold maxLen; omega) (by omega) ?_
   intro s17 hs17
   simp only [List.cons_append, List.nil_append, Act.put, Xa, Xz, Xs]
   refine wl_val (.slice s17.ptr (m + 1) s17.cap) rfl (fun _ => rfl) ?_
   simp only [Act.put, Xa, Xz, Xs]
   refine wl_nil ?_
   refine we_in ?_
   refine we_then ?_
   refine wc_region ?_
   refine wl_val (.int .i64 (i : Int)) rfl (fun _ => rfl) ?_
   simp only [Act.put, Xa, Xz, Xs]
   refine wl_val (.int .i64 ((i + 1 : Nat) : Int)) rfl (fun w => run_nat (X := i) (Y := 1) (Z := i + 1) rfl rfl rfl rfl (by omega) w) ?_
   simp only [Act.put, Xa, Xz, Xs]
   refine wl_val (.int .i64 ((i + 1 : Nat) : Int)) rfl (fun _ => rfl) ?_
   simp only [Act.put, Xa, Xz, Xs]
   refine wl_nil ?_
   exact we_meet ⟨(i + 1), true, (m + 1), s17, (O ++ [T[i]!]), _, _, _, _, _, _, _, _, _, _, _, _, _, _, _, _, _, _, _, _, _, _, _, _, _, _, _, _, _, _, _, _, _, _⟩ (by (try dsimp only); have e3 : pst ltI x (T.take (i + 1)) = (true, (O ++ [T[i]!])) := (by rw [pst_snoc ltI x T (by omega), ← b2]; unfold pstep ltI; simp only [h5, eq_self, and_self, true_and, and_true, and_false, false_and, if_true, if_false, Bool.false_eq_true, Bool.true_eq_false, reduceCtorEq, List.append_nil]); exact ⟨⟨by omega, e3.symm, by simp [bm], has_snoc (x := T[i]!) hs17⟩, by omega⟩) rfl (List.Sublist.cons _ (List.Sublist.append_left List.Sublist.slnil _))
theorem put_len (T : List Ix) (x : Ix) (p : Option Addr) (c m : Nat) (w : World) (hl : T.length = m) (hT : Reads w p (flat ix T)) (hO : OkI w T) (hx : Reads w x.p (flat enc1 x.X)) (hn : T.length ≤ 1048576) (hm : x.X.length ≤ 140737488355328) :
  Calls Try.prog 47 #[.slice p m c, .slice x.p x.X.length x.c] w fun e w' => ∃ s : Own, s.Has 1 (ins ltI x T).length (flat ix (ins ltI x T)) ∧ e = .returned (.slice s.ptr (ins ltI x T).length s.cap) ∧ Env w w' (s.rows 63) := by
 subst hl
 exact put_any T x p c w hT hO hx hn hm
set_option maxHeartbeats 2000000 in
theorem end_any (f : Int) (X : List Int) (a1 : Option Addr) (c1 : Nat) (G : List Sg) (H : List Gp) (p q : Option Addr) (c d : Nat) (w : World) (hS : Reads w p (flat sg G)) (hG : OkS w G) (hH : Reads w q (flat gp H)) (hn : G.length ≤ 140737488355328) (hm : H.length ≤ 140737488355328) (hM : ∀ j, j < G.length → SegMay (G[j]!) G.length) (hf : 0 ≤ f ∧ f ≤ 1099511627776) (hX : Reads w a1 (flat enc1 X)) (hr : RtOk G X) :
  Calls Try.prog 15 #[.agg #[.slice p G.length c, .slice q H.length d], .int .i64 f, .slice a1 X.length c1] w fun e w' => e = .returned (.int .i64 (endR G f X)) ∧ Below w.heap.size w w' := by
 have hr1 := hr.few
 refine calls_sx Try.func15 rfl ?_
 simp only [Try.ntmps15, List.size_toArray, List.length_cons, List.length_nil, Nat.reduceAdd, Nat.reduceSub, Array.replicate_succ, Array.replicate_zero, List.push_toArray, List.append_toArray, List.nil_append, List.cons_append]
 refine wc_seq ?_
 refine wc_region ?_
 refine wl_new 50 (#[.slice p G.length c, .slice q H.length d]) rfl (fun _ => by go_simp) ?_
 intro g1
 simp only [Act.put, Xa, Xz, Xs]
 refine wl_val (.int .i64 0) rfl (fun _ => rfl) ?_
 simp only [Act.put, Xa, Xz, Xs]
 refine wl_nil ?_
 refine we_then ?_
 refine wc_seq ?_
 refine wc_region ?_
 refine wl_val (.int .i64 f) rfl (fun _ => rfl) ?_
 simp only [Act.put, Xa, Xz, Xs]
 refine wl_val (.int .i64 (-f)) rfl (fun w => run_neg rfl rfl Try.underlying2 (i64_in (by omega) (by omega)) w) ?_
 simp only [Act.put, Xa, Xz, Xs]
 refine wl_val (.int .i64 (-f)) rfl (fun _ => rfl) ?_
 simp only [Act.put, Xa, Xz, Xs]
 refine wl_nil ?_
 refine we_then ?_
 refine wc_seq ?_
 refine wc_seq ?_
 refine wc_region ?_
 refine wl_val (.int .i64 0) rfl (fun _ => rfl) ?_
 simp only [Act.put, Xa, Xz, Xs]
 refine wl_nil ?_
 refine we_then ?_
 refine wc_block ?_
 refine wc_loop (fun (zz : Nat × Int × Value × Value × Value × Value × Value × Value × Value × Value × Value × Value × Value × Value × Value × Value × Value × Value × Value) => match zz with | ⟨i, a, u11, u12, u13, u14, u15, u16, u17, u18, u19, u20, u21, u22, u23, u24, u25, u26, u27⟩ => ({ tmps := #[.agg #[.slice p G.length c, .slice q H.length d], .int .i64 f, .slice a1 X.length c1, .pointer (some ⟨g1, 0, none⟩), undef, undef, .int .i64 0, .int .i64 a, .int .i64 (i : Int), .int .i64 f, .int .i64 (-f), u11, u12, u13, u14, u15, u16, u17, u18, u19, u20, u21, u22, u23, u24, u25, u26, u27, undef], defers := [] } : Act)) (fun (zz : Nat × Int × Value × Value × Value × Value × Value × Value × Value × Value × Value × Value × Value × Value × Value × Value × Value × Value × Value) => match zz with | ⟨i, a, u11, u12, u13, u14, u15, u16, u17, u18, u19, u20, u21, u22, u23, u24, u25, u26, u27⟩ => [⟨g1, #[.slice p G.length c, .slice q H.length d], 50⟩]) (fun (zz : Nat × Int × Value × Value × Value × Value × Value × Value × Value × Value × Value × Value × Value × Value × Value × Value × Value × Value × Value) => match zz with | ⟨i, a, u11, u12, u13, u14, u15, u16, u17, u18, u19, u20, u21, u22, u23, u24, u25, u26, u27⟩ => i ≤ X.length ∧ a = endR G f (X.take i)) (fun (zz : Nat × Int × Value × Value × Value × Value × Value × Value × Value × Value × Value × Value × Value × Value × Value × Value × Value × Value × Value) => match zz with | ⟨i, a, u11, u12, u13, u14, u15, u16, u17, u18, u19, u20, u21, u22, u23, u24, u25, u26, u27⟩ => X.length - i) ⟨0, (-f), _, _, _, _, _, _, _, _, _, _, _, _, _, _, _, _, _⟩ ⟨Nat.zero_le _, rfl⟩ rfl (List.Sublist.cons_cons _ List.Sublist.slnil) ?_
 rintro ⟨i, a, u11, u12, u13, u14, u15, u16, u17, u18, u19, u20, u21, u22, u23, u24, u25, u26, u27⟩ hφ
 (try dsimp only at hφ ⊢)
 obtain ⟨b1, b2⟩ := hφ
 have b3 := end_in (f := f) hM hr i b1
 rw [← b2] at b3
 refine wc_seq ?_
 refine wc_seq ?_
 refine wc_region ?_
 refine wl_val (.int .i64 (i : Int)) rfl (fun _ => rfl) ?_
 simp only [Act.put, Xa, Xz, Xs]
 refine wl_val (.slice a1 X.length c1) rfl (fun _ => rfl) ?_
 simp only [Act.put, Xa, Xz, Xs]
 refine wl_val (.int .i64 (X.length : Int)) rfl (fun w => er_len rfl rfl Try.underlying63 w) ?_
 simp only [Act.put, Xa, Xz, Xs]
 refine wl_val (.bool (decide ((i : Int) < (X.length : Int)))) rfl (fun w => run_cmp rfl rfl rfl Try.underlying3 rfl w) ?_
 simp only [Act.put, Xa, Xz, Xs]
 refine wl_nil ?_
 refine we_then ?_
 cases h2 : (decide ((i : Int) < (X.length : Int)))
 ·
  skip
  have p2 : ¬ ((i : Int) < (X.length : Int)) := of_decide_eq_false h2
  refine wc_false rfl ?_
  refine wc_exit ?_
  refine we_then_exit ?_
  refine we_then_exit ?_
  refine we_in_here ?_
  refine we_then ?_
  refine wc_seq ?_
  refine wc_region ?_
  refine wl_val (.int .i64 a) rfl (fun _ => rfl) ?_
  simp only [Act.put, Xa, Xz, Xs]
  refine wl_val (.int .i64 a) rfl (fun _ => rfl) ?_
  simp only [Act.put, Xa, Xz, Xs]
  refine wl_nil ?_
  refine we_then ?_
  refine wc_ret ?_
  refine we_ret1 (.int .i64 a) rfl rfl rfl (fun w1 hE => ?_)
  have e1 : i = X.length := by omega
  subst e1
  rw [List.take_length] at b2
  exact ⟨by rw [← b2], hE.below⟩
 ·
  skip
  have p2 : (i : Int) < (X.length : Int) := of_decide_eq_true h2
  refine wc_true rfl ?_
  refine wc_skip ?_
  refine we_then ?_
  refine wc_seq ?_
  refine wc_block ?_
  have q1 := hr.each i (by omega)
  have q2 := hM (X[i]!).toNat (by omega)
  have q3 := q2.low
  have q4 := q2.high
  refine wc_draw [.late, .late, .plain, .late, .late, .plain, .plain, .plain, .plain, .plain, .late, .late] none [] 29 (by kernel_rfl) rfl (by kernel_rfl) (by kernel_rfl) ?_
  refine ws_late (.int .i64 a) rfl rfl (fun _ => rfl) ?_
  simp only [Nat.reduceAdd, Act.put, Xa, Xz, Xs]
  refine ws_late (.pointer (some ⟨g1, 0, none⟩)) rfl rfl (fun _ => by go_simp) ?_
  simp only [Nat.reduceAdd, Act.put, Xa, Xz, Xs]
  refine ws_cell 47 (.tmp 18) (.slice p G.length c) (own_row 0 rfl) rfl rfl rfl rfl rfl Try.isAgg47 ?_
  simp only [Nat.reduceAdd, Act.put, Xa, Xz, Xs]
  refine ws_late (.slice a1 X.length c1) rfl rfl (fun _ => rfl) ?_
  simp only [Nat.reduceAdd, Act.put, Xa, Xz, Xs]
  refine ws_late (.int .i64 (i : Int)) rfl rfl (fun _ => rfl) ?_
  simp only [Nat.reduceAdd, Act.put, Xa, Xz, Xs]
  refine ws_read (eaddr a1 (i * 1)) rfl rfl (er_index i 1 (sl_old hX) rfl rfl rfl rfl (by omega) (flat_length (enc := enc1) (size := 1) (fun _ => rfl) _) (by decide) Try.underlying63 (by kernel_rfl)) ?_
  simp only [Nat.reduceAdd, Act.put, Xa, Xz, Xs]
  refine ws_read (.int .i64 (X[i]!)) rfl rfl (er_cell (i * 1) (.int .i64 (X[i]!)) (sl_old hX) rfl rfl (flat_cell (enc := enc1) (fun _ => rfl) X i 0 (by omega) (by decide)) Try.isAgg3) ?_
  simp only [Nat.reduceAdd, Act.put, Xa, Xz, Xs]
  refine ws_read (eaddr p (((X[i]!).toNat) * 3)) rfl rfl (er_index ((X[i]!).toNat) 3 (sl_old hS) rfl rfl rfl (by omega) (by omega) (flat_length (enc := sg) (size := 3) (fun _ => rfl) _) (by decide) Try.underlying47 (by kernel_rfl)) ?_
  simp only [Nat.reduceAdd, Act.put, Xa, Xz, Xs]
  refine ws_read (eaddr p (((X[i]!).toNat) * 3 + 0)) rfl rfl (er_field (z := 0) (((X[i]!).toNat) * 3) 0 0 (sl_old hS) rfl rfl (flat_lt (enc := sg) (fun _ => rfl) G ((X[i]!).toNat) 0 (by omega) (by decide)) Try.underlying88 rfl rfl (by kernel_rfl)) ?_
  simp only [Nat.reduceAdd, Act.put, Xa, Xz, Xs]
  refine ws_read (.int .i64 ((G[(X[i]!).toNat]!).len)) rfl rfl (er_cell (((X[i]!).toNat) * 3 + 0) (.int .i64 ((G[(X[i]!).toNat]!).len)) (sl_old hS) rfl rfl (flat_cell (enc := sg) (fun _ => rfl) G ((X[i]!).toNat) 0 (by omega) (by decide)) Try.isAgg2) ?_
  simp only [Nat.reduceAdd, Act.put, Xa, Xz, Xs]
  refine ws_late (.int .i64 (a + ((G[(X[i]!).toNat]!).len))) rfl rfl (fun w => run_arith (op := .add) rfl rfl rfl Try.underlying2 (congrArg some (i64_in (by omega) (by omega))) w) ?_
  simp only [Nat.reduceAdd, Act.put, Xa, Xz, Xs]
  refine ws_late (.int .i64 (a + ((G[(X[i]!).toNat]!).len))) rfl rfl (fun _ => rfl) ?_
  simp only [Nat.reduceAdd, Act.put, Xa, Xz, Xs]
  refine ws_nil [] trivial (by simp) ?_
  intro ps3
  simp only [fin, List.foldl_nil, List.map, List.nil_append]
  refine we_in ?_
  refine we_then ?_
  refine wc_region ?_
  refine wl_val (.int .i64 (i : Int)) rfl (fun _ => rfl) ?_
  simp only [Act.put, Xa, Xz, Xs]
  refine wl_val (.int .i64 ((i + 1 : Nat) : Int)) rfl (fun w => run_nat (X := i) (Y := 1) (Z := i + 1) rfl rfl rfl rfl (by omega) w) ?_
  simp only [Act.put, Xa, Xz, Xs]
  refine wl_val (.int .i64 ((i + 1 : Nat) : Int)) rfl (fun _ => rfl) ?_
  simp only [Act.put, Xa, Xz, Xs]
  refine wl_nil ?_
  exact we_meet ⟨(i + 1), (a + (G[(X[i]!).toNat]!).len), _, _, _, _, _, _, _, _, _, _, _, _, _, _, _, _, _⟩ (by (try dsimp only); exact ⟨⟨by omega, by rw [end_snoc G f X (by omega), ← b2]⟩, by omega⟩) rfl (List.Sublist.cons_cons _ List.Sublist.slnil)
end Go.Proofs.Ytbacchdkankioaa.Rtref
