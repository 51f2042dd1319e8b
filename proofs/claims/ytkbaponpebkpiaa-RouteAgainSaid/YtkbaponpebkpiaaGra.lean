/-
 Package grade. Conditions: at most 2^47 pieces; At, Bounds: pieces that may be those of a length.
-/
import Derived.Test.YtkbaponpebkpiaaGref
import Derived.Test.YtkbaponpebkpiaaSpn
import Derived.Test.YtkbaponpebkpiaaGrm
import Derived.Test.YtkbaponpebkpiaaFns
namespace Go.Proofs.Ytkbaponpebkpiaa.Gra
open Go.ChangeShapes Go.WideShapes Go.ChangeAt Go.RowKit
open Arr Steady Sx Sw Sl Sb Sc Vs Gr Grm Spn Fns
set_option linter.unusedVariables false
set_option linter.unusedSimpArgs false
set_option maxRecDepth 100000

set_option maxHeartbeats 2000000 in
theorem clo_lo (x : Int × Int) (b : Nat) (lo hi : Int) (w : World) (hb : w.heap[b]? = some (.cells #[.int .i64 lo, .int .i64 hi] 53 (0, 0))) :
  Calls Try.prog 75 #[.agg #[.int .i64 x.1, .int .i64 x.2], .pointer (some ⟨b, 0, none⟩)] w fun e w' => e = .returned (.bool (qlt lo x)) ∧ Below w.heap.size w w' := by
 refine calls_sx Try.func75 rfl ?_
 simp only [Try.ntmps75, List.size_toArray, List.length_cons, List.length_nil, Nat.reduceAdd, Nat.reduceSub, Array.replicate_succ, Array.replicate_zero, List.push_toArray, List.append_toArray, List.nil_append, List.cons_append]
 refine wc_seq ?_
 refine wc_region ?_
 refine wl_new 71 (#[.int .i64 x.1, .int .i64 x.2]) rfl (fun _ => by go_simp) ?_
 intro g1
 simp only [Act.put, Xa, Xz, Xs]
 refine wl_val (.bool false) rfl (fun _ => rfl) ?_
 simp only [Act.put, Xa, Xz, Xs]
 refine wl_nil ?_
 refine we_then ?_
 refine wc_seq ?_
 refine wc_region ?_
 refine wl_val (.pointer (some ⟨g1, 0, none⟩)) rfl (fun _ => by go_simp) ?_
 simp only [Act.put, Xa, Xz, Xs]
 refine wl_cell 2 (.tmp 4) (.int .i64 x.1) (own_row 0 rfl) rfl rfl rfl rfl Try.isAgg2 ?_
 simp only [Act.put, Xa, Xz, Xs]
 refine wl_val (.pointer (some ⟨b, 0, none⟩)) rfl (fun _ => by go_simp) ?_
 simp only [Act.put, Xa, Xz, Xs]
 refine wl_cell 2 (.tmp 6) (.int .i64 lo) (old_row hb) rfl rfl rfl rfl Try.isAgg2 ?_
 simp only [Act.put, Xa, Xz, Xs]
 refine wl_val (.bool (decide (x.1 < lo))) rfl (fun w => run_cmp rfl rfl rfl Try.underlying2 rfl w) ?_
 simp only [Act.put, Xa, Xz, Xs]
 refine wl_val (.bool (decide (x.1 < lo))) rfl (fun _ => rfl) ?_
 simp only [Act.put, Xa, Xz, Xs]
 refine wl_nil ?_
 refine we_then ?_
 refine wc_ret ?_
 refine we_ret1 (.bool (decide (x.1 < lo))) rfl rfl rfl (fun w1 hE => ?_)
 exact ⟨rfl, hE.below⟩
set_option maxHeartbeats 2000000 in
theorem clo_hi (x : Int × Int) (b : Nat) (lo hi : Int) (w : World) (hb : w.heap[b]? = some (.cells #[.int .i64 lo, .int .i64 hi] 53 (0, 0))) :
  Calls Try.prog 76 #[.agg #[.int .i64 x.1, .int .i64 x.2], .pointer (some ⟨b, 0, none⟩)] w fun e w' => e = .returned (.bool (qle hi x)) ∧ Below w.heap.size w w' := by
 refine calls_sx Try.func76 rfl ?_
 simp only [Try.ntmps76, List.size_toArray, List.length_cons, List.length_nil, Nat.reduceAdd, Nat.reduceSub, Array.replicate_succ, Array.replicate_zero, List.push_toArray, List.append_toArray, List.nil_append, List.cons_append]
 refine wc_seq ?_
 refine wc_region ?_
 refine wl_new 71 (#[.int .i64 x.1, .int .i64 x.2]) rfl (fun _ => by go_simp) ?_
 intro g1
 simp only [Act.put, Xa, Xz, Xs]
 refine wl_val (.bool false) rfl (fun _ => rfl) ?_
 simp only [Act.put, Xa, Xz, Xs]
 refine wl_nil ?_
 refine we_then ?_
 refine wc_seq ?_
 refine wc_region ?_
 refine wl_val (.pointer (some ⟨g1, 0, none⟩)) rfl (fun _ => by go_simp) ?_
 simp only [Act.put, Xa, Xz, Xs]
 refine wl_cell 2 (.tmp 4) (.int .i64 x.1) (own_row 0 rfl) rfl rfl rfl rfl Try.isAgg2 ?_
 simp only [Act.put, Xa, Xz, Xs]
 refine wl_val (.pointer (some ⟨b, 1, none⟩)) rfl (fun _ => by go_simp) ?_
 simp only [Act.put, Xa, Xz, Xs]
 refine wl_cell 2 (.tmp 6) (.int .i64 hi) (old_row hb) rfl rfl rfl rfl Try.isAgg2 ?_
 simp only [Act.put, Xa, Xz, Xs]
 refine wl_val (.bool (decide (x.1 ≤ hi))) rfl (fun w => run_cmp rfl rfl rfl Try.underlying2 rfl w) ?_
 simp only [Act.put, Xa, Xz, Xs]
 refine wl_val (.bool (decide (x.1 ≤ hi))) rfl (fun _ => rfl) ?_
 simp only [Act.put, Xa, Xz, Xs]
 refine wl_nil ?_
 refine we_then ?_
 refine wc_ret ?_
 refine we_ret1 (.bool (decide (x.1 ≤ hi))) rfl rfl rfl (fun w1 hE => ?_)
 exact ⟨rfl, hE.below⟩
set_option maxHeartbeats 2000000 in
theorem search_any (n : Nat) (p : Nat → Bool) (F : FuncId) (CB : Array Value) (w : World) (hn : n ≤ 140737488355328) (eg : Enters Try.prog F) (hF : ∀ W, Below w.heap.size w W → ∀ i, i < n → Calls Try.prog F (#[.int .i64 (i : Int)] ++ CB) W fun e w' => e = .returned (.bool (p i)) ∧ Below W.heap.size W w') (hm : ∀ a b, a ≤ b → b < n → p a = true → p b = true) :
  Calls Try.prog 92 #[.int .i64 (n : Int), .func (.func F) #[] CB] w fun e w' => e = .returned (.int .i64 (ups p n : Nat)) ∧ Below w.heap.size w w' := by
 refine calls_sx Try.func92 rfl ?_
 simp only [Try.ntmps92, List.size_toArray, List.length_cons, List.length_nil, Nat.reduceAdd, Nat.reduceSub, Array.replicate_succ, Array.replicate_zero, List.push_toArray, List.append_toArray, List.nil_append, List.cons_append]
 refine wc_seq ?_
 refine wc_region ?_
 refine wl_val (.int .i64 0) rfl (fun _ => rfl) ?_
 simp only [Act.put, Xa, Xz, Xs]
 refine wl_nil ?_
 refine we_then ?_
 refine wc_seq ?_
 refine wc_region ?_
 refine wl_val (.int .i64 (n : Int)) rfl (fun _ => rfl) ?_
 simp only [Act.put, Xa, Xz, Xs]
 refine wl_val (.int .i64 0) rfl (fun _ => rfl) ?_
 simp only [Act.put, Xa, Xz, Xs]
 refine wl_val (.int .i64 (n : Int)) rfl (fun _ => rfl) ?_
 simp only [Act.put, Xa, Xz, Xs]
 refine wl_nil ?_
 refine we_then ?_
 refine wc_seq ?_
 refine wc_block ?_
 refine wc_loop (fun (zz : Nat × Nat × Value × Value × Value × Value × Value × Value × Value × Value × Value × Value × Value × Value × Value × Value × Value × Value × Value) => match zz with | ⟨lo, hi, u7, u9, u10, u11, u12, u13, u14, u15, u16, u17, u18, u19, u20, u21, u22, u23, u24⟩ => ({ tmps := #[.int .i64 (n : Int), .func (.func F) #[] CB, undef, undef, .int .i64 0, .int .i64 (lo : Int), .int .i64 (hi : Int), u7, .int .i64 (n : Int), u9, u10, u11, u12, u13, u14, u15, u16, u17, u18, u19, u20, u21, u22, u23, u24, undef], defers := [] } : Act)) (fun (zz : Nat × Nat × Value × Value × Value × Value × Value × Value × Value × Value × Value × Value × Value × Value × Value × Value × Value × Value × Value) => match zz with | ⟨lo, hi, u7, u9, u10, u11, u12, u13, u14, u15, u16, u17, u18, u19, u20, u21, u22, u23, u24⟩ => []) (fun (zz : Nat × Nat × Value × Value × Value × Value × Value × Value × Value × Value × Value × Value × Value × Value × Value × Value × Value × Value × Value) => match zz with | ⟨lo, hi, u7, u9, u10, u11, u12, u13, u14, u15, u16, u17, u18, u19, u20, u21, u22, u23, u24⟩ => lo ≤ hi ∧ hi ≤ n ∧ (∀ t, t < lo → p t = false) ∧ (∀ t, hi ≤ t → t < n → p t = true)) (fun (zz : Nat × Nat × Value × Value × Value × Value × Value × Value × Value × Value × Value × Value × Value × Value × Value × Value × Value × Value × Value) => match zz with | ⟨lo, hi, u7, u9, u10, u11, u12, u13, u14, u15, u16, u17, u18, u19, u20, u21, u22, u23, u24⟩ => hi - lo) ⟨0, n, _, _, _, _, _, _, _, _, _, _, _, _, _, _, _, _, _⟩ ⟨Nat.zero_le _, Nat.le_refl _, fun t ht => absurd ht (Nat.not_lt_zero t), fun t u1 u2 => absurd u2 (by omega)⟩ rfl List.Sublist.slnil ?_
 rintro ⟨lo, hi, u7, u9, u10, u11, u12, u13, u14, u15, u16, u17, u18, u19, u20, u21, u22, u23, u24⟩ hφ
 (try dsimp only at hφ ⊢)
 obtain ⟨b1, b2, b3, b4⟩ := hφ
 refine wc_seq ?_
 refine wc_seq ?_
 refine wc_region ?_
 refine wl_val (.int .i64 (lo : Int)) rfl (fun _ => rfl) ?_
 simp only [Act.put, Xa, Xz, Xs]
 refine wl_val (.int .i64 (hi : Int)) rfl (fun _ => rfl) ?_
 simp only [Act.put, Xa, Xz, Xs]
 refine wl_val (.bool (decide ((lo : Int) < (hi : Int)))) rfl (fun w => run_cmp rfl rfl rfl Try.underlying3 rfl w) ?_
 simp only [Act.put, Xa, Xz, Xs]
 refine wl_nil ?_
 refine we_then ?_
 cases h1 : (decide ((lo : Int) < (hi : Int)))
 ·
  skip
  have p1 : ¬ ((lo : Int) < (hi : Int)) := of_decide_eq_false h1
  refine wc_false rfl ?_
  refine wc_exit ?_
  refine we_then_exit ?_
  refine we_then_exit ?_
  refine we_in_here ?_
  refine we_then ?_
  refine wc_seq ?_
  refine wc_region ?_
  refine wl_val (.int .i64 (lo : Int)) rfl (fun _ => rfl) ?_
  simp only [Act.put, Xa, Xz, Xs]
  refine wl_val (.int .i64 (lo : Int)) rfl (fun _ => rfl) ?_
  simp only [Act.put, Xa, Xz, Xs]
  refine wl_nil ?_
  refine we_then ?_
  refine wc_ret ?_
  refine we_ret1 (.int .i64 (lo : Int)) rfl rfl rfl (fun w1 hE => ?_)
  have e1 : lo = hi := by omega
  subst e1
  exact ⟨by rw [ups_is b3 n (by omega) b4], hE.below⟩
 ·
  skip
  have p1 : (lo : Int) < (hi : Int) := of_decide_eq_true h1
  refine wc_true rfl ?_
  refine wc_skip ?_
  refine we_then ?_
  refine wc_block ?_
  refine wc_seq ?_
  refine wc_region ?_
  refine wl_val (.int .i64 (lo : Int)) rfl (fun _ => rfl) ?_
  simp only [Act.put, Xa, Xz, Xs]
  refine wl_val (.int .i64 (hi : Int)) rfl (fun _ => rfl) ?_
  simp only [Act.put, Xa, Xz, Xs]
  refine wl_val (.int .i64 ((lo + hi : Nat) : Int)) rfl (fun w => run_nat (X := lo) (Y := hi) (Z := lo + hi) rfl rfl rfl rfl (by omega) w) ?_
  simp only [Act.put, Xa, Xz, Xs]
  refine wl_val (.int .u64 ((lo + hi : Nat) : Int)) rfl (fun w => run_conv (X := ((lo + hi : Nat) : Int)) rfl rfl Try.underlying3 Try.underlying109 (u64_in (by omega) (by omega)) w) ?_
  simp only [Act.put, Xa, Xz, Xs]
  refine wl_val (.int .u64 (((lo + hi) / 2 : Nat) : Int)) rfl (fun w => run_shrn (X := lo + hi) 1 2 (by decide) (by decide) rfl rfl rfl w) ?_
  simp only [Act.put, Xa, Xz, Xs]
  refine wl_val (.int .i64 (((lo + hi) / 2 : Nat) : Int)) rfl (fun w => run_conv (X := (((lo + hi) / 2 : Nat) : Int)) rfl rfl Try.underlying109 Try.underlying3 (i64_in (by omega) (by omega)) w) ?_
  simp only [Act.put, Xa, Xz, Xs]
  refine wl_val (.int .i64 (((lo + hi) / 2 : Nat) : Int)) rfl (fun _ => rfl) ?_
  simp only [Act.put, Xa, Xz, Xs]
  refine wl_nil ?_
  refine we_then ?_
  refine wc_seq ?_
  refine wc_region ?_
  refine wl_val (.func (.func F) #[] CB) rfl (fun _ => rfl) ?_
  simp only [Act.put, Xa, Xz, Xs]
  refine wl_val (.int .i64 (((lo + hi) / 2 : Nat) : Int)) rfl (fun _ => rfl) ?_
  simp only [Act.put, Xa, Xz, Xs]
  refine wl_call_at F (#[.int .i64 (((lo + hi) / 2 : Nat) : Int)] ++ CB) (.bool (p ((lo + hi) / 2))) rfl (er_value eg rfl rfl rfl) (fun W hE => hF W hE.below ((lo + hi) / 2) (by omega)) ?_
  simp only [Act.put, Xa, Xz, Xs]
  refine wl_val (.bool (!(p ((lo + hi) / 2)))) rfl (fun _ => by go_simp) ?_
  simp only [Act.put, Xa, Xz, Xs]
  refine wl_nil ?_
  refine we_then ?_
  cases h2 : (p ((lo + hi) / 2))
  ·
   skip
   refine wc_true rfl ?_
   refine wc_region ?_
   refine wl_val (.int .i64 (((lo + hi) / 2 : Nat) : Int)) rfl (fun _ => rfl) ?_
   simp only [Act.put, Xa, Xz, Xs]
   refine wl_val (.int .i64 ((((lo + hi) / 2) + 1 : Nat) : Int)) rfl (fun w => run_nat (X := (lo + hi) / 2) (Y := 1) (Z := ((lo + hi) / 2) + 1) rfl rfl rfl rfl (by omega) w) ?_
   simp only [Act.put, Xa, Xz, Xs]
   refine wl_val (.int .i64 ((((lo + hi) / 2) + 1 : Nat) : Int)) rfl (fun _ => rfl) ?_
   simp only [Act.put, Xa, Xz, Xs]
   refine wl_nil ?_
   refine we_in ?_
   exact we_meet ⟨((lo + hi) / 2 + 1), hi, _, _, _, _, _, _, _, _, _, _, _, _, _, _, _, _, _⟩ ⟨⟨by (try dsimp only); omega, b2, fun t h1 => (by cases hq : p t with | false => rfl | true => (have h5 := hm t ((lo + hi) / 2) (by omega) (by omega) hq; rw [h2] at h5; cases h5)), b4⟩, by (try dsimp only); omega⟩ rfl List.Sublist.slnil
  ·
   skip
   refine wc_false rfl ?_
   refine wc_region ?_
   refine wl_val (.int .i64 (((lo + hi) / 2 : Nat) : Int)) rfl (fun _ => rfl) ?_
   simp only [Act.put, Xa, Xz, Xs]
   refine wl_val (.int .i64 (((lo + hi) / 2 : Nat) : Int)) rfl (fun _ => rfl) ?_
   simp only [Act.put, Xa, Xz, Xs]
   refine wl_nil ?_
   refine we_in ?_
   exact we_meet ⟨lo, ((lo + hi) / 2), _, _, _, _, _, _, _, _, _, _, _, _, _, _, _, _, _⟩ ⟨⟨by (try dsimp only); omega, by (try dsimp only); omega, b3, fun t u1 u2 => hm ((lo + hi) / 2) t u1 u2 h2⟩, by (try dsimp only); omega⟩ rfl List.Sublist.slnil
set_option maxHeartbeats 2000000 in
theorem last1_any (L : Spans) (p : Option Addr) (c : Nat) (i bf bl : Nat) (q : Int × Int → Bool) (F : FuncId) (CB : Array Value) (w : World) (hbf : w.heap[bf]? = some (.cells #[.func (.func F) #[] CB] 140 (0, 0))) (hbl : w.heap[bl]? = some (.cells #[.slice p L.length c] 60 (0, 0))) (hL : Reads w p (flat enc2 L)) (hi : i < L.length) (hn : L.length ≤ 140737488355328) (eg : Enters Try.prog F) (hF : ∀ W, Below w.heap.size w W → Calls Try.prog F (#[.agg #[.int .i64 (L[i]!).1, .int .i64 (L[i]!).2]] ++ CB) W fun e w' => e = .returned (.bool (q L[i]!)) ∧ Below W.heap.size W w') :
  Calls Try.prog 93 #[.int .i64 (i : Int), .pointer (some ⟨bf, 0, none⟩), .pointer (some ⟨bl, 0, none⟩)] w fun e w' => e = .returned (.bool (!q L[i]!)) ∧ Below w.heap.size w w' := by
 refine calls_sx Try.func93 rfl ?_
 simp only [Try.ntmps93, List.size_toArray, List.length_cons, List.length_nil, Nat.reduceAdd, Nat.reduceSub, Array.replicate_succ, Array.replicate_zero, List.push_toArray, List.append_toArray, List.nil_append, List.cons_append]
 refine wc_seq ?_
 refine wc_region ?_
 refine wl_val (.bool false) rfl (fun _ => rfl) ?_
 simp only [Act.put, Xa, Xz, Xs]
 refine wl_nil ?_
 refine we_then ?_
 refine wc_seq ?_
 refine wc_draw [.plain, .plain, .late, .plain, .plain, .plain, .late, .late] none [] 12 (by kernel_rfl) rfl (by kernel_rfl) (by kernel_rfl) ?_
 refine ws_cell 140 (.tmp 1) (.func (.func F) #[] CB) (old_row hbf) rfl rfl rfl rfl rfl Try.isAgg140 ?_
 simp only [Nat.reduceAdd, Act.put, Xa, Xz, Xs]
 refine ws_cell 60 (.tmp 2) (.slice p L.length c) (old_row hbl) rfl rfl rfl rfl rfl Try.isAgg60 ?_
 simp only [Nat.reduceAdd, Act.put, Xa, Xz, Xs]
 refine ws_late (.int .i64 (i : Int)) rfl rfl (fun _ => rfl) ?_
 simp only [Nat.reduceAdd, Act.put, Xa, Xz, Xs]
 refine ws_read (eaddr p (i * 2)) rfl rfl (er_index i 2 (sl_old hL) rfl rfl rfl rfl (by omega) (flat_length (enc := enc2) (size := 2) (fun _ => rfl) _) (by decide) Try.underlying60 (by kernel_rfl)) ?_
 simp only [Nat.reduceAdd, Act.put, Xa, Xz, Xs]
 refine ws_read (.agg #[.int .i64 ((L[i]!).1), .int .i64 ((L[i]!).2)]) rfl rfl (er_part (i * 2) [.int .i64 ((L[i]!).1), .int .i64 ((L[i]!).2)] (sl_old hL) rfl rfl (flat_part (enc := enc2) (fun _ => rfl) L i (by omega)) (Nat.zero_lt_succ _) Try.underlying71 rfl (by kernel_rfl)) ?_
 simp only [Nat.reduceAdd, Act.put, Xa, Xz, Xs]
 refine ws_call_at F (#[.agg #[.int .i64 ((L[i]!).1), .int .i64 ((L[i]!).2)]] ++ CB) (.bool (q L[i]!)) rfl rfl (er_value eg rfl rfl rfl) (fun W hE => by have h9 := hF W hE.below; exact h9) ?_
 simp only [Nat.reduceAdd, Act.put, Xa, Xz, Xs]
 refine ws_late (.bool (!(q L[i]!))) rfl rfl (fun _ => by go_simp) ?_
 simp only [Nat.reduceAdd, Act.put, Xa, Xz, Xs]
 refine ws_late (.bool (!(q L[i]!))) rfl rfl (fun _ => rfl) ?_
 simp only [Nat.reduceAdd, Act.put, Xa, Xz, Xs]
 refine ws_nil [] trivial (by simp) ?_
 intro ps1
 simp only [fin, List.foldl_nil, List.map, List.nil_append]
 refine we_then ?_
 refine wc_ret ?_
 refine we_ret1 (.bool (!(q L[i]!))) rfl rfl rfl (fun w1 hE => ?_)
 exact ⟨rfl, hE.below⟩
set_option maxHeartbeats 2000000 in
theorem last_any (L : Spans) (p : Option Addr) (c : Nat) (q : Int × Int → Bool) (F : FuncId) (CB : Array Value) (w : World) (hL : Reads w p (flat enc2 L)) (hn : L.length ≤ 140737488355328) (eg : Enters Try.prog F) (hF : ∀ W, Below w.heap.size w W → ∀ i, i < L.length → Calls Try.prog F (#[.agg #[.int .i64 (L[i]!).1, .int .i64 (L[i]!).2]] ++ CB) W fun e w' => e = .returned (.bool (q L[i]!)) ∧ Below W.heap.size W w') (hm : Down q L) :
  Calls Try.prog 74 #[.slice p L.length c, .func (.func F) #[] CB] w fun e w' => e = .returned (.int .i64 ((lastQ q L : Nat) : Int)) ∧ Below w.heap.size w w' := by
 have hu := ups_le (fun t => !q L[t]!) L.length
 refine calls_sx Try.func74 rfl ?_
 simp only [Try.ntmps74, List.size_toArray, List.length_cons, List.length_nil, Nat.reduceAdd, Nat.reduceSub, Array.replicate_succ, Array.replicate_zero, List.push_toArray, List.append_toArray, List.nil_append, List.cons_append]
 refine wc_seq ?_
 refine wc_region ?_
 refine wl_new 60 (#[.slice p L.length c]) rfl (fun _ => by go_simp) ?_
 intro g1
 simp only [Act.put, Xa, Xz, Xs]
 refine wl_new 140 (#[.func (.func F) #[] CB]) rfl (fun _ => by go_simp) ?_
 intro g2
 simp only [Act.put, Xa, Xz, Xs]
 refine wl_val (.int .i64 0) rfl (fun _ => rfl) ?_
 simp only [Act.put, Xa, Xz, Xs]
 refine wl_nil ?_
 refine we_then ?_
 refine wc_seq ?_
 refine wc_region ?_
 refine wl_cell 60 (.tmp 2) (.slice p L.length c) (own_row 1 rfl) rfl rfl rfl rfl Try.isAgg60 ?_
 simp only [Act.put, Xa, Xz, Xs]
 refine wl_val (.int .i64 (L.length : Int)) rfl (fun w => er_len rfl rfl Try.underlying60 w) ?_
 simp only [Act.put, Xa, Xz, Xs]
 refine wl_val (.func (.func 93) #[] #[.pointer (some ⟨g2, 0, none⟩), .pointer (some ⟨g1, 0, none⟩)]) rfl (fun _ => by go_simp) ?_
 simp only [Act.put, Xa, Xz, Xs]
 refine wl_call_at 92 #[.int .i64 (L.length : Int), .func (.func 93) #[] #[.pointer (some ⟨g2, 0, none⟩), .pointer (some ⟨g1, 0, none⟩)]] (.int .i64 ((ups (fun t => !q L[t]!) L.length : Nat) : Int)) rfl (fun _ => by go_simp) (fun W hE => search_any L.length (fun t => !q L[t]!) 93 #[.pointer (some ⟨g2, 0, none⟩), .pointer (some ⟨g1, 0, none⟩)] W (by omega) (enters_of Try.func93 (by kernel_rfl) rfl) (fun W2 hB i hi => last1_any L p c i g2 g1 q F CB W2 (row_two hB (own_row 0 rfl W hE)) (row_two hB (own_row 1 rfl W hE)) (reads_below (sl_old hL W hE) hB) hi hn eg (fun W3 hB3 => hF W3 (below_two (below_two hE.below hB) hB3) i hi)) (down_not hm)) ?_
 simp only [Act.put, Xa, Xz, Xs]
 refine wl_val (.int .i64 ((ups (fun t => !q L[t]!) L.length : Nat) : Int)) rfl (fun _ => rfl) ?_
 simp only [Act.put, Xa, Xz, Xs]
 refine wl_nil ?_
 refine we_then ?_
 refine wc_seq ?_
 refine wc_region ?_
 refine wl_val (.int .i64 ((ups (fun t => !q L[t]!) L.length : Nat) : Int)) rfl (fun _ => rfl) ?_
 simp only [Act.put, Xa, Xz, Xs]
 refine wl_val (.int .i64 (((ups (fun t => !q L[t]!) L.length : Nat) : Int) - 1)) rfl (fun w => run_arith (op := .sub) rfl rfl rfl Try.underlying3 (congrArg some (i64_in (by omega) (by omega))) w) ?_
 simp only [Act.put, Xa, Xz, Xs]
 refine wl_val (.int .i64 (max (((ups (fun t => !q L[t]!) L.length : Nat) : Int) - 1) 0)) rfl (fun _ => by go_simp) ?_
 simp only [Act.put, Xa, Xz, Xs]
 refine wl_val (.int .i64 (max (((ups (fun t => !q L[t]!) L.length : Nat) : Int) - 1) 0)) rfl (fun _ => rfl) ?_
 simp only [Act.put, Xa, Xz, Xs]
 refine wl_nil ?_
 refine we_then ?_
 refine wc_ret ?_
 refine we_ret1 (.int .i64 (max (((ups (fun t => !q L[t]!) L.length : Nat) : Int) - 1) 0)) rfl rfl rfl (fun w1 hE => ?_)
 exact ⟨by rw [show max (((ups (fun t => !q L[t]!) L.length : Nat) : Int) - 1) 0 = ((lastQ q L : Nat) : Int) from by unfold lastQ; omega], hE.below⟩
theorem hull_one {a b c : Int} (h : a ≤ b) : hullF a b c c = (min a c, max b c) := by
 unfold hullF
 rw [if_pos h, if_pos (Int.le_refl c)]
set_option maxHeartbeats 2000000 in
theorem bounds_core (L : Spans) (p : Option Addr) (c : Nat) (lo hi n : Int) (w : World) (hL : Reads w p (flat enc2 L)) (hn : L.length ≤ 140737488355328) (hm : May L n) (h : lo ≤ hi) (h0 : 1 ≤ L.length) :
  Calls Try.prog 50 #[.slice p L.length c, .agg #[.int .i64 lo, .int .i64 hi]] w fun e w' => e = .returned (.tuple #[.agg #[.int .i64 (bnd L lo hi L.length).1, .int .i64 (bnd L lo hi L.length).2], .bool true]) ∧ Below w.heap.size w w' := by
 obtain ⟨kb, hkb⟩ : ∃ k, k = lastQ (qlt lo) L := ⟨_, rfl⟩
 obtain ⟨ke, hke⟩ : ∃ k, k = lastQ (qle hi) L := ⟨_, rfl⟩
 have kl : kb < L.length := by rw [hkb]; exact last_lt h0
 have kl2 : ke < L.length := by rw [hke]; exact last_lt h0
 have kle : kb ≤ ke := by rw [hkb, hke]; exact from_to hm h
 refine calls_sx Try.func50 rfl ?_
 simp only [Try.ntmps50, List.size_toArray, List.length_cons, List.length_nil, Nat.reduceAdd, Nat.reduceSub, Array.replicate_succ, Array.replicate_zero, List.push_toArray, List.append_toArray, List.nil_append, List.cons_append]
 refine wc_seq ?_
 refine wc_region ?_
 refine wl_new 53 (#[.int .i64 lo, .int .i64 hi]) rfl (fun _ => by go_simp) ?_
 intro g1
 simp only [Act.put, Xa, Xz, Xs]
 refine wl_new 53 (#[.int .i64 0, .int .i64 0]) rfl (fun _ => by go_simp) ?_
 intro g2
 simp only [Act.put, Xa, Xz, Xs]
 refine wl_val (.bool false) rfl (fun _ => rfl) ?_
 simp only [Act.put, Xa, Xz, Xs]
 refine wl_nil ?_
 refine we_then ?_
 refine wc_seq ?_
 refine wc_seq ?_
 refine wc_region ?_
 refine wl_val (.slice p L.length c) rfl (fun _ => rfl) ?_
 simp only [Act.put, Xa, Xz, Xs]
 refine wl_val (.int .i64 (L.length : Int)) rfl (fun w => er_len rfl rfl Try.underlying60 w) ?_
 simp only [Act.put, Xa, Xz, Xs]
 refine wl_val (.bool ((L.length : Int) == 0)) rfl (fun w => run_cmp rfl rfl rfl Try.underlying3 rfl w) ?_
 simp only [Act.put, Xa, Xz, Xs]
 refine wl_val (.bool ((L.length : Int) == 0)) rfl (fun _ => rfl) ?_
 simp only [Act.put, Xa, Xz, Xs]
 cases h3 : ((L.length : Int) == 0)
 ·
  skip
  have p3 : ¬ ((L.length : Int) = 0) := by simpa using h3
  refine wl_load 53 (.tmp 3) (own_row 1 rfl) rfl rfl rfl Try.underlying53 rfl (by kernel_rfl) ?_
  simp only [Act.put, Xa, Xz, Xs]
  refine wl_call 33 #[.agg #[.int .i64 lo, .int .i64 hi]] (.bool (decide (lo ≤ hi))) rfl (fun _ => by go_simp) (fun W => right_any lo hi W) ?_
  simp only [Act.put, Xa, Xz, Xs]
  refine wl_val (.bool (!(decide (lo ≤ hi)))) rfl (fun _ => by go_simp) ?_
  simp only [Act.put, Xa, Xz, Xs]
  refine wl_val (.bool (!(decide (lo ≤ hi)))) rfl (fun _ => rfl) ?_
  simp only [Act.put, Xa, Xz, Xs]
  refine wl_nil ?_
  refine we_then ?_
  cases h4 : (decide (lo ≤ hi))
  ·
   skip
   have p4 : ¬ (lo ≤ hi) := of_decide_eq_false h4
   exact (by exfalso; omega)
  ·
   skip
   have p4 : lo ≤ hi := of_decide_eq_true h4
   refine wc_false rfl ?_
   refine wc_skip ?_
   refine we_then ?_
   refine wc_seq ?_
   refine wc_region ?_
   refine wl_val (.slice p L.length c) rfl (fun _ => rfl) ?_
   simp only [Act.put, Xa, Xz, Xs]
   refine wl_val (.func (.func 75) #[] #[.pointer (some ⟨g1, 0, none⟩)]) rfl (fun _ => by go_simp) ?_
   simp only [Act.put, Xa, Xz, Xs]
   refine wl_call_at 74 #[.slice p L.length c, .func (.func 75) #[] #[.pointer (some ⟨g1, 0, none⟩)]] (.int .i64 (kb : Int)) rfl (fun _ => by go_simp) (fun W hE => by rw [hkb]; exact last_any L p c (qlt lo) 75 #[.pointer (some ⟨g1, 0, none⟩)] W (sl_old hL W hE) hn (enters_of Try.func75 (by kernel_rfl) rfl) (fun W2 hB i _ => clo_lo L[i]! g1 lo hi W2 (row_two hB (own_row 1 rfl W hE))) (down_lt hm lo)) ?_
   simp only [Act.put, Xa, Xz, Xs]
   refine wl_val (.int .i64 (kb : Int)) rfl (fun _ => rfl) ?_
   simp only [Act.put, Xa, Xz, Xs]
   refine wl_nil ?_
   refine we_then ?_
   refine wc_seq ?_
   refine wc_region ?_
   refine wl_val (.slice p L.length c) rfl (fun _ => rfl) ?_
   simp only [Act.put, Xa, Xz, Xs]
   refine wl_val (.func (.func 76) #[] #[.pointer (some ⟨g1, 0, none⟩)]) rfl (fun _ => by go_simp) ?_
   simp only [Act.put, Xa, Xz, Xs]
   refine wl_call_at 74 #[.slice p L.length c, .func (.func 76) #[] #[.pointer (some ⟨g1, 0, none⟩)]] (.int .i64 (ke : Int)) rfl (fun _ => by go_simp) (fun W hE => by rw [hke]; exact last_any L p c (qle hi) 76 #[.pointer (some ⟨g1, 0, none⟩)] W (sl_old hL W hE) hn (enters_of Try.func76 (by kernel_rfl) rfl) (fun W2 hB i _ => clo_hi L[i]! g1 lo hi W2 (row_two hB (own_row 1 rfl W hE))) (down_le hm hi)) ?_
   simp only [Act.put, Xa, Xz, Xs]
   refine wl_val (.int .i64 (ke : Int)) rfl (fun _ => rfl) ?_
   simp only [Act.put, Xa, Xz, Xs]
   refine wl_nil ?_
   refine we_then ?_
   refine wc_seq ?_
   refine wc_region ?_
   refine wl_val (.slice p L.length c) rfl (fun _ => rfl) ?_
   simp only [Act.put, Xa, Xz, Xs]
   refine wl_val (.int .i64 (kb : Int)) rfl (fun _ => rfl) ?_
   simp only [Act.put, Xa, Xz, Xs]
   refine wl_read (eaddr p (kb * 2)) rfl (er_index kb 2 (sl_old hL) rfl rfl rfl rfl (by omega) (flat_length (enc := enc2) (size := 2) (fun _ => rfl) _) (by decide) Try.underlying60 (by kernel_rfl)) ?_
   simp only [Act.put, Xa, Xz, Xs]
   refine wl_read (eaddr p (kb * 2 + 1)) rfl (er_field (z := 0) (kb * 2) 1 1 (sl_old hL) rfl rfl (flat_lt (enc := enc2) (fun _ => rfl) L kb 0 (by omega) (by decide)) Try.underlying71 rfl rfl (by kernel_rfl)) ?_
   simp only [Act.put, Xa, Xz, Xs]
   refine wl_read (.int .i64 ((L[kb]!).2)) rfl (er_cell (kb * 2 + 1) (.int .i64 ((L[kb]!).2)) (sl_old hL) rfl rfl (flat_cell (enc := enc2) (fun _ => rfl) L kb 1 (by omega) (by decide)) Try.isAgg2) ?_
   simp only [Act.put, Xa, Xz, Xs]
   refine wl_call 49 #[.int .i64 ((L[kb]!).2)] (.agg #[.int .i64 ((L[kb]!).2), .int .i64 ((L[kb]!).2)]) rfl (fun _ => by go_simp) (fun W => Spn.at_any ((L[kb]!).2) W) ?_
   simp only [Act.put, Xa, Xz, Xs]
   refine wl_new 53 (#[.int .i64 0, .int .i64 0]) rfl (fun _ => by go_simp) ?_
   intro g5
   simp only [Act.put, Xa, Xz, Xs]
   refine wl_store 0 53 (.tmp 8) (.tmp 30) (#[.int .i64 ((L[kb]!).2), .int .i64 ((L[kb]!).2)]) rfl rfl rfl rfl rfl (by kernel_rfl) rfl (by simp [Value.oneCell']) ?_
   simp only [Act.put, List.set_cons_zero]
   refine wl_nil ?_
   refine we_then ?_
   refine wc_seq ?_
   refine wc_seq ?_
   refine wc_region ?_
   refine wl_val (.int .i64 (kb : Int)) rfl (fun _ => rfl) ?_
   simp only [Act.put, Xa, Xz, Xs]
   refine wl_val (.int .i64 ((kb + 1 : Nat) : Int)) rfl (fun w => run_nat (X := kb) (Y := 1) (Z := kb + 1) rfl rfl rfl rfl (by omega) w) ?_
   simp only [Act.put, Xa, Xz, Xs]
   refine wl_val (.int .i64 ((kb + 1 : Nat) : Int)) rfl (fun _ => rfl) ?_
   simp only [Act.put, Xa, Xz, Xs]
   refine wl_nil ?_
   refine we_then ?_
   refine wc_block ?_
   refine wc_loop (fun (zz : Nat × Int × Int × Value × Value × Value × Value × Value × Value × Value × Value × Value × Value × Value × Value × Value) => match zz with | ⟨i, x, y, u33, u34, u35, u36, u37, u38, u39, u40, u41, u42, u43, u44, u45⟩ => ({ tmps := #[.slice p L.length c, .agg #[.int .i64 lo, .int .i64 hi], undef, .pointer (some ⟨g1, 0, none⟩), .pointer (some ⟨g2, 0, none⟩), .bool false, .int .i64 (kb : Int), .int .i64 (ke : Int), .pointer (some ⟨g5, 0, none⟩), .int .i64 (i : Int), .slice p L.length c, .int .i64 (L.length : Int), .bool false, .bool false, .agg #[.int .i64 lo, .int .i64 hi], .bool true, .bool false, .bool false, undef, .slice p L.length c, .func (.func 75) #[] #[.pointer (some ⟨g1, 0, none⟩)], .int .i64 (kb : Int), .slice p L.length c, .func (.func 76) #[] #[.pointer (some ⟨g1, 0, none⟩)], .int .i64 (ke : Int), .slice p L.length c, .int .i64 (kb : Int), eaddr p (kb * 2), eaddr p (kb * 2 + 1), .int .i64 ((L[kb]!).2), .agg #[.int .i64 ((L[kb]!).2), .int .i64 ((L[kb]!).2)], .int .i64 (kb : Int), .int .i64 ((kb + 1 : Nat) : Int), u33, u34, u35, u36, u37, u38, u39, u40, u41, u42, u43, u44, u45, undef], defers := [] } : Act)) (fun (zz : Nat × Int × Int × Value × Value × Value × Value × Value × Value × Value × Value × Value × Value × Value × Value × Value) => match zz with | ⟨i, x, y, u33, u34, u35, u36, u37, u38, u39, u40, u41, u42, u43, u44, u45⟩ => [⟨g5, #[.int .i64 x, .int .i64 y], 53⟩, ⟨g2, #[.int .i64 0, .int .i64 0], 53⟩, ⟨g1, #[.int .i64 lo, .int .i64 hi], 53⟩]) (fun (zz : Nat × Int × Int × Value × Value × Value × Value × Value × Value × Value × Value × Value × Value × Value × Value × Value) => match zz with | ⟨i, x, y, u33, u34, u35, u36, u37, u38, u39, u40, u41, u42, u43, u44, u45⟩ => kb + 1 ≤ i ∧ i ≤ ke + 1 ∧ (x, y) = bnd L lo hi i ∧ x ≤ y) (fun (zz : Nat × Int × Int × Value × Value × Value × Value × Value × Value × Value × Value × Value × Value × Value × Value × Value) => match zz with | ⟨i, x, y, u33, u34, u35, u36, u37, u38, u39, u40, u41, u42, u43, u44, u45⟩ => ke + 1 - i) ⟨(kb + 1), (L[kb]!).2, (L[kb]!).2, _, _, _, _, _, _, _, _, _, _, _, _, _⟩ ⟨by omega, by (try dsimp only); omega, (by rw [hkb]; exact bnd_first hm h), Int.le_refl _⟩ rfl (List.Sublist.cons_cons _ (List.Sublist.cons_cons _ (List.Sublist.cons_cons _ List.Sublist.slnil))) ?_
   rintro ⟨i, x, y, u33, u34, u35, u36, u37, u38, u39, u40, u41, u42, u43, u44, u45⟩ hφ
   (try dsimp only at hφ ⊢)
   obtain ⟨b1, b2, b3, b4⟩ := hφ
   refine wc_seq ?_
   refine wc_seq ?_
   refine wc_region ?_
   refine wl_val (.int .i64 (i : Int)) rfl (fun _ => rfl) ?_
   simp only [Act.put, Xa, Xz, Xs]
   refine wl_val (.int .i64 (ke : Int)) rfl (fun _ => rfl) ?_
   simp only [Act.put, Xa, Xz, Xs]
   refine wl_val (.bool (decide ((i : Int) ≤ (ke : Int)))) rfl (fun w => run_cmp rfl rfl rfl Try.underlying3 rfl w) ?_
   simp only [Act.put, Xa, Xz, Xs]
   refine wl_nil ?_
   refine we_then ?_
   cases h6 : (decide ((i : Int) ≤ (ke : Int)))
   ·
    skip
    have p6 : ¬ ((i : Int) ≤ (ke : Int)) := of_decide_eq_false h6
    refine wc_false rfl ?_
    refine wc_exit ?_
    refine we_then_exit ?_
    refine we_then_exit ?_
    refine we_in_here ?_
    refine we_then ?_
    refine wc_seq ?_
    refine wc_region ?_
    refine wl_load 53 (.tmp 8) (own_row 0 rfl) rfl rfl rfl Try.underlying53 rfl (by kernel_rfl) ?_
    simp only [Act.put, Xa, Xz, Xs]
    refine wl_store 1 53 (.tmp 4) (.tmp 46) (#[.int .i64 x, .int .i64 y]) rfl rfl rfl rfl rfl (by kernel_rfl) rfl (by simp [Value.oneCell']) ?_
    simp only [Act.put, List.set_cons_zero, List.set_cons_succ]
    refine wl_val (.bool true) rfl (fun _ => rfl) ?_
    simp only [Act.put, Xa, Xz, Xs]
    refine wl_nil ?_
    refine we_then ?_
    refine wc_ret ?_
    refine we_ret_cell_tmp (.bool true) (own_row 1 rfl) rfl rfl rfl rfl Try.underlying53 rfl (by kernel_rfl) (fun w1 hE => ?_)
    have e1 : i = ke + 1 := by omega
    have b5 := bnd_all hm (show (x, y) = bnd L lo hi (lastQ (qle hi) L + 1) from by rw [← hke, ← e1]; exact b3)
    exact ⟨by rw [← b5], hE.below⟩
   ·
    skip
    have p6 : (i : Int) ≤ (ke : Int) := of_decide_eq_true h6
    refine wc_true rfl ?_
    refine wc_skip ?_
    refine we_then ?_
    refine wc_seq ?_
    refine wc_block ?_
    refine wc_draw [.plain, .late, .late, .plain, .plain, .plain, .plain, .plain, .over] (some ⟨8, g5, 53, #[.int .i64 x, .int .i64 y], #[.int .i64 (min x ((L[i]!).2)), .int .i64 (max y ((L[i]!).2))]⟩) [] 47 (by kernel_rfl) rfl (by kernel_rfl) (by kernel_rfl) ?_
    refine ws_load 53 (.tmp 8) (own_row 0 rfl) rfl rfl rfl rfl Try.underlying53 rfl (by kernel_rfl) ?_
    simp only [Nat.reduceAdd, Act.put, Xa, Xz, Xs]
    refine ws_late (.slice p L.length c) rfl rfl (fun _ => rfl) ?_
    simp only [Nat.reduceAdd, Act.put, Xa, Xz, Xs]
    refine ws_late (.int .i64 (i : Int)) rfl rfl (fun _ => rfl) ?_
    simp only [Nat.reduceAdd, Act.put, Xa, Xz, Xs]
    refine ws_read (eaddr p (i * 2)) rfl rfl (er_index i 2 (sl_old hL) rfl rfl rfl rfl (by omega) (flat_length (enc := enc2) (size := 2) (fun _ => rfl) _) (by decide) Try.underlying60 (by kernel_rfl)) ?_
    simp only [Nat.reduceAdd, Act.put, Xa, Xz, Xs]
    refine ws_read (eaddr p (i * 2 + 1)) rfl rfl (er_field (z := 0) (i * 2) 1 1 (sl_old hL) rfl rfl (flat_lt (enc := enc2) (fun _ => rfl) L i 0 (by omega) (by decide)) Try.underlying71 rfl rfl (by kernel_rfl)) ?_
    simp only [Nat.reduceAdd, Act.put, Xa, Xz, Xs]
    refine ws_read (.int .i64 ((L[i]!).2)) rfl rfl (er_cell (i * 2 + 1) (.int .i64 ((L[i]!).2)) (sl_old hL) rfl rfl (flat_cell (enc := enc2) (fun _ => rfl) L i 1 (by omega) (by decide)) Try.isAgg2) ?_
    simp only [Nat.reduceAdd, Act.put, Xa, Xz, Xs]
    refine ws_call 49 #[.int .i64 ((L[i]!).2)] (.agg #[.int .i64 ((L[i]!).2), .int .i64 ((L[i]!).2)]) rfl rfl (fun _ => by go_simp) (fun W => Spn.at_any ((L[i]!).2) W) ?_
    simp only [Nat.reduceAdd, Act.put, Xa, Xz, Xs]
    refine ws_call 32 #[.agg #[.int .i64 x, .int .i64 y], .agg #[.int .i64 ((L[i]!).2), .int .i64 ((L[i]!).2)]] (.agg #[.int .i64 (min x ((L[i]!).2)), .int .i64 (max y ((L[i]!).2))]) rfl rfl (fun _ => by go_simp) (fun W => by have h := hull_any x y ((L[i]!).2) ((L[i]!).2) W; rwa [hull_one (by omega)] at h) ?_
    simp only [Nat.reduceAdd, Act.put, Xa, Xz, Xs]
    refine ws_over 0 _ 53 (.tmp 8) (.tmp 45) rfl rfl rfl rfl rfl rfl rfl rfl rfl (by kernel_rfl) rfl (by simp [Value.oneCell']) ?_
    simp only [Nat.reduceAdd]
    refine ws_nil_over 0 rfl (show 8 < 9 by decide) [] trivial (by simp) ?_
    intro ps7
    simp only [fin, List.foldl_nil, List.map, List.nil_append]
    refine we_in ?_
    refine we_then ?_
    refine wc_region ?_
    refine wl_val (.int .i64 (i : Int)) rfl (fun _ => rfl) ?_
    simp only [Act.put, Xa, Xz, Xs]
    refine wl_val (.int .i64 ((i + 1 : Nat) : Int)) rfl (fun w => run_nat (X := i) (Y := 1) (Z := i + 1) rfl rfl rfl rfl (by omega) w) ?_
    simp only [Act.put, Xa, Xz, Xs]
    refine wl_val (.int .i64 ((i + 1 : Nat) : Int)) rfl (fun _ => rfl) ?_
    simp only [Act.put, Xa, Xz, Xs]
    refine wl_nil ?_
    exact we_meet ⟨(i + 1), (min x (L[i]!).2), (max y (L[i]!).2), _, _, _, _, _, _, _, _, _, _, _, _, _⟩ ⟨⟨by (try dsimp only); omega, by (try dsimp only); omega, bnd_next hm b3 (by omega) (by omega) rfl rfl, by (try dsimp only); omega⟩, by (try dsimp only); omega⟩ rfl (List.Sublist.cons_cons _ (List.Sublist.cons_cons _ (List.Sublist.cons_cons _ List.Sublist.slnil)))
 ·
  skip
  have p3 : (L.length : Int) = 0 := by simpa using h3
  refine wl_skip rfl ?_
  simp only [Act.put, Xa, Xz, Xs]
  refine wl_skip rfl ?_
  simp only [Act.put, Xa, Xz, Xs]
  refine wl_skip rfl ?_
  simp only [Act.put, Xa, Xz, Xs]
  refine wl_val (.bool true) rfl (fun _ => rfl) ?_
  simp only [Act.put, Xa, Xz, Xs]
  refine wl_nil ?_
  refine we_then ?_
  refine wc_true rfl ?_
  refine wc_seq ?_
  refine wc_region ?_
  refine wl_val (.agg #[.int .i64 0, .int .i64 0]) rfl (fun _ => by go_simp) ?_
  simp only [Act.put, Xa, Xz, Xs]
  refine wl_store 0 53 (.tmp 4) (.tmp 18) (#[.int .i64 0, .int .i64 0]) rfl rfl rfl rfl rfl (by kernel_rfl) rfl (by simp [Value.oneCell']) ?_
  simp only [Act.put, List.set_cons_zero]
  refine wl_val (.bool false) rfl (fun _ => rfl) ?_
  simp only [Act.put, Xa, Xz, Xs]
  refine wl_nil ?_
  refine we_then ?_
  refine wc_ret ?_
  refine we_then_ret ?_
  refine we_ret_cell_tmp (.bool false) (own_row 0 rfl) rfl rfl rfl rfl Try.underlying53 rfl (by kernel_rfl) (fun w1 hE => ?_)
  exact (by exfalso; omega)
theorem bounds_yes (L : Spans) (p : Option Addr) (c : Nat) (lo hi n : Int) (w : World) (hL : Reads w p (flat enc2 L)) (hm : May L n) (h : lo ≤ hi) :
  Calls Try.prog 50 #[.slice p L.length c, .agg #[.int .i64 lo, .int .i64 hi]] w fun e w' => e = .returned (.tuple #[.agg #[.int .i64 (bnd L lo hi L.length).1, .int .i64 (bnd L lo hi L.length).2], .bool true]) ∧ Below w.heap.size w w' := bounds_core L p c lo hi n w hL (by have := hm.few; omega) hm h hm.some
end Go.Proofs.Ytkbaponpebkpiaa.Gra
