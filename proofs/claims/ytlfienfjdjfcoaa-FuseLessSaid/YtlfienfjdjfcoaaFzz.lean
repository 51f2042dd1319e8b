/-
 Package fuse. Conditions: the spans of the sensors that are fit, and what the speed may be, are within 2^60.
-/
import Derived.Test.YtlfienfjdjfcoaaFzm
import Derived.Test.YtlfienfjdjfcoaaVvote
import Derived.Test.YtlfienfjdjfcoaaSmu
import Derived.Test.YtlfienfjdjfcoaaSfn
import Derived.Test.YtlfienfjdjfcoaaRdr
import Derived.Test.YtlfienfjdjfcoaaSpo
namespace Go.Proofs.Ytlfienfjdjfcoaa.Fzz
open Go.ChangeShapes Go.WideShapes Go.ChangeAt Go.RowKit
open Arr Steady Sx Sw Sl Sb Num Sc Si Sj Sk Sh Fns Rdr Sfn Smu Vs Srt Vvote Fzm
set_option linter.unusedVariables false
set_option linter.unusedSimpArgs false
set_option maxRecDepth 100000

theorem we_ret0 {P : Program} {w0 : World} {R : List Rw} {a : Act} {fn : Func} {Rp : Ending → World → Prop} (hres : fn.results = #[]) (hd : a.defers = []) (h : ∀ w, Env w0 w R → Rp (.returned (.tuple #[])) w) : We (bodyPost P fn Rp) .ret a w0 R :=
 we_ret (.tuple #[]) hd (fun w _ => results_none hres _ _ _) h
theorem we_end0 {P : Program} {w0 : World} {R : List Rw} {a : Act} {fn : Func} {Rp : Ending → World → Prop} (hres : fn.results = #[]) (hd : a.defers = []) (h : ∀ w, Env w0 w R → Rp (.returned (.tuple #[])) w) : We (bodyPost P fn Rp) .normal a w0 R :=
 ⟨fun w hE => bodyPost_end (results_none hres _ _ _) hd (h w hE)⟩
/-- Whether a tachometer that says p to q turns faster than a to b. -/
def fasB (p q a b : Int) : Bool := bif decide ((a + b) / 2 < 0) then decide (q < a) else decide (b < p)
theorem slip_0 {x : Sr} {s : Int × Int × Bool} (h : meetB s.1 s.2.1 x.lo x.hi = true) : slip x s = 0 := by
 have h' := of_decide_eq_true h
 unfold slip; rw [if_pos (by omega)]
theorem slip_1 {x : Sr} {s : Int × Int × Bool} (h : meetB s.1 s.2.1 x.lo x.hi = false) (k : fasB x.lo x.hi s.1 s.2.1 = true) : slip x s = 1 := by
 have h' := of_decide_eq_false h
 unfold slip; rw [if_neg (by omega), if_pos]
 unfold fasB at k
 cases c : decide ((s.1 + s.2.1) / 2 < 0)
 ·
  rw [c] at k; have := of_decide_eq_false c; have := of_decide_eq_true k; omega
 ·
  rw [c] at k; have := of_decide_eq_true c; have := of_decide_eq_true k; omega
theorem slip_m {x : Sr} {s : Int × Int × Bool} (h : meetB s.1 s.2.1 x.lo x.hi = false) (k : fasB x.lo x.hi s.1 s.2.1 = false) : slip x s = -1 := by
 have h' := of_decide_eq_false h
 unfold slip; rw [if_neg (by omega), if_neg]
 unfold fasB at k
 cases c : decide ((s.1 + s.2.1) / 2 < 0)
 ·
  rw [c] at k; have := of_decide_eq_false c; have := of_decide_eq_false k; omega
 ·
  rw [c] at k; have := of_decide_eq_true c; have := of_decide_eq_false k; omega
theorem strs_lit {a b p q r s : Int} {u v : Bool} (hu : meetB a b p q = u) (hv : meetB a b r s = v) : strS a b [(p, q), (r, s)] 2 = (bif u then [] else [0]) ++ (bif v then [] else [1]) := by
 have h1 : meetB a b ([(p, q), (r, s)][0]!).1 ([(p, q), (r, s)][0]!).2 = u := hu
 have h2 : meetB a b ([(p, q), (r, s)][1]!).1 ([(p, q), (r, s)][1]!).2 = v := hv
 show strS a b _ (1 + 1) = _
 cases u <;> cases v
 ·
  rw [str_yes h2]; show strS a b _ (0 + 1) ++ _ = _; rw [str_yes h1]; rfl
 ·
  rw [str_no h2]; show strS a b _ (0 + 1) = _; rw [str_yes h1]; rfl
 ·
  rw [str_yes h2]; show strS a b _ (0 + 1) ++ _ = _; rw [str_no h1]; rfl
 ·
  rw [str_no h2]; show strS a b _ (0 + 1) = _; rw [str_no h1]; rfl
theorem one_mem {x : Sr} {s : Int × Int} (h : s ∈ one1 x) : x.f = true ∧ s = (x.lo, x.hi) := by
 unfold one1 at h
 cases hf : x.f
 ·
  rw [hf] at h; cases h
 ·
  rw [hf] at h; exact ⟨rfl, List.mem_singleton.1 h⟩
theorem fits_of {x y z : Sr} (gx : GoodS x) (gy : GoodS y) (gz : GoodS z) : FitL (fitL x y z) := by
 have k : ∀ {u : Sr} {s : Int × Int}, GoodS u → s ∈ one1 u → (-9223372036854775808 ≤ s.1 ∧ s.1 ≤ 9223372036854775807) ∧ (-9223372036854775808 ≤ s.2 ∧ s.2 ≤ 9223372036854775807) := by
  intro u s gu hm
  obtain ⟨h1, h2⟩ := one_mem hm
  have h3 := gu h1
  subst h2
  show (_ ≤ u.lo ∧ u.lo ≤ _) ∧ (_ ≤ u.hi ∧ u.hi ≤ _)
  omega
 intro s hs
 unfold fitL at hs
 rcases List.mem_append.1 hs with h | h
 ·
  exact k gx h
 ·
  rcases List.mem_append.1 h with h | h
  ·
   exact k gy h
  ·
   exact k gz h
theorem few (x y z : Sr) : nF x y z ≤ 3 := by
 have h := nF_is x y z
 have b1 : ∀ b, bI b ≤ 1 := by intro b; cases b <;> decide
 have h1 := b1 x.f; have h2 := b1 y.f; have h3 := b1 z.f
 omega
theorem has_within {x : Sr} {v : Int} (gx : GoodS x) (h : has1 x v = 1) : -1152921504606846976 ≤ v ∧ v ≤ 1152921504606846976 := by
 rcases has1_in (x := x) (v := v) with ⟨_, h1, h2, h3⟩ | ⟨h0, _⟩
 ·
  have := gx h1; omega
 ·
  omega
theorem two_within {x y z : Sr} (gx : GoodS x) (gy : GoodS y) (gz : GoodS z) (h : (byZ (fitL x y z) 2).2.2 = true) : Fits (byZ (fitL x y z) 2).1 ∧ Fits (byZ (fitL x y z) 2).2.1 := by
 have k : ∀ v, 2 ≤ has1 x v + has1 y v + has1 z v → Fits v := by
  intro v hv
  have e : has1 x v = 1 ∨ has1 y v = 1 ∨ has1 z v = 1 := by
   have a1 := has1_in (x := x) (v := v); have a2 := has1_in (x := y) (v := v); have a3 := has1_in (x := z) (v := v)
   omega
  unfold Fits
  rcases e with e | e | e
  ·
   have := has_within gx e; omega
  ·
   have := has_within gy e; omega
  ·
   have := has_within gz e; omega
 have t := two_yes h
 exact ⟨k _ t.1, k _ t.2.1⟩
theorem first_agr {p q : Int} {x y z : Sr} (h : (agr x y z).2.2 = true) : first p q x y z = nar (p, q, false) (agr x y z).1 (agr x y z).2.1 := by
 unfold first; rw [say_agr h, if_pos h]
theorem first_two {p q : Int} {x y z : Sr} (h : (agr x y z).2.2 = false) (h3 : ((nF x y z : Int) == 3) = true) (h2 : (byZ (fitL x y z) 2).2.2 = true) : first p q x y z = nar (p, q, false) (byZ (fitL x y z) 2).1 (byZ (fitL x y z) 2).2.1 := by
 unfold first; rw [say_two h (by simpa using h3), if_pos h2]
theorem first_no2 {p q : Int} {x y z : Sr} (h : (agr x y z).2.2 = false) (h3 : ((nF x y z : Int) == 3) = true) (h2 : (byZ (fitL x y z) 2).2.2 = false) : first p q x y z = (p, q, decide (0 < (nF x y z : Int))) := by
 unfold first; rw [say_two h (by simpa using h3), if_neg (by rw [h2]; decide)]
theorem first_no {p q : Int} {x y z : Sr} (h : (agr x y z).2.2 = false) (h3 : ((nF x y z : Int) == 3) = false) : first p q x y z = (p, q, decide (0 < (nF x y z : Int))) := by
 unfold first; rw [say_none h (by simpa using h3), if_neg (by decide)]
theorem slips_agr {x y z u : Sr} (h : (agr x y z).2.2 = true) : slips x y z u = 0 := by unfold slips; rw [if_neg (by rw [h]; intro e; cases e.2)]
theorem slips_two {x y z u : Sr} (h : (agr x y z).2.2 = false) (h3 : ((nF x y z : Int) == 3) = true) (h2 : (byZ (fitL x y z) 2).2.2 = true) : slips x y z u = slip u (byZ (fitL x y z) 2) := by
 unfold slips; rw [say_two h (by simpa using h3), if_pos ⟨h2, h⟩]
theorem slips_no2 {x y z u : Sr} (h : (agr x y z).2.2 = false) (h3 : ((nF x y z : Int) == 3) = true) (h2 : (byZ (fitL x y z) 2).2.2 = false) : slips x y z u = 0 := by
 unfold slips; rw [say_two h (by simpa using h3), if_neg (by rw [h2]; intro e; cases e.1)]
theorem slips_no {x y z u : Sr} (h : (agr x y z).2.2 = false) (h3 : ((nF x y z : Int) == 3) = false) : slips x y z u = 0 := by
 unfold slips; rw [say_none h (by simpa using h3), if_neg (by intro e; cases e.1)]
theorem clean_1 {x y z : Sr} (h3 : ((nF x y z : Int) == 3) = true) : clean x y z = (agr x y z).2.2 := by unfold clean; rw [decide_eq_true (by simpa using h3), Bool.true_and]
theorem clean_0 {x y z : Sr} (h3 : ((nF x y z : Int) == 3) = false) : clean x y z = false := by unfold clean; rw [decide_eq_false (by simpa using h3), Bool.false_and]
theorem spd_1 {p q : Int} {x y z t : Sr} (h : t.f = true) : spd p q x y z t = nar (first p q x y z) t.lo t.hi := by unfold spd; rw [h]
theorem spd_0 {p q : Int} {x y z t : Sr} (h : t.f = false) : spd p q x y z t = first p q x y z := by unfold spd; rw [h]
theorem nar_b1 {a b c d : Int} {f : Bool} (h : meetB a b c d = true) : nar (a, b, f) c d = (max a c, min b d, f) := nar_yes (of_decide_eq_true h)
theorem nar_b0 {a b c d : Int} {f : Bool} (h : meetB a b c d = false) : nar (a, b, f) c d = (a, b, true) := nar_no (of_decide_eq_false h)
theorem common_c (x y z : Sr) (p : Option Addr) (c : Nat) (w : World) (hL : Reads w p (flat enc2 (fitL x y z))) (gx : GoodS x) (gy : GoodS y) (gz : GoodS z) :
  Calls Try.prog 19 #[.slice p (nF x y z) c] w fun e w' => e = .returned (.tuple #[.agg #[.int .i64 (agr x y z).1, .int .i64 (agr x y z).2.1], .bool (agr x y z).2.2]) ∧ Below w.heap.size w w' :=
 Vvote.common_any (fitL x y z) p c w hL (Nat.le_trans (few x y z) (by decide)) (fits_of gx gy gz)
theorem two_c (x y z : Sr) (p : Option Addr) (c : Nat) (w : World) (hL : Reads w p (flat enc2 (fitL x y z))) :
  Calls Try.prog 20 #[.slice p (nF x y z) c] w fun e w' => e = .returned (.tuple #[.agg #[.int .i64 (byZ (fitL x y z) 2).1, .int .i64 (byZ (fitL x y z) 2).2.1], .bool (byZ (fitL x y z) 2).2.2]) ∧ Below w.heap.size w w' :=
 Vvote.two_any (fitL x y z) p c w hL (Nat.le_trans (few x y z) (by decide))
set_option maxHeartbeats 2000000 in
theorem faster_any (p q a b : Int) (w : World) (ha : Fits a) (hb : Fits b) :
  Calls Try.prog 32 #[.agg #[.int .i64 p, .int .i64 q], .agg #[.int .i64 a, .int .i64 b]] w fun e w' => e = .returned (.bool (fasB p q a b)) ∧ Below w.heap.size w w' := by
 refine calls_sx Try.func32 rfl ?_
 simp only [Try.ntmps32, List.size_toArray, List.length_cons, List.length_nil, Nat.reduceAdd, Nat.reduceSub, Array.replicate_succ, Array.replicate_zero, List.push_toArray, List.append_toArray, List.nil_append, List.cons_append]
 refine wc_seq ?_
 refine wc_region ?_
 refine wl_new 23 (#[.int .i64 p, .int .i64 q]) rfl (fun _ => by go_simp) ?_
 intro g1
 simp only [Act.put, Xa, Xz, Xs]
 refine wl_new 23 (#[.int .i64 a, .int .i64 b]) rfl (fun _ => by go_simp) ?_
 intro g2
 simp only [Act.put, Xa, Xz, Xs]
 refine wl_val (.bool false) rfl (fun _ => rfl) ?_
 simp only [Act.put, Xa, Xz, Xs]
 refine wl_nil ?_
 refine we_then ?_
 refine wc_seq ?_
 refine wc_seq ?_
 refine wc_region ?_
 refine wl_load 23 (.tmp 3) (own_row 0 rfl) rfl rfl rfl Try.underlying23 rfl (by kernel_rfl) ?_
 simp only [Act.put, Xa, Xz, Xs]
 refine wl_call 39 #[.agg #[.int .i64 a, .int .i64 b]] (.int .i64 ((a + b) / 2)) rfl (fun _ => by go_simp) (fun W => Spo.mid_any a b W ha hb) ?_
 simp only [Act.put, Xa, Xz, Xs]
 refine wl_val (.bool (decide ((a + b) / 2 < 0))) rfl (fun w => run_cmp rfl rfl rfl Try.underlying2 rfl w) ?_
 simp only [Act.put, Xa, Xz, Xs]
 refine wl_nil ?_
 refine we_then ?_
 cases h3 : (decide ((a + b) / 2 < 0))
 ·
  skip
  have p3 : ¬ ((a + b) / 2 < 0) := of_decide_eq_false h3
  refine wc_false rfl ?_
  refine wc_skip ?_
  refine we_then ?_
  refine wc_seq ?_
  refine wc_region ?_
  refine wl_val (.pointer (some ⟨g1, 0, none⟩)) rfl (fun _ => by go_simp) ?_
  simp only [Act.put, Xa, Xz, Xs]
  refine wl_cell 2 (.tmp 13) (.int .i64 p) (own_row 1 rfl) rfl rfl rfl rfl Try.isAgg2 ?_
  simp only [Act.put, Xa, Xz, Xs]
  refine wl_val (.pointer (some ⟨g2, 1, none⟩)) rfl (fun _ => by go_simp) ?_
  simp only [Act.put, Xa, Xz, Xs]
  refine wl_cell 2 (.tmp 15) (.int .i64 b) (own_row 0 rfl) rfl rfl rfl rfl Try.isAgg2 ?_
  simp only [Act.put, Xa, Xz, Xs]
  refine wl_val (.bool (decide (b < p))) rfl (fun w => run_cmp rfl rfl rfl Try.underlying2 rfl w) ?_
  simp only [Act.put, Xa, Xz, Xs]
  refine wl_val (.bool (decide (b < p))) rfl (fun _ => rfl) ?_
  simp only [Act.put, Xa, Xz, Xs]
  refine wl_nil ?_
  refine we_then ?_
  refine wc_ret ?_
  refine we_ret1 (.bool (decide (b < p))) rfl rfl rfl (fun w1 hE => ?_)
  exact ⟨by unfold fasB; rw [h3]; rfl, hE.below⟩
 ·
  skip
  have p3 : (a + b) / 2 < 0 := of_decide_eq_true h3
  refine wc_true rfl ?_
  refine wc_seq ?_
  refine wc_region ?_
  refine wl_val (.pointer (some ⟨g1, 1, none⟩)) rfl (fun _ => by go_simp) ?_
  simp only [Act.put, Xa, Xz, Xs]
  refine wl_cell 2 (.tmp 8) (.int .i64 q) (own_row 1 rfl) rfl rfl rfl rfl Try.isAgg2 ?_
  simp only [Act.put, Xa, Xz, Xs]
  refine wl_val (.pointer (some ⟨g2, 0, none⟩)) rfl (fun _ => by go_simp) ?_
  simp only [Act.put, Xa, Xz, Xs]
  refine wl_cell 2 (.tmp 10) (.int .i64 a) (own_row 0 rfl) rfl rfl rfl rfl Try.isAgg2 ?_
  simp only [Act.put, Xa, Xz, Xs]
  refine wl_val (.bool (decide (q < a))) rfl (fun w => run_cmp rfl rfl rfl Try.underlying2 rfl w) ?_
  simp only [Act.put, Xa, Xz, Xs]
  refine wl_val (.bool (decide (q < a))) rfl (fun _ => rfl) ?_
  simp only [Act.put, Xa, Xz, Xs]
  refine wl_nil ?_
  refine we_then ?_
  refine wc_ret ?_
  refine we_then_ret ?_
  refine we_ret1 (.bool (decide (q < a))) rfl rfl rfl (fun w1 hE => ?_)
  exact ⟨by unfold fasB; rw [h3]; rfl, hE.below⟩
set_option maxHeartbeats 2000000 in
theorem slips_any (x y z : Sr) (s : Int × Int × Bool) (w : World) (ha : Fits s.1) (hb : Fits s.2.1) :
  Calls Try.prog 21 #[.agg #[.int .i64 s.1, .int .i64 s.2.1], .agg #[.bool x.f, .int .i64 x.lo, .int .i64 x.hi, .bool y.f, .int .i64 y.lo, .int .i64 y.hi, .bool z.f, .int .i64 z.lo, .int .i64 z.hi]] w fun e w' => e = .returned (.agg #[.int .i64 (slip x s), .int .i64 (slip y s)]) ∧ Below w.heap.size w w' := by
 refine calls_sx Try.func21 rfl ?_
 simp only [Try.ntmps21, List.size_toArray, List.length_cons, List.length_nil, Nat.reduceAdd, Nat.reduceSub, Array.replicate_succ, Array.replicate_zero, List.push_toArray, List.append_toArray, List.nil_append, List.cons_append]
 refine wc_seq ?_
 refine wc_region ?_
 refine wl_new 23 (#[.int .i64 s.1, .int .i64 s.2.1]) rfl (fun _ => by go_simp) ?_
 intro g1
 simp only [Act.put, Xa, Xz, Xs]
 refine wl_new 26 (#[.bool x.f, .int .i64 x.lo, .int .i64 x.hi, .bool y.f, .int .i64 y.lo, .int .i64 y.hi, .bool z.f, .int .i64 z.lo, .int .i64 z.hi]) rfl (fun _ => by go_simp) ?_
 intro g2
 simp only [Act.put, Xa, Xz, Xs]
 refine wl_new 34 (#[.int .i64 0, .int .i64 0]) rfl (fun _ => by go_simp) ?_
 intro g3
 simp only [Act.put, Xa, Xz, Xs]
 refine wl_nil ?_
 refine we_then ?_
 refine wc_seq ?_
 refine wc_region ?_
 refine wl_new 34 (#[.int .i64 0, .int .i64 0]) rfl (fun _ => by go_simp) ?_
 intro g4
 simp only [Act.put, Xa, Xz, Xs]
 refine wl_nil ?_
 refine we_then ?_
 refine wc_seq ?_
 refine wc_seq ?_
 refine wc_region ?_
 refine wl_load 23 (.tmp 2) (own_row 3 rfl) rfl rfl rfl Try.underlying23 rfl (by kernel_rfl) ?_
 simp only [Act.put, Xa, Xz, Xs]
 refine wl_val (.pointer (some ⟨g2, 0, none⟩)) rfl (fun _ => by go_simp) ?_
 simp only [Act.put, Xa, Xz, Xs]
 refine wl_val (.pointer (some ⟨g2, 1, none⟩)) rfl (fun _ => by go_simp) ?_
 simp only [Act.put, Xa, Xz, Xs]
 refine wl_part 23 (.tmp 10) [.int .i64 x.lo, .int .i64 x.hi] (own_row 2 rfl) rfl rfl rfl rfl Try.underlying23 rfl (by kernel_rfl) ?_
 simp only [Act.put, Xa, Xz, Xs]
 refine wl_val (.pointer (some ⟨g2, 3, none⟩)) rfl (fun _ => by go_simp) ?_
 simp only [Act.put, Xa, Xz, Xs]
 refine wl_val (.pointer (some ⟨g2, 4, none⟩)) rfl (fun _ => by go_simp) ?_
 simp only [Act.put, Xa, Xz, Xs]
 refine wl_part 23 (.tmp 13) [.int .i64 y.lo, .int .i64 y.hi] (own_row 2 rfl) rfl rfl rfl rfl Try.underlying23 rfl (by kernel_rfl) ?_
 simp only [Act.put, Xa, Xz, Xs]
 refine wl_lit (e := 23) #[.int .i64 x.lo, .int .i64 x.hi, .int .i64 y.lo, .int .i64 y.hi] 2 rfl (fun _ => by go_simp) ?_
 intro g5
 simp only [Act.put, Xa, Xz, Xs]
 cases h6 : (meetB s.1 s.2.1 x.lo x.hi)
 ·
  skip
  cases h7 : (meetB s.1 s.2.1 y.lo y.hi)
  ·
   skip
   refine wl_call_own (ι := Own) (e := 3) [⟨g5, #[.int .i64 x.lo, .int .i64 x.hi, .int .i64 y.lo, .int .i64 y.hi], 23⟩, ⟨g4, #[.int .i64 0, .int .i64 0], 34⟩, ⟨g3, #[.int .i64 0, .int .i64 0], 34⟩, ⟨g2, #[.bool x.f, .int .i64 x.lo, .int .i64 x.hi, .bool y.f, .int .i64 y.lo, .int .i64 y.hi, .bool z.f, .int .i64 z.lo, .int .i64 z.hi], 26⟩, ⟨g1, #[.int .i64 s.1, .int .i64 s.2.1], 23⟩] [] 31 #[.agg #[.int .i64 s.1, .int .i64 s.2.1], .slice (some ⟨g5, 0, none⟩) 2 2] (fun j => .slice j.ptr 2 j.cap) (fun j => j) (fun j => j.Has 1 2 (flat enc1 ([0, 1] : List Int))) rfl rfl (fun _ => by go_simp) (fun W hE => by have h9 := Vvote.strays_any [(x.lo, x.hi), (y.lo, y.hi)] _ 2 s.1 s.2.1 W ((sl_row 0 rfl) W hE) (by show 2 ≤ 1000000; decide); rw [show strS s.1 s.2.1 [(x.lo, x.hi), (y.lo, y.hi)] [(x.lo, x.hi), (y.lo, y.hi)].length = ([0, 1] : List Int) from strs_lit h6 h7] at h9; exact h9) ?_
   rintro s1 hs1
   simp only [List.cons_append, List.nil_append, Act.put, Xa, Xz, Xs]
   refine wl_val (.int .i64 2) rfl (fun w => er_len rfl rfl Try.underlying63 w) ?_
   simp only [Act.put, Xa, Xz, Xs]
   refine wl_val (.int .i64 0) rfl (fun _ => rfl) ?_
   simp only [Act.put, Xa, Xz, Xs]
   refine wl_nil ?_
   refine we_then ?_
   refine wc_block ?_
   refine wr_start 3 ?_
   refine wr_round ?_
   refine wc_seq ?_
   refine wc_region ?_
   refine wl_val (.bool true) rfl (fun w => run_cmp rfl rfl rfl Try.underlying3 rfl w) ?_
   simp only [Act.put, Xa, Xz, Xs]
   refine wl_nil ?_
   refine we_then ?_
   refine wc_seq ?_
   refine wc_true rfl ?_
   refine wc_skip ?_
   refine we_then ?_
   refine wc_seq ?_
   refine wc_block ?_
   refine wc_seq ?_
   refine wc_region ?_
   refine wl_read (eaddr s1.ptr (0 * 1)) rfl (er_index 0 1 (sl_own [⟨g5, #[.int .i64 x.lo, .int .i64 x.hi, .int .i64 y.lo, .int .i64 y.hi], 23⟩, ⟨g4, #[.int .i64 0, .int .i64 0], 34⟩, ⟨g3, #[.int .i64 0, .int .i64 0], 34⟩, ⟨g2, #[.bool x.f, .int .i64 x.lo, .int .i64 x.hi, .bool y.f, .int .i64 y.lo, .int .i64 y.hi, .bool z.f, .int .i64 z.lo, .int .i64 z.hi], 26⟩, ⟨g1, #[.int .i64 s.1, .int .i64 s.2.1], 23⟩] [] hs1 rfl) rfl rfl rfl rfl (by omega) (flat_length (enc := enc1) (size := 1) (fun _ => rfl) _) (by decide) Try.underlying63 (by kernel_rfl)) ?_
   simp only [Act.put, Xa, Xz, Xs]
   refine wl_read (.int .i64 0) rfl (er_cell (0 * 1) (.int .i64 0) (sl_own [⟨g5, #[.int .i64 x.lo, .int .i64 x.hi, .int .i64 y.lo, .int .i64 y.hi], 23⟩, ⟨g4, #[.int .i64 0, .int .i64 0], 34⟩, ⟨g3, #[.int .i64 0, .int .i64 0], 34⟩, ⟨g2, #[.bool x.f, .int .i64 x.lo, .int .i64 x.hi, .bool y.f, .int .i64 y.lo, .int .i64 y.hi, .bool z.f, .int .i64 z.lo, .int .i64 z.hi], 26⟩, ⟨g1, #[.int .i64 s.1, .int .i64 s.2.1], 23⟩] [] hs1 rfl) rfl rfl (flat_cell (enc := enc1) (fun _ => rfl) ([0, 1]) 0 0 (by decide) (by decide)) Try.isAgg3) ?_
   simp only [Act.put, Xa, Xz, Xs]
   refine wl_val (.int .i64 0) rfl (fun _ => rfl) ?_
   simp only [Act.put, Xa, Xz, Xs]
   refine wl_nil ?_
   refine we_then ?_
   refine wc_seq ?_
   refine wc_region ?_
   refine wl_val (.int .i64 0) rfl (fun _ => rfl) ?_
   simp only [Act.put, Xa, Xz, Xs]
   refine wl_val (.pointer (some ⟨g4, 0, none⟩)) rfl (fun _ => by go_simp) ?_
   simp only [Act.put, Xa, Xz, Xs]
   refine wl_store_cell 1 3 (.tmp 23) (.const (.int .i64 (-1))) (.int .i64 0) (.int .i64 (-1)) rfl rfl rfl rfl rfl rfl (by kernel_rfl) rfl ?_
   simp only [Act.put, List.set_cons_zero, List.set_cons_succ]
   refine wl_nil ?_
   refine we_then ?_
   refine wc_seq ?_
   refine wc_draw [.late, .plain, .plain, .plain, .plain, .plain] none [] 34 (by kernel_rfl) rfl (by kernel_rfl) (by kernel_rfl) ?_
   refine ws_late (.int .i64 0) rfl rfl (fun _ => rfl) ?_
   simp only [Nat.reduceAdd, Act.put, Xa, Xz, Xs]
   refine ws_val (.pointer (some ⟨g2, 0, none⟩)) rfl rfl (fun _ => by go_simp) ?_
   simp only [Nat.reduceAdd, Act.put, Xa, Xz, Xs]
   refine ws_val (.pointer (some ⟨g2, 1, none⟩)) rfl rfl (fun _ => by go_simp) ?_
   simp only [Nat.reduceAdd, Act.put, Xa, Xz, Xs]
   refine ws_part 23 (.tmp 26) [.int .i64 x.lo, .int .i64 x.hi] (own_row 3 rfl) rfl rfl rfl rfl rfl Try.underlying23 rfl (by kernel_rfl) ?_
   simp only [Nat.reduceAdd, Act.put, Xa, Xz, Xs]
   refine ws_load 23 (.tmp 2) (own_row 4 rfl) rfl rfl rfl rfl Try.underlying23 rfl (by kernel_rfl) ?_
   simp only [Nat.reduceAdd, Act.put, Xa, Xz, Xs]
   refine ws_call 32 #[.agg #[.int .i64 x.lo, .int .i64 x.hi], .agg #[.int .i64 s.1, .int .i64 s.2.1]] (.bool (fasB x.lo x.hi s.1 s.2.1)) rfl rfl (fun _ => by go_simp) (fun W => faster_any x.lo x.hi s.1 s.2.1 W ha hb) ?_
   simp only [Nat.reduceAdd, Act.put, Xa, Xz, Xs]
   refine ws_nil [] trivial (by simp) ?_
   intro ps8
   simp only [fin, List.foldl_nil, List.map, List.nil_append]
   refine we_then ?_
   cases h9 : (fasB x.lo x.hi s.1 s.2.1)
   ·
    skip
    refine wc_false rfl ?_
    refine wc_skip ?_
    refine we_in ?_
    refine we_then ?_
    refine wc_region ?_
    refine wl_val (.int .i64 1) rfl (fun w => run_nat (X := 0) (Y := 1) (Z := 1) rfl rfl rfl rfl (by omega) w) ?_
    simp only [Act.put, Xa, Xz, Xs]
    refine wl_val (.int .i64 1) rfl (fun _ => rfl) ?_
    simp only [Act.put, Xa, Xz, Xs]
    refine wl_nil ?_
    refine we_round ?_
    refine wr_round ?_
    refine wc_seq ?_
    refine wc_region ?_
    refine wl_val (.bool true) rfl (fun w => run_cmp rfl rfl rfl Try.underlying3 rfl w) ?_
    simp only [Act.put, Xa, Xz, Xs]
    refine wl_nil ?_
    refine we_then ?_
    refine wc_seq ?_
    refine wc_true rfl ?_
    refine wc_skip ?_
    refine we_then ?_
    refine wc_seq ?_
    refine wc_block ?_
    refine wc_seq ?_
    refine wc_region ?_
    refine wl_read (eaddr s1.ptr (1 * 1)) rfl (er_index 1 1 (sl_own [⟨g5, #[.int .i64 x.lo, .int .i64 x.hi, .int .i64 y.lo, .int .i64 y.hi], 23⟩, ⟨g4, #[.int .i64 (-1), .int .i64 0], 34⟩, ⟨g3, #[.int .i64 0, .int .i64 0], 34⟩, ⟨g2, #[.bool x.f, .int .i64 x.lo, .int .i64 x.hi, .bool y.f, .int .i64 y.lo, .int .i64 y.hi, .bool z.f, .int .i64 z.lo, .int .i64 z.hi], 26⟩, ⟨g1, #[.int .i64 s.1, .int .i64 s.2.1], 23⟩] [] hs1 rfl) rfl rfl rfl rfl (by omega) (flat_length (enc := enc1) (size := 1) (fun _ => rfl) _) (by decide) Try.underlying63 (by kernel_rfl)) ?_
    simp only [Act.put, Xa, Xz, Xs]
    refine wl_read (.int .i64 1) rfl (er_cell (1 * 1) (.int .i64 1) (sl_own [⟨g5, #[.int .i64 x.lo, .int .i64 x.hi, .int .i64 y.lo, .int .i64 y.hi], 23⟩, ⟨g4, #[.int .i64 (-1), .int .i64 0], 34⟩, ⟨g3, #[.int .i64 0, .int .i64 0], 34⟩, ⟨g2, #[.bool x.f, .int .i64 x.lo, .int .i64 x.hi, .bool y.f, .int .i64 y.lo, .int .i64 y.hi, .bool z.f, .int .i64 z.lo, .int .i64 z.hi], 26⟩, ⟨g1, #[.int .i64 s.1, .int .i64 s.2.1], 23⟩] [] hs1 rfl) rfl rfl (flat_cell (enc := enc1) (fun _ => rfl) ([0, 1]) 1 0 (by decide) (by decide)) Try.isAgg3) ?_
    simp only [Act.put, Xa, Xz, Xs]
    refine wl_val (.int .i64 1) rfl (fun _ => rfl) ?_
    simp only [Act.put, Xa, Xz, Xs]
    refine wl_nil ?_
    refine we_then ?_
    refine wc_seq ?_
    refine wc_region ?_
    refine wl_val (.int .i64 1) rfl (fun _ => rfl) ?_
    simp only [Act.put, Xa, Xz, Xs]
    refine wl_val (.pointer (some ⟨g4, 1, none⟩)) rfl (fun _ => by go_simp) ?_
    simp only [Act.put, Xa, Xz, Xs]
    refine wl_store_cell 1 3 (.tmp 23) (.const (.int .i64 (-1))) (.int .i64 0) (.int .i64 (-1)) rfl rfl rfl rfl rfl rfl (by kernel_rfl) rfl ?_
    simp only [Act.put, List.set_cons_zero, List.set_cons_succ]
    refine wl_nil ?_
    refine we_then ?_
    refine wc_seq ?_
    refine wc_draw [.late, .plain, .plain, .plain, .plain, .plain] none [] 34 (by kernel_rfl) rfl (by kernel_rfl) (by kernel_rfl) ?_
    refine ws_late (.int .i64 1) rfl rfl (fun _ => rfl) ?_
    simp only [Nat.reduceAdd, Act.put, Xa, Xz, Xs]
    refine ws_val (.pointer (some ⟨g2, 3, none⟩)) rfl rfl (fun _ => by go_simp) ?_
    simp only [Nat.reduceAdd, Act.put, Xa, Xz, Xs]
    refine ws_val (.pointer (some ⟨g2, 4, none⟩)) rfl rfl (fun _ => by go_simp) ?_
    simp only [Nat.reduceAdd, Act.put, Xa, Xz, Xs]
    refine ws_part 23 (.tmp 26) [.int .i64 y.lo, .int .i64 y.hi] (own_row 3 rfl) rfl rfl rfl rfl rfl Try.underlying23 rfl (by kernel_rfl) ?_
    simp only [Nat.reduceAdd, Act.put, Xa, Xz, Xs]
    refine ws_load 23 (.tmp 2) (own_row 4 rfl) rfl rfl rfl rfl Try.underlying23 rfl (by kernel_rfl) ?_
    simp only [Nat.reduceAdd, Act.put, Xa, Xz, Xs]
    refine ws_call 32 #[.agg #[.int .i64 y.lo, .int .i64 y.hi], .agg #[.int .i64 s.1, .int .i64 s.2.1]] (.bool (fasB y.lo y.hi s.1 s.2.1)) rfl rfl (fun _ => by go_simp) (fun W => faster_any y.lo y.hi s.1 s.2.1 W ha hb) ?_
    simp only [Nat.reduceAdd, Act.put, Xa, Xz, Xs]
    refine ws_nil [] trivial (by simp) ?_
    intro ps10
    simp only [fin, List.foldl_nil, List.map, List.nil_append]
    refine we_then ?_
    cases h11 : (fasB y.lo y.hi s.1 s.2.1)
    ·
     skip
     refine wc_false rfl ?_
     refine wc_skip ?_
     refine we_in ?_
     refine we_then ?_
     refine wc_region ?_
     refine wl_val (.int .i64 2) rfl (fun w => run_nat (X := 1) (Y := 1) (Z := 2) rfl rfl rfl rfl (by omega) w) ?_
     simp only [Act.put, Xa, Xz, Xs]
     refine wl_val (.int .i64 2) rfl (fun _ => rfl) ?_
     simp only [Act.put, Xa, Xz, Xs]
     refine wl_nil ?_
     refine we_round ?_
     refine wr_round ?_
     refine wc_seq ?_
     refine wc_region ?_
     refine wl_val (.bool false) rfl (fun w => run_cmp rfl rfl rfl Try.underlying3 rfl w) ?_
     simp only [Act.put, Xa, Xz, Xs]
     refine wl_nil ?_
     refine we_then ?_
     refine wc_seq ?_
     refine wc_false rfl ?_
     refine wc_exit ?_
     refine we_then_exit ?_
     refine we_then_exit ?_
     refine we_in_here ?_
     refine we_then ?_
     refine wc_seq ?_
     refine wc_region ?_
     refine wl_load 34 (.tmp 5) (own_row 1 rfl) rfl rfl rfl Try.underlying34 rfl (by kernel_rfl) ?_
     simp only [Act.put, Xa, Xz, Xs]
     refine wl_store 2 34 (.tmp 4) (.tmp 33) (#[.int .i64 (-1), .int .i64 (-1)]) rfl rfl rfl rfl rfl (by kernel_rfl) rfl (by simp [Value.oneCell']) ?_
     simp only [Act.put, List.set_cons_zero, List.set_cons_succ]
     refine wl_nil ?_
     refine we_then ?_
     refine wc_ret ?_
     refine we_ret_cell (own_row 2 rfl) rfl rfl rfl Try.underlying34 rfl (by kernel_rfl) (fun w1 hE => ?_)
     exact ⟨by rw [slip_m h6 h9, slip_m h7 h11], hE.below⟩
    ·
     skip
     refine wc_true rfl ?_
     refine wc_region ?_
     refine wl_val (.int .i64 1) rfl (fun _ => rfl) ?_
     simp only [Act.put, Xa, Xz, Xs]
     refine wl_val (.pointer (some ⟨g4, 1, none⟩)) rfl (fun _ => by go_simp) ?_
     simp only [Act.put, Xa, Xz, Xs]
     refine wl_store_cell 1 3 (.tmp 31) (.const (.int .i64 1)) (.int .i64 (-1)) (.int .i64 1) rfl rfl rfl rfl rfl rfl (by kernel_rfl) rfl ?_
     simp only [Act.put, List.set_cons_zero, List.set_cons_succ]
     refine wl_nil ?_
     refine we_in ?_
     refine we_then ?_
     refine wc_region ?_
     refine wl_val (.int .i64 2) rfl (fun w => run_nat (X := 1) (Y := 1) (Z := 2) rfl rfl rfl rfl (by omega) w) ?_
     simp only [Act.put, Xa, Xz, Xs]
     refine wl_val (.int .i64 2) rfl (fun _ => rfl) ?_
     simp only [Act.put, Xa, Xz, Xs]
     refine wl_nil ?_
     refine we_round ?_
     refine wr_round ?_
     refine wc_seq ?_
     refine wc_region ?_
     refine wl_val (.bool false) rfl (fun w => run_cmp rfl rfl rfl Try.underlying3 rfl w) ?_
     simp only [Act.put, Xa, Xz, Xs]
     refine wl_nil ?_
     refine we_then ?_
     refine wc_seq ?_
     refine wc_false rfl ?_
     refine wc_exit ?_
     refine we_then_exit ?_
     refine we_then_exit ?_
     refine we_in_here ?_
     refine we_then ?_
     refine wc_seq ?_
     refine wc_region ?_
     refine wl_load 34 (.tmp 5) (own_row 1 rfl) rfl rfl rfl Try.underlying34 rfl (by kernel_rfl) ?_
     simp only [Act.put, Xa, Xz, Xs]
     refine wl_store 2 34 (.tmp 4) (.tmp 33) (#[.int .i64 (-1), .int .i64 1]) rfl rfl rfl rfl rfl (by kernel_rfl) rfl (by simp [Value.oneCell']) ?_
     simp only [Act.put, List.set_cons_zero, List.set_cons_succ]
     refine wl_nil ?_
     refine we_then ?_
     refine wc_ret ?_
     refine we_ret_cell (own_row 2 rfl) rfl rfl rfl Try.underlying34 rfl (by kernel_rfl) (fun w1 hE => ?_)
     exact ⟨by rw [slip_m h6 h9, slip_1 h7 h11], hE.below⟩
   ·
    skip
    refine wc_true rfl ?_
    refine wc_region ?_
    refine wl_val (.int .i64 0) rfl (fun _ => rfl) ?_
    simp only [Act.put, Xa, Xz, Xs]
    refine wl_val (.pointer (some ⟨g4, 0, none⟩)) rfl (fun _ => by go_simp) ?_
    simp only [Act.put, Xa, Xz, Xs]
    refine wl_store_cell 1 3 (.tmp 31) (.const (.int .i64 1)) (.int .i64 (-1)) (.int .i64 1) rfl rfl rfl rfl rfl rfl (by kernel_rfl) rfl ?_
    simp only [Act.put, List.set_cons_zero, List.set_cons_succ]
    refine wl_nil ?_
    refine we_in ?_
    refine we_then ?_
    refine wc_region ?_
    refine wl_val (.int .i64 1) rfl (fun w => run_nat (X := 0) (Y := 1) (Z := 1) rfl rfl rfl rfl (by omega) w) ?_
    simp only [Act.put, Xa, Xz, Xs]
    refine wl_val (.int .i64 1) rfl (fun _ => rfl) ?_
    simp only [Act.put, Xa, Xz, Xs]
    refine wl_nil ?_
    refine we_round ?_
    refine wr_round ?_
    refine wc_seq ?_
    refine wc_region ?_
    refine wl_val (.bool true) rfl (fun w => run_cmp rfl rfl rfl Try.underlying3 rfl w) ?_
    simp only [Act.put, Xa, Xz, Xs]
    refine wl_nil ?_
    refine we_then ?_
    refine wc_seq ?_
    refine wc_true rfl ?_
    refine wc_skip ?_
    refine we_then ?_
    refine wc_seq ?_
    refine wc_block ?_
    refine wc_seq ?_
    refine wc_region ?_
    refine wl_read (eaddr s1.ptr (1 * 1)) rfl (er_index 1 1 (sl_own [⟨g5, #[.int .i64 x.lo, .int .i64 x.hi, .int .i64 y.lo, .int .i64 y.hi], 23⟩, ⟨g4, #[.int .i64 1, .int .i64 0], 34⟩, ⟨g3, #[.int .i64 0, .int .i64 0], 34⟩, ⟨g2, #[.bool x.f, .int .i64 x.lo, .int .i64 x.hi, .bool y.f, .int .i64 y.lo, .int .i64 y.hi, .bool z.f, .int .i64 z.lo, .int .i64 z.hi], 26⟩, ⟨g1, #[.int .i64 s.1, .int .i64 s.2.1], 23⟩] [] hs1 rfl) rfl rfl rfl rfl (by omega) (flat_length (enc := enc1) (size := 1) (fun _ => rfl) _) (by decide) Try.underlying63 (by kernel_rfl)) ?_
    simp only [Act.put, Xa, Xz, Xs]
    refine wl_read (.int .i64 1) rfl (er_cell (1 * 1) (.int .i64 1) (sl_own [⟨g5, #[.int .i64 x.lo, .int .i64 x.hi, .int .i64 y.lo, .int .i64 y.hi], 23⟩, ⟨g4, #[.int .i64 1, .int .i64 0], 34⟩, ⟨g3, #[.int .i64 0, .int .i64 0], 34⟩, ⟨g2, #[.bool x.f, .int .i64 x.lo, .int .i64 x.hi, .bool y.f, .int .i64 y.lo, .int .i64 y.hi, .bool z.f, .int .i64 z.lo, .int .i64 z.hi], 26⟩, ⟨g1, #[.int .i64 s.1, .int .i64 s.2.1], 23⟩] [] hs1 rfl) rfl rfl (flat_cell (enc := enc1) (fun _ => rfl) ([0, 1]) 1 0 (by decide) (by decide)) Try.isAgg3) ?_
    simp only [Act.put, Xa, Xz, Xs]
    refine wl_val (.int .i64 1) rfl (fun _ => rfl) ?_
    simp only [Act.put, Xa, Xz, Xs]
    refine wl_nil ?_
    refine we_then ?_
    refine wc_seq ?_
    refine wc_region ?_
    refine wl_val (.int .i64 1) rfl (fun _ => rfl) ?_
    simp only [Act.put, Xa, Xz, Xs]
    refine wl_val (.pointer (some ⟨g4, 1, none⟩)) rfl (fun _ => by go_simp) ?_
    simp only [Act.put, Xa, Xz, Xs]
    refine wl_store_cell 1 3 (.tmp 23) (.const (.int .i64 (-1))) (.int .i64 0) (.int .i64 (-1)) rfl rfl rfl rfl rfl rfl (by kernel_rfl) rfl ?_
    simp only [Act.put, List.set_cons_zero, List.set_cons_succ]
    refine wl_nil ?_
    refine we_then ?_
    refine wc_seq ?_
    refine wc_draw [.late, .plain, .plain, .plain, .plain, .plain] none [] 34 (by kernel_rfl) rfl (by kernel_rfl) (by kernel_rfl) ?_
    refine ws_late (.int .i64 1) rfl rfl (fun _ => rfl) ?_
    simp only [Nat.reduceAdd, Act.put, Xa, Xz, Xs]
    refine ws_val (.pointer (some ⟨g2, 3, none⟩)) rfl rfl (fun _ => by go_simp) ?_
    simp only [Nat.reduceAdd, Act.put, Xa, Xz, Xs]
    refine ws_val (.pointer (some ⟨g2, 4, none⟩)) rfl rfl (fun _ => by go_simp) ?_
    simp only [Nat.reduceAdd, Act.put, Xa, Xz, Xs]
    refine ws_part 23 (.tmp 26) [.int .i64 y.lo, .int .i64 y.hi] (own_row 3 rfl) rfl rfl rfl rfl rfl Try.underlying23 rfl (by kernel_rfl) ?_
    simp only [Nat.reduceAdd, Act.put, Xa, Xz, Xs]
    refine ws_load 23 (.tmp 2) (own_row 4 rfl) rfl rfl rfl rfl Try.underlying23 rfl (by kernel_rfl) ?_
    simp only [Nat.reduceAdd, Act.put, Xa, Xz, Xs]
    refine ws_call 32 #[.agg #[.int .i64 y.lo, .int .i64 y.hi], .agg #[.int .i64 s.1, .int .i64 s.2.1]] (.bool (fasB y.lo y.hi s.1 s.2.1)) rfl rfl (fun _ => by go_simp) (fun W => faster_any y.lo y.hi s.1 s.2.1 W ha hb) ?_
    simp only [Nat.reduceAdd, Act.put, Xa, Xz, Xs]
    refine ws_nil [] trivial (by simp) ?_
    intro ps12
    simp only [fin, List.foldl_nil, List.map, List.nil_append]
    refine we_then ?_
    cases h13 : (fasB y.lo y.hi s.1 s.2.1)
    ·
     skip
     refine wc_false rfl ?_
     refine wc_skip ?_
     refine we_in ?_
     refine we_then ?_
     refine wc_region ?_
     refine wl_val (.int .i64 2) rfl (fun w => run_nat (X := 1) (Y := 1) (Z := 2) rfl rfl rfl rfl (by omega) w) ?_
     simp only [Act.put, Xa, Xz, Xs]
     refine wl_val (.int .i64 2) rfl (fun _ => rfl) ?_
     simp only [Act.put, Xa, Xz, Xs]
     refine wl_nil ?_
     refine we_round ?_
     refine wr_round ?_
     refine wc_seq ?_
     refine wc_region ?_
     refine wl_val (.bool false) rfl (fun w => run_cmp rfl rfl rfl Try.underlying3 rfl w) ?_
     simp only [Act.put, Xa, Xz, Xs]
     refine wl_nil ?_
     refine we_then ?_
     refine wc_seq ?_
     refine wc_false rfl ?_
     refine wc_exit ?_
     refine we_then_exit ?_
     refine we_then_exit ?_
     refine we_in_here ?_
     refine we_then ?_
     refine wc_seq ?_
     refine wc_region ?_
     refine wl_load 34 (.tmp 5) (own_row 1 rfl) rfl rfl rfl Try.underlying34 rfl (by kernel_rfl) ?_
     simp only [Act.put, Xa, Xz, Xs]
     refine wl_store 2 34 (.tmp 4) (.tmp 33) (#[.int .i64 1, .int .i64 (-1)]) rfl rfl rfl rfl rfl (by kernel_rfl) rfl (by simp [Value.oneCell']) ?_
     simp only [Act.put, List.set_cons_zero, List.set_cons_succ]
     refine wl_nil ?_
     refine we_then ?_
     refine wc_ret ?_
     refine we_ret_cell (own_row 2 rfl) rfl rfl rfl Try.underlying34 rfl (by kernel_rfl) (fun w1 hE => ?_)
     exact ⟨by rw [slip_1 h6 h9, slip_m h7 h13], hE.below⟩
    ·
     skip
     refine wc_true rfl ?_
     refine wc_region ?_
     refine wl_val (.int .i64 1) rfl (fun _ => rfl) ?_
     simp only [Act.put, Xa, Xz, Xs]
     refine wl_val (.pointer (some ⟨g4, 1, none⟩)) rfl (fun _ => by go_simp) ?_
     simp only [Act.put, Xa, Xz, Xs]
     refine wl_store_cell 1 3 (.tmp 31) (.const (.int .i64 1)) (.int .i64 (-1)) (.int .i64 1) rfl rfl rfl rfl rfl rfl (by kernel_rfl) rfl ?_
     simp only [Act.put, List.set_cons_zero, List.set_cons_succ]
     refine wl_nil ?_
     refine we_in ?_
     refine we_then ?_
     refine wc_region ?_
     refine wl_val (.int .i64 2) rfl (fun w => run_nat (X := 1) (Y := 1) (Z := 2) rfl rfl rfl rfl (by omega) w) ?_
     simp only [Act.put, Xa, Xz, Xs]
     refine wl_val (.int .i64 2) rfl (fun _ => rfl) ?_
     simp only [Act.put, Xa, Xz, Xs]
     refine wl_nil ?_
     refine we_round ?_
     refine wr_round ?_
     refine wc_seq ?_
     refine wc_region ?_
     refine wl_val (.bool false) rfl (fun w => run_cmp rfl rfl rfl Try.underlying3 rfl w) ?_
     simp only [Act.put, Xa, Xz, Xs]
     refine wl_nil ?_
     refine we_then ?_
     refine wc_seq ?_
     refine wc_false rfl ?_
     refine wc_exit ?_
     refine we_then_exit ?_
     refine we_then_exit ?_
     refine we_in_here ?_
     refine we_then ?_
     refine wc_seq ?_
     refine wc_region ?_
     refine wl_load 34 (.tmp 5) (own_row 1 rfl) rfl rfl rfl Try.underlying34 rfl (by kernel_rfl) ?_
     simp only [Act.put, Xa, Xz, Xs]
     refine wl_store 2 34 (.tmp 4) (.tmp 33) (#[.int .i64 1, .int .i64 1]) rfl rfl rfl rfl rfl (by kernel_rfl) rfl (by simp [Value.oneCell']) ?_
     simp only [Act.put, List.set_cons_zero, List.set_cons_succ]
     refine wl_nil ?_
     refine we_then ?_
     refine wc_ret ?_
     refine we_ret_cell (own_row 2 rfl) rfl rfl rfl Try.underlying34 rfl (by kernel_rfl) (fun w1 hE => ?_)
     exact ⟨by rw [slip_1 h6 h9, slip_1 h7 h13], hE.below⟩
  ·
   skip
   refine wl_call_own (ι := Own) (e := 3) [⟨g5, #[.int .i64 x.lo, .int .i64 x.hi, .int .i64 y.lo, .int .i64 y.hi], 23⟩, ⟨g4, #[.int .i64 0, .int .i64 0], 34⟩, ⟨g3, #[.int .i64 0, .int .i64 0], 34⟩, ⟨g2, #[.bool x.f, .int .i64 x.lo, .int .i64 x.hi, .bool y.f, .int .i64 y.lo, .int .i64 y.hi, .bool z.f, .int .i64 z.lo, .int .i64 z.hi], 26⟩, ⟨g1, #[.int .i64 s.1, .int .i64 s.2.1], 23⟩] [] 31 #[.agg #[.int .i64 s.1, .int .i64 s.2.1], .slice (some ⟨g5, 0, none⟩) 2 2] (fun j => .slice j.ptr 1 j.cap) (fun j => j) (fun j => j.Has 1 1 (flat enc1 ([0] : List Int))) rfl rfl (fun _ => by go_simp) (fun W hE => by have h9 := Vvote.strays_any [(x.lo, x.hi), (y.lo, y.hi)] _ 2 s.1 s.2.1 W ((sl_row 0 rfl) W hE) (by show 2 ≤ 1000000; decide); rw [show strS s.1 s.2.1 [(x.lo, x.hi), (y.lo, y.hi)] [(x.lo, x.hi), (y.lo, y.hi)].length = ([0] : List Int) from strs_lit h6 h7] at h9; exact h9) ?_
   rintro s1 hs1
   simp only [List.cons_append, List.nil_append, Act.put, Xa, Xz, Xs]
   refine wl_val (.int .i64 1) rfl (fun w => er_len rfl rfl Try.underlying63 w) ?_
   simp only [Act.put, Xa, Xz, Xs]
   refine wl_val (.int .i64 0) rfl (fun _ => rfl) ?_
   simp only [Act.put, Xa, Xz, Xs]
   refine wl_nil ?_
   refine we_then ?_
   refine wc_block ?_
   refine wr_start 3 ?_
   refine wr_round ?_
   refine wc_seq ?_
   refine wc_region ?_
   refine wl_val (.bool true) rfl (fun w => run_cmp rfl rfl rfl Try.underlying3 rfl w) ?_
   simp only [Act.put, Xa, Xz, Xs]
   refine wl_nil ?_
   refine we_then ?_
   refine wc_seq ?_
   refine wc_true rfl ?_
   refine wc_skip ?_
   refine we_then ?_
   refine wc_seq ?_
   refine wc_block ?_
   refine wc_seq ?_
   refine wc_region ?_
   refine wl_read (eaddr s1.ptr (0 * 1)) rfl (er_index 0 1 (sl_own [⟨g5, #[.int .i64 x.lo, .int .i64 x.hi, .int .i64 y.lo, .int .i64 y.hi], 23⟩, ⟨g4, #[.int .i64 0, .int .i64 0], 34⟩, ⟨g3, #[.int .i64 0, .int .i64 0], 34⟩, ⟨g2, #[.bool x.f, .int .i64 x.lo, .int .i64 x.hi, .bool y.f, .int .i64 y.lo, .int .i64 y.hi, .bool z.f, .int .i64 z.lo, .int .i64 z.hi], 26⟩, ⟨g1, #[.int .i64 s.1, .int .i64 s.2.1], 23⟩] [] hs1 rfl) rfl rfl rfl rfl (by omega) (flat_length (enc := enc1) (size := 1) (fun _ => rfl) _) (by decide) Try.underlying63 (by kernel_rfl)) ?_
   simp only [Act.put, Xa, Xz, Xs]
   refine wl_read (.int .i64 0) rfl (er_cell (0 * 1) (.int .i64 0) (sl_own [⟨g5, #[.int .i64 x.lo, .int .i64 x.hi, .int .i64 y.lo, .int .i64 y.hi], 23⟩, ⟨g4, #[.int .i64 0, .int .i64 0], 34⟩, ⟨g3, #[.int .i64 0, .int .i64 0], 34⟩, ⟨g2, #[.bool x.f, .int .i64 x.lo, .int .i64 x.hi, .bool y.f, .int .i64 y.lo, .int .i64 y.hi, .bool z.f, .int .i64 z.lo, .int .i64 z.hi], 26⟩, ⟨g1, #[.int .i64 s.1, .int .i64 s.2.1], 23⟩] [] hs1 rfl) rfl rfl (flat_cell (enc := enc1) (fun _ => rfl) ([0]) 0 0 (by decide) (by decide)) Try.isAgg3) ?_
   simp only [Act.put, Xa, Xz, Xs]
   refine wl_val (.int .i64 0) rfl (fun _ => rfl) ?_
   simp only [Act.put, Xa, Xz, Xs]
   refine wl_nil ?_
   refine we_then ?_
   refine wc_seq ?_
   refine wc_region ?_
   refine wl_val (.int .i64 0) rfl (fun _ => rfl) ?_
   simp only [Act.put, Xa, Xz, Xs]
   refine wl_val (.pointer (some ⟨g4, 0, none⟩)) rfl (fun _ => by go_simp) ?_
   simp only [Act.put, Xa, Xz, Xs]
   refine wl_store_cell 1 3 (.tmp 23) (.const (.int .i64 (-1))) (.int .i64 0) (.int .i64 (-1)) rfl rfl rfl rfl rfl rfl (by kernel_rfl) rfl ?_
   simp only [Act.put, List.set_cons_zero, List.set_cons_succ]
   refine wl_nil ?_
   refine we_then ?_
   refine wc_seq ?_
   refine wc_draw [.late, .plain, .plain, .plain, .plain, .plain] none [] 34 (by kernel_rfl) rfl (by kernel_rfl) (by kernel_rfl) ?_
   refine ws_late (.int .i64 0) rfl rfl (fun _ => rfl) ?_
   simp only [Nat.reduceAdd, Act.put, Xa, Xz, Xs]
   refine ws_val (.pointer (some ⟨g2, 0, none⟩)) rfl rfl (fun _ => by go_simp) ?_
   simp only [Nat.reduceAdd, Act.put, Xa, Xz, Xs]
   refine ws_val (.pointer (some ⟨g2, 1, none⟩)) rfl rfl (fun _ => by go_simp) ?_
   simp only [Nat.reduceAdd, Act.put, Xa, Xz, Xs]
   refine ws_part 23 (.tmp 26) [.int .i64 x.lo, .int .i64 x.hi] (own_row 3 rfl) rfl rfl rfl rfl rfl Try.underlying23 rfl (by kernel_rfl) ?_
   simp only [Nat.reduceAdd, Act.put, Xa, Xz, Xs]
   refine ws_load 23 (.tmp 2) (own_row 4 rfl) rfl rfl rfl rfl Try.underlying23 rfl (by kernel_rfl) ?_
   simp only [Nat.reduceAdd, Act.put, Xa, Xz, Xs]
   refine ws_call 32 #[.agg #[.int .i64 x.lo, .int .i64 x.hi], .agg #[.int .i64 s.1, .int .i64 s.2.1]] (.bool (fasB x.lo x.hi s.1 s.2.1)) rfl rfl (fun _ => by go_simp) (fun W => faster_any x.lo x.hi s.1 s.2.1 W ha hb) ?_
   simp only [Nat.reduceAdd, Act.put, Xa, Xz, Xs]
   refine ws_nil [] trivial (by simp) ?_
   intro ps14
   simp only [fin, List.foldl_nil, List.map, List.nil_append]
   refine we_then ?_
   cases h15 : (fasB x.lo x.hi s.1 s.2.1)
   ·
    skip
    refine wc_false rfl ?_
    refine wc_skip ?_
    refine we_in ?_
    refine we_then ?_
    refine wc_region ?_
    refine wl_val (.int .i64 1) rfl (fun w => run_nat (X := 0) (Y := 1) (Z := 1) rfl rfl rfl rfl (by omega) w) ?_
    simp only [Act.put, Xa, Xz, Xs]
    refine wl_val (.int .i64 1) rfl (fun _ => rfl) ?_
    simp only [Act.put, Xa, Xz, Xs]
    refine wl_nil ?_
    refine we_round ?_
    refine wr_round ?_
    refine wc_seq ?_
    refine wc_region ?_
    refine wl_val (.bool false) rfl (fun w => run_cmp rfl rfl rfl Try.underlying3 rfl w) ?_
    simp only [Act.put, Xa, Xz, Xs]
    refine wl_nil ?_
    refine we_then ?_
    refine wc_seq ?_
    refine wc_false rfl ?_
    refine wc_exit ?_
    refine we_then_exit ?_
    refine we_then_exit ?_
    refine we_in_here ?_
    refine we_then ?_
    refine wc_seq ?_
    refine wc_region ?_
    refine wl_load 34 (.tmp 5) (own_row 1 rfl) rfl rfl rfl Try.underlying34 rfl (by kernel_rfl) ?_
    simp only [Act.put, Xa, Xz, Xs]
    refine wl_store 2 34 (.tmp 4) (.tmp 33) (#[.int .i64 (-1), .int .i64 0]) rfl rfl rfl rfl rfl (by kernel_rfl) rfl (by simp [Value.oneCell']) ?_
    simp only [Act.put, List.set_cons_zero, List.set_cons_succ]
    refine wl_nil ?_
    refine we_then ?_
    refine wc_ret ?_
    refine we_ret_cell (own_row 2 rfl) rfl rfl rfl Try.underlying34 rfl (by kernel_rfl) (fun w1 hE => ?_)
    exact ⟨by rw [slip_m h6 h15, slip_0 h7], hE.below⟩
   ·
    skip
    refine wc_true rfl ?_
    refine wc_region ?_
    refine wl_val (.int .i64 0) rfl (fun _ => rfl) ?_
    simp only [Act.put, Xa, Xz, Xs]
    refine wl_val (.pointer (some ⟨g4, 0, none⟩)) rfl (fun _ => by go_simp) ?_
    simp only [Act.put, Xa, Xz, Xs]
    refine wl_store_cell 1 3 (.tmp 31) (.const (.int .i64 1)) (.int .i64 (-1)) (.int .i64 1) rfl rfl rfl rfl rfl rfl (by kernel_rfl) rfl ?_
    simp only [Act.put, List.set_cons_zero, List.set_cons_succ]
    refine wl_nil ?_
    refine we_in ?_
    refine we_then ?_
    refine wc_region ?_
    refine wl_val (.int .i64 1) rfl (fun w => run_nat (X := 0) (Y := 1) (Z := 1) rfl rfl rfl rfl (by omega) w) ?_
    simp only [Act.put, Xa, Xz, Xs]
    refine wl_val (.int .i64 1) rfl (fun _ => rfl) ?_
    simp only [Act.put, Xa, Xz, Xs]
    refine wl_nil ?_
    refine we_round ?_
    refine wr_round ?_
    refine wc_seq ?_
    refine wc_region ?_
    refine wl_val (.bool false) rfl (fun w => run_cmp rfl rfl rfl Try.underlying3 rfl w) ?_
    simp only [Act.put, Xa, Xz, Xs]
    refine wl_nil ?_
    refine we_then ?_
    refine wc_seq ?_
    refine wc_false rfl ?_
    refine wc_exit ?_
    refine we_then_exit ?_
    refine we_then_exit ?_
    refine we_in_here ?_
    refine we_then ?_
    refine wc_seq ?_
    refine wc_region ?_
    refine wl_load 34 (.tmp 5) (own_row 1 rfl) rfl rfl rfl Try.underlying34 rfl (by kernel_rfl) ?_
    simp only [Act.put, Xa, Xz, Xs]
    refine wl_store 2 34 (.tmp 4) (.tmp 33) (#[.int .i64 1, .int .i64 0]) rfl rfl rfl rfl rfl (by kernel_rfl) rfl (by simp [Value.oneCell']) ?_
    simp only [Act.put, List.set_cons_zero, List.set_cons_succ]
    refine wl_nil ?_
    refine we_then ?_
    refine wc_ret ?_
    refine we_ret_cell (own_row 2 rfl) rfl rfl rfl Try.underlying34 rfl (by kernel_rfl) (fun w1 hE => ?_)
    exact ⟨by rw [slip_1 h6 h15, slip_0 h7], hE.below⟩
 ·
  skip
  cases h16 : (meetB s.1 s.2.1 y.lo y.hi)
  ·
   skip
   refine wl_call_own (ι := Own) (e := 3) [⟨g5, #[.int .i64 x.lo, .int .i64 x.hi, .int .i64 y.lo, .int .i64 y.hi], 23⟩, ⟨g4, #[.int .i64 0, .int .i64 0], 34⟩, ⟨g3, #[.int .i64 0, .int .i64 0], 34⟩, ⟨g2, #[.bool x.f, .int .i64 x.lo, .int .i64 x.hi, .bool y.f, .int .i64 y.lo, .int .i64 y.hi, .bool z.f, .int .i64 z.lo, .int .i64 z.hi], 26⟩, ⟨g1, #[.int .i64 s.1, .int .i64 s.2.1], 23⟩] [] 31 #[.agg #[.int .i64 s.1, .int .i64 s.2.1], .slice (some ⟨g5, 0, none⟩) 2 2] (fun j => .slice j.ptr 1 j.cap) (fun j => j) (fun j => j.Has 1 1 (flat enc1 ([1] : List Int))) rfl rfl (fun _ => by go_simp) (fun W hE => by have h9 := Vvote.strays_any [(x.lo, x.hi), (y.lo, y.hi)] _ 2 s.1 s.2.1 W ((sl_row 0 rfl) W hE) (by show 2 ≤ 1000000; decide); rw [show strS s.1 s.2.1 [(x.lo, x.hi), (y.lo, y.hi)] [(x.lo, x.hi), (y.lo, y.hi)].length = ([1] : List Int) from strs_lit h6 h16] at h9; exact h9) ?_
   rintro s1 hs1
   simp only [List.cons_append, List.nil_append, Act.put, Xa, Xz, Xs]
   refine wl_val (.int .i64 1) rfl (fun w => er_len rfl rfl Try.underlying63 w) ?_
   simp only [Act.put, Xa, Xz, Xs]
   refine wl_val (.int .i64 0) rfl (fun _ => rfl) ?_
   simp only [Act.put, Xa, Xz, Xs]
   refine wl_nil ?_
   refine we_then ?_
   refine wc_block ?_
   refine wr_start 3 ?_
   refine wr_round ?_
   refine wc_seq ?_
   refine wc_region ?_
   refine wl_val (.bool true) rfl (fun w => run_cmp rfl rfl rfl Try.underlying3 rfl w) ?_
   simp only [Act.put, Xa, Xz, Xs]
   refine wl_nil ?_
   refine we_then ?_
   refine wc_seq ?_
   refine wc_true rfl ?_
   refine wc_skip ?_
   refine we_then ?_
   refine wc_seq ?_
   refine wc_block ?_
   refine wc_seq ?_
   refine wc_region ?_
   refine wl_read (eaddr s1.ptr (0 * 1)) rfl (er_index 0 1 (sl_own [⟨g5, #[.int .i64 x.lo, .int .i64 x.hi, .int .i64 y.lo, .int .i64 y.hi], 23⟩, ⟨g4, #[.int .i64 0, .int .i64 0], 34⟩, ⟨g3, #[.int .i64 0, .int .i64 0], 34⟩, ⟨g2, #[.bool x.f, .int .i64 x.lo, .int .i64 x.hi, .bool y.f, .int .i64 y.lo, .int .i64 y.hi, .bool z.f, .int .i64 z.lo, .int .i64 z.hi], 26⟩, ⟨g1, #[.int .i64 s.1, .int .i64 s.2.1], 23⟩] [] hs1 rfl) rfl rfl rfl rfl (by omega) (flat_length (enc := enc1) (size := 1) (fun _ => rfl) _) (by decide) Try.underlying63 (by kernel_rfl)) ?_
   simp only [Act.put, Xa, Xz, Xs]
   refine wl_read (.int .i64 1) rfl (er_cell (0 * 1) (.int .i64 1) (sl_own [⟨g5, #[.int .i64 x.lo, .int .i64 x.hi, .int .i64 y.lo, .int .i64 y.hi], 23⟩, ⟨g4, #[.int .i64 0, .int .i64 0], 34⟩, ⟨g3, #[.int .i64 0, .int .i64 0], 34⟩, ⟨g2, #[.bool x.f, .int .i64 x.lo, .int .i64 x.hi, .bool y.f, .int .i64 y.lo, .int .i64 y.hi, .bool z.f, .int .i64 z.lo, .int .i64 z.hi], 26⟩, ⟨g1, #[.int .i64 s.1, .int .i64 s.2.1], 23⟩] [] hs1 rfl) rfl rfl (flat_cell (enc := enc1) (fun _ => rfl) ([1]) 0 0 (by decide) (by decide)) Try.isAgg3) ?_
   simp only [Act.put, Xa, Xz, Xs]
   refine wl_val (.int .i64 1) rfl (fun _ => rfl) ?_
   simp only [Act.put, Xa, Xz, Xs]
   refine wl_nil ?_
   refine we_then ?_
   refine wc_seq ?_
   refine wc_region ?_
   refine wl_val (.int .i64 1) rfl (fun _ => rfl) ?_
   simp only [Act.put, Xa, Xz, Xs]
   refine wl_val (.pointer (some ⟨g4, 1, none⟩)) rfl (fun _ => by go_simp) ?_
   simp only [Act.put, Xa, Xz, Xs]
   refine wl_store_cell 1 3 (.tmp 23) (.const (.int .i64 (-1))) (.int .i64 0) (.int .i64 (-1)) rfl rfl rfl rfl rfl rfl (by kernel_rfl) rfl ?_
   simp only [Act.put, List.set_cons_zero, List.set_cons_succ]
   refine wl_nil ?_
   refine we_then ?_
   refine wc_seq ?_
   refine wc_draw [.late, .plain, .plain, .plain, .plain, .plain] none [] 34 (by kernel_rfl) rfl (by kernel_rfl) (by kernel_rfl) ?_
   refine ws_late (.int .i64 1) rfl rfl (fun _ => rfl) ?_
   simp only [Nat.reduceAdd, Act.put, Xa, Xz, Xs]
   refine ws_val (.pointer (some ⟨g2, 3, none⟩)) rfl rfl (fun _ => by go_simp) ?_
   simp only [Nat.reduceAdd, Act.put, Xa, Xz, Xs]
   refine ws_val (.pointer (some ⟨g2, 4, none⟩)) rfl rfl (fun _ => by go_simp) ?_
   simp only [Nat.reduceAdd, Act.put, Xa, Xz, Xs]
   refine ws_part 23 (.tmp 26) [.int .i64 y.lo, .int .i64 y.hi] (own_row 3 rfl) rfl rfl rfl rfl rfl Try.underlying23 rfl (by kernel_rfl) ?_
   simp only [Nat.reduceAdd, Act.put, Xa, Xz, Xs]
   refine ws_load 23 (.tmp 2) (own_row 4 rfl) rfl rfl rfl rfl Try.underlying23 rfl (by kernel_rfl) ?_
   simp only [Nat.reduceAdd, Act.put, Xa, Xz, Xs]
   refine ws_call 32 #[.agg #[.int .i64 y.lo, .int .i64 y.hi], .agg #[.int .i64 s.1, .int .i64 s.2.1]] (.bool (fasB y.lo y.hi s.1 s.2.1)) rfl rfl (fun _ => by go_simp) (fun W => faster_any y.lo y.hi s.1 s.2.1 W ha hb) ?_
   simp only [Nat.reduceAdd, Act.put, Xa, Xz, Xs]
   refine ws_nil [] trivial (by simp) ?_
   intro ps17
   simp only [fin, List.foldl_nil, List.map, List.nil_append]
   refine we_then ?_
   cases h18 : (fasB y.lo y.hi s.1 s.2.1)
   ·
    skip
    refine wc_false rfl ?_
    refine wc_skip ?_
    refine we_in ?_
    refine we_then ?_
    refine wc_region ?_
    refine wl_val (.int .i64 1) rfl (fun w => run_nat (X := 0) (Y := 1) (Z := 1) rfl rfl rfl rfl (by omega) w) ?_
    simp only [Act.put, Xa, Xz, Xs]
    refine wl_val (.int .i64 1) rfl (fun _ => rfl) ?_
    simp only [Act.put, Xa, Xz, Xs]
    refine wl_nil ?_
    refine we_round ?_
    refine wr_round ?_
    refine wc_seq ?_
    refine wc_region ?_
    refine wl_val (.bool false) rfl (fun w => run_cmp rfl rfl rfl Try.underlying3 rfl w) ?_
    simp only [Act.put, Xa, Xz, Xs]
    refine wl_nil ?_
    refine we_then ?_
    refine wc_seq ?_
    refine wc_false rfl ?_
    refine wc_exit ?_
    refine we_then_exit ?_
    refine we_then_exit ?_
    refine we_in_here ?_
    refine we_then ?_
    refine wc_seq ?_
    refine wc_region ?_
    refine wl_load 34 (.tmp 5) (own_row 1 rfl) rfl rfl rfl Try.underlying34 rfl (by kernel_rfl) ?_
    simp only [Act.put, Xa, Xz, Xs]
    refine wl_store 2 34 (.tmp 4) (.tmp 33) (#[.int .i64 0, .int .i64 (-1)]) rfl rfl rfl rfl rfl (by kernel_rfl) rfl (by simp [Value.oneCell']) ?_
    simp only [Act.put, List.set_cons_zero, List.set_cons_succ]
    refine wl_nil ?_
    refine we_then ?_
    refine wc_ret ?_
    refine we_ret_cell (own_row 2 rfl) rfl rfl rfl Try.underlying34 rfl (by kernel_rfl) (fun w1 hE => ?_)
    exact ⟨by rw [slip_0 h6, slip_m h16 h18], hE.below⟩
   ·
    skip
    refine wc_true rfl ?_
    refine wc_region ?_
    refine wl_val (.int .i64 1) rfl (fun _ => rfl) ?_
    simp only [Act.put, Xa, Xz, Xs]
    refine wl_val (.pointer (some ⟨g4, 1, none⟩)) rfl (fun _ => by go_simp) ?_
    simp only [Act.put, Xa, Xz, Xs]
    refine wl_store_cell 1 3 (.tmp 31) (.const (.int .i64 1)) (.int .i64 (-1)) (.int .i64 1) rfl rfl rfl rfl rfl rfl (by kernel_rfl) rfl ?_
    simp only [Act.put, List.set_cons_zero, List.set_cons_succ]
    refine wl_nil ?_
    refine we_in ?_
    refine we_then ?_
    refine wc_region ?_
    refine wl_val (.int .i64 1) rfl (fun w => run_nat (X := 0) (Y := 1) (Z := 1) rfl rfl rfl rfl (by omega) w) ?_
    simp only [Act.put, Xa, Xz, Xs]
    refine wl_val (.int .i64 1) rfl (fun _ => rfl) ?_
    simp only [Act.put, Xa, Xz, Xs]
    refine wl_nil ?_
    refine we_round ?_
    refine wr_round ?_
    refine wc_seq ?_
    refine wc_region ?_
    refine wl_val (.bool false) rfl (fun w => run_cmp rfl rfl rfl Try.underlying3 rfl w) ?_
    simp only [Act.put, Xa, Xz, Xs]
    refine wl_nil ?_
    refine we_then ?_
    refine wc_seq ?_
    refine wc_false rfl ?_
    refine wc_exit ?_
    refine we_then_exit ?_
    refine we_then_exit ?_
    refine we_in_here ?_
    refine we_then ?_
    refine wc_seq ?_
    refine wc_region ?_
    refine wl_load 34 (.tmp 5) (own_row 1 rfl) rfl rfl rfl Try.underlying34 rfl (by kernel_rfl) ?_
    simp only [Act.put, Xa, Xz, Xs]
    refine wl_store 2 34 (.tmp 4) (.tmp 33) (#[.int .i64 0, .int .i64 1]) rfl rfl rfl rfl rfl (by kernel_rfl) rfl (by simp [Value.oneCell']) ?_
    simp only [Act.put, List.set_cons_zero, List.set_cons_succ]
    refine wl_nil ?_
    refine we_then ?_
    refine wc_ret ?_
    refine we_ret_cell (own_row 2 rfl) rfl rfl rfl Try.underlying34 rfl (by kernel_rfl) (fun w1 hE => ?_)
    exact ⟨by rw [slip_0 h6, slip_1 h16 h18], hE.below⟩
  ·
   skip
   refine wl_call_own (ι := Own) (e := 3) [⟨g5, #[.int .i64 x.lo, .int .i64 x.hi, .int .i64 y.lo, .int .i64 y.hi], 23⟩, ⟨g4, #[.int .i64 0, .int .i64 0], 34⟩, ⟨g3, #[.int .i64 0, .int .i64 0], 34⟩, ⟨g2, #[.bool x.f, .int .i64 x.lo, .int .i64 x.hi, .bool y.f, .int .i64 y.lo, .int .i64 y.hi, .bool z.f, .int .i64 z.lo, .int .i64 z.hi], 26⟩, ⟨g1, #[.int .i64 s.1, .int .i64 s.2.1], 23⟩] [] 31 #[.agg #[.int .i64 s.1, .int .i64 s.2.1], .slice (some ⟨g5, 0, none⟩) 2 2] (fun j => .slice j.ptr 0 j.cap) (fun j => j) (fun j => j.Has 1 0 (flat enc1 ([] : List Int))) rfl rfl (fun _ => by go_simp) (fun W hE => by have h9 := Vvote.strays_any [(x.lo, x.hi), (y.lo, y.hi)] _ 2 s.1 s.2.1 W ((sl_row 0 rfl) W hE) (by show 2 ≤ 1000000; decide); rw [show strS s.1 s.2.1 [(x.lo, x.hi), (y.lo, y.hi)] [(x.lo, x.hi), (y.lo, y.hi)].length = ([] : List Int) from strs_lit h6 h16] at h9; exact h9) ?_
   rintro s1 hs1
   simp only [List.cons_append, List.nil_append, Act.put, Xa, Xz, Xs]
   refine wl_val (.int .i64 0) rfl (fun w => er_len rfl rfl Try.underlying63 w) ?_
   simp only [Act.put, Xa, Xz, Xs]
   refine wl_val (.int .i64 0) rfl (fun _ => rfl) ?_
   simp only [Act.put, Xa, Xz, Xs]
   refine wl_nil ?_
   refine we_then ?_
   refine wc_block ?_
   refine wr_start 3 ?_
   refine wr_round ?_
   refine wc_seq ?_
   refine wc_region ?_
   refine wl_val (.bool false) rfl (fun w => run_cmp rfl rfl rfl Try.underlying3 rfl w) ?_
   simp only [Act.put, Xa, Xz, Xs]
   refine wl_nil ?_
   refine we_then ?_
   refine wc_seq ?_
   refine wc_false rfl ?_
   refine wc_exit ?_
   refine we_then_exit ?_
   refine we_then_exit ?_
   refine we_in_here ?_
   refine we_then ?_
   refine wc_seq ?_
   refine wc_region ?_
   refine wl_load 34 (.tmp 5) (own_row 1 rfl) rfl rfl rfl Try.underlying34 rfl (by kernel_rfl) ?_
   simp only [Act.put, Xa, Xz, Xs]
   refine wl_store 2 34 (.tmp 4) (.tmp 33) (#[.int .i64 0, .int .i64 0]) rfl rfl rfl rfl rfl (by kernel_rfl) rfl (by simp [Value.oneCell']) ?_
   simp only [Act.put, List.set_cons_zero, List.set_cons_succ]
   refine wl_nil ?_
   refine we_then ?_
   refine wc_ret ?_
   refine we_ret_cell (own_row 2 rfl) rfl rfl rfl Try.underlying34 rfl (by kernel_rfl) (fun w1 hE => ?_)
   exact ⟨by rw [slip_0 h6, slip_0 h16], hE.below⟩
set_option maxHeartbeats 2000000 in
theorem those_any (x y z : Sr) (w : World) :
  Calls Try.prog 18 #[.agg #[.bool x.f, .int .i64 x.lo, .int .i64 x.hi, .bool y.f, .int .i64 y.lo, .int .i64 y.hi, .bool z.f, .int .i64 z.lo, .int .i64 z.hi]] w fun e w' => ∃ s : Own, s.Has 2 (nF x y z) (flat enc2 (fitL x y z)) ∧ e = .returned (.slice s.ptr (nF x y z) s.cap) ∧ Env w w' (s.rows 23) := by
 refine calls_sx Try.func18 rfl ?_
 simp only [Try.ntmps18, List.size_toArray, List.length_cons, List.length_nil, Nat.reduceAdd, Nat.reduceSub, Array.replicate_succ, Array.replicate_zero, List.push_toArray, List.append_toArray, List.nil_append, List.cons_append]
 refine wc_seq ?_
 refine wc_region ?_
 refine wl_new 26 (#[.bool x.f, .int .i64 x.lo, .int .i64 x.hi, .bool y.f, .int .i64 y.lo, .int .i64 y.hi, .bool z.f, .int .i64 z.lo, .int .i64 z.hi]) rfl (fun _ => by go_simp) ?_
 intro g1
 simp only [Act.put, Xa, Xz, Xs]
 refine wl_val (.slice none 0 0) rfl (fun _ => rfl) ?_
 simp only [Act.put, Xa, Xz, Xs]
 refine wl_nil ?_
 refine we_then ?_
 refine wc_seq ?_
 refine wc_region ?_
 refine wl_val (.slice none 0 0) rfl (fun _ => rfl) ?_
 simp only [Act.put, Xa, Xz, Xs]
 refine wl_nil ?_
 refine we_then ?_
 refine wc_seq ?_
 refine wc_seq ?_
 refine wc_region ?_
 refine wl_load 26 (.tmp 1) (own_row 0 rfl) rfl rfl rfl Try.underlying26 rfl (by kernel_rfl) ?_
 simp only [Act.put, Xa, Xz, Xs]
 refine wl_val (.int .i64 0) rfl (fun _ => rfl) ?_
 simp only [Act.put, Xa, Xz, Xs]
 refine wl_nil ?_
 refine we_then ?_
 refine wc_block ?_
 refine wr_start 4 ?_
 refine wr_round ?_
 refine wc_seq ?_
 refine wc_region ?_
 refine wl_val (.bool true) rfl (fun w => run_cmp rfl rfl rfl Try.underlying3 rfl w) ?_
 simp only [Act.put, Xa, Xz, Xs]
 refine wl_nil ?_
 refine we_then ?_
 refine wc_seq ?_
 refine wc_true rfl ?_
 refine wc_skip ?_
 refine we_then ?_
 refine wc_seq ?_
 refine wc_block ?_
 refine wc_seq ?_
 refine wc_region ?_
 refine wl_val (.agg #[.bool x.f, .int .i64 x.lo, .int .i64 x.hi]) rfl (fun w => run_index_row (k := 0) (z := 3) (ps := #[.bool x.f, .int .i64 x.lo, .int .i64 x.hi]) rfl rfl rfl rfl (by decide) Try.underlying26 Try.underlying25 rfl (by kernel_rfl) (by simp) w) ?_
 simp only [Act.put, Xa, Xz, Xs]
 refine wl_new 25 (#[.bool false, .int .i64 0, .int .i64 0]) rfl (fun _ => by go_simp) ?_
 intro g2
 simp only [Act.put, Xa, Xz, Xs]
 refine wl_store 0 25 (.tmp 5) (.tmp 9) (#[.bool x.f, .int .i64 x.lo, .int .i64 x.hi]) rfl rfl rfl rfl rfl (by kernel_rfl) rfl (by simp [Value.oneCell']) ?_
 simp only [Act.put, List.set_cons_zero]
 refine wl_nil ?_
 refine we_then ?_
 refine wc_seq ?_
 refine wc_region ?_
 refine wl_val (.pointer (some ⟨g2, 0, none⟩)) rfl (fun _ => by go_simp) ?_
 simp only [Act.put, Xa, Xz, Xs]
 refine wl_cell 4 (.tmp 10) (.bool x.f) (own_row 0 rfl) rfl rfl rfl rfl Try.isAgg4 ?_
 simp only [Act.put, Xa, Xz, Xs]
 refine wl_nil ?_
 refine we_then ?_
 cases h3 : (x.f)
 ·
  skip
  refine wc_false rfl ?_
  refine wc_skip ?_
  refine we_in ?_
  refine we_then ?_
  refine wc_region ?_
  refine wl_val (.int .i64 1) rfl (fun w => run_nat (X := 0) (Y := 1) (Z := 1) rfl rfl rfl rfl (by omega) w) ?_
  simp only [Act.put, Xa, Xz, Xs]
  refine wl_val (.int .i64 1) rfl (fun _ => rfl) ?_
  simp only [Act.put, Xa, Xz, Xs]
  refine wl_nil ?_
  refine we_round ?_
  refine wr_round ?_
  refine wc_seq ?_
  refine wc_region ?_
  refine wl_val (.bool true) rfl (fun w => run_cmp rfl rfl rfl Try.underlying3 rfl w) ?_
  simp only [Act.put, Xa, Xz, Xs]
  refine wl_nil ?_
  refine we_then ?_
  refine wc_seq ?_
  refine wc_true rfl ?_
  refine wc_skip ?_
  refine we_then ?_
  refine wc_seq ?_
  refine wc_block ?_
  refine wc_seq ?_
  refine wc_region ?_
  refine wl_val (.agg #[.bool y.f, .int .i64 y.lo, .int .i64 y.hi]) rfl (fun w => run_index_row (k := 1) (z := 3) (ps := #[.bool y.f, .int .i64 y.lo, .int .i64 y.hi]) rfl rfl rfl rfl (by decide) Try.underlying26 Try.underlying25 rfl (by kernel_rfl) (by simp) w) ?_
  simp only [Act.put, Xa, Xz, Xs]
  refine wl_new 25 (#[.bool false, .int .i64 0, .int .i64 0]) rfl (fun _ => by go_simp) ?_
  intro g4
  simp only [Act.put, Xa, Xz, Xs]
  refine wl_store 0 25 (.tmp 5) (.tmp 9) (#[.bool y.f, .int .i64 y.lo, .int .i64 y.hi]) rfl rfl rfl rfl rfl (by kernel_rfl) rfl (by simp [Value.oneCell']) ?_
  simp only [Act.put, List.set_cons_zero]
  refine wl_nil ?_
  refine we_then ?_
  refine wc_seq ?_
  refine wc_region ?_
  refine wl_val (.pointer (some ⟨g4, 0, none⟩)) rfl (fun _ => by go_simp) ?_
  simp only [Act.put, Xa, Xz, Xs]
  refine wl_cell 4 (.tmp 10) (.bool y.f) (own_row 0 rfl) rfl rfl rfl rfl Try.isAgg4 ?_
  simp only [Act.put, Xa, Xz, Xs]
  refine wl_nil ?_
  refine we_then ?_
  cases h5 : (y.f)
  ·
   skip
   refine wc_false rfl ?_
   refine wc_skip ?_
   refine we_in ?_
   refine we_then ?_
   refine wc_region ?_
   refine wl_val (.int .i64 2) rfl (fun w => run_nat (X := 1) (Y := 1) (Z := 2) rfl rfl rfl rfl (by omega) w) ?_
   simp only [Act.put, Xa, Xz, Xs]
   refine wl_val (.int .i64 2) rfl (fun _ => rfl) ?_
   simp only [Act.put, Xa, Xz, Xs]
   refine wl_nil ?_
   refine we_round ?_
   refine wr_round ?_
   refine wc_seq ?_
   refine wc_region ?_
   refine wl_val (.bool true) rfl (fun w => run_cmp rfl rfl rfl Try.underlying3 rfl w) ?_
   simp only [Act.put, Xa, Xz, Xs]
   refine wl_nil ?_
   refine we_then ?_
   refine wc_seq ?_
   refine wc_true rfl ?_
   refine wc_skip ?_
   refine we_then ?_
   refine wc_seq ?_
   refine wc_block ?_
   refine wc_seq ?_
   refine wc_region ?_
   refine wl_val (.agg #[.bool z.f, .int .i64 z.lo, .int .i64 z.hi]) rfl (fun w => run_index_row (k := 2) (z := 3) (ps := #[.bool z.f, .int .i64 z.lo, .int .i64 z.hi]) rfl rfl rfl rfl (by decide) Try.underlying26 Try.underlying25 rfl (by kernel_rfl) (by simp) w) ?_
   simp only [Act.put, Xa, Xz, Xs]
   refine wl_new 25 (#[.bool false, .int .i64 0, .int .i64 0]) rfl (fun _ => by go_simp) ?_
   intro g6
   simp only [Act.put, Xa, Xz, Xs]
   refine wl_store 0 25 (.tmp 5) (.tmp 9) (#[.bool z.f, .int .i64 z.lo, .int .i64 z.hi]) rfl rfl rfl rfl rfl (by kernel_rfl) rfl (by simp [Value.oneCell']) ?_
   simp only [Act.put, List.set_cons_zero]
   refine wl_nil ?_
   refine we_then ?_
   refine wc_seq ?_
   refine wc_region ?_
   refine wl_val (.pointer (some ⟨g6, 0, none⟩)) rfl (fun _ => by go_simp) ?_
   simp only [Act.put, Xa, Xz, Xs]
   refine wl_cell 4 (.tmp 10) (.bool z.f) (own_row 0 rfl) rfl rfl rfl rfl Try.isAgg4 ?_
   simp only [Act.put, Xa, Xz, Xs]
   refine wl_nil ?_
   refine we_then ?_
   cases h7 : (z.f)
   ·
    skip
    refine wc_false rfl ?_
    refine wc_skip ?_
    refine we_in ?_
    refine we_then ?_
    refine wc_region ?_
    refine wl_val (.int .i64 3) rfl (fun w => run_nat (X := 2) (Y := 1) (Z := 3) rfl rfl rfl rfl (by omega) w) ?_
    simp only [Act.put, Xa, Xz, Xs]
    refine wl_val (.int .i64 3) rfl (fun _ => rfl) ?_
    simp only [Act.put, Xa, Xz, Xs]
    refine wl_nil ?_
    refine we_round ?_
    refine wr_round ?_
    refine wc_seq ?_
    refine wc_region ?_
    refine wl_val (.bool false) rfl (fun w => run_cmp rfl rfl rfl Try.underlying3 rfl w) ?_
    simp only [Act.put, Xa, Xz, Xs]
    refine wl_nil ?_
    refine we_then ?_
    refine wc_seq ?_
    refine wc_false rfl ?_
    refine wc_exit ?_
    refine we_then_exit ?_
    refine we_then_exit ?_
    refine we_in_here ?_
    refine we_then ?_
    refine wc_seq ?_
    refine wc_region ?_
    refine wl_val (.slice none 0 0) rfl (fun _ => rfl) ?_
    simp only [Act.put, Xa, Xz, Xs]
    refine wl_val (.slice none 0 0) rfl (fun _ => rfl) ?_
    simp only [Act.put, Xa, Xz, Xs]
    refine wl_nil ?_
    refine we_then ?_
    refine wc_ret ?_
    refine we_ret1 (.slice none 0 0) rfl rfl rfl (fun w1 hE => ?_)
    have el : fitL x y z = [] := by unfold fitL one1; rw [h3, h5, h7]; rfl
    have en : nF x y z = 0 := by unfold nF; rw [el]; rfl
    rw [el, en]
    exact ⟨Own.none, Own.has_none 2, rfl, Env.tail hE (List.Sublist.cons _ (List.Sublist.cons _ (List.Sublist.cons _ (List.Sublist.cons _ List.Sublist.slnil))))⟩
   ·
    skip
    refine wc_true rfl ?_
    refine wc_region ?_
    refine wl_val (.slice none 0 0) rfl (fun _ => rfl) ?_
    simp only [Act.put, Xa, Xz, Xs]
    refine wl_val (.pointer (some ⟨g6, 1, none⟩)) rfl (fun _ => by go_simp) ?_
    simp only [Act.put, Xa, Xz, Xs]
    refine wl_part 23 (.tmp 13) [.int .i64 z.lo, .int .i64 z.hi] (own_row 0 rfl) rfl rfl rfl rfl Try.underlying23 rfl (by kernel_rfl) ?_
    simp only [Act.put, Xa, Xz, Xs]
    refine wl_lit (e := 23) #[.int .i64 z.lo, .int .i64 z.hi] 1 rfl (fun _ => by go_simp) ?_
    intro g8
    simp only [Act.put, Xa, Xz, Xs]
    refine wl_append (e := 23) (size := 2) (bytes := 16) (m := 1) [⟨g8, #[.int .i64 z.lo, .int .i64 z.hi], 23⟩, ⟨g6, #[.bool true, .int .i64 z.lo, .int .i64 z.hi], 25⟩, ⟨g4, #[.bool false, .int .i64 y.lo, .int .i64 y.hi], 25⟩, ⟨g2, #[.bool false, .int .i64 x.lo, .int .i64 x.hi], 25⟩, ⟨g1, #[.bool false, .int .i64 x.lo, .int .i64 x.hi, .bool false, .int .i64 y.lo, .int .i64 y.hi, .bool true, .int .i64 z.lo, .int .i64 z.hi], 26⟩] [] Own.none (ys := [.int .i64 z.lo, .int .i64 z.hi]) rfl (Own.has_none 2) (sl_row 0 rfl) rfl (by simp [Value.oneCell']) rfl rfl rfl rfl Try.underlying48 (by unfold Elem; kernel_rfl) (by decide) (by unfold maxLen; omega) (by omega) ?_
    intro s9 hs9
    simp only [List.cons_append, List.nil_append, Act.put, Xa, Xz, Xs]
    refine wl_val (.slice s9.ptr (0 + 1) s9.cap) rfl (fun _ => rfl) ?_
    simp only [Act.put, Xa, Xz, Xs]
    refine wl_nil ?_
    refine we_in ?_
    refine we_then ?_
    refine wc_region ?_
    refine wl_val (.int .i64 3) rfl (fun w => run_nat (X := 2) (Y := 1) (Z := 3) rfl rfl rfl rfl (by omega) w) ?_
    simp only [Act.put, Xa, Xz, Xs]
    refine wl_val (.int .i64 3) rfl (fun _ => rfl) ?_
    simp only [Act.put, Xa, Xz, Xs]
    refine wl_nil ?_
    refine we_round ?_
    refine wr_round ?_
    refine wc_seq ?_
    refine wc_region ?_
    refine wl_val (.bool false) rfl (fun w => run_cmp rfl rfl rfl Try.underlying3 rfl w) ?_
    simp only [Act.put, Xa, Xz, Xs]
    refine wl_nil ?_
    refine we_then ?_
    refine wc_seq ?_
    refine wc_false rfl ?_
    refine wc_exit ?_
    refine we_then_exit ?_
    refine we_then_exit ?_
    refine we_in_here ?_
    refine we_then ?_
    refine wc_seq ?_
    refine wc_region ?_
    refine wl_val (.slice s9.ptr (0 + 1) s9.cap) rfl (fun _ => rfl) ?_
    simp only [Act.put, Xa, Xz, Xs]
    refine wl_val (.slice s9.ptr (0 + 1) s9.cap) rfl (fun _ => rfl) ?_
    simp only [Act.put, Xa, Xz, Xs]
    refine wl_nil ?_
    refine we_then ?_
    refine wc_ret ?_
    refine we_ret1 (.slice s9.ptr (0 + 1) s9.cap) rfl rfl rfl (fun w1 hE => ?_)
    have el : fitL x y z = [(z.lo, z.hi)] := by unfold fitL one1; rw [h3, h5, h7]; rfl
    have en : nF x y z = 1 := by unfold nF; rw [el]; rfl
    rw [el, en]
    exact ⟨s9, has_cast rfl hs9, rfl, Env.tail hE (List.Sublist.cons _ (List.Sublist.cons _ (List.Sublist.cons _ (List.Sublist.cons _ (List.Sublist.cons _ (List.Sublist.append_left List.Sublist.slnil _))))))⟩
  ·
   skip
   refine wc_true rfl ?_
   refine wc_region ?_
   refine wl_val (.slice none 0 0) rfl (fun _ => rfl) ?_
   simp only [Act.put, Xa, Xz, Xs]
   refine wl_val (.pointer (some ⟨g4, 1, none⟩)) rfl (fun _ => by go_simp) ?_
   simp only [Act.put, Xa, Xz, Xs]
   refine wl_part 23 (.tmp 13) [.int .i64 y.lo, .int .i64 y.hi] (own_row 0 rfl) rfl rfl rfl rfl Try.underlying23 rfl (by kernel_rfl) ?_
   simp only [Act.put, Xa, Xz, Xs]
   refine wl_lit (e := 23) #[.int .i64 y.lo, .int .i64 y.hi] 1 rfl (fun _ => by go_simp) ?_
   intro g10
   simp only [Act.put, Xa, Xz, Xs]
   refine wl_append (e := 23) (size := 2) (bytes := 16) (m := 1) [⟨g10, #[.int .i64 y.lo, .int .i64 y.hi], 23⟩, ⟨g4, #[.bool true, .int .i64 y.lo, .int .i64 y.hi], 25⟩, ⟨g2, #[.bool false, .int .i64 x.lo, .int .i64 x.hi], 25⟩, ⟨g1, #[.bool false, .int .i64 x.lo, .int .i64 x.hi, .bool true, .int .i64 y.lo, .int .i64 y.hi, .bool z.f, .int .i64 z.lo, .int .i64 z.hi], 26⟩] [] Own.none (ys := [.int .i64 y.lo, .int .i64 y.hi]) rfl (Own.has_none 2) (sl_row 0 rfl) rfl (by simp [Value.oneCell']) rfl rfl rfl rfl Try.underlying48 (by unfold Elem; kernel_rfl) (by decide) (by unfold maxLen; omega) (by omega) ?_
   intro s11 hs11
   simp only [List.cons_append, List.nil_append, Act.put, Xa, Xz, Xs]
   refine wl_val (.slice s11.ptr (0 + 1) s11.cap) rfl (fun _ => rfl) ?_
   simp only [Act.put, Xa, Xz, Xs]
   refine wl_nil ?_
   refine we_in ?_
   refine we_then ?_
   refine wc_region ?_
   refine wl_val (.int .i64 2) rfl (fun w => run_nat (X := 1) (Y := 1) (Z := 2) rfl rfl rfl rfl (by omega) w) ?_
   simp only [Act.put, Xa, Xz, Xs]
   refine wl_val (.int .i64 2) rfl (fun _ => rfl) ?_
   simp only [Act.put, Xa, Xz, Xs]
   refine wl_nil ?_
   refine we_round ?_
   refine wr_round ?_
   refine wc_seq ?_
   refine wc_region ?_
   refine wl_val (.bool true) rfl (fun w => run_cmp rfl rfl rfl Try.underlying3 rfl w) ?_
   simp only [Act.put, Xa, Xz, Xs]
   refine wl_nil ?_
   refine we_then ?_
   refine wc_seq ?_
   refine wc_true rfl ?_
   refine wc_skip ?_
   refine we_then ?_
   refine wc_seq ?_
   refine wc_block ?_
   refine wc_seq ?_
   refine wc_region ?_
   refine wl_val (.agg #[.bool z.f, .int .i64 z.lo, .int .i64 z.hi]) rfl (fun w => run_index_row (k := 2) (z := 3) (ps := #[.bool z.f, .int .i64 z.lo, .int .i64 z.hi]) rfl rfl rfl rfl (by decide) Try.underlying26 Try.underlying25 rfl (by kernel_rfl) (by simp) w) ?_
   simp only [Act.put, Xa, Xz, Xs]
   refine wl_new 25 (#[.bool false, .int .i64 0, .int .i64 0]) rfl (fun _ => by go_simp) ?_
   intro g12
   simp only [Act.put, Xa, Xz, Xs]
   refine wl_store 0 25 (.tmp 5) (.tmp 9) (#[.bool z.f, .int .i64 z.lo, .int .i64 z.hi]) rfl rfl rfl rfl rfl (by kernel_rfl) rfl (by simp [Value.oneCell']) ?_
   simp only [Act.put, List.set_cons_zero]
   refine wl_nil ?_
   refine we_then ?_
   refine wc_seq ?_
   refine wc_region ?_
   refine wl_val (.pointer (some ⟨g12, 0, none⟩)) rfl (fun _ => by go_simp) ?_
   simp only [Act.put, Xa, Xz, Xs]
   refine wl_cell 4 (.tmp 10) (.bool z.f) (own_row 0 rfl) rfl rfl rfl rfl Try.isAgg4 ?_
   simp only [Act.put, Xa, Xz, Xs]
   refine wl_nil ?_
   refine we_then ?_
   cases h13 : (z.f)
   ·
    skip
    refine wc_false rfl ?_
    refine wc_skip ?_
    refine we_in ?_
    refine we_then ?_
    refine wc_region ?_
    refine wl_val (.int .i64 3) rfl (fun w => run_nat (X := 2) (Y := 1) (Z := 3) rfl rfl rfl rfl (by omega) w) ?_
    simp only [Act.put, Xa, Xz, Xs]
    refine wl_val (.int .i64 3) rfl (fun _ => rfl) ?_
    simp only [Act.put, Xa, Xz, Xs]
    refine wl_nil ?_
    refine we_round ?_
    refine wr_round ?_
    refine wc_seq ?_
    refine wc_region ?_
    refine wl_val (.bool false) rfl (fun w => run_cmp rfl rfl rfl Try.underlying3 rfl w) ?_
    simp only [Act.put, Xa, Xz, Xs]
    refine wl_nil ?_
    refine we_then ?_
    refine wc_seq ?_
    refine wc_false rfl ?_
    refine wc_exit ?_
    refine we_then_exit ?_
    refine we_then_exit ?_
    refine we_in_here ?_
    refine we_then ?_
    refine wc_seq ?_
    refine wc_region ?_
    refine wl_val (.slice s11.ptr (0 + 1) s11.cap) rfl (fun _ => rfl) ?_
    simp only [Act.put, Xa, Xz, Xs]
    refine wl_val (.slice s11.ptr (0 + 1) s11.cap) rfl (fun _ => rfl) ?_
    simp only [Act.put, Xa, Xz, Xs]
    refine wl_nil ?_
    refine we_then ?_
    refine wc_ret ?_
    refine we_ret1 (.slice s11.ptr (0 + 1) s11.cap) rfl rfl rfl (fun w1 hE => ?_)
    have el : fitL x y z = [(y.lo, y.hi)] := by unfold fitL one1; rw [h3, h5, h13]; rfl
    have en : nF x y z = 1 := by unfold nF; rw [el]; rfl
    rw [el, en]
    exact ⟨s11, has_cast rfl hs11, rfl, Env.tail hE (List.Sublist.cons _ (List.Sublist.cons _ (List.Sublist.cons _ (List.Sublist.cons _ (List.Sublist.cons _ (List.Sublist.append_left List.Sublist.slnil _))))))⟩
   ·
    skip
    refine wc_true rfl ?_
    refine wc_region ?_
    refine wl_val (.slice s11.ptr (0 + 1) s11.cap) rfl (fun _ => rfl) ?_
    simp only [Act.put, Xa, Xz, Xs]
    refine wl_val (.pointer (some ⟨g12, 1, none⟩)) rfl (fun _ => by go_simp) ?_
    simp only [Act.put, Xa, Xz, Xs]
    refine wl_part 23 (.tmp 13) [.int .i64 z.lo, .int .i64 z.hi] (own_row 0 rfl) rfl rfl rfl rfl Try.underlying23 rfl (by kernel_rfl) ?_
    simp only [Act.put, Xa, Xz, Xs]
    refine wl_lit (e := 23) #[.int .i64 z.lo, .int .i64 z.hi] 1 rfl (fun _ => by go_simp) ?_
    intro g14
    simp only [Act.put, Xa, Xz, Xs]
    refine wl_append (e := 23) (size := 2) (bytes := 16) (m := 1) [⟨g14, #[.int .i64 z.lo, .int .i64 z.hi], 23⟩, ⟨g12, #[.bool true, .int .i64 z.lo, .int .i64 z.hi], 25⟩, ⟨g10, #[.int .i64 y.lo, .int .i64 y.hi], 23⟩, ⟨g4, #[.bool true, .int .i64 y.lo, .int .i64 y.hi], 25⟩, ⟨g2, #[.bool false, .int .i64 x.lo, .int .i64 x.hi], 25⟩, ⟨g1, #[.bool false, .int .i64 x.lo, .int .i64 x.hi, .bool true, .int .i64 y.lo, .int .i64 y.hi, .bool true, .int .i64 z.lo, .int .i64 z.hi], 26⟩] [] s11 (ys := [.int .i64 z.lo, .int .i64 z.hi]) rfl hs11 (sl_row 0 rfl) rfl (by simp [Value.oneCell']) rfl rfl rfl rfl Try.underlying48 (by unfold Elem; kernel_rfl) (by decide) (by unfold maxLen; omega) (by omega) ?_
    intro s15 hs15
    simp only [List.cons_append, List.nil_append, Act.put, Xa, Xz, Xs]
    refine wl_val (.slice s15.ptr (0 + 1 + 1) s15.cap) rfl (fun _ => rfl) ?_
    simp only [Act.put, Xa, Xz, Xs]
    refine wl_nil ?_
    refine we_in ?_
    refine we_then ?_
    refine wc_region ?_
    refine wl_val (.int .i64 3) rfl (fun w => run_nat (X := 2) (Y := 1) (Z := 3) rfl rfl rfl rfl (by omega) w) ?_
    simp only [Act.put, Xa, Xz, Xs]
    refine wl_val (.int .i64 3) rfl (fun _ => rfl) ?_
    simp only [Act.put, Xa, Xz, Xs]
    refine wl_nil ?_
    refine we_round ?_
    refine wr_round ?_
    refine wc_seq ?_
    refine wc_region ?_
    refine wl_val (.bool false) rfl (fun w => run_cmp rfl rfl rfl Try.underlying3 rfl w) ?_
    simp only [Act.put, Xa, Xz, Xs]
    refine wl_nil ?_
    refine we_then ?_
    refine wc_seq ?_
    refine wc_false rfl ?_
    refine wc_exit ?_
    refine we_then_exit ?_
    refine we_then_exit ?_
    refine we_in_here ?_
    refine we_then ?_
    refine wc_seq ?_
    refine wc_region ?_
    refine wl_val (.slice s15.ptr (0 + 1 + 1) s15.cap) rfl (fun _ => rfl) ?_
    simp only [Act.put, Xa, Xz, Xs]
    refine wl_val (.slice s15.ptr (0 + 1 + 1) s15.cap) rfl (fun _ => rfl) ?_
    simp only [Act.put, Xa, Xz, Xs]
    refine wl_nil ?_
    refine we_then ?_
    refine wc_ret ?_
    refine we_ret1 (.slice s15.ptr (0 + 1 + 1) s15.cap) rfl rfl rfl (fun w1 hE => ?_)
    have el : fitL x y z = [(y.lo, y.hi), (z.lo, z.hi)] := by unfold fitL one1; rw [h3, h5, h13]; rfl
    have en : nF x y z = 2 := by unfold nF; rw [el]; rfl
    rw [el, en]
    exact ⟨s15, has_cast rfl hs15, rfl, Env.tail hE (List.Sublist.cons _ (List.Sublist.cons _ (List.Sublist.cons _ (List.Sublist.cons _ (List.Sublist.cons _ (List.Sublist.cons _ (List.Sublist.append_left List.Sublist.slnil _)))))))⟩
 ·
  skip
  refine wc_true rfl ?_
  refine wc_region ?_
  refine wl_val (.slice none 0 0) rfl (fun _ => rfl) ?_
  simp only [Act.put, Xa, Xz, Xs]
  refine wl_val (.pointer (some ⟨g2, 1, none⟩)) rfl (fun _ => by go_simp) ?_
  simp only [Act.put, Xa, Xz, Xs]
  refine wl_part 23 (.tmp 13) [.int .i64 x.lo, .int .i64 x.hi] (own_row 0 rfl) rfl rfl rfl rfl Try.underlying23 rfl (by kernel_rfl) ?_
  simp only [Act.put, Xa, Xz, Xs]
  refine wl_lit (e := 23) #[.int .i64 x.lo, .int .i64 x.hi] 1 rfl (fun _ => by go_simp) ?_
  intro g16
  simp only [Act.put, Xa, Xz, Xs]
  refine wl_append (e := 23) (size := 2) (bytes := 16) (m := 1) [⟨g16, #[.int .i64 x.lo, .int .i64 x.hi], 23⟩, ⟨g2, #[.bool true, .int .i64 x.lo, .int .i64 x.hi], 25⟩, ⟨g1, #[.bool true, .int .i64 x.lo, .int .i64 x.hi, .bool y.f, .int .i64 y.lo, .int .i64 y.hi, .bool z.f, .int .i64 z.lo, .int .i64 z.hi], 26⟩] [] Own.none (ys := [.int .i64 x.lo, .int .i64 x.hi]) rfl (Own.has_none 2) (sl_row 0 rfl) rfl (by simp [Value.oneCell']) rfl rfl rfl rfl Try.underlying48 (by unfold Elem; kernel_rfl) (by decide) (by unfold maxLen; omega) (by omega) ?_
  intro s17 hs17
  simp only [List.cons_append, List.nil_append, Act.put, Xa, Xz, Xs]
  refine wl_val (.slice s17.ptr (0 + 1) s17.cap) rfl (fun _ => rfl) ?_
  simp only [Act.put, Xa, Xz, Xs]
  refine wl_nil ?_
  refine we_in ?_
  refine we_then ?_
  refine wc_region ?_
  refine wl_val (.int .i64 1) rfl (fun w => run_nat (X := 0) (Y := 1) (Z := 1) rfl rfl rfl rfl (by omega) w) ?_
  simp only [Act.put, Xa, Xz, Xs]
  refine wl_val (.int .i64 1) rfl (fun _ => rfl) ?_
  simp only [Act.put, Xa, Xz, Xs]
  refine wl_nil ?_
  refine we_round ?_
  refine wr_round ?_
  refine wc_seq ?_
  refine wc_region ?_
  refine wl_val (.bool true) rfl (fun w => run_cmp rfl rfl rfl Try.underlying3 rfl w) ?_
  simp only [Act.put, Xa, Xz, Xs]
  refine wl_nil ?_
  refine we_then ?_
  refine wc_seq ?_
  refine wc_true rfl ?_
  refine wc_skip ?_
  refine we_then ?_
  refine wc_seq ?_
  refine wc_block ?_
  refine wc_seq ?_
  refine wc_region ?_
  refine wl_val (.agg #[.bool y.f, .int .i64 y.lo, .int .i64 y.hi]) rfl (fun w => run_index_row (k := 1) (z := 3) (ps := #[.bool y.f, .int .i64 y.lo, .int .i64 y.hi]) rfl rfl rfl rfl (by decide) Try.underlying26 Try.underlying25 rfl (by kernel_rfl) (by simp) w) ?_
  simp only [Act.put, Xa, Xz, Xs]
  refine wl_new 25 (#[.bool false, .int .i64 0, .int .i64 0]) rfl (fun _ => by go_simp) ?_
  intro g18
  simp only [Act.put, Xa, Xz, Xs]
  refine wl_store 0 25 (.tmp 5) (.tmp 9) (#[.bool y.f, .int .i64 y.lo, .int .i64 y.hi]) rfl rfl rfl rfl rfl (by kernel_rfl) rfl (by simp [Value.oneCell']) ?_
  simp only [Act.put, List.set_cons_zero]
  refine wl_nil ?_
  refine we_then ?_
  refine wc_seq ?_
  refine wc_region ?_
  refine wl_val (.pointer (some ⟨g18, 0, none⟩)) rfl (fun _ => by go_simp) ?_
  simp only [Act.put, Xa, Xz, Xs]
  refine wl_cell 4 (.tmp 10) (.bool y.f) (own_row 0 rfl) rfl rfl rfl rfl Try.isAgg4 ?_
  simp only [Act.put, Xa, Xz, Xs]
  refine wl_nil ?_
  refine we_then ?_
  cases h19 : (y.f)
  ·
   skip
   refine wc_false rfl ?_
   refine wc_skip ?_
   refine we_in ?_
   refine we_then ?_
   refine wc_region ?_
   refine wl_val (.int .i64 2) rfl (fun w => run_nat (X := 1) (Y := 1) (Z := 2) rfl rfl rfl rfl (by omega) w) ?_
   simp only [Act.put, Xa, Xz, Xs]
   refine wl_val (.int .i64 2) rfl (fun _ => rfl) ?_
   simp only [Act.put, Xa, Xz, Xs]
   refine wl_nil ?_
   refine we_round ?_
   refine wr_round ?_
   refine wc_seq ?_
   refine wc_region ?_
   refine wl_val (.bool true) rfl (fun w => run_cmp rfl rfl rfl Try.underlying3 rfl w) ?_
   simp only [Act.put, Xa, Xz, Xs]
   refine wl_nil ?_
   refine we_then ?_
   refine wc_seq ?_
   refine wc_true rfl ?_
   refine wc_skip ?_
   refine we_then ?_
   refine wc_seq ?_
   refine wc_block ?_
   refine wc_seq ?_
   refine wc_region ?_
   refine wl_val (.agg #[.bool z.f, .int .i64 z.lo, .int .i64 z.hi]) rfl (fun w => run_index_row (k := 2) (z := 3) (ps := #[.bool z.f, .int .i64 z.lo, .int .i64 z.hi]) rfl rfl rfl rfl (by decide) Try.underlying26 Try.underlying25 rfl (by kernel_rfl) (by simp) w) ?_
   simp only [Act.put, Xa, Xz, Xs]
   refine wl_new 25 (#[.bool false, .int .i64 0, .int .i64 0]) rfl (fun _ => by go_simp) ?_
   intro g20
   simp only [Act.put, Xa, Xz, Xs]
   refine wl_store 0 25 (.tmp 5) (.tmp 9) (#[.bool z.f, .int .i64 z.lo, .int .i64 z.hi]) rfl rfl rfl rfl rfl (by kernel_rfl) rfl (by simp [Value.oneCell']) ?_
   simp only [Act.put, List.set_cons_zero]
   refine wl_nil ?_
   refine we_then ?_
   refine wc_seq ?_
   refine wc_region ?_
   refine wl_val (.pointer (some ⟨g20, 0, none⟩)) rfl (fun _ => by go_simp) ?_
   simp only [Act.put, Xa, Xz, Xs]
   refine wl_cell 4 (.tmp 10) (.bool z.f) (own_row 0 rfl) rfl rfl rfl rfl Try.isAgg4 ?_
   simp only [Act.put, Xa, Xz, Xs]
   refine wl_nil ?_
   refine we_then ?_
   cases h21 : (z.f)
   ·
    skip
    refine wc_false rfl ?_
    refine wc_skip ?_
    refine we_in ?_
    refine we_then ?_
    refine wc_region ?_
    refine wl_val (.int .i64 3) rfl (fun w => run_nat (X := 2) (Y := 1) (Z := 3) rfl rfl rfl rfl (by omega) w) ?_
    simp only [Act.put, Xa, Xz, Xs]
    refine wl_val (.int .i64 3) rfl (fun _ => rfl) ?_
    simp only [Act.put, Xa, Xz, Xs]
    refine wl_nil ?_
    refine we_round ?_
    refine wr_round ?_
    refine wc_seq ?_
    refine wc_region ?_
    refine wl_val (.bool false) rfl (fun w => run_cmp rfl rfl rfl Try.underlying3 rfl w) ?_
    simp only [Act.put, Xa, Xz, Xs]
    refine wl_nil ?_
    refine we_then ?_
    refine wc_seq ?_
    refine wc_false rfl ?_
    refine wc_exit ?_
    refine we_then_exit ?_
    refine we_then_exit ?_
    refine we_in_here ?_
    refine we_then ?_
    refine wc_seq ?_
    refine wc_region ?_
    refine wl_val (.slice s17.ptr (0 + 1) s17.cap) rfl (fun _ => rfl) ?_
    simp only [Act.put, Xa, Xz, Xs]
    refine wl_val (.slice s17.ptr (0 + 1) s17.cap) rfl (fun _ => rfl) ?_
    simp only [Act.put, Xa, Xz, Xs]
    refine wl_nil ?_
    refine we_then ?_
    refine wc_ret ?_
    refine we_ret1 (.slice s17.ptr (0 + 1) s17.cap) rfl rfl rfl (fun w1 hE => ?_)
    have el : fitL x y z = [(x.lo, x.hi)] := by unfold fitL one1; rw [h3, h19, h21]; rfl
    have en : nF x y z = 1 := by unfold nF; rw [el]; rfl
    rw [el, en]
    exact ⟨s17, has_cast rfl hs17, rfl, Env.tail hE (List.Sublist.cons _ (List.Sublist.cons _ (List.Sublist.cons _ (List.Sublist.cons _ (List.Sublist.cons _ (List.Sublist.append_left List.Sublist.slnil _))))))⟩
   ·
    skip
    refine wc_true rfl ?_
    refine wc_region ?_
    refine wl_val (.slice s17.ptr (0 + 1) s17.cap) rfl (fun _ => rfl) ?_
    simp only [Act.put, Xa, Xz, Xs]
    refine wl_val (.pointer (some ⟨g20, 1, none⟩)) rfl (fun _ => by go_simp) ?_
    simp only [Act.put, Xa, Xz, Xs]
    refine wl_part 23 (.tmp 13) [.int .i64 z.lo, .int .i64 z.hi] (own_row 0 rfl) rfl rfl rfl rfl Try.underlying23 rfl (by kernel_rfl) ?_
    simp only [Act.put, Xa, Xz, Xs]
    refine wl_lit (e := 23) #[.int .i64 z.lo, .int .i64 z.hi] 1 rfl (fun _ => by go_simp) ?_
    intro g22
    simp only [Act.put, Xa, Xz, Xs]
    refine wl_append (e := 23) (size := 2) (bytes := 16) (m := 1) [⟨g22, #[.int .i64 z.lo, .int .i64 z.hi], 23⟩, ⟨g20, #[.bool true, .int .i64 z.lo, .int .i64 z.hi], 25⟩, ⟨g18, #[.bool false, .int .i64 y.lo, .int .i64 y.hi], 25⟩, ⟨g16, #[.int .i64 x.lo, .int .i64 x.hi], 23⟩, ⟨g2, #[.bool true, .int .i64 x.lo, .int .i64 x.hi], 25⟩, ⟨g1, #[.bool true, .int .i64 x.lo, .int .i64 x.hi, .bool false, .int .i64 y.lo, .int .i64 y.hi, .bool true, .int .i64 z.lo, .int .i64 z.hi], 26⟩] [] s17 (ys := [.int .i64 z.lo, .int .i64 z.hi]) rfl hs17 (sl_row 0 rfl) rfl (by simp [Value.oneCell']) rfl rfl rfl rfl Try.underlying48 (by unfold Elem; kernel_rfl) (by decide) (by unfold maxLen; omega) (by omega) ?_
    intro s23 hs23
    simp only [List.cons_append, List.nil_append, Act.put, Xa, Xz, Xs]
    refine wl_val (.slice s23.ptr (0 + 1 + 1) s23.cap) rfl (fun _ => rfl) ?_
    simp only [Act.put, Xa, Xz, Xs]
    refine wl_nil ?_
    refine we_in ?_
    refine we_then ?_
    refine wc_region ?_
    refine wl_val (.int .i64 3) rfl (fun w => run_nat (X := 2) (Y := 1) (Z := 3) rfl rfl rfl rfl (by omega) w) ?_
    simp only [Act.put, Xa, Xz, Xs]
    refine wl_val (.int .i64 3) rfl (fun _ => rfl) ?_
    simp only [Act.put, Xa, Xz, Xs]
    refine wl_nil ?_
    refine we_round ?_
    refine wr_round ?_
    refine wc_seq ?_
    refine wc_region ?_
    refine wl_val (.bool false) rfl (fun w => run_cmp rfl rfl rfl Try.underlying3 rfl w) ?_
    simp only [Act.put, Xa, Xz, Xs]
    refine wl_nil ?_
    refine we_then ?_
    refine wc_seq ?_
    refine wc_false rfl ?_
    refine wc_exit ?_
    refine we_then_exit ?_
    refine we_then_exit ?_
    refine we_in_here ?_
    refine we_then ?_
    refine wc_seq ?_
    refine wc_region ?_
    refine wl_val (.slice s23.ptr (0 + 1 + 1) s23.cap) rfl (fun _ => rfl) ?_
    simp only [Act.put, Xa, Xz, Xs]
    refine wl_val (.slice s23.ptr (0 + 1 + 1) s23.cap) rfl (fun _ => rfl) ?_
    simp only [Act.put, Xa, Xz, Xs]
    refine wl_nil ?_
    refine we_then ?_
    refine wc_ret ?_
    refine we_ret1 (.slice s23.ptr (0 + 1 + 1) s23.cap) rfl rfl rfl (fun w1 hE => ?_)
    have el : fitL x y z = [(x.lo, x.hi), (z.lo, z.hi)] := by unfold fitL one1; rw [h3, h19, h21]; rfl
    have en : nF x y z = 2 := by unfold nF; rw [el]; rfl
    rw [el, en]
    exact ⟨s23, has_cast rfl hs23, rfl, Env.tail hE (List.Sublist.cons _ (List.Sublist.cons _ (List.Sublist.cons _ (List.Sublist.cons _ (List.Sublist.cons _ (List.Sublist.cons _ (List.Sublist.append_left List.Sublist.slnil _)))))))⟩
  ·
   skip
   refine wc_true rfl ?_
   refine wc_region ?_
   refine wl_val (.slice s17.ptr (0 + 1) s17.cap) rfl (fun _ => rfl) ?_
   simp only [Act.put, Xa, Xz, Xs]
   refine wl_val (.pointer (some ⟨g18, 1, none⟩)) rfl (fun _ => by go_simp) ?_
   simp only [Act.put, Xa, Xz, Xs]
   refine wl_part 23 (.tmp 13) [.int .i64 y.lo, .int .i64 y.hi] (own_row 0 rfl) rfl rfl rfl rfl Try.underlying23 rfl (by kernel_rfl) ?_
   simp only [Act.put, Xa, Xz, Xs]
   refine wl_lit (e := 23) #[.int .i64 y.lo, .int .i64 y.hi] 1 rfl (fun _ => by go_simp) ?_
   intro g24
   simp only [Act.put, Xa, Xz, Xs]
   refine wl_append (e := 23) (size := 2) (bytes := 16) (m := 1) [⟨g24, #[.int .i64 y.lo, .int .i64 y.hi], 23⟩, ⟨g18, #[.bool true, .int .i64 y.lo, .int .i64 y.hi], 25⟩, ⟨g16, #[.int .i64 x.lo, .int .i64 x.hi], 23⟩, ⟨g2, #[.bool true, .int .i64 x.lo, .int .i64 x.hi], 25⟩, ⟨g1, #[.bool true, .int .i64 x.lo, .int .i64 x.hi, .bool true, .int .i64 y.lo, .int .i64 y.hi, .bool z.f, .int .i64 z.lo, .int .i64 z.hi], 26⟩] [] s17 (ys := [.int .i64 y.lo, .int .i64 y.hi]) rfl hs17 (sl_row 0 rfl) rfl (by simp [Value.oneCell']) rfl rfl rfl rfl Try.underlying48 (by unfold Elem; kernel_rfl) (by decide) (by unfold maxLen; omega) (by omega) ?_
   intro s25 hs25
   simp only [List.cons_append, List.nil_append, Act.put, Xa, Xz, Xs]
   refine wl_val (.slice s25.ptr (0 + 1 + 1) s25.cap) rfl (fun _ => rfl) ?_
   simp only [Act.put, Xa, Xz, Xs]
   refine wl_nil ?_
   refine we_in ?_
   refine we_then ?_
   refine wc_region ?_
   refine wl_val (.int .i64 2) rfl (fun w => run_nat (X := 1) (Y := 1) (Z := 2) rfl rfl rfl rfl (by omega) w) ?_
   simp only [Act.put, Xa, Xz, Xs]
   refine wl_val (.int .i64 2) rfl (fun _ => rfl) ?_
   simp only [Act.put, Xa, Xz, Xs]
   refine wl_nil ?_
   refine we_round ?_
   refine wr_round ?_
   refine wc_seq ?_
   refine wc_region ?_
   refine wl_val (.bool true) rfl (fun w => run_cmp rfl rfl rfl Try.underlying3 rfl w) ?_
   simp only [Act.put, Xa, Xz, Xs]
   refine wl_nil ?_
   refine we_then ?_
   refine wc_seq ?_
   refine wc_true rfl ?_
   refine wc_skip ?_
   refine we_then ?_
   refine wc_seq ?_
   refine wc_block ?_
   refine wc_seq ?_
   refine wc_region ?_
   refine wl_val (.agg #[.bool z.f, .int .i64 z.lo, .int .i64 z.hi]) rfl (fun w => run_index_row (k := 2) (z := 3) (ps := #[.bool z.f, .int .i64 z.lo, .int .i64 z.hi]) rfl rfl rfl rfl (by decide) Try.underlying26 Try.underlying25 rfl (by kernel_rfl) (by simp) w) ?_
   simp only [Act.put, Xa, Xz, Xs]
   refine wl_new 25 (#[.bool false, .int .i64 0, .int .i64 0]) rfl (fun _ => by go_simp) ?_
   intro g26
   simp only [Act.put, Xa, Xz, Xs]
   refine wl_store 0 25 (.tmp 5) (.tmp 9) (#[.bool z.f, .int .i64 z.lo, .int .i64 z.hi]) rfl rfl rfl rfl rfl (by kernel_rfl) rfl (by simp [Value.oneCell']) ?_
   simp only [Act.put, List.set_cons_zero]
   refine wl_nil ?_
   refine we_then ?_
   refine wc_seq ?_
   refine wc_region ?_
   refine wl_val (.pointer (some ⟨g26, 0, none⟩)) rfl (fun _ => by go_simp) ?_
   simp only [Act.put, Xa, Xz, Xs]
   refine wl_cell 4 (.tmp 10) (.bool z.f) (own_row 0 rfl) rfl rfl rfl rfl Try.isAgg4 ?_
   simp only [Act.put, Xa, Xz, Xs]
   refine wl_nil ?_
   refine we_then ?_
   cases h27 : (z.f)
   ·
    skip
    refine wc_false rfl ?_
    refine wc_skip ?_
    refine we_in ?_
    refine we_then ?_
    refine wc_region ?_
    refine wl_val (.int .i64 3) rfl (fun w => run_nat (X := 2) (Y := 1) (Z := 3) rfl rfl rfl rfl (by omega) w) ?_
    simp only [Act.put, Xa, Xz, Xs]
    refine wl_val (.int .i64 3) rfl (fun _ => rfl) ?_
    simp only [Act.put, Xa, Xz, Xs]
    refine wl_nil ?_
    refine we_round ?_
    refine wr_round ?_
    refine wc_seq ?_
    refine wc_region ?_
    refine wl_val (.bool false) rfl (fun w => run_cmp rfl rfl rfl Try.underlying3 rfl w) ?_
    simp only [Act.put, Xa, Xz, Xs]
    refine wl_nil ?_
    refine we_then ?_
    refine wc_seq ?_
    refine wc_false rfl ?_
    refine wc_exit ?_
    refine we_then_exit ?_
    refine we_then_exit ?_
    refine we_in_here ?_
    refine we_then ?_
    refine wc_seq ?_
    refine wc_region ?_
    refine wl_val (.slice s25.ptr (0 + 1 + 1) s25.cap) rfl (fun _ => rfl) ?_
    simp only [Act.put, Xa, Xz, Xs]
    refine wl_val (.slice s25.ptr (0 + 1 + 1) s25.cap) rfl (fun _ => rfl) ?_
    simp only [Act.put, Xa, Xz, Xs]
    refine wl_nil ?_
    refine we_then ?_
    refine wc_ret ?_
    refine we_ret1 (.slice s25.ptr (0 + 1 + 1) s25.cap) rfl rfl rfl (fun w1 hE => ?_)
    have el : fitL x y z = [(x.lo, x.hi), (y.lo, y.hi)] := by unfold fitL one1; rw [h3, h19, h27]; rfl
    have en : nF x y z = 2 := by unfold nF; rw [el]; rfl
    rw [el, en]
    exact ⟨s25, has_cast rfl hs25, rfl, Env.tail hE (List.Sublist.cons _ (List.Sublist.cons _ (List.Sublist.cons _ (List.Sublist.cons _ (List.Sublist.cons _ (List.Sublist.cons _ (List.Sublist.append_left List.Sublist.slnil _)))))))⟩
   ·
    skip
    refine wc_true rfl ?_
    refine wc_region ?_
    refine wl_val (.slice s25.ptr (0 + 1 + 1) s25.cap) rfl (fun _ => rfl) ?_
    simp only [Act.put, Xa, Xz, Xs]
    refine wl_val (.pointer (some ⟨g26, 1, none⟩)) rfl (fun _ => by go_simp) ?_
    simp only [Act.put, Xa, Xz, Xs]
    refine wl_part 23 (.tmp 13) [.int .i64 z.lo, .int .i64 z.hi] (own_row 0 rfl) rfl rfl rfl rfl Try.underlying23 rfl (by kernel_rfl) ?_
    simp only [Act.put, Xa, Xz, Xs]
    refine wl_lit (e := 23) #[.int .i64 z.lo, .int .i64 z.hi] 1 rfl (fun _ => by go_simp) ?_
    intro g28
    simp only [Act.put, Xa, Xz, Xs]
    refine wl_append (e := 23) (size := 2) (bytes := 16) (m := 1) [⟨g28, #[.int .i64 z.lo, .int .i64 z.hi], 23⟩, ⟨g26, #[.bool true, .int .i64 z.lo, .int .i64 z.hi], 25⟩, ⟨g24, #[.int .i64 y.lo, .int .i64 y.hi], 23⟩, ⟨g18, #[.bool true, .int .i64 y.lo, .int .i64 y.hi], 25⟩, ⟨g16, #[.int .i64 x.lo, .int .i64 x.hi], 23⟩, ⟨g2, #[.bool true, .int .i64 x.lo, .int .i64 x.hi], 25⟩, ⟨g1, #[.bool true, .int .i64 x.lo, .int .i64 x.hi, .bool true, .int .i64 y.lo, .int .i64 y.hi, .bool true, .int .i64 z.lo, .int .i64 z.hi], 26⟩] [] s25 (ys := [.int .i64 z.lo, .int .i64 z.hi]) rfl hs25 (sl_row 0 rfl) rfl (by simp [Value.oneCell']) rfl rfl rfl rfl Try.underlying48 (by unfold Elem; kernel_rfl) (by decide) (by unfold maxLen; omega) (by omega) ?_
    intro s29 hs29
    simp only [List.cons_append, List.nil_append, Act.put, Xa, Xz, Xs]
    refine wl_val (.slice s29.ptr (0 + 1 + 1 + 1) s29.cap) rfl (fun _ => rfl) ?_
    simp only [Act.put, Xa, Xz, Xs]
    refine wl_nil ?_
    refine we_in ?_
    refine we_then ?_
    refine wc_region ?_
    refine wl_val (.int .i64 3) rfl (fun w => run_nat (X := 2) (Y := 1) (Z := 3) rfl rfl rfl rfl (by omega) w) ?_
    simp only [Act.put, Xa, Xz, Xs]
    refine wl_val (.int .i64 3) rfl (fun _ => rfl) ?_
    simp only [Act.put, Xa, Xz, Xs]
    refine wl_nil ?_
    refine we_round ?_
    refine wr_round ?_
    refine wc_seq ?_
    refine wc_region ?_
    refine wl_val (.bool false) rfl (fun w => run_cmp rfl rfl rfl Try.underlying3 rfl w) ?_
    simp only [Act.put, Xa, Xz, Xs]
    refine wl_nil ?_
    refine we_then ?_
    refine wc_seq ?_
    refine wc_false rfl ?_
    refine wc_exit ?_
    refine we_then_exit ?_
    refine we_then_exit ?_
    refine we_in_here ?_
    refine we_then ?_
    refine wc_seq ?_
    refine wc_region ?_
    refine wl_val (.slice s29.ptr (0 + 1 + 1 + 1) s29.cap) rfl (fun _ => rfl) ?_
    simp only [Act.put, Xa, Xz, Xs]
    refine wl_val (.slice s29.ptr (0 + 1 + 1 + 1) s29.cap) rfl (fun _ => rfl) ?_
    simp only [Act.put, Xa, Xz, Xs]
    refine wl_nil ?_
    refine we_then ?_
    refine wc_ret ?_
    refine we_ret1 (.slice s29.ptr (0 + 1 + 1 + 1) s29.cap) rfl rfl rfl (fun w1 hE => ?_)
    have el : fitL x y z = [(x.lo, x.hi), (y.lo, y.hi), (z.lo, z.hi)] := by unfold fitL one1; rw [h3, h19, h27]; rfl
    have en : nF x y z = 3 := by unfold nF; rw [el]; rfl
    rw [el, en]
    exact ⟨s29, has_cast rfl hs29, rfl, Env.tail hE (List.Sublist.cons _ (List.Sublist.cons _ (List.Sublist.cons _ (List.Sublist.cons _ (List.Sublist.cons _ (List.Sublist.cons _ (List.Sublist.cons _ (List.Sublist.append_left List.Sublist.slnil _))))))))⟩
set_option maxHeartbeats 2000000 in
theorem narrow_in (w0 : World) (B : List Rw) (g : Nat) (a b n u v lo hi : Int) (cl cf : Bool) (w : World) (hE0 : Env w0 w (⟨g, #[.int .i64 a, .int .i64 b, .int .i64 n, .bool cl, .bool cf, .int .i64 u, .int .i64 v], 36⟩ :: B)) :
  Calls Try.prog 22 #[.pointer (some ⟨g, 0, none⟩), .agg #[.int .i64 lo, .int .i64 hi]] w fun e w' => e = .returned (.tuple #[]) ∧ Env w0 w' (⟨g, #[.int .i64 (nar (a, b, cf) lo hi).1, .int .i64 (nar (a, b, cf) lo hi).2.1, .int .i64 n, .bool cl, .bool (nar (a, b, cf) lo hi).2.2, .int .i64 u, .int .i64 v], 36⟩ :: B) := by
 refine calls_in hE0 Try.func22 rfl ?_
 simp only [Try.ntmps22, List.size_toArray, List.length_cons, List.length_nil, Nat.reduceAdd, Nat.reduceSub, Array.replicate_succ, Array.replicate_zero, List.push_toArray, List.append_toArray, List.nil_append, List.cons_append]
 refine wc_seq ?_
 refine wc_region ?_
 refine wl_new 23 (#[.int .i64 lo, .int .i64 hi]) rfl (fun _ => by go_simp) ?_
 intro g1
 simp only [Act.put, Xa, Xz, Xs]
 refine wl_nil ?_
 refine we_then ?_
 refine wc_seq ?_
 cases h2 : (meetB a b lo hi)
 ·
  skip
  refine wc_draw [.late, .late, .late, .plain, .plain, .plain, .late, .late, .late, .make 23 (#[.int .i64 0, .int .i64 0]) 10 (#[.int .i64 0, .int .i64 0]), .put 9, .late] none [(9, 4)] 24 (by kernel_rfl) rfl (by kernel_rfl) (by kernel_rfl) ?_
  refine ws_late (.pointer (some ⟨g, 0, none⟩)) rfl rfl (fun _ => rfl) ?_
  simp only [Nat.reduceAdd, Act.put, Xa, Xz, Xs]
  refine ws_late (.pointer (some ⟨g, 0, none⟩)) rfl rfl (fun w => run_nilCheck rfl rfl w) ?_
  simp only [Nat.reduceAdd, Act.put, Xa, Xz, Xs]
  refine ws_late (.pointer (some ⟨g, 0, none⟩)) rfl rfl (fun _ => by go_simp) ?_
  simp only [Nat.reduceAdd, Act.put, Xa, Xz, Xs]
  refine ws_part 23 (.tmp 9) [.int .i64 a, .int .i64 b] (own_row 1 rfl) rfl rfl rfl rfl rfl Try.underlying23 rfl (by kernel_rfl) ?_
  simp only [Nat.reduceAdd, Act.put, Xa, Xz, Xs]
  refine ws_load 23 (.tmp 3) (own_row 0 rfl) rfl rfl rfl rfl Try.underlying23 rfl (by kernel_rfl) ?_
  simp only [Nat.reduceAdd, Act.put, Xa, Xz, Xs]
  refine ws_call 28 #[.agg #[.int .i64 a, .int .i64 b], .agg #[.int .i64 lo, .int .i64 hi]] (.tuple #[.agg #[.int .i64 0, .int .i64 0], .bool false]) rfl rfl (fun _ => by go_simp) (fun W => by have h9 := Vvote.meet_b a b lo hi W; rw [h2] at h9; exact h9) ?_
  simp only [Nat.reduceAdd, Act.put, Xa, Xz, Xs]
  refine ws_late (.tuple #[.agg #[.int .i64 0, .int .i64 0], .bool false]) rfl rfl (fun _ => rfl) ?_
  simp only [Nat.reduceAdd, Act.put, Xa, Xz, Xs]
  refine ws_late (.agg #[.int .i64 0, .int .i64 0]) rfl rfl (fun _ => by go_simp) ?_
  simp only [Nat.reduceAdd, Act.put, Xa, Xz, Xs]
  refine ws_late (.bool false) rfl rfl (fun _ => by go_simp) ?_
  simp only [Nat.reduceAdd, Act.put, Xa, Xz, Xs]
  refine ws_make 23 (#[.int .i64 0, .int .i64 0]) 10 (#[.int .i64 0, .int .i64 0]) rfl rfl rfl (zero_of_info (n := 2) (by kernel_rfl)).1 ?_
  simp only [Nat.reduceAdd, Act.put, Xa, Xz, Xs]
  refine ws_put 9 23 4 (.tmp 13) _ _ _ rfl rfl rfl rfl (by simp) rfl rfl rfl (by kernel_rfl) rfl (by simp [Value.oneCell']) ?_
  simp only [Nat.reduceAdd]
  refine ws_late (.bool false) rfl rfl (fun _ => rfl) ?_
  simp only [Nat.reduceAdd, Act.put, Xa, Xz, Xs]
  refine ws_nil [(9, #[.int .i64 0, .int .i64 0], 23)] ⟨⟨by decide, _, _, _, rfl, .inl ⟨by decide, rfl⟩⟩, trivial⟩ (by simp) ?_
  intro ps3
  simp only [fin, List.foldl_cons, List.foldl_nil, List.map, rowOf, List.cons_append, List.nil_append, Act.put, Xa, Xz, Xs]
  refine we_then ?_
  refine wc_seq ?_
  refine wc_seq ?_
  refine wc_region ?_
  refine wl_val (.bool false) rfl (fun _ => rfl) ?_
  simp only [Act.put, Xa, Xz, Xs]
  refine wl_val (.bool true) rfl (fun _ => by go_simp) ?_
  simp only [Act.put, Xa, Xz, Xs]
  refine wl_nil ?_
  refine we_then ?_
  refine wc_true rfl ?_
  refine wc_seq ?_
  refine wc_region ?_
  refine wl_val (.pointer (some ⟨g, 0, none⟩)) rfl (fun _ => rfl) ?_
  simp only [Act.put, Xa, Xz, Xs]
  refine wl_val (.pointer (some ⟨g, 0, none⟩)) rfl (fun w => run_nilCheck rfl rfl w) ?_
  simp only [Act.put, Xa, Xz, Xs]
  refine wl_val (.pointer (some ⟨g, 4, none⟩)) rfl (fun _ => by go_simp) ?_
  simp only [Act.put, Xa, Xz, Xs]
  refine wl_store_cell 2 4 (.tmp 19) (.const (.bool true)) (.bool cf) (.bool true) rfl rfl rfl rfl rfl rfl (by kernel_rfl) rfl ?_
  simp only [Act.put, List.set_cons_zero, List.set_cons_succ]
  refine wl_nil ?_
  refine we_then ?_
  refine wc_ret ?_
  refine we_then_ret ?_
  refine we_ret0 rfl rfl (fun w1 hE => ?_)
  rw [nar_b0 h2]
  exact ⟨rfl, hE.sub (List.Sublist.cons _ (List.Sublist.cons _ (List.Sublist.cons_cons _ (List.Sublist.refl _))))⟩
 ·
  skip
  refine wc_draw [.late, .late, .late, .plain, .plain, .plain, .late, .late, .late, .make 23 (#[.int .i64 0, .int .i64 0]) 10 (#[.int .i64 (max a lo), .int .i64 (min b hi)]), .put 9, .late] none [(9, 4)] 24 (by kernel_rfl) rfl (by kernel_rfl) (by kernel_rfl) ?_
  refine ws_late (.pointer (some ⟨g, 0, none⟩)) rfl rfl (fun _ => rfl) ?_
  simp only [Nat.reduceAdd, Act.put, Xa, Xz, Xs]
  refine ws_late (.pointer (some ⟨g, 0, none⟩)) rfl rfl (fun w => run_nilCheck rfl rfl w) ?_
  simp only [Nat.reduceAdd, Act.put, Xa, Xz, Xs]
  refine ws_late (.pointer (some ⟨g, 0, none⟩)) rfl rfl (fun _ => by go_simp) ?_
  simp only [Nat.reduceAdd, Act.put, Xa, Xz, Xs]
  refine ws_part 23 (.tmp 9) [.int .i64 a, .int .i64 b] (own_row 1 rfl) rfl rfl rfl rfl rfl Try.underlying23 rfl (by kernel_rfl) ?_
  simp only [Nat.reduceAdd, Act.put, Xa, Xz, Xs]
  refine ws_load 23 (.tmp 3) (own_row 0 rfl) rfl rfl rfl rfl Try.underlying23 rfl (by kernel_rfl) ?_
  simp only [Nat.reduceAdd, Act.put, Xa, Xz, Xs]
  refine ws_call 28 #[.agg #[.int .i64 a, .int .i64 b], .agg #[.int .i64 lo, .int .i64 hi]] (.tuple #[.agg #[.int .i64 (max a lo), .int .i64 (min b hi)], .bool true]) rfl rfl (fun _ => by go_simp) (fun W => by have h9 := Vvote.meet_b a b lo hi W; rw [h2] at h9; exact h9) ?_
  simp only [Nat.reduceAdd, Act.put, Xa, Xz, Xs]
  refine ws_late (.tuple #[.agg #[.int .i64 (max a lo), .int .i64 (min b hi)], .bool true]) rfl rfl (fun _ => rfl) ?_
  simp only [Nat.reduceAdd, Act.put, Xa, Xz, Xs]
  refine ws_late (.agg #[.int .i64 (max a lo), .int .i64 (min b hi)]) rfl rfl (fun _ => by go_simp) ?_
  simp only [Nat.reduceAdd, Act.put, Xa, Xz, Xs]
  refine ws_late (.bool true) rfl rfl (fun _ => by go_simp) ?_
  simp only [Nat.reduceAdd, Act.put, Xa, Xz, Xs]
  refine ws_make 23 (#[.int .i64 0, .int .i64 0]) 10 (#[.int .i64 (max a lo), .int .i64 (min b hi)]) rfl rfl rfl (zero_of_info (n := 2) (by kernel_rfl)).1 ?_
  simp only [Nat.reduceAdd, Act.put, Xa, Xz, Xs]
  refine ws_put 9 23 4 (.tmp 13) _ _ _ rfl rfl rfl rfl (by simp) rfl rfl rfl (by kernel_rfl) rfl (by simp [Value.oneCell']) ?_
  simp only [Nat.reduceAdd]
  refine ws_late (.bool true) rfl rfl (fun _ => rfl) ?_
  simp only [Nat.reduceAdd, Act.put, Xa, Xz, Xs]
  refine ws_nil [(9, #[.int .i64 (max a lo), .int .i64 (min b hi)], 23)] ⟨⟨by decide, _, _, _, rfl, .inl ⟨by decide, rfl⟩⟩, trivial⟩ (by simp) ?_
  intro ps4
  simp only [fin, List.foldl_cons, List.foldl_nil, List.map, rowOf, List.cons_append, List.nil_append, Act.put, Xa, Xz, Xs]
  refine we_then ?_
  refine wc_seq ?_
  refine wc_seq ?_
  refine wc_region ?_
  refine wl_val (.bool true) rfl (fun _ => rfl) ?_
  simp only [Act.put, Xa, Xz, Xs]
  refine wl_val (.bool false) rfl (fun _ => by go_simp) ?_
  simp only [Act.put, Xa, Xz, Xs]
  refine wl_nil ?_
  refine we_then ?_
  refine wc_false rfl ?_
  refine wc_skip ?_
  refine we_then ?_
  refine wc_region ?_
  refine wl_val (.pointer (some ⟨g, 0, none⟩)) rfl (fun _ => rfl) ?_
  simp only [Act.put, Xa, Xz, Xs]
  refine wl_load 23 (.tmp 4) (own_row 0 rfl) rfl rfl rfl Try.underlying23 rfl (by kernel_rfl) ?_
  simp only [Act.put, Xa, Xz, Xs]
  refine wl_val (.pointer (some ⟨g, 0, none⟩)) rfl (fun w => run_nilCheck rfl rfl w) ?_
  simp only [Act.put, Xa, Xz, Xs]
  refine wl_val (.pointer (some ⟨g, 0, none⟩)) rfl (fun _ => by go_simp) ?_
  simp only [Act.put, Xa, Xz, Xs]
  refine wl_store_part 2 23 (.tmp 23) (.tmp 21) [.int .i64 (max a lo), .int .i64 (min b hi)] rfl rfl rfl rfl rfl (by kernel_rfl) (Nat.le_of_ble_eq_true rfl) (by simp [Value.oneCell']) ?_
  simp only [putAt, Nat.reduceAdd, Act.put, List.set_cons_zero, List.set_cons_succ]
  refine wl_nil ?_
  refine we_end0 rfl rfl (fun w1 hE => ?_)
  rw [nar_b1 h2]
  exact ⟨rfl, hE.sub (List.Sublist.cons _ (List.Sublist.cons _ (List.Sublist.cons_cons _ (List.Sublist.refl _))))⟩
set_option maxHeartbeats 2000000 in
theorem fuse_any (p q : Int) (x y z t : Sr) (w : World) (hp : p ≤ q ∧ -1152921504606846976 ≤ p ∧ q ≤ 1152921504606846976) (gx : GoodS x) (gy : GoodS y) (gz : GoodS z) (gt : GoodS t) :
  Calls Try.prog 12 #[.agg #[.int .i64 p, .int .i64 q], .agg #[.bool x.f, .int .i64 x.lo, .int .i64 x.hi, .bool y.f, .int .i64 y.lo, .int .i64 y.hi, .bool z.f, .int .i64 z.lo, .int .i64 z.hi], .agg #[.bool t.f, .int .i64 t.lo, .int .i64 t.hi]] w fun e w' => e = .returned (.agg #[.int .i64 (spd p q x y z t).1, .int .i64 (spd p q x y z t).2.1, .int .i64 (nF x y z : Int), .bool (clean x y z), .bool (spd p q x y z t).2.2, .int .i64 (slips x y z x), .int .i64 (slips x y z y)]) ∧ Below w.heap.size w w' := by
 refine calls_sx Try.func12 rfl ?_
 simp only [Try.ntmps12, List.size_toArray, List.length_cons, List.length_nil, Nat.reduceAdd, Nat.reduceSub, Array.replicate_succ, Array.replicate_zero, List.push_toArray, List.append_toArray, List.nil_append, List.cons_append]
 refine wc_seq ?_
 refine wc_region ?_
 refine wl_new 23 (#[.int .i64 p, .int .i64 q]) rfl (fun _ => by go_simp) ?_
 intro g1
 simp only [Act.put, Xa, Xz, Xs]
 refine wl_new 26 (#[.bool x.f, .int .i64 x.lo, .int .i64 x.hi, .bool y.f, .int .i64 y.lo, .int .i64 y.hi, .bool z.f, .int .i64 z.lo, .int .i64 z.hi]) rfl (fun _ => by go_simp) ?_
 intro g2
 simp only [Act.put, Xa, Xz, Xs]
 refine wl_new 25 (#[.bool t.f, .int .i64 t.lo, .int .i64 t.hi]) rfl (fun _ => by go_simp) ?_
 intro g3
 simp only [Act.put, Xa, Xz, Xs]
 refine wl_new 36 (#[.int .i64 0, .int .i64 0, .int .i64 0, .bool false, .bool false, .int .i64 0, .int .i64 0]) rfl (fun _ => by go_simp) ?_
 intro g4
 simp only [Act.put, Xa, Xz, Xs]
 refine wl_nil ?_
 refine we_then ?_
 refine wc_seq ?_
 refine wc_region ?_
 refine wl_load 26 (.tmp 4) (own_row 2 rfl) rfl rfl rfl Try.underlying26 rfl (by kernel_rfl) ?_
 simp only [Act.put, Xa, Xz, Xs]
 refine wl_call_own (ι := Own) (e := 23) [⟨g4, #[.int .i64 0, .int .i64 0, .int .i64 0, .bool false, .bool false, .int .i64 0, .int .i64 0], 36⟩, ⟨g3, #[.bool t.f, .int .i64 t.lo, .int .i64 t.hi], 25⟩, ⟨g2, #[.bool x.f, .int .i64 x.lo, .int .i64 x.hi, .bool y.f, .int .i64 y.lo, .int .i64 y.hi, .bool z.f, .int .i64 z.lo, .int .i64 z.hi], 26⟩, ⟨g1, #[.int .i64 p, .int .i64 q], 23⟩] [] 18 #[.agg #[.bool x.f, .int .i64 x.lo, .int .i64 x.hi, .bool y.f, .int .i64 y.lo, .int .i64 y.hi, .bool z.f, .int .i64 z.lo, .int .i64 z.hi]] (fun j => .slice j.ptr (nF x y z) j.cap) (fun j => j) (fun j => j.Has 2 (nF x y z) (flat enc2 (fitL x y z))) rfl rfl (fun _ => by go_simp) (fun W hE => those_any x y z W) ?_
 rintro s1 hs1
 simp only [List.cons_append, List.nil_append, Act.put, Xa, Xz, Xs]
 refine wl_val (.slice s1.ptr (nF x y z) s1.cap) rfl (fun _ => rfl) ?_
 simp only [Act.put, Xa, Xz, Xs]
 refine wl_nil ?_
 refine we_then ?_
 refine wc_seq ?_
 refine wc_region ?_
 refine wl_val (.slice s1.ptr (nF x y z) s1.cap) rfl (fun _ => rfl) ?_
 simp only [Act.put, Xa, Xz, Xs]
 refine wl_val (.int .i64 ((nF x y z) : Int)) rfl (fun w => er_len rfl rfl Try.underlying48 w) ?_
 simp only [Act.put, Xa, Xz, Xs]
 refine wl_val (.bool (((nF x y z) : Int) == 3)) rfl (fun w => run_cmp rfl rfl rfl Try.underlying3 rfl w) ?_
 simp only [Act.put, Xa, Xz, Xs]
 refine wl_val (.bool (((nF x y z) : Int) == 3)) rfl (fun _ => rfl) ?_
 simp only [Act.put, Xa, Xz, Xs]
 refine wl_nil ?_
 refine we_then ?_
 refine wc_seq ?_
 refine wc_region ?_
 refine wl_val (.slice s1.ptr (nF x y z) s1.cap) rfl (fun _ => rfl) ?_
 simp only [Act.put, Xa, Xz, Xs]
 refine wl_call_at 19 #[.slice s1.ptr (nF x y z) s1.cap] (.tuple #[.agg #[.int .i64 ((agr x y z).1), .int .i64 ((agr x y z).2.1)], .bool ((agr x y z).2.2)]) rfl (fun _ => by go_simp) (fun W hE => common_c x y z _ _ W ((sl_own [⟨g4, #[.int .i64 0, .int .i64 0, .int .i64 0, .bool false, .bool false, .int .i64 0, .int .i64 0], 36⟩, ⟨g3, #[.bool t.f, .int .i64 t.lo, .int .i64 t.hi], 25⟩, ⟨g2, #[.bool x.f, .int .i64 x.lo, .int .i64 x.hi, .bool y.f, .int .i64 y.lo, .int .i64 y.hi, .bool z.f, .int .i64 z.lo, .int .i64 z.hi], 26⟩, ⟨g1, #[.int .i64 p, .int .i64 q], 23⟩] [] hs1 rfl) W hE) gx gy gz) ?_
 simp only [Act.put, Xa, Xz, Xs]
 refine wl_val (.tuple #[.agg #[.int .i64 ((agr x y z).1), .int .i64 ((agr x y z).2.1)], .bool ((agr x y z).2.2)]) rfl (fun _ => rfl) ?_
 simp only [Act.put, Xa, Xz, Xs]
 refine wl_val (.agg #[.int .i64 ((agr x y z).1), .int .i64 ((agr x y z).2.1)]) rfl (fun _ => by go_simp) ?_
 simp only [Act.put, Xa, Xz, Xs]
 refine wl_val (.bool ((agr x y z).2.2)) rfl (fun _ => by go_simp) ?_
 simp only [Act.put, Xa, Xz, Xs]
 refine wl_new 23 (#[.int .i64 0, .int .i64 0]) rfl (fun _ => by go_simp) ?_
 intro g5
 simp only [Act.put, Xa, Xz, Xs]
 refine wl_store 0 23 (.tmp 9) (.tmp 21) (#[.int .i64 ((agr x y z).1), .int .i64 ((agr x y z).2.1)]) rfl rfl rfl rfl rfl (by kernel_rfl) rfl (by simp [Value.oneCell']) ?_
 simp only [Act.put, List.set_cons_zero]
 refine wl_val (.bool ((agr x y z).2.2)) rfl (fun _ => rfl) ?_
 simp only [Act.put, Xa, Xz, Xs]
 refine wl_nil ?_
 refine we_then ?_
 refine wc_seq ?_
 refine wc_region ?_
 refine wl_val (.bool ((agr x y z).2.2)) rfl (fun _ => rfl) ?_
 simp only [Act.put, Xa, Xz, Xs]
 refine wl_val (.bool ((agr x y z).2.2)) rfl (fun _ => rfl) ?_
 simp only [Act.put, Xa, Xz, Xs]
 refine wl_nil ?_
 refine we_then ?_
 refine wc_seq ?_
 refine wc_region ?_
 refine wl_load 23 (.tmp 3) (own_row 4 rfl) rfl rfl rfl Try.underlying23 rfl (by kernel_rfl) ?_
 simp only [Act.put, Xa, Xz, Xs]
 refine wl_val (.slice s1.ptr (nF x y z) s1.cap) rfl (fun _ => rfl) ?_
 simp only [Act.put, Xa, Xz, Xs]
 refine wl_val (.int .i64 ((nF x y z) : Int)) rfl (fun w => er_len rfl rfl Try.underlying48 w) ?_
 simp only [Act.put, Xa, Xz, Xs]
 refine wl_val (.bool (((nF x y z) : Int) == 3)) rfl (fun _ => rfl) ?_
 simp only [Act.put, Xa, Xz, Xs]
 refine wl_val (.bool (((nF x y z) : Int) == 3)) rfl (fun _ => rfl) ?_
 simp only [Act.put, Xa, Xz, Xs]
 cases h6 : (((nF x y z) : Int) == 3)
 ·
  skip
  have p6 : ¬ (((nF x y z) : Int) = 3) := by first | (simp; done) | (simp at h6; done) | simpa using h6
  refine wl_skip rfl ?_
  simp only [Act.put, Xa, Xz, Xs]
  refine wl_val (.bool false) rfl (fun _ => rfl) ?_
  simp only [Act.put, Xa, Xz, Xs]
  refine wl_val (.agg #[.int .i64 p, .int .i64 q, .int .i64 ((nF x y z) : Int), .bool false, .bool false, .int .i64 0, .int .i64 0]) rfl (fun _ => by go_simp) ?_
  simp only [Act.put, Xa, Xz, Xs]
  refine wl_new 36 (#[.int .i64 0, .int .i64 0, .int .i64 0, .bool false, .bool false, .int .i64 0, .int .i64 0]) rfl (fun _ => by go_simp) ?_
  intro g7
  simp only [Act.put, Xa, Xz, Xs]
  refine wl_store 0 36 (.tmp 12) (.tmp 31) (#[.int .i64 p, .int .i64 q, .int .i64 ((nF x y z) : Int), .bool false, .bool false, .int .i64 0, .int .i64 0]) rfl rfl rfl rfl rfl (by kernel_rfl) rfl (by simp [Value.oneCell']) ?_
  simp only [Act.put, List.set_cons_zero]
  refine wl_nil ?_
  refine we_then ?_
  refine wc_seq ?_
  refine wc_seq ?_
  refine wc_region ?_
  refine wl_val (.bool false) rfl (fun _ => rfl) ?_
  simp only [Act.put, Xa, Xz, Xs]
  refine wl_val (.bool false) rfl (fun _ => rfl) ?_
  simp only [Act.put, Xa, Xz, Xs]
  refine wl_skip rfl ?_
  simp only [Act.put, Xa, Xz, Xs]
  refine wl_skip rfl ?_
  simp only [Act.put, Xa, Xz, Xs]
  refine wl_val (.bool false) rfl (fun _ => rfl) ?_
  simp only [Act.put, Xa, Xz, Xs]
  refine wl_nil ?_
  refine we_then ?_
  refine wc_false rfl ?_
  refine wc_skip ?_
  refine we_then ?_
  refine wc_seq ?_
  refine wc_seq ?_
  refine wc_region ?_
  refine wl_val (.bool ((agr x y z).2.2)) rfl (fun _ => rfl) ?_
  simp only [Act.put, Xa, Xz, Xs]
  refine wl_nil ?_
  refine we_then ?_
  cases h8 : ((agr x y z).2.2)
  ·
   skip
   refine wc_false rfl ?_
   refine wc_region ?_
   refine wl_val (.slice s1.ptr (nF x y z) s1.cap) rfl (fun _ => rfl) ?_
   simp only [Act.put, Xa, Xz, Xs]
   refine wl_val (.int .i64 ((nF x y z) : Int)) rfl (fun w => er_len rfl rfl Try.underlying48 w) ?_
   simp only [Act.put, Xa, Xz, Xs]
   refine wl_val (.bool (decide (0 < ((nF x y z) : Int)))) rfl (fun w => run_cmp rfl rfl rfl Try.underlying3 rfl w) ?_
   simp only [Act.put, Xa, Xz, Xs]
   refine wl_val (.pointer (some ⟨g7, 4, none⟩)) rfl (fun _ => by go_simp) ?_
   simp only [Act.put, Xa, Xz, Xs]
   refine wl_store_cell 0 4 (.tmp 53) (.tmp 52) (.bool false) (.bool (decide (0 < ((nF x y z) : Int)))) rfl rfl rfl rfl rfl rfl (by kernel_rfl) rfl ?_
   simp only [Act.put, List.set_cons_zero]
   refine wl_nil ?_
   refine we_then ?_
   refine wc_seq ?_
   refine wc_seq ?_
   refine wc_region ?_
   refine wl_val (.pointer (some ⟨g3, 0, none⟩)) rfl (fun _ => by go_simp) ?_
   simp only [Act.put, Xa, Xz, Xs]
   refine wl_cell 4 (.tmp 54) (.bool t.f) (own_row 3 rfl) rfl rfl rfl rfl Try.isAgg4 ?_
   simp only [Act.put, Xa, Xz, Xs]
   refine wl_nil ?_
   refine we_then ?_
   cases h9 : (t.f)
   ·
    skip
    refine wc_false rfl ?_
    refine wc_skip ?_
    refine we_then ?_
    refine wc_seq ?_
    refine wc_region ?_
    refine wl_load 36 (.tmp 12) (own_row 0 rfl) rfl rfl rfl Try.underlying36 rfl (by kernel_rfl) ?_
    simp only [Act.put, Xa, Xz, Xs]
    refine wl_store 2 36 (.tmp 6) (.tmp 59) (#[.int .i64 p, .int .i64 q, .int .i64 ((nF x y z) : Int), .bool false, .bool (decide (0 < ((nF x y z) : Int))), .int .i64 0, .int .i64 0]) rfl rfl rfl rfl rfl (by kernel_rfl) rfl (by simp [Value.oneCell']) ?_
    simp only [Act.put, List.set_cons_zero, List.set_cons_succ]
    refine wl_nil ?_
    refine we_then ?_
    refine wc_ret ?_
    refine we_ret_cell (own_row 2 rfl) rfl rfl rfl Try.underlying36 rfl (by kernel_rfl) (fun w1 hE => ?_)
    exact ⟨by rw [spd_0 h9, clean_0 h6, first_no h8 h6, slips_no (u := x) h8 h6, slips_no (u := y) h8 h6], hE.below⟩
   ·
    skip
    refine wc_true rfl ?_
    refine wc_region ?_
    refine wl_val (.pointer (some ⟨g3, 1, none⟩)) rfl (fun _ => by go_simp) ?_
    simp only [Act.put, Xa, Xz, Xs]
    refine wl_part 23 (.tmp 56) [.int .i64 t.lo, .int .i64 t.hi] (own_row 3 rfl) rfl rfl rfl rfl Try.underlying23 rfl (by kernel_rfl) ?_
    simp only [Act.put, Xa, Xz, Xs]
    refine wl_call_row (ι := Unit) [] [⟨g5, #[.int .i64 ((agr x y z).1), .int .i64 ((agr x y z).2.1)], 23⟩, ⟨g4, #[.int .i64 0, .int .i64 0, .int .i64 0, .bool false, .bool false, .int .i64 0, .int .i64 0], 36⟩, ⟨g3, #[.bool true, .int .i64 t.lo, .int .i64 t.hi], 25⟩, ⟨g2, #[.bool x.f, .int .i64 x.lo, .int .i64 x.hi, .bool y.f, .int .i64 y.lo, .int .i64 y.hi, .bool z.f, .int .i64 z.lo, .int .i64 z.hi], 26⟩, ⟨g1, #[.int .i64 p, .int .i64 q], 23⟩] (s1.rows 23 ++ []) (⟨g5, #[.int .i64 ((agr x y z).1), .int .i64 ((agr x y z).2.1)], 23⟩ :: ⟨g4, #[.int .i64 0, .int .i64 0, .int .i64 0, .bool false, .bool false, .int .i64 0, .int .i64 0], 36⟩ :: ⟨g3, #[.bool true, .int .i64 t.lo, .int .i64 t.hi], 25⟩ :: ⟨g2, #[.bool x.f, .int .i64 x.lo, .int .i64 x.hi, .bool y.f, .int .i64 y.lo, .int .i64 y.hi, .bool z.f, .int .i64 z.lo, .int .i64 z.hi], 26⟩ :: ⟨g1, #[.int .i64 p, .int .i64 q], 23⟩ :: (s1.rows 23 ++ [])) ⟨g7, #[.int .i64 p, .int .i64 q, .int .i64 ((nF x y z) : Int), .bool false, .bool (decide (0 < ((nF x y z) : Int))), .int .i64 0, .int .i64 0], 36⟩ 22 #[.pointer (some ⟨g7, 0, none⟩), .agg #[.int .i64 t.lo, .int .i64 t.hi]] (fun (y10 : Unit) => .tuple #[]) (fun (y10 : Unit) => ⟨g7, #[.int .i64 ((nar (p, q, (decide (0 < ((nF x y z) : Int)))) t.lo t.hi).1), .int .i64 ((nar (p, q, (decide (0 < ((nF x y z) : Int)))) t.lo t.hi).2.1), .int .i64 ((nF x y z) : Int), .bool false, .bool ((nar (p, q, (decide (0 < ((nF x y z) : Int)))) t.lo t.hi).2.2), .int .i64 0, .int .i64 0], 36⟩) (fun (y10 : Unit) => []) (fun (y10 : Unit) => ⟨g7, #[.int .i64 ((nar (p, q, (decide (0 < ((nF x y z) : Int)))) t.lo t.hi).1), .int .i64 ((nar (p, q, (decide (0 < ((nF x y z) : Int)))) t.lo t.hi).2.1), .int .i64 ((nF x y z) : Int), .bool false, .bool ((nar (p, q, (decide (0 < ((nF x y z) : Int)))) t.lo t.hi).2.2), .int .i64 0, .int .i64 0], 36⟩ :: ⟨g5, #[.int .i64 ((agr x y z).1), .int .i64 ((agr x y z).2.1)], 23⟩ :: ⟨g4, #[.int .i64 0, .int .i64 0, .int .i64 0, .bool false, .bool false, .int .i64 0, .int .i64 0], 36⟩ :: ⟨g3, #[.bool true, .int .i64 t.lo, .int .i64 t.hi], 25⟩ :: ⟨g2, #[.bool x.f, .int .i64 x.lo, .int .i64 x.hi, .bool y.f, .int .i64 y.lo, .int .i64 y.hi, .bool z.f, .int .i64 z.lo, .int .i64 z.hi], 26⟩ :: ⟨g1, #[.int .i64 p, .int .i64 q], 23⟩ :: (s1.rows 23 ++ [])) (fun (y10 : Unit) => True) rfl rfl (fun _ => by first | rfl | simp) rfl (fun _ => by go_simp) (fun W hE => (narrow_in w (⟨g5, #[.int .i64 ((agr x y z).1), .int .i64 ((agr x y z).2.1)], 23⟩ :: ⟨g4, #[.int .i64 0, .int .i64 0, .int .i64 0, .bool false, .bool false, .int .i64 0, .int .i64 0], 36⟩ :: ⟨g3, #[.bool true, .int .i64 t.lo, .int .i64 t.hi], 25⟩ :: ⟨g2, #[.bool x.f, .int .i64 x.lo, .int .i64 x.hi, .bool y.f, .int .i64 y.lo, .int .i64 y.hi, .bool z.f, .int .i64 z.lo, .int .i64 z.hi], 26⟩ :: ⟨g1, #[.int .i64 p, .int .i64 q], 23⟩ :: (s1.rows 23 ++ [])) g7 p q ((nF x y z) : Int) 0 0 t.lo t.hi false (decide (0 < ((nF x y z) : Int))) W hE).mono (fun e w' h => ⟨(), trivial, h⟩)) ?_
    rintro y10 -
    skip
    simp only [Act.put, Xa, Xz, Xs]
    refine wl_nil ?_
    refine we_then ?_
    refine wc_seq ?_
    refine wc_region ?_
    refine wl_load 36 (.tmp 12) (own_row 0 rfl) rfl rfl rfl Try.underlying36 rfl (by kernel_rfl) ?_
    simp only [Act.put, Xa, Xz, Xs]
    refine wl_store 2 36 (.tmp 6) (.tmp 59) (#[.int .i64 ((nar (p, q, (decide (0 < ((nF x y z) : Int)))) t.lo t.hi).1), .int .i64 ((nar (p, q, (decide (0 < ((nF x y z) : Int)))) t.lo t.hi).2.1), .int .i64 ((nF x y z) : Int), .bool false, .bool ((nar (p, q, (decide (0 < ((nF x y z) : Int)))) t.lo t.hi).2.2), .int .i64 0, .int .i64 0]) rfl rfl rfl rfl rfl (by kernel_rfl) rfl (by simp [Value.oneCell']) ?_
    simp only [Act.put, List.set_cons_zero, List.set_cons_succ]
    refine wl_nil ?_
    refine we_then ?_
    refine wc_ret ?_
    refine we_ret_cell (own_row 2 rfl) rfl rfl rfl Try.underlying36 rfl (by kernel_rfl) (fun w1 hE => ?_)
    exact ⟨by rw [spd_1 h9, clean_0 h6, first_no h8 h6, slips_no (u := x) h8 h6, slips_no (u := y) h8 h6], hE.below⟩
  ·
   skip
   refine wc_true rfl ?_
   refine wc_region ?_
   refine wl_load 23 (.tmp 9) (own_row 1 rfl) rfl rfl rfl Try.underlying23 rfl (by kernel_rfl) ?_
   simp only [Act.put, Xa, Xz, Xs]
   refine wl_call_row (ι := Unit) [] [⟨g5, #[.int .i64 ((agr x y z).1), .int .i64 ((agr x y z).2.1)], 23⟩, ⟨g4, #[.int .i64 0, .int .i64 0, .int .i64 0, .bool false, .bool false, .int .i64 0, .int .i64 0], 36⟩, ⟨g3, #[.bool t.f, .int .i64 t.lo, .int .i64 t.hi], 25⟩, ⟨g2, #[.bool x.f, .int .i64 x.lo, .int .i64 x.hi, .bool y.f, .int .i64 y.lo, .int .i64 y.hi, .bool z.f, .int .i64 z.lo, .int .i64 z.hi], 26⟩, ⟨g1, #[.int .i64 p, .int .i64 q], 23⟩] (s1.rows 23 ++ []) (⟨g5, #[.int .i64 ((agr x y z).1), .int .i64 ((agr x y z).2.1)], 23⟩ :: ⟨g4, #[.int .i64 0, .int .i64 0, .int .i64 0, .bool false, .bool false, .int .i64 0, .int .i64 0], 36⟩ :: ⟨g3, #[.bool t.f, .int .i64 t.lo, .int .i64 t.hi], 25⟩ :: ⟨g2, #[.bool x.f, .int .i64 x.lo, .int .i64 x.hi, .bool y.f, .int .i64 y.lo, .int .i64 y.hi, .bool z.f, .int .i64 z.lo, .int .i64 z.hi], 26⟩ :: ⟨g1, #[.int .i64 p, .int .i64 q], 23⟩ :: (s1.rows 23 ++ [])) ⟨g7, #[.int .i64 p, .int .i64 q, .int .i64 ((nF x y z) : Int), .bool false, .bool false, .int .i64 0, .int .i64 0], 36⟩ 22 #[.pointer (some ⟨g7, 0, none⟩), .agg #[.int .i64 ((agr x y z).1), .int .i64 ((agr x y z).2.1)]] (fun (y11 : Unit) => .tuple #[]) (fun (y11 : Unit) => ⟨g7, #[.int .i64 ((nar (p, q, false) ((agr x y z).1) ((agr x y z).2.1)).1), .int .i64 ((nar (p, q, false) ((agr x y z).1) ((agr x y z).2.1)).2.1), .int .i64 ((nF x y z) : Int), .bool false, .bool ((nar (p, q, false) ((agr x y z).1) ((agr x y z).2.1)).2.2), .int .i64 0, .int .i64 0], 36⟩) (fun (y11 : Unit) => []) (fun (y11 : Unit) => ⟨g7, #[.int .i64 ((nar (p, q, false) ((agr x y z).1) ((agr x y z).2.1)).1), .int .i64 ((nar (p, q, false) ((agr x y z).1) ((agr x y z).2.1)).2.1), .int .i64 ((nF x y z) : Int), .bool false, .bool ((nar (p, q, false) ((agr x y z).1) ((agr x y z).2.1)).2.2), .int .i64 0, .int .i64 0], 36⟩ :: ⟨g5, #[.int .i64 ((agr x y z).1), .int .i64 ((agr x y z).2.1)], 23⟩ :: ⟨g4, #[.int .i64 0, .int .i64 0, .int .i64 0, .bool false, .bool false, .int .i64 0, .int .i64 0], 36⟩ :: ⟨g3, #[.bool t.f, .int .i64 t.lo, .int .i64 t.hi], 25⟩ :: ⟨g2, #[.bool x.f, .int .i64 x.lo, .int .i64 x.hi, .bool y.f, .int .i64 y.lo, .int .i64 y.hi, .bool z.f, .int .i64 z.lo, .int .i64 z.hi], 26⟩ :: ⟨g1, #[.int .i64 p, .int .i64 q], 23⟩ :: (s1.rows 23 ++ [])) (fun (y11 : Unit) => True) rfl rfl (fun _ => by first | rfl | simp) rfl (fun _ => by go_simp) (fun W hE => (narrow_in w (⟨g5, #[.int .i64 ((agr x y z).1), .int .i64 ((agr x y z).2.1)], 23⟩ :: ⟨g4, #[.int .i64 0, .int .i64 0, .int .i64 0, .bool false, .bool false, .int .i64 0, .int .i64 0], 36⟩ :: ⟨g3, #[.bool t.f, .int .i64 t.lo, .int .i64 t.hi], 25⟩ :: ⟨g2, #[.bool x.f, .int .i64 x.lo, .int .i64 x.hi, .bool y.f, .int .i64 y.lo, .int .i64 y.hi, .bool z.f, .int .i64 z.lo, .int .i64 z.hi], 26⟩ :: ⟨g1, #[.int .i64 p, .int .i64 q], 23⟩ :: (s1.rows 23 ++ [])) g7 p q ((nF x y z) : Int) 0 0 ((agr x y z).1) ((agr x y z).2.1) false false W hE).mono (fun e w' h => ⟨(), trivial, h⟩)) ?_
   rintro y11 -
   skip
   simp only [Act.put, Xa, Xz, Xs]
   refine wl_nil ?_
   refine we_then ?_
   refine wc_seq ?_
   refine wc_seq ?_
   refine wc_region ?_
   refine wl_val (.pointer (some ⟨g3, 0, none⟩)) rfl (fun _ => by go_simp) ?_
   simp only [Act.put, Xa, Xz, Xs]
   refine wl_cell 4 (.tmp 54) (.bool t.f) (own_row 3 rfl) rfl rfl rfl rfl Try.isAgg4 ?_
   simp only [Act.put, Xa, Xz, Xs]
   refine wl_nil ?_
   refine we_then ?_
   cases h12 : (t.f)
   ·
    skip
    refine wc_false rfl ?_
    refine wc_skip ?_
    refine we_then ?_
    refine wc_seq ?_
    refine wc_region ?_
    refine wl_load 36 (.tmp 12) (own_row 0 rfl) rfl rfl rfl Try.underlying36 rfl (by kernel_rfl) ?_
    simp only [Act.put, Xa, Xz, Xs]
    refine wl_store 2 36 (.tmp 6) (.tmp 59) (#[.int .i64 ((nar (p, q, false) ((agr x y z).1) ((agr x y z).2.1)).1), .int .i64 ((nar (p, q, false) ((agr x y z).1) ((agr x y z).2.1)).2.1), .int .i64 ((nF x y z) : Int), .bool false, .bool ((nar (p, q, false) ((agr x y z).1) ((agr x y z).2.1)).2.2), .int .i64 0, .int .i64 0]) rfl rfl rfl rfl rfl (by kernel_rfl) rfl (by simp [Value.oneCell']) ?_
    simp only [Act.put, List.set_cons_zero, List.set_cons_succ]
    refine wl_nil ?_
    refine we_then ?_
    refine wc_ret ?_
    refine we_ret_cell (own_row 2 rfl) rfl rfl rfl Try.underlying36 rfl (by kernel_rfl) (fun w1 hE => ?_)
    exact ⟨by rw [spd_0 h12, clean_0 h6, first_agr h8, slips_agr (u := x) h8, slips_agr (u := y) h8], hE.below⟩
   ·
    skip
    refine wc_true rfl ?_
    refine wc_region ?_
    refine wl_val (.pointer (some ⟨g3, 1, none⟩)) rfl (fun _ => by go_simp) ?_
    simp only [Act.put, Xa, Xz, Xs]
    refine wl_part 23 (.tmp 56) [.int .i64 t.lo, .int .i64 t.hi] (own_row 3 rfl) rfl rfl rfl rfl Try.underlying23 rfl (by kernel_rfl) ?_
    simp only [Act.put, Xa, Xz, Xs]
    refine wl_call_row (ι := Unit) [] [⟨g5, #[.int .i64 ((agr x y z).1), .int .i64 ((agr x y z).2.1)], 23⟩, ⟨g4, #[.int .i64 0, .int .i64 0, .int .i64 0, .bool false, .bool false, .int .i64 0, .int .i64 0], 36⟩, ⟨g3, #[.bool true, .int .i64 t.lo, .int .i64 t.hi], 25⟩, ⟨g2, #[.bool x.f, .int .i64 x.lo, .int .i64 x.hi, .bool y.f, .int .i64 y.lo, .int .i64 y.hi, .bool z.f, .int .i64 z.lo, .int .i64 z.hi], 26⟩, ⟨g1, #[.int .i64 p, .int .i64 q], 23⟩] (s1.rows 23 ++ []) (⟨g5, #[.int .i64 ((agr x y z).1), .int .i64 ((agr x y z).2.1)], 23⟩ :: ⟨g4, #[.int .i64 0, .int .i64 0, .int .i64 0, .bool false, .bool false, .int .i64 0, .int .i64 0], 36⟩ :: ⟨g3, #[.bool true, .int .i64 t.lo, .int .i64 t.hi], 25⟩ :: ⟨g2, #[.bool x.f, .int .i64 x.lo, .int .i64 x.hi, .bool y.f, .int .i64 y.lo, .int .i64 y.hi, .bool z.f, .int .i64 z.lo, .int .i64 z.hi], 26⟩ :: ⟨g1, #[.int .i64 p, .int .i64 q], 23⟩ :: (s1.rows 23 ++ [])) ⟨g7, #[.int .i64 ((nar (p, q, false) ((agr x y z).1) ((agr x y z).2.1)).1), .int .i64 ((nar (p, q, false) ((agr x y z).1) ((agr x y z).2.1)).2.1), .int .i64 ((nF x y z) : Int), .bool false, .bool ((nar (p, q, false) ((agr x y z).1) ((agr x y z).2.1)).2.2), .int .i64 0, .int .i64 0], 36⟩ 22 #[.pointer (some ⟨g7, 0, none⟩), .agg #[.int .i64 t.lo, .int .i64 t.hi]] (fun (y13 : Unit) => .tuple #[]) (fun (y13 : Unit) => ⟨g7, #[.int .i64 ((nar (((nar (p, q, false) ((agr x y z).1) ((agr x y z).2.1)).1), ((nar (p, q, false) ((agr x y z).1) ((agr x y z).2.1)).2.1), ((nar (p, q, false) ((agr x y z).1) ((agr x y z).2.1)).2.2)) t.lo t.hi).1), .int .i64 ((nar (((nar (p, q, false) ((agr x y z).1) ((agr x y z).2.1)).1), ((nar (p, q, false) ((agr x y z).1) ((agr x y z).2.1)).2.1), ((nar (p, q, false) ((agr x y z).1) ((agr x y z).2.1)).2.2)) t.lo t.hi).2.1), .int .i64 ((nF x y z) : Int), .bool false, .bool ((nar (((nar (p, q, false) ((agr x y z).1) ((agr x y z).2.1)).1), ((nar (p, q, false) ((agr x y z).1) ((agr x y z).2.1)).2.1), ((nar (p, q, false) ((agr x y z).1) ((agr x y z).2.1)).2.2)) t.lo t.hi).2.2), .int .i64 0, .int .i64 0], 36⟩) (fun (y13 : Unit) => []) (fun (y13 : Unit) => ⟨g7, #[.int .i64 ((nar (((nar (p, q, false) ((agr x y z).1) ((agr x y z).2.1)).1), ((nar (p, q, false) ((agr x y z).1) ((agr x y z).2.1)).2.1), ((nar (p, q, false) ((agr x y z).1) ((agr x y z).2.1)).2.2)) t.lo t.hi).1), .int .i64 ((nar (((nar (p, q, false) ((agr x y z).1) ((agr x y z).2.1)).1), ((nar (p, q, false) ((agr x y z).1) ((agr x y z).2.1)).2.1), ((nar (p, q, false) ((agr x y z).1) ((agr x y z).2.1)).2.2)) t.lo t.hi).2.1), .int .i64 ((nF x y z) : Int), .bool false, .bool ((nar (((nar (p, q, false) ((agr x y z).1) ((agr x y z).2.1)).1), ((nar (p, q, false) ((agr x y z).1) ((agr x y z).2.1)).2.1), ((nar (p, q, false) ((agr x y z).1) ((agr x y z).2.1)).2.2)) t.lo t.hi).2.2), .int .i64 0, .int .i64 0], 36⟩ :: ⟨g5, #[.int .i64 ((agr x y z).1), .int .i64 ((agr x y z).2.1)], 23⟩ :: ⟨g4, #[.int .i64 0, .int .i64 0, .int .i64 0, .bool false, .bool false, .int .i64 0, .int .i64 0], 36⟩ :: ⟨g3, #[.bool true, .int .i64 t.lo, .int .i64 t.hi], 25⟩ :: ⟨g2, #[.bool x.f, .int .i64 x.lo, .int .i64 x.hi, .bool y.f, .int .i64 y.lo, .int .i64 y.hi, .bool z.f, .int .i64 z.lo, .int .i64 z.hi], 26⟩ :: ⟨g1, #[.int .i64 p, .int .i64 q], 23⟩ :: (s1.rows 23 ++ [])) (fun (y13 : Unit) => True) rfl rfl (fun _ => by first | rfl | simp) rfl (fun _ => by go_simp) (fun W hE => (narrow_in w (⟨g5, #[.int .i64 ((agr x y z).1), .int .i64 ((agr x y z).2.1)], 23⟩ :: ⟨g4, #[.int .i64 0, .int .i64 0, .int .i64 0, .bool false, .bool false, .int .i64 0, .int .i64 0], 36⟩ :: ⟨g3, #[.bool true, .int .i64 t.lo, .int .i64 t.hi], 25⟩ :: ⟨g2, #[.bool x.f, .int .i64 x.lo, .int .i64 x.hi, .bool y.f, .int .i64 y.lo, .int .i64 y.hi, .bool z.f, .int .i64 z.lo, .int .i64 z.hi], 26⟩ :: ⟨g1, #[.int .i64 p, .int .i64 q], 23⟩ :: (s1.rows 23 ++ [])) g7 ((nar (p, q, false) ((agr x y z).1) ((agr x y z).2.1)).1) ((nar (p, q, false) ((agr x y z).1) ((agr x y z).2.1)).2.1) ((nF x y z) : Int) 0 0 t.lo t.hi false ((nar (p, q, false) ((agr x y z).1) ((agr x y z).2.1)).2.2) W hE).mono (fun e w' h => ⟨(), trivial, h⟩)) ?_
    rintro y13 -
    skip
    simp only [Act.put, Xa, Xz, Xs]
    refine wl_nil ?_
    refine we_then ?_
    refine wc_seq ?_
    refine wc_region ?_
    refine wl_load 36 (.tmp 12) (own_row 0 rfl) rfl rfl rfl Try.underlying36 rfl (by kernel_rfl) ?_
    simp only [Act.put, Xa, Xz, Xs]
    refine wl_store 2 36 (.tmp 6) (.tmp 59) (#[.int .i64 ((nar (((nar (p, q, false) ((agr x y z).1) ((agr x y z).2.1)).1), ((nar (p, q, false) ((agr x y z).1) ((agr x y z).2.1)).2.1), ((nar (p, q, false) ((agr x y z).1) ((agr x y z).2.1)).2.2)) t.lo t.hi).1), .int .i64 ((nar (((nar (p, q, false) ((agr x y z).1) ((agr x y z).2.1)).1), ((nar (p, q, false) ((agr x y z).1) ((agr x y z).2.1)).2.1), ((nar (p, q, false) ((agr x y z).1) ((agr x y z).2.1)).2.2)) t.lo t.hi).2.1), .int .i64 ((nF x y z) : Int), .bool false, .bool ((nar (((nar (p, q, false) ((agr x y z).1) ((agr x y z).2.1)).1), ((nar (p, q, false) ((agr x y z).1) ((agr x y z).2.1)).2.1), ((nar (p, q, false) ((agr x y z).1) ((agr x y z).2.1)).2.2)) t.lo t.hi).2.2), .int .i64 0, .int .i64 0]) rfl rfl rfl rfl rfl (by kernel_rfl) rfl (by simp [Value.oneCell']) ?_
    simp only [Act.put, List.set_cons_zero, List.set_cons_succ]
    refine wl_nil ?_
    refine we_then ?_
    refine wc_ret ?_
    refine we_ret_cell (own_row 2 rfl) rfl rfl rfl Try.underlying36 rfl (by kernel_rfl) (fun w1 hE => ?_)
    exact ⟨by rw [spd_1 h12, clean_0 h6, first_agr h8, slips_agr (u := x) h8, slips_agr (u := y) h8], hE.below⟩
 ·
  skip
  have p6 : ((nF x y z) : Int) = 3 := by first | (simp; done) | (simp at h6; done) | simpa using h6
  refine wl_val (.bool ((agr x y z).2.2)) rfl (fun _ => rfl) ?_
  simp only [Act.put, Xa, Xz, Xs]
  refine wl_val (.bool ((agr x y z).2.2)) rfl (fun _ => rfl) ?_
  simp only [Act.put, Xa, Xz, Xs]
  refine wl_val (.agg #[.int .i64 p, .int .i64 q, .int .i64 ((nF x y z) : Int), .bool ((agr x y z).2.2), .bool false, .int .i64 0, .int .i64 0]) rfl (fun _ => by go_simp) ?_
  simp only [Act.put, Xa, Xz, Xs]
  refine wl_new 36 (#[.int .i64 0, .int .i64 0, .int .i64 0, .bool false, .bool false, .int .i64 0, .int .i64 0]) rfl (fun _ => by go_simp) ?_
  intro g14
  simp only [Act.put, Xa, Xz, Xs]
  refine wl_store 0 36 (.tmp 12) (.tmp 31) (#[.int .i64 p, .int .i64 q, .int .i64 ((nF x y z) : Int), .bool ((agr x y z).2.2), .bool false, .int .i64 0, .int .i64 0]) rfl rfl rfl rfl rfl (by kernel_rfl) rfl (by simp [Value.oneCell']) ?_
  simp only [Act.put, List.set_cons_zero]
  refine wl_nil ?_
  refine we_then ?_
  refine wc_seq ?_
  refine wc_seq ?_
  refine wc_region ?_
  refine wl_val (.bool true) rfl (fun _ => rfl) ?_
  simp only [Act.put, Xa, Xz, Xs]
  refine wl_val (.bool true) rfl (fun _ => rfl) ?_
  simp only [Act.put, Xa, Xz, Xs]
  refine wl_val (.bool ((agr x y z).2.2)) rfl (fun _ => rfl) ?_
  simp only [Act.put, Xa, Xz, Xs]
  refine wl_val (.bool (!((agr x y z).2.2))) rfl (fun _ => by go_simp) ?_
  simp only [Act.put, Xa, Xz, Xs]
  refine wl_val (.bool (!((agr x y z).2.2))) rfl (fun _ => rfl) ?_
  simp only [Act.put, Xa, Xz, Xs]
  refine wl_nil ?_
  refine we_then ?_
  cases h15 : ((agr x y z).2.2)
  ·
   skip
   refine wc_true rfl ?_
   refine wc_seq ?_
   refine wc_region ?_
   refine wl_val (.slice s1.ptr (nF x y z) s1.cap) rfl (fun _ => rfl) ?_
   simp only [Act.put, Xa, Xz, Xs]
   refine wl_call_at 20 #[.slice s1.ptr (nF x y z) s1.cap] (.tuple #[.agg #[.int .i64 ((byZ (fitL x y z) 2).1), .int .i64 ((byZ (fitL x y z) 2).2.1)], .bool ((byZ (fitL x y z) 2).2.2)]) rfl (fun _ => by go_simp) (fun W hE => two_c x y z _ _ W ((sl_own [⟨g14, #[.int .i64 p, .int .i64 q, .int .i64 ((nF x y z) : Int), .bool false, .bool false, .int .i64 0, .int .i64 0], 36⟩, ⟨g5, #[.int .i64 ((agr x y z).1), .int .i64 ((agr x y z).2.1)], 23⟩, ⟨g4, #[.int .i64 0, .int .i64 0, .int .i64 0, .bool false, .bool false, .int .i64 0, .int .i64 0], 36⟩, ⟨g3, #[.bool t.f, .int .i64 t.lo, .int .i64 t.hi], 25⟩, ⟨g2, #[.bool x.f, .int .i64 x.lo, .int .i64 x.hi, .bool y.f, .int .i64 y.lo, .int .i64 y.hi, .bool z.f, .int .i64 z.lo, .int .i64 z.hi], 26⟩, ⟨g1, #[.int .i64 p, .int .i64 q], 23⟩] [] hs1 rfl) W hE)) ?_
   simp only [Act.put, Xa, Xz, Xs]
   refine wl_val (.tuple #[.agg #[.int .i64 ((byZ (fitL x y z) 2).1), .int .i64 ((byZ (fitL x y z) 2).2.1)], .bool ((byZ (fitL x y z) 2).2.2)]) rfl (fun _ => rfl) ?_
   simp only [Act.put, Xa, Xz, Xs]
   refine wl_val (.agg #[.int .i64 ((byZ (fitL x y z) 2).1), .int .i64 ((byZ (fitL x y z) 2).2.1)]) rfl (fun _ => by go_simp) ?_
   simp only [Act.put, Xa, Xz, Xs]
   refine wl_val (.bool ((byZ (fitL x y z) 2).2.2)) rfl (fun _ => by go_simp) ?_
   simp only [Act.put, Xa, Xz, Xs]
   refine wl_store 1 23 (.tmp 9) (.tmp 40) (#[.int .i64 ((byZ (fitL x y z) 2).1), .int .i64 ((byZ (fitL x y z) 2).2.1)]) rfl rfl rfl rfl rfl (by kernel_rfl) rfl (by simp [Value.oneCell']) ?_
   simp only [Act.put, List.set_cons_zero, List.set_cons_succ]
   refine wl_val (.bool ((byZ (fitL x y z) 2).2.2)) rfl (fun _ => rfl) ?_
   simp only [Act.put, Xa, Xz, Xs]
   refine wl_nil ?_
   refine we_then ?_
   refine wc_seq ?_
   refine wc_region ?_
   refine wl_val (.bool ((byZ (fitL x y z) 2).2.2)) rfl (fun _ => rfl) ?_
   simp only [Act.put, Xa, Xz, Xs]
   refine wl_nil ?_
   refine we_then ?_
   cases h16 : ((byZ (fitL x y z) 2).2.2)
   ·
    skip
    refine wc_false rfl ?_
    refine wc_skip ?_
    refine we_then ?_
    refine wc_seq ?_
    refine wc_seq ?_
    refine wc_region ?_
    refine wl_val (.bool false) rfl (fun _ => rfl) ?_
    simp only [Act.put, Xa, Xz, Xs]
    refine wl_nil ?_
    refine we_then ?_
    refine wc_false rfl ?_
    refine wc_region ?_
    refine wl_val (.slice s1.ptr (nF x y z) s1.cap) rfl (fun _ => rfl) ?_
    simp only [Act.put, Xa, Xz, Xs]
    refine wl_val (.int .i64 ((nF x y z) : Int)) rfl (fun w => er_len rfl rfl Try.underlying48 w) ?_
    simp only [Act.put, Xa, Xz, Xs]
    refine wl_val (.bool (decide (0 < ((nF x y z) : Int)))) rfl (fun w => run_cmp rfl rfl rfl Try.underlying3 rfl w) ?_
    simp only [Act.put, Xa, Xz, Xs]
    refine wl_val (.pointer (some ⟨g14, 4, none⟩)) rfl (fun _ => by go_simp) ?_
    simp only [Act.put, Xa, Xz, Xs]
    refine wl_store_cell 0 4 (.tmp 53) (.tmp 52) (.bool false) (.bool (decide (0 < ((nF x y z) : Int)))) rfl rfl rfl rfl rfl rfl (by kernel_rfl) rfl ?_
    simp only [Act.put, List.set_cons_zero]
    refine wl_nil ?_
    refine we_then ?_
    refine wc_seq ?_
    refine wc_seq ?_
    refine wc_region ?_
    refine wl_val (.pointer (some ⟨g3, 0, none⟩)) rfl (fun _ => by go_simp) ?_
    simp only [Act.put, Xa, Xz, Xs]
    refine wl_cell 4 (.tmp 54) (.bool t.f) (own_row 3 rfl) rfl rfl rfl rfl Try.isAgg4 ?_
    simp only [Act.put, Xa, Xz, Xs]
    refine wl_nil ?_
    refine we_then ?_
    cases h17 : (t.f)
    ·
     skip
     refine wc_false rfl ?_
     refine wc_skip ?_
     refine we_then ?_
     refine wc_seq ?_
     refine wc_region ?_
     refine wl_load 36 (.tmp 12) (own_row 0 rfl) rfl rfl rfl Try.underlying36 rfl (by kernel_rfl) ?_
     simp only [Act.put, Xa, Xz, Xs]
     refine wl_store 2 36 (.tmp 6) (.tmp 59) (#[.int .i64 p, .int .i64 q, .int .i64 ((nF x y z) : Int), .bool false, .bool (decide (0 < ((nF x y z) : Int))), .int .i64 0, .int .i64 0]) rfl rfl rfl rfl rfl (by kernel_rfl) rfl (by simp [Value.oneCell']) ?_
     simp only [Act.put, List.set_cons_zero, List.set_cons_succ]
     refine wl_nil ?_
     refine we_then ?_
     refine wc_ret ?_
     refine we_ret_cell (own_row 2 rfl) rfl rfl rfl Try.underlying36 rfl (by kernel_rfl) (fun w1 hE => ?_)
     exact ⟨by rw [spd_0 h17, clean_1 h6, first_no2 h15 h6 h16, slips_no2 (u := x) h15 h6 h16, slips_no2 (u := y) h15 h6 h16, h15], hE.below⟩
    ·
     skip
     refine wc_true rfl ?_
     refine wc_region ?_
     refine wl_val (.pointer (some ⟨g3, 1, none⟩)) rfl (fun _ => by go_simp) ?_
     simp only [Act.put, Xa, Xz, Xs]
     refine wl_part 23 (.tmp 56) [.int .i64 t.lo, .int .i64 t.hi] (own_row 3 rfl) rfl rfl rfl rfl Try.underlying23 rfl (by kernel_rfl) ?_
     simp only [Act.put, Xa, Xz, Xs]
     refine wl_call_row (ι := Unit) [] [⟨g5, #[.int .i64 ((byZ (fitL x y z) 2).1), .int .i64 ((byZ (fitL x y z) 2).2.1)], 23⟩, ⟨g4, #[.int .i64 0, .int .i64 0, .int .i64 0, .bool false, .bool false, .int .i64 0, .int .i64 0], 36⟩, ⟨g3, #[.bool true, .int .i64 t.lo, .int .i64 t.hi], 25⟩, ⟨g2, #[.bool x.f, .int .i64 x.lo, .int .i64 x.hi, .bool y.f, .int .i64 y.lo, .int .i64 y.hi, .bool z.f, .int .i64 z.lo, .int .i64 z.hi], 26⟩, ⟨g1, #[.int .i64 p, .int .i64 q], 23⟩] (s1.rows 23 ++ []) (⟨g5, #[.int .i64 ((byZ (fitL x y z) 2).1), .int .i64 ((byZ (fitL x y z) 2).2.1)], 23⟩ :: ⟨g4, #[.int .i64 0, .int .i64 0, .int .i64 0, .bool false, .bool false, .int .i64 0, .int .i64 0], 36⟩ :: ⟨g3, #[.bool true, .int .i64 t.lo, .int .i64 t.hi], 25⟩ :: ⟨g2, #[.bool x.f, .int .i64 x.lo, .int .i64 x.hi, .bool y.f, .int .i64 y.lo, .int .i64 y.hi, .bool z.f, .int .i64 z.lo, .int .i64 z.hi], 26⟩ :: ⟨g1, #[.int .i64 p, .int .i64 q], 23⟩ :: (s1.rows 23 ++ [])) ⟨g14, #[.int .i64 p, .int .i64 q, .int .i64 ((nF x y z) : Int), .bool false, .bool (decide (0 < ((nF x y z) : Int))), .int .i64 0, .int .i64 0], 36⟩ 22 #[.pointer (some ⟨g14, 0, none⟩), .agg #[.int .i64 t.lo, .int .i64 t.hi]] (fun (y18 : Unit) => .tuple #[]) (fun (y18 : Unit) => ⟨g14, #[.int .i64 ((nar (p, q, (decide (0 < ((nF x y z) : Int)))) t.lo t.hi).1), .int .i64 ((nar (p, q, (decide (0 < ((nF x y z) : Int)))) t.lo t.hi).2.1), .int .i64 ((nF x y z) : Int), .bool false, .bool ((nar (p, q, (decide (0 < ((nF x y z) : Int)))) t.lo t.hi).2.2), .int .i64 0, .int .i64 0], 36⟩) (fun (y18 : Unit) => []) (fun (y18 : Unit) => ⟨g14, #[.int .i64 ((nar (p, q, (decide (0 < ((nF x y z) : Int)))) t.lo t.hi).1), .int .i64 ((nar (p, q, (decide (0 < ((nF x y z) : Int)))) t.lo t.hi).2.1), .int .i64 ((nF x y z) : Int), .bool false, .bool ((nar (p, q, (decide (0 < ((nF x y z) : Int)))) t.lo t.hi).2.2), .int .i64 0, .int .i64 0], 36⟩ :: ⟨g5, #[.int .i64 ((byZ (fitL x y z) 2).1), .int .i64 ((byZ (fitL x y z) 2).2.1)], 23⟩ :: ⟨g4, #[.int .i64 0, .int .i64 0, .int .i64 0, .bool false, .bool false, .int .i64 0, .int .i64 0], 36⟩ :: ⟨g3, #[.bool true, .int .i64 t.lo, .int .i64 t.hi], 25⟩ :: ⟨g2, #[.bool x.f, .int .i64 x.lo, .int .i64 x.hi, .bool y.f, .int .i64 y.lo, .int .i64 y.hi, .bool z.f, .int .i64 z.lo, .int .i64 z.hi], 26⟩ :: ⟨g1, #[.int .i64 p, .int .i64 q], 23⟩ :: (s1.rows 23 ++ [])) (fun (y18 : Unit) => True) rfl rfl (fun _ => by first | rfl | simp) rfl (fun _ => by go_simp) (fun W hE => (narrow_in w (⟨g5, #[.int .i64 ((byZ (fitL x y z) 2).1), .int .i64 ((byZ (fitL x y z) 2).2.1)], 23⟩ :: ⟨g4, #[.int .i64 0, .int .i64 0, .int .i64 0, .bool false, .bool false, .int .i64 0, .int .i64 0], 36⟩ :: ⟨g3, #[.bool true, .int .i64 t.lo, .int .i64 t.hi], 25⟩ :: ⟨g2, #[.bool x.f, .int .i64 x.lo, .int .i64 x.hi, .bool y.f, .int .i64 y.lo, .int .i64 y.hi, .bool z.f, .int .i64 z.lo, .int .i64 z.hi], 26⟩ :: ⟨g1, #[.int .i64 p, .int .i64 q], 23⟩ :: (s1.rows 23 ++ [])) g14 p q ((nF x y z) : Int) 0 0 t.lo t.hi false (decide (0 < ((nF x y z) : Int))) W hE).mono (fun e w' h => ⟨(), trivial, h⟩)) ?_
     rintro y18 -
     skip
     simp only [Act.put, Xa, Xz, Xs]
     refine wl_nil ?_
     refine we_then ?_
     refine wc_seq ?_
     refine wc_region ?_
     refine wl_load 36 (.tmp 12) (own_row 0 rfl) rfl rfl rfl Try.underlying36 rfl (by kernel_rfl) ?_
     simp only [Act.put, Xa, Xz, Xs]
     refine wl_store 2 36 (.tmp 6) (.tmp 59) (#[.int .i64 ((nar (p, q, (decide (0 < ((nF x y z) : Int)))) t.lo t.hi).1), .int .i64 ((nar (p, q, (decide (0 < ((nF x y z) : Int)))) t.lo t.hi).2.1), .int .i64 ((nF x y z) : Int), .bool false, .bool ((nar (p, q, (decide (0 < ((nF x y z) : Int)))) t.lo t.hi).2.2), .int .i64 0, .int .i64 0]) rfl rfl rfl rfl rfl (by kernel_rfl) rfl (by simp [Value.oneCell']) ?_
     simp only [Act.put, List.set_cons_zero, List.set_cons_succ]
     refine wl_nil ?_
     refine we_then ?_
     refine wc_ret ?_
     refine we_ret_cell (own_row 2 rfl) rfl rfl rfl Try.underlying36 rfl (by kernel_rfl) (fun w1 hE => ?_)
     exact ⟨by rw [spd_1 h17, clean_1 h6, first_no2 h15 h6 h16, slips_no2 (u := x) h15 h6 h16, slips_no2 (u := y) h15 h6 h16, h15], hE.below⟩
   ·
    skip
    refine wc_true rfl ?_
    refine wc_region ?_
    refine wl_load 23 (.tmp 9) (own_row 1 rfl) rfl rfl rfl Try.underlying23 rfl (by kernel_rfl) ?_
    simp only [Act.put, Xa, Xz, Xs]
    refine wl_load 26 (.tmp 4) (own_row 4 rfl) rfl rfl rfl Try.underlying26 rfl (by kernel_rfl) ?_
    simp only [Act.put, Xa, Xz, Xs]
    refine wl_call 21 #[.agg #[.int .i64 ((byZ (fitL x y z) 2).1), .int .i64 ((byZ (fitL x y z) 2).2.1)], .agg #[.bool x.f, .int .i64 x.lo, .int .i64 x.hi, .bool y.f, .int .i64 y.lo, .int .i64 y.hi, .bool z.f, .int .i64 z.lo, .int .i64 z.hi]] (.agg #[.int .i64 (slip x (byZ (fitL x y z) 2)), .int .i64 (slip y (byZ (fitL x y z) 2))]) rfl (fun _ => by go_simp) (fun W => slips_any x y z (byZ (fitL x y z) 2) W (two_within gx gy gz h16).1 (two_within gx gy gz h16).2) ?_
    simp only [Act.put, Xa, Xz, Xs]
    refine wl_val (.pointer (some ⟨g14, 5, none⟩)) rfl (fun _ => by go_simp) ?_
    simp only [Act.put, Xa, Xz, Xs]
    refine wl_store_part 0 34 (.tmp 46) (.tmp 45) [.int .i64 (slip x (byZ (fitL x y z) 2)), .int .i64 (slip y (byZ (fitL x y z) 2))] rfl rfl rfl rfl rfl (by kernel_rfl) (Nat.le_of_ble_eq_true rfl) (by simp [Value.oneCell']) ?_
    simp only [putAt, Nat.reduceAdd, Act.put, List.set_cons_zero]
    refine wl_nil ?_
    refine we_then ?_
    refine wc_seq ?_
    refine wc_seq ?_
    refine wc_region ?_
    refine wl_val (.bool true) rfl (fun _ => rfl) ?_
    simp only [Act.put, Xa, Xz, Xs]
    refine wl_nil ?_
    refine we_then ?_
    refine wc_true rfl ?_
    refine wc_region ?_
    refine wl_load 23 (.tmp 9) (own_row 1 rfl) rfl rfl rfl Try.underlying23 rfl (by kernel_rfl) ?_
    simp only [Act.put, Xa, Xz, Xs]
    refine wl_call_row (ι := Unit) [] [⟨g5, #[.int .i64 ((byZ (fitL x y z) 2).1), .int .i64 ((byZ (fitL x y z) 2).2.1)], 23⟩, ⟨g4, #[.int .i64 0, .int .i64 0, .int .i64 0, .bool false, .bool false, .int .i64 0, .int .i64 0], 36⟩, ⟨g3, #[.bool t.f, .int .i64 t.lo, .int .i64 t.hi], 25⟩, ⟨g2, #[.bool x.f, .int .i64 x.lo, .int .i64 x.hi, .bool y.f, .int .i64 y.lo, .int .i64 y.hi, .bool z.f, .int .i64 z.lo, .int .i64 z.hi], 26⟩, ⟨g1, #[.int .i64 p, .int .i64 q], 23⟩] (s1.rows 23 ++ []) (⟨g5, #[.int .i64 ((byZ (fitL x y z) 2).1), .int .i64 ((byZ (fitL x y z) 2).2.1)], 23⟩ :: ⟨g4, #[.int .i64 0, .int .i64 0, .int .i64 0, .bool false, .bool false, .int .i64 0, .int .i64 0], 36⟩ :: ⟨g3, #[.bool t.f, .int .i64 t.lo, .int .i64 t.hi], 25⟩ :: ⟨g2, #[.bool x.f, .int .i64 x.lo, .int .i64 x.hi, .bool y.f, .int .i64 y.lo, .int .i64 y.hi, .bool z.f, .int .i64 z.lo, .int .i64 z.hi], 26⟩ :: ⟨g1, #[.int .i64 p, .int .i64 q], 23⟩ :: (s1.rows 23 ++ [])) ⟨g14, #[.int .i64 p, .int .i64 q, .int .i64 ((nF x y z) : Int), .bool false, .bool false, .int .i64 (slip x (byZ (fitL x y z) 2)), .int .i64 (slip y (byZ (fitL x y z) 2))], 36⟩ 22 #[.pointer (some ⟨g14, 0, none⟩), .agg #[.int .i64 ((byZ (fitL x y z) 2).1), .int .i64 ((byZ (fitL x y z) 2).2.1)]] (fun (y19 : Unit) => .tuple #[]) (fun (y19 : Unit) => ⟨g14, #[.int .i64 ((nar (p, q, false) ((byZ (fitL x y z) 2).1) ((byZ (fitL x y z) 2).2.1)).1), .int .i64 ((nar (p, q, false) ((byZ (fitL x y z) 2).1) ((byZ (fitL x y z) 2).2.1)).2.1), .int .i64 ((nF x y z) : Int), .bool false, .bool ((nar (p, q, false) ((byZ (fitL x y z) 2).1) ((byZ (fitL x y z) 2).2.1)).2.2), .int .i64 (slip x (byZ (fitL x y z) 2)), .int .i64 (slip y (byZ (fitL x y z) 2))], 36⟩) (fun (y19 : Unit) => []) (fun (y19 : Unit) => ⟨g14, #[.int .i64 ((nar (p, q, false) ((byZ (fitL x y z) 2).1) ((byZ (fitL x y z) 2).2.1)).1), .int .i64 ((nar (p, q, false) ((byZ (fitL x y z) 2).1) ((byZ (fitL x y z) 2).2.1)).2.1), .int .i64 ((nF x y z) : Int), .bool false, .bool ((nar (p, q, false) ((byZ (fitL x y z) 2).1) ((byZ (fitL x y z) 2).2.1)).2.2), .int .i64 (slip x (byZ (fitL x y z) 2)), .int .i64 (slip y (byZ (fitL x y z) 2))], 36⟩ :: ⟨g5, #[.int .i64 ((byZ (fitL x y z) 2).1), .int .i64 ((byZ (fitL x y z) 2).2.1)], 23⟩ :: ⟨g4, #[.int .i64 0, .int .i64 0, .int .i64 0, .bool false, .bool false, .int .i64 0, .int .i64 0], 36⟩ :: ⟨g3, #[.bool t.f, .int .i64 t.lo, .int .i64 t.hi], 25⟩ :: ⟨g2, #[.bool x.f, .int .i64 x.lo, .int .i64 x.hi, .bool y.f, .int .i64 y.lo, .int .i64 y.hi, .bool z.f, .int .i64 z.lo, .int .i64 z.hi], 26⟩ :: ⟨g1, #[.int .i64 p, .int .i64 q], 23⟩ :: (s1.rows 23 ++ [])) (fun (y19 : Unit) => True) rfl rfl (fun _ => by first | rfl | simp) rfl (fun _ => by go_simp) (fun W hE => (narrow_in w (⟨g5, #[.int .i64 ((byZ (fitL x y z) 2).1), .int .i64 ((byZ (fitL x y z) 2).2.1)], 23⟩ :: ⟨g4, #[.int .i64 0, .int .i64 0, .int .i64 0, .bool false, .bool false, .int .i64 0, .int .i64 0], 36⟩ :: ⟨g3, #[.bool t.f, .int .i64 t.lo, .int .i64 t.hi], 25⟩ :: ⟨g2, #[.bool x.f, .int .i64 x.lo, .int .i64 x.hi, .bool y.f, .int .i64 y.lo, .int .i64 y.hi, .bool z.f, .int .i64 z.lo, .int .i64 z.hi], 26⟩ :: ⟨g1, #[.int .i64 p, .int .i64 q], 23⟩ :: (s1.rows 23 ++ [])) g14 p q ((nF x y z) : Int) (slip x (byZ (fitL x y z) 2)) (slip y (byZ (fitL x y z) 2)) ((byZ (fitL x y z) 2).1) ((byZ (fitL x y z) 2).2.1) false false W hE).mono (fun e w' h => ⟨(), trivial, h⟩)) ?_
    rintro y19 -
    skip
    simp only [Act.put, Xa, Xz, Xs]
    refine wl_nil ?_
    refine we_then ?_
    refine wc_seq ?_
    refine wc_seq ?_
    refine wc_region ?_
    refine wl_val (.pointer (some ⟨g3, 0, none⟩)) rfl (fun _ => by go_simp) ?_
    simp only [Act.put, Xa, Xz, Xs]
    refine wl_cell 4 (.tmp 54) (.bool t.f) (own_row 3 rfl) rfl rfl rfl rfl Try.isAgg4 ?_
    simp only [Act.put, Xa, Xz, Xs]
    refine wl_nil ?_
    refine we_then ?_
    cases h20 : (t.f)
    ·
     skip
     refine wc_false rfl ?_
     refine wc_skip ?_
     refine we_then ?_
     refine wc_seq ?_
     refine wc_region ?_
     refine wl_load 36 (.tmp 12) (own_row 0 rfl) rfl rfl rfl Try.underlying36 rfl (by kernel_rfl) ?_
     simp only [Act.put, Xa, Xz, Xs]
     refine wl_store 2 36 (.tmp 6) (.tmp 59) (#[.int .i64 ((nar (p, q, false) ((byZ (fitL x y z) 2).1) ((byZ (fitL x y z) 2).2.1)).1), .int .i64 ((nar (p, q, false) ((byZ (fitL x y z) 2).1) ((byZ (fitL x y z) 2).2.1)).2.1), .int .i64 ((nF x y z) : Int), .bool false, .bool ((nar (p, q, false) ((byZ (fitL x y z) 2).1) ((byZ (fitL x y z) 2).2.1)).2.2), .int .i64 (slip x (byZ (fitL x y z) 2)), .int .i64 (slip y (byZ (fitL x y z) 2))]) rfl rfl rfl rfl rfl (by kernel_rfl) rfl (by simp [Value.oneCell']) ?_
     simp only [Act.put, List.set_cons_zero, List.set_cons_succ]
     refine wl_nil ?_
     refine we_then ?_
     refine wc_ret ?_
     refine we_ret_cell (own_row 2 rfl) rfl rfl rfl Try.underlying36 rfl (by kernel_rfl) (fun w1 hE => ?_)
     exact ⟨by rw [spd_0 h20, clean_1 h6, first_two h15 h6 h16, slips_two (u := x) h15 h6 h16, slips_two (u := y) h15 h6 h16, h15], hE.below⟩
    ·
     skip
     refine wc_true rfl ?_
     refine wc_region ?_
     refine wl_val (.pointer (some ⟨g3, 1, none⟩)) rfl (fun _ => by go_simp) ?_
     simp only [Act.put, Xa, Xz, Xs]
     refine wl_part 23 (.tmp 56) [.int .i64 t.lo, .int .i64 t.hi] (own_row 3 rfl) rfl rfl rfl rfl Try.underlying23 rfl (by kernel_rfl) ?_
     simp only [Act.put, Xa, Xz, Xs]
     refine wl_call_row (ι := Unit) [] [⟨g5, #[.int .i64 ((byZ (fitL x y z) 2).1), .int .i64 ((byZ (fitL x y z) 2).2.1)], 23⟩, ⟨g4, #[.int .i64 0, .int .i64 0, .int .i64 0, .bool false, .bool false, .int .i64 0, .int .i64 0], 36⟩, ⟨g3, #[.bool true, .int .i64 t.lo, .int .i64 t.hi], 25⟩, ⟨g2, #[.bool x.f, .int .i64 x.lo, .int .i64 x.hi, .bool y.f, .int .i64 y.lo, .int .i64 y.hi, .bool z.f, .int .i64 z.lo, .int .i64 z.hi], 26⟩, ⟨g1, #[.int .i64 p, .int .i64 q], 23⟩] (s1.rows 23 ++ []) (⟨g5, #[.int .i64 ((byZ (fitL x y z) 2).1), .int .i64 ((byZ (fitL x y z) 2).2.1)], 23⟩ :: ⟨g4, #[.int .i64 0, .int .i64 0, .int .i64 0, .bool false, .bool false, .int .i64 0, .int .i64 0], 36⟩ :: ⟨g3, #[.bool true, .int .i64 t.lo, .int .i64 t.hi], 25⟩ :: ⟨g2, #[.bool x.f, .int .i64 x.lo, .int .i64 x.hi, .bool y.f, .int .i64 y.lo, .int .i64 y.hi, .bool z.f, .int .i64 z.lo, .int .i64 z.hi], 26⟩ :: ⟨g1, #[.int .i64 p, .int .i64 q], 23⟩ :: (s1.rows 23 ++ [])) ⟨g14, #[.int .i64 ((nar (p, q, false) ((byZ (fitL x y z) 2).1) ((byZ (fitL x y z) 2).2.1)).1), .int .i64 ((nar (p, q, false) ((byZ (fitL x y z) 2).1) ((byZ (fitL x y z) 2).2.1)).2.1), .int .i64 ((nF x y z) : Int), .bool false, .bool ((nar (p, q, false) ((byZ (fitL x y z) 2).1) ((byZ (fitL x y z) 2).2.1)).2.2), .int .i64 (slip x (byZ (fitL x y z) 2)), .int .i64 (slip y (byZ (fitL x y z) 2))], 36⟩ 22 #[.pointer (some ⟨g14, 0, none⟩), .agg #[.int .i64 t.lo, .int .i64 t.hi]] (fun (y21 : Unit) => .tuple #[]) (fun (y21 : Unit) => ⟨g14, #[.int .i64 ((nar (((nar (p, q, false) ((byZ (fitL x y z) 2).1) ((byZ (fitL x y z) 2).2.1)).1), ((nar (p, q, false) ((byZ (fitL x y z) 2).1) ((byZ (fitL x y z) 2).2.1)).2.1), ((nar (p, q, false) ((byZ (fitL x y z) 2).1) ((byZ (fitL x y z) 2).2.1)).2.2)) t.lo t.hi).1), .int .i64 ((nar (((nar (p, q, false) ((byZ (fitL x y z) 2).1) ((byZ (fitL x y z) 2).2.1)).1), ((nar (p, q, false) ((byZ (fitL x y z) 2).1) ((byZ (fitL x y z) 2).2.1)).2.1), ((nar (p, q, false) ((byZ (fitL x y z) 2).1) ((byZ (fitL x y z) 2).2.1)).2.2)) t.lo t.hi).2.1), .int .i64 ((nF x y z) : Int), .bool false, .bool ((nar (((nar (p, q, false) ((byZ (fitL x y z) 2).1) ((byZ (fitL x y z) 2).2.1)).1), ((nar (p, q, false) ((byZ (fitL x y z) 2).1) ((byZ (fitL x y z) 2).2.1)).2.1), ((nar (p, q, false) ((byZ (fitL x y z) 2).1) ((byZ (fitL x y z) 2).2.1)).2.2)) t.lo t.hi).2.2), .int .i64 (slip x (byZ (fitL x y z) 2)), .int .i64 (slip y (byZ (fitL x y z) 2))], 36⟩) (fun (y21 : Unit) => []) (fun (y21 : Unit) => ⟨g14, #[.int .i64 ((nar (((nar (p, q, false) ((byZ (fitL x y z) 2).1) ((byZ (fitL x y z) 2).2.1)).1), ((nar (p, q, false) ((byZ (fitL x y z) 2).1) ((byZ (fitL x y z) 2).2.1)).2.1), ((nar (p, q, false) ((byZ (fitL x y z) 2).1) ((byZ (fitL x y z) 2).2.1)).2.2)) t.lo t.hi).1), .int .i64 ((nar (((nar (p, q, false) ((byZ (fitL x y z) 2).1) ((byZ (fitL x y z) 2).2.1)).1), ((nar (p, q, false) ((byZ (fitL x y z) 2).1) ((byZ (fitL x y z) 2).2.1)).2.1), ((nar (p, q, false) ((byZ (fitL x y z) 2).1) ((byZ (fitL x y z) 2).2.1)).2.2)) t.lo t.hi).2.1), .int .i64 ((nF x y z) : Int), .bool false, .bool ((nar (((nar (p, q, false) ((byZ (fitL x y z) 2).1) ((byZ (fitL x y z) 2).2.1)).1), ((nar (p, q, false) ((byZ (fitL x y z) 2).1) ((byZ (fitL x y z) 2).2.1)).2.1), ((nar (p, q, false) ((byZ (fitL x y z) 2).1) ((byZ (fitL x y z) 2).2.1)).2.2)) t.lo t.hi).2.2), .int .i64 (slip x (byZ (fitL x y z) 2)), .int .i64 (slip y (byZ (fitL x y z) 2))], 36⟩ :: ⟨g5, #[.int .i64 ((byZ (fitL x y z) 2).1), .int .i64 ((byZ (fitL x y z) 2).2.1)], 23⟩ :: ⟨g4, #[.int .i64 0, .int .i64 0, .int .i64 0, .bool false, .bool false, .int .i64 0, .int .i64 0], 36⟩ :: ⟨g3, #[.bool true, .int .i64 t.lo, .int .i64 t.hi], 25⟩ :: ⟨g2, #[.bool x.f, .int .i64 x.lo, .int .i64 x.hi, .bool y.f, .int .i64 y.lo, .int .i64 y.hi, .bool z.f, .int .i64 z.lo, .int .i64 z.hi], 26⟩ :: ⟨g1, #[.int .i64 p, .int .i64 q], 23⟩ :: (s1.rows 23 ++ [])) (fun (y21 : Unit) => True) rfl rfl (fun _ => by first | rfl | simp) rfl (fun _ => by go_simp) (fun W hE => (narrow_in w (⟨g5, #[.int .i64 ((byZ (fitL x y z) 2).1), .int .i64 ((byZ (fitL x y z) 2).2.1)], 23⟩ :: ⟨g4, #[.int .i64 0, .int .i64 0, .int .i64 0, .bool false, .bool false, .int .i64 0, .int .i64 0], 36⟩ :: ⟨g3, #[.bool true, .int .i64 t.lo, .int .i64 t.hi], 25⟩ :: ⟨g2, #[.bool x.f, .int .i64 x.lo, .int .i64 x.hi, .bool y.f, .int .i64 y.lo, .int .i64 y.hi, .bool z.f, .int .i64 z.lo, .int .i64 z.hi], 26⟩ :: ⟨g1, #[.int .i64 p, .int .i64 q], 23⟩ :: (s1.rows 23 ++ [])) g14 ((nar (p, q, false) ((byZ (fitL x y z) 2).1) ((byZ (fitL x y z) 2).2.1)).1) ((nar (p, q, false) ((byZ (fitL x y z) 2).1) ((byZ (fitL x y z) 2).2.1)).2.1) ((nF x y z) : Int) (slip x (byZ (fitL x y z) 2)) (slip y (byZ (fitL x y z) 2)) t.lo t.hi false ((nar (p, q, false) ((byZ (fitL x y z) 2).1) ((byZ (fitL x y z) 2).2.1)).2.2) W hE).mono (fun e w' h => ⟨(), trivial, h⟩)) ?_
     rintro y21 -
     skip
     simp only [Act.put, Xa, Xz, Xs]
     refine wl_nil ?_
     refine we_then ?_
     refine wc_seq ?_
     refine wc_region ?_
     refine wl_load 36 (.tmp 12) (own_row 0 rfl) rfl rfl rfl Try.underlying36 rfl (by kernel_rfl) ?_
     simp only [Act.put, Xa, Xz, Xs]
     refine wl_store 2 36 (.tmp 6) (.tmp 59) (#[.int .i64 ((nar (((nar (p, q, false) ((byZ (fitL x y z) 2).1) ((byZ (fitL x y z) 2).2.1)).1), ((nar (p, q, false) ((byZ (fitL x y z) 2).1) ((byZ (fitL x y z) 2).2.1)).2.1), ((nar (p, q, false) ((byZ (fitL x y z) 2).1) ((byZ (fitL x y z) 2).2.1)).2.2)) t.lo t.hi).1), .int .i64 ((nar (((nar (p, q, false) ((byZ (fitL x y z) 2).1) ((byZ (fitL x y z) 2).2.1)).1), ((nar (p, q, false) ((byZ (fitL x y z) 2).1) ((byZ (fitL x y z) 2).2.1)).2.1), ((nar (p, q, false) ((byZ (fitL x y z) 2).1) ((byZ (fitL x y z) 2).2.1)).2.2)) t.lo t.hi).2.1), .int .i64 ((nF x y z) : Int), .bool false, .bool ((nar (((nar (p, q, false) ((byZ (fitL x y z) 2).1) ((byZ (fitL x y z) 2).2.1)).1), ((nar (p, q, false) ((byZ (fitL x y z) 2).1) ((byZ (fitL x y z) 2).2.1)).2.1), ((nar (p, q, false) ((byZ (fitL x y z) 2).1) ((byZ (fitL x y z) 2).2.1)).2.2)) t.lo t.hi).2.2), .int .i64 (slip x (byZ (fitL x y z) 2)), .int .i64 (slip y (byZ (fitL x y z) 2))]) rfl rfl rfl rfl rfl (by kernel_rfl) rfl (by simp [Value.oneCell']) ?_
     simp only [Act.put, List.set_cons_zero, List.set_cons_succ]
     refine wl_nil ?_
     refine we_then ?_
     refine wc_ret ?_
     refine we_ret_cell (own_row 2 rfl) rfl rfl rfl Try.underlying36 rfl (by kernel_rfl) (fun w1 hE => ?_)
     exact ⟨by rw [spd_1 h20, clean_1 h6, first_two h15 h6 h16, slips_two (u := x) h15 h6 h16, slips_two (u := y) h15 h6 h16, h15], hE.below⟩
  ·
   skip
   refine wc_false rfl ?_
   refine wc_skip ?_
   refine we_then ?_
   refine wc_seq ?_
   refine wc_seq ?_
   refine wc_region ?_
   refine wl_val (.bool true) rfl (fun _ => rfl) ?_
   simp only [Act.put, Xa, Xz, Xs]
   refine wl_nil ?_
   refine we_then ?_
   refine wc_true rfl ?_
   refine wc_region ?_
   refine wl_load 23 (.tmp 9) (own_row 1 rfl) rfl rfl rfl Try.underlying23 rfl (by kernel_rfl) ?_
   simp only [Act.put, Xa, Xz, Xs]
   refine wl_call_row (ι := Unit) [] [⟨g5, #[.int .i64 ((agr x y z).1), .int .i64 ((agr x y z).2.1)], 23⟩, ⟨g4, #[.int .i64 0, .int .i64 0, .int .i64 0, .bool false, .bool false, .int .i64 0, .int .i64 0], 36⟩, ⟨g3, #[.bool t.f, .int .i64 t.lo, .int .i64 t.hi], 25⟩, ⟨g2, #[.bool x.f, .int .i64 x.lo, .int .i64 x.hi, .bool y.f, .int .i64 y.lo, .int .i64 y.hi, .bool z.f, .int .i64 z.lo, .int .i64 z.hi], 26⟩, ⟨g1, #[.int .i64 p, .int .i64 q], 23⟩] (s1.rows 23 ++ []) (⟨g5, #[.int .i64 ((agr x y z).1), .int .i64 ((agr x y z).2.1)], 23⟩ :: ⟨g4, #[.int .i64 0, .int .i64 0, .int .i64 0, .bool false, .bool false, .int .i64 0, .int .i64 0], 36⟩ :: ⟨g3, #[.bool t.f, .int .i64 t.lo, .int .i64 t.hi], 25⟩ :: ⟨g2, #[.bool x.f, .int .i64 x.lo, .int .i64 x.hi, .bool y.f, .int .i64 y.lo, .int .i64 y.hi, .bool z.f, .int .i64 z.lo, .int .i64 z.hi], 26⟩ :: ⟨g1, #[.int .i64 p, .int .i64 q], 23⟩ :: (s1.rows 23 ++ [])) ⟨g14, #[.int .i64 p, .int .i64 q, .int .i64 ((nF x y z) : Int), .bool true, .bool false, .int .i64 0, .int .i64 0], 36⟩ 22 #[.pointer (some ⟨g14, 0, none⟩), .agg #[.int .i64 ((agr x y z).1), .int .i64 ((agr x y z).2.1)]] (fun (y22 : Unit) => .tuple #[]) (fun (y22 : Unit) => ⟨g14, #[.int .i64 ((nar (p, q, false) ((agr x y z).1) ((agr x y z).2.1)).1), .int .i64 ((nar (p, q, false) ((agr x y z).1) ((agr x y z).2.1)).2.1), .int .i64 ((nF x y z) : Int), .bool true, .bool ((nar (p, q, false) ((agr x y z).1) ((agr x y z).2.1)).2.2), .int .i64 0, .int .i64 0], 36⟩) (fun (y22 : Unit) => []) (fun (y22 : Unit) => ⟨g14, #[.int .i64 ((nar (p, q, false) ((agr x y z).1) ((agr x y z).2.1)).1), .int .i64 ((nar (p, q, false) ((agr x y z).1) ((agr x y z).2.1)).2.1), .int .i64 ((nF x y z) : Int), .bool true, .bool ((nar (p, q, false) ((agr x y z).1) ((agr x y z).2.1)).2.2), .int .i64 0, .int .i64 0], 36⟩ :: ⟨g5, #[.int .i64 ((agr x y z).1), .int .i64 ((agr x y z).2.1)], 23⟩ :: ⟨g4, #[.int .i64 0, .int .i64 0, .int .i64 0, .bool false, .bool false, .int .i64 0, .int .i64 0], 36⟩ :: ⟨g3, #[.bool t.f, .int .i64 t.lo, .int .i64 t.hi], 25⟩ :: ⟨g2, #[.bool x.f, .int .i64 x.lo, .int .i64 x.hi, .bool y.f, .int .i64 y.lo, .int .i64 y.hi, .bool z.f, .int .i64 z.lo, .int .i64 z.hi], 26⟩ :: ⟨g1, #[.int .i64 p, .int .i64 q], 23⟩ :: (s1.rows 23 ++ [])) (fun (y22 : Unit) => True) rfl rfl (fun _ => by first | rfl | simp) rfl (fun _ => by go_simp) (fun W hE => (narrow_in w (⟨g5, #[.int .i64 ((agr x y z).1), .int .i64 ((agr x y z).2.1)], 23⟩ :: ⟨g4, #[.int .i64 0, .int .i64 0, .int .i64 0, .bool false, .bool false, .int .i64 0, .int .i64 0], 36⟩ :: ⟨g3, #[.bool t.f, .int .i64 t.lo, .int .i64 t.hi], 25⟩ :: ⟨g2, #[.bool x.f, .int .i64 x.lo, .int .i64 x.hi, .bool y.f, .int .i64 y.lo, .int .i64 y.hi, .bool z.f, .int .i64 z.lo, .int .i64 z.hi], 26⟩ :: ⟨g1, #[.int .i64 p, .int .i64 q], 23⟩ :: (s1.rows 23 ++ [])) g14 p q ((nF x y z) : Int) 0 0 ((agr x y z).1) ((agr x y z).2.1) true false W hE).mono (fun e w' h => ⟨(), trivial, h⟩)) ?_
   rintro y22 -
   skip
   simp only [Act.put, Xa, Xz, Xs]
   refine wl_nil ?_
   refine we_then ?_
   refine wc_seq ?_
   refine wc_seq ?_
   refine wc_region ?_
   refine wl_val (.pointer (some ⟨g3, 0, none⟩)) rfl (fun _ => by go_simp) ?_
   simp only [Act.put, Xa, Xz, Xs]
   refine wl_cell 4 (.tmp 54) (.bool t.f) (own_row 3 rfl) rfl rfl rfl rfl Try.isAgg4 ?_
   simp only [Act.put, Xa, Xz, Xs]
   refine wl_nil ?_
   refine we_then ?_
   cases h23 : (t.f)
   ·
    skip
    refine wc_false rfl ?_
    refine wc_skip ?_
    refine we_then ?_
    refine wc_seq ?_
    refine wc_region ?_
    refine wl_load 36 (.tmp 12) (own_row 0 rfl) rfl rfl rfl Try.underlying36 rfl (by kernel_rfl) ?_
    simp only [Act.put, Xa, Xz, Xs]
    refine wl_store 2 36 (.tmp 6) (.tmp 59) (#[.int .i64 ((nar (p, q, false) ((agr x y z).1) ((agr x y z).2.1)).1), .int .i64 ((nar (p, q, false) ((agr x y z).1) ((agr x y z).2.1)).2.1), .int .i64 ((nF x y z) : Int), .bool true, .bool ((nar (p, q, false) ((agr x y z).1) ((agr x y z).2.1)).2.2), .int .i64 0, .int .i64 0]) rfl rfl rfl rfl rfl (by kernel_rfl) rfl (by simp [Value.oneCell']) ?_
    simp only [Act.put, List.set_cons_zero, List.set_cons_succ]
    refine wl_nil ?_
    refine we_then ?_
    refine wc_ret ?_
    refine we_ret_cell (own_row 2 rfl) rfl rfl rfl Try.underlying36 rfl (by kernel_rfl) (fun w1 hE => ?_)
    exact ⟨by rw [spd_0 h23, clean_1 h6, first_agr h15, slips_agr (u := x) h15, slips_agr (u := y) h15, h15], hE.below⟩
   ·
    skip
    refine wc_true rfl ?_
    refine wc_region ?_
    refine wl_val (.pointer (some ⟨g3, 1, none⟩)) rfl (fun _ => by go_simp) ?_
    simp only [Act.put, Xa, Xz, Xs]
    refine wl_part 23 (.tmp 56) [.int .i64 t.lo, .int .i64 t.hi] (own_row 3 rfl) rfl rfl rfl rfl Try.underlying23 rfl (by kernel_rfl) ?_
    simp only [Act.put, Xa, Xz, Xs]
    refine wl_call_row (ι := Unit) [] [⟨g5, #[.int .i64 ((agr x y z).1), .int .i64 ((agr x y z).2.1)], 23⟩, ⟨g4, #[.int .i64 0, .int .i64 0, .int .i64 0, .bool false, .bool false, .int .i64 0, .int .i64 0], 36⟩, ⟨g3, #[.bool true, .int .i64 t.lo, .int .i64 t.hi], 25⟩, ⟨g2, #[.bool x.f, .int .i64 x.lo, .int .i64 x.hi, .bool y.f, .int .i64 y.lo, .int .i64 y.hi, .bool z.f, .int .i64 z.lo, .int .i64 z.hi], 26⟩, ⟨g1, #[.int .i64 p, .int .i64 q], 23⟩] (s1.rows 23 ++ []) (⟨g5, #[.int .i64 ((agr x y z).1), .int .i64 ((agr x y z).2.1)], 23⟩ :: ⟨g4, #[.int .i64 0, .int .i64 0, .int .i64 0, .bool false, .bool false, .int .i64 0, .int .i64 0], 36⟩ :: ⟨g3, #[.bool true, .int .i64 t.lo, .int .i64 t.hi], 25⟩ :: ⟨g2, #[.bool x.f, .int .i64 x.lo, .int .i64 x.hi, .bool y.f, .int .i64 y.lo, .int .i64 y.hi, .bool z.f, .int .i64 z.lo, .int .i64 z.hi], 26⟩ :: ⟨g1, #[.int .i64 p, .int .i64 q], 23⟩ :: (s1.rows 23 ++ [])) ⟨g14, #[.int .i64 ((nar (p, q, false) ((agr x y z).1) ((agr x y z).2.1)).1), .int .i64 ((nar (p, q, false) ((agr x y z).1) ((agr x y z).2.1)).2.1), .int .i64 ((nF x y z) : Int), .bool true, .bool ((nar (p, q, false) ((agr x y z).1) ((agr x y z).2.1)).2.2), .int .i64 0, .int .i64 0], 36⟩ 22 #[.pointer (some ⟨g14, 0, none⟩), .agg #[.int .i64 t.lo, .int .i64 t.hi]] (fun (y24 : Unit) => .tuple #[]) (fun (y24 : Unit) => ⟨g14, #[.int .i64 ((nar (((nar (p, q, false) ((agr x y z).1) ((agr x y z).2.1)).1), ((nar (p, q, false) ((agr x y z).1) ((agr x y z).2.1)).2.1), ((nar (p, q, false) ((agr x y z).1) ((agr x y z).2.1)).2.2)) t.lo t.hi).1), .int .i64 ((nar (((nar (p, q, false) ((agr x y z).1) ((agr x y z).2.1)).1), ((nar (p, q, false) ((agr x y z).1) ((agr x y z).2.1)).2.1), ((nar (p, q, false) ((agr x y z).1) ((agr x y z).2.1)).2.2)) t.lo t.hi).2.1), .int .i64 ((nF x y z) : Int), .bool true, .bool ((nar (((nar (p, q, false) ((agr x y z).1) ((agr x y z).2.1)).1), ((nar (p, q, false) ((agr x y z).1) ((agr x y z).2.1)).2.1), ((nar (p, q, false) ((agr x y z).1) ((agr x y z).2.1)).2.2)) t.lo t.hi).2.2), .int .i64 0, .int .i64 0], 36⟩) (fun (y24 : Unit) => []) (fun (y24 : Unit) => ⟨g14, #[.int .i64 ((nar (((nar (p, q, false) ((agr x y z).1) ((agr x y z).2.1)).1), ((nar (p, q, false) ((agr x y z).1) ((agr x y z).2.1)).2.1), ((nar (p, q, false) ((agr x y z).1) ((agr x y z).2.1)).2.2)) t.lo t.hi).1), .int .i64 ((nar (((nar (p, q, false) ((agr x y z).1) ((agr x y z).2.1)).1), ((nar (p, q, false) ((agr x y z).1) ((agr x y z).2.1)).2.1), ((nar (p, q, false) ((agr x y z).1) ((agr x y z).2.1)).2.2)) t.lo t.hi).2.1), .int .i64 ((nF x y z) : Int), .bool true, .bool ((nar (((nar (p, q, false) ((agr x y z).1) ((agr x y z).2.1)).1), ((nar (p, q, false) ((agr x y z).1) ((agr x y z).2.1)).2.1), ((nar (p, q, false) ((agr x y z).1) ((agr x y z).2.1)).2.2)) t.lo t.hi).2.2), .int .i64 0, .int .i64 0], 36⟩ :: ⟨g5, #[.int .i64 ((agr x y z).1), .int .i64 ((agr x y z).2.1)], 23⟩ :: ⟨g4, #[.int .i64 0, .int .i64 0, .int .i64 0, .bool false, .bool false, .int .i64 0, .int .i64 0], 36⟩ :: ⟨g3, #[.bool true, .int .i64 t.lo, .int .i64 t.hi], 25⟩ :: ⟨g2, #[.bool x.f, .int .i64 x.lo, .int .i64 x.hi, .bool y.f, .int .i64 y.lo, .int .i64 y.hi, .bool z.f, .int .i64 z.lo, .int .i64 z.hi], 26⟩ :: ⟨g1, #[.int .i64 p, .int .i64 q], 23⟩ :: (s1.rows 23 ++ [])) (fun (y24 : Unit) => True) rfl rfl (fun _ => by first | rfl | simp) rfl (fun _ => by go_simp) (fun W hE => (narrow_in w (⟨g5, #[.int .i64 ((agr x y z).1), .int .i64 ((agr x y z).2.1)], 23⟩ :: ⟨g4, #[.int .i64 0, .int .i64 0, .int .i64 0, .bool false, .bool false, .int .i64 0, .int .i64 0], 36⟩ :: ⟨g3, #[.bool true, .int .i64 t.lo, .int .i64 t.hi], 25⟩ :: ⟨g2, #[.bool x.f, .int .i64 x.lo, .int .i64 x.hi, .bool y.f, .int .i64 y.lo, .int .i64 y.hi, .bool z.f, .int .i64 z.lo, .int .i64 z.hi], 26⟩ :: ⟨g1, #[.int .i64 p, .int .i64 q], 23⟩ :: (s1.rows 23 ++ [])) g14 ((nar (p, q, false) ((agr x y z).1) ((agr x y z).2.1)).1) ((nar (p, q, false) ((agr x y z).1) ((agr x y z).2.1)).2.1) ((nF x y z) : Int) 0 0 t.lo t.hi true ((nar (p, q, false) ((agr x y z).1) ((agr x y z).2.1)).2.2) W hE).mono (fun e w' h => ⟨(), trivial, h⟩)) ?_
    rintro y24 -
    skip
    simp only [Act.put, Xa, Xz, Xs]
    refine wl_nil ?_
    refine we_then ?_
    refine wc_seq ?_
    refine wc_region ?_
    refine wl_load 36 (.tmp 12) (own_row 0 rfl) rfl rfl rfl Try.underlying36 rfl (by kernel_rfl) ?_
    simp only [Act.put, Xa, Xz, Xs]
    refine wl_store 2 36 (.tmp 6) (.tmp 59) (#[.int .i64 ((nar (((nar (p, q, false) ((agr x y z).1) ((agr x y z).2.1)).1), ((nar (p, q, false) ((agr x y z).1) ((agr x y z).2.1)).2.1), ((nar (p, q, false) ((agr x y z).1) ((agr x y z).2.1)).2.2)) t.lo t.hi).1), .int .i64 ((nar (((nar (p, q, false) ((agr x y z).1) ((agr x y z).2.1)).1), ((nar (p, q, false) ((agr x y z).1) ((agr x y z).2.1)).2.1), ((nar (p, q, false) ((agr x y z).1) ((agr x y z).2.1)).2.2)) t.lo t.hi).2.1), .int .i64 ((nF x y z) : Int), .bool true, .bool ((nar (((nar (p, q, false) ((agr x y z).1) ((agr x y z).2.1)).1), ((nar (p, q, false) ((agr x y z).1) ((agr x y z).2.1)).2.1), ((nar (p, q, false) ((agr x y z).1) ((agr x y z).2.1)).2.2)) t.lo t.hi).2.2), .int .i64 0, .int .i64 0]) rfl rfl rfl rfl rfl (by kernel_rfl) rfl (by simp [Value.oneCell']) ?_
    simp only [Act.put, List.set_cons_zero, List.set_cons_succ]
    refine wl_nil ?_
    refine we_then ?_
    refine wc_ret ?_
    refine we_ret_cell (own_row 2 rfl) rfl rfl rfl Try.underlying36 rfl (by kernel_rfl) (fun w1 hE => ?_)
    exact ⟨by rw [spd_1 h23, clean_1 h6, first_agr h15, slips_agr (u := x) h15, slips_agr (u := y) h15, h15], hE.below⟩
end Go.Proofs.Ytlfienfjdjfcoaa.Fzz
