/-
  Package vote: the copy of some spans in order of their Lo. Condition: at most a million spans.
-/
import Derived.Test.YtlfienfjdjfcoaaSort
namespace Go.Proofs.Ytlfienfjdjfcoaa.Vlo
open Go.ChangeShapes Go.WideShapes Go.ChangeAt Go.RowKit
open Arr Steady Sx Sw Sl Spn Vs Srt
set_option linter.unusedVariables false
set_option maxRecDepth 100000

set_option maxHeartbeats 2000000 in
theorem clone_none (c : Nat) (w : World) :
    Calls Try.prog 35 #[.slice none 0 c] w fun e w' => ∃ s : Own, s.Has 2 0 [] ∧ e = .returned (s.val 0) ∧ Env w w' (s.rows 23) := by
  refine calls_sx Try.func35 rfl ?_
  simp only [Try.ntmps35, List.size_toArray, List.length_cons, List.length_nil, Nat.reduceAdd, Nat.reduceSub, Array.replicate_succ, Array.replicate_zero, List.push_toArray, List.append_toArray, List.nil_append, List.cons_append]
  refine wc_seq ?_
  refine wc_region ?_
  refine wl_val (.slice none 0 0) rfl (fun _ => rfl) ?_
  simp only [Act.put, Xa, Xz, Xs]
  refine wl_nil ?_
  refine we_then ?_
  refine wc_seq ?_
  refine wc_seq ?_
  refine wc_region ?_
  refine wl_val (.slice none 0 c) rfl (fun _ => rfl) ?_
  simp only [Act.put, Xa, Xz, Xs]
  refine wl_val (.bool true) rfl (fun w => er_nil (b := true) rfl rfl rfl (fun _ => by go_simp) Try.underlying48 rfl w) ?_
  simp only [Act.put, Xa, Xz, Xs]
  refine wl_nil ?_
  refine we_then ?_
  refine wc_true rfl ?_
  refine wc_seq ?_
  refine wc_region ?_
  refine wl_val (.slice none 0 0) rfl (fun _ => rfl) ?_
  simp only [Act.put, Xa, Xz, Xs]
  refine wl_nil ?_
  refine we_then ?_
  refine wc_ret ?_
  refine we_then_ret ?_
  refine we_ret1 (.slice none 0 0) rfl rfl rfl (fun w1 hE => ?_)
  exact ⟨Own.none, Own.has_none 2, rfl, hE.sub (List.nil_sublist _)⟩
set_option maxHeartbeats 2000000 in
theorem clone_some (L : Spans) (q : Addr) (c : Nat) (w : World) (hL : Reads w (some q) (flat enc2 L)) (hn : L.length ≤ 1000000) :
    Calls Try.prog 35 #[.slice (some q) L.length c] w fun e w' => ∃ s : Own, s.Has 2 L.length (flat enc2 L) ∧ e = .returned (s.val L.length) ∧ Env w w' (s.rows 23) := by
  refine calls_sx Try.func35 rfl ?_
  simp only [Try.ntmps35, List.size_toArray, List.length_cons, List.length_nil, Nat.reduceAdd, Nat.reduceSub, Array.replicate_succ, Array.replicate_zero, List.push_toArray, List.append_toArray, List.nil_append, List.cons_append]
  refine wc_seq ?_
  refine wc_region ?_
  refine wl_val (.slice none 0 0) rfl (fun _ => rfl) ?_
  simp only [Act.put, Xa, Xz, Xs]
  refine wl_nil ?_
  refine we_then ?_
  refine wc_seq ?_
  refine wc_seq ?_
  refine wc_region ?_
  refine wl_val (.slice (some q) L.length c) rfl (fun _ => rfl) ?_
  simp only [Act.put, Xa, Xz, Xs]
  refine wl_val (.bool false) rfl (fun w => er_nil (b := false) rfl rfl rfl (fun _ => by go_simp) Try.underlying48 rfl w) ?_
  simp only [Act.put, Xa, Xz, Xs]
  refine wl_nil ?_
  refine we_then ?_
  refine wc_false rfl ?_
  refine wc_skip ?_
  refine we_then ?_
  refine wc_seq ?_
  refine wc_region ?_
  refine wl_lit (e := 23) #[] 0 rfl (fun _ => by go_simp) ?_
  intro g1
  simp only [Act.put, Xa, Xz, Xs]
  refine wl_val (.slice (some q) L.length c) rfl (fun _ => rfl) ?_
  simp only [Act.put, Xa, Xz, Xs]
  refine wl_append (e := 23) (size := 2) (bytes := 16) [] [] (Own.row g1 0 #[]) (ys := flat enc2 L) rfl (Own.has_lit g1 0 2 #[] (Nat.zero_le _) rfl) (sl_old hL) (flat_length (enc := enc2) (size := 2) (fun _ => rfl) _) (flat_one enc2_one _) rfl rfl rfl rfl Try.underlying48 (by unfold Elem; kernel_rfl) (by decide) (by unfold maxLen; omega) (by omega) ?_
  intro s2 hs2
  simp only [List.nil_append, Act.put, Xa, Xz, Xs]
  refine wl_val (.slice s2.ptr (0 + L.length) s2.cap) rfl (fun _ => rfl) ?_
  simp only [Act.put, Xa, Xz, Xs]
  refine wl_nil ?_
  refine we_then ?_
  refine wc_ret ?_
  refine we_ret1 (.slice s2.ptr (0 + L.length) s2.cap) rfl rfl rfl (fun w1 hE => ?_)
  exact ⟨s2, by simpa using hs2, by rw [Nat.zero_add], Env.tail hE (List.Sublist.append_left List.Sublist.slnil _)⟩
theorem clone_any (L : Spans) (p : Option Addr) (c : Nat) (w : World) (hL : Reads w p (flat enc2 L)) (hn : L.length ≤ 1000000) :
    Calls Try.prog 35 #[.slice p L.length c] w fun e w' => ∃ s : Own, s.Has 2 L.length (flat enc2 L) ∧ e = .returned (s.val L.length) ∧ Env w w' (s.rows 23) := by
  cases p with
  | some q => exact clone_some L q c w hL hn
  | none =>
    cases L with
    | nil => exact clone_none c w
    | cons x r =>
      obtain ⟨a, ha, _⟩ := hL 0 (.int .i64 x.1) rfl
      cases ha
set_option maxHeartbeats 2000000 in
theorem byLo_any (L : Spans) (p : Option Addr) (c : Nat) (w : World) (hL : Reads w p (flat enc2 L)) (hn : L.length ≤ 1000000) :
    Calls Try.prog 29 #[.slice p L.length c] w fun e w' => ∃ j : Spans × Own, (j.1.Perm L ∧ Ordered j.1 ∧ j.2.Has 2 j.1.length (flat enc2 j.1)) ∧ e = .returned (j.2.val j.1.length) ∧ Env w w' (j.2.rows 23) := by
  refine calls_sx Try.func29 rfl ?_
  simp only [Try.ntmps29, List.size_toArray, List.length_cons, List.length_nil, Nat.reduceAdd, Nat.reduceSub, Array.replicate_succ, Array.replicate_zero, List.push_toArray, List.append_toArray, List.nil_append, List.cons_append]
  refine wc_seq ?_
  refine wc_region ?_
  refine wl_val (.slice none 0 0) rfl (fun _ => rfl) ?_
  simp only [Act.put, Xa, Xz, Xs]
  refine wl_nil ?_
  refine we_then ?_
  refine wc_seq ?_
  refine wc_region ?_
  refine wl_val (.slice p L.length c) rfl (fun _ => rfl) ?_
  simp only [Act.put, Xa, Xz, Xs]
  refine wl_call_own (ι := Own) (e := 23) [] [] 35 #[.slice p L.length c] (fun s => s.val L.length) (fun s => s) (fun s => s.Has 2 L.length (flat enc2 L)) rfl rfl (fun _ => by go_simp) (fun W hE => clone_any L p c W (sl_old (R := []) hL W (hE.sub (List.nil_sublist _))) hn) ?_
  rintro s1 hs1
  simp only [List.nil_append, Act.put, Xa, Xz, Xs]
  refine wl_val (.slice s1.ptr L.length s1.cap) rfl (fun _ => rfl) ?_
  simp only [Act.put, Xa, Xz, Xs]
  refine wl_nil ?_
  refine we_then ?_
  refine wc_seq ?_
  refine wc_region ?_
  refine wl_val (.slice s1.ptr L.length s1.cap) rfl (fun _ => rfl) ?_
  simp only [Act.put, Xa, Xz, Xs]
  refine wl_call_turn (ι := Spans × Array Value) (e := 23) [] [] s1 36 #[.slice s1.ptr L.length s1.cap, .func (.func 37) #[] #[]] (.tuple #[]) (fun j => turn s1 j.2) (fun j => j.1.Perm L ∧ Ordered j.1 ∧ (turn s1 j.2).Has 2 L.length (flat enc2 j.1)) rfl rfl (fun _ => by go_simp) (fun W hE => sort_any s1 L hE hs1 hn) ?_
  rintro ⟨M, cur⟩ ⟨hp, ho, hs2⟩
  simp only [List.nil_append, Act.put, Xa, Xz, Xs]
  refine wl_nil ?_
  refine we_then ?_
  refine wc_seq ?_
  refine wc_region ?_
  refine wl_val (.slice s1.ptr L.length s1.cap) rfl (fun _ => rfl) ?_
  simp only [Act.put, Xa, Xz, Xs]
  refine wl_val (.slice s1.ptr L.length s1.cap) rfl (fun _ => rfl) ?_
  simp only [Act.put, Xa, Xz, Xs]
  refine wl_nil ?_
  refine we_then ?_
  refine wc_ret ?_
  refine we_ret1 (.slice s1.ptr L.length s1.cap) rfl rfl rfl (fun w1 hE => ?_)
  exact ⟨(M, turn s1 cur), ⟨hp, ho, by rw [hp.length_eq]; exact hs2⟩, by rw [turn_val, hp.length_eq], Env.tail hE (List.Sublist.append_left List.Sublist.slnil _)⟩
end Go.Proofs.Ytlfienfjdjfcoaa.Vlo
