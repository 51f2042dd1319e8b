/-
  Frames: what a call of Put or Get hands back, told for one call; the document's example. Condition: at most a million bytes.
-/
import Derived.Test.YtcefkfpnbgkcdaaFref
import Derived.Test.YtcefkfpnbgkcdaaFrm
namespace Go.Proofs.Ytcefkfpnbgkcdaa.Flaw
open Go.ChangeShapes Go.WideShapes Go.ChangeAt Go.RowKit
open Arr Steady Sx Sw Sl Sb Sc Cr Crc Cref Fr Fref Frm
set_option linter.unusedVariables false
set_option linter.unusedSimpArgs false
set_option maxRecDepth 100000

theorem i64_of_wf {a : Int} (h : (Lit.int .i64 a).wf = true) : -9223372036854775808 ≤ a ∧ a ≤ 9223372036854775807 := by
  simpa [Lit.wf, IntKind.min, IntKind.max, IntKind.bits, IntKind.signed] using h
theorem kind_in {k s v : Int} (h : putE k s v = 0) : -9223372036854775808 ≤ k ∧ k ≤ 9223372036854775807 := by
  have := ksize_pos (putE_zero h).1
  omega
theorem put_yes {k s v : Int} (h : putE k s v = 0) {n : Nat} (hn : (putL k s v).length = n) (w : World) :
    Calls Try.prog 8 #[.agg #[.int .i64 k, .int .i64 s, .int .i64 v]] w fun e w' => ∃ g : Nat, True ∧ e = .returned (.tuple #[.slice (some ⟨g, 0, none⟩) n n, .int .i64 0]) ∧ Env w w' [⟨g, (flat ub (putL k s v)).toArray, 5⟩] := by
  subst hn
  refine (put_any k s v w (kind_in h)).mono ?_
  rintro e w' (⟨g, _, h1, h2⟩ | ⟨h1, _⟩)
  · exact ⟨g, trivial, h1, h2⟩
  · exact absurd h h1
theorem put_no {k s v : Int} (hk : -9223372036854775808 ≤ k ∧ k ≤ 9223372036854775807) (h : putE k s v ≠ 0) (w : World) :
    Calls Try.prog 8 #[.agg #[.int .i64 k, .int .i64 s, .int .i64 v]] w fun e w' => e = .returned (.tuple #[.slice none 0 0, .int .i64 ((putE k s v : Nat) : Int)]) ∧ Below w.heap.size w w' := by
  refine (put_any k s v w hk).mono ?_
  rintro e w' (⟨g, h1, _⟩ | ⟨_, h1, h2⟩)
  · exact absurd h1 h
  · exact ⟨h1, h2⟩
theorem ref_yes {k s v : Int} (h : putE k s v = 0) (w : World) :
    Calls Try.prog 9 #[.agg #[.int .i64 k, .int .i64 s, .int .i64 v]] w fun e w' => ∃ o : Own, o.Has 1 (putL k s v).length (flat ub (putL k s v)) ∧ e = .returned (.tuple #[o.val (putL k s v).length, .int .i64 0]) ∧ Env w w' (o.rows 5) := by
  refine (put_ref k s v w (kind_in h)).mono ?_
  rintro e w' (⟨o, _, h1, h2, h3⟩ | ⟨h1, _⟩)
  · exact ⟨o, h1, h2, h3⟩
  · exact absurd h h1
theorem ref_no {k s v : Int} (hk : -9223372036854775808 ≤ k ∧ k ≤ 9223372036854775807) (h : putE k s v ≠ 0) (w : World) :
    Calls Try.prog 9 #[.agg #[.int .i64 k, .int .i64 s, .int .i64 v]] w fun e w' => e = .returned (.tuple #[.slice none 0 0, .int .i64 ((putE k s v : Nat) : Int)]) ∧ Below w.heap.size w w' := by
  refine (put_ref k s v w hk).mono ?_
  rintro e w' (⟨o, h1, _⟩ | ⟨_, h1, h2⟩)
  · exact absurd h1 h
  · exact ⟨h1, h2⟩
theorem get_back {k s v : Int} (h : putE k s v = 0) (p : Option Addr) (n c : Nat) (w : World) (hl : (putL k s v).length = n) (hL : Reads w p (flat ub (putL k s v))) (hn : n ≤ 1000000) (hc : n ≤ c) :
    Calls Try.prog 10 #[.slice p n c] w fun e w' => e = .returned (.tuple #[.agg #[.int .i64 k, .int .i64 s, .int .i64 v], .int .i64 0]) ∧ Below w.heap.size w w' := by
  have h1 := Frm.get_at _ p n c w hl hL hn hc
  rw [(get_put h).1, (get_put h).2] at h1
  exact h1
theorem put_back {L : List UInt8} (h : getE L = 0) (w : World) :
    Calls Try.prog 8 #[.agg #[.int .i64 (getF L).1, .int .i64 (getF L).2.1, .int .i64 (getF L).2.2]] w fun e w' => ∃ g : Nat, True ∧ e = .returned (.tuple #[.slice (some ⟨g, 0, none⟩) L.length L.length, .int .i64 0]) ∧ Env w w' [⟨g, (flat ub L).toArray, 5⟩] := by
  obtain ⟨h1, h2⟩ := put_get h
  rw [Frm.getF_yes h]
  have h3 := put_yes h1 (n := L.length) (by rw [h2]) w
  rw [h2] at h3
  exact h3
theorem putL_bounds (k s v : Int) : 7 ≤ (putL k s v).length ∧ (putL k s v).length ≤ 9 := by
  rw [putL_length]
  split <;> omega
theorem a_len : (putL 1 7 258).length = 7 := putL_size (k := 1) (s := 7) (v := 258) (by decide)
theorem a_take : (putL 1 7 258).take 5 = [1, 7, 2, 1, 2] := by
  rw [putL_two (by decide)]
  rfl
set_option maxHeartbeats 2000000 in
theorem anchor_any  (w : World) :
    Calls Try.prog 7 #[] w fun e w' => e = .returned (.bool true) ∧ Below w.heap.size w w' := by
  refine calls_sx Try.func7 rfl ?_
  simp only [Try.ntmps7, List.size_toArray, List.length_nil, Nat.reduceSub, Array.replicate_succ, Array.replicate_zero, List.push_toArray, List.append_toArray, List.nil_append, List.cons_append]
  refine wc_seq ?_
  refine wc_region ?_
  refine wl_val (.bool false) rfl (fun _ => rfl) ?_
  simp only [Act.put, List.setIfInBounds_toArray, List.set_cons_zero]
  refine wl_nil ?_
  refine we_then ?_
  refine wc_seq ?_
  refine wc_region ?_
  refine wl_val (.agg #[.int .i64 1, .int .i64 7, .int .i64 258]) rfl (fun _ => by go_simp) ?_
  simp only [Act.put, List.setIfInBounds_toArray, List.set_cons_zero, List.set_cons_succ]
  refine wl_call_env (ι := Nat) 8 #[.agg #[.int .i64 1, .int .i64 7, .int .i64 258]] (fun g1 => .tuple #[.slice (some ⟨g1, 0, none⟩) 7 7, .int .i64 0]) (fun g1 => [⟨g1, (flat ub (putL 1 7 258)).toArray, 5⟩]) (fun _ => True) rfl (fun _ => by go_simp) (fun W hE => put_yes (by decide) a_len W) ?_
  rintro g1 -
  simp only [List.cons_append, List.nil_append, Act.put, List.setIfInBounds_toArray, List.set_cons_zero, List.set_cons_succ]
  refine wl_val (.tuple #[.slice (some ⟨g1, 0, none⟩) 7 7, .int .i64 0]) rfl (fun _ => rfl) ?_
  simp only [Act.put, List.setIfInBounds_toArray, List.set_cons_zero, List.set_cons_succ]
  refine wl_val (.slice (some ⟨g1, 0, none⟩) 7 7) rfl (fun _ => by go_simp) ?_
  simp only [Act.put, List.setIfInBounds_toArray, List.set_cons_zero, List.set_cons_succ]
  refine wl_val (.int .i64 0) rfl (fun _ => by go_simp) ?_
  simp only [Act.put, List.setIfInBounds_toArray, List.set_cons_zero, List.set_cons_succ]
  refine wl_val (.slice (some ⟨g1, 0, none⟩) 7 7) rfl (fun _ => rfl) ?_
  simp only [Act.put, List.setIfInBounds_toArray, List.set_cons_zero, List.set_cons_succ]
  refine wl_val (.int .i64 0) rfl (fun _ => rfl) ?_
  simp only [Act.put, List.setIfInBounds_toArray, List.set_cons_zero, List.set_cons_succ]
  refine wl_nil ?_
  refine we_then ?_
  refine wc_seq ?_
  refine wc_region ?_
  refine wl_val (.int .i64 0) rfl (fun _ => rfl) ?_
  simp only [Act.put, List.setIfInBounds_toArray, List.set_cons_zero, List.set_cons_succ]
  refine wl_val (.bool true) rfl (fun w => run_cmp rfl rfl rfl Try.underlying26 rfl w) ?_
  simp only [Act.put, List.setIfInBounds_toArray, List.set_cons_zero, List.set_cons_succ]
  refine wl_val (.bool true) rfl (fun _ => rfl) ?_
  simp only [Act.put, List.setIfInBounds_toArray, List.set_cons_zero, List.set_cons_succ]
  refine wl_val (.slice (some ⟨g1, 0, none⟩) 7 7) rfl (fun _ => rfl) ?_
  simp only [Act.put, List.setIfInBounds_toArray, List.set_cons_zero, List.set_cons_succ]
  refine wl_val (.int .i64 7) rfl (fun w => er_len rfl rfl Try.underlying25 w) ?_
  simp only [Act.put, List.setIfInBounds_toArray, List.set_cons_zero, List.set_cons_succ]
  refine wl_val (.bool true) rfl (fun w => run_cmp rfl rfl rfl Try.underlying3 rfl w) ?_
  simp only [Act.put, List.setIfInBounds_toArray, List.set_cons_zero, List.set_cons_succ]
  refine wl_val (.bool true) rfl (fun _ => rfl) ?_
  simp only [Act.put, List.setIfInBounds_toArray, List.set_cons_zero, List.set_cons_succ]
  refine wl_val (.bool true) rfl (fun _ => rfl) ?_
  simp only [Act.put, List.setIfInBounds_toArray, List.set_cons_zero, List.set_cons_succ]
  refine wl_val (.slice (some ⟨g1, 0, none⟩) 7 7) rfl (fun _ => rfl) ?_
  simp only [Act.put, List.setIfInBounds_toArray, List.set_cons_zero, List.set_cons_succ]
  refine wl_val (.slice (some ⟨g1, 0, none⟩) 5 7) rfl (fun w => er_take (h := 5) rfl rfl rfl rfl (by omega) Try.underlying25 (by kernel_rfl) w) ?_
  simp only [Act.put, List.setIfInBounds_toArray, List.set_cons_zero, List.set_cons_succ]
  refine wl_read (.string (str ((putL 1 7 258).take 5))) rfl (er_string (L := (putL 1 7 258).take 5) (sl_take 5 (sl_mk 0 (L := putL 1 7 258) rfl)) (ub_take_len a_len (by omega)) rfl rfl Try.underlying25 Try.underlying5 Try.underlying9) ?_
  simp only [Act.put, List.setIfInBounds_toArray, List.set_cons_zero, List.set_cons_succ]
  refine wl_val (.bool true) rfl (fun w => run_streq (L := (putL 1 7 258).take 5) (M := [1, 7, 2, 1, 2]) rfl rfl rfl (decide_eq_true a_take) w) ?_
  simp only [Act.put, List.setIfInBounds_toArray, List.set_cons_zero, List.set_cons_succ]
  refine wl_val (.bool true) rfl (fun _ => rfl) ?_
  simp only [Act.put, List.setIfInBounds_toArray, List.set_cons_zero, List.set_cons_succ]
  refine wl_val (.bool true) rfl (fun _ => rfl) ?_
  simp only [Act.put, List.setIfInBounds_toArray, List.set_cons_zero]
  refine wl_nil ?_
  refine we_then ?_
  refine wc_ret ?_
  refine we_ret1 (.bool true) rfl rfl rfl (fun w1 hE => ?_)
  exact ⟨rfl, hE.below⟩
end Go.Proofs.Ytcefkfpnbgkcdaa.Flaw
