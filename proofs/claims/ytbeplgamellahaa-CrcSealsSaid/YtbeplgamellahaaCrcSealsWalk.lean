/-
  CrcSeals: the law's walk. No condition.
-/
import Derived.Test.YtbeplgamellahaaCref
namespace Go.Proofs.Ytbeplgamellahaa.Walks
open Go.ChangeShapes Go.WideShapes Go.ChangeAt Go.RowKit
open Arr Steady Sx Sw Sl Sb Cr Crc Cref
set_option linter.unusedVariables false
set_option linter.unusedSimpArgs false
set_option maxRecDepth 100000

theorem seal_take (L : List UInt8) : (seal_ L).take L.length = L := by simp [seal_]
theorem opens_len (L : List UInt8) (h : opens L = true) : 2 ≤ L.length := by
  unfold opens at h
  rw [Bool.and_eq_true] at h
  exact of_decide_eq_true h.1
theorem own_eq (L : List UInt8) (h2 : 2 ≤ L.length) : (((crc 65535#16 (L.take (L.length - 2))).toNat : Int) == (((L[L.length - 2]!).toNat * 256 + (L[L.length - 1]!).toNat : Nat) : Int)) = opens L := by
  unfold opens
  rw [decide_eq_true h2, Bool.true_and]
  have e := told_nat (L[L.length - 2]!) (L[L.length - 1]!)
  rw [← e, Bool.eq_iff_iff]
  simp only [beq_iff_eq]
  constructor
  · intro h; exact BitVec.eq_of_toNat_eq (by omega)
  · intro h; rw [h]
theorem own_yes (L : List UInt8) (h : opens L = true) : (((crc 65535#16 (L.take (L.length - 2))).toNat : Int) == (((L[L.length - 2]!).toNat * 256 + (L[L.length - 1]!).toNat : Nat) : Int)) = true := (own_eq L (opens_len L h)).trans h
theorem own_no (L : List UInt8) (h2 : 2 ≤ L.length) (h : opens L = false) : (((crc 65535#16 (L.take (L.length - 2))).toNat : Int) == (((L[L.length - 2]!).toNat * 256 + (L[L.length - 1]!).toNat : Nat) : Int)) = false := (own_eq L h2).trans h
theorem open_yes (L : List UInt8) (p : Option Addr) (c : Nat) (w : World) (hL : Reads w p (flat ub L)) (hn : L.length ≤ 1000000) (hc : L.length ≤ c) (h : opens L = true) :
    Calls Try.prog 11 #[.slice p L.length c] w fun e w' => ∃ g : Nat, True ∧ e = .returned (.tuple #[.slice (some ⟨g, 0, none⟩) (L.length - 2) (L.length - 2), .bool true]) ∧ Env w w' [⟨g, (flat ub (L.take (L.length - 2))).toArray, 5⟩] := by
  refine (open_any L p c w hL hn hc).mono ?_
  rintro e w' (⟨g, _, h1, h2⟩ | ⟨h1, _⟩)
  · exact ⟨g, trivial, h1, h2⟩
  · rw [h] at h1; cases h1
theorem open_no (L : List UInt8) (p : Option Addr) (c : Nat) (w : World) (hL : Reads w p (flat ub L)) (hn : L.length ≤ 1000000) (hc : L.length ≤ c) (h : opens L = false) :
    Calls Try.prog 11 #[.slice p L.length c] w fun e w' => e = .returned (.tuple #[.slice none 0 0, .bool false]) ∧ Below w.heap.size w w' := by
  refine (open_any L p c w hL hn hc).mono ?_
  rintro e w' (⟨g, h1, _⟩ | ⟨_, h1, h2⟩)
  · rw [h] at h1; cases h1
  · exact ⟨h1, h2⟩
theorem open_seal (L : List UInt8) (p : Option Addr) (c : Nat) (w : World) (hL : Reads w p (flat ub (seal_ L))) (hn : L.length ≤ 900000) (hc : L.length + 2 ≤ c) :
    Calls Try.prog 11 #[.slice p (L.length + 2) c] w fun e w' => ∃ g : Nat, True ∧ e = .returned (.tuple #[.slice (some ⟨g, 0, none⟩) L.length L.length, .bool true]) ∧ Env w w' [⟨g, (flat ub L).toArray, 5⟩] := by
  have h := open_yes (seal_ L) p c w hL (by rw [seal_length]; omega) (by rw [seal_length]; exact hc) (opens_seal L)
  rw [seal_length, Nat.add_sub_cancel, seal_take] at h
  exact h
set_option maxHeartbeats 2000000 in
theorem crcSeals_walk (L : List UInt8) (p : Option Addr) (c : Nat) (w : World) (hL : Reads w p (flat ub L)) (hc : L.length ≤ c) (hm : c ≤ maxLen) :
    Calls Try.prog 4 #[.slice p L.length c] w fun e w' => e = .returned (.bool true) ∧ Below w.heap.size w w' := by
  refine calls_sx Try.func4 rfl ?_
  simp only [Try.ntmps4, List.size_toArray, List.length_cons, List.length_nil, Nat.reduceAdd, Nat.reduceSub, Array.replicate_succ, Array.replicate_zero, List.push_toArray, List.append_toArray, List.nil_append, List.cons_append]
  refine wc_seq ?_
  refine wc_region ?_
  refine wl_val (.bool false) rfl (fun _ => rfl) ?_
  simp only [Act.put, List.setIfInBounds_toArray, List.set_cons_zero, List.set_cons_succ]
  refine wl_nil ?_
  refine we_then ?_
  refine wc_seq ?_
  refine wc_seq ?_
  refine wc_region ?_
  refine wl_call 6 #[] (.bool true) rfl (fun _ => by go_simp) (fun W => anchor_any W) ?_
  simp only [Act.put, List.setIfInBounds_toArray, List.set_cons_zero, List.set_cons_succ]
  refine wl_val (.bool false) rfl (fun _ => by go_simp) ?_
  simp only [Act.put, List.setIfInBounds_toArray, List.set_cons_zero, List.set_cons_succ]
  refine wl_nil ?_
  refine we_then ?_
  refine wc_false rfl ?_
  refine wc_skip ?_
  refine we_then ?_
  refine wc_seq ?_
  refine wc_seq ?_
  refine wc_region ?_
  refine wl_val (.slice p L.length c) rfl (fun _ => rfl) ?_
  simp only [Act.put, List.setIfInBounds_toArray, List.set_cons_zero, List.set_cons_succ]
  refine wl_val (.int .i64 (L.length : Int)) rfl (fun w => er_len rfl rfl Try.underlying22 w) ?_
  simp only [Act.put, List.setIfInBounds_toArray, List.set_cons_zero, List.set_cons_succ]
  refine wl_val (.bool (decide (2000 < (L.length : Int)))) rfl (fun w => run_cmp rfl rfl rfl Try.underlying3 rfl w) ?_
  simp only [Act.put, List.setIfInBounds_toArray, List.set_cons_zero, List.set_cons_succ]
  refine wl_nil ?_
  refine we_then ?_
  cases h1 : (decide (2000 < (L.length : Int)))
  · skip
    have p1 : ¬ (2000 < (L.length : Int)) := of_decide_eq_false h1
    refine wc_false rfl ?_
    refine wc_skip ?_
    refine we_then ?_
    refine wc_seq ?_
    refine wc_region ?_
    refine wl_val (.slice p L.length c) rfl (fun _ => rfl) ?_
    simp only [Act.put, List.setIfInBounds_toArray, List.set_cons_zero, List.set_cons_succ]
    refine wl_call_env (ι := Nat) 10 #[.slice p L.length c] (fun g2 => .slice (some ⟨g2, 0, none⟩) (L.length + 2) (L.length + 2)) (fun g2 => [⟨g2, (flat ub (seal_ L)).toArray, 5⟩]) (fun _ => True) rfl (fun _ => by go_simp) (fun W hE => seal_any L p c W (sl_old (R := []) hL W (hE.sub (List.nil_sublist _))) (by omega)) ?_
    rintro g2 -
    simp only [List.cons_append, List.nil_append, Act.put, List.setIfInBounds_toArray, List.set_cons_zero, List.set_cons_succ]
    refine wl_val (.slice (some ⟨g2, 0, none⟩) (L.length + 2) (L.length + 2)) rfl (fun _ => rfl) ?_
    simp only [Act.put, List.setIfInBounds_toArray, List.set_cons_zero, List.set_cons_succ]
    refine wl_nil ?_
    refine we_then ?_
    refine wc_seq ?_
    refine wc_region ?_
    refine wl_val (.slice (some ⟨g2, 0, none⟩) (L.length + 2) (L.length + 2)) rfl (fun _ => rfl) ?_
    simp only [Act.put, List.setIfInBounds_toArray, List.set_cons_zero, List.set_cons_succ]
    refine wl_call_env (ι := Nat) 11 #[.slice (some ⟨g2, 0, none⟩) (L.length + 2) (L.length + 2)] (fun g3 => .tuple #[.slice (some ⟨g3, 0, none⟩) L.length L.length, .bool true]) (fun g3 => [⟨g3, (flat ub L).toArray, 5⟩]) (fun _ => True) rfl (fun _ => by go_simp) (fun W hE => open_seal L _ _ W ((sl_mk 0 (L := seal_ L) rfl) W hE) (by omega) (by omega)) ?_
    rintro g3 -
    simp only [List.cons_append, List.nil_append, Act.put, List.setIfInBounds_toArray, List.set_cons_zero, List.set_cons_succ]
    refine wl_val (.tuple #[.slice (some ⟨g3, 0, none⟩) L.length L.length, .bool true]) rfl (fun _ => rfl) ?_
    simp only [Act.put, List.setIfInBounds_toArray, List.set_cons_zero, List.set_cons_succ]
    refine wl_val (.slice (some ⟨g3, 0, none⟩) L.length L.length) rfl (fun _ => by go_simp) ?_
    simp only [Act.put, List.setIfInBounds_toArray, List.set_cons_zero, List.set_cons_succ]
    refine wl_val (.bool true) rfl (fun _ => by go_simp) ?_
    simp only [Act.put, List.setIfInBounds_toArray, List.set_cons_zero, List.set_cons_succ]
    refine wl_val (.slice (some ⟨g3, 0, none⟩) L.length L.length) rfl (fun _ => rfl) ?_
    simp only [Act.put, List.setIfInBounds_toArray, List.set_cons_zero, List.set_cons_succ]
    refine wl_val (.bool true) rfl (fun _ => rfl) ?_
    simp only [Act.put, List.setIfInBounds_toArray, List.set_cons_zero, List.set_cons_succ]
    refine wl_nil ?_
    refine we_then ?_
    refine wc_seq ?_
    refine wc_seq ?_
    refine wc_draw [.late, .late, .late, .late, .late, .late, .late, .late, .late, .late, .late, .late, .plain, .late, .plain, .late, .late, .late, .late, .late, .late, .late, .plain, .late, .plain, .late, .late] none [] 112 (by kernel_rfl) rfl (by kernel_rfl) (by kernel_rfl) ?_
    refine ws_late (.slice (some ⟨g2, 0, none⟩) (L.length + 2) (L.length + 2)) rfl rfl (fun _ => rfl) ?_
    simp only [Nat.reduceAdd, Act.put, List.setIfInBounds_toArray, List.set_cons_zero, List.set_cons_succ]
    refine ws_late (.int .i64 ((L.length + 2 : Nat) : Int)) rfl rfl (fun w => er_len rfl rfl Try.underlying22 w) ?_
    simp only [Nat.reduceAdd, Act.put, List.setIfInBounds_toArray, List.set_cons_zero, List.set_cons_succ]
    refine ws_late (.slice p L.length c) rfl rfl (fun _ => rfl) ?_
    simp only [Nat.reduceAdd, Act.put, List.setIfInBounds_toArray, List.set_cons_zero, List.set_cons_succ]
    refine ws_late (.int .i64 (L.length : Int)) rfl rfl (fun w => er_len rfl rfl Try.underlying22 w) ?_
    simp only [Nat.reduceAdd, Act.put, List.setIfInBounds_toArray, List.set_cons_zero, List.set_cons_succ]
    refine ws_late (.int .i64 ((L.length + 2 : Nat) : Int)) rfl rfl (fun w => run_nat (X := L.length) (Y := 2) (Z := L.length + 2) rfl rfl rfl rfl (by omega) w) ?_
    simp only [Nat.reduceAdd, Act.put, List.setIfInBounds_toArray, List.set_cons_zero, List.set_cons_succ]
    refine ws_late (.bool false) rfl rfl (fun w => run_cmp (b := false) rfl rfl rfl Try.underlying3 (by simp [cmpOf]) w) ?_
    simp only [Nat.reduceAdd, Act.put, List.setIfInBounds_toArray, List.set_cons_zero, List.set_cons_succ]
    refine ws_late (.bool false) rfl rfl (fun _ => rfl) ?_
    simp only [Nat.reduceAdd, Act.put, List.setIfInBounds_toArray, List.set_cons_zero, List.set_cons_succ]
    refine ws_late (.bool true) rfl rfl (fun _ => rfl) ?_
    simp only [Nat.reduceAdd, Act.put, List.setIfInBounds_toArray, List.set_cons_zero, List.set_cons_succ]
    refine ws_late (.bool false) rfl rfl (fun _ => by go_simp) ?_
    simp only [Nat.reduceAdd, Act.put, List.setIfInBounds_toArray, List.set_cons_zero, List.set_cons_succ]
    refine ws_late (.bool false) rfl rfl (fun _ => rfl) ?_
    simp only [Nat.reduceAdd, Act.put, List.setIfInBounds_toArray, List.set_cons_zero, List.set_cons_succ]
    refine ws_late (.bool false) rfl rfl (fun _ => rfl) ?_
    simp only [Nat.reduceAdd, Act.put, List.setIfInBounds_toArray, List.set_cons_zero, List.set_cons_succ]
    refine ws_late (.slice (some ⟨g3, 0, none⟩) L.length L.length) rfl rfl (fun _ => rfl) ?_
    simp only [Nat.reduceAdd, Act.put, List.setIfInBounds_toArray, List.set_cons_zero, List.set_cons_succ]
    refine ws_read (.string (str L)) rfl rfl (er_string (L := L) (sl_mk 0 (L := L) rfl) rfl rfl rfl Try.underlying22 Try.underlying5 Try.underlying9) ?_
    simp only [Nat.reduceAdd, Act.put, List.setIfInBounds_toArray, List.set_cons_zero, List.set_cons_succ]
    refine ws_late (.slice p L.length c) rfl rfl (fun _ => rfl) ?_
    simp only [Nat.reduceAdd, Act.put, List.setIfInBounds_toArray, List.set_cons_zero, List.set_cons_succ]
    refine ws_read (.string (str L)) rfl rfl (er_string (L := L) (sl_old hL) rfl rfl rfl Try.underlying22 Try.underlying5 Try.underlying9) ?_
    simp only [Nat.reduceAdd, Act.put, List.setIfInBounds_toArray, List.set_cons_zero, List.set_cons_succ]
    refine ws_late (.bool false) rfl rfl (fun w => run_strne rfl rfl rfl (by simp) w) ?_
    simp only [Nat.reduceAdd, Act.put, List.setIfInBounds_toArray, List.set_cons_zero, List.set_cons_succ]
    refine ws_late (.bool false) rfl rfl (fun _ => rfl) ?_
    simp only [Nat.reduceAdd, Act.put, List.setIfInBounds_toArray, List.set_cons_zero, List.set_cons_succ]
    refine ws_late (.bool false) rfl rfl (fun _ => rfl) ?_
    simp only [Nat.reduceAdd, Act.put, List.setIfInBounds_toArray, List.set_cons_zero, List.set_cons_succ]
    refine ws_late (.slice (some ⟨g2, 0, none⟩) (L.length + 2) (L.length + 2)) rfl rfl (fun _ => rfl) ?_
    simp only [Nat.reduceAdd, Act.put, List.setIfInBounds_toArray, List.set_cons_zero, List.set_cons_succ]
    refine ws_late (.slice p L.length c) rfl rfl (fun _ => rfl) ?_
    simp only [Nat.reduceAdd, Act.put, List.setIfInBounds_toArray, List.set_cons_zero, List.set_cons_succ]
    refine ws_late (.int .i64 (L.length : Int)) rfl rfl (fun w => er_len rfl rfl Try.underlying22 w) ?_
    simp only [Nat.reduceAdd, Act.put, List.setIfInBounds_toArray, List.set_cons_zero, List.set_cons_succ]
    refine ws_late (.slice (some ⟨g2, 0, none⟩) L.length (L.length + 2)) rfl rfl (fun w => er_take (h := L.length) rfl rfl rfl rfl (by omega) Try.underlying22 (by kernel_rfl) w) ?_
    simp only [Nat.reduceAdd, Act.put, List.setIfInBounds_toArray, List.set_cons_zero, List.set_cons_succ]
    refine ws_read (.string (str L)) rfl rfl (er_string (L := L) (sl_take_eq L.length (seal_take L) (sl_mk 1 (L := seal_ L) rfl)) rfl rfl rfl Try.underlying22 Try.underlying5 Try.underlying9) ?_
    simp only [Nat.reduceAdd, Act.put, List.setIfInBounds_toArray, List.set_cons_zero, List.set_cons_succ]
    refine ws_late (.slice p L.length c) rfl rfl (fun _ => rfl) ?_
    simp only [Nat.reduceAdd, Act.put, List.setIfInBounds_toArray, List.set_cons_zero, List.set_cons_succ]
    refine ws_read (.string (str L)) rfl rfl (er_string (L := L) (sl_old hL) rfl rfl rfl Try.underlying22 Try.underlying5 Try.underlying9) ?_
    simp only [Nat.reduceAdd, Act.put, List.setIfInBounds_toArray, List.set_cons_zero, List.set_cons_succ]
    refine ws_late (.bool false) rfl rfl (fun w => run_strne rfl rfl rfl (by simp) w) ?_
    simp only [Nat.reduceAdd, Act.put, List.setIfInBounds_toArray, List.set_cons_zero, List.set_cons_succ]
    refine ws_late (.bool false) rfl rfl (fun _ => rfl) ?_
    simp only [Nat.reduceAdd, Act.put, List.setIfInBounds_toArray, List.set_cons_zero, List.set_cons_succ]
    refine ws_nil [] trivial (by simp) ?_
    intro ps4
    simp only [fin, List.foldl_nil, List.map, List.nil_append]
    refine we_then ?_
    refine wc_false rfl ?_
    refine wc_skip ?_
    refine we_then ?_
    refine wc_seq ?_
    refine wc_region ?_
    refine wl_val (.slice p L.length c) rfl (fun _ => rfl) ?_
    simp only [Act.put, List.setIfInBounds_toArray, List.set_cons_zero, List.set_cons_succ]
    cases h5 : (opens L)
    · skip
      refine wl_call_at 11 #[.slice p L.length c] (.tuple #[.slice none 0 0, .bool false]) rfl (fun _ => by go_simp) (fun W hE => open_no L p c W (sl_old (R := []) hL W (hE.sub (List.nil_sublist _))) (by omega) hc h5) ?_
      simp only [Act.put, List.setIfInBounds_toArray, List.set_cons_zero, List.set_cons_succ]
      refine wl_val (.tuple #[.slice none 0 0, .bool false]) rfl (fun _ => rfl) ?_
      simp only [Act.put, List.setIfInBounds_toArray, List.set_cons_zero, List.set_cons_succ]
      refine wl_val (.slice none 0 0) rfl (fun _ => by go_simp) ?_
      simp only [Act.put, List.setIfInBounds_toArray, List.set_cons_zero, List.set_cons_succ]
      refine wl_val (.bool false) rfl (fun _ => by go_simp) ?_
      simp only [Act.put, List.setIfInBounds_toArray, List.set_cons_zero, List.set_cons_succ]
      refine wl_val (.slice none 0 0) rfl (fun _ => rfl) ?_
      simp only [Act.put, List.setIfInBounds_toArray, List.set_cons_zero, List.set_cons_succ]
      refine wl_val (.bool false) rfl (fun _ => rfl) ?_
      simp only [Act.put, List.setIfInBounds_toArray, List.set_cons_zero, List.set_cons_succ]
      refine wl_nil ?_
      refine we_then ?_
      refine wc_seq ?_
      refine wc_seq ?_
      refine wc_region ?_
      refine wl_val (.slice p L.length c) rfl (fun _ => rfl) ?_
      simp only [Act.put, List.setIfInBounds_toArray, List.set_cons_zero, List.set_cons_succ]
      refine wl_val (.int .i64 (L.length : Int)) rfl (fun w => er_len rfl rfl Try.underlying22 w) ?_
      simp only [Act.put, List.setIfInBounds_toArray, List.set_cons_zero, List.set_cons_succ]
      refine wl_val (.bool (decide ((L.length : Int) < 2))) rfl (fun w => run_cmp rfl rfl rfl Try.underlying3 rfl w) ?_
      simp only [Act.put, List.setIfInBounds_toArray, List.set_cons_zero, List.set_cons_succ]
      refine wl_nil ?_
      refine we_then ?_
      cases h6 : (decide ((L.length : Int) < 2))
      · skip
        have p6 : ¬ ((L.length : Int) < 2) := of_decide_eq_false h6
        refine wc_false rfl ?_
        refine wc_skip ?_
        refine we_then ?_
        refine wc_seq ?_
        refine wc_draw [.late, .late, .late, .late, .late, .plain, .late, .late, .late, .late, .plain, .plain, .late, .late, .late, .late, .late, .late, .plain, .plain, .late, .late, .late, .late] none [] 112 (by kernel_rfl) rfl (by kernel_rfl) (by kernel_rfl) ?_
        refine ws_late (.slice p L.length c) rfl rfl (fun _ => rfl) ?_
        simp only [Nat.reduceAdd, Act.put, List.setIfInBounds_toArray, List.set_cons_zero, List.set_cons_succ]
        refine ws_late (.slice p L.length c) rfl rfl (fun _ => rfl) ?_
        simp only [Nat.reduceAdd, Act.put, List.setIfInBounds_toArray, List.set_cons_zero, List.set_cons_succ]
        refine ws_late (.int .i64 (L.length : Int)) rfl rfl (fun w => er_len rfl rfl Try.underlying22 w) ?_
        simp only [Nat.reduceAdd, Act.put, List.setIfInBounds_toArray, List.set_cons_zero, List.set_cons_succ]
        refine ws_late (.int .i64 ((L.length - 2 : Nat) : Int)) rfl rfl (fun w => run_nat (X := L.length) (Y := 2) (Z := L.length - 2) rfl rfl rfl (natOf_sub (by omega)) (by omega) w) ?_
        simp only [Nat.reduceAdd, Act.put, List.setIfInBounds_toArray, List.set_cons_zero, List.set_cons_succ]
        refine ws_late (.slice p (L.length - 2) c) rfl rfl (fun w => er_take (h := L.length - 2) rfl rfl rfl rfl (by omega) Try.underlying22 (by kernel_rfl) w) ?_
        simp only [Nat.reduceAdd, Act.put, List.setIfInBounds_toArray, List.set_cons_zero, List.set_cons_succ]
        refine ws_call_at 8 #[.slice p (L.length - 2) c] (.int .i64 (((crc 65535#16 (L.take (L.length - 2))).toNat : Nat) : Int)) rfl rfl (fun _ => by go_simp) (fun W hE => ref_at (L.take (L.length - 2)) _ _ _ W (ub_take_len rfl (by omega)) ((sl_take (L.length - 2) (sl_old hL)) W hE) (Nat.le_trans (Nat.le_of_eq (ub_take_len rfl (by omega))) (by omega))) ?_
        simp only [Nat.reduceAdd, Act.put, List.setIfInBounds_toArray, List.set_cons_zero, List.set_cons_succ]
        refine ws_late (.slice p L.length c) rfl rfl (fun _ => rfl) ?_
        simp only [Nat.reduceAdd, Act.put, List.setIfInBounds_toArray, List.set_cons_zero, List.set_cons_succ]
        refine ws_late (.slice p L.length c) rfl rfl (fun _ => rfl) ?_
        simp only [Nat.reduceAdd, Act.put, List.setIfInBounds_toArray, List.set_cons_zero, List.set_cons_succ]
        refine ws_late (.int .i64 (L.length : Int)) rfl rfl (fun w => er_len rfl rfl Try.underlying22 w) ?_
        simp only [Nat.reduceAdd, Act.put, List.setIfInBounds_toArray, List.set_cons_zero, List.set_cons_succ]
        refine ws_late (.int .i64 ((L.length - 2 : Nat) : Int)) rfl rfl (fun w => run_nat (X := L.length) (Y := 2) (Z := L.length - 2) rfl rfl rfl (natOf_sub (by omega)) (by omega) w) ?_
        simp only [Nat.reduceAdd, Act.put, List.setIfInBounds_toArray, List.set_cons_zero, List.set_cons_succ]
        refine ws_read (eaddr p ((L.length - 2) * 1)) rfl rfl (er_index (L.length - 2) 1 (sl_old hL) rfl rfl rfl rfl (by omega) (ub_len1 rfl) (by decide) Try.underlying22 (by kernel_rfl)) ?_
        simp only [Nat.reduceAdd, Act.put, List.setIfInBounds_toArray, List.set_cons_zero, List.set_cons_succ]
        refine ws_read (.int .u8 ((L[L.length - 2]!).toNat : Int)) rfl rfl (er_cell ((L.length - 2) * 1) (.int .u8 ((L[L.length - 2]!).toNat : Int)) (sl_old hL) rfl rfl (flat_cell (enc := ub) (fun _ => rfl) L (L.length - 2) 0 (by omega) (by decide)) Try.isAgg5) ?_
        simp only [Nat.reduceAdd, Act.put, List.setIfInBounds_toArray, List.set_cons_zero, List.set_cons_succ]
        have q7 : (L[L.length - 2]!).toNat < 256 := ((L[L.length - 2]!).toBitVec).isLt
        refine ws_late (.int .i64 (((L[L.length - 2]!).toNat : Nat) : Int)) rfl rfl (fun w => run_conv (X := ((L[L.length - 2]!).toNat : Int)) rfl rfl Try.underlying5 Try.underlying3 (i64_in (by omega) (by omega)) w) ?_
        simp only [Nat.reduceAdd, Act.put, List.setIfInBounds_toArray, List.set_cons_zero, List.set_cons_succ]
        refine ws_late (.int .i64 ((((L[L.length - 2]!).toNat) * 256 : Nat) : Int)) rfl rfl (fun w => run_nat (X := (L[L.length - 2]!).toNat) (Y := 256) (Z := ((L[L.length - 2]!).toNat) * 256) rfl rfl rfl rfl (by omega) w) ?_
        simp only [Nat.reduceAdd, Act.put, List.setIfInBounds_toArray, List.set_cons_zero, List.set_cons_succ]
        refine ws_late (.slice p L.length c) rfl rfl (fun _ => rfl) ?_
        simp only [Nat.reduceAdd, Act.put, List.setIfInBounds_toArray, List.set_cons_zero, List.set_cons_succ]
        refine ws_late (.slice p L.length c) rfl rfl (fun _ => rfl) ?_
        simp only [Nat.reduceAdd, Act.put, List.setIfInBounds_toArray, List.set_cons_zero, List.set_cons_succ]
        refine ws_late (.int .i64 (L.length : Int)) rfl rfl (fun w => er_len rfl rfl Try.underlying22 w) ?_
        simp only [Nat.reduceAdd, Act.put, List.setIfInBounds_toArray, List.set_cons_zero, List.set_cons_succ]
        refine ws_late (.int .i64 ((L.length - 1 : Nat) : Int)) rfl rfl (fun w => run_nat (X := L.length) (Y := 1) (Z := L.length - 1) rfl rfl rfl (natOf_sub (by omega)) (by omega) w) ?_
        simp only [Nat.reduceAdd, Act.put, List.setIfInBounds_toArray, List.set_cons_zero, List.set_cons_succ]
        refine ws_read (eaddr p ((L.length - 1) * 1)) rfl rfl (er_index (L.length - 1) 1 (sl_old hL) rfl rfl rfl rfl (by omega) (ub_len1 rfl) (by decide) Try.underlying22 (by kernel_rfl)) ?_
        simp only [Nat.reduceAdd, Act.put, List.setIfInBounds_toArray, List.set_cons_zero, List.set_cons_succ]
        refine ws_read (.int .u8 ((L[L.length - 1]!).toNat : Int)) rfl rfl (er_cell ((L.length - 1) * 1) (.int .u8 ((L[L.length - 1]!).toNat : Int)) (sl_old hL) rfl rfl (flat_cell (enc := ub) (fun _ => rfl) L (L.length - 1) 0 (by omega) (by decide)) Try.isAgg5) ?_
        simp only [Nat.reduceAdd, Act.put, List.setIfInBounds_toArray, List.set_cons_zero, List.set_cons_succ]
        have q8 : (L[L.length - 1]!).toNat < 256 := ((L[L.length - 1]!).toBitVec).isLt
        refine ws_late (.int .i64 (((L[L.length - 1]!).toNat : Nat) : Int)) rfl rfl (fun w => run_conv (X := ((L[L.length - 1]!).toNat : Int)) rfl rfl Try.underlying5 Try.underlying3 (i64_in (by omega) (by omega)) w) ?_
        simp only [Nat.reduceAdd, Act.put, List.setIfInBounds_toArray, List.set_cons_zero, List.set_cons_succ]
        refine ws_late (.int .i64 (((((L[L.length - 2]!).toNat) * 256) + ((L[L.length - 1]!).toNat) : Nat) : Int)) rfl rfl (fun w => run_nat (X := ((L[L.length - 2]!).toNat) * 256) (Y := (L[L.length - 1]!).toNat) (Z := (((L[L.length - 2]!).toNat) * 256) + ((L[L.length - 1]!).toNat)) rfl rfl rfl rfl (by omega) w) ?_
        simp only [Nat.reduceAdd, Act.put, List.setIfInBounds_toArray, List.set_cons_zero, List.set_cons_succ]
        refine ws_late (.bool false) rfl rfl (fun w => run_ieq (b := false) rfl rfl rfl Try.underlying3 (own_no L (by omega) h5) w) ?_
        simp only [Nat.reduceAdd, Act.put, List.setIfInBounds_toArray, List.set_cons_zero, List.set_cons_succ]
        refine ws_late (.bool false) rfl rfl (fun _ => rfl) ?_
        simp only [Nat.reduceAdd, Act.put, List.setIfInBounds_toArray, List.set_cons_zero, List.set_cons_succ]
        refine ws_nil [] trivial (by simp) ?_
        intro ps9
        simp only [fin, List.foldl_nil, List.map, List.nil_append]
        refine we_then ?_
        refine wc_seq ?_
        refine wc_draw [.late, .late, .late, .late, .late, .late, .late, .late, .late, .late, .late, .late, .late, .late, .late, .plain, .late, .late, .late, .late, .late, .plain, .late, .late, .late, .late, .late] none [] 112 (by kernel_rfl) rfl (by kernel_rfl) (by kernel_rfl) ?_
        refine ws_late (.bool false) rfl rfl (fun _ => rfl) ?_
        simp only [Nat.reduceAdd, Act.put, List.setIfInBounds_toArray, List.set_cons_zero, List.set_cons_succ]
        refine ws_late (.bool false) rfl rfl (fun _ => rfl) ?_
        simp only [Nat.reduceAdd, Act.put, List.setIfInBounds_toArray, List.set_cons_zero, List.set_cons_succ]
        refine ws_late (.bool true) rfl rfl (fun _ => by go_simp) ?_
        simp only [Nat.reduceAdd, Act.put, List.setIfInBounds_toArray, List.set_cons_zero, List.set_cons_succ]
        refine ws_late (.bool true) rfl rfl (fun _ => rfl) ?_
        simp only [Nat.reduceAdd, Act.put, List.setIfInBounds_toArray, List.set_cons_zero, List.set_cons_succ]
        refine ws_late (.bool false) rfl rfl (fun _ => rfl) ?_
        simp only [Nat.reduceAdd, Act.put, List.setIfInBounds_toArray, List.set_cons_zero, List.set_cons_succ]
        refine ws_late (.bool true) rfl rfl (fun _ => by go_simp) ?_
        simp only [Nat.reduceAdd, Act.put, List.setIfInBounds_toArray, List.set_cons_zero, List.set_cons_succ]
        refine ws_late (.bool true) rfl rfl (fun _ => rfl) ?_
        simp only [Nat.reduceAdd, Act.put, List.setIfInBounds_toArray, List.set_cons_zero, List.set_cons_succ]
        refine ws_late (.slice none 0 0) rfl rfl (fun _ => rfl) ?_
        simp only [Nat.reduceAdd, Act.put, List.setIfInBounds_toArray, List.set_cons_zero, List.set_cons_succ]
        refine ws_late (.int .i64 0) rfl rfl (fun w => er_len rfl rfl Try.underlying22 w) ?_
        simp only [Nat.reduceAdd, Act.put, List.setIfInBounds_toArray, List.set_cons_zero, List.set_cons_succ]
        refine ws_late (.bool true) rfl rfl (fun w => run_cmp rfl rfl rfl Try.underlying3 rfl w) ?_
        simp only [Nat.reduceAdd, Act.put, List.setIfInBounds_toArray, List.set_cons_zero, List.set_cons_succ]
        refine ws_late (.bool true) rfl rfl (fun _ => rfl) ?_
        simp only [Nat.reduceAdd, Act.put, List.setIfInBounds_toArray, List.set_cons_zero, List.set_cons_succ]
        refine ws_late (.bool true) rfl rfl (fun _ => rfl) ?_
        simp only [Nat.reduceAdd, Act.put, List.setIfInBounds_toArray, List.set_cons_zero, List.set_cons_succ]
        refine ws_skip_late rfl rfl ?_
        simp only [Nat.reduceAdd, Act.put, List.setIfInBounds_toArray, List.set_cons_zero, List.set_cons_succ]
        refine ws_skip_late rfl rfl ?_
        simp only [Nat.reduceAdd, Act.put, List.setIfInBounds_toArray, List.set_cons_zero, List.set_cons_succ]
        refine ws_skip_late rfl rfl ?_
        simp only [Nat.reduceAdd, Act.put, List.setIfInBounds_toArray, List.set_cons_zero, List.set_cons_succ]
        refine ws_skip rfl rfl ?_
        simp only [Nat.reduceAdd, Act.put, List.setIfInBounds_toArray, List.set_cons_zero, List.set_cons_succ]
        refine ws_skip_late rfl rfl ?_
        simp only [Nat.reduceAdd, Act.put, List.setIfInBounds_toArray, List.set_cons_zero, List.set_cons_succ]
        refine ws_skip_late rfl rfl ?_
        simp only [Nat.reduceAdd, Act.put, List.setIfInBounds_toArray, List.set_cons_zero, List.set_cons_succ]
        refine ws_skip_late rfl rfl ?_
        simp only [Nat.reduceAdd, Act.put, List.setIfInBounds_toArray, List.set_cons_zero, List.set_cons_succ]
        refine ws_skip_late rfl rfl ?_
        simp only [Nat.reduceAdd, Act.put, List.setIfInBounds_toArray, List.set_cons_zero, List.set_cons_succ]
        refine ws_skip_late rfl rfl ?_
        simp only [Nat.reduceAdd, Act.put, List.setIfInBounds_toArray, List.set_cons_zero, List.set_cons_succ]
        refine ws_skip rfl rfl ?_
        simp only [Nat.reduceAdd, Act.put, List.setIfInBounds_toArray, List.set_cons_zero, List.set_cons_succ]
        refine ws_skip_late rfl rfl ?_
        simp only [Nat.reduceAdd, Act.put, List.setIfInBounds_toArray, List.set_cons_zero, List.set_cons_succ]
        refine ws_skip_late rfl rfl ?_
        simp only [Nat.reduceAdd, Act.put, List.setIfInBounds_toArray, List.set_cons_zero, List.set_cons_succ]
        refine ws_late (.bool true) rfl rfl (fun _ => rfl) ?_
        simp only [Nat.reduceAdd, Act.put, List.setIfInBounds_toArray, List.set_cons_zero, List.set_cons_succ]
        refine ws_late (.bool true) rfl rfl (fun _ => rfl) ?_
        simp only [Nat.reduceAdd, Act.put, List.setIfInBounds_toArray, List.set_cons_zero, List.set_cons_succ]
        refine ws_late (.bool true) rfl rfl (fun _ => rfl) ?_
        simp only [Nat.reduceAdd, Act.put, List.setIfInBounds_toArray, List.set_cons_zero, List.set_cons_succ]
        refine ws_nil [] trivial (by simp) ?_
        intro ps10
        simp only [fin, List.foldl_nil, List.map, List.nil_append]
        refine we_then ?_
        refine wc_ret ?_
        refine we_ret1 (.bool true) rfl rfl rfl (fun w1 hE => ?_)
        exact ⟨rfl, hE.below⟩
      · skip
        have p6 : (L.length : Int) < 2 := of_decide_eq_true h6
        refine wc_true rfl ?_
        refine wc_seq ?_
        refine wc_region ?_
        refine wl_val (.bool false) rfl (fun _ => rfl) ?_
        simp only [Act.put, List.setIfInBounds_toArray, List.set_cons_zero, List.set_cons_succ]
        refine wl_val (.bool true) rfl (fun _ => by go_simp) ?_
        simp only [Act.put, List.setIfInBounds_toArray, List.set_cons_zero, List.set_cons_succ]
        refine wl_val (.bool true) rfl (fun _ => rfl) ?_
        simp only [Act.put, List.setIfInBounds_toArray, List.set_cons_zero, List.set_cons_succ]
        refine wl_val (.slice none 0 0) rfl (fun _ => rfl) ?_
        simp only [Act.put, List.setIfInBounds_toArray, List.set_cons_zero, List.set_cons_succ]
        refine wl_val (.int .i64 0) rfl (fun w => er_len rfl rfl Try.underlying22 w) ?_
        simp only [Act.put, List.setIfInBounds_toArray, List.set_cons_zero, List.set_cons_succ]
        refine wl_val (.bool true) rfl (fun w => run_cmp rfl rfl rfl Try.underlying3 rfl w) ?_
        simp only [Act.put, List.setIfInBounds_toArray, List.set_cons_zero, List.set_cons_succ]
        refine wl_val (.bool true) rfl (fun _ => rfl) ?_
        simp only [Act.put, List.setIfInBounds_toArray, List.set_cons_zero, List.set_cons_succ]
        refine wl_val (.bool true) rfl (fun _ => rfl) ?_
        simp only [Act.put, List.setIfInBounds_toArray, List.set_cons_zero, List.set_cons_succ]
        refine wl_nil ?_
        refine we_then ?_
        refine wc_ret ?_
        refine we_then_ret ?_
        refine we_ret1 (.bool true) rfl rfl rfl (fun w1 hE => ?_)
        exact ⟨rfl, hE.below⟩
    · skip
      have ol := opens_len L h5
      refine wl_call_env (ι := Nat) 11 #[.slice p L.length c] (fun g11 => .tuple #[.slice (some ⟨g11, 0, none⟩) (L.length - 2) (L.length - 2), .bool true]) (fun g11 => [⟨g11, (flat ub (L.take (L.length - 2))).toArray, 5⟩]) (fun _ => True) rfl (fun _ => by go_simp) (fun W hE => open_yes L p c W (sl_old (R := []) hL W (hE.sub (List.nil_sublist _))) (by omega) hc h5) ?_
      rintro g11 -
      simp only [List.cons_append, List.nil_append, Act.put, List.setIfInBounds_toArray, List.set_cons_zero, List.set_cons_succ]
      refine wl_val (.tuple #[.slice (some ⟨g11, 0, none⟩) (L.length - 2) (L.length - 2), .bool true]) rfl (fun _ => rfl) ?_
      simp only [Act.put, List.setIfInBounds_toArray, List.set_cons_zero, List.set_cons_succ]
      refine wl_val (.slice (some ⟨g11, 0, none⟩) (L.length - 2) (L.length - 2)) rfl (fun _ => by go_simp) ?_
      simp only [Act.put, List.setIfInBounds_toArray, List.set_cons_zero, List.set_cons_succ]
      refine wl_val (.bool true) rfl (fun _ => by go_simp) ?_
      simp only [Act.put, List.setIfInBounds_toArray, List.set_cons_zero, List.set_cons_succ]
      refine wl_val (.slice (some ⟨g11, 0, none⟩) (L.length - 2) (L.length - 2)) rfl (fun _ => rfl) ?_
      simp only [Act.put, List.setIfInBounds_toArray, List.set_cons_zero, List.set_cons_succ]
      refine wl_val (.bool true) rfl (fun _ => rfl) ?_
      simp only [Act.put, List.setIfInBounds_toArray, List.set_cons_zero, List.set_cons_succ]
      refine wl_nil ?_
      refine we_then ?_
      refine wc_seq ?_
      refine wc_seq ?_
      refine wc_region ?_
      refine wl_val (.slice p L.length c) rfl (fun _ => rfl) ?_
      simp only [Act.put, List.setIfInBounds_toArray, List.set_cons_zero, List.set_cons_succ]
      refine wl_val (.int .i64 (L.length : Int)) rfl (fun w => er_len rfl rfl Try.underlying22 w) ?_
      simp only [Act.put, List.setIfInBounds_toArray, List.set_cons_zero, List.set_cons_succ]
      refine wl_val (.bool (decide ((L.length : Int) < 2))) rfl (fun w => run_cmp rfl rfl rfl Try.underlying3 rfl w) ?_
      simp only [Act.put, List.setIfInBounds_toArray, List.set_cons_zero, List.set_cons_succ]
      refine wl_nil ?_
      refine we_then ?_
      cases h12 : (decide ((L.length : Int) < 2))
      · skip
        have p12 : ¬ ((L.length : Int) < 2) := of_decide_eq_false h12
        refine wc_false rfl ?_
        refine wc_skip ?_
        refine we_then ?_
        refine wc_seq ?_
        refine wc_draw [.late, .late, .late, .late, .late, .plain, .late, .late, .late, .late, .plain, .plain, .late, .late, .late, .late, .late, .late, .plain, .plain, .late, .late, .late, .late] none [] 112 (by kernel_rfl) rfl (by kernel_rfl) (by kernel_rfl) ?_
        refine ws_late (.slice p L.length c) rfl rfl (fun _ => rfl) ?_
        simp only [Nat.reduceAdd, Act.put, List.setIfInBounds_toArray, List.set_cons_zero, List.set_cons_succ]
        refine ws_late (.slice p L.length c) rfl rfl (fun _ => rfl) ?_
        simp only [Nat.reduceAdd, Act.put, List.setIfInBounds_toArray, List.set_cons_zero, List.set_cons_succ]
        refine ws_late (.int .i64 (L.length : Int)) rfl rfl (fun w => er_len rfl rfl Try.underlying22 w) ?_
        simp only [Nat.reduceAdd, Act.put, List.setIfInBounds_toArray, List.set_cons_zero, List.set_cons_succ]
        refine ws_late (.int .i64 ((L.length - 2 : Nat) : Int)) rfl rfl (fun w => run_nat (X := L.length) (Y := 2) (Z := L.length - 2) rfl rfl rfl (natOf_sub (by omega)) (by omega) w) ?_
        simp only [Nat.reduceAdd, Act.put, List.setIfInBounds_toArray, List.set_cons_zero, List.set_cons_succ]
        refine ws_late (.slice p (L.length - 2) c) rfl rfl (fun w => er_take (h := L.length - 2) rfl rfl rfl rfl (by omega) Try.underlying22 (by kernel_rfl) w) ?_
        simp only [Nat.reduceAdd, Act.put, List.setIfInBounds_toArray, List.set_cons_zero, List.set_cons_succ]
        refine ws_call_at 8 #[.slice p (L.length - 2) c] (.int .i64 (((crc 65535#16 (L.take (L.length - 2))).toNat : Nat) : Int)) rfl rfl (fun _ => by go_simp) (fun W hE => ref_at (L.take (L.length - 2)) _ _ _ W (ub_take_len rfl (by omega)) ((sl_take (L.length - 2) (sl_old hL)) W hE) (Nat.le_trans (Nat.le_of_eq (ub_take_len rfl (by omega))) (by omega))) ?_
        simp only [Nat.reduceAdd, Act.put, List.setIfInBounds_toArray, List.set_cons_zero, List.set_cons_succ]
        refine ws_late (.slice p L.length c) rfl rfl (fun _ => rfl) ?_
        simp only [Nat.reduceAdd, Act.put, List.setIfInBounds_toArray, List.set_cons_zero, List.set_cons_succ]
        refine ws_late (.slice p L.length c) rfl rfl (fun _ => rfl) ?_
        simp only [Nat.reduceAdd, Act.put, List.setIfInBounds_toArray, List.set_cons_zero, List.set_cons_succ]
        refine ws_late (.int .i64 (L.length : Int)) rfl rfl (fun w => er_len rfl rfl Try.underlying22 w) ?_
        simp only [Nat.reduceAdd, Act.put, List.setIfInBounds_toArray, List.set_cons_zero, List.set_cons_succ]
        refine ws_late (.int .i64 ((L.length - 2 : Nat) : Int)) rfl rfl (fun w => run_nat (X := L.length) (Y := 2) (Z := L.length - 2) rfl rfl rfl (natOf_sub (by omega)) (by omega) w) ?_
        simp only [Nat.reduceAdd, Act.put, List.setIfInBounds_toArray, List.set_cons_zero, List.set_cons_succ]
        refine ws_read (eaddr p ((L.length - 2) * 1)) rfl rfl (er_index (L.length - 2) 1 (sl_old hL) rfl rfl rfl rfl (by omega) (ub_len1 rfl) (by decide) Try.underlying22 (by kernel_rfl)) ?_
        simp only [Nat.reduceAdd, Act.put, List.setIfInBounds_toArray, List.set_cons_zero, List.set_cons_succ]
        refine ws_read (.int .u8 ((L[L.length - 2]!).toNat : Int)) rfl rfl (er_cell ((L.length - 2) * 1) (.int .u8 ((L[L.length - 2]!).toNat : Int)) (sl_old hL) rfl rfl (flat_cell (enc := ub) (fun _ => rfl) L (L.length - 2) 0 (by omega) (by decide)) Try.isAgg5) ?_
        simp only [Nat.reduceAdd, Act.put, List.setIfInBounds_toArray, List.set_cons_zero, List.set_cons_succ]
        have q13 : (L[L.length - 2]!).toNat < 256 := ((L[L.length - 2]!).toBitVec).isLt
        refine ws_late (.int .i64 (((L[L.length - 2]!).toNat : Nat) : Int)) rfl rfl (fun w => run_conv (X := ((L[L.length - 2]!).toNat : Int)) rfl rfl Try.underlying5 Try.underlying3 (i64_in (by omega) (by omega)) w) ?_
        simp only [Nat.reduceAdd, Act.put, List.setIfInBounds_toArray, List.set_cons_zero, List.set_cons_succ]
        refine ws_late (.int .i64 ((((L[L.length - 2]!).toNat) * 256 : Nat) : Int)) rfl rfl (fun w => run_nat (X := (L[L.length - 2]!).toNat) (Y := 256) (Z := ((L[L.length - 2]!).toNat) * 256) rfl rfl rfl rfl (by omega) w) ?_
        simp only [Nat.reduceAdd, Act.put, List.setIfInBounds_toArray, List.set_cons_zero, List.set_cons_succ]
        refine ws_late (.slice p L.length c) rfl rfl (fun _ => rfl) ?_
        simp only [Nat.reduceAdd, Act.put, List.setIfInBounds_toArray, List.set_cons_zero, List.set_cons_succ]
        refine ws_late (.slice p L.length c) rfl rfl (fun _ => rfl) ?_
        simp only [Nat.reduceAdd, Act.put, List.setIfInBounds_toArray, List.set_cons_zero, List.set_cons_succ]
        refine ws_late (.int .i64 (L.length : Int)) rfl rfl (fun w => er_len rfl rfl Try.underlying22 w) ?_
        simp only [Nat.reduceAdd, Act.put, List.setIfInBounds_toArray, List.set_cons_zero, List.set_cons_succ]
        refine ws_late (.int .i64 ((L.length - 1 : Nat) : Int)) rfl rfl (fun w => run_nat (X := L.length) (Y := 1) (Z := L.length - 1) rfl rfl rfl (natOf_sub (by omega)) (by omega) w) ?_
        simp only [Nat.reduceAdd, Act.put, List.setIfInBounds_toArray, List.set_cons_zero, List.set_cons_succ]
        refine ws_read (eaddr p ((L.length - 1) * 1)) rfl rfl (er_index (L.length - 1) 1 (sl_old hL) rfl rfl rfl rfl (by omega) (ub_len1 rfl) (by decide) Try.underlying22 (by kernel_rfl)) ?_
        simp only [Nat.reduceAdd, Act.put, List.setIfInBounds_toArray, List.set_cons_zero, List.set_cons_succ]
        refine ws_read (.int .u8 ((L[L.length - 1]!).toNat : Int)) rfl rfl (er_cell ((L.length - 1) * 1) (.int .u8 ((L[L.length - 1]!).toNat : Int)) (sl_old hL) rfl rfl (flat_cell (enc := ub) (fun _ => rfl) L (L.length - 1) 0 (by omega) (by decide)) Try.isAgg5) ?_
        simp only [Nat.reduceAdd, Act.put, List.setIfInBounds_toArray, List.set_cons_zero, List.set_cons_succ]
        have q14 : (L[L.length - 1]!).toNat < 256 := ((L[L.length - 1]!).toBitVec).isLt
        refine ws_late (.int .i64 (((L[L.length - 1]!).toNat : Nat) : Int)) rfl rfl (fun w => run_conv (X := ((L[L.length - 1]!).toNat : Int)) rfl rfl Try.underlying5 Try.underlying3 (i64_in (by omega) (by omega)) w) ?_
        simp only [Nat.reduceAdd, Act.put, List.setIfInBounds_toArray, List.set_cons_zero, List.set_cons_succ]
        refine ws_late (.int .i64 (((((L[L.length - 2]!).toNat) * 256) + ((L[L.length - 1]!).toNat) : Nat) : Int)) rfl rfl (fun w => run_nat (X := ((L[L.length - 2]!).toNat) * 256) (Y := (L[L.length - 1]!).toNat) (Z := (((L[L.length - 2]!).toNat) * 256) + ((L[L.length - 1]!).toNat)) rfl rfl rfl rfl (by omega) w) ?_
        simp only [Nat.reduceAdd, Act.put, List.setIfInBounds_toArray, List.set_cons_zero, List.set_cons_succ]
        refine ws_late (.bool true) rfl rfl (fun w => run_ieq (b := true) rfl rfl rfl Try.underlying3 (own_yes L h5) w) ?_
        simp only [Nat.reduceAdd, Act.put, List.setIfInBounds_toArray, List.set_cons_zero, List.set_cons_succ]
        refine ws_late (.bool true) rfl rfl (fun _ => rfl) ?_
        simp only [Nat.reduceAdd, Act.put, List.setIfInBounds_toArray, List.set_cons_zero, List.set_cons_succ]
        refine ws_nil [] trivial (by simp) ?_
        intro ps15
        simp only [fin, List.foldl_nil, List.map, List.nil_append]
        refine we_then ?_
        refine wc_seq ?_
        refine wc_draw [.late, .late, .late, .late, .late, .late, .late, .late, .late, .late, .late, .late, .late, .late, .late, .plain, .late, .late, .late, .late, .late, .plain, .late, .late, .late, .late, .late] none [] 112 (by kernel_rfl) rfl (by kernel_rfl) (by kernel_rfl) ?_
        refine ws_late (.bool true) rfl rfl (fun _ => rfl) ?_
        simp only [Nat.reduceAdd, Act.put, List.setIfInBounds_toArray, List.set_cons_zero, List.set_cons_succ]
        refine ws_late (.bool true) rfl rfl (fun _ => rfl) ?_
        simp only [Nat.reduceAdd, Act.put, List.setIfInBounds_toArray, List.set_cons_zero, List.set_cons_succ]
        refine ws_late (.bool true) rfl rfl (fun _ => by go_simp) ?_
        simp only [Nat.reduceAdd, Act.put, List.setIfInBounds_toArray, List.set_cons_zero, List.set_cons_succ]
        refine ws_late (.bool true) rfl rfl (fun _ => rfl) ?_
        simp only [Nat.reduceAdd, Act.put, List.setIfInBounds_toArray, List.set_cons_zero, List.set_cons_succ]
        refine ws_late (.bool true) rfl rfl (fun _ => rfl) ?_
        simp only [Nat.reduceAdd, Act.put, List.setIfInBounds_toArray, List.set_cons_zero, List.set_cons_succ]
        refine ws_late (.bool false) rfl rfl (fun _ => by go_simp) ?_
        simp only [Nat.reduceAdd, Act.put, List.setIfInBounds_toArray, List.set_cons_zero, List.set_cons_succ]
        refine ws_late (.bool false) rfl rfl (fun _ => rfl) ?_
        simp only [Nat.reduceAdd, Act.put, List.setIfInBounds_toArray, List.set_cons_zero, List.set_cons_succ]
        refine ws_skip_late rfl rfl ?_
        simp only [Nat.reduceAdd, Act.put, List.setIfInBounds_toArray, List.set_cons_zero, List.set_cons_succ]
        refine ws_skip_late rfl rfl ?_
        simp only [Nat.reduceAdd, Act.put, List.setIfInBounds_toArray, List.set_cons_zero, List.set_cons_succ]
        refine ws_skip_late rfl rfl ?_
        simp only [Nat.reduceAdd, Act.put, List.setIfInBounds_toArray, List.set_cons_zero, List.set_cons_succ]
        refine ws_late (.bool false) rfl rfl (fun _ => rfl) ?_
        simp only [Nat.reduceAdd, Act.put, List.setIfInBounds_toArray, List.set_cons_zero, List.set_cons_succ]
        refine ws_late (.bool false) rfl rfl (fun _ => rfl) ?_
        simp only [Nat.reduceAdd, Act.put, List.setIfInBounds_toArray, List.set_cons_zero, List.set_cons_succ]
        refine ws_late (.bool true) rfl rfl (fun _ => rfl) ?_
        simp only [Nat.reduceAdd, Act.put, List.setIfInBounds_toArray, List.set_cons_zero, List.set_cons_succ]
        refine ws_late (.bool true) rfl rfl (fun _ => rfl) ?_
        simp only [Nat.reduceAdd, Act.put, List.setIfInBounds_toArray, List.set_cons_zero, List.set_cons_succ]
        refine ws_late (.slice (some ⟨g11, 0, none⟩) (L.length - 2) (L.length - 2)) rfl rfl (fun _ => rfl) ?_
        simp only [Nat.reduceAdd, Act.put, List.setIfInBounds_toArray, List.set_cons_zero, List.set_cons_succ]
        refine ws_read (.string (str (L.take (L.length - 2)))) rfl rfl (er_string (L := L.take (L.length - 2)) (sl_mk 0 (L := L.take (L.length - 2)) rfl) (ub_take_len rfl (by omega)) rfl rfl Try.underlying22 Try.underlying5 Try.underlying9) ?_
        simp only [Nat.reduceAdd, Act.put, List.setIfInBounds_toArray, List.set_cons_zero, List.set_cons_succ]
        refine ws_late (.slice p L.length c) rfl rfl (fun _ => rfl) ?_
        simp only [Nat.reduceAdd, Act.put, List.setIfInBounds_toArray, List.set_cons_zero, List.set_cons_succ]
        refine ws_late (.slice p L.length c) rfl rfl (fun _ => rfl) ?_
        simp only [Nat.reduceAdd, Act.put, List.setIfInBounds_toArray, List.set_cons_zero, List.set_cons_succ]
        refine ws_late (.int .i64 (L.length : Int)) rfl rfl (fun w => er_len rfl rfl Try.underlying22 w) ?_
        simp only [Nat.reduceAdd, Act.put, List.setIfInBounds_toArray, List.set_cons_zero, List.set_cons_succ]
        refine ws_late (.int .i64 ((L.length - 2 : Nat) : Int)) rfl rfl (fun w => run_nat (X := L.length) (Y := 2) (Z := L.length - 2) rfl rfl rfl (natOf_sub (by omega)) (by omega) w) ?_
        simp only [Nat.reduceAdd, Act.put, List.setIfInBounds_toArray, List.set_cons_zero, List.set_cons_succ]
        refine ws_late (.slice p (L.length - 2) c) rfl rfl (fun w => er_take (h := L.length - 2) rfl rfl rfl rfl (by omega) Try.underlying22 (by kernel_rfl) w) ?_
        simp only [Nat.reduceAdd, Act.put, List.setIfInBounds_toArray, List.set_cons_zero, List.set_cons_succ]
        refine ws_read (.string (str (L.take (L.length - 2)))) rfl rfl (er_string (L := L.take (L.length - 2)) (sl_take (L.length - 2) (sl_old hL)) (ub_take_len rfl (by omega)) rfl rfl Try.underlying22 Try.underlying5 Try.underlying9) ?_
        simp only [Nat.reduceAdd, Act.put, List.setIfInBounds_toArray, List.set_cons_zero, List.set_cons_succ]
        refine ws_late (.bool true) rfl rfl (fun w => run_streq rfl rfl rfl (by simp) w) ?_
        simp only [Nat.reduceAdd, Act.put, List.setIfInBounds_toArray, List.set_cons_zero, List.set_cons_succ]
        refine ws_late (.bool true) rfl rfl (fun _ => rfl) ?_
        simp only [Nat.reduceAdd, Act.put, List.setIfInBounds_toArray, List.set_cons_zero, List.set_cons_succ]
        refine ws_late (.bool true) rfl rfl (fun _ => rfl) ?_
        simp only [Nat.reduceAdd, Act.put, List.setIfInBounds_toArray, List.set_cons_zero, List.set_cons_succ]
        refine ws_late (.bool true) rfl rfl (fun _ => rfl) ?_
        simp only [Nat.reduceAdd, Act.put, List.setIfInBounds_toArray, List.set_cons_zero, List.set_cons_succ]
        refine ws_late (.bool true) rfl rfl (fun _ => rfl) ?_
        simp only [Nat.reduceAdd, Act.put, List.setIfInBounds_toArray, List.set_cons_zero, List.set_cons_succ]
        refine ws_nil [] trivial (by simp) ?_
        intro ps16
        simp only [fin, List.foldl_nil, List.map, List.nil_append]
        refine we_then ?_
        refine wc_ret ?_
        refine we_ret1 (.bool true) rfl rfl rfl (fun w1 hE => ?_)
        exact ⟨rfl, hE.below⟩
      · skip
        have p12 : (L.length : Int) < 2 := of_decide_eq_true h12
        exact (by exfalso; omega)
  · skip
    have p1 : 2000 < (L.length : Int) := of_decide_eq_true h1
    refine wc_true rfl ?_
    refine wc_seq ?_
    refine wc_region ?_
    refine wl_val (.bool true) rfl (fun _ => rfl) ?_
    simp only [Act.put, List.setIfInBounds_toArray, List.set_cons_zero, List.set_cons_succ]
    refine wl_nil ?_
    refine we_then ?_
    refine wc_ret ?_
    refine we_then_ret ?_
    refine we_ret1 (.bool true) rfl rfl rfl (fun w1 hE => ?_)
    exact ⟨rfl, hE.below⟩
end Go.Proofs.Ytbeplgamellahaa.Walks
