/-
  CrcAdds: the law's walk. No condition.
-/
import Derived.Test.YtbeplgamellahaaCref
namespace Go.Proofs.Ytbeplgamellahaa.Walks
open Go.ChangeShapes Go.WideShapes Go.ChangeAt Go.RowKit
open Arr Steady Sx Sw Sl Sb Cr Crc Cref
set_option linter.unusedVariables false
set_option linter.unusedSimpArgs false
set_option maxRecDepth 100000

theorem adds_same (A B C : List UInt8) (n i : Nat) (h : i = n) (ha : n ≤ A.length) (hb : n ≤ B.length) (hc : n ≤ C.length) : crc 65535#16 (mix A B C n i) = crc 65535#16 (A.take n) ^^^ crc 65535#16 (B.take n) ^^^ crc 65535#16 (C.take n) := by
  rw [h, mix_all, crc_xor3 _ _ _ _ ha hb hc]
set_option maxHeartbeats 2000000 in
theorem crcAdds_walk (A : List UInt8) (p : Option Addr) (c : Nat) (B : List UInt8) (q : Option Addr) (d : Nat) (C : List UInt8) (r : Option Addr) (k : Nat) (w : World) (hA : Reads w p (flat ub A)) (hcA : A.length ≤ c) (hmA : c ≤ maxLen) (hB : Reads w q (flat ub B)) (hcB : B.length ≤ d) (hmB : d ≤ maxLen) (hC : Reads w r (flat ub C)) (hcC : C.length ≤ k) (hmC : k ≤ maxLen) :
    Calls Try.prog 5 #[.slice p A.length c, .slice q B.length d, .slice r C.length k] w fun e w' => e = .returned (.bool true) ∧ Below w.heap.size w w' := by
  refine calls_sx Try.func5 rfl ?_
  simp only [Try.ntmps5, List.size_toArray, List.length_cons, List.length_nil, Nat.reduceAdd, Nat.reduceSub, Array.replicate_succ, Array.replicate_zero, List.push_toArray, List.append_toArray, List.nil_append, List.cons_append]
  refine wc_seq ?_
  refine wc_region ?_
  refine wl_val (.bool false) rfl (fun _ => rfl) ?_
  simp only [Act.put, List.setIfInBounds_toArray, List.set_cons_zero, List.set_cons_succ]
  refine wl_nil ?_
  refine we_then ?_
  refine wc_seq ?_
  refine wc_seq ?_
  refine wc_region ?_
  refine wl_call 6 #[] (.bool true) rfl (fun _ => by go_simp) (fun W => anchor_any W) ?_
  simp only [Act.put, List.setIfInBounds_toArray, List.set_cons_zero, List.set_cons_succ]
  refine wl_val (.bool false) rfl (fun _ => by go_simp) ?_
  simp only [Act.put, List.setIfInBounds_toArray, List.set_cons_zero, List.set_cons_succ]
  refine wl_nil ?_
  refine we_then ?_
  refine wc_false rfl ?_
  refine wc_skip ?_
  refine we_then ?_
  refine wc_seq ?_
  refine wc_region ?_
  refine wl_val (.slice p A.length c) rfl (fun _ => rfl) ?_
  simp only [Act.put, List.setIfInBounds_toArray, List.set_cons_zero, List.set_cons_succ]
  refine wl_val (.int .i64 (A.length : Int)) rfl (fun w => er_len rfl rfl Try.underlying22 w) ?_
  simp only [Act.put, List.setIfInBounds_toArray, List.set_cons_zero, List.set_cons_succ]
  refine wl_val (.slice q B.length d) rfl (fun _ => rfl) ?_
  simp only [Act.put, List.setIfInBounds_toArray, List.set_cons_zero, List.set_cons_succ]
  refine wl_val (.int .i64 (B.length : Int)) rfl (fun w => er_len rfl rfl Try.underlying22 w) ?_
  simp only [Act.put, List.setIfInBounds_toArray, List.set_cons_zero, List.set_cons_succ]
  refine wl_val (.slice r C.length k) rfl (fun _ => rfl) ?_
  simp only [Act.put, List.setIfInBounds_toArray, List.set_cons_zero, List.set_cons_succ]
  refine wl_val (.int .i64 (C.length : Int)) rfl (fun w => er_len rfl rfl Try.underlying22 w) ?_
  simp only [Act.put, List.setIfInBounds_toArray, List.set_cons_zero, List.set_cons_succ]
  refine wl_val (.int .i64 ((min (min (min A.length B.length) C.length) 1000 : Nat) : Int)) rfl (fun w => run_min4 rfl rfl rfl rfl rfl w) ?_
  simp only [Act.put, List.setIfInBounds_toArray, List.set_cons_zero, List.set_cons_succ]
  refine wl_val (.int .i64 ((min (min (min A.length B.length) C.length) 1000 : Nat) : Int)) rfl (fun _ => rfl) ?_
  simp only [Act.put, List.setIfInBounds_toArray, List.set_cons_zero, List.set_cons_succ]
  refine wl_nil ?_
  refine we_then ?_
  refine wc_seq ?_
  obtain ⟨n, hn⟩ : ∃ n, n = min (min (min A.length B.length) C.length) 1000 := ⟨_, rfl⟩
  rw [← hn]
  refine wc_region ?_
  refine wl_val (.int .i64 (n : Int)) rfl (fun _ => rfl) ?_
  simp only [Act.put, List.setIfInBounds_toArray, List.set_cons_zero, List.set_cons_succ]
  refine wl_make (e := 5) n rfl rfl rfl rfl rfl rfl (by omega) Try.underlying22 (by kernel_rfl) ?_
  intro g1
  simp only [Act.put, List.setIfInBounds_toArray, List.set_cons_zero, List.set_cons_succ]
  refine wl_val (.slice (some ⟨g1, 0, none⟩) n n) rfl (fun _ => rfl) ?_
  simp only [Act.put, List.setIfInBounds_toArray, List.set_cons_zero, List.set_cons_succ]
  refine wl_nil ?_
  refine we_then ?_
  refine wc_seq ?_
  refine wc_seq ?_
  refine wc_region ?_
  refine wl_val (.slice (some ⟨g1, 0, none⟩) n n) rfl (fun _ => rfl) ?_
  simp only [Act.put, List.setIfInBounds_toArray, List.set_cons_zero, List.set_cons_succ]
  refine wl_val (.int .i64 (n : Int)) rfl (fun w => er_len rfl rfl Try.underlying22 w) ?_
  simp only [Act.put, List.setIfInBounds_toArray, List.set_cons_zero, List.set_cons_succ]
  refine wl_val (.int .i64 0) rfl (fun _ => rfl) ?_
  simp only [Act.put, List.setIfInBounds_toArray, List.set_cons_zero, List.set_cons_succ]
  refine wl_nil ?_
  refine we_then ?_
  refine wc_block ?_
  rw [← mix_zero A B C n]
  refine wc_loop (fun (zz : Nat × Value × Value × Value × Value × Value × Value × Value × Value × Value × Value × Value × Value × Value × Value × Value × Value × Value × Value × Value × Value × Value) => match zz with | ⟨i, u9, u24, u25, u26, u27, u28, u29, u30, u31, u32, u33, u34, u35, u36, u37, u38, u39, u40, u41, u42, u43⟩ => ({ tmps := #[.slice p A.length c, .slice q B.length d, .slice r C.length k, undef, undef, undef, .bool false, .int .i64 (n : Int), .slice (some ⟨g1, 0, none⟩) n n, u9, .bool true, .bool false, .slice p A.length c, .int .i64 (A.length : Int), .slice q B.length d, .int .i64 (B.length : Int), .slice r C.length k, .int .i64 (C.length : Int), .int .i64 (n : Int), .int .i64 (n : Int), .slice (some ⟨g1, 0, none⟩) n n, .slice (some ⟨g1, 0, none⟩) n n, .int .i64 (n : Int), .int .i64 (i : Int), u24, u25, u26, u27, u28, u29, u30, u31, u32, u33, u34, u35, u36, u37, u38, u39, u40, u41, u42, u43, undef, undef, undef, undef, undef, undef, undef, undef, undef, undef, undef, undef, undef, undef, undef, undef, undef], defers := [] } : Act)) (fun (zz : Nat × Value × Value × Value × Value × Value × Value × Value × Value × Value × Value × Value × Value × Value × Value × Value × Value × Value × Value × Value × Value × Value) => match zz with | ⟨i, u9, u24, u25, u26, u27, u28, u29, u30, u31, u32, u33, u34, u35, u36, u37, u38, u39, u40, u41, u42, u43⟩ => [⟨g1, (flat ub (mix A B C n i)).toArray, 5⟩]) (fun (zz : Nat × Value × Value × Value × Value × Value × Value × Value × Value × Value × Value × Value × Value × Value × Value × Value × Value × Value × Value × Value × Value × Value) => match zz with | ⟨i, u9, u24, u25, u26, u27, u28, u29, u30, u31, u32, u33, u34, u35, u36, u37, u38, u39, u40, u41, u42, u43⟩ => i ≤ n) (fun (zz : Nat × Value × Value × Value × Value × Value × Value × Value × Value × Value × Value × Value × Value × Value × Value × Value × Value × Value × Value × Value × Value × Value) => match zz with | ⟨i, u9, u24, u25, u26, u27, u28, u29, u30, u31, u32, u33, u34, u35, u36, u37, u38, u39, u40, u41, u42, u43⟩ => n - i) ⟨0, _, _, _, _, _, _, _, _, _, _, _, _, _, _, _, _, _, _, _, _, _⟩ (by (try dsimp only); omega) rfl (List.Sublist.cons_cons _ List.Sublist.slnil) ?_
  rintro ⟨i, u9, u24, u25, u26, u27, u28, u29, u30, u31, u32, u33, u34, u35, u36, u37, u38, u39, u40, u41, u42, u43⟩ hφ
  (try dsimp only at hφ ⊢)
  refine wc_seq ?_
  refine wc_region ?_
  refine wl_val (.bool (decide ((i : Int) < (n : Int)))) rfl (fun w => run_cmp rfl rfl rfl Try.underlying3 rfl w) ?_
  simp only [Act.put, List.setIfInBounds_toArray, List.set_cons_zero, List.set_cons_succ]
  refine wl_nil ?_
  refine we_then ?_
  refine wc_seq ?_
  cases h2 : (decide ((i : Int) < (n : Int)))
  · skip
    have p2 : ¬ ((i : Int) < (n : Int)) := of_decide_eq_false h2
    refine wc_false rfl ?_
    refine wc_exit ?_
    refine we_then_exit ?_
    refine we_then_exit ?_
    refine we_in_here ?_
    refine we_then ?_
    refine wc_seq ?_
    refine wc_draw [.late, .plain, .late, .late, .late, .plain, .late, .late, .late, .plain, .late, .late, .late, .late, .plain, .late, .late, .late] none [] 61 (by kernel_rfl) rfl (by kernel_rfl) (by kernel_rfl) ?_
    refine ws_late (.slice (some ⟨g1, 0, none⟩) n n) rfl rfl (fun _ => rfl) ?_
    simp only [Nat.reduceAdd, Act.put, List.setIfInBounds_toArray, List.set_cons_zero, List.set_cons_succ]
    refine ws_call_at 7 #[.slice (some ⟨g1, 0, none⟩) n n] (.int .u16 ((crc 65535#16 (mix A B C n i)).toNat : Int)) rfl rfl (fun _ => by go_simp) (fun W hE => sum_at (mix A B C n i) _ _ _ W (mix_length _ _ _ _ _) ((sl_mk 0 (L := mix A B C n i) rfl) W hE) (Nat.le_trans (Nat.le_of_eq (mix_length _ _ _ _ _)) (by omega))) ?_
    simp only [Nat.reduceAdd, Act.put, List.setIfInBounds_toArray, List.set_cons_zero, List.set_cons_succ]
    refine ws_late (.slice p A.length c) rfl rfl (fun _ => rfl) ?_
    simp only [Nat.reduceAdd, Act.put, List.setIfInBounds_toArray, List.set_cons_zero, List.set_cons_succ]
    refine ws_late (.int .i64 (n : Int)) rfl rfl (fun _ => rfl) ?_
    simp only [Nat.reduceAdd, Act.put, List.setIfInBounds_toArray, List.set_cons_zero, List.set_cons_succ]
    refine ws_late (.slice p n c) rfl rfl (fun w => er_take (h := n) rfl rfl rfl rfl (by omega) Try.underlying22 (by kernel_rfl) w) ?_
    simp only [Nat.reduceAdd, Act.put, List.setIfInBounds_toArray, List.set_cons_zero, List.set_cons_succ]
    refine ws_call_at 7 #[.slice p n c] (.int .u16 ((crc 65535#16 (A.take n)).toNat : Int)) rfl rfl (fun _ => by go_simp) (fun W hE => sum_at (A.take n) _ _ _ W (ub_take_len rfl (by omega)) ((sl_take n (sl_old hA)) W hE) (Nat.le_trans (Nat.le_of_eq (ub_take_len rfl (by omega))) (by omega))) ?_
    simp only [Nat.reduceAdd, Act.put, List.setIfInBounds_toArray, List.set_cons_zero, List.set_cons_succ]
    refine ws_late (.slice q B.length d) rfl rfl (fun _ => rfl) ?_
    simp only [Nat.reduceAdd, Act.put, List.setIfInBounds_toArray, List.set_cons_zero, List.set_cons_succ]
    refine ws_late (.int .i64 (n : Int)) rfl rfl (fun _ => rfl) ?_
    simp only [Nat.reduceAdd, Act.put, List.setIfInBounds_toArray, List.set_cons_zero, List.set_cons_succ]
    refine ws_late (.slice q n d) rfl rfl (fun w => er_take (h := n) rfl rfl rfl rfl (by omega) Try.underlying22 (by kernel_rfl) w) ?_
    simp only [Nat.reduceAdd, Act.put, List.setIfInBounds_toArray, List.set_cons_zero, List.set_cons_succ]
    refine ws_call_at 7 #[.slice q n d] (.int .u16 ((crc 65535#16 (B.take n)).toNat : Int)) rfl rfl (fun _ => by go_simp) (fun W hE => sum_at (B.take n) _ _ _ W (ub_take_len rfl (by omega)) ((sl_take n (sl_old hB)) W hE) (Nat.le_trans (Nat.le_of_eq (ub_take_len rfl (by omega))) (by omega))) ?_
    simp only [Nat.reduceAdd, Act.put, List.setIfInBounds_toArray, List.set_cons_zero, List.set_cons_succ]
    refine ws_late (.int .u16 (((crc 65535#16 (A.take n)) ^^^ (crc 65535#16 (B.take n))).toNat : Int)) rfl rfl (fun w => run_bits (k := .u16) (X := crc 65535#16 (A.take n)) (Y := crc 65535#16 (B.take n)) (Z := (crc 65535#16 (A.take n)) ^^^ (crc 65535#16 (B.take n))) rfl rfl rfl rfl rfl w) ?_
    simp only [Nat.reduceAdd, Act.put, List.setIfInBounds_toArray, List.set_cons_zero, List.set_cons_succ]
    refine ws_late (.slice r C.length k) rfl rfl (fun _ => rfl) ?_
    simp only [Nat.reduceAdd, Act.put, List.setIfInBounds_toArray, List.set_cons_zero, List.set_cons_succ]
    refine ws_late (.int .i64 (n : Int)) rfl rfl (fun _ => rfl) ?_
    simp only [Nat.reduceAdd, Act.put, List.setIfInBounds_toArray, List.set_cons_zero, List.set_cons_succ]
    refine ws_late (.slice r n k) rfl rfl (fun w => er_take (h := n) rfl rfl rfl rfl (by omega) Try.underlying22 (by kernel_rfl) w) ?_
    simp only [Nat.reduceAdd, Act.put, List.setIfInBounds_toArray, List.set_cons_zero, List.set_cons_succ]
    refine ws_call_at 7 #[.slice r n k] (.int .u16 ((crc 65535#16 (C.take n)).toNat : Int)) rfl rfl (fun _ => by go_simp) (fun W hE => sum_at (C.take n) _ _ _ W (ub_take_len rfl (by omega)) ((sl_take n (sl_old hC)) W hE) (Nat.le_trans (Nat.le_of_eq (ub_take_len rfl (by omega))) (by omega))) ?_
    simp only [Nat.reduceAdd, Act.put, List.setIfInBounds_toArray, List.set_cons_zero, List.set_cons_succ]
    refine ws_late (.int .u16 ((((crc 65535#16 (A.take n)) ^^^ (crc 65535#16 (B.take n))) ^^^ (crc 65535#16 (C.take n))).toNat : Int)) rfl rfl (fun w => run_bits (k := .u16) (X := (crc 65535#16 (A.take n)) ^^^ (crc 65535#16 (B.take n))) (Y := crc 65535#16 (C.take n)) (Z := ((crc 65535#16 (A.take n)) ^^^ (crc 65535#16 (B.take n))) ^^^ (crc 65535#16 (C.take n))) rfl rfl rfl rfl rfl w) ?_
    simp only [Nat.reduceAdd, Act.put, List.setIfInBounds_toArray, List.set_cons_zero, List.set_cons_succ]
    refine ws_late (.bool true) rfl rfl (fun w => run_bveq (b := true) (k := .u16) (X := crc 65535#16 (mix A B C n i)) (Y := crc 65535#16 (A.take n) ^^^ crc 65535#16 (B.take n) ^^^ crc 65535#16 (C.take n)) rfl rfl rfl Try.underlying24 (bv_same (n := 16) (adds_same A B C n i (by omega) (by omega) (by omega) (by omega))) w) ?_
    simp only [Nat.reduceAdd, Act.put, List.setIfInBounds_toArray, List.set_cons_zero, List.set_cons_succ]
    refine ws_late (.bool true) rfl rfl (fun _ => rfl) ?_
    simp only [Nat.reduceAdd, Act.put, List.setIfInBounds_toArray, List.set_cons_zero, List.set_cons_succ]
    refine ws_nil [] trivial (by simp) ?_
    intro ps3
    simp only [fin, List.foldl_nil, List.map, List.nil_append]
    refine we_then ?_
    refine wc_ret ?_
    refine we_ret1 (.bool true) rfl rfl rfl (fun w1 hE => ?_)
    exact ⟨rfl, hE.below⟩
  · skip
    have p2 : (i : Int) < (n : Int) := of_decide_eq_true h2
    refine wc_true rfl ?_
    refine wc_skip ?_
    refine we_then ?_
    refine wc_seq ?_
    refine wc_block ?_
    refine wc_seq ?_
    refine wc_region ?_
    refine wl_val (.int .i64 (i : Int)) rfl (fun _ => rfl) ?_
    simp only [Act.put, List.setIfInBounds_toArray, List.set_cons_zero, List.set_cons_succ]
    refine wl_val (.int .i64 (i : Int)) rfl (fun _ => rfl) ?_
    simp only [Act.put, List.setIfInBounds_toArray, List.set_cons_zero, List.set_cons_succ]
    refine wl_nil ?_
    refine we_then ?_
    refine wc_draw [.late, .late, .late, .late, .plain, .plain, .late, .late, .plain, .plain, .late, .late, .late, .plain, .plain, .late, .plain, .over] (some ⟨17, g1, 5, (flat ub (mix A B C n i)).toArray, (flat ub ((mix A B C n i).set i (UInt8.ofBitVec ((((A[i]!).toBitVec) ^^^ ((B[i]!).toBitVec)) ^^^ ((C[i]!).toBitVec))))).toArray⟩) [] 61 (by kernel_rfl) rfl (by kernel_rfl) (by kernel_rfl) ?_
    refine ws_late (.slice (some ⟨g1, 0, none⟩) n n) rfl rfl (fun _ => rfl) ?_
    simp only [Nat.reduceAdd, Act.put, List.setIfInBounds_toArray, List.set_cons_zero, List.set_cons_succ]
    refine ws_late (.int .i64 (i : Int)) rfl rfl (fun _ => rfl) ?_
    simp only [Nat.reduceAdd, Act.put, List.setIfInBounds_toArray, List.set_cons_zero, List.set_cons_succ]
    refine ws_late (.slice p A.length c) rfl rfl (fun _ => rfl) ?_
    simp only [Nat.reduceAdd, Act.put, List.setIfInBounds_toArray, List.set_cons_zero, List.set_cons_succ]
    refine ws_late (.int .i64 (i : Int)) rfl rfl (fun _ => rfl) ?_
    simp only [Nat.reduceAdd, Act.put, List.setIfInBounds_toArray, List.set_cons_zero, List.set_cons_succ]
    refine ws_read (eaddr p (i * 1)) rfl rfl (er_index i 1 (sl_old hA) rfl rfl rfl rfl (by omega) (ub_len1 rfl) (by decide) Try.underlying22 (by kernel_rfl)) ?_
    simp only [Nat.reduceAdd, Act.put, List.setIfInBounds_toArray, List.set_cons_zero, List.set_cons_succ]
    refine ws_read (.int .u8 ((A[i]!).toNat : Int)) rfl rfl (er_cell (i * 1) (.int .u8 ((A[i]!).toNat : Int)) (sl_old hA) rfl rfl (flat_cell (enc := ub) (fun _ => rfl) A i 0 (by omega) (by decide)) Try.isAgg5) ?_
    simp only [Nat.reduceAdd, Act.put, List.setIfInBounds_toArray, List.set_cons_zero, List.set_cons_succ]
    refine ws_late (.slice q B.length d) rfl rfl (fun _ => rfl) ?_
    simp only [Nat.reduceAdd, Act.put, List.setIfInBounds_toArray, List.set_cons_zero, List.set_cons_succ]
    refine ws_late (.int .i64 (i : Int)) rfl rfl (fun _ => rfl) ?_
    simp only [Nat.reduceAdd, Act.put, List.setIfInBounds_toArray, List.set_cons_zero, List.set_cons_succ]
    refine ws_read (eaddr q (i * 1)) rfl rfl (er_index i 1 (sl_old hB) rfl rfl rfl rfl (by omega) (ub_len1 rfl) (by decide) Try.underlying22 (by kernel_rfl)) ?_
    simp only [Nat.reduceAdd, Act.put, List.setIfInBounds_toArray, List.set_cons_zero, List.set_cons_succ]
    refine ws_read (.int .u8 ((B[i]!).toNat : Int)) rfl rfl (er_cell (i * 1) (.int .u8 ((B[i]!).toNat : Int)) (sl_old hB) rfl rfl (flat_cell (enc := ub) (fun _ => rfl) B i 0 (by omega) (by decide)) Try.isAgg5) ?_
    simp only [Nat.reduceAdd, Act.put, List.setIfInBounds_toArray, List.set_cons_zero, List.set_cons_succ]
    refine ws_late (.int .u8 ((((A[i]!).toBitVec) ^^^ ((B[i]!).toBitVec)).toNat : Int)) rfl rfl (fun w => run_bits (k := .u8) (X := (A[i]!).toBitVec) (Y := (B[i]!).toBitVec) (Z := ((A[i]!).toBitVec) ^^^ ((B[i]!).toBitVec)) rfl rfl rfl rfl rfl w) ?_
    simp only [Nat.reduceAdd, Act.put, List.setIfInBounds_toArray, List.set_cons_zero, List.set_cons_succ]
    refine ws_late (.slice r C.length k) rfl rfl (fun _ => rfl) ?_
    simp only [Nat.reduceAdd, Act.put, List.setIfInBounds_toArray, List.set_cons_zero, List.set_cons_succ]
    refine ws_late (.int .i64 (i : Int)) rfl rfl (fun _ => rfl) ?_
    simp only [Nat.reduceAdd, Act.put, List.setIfInBounds_toArray, List.set_cons_zero, List.set_cons_succ]
    refine ws_read (eaddr r (i * 1)) rfl rfl (er_index i 1 (sl_old hC) rfl rfl rfl rfl (by omega) (ub_len1 rfl) (by decide) Try.underlying22 (by kernel_rfl)) ?_
    simp only [Nat.reduceAdd, Act.put, List.setIfInBounds_toArray, List.set_cons_zero, List.set_cons_succ]
    refine ws_read (.int .u8 ((C[i]!).toNat : Int)) rfl rfl (er_cell (i * 1) (.int .u8 ((C[i]!).toNat : Int)) (sl_old hC) rfl rfl (flat_cell (enc := ub) (fun _ => rfl) C i 0 (by omega) (by decide)) Try.isAgg5) ?_
    simp only [Nat.reduceAdd, Act.put, List.setIfInBounds_toArray, List.set_cons_zero, List.set_cons_succ]
    refine ws_late (.int .u8 (((((A[i]!).toBitVec) ^^^ ((B[i]!).toBitVec)) ^^^ ((C[i]!).toBitVec)).toNat : Int)) rfl rfl (fun w => run_bits (k := .u8) (X := ((A[i]!).toBitVec) ^^^ ((B[i]!).toBitVec)) (Y := (C[i]!).toBitVec) (Z := (((A[i]!).toBitVec) ^^^ ((B[i]!).toBitVec)) ^^^ ((C[i]!).toBitVec)) rfl rfl rfl rfl rfl w) ?_
    simp only [Nat.reduceAdd, Act.put, List.setIfInBounds_toArray, List.set_cons_zero, List.set_cons_succ]
    refine ws_read (eaddr (some ⟨g1, 0, none⟩) (i * 1)) rfl rfl (er_index i 1 (sl_mk 0 (L := mix A B C n i) rfl) rfl rfl rfl rfl (by omega) (ub_len1 (mix_length _ _ _ _ _)) (by decide) Try.underlying22 (by kernel_rfl)) ?_
    simp only [Nat.reduceAdd, Act.put, List.setIfInBounds_toArray, List.set_cons_zero, List.set_cons_succ]
    refine ws_set 0 i (L := mix A B C n i) (UInt8.ofBitVec ((((A[i]!).toBitVec) ^^^ ((B[i]!).toBitVec)) ^^^ ((C[i]!).toBitVec))) _ rfl rfl (Nat.lt_of_lt_of_eq (show i < n by omega) (Eq.symm (mix_length _ _ _ _ _))) rfl rfl rfl rfl rfl rfl (by kernel_rfl) ?_
    simp only [Nat.reduceAdd]
    refine ws_nil_over 0 rfl (show 17 < 18 by decide) [] trivial (by simp) ?_
    intro ps4
    simp only [fin, List.foldl_nil, List.map, List.nil_append]
    refine we_in ?_
    refine we_then ?_
    refine wc_region ?_
    refine wl_val (.int .i64 ((i + 1 : Nat) : Int)) rfl (fun w => run_nat (X := i) (Y := 1) (Z := i + 1) rfl rfl rfl rfl (by omega) w) ?_
    simp only [Act.put, List.setIfInBounds_toArray, List.set_cons_zero, List.set_cons_succ]
    refine wl_val (.int .i64 ((i + 1 : Nat) : Int)) rfl (fun _ => rfl) ?_
    simp only [Act.put, List.setIfInBounds_toArray, List.set_cons_zero, List.set_cons_succ]
    refine wl_nil ?_
    rw [show (mix A B C n i).set i (UInt8.ofBitVec ((((A[i]!).toBitVec) ^^^ ((B[i]!).toBitVec)) ^^^ ((C[i]!).toBitVec))) = mix A B C n (i + 1) from mix_set A B C n i]
    exact we_meet ⟨(i + 1), _, _, _, _, _, _, _, _, _, _, _, _, _, _, _, _, _, _, _, _, _⟩ (by (try dsimp only); exact ⟨by omega, by omega⟩) rfl (List.Sublist.cons_cons _ List.Sublist.slnil)
end Go.Proofs.Ytbeplgamellahaa.Walks
