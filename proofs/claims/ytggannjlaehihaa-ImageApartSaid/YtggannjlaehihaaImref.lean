/-
 The reference of layer 12, reading: numbers, counts, segments, groups. Conditions: at most 2^20 bytes, the place within them.
-/
import Derived.Test.YtggannjlaehihaaImo
import Derived.Test.YtggannjlaehihaaSh
namespace Go.Proofs.Ytggannjlaehihaa.Imref
open Go.ChangeShapes Go.WideShapes Go.ChangeAt Go.RowKit
open Arr Steady Sx Sw Sl Sb Sc Si Sj Sk Sh Cr Fr Vs Gr Tk Tkh Img Imp
set_option linter.unusedVariables false
set_option linter.unusedSimpArgs false
set_option maxRecDepth 100000

theorem numS_bad {L : List UInt8} {s : Pt} {n : Nat} (h : bad L s n = true) : numS L s n = (s.1, true) := by unfold numS; rw [if_pos h]
theorem numV_bad {L : List UInt8} {s : Pt} {n : Nat} {sign : Bool} (h : bad L s n = true) : numV L s n sign = 0 := by unfold numV; rw [if_pos h]
theorem numS_ok {L : List UInt8} {s : Pt} {n : Nat} (h : bad L s n = false) : numS L s n = (s.1 + n, false) := by unfold numS; rw [if_neg (by rw [h]; decide)]
theorem numV_ok {L : List UInt8} {s : Pt} {n : Nat} {sign : Bool} (h : bad L s n = false) : numV L s n sign = vl L s.1 sign n := by unfold numV; rw [if_neg (by rw [h]; decide)]
theorem num_le {L : List UInt8} {s : Pt} (n : Nat) (h : s.1 ≤ L.length) : (numS L s n).1 ≤ L.length := by
 cases hb : bad L s n with
 | true => rw [numS_bad hb]; exact h
 | false =>
  rw [numS_ok hb]
  unfold bad at hb
  simp at hb
  exact hb.2
theorem vl_yes {L : List UInt8} {a i : Nat} {sign : Bool} {v : Int} (hv : v = vl L a sign i) (hi : i = 0) (hs : sign = true) (hc : 128 ≤ ((L[a + i]!).toNat : Int)) : 256 * v + (((L[a + i]!).toNat : Int) - 256) = vl L a sign (i + 1) := by
 subst hi
 rw [Nat.add_zero] at hc ⊢
 unfold vl
 rw [if_pos ⟨rfl, hs, hc⟩, ← hv]
 rfl
theorem vl_no {L : List UInt8} {a i : Nat} {sign : Bool} {v : Int} (hv : v = vl L a sign i) (h : ¬ (i = 0 ∧ sign = true ∧ 128 ≤ ((L[a + i]!).toNat : Int))) : 256 * v + ((L[a + i]!).toNat : Int) = vl L a sign (i + 1) := by
 show _ = 256 * vl L a sign i + _
 rw [← hv, if_neg]
 ·
  rfl
 ·
  rintro ⟨h1, h2, h3⟩
  subst h1
  exact h ⟨rfl, h2, h3⟩
theorem vl_fit {L : List UInt8} {a i : Nat} {sign : Bool} (h7 : i ≤ 7) (h3 : sign = false → i ≤ 3) : -36028797018963968 ≤ vl L a sign i ∧ vl L a sign i ≤ 36028797018963967 := by
 cases sign with
 | true => exact vl_sign L a i h7
 | false =>
  have st : ∀ k, vl L a false (k + 1) = 256 * vl L a false k + bt L (a + k) := fun k => by show 256 * _ + _ = _; rw [if_neg (fun h => by cases h.2.1)]
  have z : vl L a false 0 = 0 := rfl
  have s1 : vl L a false 1 = 256 * vl L a false 0 + bt L (a + 0) := st 0
  have s2 : vl L a false 2 = 256 * vl L a false 1 + bt L (a + 1) := st 1
  have s3 : vl L a false 3 = 256 * vl L a false 2 + bt L (a + 2) := st 2
  have c0 := bt_byte L (a + 0)
  have c1 := bt_byte L (a + 1)
  have c2 := bt_byte L (a + 2)
  have := h3 rfl
  rcases (show i = 0 ∨ i = 1 ∨ i = 2 ∨ i = 3 by omega) with rfl | rfl | rfl | rfl <;> omega
theorem num_low {L : List UInt8} {s : Pt} {n : Nat} (hn : n ≤ 4) : 0 ≤ numV L s n false ∧ numV L s n false ≤ 4294967295 := by
 cases hb : bad L s n with
 | true => rw [numV_bad hb]; omega
 | false =>
  rw [numV_ok hb]
  have f := vl_fit (L := L) (a := s.1) (i := 3) (sign := false) (by omega) (fun _ => by omega)
  have st : ∀ k, vl L s.1 false (k + 1) = 256 * vl L s.1 false k + bt L (s.1 + k) := fun k => by show 256 * _ + _ = _; rw [if_neg (fun h => by cases h.2.1)]
  have z : vl L s.1 false 0 = 0 := rfl
  have s1 : vl L s.1 false 1 = 256 * vl L s.1 false 0 + bt L (s.1 + 0) := st 0
  have s2 : vl L s.1 false 2 = 256 * vl L s.1 false 1 + bt L (s.1 + 1) := st 1
  have s3 : vl L s.1 false 3 = 256 * vl L s.1 false 2 + bt L (s.1 + 2) := st 2
  have s4 : vl L s.1 false 4 = 256 * vl L s.1 false 3 + bt L (s.1 + 3) := st 3
  have c0 := bt_byte L (s.1 + 0)
  have c1 := bt_byte L (s.1 + 1)
  have c2 := bt_byte L (s.1 + 2)
  have c3 := bt_byte L (s.1 + 3)
  rcases (show n = 0 ∨ n = 1 ∨ n = 2 ∨ n = 3 ∨ n = 4 by omega) with rfl | rfl | rfl | rfl | rfl <;> omega
set_option maxHeartbeats 6000000 in
theorem num_any (L : List UInt8) (q : Option Addr) (c a : Nat) (f : Bool) (n : Nat) (sign : Bool) (w : World) (hL : Reads w q (flat ub L)) (hl : L.length ≤ 1048576) (ha : a ≤ L.length) (k8 : n ≤ 8) (k4 : sign = false → n ≤ 4) :
  Calls Try.prog 44 #[.agg #[.slice q L.length c, .int .i64 (a : Int), .bool f], .int .i64 (n : Int), .bool sign] w fun e w' => e = .returned (.tuple #[.agg #[.slice q L.length c, .int .i64 (((numS L (a, f) n).1 : Nat) : Int), .bool (numS L (a, f) n).2], .int .i64 (numV L (a, f) n sign)]) ∧ Below w.heap.size w w' := by
 refine calls_sx Try.func44 rfl ?_
 simp only [Try.ntmps44, List.size_toArray, List.length_cons, List.length_nil, Nat.reduceAdd, Nat.reduceSub, Array.replicate_succ, Array.replicate_zero, List.push_toArray, List.append_toArray, List.nil_append, List.cons_append]
 refine wc_seq ?_
 refine wc_region ?_
 refine wl_new 82 (#[.slice q L.length c, .int .i64 (a : Int), .bool f]) rfl (fun _ => by go_simp) ?_
 intro g1
 simp only [Act.put, Xa, Xz, Xs]
 refine wl_new 82 (#[.slice none 0 0, .int .i64 0, .bool false]) rfl (fun _ => by go_simp) ?_
 intro g2
 simp only [Act.put, Xa, Xz, Xs]
 refine wl_val (.int .i64 0) rfl (fun _ => rfl) ?_
 simp only [Act.put, Xa, Xz, Xs]
 refine wl_nil ?_
 refine we_then ?_
 refine wc_seq ?_
 refine wc_seq ?_
 refine wc_region ?_
 refine wl_val (.pointer (some ⟨g1, 2, none⟩)) rfl (fun _ => by go_simp) ?_
 simp only [Act.put, Xa, Xz, Xs]
 refine wl_cell 4 (.tmp 11) (.bool f) (own_row 1 rfl) rfl rfl rfl rfl Try.isAgg4 ?_
 simp only [Act.put, Xa, Xz, Xs]
 refine wl_val (.bool f) rfl (fun _ => rfl) ?_
 simp only [Act.put, Xa, Xz, Xs]
 cases h3 : (f)
 ·
  skip
  refine wl_val (.pointer (some ⟨g1, 0, none⟩)) rfl (fun _ => by go_simp) ?_
  simp only [Act.put, Xa, Xz, Xs]
  refine wl_cell 28 (.tmp 14) (.slice q L.length c) (own_row 1 rfl) rfl rfl rfl rfl Try.isAgg28 ?_
  simp only [Act.put, Xa, Xz, Xs]
  refine wl_val (.int .i64 (L.length : Int)) rfl (fun w => er_len rfl rfl Try.underlying28 w) ?_
  simp only [Act.put, Xa, Xz, Xs]
  refine wl_val (.pointer (some ⟨g1, 1, none⟩)) rfl (fun _ => by go_simp) ?_
  simp only [Act.put, Xa, Xz, Xs]
  refine wl_cell 3 (.tmp 17) (.int .i64 (a : Int)) (own_row 1 rfl) rfl rfl rfl rfl Try.isAgg3 ?_
  simp only [Act.put, Xa, Xz, Xs]
  refine wl_val (.int .i64 ((L.length - a : Nat) : Int)) rfl (fun w => run_nat (X := L.length) (Y := a) (Z := L.length - a) rfl rfl rfl (natOf_sub (by omega)) (by omega) w) ?_
  simp only [Act.put, Xa, Xz, Xs]
  refine wl_val (.int .i64 (n : Int)) rfl (fun _ => rfl) ?_
  simp only [Act.put, Xa, Xz, Xs]
  refine wl_val (.bool (decide (((L.length - a : Nat) : Int) < (n : Int)))) rfl (fun w => run_cmp rfl rfl rfl Try.underlying3 rfl w) ?_
  simp only [Act.put, Xa, Xz, Xs]
  refine wl_val (.bool (decide (((L.length - a : Nat) : Int) < (n : Int)))) rfl (fun _ => rfl) ?_
  simp only [Act.put, Xa, Xz, Xs]
  refine wl_nil ?_
  refine we_then ?_
  cases h4 : (decide (((L.length - a : Nat) : Int) < (n : Int)))
  ·
   skip
   have p4 : ¬ (((L.length - a : Nat) : Int) < (n : Int)) := of_decide_eq_false h4
   refine wc_false rfl ?_
   refine wc_skip ?_
   refine we_then ?_
   refine wc_seq ?_
   refine wc_region ?_
   refine wl_val (.int .i64 0) rfl (fun _ => rfl) ?_
   simp only [Act.put, Xa, Xz, Xs]
   refine wl_nil ?_
   refine we_then ?_
   refine wc_seq ?_
   refine wc_seq ?_
   refine wc_region ?_
   refine wl_val (.int .i64 0) rfl (fun _ => rfl) ?_
   simp only [Act.put, Xa, Xz, Xs]
   refine wl_nil ?_
   refine we_then ?_
   refine wc_block ?_
   refine wc_loop (fun (zz : Nat × Int × Value × Value × Value × Value × Value × Value × Value × Value × Value × Value × Value × Value × Value × Value × Value × Value × Value × Value × Value × Value × Value × Value × Value × Value × Value × Value × Value × Value × Value × Value) => match zz with | ⟨i, v, u10, u25, u26, u27, u28, u29, u30, u31, u32, u33, u34, u35, u36, u37, u38, u39, u40, u41, u42, u43, u44, u45, u46, u47, u48, u49, u50, u51, u52, u53⟩ => ({ tmps := #[.agg #[.slice q L.length c, .int .i64 (a : Int), .bool false], .int .i64 (n : Int), .bool sign, .pointer (some ⟨g1, 0, none⟩), undef, undef, .pointer (some ⟨g2, 0, none⟩), .int .i64 0, .int .i64 v, .int .i64 (i : Int), u10, .pointer (some ⟨g1, 2, none⟩), .bool false, .bool false, .pointer (some ⟨g1, 0, none⟩), .slice q L.length c, .int .i64 (L.length : Int), .pointer (some ⟨g1, 1, none⟩), .int .i64 (a : Int), .int .i64 ((L.length - a : Nat) : Int), .int .i64 (n : Int), .bool false, .bool false, undef, undef, u25, u26, u27, u28, u29, u30, u31, u32, u33, u34, u35, u36, u37, u38, u39, u40, u41, u42, u43, u44, u45, u46, u47, u48, u49, u50, u51, u52, u53, undef, undef, undef, undef, undef, undef, undef], defers := [] } : Act)) (fun (zz : Nat × Int × Value × Value × Value × Value × Value × Value × Value × Value × Value × Value × Value × Value × Value × Value × Value × Value × Value × Value × Value × Value × Value × Value × Value × Value × Value × Value × Value × Value × Value × Value) => match zz with | ⟨i, v, u10, u25, u26, u27, u28, u29, u30, u31, u32, u33, u34, u35, u36, u37, u38, u39, u40, u41, u42, u43, u44, u45, u46, u47, u48, u49, u50, u51, u52, u53⟩ => [⟨g2, #[.slice none 0 0, .int .i64 0, .bool false], 82⟩, ⟨g1, #[.slice q L.length c, .int .i64 (a : Int), .bool false], 82⟩]) (fun (zz : Nat × Int × Value × Value × Value × Value × Value × Value × Value × Value × Value × Value × Value × Value × Value × Value × Value × Value × Value × Value × Value × Value × Value × Value × Value × Value × Value × Value × Value × Value × Value × Value) => match zz with | ⟨i, v, u10, u25, u26, u27, u28, u29, u30, u31, u32, u33, u34, u35, u36, u37, u38, u39, u40, u41, u42, u43, u44, u45, u46, u47, u48, u49, u50, u51, u52, u53⟩ => i ≤ n ∧ v = vl L a sign i) (fun (zz : Nat × Int × Value × Value × Value × Value × Value × Value × Value × Value × Value × Value × Value × Value × Value × Value × Value × Value × Value × Value × Value × Value × Value × Value × Value × Value × Value × Value × Value × Value × Value × Value) => match zz with | ⟨i, v, u10, u25, u26, u27, u28, u29, u30, u31, u32, u33, u34, u35, u36, u37, u38, u39, u40, u41, u42, u43, u44, u45, u46, u47, u48, u49, u50, u51, u52, u53⟩ => n - i) ⟨0, 0, _, _, _, _, _, _, _, _, _, _, _, _, _, _, _, _, _, _, _, _, _, _, _, _, _, _, _, _, _, _⟩ ⟨Nat.zero_le _, rfl⟩ rfl (List.Sublist.cons_cons _ (List.Sublist.cons_cons _ List.Sublist.slnil)) ?_
   rintro ⟨i, v, u10, u25, u26, u27, u28, u29, u30, u31, u32, u33, u34, u35, u36, u37, u38, u39, u40, u41, u42, u43, u44, u45, u46, u47, u48, u49, u50, u51, u52, u53⟩ hφ
   (try dsimp only at hφ ⊢)
   obtain ⟨b1, b2⟩ := hφ
   refine wc_seq ?_
   refine wc_seq ?_
   refine wc_region ?_
   refine wl_val (.int .i64 (i : Int)) rfl (fun _ => rfl) ?_
   simp only [Act.put, Xa, Xz, Xs]
   refine wl_val (.int .i64 (n : Int)) rfl (fun _ => rfl) ?_
   simp only [Act.put, Xa, Xz, Xs]
   refine wl_val (.bool (decide ((i : Int) < (n : Int)))) rfl (fun w => run_cmp rfl rfl rfl Try.underlying3 rfl w) ?_
   simp only [Act.put, Xa, Xz, Xs]
   refine wl_nil ?_
   refine we_then ?_
   cases h5 : (decide ((i : Int) < (n : Int)))
   ·
    skip
    have p5 : ¬ ((i : Int) < (n : Int)) := of_decide_eq_false h5
    refine wc_false rfl ?_
    refine wc_exit ?_
    refine we_then_exit ?_
    refine we_then_exit ?_
    refine we_in_here ?_
    refine we_then ?_
    refine wc_seq ?_
    refine wc_region ?_
    refine wl_val (.pointer (some ⟨g1, 1, none⟩)) rfl (fun _ => by go_simp) ?_
    simp only [Act.put, Xa, Xz, Xs]
    refine wl_cell 3 (.tmp 54) (.int .i64 (a : Int)) (own_row 1 rfl) rfl rfl rfl rfl Try.isAgg3 ?_
    simp only [Act.put, Xa, Xz, Xs]
    refine wl_val (.int .i64 (n : Int)) rfl (fun _ => rfl) ?_
    simp only [Act.put, Xa, Xz, Xs]
    refine wl_val (.int .i64 ((a + n : Nat) : Int)) rfl (fun w => run_nat (X := a) (Y := n) (Z := a + n) rfl rfl rfl rfl (by omega) w) ?_
    simp only [Act.put, Xa, Xz, Xs]
    refine wl_val (.pointer (some ⟨g1, 1, none⟩)) rfl (fun _ => by go_simp) ?_
    simp only [Act.put, Xa, Xz, Xs]
    refine wl_store_cell 1 3 (.tmp 58) (.tmp 57) (.int .i64 (a : Int)) (.int .i64 ((a + n : Nat) : Int)) rfl rfl rfl rfl rfl rfl (by kernel_rfl) rfl ?_
    simp only [Act.put, List.set_cons_zero, List.set_cons_succ]
    refine wl_nil ?_
    refine we_then ?_
    refine wc_seq ?_
    refine wc_region ?_
    refine wl_load 82 (.tmp 3) (own_row 1 rfl) rfl rfl rfl Try.underlying82 rfl (by kernel_rfl) ?_
    simp only [Act.put, Xa, Xz, Xs]
    refine wl_val (.int .i64 v) rfl (fun _ => rfl) ?_
    simp only [Act.put, Xa, Xz, Xs]
    refine wl_store 0 82 (.tmp 6) (.tmp 59) (#[.slice q L.length c, .int .i64 ((a + n : Nat) : Int), .bool false]) rfl rfl rfl rfl rfl (by kernel_rfl) rfl (by simp [Value.oneCell']) ?_
    simp only [Act.put, List.set_cons_zero]
    refine wl_val (.int .i64 v) rfl (fun _ => rfl) ?_
    simp only [Act.put, Xa, Xz, Xs]
    refine wl_nil ?_
    refine we_then ?_
    refine wc_ret ?_
    refine we_ret_cell_tmp (.int .i64 v) (own_row 0 rfl) rfl rfl rfl rfl Try.underlying82 rfl (by kernel_rfl) (fun w1 hE => ?_)
    have e1 : i = n := by omega
    subst e1
    have e0 : bad L (a, false) i = false := by unfold bad; simp; omega
    rw [numS_ok e0, numV_ok e0, ← b2]
    exact ⟨rfl, hE.below⟩
   ·
    skip
    have p5 : (i : Int) < (n : Int) := of_decide_eq_true h5
    refine wc_true rfl ?_
    refine wc_skip ?_
    refine we_then ?_
    refine wc_seq ?_
    refine wc_block ?_
    refine wc_seq ?_
    refine wc_region ?_
    refine wl_val (.pointer (some ⟨g1, 0, none⟩)) rfl (fun _ => by go_simp) ?_
    simp only [Act.put, Xa, Xz, Xs]
    refine wl_cell 28 (.tmp 30) (.slice q L.length c) (own_row 1 rfl) rfl rfl rfl rfl Try.isAgg28 ?_
    simp only [Act.put, Xa, Xz, Xs]
    refine wl_val (.pointer (some ⟨g1, 1, none⟩)) rfl (fun _ => by go_simp) ?_
    simp only [Act.put, Xa, Xz, Xs]
    refine wl_cell 3 (.tmp 32) (.int .i64 (a : Int)) (own_row 1 rfl) rfl rfl rfl rfl Try.isAgg3 ?_
    simp only [Act.put, Xa, Xz, Xs]
    refine wl_val (.int .i64 (i : Int)) rfl (fun _ => rfl) ?_
    simp only [Act.put, Xa, Xz, Xs]
    refine wl_val (.int .i64 ((a + i : Nat) : Int)) rfl (fun w => run_nat (X := a) (Y := i) (Z := a + i) rfl rfl rfl rfl (by omega) w) ?_
    simp only [Act.put, Xa, Xz, Xs]
    refine wl_read (eaddr q ((a + i) * 1)) rfl (er_index (a + i) 1 (sl_old hL) rfl rfl rfl rfl (by omega) (ub_len1 rfl) (by decide) Try.underlying28 (by kernel_rfl)) ?_
    simp only [Act.put, Xa, Xz, Xs]
    refine wl_read (.int .u8 ((L[a + i]!).toNat : Int)) rfl (er_cell ((a + i) * 1) (.int .u8 ((L[a + i]!).toNat : Int)) (sl_old hL) rfl rfl (flat_cell (enc := ub) (fun _ => rfl) L (a + i) 0 (by omega) (by decide)) Try.isAgg5) ?_
    simp only [Act.put, Xa, Xz, Xs]
    have q6 : (L[a + i]!).toNat < 256 := ((L[a + i]!).toBitVec).isLt
    refine wl_val (.int .i64 (((L[a + i]!).toNat : Nat) : Int)) rfl (fun w => run_conv (X := ((L[a + i]!).toNat : Int)) rfl rfl Try.underlying5 Try.underlying2 (i64_in (by omega) (by omega)) w) ?_
    simp only [Act.put, Xa, Xz, Xs]
    refine wl_val (.int .i64 (((L[a + i]!).toNat : Nat) : Int)) rfl (fun _ => rfl) ?_
    simp only [Act.put, Xa, Xz, Xs]
    refine wl_nil ?_
    refine we_then ?_
    refine wc_seq ?_
    refine wc_seq ?_
    refine wc_region ?_
    refine wl_val (.int .i64 (i : Int)) rfl (fun _ => rfl) ?_
    simp only [Act.put, Xa, Xz, Xs]
    refine wl_val (.bool ((i : Int) == 0)) rfl (fun w => run_cmp rfl rfl rfl Try.underlying3 rfl w) ?_
    simp only [Act.put, Xa, Xz, Xs]
    refine wl_val (.bool ((i : Int) == 0)) rfl (fun _ => rfl) ?_
    simp only [Act.put, Xa, Xz, Xs]
    cases h7 : ((i : Int) == 0)
    ·
     skip
     have p7 : ¬ ((i : Int) = 0) := by simpa using h7
     refine wl_skip rfl ?_
     simp only [Act.put, Xa, Xz, Xs]
     refine wl_val (.bool false) rfl (fun _ => rfl) ?_
     simp only [Act.put, Xa, Xz, Xs]
     refine wl_val (.bool false) rfl (fun _ => rfl) ?_
     simp only [Act.put, Xa, Xz, Xs]
     refine wl_skip rfl ?_
     simp only [Act.put, Xa, Xz, Xs]
     refine wl_skip rfl ?_
     simp only [Act.put, Xa, Xz, Xs]
     refine wl_val (.bool false) rfl (fun _ => rfl) ?_
     simp only [Act.put, Xa, Xz, Xs]
     refine wl_nil ?_
     refine we_then ?_
     refine wc_false rfl ?_
     refine wc_skip ?_
     refine we_then ?_
     have bv := vl_fit (L := L) (a := a) (i := i) (sign := sign) (by omega) (fun h => by have := k4 h; omega)
     rw [← b2] at bv
     have bz : 1 ≤ i ∨ v = 0 := by
      rcases Nat.eq_zero_or_pos i with h | h
      ·
       right; rw [b2, h]; rfl
      ·
       left; exact h
     refine wc_region ?_
     refine wl_val (.int .i64 v) rfl (fun _ => rfl) ?_
     simp only [Act.put, Xa, Xz, Xs]
     refine wl_val (.int .i64 (256 * v)) rfl (fun w => run_arith (op := .mul) rfl rfl rfl Try.underlying2 (congrArg some (i64_in (by omega) (by omega))) w) ?_
     simp only [Act.put, Xa, Xz, Xs]
     refine wl_val (.int .i64 (((L[a + i]!).toNat : Nat) : Int)) rfl (fun _ => rfl) ?_
     simp only [Act.put, Xa, Xz, Xs]
     refine wl_val (.int .i64 ((256 * v) + (((L[a + i]!).toNat : Nat) : Int))) rfl (fun w => run_arith (op := .add) rfl rfl rfl Try.underlying2 (congrArg some (i64_in (by omega) (by omega))) w) ?_
     simp only [Act.put, Xa, Xz, Xs]
     refine wl_val (.int .i64 ((256 * v) + (((L[a + i]!).toNat : Nat) : Int))) rfl (fun _ => rfl) ?_
     simp only [Act.put, Xa, Xz, Xs]
     refine wl_nil ?_
     refine we_in ?_
     refine we_then ?_
     refine wc_region ?_
     refine wl_val (.int .i64 (i : Int)) rfl (fun _ => rfl) ?_
     simp only [Act.put, Xa, Xz, Xs]
     refine wl_val (.int .i64 ((i + 1 : Nat) : Int)) rfl (fun w => run_nat (X := i) (Y := 1) (Z := i + 1) rfl rfl rfl rfl (by omega) w) ?_
     simp only [Act.put, Xa, Xz, Xs]
     refine wl_val (.int .i64 ((i + 1 : Nat) : Int)) rfl (fun _ => rfl) ?_
     simp only [Act.put, Xa, Xz, Xs]
     refine wl_nil ?_
     exact we_meet ⟨(i + 1), (256 * v + ((L[a + i]!).toNat : Int)), _, _, _, _, _, _, _, _, _, _, _, _, _, _, _, _, _, _, _, _, _, _, _, _, _, _, _, _, _, _⟩ (by (try dsimp only); have b2x := b2; exact ⟨⟨by omega, vl_no b2x (fun h => by have h1 := h.1; have h2 := h.2.1; have h3 := h.2.2; first | omega | cases h2)⟩, by omega⟩) rfl (List.Sublist.cons_cons _ (List.Sublist.cons_cons _ List.Sublist.slnil))
    ·
     skip
     have p7 : (i : Int) = 0 := by simpa using h7
     refine wl_val (.bool sign) rfl (fun _ => rfl) ?_
     simp only [Act.put, Xa, Xz, Xs]
     refine wl_val (.bool sign) rfl (fun _ => rfl) ?_
     simp only [Act.put, Xa, Xz, Xs]
     refine wl_val (.bool sign) rfl (fun _ => rfl) ?_
     simp only [Act.put, Xa, Xz, Xs]
     cases h8 : (sign)
     ·
      skip
      refine wl_skip rfl ?_
      simp only [Act.put, Xa, Xz, Xs]
      refine wl_skip rfl ?_
      simp only [Act.put, Xa, Xz, Xs]
      refine wl_val (.bool false) rfl (fun _ => rfl) ?_
      simp only [Act.put, Xa, Xz, Xs]
      refine wl_nil ?_
      refine we_then ?_
      refine wc_false rfl ?_
      refine wc_skip ?_
      refine we_then ?_
      have bv := vl_fit (L := L) (a := a) (i := i) (sign := sign) (by omega) (fun h => by have := k4 h; omega)
      rw [← b2] at bv
      have bz : 1 ≤ i ∨ v = 0 := by
       rcases Nat.eq_zero_or_pos i with h | h
       ·
        right; rw [b2, h]; rfl
       ·
        left; exact h
      refine wc_region ?_
      refine wl_val (.int .i64 v) rfl (fun _ => rfl) ?_
      simp only [Act.put, Xa, Xz, Xs]
      refine wl_val (.int .i64 (256 * v)) rfl (fun w => run_arith (op := .mul) rfl rfl rfl Try.underlying2 (congrArg some (i64_in (by omega) (by omega))) w) ?_
      simp only [Act.put, Xa, Xz, Xs]
      refine wl_val (.int .i64 (((L[a + i]!).toNat : Nat) : Int)) rfl (fun _ => rfl) ?_
      simp only [Act.put, Xa, Xz, Xs]
      refine wl_val (.int .i64 ((256 * v) + (((L[a + i]!).toNat : Nat) : Int))) rfl (fun w => run_arith (op := .add) rfl rfl rfl Try.underlying2 (congrArg some (i64_in (by omega) (by omega))) w) ?_
      simp only [Act.put, Xa, Xz, Xs]
      refine wl_val (.int .i64 ((256 * v) + (((L[a + i]!).toNat : Nat) : Int))) rfl (fun _ => rfl) ?_
      simp only [Act.put, Xa, Xz, Xs]
      refine wl_nil ?_
      refine we_in ?_
      refine we_then ?_
      refine wc_region ?_
      refine wl_val (.int .i64 (i : Int)) rfl (fun _ => rfl) ?_
      simp only [Act.put, Xa, Xz, Xs]
      refine wl_val (.int .i64 ((i + 1 : Nat) : Int)) rfl (fun w => run_nat (X := i) (Y := 1) (Z := i + 1) rfl rfl rfl rfl (by omega) w) ?_
      simp only [Act.put, Xa, Xz, Xs]
      refine wl_val (.int .i64 ((i + 1 : Nat) : Int)) rfl (fun _ => rfl) ?_
      simp only [Act.put, Xa, Xz, Xs]
      refine wl_nil ?_
      exact we_meet ⟨(i + 1), (256 * v + ((L[a + i]!).toNat : Int)), _, _, _, _, _, _, _, _, _, _, _, _, _, _, _, _, _, _, _, _, _, _, _, _, _, _, _, _, _, _⟩ (by (try dsimp only); have b2x := b2; rw [h8] at b2x; exact ⟨⟨by omega, vl_no b2x (fun h => by have h1 := h.1; have h2 := h.2.1; have h3 := h.2.2; first | omega | cases h2)⟩, by omega⟩) rfl (List.Sublist.cons_cons _ (List.Sublist.cons_cons _ List.Sublist.slnil))
     ·
      skip
      refine wl_val (.int .i64 (((L[a + i]!).toNat : Nat) : Int)) rfl (fun _ => rfl) ?_
      simp only [Act.put, Xa, Xz, Xs]
      refine wl_val (.bool (decide (128 ≤ (((L[a + i]!).toNat : Nat) : Int)))) rfl (fun w => run_cmp rfl rfl rfl Try.underlying2 rfl w) ?_
      simp only [Act.put, Xa, Xz, Xs]
      refine wl_val (.bool (decide (128 ≤ (((L[a + i]!).toNat : Nat) : Int)))) rfl (fun _ => rfl) ?_
      simp only [Act.put, Xa, Xz, Xs]
      refine wl_nil ?_
      refine we_then ?_
      cases h9 : (decide (128 ≤ (((L[a + i]!).toNat : Nat) : Int)))
      ·
       skip
       have p9 : ¬ (128 ≤ (((L[a + i]!).toNat : Nat) : Int)) := of_decide_eq_false h9
       refine wc_false rfl ?_
       refine wc_skip ?_
       refine we_then ?_
       have bv := vl_fit (L := L) (a := a) (i := i) (sign := sign) (by omega) (fun h => by have := k4 h; omega)
       rw [← b2] at bv
       have bz : 1 ≤ i ∨ v = 0 := by
        rcases Nat.eq_zero_or_pos i with h | h
        ·
         right; rw [b2, h]; rfl
        ·
         left; exact h
       refine wc_region ?_
       refine wl_val (.int .i64 v) rfl (fun _ => rfl) ?_
       simp only [Act.put, Xa, Xz, Xs]
       refine wl_val (.int .i64 (256 * v)) rfl (fun w => run_arith (op := .mul) rfl rfl rfl Try.underlying2 (congrArg some (i64_in (by omega) (by omega))) w) ?_
       simp only [Act.put, Xa, Xz, Xs]
       refine wl_val (.int .i64 (((L[a + i]!).toNat : Nat) : Int)) rfl (fun _ => rfl) ?_
       simp only [Act.put, Xa, Xz, Xs]
       refine wl_val (.int .i64 ((256 * v) + (((L[a + i]!).toNat : Nat) : Int))) rfl (fun w => run_arith (op := .add) rfl rfl rfl Try.underlying2 (congrArg some (i64_in (by omega) (by omega))) w) ?_
       simp only [Act.put, Xa, Xz, Xs]
       refine wl_val (.int .i64 ((256 * v) + (((L[a + i]!).toNat : Nat) : Int))) rfl (fun _ => rfl) ?_
       simp only [Act.put, Xa, Xz, Xs]
       refine wl_nil ?_
       refine we_in ?_
       refine we_then ?_
       refine wc_region ?_
       refine wl_val (.int .i64 (i : Int)) rfl (fun _ => rfl) ?_
       simp only [Act.put, Xa, Xz, Xs]
       refine wl_val (.int .i64 ((i + 1 : Nat) : Int)) rfl (fun w => run_nat (X := i) (Y := 1) (Z := i + 1) rfl rfl rfl rfl (by omega) w) ?_
       simp only [Act.put, Xa, Xz, Xs]
       refine wl_val (.int .i64 ((i + 1 : Nat) : Int)) rfl (fun _ => rfl) ?_
       simp only [Act.put, Xa, Xz, Xs]
       refine wl_nil ?_
       exact we_meet ⟨(i + 1), (256 * v + ((L[a + i]!).toNat : Int)), _, _, _, _, _, _, _, _, _, _, _, _, _, _, _, _, _, _, _, _, _, _, _, _, _, _, _, _, _, _⟩ (by (try dsimp only); have b2x := b2; rw [h8] at b2x; exact ⟨⟨by omega, vl_no b2x (fun h => by have h1 := h.1; have h2 := h.2.1; have h3 := h.2.2; first | omega | cases h2)⟩, by omega⟩) rfl (List.Sublist.cons_cons _ (List.Sublist.cons_cons _ List.Sublist.slnil))
      ·
       skip
       have p9 : 128 ≤ (((L[a + i]!).toNat : Nat) : Int) := of_decide_eq_true h9
       refine wc_true rfl ?_
       refine wc_region ?_
       refine wl_val (.int .i64 (((L[a + i]!).toNat : Nat) : Int)) rfl (fun _ => rfl) ?_
       simp only [Act.put, Xa, Xz, Xs]
       refine wl_val (.int .i64 ((((L[a + i]!).toNat : Nat) : Int) - 256)) rfl (fun w => run_arith (op := .sub) rfl rfl rfl Try.underlying2 (congrArg some (i64_in (by omega) (by omega))) w) ?_
       simp only [Act.put, Xa, Xz, Xs]
       refine wl_val (.int .i64 ((((L[a + i]!).toNat : Nat) : Int) - 256)) rfl (fun _ => rfl) ?_
       simp only [Act.put, Xa, Xz, Xs]
       refine wl_nil ?_
       refine we_then ?_
       have bv := vl_fit (L := L) (a := a) (i := i) (sign := sign) (by omega) (fun h => by have := k4 h; omega)
       rw [← b2] at bv
       have bz : 1 ≤ i ∨ v = 0 := by
        rcases Nat.eq_zero_or_pos i with h | h
        ·
         right; rw [b2, h]; rfl
        ·
         left; exact h
       refine wc_region ?_
       refine wl_val (.int .i64 v) rfl (fun _ => rfl) ?_
       simp only [Act.put, Xa, Xz, Xs]
       refine wl_val (.int .i64 (256 * v)) rfl (fun w => run_arith (op := .mul) rfl rfl rfl Try.underlying2 (congrArg some (i64_in (by omega) (by omega))) w) ?_
       simp only [Act.put, Xa, Xz, Xs]
       refine wl_val (.int .i64 ((((L[a + i]!).toNat : Nat) : Int) - 256)) rfl (fun _ => rfl) ?_
       simp only [Act.put, Xa, Xz, Xs]
       refine wl_val (.int .i64 ((256 * v) + ((((L[a + i]!).toNat : Nat) : Int) - 256))) rfl (fun w => run_arith (op := .add) rfl rfl rfl Try.underlying2 (congrArg some (i64_in (by omega) (by omega))) w) ?_
       simp only [Act.put, Xa, Xz, Xs]
       refine wl_val (.int .i64 ((256 * v) + ((((L[a + i]!).toNat : Nat) : Int) - 256))) rfl (fun _ => rfl) ?_
       simp only [Act.put, Xa, Xz, Xs]
       refine wl_nil ?_
       refine we_in ?_
       refine we_then ?_
       refine wc_region ?_
       refine wl_val (.int .i64 (i : Int)) rfl (fun _ => rfl) ?_
       simp only [Act.put, Xa, Xz, Xs]
       refine wl_val (.int .i64 ((i + 1 : Nat) : Int)) rfl (fun w => run_nat (X := i) (Y := 1) (Z := i + 1) rfl rfl rfl rfl (by omega) w) ?_
       simp only [Act.put, Xa, Xz, Xs]
       refine wl_val (.int .i64 ((i + 1 : Nat) : Int)) rfl (fun _ => rfl) ?_
       simp only [Act.put, Xa, Xz, Xs]
       refine wl_nil ?_
       exact we_meet ⟨(i + 1), (256 * v + (((L[a + i]!).toNat : Int) - 256)), _, _, _, _, _, _, _, _, _, _, _, _, _, _, _, _, _, _, _, _, _, _, _, _, _, _, _, _, _, _⟩ (by (try dsimp only); have b2x := b2; rw [h8] at b2x; exact ⟨⟨by omega, vl_yes b2x (by omega) rfl (by omega)⟩, by omega⟩) rfl (List.Sublist.cons_cons _ (List.Sublist.cons_cons _ List.Sublist.slnil))
  ·
   skip
   have p4 : ((L.length - a : Nat) : Int) < (n : Int) := of_decide_eq_true h4
   refine wc_true rfl ?_
   refine wc_seq ?_
   refine wc_region ?_
   refine wl_val (.pointer (some ⟨g1, 2, none⟩)) rfl (fun _ => by go_simp) ?_
   simp only [Act.put, Xa, Xz, Xs]
   refine wl_store_cell 1 4 (.tmp 23) (.const (.bool true)) (.bool false) (.bool true) rfl rfl rfl rfl rfl rfl (by kernel_rfl) rfl ?_
   simp only [Act.put, List.set_cons_zero, List.set_cons_succ]
   refine wl_nil ?_
   refine we_then ?_
   refine wc_seq ?_
   refine wc_region ?_
   refine wl_load 82 (.tmp 3) (own_row 1 rfl) rfl rfl rfl Try.underlying82 rfl (by kernel_rfl) ?_
   simp only [Act.put, Xa, Xz, Xs]
   refine wl_store 0 82 (.tmp 6) (.tmp 24) (#[.slice q L.length c, .int .i64 (a : Int), .bool true]) rfl rfl rfl rfl rfl (by kernel_rfl) rfl (by simp [Value.oneCell']) ?_
   simp only [Act.put, List.set_cons_zero]
   refine wl_val (.int .i64 0) rfl (fun _ => rfl) ?_
   simp only [Act.put, Xa, Xz, Xs]
   refine wl_nil ?_
   refine we_then ?_
   refine wc_ret ?_
   refine we_then_ret ?_
   refine we_ret_cell_tmp (.int .i64 0) (own_row 0 rfl) rfl rfl rfl rfl Try.underlying82 rfl (by kernel_rfl) (fun w1 hE => ?_)
   have e0 : bad L (a, false) n = true := by unfold bad; simp; omega
   rw [numS_bad e0, numV_bad e0]
   exact ⟨rfl, hE.below⟩
 ·
  skip
  refine wl_skip rfl ?_
  simp only [Act.put, Xa, Xz, Xs]
  refine wl_skip rfl ?_
  simp only [Act.put, Xa, Xz, Xs]
  refine wl_skip rfl ?_
  simp only [Act.put, Xa, Xz, Xs]
  refine wl_skip rfl ?_
  simp only [Act.put, Xa, Xz, Xs]
  refine wl_skip rfl ?_
  simp only [Act.put, Xa, Xz, Xs]
  refine wl_skip rfl ?_
  simp only [Act.put, Xa, Xz, Xs]
  refine wl_skip rfl ?_
  simp only [Act.put, Xa, Xz, Xs]
  refine wl_skip rfl ?_
  simp only [Act.put, Xa, Xz, Xs]
  refine wl_val (.bool true) rfl (fun _ => rfl) ?_
  simp only [Act.put, Xa, Xz, Xs]
  refine wl_nil ?_
  refine we_then ?_
  refine wc_true rfl ?_
  refine wc_seq ?_
  refine wc_region ?_
  refine wl_val (.pointer (some ⟨g1, 2, none⟩)) rfl (fun _ => by go_simp) ?_
  simp only [Act.put, Xa, Xz, Xs]
  refine wl_store_cell 1 4 (.tmp 23) (.const (.bool true)) (.bool true) (.bool true) rfl rfl rfl rfl rfl rfl (by kernel_rfl) rfl ?_
  simp only [Act.put, List.set_cons_zero, List.set_cons_succ]
  refine wl_nil ?_
  refine we_then ?_
  refine wc_seq ?_
  refine wc_region ?_
  refine wl_load 82 (.tmp 3) (own_row 1 rfl) rfl rfl rfl Try.underlying82 rfl (by kernel_rfl) ?_
  simp only [Act.put, Xa, Xz, Xs]
  refine wl_store 0 82 (.tmp 6) (.tmp 24) (#[.slice q L.length c, .int .i64 (a : Int), .bool true]) rfl rfl rfl rfl rfl (by kernel_rfl) rfl (by simp [Value.oneCell']) ?_
  simp only [Act.put, List.set_cons_zero]
  refine wl_val (.int .i64 0) rfl (fun _ => rfl) ?_
  simp only [Act.put, Xa, Xz, Xs]
  refine wl_nil ?_
  refine we_then ?_
  refine wc_ret ?_
  refine we_then_ret ?_
  refine we_ret_cell_tmp (.int .i64 0) (own_row 0 rfl) rfl rfl rfl rfl Try.underlying82 rfl (by kernel_rfl) (fun w1 hE => ?_)
  have e0 : bad L (a, true) n = true := by unfold bad; simp
  rw [numS_bad e0, numV_bad e0]
  exact ⟨rfl, hE.below⟩
theorem cnt_le {L : List UInt8} {s : Pt} (n : Nat) (m : Int) (h : s.1 ≤ L.length) : (cntS L s n m).1 ≤ L.length := by
 unfold cntS
 split
 ·
  exact num_le n h
 ·
  exact num_le n h
theorem cnt_cast {L : List UInt8} {s : Pt} {n : Nat} {m : Int} (h : ¬ m < numV L s n false) : ((cntV L s n m : Nat) : Int) = numV L s n false := by
 have := numV_uns L s n
 unfold cntV
 rw [if_neg h]
 omega
theorem cntV_le {L : List UInt8} {s : Pt} {n : Nat} {m : Int} (h0 : 0 ≤ m) : ((cntV L s n m : Nat) : Int) ≤ m := by
 by_cases h : m < numV L s n false
 ·
  unfold cntV; rw [if_pos h]; exact h0
 ·
  rw [cnt_cast h]; omega
set_option maxHeartbeats 2000000 in
theorem count_any (L : List UInt8) (q : Option Addr) (c : Nat) (s : Pt) (n : Nat) (m : Int) (w : World) (hL : Reads w q (flat ub L)) (hl : L.length ≤ 1048576) (hs : s.1 ≤ L.length) (hn : n ≤ 4) :
  Calls Try.prog 30 #[.agg #[.slice q L.length c, .int .i64 (s.1 : Int), .bool s.2], .int .i64 (n : Int), .int .i64 m] w fun e w' => e = .returned (.tuple #[.agg #[.slice q L.length c, .int .i64 (((cntS L s n m).1 : Nat) : Int), .bool (cntS L s n m).2], .int .i64 ((cntV L s n m : Nat) : Int)]) ∧ Below w.heap.size w w' := by
 have h0 := num_low (L := L) (s := s) hn
 refine calls_sx Try.func30 rfl ?_
 simp only [Try.ntmps30, List.size_toArray, List.length_cons, List.length_nil, Nat.reduceAdd, Nat.reduceSub, Array.replicate_succ, Array.replicate_zero, List.push_toArray, List.append_toArray, List.nil_append, List.cons_append]
 refine wc_seq ?_
 refine wc_region ?_
 refine wl_new 82 (#[.slice q L.length c, .int .i64 (s.1 : Int), .bool s.2]) rfl (fun _ => by go_simp) ?_
 intro g1
 simp only [Act.put, Xa, Xz, Xs]
 refine wl_new 82 (#[.slice none 0 0, .int .i64 0, .bool false]) rfl (fun _ => by go_simp) ?_
 intro g2
 simp only [Act.put, Xa, Xz, Xs]
 refine wl_val (.int .i64 0) rfl (fun _ => rfl) ?_
 simp only [Act.put, Xa, Xz, Xs]
 refine wl_nil ?_
 refine we_then ?_
 refine wc_seq ?_
 refine wc_region ?_
 refine wl_load 82 (.tmp 3) (own_row 1 rfl) rfl rfl rfl Try.underlying82 rfl (by kernel_rfl) ?_
 simp only [Act.put, Xa, Xz, Xs]
 refine wl_val (.int .i64 (n : Int)) rfl (fun _ => rfl) ?_
 simp only [Act.put, Xa, Xz, Xs]
 refine wl_call_at 44 #[.agg #[.slice q L.length c, .int .i64 (s.1 : Int), .bool s.2], .int .i64 (n : Int), .bool false] (.tuple #[.agg #[.slice q L.length c, .int .i64 (((numS L s n).1 : Nat) : Int), .bool ((numS L s n).2)], .int .i64 (numV L s n false)]) rfl (fun _ => by go_simp) (fun W hE => num_any L q c s.1 s.2 n false W ((sl_old hL) W hE) hl hs (by omega) (by intro _; omega)) ?_
 simp only [Act.put, Xa, Xz, Xs]
 refine wl_val (.tuple #[.agg #[.slice q L.length c, .int .i64 (((numS L s n).1 : Nat) : Int), .bool ((numS L s n).2)], .int .i64 (numV L s n false)]) rfl (fun _ => rfl) ?_
 simp only [Act.put, Xa, Xz, Xs]
 refine wl_val (.agg #[.slice q L.length c, .int .i64 (((numS L s n).1 : Nat) : Int), .bool ((numS L s n).2)]) rfl (fun _ => by go_simp) ?_
 simp only [Act.put, Xa, Xz, Xs]
 refine wl_val (.int .i64 (numV L s n false)) rfl (fun _ => by go_simp) ?_
 simp only [Act.put, Xa, Xz, Xs]
 refine wl_new 82 (#[.slice none 0 0, .int .i64 0, .bool false]) rfl (fun _ => by go_simp) ?_
 intro g3
 simp only [Act.put, Xa, Xz, Xs]
 refine wl_store 0 82 (.tmp 8) (.tmp 14) (#[.slice q L.length c, .int .i64 (((numS L s n).1 : Nat) : Int), .bool ((numS L s n).2)]) rfl rfl rfl rfl rfl (by kernel_rfl) rfl (by simp [Value.oneCell']) ?_
 simp only [Act.put, List.set_cons_zero]
 refine wl_val (.int .i64 (numV L s n false)) rfl (fun _ => rfl) ?_
 simp only [Act.put, Xa, Xz, Xs]
 refine wl_nil ?_
 refine we_then ?_
 refine wc_seq ?_
 refine wc_seq ?_
 refine wc_region ?_
 refine wl_val (.int .i64 (numV L s n false)) rfl (fun _ => rfl) ?_
 simp only [Act.put, Xa, Xz, Xs]
 refine wl_val (.int .i64 m) rfl (fun _ => rfl) ?_
 simp only [Act.put, Xa, Xz, Xs]
 refine wl_val (.bool (decide (m < (numV L s n false)))) rfl (fun w => run_cmp rfl rfl rfl Try.underlying2 rfl w) ?_
 simp only [Act.put, Xa, Xz, Xs]
 refine wl_nil ?_
 refine we_then ?_
 cases h4 : (decide (m < (numV L s n false)))
 ·
  skip
  have p4 : ¬ (m < (numV L s n false)) := of_decide_eq_false h4
  refine wc_false rfl ?_
  refine wc_skip ?_
  refine we_then ?_
  refine wc_seq ?_
  refine wc_region ?_
  refine wl_load 82 (.tmp 8) (own_row 0 rfl) rfl rfl rfl Try.underlying82 rfl (by kernel_rfl) ?_
  simp only [Act.put, Xa, Xz, Xs]
  refine wl_val (.int .i64 (numV L s n false)) rfl (fun _ => rfl) ?_
  simp only [Act.put, Xa, Xz, Xs]
  refine wl_store 1 82 (.tmp 6) (.tmp 21) (#[.slice q L.length c, .int .i64 (((numS L s n).1 : Nat) : Int), .bool ((numS L s n).2)]) rfl rfl rfl rfl rfl (by kernel_rfl) rfl (by simp [Value.oneCell']) ?_
  simp only [Act.put, List.set_cons_zero, List.set_cons_succ]
  refine wl_val (.int .i64 (numV L s n false)) rfl (fun _ => rfl) ?_
  simp only [Act.put, Xa, Xz, Xs]
  refine wl_nil ?_
  refine we_then ?_
  refine wc_ret ?_
  refine we_ret_cell_tmp (.int .i64 (numV L s n false)) (own_row 1 rfl) rfl rfl rfl rfl Try.underlying82 rfl (by kernel_rfl) (fun w1 hE => ?_)
  have e1 : cntS L s n m = numS L s n := by unfold cntS; rw [if_neg (by assumption)]
  rw [e1, cnt_cast (by assumption)]
  exact ⟨rfl, hE.below⟩
 ·
  skip
  have p4 : m < (numV L s n false) := of_decide_eq_true h4
  refine wc_true rfl ?_
  refine wc_seq ?_
  refine wc_region ?_
  refine wl_val (.pointer (some ⟨g3, 2, none⟩)) rfl (fun _ => by go_simp) ?_
  simp only [Act.put, Xa, Xz, Xs]
  refine wl_store_cell 0 4 (.tmp 19) (.const (.bool true)) (.bool ((numS L s n).2)) (.bool true) rfl rfl rfl rfl rfl rfl (by kernel_rfl) rfl ?_
  simp only [Act.put, List.set_cons_zero]
  refine wl_nil ?_
  refine we_then ?_
  refine wc_seq ?_
  refine wc_region ?_
  refine wl_load 82 (.tmp 8) (own_row 0 rfl) rfl rfl rfl Try.underlying82 rfl (by kernel_rfl) ?_
  simp only [Act.put, Xa, Xz, Xs]
  refine wl_store 1 82 (.tmp 6) (.tmp 20) (#[.slice q L.length c, .int .i64 (((numS L s n).1 : Nat) : Int), .bool true]) rfl rfl rfl rfl rfl (by kernel_rfl) rfl (by simp [Value.oneCell']) ?_
  simp only [Act.put, List.set_cons_zero, List.set_cons_succ]
  refine wl_val (.int .i64 0) rfl (fun _ => rfl) ?_
  simp only [Act.put, Xa, Xz, Xs]
  refine wl_nil ?_
  refine we_then ?_
  refine wc_ret ?_
  refine we_then_ret ?_
  refine we_ret_cell_tmp (.int .i64 0) (own_row 1 rfl) rfl rfl rfl rfl Try.underlying82 rfl (by kernel_rfl) (fun w1 hE => ?_)
  have e1 : cntS L s n m = ((numS L s n).1, true) := by unfold cntS; rw [if_pos (by assumption)]
  have e2 : cntV L s n m = 0 := by unfold cntV; rw [if_pos (by assumption)]
  rw [e1, e2]
  exact ⟨rfl, hE.below⟩
set_option maxHeartbeats 4000000 in
theorem group_any (L : List UInt8) (q : Option Addr) (c : Nat) (s : Pt) (w : World) (hL : Reads w q (flat ub L)) (hl : L.length ≤ 1048576) (hs : s.1 ≤ L.length) :
  Calls Try.prog 32 #[.agg #[.slice q L.length c, .int .i64 (s.1 : Int), .bool s.2]] w fun e w' => e = .returned (.tuple #[.agg #[.slice q L.length c, .int .i64 (((group L s).1.1 : Nat) : Int), .bool (group L s).1.2], .agg #[.int .i64 (group L s).2.id, .int .i64 (group L s).2.seg, .int .i64 (group L s).2.off, .int .i64 (group L s).2.acc, .int .i64 (group L s).2.slack]]) ∧ Below w.heap.size w w' := by
 refine calls_sx Try.func32 rfl ?_
 simp only [Try.ntmps32, List.size_toArray, List.length_cons, List.length_nil, Nat.reduceAdd, Nat.reduceSub, Array.replicate_succ, Array.replicate_zero, List.push_toArray, List.append_toArray, List.nil_append, List.cons_append]
 refine wc_seq ?_
 refine wc_region ?_
 refine wl_new 82 (#[.slice q L.length c, .int .i64 (s.1 : Int), .bool s.2]) rfl (fun _ => by go_simp) ?_
 intro g1
 simp only [Act.put, Xa, Xz, Xs]
 refine wl_new 82 (#[.slice none 0 0, .int .i64 0, .bool false]) rfl (fun _ => by go_simp) ?_
 intro g2
 simp only [Act.put, Xa, Xz, Xs]
 refine wl_new 67 (#[.int .i64 0, .int .i64 0, .int .i64 0, .int .i64 0, .int .i64 0]) rfl (fun _ => by go_simp) ?_
 intro g3
 simp only [Act.put, Xa, Xz, Xs]
 refine wl_nil ?_
 refine we_then ?_
 refine wc_seq ?_
 refine wc_region ?_
 refine wl_new 67 (#[.int .i64 0, .int .i64 0, .int .i64 0, .int .i64 0, .int .i64 0]) rfl (fun _ => by go_simp) ?_
 intro g4
 simp only [Act.put, Xa, Xz, Xs]
 refine wl_nil ?_
 refine we_then ?_
 refine wc_seq ?_
 refine wc_region ?_
 refine wl_load 82 (.tmp 1) (own_row 3 rfl) rfl rfl rfl Try.underlying82 rfl (by kernel_rfl) ?_
 simp only [Act.put, Xa, Xz, Xs]
 refine wl_call_at 44 #[.agg #[.slice q L.length c, .int .i64 (s.1 : Int), .bool s.2], .int .i64 2, .bool false] (.tuple #[.agg #[.slice q L.length c, .int .i64 (((numS L s 2).1 : Nat) : Int), .bool ((numS L s 2).2)], .int .i64 (numV L s 2 false)]) rfl (fun _ => by go_simp) (fun W hE => num_any L q c s.1 s.2 2 false W ((sl_old hL) W hE) hl hs (by decide) (by decide)) ?_
 simp only [Act.put, Xa, Xz, Xs]
 refine wl_val (.tuple #[.agg #[.slice q L.length c, .int .i64 (((numS L s 2).1 : Nat) : Int), .bool ((numS L s 2).2)], .int .i64 (numV L s 2 false)]) rfl (fun _ => rfl) ?_
 simp only [Act.put, Xa, Xz, Xs]
 refine wl_val (.agg #[.slice q L.length c, .int .i64 (((numS L s 2).1 : Nat) : Int), .bool ((numS L s 2).2)]) rfl (fun _ => by go_simp) ?_
 simp only [Act.put, Xa, Xz, Xs]
 refine wl_val (.int .i64 (numV L s 2 false)) rfl (fun _ => by go_simp) ?_
 simp only [Act.put, Xa, Xz, Xs]
 refine wl_store 3 82 (.tmp 1) (.tmp 10) (#[.slice q L.length c, .int .i64 (((numS L s 2).1 : Nat) : Int), .bool ((numS L s 2).2)]) rfl rfl rfl rfl rfl (by kernel_rfl) rfl (by simp [Value.oneCell']) ?_
 simp only [Act.put, List.set_cons_zero, List.set_cons_succ]
 refine wl_val (.int .i64 (numV L s 2 false)) rfl (fun _ => rfl) ?_
 simp only [Act.put, Xa, Xz, Xs]
 refine wl_nil ?_
 refine we_then ?_
 refine wc_seq ?_
 refine wc_region ?_
 refine wl_load 82 (.tmp 1) (own_row 3 rfl) rfl rfl rfl Try.underlying82 rfl (by kernel_rfl) ?_
 simp only [Act.put, Xa, Xz, Xs]
 refine wl_call_at 44 #[.agg #[.slice q L.length c, .int .i64 (((numS L s 2).1 : Nat) : Int), .bool ((numS L s 2).2)], .int .i64 1, .bool false] (.tuple #[.agg #[.slice q L.length c, .int .i64 (((numS L (numS L s 2) 1).1 : Nat) : Int), .bool ((numS L (numS L s 2) 1).2)], .int .i64 (numV L (numS L s 2) 1 false)]) rfl (fun _ => by go_simp) (fun W hE => num_any L q c (numS L s 2).1 (numS L s 2).2 1 false W ((sl_old hL) W hE) hl (num_le 2 hs) (by decide) (by decide)) ?_
 simp only [Act.put, Xa, Xz, Xs]
 refine wl_val (.tuple #[.agg #[.slice q L.length c, .int .i64 (((numS L (numS L s 2) 1).1 : Nat) : Int), .bool ((numS L (numS L s 2) 1).2)], .int .i64 (numV L (numS L s 2) 1 false)]) rfl (fun _ => rfl) ?_
 simp only [Act.put, Xa, Xz, Xs]
 refine wl_val (.agg #[.slice q L.length c, .int .i64 (((numS L (numS L s 2) 1).1 : Nat) : Int), .bool ((numS L (numS L s 2) 1).2)]) rfl (fun _ => by go_simp) ?_
 simp only [Act.put, Xa, Xz, Xs]
 refine wl_val (.int .i64 (numV L (numS L s 2) 1 false)) rfl (fun _ => by go_simp) ?_
 simp only [Act.put, Xa, Xz, Xs]
 refine wl_store 3 82 (.tmp 1) (.tmp 15) (#[.slice q L.length c, .int .i64 (((numS L (numS L s 2) 1).1 : Nat) : Int), .bool ((numS L (numS L s 2) 1).2)]) rfl rfl rfl rfl rfl (by kernel_rfl) rfl (by simp [Value.oneCell']) ?_
 simp only [Act.put, List.set_cons_zero, List.set_cons_succ]
 refine wl_val (.int .i64 (numV L (numS L s 2) 1 false)) rfl (fun _ => rfl) ?_
 simp only [Act.put, Xa, Xz, Xs]
 refine wl_nil ?_
 refine we_then ?_
 refine wc_seq ?_
 refine wc_region ?_
 refine wl_val (.int .i64 (numV L s 2 false)) rfl (fun _ => rfl) ?_
 simp only [Act.put, Xa, Xz, Xs]
 refine wl_val (.pointer (some ⟨g4, 0, none⟩)) rfl (fun _ => by go_simp) ?_
 simp only [Act.put, Xa, Xz, Xs]
 refine wl_store_cell 0 3 (.tmp 18) (.tmp 17) (.int .i64 0) (.int .i64 (numV L s 2 false)) rfl rfl rfl rfl rfl rfl (by kernel_rfl) rfl ?_
 simp only [Act.put, List.set_cons_zero]
 refine wl_nil ?_
 refine we_then ?_
 refine wc_seq ?_
 refine wc_region ?_
 refine wl_val (.int .i64 (numV L (numS L s 2) 1 false)) rfl (fun _ => rfl) ?_
 simp only [Act.put, Xa, Xz, Xs]
 refine wl_val (.pointer (some ⟨g4, 1, none⟩)) rfl (fun _ => by go_simp) ?_
 simp only [Act.put, Xa, Xz, Xs]
 refine wl_store_cell 0 3 (.tmp 20) (.tmp 19) (.int .i64 0) (.int .i64 (numV L (numS L s 2) 1 false)) rfl rfl rfl rfl rfl rfl (by kernel_rfl) rfl ?_
 simp only [Act.put, List.set_cons_zero]
 refine wl_nil ?_
 refine we_then ?_
 refine wc_seq ?_
 refine wc_region ?_
 refine wl_load 82 (.tmp 1) (own_row 3 rfl) rfl rfl rfl Try.underlying82 rfl (by kernel_rfl) ?_
 simp only [Act.put, Xa, Xz, Xs]
 refine wl_call_at 44 #[.agg #[.slice q L.length c, .int .i64 (((numS L (numS L s 2) 1).1 : Nat) : Int), .bool ((numS L (numS L s 2) 1).2)], .int .i64 8, .bool true] (.tuple #[.agg #[.slice q L.length c, .int .i64 (((numS L (numS L (numS L s 2) 1) 8).1 : Nat) : Int), .bool ((numS L (numS L (numS L s 2) 1) 8).2)], .int .i64 (numV L (numS L (numS L s 2) 1) 8 true)]) rfl (fun _ => by go_simp) (fun W hE => num_any L q c (numS L (numS L s 2) 1).1 (numS L (numS L s 2) 1).2 8 true W ((sl_old hL) W hE) hl (num_le 1 (num_le 2 hs)) (by decide) (by decide)) ?_
 simp only [Act.put, Xa, Xz, Xs]
 refine wl_val (.tuple #[.agg #[.slice q L.length c, .int .i64 (((numS L (numS L (numS L s 2) 1) 8).1 : Nat) : Int), .bool ((numS L (numS L (numS L s 2) 1) 8).2)], .int .i64 (numV L (numS L (numS L s 2) 1) 8 true)]) rfl (fun _ => rfl) ?_
 simp only [Act.put, Xa, Xz, Xs]
 refine wl_val (.agg #[.slice q L.length c, .int .i64 (((numS L (numS L (numS L s 2) 1) 8).1 : Nat) : Int), .bool ((numS L (numS L (numS L s 2) 1) 8).2)]) rfl (fun _ => by go_simp) ?_
 simp only [Act.put, Xa, Xz, Xs]
 refine wl_val (.int .i64 (numV L (numS L (numS L s 2) 1) 8 true)) rfl (fun _ => by go_simp) ?_
 simp only [Act.put, Xa, Xz, Xs]
 refine wl_store 3 82 (.tmp 1) (.tmp 24) (#[.slice q L.length c, .int .i64 (((numS L (numS L (numS L s 2) 1) 8).1 : Nat) : Int), .bool ((numS L (numS L (numS L s 2) 1) 8).2)]) rfl rfl rfl rfl rfl (by kernel_rfl) rfl (by simp [Value.oneCell']) ?_
 simp only [Act.put, List.set_cons_zero, List.set_cons_succ]
 refine wl_val (.pointer (some ⟨g4, 2, none⟩)) rfl (fun _ => by go_simp) ?_
 simp only [Act.put, Xa, Xz, Xs]
 refine wl_store_cell 0 2 (.tmp 26) (.tmp 25) (.int .i64 0) (.int .i64 (numV L (numS L (numS L s 2) 1) 8 true)) rfl rfl rfl rfl rfl rfl (by kernel_rfl) rfl ?_
 simp only [Act.put, List.set_cons_zero]
 refine wl_nil ?_
 refine we_then ?_
 refine wc_seq ?_
 refine wc_region ?_
 refine wl_load 82 (.tmp 1) (own_row 3 rfl) rfl rfl rfl Try.underlying82 rfl (by kernel_rfl) ?_
 simp only [Act.put, Xa, Xz, Xs]
 refine wl_call_at 44 #[.agg #[.slice q L.length c, .int .i64 (((numS L (numS L (numS L s 2) 1) 8).1 : Nat) : Int), .bool ((numS L (numS L (numS L s 2) 1) 8).2)], .int .i64 4, .bool false] (.tuple #[.agg #[.slice q L.length c, .int .i64 (((numS L (numS L (numS L (numS L s 2) 1) 8) 4).1 : Nat) : Int), .bool ((numS L (numS L (numS L (numS L s 2) 1) 8) 4).2)], .int .i64 (numV L (numS L (numS L (numS L s 2) 1) 8) 4 false)]) rfl (fun _ => by go_simp) (fun W hE => num_any L q c (numS L (numS L (numS L s 2) 1) 8).1 (numS L (numS L (numS L s 2) 1) 8).2 4 false W ((sl_old hL) W hE) hl (num_le 8 (num_le 1 (num_le 2 hs))) (by decide) (by decide)) ?_
 simp only [Act.put, Xa, Xz, Xs]
 refine wl_val (.tuple #[.agg #[.slice q L.length c, .int .i64 (((numS L (numS L (numS L (numS L s 2) 1) 8) 4).1 : Nat) : Int), .bool ((numS L (numS L (numS L (numS L s 2) 1) 8) 4).2)], .int .i64 (numV L (numS L (numS L (numS L s 2) 1) 8) 4 false)]) rfl (fun _ => rfl) ?_
 simp only [Act.put, Xa, Xz, Xs]
 refine wl_val (.agg #[.slice q L.length c, .int .i64 (((numS L (numS L (numS L (numS L s 2) 1) 8) 4).1 : Nat) : Int), .bool ((numS L (numS L (numS L (numS L s 2) 1) 8) 4).2)]) rfl (fun _ => by go_simp) ?_
 simp only [Act.put, Xa, Xz, Xs]
 refine wl_val (.int .i64 (numV L (numS L (numS L (numS L s 2) 1) 8) 4 false)) rfl (fun _ => by go_simp) ?_
 simp only [Act.put, Xa, Xz, Xs]
 refine wl_store 3 82 (.tmp 1) (.tmp 30) (#[.slice q L.length c, .int .i64 (((numS L (numS L (numS L (numS L s 2) 1) 8) 4).1 : Nat) : Int), .bool ((numS L (numS L (numS L (numS L s 2) 1) 8) 4).2)]) rfl rfl rfl rfl rfl (by kernel_rfl) rfl (by simp [Value.oneCell']) ?_
 simp only [Act.put, List.set_cons_zero, List.set_cons_succ]
 refine wl_val (.pointer (some ⟨g4, 3, none⟩)) rfl (fun _ => by go_simp) ?_
 simp only [Act.put, Xa, Xz, Xs]
 refine wl_store_cell 0 2 (.tmp 32) (.tmp 31) (.int .i64 0) (.int .i64 (numV L (numS L (numS L (numS L s 2) 1) 8) 4 false)) rfl rfl rfl rfl rfl rfl (by kernel_rfl) rfl ?_
 simp only [Act.put, List.set_cons_zero]
 refine wl_nil ?_
 refine we_then ?_
 refine wc_seq ?_
 refine wc_region ?_
 refine wl_load 82 (.tmp 1) (own_row 3 rfl) rfl rfl rfl Try.underlying82 rfl (by kernel_rfl) ?_
 simp only [Act.put, Xa, Xz, Xs]
 refine wl_call_at 44 #[.agg #[.slice q L.length c, .int .i64 (((numS L (numS L (numS L (numS L s 2) 1) 8) 4).1 : Nat) : Int), .bool ((numS L (numS L (numS L (numS L s 2) 1) 8) 4).2)], .int .i64 4, .bool false] (.tuple #[.agg #[.slice q L.length c, .int .i64 (((numS L (numS L (numS L (numS L (numS L s 2) 1) 8) 4) 4).1 : Nat) : Int), .bool ((numS L (numS L (numS L (numS L (numS L s 2) 1) 8) 4) 4).2)], .int .i64 (numV L (numS L (numS L (numS L (numS L s 2) 1) 8) 4) 4 false)]) rfl (fun _ => by go_simp) (fun W hE => num_any L q c (numS L (numS L (numS L (numS L s 2) 1) 8) 4).1 (numS L (numS L (numS L (numS L s 2) 1) 8) 4).2 4 false W ((sl_old hL) W hE) hl (num_le 4 (num_le 8 (num_le 1 (num_le 2 hs)))) (by decide) (by decide)) ?_
 simp only [Act.put, Xa, Xz, Xs]
 refine wl_val (.tuple #[.agg #[.slice q L.length c, .int .i64 (((numS L (numS L (numS L (numS L (numS L s 2) 1) 8) 4) 4).1 : Nat) : Int), .bool ((numS L (numS L (numS L (numS L (numS L s 2) 1) 8) 4) 4).2)], .int .i64 (numV L (numS L (numS L (numS L (numS L s 2) 1) 8) 4) 4 false)]) rfl (fun _ => rfl) ?_
 simp only [Act.put, Xa, Xz, Xs]
 refine wl_val (.agg #[.slice q L.length c, .int .i64 (((numS L (numS L (numS L (numS L (numS L s 2) 1) 8) 4) 4).1 : Nat) : Int), .bool ((numS L (numS L (numS L (numS L (numS L s 2) 1) 8) 4) 4).2)]) rfl (fun _ => by go_simp) ?_
 simp only [Act.put, Xa, Xz, Xs]
 refine wl_val (.int .i64 (numV L (numS L (numS L (numS L (numS L s 2) 1) 8) 4) 4 false)) rfl (fun _ => by go_simp) ?_
 simp only [Act.put, Xa, Xz, Xs]
 refine wl_store 3 82 (.tmp 1) (.tmp 36) (#[.slice q L.length c, .int .i64 (((numS L (numS L (numS L (numS L (numS L s 2) 1) 8) 4) 4).1 : Nat) : Int), .bool ((numS L (numS L (numS L (numS L (numS L s 2) 1) 8) 4) 4).2)]) rfl rfl rfl rfl rfl (by kernel_rfl) rfl (by simp [Value.oneCell']) ?_
 simp only [Act.put, List.set_cons_zero, List.set_cons_succ]
 refine wl_val (.pointer (some ⟨g4, 4, none⟩)) rfl (fun _ => by go_simp) ?_
 simp only [Act.put, Xa, Xz, Xs]
 refine wl_store_cell 0 2 (.tmp 38) (.tmp 37) (.int .i64 0) (.int .i64 (numV L (numS L (numS L (numS L (numS L s 2) 1) 8) 4) 4 false)) rfl rfl rfl rfl rfl rfl (by kernel_rfl) rfl ?_
 simp only [Act.put, List.set_cons_zero]
 refine wl_nil ?_
 refine we_then ?_
 refine wc_seq ?_
 refine wc_draw_fin (Γ := Unit) (fun _ j9 => ([.agg #[.slice q L.length c, .int .i64 (((numS L (numS L (numS L (numS L (numS L s 2) 1) 8) 4) 4).1 : Nat) : Int), .bool ((numS L (numS L (numS L (numS L (numS L s 2) 1) 8) 4) 4).2)], .agg #[.int .i64 (numV L s 2 false), .int .i64 (numV L (numS L s 2) 1 false), .int .i64 (numV L (numS L (numS L s 2) 1) 8 true), .int .i64 (numV L (numS L (numS L (numS L s 2) 1) 8) 4 false), .int .i64 (numV L (numS L (numS L (numS L (numS L s 2) 1) 8) 4) 4 false)], undef, undef]).getD j9 undef) (fun ld _ => ⟨g4, #[.int .i64 (numV L s 2 false), .int .i64 (numV L (numS L s 2) 1 false), .int .i64 (numV L (numS L (numS L s 2) 1) 8 true), .int .i64 (numV L (numS L (numS L (numS L s 2) 1) 8) 4 false), .int .i64 (numV L (numS L (numS L (numS L (numS L s 2) 1) 8) 4) 4 false)], 67⟩ :: ⟨g3, if ld 3 = true then #[.int .i64 (numV L s 2 false), .int .i64 (numV L (numS L s 2) 1 false), .int .i64 (numV L (numS L (numS L s 2) 1) 8 true), .int .i64 (numV L (numS L (numS L (numS L s 2) 1) 8) 4 false), .int .i64 (numV L (numS L (numS L (numS L (numS L s 2) 1) 8) 4) 4 false)] else #[.int .i64 0, .int .i64 0, .int .i64 0, .int .i64 0, .int .i64 0], 67⟩ :: ⟨g2, if ld 2 = true then #[.slice q L.length c, .int .i64 (((numS L (numS L (numS L (numS L (numS L s 2) 1) 8) 4) 4).1 : Nat) : Int), .bool ((numS L (numS L (numS L (numS L (numS L s 2) 1) 8) 4) 4).2)] else #[.slice none 0 0, .int .i64 0, .bool false], 82⟩ :: ⟨g1, #[.slice q L.length c, .int .i64 (((numS L (numS L (numS L (numS L (numS L s 2) 1) 8) 4) 4).1 : Nat) : Int), .bool ((numS L (numS L (numS L (numS L (numS L s 2) 1) 8) 4) 4).2)], 82⟩ :: []) (fun _ _ => True) () 41 (fun _ => ({ tmps := #[.agg #[.slice q L.length c, .int .i64 (s.1 : Int), .bool s.2], .pointer (some ⟨g1, 0, none⟩), .pointer (some ⟨g2, 0, none⟩), .pointer (some ⟨g3, 0, none⟩), .pointer (some ⟨g4, 0, none⟩), .int .i64 (numV L s 2 false), .int .i64 (numV L (numS L s 2) 1 false), .tuple #[.agg #[.slice q L.length c, .int .i64 (((numS L s 2).1 : Nat) : Int), .bool ((numS L s 2).2)], .int .i64 (numV L s 2 false)], .agg #[.slice q L.length c, .int .i64 (s.1 : Int), .bool s.2], .tuple #[.agg #[.slice q L.length c, .int .i64 (((numS L s 2).1 : Nat) : Int), .bool ((numS L s 2).2)], .int .i64 (numV L s 2 false)], .agg #[.slice q L.length c, .int .i64 (((numS L s 2).1 : Nat) : Int), .bool ((numS L s 2).2)], .int .i64 (numV L s 2 false), .tuple #[.agg #[.slice q L.length c, .int .i64 (((numS L (numS L s 2) 1).1 : Nat) : Int), .bool ((numS L (numS L s 2) 1).2)], .int .i64 (numV L (numS L s 2) 1 false)], .agg #[.slice q L.length c, .int .i64 (((numS L s 2).1 : Nat) : Int), .bool ((numS L s 2).2)], .tuple #[.agg #[.slice q L.length c, .int .i64 (((numS L (numS L s 2) 1).1 : Nat) : Int), .bool ((numS L (numS L s 2) 1).2)], .int .i64 (numV L (numS L s 2) 1 false)], .agg #[.slice q L.length c, .int .i64 (((numS L (numS L s 2) 1).1 : Nat) : Int), .bool ((numS L (numS L s 2) 1).2)], .int .i64 (numV L (numS L s 2) 1 false), .int .i64 (numV L s 2 false), .pointer (some ⟨g4, 0, none⟩), .int .i64 (numV L (numS L s 2) 1 false), .pointer (some ⟨g4, 1, none⟩), .tuple #[.agg #[.slice q L.length c, .int .i64 (((numS L (numS L (numS L s 2) 1) 8).1 : Nat) : Int), .bool ((numS L (numS L (numS L s 2) 1) 8).2)], .int .i64 (numV L (numS L (numS L s 2) 1) 8 true)], .agg #[.slice q L.length c, .int .i64 (((numS L (numS L s 2) 1).1 : Nat) : Int), .bool ((numS L (numS L s 2) 1).2)], .tuple #[.agg #[.slice q L.length c, .int .i64 (((numS L (numS L (numS L s 2) 1) 8).1 : Nat) : Int), .bool ((numS L (numS L (numS L s 2) 1) 8).2)], .int .i64 (numV L (numS L (numS L s 2) 1) 8 true)], .agg #[.slice q L.length c, .int .i64 (((numS L (numS L (numS L s 2) 1) 8).1 : Nat) : Int), .bool ((numS L (numS L (numS L s 2) 1) 8).2)], .int .i64 (numV L (numS L (numS L s 2) 1) 8 true), .pointer (some ⟨g4, 2, none⟩), .tuple #[.agg #[.slice q L.length c, .int .i64 (((numS L (numS L (numS L (numS L s 2) 1) 8) 4).1 : Nat) : Int), .bool ((numS L (numS L (numS L (numS L s 2) 1) 8) 4).2)], .int .i64 (numV L (numS L (numS L (numS L s 2) 1) 8) 4 false)], .agg #[.slice q L.length c, .int .i64 (((numS L (numS L (numS L s 2) 1) 8).1 : Nat) : Int), .bool ((numS L (numS L (numS L s 2) 1) 8).2)], .tuple #[.agg #[.slice q L.length c, .int .i64 (((numS L (numS L (numS L (numS L s 2) 1) 8) 4).1 : Nat) : Int), .bool ((numS L (numS L (numS L (numS L s 2) 1) 8) 4).2)], .int .i64 (numV L (numS L (numS L (numS L s 2) 1) 8) 4 false)], .agg #[.slice q L.length c, .int .i64 (((numS L (numS L (numS L (numS L s 2) 1) 8) 4).1 : Nat) : Int), .bool ((numS L (numS L (numS L (numS L s 2) 1) 8) 4).2)], .int .i64 (numV L (numS L (numS L (numS L s 2) 1) 8) 4 false), .pointer (some ⟨g4, 3, none⟩), .tuple #[.agg #[.slice q L.length c, .int .i64 (((numS L (numS L (numS L (numS L (numS L s 2) 1) 8) 4) 4).1 : Nat) : Int), .bool ((numS L (numS L (numS L (numS L (numS L s 2) 1) 8) 4) 4).2)], .int .i64 (numV L (numS L (numS L (numS L (numS L s 2) 1) 8) 4) 4 false)], .agg #[.slice q L.length c, .int .i64 (((numS L (numS L (numS L (numS L s 2) 1) 8) 4).1 : Nat) : Int), .bool ((numS L (numS L (numS L (numS L s 2) 1) 8) 4).2)], .tuple #[.agg #[.slice q L.length c, .int .i64 (((numS L (numS L (numS L (numS L (numS L s 2) 1) 8) 4) 4).1 : Nat) : Int), .bool ((numS L (numS L (numS L (numS L (numS L s 2) 1) 8) 4) 4).2)], .int .i64 (numV L (numS L (numS L (numS L (numS L s 2) 1) 8) 4) 4 false)], .agg #[.slice q L.length c, .int .i64 (((numS L (numS L (numS L (numS L (numS L s 2) 1) 8) 4) 4).1 : Nat) : Int), .bool ((numS L (numS L (numS L (numS L (numS L s 2) 1) 8) 4) 4).2)], .int .i64 (numV L (numS L (numS L (numS L (numS L s 2) 1) 8) 4) 4 false), .pointer (some ⟨g4, 4, none⟩), .agg #[.slice q L.length c, .int .i64 (((numS L (numS L (numS L (numS L (numS L s 2) 1) 8) 4) 4).1 : Nat) : Int), .bool ((numS L (numS L (numS L (numS L (numS L s 2) 1) 8) 4) 4).2)], .agg #[.int .i64 (numV L s 2 false), .int .i64 (numV L (numS L s 2) 1 false), .int .i64 (numV L (numS L (numS L s 2) 1) 8 true), .int .i64 (numV L (numS L (numS L (numS L s 2) 1) 8) 4 false), .int .i64 (numV L (numS L (numS L (numS L (numS L s 2) 1) 8) 4) 4 false)]], defers := [] } : Act)) (fun _ => [⟨g4, #[.int .i64 (numV L s 2 false), .int .i64 (numV L (numS L s 2) 1 false), .int .i64 (numV L (numS L (numS L s 2) 1) 8 true), .int .i64 (numV L (numS L (numS L (numS L s 2) 1) 8) 4 false), .int .i64 (numV L (numS L (numS L (numS L (numS L s 2) 1) 8) 4) 4 false)], 67⟩, ⟨g3, #[.int .i64 (numV L s 2 false), .int .i64 (numV L (numS L s 2) 1 false), .int .i64 (numV L (numS L (numS L s 2) 1) 8 true), .int .i64 (numV L (numS L (numS L (numS L s 2) 1) 8) 4 false), .int .i64 (numV L (numS L (numS L (numS L (numS L s 2) 1) 8) 4) 4 false)], 67⟩, ⟨g2, #[.slice q L.length c, .int .i64 (((numS L (numS L (numS L (numS L (numS L s 2) 1) 8) 4) 4).1 : Nat) : Int), .bool ((numS L (numS L (numS L (numS L (numS L s 2) 1) 8) 4) 4).2)], 82⟩, ⟨g1, #[.slice q L.length c, .int .i64 (((numS L (numS L (numS L (numS L (numS L s 2) 1) 8) 4) 4).1 : Nat) : Int), .bool ((numS L (numS L (numS L (numS L (numS L s 2) 1) 8) 4) 4).2)], 82⟩]) (by kernel_rfl) rfl (by kernel_rfl) rfl trivial (fun _ => by kernel_rfl) (fun _ => rfl) ?_ ?_
 ·
  skip
  refine sps_cons (sp_val (.agg #[.slice q L.length c, .int .i64 (((numS L (numS L (numS L (numS L (numS L s 2) 1) 8) 4) 4).1 : Nat) : Int), .bool ((numS L (numS L (numS L (numS L (numS L s 2) 1) 8) 4) 4).2)]) rfl (fun _ => rfl) (fun _ _ h => h) (fun _ _ => rfl) (fun ld γ9 a9 w9 h9 hE9 => load_row (hE9.rowAt (i := 3) rfl) rfl (h9.out (by kernel_rfl) rfl) Try.underlying82 rfl (by kernel_rfl))) ?_
  refine sps_cons (sp_val (.agg #[.int .i64 (numV L s 2 false), .int .i64 (numV L (numS L s 2) 1 false), .int .i64 (numV L (numS L (numS L s 2) 1) 8 true), .int .i64 (numV L (numS L (numS L (numS L s 2) 1) 8) 4 false), .int .i64 (numV L (numS L (numS L (numS L (numS L s 2) 1) 8) 4) 4 false)]) rfl (fun _ => rfl) (fun _ _ h => h) (fun _ _ => rfl) (fun ld γ9 a9 w9 h9 hE9 => load_row (hE9.rowAt (i := 0) rfl) rfl (h9.out (by kernel_rfl) rfl) Try.underlying67 rfl (by kernel_rfl))) ?_
  refine sps_cons ⟨fun ld γ9 a9 w9 h9 _ hE9 K9 hK9 => h9.go rfl ?_⟩ ?_
  ·
   have l0 : ld 2 = false := h9.off
   have hE2 := hE9
   simp only [l0, Bool.false_eq_true, if_false] at hE2
   exact wp_store_row 82 _ _ rfl _ (#[.slice q L.length c, .int .i64 (((numS L (numS L (numS L (numS L (numS L s 2) 1) 8) 4) 4).1 : Nat) : Int), .bool ((numS L (numS L (numS L (numS L (numS L s 2) 1) 8) 4) 4).2)]) (h9.out (by kernel_rfl) rfl) (h9.tmp 0 rfl (h9.dep (by kernel_rfl))) _ _ (hE2.rowAt (i := 2) rfl) (by kernel_rfl) rfl (by simp [Value.oneCell']) (hK9 γ9 _ (fun _ _ => rfl) trivial (hE2.setRow (i := 2) rfl (#[.slice q L.length c, .int .i64 (((numS L (numS L (numS L (numS L (numS L s 2) 1) 8) 4) 4).1 : Nat) : Int), .bool ((numS L (numS L (numS L (numS L (numS L s 2) 1) 8) 4) 4).2)])))
  refine sps_cons ⟨fun ld γ9 a9 w9 h9 _ hE9 K9 hK9 => h9.go rfl ?_⟩ ?_
  ·
   have l0 : ld 3 = false := h9.off
   have hE2 := hE9
   simp only [l0, Bool.false_eq_true, if_false] at hE2
   exact wp_store_row 67 _ _ rfl _ (#[.int .i64 (numV L s 2 false), .int .i64 (numV L (numS L s 2) 1 false), .int .i64 (numV L (numS L (numS L s 2) 1) 8 true), .int .i64 (numV L (numS L (numS L (numS L s 2) 1) 8) 4 false), .int .i64 (numV L (numS L (numS L (numS L (numS L s 2) 1) 8) 4) 4 false)]) (h9.out (by kernel_rfl) rfl) (h9.tmp 1 rfl (h9.dep (by kernel_rfl))) _ _ (hE2.rowAt (i := 1) rfl) (by kernel_rfl) rfl (by simp [Value.oneCell']) (hK9 γ9 _ (fun _ _ => rfl) trivial (hE2.setRow (i := 1) rfl (#[.int .i64 (numV L s 2 false), .int .i64 (numV L (numS L s 2) 1 false), .int .i64 (numV L (numS L (numS L s 2) 1) 8 true), .int .i64 (numV L (numS L (numS L (numS L s 2) 1) 8) 4 false), .int .i64 (numV L (numS L (numS L (numS L (numS L s 2) 1) 8) 4) 4 false)])))
  exact sps_nil
 rintro ⟨⟩ -
 (try dsimp only)
 refine we_then ?_
 refine wc_ret ?_
 refine we_ret_cell2 (own_row 2 rfl) (own_row 1 rfl) rfl rfl rfl rfl Try.underlying82 rfl (by kernel_rfl) Try.underlying67 rfl (by kernel_rfl) (fun w1 hE => ?_)
 exact ⟨rfl, hE.below⟩
theorem many_le {α : Type} {L : List UInt8} {f : Pt → Pt × α} (hf : ∀ s : Pt, s.1 ≤ L.length → (f s).1.1 ≤ L.length) {s : Pt} (h : s.1 ≤ L.length) : ∀ k, (manyS f s k).1 ≤ L.length
 | 0 => h
 | k + 1 => hf _ (many_le hf h k)
set_option maxHeartbeats 6000000 in
theorem segment_any (L : List UInt8) (q : Option Addr) (c : Nat) (s : Pt) (w : World) (hL : Reads w q (flat ub L)) (hl : L.length ≤ 1048576) (hs : s.1 ≤ L.length) :
  Calls Try.prog 31 #[.agg #[.slice q L.length c, .int .i64 (s.1 : Int), .bool s.2]] w fun e w' => ∃ (u v : Own), u.Has 2 (segN L s) (flat enc2 (segmt L s).2.P) ∧ v.Has 1 (segM L s) (flat enc1 (segmt L s).2.X) ∧ e = .returned (.tuple #[.agg #[.slice q L.length c, .int .i64 (((segmt L s).1.1 : Nat) : Int), .bool (segmt L s).1.2], .agg #[.int .i64 (segmt L s).2.len, .slice u.ptr (segN L s) u.cap, .slice v.ptr (segM L s) v.cap]]) ∧ Env w w' (u.rows 68 ++ (v.rows 3 ++ [])) := by
 refine calls_sx Try.func31 rfl ?_
 simp only [Try.ntmps31, List.size_toArray, List.length_cons, List.length_nil, Nat.reduceAdd, Nat.reduceSub, Array.replicate_succ, Array.replicate_zero, List.push_toArray, List.append_toArray, List.nil_append, List.cons_append]
 refine wc_seq ?_
 refine wc_region ?_
 refine wl_new 82 (#[.slice q L.length c, .int .i64 (s.1 : Int), .bool s.2]) rfl (fun _ => by go_simp) ?_
 intro g1
 simp only [Act.put, Xa, Xz, Xs]
 refine wl_new 82 (#[.slice none 0 0, .int .i64 0, .bool false]) rfl (fun _ => by go_simp) ?_
 intro g2
 simp only [Act.put, Xa, Xz, Xs]
 refine wl_new 66 (#[.int .i64 0, .slice none 0 0, .slice none 0 0]) rfl (fun _ => by go_simp) ?_
 intro g3
 simp only [Act.put, Xa, Xz, Xs]
 refine wl_nil ?_
 refine we_then ?_
 refine wc_seq ?_
 refine wc_region ?_
 refine wl_new 66 (#[.int .i64 0, .slice none 0 0, .slice none 0 0]) rfl (fun _ => by go_simp) ?_
 intro g4
 simp only [Act.put, Xa, Xz, Xs]
 refine wl_nil ?_
 refine we_then ?_
 refine wc_seq ?_
 refine wc_region ?_
 refine wl_load 82 (.tmp 1) (own_row 3 rfl) rfl rfl rfl Try.underlying82 rfl (by kernel_rfl) ?_
 simp only [Act.put, Xa, Xz, Xs]
 refine wl_call_at 44 #[.agg #[.slice q L.length c, .int .i64 (s.1 : Int), .bool s.2], .int .i64 8, .bool true] (.tuple #[.agg #[.slice q L.length c, .int .i64 (((numS L s 8).1 : Nat) : Int), .bool ((numS L s 8).2)], .int .i64 (numV L s 8 true)]) rfl (fun _ => by go_simp) (fun W hE => num_any L q c s.1 s.2 8 true W ((sl_old hL) W hE) hl hs (by decide) (by decide)) ?_
 simp only [Act.put, Xa, Xz, Xs]
 refine wl_val (.tuple #[.agg #[.slice q L.length c, .int .i64 (((numS L s 8).1 : Nat) : Int), .bool ((numS L s 8).2)], .int .i64 (numV L s 8 true)]) rfl (fun _ => rfl) ?_
 simp only [Act.put, Xa, Xz, Xs]
 refine wl_val (.agg #[.slice q L.length c, .int .i64 (((numS L s 8).1 : Nat) : Int), .bool ((numS L s 8).2)]) rfl (fun _ => by go_simp) ?_
 simp only [Act.put, Xa, Xz, Xs]
 refine wl_val (.int .i64 (numV L s 8 true)) rfl (fun _ => by go_simp) ?_
 simp only [Act.put, Xa, Xz, Xs]
 refine wl_store 3 82 (.tmp 1) (.tmp 15) (#[.slice q L.length c, .int .i64 (((numS L s 8).1 : Nat) : Int), .bool ((numS L s 8).2)]) rfl rfl rfl rfl rfl (by kernel_rfl) rfl (by simp [Value.oneCell']) ?_
 simp only [Act.put, List.set_cons_zero, List.set_cons_succ]
 refine wl_val (.pointer (some ⟨g4, 0, none⟩)) rfl (fun _ => by go_simp) ?_
 simp only [Act.put, Xa, Xz, Xs]
 refine wl_store_cell 0 2 (.tmp 17) (.tmp 16) (.int .i64 0) (.int .i64 (numV L s 8 true)) rfl rfl rfl rfl rfl rfl (by kernel_rfl) rfl ?_
 simp only [Act.put, List.set_cons_zero]
 refine wl_nil ?_
 refine we_then ?_
 refine wc_seq ?_
 refine wc_region ?_
 refine wl_load 82 (.tmp 1) (own_row 3 rfl) rfl rfl rfl Try.underlying82 rfl (by kernel_rfl) ?_
 simp only [Act.put, Xa, Xz, Xs]
 refine wl_call_at 30 #[.agg #[.slice q L.length c, .int .i64 (((numS L s 8).1 : Nat) : Int), .bool ((numS L s 8).2)], .int .i64 1, .int .i64 64] (.tuple #[.agg #[.slice q L.length c, .int .i64 (((cntS L (numS L s 8) 1 64).1 : Nat) : Int), .bool ((cntS L (numS L s 8) 1 64).2)], .int .i64 ((cntV L (numS L s 8) 1 64 : Nat) : Int)]) rfl (fun _ => by go_simp) (fun W hE => count_any L q c (numS L s 8) 1 64 W ((sl_old hL) W hE) hl (num_le 8 hs) (by decide)) ?_
 simp only [Act.put, Xa, Xz, Xs]
 refine wl_val (.tuple #[.agg #[.slice q L.length c, .int .i64 (((cntS L (numS L s 8) 1 64).1 : Nat) : Int), .bool ((cntS L (numS L s 8) 1 64).2)], .int .i64 ((cntV L (numS L s 8) 1 64 : Nat) : Int)]) rfl (fun _ => rfl) ?_
 simp only [Act.put, Xa, Xz, Xs]
 refine wl_val (.agg #[.slice q L.length c, .int .i64 (((cntS L (numS L s 8) 1 64).1 : Nat) : Int), .bool ((cntS L (numS L s 8) 1 64).2)]) rfl (fun _ => by go_simp) ?_
 simp only [Act.put, Xa, Xz, Xs]
 refine wl_val (.int .i64 ((cntV L (numS L s 8) 1 64 : Nat) : Int)) rfl (fun _ => by go_simp) ?_
 simp only [Act.put, Xa, Xz, Xs]
 refine wl_store 3 82 (.tmp 1) (.tmp 21) (#[.slice q L.length c, .int .i64 (((cntS L (numS L s 8) 1 64).1 : Nat) : Int), .bool ((cntS L (numS L s 8) 1 64).2)]) rfl rfl rfl rfl rfl (by kernel_rfl) rfl (by simp [Value.oneCell']) ?_
 simp only [Act.put, List.set_cons_zero, List.set_cons_succ]
 refine wl_val (.int .i64 ((cntV L (numS L s 8) 1 64 : Nat) : Int)) rfl (fun _ => rfl) ?_
 simp only [Act.put, Xa, Xz, Xs]
 refine wl_nil ?_
 refine we_then ?_
 refine wc_seq ?_
 refine wc_seq ?_
 have c64 := cntV_le (L := L) (s := numS L s 8) (n := 1) (m := 64) (by decide)
 refine wc_region ?_
 refine wl_val (.int .i64 0) rfl (fun _ => rfl) ?_
 simp only [Act.put, Xa, Xz, Xs]
 refine wl_nil ?_
 refine we_then ?_
 refine wc_block ?_
 refine wc_loop (fun (zz : Nat × Pt × Own × Value × Value × Value × Value × Value × Value × Value × Value × Value × Value × Value × Value × Value × Value × Value × Value × Value × Value × Value × Value × Value × Value × Value × Value) => match zz with | ⟨k, t, u, u7, u23, u24, u25, u26, u27, u28, u29, u30, u31, u32, u33, u34, u35, u36, u37, u38, u39, u40, u41, u42, u43, u44, u45⟩ => ({ tmps := #[.agg #[.slice q L.length c, .int .i64 (s.1 : Int), .bool s.2], .pointer (some ⟨g1, 0, none⟩), .pointer (some ⟨g2, 0, none⟩), .pointer (some ⟨g3, 0, none⟩), .pointer (some ⟨g4, 0, none⟩), .int .i64 ((cntV L (numS L s 8) 1 64 : Nat) : Int), .int .i64 (k : Int), u7, undef, undef, undef, undef, .tuple #[.agg #[.slice q L.length c, .int .i64 (((numS L s 8).1 : Nat) : Int), .bool ((numS L s 8).2)], .int .i64 (numV L s 8 true)], .agg #[.slice q L.length c, .int .i64 (s.1 : Int), .bool s.2], .tuple #[.agg #[.slice q L.length c, .int .i64 (((numS L s 8).1 : Nat) : Int), .bool ((numS L s 8).2)], .int .i64 (numV L s 8 true)], .agg #[.slice q L.length c, .int .i64 (((numS L s 8).1 : Nat) : Int), .bool ((numS L s 8).2)], .int .i64 (numV L s 8 true), .pointer (some ⟨g4, 0, none⟩), .tuple #[.agg #[.slice q L.length c, .int .i64 (((cntS L (numS L s 8) 1 64).1 : Nat) : Int), .bool ((cntS L (numS L s 8) 1 64).2)], .int .i64 ((cntV L (numS L s 8) 1 64 : Nat) : Int)], .agg #[.slice q L.length c, .int .i64 (((numS L s 8).1 : Nat) : Int), .bool ((numS L s 8).2)], .tuple #[.agg #[.slice q L.length c, .int .i64 (((cntS L (numS L s 8) 1 64).1 : Nat) : Int), .bool ((cntS L (numS L s 8) 1 64).2)], .int .i64 ((cntV L (numS L s 8) 1 64 : Nat) : Int)], .agg #[.slice q L.length c, .int .i64 (((cntS L (numS L s 8) 1 64).1 : Nat) : Int), .bool ((cntS L (numS L s 8) 1 64).2)], .int .i64 ((cntV L (numS L s 8) 1 64 : Nat) : Int), u23, u24, u25, u26, u27, u28, u29, u30, u31, u32, u33, u34, u35, u36, u37, u38, u39, u40, u41, u42, u43, u44, u45, undef, undef, undef, undef, undef, undef, undef, undef, undef, undef, undef, undef, undef, undef, undef, undef, undef, undef, undef, undef, undef, undef, undef, undef], defers := [] } : Act)) (fun (zz : Nat × Pt × Own × Value × Value × Value × Value × Value × Value × Value × Value × Value × Value × Value × Value × Value × Value × Value × Value × Value × Value × Value × Value × Value × Value × Value × Value) => match zz with | ⟨k, t, u, u7, u23, u24, u25, u26, u27, u28, u29, u30, u31, u32, u33, u34, u35, u36, u37, u38, u39, u40, u41, u42, u43, u44, u45⟩ => ⟨g4, #[.int .i64 (numV L s 8 true), .slice u.ptr k u.cap, .slice none 0 0], 66⟩ :: ⟨g3, #[.int .i64 0, .slice none 0 0, .slice none 0 0], 66⟩ :: ⟨g2, #[.slice none 0 0, .int .i64 0, .bool false], 82⟩ :: ⟨g1, #[.slice q L.length c, .int .i64 (t.1 : Int), .bool t.2], 82⟩ :: (u.rows 68 ++ [])) (fun (zz : Nat × Pt × Own × Value × Value × Value × Value × Value × Value × Value × Value × Value × Value × Value × Value × Value × Value × Value × Value × Value × Value × Value × Value × Value × Value × Value × Value) => match zz with | ⟨k, t, u, u7, u23, u24, u25, u26, u27, u28, u29, u30, u31, u32, u33, u34, u35, u36, u37, u38, u39, u40, u41, u42, u43, u44, u45⟩ => k ≤ (cntV L (numS L s 8) 1 64) ∧ t = manyS (piece L) (cntS L (numS L s 8) 1 64) k ∧ u.Has 2 k (flat enc2 (manyV (piece L) (cntS L (numS L s 8) 1 64) k)) ∧ t.1 ≤ L.length) (fun (zz : Nat × Pt × Own × Value × Value × Value × Value × Value × Value × Value × Value × Value × Value × Value × Value × Value × Value × Value × Value × Value × Value × Value × Value × Value × Value × Value × Value) => match zz with | ⟨k, t, u, u7, u23, u24, u25, u26, u27, u28, u29, u30, u31, u32, u33, u34, u35, u36, u37, u38, u39, u40, u41, u42, u43, u44, u45⟩ => (cntV L (numS L s 8) 1 64) - k) ⟨0, (cntS L (numS L s 8) 1 64), Own.none, _, _, _, _, _, _, _, _, _, _, _, _, _, _, _, _, _, _, _, _, _, _, _, _⟩ ⟨Nat.zero_le _, rfl, Own.has_none 2, (cnt_le 1 64 (num_le 8 hs))⟩ rfl (List.Sublist.cons_cons _ (List.Sublist.cons_cons _ (List.Sublist.cons_cons _ (List.Sublist.cons_cons _ List.Sublist.slnil)))) ?_
 rintro ⟨k, t, u, u7, u23, u24, u25, u26, u27, u28, u29, u30, u31, u32, u33, u34, u35, u36, u37, u38, u39, u40, u41, u42, u43, u44, u45⟩ hφ
 (try dsimp only at hφ ⊢)
 obtain ⟨b1, b2, b3, b4⟩ := hφ
 refine wc_seq ?_
 refine wc_seq ?_
 refine wc_region ?_
 refine wl_val (.int .i64 (k : Int)) rfl (fun _ => rfl) ?_
 simp only [Act.put, Xa, Xz, Xs]
 refine wl_val (.int .i64 ((cntV L (numS L s 8) 1 64 : Nat) : Int)) rfl (fun _ => rfl) ?_
 simp only [Act.put, Xa, Xz, Xs]
 refine wl_val (.bool (decide ((k : Int) < ((cntV L (numS L s 8) 1 64 : Nat) : Int)))) rfl (fun w => run_cmp rfl rfl rfl Try.underlying3 rfl w) ?_
 simp only [Act.put, Xa, Xz, Xs]
 refine wl_nil ?_
 refine we_then ?_
 cases h5 : (decide ((k : Int) < ((cntV L (numS L s 8) 1 64 : Nat) : Int)))
 ·
  skip
  have p5 : ¬ ((k : Int) < ((cntV L (numS L s 8) 1 64 : Nat) : Int)) := of_decide_eq_false h5
  refine wc_false rfl ?_
  refine wc_exit ?_
  refine we_then_exit ?_
  refine we_then_exit ?_
  refine we_in_here ?_
  refine we_then ?_
  refine wc_seq ?_
  refine wc_region ?_
  refine wl_load 82 (.tmp 1) (own_row 3 rfl) rfl rfl rfl Try.underlying82 rfl (by kernel_rfl) ?_
  simp only [Act.put, Xa, Xz, Xs]
  refine wl_call_at 30 #[.agg #[.slice q L.length c, .int .i64 (t.1 : Int), .bool t.2], .int .i64 1, .int .i64 2] (.tuple #[.agg #[.slice q L.length c, .int .i64 (((cntS L t 1 2).1 : Nat) : Int), .bool ((cntS L t 1 2).2)], .int .i64 ((cntV L t 1 2 : Nat) : Int)]) rfl (fun _ => by go_simp) (fun W hE => count_any L q c t 1 2 W ((sl_old hL) W hE) hl b4 (by decide)) ?_
  simp only [Act.put, Xa, Xz, Xs]
  refine wl_val (.tuple #[.agg #[.slice q L.length c, .int .i64 (((cntS L t 1 2).1 : Nat) : Int), .bool ((cntS L t 1 2).2)], .int .i64 ((cntV L t 1 2 : Nat) : Int)]) rfl (fun _ => rfl) ?_
  simp only [Act.put, Xa, Xz, Xs]
  refine wl_val (.agg #[.slice q L.length c, .int .i64 (((cntS L t 1 2).1 : Nat) : Int), .bool ((cntS L t 1 2).2)]) rfl (fun _ => by go_simp) ?_
  simp only [Act.put, Xa, Xz, Xs]
  refine wl_val (.int .i64 ((cntV L t 1 2 : Nat) : Int)) rfl (fun _ => by go_simp) ?_
  simp only [Act.put, Xa, Xz, Xs]
  refine wl_store 3 82 (.tmp 1) (.tmp 49) (#[.slice q L.length c, .int .i64 (((cntS L t 1 2).1 : Nat) : Int), .bool ((cntS L t 1 2).2)]) rfl rfl rfl rfl rfl (by kernel_rfl) rfl (by simp [Value.oneCell']) ?_
  simp only [Act.put, List.set_cons_zero, List.set_cons_succ]
  refine wl_val (.int .i64 ((cntV L t 1 2 : Nat) : Int)) rfl (fun _ => rfl) ?_
  simp only [Act.put, Xa, Xz, Xs]
  refine wl_nil ?_
  refine we_then ?_
  refine wc_seq ?_
  refine wc_seq ?_
  have c2 := cntV_le (L := L) (s := t) (n := 1) (m := 2) (by decide)
  refine wc_region ?_
  refine wl_val (.int .i64 0) rfl (fun _ => rfl) ?_
  simp only [Act.put, Xa, Xz, Xs]
  refine wl_nil ?_
  refine we_then ?_
  refine wc_block ?_
  refine wc_loop (fun (zz : Nat × Pt × Own × Value × Value × Value × Value × Value × Value × Value × Value × Value × Value × Value × Value × Value × Value × Value × Value × Value × Value × Value) => match zz with | ⟨j, r, v, u10, u11, u51, u52, u53, u54, u55, u56, u57, u58, u59, u60, u61, u62, u63, u64, u65, u66, u67⟩ => ({ tmps := #[.agg #[.slice q L.length c, .int .i64 (s.1 : Int), .bool s.2], .pointer (some ⟨g1, 0, none⟩), .pointer (some ⟨g2, 0, none⟩), .pointer (some ⟨g3, 0, none⟩), .pointer (some ⟨g4, 0, none⟩), .int .i64 ((cntV L (numS L s 8) 1 64 : Nat) : Int), .int .i64 (k : Int), u7, .int .i64 ((cntV L t 1 2 : Nat) : Int), .int .i64 (j : Int), u10, u11, .tuple #[.agg #[.slice q L.length c, .int .i64 (((numS L s 8).1 : Nat) : Int), .bool ((numS L s 8).2)], .int .i64 (numV L s 8 true)], .agg #[.slice q L.length c, .int .i64 (s.1 : Int), .bool s.2], .tuple #[.agg #[.slice q L.length c, .int .i64 (((numS L s 8).1 : Nat) : Int), .bool ((numS L s 8).2)], .int .i64 (numV L s 8 true)], .agg #[.slice q L.length c, .int .i64 (((numS L s 8).1 : Nat) : Int), .bool ((numS L s 8).2)], .int .i64 (numV L s 8 true), .pointer (some ⟨g4, 0, none⟩), .tuple #[.agg #[.slice q L.length c, .int .i64 (((cntS L (numS L s 8) 1 64).1 : Nat) : Int), .bool ((cntS L (numS L s 8) 1 64).2)], .int .i64 ((cntV L (numS L s 8) 1 64 : Nat) : Int)], .agg #[.slice q L.length c, .int .i64 (((numS L s 8).1 : Nat) : Int), .bool ((numS L s 8).2)], .tuple #[.agg #[.slice q L.length c, .int .i64 (((cntS L (numS L s 8) 1 64).1 : Nat) : Int), .bool ((cntS L (numS L s 8) 1 64).2)], .int .i64 ((cntV L (numS L s 8) 1 64 : Nat) : Int)], .agg #[.slice q L.length c, .int .i64 (((cntS L (numS L s 8) 1 64).1 : Nat) : Int), .bool ((cntS L (numS L s 8) 1 64).2)], .int .i64 ((cntV L (numS L s 8) 1 64 : Nat) : Int), .int .i64 (k : Int), .int .i64 ((cntV L (numS L s 8) 1 64 : Nat) : Int), .bool false, u26, u27, u28, u29, u30, u31, u32, u33, u34, u35, u36, u37, u38, u39, u40, u41, u42, u43, u44, u45, .tuple #[.agg #[.slice q L.length c, .int .i64 (((cntS L t 1 2).1 : Nat) : Int), .bool ((cntS L t 1 2).2)], .int .i64 ((cntV L t 1 2 : Nat) : Int)], .agg #[.slice q L.length c, .int .i64 (t.1 : Int), .bool t.2], .tuple #[.agg #[.slice q L.length c, .int .i64 (((cntS L t 1 2).1 : Nat) : Int), .bool ((cntS L t 1 2).2)], .int .i64 ((cntV L t 1 2 : Nat) : Int)], .agg #[.slice q L.length c, .int .i64 (((cntS L t 1 2).1 : Nat) : Int), .bool ((cntS L t 1 2).2)], .int .i64 ((cntV L t 1 2 : Nat) : Int), u51, u52, u53, u54, u55, u56, u57, u58, u59, u60, u61, u62, u63, u64, u65, u66, u67, undef, undef], defers := [] } : Act)) (fun (zz : Nat × Pt × Own × Value × Value × Value × Value × Value × Value × Value × Value × Value × Value × Value × Value × Value × Value × Value × Value × Value × Value × Value) => match zz with | ⟨j, r, v, u10, u11, u51, u52, u53, u54, u55, u56, u57, u58, u59, u60, u61, u62, u63, u64, u65, u66, u67⟩ => ⟨g4, #[.int .i64 (numV L s 8 true), .slice u.ptr k u.cap, .slice v.ptr j v.cap], 66⟩ :: ⟨g3, #[.int .i64 0, .slice none 0 0, .slice none 0 0], 66⟩ :: ⟨g2, #[.slice none 0 0, .int .i64 0, .bool false], 82⟩ :: ⟨g1, #[.slice q L.length c, .int .i64 (r.1 : Int), .bool r.2], 82⟩ :: (u.rows 68 ++ (v.rows 3 ++ []))) (fun (zz : Nat × Pt × Own × Value × Value × Value × Value × Value × Value × Value × Value × Value × Value × Value × Value × Value × Value × Value × Value × Value × Value × Value) => match zz with | ⟨j, r, v, u10, u11, u51, u52, u53, u54, u55, u56, u57, u58, u59, u60, u61, u62, u63, u64, u65, u66, u67⟩ => j ≤ (cntV L t 1 2) ∧ r = manyS (next L) (cntS L t 1 2) j ∧ v.Has 1 j (flat enc1 (manyV (next L) (cntS L t 1 2) j)) ∧ r.1 ≤ L.length) (fun (zz : Nat × Pt × Own × Value × Value × Value × Value × Value × Value × Value × Value × Value × Value × Value × Value × Value × Value × Value × Value × Value × Value × Value) => match zz with | ⟨j, r, v, u10, u11, u51, u52, u53, u54, u55, u56, u57, u58, u59, u60, u61, u62, u63, u64, u65, u66, u67⟩ => (cntV L t 1 2) - j) ⟨0, (cntS L t 1 2), Own.none, _, _, _, _, _, _, _, _, _, _, _, _, _, _, _, _, _, _, _⟩ ⟨Nat.zero_le _, rfl, Own.has_none 1, (cnt_le 1 2 b4)⟩ rfl (List.Sublist.cons_cons _ (List.Sublist.cons_cons _ (List.Sublist.cons_cons _ (List.Sublist.cons_cons _ (List.Sublist.append_left List.Sublist.slnil _))))) ?_
  rintro ⟨j, r, v, u10, u11, u51, u52, u53, u54, u55, u56, u57, u58, u59, u60, u61, u62, u63, u64, u65, u66, u67⟩ hφ
  (try dsimp only at hφ ⊢)
  obtain ⟨d1, d2, d3, d4⟩ := hφ
  refine wc_seq ?_
  refine wc_seq ?_
  refine wc_region ?_
  refine wl_val (.int .i64 (j : Int)) rfl (fun _ => rfl) ?_
  simp only [Act.put, Xa, Xz, Xs]
  refine wl_val (.int .i64 ((cntV L t 1 2 : Nat) : Int)) rfl (fun _ => rfl) ?_
  simp only [Act.put, Xa, Xz, Xs]
  refine wl_val (.bool (decide ((j : Int) < ((cntV L t 1 2 : Nat) : Int)))) rfl (fun w => run_cmp rfl rfl rfl Try.underlying3 rfl w) ?_
  simp only [Act.put, Xa, Xz, Xs]
  refine wl_nil ?_
  refine we_then ?_
  cases h6 : (decide ((j : Int) < ((cntV L t 1 2 : Nat) : Int)))
  ·
   skip
   have p6 : ¬ ((j : Int) < ((cntV L t 1 2 : Nat) : Int)) := of_decide_eq_false h6
   refine wc_false rfl ?_
   refine wc_exit ?_
   refine we_then_exit ?_
   refine we_then_exit ?_
   refine we_in_here ?_
   refine we_then ?_
   refine wc_seq ?_
   refine wc_draw_fin (Γ := Unit) (fun _ j9 => ([.agg #[.slice q L.length c, .int .i64 (r.1 : Int), .bool r.2], .agg #[.int .i64 (numV L s 8 true), .slice u.ptr k u.cap, .slice v.ptr j v.cap], undef, undef]).getD j9 undef) (fun ld _ => ⟨g4, #[.int .i64 (numV L s 8 true), .slice u.ptr k u.cap, .slice v.ptr j v.cap], 66⟩ :: ⟨g3, if ld 3 = true then #[.int .i64 (numV L s 8 true), .slice u.ptr k u.cap, .slice v.ptr j v.cap] else #[.int .i64 0, .slice none 0 0, .slice none 0 0], 66⟩ :: ⟨g2, if ld 2 = true then #[.slice q L.length c, .int .i64 (r.1 : Int), .bool r.2] else #[.slice none 0 0, .int .i64 0, .bool false], 82⟩ :: ⟨g1, #[.slice q L.length c, .int .i64 (r.1 : Int), .bool r.2], 82⟩ :: (u.rows 68 ++ (v.rows 3 ++ []))) (fun _ _ => True) () 70 (fun _ => ({ tmps := #[.agg #[.slice q L.length c, .int .i64 (s.1 : Int), .bool s.2], .pointer (some ⟨g1, 0, none⟩), .pointer (some ⟨g2, 0, none⟩), .pointer (some ⟨g3, 0, none⟩), .pointer (some ⟨g4, 0, none⟩), .int .i64 ((cntV L (numS L s 8) 1 64 : Nat) : Int), .int .i64 (k : Int), u7, .int .i64 ((cntV L t 1 2 : Nat) : Int), .int .i64 (j : Int), u10, u11, .tuple #[.agg #[.slice q L.length c, .int .i64 (((numS L s 8).1 : Nat) : Int), .bool ((numS L s 8).2)], .int .i64 (numV L s 8 true)], .agg #[.slice q L.length c, .int .i64 (s.1 : Int), .bool s.2], .tuple #[.agg #[.slice q L.length c, .int .i64 (((numS L s 8).1 : Nat) : Int), .bool ((numS L s 8).2)], .int .i64 (numV L s 8 true)], .agg #[.slice q L.length c, .int .i64 (((numS L s 8).1 : Nat) : Int), .bool ((numS L s 8).2)], .int .i64 (numV L s 8 true), .pointer (some ⟨g4, 0, none⟩), .tuple #[.agg #[.slice q L.length c, .int .i64 (((cntS L (numS L s 8) 1 64).1 : Nat) : Int), .bool ((cntS L (numS L s 8) 1 64).2)], .int .i64 ((cntV L (numS L s 8) 1 64 : Nat) : Int)], .agg #[.slice q L.length c, .int .i64 (((numS L s 8).1 : Nat) : Int), .bool ((numS L s 8).2)], .tuple #[.agg #[.slice q L.length c, .int .i64 (((cntS L (numS L s 8) 1 64).1 : Nat) : Int), .bool ((cntS L (numS L s 8) 1 64).2)], .int .i64 ((cntV L (numS L s 8) 1 64 : Nat) : Int)], .agg #[.slice q L.length c, .int .i64 (((cntS L (numS L s 8) 1 64).1 : Nat) : Int), .bool ((cntS L (numS L s 8) 1 64).2)], .int .i64 ((cntV L (numS L s 8) 1 64 : Nat) : Int), .int .i64 (k : Int), .int .i64 ((cntV L (numS L s 8) 1 64 : Nat) : Int), .bool false, u26, u27, u28, u29, u30, u31, u32, u33, u34, u35, u36, u37, u38, u39, u40, u41, u42, u43, u44, u45, .tuple #[.agg #[.slice q L.length c, .int .i64 (((cntS L t 1 2).1 : Nat) : Int), .bool ((cntS L t 1 2).2)], .int .i64 ((cntV L t 1 2 : Nat) : Int)], .agg #[.slice q L.length c, .int .i64 (t.1 : Int), .bool t.2], .tuple #[.agg #[.slice q L.length c, .int .i64 (((cntS L t 1 2).1 : Nat) : Int), .bool ((cntS L t 1 2).2)], .int .i64 ((cntV L t 1 2 : Nat) : Int)], .agg #[.slice q L.length c, .int .i64 (((cntS L t 1 2).1 : Nat) : Int), .bool ((cntS L t 1 2).2)], .int .i64 ((cntV L t 1 2 : Nat) : Int), .int .i64 (j : Int), .int .i64 ((cntV L t 1 2 : Nat) : Int), .bool false, u54, u55, u56, u57, u58, u59, u60, u61, u62, u63, u64, u65, u66, u67, .agg #[.slice q L.length c, .int .i64 (r.1 : Int), .bool r.2], .agg #[.int .i64 (numV L s 8 true), .slice u.ptr k u.cap, .slice v.ptr j v.cap]], defers := [] } : Act)) (fun _ => ⟨g4, #[.int .i64 (numV L s 8 true), .slice u.ptr k u.cap, .slice v.ptr j v.cap], 66⟩ :: ⟨g3, #[.int .i64 (numV L s 8 true), .slice u.ptr k u.cap, .slice v.ptr j v.cap], 66⟩ :: ⟨g2, #[.slice q L.length c, .int .i64 (r.1 : Int), .bool r.2], 82⟩ :: ⟨g1, #[.slice q L.length c, .int .i64 (r.1 : Int), .bool r.2], 82⟩ :: (u.rows 68 ++ (v.rows 3 ++ []))) (by kernel_rfl) rfl (by kernel_rfl) rfl trivial (fun _ => by kernel_rfl) (fun _ => rfl) ?_ ?_
   ·
    skip
    refine sps_cons (sp_val (.agg #[.slice q L.length c, .int .i64 (r.1 : Int), .bool r.2]) rfl (fun _ => rfl) (fun _ _ h => h) (fun _ _ => rfl) (fun ld γ9 a9 w9 h9 hE9 => load_row (hE9.rowAt (i := 3) rfl) rfl (h9.out (by kernel_rfl) rfl) Try.underlying82 rfl (by kernel_rfl))) ?_
    refine sps_cons (sp_val (.agg #[.int .i64 (numV L s 8 true), .slice u.ptr k u.cap, .slice v.ptr j v.cap]) rfl (fun _ => rfl) (fun _ _ h => h) (fun _ _ => rfl) (fun ld γ9 a9 w9 h9 hE9 => load_row (hE9.rowAt (i := 0) rfl) rfl (h9.out (by kernel_rfl) rfl) Try.underlying66 rfl (by kernel_rfl))) ?_
    refine sps_cons ⟨fun ld γ9 a9 w9 h9 _ hE9 K9 hK9 => h9.go rfl ?_⟩ ?_
    ·
     have l0 : ld 2 = false := h9.off
     have hE2 := hE9
     simp only [l0, Bool.false_eq_true, if_false] at hE2
     exact wp_store_row 82 _ _ rfl _ (#[.slice q L.length c, .int .i64 (r.1 : Int), .bool r.2]) (h9.out (by kernel_rfl) rfl) (h9.tmp 0 rfl (h9.dep (by kernel_rfl))) _ _ (hE2.rowAt (i := 2) rfl) (by kernel_rfl) rfl (by simp [Value.oneCell']) (hK9 γ9 _ (fun _ _ => rfl) trivial (hE2.setRow (i := 2) rfl (#[.slice q L.length c, .int .i64 (r.1 : Int), .bool r.2])))
    refine sps_cons ⟨fun ld γ9 a9 w9 h9 _ hE9 K9 hK9 => h9.go rfl ?_⟩ ?_
    ·
     have l0 : ld 3 = false := h9.off
     have hE2 := hE9
     simp only [l0, Bool.false_eq_true, if_false] at hE2
     exact wp_store_row 66 _ _ rfl _ (#[.int .i64 (numV L s 8 true), .slice u.ptr k u.cap, .slice v.ptr j v.cap]) (h9.out (by kernel_rfl) rfl) (h9.tmp 1 rfl (h9.dep (by kernel_rfl))) _ _ (hE2.rowAt (i := 1) rfl) (by kernel_rfl) rfl (by simp [Value.oneCell']) (hK9 γ9 _ (fun _ _ => rfl) trivial (hE2.setRow (i := 1) rfl (#[.int .i64 (numV L s 8 true), .slice u.ptr k u.cap, .slice v.ptr j v.cap])))
    exact sps_nil
   rintro ⟨⟩ -
   (try dsimp only)
   refine we_then ?_
   refine wc_ret ?_
   refine we_ret_cell2 (own_row 2 rfl) (own_row 1 rfl) rfl rfl rfl rfl Try.underlying82 rfl (by kernel_rfl) Try.underlying66 rfl (by kernel_rfl) (fun w1 hE => ?_)
   have e1 : k = segN L s := by show k = (cntV L (numS L s 8) 1 64); omega
   have e2 : t = segB' L s := by rw [b2, e1]; rfl
   have e3 : j = segM L s := by show j = cntV L (segB' L s) 1 2; rw [← e2]; omega
   have e4 : r = (segmt L s).1 := by rw [d2, e3, e2]; rfl
   rw [e1] at b3
   rw [e3, e2] at d3
   subst e1
   subst e3
   exact ⟨u, v, b3, d3, by rw [e4]; rfl, hE.sub (List.Sublist.cons _ (List.Sublist.cons _ (List.Sublist.cons _ (List.Sublist.cons _ (List.Sublist.append_left (List.Sublist.append_left List.Sublist.slnil _) _)))))⟩
  ·
   skip
   have p6 : (j : Int) < ((cntV L t 1 2 : Nat) : Int) := of_decide_eq_true h6
   refine wc_true rfl ?_
   refine wc_skip ?_
   refine we_then ?_
   refine wc_seq ?_
   refine wc_block ?_
   refine wc_seq ?_
   refine wc_region ?_
   refine wl_load 82 (.tmp 1) (own_row 3 rfl) rfl rfl rfl Try.underlying82 rfl (by kernel_rfl) ?_
   simp only [Act.put, Xa, Xz, Xs]
   refine wl_call_at 44 #[.agg #[.slice q L.length c, .int .i64 (r.1 : Int), .bool r.2], .int .i64 1, .bool false] (.tuple #[.agg #[.slice q L.length c, .int .i64 (((numS L r 1).1 : Nat) : Int), .bool ((numS L r 1).2)], .int .i64 (numV L r 1 false)]) rfl (fun _ => by go_simp) (fun W hE => num_any L q c r.1 r.2 1 false W ((sl_old hL) W hE) hl d4 (by decide) (by decide)) ?_
   simp only [Act.put, Xa, Xz, Xs]
   refine wl_val (.tuple #[.agg #[.slice q L.length c, .int .i64 (((numS L r 1).1 : Nat) : Int), .bool ((numS L r 1).2)], .int .i64 (numV L r 1 false)]) rfl (fun _ => rfl) ?_
   simp only [Act.put, Xa, Xz, Xs]
   refine wl_val (.agg #[.slice q L.length c, .int .i64 (((numS L r 1).1 : Nat) : Int), .bool ((numS L r 1).2)]) rfl (fun _ => by go_simp) ?_
   simp only [Act.put, Xa, Xz, Xs]
   refine wl_val (.int .i64 (numV L r 1 false)) rfl (fun _ => by go_simp) ?_
   simp only [Act.put, Xa, Xz, Xs]
   refine wl_new 82 (#[.slice none 0 0, .int .i64 0, .bool false]) rfl (fun _ => by go_simp) ?_
   intro g7
   simp only [Act.put, Xa, Xz, Xs]
   refine wl_store 0 82 (.tmp 10) (.tmp 59) (#[.slice q L.length c, .int .i64 (((numS L r 1).1 : Nat) : Int), .bool ((numS L r 1).2)]) rfl rfl rfl rfl rfl (by kernel_rfl) rfl (by simp [Value.oneCell']) ?_
   simp only [Act.put, List.set_cons_zero]
   refine wl_val (.int .i64 (numV L r 1 false)) rfl (fun _ => rfl) ?_
   simp only [Act.put, Xa, Xz, Xs]
   refine wl_nil ?_
   refine we_then ?_
   refine wc_seq ?_
   refine wc_region ?_
   refine wl_load 82 (.tmp 10) (own_row 0 rfl) rfl rfl rfl Try.underlying82 rfl (by kernel_rfl) ?_
   simp only [Act.put, Xa, Xz, Xs]
   refine wl_store 4 82 (.tmp 1) (.tmp 61) (#[.slice q L.length c, .int .i64 (((numS L r 1).1 : Nat) : Int), .bool ((numS L r 1).2)]) rfl rfl rfl rfl rfl (by kernel_rfl) rfl (by simp [Value.oneCell']) ?_
   simp only [Act.put, List.set_cons_zero, List.set_cons_succ]
   refine wl_nil ?_
   refine we_then ?_
   refine wc_region ?_
   refine wl_val (.pointer (some ⟨g4, 2, none⟩)) rfl (fun _ => by go_simp) ?_
   simp only [Act.put, Xa, Xz, Xs]
   refine wl_cell 52 (.tmp 62) (.slice v.ptr j v.cap) (own_row 1 rfl) rfl rfl rfl rfl Try.isAgg52 ?_
   simp only [Act.put, Xa, Xz, Xs]
   refine wl_val (.int .i64 (numV L r 1 false)) rfl (fun _ => rfl) ?_
   simp only [Act.put, Xa, Xz, Xs]
   refine wl_lit (e := 3) #[.int .i64 (numV L r 1 false)] 1 rfl (fun _ => by go_simp) ?_
   intro g8
   simp only [Act.put, Xa, Xz, Xs]
   refine wl_append (e := 3) (size := 1) (bytes := 8) (m := 1) ([⟨g8, #[.int .i64 (numV L r 1 false)], 3⟩, ⟨g7, #[.slice q L.length c, .int .i64 (((numS L r 1).1 : Nat) : Int), .bool ((numS L r 1).2)], 82⟩, ⟨g4, #[.int .i64 (numV L s 8 true), .slice u.ptr k u.cap, .slice v.ptr j v.cap], 66⟩, ⟨g3, #[.int .i64 0, .slice none 0 0, .slice none 0 0], 66⟩, ⟨g2, #[.slice none 0 0, .int .i64 0, .bool false], 82⟩, ⟨g1, #[.slice q L.length c, .int .i64 (((numS L r 1).1 : Nat) : Int), .bool ((numS L r 1).2)], 82⟩] ++ (u.rows 68 ++ [])) [] v (ys := [.int .i64 (numV L r 1 false)]) (by simp) d3 (sl_row 0 rfl) rfl (by simp [Value.oneCell']) rfl rfl rfl rfl Try.underlying52 (by unfold Elem; kernel_rfl) (by decide) (by unfold maxLen; omega) (by omega) ?_
   intro s9 hs9
   simp only [List.append_assoc, List.cons_append, List.nil_append, Act.put, Xa, Xz, Xs]
   refine wl_val (.pointer (some ⟨g4, 2, none⟩)) rfl (fun _ => by go_simp) ?_
   simp only [Act.put, Xa, Xz, Xs]
   refine wl_store_cell 2 52 (.tmp 67) (.tmp 66) (.slice v.ptr j v.cap) (.slice s9.ptr (j + 1) s9.cap) rfl rfl rfl rfl rfl rfl (by kernel_rfl) rfl ?_
   simp only [Act.put, List.set_cons_zero, List.set_cons_succ]
   refine wl_nil ?_
   refine we_in ?_
   refine we_then ?_
   refine wc_region ?_
   refine wl_val (.int .i64 (j : Int)) rfl (fun _ => rfl) ?_
   simp only [Act.put, Xa, Xz, Xs]
   refine wl_val (.int .i64 ((j + 1 : Nat) : Int)) rfl (fun w => run_nat (X := j) (Y := 1) (Z := j + 1) rfl rfl rfl rfl (by omega) w) ?_
   simp only [Act.put, Xa, Xz, Xs]
   refine wl_val (.int .i64 ((j + 1 : Nat) : Int)) rfl (fun _ => rfl) ?_
   simp only [Act.put, Xa, Xz, Xs]
   refine wl_nil ?_
   exact we_meet ⟨(j + 1), (numS L r 1), s9, _, _, _, _, _, _, _, _, _, _, _, _, _, _, _, _, _, _, _⟩ (by (try dsimp only); exact ⟨⟨by omega, by rw [d2]; rfl, by rw [d2] at hs9; exact has_snoc (x := numV L (manyS (next L) (cntS L t 1 2) j) 1 false) hs9, (num_le 1 d4)⟩, by omega⟩) rfl (List.Sublist.cons _ (List.Sublist.cons _ (List.Sublist.cons_cons _ (List.Sublist.cons_cons _ (List.Sublist.cons_cons _ (List.Sublist.cons_cons _ (List.Sublist.append_left (List.Sublist.append_left List.Sublist.slnil _) _)))))))
 ·
  skip
  have p5 : (k : Int) < ((cntV L (numS L s 8) 1 64 : Nat) : Int) := of_decide_eq_true h5
  refine wc_true rfl ?_
  refine wc_skip ?_
  refine we_then ?_
  refine wc_seq ?_
  refine wc_block ?_
  refine wc_seq ?_
  refine wc_region ?_
  refine wl_new 68 (#[.int .i64 0, .int .i64 0]) rfl (fun _ => by go_simp) ?_
  intro g10
  simp only [Act.put, Xa, Xz, Xs]
  refine wl_nil ?_
  refine we_then ?_
  refine wc_seq ?_
  refine wc_region ?_
  refine wl_load 82 (.tmp 1) (own_row 4 rfl) rfl rfl rfl Try.underlying82 rfl (by kernel_rfl) ?_
  simp only [Act.put, Xa, Xz, Xs]
  refine wl_call_at 44 #[.agg #[.slice q L.length c, .int .i64 (t.1 : Int), .bool t.2], .int .i64 8, .bool true] (.tuple #[.agg #[.slice q L.length c, .int .i64 (((numS L t 8).1 : Nat) : Int), .bool ((numS L t 8).2)], .int .i64 (numV L t 8 true)]) rfl (fun _ => by go_simp) (fun W hE => num_any L q c t.1 t.2 8 true W ((sl_old hL) W hE) hl b4 (by decide) (by decide)) ?_
  simp only [Act.put, Xa, Xz, Xs]
  refine wl_val (.tuple #[.agg #[.slice q L.length c, .int .i64 (((numS L t 8).1 : Nat) : Int), .bool ((numS L t 8).2)], .int .i64 (numV L t 8 true)]) rfl (fun _ => rfl) ?_
  simp only [Act.put, Xa, Xz, Xs]
  refine wl_val (.agg #[.slice q L.length c, .int .i64 (((numS L t 8).1 : Nat) : Int), .bool ((numS L t 8).2)]) rfl (fun _ => by go_simp) ?_
  simp only [Act.put, Xa, Xz, Xs]
  refine wl_val (.int .i64 (numV L t 8 true)) rfl (fun _ => by go_simp) ?_
  simp only [Act.put, Xa, Xz, Xs]
  refine wl_store 4 82 (.tmp 1) (.tmp 31) (#[.slice q L.length c, .int .i64 (((numS L t 8).1 : Nat) : Int), .bool ((numS L t 8).2)]) rfl rfl rfl rfl rfl (by kernel_rfl) rfl (by simp [Value.oneCell']) ?_
  simp only [Act.put, List.set_cons_zero, List.set_cons_succ]
  refine wl_val (.pointer (some ⟨g10, 0, none⟩)) rfl (fun _ => by go_simp) ?_
  simp only [Act.put, Xa, Xz, Xs]
  refine wl_store_cell 0 2 (.tmp 33) (.tmp 32) (.int .i64 0) (.int .i64 (numV L t 8 true)) rfl rfl rfl rfl rfl rfl (by kernel_rfl) rfl ?_
  simp only [Act.put, List.set_cons_zero]
  refine wl_nil ?_
  refine we_then ?_
  refine wc_seq ?_
  refine wc_region ?_
  refine wl_load 82 (.tmp 1) (own_row 4 rfl) rfl rfl rfl Try.underlying82 rfl (by kernel_rfl) ?_
  simp only [Act.put, Xa, Xz, Xs]
  refine wl_call_at 44 #[.agg #[.slice q L.length c, .int .i64 (((numS L t 8).1 : Nat) : Int), .bool ((numS L t 8).2)], .int .i64 4, .bool true] (.tuple #[.agg #[.slice q L.length c, .int .i64 (((numS L (numS L t 8) 4).1 : Nat) : Int), .bool ((numS L (numS L t 8) 4).2)], .int .i64 (numV L (numS L t 8) 4 true)]) rfl (fun _ => by go_simp) (fun W hE => num_any L q c (numS L t 8).1 (numS L t 8).2 4 true W ((sl_old hL) W hE) hl (num_le 8 b4) (by decide) (by decide)) ?_
  simp only [Act.put, Xa, Xz, Xs]
  refine wl_val (.tuple #[.agg #[.slice q L.length c, .int .i64 (((numS L (numS L t 8) 4).1 : Nat) : Int), .bool ((numS L (numS L t 8) 4).2)], .int .i64 (numV L (numS L t 8) 4 true)]) rfl (fun _ => rfl) ?_
  simp only [Act.put, Xa, Xz, Xs]
  refine wl_val (.agg #[.slice q L.length c, .int .i64 (((numS L (numS L t 8) 4).1 : Nat) : Int), .bool ((numS L (numS L t 8) 4).2)]) rfl (fun _ => by go_simp) ?_
  simp only [Act.put, Xa, Xz, Xs]
  refine wl_val (.int .i64 (numV L (numS L t 8) 4 true)) rfl (fun _ => by go_simp) ?_
  simp only [Act.put, Xa, Xz, Xs]
  refine wl_store 4 82 (.tmp 1) (.tmp 37) (#[.slice q L.length c, .int .i64 (((numS L (numS L t 8) 4).1 : Nat) : Int), .bool ((numS L (numS L t 8) 4).2)]) rfl rfl rfl rfl rfl (by kernel_rfl) rfl (by simp [Value.oneCell']) ?_
  simp only [Act.put, List.set_cons_zero, List.set_cons_succ]
  refine wl_val (.pointer (some ⟨g10, 1, none⟩)) rfl (fun _ => by go_simp) ?_
  simp only [Act.put, Xa, Xz, Xs]
  refine wl_store_cell 0 2 (.tmp 39) (.tmp 38) (.int .i64 0) (.int .i64 (numV L (numS L t 8) 4 true)) rfl rfl rfl rfl rfl rfl (by kernel_rfl) rfl ?_
  simp only [Act.put, List.set_cons_zero]
  refine wl_nil ?_
  refine we_then ?_
  refine wc_region ?_
  refine wl_val (.pointer (some ⟨g4, 1, none⟩)) rfl (fun _ => by go_simp) ?_
  simp only [Act.put, Xa, Xz, Xs]
  refine wl_cell 64 (.tmp 40) (.slice u.ptr k u.cap) (own_row 1 rfl) rfl rfl rfl rfl Try.isAgg64 ?_
  simp only [Act.put, Xa, Xz, Xs]
  refine wl_load 68 (.tmp 7) (own_row 0 rfl) rfl rfl rfl Try.underlying68 rfl (by kernel_rfl) ?_
  simp only [Act.put, Xa, Xz, Xs]
  refine wl_lit (e := 68) #[.int .i64 (numV L t 8 true), .int .i64 (numV L (numS L t 8) 4 true)] 1 rfl (fun _ => by go_simp) ?_
  intro g11
  simp only [Act.put, Xa, Xz, Xs]
  refine wl_append (e := 68) (size := 2) (bytes := 16) (m := 1) [⟨g11, #[.int .i64 (numV L t 8 true), .int .i64 (numV L (numS L t 8) 4 true)], 68⟩, ⟨g10, #[.int .i64 (numV L t 8 true), .int .i64 (numV L (numS L t 8) 4 true)], 68⟩, ⟨g4, #[.int .i64 (numV L s 8 true), .slice u.ptr k u.cap, .slice none 0 0], 66⟩, ⟨g3, #[.int .i64 0, .slice none 0 0, .slice none 0 0], 66⟩, ⟨g2, #[.slice none 0 0, .int .i64 0, .bool false], 82⟩, ⟨g1, #[.slice q L.length c, .int .i64 (((numS L (numS L t 8) 4).1 : Nat) : Int), .bool ((numS L (numS L t 8) 4).2)], 82⟩] [] u (ys := [.int .i64 (numV L t 8 true), .int .i64 (numV L (numS L t 8) 4 true)]) rfl b3 (sl_row 0 rfl) rfl (by simp [Value.oneCell']) rfl rfl rfl rfl Try.underlying64 (by unfold Elem; kernel_rfl) (by decide) (by unfold maxLen; omega) (by omega) ?_
  intro s12 hs12
  simp only [List.cons_append, List.nil_append, Act.put, Xa, Xz, Xs]
  refine wl_val (.pointer (some ⟨g4, 1, none⟩)) rfl (fun _ => by go_simp) ?_
  simp only [Act.put, Xa, Xz, Xs]
  refine wl_store_cell 2 64 (.tmp 45) (.tmp 44) (.slice u.ptr k u.cap) (.slice s12.ptr (k + 1) s12.cap) rfl rfl rfl rfl rfl rfl (by kernel_rfl) rfl ?_
  simp only [Act.put, List.set_cons_zero, List.set_cons_succ]
  refine wl_nil ?_
  refine we_in ?_
  refine we_then ?_
  refine wc_region ?_
  refine wl_val (.int .i64 (k : Int)) rfl (fun _ => rfl) ?_
  simp only [Act.put, Xa, Xz, Xs]
  refine wl_val (.int .i64 ((k + 1 : Nat) : Int)) rfl (fun w => run_nat (X := k) (Y := 1) (Z := k + 1) rfl rfl rfl rfl (by omega) w) ?_
  simp only [Act.put, Xa, Xz, Xs]
  refine wl_val (.int .i64 ((k + 1 : Nat) : Int)) rfl (fun _ => rfl) ?_
  simp only [Act.put, Xa, Xz, Xs]
  refine wl_nil ?_
  exact we_meet ⟨(k + 1), (numS L (numS L t 8) 4), s12, _, _, _, _, _, _, _, _, _, _, _, _, _, _, _, _, _, _, _, _, _, _, _, _⟩ (by (try dsimp only); exact ⟨⟨by omega, by rw [b2]; rfl, by rw [b2] at hs12; exact has_snoc (x := pieceV L (manyS (piece L) (cntS L (numS L s 8) 1 64) k)) hs12, (num_le 4 (num_le 8 b4))⟩, by omega⟩) rfl (List.Sublist.cons _ (List.Sublist.cons _ (List.Sublist.cons_cons _ (List.Sublist.cons_cons _ (List.Sublist.cons_cons _ (List.Sublist.cons_cons _ (List.Sublist.append_left List.Sublist.slnil _)))))))
end Go.Proofs.Ytggannjlaehihaa.Imref
