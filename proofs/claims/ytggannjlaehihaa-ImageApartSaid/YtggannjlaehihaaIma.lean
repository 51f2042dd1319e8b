/-
 Package image.
-/
import Derived.Test.YtggannjlaehihaaImd
import Derived.Test.YtggannjlaehihaaTra
import Derived.Test.YtggannjlaehihaaImc
import Derived.Test.YtggannjlaehihaaCrc
import Derived.Test.YtggannjlaehihaaShh
namespace Go.Proofs.Ytggannjlaehihaa.Ima
open Go.ChangeShapes Go.WideShapes Go.ChangeAt Go.RowKit
open Arr Steady Sx Sw Sl Sb Sc Si Sj Sk Sh Shh Cr Fr Vs Gr Tk Tkh Tkl Img Imp Imo Imref Imrefo Imput Imb Imsame Imc Rdr Imd
set_option linter.unusedVariables false
set_option linter.unusedSimpArgs false
set_option maxRecDepth 100000

set_option maxHeartbeats 2000000 in
theorem number_in (w0 : World) (B0 B : List Rw) (L : List UInt8) (k : Nat) (s : Pt) (z : Qc) (g : Nat) (n : Nat) (sg : Bool) (w : World) (hE0 : Env w0 w (⟨g, #[.slice z.q (k - s.1) z.c, .bool s.2], 73⟩ :: B)) (hr : Rdy w0 B0 B L k s z) (hn : n ≤ 8) (hsg : sg = decide (n = 8)) :
  Calls Try.prog 38 #[.pointer (some ⟨g, 0, none⟩), .int .i64 (n : Int)] w fun e w' => ∃ y : Qc, QcOk w0 B0 L (numS L s n) y ∧ e = .returned (.int .i64 (numV L s n sg)) ∧ Env w0 w' (⟨g, #[.slice y.q (k - (numS L s n).1) y.c, .bool (numS L s n).2], 73⟩ :: B) := by
 have hk := hr.len
 have hs := hr.le
 have hl := hr.hl
 have hc := hr.ok.cap
 refine calls_in hE0 Try.func38 rfl ?_
 simp only [Try.ntmps38, List.size_toArray, List.length_cons, List.length_nil, Nat.reduceAdd, Nat.reduceSub, Array.replicate_succ, Array.replicate_zero, List.push_toArray, List.append_toArray, List.nil_append, List.cons_append]
 refine wc_seq ?_
 refine wc_region ?_
 refine wl_val (.int .i64 0) rfl (fun _ => rfl) ?_
 simp only [Act.put, Xa, Xz, Xs]
 refine wl_nil ?_
 refine we_then ?_
 refine wc_seq ?_
 refine wc_seq ?_
 refine wc_region ?_
 refine wl_val (.pointer (some ⟨g, 0, none⟩)) rfl (fun _ => rfl) ?_
 simp only [Act.put, Xa, Xz, Xs]
 refine wl_val (.pointer (some ⟨g, 0, none⟩)) rfl (fun w => run_nilCheck rfl rfl w) ?_
 simp only [Act.put, Xa, Xz, Xs]
 refine wl_val (.pointer (some ⟨g, 1, none⟩)) rfl (fun _ => by go_simp) ?_
 simp only [Act.put, Xa, Xz, Xs]
 refine wl_cell 4 (.tmp 10) (.bool s.2) (own_row 0 rfl) rfl rfl rfl rfl Try.isAgg4 ?_
 simp only [Act.put, Xa, Xz, Xs]
 refine wl_val (.bool s.2) rfl (fun _ => rfl) ?_
 simp only [Act.put, Xa, Xz, Xs]
 cases h1 : (s.2)
 ·
  skip
  refine wl_val (.pointer (some ⟨g, 0, none⟩)) rfl (fun _ => rfl) ?_
  simp only [Act.put, Xa, Xz, Xs]
  refine wl_val (.pointer (some ⟨g, 0, none⟩)) rfl (fun w => run_nilCheck rfl rfl w) ?_
  simp only [Act.put, Xa, Xz, Xs]
  refine wl_val (.pointer (some ⟨g, 0, none⟩)) rfl (fun _ => by go_simp) ?_
  simp only [Act.put, Xa, Xz, Xs]
  refine wl_cell 28 (.tmp 15) (.slice z.q (k - s.1) z.c) (own_row 0 rfl) rfl rfl rfl rfl Try.isAgg28 ?_
  simp only [Act.put, Xa, Xz, Xs]
  refine wl_val (.int .i64 ((k - s.1 : Nat) : Int)) rfl (fun w => er_len rfl rfl Try.underlying28 w) ?_
  simp only [Act.put, Xa, Xz, Xs]
  refine wl_val (.int .i64 (n : Int)) rfl (fun _ => rfl) ?_
  simp only [Act.put, Xa, Xz, Xs]
  refine wl_val (.bool (decide (((k - s.1 : Nat) : Int) < (n : Int)))) rfl (fun w => run_cmp rfl rfl rfl Try.underlying3 rfl w) ?_
  simp only [Act.put, Xa, Xz, Xs]
  refine wl_val (.bool (decide (((k - s.1 : Nat) : Int) < (n : Int)))) rfl (fun _ => rfl) ?_
  simp only [Act.put, Xa, Xz, Xs]
  refine wl_nil ?_
  refine we_then ?_
  cases h2 : (decide (((k - s.1 : Nat) : Int) < (n : Int)))
  ·
   skip
   have p2 : ¬ (((k - s.1 : Nat) : Int) < (n : Int)) := of_decide_eq_false h2
   refine wc_false rfl ?_
   refine wc_skip ?_
   refine we_then ?_
   refine wc_seq ?_
   refine wc_region ?_
   refine wl_val (.int .i64 0) rfl (fun _ => rfl) ?_
   simp only [Act.put, Xa, Xz, Xs]
   refine wl_nil ?_
   refine we_then ?_
   refine wc_seq ?_
   refine wc_seq ?_
   refine wc_region ?_
   refine wl_val (.pointer (some ⟨g, 0, none⟩)) rfl (fun _ => rfl) ?_
   simp only [Act.put, Xa, Xz, Xs]
   refine wl_val (.pointer (some ⟨g, 0, none⟩)) rfl (fun w => run_nilCheck rfl rfl w) ?_
   simp only [Act.put, Xa, Xz, Xs]
   refine wl_val (.pointer (some ⟨g, 0, none⟩)) rfl (fun _ => by go_simp) ?_
   simp only [Act.put, Xa, Xz, Xs]
   refine wl_cell 28 (.tmp 26) (.slice z.q (k - s.1) z.c) (own_row 0 rfl) rfl rfl rfl rfl Try.isAgg28 ?_
   simp only [Act.put, Xa, Xz, Xs]
   refine wl_val (.int .i64 (n : Int)) rfl (fun _ => rfl) ?_
   simp only [Act.put, Xa, Xz, Xs]
   refine wl_val (.slice z.q n z.c) rfl (fun w => er_take (h := n) rfl rfl rfl rfl (by omega) Try.underlying28 (by kernel_rfl) w) ?_
   simp only [Act.put, Xa, Xz, Xs]
   refine wl_val (.int .i64 (n : Int)) rfl (fun w => er_len rfl rfl Try.underlying28 w) ?_
   simp only [Act.put, Xa, Xz, Xs]
   refine wl_val (.int .i64 0) rfl (fun _ => rfl) ?_
   simp only [Act.put, Xa, Xz, Xs]
   refine wl_nil ?_
   refine we_then ?_
   refine wc_block ?_
   refine wc_loop (fun (zz : Nat × Value × Value × Value × Value × Value × Value × Value × Value × Value × Value) => match zz with | ⟨i, u7, u32, u33, u34, u35, u36, u37, u38, u39, u40⟩ => ({ tmps := #[.pointer (some ⟨g, 0, none⟩), .int .i64 (n : Int), undef, undef, .int .i64 0, .int .i64 (IntKind.i64.wrap ((un L s.1 i : Nat) : Int)), undef, u7, .pointer (some ⟨g, 0, none⟩), .pointer (some ⟨g, 0, none⟩), .pointer (some ⟨g, 1, none⟩), .bool false, .bool false, .pointer (some ⟨g, 0, none⟩), .pointer (some ⟨g, 0, none⟩), .pointer (some ⟨g, 0, none⟩), .slice z.q (k - s.1) z.c, .int .i64 ((k - s.1 : Nat) : Int), .int .i64 (n : Int), .bool false, .bool false, undef, undef, undef, .pointer (some ⟨g, 0, none⟩), .pointer (some ⟨g, 0, none⟩), .pointer (some ⟨g, 0, none⟩), .slice z.q (k - s.1) z.c, .int .i64 (n : Int), .slice z.q n z.c, .int .i64 (n : Int), .int .i64 (i : Int), u32, u33, u34, u35, u36, u37, u38, u39, u40, undef, undef, undef, undef, undef, undef, undef, undef, undef, undef], defers := [] } : Act)) (fun (zz : Nat × Value × Value × Value × Value × Value × Value × Value × Value × Value × Value) => match zz with | ⟨i, u7, u32, u33, u34, u35, u36, u37, u38, u39, u40⟩ => ⟨g, #[.slice z.q (k - s.1) z.c, .bool false], 73⟩ :: B) (fun (zz : Nat × Value × Value × Value × Value × Value × Value × Value × Value × Value × Value) => match zz with | ⟨i, u7, u32, u33, u34, u35, u36, u37, u38, u39, u40⟩ => i ≤ n) (fun (zz : Nat × Value × Value × Value × Value × Value × Value × Value × Value × Value × Value) => match zz with | ⟨i, u7, u32, u33, u34, u35, u36, u37, u38, u39, u40⟩ => n - i) ⟨0, _, _, _, _, _, _, _, _, _, _⟩ (Nat.zero_le _) rfl (List.Sublist.cons_cons _ (List.Sublist.refl _)) ?_
   rintro ⟨i, u7, u32, u33, u34, u35, u36, u37, u38, u39, u40⟩ hφ
   (try dsimp only at hφ ⊢)
   have hi := hφ
   have hcl := cut_len (a := s.1) (n := n) hk (by omega)
   refine wc_seq ?_
   refine wc_region ?_
   refine wl_val (.bool (decide ((i : Int) < (n : Int)))) rfl (fun w => run_cmp rfl rfl rfl Try.underlying3 rfl w) ?_
   simp only [Act.put, Xa, Xz, Xs]
   refine wl_nil ?_
   refine we_then ?_
   refine wc_seq ?_
   cases h3 : (decide ((i : Int) < (n : Int)))
   ·
    skip
    have p3 : ¬ ((i : Int) < (n : Int)) := of_decide_eq_false h3
    refine wc_false rfl ?_
    refine wc_exit ?_
    refine we_then_exit ?_
    refine we_then_exit ?_
    refine we_in_here ?_
    refine we_then ?_
    refine wc_seq ?_
    refine wc_region ?_
    refine wl_val (.pointer (some ⟨g, 0, none⟩)) rfl (fun _ => rfl) ?_
    simp only [Act.put, Xa, Xz, Xs]
    refine wl_val (.pointer (some ⟨g, 0, none⟩)) rfl (fun _ => rfl) ?_
    simp only [Act.put, Xa, Xz, Xs]
    refine wl_val (.pointer (some ⟨g, 0, none⟩)) rfl (fun w => run_nilCheck rfl rfl w) ?_
    simp only [Act.put, Xa, Xz, Xs]
    refine wl_val (.pointer (some ⟨g, 0, none⟩)) rfl (fun _ => by go_simp) ?_
    simp only [Act.put, Xa, Xz, Xs]
    refine wl_cell 28 (.tmp 44) (.slice z.q (k - s.1) z.c) (own_row 0 rfl) rfl rfl rfl rfl Try.isAgg28 ?_
    simp only [Act.put, Xa, Xz, Xs]
    refine wl_val (.int .i64 (n : Int)) rfl (fun _ => rfl) ?_
    simp only [Act.put, Xa, Xz, Xs]
    refine wl_val (.slice (subp z.q n z.c) ((k - s.1) - n) (z.c - n)) rfl (fun w => er_drop (l := n) rfl rfl rfl rfl (by omega) Try.underlying28 (by kernel_rfl) w) ?_
    simp only [Act.put, Xa, Xz, Xs]
    refine wl_val (.pointer (some ⟨g, 0, none⟩)) rfl (fun w => run_nilCheck rfl rfl w) ?_
    simp only [Act.put, Xa, Xz, Xs]
    refine wl_val (.pointer (some ⟨g, 0, none⟩)) rfl (fun _ => by go_simp) ?_
    simp only [Act.put, Xa, Xz, Xs]
    refine wl_store_cell 0 28 (.tmp 49) (.tmp 47) (.slice z.q (k - s.1) z.c) (.slice (subp z.q n z.c) ((k - s.1) - n) (z.c - n)) rfl rfl rfl rfl rfl rfl (by kernel_rfl) rfl ?_
    simp only [Act.put, List.set_cons_zero]
    refine wl_nil ?_
    refine we_then ?_
    refine wc_seq ?_
    refine wc_region ?_
    refine wl_val (.int .i64 (IntKind.i64.wrap ((un L s.1 i : Nat) : Int))) rfl (fun _ => rfl) ?_
    simp only [Act.put, Xa, Xz, Xs]
    refine wl_val (.int .i64 (IntKind.i64.wrap ((un L s.1 i : Nat) : Int))) rfl (fun _ => rfl) ?_
    simp only [Act.put, Xa, Xz, Xs]
    refine wl_nil ?_
    refine we_then ?_
    refine wc_ret ?_
    refine we_ret1 (.int .i64 (IntKind.i64.wrap ((un L s.1 i : Nat) : Int))) rfl rfl rfl (fun w1 hE => ?_)
    have e0 : i = n := by omega
    obtain ⟨e1, e2⟩ := bad_no (L := L) (s := s) (n := n) h1 (by omega)
    rw [e2, ← num_val e1 hn hsg, ← e0]
    rw [show k - (s.1 + i, false).1 = k - s.1 - i from by show k - (s.1 + i) = _; omega]
    exact ⟨⟨subp z.q i z.c, z.c - i⟩, qc_drop hr.ok i (by omega) false, rfl, by rw [e0]; exact hE⟩
   ·
    skip
    have p3 : (i : Int) < (n : Int) := of_decide_eq_true h3
    refine wc_true rfl ?_
    refine wc_skip ?_
    refine we_then ?_
    refine wc_seq ?_
    refine wc_block ?_
    refine wc_seq ?_
    refine wc_region ?_
    refine wl_read (eaddr z.q (i * 1)) rfl (er_index i 1 (sl_take n (sl_sub (sl_sub hr.ok.rd hr.sub) (List.Sublist.cons _ (List.Sublist.refl _)))) rfl rfl rfl rfl (by omega) (ub_len1 (ub_take_len (dlen hr.len _) (by omega))) (by decide) Try.underlying28 (by kernel_rfl)) ?_
    simp only [Act.put, Xa, Xz, Xs]
    refine wl_read (.int .u8 ((((L.drop s.1).take n)[i]!).toNat : Int)) rfl (er_cell (i * 1) (.int .u8 ((((L.drop s.1).take n)[i]!).toNat : Int)) (sl_take n (sl_sub (sl_sub hr.ok.rd hr.sub) (List.Sublist.cons _ (List.Sublist.refl _)))) rfl rfl (flat_cell (enc := ub) (fun _ => rfl) ((L.drop s.1).take n) i 0 (by omega) (by decide)) Try.isAgg5) ?_
    simp only [Act.put, Xa, Xz, Xs]
    refine wl_val (.int .u8 ((((L.drop s.1).take n)[i]!).toNat : Int)) rfl (fun _ => rfl) ?_
    simp only [Act.put, Xa, Xz, Xs]
    refine wl_nil ?_
    refine we_then ?_
    refine wc_region ?_
    refine wl_val (.int .i64 (IntKind.i64.wrap ((un L s.1 i : Nat) : Int))) rfl (fun _ => rfl) ?_
    simp only [Act.put, Xa, Xz, Xs]
    refine wl_val (.int .i64 (IntKind.i64.wrap (((un L s.1 i : Nat) : Int) * 256))) rfl (fun w => run_shlw (X := ((un L s.1 i : Nat) : Int)) rfl rfl rfl w) ?_
    simp only [Act.put, Xa, Xz, Xs]
    refine wl_val (.int .u8 ((((L.drop s.1).take n)[i]!).toNat : Int)) rfl (fun _ => rfl) ?_
    simp only [Act.put, Xa, Xz, Xs]
    have q4 : (((L.drop s.1).take n)[i]!).toNat < 256 := ((((L.drop s.1).take n)[i]!).toBitVec).isLt
    refine wl_val (.int .i64 (((((L.drop s.1).take n)[i]!).toNat : Nat) : Int)) rfl (fun w => run_conv (X := ((((L.drop s.1).take n)[i]!).toNat : Int)) rfl rfl Try.underlying5 Try.underlying2 (i64_in (by omega) (by omega)) w) ?_
    simp only [Act.put, Xa, Xz, Xs]
    refine wl_val (.int .i64 (IntKind.i64.wrap ((un L s.1 (i + 1) : Nat) : Int))) rfl (fun w => (run_orw (X := un L s.1 i) (Y := ((((L.drop s.1).take n)[i]!).toNat)) (by have := un_fits L s.1 (i := i) (n := n) (by omega) hn; omega) (by omega) rfl rfl rfl w).trans (by rw [un_snoc (L := L) (a := s.1) (n := n) (by omega) (by omega)])) ?_
    simp only [Act.put, Xa, Xz, Xs]
    refine wl_val (.int .i64 (IntKind.i64.wrap ((un L s.1 (i + 1) : Nat) : Int))) rfl (fun _ => rfl) ?_
    simp only [Act.put, Xa, Xz, Xs]
    refine wl_nil ?_
    refine we_in ?_
    refine we_then ?_
    refine wc_region ?_
    refine wl_val (.int .i64 ((i + 1 : Nat) : Int)) rfl (fun w => run_nat (X := i) (Y := 1) (Z := i + 1) rfl rfl rfl rfl (by omega) w) ?_
    simp only [Act.put, Xa, Xz, Xs]
    refine wl_val (.int .i64 ((i + 1 : Nat) : Int)) rfl (fun _ => rfl) ?_
    simp only [Act.put, Xa, Xz, Xs]
    refine wl_nil ?_
    exact we_meet ⟨(i + 1), _, _, _, _, _, _, _, _, _, _⟩ ⟨by (try dsimp only); omega, by (try dsimp only); omega⟩ rfl (List.Sublist.cons_cons _ (List.Sublist.refl _))
  ·
   skip
   have p2 : ((k - s.1 : Nat) : Int) < (n : Int) := of_decide_eq_true h2
   refine wc_true rfl ?_
   refine wc_seq ?_
   refine wc_region ?_
   refine wl_val (.pointer (some ⟨g, 0, none⟩)) rfl (fun _ => rfl) ?_
   simp only [Act.put, Xa, Xz, Xs]
   refine wl_val (.pointer (some ⟨g, 0, none⟩)) rfl (fun w => run_nilCheck rfl rfl w) ?_
   simp only [Act.put, Xa, Xz, Xs]
   refine wl_val (.pointer (some ⟨g, 1, none⟩)) rfl (fun _ => by go_simp) ?_
   simp only [Act.put, Xa, Xz, Xs]
   refine wl_store_cell 0 4 (.tmp 23) (.const (.bool true)) (.bool false) (.bool true) rfl rfl rfl rfl rfl rfl (by kernel_rfl) rfl ?_
   simp only [Act.put, List.set_cons_zero]
   refine wl_nil ?_
   refine we_then ?_
   refine wc_seq ?_
   refine wc_region ?_
   refine wl_val (.int .i64 0) rfl (fun _ => rfl) ?_
   simp only [Act.put, Xa, Xz, Xs]
   refine wl_nil ?_
   refine we_then ?_
   refine wc_ret ?_
   refine we_then_ret ?_
   refine we_ret1 (.int .i64 0) rfl rfl rfl (fun w1 hE => ?_)
   obtain ⟨e1, e2⟩ := bad_yes (L := L) (s := s) (n := n) (.inr (by omega))
   rw [e1, e2]
   exact ⟨z, qc_short hr.ok true, rfl, hE⟩
 ·
  skip
  refine wl_skip rfl ?_
  simp only [Act.put, Xa, Xz, Xs]
  refine wl_skip rfl ?_
  simp only [Act.put, Xa, Xz, Xs]
  refine wl_skip rfl ?_
  simp only [Act.put, Xa, Xz, Xs]
  refine wl_skip rfl ?_
  simp only [Act.put, Xa, Xz, Xs]
  refine wl_skip rfl ?_
  simp only [Act.put, Xa, Xz, Xs]
  refine wl_skip rfl ?_
  simp only [Act.put, Xa, Xz, Xs]
  refine wl_skip rfl ?_
  simp only [Act.put, Xa, Xz, Xs]
  refine wl_val (.bool true) rfl (fun _ => rfl) ?_
  simp only [Act.put, Xa, Xz, Xs]
  refine wl_nil ?_
  refine we_then ?_
  refine wc_true rfl ?_
  refine wc_seq ?_
  refine wc_region ?_
  refine wl_val (.pointer (some ⟨g, 0, none⟩)) rfl (fun _ => rfl) ?_
  simp only [Act.put, Xa, Xz, Xs]
  refine wl_val (.pointer (some ⟨g, 0, none⟩)) rfl (fun w => run_nilCheck rfl rfl w) ?_
  simp only [Act.put, Xa, Xz, Xs]
  refine wl_val (.pointer (some ⟨g, 1, none⟩)) rfl (fun _ => by go_simp) ?_
  simp only [Act.put, Xa, Xz, Xs]
  refine wl_store_cell 0 4 (.tmp 23) (.const (.bool true)) (.bool true) (.bool true) rfl rfl rfl rfl rfl rfl (by kernel_rfl) rfl ?_
  simp only [Act.put, List.set_cons_zero]
  refine wl_nil ?_
  refine we_then ?_
  refine wc_seq ?_
  refine wc_region ?_
  refine wl_val (.int .i64 0) rfl (fun _ => rfl) ?_
  simp only [Act.put, Xa, Xz, Xs]
  refine wl_nil ?_
  refine we_then ?_
  refine wc_ret ?_
  refine we_then_ret ?_
  refine we_ret1 (.int .i64 0) rfl rfl rfl (fun w1 hE => ?_)
  obtain ⟨e1, e2⟩ := bad_yes (L := L) (s := s) (n := n) (.inl h1)
  rw [e1, e2]
  exact ⟨z, qc_short hr.ok true, rfl, hE⟩
set_option maxHeartbeats 2000000 in
theorem piece_in (w0 : World) (B0 B : List Rw) (L : List UInt8) (k : Nat) (s : Pt) (z : Qc) (g : Nat) (w : World) (hE0 : Env w0 w (⟨g, #[.slice z.q (k - s.1) z.c, .bool s.2], 73⟩ :: B)) (hr : Rdy w0 B0 B L k s z) :
  Calls Try.prog 40 #[.pointer (some ⟨g, 0, none⟩)] w fun e w' => ∃ y : Qc, QcOk w0 B0 L ((piece L s).1) y ∧ e = .returned (.agg #[.int .i64 ((piece L s).2.1), .int .i64 ((piece L s).2.2)]) ∧ Env w0 w' (⟨g, #[.slice y.q (k - ((piece L s).1).1) y.c, .bool ((piece L s).1).2], 73⟩ :: B) := by
 refine calls_in hE0 Try.func40 rfl ?_
 simp only [Try.ntmps40, List.size_toArray, List.length_cons, List.length_nil, Nat.reduceAdd, Nat.reduceSub, Array.replicate_succ, Array.replicate_zero, List.push_toArray, List.append_toArray, List.nil_append, List.cons_append]
 refine wc_seq ?_
 refine wc_region ?_
 refine wl_new 50 (#[.int .i64 0, .int .i64 0]) rfl (fun _ => by go_simp) ?_
 intro g1
 simp only [Act.put, Xa, Xz, Xs]
 refine wl_nil ?_
 refine we_then ?_
 refine wc_seq ?_
 refine wc_region ?_
 refine wl_val (.pointer (some ⟨g, 0, none⟩)) rfl (fun _ => rfl) ?_
 simp only [Act.put, Xa, Xz, Xs]
 refine wl_call_row (ι := Qc) [⟨g1, #[.int .i64 0, .int .i64 0], 50⟩] [] B (⟨g1, #[.int .i64 0, .int .i64 0], 50⟩ :: B) ⟨g, #[.slice z.q (k - s.1) z.c, .bool s.2], 73⟩ 38 #[.pointer (some ⟨g, 0, none⟩), .int .i64 8] (fun (y2 : Qc) => .int .i64 (numV L s 8 true)) (fun (y2 : Qc) => ⟨g, #[.slice y2.q (k - (numS L s 8).1) y2.c, .bool ((numS L s 8).2)], 73⟩) (fun (y2 : Qc) => []) (fun (y2 : Qc) => ⟨g1, #[.int .i64 0, .int .i64 0], 50⟩ :: ⟨g, #[.slice y2.q (k - (numS L s 8).1) y2.c, .bool ((numS L s 8).2)], 73⟩ :: B) (fun (y2 : Qc) => QcOk w0 B0 L (numS L s 8) y2) rfl rfl (fun _ => by first | rfl | simp) rfl (fun _ => by go_simp) (fun W hE => number_in w0 B0 (⟨g1, #[.int .i64 0, .int .i64 0], 50⟩ :: B) L k s z g 8 true W hE ⟨hr.sub.trans (List.Sublist.cons _ (List.Sublist.refl _)), hr.ok, hr.le, hr.len, hr.hl⟩ (by decide) rfl) ?_
 rintro y2 k3
 skip
 simp only [Act.put, Xa, Xz, Xs]
 refine wl_val (.pointer (some ⟨g, 0, none⟩)) rfl (fun _ => rfl) ?_
 simp only [Act.put, Xa, Xz, Xs]
 refine wl_call_row (ι := Qc) [⟨g1, #[.int .i64 0, .int .i64 0], 50⟩] [] B (⟨g1, #[.int .i64 0, .int .i64 0], 50⟩ :: B) ⟨g, #[.slice y2.q (k - (numS L s 8).1) y2.c, .bool ((numS L s 8).2)], 73⟩ 38 #[.pointer (some ⟨g, 0, none⟩), .int .i64 4] (fun (y4 : Qc) => .int .i64 (numV L (numS L s 8) 4 false)) (fun (y4 : Qc) => ⟨g, #[.slice y4.q (k - (numS L (numS L s 8) 4).1) y4.c, .bool ((numS L (numS L s 8) 4).2)], 73⟩) (fun (y4 : Qc) => []) (fun (y4 : Qc) => ⟨g1, #[.int .i64 0, .int .i64 0], 50⟩ :: ⟨g, #[.slice y4.q (k - (numS L (numS L s 8) 4).1) y4.c, .bool ((numS L (numS L s 8) 4).2)], 73⟩ :: B) (fun (y4 : Qc) => QcOk w0 B0 L (numS L (numS L s 8) 4) y4) rfl rfl (fun _ => by first | rfl | simp) rfl (fun _ => by go_simp) (fun W hE => number_in w0 B0 (⟨g1, #[.int .i64 0, .int .i64 0], 50⟩ :: B) L k (numS L s 8) y2 g 4 false W hE ⟨hr.sub.trans (List.Sublist.cons _ (List.Sublist.refl _)), k3, (num_le 8 hr.le), hr.len, hr.hl⟩ (by decide) rfl) ?_
 rintro y4 k5
 skip
 simp only [Act.put, Xa, Xz, Xs]
 refine wl_val (.int .i32 (numV L (numS L s 8) 4 true)) rfl (fun w => Sw.run_conv (r := numV L (numS L s 8) 4 true) rfl rfl Try.underlying2 Try.underlying21 (num4 L (numS L s 8)).1 w) ?_
 simp only [Act.put, Xa, Xz, Xs]
 refine wl_val (.int .i64 (numV L (numS L s 8) 4 true)) rfl (fun w => Sw.run_conv rfl rfl Try.underlying21 Try.underlying2 (i64_in (num4_lo L (numS L s 8)) (num4_hi L (numS L s 8))) w) ?_
 simp only [Act.put, Xa, Xz, Xs]
 refine wl_val (.agg #[.int .i64 (numV L s 8 true), .int .i64 (numV L (numS L s 8) 4 true)]) rfl (fun _ => by go_simp) ?_
 simp only [Act.put, Xa, Xz, Xs]
 refine wl_store 0 50 (.tmp 2) (.tmp 9) (#[.int .i64 (numV L s 8 true), .int .i64 (numV L (numS L s 8) 4 true)]) rfl rfl rfl rfl rfl (by kernel_rfl) rfl (by simp [Value.oneCell']) ?_
 simp only [Act.put, List.set_cons_zero]
 refine wl_nil ?_
 refine we_then ?_
 refine wc_ret ?_
 refine we_ret_cell (own_row 0 rfl) rfl rfl rfl Try.underlying50 rfl (by kernel_rfl) (fun w1 hE => ?_)
 exact ⟨y4, k5, rfl, hE.sub (List.Sublist.cons _ (List.Sublist.cons_cons _ (List.Sublist.refl _)))⟩
set_option maxHeartbeats 2000000 in
theorem index_in (w0 : World) (B0 B : List Rw) (L : List UInt8) (k : Nat) (s : Pt) (z : Qc) (g : Nat) (w : World) (hE0 : Env w0 w (⟨g, #[.slice z.q (k - s.1) z.c, .bool s.2], 73⟩ :: B)) (hr : Rdy w0 B0 B L k s z) :
  Calls Try.prog 42 #[.pointer (some ⟨g, 0, none⟩)] w fun e w' => ∃ y : Qc, QcOk w0 B0 L ((next L s).1) y ∧ e = .returned (.int .i64 ((next L s).2)) ∧ Env w0 w' (⟨g, #[.slice y.q (k - ((next L s).1).1) y.c, .bool ((next L s).1).2], 73⟩ :: B) := by
 refine calls_in hE0 Try.func42 rfl ?_
 simp only [Try.ntmps42, List.size_toArray, List.length_cons, List.length_nil, Nat.reduceAdd, Nat.reduceSub, Array.replicate_succ, Array.replicate_zero, List.push_toArray, List.append_toArray, List.nil_append, List.cons_append]
 refine wc_seq ?_
 refine wc_region ?_
 refine wl_val (.int .i64 0) rfl (fun _ => rfl) ?_
 simp only [Act.put, Xa, Xz, Xs]
 refine wl_nil ?_
 refine we_then ?_
 refine wc_seq ?_
 refine wc_region ?_
 refine wl_val (.pointer (some ⟨g, 0, none⟩)) rfl (fun _ => rfl) ?_
 simp only [Act.put, Xa, Xz, Xs]
 refine wl_call_row (ι := Qc) [] [] B (B) ⟨g, #[.slice z.q (k - s.1) z.c, .bool s.2], 73⟩ 38 #[.pointer (some ⟨g, 0, none⟩), .int .i64 1] (fun (y1 : Qc) => .int .i64 (numV L s 1 false)) (fun (y1 : Qc) => ⟨g, #[.slice y1.q (k - (numS L s 1).1) y1.c, .bool ((numS L s 1).2)], 73⟩) (fun (y1 : Qc) => []) (fun (y1 : Qc) => ⟨g, #[.slice y1.q (k - (numS L s 1).1) y1.c, .bool ((numS L s 1).2)], 73⟩ :: B) (fun (y1 : Qc) => QcOk w0 B0 L (numS L s 1) y1) rfl rfl (fun _ => by first | rfl | simp) rfl (fun _ => by go_simp) (fun W hE => number_in w0 B0 (B) L k s z g 1 false W hE ⟨hr.sub.trans (List.Sublist.refl _), hr.ok, hr.le, hr.len, hr.hl⟩ (by decide) rfl) ?_
 rintro y1 k2
 skip
 simp only [Act.put, Xa, Xz, Xs]
 refine wl_val (.int .i64 (numV L s 1 false)) rfl (fun _ => rfl) ?_
 simp only [Act.put, Xa, Xz, Xs]
 refine wl_nil ?_
 refine we_then ?_
 refine wc_ret ?_
 refine we_ret1 (.int .i64 (numV L s 1 false)) rfl rfl rfl (fun w1 hE => ?_)
 exact ⟨y1, k2, rfl, hE.sub (List.Sublist.cons_cons _ (List.Sublist.refl _))⟩
set_option maxHeartbeats 2000000 in
theorem group_in (w0 : World) (B0 B : List Rw) (L : List UInt8) (k : Nat) (s : Pt) (z : Qc) (g : Nat) (w : World) (hE0 : Env w0 w (⟨g, #[.slice z.q (k - s.1) z.c, .bool s.2], 73⟩ :: B)) (hr : Rdy w0 B0 B L k s z) :
  Calls Try.prog 27 #[.pointer (some ⟨g, 0, none⟩)] w fun e w' => ∃ y : Qc, QcOk w0 B0 L ((group L s).1) y ∧ e = .returned (.agg #[.int .i64 ((group L s).2.id), .int .i64 ((group L s).2.seg), .int .i64 ((group L s).2.off), .int .i64 ((group L s).2.acc), .int .i64 ((group L s).2.slack)]) ∧ Env w0 w' (⟨g, #[.slice y.q (k - ((group L s).1).1) y.c, .bool ((group L s).1).2], 73⟩ :: B) := by
 refine calls_in hE0 Try.func27 rfl ?_
 simp only [Try.ntmps27, List.size_toArray, List.length_cons, List.length_nil, Nat.reduceAdd, Nat.reduceSub, Array.replicate_succ, Array.replicate_zero, List.push_toArray, List.append_toArray, List.nil_append, List.cons_append]
 refine wc_seq ?_
 refine wc_region ?_
 refine wl_new 60 (#[.int .i64 0, .int .i64 0, .int .i64 0, .int .i64 0, .int .i64 0]) rfl (fun _ => by go_simp) ?_
 intro g1
 simp only [Act.put, Xa, Xz, Xs]
 refine wl_nil ?_
 refine we_then ?_
 refine wc_seq ?_
 refine wc_region ?_
 refine wl_val (.pointer (some ⟨g, 0, none⟩)) rfl (fun _ => rfl) ?_
 simp only [Act.put, Xa, Xz, Xs]
 refine wl_call_row (ι := Qc) [⟨g1, #[.int .i64 0, .int .i64 0, .int .i64 0, .int .i64 0, .int .i64 0], 60⟩] [] B (⟨g1, #[.int .i64 0, .int .i64 0, .int .i64 0, .int .i64 0, .int .i64 0], 60⟩ :: B) ⟨g, #[.slice z.q (k - s.1) z.c, .bool s.2], 73⟩ 38 #[.pointer (some ⟨g, 0, none⟩), .int .i64 2] (fun (y2 : Qc) => .int .i64 (numV L s 2 false)) (fun (y2 : Qc) => ⟨g, #[.slice y2.q (k - (numS L s 2).1) y2.c, .bool ((numS L s 2).2)], 73⟩) (fun (y2 : Qc) => []) (fun (y2 : Qc) => ⟨g1, #[.int .i64 0, .int .i64 0, .int .i64 0, .int .i64 0, .int .i64 0], 60⟩ :: ⟨g, #[.slice y2.q (k - (numS L s 2).1) y2.c, .bool ((numS L s 2).2)], 73⟩ :: B) (fun (y2 : Qc) => QcOk w0 B0 L (numS L s 2) y2) rfl rfl (fun _ => by first | rfl | simp) rfl (fun _ => by go_simp) (fun W hE => number_in w0 B0 (⟨g1, #[.int .i64 0, .int .i64 0, .int .i64 0, .int .i64 0, .int .i64 0], 60⟩ :: B) L k s z g 2 false W hE ⟨hr.sub.trans (List.Sublist.cons _ (List.Sublist.refl _)), hr.ok, hr.le, hr.len, hr.hl⟩ (by decide) rfl) ?_
 rintro y2 k3
 skip
 simp only [Act.put, Xa, Xz, Xs]
 refine wl_val (.pointer (some ⟨g, 0, none⟩)) rfl (fun _ => rfl) ?_
 simp only [Act.put, Xa, Xz, Xs]
 refine wl_call_row (ι := Qc) [⟨g1, #[.int .i64 0, .int .i64 0, .int .i64 0, .int .i64 0, .int .i64 0], 60⟩] [] B (⟨g1, #[.int .i64 0, .int .i64 0, .int .i64 0, .int .i64 0, .int .i64 0], 60⟩ :: B) ⟨g, #[.slice y2.q (k - (numS L s 2).1) y2.c, .bool ((numS L s 2).2)], 73⟩ 42 #[.pointer (some ⟨g, 0, none⟩)] (fun (y4 : Qc) => .int .i64 ((next L (numS L s 2)).2)) (fun (y4 : Qc) => ⟨g, #[.slice y4.q (k - ((next L (numS L s 2)).1).1) y4.c, .bool (((next L (numS L s 2)).1).2)], 73⟩) (fun (y4 : Qc) => []) (fun (y4 : Qc) => ⟨g1, #[.int .i64 0, .int .i64 0, .int .i64 0, .int .i64 0, .int .i64 0], 60⟩ :: ⟨g, #[.slice y4.q (k - ((next L (numS L s 2)).1).1) y4.c, .bool (((next L (numS L s 2)).1).2)], 73⟩ :: B) (fun (y4 : Qc) => QcOk w0 B0 L ((next L (numS L s 2)).1) y4) rfl rfl (fun _ => by first | rfl | simp) rfl (fun _ => by go_simp) (fun W hE => index_in w0 B0 (⟨g1, #[.int .i64 0, .int .i64 0, .int .i64 0, .int .i64 0, .int .i64 0], 60⟩ :: B) L k (numS L s 2) y2 g  W hE ⟨hr.sub.trans (List.Sublist.cons _ (List.Sublist.refl _)), k3, (num_le 2 hr.le), hr.len, hr.hl⟩) ?_
 rintro y4 k5
 skip
 simp only [Act.put, Xa, Xz, Xs]
 refine wl_val (.pointer (some ⟨g, 0, none⟩)) rfl (fun _ => rfl) ?_
 simp only [Act.put, Xa, Xz, Xs]
 refine wl_call_row (ι := Qc) [⟨g1, #[.int .i64 0, .int .i64 0, .int .i64 0, .int .i64 0, .int .i64 0], 60⟩] [] B (⟨g1, #[.int .i64 0, .int .i64 0, .int .i64 0, .int .i64 0, .int .i64 0], 60⟩ :: B) ⟨g, #[.slice y4.q (k - ((next L (numS L s 2)).1).1) y4.c, .bool (((next L (numS L s 2)).1).2)], 73⟩ 38 #[.pointer (some ⟨g, 0, none⟩), .int .i64 8] (fun (y6 : Qc) => .int .i64 (numV L ((next L (numS L s 2)).1) 8 true)) (fun (y6 : Qc) => ⟨g, #[.slice y6.q (k - (numS L ((next L (numS L s 2)).1) 8).1) y6.c, .bool ((numS L ((next L (numS L s 2)).1) 8).2)], 73⟩) (fun (y6 : Qc) => []) (fun (y6 : Qc) => ⟨g1, #[.int .i64 0, .int .i64 0, .int .i64 0, .int .i64 0, .int .i64 0], 60⟩ :: ⟨g, #[.slice y6.q (k - (numS L ((next L (numS L s 2)).1) 8).1) y6.c, .bool ((numS L ((next L (numS L s 2)).1) 8).2)], 73⟩ :: B) (fun (y6 : Qc) => QcOk w0 B0 L (numS L ((next L (numS L s 2)).1) 8) y6) rfl rfl (fun _ => by first | rfl | simp) rfl (fun _ => by go_simp) (fun W hE => number_in w0 B0 (⟨g1, #[.int .i64 0, .int .i64 0, .int .i64 0, .int .i64 0, .int .i64 0], 60⟩ :: B) L k ((next L (numS L s 2)).1) y4 g 8 true W hE ⟨hr.sub.trans (List.Sublist.cons _ (List.Sublist.refl _)), k5, (num_le 1 (num_le 2 hr.le)), hr.len, hr.hl⟩ (by decide) rfl) ?_
 rintro y6 k7
 skip
 simp only [Act.put, Xa, Xz, Xs]
 refine wl_val (.pointer (some ⟨g, 0, none⟩)) rfl (fun _ => rfl) ?_
 simp only [Act.put, Xa, Xz, Xs]
 refine wl_call_row (ι := Qc) [⟨g1, #[.int .i64 0, .int .i64 0, .int .i64 0, .int .i64 0, .int .i64 0], 60⟩] [] B (⟨g1, #[.int .i64 0, .int .i64 0, .int .i64 0, .int .i64 0, .int .i64 0], 60⟩ :: B) ⟨g, #[.slice y6.q (k - (numS L ((next L (numS L s 2)).1) 8).1) y6.c, .bool ((numS L ((next L (numS L s 2)).1) 8).2)], 73⟩ 38 #[.pointer (some ⟨g, 0, none⟩), .int .i64 4] (fun (y8 : Qc) => .int .i64 (numV L (numS L ((next L (numS L s 2)).1) 8) 4 false)) (fun (y8 : Qc) => ⟨g, #[.slice y8.q (k - (numS L (numS L ((next L (numS L s 2)).1) 8) 4).1) y8.c, .bool ((numS L (numS L ((next L (numS L s 2)).1) 8) 4).2)], 73⟩) (fun (y8 : Qc) => []) (fun (y8 : Qc) => ⟨g1, #[.int .i64 0, .int .i64 0, .int .i64 0, .int .i64 0, .int .i64 0], 60⟩ :: ⟨g, #[.slice y8.q (k - (numS L (numS L ((next L (numS L s 2)).1) 8) 4).1) y8.c, .bool ((numS L (numS L ((next L (numS L s 2)).1) 8) 4).2)], 73⟩ :: B) (fun (y8 : Qc) => QcOk w0 B0 L (numS L (numS L ((next L (numS L s 2)).1) 8) 4) y8) rfl rfl (fun _ => by first | rfl | simp) rfl (fun _ => by go_simp) (fun W hE => number_in w0 B0 (⟨g1, #[.int .i64 0, .int .i64 0, .int .i64 0, .int .i64 0, .int .i64 0], 60⟩ :: B) L k (numS L ((next L (numS L s 2)).1) 8) y6 g 4 false W hE ⟨hr.sub.trans (List.Sublist.cons _ (List.Sublist.refl _)), k7, (num_le 8 (num_le 1 (num_le 2 hr.le))), hr.len, hr.hl⟩ (by decide) rfl) ?_
 rintro y8 k9
 skip
 simp only [Act.put, Xa, Xz, Xs]
 refine wl_val (.pointer (some ⟨g, 0, none⟩)) rfl (fun _ => rfl) ?_
 simp only [Act.put, Xa, Xz, Xs]
 refine wl_call_row (ι := Qc) [⟨g1, #[.int .i64 0, .int .i64 0, .int .i64 0, .int .i64 0, .int .i64 0], 60⟩] [] B (⟨g1, #[.int .i64 0, .int .i64 0, .int .i64 0, .int .i64 0, .int .i64 0], 60⟩ :: B) ⟨g, #[.slice y8.q (k - (numS L (numS L ((next L (numS L s 2)).1) 8) 4).1) y8.c, .bool ((numS L (numS L ((next L (numS L s 2)).1) 8) 4).2)], 73⟩ 38 #[.pointer (some ⟨g, 0, none⟩), .int .i64 4] (fun (y10 : Qc) => .int .i64 (numV L (numS L (numS L ((next L (numS L s 2)).1) 8) 4) 4 false)) (fun (y10 : Qc) => ⟨g, #[.slice y10.q (k - (numS L (numS L (numS L ((next L (numS L s 2)).1) 8) 4) 4).1) y10.c, .bool ((numS L (numS L (numS L ((next L (numS L s 2)).1) 8) 4) 4).2)], 73⟩) (fun (y10 : Qc) => []) (fun (y10 : Qc) => ⟨g1, #[.int .i64 0, .int .i64 0, .int .i64 0, .int .i64 0, .int .i64 0], 60⟩ :: ⟨g, #[.slice y10.q (k - (numS L (numS L (numS L ((next L (numS L s 2)).1) 8) 4) 4).1) y10.c, .bool ((numS L (numS L (numS L ((next L (numS L s 2)).1) 8) 4) 4).2)], 73⟩ :: B) (fun (y10 : Qc) => QcOk w0 B0 L (numS L (numS L (numS L ((next L (numS L s 2)).1) 8) 4) 4) y10) rfl rfl (fun _ => by first | rfl | simp) rfl (fun _ => by go_simp) (fun W hE => number_in w0 B0 (⟨g1, #[.int .i64 0, .int .i64 0, .int .i64 0, .int .i64 0, .int .i64 0], 60⟩ :: B) L k (numS L (numS L ((next L (numS L s 2)).1) 8) 4) y8 g 4 false W hE ⟨hr.sub.trans (List.Sublist.cons _ (List.Sublist.refl _)), k9, (num_le 4 (num_le 8 (num_le 1 (num_le 2 hr.le)))), hr.len, hr.hl⟩ (by decide) rfl) ?_
 rintro y10 k11
 skip
 simp only [Act.put, Xa, Xz, Xs]
 refine wl_val (.agg #[.int .i64 (numV L s 2 false), .int .i64 ((next L (numS L s 2)).2), .int .i64 (numV L ((next L (numS L s 2)).1) 8 true), .int .i64 (numV L (numS L ((next L (numS L s 2)).1) 8) 4 false), .int .i64 (numV L (numS L (numS L ((next L (numS L s 2)).1) 8) 4) 4 false)]) rfl (fun _ => by go_simp) ?_
 simp only [Act.put, Xa, Xz, Xs]
 refine wl_store 0 60 (.tmp 2) (.tmp 13) (#[.int .i64 (numV L s 2 false), .int .i64 ((next L (numS L s 2)).2), .int .i64 (numV L ((next L (numS L s 2)).1) 8 true), .int .i64 (numV L (numS L ((next L (numS L s 2)).1) 8) 4 false), .int .i64 (numV L (numS L (numS L ((next L (numS L s 2)).1) 8) 4) 4 false)]) rfl rfl rfl rfl rfl (by kernel_rfl) rfl (by simp [Value.oneCell']) ?_
 simp only [Act.put, List.set_cons_zero]
 refine wl_nil ?_
 refine we_then ?_
 refine wc_ret ?_
 refine we_ret_cell (own_row 0 rfl) rfl rfl rfl Try.underlying60 rfl (by kernel_rfl) (fun w1 hE => ?_)
 exact ⟨y10, k11, rfl, hE.sub (List.Sublist.cons _ (List.Sublist.cons_cons _ (List.Sublist.refl _)))⟩
/-- What a list's reading hands back. -/
structure Lz where
 q : Qc
 o : Own
structure Sz where
 q : Qc
 o : Own
 K : List Sg
 M : List Rw
structure Gz where
 q : Qc
 v : Sv
set_option maxHeartbeats 4000000 in
theorem pieces_in (w0 : World) (B0 B : List Rw) (L : List UInt8) (k : Nat) (s : Pt) (z : Qc) (g : Nat) (w : World) (hE0 : Env w0 w (⟨g, #[.slice z.q (k - s.1) z.c, .bool s.2], 73⟩ :: B)) (hr : Rdy w0 B0 B L k s z) :
  Calls Try.prog 39 #[.pointer (some ⟨g, 0, none⟩), .int .i64 1, .int .i64 64, .func (.func 40) #[] #[]] w fun e w' => ∃ y : Lz, (QcOk w0 B0 L (manyS (piece L) (cntS L s 1 64) (cntV L s 1 64)) y.q ∧ y.o.Has 2 (cntV L s 1 64) (flat enc2 (manyV (piece L) (cntS L s 1 64) (cntV L s 1 64)))) ∧ e = .returned (.slice y.o.ptr (cntV L s 1 64) y.o.cap) ∧ Env w0 w' (⟨g, #[.slice y.q.q (k - (manyS (piece L) (cntS L s 1 64) (cntV L s 1 64)).1) y.q.c, .bool (manyS (piece L) (cntS L s 1 64) (cntV L s 1 64)).2], 73⟩ :: (y.o.rows 50 ++ B)) := by
 refine calls_in hE0 Try.func39 rfl ?_
 simp only [Try.ntmps39, List.size_toArray, List.length_cons, List.length_nil, Nat.reduceAdd, Nat.reduceSub, Array.replicate_succ, Array.replicate_zero, List.push_toArray, List.append_toArray, List.nil_append, List.cons_append]
 refine wc_seq ?_
 refine wc_region ?_
 refine wl_val (.slice none 0 0) rfl (fun _ => rfl) ?_
 simp only [Act.put, Xa, Xz, Xs]
 refine wl_nil ?_
 refine we_then ?_
 refine wc_seq ?_
 refine wc_region ?_
 refine wl_val (.pointer (some ⟨g, 0, none⟩)) rfl (fun _ => rfl) ?_
 simp only [Act.put, Xa, Xz, Xs]
 refine wl_val (.int .i64 1) rfl (fun _ => rfl) ?_
 simp only [Act.put, Xa, Xz, Xs]
 refine wl_call_row (ι := Qc) [] [] B (B) ⟨g, #[.slice z.q (k - s.1) z.c, .bool s.2], 73⟩ 38 #[.pointer (some ⟨g, 0, none⟩), .int .i64 1] (fun (y1 : Qc) => .int .i64 (numV L s 1 false)) (fun (y1 : Qc) => ⟨g, #[.slice y1.q (k - (numS L s 1).1) y1.c, .bool ((numS L s 1).2)], 73⟩) (fun (y1 : Qc) => []) (fun (y1 : Qc) => ⟨g, #[.slice y1.q (k - (numS L s 1).1) y1.c, .bool ((numS L s 1).2)], 73⟩ :: B) (fun (y1 : Qc) => QcOk w0 B0 L (numS L s 1) y1) rfl rfl (fun _ => by first | rfl | simp) rfl (fun _ => by go_simp) (fun W hE => number_in w0 B0 (B) L k s z g 1 false W hE ⟨hr.sub.trans (List.Sublist.refl _), hr.ok, hr.le, hr.len, hr.hl⟩ (by decide) rfl) ?_
 rintro y1 k2
 skip
 simp only [Act.put, Xa, Xz, Xs]
 refine wl_val (.int .i64 (numV L s 1 false)) rfl (fun _ => rfl) ?_
 simp only [Act.put, Xa, Xz, Xs]
 refine wl_nil ?_
 refine we_then ?_
 refine wc_seq ?_
 refine wc_seq ?_
 refine wc_region ?_
 refine wl_val (.int .i64 (numV L s 1 false)) rfl (fun _ => rfl) ?_
 simp only [Act.put, Xa, Xz, Xs]
 refine wl_val (.int .i64 64) rfl (fun _ => rfl) ?_
 simp only [Act.put, Xa, Xz, Xs]
 refine wl_val (.bool (decide (64 < (numV L s 1 false)))) rfl (fun w => run_cmp rfl rfl rfl Try.underlying3 rfl w) ?_
 simp only [Act.put, Xa, Xz, Xs]
 refine wl_nil ?_
 refine we_then ?_
 cases h3 : (decide (64 < (numV L s 1 false)))
 ·
  skip
  have p3 : ¬ (64 < (numV L s 1 false)) := of_decide_eq_false h3
  refine wc_false rfl ?_
  refine wc_skip ?_
  refine we_then ?_
  refine wc_seq ?_
  obtain ⟨hcc, hcn⟩ := cnt_no (L := L) (s := s) (n := 1) (m := 64) (of_decide_eq_false h3)
  have hcm := cntV_le (L := L) (s := s) (n := 1) (m := 64) (by decide)
  refine wc_region ?_
  refine wl_val (.slice none 0 0) rfl (fun _ => rfl) ?_
  simp only [Act.put, Xa, Xz, Xs]
  refine wl_nil ?_
  refine we_then ?_
  refine wc_seq ?_
  refine wc_seq ?_
  refine wc_region ?_
  refine wl_val (.int .i64 (numV L s 1 false)) rfl (fun _ => rfl) ?_
  simp only [Act.put, Xa, Xz, Xs]
  refine wl_val (.int .i64 0) rfl (fun _ => rfl) ?_
  simp only [Act.put, Xa, Xz, Xs]
  refine wl_nil ?_
  refine we_then ?_
  refine wc_block ?_
  refine wc_loop (fun (zz : Nat × Pt × Qc × Own × Value × Value × Value × Value × Value × Value × Value × Value) => match zz with | ⟨i, t, zz2, o, u22, u23, u24, u25, u26, u27, u28, u29⟩ => ({ tmps := #[.pointer (some ⟨g, 0, none⟩), .int .i64 1, .int .i64 64, .func (.func 40) #[] #[], undef, undef, undef, undef, .slice none 0 0, .int .i64 (numV L s 1 false), .slice o.ptr i o.cap, .pointer (some ⟨g, 0, none⟩), .int .i64 1, .int .i64 (numV L s 1 false), .int .i64 (numV L s 1 false), .int .i64 64, .bool false, undef, undef, undef, .int .i64 (numV L s 1 false), .int .i64 (i : Int), u22, u23, u24, u25, u26, u27, u28, u29, undef], defers := [] } : Act)) (fun (zz : Nat × Pt × Qc × Own × Value × Value × Value × Value × Value × Value × Value × Value) => match zz with | ⟨i, t, zz2, o, u22, u23, u24, u25, u26, u27, u28, u29⟩ => ⟨g, #[.slice zz2.q (k - t.1) zz2.c, .bool t.2], 73⟩ :: (o.rows 50 ++ B)) (fun (zz : Nat × Pt × Qc × Own × Value × Value × Value × Value × Value × Value × Value × Value) => match zz with | ⟨i, t, zz2, o, u22, u23, u24, u25, u26, u27, u28, u29⟩ => i ≤ cntV L s 1 64 ∧ t = manyS (piece L) (cntS L s 1 64) i ∧ o.Has 2 i (flat enc2 (manyV (piece L) (cntS L s 1 64) i)) ∧ QcOk w0 B0 L t zz2 ∧ t.1 ≤ L.length) (fun (zz : Nat × Pt × Qc × Own × Value × Value × Value × Value × Value × Value × Value × Value) => match zz with | ⟨i, t, zz2, o, u22, u23, u24, u25, u26, u27, u28, u29⟩ => cntV L s 1 64 - i) ⟨0, (numS L s 1), y1, Own.none, _, _, _, _, _, _, _, _⟩ ⟨Nat.zero_le _, hcc.symm, Own.has_none 2, k2, num_le 1 hr.le⟩ rfl (List.Sublist.cons_cons _ (List.Sublist.refl _)) ?_
  rintro ⟨i, t, zz2, o, u22, u23, u24, u25, u26, u27, u28, u29⟩ hφ
  (try dsimp only at hφ ⊢)
  obtain ⟨b1, b2, b3, b4, b5⟩ := hφ
  refine wc_seq ?_
  refine wc_region ?_
  refine wl_val (.bool (decide ((i : Int) < (numV L s 1 false)))) rfl (fun w => run_cmp rfl rfl rfl Try.underlying3 rfl w) ?_
  simp only [Act.put, Xa, Xz, Xs]
  refine wl_nil ?_
  refine we_then ?_
  refine wc_seq ?_
  cases h4 : (decide ((i : Int) < (numV L s 1 false)))
  ·
   skip
   have p4 : ¬ ((i : Int) < (numV L s 1 false)) := of_decide_eq_false h4
   refine wc_false rfl ?_
   refine wc_exit ?_
   refine we_then_exit ?_
   refine we_then_exit ?_
   refine we_in_here ?_
   refine we_then ?_
   refine wc_seq ?_
   refine wc_region ?_
   refine wl_val (.slice o.ptr i o.cap) rfl (fun _ => rfl) ?_
   simp only [Act.put, Xa, Xz, Xs]
   refine wl_val (.slice o.ptr i o.cap) rfl (fun _ => rfl) ?_
   simp only [Act.put, Xa, Xz, Xs]
   refine wl_nil ?_
   refine we_then ?_
   refine wc_ret ?_
   refine we_ret1 (.slice o.ptr i o.cap) rfl rfl rfl (fun w1 hE => ?_)
   have e0 : i = cntV L s 1 64 := by omega
   rw [← e0, ← b2]
   exact ⟨⟨zz2, o⟩, ⟨b4, b3⟩, rfl, hE⟩
  ·
   skip
   have p4 : (i : Int) < (numV L s 1 false) := of_decide_eq_true h4
   refine wc_true rfl ?_
   refine wc_skip ?_
   refine we_then ?_
   refine wc_seq ?_
   refine wc_block ?_
   refine wc_region ?_
   refine wl_val (.slice o.ptr i o.cap) rfl (fun _ => rfl) ?_
   simp only [Act.put, Xa, Xz, Xs]
   refine wl_val (.func (.func 40) #[] #[]) rfl (fun _ => rfl) ?_
   simp only [Act.put, Xa, Xz, Xs]
   refine wl_val (.pointer (some ⟨g, 0, none⟩)) rfl (fun _ => rfl) ?_
   simp only [Act.put, Xa, Xz, Xs]
   refine wl_call_row (ι := Qc) [] [] (o.rows 50 ++ B) ((o.rows 50 ++ B)) ⟨g, #[.slice zz2.q (k - t.1) zz2.c, .bool t.2], 73⟩ 40 #[.pointer (some ⟨g, 0, none⟩)] (fun (y5 : Qc) => .agg #[.int .i64 ((piece L t).2.1), .int .i64 ((piece L t).2.2)]) (fun (y5 : Qc) => ⟨g, #[.slice y5.q (k - ((piece L t).1).1) y5.c, .bool (((piece L t).1).2)], 73⟩) (fun (y5 : Qc) => []) (fun (y5 : Qc) => ⟨g, #[.slice y5.q (k - ((piece L t).1).1) y5.c, .bool (((piece L t).1).2)], 73⟩ :: (o.rows 50 ++ B)) (fun (y5 : Qc) => QcOk w0 B0 L ((piece L t).1) y5) rfl rfl (fun _ => by first | rfl | simp) rfl (er_value0 (enters_of Try.func40 (by kernel_rfl) rfl) rfl rfl rfl) (fun W hE => piece_in w0 B0 ((o.rows 50 ++ B)) L k t zz2 g  W hE ⟨hr.sub.trans (List.sublist_append_of_sublist_right (List.Sublist.refl _)), b4, b5, hr.len, hr.hl⟩) ?_
   rintro y5 k6
   skip
   simp only [Act.put, Xa, Xz, Xs]
   refine wl_lit (e := 50) #[.int .i64 ((piece L t).2.1), .int .i64 ((piece L t).2.2)] 1 rfl (fun _ => by go_simp) ?_
   intro g7
   simp only [Act.put, Xa, Xz, Xs]
   refine wl_append (e := 50) (size := 2) (bytes := 16) (m := 1) [⟨g7, #[.int .i64 ((piece L t).2.1), .int .i64 ((piece L t).2.2)], 50⟩, ⟨g, #[.slice y5.q (k - ((piece L t).1).1) y5.c, .bool (((piece L t).1).2)], 73⟩] B o (ys := [.int .i64 ((piece L t).2.1), .int .i64 ((piece L t).2.2)]) rfl b3 (sl_row 0 rfl) rfl (by simp [Value.oneCell']) rfl rfl rfl rfl Try.underlying51 (by unfold Elem; kernel_rfl) (by decide) (by unfold maxLen; omega) (by omega) ?_
   intro s8 hs8
   simp only [List.cons_append, List.nil_append, Act.put, Xa, Xz, Xs]
   refine wl_val (.slice s8.ptr (i + 1) s8.cap) rfl (fun _ => rfl) ?_
   simp only [Act.put, Xa, Xz, Xs]
   refine wl_nil ?_
   refine we_in ?_
   refine we_then ?_
   refine wc_region ?_
   refine wl_val (.int .i64 ((i + 1 : Nat) : Int)) rfl (fun w => run_nat (X := i) (Y := 1) (Z := i + 1) rfl rfl rfl rfl (by omega) w) ?_
   simp only [Act.put, Xa, Xz, Xs]
   refine wl_val (.int .i64 ((i + 1 : Nat) : Int)) rfl (fun _ => rfl) ?_
   simp only [Act.put, Xa, Xz, Xs]
   refine wl_nil ?_
   exact we_meet ⟨(i + 1), (piece L t).1, y5, s8, _, _, _, _, _, _, _, _⟩ (by (try dsimp only); exact ⟨⟨by omega, by rw [b2]; rfl, by rw [b2] at hs8; exact has_snoc (x := (piece L (manyS (piece L) (cntS L s 1 64) i)).2) hs8, k6, num_le 4 (num_le 8 b5)⟩, by omega⟩) rfl (List.Sublist.cons _ (List.Sublist.cons_cons _ (List.Sublist.append_left (List.Sublist.refl _) _)))
 ·
  skip
  have p3 : 64 < (numV L s 1 false) := of_decide_eq_true h3
  refine wc_true rfl ?_
  refine wc_seq ?_
  refine wc_region ?_
  refine wl_val (.pointer (some ⟨g, 0, none⟩)) rfl (fun _ => rfl) ?_
  simp only [Act.put, Xa, Xz, Xs]
  refine wl_val (.pointer (some ⟨g, 0, none⟩)) rfl (fun w => run_nilCheck rfl rfl w) ?_
  simp only [Act.put, Xa, Xz, Xs]
  refine wl_val (.pointer (some ⟨g, 1, none⟩)) rfl (fun _ => by go_simp) ?_
  simp only [Act.put, Xa, Xz, Xs]
  refine wl_store_cell 0 4 (.tmp 19) (.const (.bool true)) (.bool ((numS L s 1).2)) (.bool true) rfl rfl rfl rfl rfl rfl (by kernel_rfl) rfl ?_
  simp only [Act.put, List.set_cons_zero]
  refine wl_nil ?_
  refine we_then ?_
  refine wc_seq ?_
  refine wc_region ?_
  refine wl_val (.slice none 0 0) rfl (fun _ => rfl) ?_
  simp only [Act.put, Xa, Xz, Xs]
  refine wl_nil ?_
  refine we_then ?_
  refine wc_ret ?_
  refine we_then_ret ?_
  refine we_ret1 (.slice none 0 0) rfl rfl rfl (fun w1 hE => ?_)
  obtain ⟨e1, e2⟩ := cnt_yes (L := L) (s := s) (n := 1) (m := 64) (of_decide_eq_true h3)
  rw [e1, e2]
  exact ⟨⟨y1, .none⟩, ⟨qc_short k2 true, Own.has_none 2⟩, rfl, hE.sub (List.Sublist.cons_cons _ (List.Sublist.refl _))⟩
set_option maxHeartbeats 4000000 in
theorem nexts_in (w0 : World) (B0 B : List Rw) (L : List UInt8) (k : Nat) (s : Pt) (z : Qc) (g : Nat) (w : World) (hE0 : Env w0 w (⟨g, #[.slice z.q (k - s.1) z.c, .bool s.2], 73⟩ :: B)) (hr : Rdy w0 B0 B L k s z) :
  Calls Try.prog 41 #[.pointer (some ⟨g, 0, none⟩), .int .i64 1, .int .i64 2, .func (.func 42) #[] #[]] w fun e w' => ∃ y : Lz, (QcOk w0 B0 L (manyS (next L) (cntS L s 1 2) (cntV L s 1 2)) y.q ∧ y.o.Has 1 (cntV L s 1 2) (flat enc1 (manyV (next L) (cntS L s 1 2) (cntV L s 1 2)))) ∧ e = .returned (.slice y.o.ptr (cntV L s 1 2) y.o.cap) ∧ Env w0 w' (⟨g, #[.slice y.q.q (k - (manyS (next L) (cntS L s 1 2) (cntV L s 1 2)).1) y.q.c, .bool (manyS (next L) (cntS L s 1 2) (cntV L s 1 2)).2], 73⟩ :: (y.o.rows 3 ++ B)) := by
 refine calls_in hE0 Try.func41 rfl ?_
 simp only [Try.ntmps41, List.size_toArray, List.length_cons, List.length_nil, Nat.reduceAdd, Nat.reduceSub, Array.replicate_succ, Array.replicate_zero, List.push_toArray, List.append_toArray, List.nil_append, List.cons_append]
 refine wc_seq ?_
 refine wc_region ?_
 refine wl_val (.slice none 0 0) rfl (fun _ => rfl) ?_
 simp only [Act.put, Xa, Xz, Xs]
 refine wl_nil ?_
 refine we_then ?_
 refine wc_seq ?_
 refine wc_region ?_
 refine wl_val (.pointer (some ⟨g, 0, none⟩)) rfl (fun _ => rfl) ?_
 simp only [Act.put, Xa, Xz, Xs]
 refine wl_val (.int .i64 1) rfl (fun _ => rfl) ?_
 simp only [Act.put, Xa, Xz, Xs]
 refine wl_call_row (ι := Qc) [] [] B (B) ⟨g, #[.slice z.q (k - s.1) z.c, .bool s.2], 73⟩ 38 #[.pointer (some ⟨g, 0, none⟩), .int .i64 1] (fun (y1 : Qc) => .int .i64 (numV L s 1 false)) (fun (y1 : Qc) => ⟨g, #[.slice y1.q (k - (numS L s 1).1) y1.c, .bool ((numS L s 1).2)], 73⟩) (fun (y1 : Qc) => []) (fun (y1 : Qc) => ⟨g, #[.slice y1.q (k - (numS L s 1).1) y1.c, .bool ((numS L s 1).2)], 73⟩ :: B) (fun (y1 : Qc) => QcOk w0 B0 L (numS L s 1) y1) rfl rfl (fun _ => by first | rfl | simp) rfl (fun _ => by go_simp) (fun W hE => number_in w0 B0 (B) L k s z g 1 false W hE ⟨hr.sub.trans (List.Sublist.refl _), hr.ok, hr.le, hr.len, hr.hl⟩ (by decide) rfl) ?_
 rintro y1 k2
 skip
 simp only [Act.put, Xa, Xz, Xs]
 refine wl_val (.int .i64 (numV L s 1 false)) rfl (fun _ => rfl) ?_
 simp only [Act.put, Xa, Xz, Xs]
 refine wl_nil ?_
 refine we_then ?_
 refine wc_seq ?_
 refine wc_seq ?_
 refine wc_region ?_
 refine wl_val (.int .i64 (numV L s 1 false)) rfl (fun _ => rfl) ?_
 simp only [Act.put, Xa, Xz, Xs]
 refine wl_val (.int .i64 2) rfl (fun _ => rfl) ?_
 simp only [Act.put, Xa, Xz, Xs]
 refine wl_val (.bool (decide (2 < (numV L s 1 false)))) rfl (fun w => run_cmp rfl rfl rfl Try.underlying3 rfl w) ?_
 simp only [Act.put, Xa, Xz, Xs]
 refine wl_nil ?_
 refine we_then ?_
 cases h3 : (decide (2 < (numV L s 1 false)))
 ·
  skip
  have p3 : ¬ (2 < (numV L s 1 false)) := of_decide_eq_false h3
  refine wc_false rfl ?_
  refine wc_skip ?_
  refine we_then ?_
  refine wc_seq ?_
  obtain ⟨hcc, hcn⟩ := cnt_no (L := L) (s := s) (n := 1) (m := 2) (of_decide_eq_false h3)
  have hcm := cntV_le (L := L) (s := s) (n := 1) (m := 2) (by decide)
  refine wc_region ?_
  refine wl_val (.slice none 0 0) rfl (fun _ => rfl) ?_
  simp only [Act.put, Xa, Xz, Xs]
  refine wl_nil ?_
  refine we_then ?_
  refine wc_seq ?_
  refine wc_seq ?_
  refine wc_region ?_
  refine wl_val (.int .i64 (numV L s 1 false)) rfl (fun _ => rfl) ?_
  simp only [Act.put, Xa, Xz, Xs]
  refine wl_val (.int .i64 0) rfl (fun _ => rfl) ?_
  simp only [Act.put, Xa, Xz, Xs]
  refine wl_nil ?_
  refine we_then ?_
  refine wc_block ?_
  refine wc_loop (fun (zz : Nat × Pt × Qc × Own × Value × Value × Value × Value × Value × Value × Value × Value) => match zz with | ⟨i, t, zz2, o, u22, u23, u24, u25, u26, u27, u28, u29⟩ => ({ tmps := #[.pointer (some ⟨g, 0, none⟩), .int .i64 1, .int .i64 2, .func (.func 42) #[] #[], undef, undef, undef, undef, .slice none 0 0, .int .i64 (numV L s 1 false), .slice o.ptr i o.cap, .pointer (some ⟨g, 0, none⟩), .int .i64 1, .int .i64 (numV L s 1 false), .int .i64 (numV L s 1 false), .int .i64 2, .bool false, undef, undef, undef, .int .i64 (numV L s 1 false), .int .i64 (i : Int), u22, u23, u24, u25, u26, u27, u28, u29, undef], defers := [] } : Act)) (fun (zz : Nat × Pt × Qc × Own × Value × Value × Value × Value × Value × Value × Value × Value) => match zz with | ⟨i, t, zz2, o, u22, u23, u24, u25, u26, u27, u28, u29⟩ => ⟨g, #[.slice zz2.q (k - t.1) zz2.c, .bool t.2], 73⟩ :: (o.rows 3 ++ B)) (fun (zz : Nat × Pt × Qc × Own × Value × Value × Value × Value × Value × Value × Value × Value) => match zz with | ⟨i, t, zz2, o, u22, u23, u24, u25, u26, u27, u28, u29⟩ => i ≤ cntV L s 1 2 ∧ t = manyS (next L) (cntS L s 1 2) i ∧ o.Has 1 i (flat enc1 (manyV (next L) (cntS L s 1 2) i)) ∧ QcOk w0 B0 L t zz2 ∧ t.1 ≤ L.length) (fun (zz : Nat × Pt × Qc × Own × Value × Value × Value × Value × Value × Value × Value × Value) => match zz with | ⟨i, t, zz2, o, u22, u23, u24, u25, u26, u27, u28, u29⟩ => cntV L s 1 2 - i) ⟨0, (numS L s 1), y1, Own.none, _, _, _, _, _, _, _, _⟩ ⟨Nat.zero_le _, hcc.symm, Own.has_none 1, k2, num_le 1 hr.le⟩ rfl (List.Sublist.cons_cons _ (List.Sublist.refl _)) ?_
  rintro ⟨i, t, zz2, o, u22, u23, u24, u25, u26, u27, u28, u29⟩ hφ
  (try dsimp only at hφ ⊢)
  obtain ⟨b1, b2, b3, b4, b5⟩ := hφ
  refine wc_seq ?_
  refine wc_region ?_
  refine wl_val (.bool (decide ((i : Int) < (numV L s 1 false)))) rfl (fun w => run_cmp rfl rfl rfl Try.underlying3 rfl w) ?_
  simp only [Act.put, Xa, Xz, Xs]
  refine wl_nil ?_
  refine we_then ?_
  refine wc_seq ?_
  cases h4 : (decide ((i : Int) < (numV L s 1 false)))
  ·
   skip
   have p4 : ¬ ((i : Int) < (numV L s 1 false)) := of_decide_eq_false h4
   refine wc_false rfl ?_
   refine wc_exit ?_
   refine we_then_exit ?_
   refine we_then_exit ?_
   refine we_in_here ?_
   refine we_then ?_
   refine wc_seq ?_
   refine wc_region ?_
   refine wl_val (.slice o.ptr i o.cap) rfl (fun _ => rfl) ?_
   simp only [Act.put, Xa, Xz, Xs]
   refine wl_val (.slice o.ptr i o.cap) rfl (fun _ => rfl) ?_
   simp only [Act.put, Xa, Xz, Xs]
   refine wl_nil ?_
   refine we_then ?_
   refine wc_ret ?_
   refine we_ret1 (.slice o.ptr i o.cap) rfl rfl rfl (fun w1 hE => ?_)
   have e0 : i = cntV L s 1 2 := by omega
   rw [← e0, ← b2]
   exact ⟨⟨zz2, o⟩, ⟨b4, b3⟩, rfl, hE⟩
  ·
   skip
   have p4 : (i : Int) < (numV L s 1 false) := of_decide_eq_true h4
   refine wc_true rfl ?_
   refine wc_skip ?_
   refine we_then ?_
   refine wc_seq ?_
   refine wc_block ?_
   refine wc_region ?_
   refine wl_val (.slice o.ptr i o.cap) rfl (fun _ => rfl) ?_
   simp only [Act.put, Xa, Xz, Xs]
   refine wl_val (.func (.func 42) #[] #[]) rfl (fun _ => rfl) ?_
   simp only [Act.put, Xa, Xz, Xs]
   refine wl_val (.pointer (some ⟨g, 0, none⟩)) rfl (fun _ => rfl) ?_
   simp only [Act.put, Xa, Xz, Xs]
   refine wl_call_row (ι := Qc) [] [] (o.rows 3 ++ B) ((o.rows 3 ++ B)) ⟨g, #[.slice zz2.q (k - t.1) zz2.c, .bool t.2], 73⟩ 42 #[.pointer (some ⟨g, 0, none⟩)] (fun (y5 : Qc) => .int .i64 ((next L t).2)) (fun (y5 : Qc) => ⟨g, #[.slice y5.q (k - ((next L t).1).1) y5.c, .bool (((next L t).1).2)], 73⟩) (fun (y5 : Qc) => []) (fun (y5 : Qc) => ⟨g, #[.slice y5.q (k - ((next L t).1).1) y5.c, .bool (((next L t).1).2)], 73⟩ :: (o.rows 3 ++ B)) (fun (y5 : Qc) => QcOk w0 B0 L ((next L t).1) y5) rfl rfl (fun _ => by first | rfl | simp) rfl (er_value0 (enters_of Try.func42 (by kernel_rfl) rfl) rfl rfl rfl) (fun W hE => index_in w0 B0 ((o.rows 3 ++ B)) L k t zz2 g  W hE ⟨hr.sub.trans (List.sublist_append_of_sublist_right (List.Sublist.refl _)), b4, b5, hr.len, hr.hl⟩) ?_
   rintro y5 k6
   skip
   simp only [Act.put, Xa, Xz, Xs]
   refine wl_lit (e := 3) #[.int .i64 ((next L t).2)] 1 rfl (fun _ => by go_simp) ?_
   intro g7
   simp only [Act.put, Xa, Xz, Xs]
   refine wl_append (e := 3) (size := 1) (bytes := 8) (m := 1) [⟨g7, #[.int .i64 ((next L t).2)], 3⟩, ⟨g, #[.slice y5.q (k - ((next L t).1).1) y5.c, .bool (((next L t).1).2)], 73⟩] B o (ys := [.int .i64 ((next L t).2)]) rfl b3 (sl_row 0 rfl) rfl (by simp [Value.oneCell']) rfl rfl rfl rfl Try.underlying52 (by unfold Elem; kernel_rfl) (by decide) (by unfold maxLen; omega) (by omega) ?_
   intro s8 hs8
   simp only [List.cons_append, List.nil_append, Act.put, Xa, Xz, Xs]
   refine wl_val (.slice s8.ptr (i + 1) s8.cap) rfl (fun _ => rfl) ?_
   simp only [Act.put, Xa, Xz, Xs]
   refine wl_nil ?_
   refine we_in ?_
   refine we_then ?_
   refine wc_region ?_
   refine wl_val (.int .i64 ((i + 1 : Nat) : Int)) rfl (fun w => run_nat (X := i) (Y := 1) (Z := i + 1) rfl rfl rfl rfl (by omega) w) ?_
   simp only [Act.put, Xa, Xz, Xs]
   refine wl_val (.int .i64 ((i + 1 : Nat) : Int)) rfl (fun _ => rfl) ?_
   simp only [Act.put, Xa, Xz, Xs]
   refine wl_nil ?_
   exact we_meet ⟨(i + 1), (next L t).1, y5, s8, _, _, _, _, _, _, _, _⟩ (by (try dsimp only); exact ⟨⟨by omega, by rw [b2]; rfl, by rw [b2] at hs8; exact has_snoc (x := (next L (manyS (next L) (cntS L s 1 2) i)).2) hs8, k6, num_le 1 b5⟩, by omega⟩) rfl (List.Sublist.cons _ (List.Sublist.cons_cons _ (List.Sublist.append_left (List.Sublist.refl _) _)))
 ·
  skip
  have p3 : 2 < (numV L s 1 false) := of_decide_eq_true h3
  refine wc_true rfl ?_
  refine wc_seq ?_
  refine wc_region ?_
  refine wl_val (.pointer (some ⟨g, 0, none⟩)) rfl (fun _ => rfl) ?_
  simp only [Act.put, Xa, Xz, Xs]
  refine wl_val (.pointer (some ⟨g, 0, none⟩)) rfl (fun w => run_nilCheck rfl rfl w) ?_
  simp only [Act.put, Xa, Xz, Xs]
  refine wl_val (.pointer (some ⟨g, 1, none⟩)) rfl (fun _ => by go_simp) ?_
  simp only [Act.put, Xa, Xz, Xs]
  refine wl_store_cell 0 4 (.tmp 19) (.const (.bool true)) (.bool ((numS L s 1).2)) (.bool true) rfl rfl rfl rfl rfl rfl (by kernel_rfl) rfl ?_
  simp only [Act.put, List.set_cons_zero]
  refine wl_nil ?_
  refine we_then ?_
  refine wc_seq ?_
  refine wc_region ?_
  refine wl_val (.slice none 0 0) rfl (fun _ => rfl) ?_
  simp only [Act.put, Xa, Xz, Xs]
  refine wl_nil ?_
  refine we_then ?_
  refine wc_ret ?_
  refine we_then_ret ?_
  refine we_ret1 (.slice none 0 0) rfl rfl rfl (fun w1 hE => ?_)
  obtain ⟨e1, e2⟩ := cnt_yes (L := L) (s := s) (n := 1) (m := 2) (of_decide_eq_true h3)
  rw [e1, e2]
  exact ⟨⟨y1, .none⟩, ⟨qc_short k2 true, Own.has_none 1⟩, rfl, hE.sub (List.Sublist.cons_cons _ (List.Sublist.refl _))⟩
set_option maxHeartbeats 4000000 in
theorem groups_in (w0 : World) (B0 B : List Rw) (L : List UInt8) (k : Nat) (s : Pt) (z : Qc) (g : Nat) (w : World) (hE0 : Env w0 w (⟨g, #[.slice z.q (k - s.1) z.c, .bool s.2], 73⟩ :: B)) (hr : Rdy w0 B0 B L k s z) :
  Calls Try.prog 26 #[.pointer (some ⟨g, 0, none⟩), .int .i64 2, .int .i64 400, .func (.func 27) #[] #[]] w fun e w' => ∃ y : Lz, (QcOk w0 B0 L (manyS (group L) (cntS L s 2 400) (cntV L s 2 400)) y.q ∧ y.o.Has 5 (cntV L s 2 400) (flat gp (manyV (group L) (cntS L s 2 400) (cntV L s 2 400)))) ∧ e = .returned (.slice y.o.ptr (cntV L s 2 400) y.o.cap) ∧ Env w0 w' (⟨g, #[.slice y.q.q (k - (manyS (group L) (cntS L s 2 400) (cntV L s 2 400)).1) y.q.c, .bool (manyS (group L) (cntS L s 2 400) (cntV L s 2 400)).2], 73⟩ :: (y.o.rows 60 ++ B)) := by
 refine calls_in hE0 Try.func26 rfl ?_
 simp only [Try.ntmps26, List.size_toArray, List.length_cons, List.length_nil, Nat.reduceAdd, Nat.reduceSub, Array.replicate_succ, Array.replicate_zero, List.push_toArray, List.append_toArray, List.nil_append, List.cons_append]
 refine wc_seq ?_
 refine wc_region ?_
 refine wl_val (.slice none 0 0) rfl (fun _ => rfl) ?_
 simp only [Act.put, Xa, Xz, Xs]
 refine wl_nil ?_
 refine we_then ?_
 refine wc_seq ?_
 refine wc_region ?_
 refine wl_val (.pointer (some ⟨g, 0, none⟩)) rfl (fun _ => rfl) ?_
 simp only [Act.put, Xa, Xz, Xs]
 refine wl_val (.int .i64 2) rfl (fun _ => rfl) ?_
 simp only [Act.put, Xa, Xz, Xs]
 refine wl_call_row (ι := Qc) [] [] B (B) ⟨g, #[.slice z.q (k - s.1) z.c, .bool s.2], 73⟩ 38 #[.pointer (some ⟨g, 0, none⟩), .int .i64 2] (fun (y1 : Qc) => .int .i64 (numV L s 2 false)) (fun (y1 : Qc) => ⟨g, #[.slice y1.q (k - (numS L s 2).1) y1.c, .bool ((numS L s 2).2)], 73⟩) (fun (y1 : Qc) => []) (fun (y1 : Qc) => ⟨g, #[.slice y1.q (k - (numS L s 2).1) y1.c, .bool ((numS L s 2).2)], 73⟩ :: B) (fun (y1 : Qc) => QcOk w0 B0 L (numS L s 2) y1) rfl rfl (fun _ => by first | rfl | simp) rfl (fun _ => by go_simp) (fun W hE => number_in w0 B0 (B) L k s z g 2 false W hE ⟨hr.sub.trans (List.Sublist.refl _), hr.ok, hr.le, hr.len, hr.hl⟩ (by decide) rfl) ?_
 rintro y1 k2
 skip
 simp only [Act.put, Xa, Xz, Xs]
 refine wl_val (.int .i64 (numV L s 2 false)) rfl (fun _ => rfl) ?_
 simp only [Act.put, Xa, Xz, Xs]
 refine wl_nil ?_
 refine we_then ?_
 refine wc_seq ?_
 refine wc_seq ?_
 refine wc_region ?_
 refine wl_val (.int .i64 (numV L s 2 false)) rfl (fun _ => rfl) ?_
 simp only [Act.put, Xa, Xz, Xs]
 refine wl_val (.int .i64 400) rfl (fun _ => rfl) ?_
 simp only [Act.put, Xa, Xz, Xs]
 refine wl_val (.bool (decide (400 < (numV L s 2 false)))) rfl (fun w => run_cmp rfl rfl rfl Try.underlying3 rfl w) ?_
 simp only [Act.put, Xa, Xz, Xs]
 refine wl_nil ?_
 refine we_then ?_
 cases h3 : (decide (400 < (numV L s 2 false)))
 ·
  skip
  have p3 : ¬ (400 < (numV L s 2 false)) := of_decide_eq_false h3
  refine wc_false rfl ?_
  refine wc_skip ?_
  refine we_then ?_
  refine wc_seq ?_
  obtain ⟨hcc, hcn⟩ := cnt_no (L := L) (s := s) (n := 2) (m := 400) (of_decide_eq_false h3)
  have hcm := cntV_le (L := L) (s := s) (n := 2) (m := 400) (by decide)
  refine wc_region ?_
  refine wl_val (.slice none 0 0) rfl (fun _ => rfl) ?_
  simp only [Act.put, Xa, Xz, Xs]
  refine wl_nil ?_
  refine we_then ?_
  refine wc_seq ?_
  refine wc_seq ?_
  refine wc_region ?_
  refine wl_val (.int .i64 (numV L s 2 false)) rfl (fun _ => rfl) ?_
  simp only [Act.put, Xa, Xz, Xs]
  refine wl_val (.int .i64 0) rfl (fun _ => rfl) ?_
  simp only [Act.put, Xa, Xz, Xs]
  refine wl_nil ?_
  refine we_then ?_
  refine wc_block ?_
  refine wc_loop (fun (zz : Nat × Pt × Qc × Own × Value × Value × Value × Value × Value × Value × Value × Value) => match zz with | ⟨i, t, zz2, o, u22, u23, u24, u25, u26, u27, u28, u29⟩ => ({ tmps := #[.pointer (some ⟨g, 0, none⟩), .int .i64 2, .int .i64 400, .func (.func 27) #[] #[], undef, undef, undef, undef, .slice none 0 0, .int .i64 (numV L s 2 false), .slice o.ptr i o.cap, .pointer (some ⟨g, 0, none⟩), .int .i64 2, .int .i64 (numV L s 2 false), .int .i64 (numV L s 2 false), .int .i64 400, .bool false, undef, undef, undef, .int .i64 (numV L s 2 false), .int .i64 (i : Int), u22, u23, u24, u25, u26, u27, u28, u29, undef], defers := [] } : Act)) (fun (zz : Nat × Pt × Qc × Own × Value × Value × Value × Value × Value × Value × Value × Value) => match zz with | ⟨i, t, zz2, o, u22, u23, u24, u25, u26, u27, u28, u29⟩ => ⟨g, #[.slice zz2.q (k - t.1) zz2.c, .bool t.2], 73⟩ :: (o.rows 60 ++ B)) (fun (zz : Nat × Pt × Qc × Own × Value × Value × Value × Value × Value × Value × Value × Value) => match zz with | ⟨i, t, zz2, o, u22, u23, u24, u25, u26, u27, u28, u29⟩ => i ≤ cntV L s 2 400 ∧ t = manyS (group L) (cntS L s 2 400) i ∧ o.Has 5 i (flat gp (manyV (group L) (cntS L s 2 400) i)) ∧ QcOk w0 B0 L t zz2 ∧ t.1 ≤ L.length) (fun (zz : Nat × Pt × Qc × Own × Value × Value × Value × Value × Value × Value × Value × Value) => match zz with | ⟨i, t, zz2, o, u22, u23, u24, u25, u26, u27, u28, u29⟩ => cntV L s 2 400 - i) ⟨0, (numS L s 2), y1, Own.none, _, _, _, _, _, _, _, _⟩ ⟨Nat.zero_le _, hcc.symm, Own.has_none 5, k2, num_le 2 hr.le⟩ rfl (List.Sublist.cons_cons _ (List.Sublist.refl _)) ?_
  rintro ⟨i, t, zz2, o, u22, u23, u24, u25, u26, u27, u28, u29⟩ hφ
  (try dsimp only at hφ ⊢)
  obtain ⟨b1, b2, b3, b4, b5⟩ := hφ
  refine wc_seq ?_
  refine wc_region ?_
  refine wl_val (.bool (decide ((i : Int) < (numV L s 2 false)))) rfl (fun w => run_cmp rfl rfl rfl Try.underlying3 rfl w) ?_
  simp only [Act.put, Xa, Xz, Xs]
  refine wl_nil ?_
  refine we_then ?_
  refine wc_seq ?_
  cases h4 : (decide ((i : Int) < (numV L s 2 false)))
  ·
   skip
   have p4 : ¬ ((i : Int) < (numV L s 2 false)) := of_decide_eq_false h4
   refine wc_false rfl ?_
   refine wc_exit ?_
   refine we_then_exit ?_
   refine we_then_exit ?_
   refine we_in_here ?_
   refine we_then ?_
   refine wc_seq ?_
   refine wc_region ?_
   refine wl_val (.slice o.ptr i o.cap) rfl (fun _ => rfl) ?_
   simp only [Act.put, Xa, Xz, Xs]
   refine wl_val (.slice o.ptr i o.cap) rfl (fun _ => rfl) ?_
   simp only [Act.put, Xa, Xz, Xs]
   refine wl_nil ?_
   refine we_then ?_
   refine wc_ret ?_
   refine we_ret1 (.slice o.ptr i o.cap) rfl rfl rfl (fun w1 hE => ?_)
   have e0 : i = cntV L s 2 400 := by omega
   rw [← e0, ← b2]
   exact ⟨⟨zz2, o⟩, ⟨b4, b3⟩, rfl, hE⟩
  ·
   skip
   have p4 : (i : Int) < (numV L s 2 false) := of_decide_eq_true h4
   refine wc_true rfl ?_
   refine wc_skip ?_
   refine we_then ?_
   refine wc_seq ?_
   refine wc_block ?_
   refine wc_region ?_
   refine wl_val (.slice o.ptr i o.cap) rfl (fun _ => rfl) ?_
   simp only [Act.put, Xa, Xz, Xs]
   refine wl_val (.func (.func 27) #[] #[]) rfl (fun _ => rfl) ?_
   simp only [Act.put, Xa, Xz, Xs]
   refine wl_val (.pointer (some ⟨g, 0, none⟩)) rfl (fun _ => rfl) ?_
   simp only [Act.put, Xa, Xz, Xs]
   refine wl_call_row (ι := Qc) [] [] (o.rows 60 ++ B) ((o.rows 60 ++ B)) ⟨g, #[.slice zz2.q (k - t.1) zz2.c, .bool t.2], 73⟩ 27 #[.pointer (some ⟨g, 0, none⟩)] (fun (y5 : Qc) => .agg #[.int .i64 ((group L t).2.id), .int .i64 ((group L t).2.seg), .int .i64 ((group L t).2.off), .int .i64 ((group L t).2.acc), .int .i64 ((group L t).2.slack)]) (fun (y5 : Qc) => ⟨g, #[.slice y5.q (k - ((group L t).1).1) y5.c, .bool (((group L t).1).2)], 73⟩) (fun (y5 : Qc) => []) (fun (y5 : Qc) => ⟨g, #[.slice y5.q (k - ((group L t).1).1) y5.c, .bool (((group L t).1).2)], 73⟩ :: (o.rows 60 ++ B)) (fun (y5 : Qc) => QcOk w0 B0 L ((group L t).1) y5) rfl rfl (fun _ => by first | rfl | simp) rfl (er_value0 (enters_of Try.func27 (by kernel_rfl) rfl) rfl rfl rfl) (fun W hE => group_in w0 B0 ((o.rows 60 ++ B)) L k t zz2 g  W hE ⟨hr.sub.trans (List.sublist_append_of_sublist_right (List.Sublist.refl _)), b4, b5, hr.len, hr.hl⟩) ?_
   rintro y5 k6
   skip
   simp only [Act.put, Xa, Xz, Xs]
   refine wl_lit (e := 60) #[.int .i64 ((group L t).2.id), .int .i64 ((group L t).2.seg), .int .i64 ((group L t).2.off), .int .i64 ((group L t).2.acc), .int .i64 ((group L t).2.slack)] 1 rfl (fun _ => by go_simp) ?_
   intro g7
   simp only [Act.put, Xa, Xz, Xs]
   refine wl_append (e := 60) (size := 5) (bytes := 40) (m := 1) [⟨g7, #[.int .i64 ((group L t).2.id), .int .i64 ((group L t).2.seg), .int .i64 ((group L t).2.off), .int .i64 ((group L t).2.acc), .int .i64 ((group L t).2.slack)], 60⟩, ⟨g, #[.slice y5.q (k - ((group L t).1).1) y5.c, .bool (((group L t).1).2)], 73⟩] B o (ys := [.int .i64 ((group L t).2.id), .int .i64 ((group L t).2.seg), .int .i64 ((group L t).2.off), .int .i64 ((group L t).2.acc), .int .i64 ((group L t).2.slack)]) rfl b3 (sl_row 0 rfl) rfl (by simp [Value.oneCell']) rfl rfl rfl rfl Try.underlying23 (by unfold Elem; kernel_rfl) (by decide) (by unfold maxLen; omega) (by omega) ?_
   intro s8 hs8
   simp only [List.cons_append, List.nil_append, Act.put, Xa, Xz, Xs]
   refine wl_val (.slice s8.ptr (i + 1) s8.cap) rfl (fun _ => rfl) ?_
   simp only [Act.put, Xa, Xz, Xs]
   refine wl_nil ?_
   refine we_in ?_
   refine we_then ?_
   refine wc_region ?_
   refine wl_val (.int .i64 ((i + 1 : Nat) : Int)) rfl (fun w => run_nat (X := i) (Y := 1) (Z := i + 1) rfl rfl rfl rfl (by omega) w) ?_
   simp only [Act.put, Xa, Xz, Xs]
   refine wl_val (.int .i64 ((i + 1 : Nat) : Int)) rfl (fun _ => rfl) ?_
   simp only [Act.put, Xa, Xz, Xs]
   refine wl_nil ?_
   exact we_meet ⟨(i + 1), (group L t).1, y5, s8, _, _, _, _, _, _, _, _⟩ (by (try dsimp only); exact ⟨⟨by omega, by rw [b2]; rfl, by rw [b2] at hs8; exact has_snoc (x := (group L (manyS (group L) (cntS L s 2 400) i)).2) hs8, k6, group_le _ b5⟩, by omega⟩) rfl (List.Sublist.cons _ (List.Sublist.cons_cons _ (List.Sublist.append_left (List.Sublist.refl _) _)))
 ·
  skip
  have p3 : 400 < (numV L s 2 false) := of_decide_eq_true h3
  refine wc_true rfl ?_
  refine wc_seq ?_
  refine wc_region ?_
  refine wl_val (.pointer (some ⟨g, 0, none⟩)) rfl (fun _ => rfl) ?_
  simp only [Act.put, Xa, Xz, Xs]
  refine wl_val (.pointer (some ⟨g, 0, none⟩)) rfl (fun w => run_nilCheck rfl rfl w) ?_
  simp only [Act.put, Xa, Xz, Xs]
  refine wl_val (.pointer (some ⟨g, 1, none⟩)) rfl (fun _ => by go_simp) ?_
  simp only [Act.put, Xa, Xz, Xs]
  refine wl_store_cell 0 4 (.tmp 19) (.const (.bool true)) (.bool ((numS L s 2).2)) (.bool true) rfl rfl rfl rfl rfl rfl (by kernel_rfl) rfl ?_
  simp only [Act.put, List.set_cons_zero]
  refine wl_nil ?_
  refine we_then ?_
  refine wc_seq ?_
  refine wc_region ?_
  refine wl_val (.slice none 0 0) rfl (fun _ => rfl) ?_
  simp only [Act.put, Xa, Xz, Xs]
  refine wl_nil ?_
  refine we_then ?_
  refine wc_ret ?_
  refine we_then_ret ?_
  refine we_ret1 (.slice none 0 0) rfl rfl rfl (fun w1 hE => ?_)
  obtain ⟨e1, e2⟩ := cnt_yes (L := L) (s := s) (n := 2) (m := 400) (of_decide_eq_true h3)
  rw [e1, e2]
  exact ⟨⟨y1, .none⟩, ⟨qc_short k2 true, Own.has_none 5⟩, rfl, hE.sub (List.Sublist.cons_cons _ (List.Sublist.refl _))⟩
set_option maxHeartbeats 4000000 in
theorem segment_in (w0 : World) (B0 B : List Rw) (L : List UInt8) (k : Nat) (s : Pt) (z : Qc) (g : Nat) (w : World) (hE0 : Env w0 w (⟨g, #[.slice z.q (k - s.1) z.c, .bool s.2], 73⟩ :: B)) (hr : Rdy w0 B0 B L k s z) :
  Calls Try.prog 25 #[.pointer (some ⟨g, 0, none⟩)] w fun e w' => ∃ y : Gz, (QcOk w0 B0 L (segmt L s).1 y.q ∧ Held y.v.N y.v.p (flat enc2 (segmt L s).2.P) ∧ Held y.v.N y.v.q (flat enc1 (segmt L s).2.X)) ∧ e = .returned (.agg #[.int .i64 (segmt L s).2.len, .slice y.v.p (segmt L s).2.P.length y.v.c, .slice y.v.q (segmt L s).2.X.length y.v.d]) ∧ Env w0 w' (⟨g, #[.slice y.q.q (k - (segmt L s).1.1) y.q.c, .bool (segmt L s).1.2], 73⟩ :: (y.v.N ++ B)) := by
 refine calls_in hE0 Try.func25 rfl ?_
 simp only [Try.ntmps25, List.size_toArray, List.length_cons, List.length_nil, Nat.reduceAdd, Nat.reduceSub, Array.replicate_succ, Array.replicate_zero, List.push_toArray, List.append_toArray, List.nil_append, List.cons_append]
 refine wc_seq ?_
 refine wc_region ?_
 refine wl_new 54 (#[.int .i64 0, .slice none 0 0, .slice none 0 0]) rfl (fun _ => by go_simp) ?_
 intro g1
 simp only [Act.put, Xa, Xz, Xs]
 refine wl_nil ?_
 refine we_then ?_
 refine wc_seq ?_
 refine wc_region ?_
 refine wl_val (.pointer (some ⟨g, 0, none⟩)) rfl (fun _ => rfl) ?_
 simp only [Act.put, Xa, Xz, Xs]
 refine wl_call_row (ι := Qc) [⟨g1, #[.int .i64 0, .slice none 0 0, .slice none 0 0], 54⟩] [] B (⟨g1, #[.int .i64 0, .slice none 0 0, .slice none 0 0], 54⟩ :: B) ⟨g, #[.slice z.q (k - s.1) z.c, .bool s.2], 73⟩ 38 #[.pointer (some ⟨g, 0, none⟩), .int .i64 8] (fun (y2 : Qc) => .int .i64 (numV L s 8 true)) (fun (y2 : Qc) => ⟨g, #[.slice y2.q (k - (numS L s 8).1) y2.c, .bool ((numS L s 8).2)], 73⟩) (fun (y2 : Qc) => []) (fun (y2 : Qc) => ⟨g1, #[.int .i64 0, .slice none 0 0, .slice none 0 0], 54⟩ :: ⟨g, #[.slice y2.q (k - (numS L s 8).1) y2.c, .bool ((numS L s 8).2)], 73⟩ :: B) (fun (y2 : Qc) => QcOk w0 B0 L (numS L s 8) y2) rfl rfl (fun _ => by first | rfl | simp) rfl (fun _ => by go_simp) (fun W hE => number_in w0 B0 (⟨g1, #[.int .i64 0, .slice none 0 0, .slice none 0 0], 54⟩ :: B) L k s z g 8 true W hE ⟨hr.sub.trans (List.Sublist.cons _ (List.Sublist.refl _)), hr.ok, hr.le, hr.len, hr.hl⟩ (by decide) rfl) ?_
 rintro y2 k3
 skip
 simp only [Act.put, Xa, Xz, Xs]
 refine wl_val (.pointer (some ⟨g, 0, none⟩)) rfl (fun _ => rfl) ?_
 simp only [Act.put, Xa, Xz, Xs]
 refine wl_call_row (ι := Lz) [⟨g1, #[.int .i64 0, .slice none 0 0, .slice none 0 0], 54⟩] [] B (⟨g1, #[.int .i64 0, .slice none 0 0, .slice none 0 0], 54⟩ :: B) ⟨g, #[.slice y2.q (k - (numS L s 8).1) y2.c, .bool ((numS L s 8).2)], 73⟩ 39 #[.pointer (some ⟨g, 0, none⟩), .int .i64 1, .int .i64 64, .func (.func 40) #[] #[]] (fun (y4 : Lz) => .slice y4.o.ptr (cntV L (numS L s 8) 1 64) y4.o.cap) (fun (y4 : Lz) => ⟨g, #[.slice y4.q.q (k - (manyS (piece L) (cntS L (numS L s 8) 1 64) (cntV L (numS L s 8) 1 64)).1) y4.q.c, .bool ((manyS (piece L) (cntS L (numS L s 8) 1 64) (cntV L (numS L s 8) 1 64)).2)], 73⟩) (fun (y4 : Lz) => y4.o.rows 50) (fun (y4 : Lz) => ⟨g1, #[.int .i64 0, .slice none 0 0, .slice none 0 0], 54⟩ :: ⟨g, #[.slice y4.q.q (k - (manyS (piece L) (cntS L (numS L s 8) 1 64) (cntV L (numS L s 8) 1 64)).1) y4.q.c, .bool ((manyS (piece L) (cntS L (numS L s 8) 1 64) (cntV L (numS L s 8) 1 64)).2)], 73⟩ :: (y4.o.rows 50 ++ B)) (fun (y4 : Lz) => QcOk w0 B0 L (manyS (piece L) (cntS L (numS L s 8) 1 64) (cntV L (numS L s 8) 1 64)) y4.q ∧ y4.o.Has 2 (cntV L (numS L s 8) 1 64) (flat enc2 (manyV (piece L) (cntS L (numS L s 8) 1 64) (cntV L (numS L s 8) 1 64)))) rfl rfl (fun _ => by first | rfl | simp) rfl (fun _ => by go_simp) (fun W hE => pieces_in w0 B0 (⟨g1, #[.int .i64 0, .slice none 0 0, .slice none 0 0], 54⟩ :: B) L k (numS L s 8) y2 g W hE ⟨hr.sub.trans (List.Sublist.cons _ (List.Sublist.refl _)), k3, (num_le 8 hr.le), hr.len, hr.hl⟩) ?_
 rintro y4 k5
 skip
 simp only [Act.put, Xa, Xz, Xs]
 refine wl_val (.pointer (some ⟨g, 0, none⟩)) rfl (fun _ => rfl) ?_
 simp only [Act.put, Xa, Xz, Xs]
 refine wl_call_row (ι := Lz) [⟨g1, #[.int .i64 0, .slice none 0 0, .slice none 0 0], 54⟩] [] (y4.o.rows 50 ++ B) (⟨g1, #[.int .i64 0, .slice none 0 0, .slice none 0 0], 54⟩ :: (y4.o.rows 50 ++ B)) ⟨g, #[.slice y4.q.q (k - (manyS (piece L) (cntS L (numS L s 8) 1 64) (cntV L (numS L s 8) 1 64)).1) y4.q.c, .bool ((manyS (piece L) (cntS L (numS L s 8) 1 64) (cntV L (numS L s 8) 1 64)).2)], 73⟩ 41 #[.pointer (some ⟨g, 0, none⟩), .int .i64 1, .int .i64 2, .func (.func 42) #[] #[]] (fun (y6 : Lz) => .slice y6.o.ptr (cntV L (manyS (piece L) (cntS L (numS L s 8) 1 64) (cntV L (numS L s 8) 1 64)) 1 2) y6.o.cap) (fun (y6 : Lz) => ⟨g, #[.slice y6.q.q (k - (manyS (next L) (cntS L (manyS (piece L) (cntS L (numS L s 8) 1 64) (cntV L (numS L s 8) 1 64)) 1 2) (cntV L (manyS (piece L) (cntS L (numS L s 8) 1 64) (cntV L (numS L s 8) 1 64)) 1 2)).1) y6.q.c, .bool ((manyS (next L) (cntS L (manyS (piece L) (cntS L (numS L s 8) 1 64) (cntV L (numS L s 8) 1 64)) 1 2) (cntV L (manyS (piece L) (cntS L (numS L s 8) 1 64) (cntV L (numS L s 8) 1 64)) 1 2)).2)], 73⟩) (fun (y6 : Lz) => y6.o.rows 3) (fun (y6 : Lz) => ⟨g1, #[.int .i64 0, .slice none 0 0, .slice none 0 0], 54⟩ :: ⟨g, #[.slice y6.q.q (k - (manyS (next L) (cntS L (manyS (piece L) (cntS L (numS L s 8) 1 64) (cntV L (numS L s 8) 1 64)) 1 2) (cntV L (manyS (piece L) (cntS L (numS L s 8) 1 64) (cntV L (numS L s 8) 1 64)) 1 2)).1) y6.q.c, .bool ((manyS (next L) (cntS L (manyS (piece L) (cntS L (numS L s 8) 1 64) (cntV L (numS L s 8) 1 64)) 1 2) (cntV L (manyS (piece L) (cntS L (numS L s 8) 1 64) (cntV L (numS L s 8) 1 64)) 1 2)).2)], 73⟩ :: (y6.o.rows 3 ++ (y4.o.rows 50 ++ B))) (fun (y6 : Lz) => QcOk w0 B0 L (manyS (next L) (cntS L (manyS (piece L) (cntS L (numS L s 8) 1 64) (cntV L (numS L s 8) 1 64)) 1 2) (cntV L (manyS (piece L) (cntS L (numS L s 8) 1 64) (cntV L (numS L s 8) 1 64)) 1 2)) y6.q ∧ y6.o.Has 1 (cntV L (manyS (piece L) (cntS L (numS L s 8) 1 64) (cntV L (numS L s 8) 1 64)) 1 2) (flat enc1 (manyV (next L) (cntS L (manyS (piece L) (cntS L (numS L s 8) 1 64) (cntV L (numS L s 8) 1 64)) 1 2) (cntV L (manyS (piece L) (cntS L (numS L s 8) 1 64) (cntV L (numS L s 8) 1 64)) 1 2)))) rfl rfl (fun _ => by first | rfl | simp) rfl (fun _ => by go_simp) (fun W hE => nexts_in w0 B0 (⟨g1, #[.int .i64 0, .slice none 0 0, .slice none 0 0], 54⟩ :: (y4.o.rows 50 ++ B)) L k (manyS (piece L) (cntS L (numS L s 8) 1 64) (cntV L (numS L s 8) 1 64)) y4.q g W hE ⟨hr.sub.trans (List.Sublist.cons _ (List.sublist_append_of_sublist_right (List.Sublist.refl _))), k5.1, (many_le (f := piece L) (fun s hs => num_le 4 (num_le 8 hs)) (cnt_le 1 64 (num_le 8 hr.le)) _), hr.len, hr.hl⟩) ?_
 rintro y6 k7
 skip
 simp only [Act.put, Xa, Xz, Xs]
 refine wl_val (.agg #[.int .i64 (numV L s 8 true), .slice y4.o.ptr (cntV L (numS L s 8) 1 64) y4.o.cap, .slice y6.o.ptr (cntV L (manyS (piece L) (cntS L (numS L s 8) 1 64) (cntV L (numS L s 8) 1 64)) 1 2) y6.o.cap]) rfl (fun _ => by go_simp) ?_
 simp only [Act.put, Xa, Xz, Xs]
 refine wl_store 0 54 (.tmp 2) (.tmp 9) (#[.int .i64 (numV L s 8 true), .slice y4.o.ptr (cntV L (numS L s 8) 1 64) y4.o.cap, .slice y6.o.ptr (cntV L (manyS (piece L) (cntS L (numS L s 8) 1 64) (cntV L (numS L s 8) 1 64)) 1 2) y6.o.cap]) rfl rfl rfl rfl rfl (by kernel_rfl) rfl (by simp [Value.oneCell']) ?_
 simp only [Act.put, List.set_cons_zero]
 refine wl_nil ?_
 refine we_then ?_
 refine wc_ret ?_
 refine we_ret_cell (own_row 0 rfl) rfl rfl rfl Try.underlying54 rfl (by kernel_rfl) (fun w1 hE => ?_)
 have e1 : (segmt L s).2.P.length = segN L s := manyV_len _ _ _
 have e2 : (segmt L s).2.X.length = segM L s := manyV_len _ _ _
 exact ⟨⟨y6.q, ⟨y4.o.ptr, y4.o.cap, y6.o.ptr, y6.o.cap, y6.o.rows 3 ++ y4.o.rows 50⟩⟩, ⟨k7.1, (held_own (e := 50) k5.2).mono (List.sublist_append_right _ _), (held_own (e := 3) k7.2).mono (List.sublist_append_left _ _)⟩, by rw [e1, e2]; rfl, Env.assoc (hE.sub (List.Sublist.cons _ (List.Sublist.cons_cons _ (List.Sublist.append_left (List.Sublist.append_left (List.Sublist.refl _) _) _))))⟩
set_option maxHeartbeats 4000000 in
theorem segs_in (w0 : World) (B0 B : List Rw) (L : List UInt8) (k : Nat) (s : Pt) (z : Qc) (g : Nat) (w : World) (hE0 : Env w0 w (⟨g, #[.slice z.q (k - s.1) z.c, .bool s.2], 73⟩ :: B)) (hr : Rdy w0 B0 B L k s z) :
  Calls Try.prog 24 #[.pointer (some ⟨g, 0, none⟩), .int .i64 2, .int .i64 200, .func (.func 25) #[] #[]] w fun e w' => ∃ y : Sz, (QcOk w0 B0 L (manyS (segmt L) (cntS L s 2 200) (cntV L s 2 200)) y.q ∧ y.o.Has 3 (cntV L s 2 200) (flat sg y.K) ∧ y.K.map dat = manyV (segmt L) (cntS L s 2 200) (cntV L s 2 200) ∧ HeldS y.M y.K) ∧ e = .returned (.slice y.o.ptr (cntV L s 2 200) y.o.cap) ∧ Env w0 w' (⟨g, #[.slice y.q.q (k - (manyS (segmt L) (cntS L s 2 200) (cntV L s 2 200)).1) y.q.c, .bool (manyS (segmt L) (cntS L s 2 200) (cntV L s 2 200)).2], 73⟩ :: ((y.o.rows 54 ++ y.M) ++ B)) := by
 refine calls_in hE0 Try.func24 rfl ?_
 simp only [Try.ntmps24, List.size_toArray, List.length_cons, List.length_nil, Nat.reduceAdd, Nat.reduceSub, Array.replicate_succ, Array.replicate_zero, List.push_toArray, List.append_toArray, List.nil_append, List.cons_append]
 refine wc_seq ?_
 refine wc_region ?_
 refine wl_val (.slice none 0 0) rfl (fun _ => rfl) ?_
 simp only [Act.put, Xa, Xz, Xs]
 refine wl_nil ?_
 refine we_then ?_
 refine wc_seq ?_
 refine wc_region ?_
 refine wl_val (.pointer (some ⟨g, 0, none⟩)) rfl (fun _ => rfl) ?_
 simp only [Act.put, Xa, Xz, Xs]
 refine wl_val (.int .i64 2) rfl (fun _ => rfl) ?_
 simp only [Act.put, Xa, Xz, Xs]
 refine wl_call_row (ι := Qc) [] [] B (B) ⟨g, #[.slice z.q (k - s.1) z.c, .bool s.2], 73⟩ 38 #[.pointer (some ⟨g, 0, none⟩), .int .i64 2] (fun (y1 : Qc) => .int .i64 (numV L s 2 false)) (fun (y1 : Qc) => ⟨g, #[.slice y1.q (k - (numS L s 2).1) y1.c, .bool ((numS L s 2).2)], 73⟩) (fun (y1 : Qc) => []) (fun (y1 : Qc) => ⟨g, #[.slice y1.q (k - (numS L s 2).1) y1.c, .bool ((numS L s 2).2)], 73⟩ :: B) (fun (y1 : Qc) => QcOk w0 B0 L (numS L s 2) y1) rfl rfl (fun _ => by first | rfl | simp) rfl (fun _ => by go_simp) (fun W hE => number_in w0 B0 (B) L k s z g 2 false W hE ⟨hr.sub.trans (List.Sublist.refl _), hr.ok, hr.le, hr.len, hr.hl⟩ (by decide) rfl) ?_
 rintro y1 k2
 skip
 simp only [Act.put, Xa, Xz, Xs]
 refine wl_val (.int .i64 (numV L s 2 false)) rfl (fun _ => rfl) ?_
 simp only [Act.put, Xa, Xz, Xs]
 refine wl_nil ?_
 refine we_then ?_
 refine wc_seq ?_
 refine wc_seq ?_
 refine wc_region ?_
 refine wl_val (.int .i64 (numV L s 2 false)) rfl (fun _ => rfl) ?_
 simp only [Act.put, Xa, Xz, Xs]
 refine wl_val (.int .i64 200) rfl (fun _ => rfl) ?_
 simp only [Act.put, Xa, Xz, Xs]
 refine wl_val (.bool (decide (200 < (numV L s 2 false)))) rfl (fun w => run_cmp rfl rfl rfl Try.underlying3 rfl w) ?_
 simp only [Act.put, Xa, Xz, Xs]
 refine wl_nil ?_
 refine we_then ?_
 cases h3 : (decide (200 < (numV L s 2 false)))
 ·
  skip
  have p3 : ¬ (200 < (numV L s 2 false)) := of_decide_eq_false h3
  refine wc_false rfl ?_
  refine wc_skip ?_
  refine we_then ?_
  refine wc_seq ?_
  obtain ⟨hcc, hcn⟩ := cnt_no (L := L) (s := s) (n := 2) (m := 200) (of_decide_eq_false h3)
  have hcm := cntV_le (L := L) (s := s) (n := 2) (m := 200) (by decide)
  refine wc_region ?_
  refine wl_val (.slice none 0 0) rfl (fun _ => rfl) ?_
  simp only [Act.put, Xa, Xz, Xs]
  refine wl_nil ?_
  refine we_then ?_
  refine wc_seq ?_
  refine wc_seq ?_
  refine wc_region ?_
  refine wl_val (.int .i64 (numV L s 2 false)) rfl (fun _ => rfl) ?_
  simp only [Act.put, Xa, Xz, Xs]
  refine wl_val (.int .i64 0) rfl (fun _ => rfl) ?_
  simp only [Act.put, Xa, Xz, Xs]
  refine wl_nil ?_
  refine we_then ?_
  refine wc_block ?_
  refine wc_loop (fun (zz : Nat × Pt × Qc × Own × List Sg × List Rw × Value × Value × Value × Value × Value × Value × Value × Value) => match zz with | ⟨i, t, zz2, o, K, M, u22, u23, u24, u25, u26, u27, u28, u29⟩ => ({ tmps := #[.pointer (some ⟨g, 0, none⟩), .int .i64 2, .int .i64 200, .func (.func 25) #[] #[], undef, undef, undef, undef, .slice none 0 0, .int .i64 (numV L s 2 false), .slice o.ptr i o.cap, .pointer (some ⟨g, 0, none⟩), .int .i64 2, .int .i64 (numV L s 2 false), .int .i64 (numV L s 2 false), .int .i64 200, .bool false, undef, undef, undef, .int .i64 (numV L s 2 false), .int .i64 (i : Int), u22, u23, u24, u25, u26, u27, u28, u29, undef], defers := [] } : Act)) (fun (zz : Nat × Pt × Qc × Own × List Sg × List Rw × Value × Value × Value × Value × Value × Value × Value × Value) => match zz with | ⟨i, t, zz2, o, K, M, u22, u23, u24, u25, u26, u27, u28, u29⟩ => ⟨g, #[.slice zz2.q (k - t.1) zz2.c, .bool t.2], 73⟩ :: (o.rows 54 ++ (B ++ M))) (fun (zz : Nat × Pt × Qc × Own × List Sg × List Rw × Value × Value × Value × Value × Value × Value × Value × Value) => match zz with | ⟨i, t, zz2, o, K, M, u22, u23, u24, u25, u26, u27, u28, u29⟩ => i ≤ cntV L s 2 200 ∧ t = manyS (segmt L) (cntS L s 2 200) i ∧ (o.Has 3 i (flat sg K) ∧ K.map dat = manyV (segmt L) (cntS L s 2 200) i ∧ HeldS M K) ∧ QcOk w0 B0 L t zz2 ∧ t.1 ≤ L.length) (fun (zz : Nat × Pt × Qc × Own × List Sg × List Rw × Value × Value × Value × Value × Value × Value × Value × Value) => match zz with | ⟨i, t, zz2, o, K, M, u22, u23, u24, u25, u26, u27, u28, u29⟩ => cntV L s 2 200 - i) ⟨0, (numS L s 2), y1, Own.none, [], [], _, _, _, _, _, _, _, _⟩ ⟨Nat.zero_le _, hcc.symm, ⟨Own.has_none 3, rfl, heldS_nil _⟩, k2, num_le 2 hr.le⟩ rfl (List.Sublist.cons_cons _ (sub_nil (List.Sublist.refl _))) ?_
  rintro ⟨i, t, zz2, o, K, M, u22, u23, u24, u25, u26, u27, u28, u29⟩ hφ
  (try dsimp only at hφ ⊢)
  obtain ⟨b1, b2, b3, b4, b5⟩ := hφ
  refine wc_seq ?_
  refine wc_region ?_
  refine wl_val (.bool (decide ((i : Int) < (numV L s 2 false)))) rfl (fun w => run_cmp rfl rfl rfl Try.underlying3 rfl w) ?_
  simp only [Act.put, Xa, Xz, Xs]
  refine wl_nil ?_
  refine we_then ?_
  refine wc_seq ?_
  cases h4 : (decide ((i : Int) < (numV L s 2 false)))
  ·
   skip
   have p4 : ¬ ((i : Int) < (numV L s 2 false)) := of_decide_eq_false h4
   refine wc_false rfl ?_
   refine wc_exit ?_
   refine we_then_exit ?_
   refine we_then_exit ?_
   refine we_in_here ?_
   refine we_then ?_
   refine wc_seq ?_
   refine wc_region ?_
   refine wl_val (.slice o.ptr i o.cap) rfl (fun _ => rfl) ?_
   simp only [Act.put, Xa, Xz, Xs]
   refine wl_val (.slice o.ptr i o.cap) rfl (fun _ => rfl) ?_
   simp only [Act.put, Xa, Xz, Xs]
   refine wl_nil ?_
   refine we_then ?_
   refine wc_ret ?_
   refine we_ret1 (.slice o.ptr i o.cap) rfl rfl rfl (fun w1 hE => ?_)
   have e0 : i = cntV L s 2 200 := by omega
   rw [← e0, ← b2]
   exact ⟨⟨zz2, o, K, M⟩, ⟨b4, b3.1, b3.2.1, b3.2.2⟩, rfl, Env.perm hE (List.Perm.cons _ (by rw [List.append_assoc]; exact List.Perm.append_left _ List.perm_append_comm))⟩
  ·
   skip
   have p4 : (i : Int) < (numV L s 2 false) := of_decide_eq_true h4
   refine wc_true rfl ?_
   refine wc_skip ?_
   refine we_then ?_
   refine wc_seq ?_
   refine wc_block ?_
   refine wc_region ?_
   refine wl_val (.slice o.ptr i o.cap) rfl (fun _ => rfl) ?_
   simp only [Act.put, Xa, Xz, Xs]
   refine wl_val (.func (.func 25) #[] #[]) rfl (fun _ => rfl) ?_
   simp only [Act.put, Xa, Xz, Xs]
   refine wl_val (.pointer (some ⟨g, 0, none⟩)) rfl (fun _ => rfl) ?_
   simp only [Act.put, Xa, Xz, Xs]
   refine wl_call_rowl (ι := Gz) [] [] (o.rows 54 ++ (B ++ M)) ((o.rows 54 ++ (B ++ M))) ⟨g, #[.slice zz2.q (k - t.1) zz2.c, .bool t.2], 73⟩ 25 #[.pointer (some ⟨g, 0, none⟩)] (fun (y5 : Gz) => .agg #[.int .i64 ((segmt L t).2.len), .slice y5.v.p ((segmt L t).2.P.length) y5.v.c, .slice y5.v.q ((segmt L t).2.X.length) y5.v.d]) (fun (y5 : Gz) => ⟨g, #[.slice y5.q.q (k - ((segmt L t).1).1) y5.q.c, .bool (((segmt L t).1).2)], 73⟩) (fun (y5 : Gz) => y5.v.N) (fun (y5 : Gz) => ⟨g, #[.slice y5.q.q (k - ((segmt L t).1).1) y5.q.c, .bool (((segmt L t).1).2)], 73⟩ :: (o.rows 54 ++ (B ++ (M ++ y5.v.N)))) (fun (y5 : Gz) => QcOk w0 B0 L (segmt L t).1 y5.q ∧ Held y5.v.N y5.v.p (flat enc2 (segmt L t).2.P) ∧ Held y5.v.N y5.v.q (flat enc1 (segmt L t).2.X)) rfl rfl (fun _ => by first | rfl | simp) rfl (er_value0 (enters_of Try.func25 (by kernel_rfl) rfl) rfl rfl rfl) (fun W hE => segment_in w0 B0 ((o.rows 54 ++ (B ++ M))) L k t zz2 g W hE ⟨hr.sub.trans (List.sublist_append_of_sublist_right (List.sublist_append_left _ _)), b4, b5, hr.len, hr.hl⟩) ?_
   rintro y5 k6
   skip
   simp only [Act.put, Xa, Xz, Xs]
   refine wl_lit (e := 54) #[.int .i64 ((segmt L t).2.len), .slice y5.v.p ((segmt L t).2.P.length) y5.v.c, .slice y5.v.q ((segmt L t).2.X.length) y5.v.d] 1 rfl (fun _ => by go_simp) ?_
   intro g7
   simp only [Act.put, Xa, Xz, Xs]
   refine wl_append (e := 54) (size := 3) (bytes := 56) (m := 1) [⟨g7, #[.int .i64 ((segmt L t).2.len), .slice y5.v.p ((segmt L t).2.P.length) y5.v.c, .slice y5.v.q ((segmt L t).2.X.length) y5.v.d], 54⟩, ⟨g, #[.slice y5.q.q (k - ((segmt L t).1).1) y5.q.c, .bool (((segmt L t).1).2)], 73⟩] (B ++ (M ++ y5.v.N)) o (ys := [.int .i64 ((segmt L t).2.len), .slice y5.v.p ((segmt L t).2.P.length) y5.v.c, .slice y5.v.q ((segmt L t).2.X.length) y5.v.d]) rfl b3.1 (sl_row 0 rfl) rfl (by simp [Value.oneCell']) rfl rfl rfl rfl Try.underlying22 (by unfold Elem; kernel_rfl) (by decide) (by unfold maxLen; omega) (by omega) ?_
   intro s8 hs8
   simp only [List.cons_append, List.nil_append, Act.put, Xa, Xz, Xs]
   refine wl_val (.slice s8.ptr (i + 1) s8.cap) rfl (fun _ => rfl) ?_
   simp only [Act.put, Xa, Xz, Xs]
   refine wl_nil ?_
   refine we_in ?_
   refine we_then ?_
   refine wc_region ?_
   refine wl_val (.int .i64 ((i + 1 : Nat) : Int)) rfl (fun w => run_nat (X := i) (Y := 1) (Z := i + 1) rfl rfl rfl rfl (by omega) w) ?_
   simp only [Act.put, Xa, Xz, Xs]
   refine wl_val (.int .i64 ((i + 1 : Nat) : Int)) rfl (fun _ => rfl) ?_
   simp only [Act.put, Xa, Xz, Xs]
   refine wl_nil ?_
   exact we_meet ⟨(i + 1), (segmt L t).1, y5.q, s8, (K ++ [⟨(segmt L t).2.len, y5.v.p, (segmt L t).2.P, y5.v.c, y5.v.q, (segmt L t).2.X, y5.v.d⟩]), (M ++ y5.v.N), _, _, _, _, _, _, _, _⟩ (by (try dsimp only); exact ⟨⟨by omega, by rw [b2]; rfl, ⟨has_snoc (x := (⟨(segmt L t).2.len, y5.v.p, (segmt L t).2.P, y5.v.c, y5.v.q, (segmt L t).2.X, y5.v.d⟩ : Sg)) hs8, by rw [List.map_append, b3.2.1, b2]; rfl, heldS_snoc b3.2.2 k6.2.1 k6.2.2 (segmt_few L t).1 (segmt_few L t).2⟩, k6.1, segmt_le t b5⟩, by omega⟩) rfl (List.Sublist.cons _ (List.Sublist.cons_cons _ (List.Sublist.append_left (List.Sublist.append_left (List.Sublist.refl _) _) _)))
 ·
  skip
  have p3 : 200 < (numV L s 2 false) := of_decide_eq_true h3
  refine wc_true rfl ?_
  refine wc_seq ?_
  refine wc_region ?_
  refine wl_val (.pointer (some ⟨g, 0, none⟩)) rfl (fun _ => rfl) ?_
  simp only [Act.put, Xa, Xz, Xs]
  refine wl_val (.pointer (some ⟨g, 0, none⟩)) rfl (fun w => run_nilCheck rfl rfl w) ?_
  simp only [Act.put, Xa, Xz, Xs]
  refine wl_val (.pointer (some ⟨g, 1, none⟩)) rfl (fun _ => by go_simp) ?_
  simp only [Act.put, Xa, Xz, Xs]
  refine wl_store_cell 0 4 (.tmp 19) (.const (.bool true)) (.bool ((numS L s 2).2)) (.bool true) rfl rfl rfl rfl rfl rfl (by kernel_rfl) rfl ?_
  simp only [Act.put, List.set_cons_zero]
  refine wl_nil ?_
  refine we_then ?_
  refine wc_seq ?_
  refine wc_region ?_
  refine wl_val (.slice none 0 0) rfl (fun _ => rfl) ?_
  simp only [Act.put, Xa, Xz, Xs]
  refine wl_nil ?_
  refine we_then ?_
  refine wc_ret ?_
  refine we_then_ret ?_
  refine we_ret1 (.slice none 0 0) rfl rfl rfl (fun w1 hE => ?_)
  obtain ⟨e1, e2⟩ := cnt_yes (L := L) (s := s) (n := 2) (m := 200) (of_decide_eq_true h3)
  rw [e1, e2]
  exact ⟨⟨y1, .none, [], []⟩, ⟨qc_short k2 true, Own.has_none 3, rfl, heldS_nil _⟩, rfl, hE.sub (List.Sublist.cons_cons _ (List.Sublist.refl _))⟩
set_option maxHeartbeats 2000000 in
theorem equal_at (L M : List UInt8) (p q : Option Addr) (m n c d : Nat) (w : World) (hm : L.length = m) (hn : M.length = n) (hL : Reads w p (flat ub L)) (hM : Reads w q (flat ub M)) :
  Calls Try.prog 37 #[.slice p m c, .slice q n d] w fun e w' => e = .returned (.bool (decide (L = M))) ∧ Below w.heap.size w w' := by
 refine calls_sx Try.func37 rfl ?_
 simp only [Try.ntmps37, List.size_toArray, List.length_cons, List.length_nil, Nat.reduceAdd, Nat.reduceSub, Array.replicate_succ, Array.replicate_zero, List.push_toArray, List.append_toArray, List.nil_append, List.cons_append]
 refine wc_seq ?_
 refine wc_region ?_
 refine wl_val (.bool false) rfl (fun _ => rfl) ?_
 simp only [Act.put, Xa, Xz, Xs]
 refine wl_nil ?_
 refine we_then ?_
 refine wc_seq ?_
 refine wc_region ?_
 refine wl_val (.slice p m c) rfl (fun _ => rfl) ?_
 simp only [Act.put, Xa, Xz, Xs]
 refine wl_read (.string (str L)) rfl (er_string (L := L) (sl_old hL) hm rfl rfl Try.underlying28 Try.underlying5 Try.underlying9) ?_
 simp only [Act.put, Xa, Xz, Xs]
 refine wl_val (.slice q n d) rfl (fun _ => rfl) ?_
 simp only [Act.put, Xa, Xz, Xs]
 refine wl_read (.string (str M)) rfl (er_string (L := M) (sl_old hM) hn rfl rfl Try.underlying28 Try.underlying5 Try.underlying9) ?_
 simp only [Act.put, Xa, Xz, Xs]
 refine wl_val (.bool (decide (L = M))) rfl (fun w => run_streq rfl rfl rfl rfl w) ?_
 simp only [Act.put, Xa, Xz, Xs]
 refine wl_val (.bool (decide (L = M))) rfl (fun _ => rfl) ?_
 simp only [Act.put, Xa, Xz, Xs]
 refine wl_nil ?_
 refine we_then ?_
 refine wc_ret ?_
 refine we_ret1 (.bool (decide (L = M))) rfl rfl rfl (fun w1 hE => ?_)
 exact ⟨rfl, hE.below⟩
set_option maxHeartbeats 2000000 in
theorem prefix_any (L M : List UInt8) (p q : Option Addr) (c d : Nat) (w : World) (hL : Reads w p (flat ub L)) (hM : Reads w q (flat ub M)) (hle : M.length ≤ L.length) (hc : L.length ≤ c) :
  Calls Try.prog 22 #[.slice p L.length c, .slice q M.length d] w fun e w' => e = .returned (.bool (decide (L.take M.length = M))) ∧ Below w.heap.size w w' := by
 refine calls_sx Try.func22 rfl ?_
 simp only [Try.ntmps22, List.size_toArray, List.length_cons, List.length_nil, Nat.reduceAdd, Nat.reduceSub, Array.replicate_succ, Array.replicate_zero, List.push_toArray, List.append_toArray, List.nil_append, List.cons_append]
 refine wc_seq ?_
 refine wc_region ?_
 refine wl_val (.bool false) rfl (fun _ => rfl) ?_
 simp only [Act.put, Xa, Xz, Xs]
 refine wl_nil ?_
 refine we_then ?_
 refine wc_seq ?_
 refine wc_region ?_
 refine wl_val (.slice p L.length c) rfl (fun _ => rfl) ?_
 simp only [Act.put, Xa, Xz, Xs]
 refine wl_val (.int .i64 (L.length : Int)) rfl (fun w => er_len rfl rfl Try.underlying28 w) ?_
 simp only [Act.put, Xa, Xz, Xs]
 refine wl_val (.slice q M.length d) rfl (fun _ => rfl) ?_
 simp only [Act.put, Xa, Xz, Xs]
 refine wl_val (.int .i64 (M.length : Int)) rfl (fun w => er_len rfl rfl Try.underlying28 w) ?_
 simp only [Act.put, Xa, Xz, Xs]
 refine wl_val (.bool (decide ((M.length : Int) ≤ (L.length : Int)))) rfl (fun w => run_cmp rfl rfl rfl Try.underlying3 rfl w) ?_
 simp only [Act.put, Xa, Xz, Xs]
 refine wl_val (.bool (decide ((M.length : Int) ≤ (L.length : Int)))) rfl (fun _ => rfl) ?_
 simp only [Act.put, Xa, Xz, Xs]
 cases h1 : (decide ((M.length : Int) ≤ (L.length : Int)))
 ·
  skip
  have p1 : ¬ ((M.length : Int) ≤ (L.length : Int)) := of_decide_eq_false h1
  exact (by exfalso; omega)
 ·
  skip
  have p1 : (M.length : Int) ≤ (L.length : Int) := of_decide_eq_true h1
  refine wl_val (.slice p L.length c) rfl (fun _ => rfl) ?_
  simp only [Act.put, Xa, Xz, Xs]
  refine wl_val (.slice q M.length d) rfl (fun _ => rfl) ?_
  simp only [Act.put, Xa, Xz, Xs]
  refine wl_val (.int .i64 (M.length : Int)) rfl (fun w => er_len rfl rfl Try.underlying28 w) ?_
  simp only [Act.put, Xa, Xz, Xs]
  refine wl_val (.slice p M.length c) rfl (fun w => er_take (h := M.length) rfl rfl rfl rfl (by omega) Try.underlying28 (by kernel_rfl) w) ?_
  simp only [Act.put, Xa, Xz, Xs]
  refine wl_val (.slice q M.length d) rfl (fun _ => rfl) ?_
  simp only [Act.put, Xa, Xz, Xs]
  refine wl_call_at 37 #[.slice p M.length c, .slice q M.length d] (.bool (decide (L.take M.length = M))) rfl (fun _ => by go_simp) (fun W hE => equal_at (L.take M.length) M _ _ _ _ _ _ W (ub_take_len rfl (by omega)) rfl ((sl_take M.length (sl_old hL)) W hE) ((sl_old hM) W hE)) ?_
  simp only [Act.put, Xa, Xz, Xs]
  refine wl_val (.bool (decide (L.take M.length = M))) rfl (fun _ => rfl) ?_
  simp only [Act.put, Xa, Xz, Xs]
  refine wl_val (.bool (decide (L.take M.length = M))) rfl (fun _ => rfl) ?_
  simp only [Act.put, Xa, Xz, Xs]
  refine wl_nil ?_
  refine we_then ?_
  refine wc_ret ?_
  refine we_ret1 (.bool (decide (L.take M.length = M))) rfl rfl rfl (fun w1 hE => ?_)
  exact ⟨rfl, hE.below⟩
theorem crc_yes (L : List UInt8) (p : Option Addr) (c : Nat) (w : World) (hL : Reads w p (flat ub L)) (hn : L.length ≤ 1000000) (hc : L.length ≤ c) (h : opens L = true) :
  Calls Try.prog 23 #[.slice p L.length c] w fun e w' => ∃ g : Nat, True ∧ e = .returned (.tuple #[.slice (some ⟨g, 0, none⟩) (L.length - 2) (L.length - 2), .bool true]) ∧ Env w w' [⟨g, (flat ub (L.take (L.length - 2))).toArray, 5⟩] := by
 refine (Crc.open_any L p c w hL hn hc).mono ?_
 rintro e w' (⟨g, _, h1, h2⟩ | ⟨h1, _⟩)
 ·
  exact ⟨g, trivial, h1, h2⟩
 ·
  rw [h] at h1; cases h1
theorem crc_no (L : List UInt8) (p : Option Addr) (c : Nat) (w : World) (hL : Reads w p (flat ub L)) (hn : L.length ≤ 1000000) (hc : L.length ≤ c) (h : opens L = false) :
  Calls Try.prog 23 #[.slice p L.length c] w fun e w' => e = .returned (.tuple #[.slice none 0 0, .bool false]) ∧ Below w.heap.size w w' := by
 refine (Crc.open_any L p c w hL hn hc).mono ?_
 rintro e w' (⟨g, h0, _⟩ | ⟨_, h1, h2⟩)
 ·
  rw [h] at h0; cases h0
 ·
  exact ⟨h1, h2⟩
theorem has_n {s : Own} {size m n : Nat} {xs : List Value} (e : m = n) (h : s.Has size m xs) : s.Has size n xs := e ▸ h
set_option maxHeartbeats 8000000 in
theorem open_any (b : List UInt8) (q : Option Addr) (c : Nat) (w : World) (hb : Reads w q (flat ub b)) (hb6 : b.length ≤ 1000000) (hbc : b.length ≤ c) :
  Calls Try.prog 12 #[.slice q b.length c] w fun e w' => ∃ z : Ov, OvOk b z ∧ e = .returned (.tuple #[.agg #[.slice z.p z.K.length z.c, .slice z.q z.H.length z.d], .int .i64 ((opnE b : Nat) : Int)]) ∧ Env w w' z.N := by
 refine calls_sx Try.func12 rfl ?_
 simp only [Try.ntmps12, List.size_toArray, List.length_cons, List.length_nil, Nat.reduceAdd, Nat.reduceSub, Array.replicate_succ, Array.replicate_zero, List.push_toArray, List.append_toArray, List.nil_append, List.cons_append]
 refine wc_seq ?_
 refine wc_region ?_
 refine wl_new 25 (#[.slice none 0 0, .slice none 0 0]) rfl (fun _ => by go_simp) ?_
 intro g1
 simp only [Act.put, Xa, Xz, Xs]
 refine wl_val (.int .i64 0) rfl (fun _ => rfl) ?_
 simp only [Act.put, Xa, Xz, Xs]
 refine wl_nil ?_
 refine we_then ?_
 refine wc_seq ?_
 refine wc_seq ?_
 refine wc_region ?_
 refine wl_val (.slice q b.length c) rfl (fun _ => rfl) ?_
 simp only [Act.put, Xa, Xz, Xs]
 refine wl_val (.int .i64 (b.length : Int)) rfl (fun w => er_len rfl rfl Try.underlying28 w) ?_
 simp only [Act.put, Xa, Xz, Xs]
 refine wl_val (.bool (decide (1048576 < (b.length : Int)))) rfl (fun w => run_cmp rfl rfl rfl Try.underlying3 rfl w) ?_
 simp only [Act.put, Xa, Xz, Xs]
 refine wl_nil ?_
 refine we_then ?_
 cases h2 : (decide (1048576 < (b.length : Int)))
 ·
  skip
  have p2 : ¬ (1048576 < (b.length : Int)) := of_decide_eq_false h2
  refine wc_false rfl ?_
  refine wc_skip ?_
  refine we_then ?_
  refine wc_seq ?_
  refine wc_seq ?_
  refine wc_region ?_
  refine wl_val (.slice q b.length c) rfl (fun _ => rfl) ?_
  simp only [Act.put, Xa, Xz, Xs]
  refine wl_val (.int .i64 (b.length : Int)) rfl (fun w => er_len rfl rfl Try.underlying28 w) ?_
  simp only [Act.put, Xa, Xz, Xs]
  refine wl_val (.bool (decide ((b.length : Int) < 6))) rfl (fun w => run_cmp rfl rfl rfl Try.underlying3 rfl w) ?_
  simp only [Act.put, Xa, Xz, Xs]
  refine wl_val (.bool (decide ((b.length : Int) < 6))) rfl (fun _ => rfl) ?_
  simp only [Act.put, Xa, Xz, Xs]
  cases h3 : (decide ((b.length : Int) < 6))
  ·
   skip
   have p3 : ¬ ((b.length : Int) < 6) := of_decide_eq_false h3
   refine wl_val (.slice q b.length c) rfl (fun _ => rfl) ?_
   simp only [Act.put, Xa, Xz, Xs]
   refine wl_const_call (e := 5) #[.int .u8 79, .int .u8 68, .int .u8 79, .int .u8 49] 4 [79, 68, 79, 49] 22 (fun g4 => #[.slice q b.length c, .slice (some ⟨g4, 0, none⟩) 4 4]) (.bool (decide (b.take 4 = [79, 68, 79, 49]))) rfl rfl (fun _ => by go_simp) (fun _ => rfl) rfl (fun _ => rfl) Try.underlying28 Try.underlying5 (fun _ => rfl) (fun _ _ => by go_simp) (fun g4 w1 hb1 hr1 => prefix_any b [79, 68, 79, 49] q (some ⟨g4, 0, none⟩) c 4 w1 (reads_below hb hb1) hr1 (by show 4 ≤ _; omega) hbc) ?_
   intro g4
   simp only [Act.put, Xa, Xz, Xs]
   refine wl_val (.bool (!(decide (b.take 4 = [79, 68, 79, 49])))) rfl (fun _ => by go_simp) ?_
   simp only [Act.put, Xa, Xz, Xs]
   refine wl_val (.bool (!(decide (b.take 4 = [79, 68, 79, 49])))) rfl (fun _ => rfl) ?_
   simp only [Act.put, Xa, Xz, Xs]
   refine wl_nil ?_
   refine we_then ?_
   cases h5 : (decide (b.take 4 = [79, 68, 79, 49]))
   ·
    skip
    have p5 : ¬ (b.take 4 = [79, 68, 79, 49]) := of_decide_eq_false h5
    refine wc_true rfl ?_
    refine wc_seq ?_
    refine wc_region ?_
    refine wl_val (.agg #[.slice none 0 0, .slice none 0 0]) rfl (fun _ => by go_simp) ?_
    simp only [Act.put, Xa, Xz, Xs]
    refine wl_store 0 25 (.tmp 2) (.tmp 24) (#[.slice none 0 0, .slice none 0 0]) rfl rfl rfl rfl rfl (by kernel_rfl) rfl (by simp [Value.oneCell']) ?_
    simp only [Act.put, List.set_cons_zero]
    refine wl_val (.int .i64 11) rfl (fun _ => rfl) ?_
    simp only [Act.put, Xa, Xz, Xs]
    refine wl_nil ?_
    refine we_then ?_
    refine wc_ret ?_
    refine we_then_ret ?_
    refine we_ret_cell_tmp (.int .i64 11) (own_row 0 rfl) rfl rfl rfl rfl Try.underlying25 rfl (by kernel_rfl) (fun w1 hE => ?_)
    have e0 : opnE b = 11 := opn_11 hb6 ((head_eq (by omega)).trans h5)
    exact ⟨⟨[], [], none, 0, none, 0, []⟩, ov_none (by rw [e0]; decide), by rw [e0]; rfl, hE.sub (List.nil_sublist _)⟩
   ·
    skip
    have p5 : b.take 4 = [79, 68, 79, 49] := of_decide_eq_true h5
    refine wc_false rfl ?_
    refine wc_skip ?_
    refine we_then ?_
    refine wc_seq ?_
    refine wc_region ?_
    refine wl_val (.slice q b.length c) rfl (fun _ => rfl) ?_
    simp only [Act.put, Xa, Xz, Xs]
    cases h6 : (opens b)
    ·
     skip
     refine wl_call_at 23 #[.slice q b.length c] (.tuple #[.slice none 0 0, .bool false]) rfl (fun _ => by go_simp) (fun W hE => crc_no b q c W (reads_below hb hE.below) hb6 hbc h6) ?_
     simp only [Act.put, Xa, Xz, Xs]
     refine wl_val (.tuple #[.slice none 0 0, .bool false]) rfl (fun _ => rfl) ?_
     simp only [Act.put, Xa, Xz, Xs]
     refine wl_val (.slice none 0 0) rfl (fun _ => by go_simp) ?_
     simp only [Act.put, Xa, Xz, Xs]
     refine wl_val (.bool false) rfl (fun _ => by go_simp) ?_
     simp only [Act.put, Xa, Xz, Xs]
     refine wl_val (.slice none 0 0) rfl (fun _ => rfl) ?_
     simp only [Act.put, Xa, Xz, Xs]
     refine wl_val (.bool false) rfl (fun _ => rfl) ?_
     simp only [Act.put, Xa, Xz, Xs]
     refine wl_nil ?_
     refine we_then ?_
     refine wc_seq ?_
     refine wc_seq ?_
     refine wc_region ?_
     refine wl_val (.bool false) rfl (fun _ => rfl) ?_
     simp only [Act.put, Xa, Xz, Xs]
     refine wl_val (.bool true) rfl (fun _ => by go_simp) ?_
     simp only [Act.put, Xa, Xz, Xs]
     refine wl_nil ?_
     refine we_then ?_
     refine wc_true rfl ?_
     refine wc_seq ?_
     refine wc_region ?_
     refine wl_val (.agg #[.slice none 0 0, .slice none 0 0]) rfl (fun _ => by go_simp) ?_
     simp only [Act.put, Xa, Xz, Xs]
     refine wl_store 0 25 (.tmp 2) (.tmp 32) (#[.slice none 0 0, .slice none 0 0]) rfl rfl rfl rfl rfl (by kernel_rfl) rfl (by simp [Value.oneCell']) ?_
     simp only [Act.put, List.set_cons_zero]
     refine wl_val (.int .i64 31) rfl (fun _ => rfl) ?_
     simp only [Act.put, Xa, Xz, Xs]
     refine wl_nil ?_
     refine we_then ?_
     refine wc_ret ?_
     refine we_then_ret ?_
     refine we_ret_cell_tmp (.int .i64 31) (own_row 0 rfl) rfl rfl rfl rfl Try.underlying25 rfl (by kernel_rfl) (fun w1 hE => ?_)
     have eH : headB b = true := (head_eq (by omega)).trans h5
     have e0 : opnE b = 31 := opn_31 hb6 eH h6
     exact ⟨⟨[], [], none, 0, none, 0, []⟩, ov_none (by rw [e0]; decide), by rw [e0]; rfl, hE.sub (List.nil_sublist _)⟩
    ·
     skip
     refine wl_call_env (ι := Nat) 23 #[.slice q b.length c] (fun g7 => .tuple #[.slice (some ⟨g7, 0, none⟩) (b.length - 2) (b.length - 2), .bool true]) (fun g7 => [⟨g7, (flat ub (b.take (b.length - 2))).toArray, 5⟩]) (fun _ => True) rfl (fun _ => by go_simp) (fun W hE => crc_yes b q c W (reads_below hb hE.below) hb6 hbc h6) ?_
     rintro g7 -
     simp only [List.cons_append, List.nil_append, Act.put, Xa, Xz, Xs]
     refine wl_val (.tuple #[.slice (some ⟨g7, 0, none⟩) (b.length - 2) (b.length - 2), .bool true]) rfl (fun _ => rfl) ?_
     simp only [Act.put, Xa, Xz, Xs]
     refine wl_val (.slice (some ⟨g7, 0, none⟩) (b.length - 2) (b.length - 2)) rfl (fun _ => by go_simp) ?_
     simp only [Act.put, Xa, Xz, Xs]
     refine wl_val (.bool true) rfl (fun _ => by go_simp) ?_
     simp only [Act.put, Xa, Xz, Xs]
     refine wl_val (.slice (some ⟨g7, 0, none⟩) (b.length - 2) (b.length - 2)) rfl (fun _ => rfl) ?_
     simp only [Act.put, Xa, Xz, Xs]
     refine wl_val (.bool true) rfl (fun _ => rfl) ?_
     simp only [Act.put, Xa, Xz, Xs]
     refine wl_nil ?_
     refine we_then ?_
     refine wc_seq ?_
     refine wc_seq ?_
     refine wc_region ?_
     refine wl_val (.bool true) rfl (fun _ => rfl) ?_
     simp only [Act.put, Xa, Xz, Xs]
     refine wl_val (.bool false) rfl (fun _ => by go_simp) ?_
     simp only [Act.put, Xa, Xz, Xs]
     refine wl_nil ?_
     refine we_then ?_
     refine wc_false rfl ?_
     refine wc_skip ?_
     refine we_then ?_
     refine wc_seq ?_
     refine wc_region ?_
     refine wl_val (.slice (some ⟨g7, 0, none⟩) (b.length - 2) (b.length - 2)) rfl (fun _ => rfl) ?_
     simp only [Act.put, Xa, Xz, Xs]
     refine wl_val (.slice (subp (some ⟨g7, 0, none⟩) 4 (b.length - 2)) ((b.length - 2) - 4) ((b.length - 2) - 4)) rfl (fun w => er_drop (l := 4) rfl rfl rfl rfl (by omega) Try.underlying28 (by kernel_rfl) w) ?_
     simp only [Act.put, Xa, Xz, Xs]
     refine wl_val (.agg #[.slice (subp (some ⟨g7, 0, none⟩) 4 (b.length - 2)) ((b.length - 2) - 4) ((b.length - 2) - 4), .bool false]) rfl (fun _ => by go_simp) ?_
     simp only [Act.put, Xa, Xz, Xs]
     refine wl_new 73 (#[.slice none 0 0, .bool false]) rfl (fun _ => by go_simp) ?_
     intro g8
     simp only [Act.put, Xa, Xz, Xs]
     refine wl_store 0 73 (.tmp 6) (.tmp 35) (#[.slice (subp (some ⟨g7, 0, none⟩) 4 (b.length - 2)) ((b.length - 2) - 4) ((b.length - 2) - 4), .bool false]) rfl rfl rfl rfl rfl (by kernel_rfl) rfl (by simp [Value.oneCell']) ?_
     simp only [Act.put, List.set_cons_zero]
     refine wl_nil ?_
     refine we_then ?_
     refine wc_seq ?_
     obtain ⟨L, hLe⟩ : ∃ L, L = b.take (b.length - 2) := ⟨_, rfl⟩
     have hlL : L.length = b.length - 2 := by rw [hLe, List.length_take]; omega
     have hq0 : QcOk w [⟨g7, (flat ub (b.take (b.length - 2))).toArray, 5⟩] L (4, false) (⟨subp (some ⟨g7, 0, none⟩) 4 (b.length - 2), (b.length - 2) - 4⟩ : Qc) := ⟨by rw [hLe]; exact sl_drop 4 _ (by rw [List.length_take]; omega) (sl_mk 0 rfl), by show L.length - 4 ≤ (b.length - 2) - 4; omega⟩
     refine wc_region ?_
     refine wl_call_row (ι := Sz) [] [⟨g7, (flat ub (b.take (b.length - 2))).toArray, 5⟩, ⟨g1, #[.slice none 0 0, .slice none 0 0], 25⟩] [] ([⟨g7, (flat ub (b.take (b.length - 2))).toArray, 5⟩, ⟨g1, #[.slice none 0 0, .slice none 0 0], 25⟩]) ⟨g8, #[.slice (subp (some ⟨g7, 0, none⟩) 4 (b.length - 2)) ((b.length - 2) - 4) ((b.length - 2) - 4), .bool false], 73⟩ 24 #[.pointer (some ⟨g8, 0, none⟩), .int .i64 2, .int .i64 200, .func (.func 25) #[] #[]] (fun (y9 : Sz) => .slice y9.o.ptr (Imo.n1 L) y9.o.cap) (fun (y9 : Sz) => ⟨g8, #[.slice y9.q.q ((b.length - 2) - (Imo.p2 L).1) y9.q.c, .bool ((Imo.p2 L).2)], 73⟩) (fun (y9 : Sz) => (y9.o.rows 54 ++ y9.M)) (fun (y9 : Sz) => ⟨g8, #[.slice y9.q.q ((b.length - 2) - (Imo.p2 L).1) y9.q.c, .bool ((Imo.p2 L).2)], 73⟩ :: ⟨g7, (flat ub (b.take (b.length - 2))).toArray, 5⟩ :: ⟨g1, #[.slice none 0 0, .slice none 0 0], 25⟩ :: (y9.o.rows 54 ++ y9.M)) (fun (y9 : Sz) => QcOk w [⟨g7, (flat ub (b.take (b.length - 2))).toArray, 5⟩] L (Imo.p2 L) y9.q ∧ y9.o.Has 3 (Imo.n1 L) (flat sg y9.K) ∧ y9.K.map dat = Imo.D1 L ∧ HeldS y9.M y9.K) rfl rfl (fun _ => by first | rfl | simp) rfl (fun _ => by go_simp) (fun W hE => segs_in w [⟨g7, (flat ub (b.take (b.length - 2))).toArray, 5⟩] ([⟨g7, (flat ub (b.take (b.length - 2))).toArray, 5⟩, ⟨g1, #[.slice none 0 0, .slice none 0 0], 25⟩]) L (b.length - 2) (4, false) (⟨subp (some ⟨g7, 0, none⟩) 4 (b.length - 2), (b.length - 2) - 4⟩ : Qc) g8 W hE ⟨(List.Sublist.cons_cons _ (List.Sublist.cons _ List.Sublist.slnil)), hq0, (show 4 ≤ L.length by omega), hlL, by omega⟩) ?_
     rintro y9 k10
     skip
     simp only [Act.put, Xa, Xz, Xs]
     refine wl_call_row (ι := Lz) [] [⟨g7, (flat ub (b.take (b.length - 2))).toArray, 5⟩, ⟨g1, #[.slice none 0 0, .slice none 0 0], 25⟩] (y9.o.rows 54 ++ y9.M) (⟨g7, (flat ub (b.take (b.length - 2))).toArray, 5⟩ :: ⟨g1, #[.slice none 0 0, .slice none 0 0], 25⟩ :: (y9.o.rows 54 ++ y9.M)) ⟨g8, #[.slice y9.q.q ((b.length - 2) - (Imo.p2 L).1) y9.q.c, .bool ((Imo.p2 L).2)], 73⟩ 26 #[.pointer (some ⟨g8, 0, none⟩), .int .i64 2, .int .i64 400, .func (.func 27) #[] #[]] (fun (y11 : Lz) => .slice y11.o.ptr (Imo.n3 L) y11.o.cap) (fun (y11 : Lz) => ⟨g8, #[.slice y11.q.q ((b.length - 2) - (Imo.p4 L).1) y11.q.c, .bool ((Imo.p4 L).2)], 73⟩) (fun (y11 : Lz) => y11.o.rows 60) (fun (y11 : Lz) => ⟨g8, #[.slice y11.q.q ((b.length - 2) - (Imo.p4 L).1) y11.q.c, .bool ((Imo.p4 L).2)], 73⟩ :: ⟨g7, (flat ub (b.take (b.length - 2))).toArray, 5⟩ :: ⟨g1, #[.slice none 0 0, .slice none 0 0], 25⟩ :: (y11.o.rows 60 ++ (y9.o.rows 54 ++ y9.M))) (fun (y11 : Lz) => QcOk w [⟨g7, (flat ub (b.take (b.length - 2))).toArray, 5⟩] L (Imo.p4 L) y11.q ∧ y11.o.Has 5 (Imo.n3 L) (flat gp (Imo.H1 L))) rfl rfl (fun _ => by first | rfl | simp) rfl (fun _ => by go_simp) (fun W hE => groups_in w [⟨g7, (flat ub (b.take (b.length - 2))).toArray, 5⟩] (⟨g7, (flat ub (b.take (b.length - 2))).toArray, 5⟩ :: ⟨g1, #[.slice none 0 0, .slice none 0 0], 25⟩ :: (y9.o.rows 54 ++ y9.M)) L (b.length - 2) (Imo.p2 L) y9.q g8 W hE ⟨(List.Sublist.cons_cons _ (List.Sublist.cons _ (List.sublist_append_of_sublist_right (List.nil_sublist _)))), k10.1, (many_le (f := segmt L) (fun s hs => segmt_le s hs) (cnt_le 2 200 (show 4 ≤ L.length by omega)) _), hlL, by omega⟩) ?_
     rintro y11 k12
     skip
     simp only [Act.put, Xa, Xz, Xs]
     refine wl_val (.agg #[.slice y9.o.ptr (Imo.n1 L) y9.o.cap, .slice y11.o.ptr (Imo.n3 L) y11.o.cap]) rfl (fun _ => by go_simp) ?_
     simp only [Act.put, Xa, Xz, Xs]
     refine wl_new 25 (#[.slice none 0 0, .slice none 0 0]) rfl (fun _ => by go_simp) ?_
     intro g13
     simp only [Act.put, Xa, Xz, Xs]
     refine wl_store 0 25 (.tmp 7) (.tmp 38) (#[.slice y9.o.ptr (Imo.n1 L) y9.o.cap, .slice y11.o.ptr (Imo.n3 L) y11.o.cap]) rfl rfl rfl rfl rfl (by kernel_rfl) rfl (by simp [Value.oneCell']) ?_
     simp only [Act.put, List.set_cons_zero]
     refine wl_nil ?_
     refine we_then ?_
     refine wc_seq ?_
     refine wc_seq ?_
     have le4 : (Imo.p4 L).1 ≤ L.length := (many_le (f := group L) (fun s hs => group_le s hs) (cnt_le 2 400 (many_le (f := segmt L) (fun s hs => segmt_le s hs) (cnt_le 2 200 (show 4 ≤ L.length by omega)) _)) _)
     have e6 : y9.K.length = Imo.n1 L := by rw [← List.length_map (f := dat), k10.2.2.1]; exact manyV_len _ _ _
     have e9 : (Imo.H1 L).length = Imo.n3 L := manyV_len _ _ _
     have c200 : ((Imo.n1 L : Nat) : Int) ≤ 200 := cntV_le (by decide)
     have c400 : ((Imo.n3 L : Nat) : Int) ≤ 400 := cntV_le (by decide)
     refine wc_region ?_
     refine wl_val (.pointer (some ⟨g8, 1, none⟩)) rfl (fun _ => by go_simp) ?_
     simp only [Act.put, Xa, Xz, Xs]
     refine wl_cell 4 (.tmp 39) (.bool ((Imo.p4 L).2)) (own_row 1 rfl) rfl rfl rfl rfl Try.isAgg4 ?_
     simp only [Act.put, Xa, Xz, Xs]
     refine wl_val (.bool ((Imo.p4 L).2)) rfl (fun _ => rfl) ?_
     simp only [Act.put, Xa, Xz, Xs]
     cases h14 : ((Imo.p4 L).2)
     ·
      skip
      refine wl_val (.pointer (some ⟨g8, 0, none⟩)) rfl (fun _ => by go_simp) ?_
      simp only [Act.put, Xa, Xz, Xs]
      refine wl_cell 28 (.tmp 42) (.slice y11.q.q ((b.length - 2) - (Imo.p4 L).1) y11.q.c) (own_row 1 rfl) rfl rfl rfl rfl Try.isAgg28 ?_
      simp only [Act.put, Xa, Xz, Xs]
      refine wl_val (.int .i64 (((b.length - 2) - (Imo.p4 L).1 : Nat) : Int)) rfl (fun w => er_len rfl rfl Try.underlying28 w) ?_
      simp only [Act.put, Xa, Xz, Xs]
      refine wl_val (.bool (decide (0 < (((b.length - 2) - (Imo.p4 L).1 : Nat) : Int)))) rfl (fun w => run_cmp rfl rfl rfl Try.underlying3 rfl w) ?_
      simp only [Act.put, Xa, Xz, Xs]
      refine wl_val (.bool (decide (0 < (((b.length - 2) - (Imo.p4 L).1 : Nat) : Int)))) rfl (fun _ => rfl) ?_
      simp only [Act.put, Xa, Xz, Xs]
      refine wl_nil ?_
      refine we_then ?_
      cases h15 : (decide (0 < (((b.length - 2) - (Imo.p4 L).1 : Nat) : Int)))
      ·
       skip
       have p15 : ¬ (0 < (((b.length - 2) - (Imo.p4 L).1 : Nat) : Int)) := of_decide_eq_false h15
       refine wc_false rfl ?_
       refine wc_skip ?_
       refine we_then ?_
       refine wc_seq ?_
       refine wc_seq ?_
       refine wc_region ?_
       refine wl_load 25 (.tmp 7) (own_row 0 rfl) rfl rfl rfl Try.underlying25 rfl (by kernel_rfl) ?_
       simp only [Act.put, Xa, Xz, Xs]
       refine wl_call_at 16 #[.agg #[.slice y9.o.ptr (Imo.n1 L) y9.o.cap, .slice y11.o.ptr (Imo.n3 L) y11.o.cap]] (.tuple #[.int .i64 (((chk y9.K (Imo.H1 L)).1 : Nat) : Int), .int .i64 (((chk y9.K (Imo.H1 L)).2 : Nat) : Int)]) rfl (fun _ => by go_simp) (fun W hE => by have a := Tra.check_any y9.K (Imo.H1 L) y9.o.ptr y11.o.ptr y9.o.cap y11.o.cap W (sl_own (e := 54) ([⟨g13, #[.slice y9.o.ptr (Imo.n1 L) y9.o.cap, .slice y11.o.ptr (Imo.n3 L) y11.o.cap], 25⟩, ⟨g8, #[.slice y11.q.q ((b.length - 2) - (Imo.p4 L).1) y11.q.c, .bool false], 73⟩, ⟨g7, (flat ub (b.take (b.length - 2))).toArray, 5⟩, ⟨g1, #[.slice none 0 0, .slice none 0 0], 25⟩] ++ (y11.o.rows 60 ++ [])) y9.M k10.2.1 (by simp) W hE) (heldS_ok k10.2.2.2 (hE.sub (List.Sublist.cons _ (List.Sublist.cons _ (List.Sublist.cons _ (List.Sublist.cons _ (List.sublist_append_of_sublist_right (List.sublist_append_of_sublist_right (List.Sublist.refl _))))))))) (sl_own (e := 60) [⟨g13, #[.slice y9.o.ptr (Imo.n1 L) y9.o.cap, .slice y11.o.ptr (Imo.n3 L) y11.o.cap], 25⟩, ⟨g8, #[.slice y11.q.q ((b.length - 2) - (Imo.p4 L).1) y11.q.c, .bool false], 73⟩, ⟨g7, (flat ub (b.take (b.length - 2))).toArray, 5⟩, ⟨g1, #[.slice none 0 0, .slice none 0 0], 25⟩] (y9.o.rows 54 ++ y9.M) k12.2 rfl W hE) (by omega) (by omega); rw [e6, e9] at a; exact a) ?_
       simp only [Act.put, Xa, Xz, Xs]
       refine wl_val (.tuple #[.int .i64 (((chk y9.K (Imo.H1 L)).1 : Nat) : Int), .int .i64 (((chk y9.K (Imo.H1 L)).2 : Nat) : Int)]) rfl (fun _ => rfl) ?_
       simp only [Act.put, Xa, Xz, Xs]
       refine wl_val (.int .i64 (((chk y9.K (Imo.H1 L)).1 : Nat) : Int)) rfl (fun _ => by go_simp) ?_
       simp only [Act.put, Xa, Xz, Xs]
       refine wl_val (.int .i64 (((chk y9.K (Imo.H1 L)).2 : Nat) : Int)) rfl (fun _ => by go_simp) ?_
       simp only [Act.put, Xa, Xz, Xs]
       refine wl_val (.int .i64 (((chk y9.K (Imo.H1 L)).1 : Nat) : Int)) rfl (fun _ => rfl) ?_
       simp only [Act.put, Xa, Xz, Xs]
       refine wl_val (.int .i64 (((chk y9.K (Imo.H1 L)).2 : Nat) : Int)) rfl (fun _ => rfl) ?_
       simp only [Act.put, Xa, Xz, Xs]
       refine wl_nil ?_
       refine we_then ?_
       refine wc_seq ?_
       refine wc_region ?_
       refine wl_val (.int .i64 (((chk y9.K (Imo.H1 L)).1 : Nat) : Int)) rfl (fun _ => rfl) ?_
       simp only [Act.put, Xa, Xz, Xs]
       refine wl_val (.bool ((((chk y9.K (Imo.H1 L)).1 : Nat) : Int) != 0)) rfl (fun w => run_cmp rfl rfl rfl Try.underlying29 rfl w) ?_
       simp only [Act.put, Xa, Xz, Xs]
       refine wl_nil ?_
       refine we_then ?_
       cases h16 : ((((chk y9.K (Imo.H1 L)).1 : Nat) : Int) != 0)
       ·
        skip
        have p16 : ¬ ((((chk y9.K (Imo.H1 L)).1 : Nat) : Int) ≠ 0) := by first | (simp; done) | (simp at h16; done) | simpa using h16
        refine wc_false rfl ?_
        refine wc_skip ?_
        refine we_then ?_
        refine wc_seq ?_
        refine wc_region ?_
        refine wl_load 25 (.tmp 7) (own_row 0 rfl) rfl rfl rfl Try.underlying25 rfl (by kernel_rfl) ?_
        simp only [Act.put, Xa, Xz, Xs]
        refine wl_store 3 25 (.tmp 2) (.tmp 56) (#[.slice y9.o.ptr (Imo.n1 L) y9.o.cap, .slice y11.o.ptr (Imo.n3 L) y11.o.cap]) rfl rfl rfl rfl rfl (by kernel_rfl) rfl (by simp [Value.oneCell']) ?_
        simp only [Act.put, List.set_cons_zero, List.set_cons_succ]
        refine wl_val (.int .i64 0) rfl (fun _ => rfl) ?_
        simp only [Act.put, Xa, Xz, Xs]
        refine wl_nil ?_
        refine we_then ?_
        refine wc_ret ?_
        refine we_ret_cell_tmp (.int .i64 0) (own_row 3 rfl) rfl rfl rfl rfl Try.underlying25 rfl (by kernel_rfl) (fun w1 hE => ?_)
        have eH : headB b = true := (head_eq (by omega)).trans h5
        have e10 : ¬ ((Imo.p4 L).2 = true ∨ (Imo.p4 L).1 ≠ b.length - 2) := by intro h; rcases h with h | h; simp_all; omega
        have e11 : chk y9.K (Imo.H1 L) = chk ((Imo.D1 L).map toSg) (Imo.H1 L) := chk_same (same_map k10.2.2.1)
        have e0 : opnE b = 0 := opn_0 hb6 eH h6 (by rw [← hLe]; exact e10) (by rw [← hLe, ← e11]; omega)
        exact ⟨⟨y9.K, Imo.H1 L, y9.o.ptr, y9.o.cap, y11.o.ptr, y11.o.cap, y11.o.rows 60 ++ (y9.o.rows 54 ++ y9.M)⟩, ⟨by rw [if_pos e0, ← hLe]; exact ⟨k10.2.2.1, rfl⟩, (held_own (e := 54) (has_n e6.symm k10.2.1)).mono ((List.sublist_append_left _ _).trans (List.sublist_append_right _ _)), (held_own (e := 60) (has_n e9.symm k12.2)).mono (List.sublist_append_left _ _), fun z hz => by obtain ⟨x1, x2, x3, x4⟩ := k10.2.2.2 z hz; exact ⟨x1.mono ((List.sublist_append_right _ _).trans (List.sublist_append_right _ _)), x2.mono ((List.sublist_append_right _ _).trans (List.sublist_append_right _ _)), x3, x4⟩⟩, by rw [e0, e6, e9]; rfl, hE.sub (List.Sublist.cons _ (List.Sublist.cons _ (List.Sublist.cons _ (List.Sublist.cons _ (List.Sublist.append_left (List.Sublist.append_left (List.Sublist.refl _) _) _)))))⟩
       ·
        skip
        have p16 : (((chk y9.K (Imo.H1 L)).1 : Nat) : Int) ≠ 0 := by first | (simp; done) | (simp at h16; done) | simpa using h16
        refine wc_true rfl ?_
        refine wc_seq ?_
        refine wc_region ?_
        refine wl_val (.agg #[.slice none 0 0, .slice none 0 0]) rfl (fun _ => by go_simp) ?_
        simp only [Act.put, Xa, Xz, Xs]
        refine wl_store 3 25 (.tmp 2) (.tmp 55) (#[.slice none 0 0, .slice none 0 0]) rfl rfl rfl rfl rfl (by kernel_rfl) rfl (by simp [Value.oneCell']) ?_
        simp only [Act.put, List.set_cons_zero, List.set_cons_succ]
        refine wl_val (.int .i64 51) rfl (fun _ => rfl) ?_
        simp only [Act.put, Xa, Xz, Xs]
        refine wl_nil ?_
        refine we_then ?_
        refine wc_ret ?_
        refine we_then_ret ?_
        refine we_ret_cell_tmp (.int .i64 51) (own_row 3 rfl) rfl rfl rfl rfl Try.underlying25 rfl (by kernel_rfl) (fun w1 hE => ?_)
        have eH : headB b = true := (head_eq (by omega)).trans h5
        have e10 : ¬ ((Imo.p4 L).2 = true ∨ (Imo.p4 L).1 ≠ b.length - 2) := by intro h; rcases h with h | h; simp_all; omega
        have e11 : chk y9.K (Imo.H1 L) = chk ((Imo.D1 L).map toSg) (Imo.H1 L) := chk_same (same_map k10.2.2.1)
        have e0 : opnE b = 51 := opn_51 hb6 eH h6 (by rw [← hLe]; exact e10) (by rw [← hLe, ← e11]; omega)
        exact ⟨⟨[], [], none, 0, none, 0, []⟩, ov_none (by rw [e0]; decide), by rw [e0]; rfl, hE.sub (List.nil_sublist _)⟩
      ·
       skip
       have p15 : 0 < (((b.length - 2) - (Imo.p4 L).1 : Nat) : Int) := of_decide_eq_true h15
       refine wc_true rfl ?_
       refine wc_seq ?_
       refine wc_region ?_
       refine wl_val (.agg #[.slice none 0 0, .slice none 0 0]) rfl (fun _ => by go_simp) ?_
       simp only [Act.put, Xa, Xz, Xs]
       refine wl_store 3 25 (.tmp 2) (.tmp 47) (#[.slice none 0 0, .slice none 0 0]) rfl rfl rfl rfl rfl (by kernel_rfl) rfl (by simp [Value.oneCell']) ?_
       simp only [Act.put, List.set_cons_zero, List.set_cons_succ]
       refine wl_val (.int .i64 14) rfl (fun _ => rfl) ?_
       simp only [Act.put, Xa, Xz, Xs]
       refine wl_nil ?_
       refine we_then ?_
       refine wc_ret ?_
       refine we_then_ret ?_
       refine we_ret_cell_tmp (.int .i64 14) (own_row 3 rfl) rfl rfl rfl rfl Try.underlying25 rfl (by kernel_rfl) (fun w1 hE => ?_)
       have eH : headB b = true := (head_eq (by omega)).trans h5
       have e0 : opnE b = 14 := opn_14 hb6 eH h6 (by rw [← hLe]; first | (left; assumption) | (right; omega))
       exact ⟨⟨[], [], none, 0, none, 0, []⟩, ov_none (by rw [e0]; decide), by rw [e0]; rfl, hE.sub (List.nil_sublist _)⟩
     ·
      skip
      refine wl_skip rfl ?_
      simp only [Act.put, Xa, Xz, Xs]
      refine wl_skip rfl ?_
      simp only [Act.put, Xa, Xz, Xs]
      refine wl_skip rfl ?_
      simp only [Act.put, Xa, Xz, Xs]
      refine wl_skip rfl ?_
      simp only [Act.put, Xa, Xz, Xs]
      refine wl_val (.bool true) rfl (fun _ => rfl) ?_
      simp only [Act.put, Xa, Xz, Xs]
      refine wl_nil ?_
      refine we_then ?_
      refine wc_true rfl ?_
      refine wc_seq ?_
      refine wc_region ?_
      refine wl_val (.agg #[.slice none 0 0, .slice none 0 0]) rfl (fun _ => by go_simp) ?_
      simp only [Act.put, Xa, Xz, Xs]
      refine wl_store 3 25 (.tmp 2) (.tmp 47) (#[.slice none 0 0, .slice none 0 0]) rfl rfl rfl rfl rfl (by kernel_rfl) rfl (by simp [Value.oneCell']) ?_
      simp only [Act.put, List.set_cons_zero, List.set_cons_succ]
      refine wl_val (.int .i64 14) rfl (fun _ => rfl) ?_
      simp only [Act.put, Xa, Xz, Xs]
      refine wl_nil ?_
      refine we_then ?_
      refine wc_ret ?_
      refine we_then_ret ?_
      refine we_ret_cell_tmp (.int .i64 14) (own_row 3 rfl) rfl rfl rfl rfl Try.underlying25 rfl (by kernel_rfl) (fun w1 hE => ?_)
      have eH : headB b = true := (head_eq (by omega)).trans h5
      have e0 : opnE b = 14 := opn_14 hb6 eH h6 (by rw [← hLe]; first | (left; assumption) | (right; omega))
      exact ⟨⟨[], [], none, 0, none, 0, []⟩, ov_none (by rw [e0]; decide), by rw [e0]; rfl, hE.sub (List.nil_sublist _)⟩
  ·
   skip
   have p3 : (b.length : Int) < 6 := of_decide_eq_true h3
   refine wl_skip rfl ?_
   simp only [Act.put, Xa, Xz, Xs]
   refine wl_skip rfl ?_
   simp only [Act.put, Xa, Xz, Xs]
   refine wl_skip rfl ?_
   simp only [Act.put, Xa, Xz, Xs]
   refine wl_skip rfl ?_
   simp only [Act.put, Xa, Xz, Xs]
   refine wl_skip rfl ?_
   simp only [Act.put, Xa, Xz, Xs]
   refine wl_val (.bool true) rfl (fun _ => rfl) ?_
   simp only [Act.put, Xa, Xz, Xs]
   refine wl_nil ?_
   refine we_then ?_
   refine wc_true rfl ?_
   refine wc_seq ?_
   refine wc_region ?_
   refine wl_val (.agg #[.slice none 0 0, .slice none 0 0]) rfl (fun _ => by go_simp) ?_
   simp only [Act.put, Xa, Xz, Xs]
   refine wl_store 0 25 (.tmp 2) (.tmp 24) (#[.slice none 0 0, .slice none 0 0]) rfl rfl rfl rfl rfl (by kernel_rfl) rfl (by simp [Value.oneCell']) ?_
   simp only [Act.put, List.set_cons_zero]
   refine wl_val (.int .i64 11) rfl (fun _ => rfl) ?_
   simp only [Act.put, Xa, Xz, Xs]
   refine wl_nil ?_
   refine we_then ?_
   refine wc_ret ?_
   refine we_then_ret ?_
   refine we_ret_cell_tmp (.int .i64 11) (own_row 0 rfl) rfl rfl rfl rfl Try.underlying25 rfl (by kernel_rfl) (fun w1 hE => ?_)
   have e0 : opnE b = 11 := opn_11 hb6 (by unfold headB; rw [decide_eq_false (by omega)]; rfl)
   exact ⟨⟨[], [], none, 0, none, 0, []⟩, ov_none (by rw [e0]; decide), by rw [e0]; rfl, hE.sub (List.nil_sublist _)⟩
 ·
  skip
  have p2 : 1048576 < (b.length : Int) := of_decide_eq_true h2
  refine wc_true rfl ?_
  refine wc_seq ?_
  refine wc_region ?_
  refine wl_val (.agg #[.slice none 0 0, .slice none 0 0]) rfl (fun _ => by go_simp) ?_
  simp only [Act.put, Xa, Xz, Xs]
  refine wl_store 0 25 (.tmp 2) (.tmp 13) (#[.slice none 0 0, .slice none 0 0]) rfl rfl rfl rfl rfl (by kernel_rfl) rfl (by simp [Value.oneCell']) ?_
  simp only [Act.put, List.set_cons_zero]
  refine wl_val (.int .i64 15) rfl (fun _ => rfl) ?_
  simp only [Act.put, Xa, Xz, Xs]
  refine wl_nil ?_
  refine we_then ?_
  refine wc_ret ?_
  refine we_then_ret ?_
  refine we_ret_cell_tmp (.int .i64 15) (own_row 0 rfl) rfl rfl rfl rfl Try.underlying25 rfl (by kernel_rfl) (fun w1 hE => ?_)
  exact (by exfalso; omega)
theorem has_list {s : Own} {size n m : Nat} {X Y : List UInt8} (e : X = Y) (k : n = m) (h : s.Has size n (flat ub X)) : s.Has size m (flat ub Y) := by subst e; subst k; exact h
set_option maxHeartbeats 2000000 in
theorem put_own (w0 : World) (B : List Rw) (o : Own) (X : List UInt8) (m : Nat) (n : Nat) (v : Int) (w : World) (hE0 : Env w0 w (o.rows 5 ++ B)) (ho : o.Has 1 m (flat ub X)) (hx : X.length = m) (hm : m ≤ 1000000) (h1 : 1 ≤ n) (h8 : n ≤ 8) :
  Calls Try.prog 17 #[.slice o.ptr m o.cap, .int .i64 (n : Int), .int .i64 v] w fun e w' => ∃ s : Own, s.Has 1 (m + n) (flat ub (X ++ pb v n)) ∧ e = .returned (.slice s.ptr (m + n) s.cap) ∧ Env w0 w' (s.rows 5 ++ B) := by
 refine calls_in hE0 Try.func17 rfl ?_
 simp only [Try.ntmps17, List.size_toArray, List.length_cons, List.length_nil, Nat.reduceAdd, Nat.reduceSub, Array.replicate_succ, Array.replicate_zero, List.push_toArray, List.append_toArray, List.nil_append, List.cons_append]
 refine wc_seq ?_
 refine wc_region ?_
 refine wl_val (.slice none 0 0) rfl (fun _ => rfl) ?_
 simp only [Act.put, Xa, Xz, Xs]
 refine wl_nil ?_
 refine we_then ?_
 refine wc_seq ?_
 refine wc_seq ?_
 refine wc_region ?_
 refine wl_val (.int .i64 (n : Int)) rfl (fun _ => rfl) ?_
 simp only [Act.put, Xa, Xz, Xs]
 refine wl_val (.int .i64 0) rfl (fun _ => rfl) ?_
 simp only [Act.put, Xa, Xz, Xs]
 refine wl_nil ?_
 refine we_then ?_
 refine wc_block ?_
 refine wc_loop (fun (zz : Nat × Own × Value × Value × Value × Value × Value × Value × Value × Value × Value × Value × Value × Value × Value × Value × Value) => match zz with | ⟨i, u, u7, u10, u11, u12, u13, u14, u15, u16, u17, u18, u19, u20, u21, u22, u23⟩ => ({ tmps := #[.slice u.ptr (m + i) u.cap, .int .i64 (n : Int), .int .i64 v, undef, undef, undef, .slice none 0 0, u7, .int .i64 (n : Int), .int .i64 (i : Int), u10, u11, u12, u13, u14, u15, u16, u17, u18, u19, u20, u21, u22, u23, undef], defers := [] } : Act)) (fun (zz : Nat × Own × Value × Value × Value × Value × Value × Value × Value × Value × Value × Value × Value × Value × Value × Value × Value) => match zz with | ⟨i, u, u7, u10, u11, u12, u13, u14, u15, u16, u17, u18, u19, u20, u21, u22, u23⟩ => (u.rows 5 ++ B)) (fun (zz : Nat × Own × Value × Value × Value × Value × Value × Value × Value × Value × Value × Value × Value × Value × Value × Value × Value) => match zz with | ⟨i, u, u7, u10, u11, u12, u13, u14, u15, u16, u17, u18, u19, u20, u21, u22, u23⟩ => i ≤ n ∧ u.Has 1 (m + i) (flat ub (X ++ pb (dv v (n - i)) i))) (fun (zz : Nat × Own × Value × Value × Value × Value × Value × Value × Value × Value × Value × Value × Value × Value × Value × Value × Value) => match zz with | ⟨i, u, u7, u10, u11, u12, u13, u14, u15, u16, u17, u18, u19, u20, u21, u22, u23⟩ => n - i) ⟨0, o, _, _, _, _, _, _, _, _, _, _, _, _, _, _, _⟩ ⟨Nat.zero_le _, has_list (X := X) (Y := X ++ pb (dv v (n - 0)) 0) (List.append_nil X).symm rfl ho⟩ rfl (List.Sublist.append_left (List.Sublist.refl _) _) ?_
 rintro ⟨i, u, u7, u10, u11, u12, u13, u14, u15, u16, u17, u18, u19, u20, u21, u22, u23⟩ hφ
 (try dsimp only at hφ ⊢)
 obtain ⟨b1, b2⟩ := hφ
 refine wc_seq ?_
 refine wc_region ?_
 refine wl_val (.bool (decide ((i : Int) < (n : Int)))) rfl (fun w => run_cmp rfl rfl rfl Try.underlying3 rfl w) ?_
 simp only [Act.put, Xa, Xz, Xs]
 refine wl_nil ?_
 refine we_then ?_
 refine wc_seq ?_
 cases h1 : (decide ((i : Int) < (n : Int)))
 ·
  skip
  have p1 : ¬ ((i : Int) < (n : Int)) := of_decide_eq_false h1
  refine wc_false rfl ?_
  refine wc_exit ?_
  refine we_then_exit ?_
  refine we_then_exit ?_
  refine we_in_here ?_
  refine we_then ?_
  refine wc_seq ?_
  refine wc_region ?_
  refine wl_val (.slice u.ptr (m + i) u.cap) rfl (fun _ => rfl) ?_
  simp only [Act.put, Xa, Xz, Xs]
  refine wl_val (.slice u.ptr (m + i) u.cap) rfl (fun _ => rfl) ?_
  simp only [Act.put, Xa, Xz, Xs]
  refine wl_nil ?_
  refine we_then ?_
  refine wc_ret ?_
  refine we_ret1 (.slice u.ptr (m + i) u.cap) rfl rfl rfl (fun w1 hE => ?_)
  have e0 : i = n := by omega
  subst e0
  exact ⟨u, has_list (lay_all X v i) rfl b2, rfl, hE⟩
 ·
  skip
  have p1 : (i : Int) < (n : Int) := of_decide_eq_true h1
  refine wc_true rfl ?_
  refine wc_skip ?_
  refine we_then ?_
  refine wc_seq ?_
  refine wc_block ?_
  refine wc_seq ?_
  refine wc_region ?_
  refine wl_val (.int .i64 (i : Int)) rfl (fun _ => rfl) ?_
  simp only [Act.put, Xa, Xz, Xs]
  refine wl_val (.int .i64 (i : Int)) rfl (fun _ => rfl) ?_
  simp only [Act.put, Xa, Xz, Xs]
  refine wl_nil ?_
  refine we_then ?_
  refine wc_region ?_
  refine wl_val (.slice u.ptr (m + i) u.cap) rfl (fun _ => rfl) ?_
  simp only [Act.put, Xa, Xz, Xs]
  refine wl_val (.int .i64 v) rfl (fun _ => rfl) ?_
  simp only [Act.put, Xa, Xz, Xs]
  refine wl_val (.int .i64 (n : Int)) rfl (fun _ => rfl) ?_
  simp only [Act.put, Xa, Xz, Xs]
  refine wl_val (.int .i64 ((n - 1 : Nat) : Int)) rfl (fun w => run_nat (X := n) (Y := 1) (Z := n - 1) rfl rfl rfl (natOf_sub (by omega)) (by omega) w) ?_
  simp only [Act.put, Xa, Xz, Xs]
  refine wl_val (.int .i64 (i : Int)) rfl (fun _ => rfl) ?_
  simp only [Act.put, Xa, Xz, Xs]
  refine wl_val (.int .i64 (((n - 1) - i : Nat) : Int)) rfl (fun w => run_nat (X := n - 1) (Y := i) (Z := (n - 1) - i) rfl rfl rfl (natOf_sub (by omega)) (by omega) w) ?_
  simp only [Act.put, Xa, Xz, Xs]
  refine wl_val (.int .i64 ((8 * ((n - 1) - i) : Nat) : Int)) rfl (fun w => run_nat (X := 8) (Y := (n - 1) - i) (Z := 8 * ((n - 1) - i)) rfl rfl rfl rfl (by omega) w) ?_
  simp only [Act.put, Xa, Xz, Xs]
  refine wl_val (.int .i64 (dv v (n - 1 - i))) rfl (fun w => run_sar (k := .i64) (8 * (n - 1 - i)) (256 ^ (n - 1 - i)) (show 8 * (n - 1 - i) ≤ 64 by omega) (pow_8 _) rfl rfl rfl w) ?_
  simp only [Act.put, Xa, Xz, Xs]
  refine wl_val (.int .u8 ((BitVec.ofInt 8 (dv v (n - 1 - i))).toNat : Int)) rfl (fun w => run_low (k := .u8) rfl rfl rfl Try.underlying2 Try.underlying5 w) ?_
  simp only [Act.put, Xa, Xz, Xs]
  refine wl_lit (e := 5) #[.int .u8 ((BitVec.ofInt 8 (dv v (n - 1 - i))).toNat : Int)] 1 rfl (fun _ => by go_simp) ?_
  intro g2
  simp only [Act.put, Xa, Xz, Xs]
  refine wl_append (e := 5) (size := 1) (bytes := 1) (m := 1) [⟨g2, #[.int .u8 ((BitVec.ofInt 8 (dv v (n - 1 - i))).toNat : Int)], 5⟩] B u (ys := flat ub ([by8 (dv v (n - 1 - i))])) rfl b2 (sl_lit 0 (L := [by8 (dv v (n - 1 - i))]) rfl rfl) (ub_len1 rfl) (flat_one ub_one _) rfl rfl rfl rfl Try.underlying28 (by unfold Elem; kernel_rfl) (by decide) (by unfold maxLen; omega) (by omega) ?_
  intro s3 hs3
  replace hs3 := has_cast (show _ = flat ub (X ++ pb (dv v (n - i)) i ++ ([by8 (dv v (n - 1 - i))])) from by first | exact (flat_append _ _ _).symm | rw [flat_append] <;> rfl) hs3
  simp only [List.cons_append, List.nil_append, Act.put, Xa, Xz, Xs]
  refine wl_val (.slice s3.ptr ((m + i) + 1) s3.cap) rfl (fun _ => rfl) ?_
  simp only [Act.put, Xa, Xz]
  refine wl_nil ?_
  refine we_in ?_
  refine we_then ?_
  refine wc_region ?_
  refine wl_val (.int .i64 ((i + 1 : Nat) : Int)) rfl (fun w => run_nat (X := i) (Y := 1) (Z := i + 1) rfl rfl rfl rfl (by omega) w) ?_
  simp only [Act.put, Xa, Xz, Xs]
  refine wl_val (.int .i64 ((i + 1 : Nat) : Int)) rfl (fun _ => rfl) ?_
  simp only [Act.put, Xa, Xz, Xs]
  refine wl_nil ?_
  exact we_meet ⟨(i + 1), s3, _, _, _, _, _, _, _, _, _, _, _, _, _, _, _⟩ (by (try dsimp only); exact ⟨⟨by omega, has_list (lay_step (by omega)) rfl hs3⟩, by omega⟩) rfl (List.Sublist.cons _ (List.Sublist.append_left (List.Sublist.refl _) _))
set_option maxHeartbeats 2000000 in
theorem put_head (X : List UInt8) (p : Option Addr) (v : Int) (w : World) (hX : Reads w p (flat ub X)) (hx : X.length = 4) :
  Calls Try.prog 17 #[.slice p 4 4, .int .i64 2, .int .i64 v] w fun e w' => ∃ s : Own, s.Has 1 6 (flat ub (X ++ pb v 2)) ∧ e = .returned (.slice s.ptr 6 s.cap) ∧ Env w w' (s.rows 5) := by
 refine calls_sx Try.func17 rfl ?_
 simp only [Try.ntmps17, List.size_toArray, List.length_cons, List.length_nil, Nat.reduceAdd, Nat.reduceSub, Array.replicate_succ, Array.replicate_zero, List.push_toArray, List.append_toArray, List.nil_append, List.cons_append]
 refine wc_seq ?_
 refine wc_region ?_
 refine wl_val (.slice none 0 0) rfl (fun _ => rfl) ?_
 simp only [Act.put, Xa, Xz, Xs]
 refine wl_nil ?_
 refine we_then ?_
 refine wc_seq ?_
 refine wc_seq ?_
 refine wc_region ?_
 refine wl_val (.int .i64 2) rfl (fun _ => rfl) ?_
 simp only [Act.put, Xa, Xz, Xs]
 refine wl_val (.int .i64 0) rfl (fun _ => rfl) ?_
 simp only [Act.put, Xa, Xz, Xs]
 refine wl_nil ?_
 refine we_then ?_
 refine wc_block ?_
 refine wr_start 3 ?_
 refine wr_round ?_
 refine wc_seq ?_
 refine wc_region ?_
 refine wl_val (.bool true) rfl (fun w => run_cmp rfl rfl rfl Try.underlying3 rfl w) ?_
 simp only [Act.put, Xa, Xz, Xs]
 refine wl_nil ?_
 refine we_then ?_
 refine wc_seq ?_
 refine wc_true rfl ?_
 refine wc_skip ?_
 refine we_then ?_
 refine wc_seq ?_
 refine wc_block ?_
 refine wc_seq ?_
 refine wc_region ?_
 refine wl_val (.int .i64 0) rfl (fun _ => rfl) ?_
 simp only [Act.put, Xa, Xz, Xs]
 refine wl_val (.int .i64 0) rfl (fun _ => rfl) ?_
 simp only [Act.put, Xa, Xz, Xs]
 refine wl_nil ?_
 refine we_then ?_
 refine wc_region ?_
 refine wl_val (.slice p 4 4) rfl (fun _ => rfl) ?_
 simp only [Act.put, Xa, Xz, Xs]
 refine wl_val (.int .i64 v) rfl (fun _ => rfl) ?_
 simp only [Act.put, Xa, Xz, Xs]
 refine wl_val (.int .i64 2) rfl (fun _ => rfl) ?_
 simp only [Act.put, Xa, Xz, Xs]
 refine wl_val (.int .i64 1) rfl (fun w => run_nat (X := 2) (Y := 1) (Z := 1) rfl rfl rfl rfl (by omega) w) ?_
 simp only [Act.put, Xa, Xz, Xs]
 refine wl_val (.int .i64 0) rfl (fun _ => rfl) ?_
 simp only [Act.put, Xa, Xz, Xs]
 refine wl_val (.int .i64 1) rfl (fun w => run_nat (X := 1) (Y := 0) (Z := 1) rfl rfl rfl rfl (by omega) w) ?_
 simp only [Act.put, Xa, Xz, Xs]
 refine wl_val (.int .i64 8) rfl (fun w => run_nat (X := 8) (Y := 1) (Z := 8) rfl rfl rfl rfl (by omega) w) ?_
 simp only [Act.put, Xa, Xz, Xs]
 refine wl_val (.int .i64 (v / 256)) rfl (fun w => run_sar 8 256 (by decide) (by decide) rfl rfl rfl w) ?_
 simp only [Act.put, Xa, Xz, Xs]
 refine wl_val (.int .u8 ((BitVec.ofInt 8 (v / 256)).toNat : Int)) rfl (fun w => run_low (k := .u8) rfl rfl rfl Try.underlying2 Try.underlying5 w) ?_
 simp only [Act.put, Xa, Xz, Xs]
 refine wl_lit (e := 5) #[.int .u8 ((BitVec.ofInt 8 (v / 256)).toNat : Int)] 1 rfl (fun _ => by go_simp) ?_
 intro g1
 simp only [Act.put, Xa, Xz, Xs]
 refine wl_append_full (e := 5) (size := 1) (bytes := 1) (n := 4) (m := 1) (xs := flat ub X) (ys := flat ub ([by8 (v / 256)])) [⟨g1, #[.int .u8 ((BitVec.ofInt 8 (v / 256)).toNat : Int)], 5⟩] [] rfl (sl_old hX) (ub_len1 hx) (by omega) (by omega) (sl_lit 0 (L := [by8 (v / 256)]) rfl rfl) (ub_len1 rfl) (by omega) rfl rfl rfl rfl Try.underlying28 (by unfold Elem; kernel_rfl) (by decide) (by unfold maxLen; omega) (by omega) ?_
 intro s2 hs2
 replace hs2 := has_cast (show _ = flat ub (X ++ ([by8 (v / 256)])) from by first | exact (flat_append _ _ _).symm | rw [flat_append] <;> rfl) hs2
 simp only [List.cons_append, List.nil_append, Act.put, Xa, Xz, Xs]
 refine wl_val (.slice s2.ptr 5 s2.cap) rfl (fun _ => rfl) ?_
 simp only [Act.put, Xa, Xz]
 refine wl_nil ?_
 refine we_in ?_
 refine we_then ?_
 refine wc_region ?_
 refine wl_val (.int .i64 1) rfl (fun w => run_nat (X := 0) (Y := 1) (Z := 1) rfl rfl rfl rfl (by omega) w) ?_
 simp only [Act.put, Xa, Xz, Xs]
 refine wl_val (.int .i64 1) rfl (fun _ => rfl) ?_
 simp only [Act.put, Xa, Xz, Xs]
 refine wl_nil ?_
 refine we_round ?_
 refine wr_round ?_
 refine wc_seq ?_
 refine wc_region ?_
 refine wl_val (.bool true) rfl (fun w => run_cmp rfl rfl rfl Try.underlying3 rfl w) ?_
 simp only [Act.put, Xa, Xz, Xs]
 refine wl_nil ?_
 refine we_then ?_
 refine wc_seq ?_
 refine wc_true rfl ?_
 refine wc_skip ?_
 refine we_then ?_
 refine wc_seq ?_
 refine wc_block ?_
 refine wc_seq ?_
 refine wc_region ?_
 refine wl_val (.int .i64 1) rfl (fun _ => rfl) ?_
 simp only [Act.put, Xa, Xz, Xs]
 refine wl_val (.int .i64 1) rfl (fun _ => rfl) ?_
 simp only [Act.put, Xa, Xz, Xs]
 refine wl_nil ?_
 refine we_then ?_
 refine wc_region ?_
 refine wl_val (.slice s2.ptr 5 s2.cap) rfl (fun _ => rfl) ?_
 simp only [Act.put, Xa, Xz, Xs]
 refine wl_val (.int .i64 v) rfl (fun _ => rfl) ?_
 simp only [Act.put, Xa, Xz, Xs]
 refine wl_val (.int .i64 2) rfl (fun _ => rfl) ?_
 simp only [Act.put, Xa, Xz, Xs]
 refine wl_val (.int .i64 1) rfl (fun w => run_nat (X := 2) (Y := 1) (Z := 1) rfl rfl rfl rfl (by omega) w) ?_
 simp only [Act.put, Xa, Xz, Xs]
 refine wl_val (.int .i64 1) rfl (fun _ => rfl) ?_
 simp only [Act.put, Xa, Xz, Xs]
 refine wl_val (.int .i64 0) rfl (fun w => run_nat (X := 1) (Y := 1) (Z := 0) rfl rfl rfl rfl (by omega) w) ?_
 simp only [Act.put, Xa, Xz, Xs]
 refine wl_val (.int .i64 0) rfl (fun w => run_nat (X := 8) (Y := 0) (Z := 0) rfl rfl rfl rfl (by omega) w) ?_
 simp only [Act.put, Xa, Xz, Xs]
 refine wl_val (.int .i64 (v / 1)) rfl (fun w => run_sar 0 1 (by decide) (by decide) rfl rfl rfl w) ?_
 simp only [Act.put, Xa, Xz, Xs]
 refine wl_val (.int .u8 ((BitVec.ofInt 8 (v / 1)).toNat : Int)) rfl (fun w => run_low (k := .u8) rfl rfl rfl Try.underlying2 Try.underlying5 w) ?_
 simp only [Act.put, Xa, Xz, Xs]
 refine wl_lit (e := 5) #[.int .u8 ((BitVec.ofInt 8 (v / 1)).toNat : Int)] 1 rfl (fun _ => by go_simp) ?_
 intro g3
 simp only [Act.put, Xa, Xz, Xs]
 refine wl_append (e := 5) (size := 1) (bytes := 1) (m := 1) [⟨g3, #[.int .u8 ((BitVec.ofInt 8 (v / 1)).toNat : Int)], 5⟩, ⟨g1, #[.int .u8 ((BitVec.ofInt 8 (v / 256)).toNat : Int)], 5⟩] [] s2 (ys := flat ub ([by8 (v / 1)])) rfl hs2 (sl_lit 0 (L := [by8 (v / 1)]) rfl rfl) (ub_len1 rfl) (flat_one ub_one _) rfl rfl rfl rfl Try.underlying28 (by unfold Elem; kernel_rfl) (by decide) (by unfold maxLen; omega) (by omega) ?_
 intro s4 hs4
 replace hs4 := has_cast (show _ = flat ub (X ++ ([by8 (v / 256)]) ++ ([by8 (v / 1)])) from by first | exact (flat_append _ _ _).symm | rw [flat_append] <;> rfl) hs4
 simp only [List.cons_append, List.nil_append, Act.put, Xa, Xz, Xs]
 refine wl_val (.slice s4.ptr (5 + 1) s4.cap) rfl (fun _ => rfl) ?_
 simp only [Act.put, Xa, Xz]
 refine wl_nil ?_
 refine we_in ?_
 refine we_then ?_
 refine wc_region ?_
 refine wl_val (.int .i64 2) rfl (fun w => run_nat (X := 1) (Y := 1) (Z := 2) rfl rfl rfl rfl (by omega) w) ?_
 simp only [Act.put, Xa, Xz, Xs]
 refine wl_val (.int .i64 2) rfl (fun _ => rfl) ?_
 simp only [Act.put, Xa, Xz, Xs]
 refine wl_nil ?_
 refine we_round ?_
 refine wr_round ?_
 refine wc_seq ?_
 refine wc_region ?_
 refine wl_val (.bool false) rfl (fun w => run_cmp rfl rfl rfl Try.underlying3 rfl w) ?_
 simp only [Act.put, Xa, Xz, Xs]
 refine wl_nil ?_
 refine we_then ?_
 refine wc_seq ?_
 refine wc_false rfl ?_
 refine wc_exit ?_
 refine we_then_exit ?_
 refine we_then_exit ?_
 refine we_in_here ?_
 refine we_then ?_
 refine wc_seq ?_
 refine wc_region ?_
 refine wl_val (.slice s4.ptr (5 + 1) s4.cap) rfl (fun _ => rfl) ?_
 simp only [Act.put, Xa, Xz, Xs]
 refine wl_val (.slice s4.ptr (5 + 1) s4.cap) rfl (fun _ => rfl) ?_
 simp only [Act.put, Xa, Xz, Xs]
 refine wl_nil ?_
 refine we_then ?_
 refine wc_ret ?_
 refine we_ret1 (.slice s4.ptr (5 + 1) s4.cap) rfl rfl rfl (fun w1 hE => ?_)
 exact ⟨s4, has_list (lay_two X v) rfl hs4, rfl, Env.tail hE (List.Sublist.cons _ (List.Sublist.cons _ (List.Sublist.append_left List.Sublist.slnil _)))⟩
set_option maxHeartbeats 4000000 in
theorem putSegment_own (w0 : World) (B : List Rw) (o : Own) (X : List UInt8) (m : Nat) (s : Sg) (w : World) (hE0 : Env w0 w (o.rows 5 ++ B)) (ho : o.Has 1 m (flat ub X)) (hx : X.length = m) (hm : m ≤ 200000) (hs : OkSg w0 s) (fP : s.P.length ≤ 64) (fX : s.X.length ≤ 2) :
  Calls Try.prog 18 #[.slice o.ptr m o.cap, .agg #[.int .i64 s.len, .slice s.pp s.P.length s.pc, .slice s.np s.X.length s.nc]] w fun e w' => ∃ y : Own, y.Has 1 (m + (segL (dat s)).length) (flat ub (X ++ segL (dat s))) ∧ e = .returned (.slice y.ptr (m + (segL (dat s)).length) y.cap) ∧ Env w0 w' (y.rows 5 ++ B) := by
 refine calls_in hE0 Try.func18 rfl ?_
 simp only [Try.ntmps18, List.size_toArray, List.length_cons, List.length_nil, Nat.reduceAdd, Nat.reduceSub, Array.replicate_succ, Array.replicate_zero, List.push_toArray, List.append_toArray, List.nil_append, List.cons_append]
 refine wc_seq ?_
 refine wc_region ?_
 refine wl_new 54 (#[.int .i64 s.len, .slice s.pp s.P.length s.pc, .slice s.np s.X.length s.nc]) rfl (fun _ => by go_simp) ?_
 intro g1
 simp only [Act.put, Xa, Xz, Xs]
 refine wl_val (.slice none 0 0) rfl (fun _ => rfl) ?_
 simp only [Act.put, Xa, Xz, Xs]
 refine wl_nil ?_
 refine we_then ?_
 refine wc_seq ?_
 refine wc_region ?_
 refine wl_val (.slice o.ptr m o.cap) rfl (fun _ => rfl) ?_
 simp only [Act.put, Xa, Xz, Xs]
 refine wl_val (.pointer (some ⟨g1, 0, none⟩)) rfl (fun _ => by go_simp) ?_
 simp only [Act.put, Xa, Xz, Xs]
 refine wl_cell 2 (.tmp 10) (.int .i64 s.len) (own_row 0 rfl) rfl rfl rfl rfl Try.isAgg2 ?_
 simp only [Act.put, Xa, Xz, Xs]
 refine wl_call_turnv (ι := Own) (e := 5) [⟨g1, #[.int .i64 s.len, .slice s.pp s.P.length s.pc, .slice s.np s.X.length s.nc], 54⟩] B o 17 #[.slice o.ptr m o.cap, .int .i64 8, .int .i64 s.len] (fun (s2 : Own) => .slice s2.ptr (m + 8) s2.cap) (fun (s2 : Own) => s2) (fun (s2 : Own) => s2.Has 1 (m + 8) (flat ub (X ++ pb s.len 8))) rfl rfl (fun _ => by go_simp) (fun W hE => put_own _ _ o X m 8 s.len W hE ho hx (by omega) (by decide) (by decide)) ?_
 rintro s2 hs2
 simp only [List.cons_append, List.nil_append, Act.put, Xa, Xz, Xs]
 refine wl_val (.slice s2.ptr (m + 8) s2.cap) rfl (fun _ => rfl) ?_
 simp only [Act.put, Xa, Xz]
 refine wl_nil ?_
 refine we_then ?_
 refine wc_seq ?_
 refine wc_region ?_
 refine wl_val (.slice s2.ptr (m + 8) s2.cap) rfl (fun _ => rfl) ?_
 simp only [Act.put, Xa, Xz, Xs]
 refine wl_val (.pointer (some ⟨g1, 1, none⟩)) rfl (fun _ => by go_simp) ?_
 simp only [Act.put, Xa, Xz, Xs]
 refine wl_cell 51 (.tmp 14) (.slice s.pp s.P.length s.pc) (own_row 0 rfl) rfl rfl rfl rfl Try.isAgg51 ?_
 simp only [Act.put, Xa, Xz, Xs]
 refine wl_val (.int .i64 (s.P.length : Int)) rfl (fun w => er_len rfl rfl Try.underlying51 w) ?_
 simp only [Act.put, Xa, Xz, Xs]
 refine wl_call_turnv (ι := Own) (e := 5) [⟨g1, #[.int .i64 s.len, .slice s.pp s.P.length s.pc, .slice s.np s.X.length s.nc], 54⟩] B s2 17 #[.slice s2.ptr (m + 8) s2.cap, .int .i64 1, .int .i64 (s.P.length : Int)] (fun (s3 : Own) => .slice s3.ptr (m + 8 + 1) s3.cap) (fun (s3 : Own) => s3) (fun (s3 : Own) => s3.Has 1 (m + 8 + 1) (flat ub (X ++ pb s.len 8 ++ pb (s.P.length : Int) 1))) rfl rfl (fun _ => by go_simp) (fun W hE => put_own _ _ s2 (X ++ pb s.len 8) (m + 8) 1 (s.P.length : Int) W hE hs2 (lay_len hx _ _) (by omega) (by decide) (by decide)) ?_
 rintro s3 hs3
 simp only [List.cons_append, List.nil_append, Act.put, Xa, Xz, Xs]
 refine wl_val (.slice s3.ptr (m + 8 + 1) s3.cap) rfl (fun _ => rfl) ?_
 simp only [Act.put, Xa, Xz]
 refine wl_nil ?_
 refine we_then ?_
 refine wc_seq ?_
 refine wc_seq ?_
 refine wc_region ?_
 refine wl_val (.pointer (some ⟨g1, 1, none⟩)) rfl (fun _ => by go_simp) ?_
 simp only [Act.put, Xa, Xz, Xs]
 refine wl_cell 51 (.tmp 18) (.slice s.pp s.P.length s.pc) (own_row 0 rfl) rfl rfl rfl rfl Try.isAgg51 ?_
 simp only [Act.put, Xa, Xz, Xs]
 refine wl_val (.int .i64 (s.P.length : Int)) rfl (fun w => er_len rfl rfl Try.underlying51 w) ?_
 simp only [Act.put, Xa, Xz, Xs]
 refine wl_val (.int .i64 0) rfl (fun _ => rfl) ?_
 simp only [Act.put, Xa, Xz, Xs]
 refine wl_nil ?_
 refine we_then ?_
 refine wc_block ?_
 refine wc_loop (fun (zz : Nat × Nat × Own × Value × Value × Value × Value × Value × Value × Value × Value × Value × Value × Value × Value × Value) => match zz with | ⟨k, l, u, u6, u22, u23, u24, u25, u26, u27, u28, u29, u30, u31, u32, u33⟩ => ({ tmps := #[.slice u.ptr l u.cap, .agg #[.int .i64 s.len, .slice s.pp s.P.length s.pc, .slice s.np s.X.length s.nc], undef, .pointer (some ⟨g1, 0, none⟩), .slice none 0 0, undef, u6, undef, undef, .slice o.ptr m o.cap, .pointer (some ⟨g1, 0, none⟩), .int .i64 s.len, .slice s2.ptr (m + 8) s2.cap, .slice s2.ptr (m + 8) s2.cap, .pointer (some ⟨g1, 1, none⟩), .slice s.pp s.P.length s.pc, .int .i64 (s.P.length : Int), .slice s3.ptr (m + 8 + 1) s3.cap, .pointer (some ⟨g1, 1, none⟩), .slice s.pp s.P.length s.pc, .int .i64 (s.P.length : Int), .int .i64 (k : Int), u22, u23, u24, u25, u26, u27, u28, u29, u30, u31, u32, u33, undef, undef, undef, undef, undef, undef, undef, undef, undef, undef, undef, undef, undef, undef, undef, undef, undef], defers := [] } : Act)) (fun (zz : Nat × Nat × Own × Value × Value × Value × Value × Value × Value × Value × Value × Value × Value × Value × Value × Value) => match zz with | ⟨k, l, u, u6, u22, u23, u24, u25, u26, u27, u28, u29, u30, u31, u32, u33⟩ => ⟨g1, #[.int .i64 s.len, .slice s.pp s.P.length s.pc, .slice s.np s.X.length s.nc], 54⟩ :: (u.rows 5 ++ B)) (fun (zz : Nat × Nat × Own × Value × Value × Value × Value × Value × Value × Value × Value × Value × Value × Value × Value × Value) => match zz with | ⟨k, l, u, u6, u22, u23, u24, u25, u26, u27, u28, u29, u30, u31, u32, u33⟩ => k ≤ s.P.length ∧ (S2 X s k).length = l ∧ u.Has 1 l (flat ub (S2 X s k))) (fun (zz : Nat × Nat × Own × Value × Value × Value × Value × Value × Value × Value × Value × Value × Value × Value × Value × Value) => match zz with | ⟨k, l, u, u6, u22, u23, u24, u25, u26, u27, u28, u29, u30, u31, u32, u33⟩ => s.P.length - k) ⟨0, (m + 8 + 1), s3, _, _, _, _, _, _, _, _, _, _, _, _, _⟩ ⟨Nat.zero_le _, (congrArg List.length (S2_0 X s)).symm.trans (lay_len (lay_len hx _ _) _ _), (has_cast (congrArg (flat ub) (S2_0 X s)) hs3)⟩ rfl (List.Sublist.cons_cons _ (List.Sublist.append_left (List.Sublist.refl _) _)) ?_
 rintro ⟨k, l, u, u6, u22, u23, u24, u25, u26, u27, u28, u29, u30, u31, u32, u33⟩ hφ
 (try dsimp only at hφ ⊢)
 obtain ⟨c1, c2, c3⟩ := hφ
 have c4 := S2_le (X := X) fP k
 refine wc_seq ?_
 refine wc_region ?_
 refine wl_val (.bool (decide ((k : Int) < (s.P.length : Int)))) rfl (fun w => run_cmp rfl rfl rfl Try.underlying3 rfl w) ?_
 simp only [Act.put, Xa, Xz, Xs]
 refine wl_nil ?_
 refine we_then ?_
 refine wc_seq ?_
 cases h4 : (decide ((k : Int) < (s.P.length : Int)))
 ·
  skip
  have p4 : ¬ ((k : Int) < (s.P.length : Int)) := of_decide_eq_false h4
  refine wc_false rfl ?_
  refine wc_exit ?_
  refine we_then_exit ?_
  refine we_then_exit ?_
  refine we_in_here ?_
  refine we_then ?_
  refine wc_seq ?_
  have e1 : k = s.P.length := by omega
  rw [e1] at c2 c3 c4
  refine wc_region ?_
  refine wl_val (.slice u.ptr l u.cap) rfl (fun _ => rfl) ?_
  simp only [Act.put, Xa, Xz, Xs]
  refine wl_val (.pointer (some ⟨g1, 2, none⟩)) rfl (fun _ => by go_simp) ?_
  simp only [Act.put, Xa, Xz, Xs]
  refine wl_cell 52 (.tmp 35) (.slice s.np s.X.length s.nc) (own_row 0 rfl) rfl rfl rfl rfl Try.isAgg52 ?_
  simp only [Act.put, Xa, Xz, Xs]
  refine wl_val (.int .i64 (s.X.length : Int)) rfl (fun w => er_len rfl rfl Try.underlying52 w) ?_
  simp only [Act.put, Xa, Xz, Xs]
  refine wl_call_turnv (ι := Own) (e := 5) [⟨g1, #[.int .i64 s.len, .slice s.pp s.P.length s.pc, .slice s.np s.X.length s.nc], 54⟩] B u 17 #[.slice u.ptr l u.cap, .int .i64 1, .int .i64 (s.X.length : Int)] (fun (s5 : Own) => .slice s5.ptr (l + 1) s5.cap) (fun (s5 : Own) => s5) (fun (s5 : Own) => s5.Has 1 (l + 1) (flat ub ((S2 X s s.P.length) ++ pb (s.X.length : Int) 1))) rfl rfl (fun _ => by go_simp) (fun W hE => put_own _ _ u (S2 X s s.P.length) l 1 (s.X.length : Int) W hE c3 c2 (by omega) (by decide) (by decide)) ?_
  rintro s5 hs5
  simp only [List.cons_append, List.nil_append, Act.put, Xa, Xz, Xs]
  refine wl_val (.slice s5.ptr (l + 1) s5.cap) rfl (fun _ => rfl) ?_
  simp only [Act.put, Xa, Xz]
  refine wl_nil ?_
  refine we_then ?_
  refine wc_seq ?_
  refine wc_seq ?_
  refine wc_region ?_
  refine wl_val (.pointer (some ⟨g1, 2, none⟩)) rfl (fun _ => by go_simp) ?_
  simp only [Act.put, Xa, Xz, Xs]
  refine wl_cell 52 (.tmp 39) (.slice s.np s.X.length s.nc) (own_row 0 rfl) rfl rfl rfl rfl Try.isAgg52 ?_
  simp only [Act.put, Xa, Xz, Xs]
  refine wl_val (.int .i64 (s.X.length : Int)) rfl (fun w => er_len rfl rfl Try.underlying52 w) ?_
  simp only [Act.put, Xa, Xz, Xs]
  refine wl_val (.int .i64 0) rfl (fun _ => rfl) ?_
  simp only [Act.put, Xa, Xz, Xs]
  refine wl_nil ?_
  refine we_then ?_
  refine wc_block ?_
  refine wc_loop (fun (zz : Nat × Nat × Own × Value × Value × Value × Value × Value × Value × Value × Value) => match zz with | ⟨j, l2, x, u8, u43, u44, u45, u46, u47, u48, u49⟩ => ({ tmps := #[.slice x.ptr l2 x.cap, .agg #[.int .i64 s.len, .slice s.pp s.P.length s.pc, .slice s.np s.X.length s.nc], undef, .pointer (some ⟨g1, 0, none⟩), .slice none 0 0, undef, u6, undef, u8, .slice o.ptr m o.cap, .pointer (some ⟨g1, 0, none⟩), .int .i64 s.len, .slice s2.ptr (m + 8) s2.cap, .slice s2.ptr (m + 8) s2.cap, .pointer (some ⟨g1, 1, none⟩), .slice s.pp s.P.length s.pc, .int .i64 (s.P.length : Int), .slice s3.ptr (m + 8 + 1) s3.cap, .pointer (some ⟨g1, 1, none⟩), .slice s.pp s.P.length s.pc, .int .i64 (s.P.length : Int), .int .i64 (k : Int), .bool false, u23, u24, u25, u26, u27, u28, u29, u30, u31, u32, u33, .slice u.ptr l u.cap, .pointer (some ⟨g1, 2, none⟩), .slice s.np s.X.length s.nc, .int .i64 (s.X.length : Int), .slice s5.ptr (l + 1) s5.cap, .pointer (some ⟨g1, 2, none⟩), .slice s.np s.X.length s.nc, .int .i64 (s.X.length : Int), .int .i64 (j : Int), u43, u44, u45, u46, u47, u48, u49, undef], defers := [] } : Act)) (fun (zz : Nat × Nat × Own × Value × Value × Value × Value × Value × Value × Value × Value) => match zz with | ⟨j, l2, x, u8, u43, u44, u45, u46, u47, u48, u49⟩ => ⟨g1, #[.int .i64 s.len, .slice s.pp s.P.length s.pc, .slice s.np s.X.length s.nc], 54⟩ :: (x.rows 5 ++ B)) (fun (zz : Nat × Nat × Own × Value × Value × Value × Value × Value × Value × Value × Value) => match zz with | ⟨j, l2, x, u8, u43, u44, u45, u46, u47, u48, u49⟩ => j ≤ s.X.length ∧ (S3 X s j).length = l2 ∧ x.Has 1 l2 (flat ub (S3 X s j))) (fun (zz : Nat × Nat × Own × Value × Value × Value × Value × Value × Value × Value × Value) => match zz with | ⟨j, l2, x, u8, u43, u44, u45, u46, u47, u48, u49⟩ => s.X.length - j) ⟨0, (l + 1), s5, _, _, _, _, _, _, _, _⟩ ⟨Nat.zero_le _, (congrArg List.length (S3_0 X s)).symm.trans (lay_len c2 _ _), (has_cast (congrArg (flat ub) (S3_0 X s)) hs5)⟩ rfl (List.Sublist.cons_cons _ (List.Sublist.append_left (List.Sublist.refl _) _)) ?_
  rintro ⟨j, l2, x, u8, u43, u44, u45, u46, u47, u48, u49⟩ hφ
  (try dsimp only at hφ ⊢)
  obtain ⟨d1, d2, d3⟩ := hφ
  have d4 := S3_le (X := X) fP fX j
  refine wc_seq ?_
  refine wc_region ?_
  refine wl_val (.bool (decide ((j : Int) < (s.X.length : Int)))) rfl (fun w => run_cmp rfl rfl rfl Try.underlying3 rfl w) ?_
  simp only [Act.put, Xa, Xz, Xs]
  refine wl_nil ?_
  refine we_then ?_
  refine wc_seq ?_
  cases h6 : (decide ((j : Int) < (s.X.length : Int)))
  ·
   skip
   have p6 : ¬ ((j : Int) < (s.X.length : Int)) := of_decide_eq_false h6
   refine wc_false rfl ?_
   refine wc_exit ?_
   refine we_then_exit ?_
   refine we_then_exit ?_
   refine we_in_here ?_
   refine we_then ?_
   refine wc_seq ?_
   refine wc_region ?_
   refine wl_val (.slice x.ptr l2 x.cap) rfl (fun _ => rfl) ?_
   simp only [Act.put, Xa, Xz, Xs]
   refine wl_val (.slice x.ptr l2 x.cap) rfl (fun _ => rfl) ?_
   simp only [Act.put, Xa, Xz, Xs]
   refine wl_nil ?_
   refine we_then ?_
   refine wc_ret ?_
   refine we_ret1 (.slice x.ptr l2 x.cap) rfl rfl rfl (fun w1 hE => ?_)
   have e2 : j = s.X.length := by omega
   subst e2
   have el : l2 = m + (segL (dat s)).length := by rw [← d2, S3_all, List.length_append, hx]
   exact ⟨x, has_list (S3_all X s) el d3, by rw [el], hE.sub (List.Sublist.cons _ (List.Sublist.append_left (List.Sublist.refl _) _))⟩
  ·
   skip
   have p6 : (j : Int) < (s.X.length : Int) := of_decide_eq_true h6
   refine wc_true rfl ?_
   refine wc_skip ?_
   refine we_then ?_
   refine wc_seq ?_
   refine wc_block ?_
   refine wc_seq ?_
   refine wc_region ?_
   refine wl_read (eaddr s.np (j * 1)) rfl (er_index j 1 (sl_old hs.x) rfl rfl rfl rfl (by omega) (flat_length (enc := enc1) (size := 1) (fun _ => rfl) _) (by decide) Try.underlying52 (by kernel_rfl)) ?_
   simp only [Act.put, Xa, Xz, Xs]
   refine wl_read (.int .i64 (s.X[j]!)) rfl (er_cell (j * 1) (.int .i64 (s.X[j]!)) (sl_old hs.x) rfl rfl (flat_cell (enc := enc1) (fun _ => rfl) s.X j 0 (by omega) (by decide)) Try.isAgg3) ?_
   simp only [Act.put, Xa, Xz, Xs]
   refine wl_val (.int .i64 (s.X[j]!)) rfl (fun _ => rfl) ?_
   simp only [Act.put, Xa, Xz, Xs]
   refine wl_nil ?_
   refine we_then ?_
   refine wc_region ?_
   refine wl_val (.slice x.ptr l2 x.cap) rfl (fun _ => rfl) ?_
   simp only [Act.put, Xa, Xz, Xs]
   refine wl_val (.int .i64 (s.X[j]!)) rfl (fun _ => rfl) ?_
   simp only [Act.put, Xa, Xz, Xs]
   refine wl_call_turnv (ι := Own) (e := 5) [⟨g1, #[.int .i64 s.len, .slice s.pp s.P.length s.pc, .slice s.np s.X.length s.nc], 54⟩] B x 17 #[.slice x.ptr l2 x.cap, .int .i64 1, .int .i64 (s.X[j]!)] (fun (s7 : Own) => .slice s7.ptr (l2 + 1) s7.cap) (fun (s7 : Own) => s7) (fun (s7 : Own) => s7.Has 1 (l2 + 1) (flat ub ((S3 X s j) ++ pb (s.X[j]!) 1))) rfl rfl (fun _ => by go_simp) (fun W hE => put_own _ _ x (S3 X s j) l2 1 (s.X[j]!) W hE d3 d2 (by omega) (by decide) (by decide)) ?_
   rintro s7 hs7
   simp only [List.cons_append, List.nil_append, Act.put, Xa, Xz, Xs]
   refine wl_val (.slice s7.ptr (l2 + 1) s7.cap) rfl (fun _ => rfl) ?_
   simp only [Act.put, Xa, Xz]
   refine wl_nil ?_
   refine we_in ?_
   refine we_then ?_
   refine wc_region ?_
   refine wl_val (.int .i64 ((j + 1 : Nat) : Int)) rfl (fun w => run_nat (X := j) (Y := 1) (Z := j + 1) rfl rfl rfl rfl (by omega) w) ?_
   simp only [Act.put, Xa, Xz, Xs]
   refine wl_val (.int .i64 ((j + 1 : Nat) : Int)) rfl (fun _ => rfl) ?_
   simp only [Act.put, Xa, Xz, Xs]
   refine wl_nil ?_
   exact we_meet ⟨(j + 1), (l2 + 1), s7, _, _, _, _, _, _, _, _⟩ (by (try dsimp only); exact ⟨⟨by omega, (congrArg List.length (S3_s X s j (by omega))).symm.trans (lay_len d2 _ _), (has_cast (congrArg (flat ub) (S3_s X s j (by omega))) hs7)⟩, by omega⟩) rfl (List.Sublist.cons_cons _ (List.Sublist.append_left (List.Sublist.refl _) _))
 ·
  skip
  have p4 : (k : Int) < (s.P.length : Int) := of_decide_eq_true h4
  refine wc_true rfl ?_
  refine wc_skip ?_
  refine we_then ?_
  refine wc_seq ?_
  refine wc_block ?_
  refine wc_seq ?_
  refine wc_region ?_
  refine wl_read (eaddr s.pp (k * 2)) rfl (er_index k 2 (sl_old hs.p) rfl rfl rfl rfl (by omega) (flat_length (enc := enc2) (size := 2) (fun _ => rfl) _) (by decide) Try.underlying51 (by kernel_rfl)) ?_
  simp only [Act.put, Xa, Xz, Xs]
  refine wl_read (.agg #[.int .i64 ((s.P[k]!).1), .int .i64 ((s.P[k]!).2)]) rfl (er_part (k * 2) [.int .i64 ((s.P[k]!).1), .int .i64 ((s.P[k]!).2)] (sl_old hs.p) rfl rfl (flat_part (enc := enc2) (fun _ => rfl) s.P k (by omega)) (Nat.zero_lt_succ _) Try.underlying50 rfl (by kernel_rfl)) ?_
  simp only [Act.put, Xa, Xz, Xs]
  refine wl_new 50 (#[.int .i64 0, .int .i64 0]) rfl (fun _ => by go_simp) ?_
  intro g8
  simp only [Act.put, Xa, Xz, Xs]
  refine wl_store 0 50 (.tmp 6) (.tmp 24) (#[.int .i64 ((s.P[k]!).1), .int .i64 ((s.P[k]!).2)]) rfl rfl rfl rfl rfl (by kernel_rfl) rfl (by simp [Value.oneCell']) ?_
  simp only [Act.put, List.set_cons_zero]
  refine wl_nil ?_
  refine we_then ?_
  refine wc_seq ?_
  refine wc_region ?_
  refine wl_val (.slice u.ptr l u.cap) rfl (fun _ => rfl) ?_
  simp only [Act.put, Xa, Xz, Xs]
  refine wl_val (.pointer (some ⟨g8, 0, none⟩)) rfl (fun _ => by go_simp) ?_
  simp only [Act.put, Xa, Xz, Xs]
  refine wl_cell 2 (.tmp 26) (.int .i64 ((s.P[k]!).1)) (own_row 0 rfl) rfl rfl rfl rfl Try.isAgg2 ?_
  simp only [Act.put, Xa, Xz, Xs]
  refine wl_call_turnv (ι := Own) (e := 5) [⟨g8, #[.int .i64 ((s.P[k]!).1), .int .i64 ((s.P[k]!).2)], 50⟩, ⟨g1, #[.int .i64 s.len, .slice s.pp s.P.length s.pc, .slice s.np s.X.length s.nc], 54⟩] B u 17 #[.slice u.ptr l u.cap, .int .i64 8, .int .i64 ((s.P[k]!).1)] (fun (s9 : Own) => .slice s9.ptr (l + 8) s9.cap) (fun (s9 : Own) => s9) (fun (s9 : Own) => s9.Has 1 (l + 8) (flat ub ((S2 X s k) ++ pb ((s.P[k]!).1) 8))) rfl rfl (fun _ => by go_simp) (fun W hE => put_own _ _ u (S2 X s k) l 8 ((s.P[k]!).1) W hE c3 c2 (by omega) (by decide) (by decide)) ?_
  rintro s9 hs9
  simp only [List.cons_append, List.nil_append, Act.put, Xa, Xz, Xs]
  refine wl_val (.slice s9.ptr (l + 8) s9.cap) rfl (fun _ => rfl) ?_
  simp only [Act.put, Xa, Xz]
  refine wl_nil ?_
  refine we_then ?_
  refine wc_region ?_
  refine wl_val (.slice s9.ptr (l + 8) s9.cap) rfl (fun _ => rfl) ?_
  simp only [Act.put, Xa, Xz, Xs]
  refine wl_val (.pointer (some ⟨g8, 1, none⟩)) rfl (fun _ => by go_simp) ?_
  simp only [Act.put, Xa, Xz, Xs]
  refine wl_cell 2 (.tmp 30) (.int .i64 ((s.P[k]!).2)) (own_row 0 rfl) rfl rfl rfl rfl Try.isAgg2 ?_
  simp only [Act.put, Xa, Xz, Xs]
  refine wl_call_turnv (ι := Own) (e := 5) [⟨g8, #[.int .i64 ((s.P[k]!).1), .int .i64 ((s.P[k]!).2)], 50⟩, ⟨g1, #[.int .i64 s.len, .slice s.pp s.P.length s.pc, .slice s.np s.X.length s.nc], 54⟩] B s9 17 #[.slice s9.ptr (l + 8) s9.cap, .int .i64 4, .int .i64 ((s.P[k]!).2)] (fun (s10 : Own) => .slice s10.ptr (l + 8 + 4) s10.cap) (fun (s10 : Own) => s10) (fun (s10 : Own) => s10.Has 1 (l + 8 + 4) (flat ub ((S2 X s k) ++ pb ((s.P[k]!).1) 8 ++ pb ((s.P[k]!).2) 4))) rfl rfl (fun _ => by go_simp) (fun W hE => put_own _ _ s9 ((S2 X s k) ++ pb ((s.P[k]!).1) 8) (l + 8) 4 ((s.P[k]!).2) W hE hs9 (lay_len c2 _ _) (by omega) (by decide) (by decide)) ?_
  rintro s10 hs10
  simp only [List.cons_append, List.nil_append, Act.put, Xa, Xz, Xs]
  refine wl_val (.slice s10.ptr (l + 8 + 4) s10.cap) rfl (fun _ => rfl) ?_
  simp only [Act.put, Xa, Xz]
  refine wl_nil ?_
  refine we_in ?_
  refine we_then ?_
  refine wc_region ?_
  refine wl_val (.int .i64 ((k + 1 : Nat) : Int)) rfl (fun w => run_nat (X := k) (Y := 1) (Z := k + 1) rfl rfl rfl rfl (by omega) w) ?_
  simp only [Act.put, Xa, Xz, Xs]
  refine wl_val (.int .i64 ((k + 1 : Nat) : Int)) rfl (fun _ => rfl) ?_
  simp only [Act.put, Xa, Xz, Xs]
  refine wl_nil ?_
  exact we_meet ⟨(k + 1), (l + 8 + 4), s10, _, _, _, _, _, _, _, _, _, _, _, _, _⟩ (by (try dsimp only); exact ⟨⟨by omega, (congrArg List.length (S2_s X s k (by omega))).symm.trans (lay_len (lay_len c2 _ _) _ _), (has_cast (congrArg (flat ub) (S2_s X s k (by omega))) hs10)⟩, by omega⟩) rfl (List.Sublist.cons _ (List.Sublist.cons_cons _ (List.Sublist.append_left (List.Sublist.refl _) _)))
set_option maxHeartbeats 2000000 in
theorem putGroup_own (w0 : World) (B : List Rw) (o : Own) (X : List UInt8) (m : Nat) (g : Gp) (w : World) (hE0 : Env w0 w (o.rows 5 ++ B)) (ho : o.Has 1 m (flat ub X)) (hx : X.length = m) (hm : m ≤ 200000) :
  Calls Try.prog 19 #[.slice o.ptr m o.cap, .agg #[.int .i64 g.id, .int .i64 g.seg, .int .i64 g.off, .int .i64 g.acc, .int .i64 g.slack]] w fun e w' => ∃ y : Own, y.Has 1 (m + (grpL g).length) (flat ub (X ++ grpL g)) ∧ e = .returned (.slice y.ptr (m + (grpL g).length) y.cap) ∧ Env w0 w' (y.rows 5 ++ B) := by
 refine calls_in hE0 Try.func19 rfl ?_
 simp only [Try.ntmps19, List.size_toArray, List.length_cons, List.length_nil, Nat.reduceAdd, Nat.reduceSub, Array.replicate_succ, Array.replicate_zero, List.push_toArray, List.append_toArray, List.nil_append, List.cons_append]
 refine wc_seq ?_
 refine wc_region ?_
 refine wl_new 60 (#[.int .i64 g.id, .int .i64 g.seg, .int .i64 g.off, .int .i64 g.acc, .int .i64 g.slack]) rfl (fun _ => by go_simp) ?_
 intro g1
 simp only [Act.put, Xa, Xz, Xs]
 refine wl_val (.slice none 0 0) rfl (fun _ => rfl) ?_
 simp only [Act.put, Xa, Xz, Xs]
 refine wl_nil ?_
 refine we_then ?_
 refine wc_seq ?_
 refine wc_region ?_
 refine wl_val (.slice o.ptr m o.cap) rfl (fun _ => rfl) ?_
 simp only [Act.put, Xa, Xz, Xs]
 refine wl_val (.pointer (some ⟨g1, 0, none⟩)) rfl (fun _ => by go_simp) ?_
 simp only [Act.put, Xa, Xz, Xs]
 refine wl_cell 3 (.tmp 6) (.int .i64 g.id) (own_row 0 rfl) rfl rfl rfl rfl Try.isAgg3 ?_
 simp only [Act.put, Xa, Xz, Xs]
 refine wl_call_turnv (ι := Own) (e := 5) [⟨g1, #[.int .i64 g.id, .int .i64 g.seg, .int .i64 g.off, .int .i64 g.acc, .int .i64 g.slack], 60⟩] B o 17 #[.slice o.ptr m o.cap, .int .i64 2, .int .i64 g.id] (fun (s2 : Own) => .slice s2.ptr (m + 2) s2.cap) (fun (s2 : Own) => s2) (fun (s2 : Own) => s2.Has 1 (m + 2) (flat ub (X ++ pb g.id 2))) rfl rfl (fun _ => by go_simp) (fun W hE => put_own _ _ o X m 2 g.id W hE ho hx (by omega) (by decide) (by decide)) ?_
 rintro s2 hs2
 simp only [List.cons_append, List.nil_append, Act.put, Xa, Xz, Xs]
 refine wl_val (.slice s2.ptr (m + 2) s2.cap) rfl (fun _ => rfl) ?_
 simp only [Act.put, Xa, Xz]
 refine wl_nil ?_
 refine we_then ?_
 refine wc_seq ?_
 refine wc_region ?_
 refine wl_val (.slice s2.ptr (m + 2) s2.cap) rfl (fun _ => rfl) ?_
 simp only [Act.put, Xa, Xz, Xs]
 refine wl_val (.pointer (some ⟨g1, 1, none⟩)) rfl (fun _ => by go_simp) ?_
 simp only [Act.put, Xa, Xz, Xs]
 refine wl_cell 3 (.tmp 10) (.int .i64 g.seg) (own_row 0 rfl) rfl rfl rfl rfl Try.isAgg3 ?_
 simp only [Act.put, Xa, Xz, Xs]
 refine wl_call_turnv (ι := Own) (e := 5) [⟨g1, #[.int .i64 g.id, .int .i64 g.seg, .int .i64 g.off, .int .i64 g.acc, .int .i64 g.slack], 60⟩] B s2 17 #[.slice s2.ptr (m + 2) s2.cap, .int .i64 1, .int .i64 g.seg] (fun (s3 : Own) => .slice s3.ptr (m + 2 + 1) s3.cap) (fun (s3 : Own) => s3) (fun (s3 : Own) => s3.Has 1 (m + 2 + 1) (flat ub (X ++ pb g.id 2 ++ pb g.seg 1))) rfl rfl (fun _ => by go_simp) (fun W hE => put_own _ _ s2 (X ++ pb g.id 2) (m + 2) 1 g.seg W hE hs2 (lay_len hx _ _) (by omega) (by decide) (by decide)) ?_
 rintro s3 hs3
 simp only [List.cons_append, List.nil_append, Act.put, Xa, Xz, Xs]
 refine wl_val (.slice s3.ptr (m + 2 + 1) s3.cap) rfl (fun _ => rfl) ?_
 simp only [Act.put, Xa, Xz]
 refine wl_nil ?_
 refine we_then ?_
 refine wc_seq ?_
 refine wc_region ?_
 refine wl_val (.slice s3.ptr (m + 2 + 1) s3.cap) rfl (fun _ => rfl) ?_
 simp only [Act.put, Xa, Xz, Xs]
 refine wl_val (.pointer (some ⟨g1, 2, none⟩)) rfl (fun _ => by go_simp) ?_
 simp only [Act.put, Xa, Xz, Xs]
 refine wl_cell 2 (.tmp 14) (.int .i64 g.off) (own_row 0 rfl) rfl rfl rfl rfl Try.isAgg2 ?_
 simp only [Act.put, Xa, Xz, Xs]
 refine wl_call_turnv (ι := Own) (e := 5) [⟨g1, #[.int .i64 g.id, .int .i64 g.seg, .int .i64 g.off, .int .i64 g.acc, .int .i64 g.slack], 60⟩] B s3 17 #[.slice s3.ptr (m + 2 + 1) s3.cap, .int .i64 8, .int .i64 g.off] (fun (s4 : Own) => .slice s4.ptr (m + 2 + 1 + 8) s4.cap) (fun (s4 : Own) => s4) (fun (s4 : Own) => s4.Has 1 (m + 2 + 1 + 8) (flat ub (X ++ pb g.id 2 ++ pb g.seg 1 ++ pb g.off 8))) rfl rfl (fun _ => by go_simp) (fun W hE => put_own _ _ s3 (X ++ pb g.id 2 ++ pb g.seg 1) (m + 2 + 1) 8 g.off W hE hs3 (lay_len (lay_len hx _ _) _ _) (by omega) (by decide) (by decide)) ?_
 rintro s4 hs4
 simp only [List.cons_append, List.nil_append, Act.put, Xa, Xz, Xs]
 refine wl_val (.slice s4.ptr (m + 2 + 1 + 8) s4.cap) rfl (fun _ => rfl) ?_
 simp only [Act.put, Xa, Xz]
 refine wl_nil ?_
 refine we_then ?_
 refine wc_seq ?_
 refine wc_region ?_
 refine wl_val (.slice s4.ptr (m + 2 + 1 + 8) s4.cap) rfl (fun _ => rfl) ?_
 simp only [Act.put, Xa, Xz, Xs]
 refine wl_val (.pointer (some ⟨g1, 3, none⟩)) rfl (fun _ => by go_simp) ?_
 simp only [Act.put, Xa, Xz, Xs]
 refine wl_cell 2 (.tmp 18) (.int .i64 g.acc) (own_row 0 rfl) rfl rfl rfl rfl Try.isAgg2 ?_
 simp only [Act.put, Xa, Xz, Xs]
 refine wl_call_turnv (ι := Own) (e := 5) [⟨g1, #[.int .i64 g.id, .int .i64 g.seg, .int .i64 g.off, .int .i64 g.acc, .int .i64 g.slack], 60⟩] B s4 17 #[.slice s4.ptr (m + 2 + 1 + 8) s4.cap, .int .i64 4, .int .i64 g.acc] (fun (s5 : Own) => .slice s5.ptr (m + 2 + 1 + 8 + 4) s5.cap) (fun (s5 : Own) => s5) (fun (s5 : Own) => s5.Has 1 (m + 2 + 1 + 8 + 4) (flat ub (X ++ pb g.id 2 ++ pb g.seg 1 ++ pb g.off 8 ++ pb g.acc 4))) rfl rfl (fun _ => by go_simp) (fun W hE => put_own _ _ s4 (X ++ pb g.id 2 ++ pb g.seg 1 ++ pb g.off 8) (m + 2 + 1 + 8) 4 g.acc W hE hs4 (lay_len (lay_len (lay_len hx _ _) _ _) _ _) (by omega) (by decide) (by decide)) ?_
 rintro s5 hs5
 simp only [List.cons_append, List.nil_append, Act.put, Xa, Xz, Xs]
 refine wl_val (.slice s5.ptr (m + 2 + 1 + 8 + 4) s5.cap) rfl (fun _ => rfl) ?_
 simp only [Act.put, Xa, Xz]
 refine wl_nil ?_
 refine we_then ?_
 refine wc_seq ?_
 refine wc_region ?_
 refine wl_val (.slice s5.ptr (m + 2 + 1 + 8 + 4) s5.cap) rfl (fun _ => rfl) ?_
 simp only [Act.put, Xa, Xz, Xs]
 refine wl_val (.pointer (some ⟨g1, 4, none⟩)) rfl (fun _ => by go_simp) ?_
 simp only [Act.put, Xa, Xz, Xs]
 refine wl_cell 2 (.tmp 22) (.int .i64 g.slack) (own_row 0 rfl) rfl rfl rfl rfl Try.isAgg2 ?_
 simp only [Act.put, Xa, Xz, Xs]
 refine wl_call_turnv (ι := Own) (e := 5) [⟨g1, #[.int .i64 g.id, .int .i64 g.seg, .int .i64 g.off, .int .i64 g.acc, .int .i64 g.slack], 60⟩] B s5 17 #[.slice s5.ptr (m + 2 + 1 + 8 + 4) s5.cap, .int .i64 4, .int .i64 g.slack] (fun (s6 : Own) => .slice s6.ptr (m + 2 + 1 + 8 + 4 + 4) s6.cap) (fun (s6 : Own) => s6) (fun (s6 : Own) => s6.Has 1 (m + 2 + 1 + 8 + 4 + 4) (flat ub (X ++ pb g.id 2 ++ pb g.seg 1 ++ pb g.off 8 ++ pb g.acc 4 ++ pb g.slack 4))) rfl rfl (fun _ => by go_simp) (fun W hE => put_own _ _ s5 (X ++ pb g.id 2 ++ pb g.seg 1 ++ pb g.off 8 ++ pb g.acc 4) (m + 2 + 1 + 8 + 4) 4 g.slack W hE hs5 (lay_len (lay_len (lay_len (lay_len hx _ _) _ _) _ _) _ _) (by omega) (by decide) (by decide)) ?_
 rintro s6 hs6
 simp only [List.cons_append, List.nil_append, Act.put, Xa, Xz, Xs]
 refine wl_val (.slice s6.ptr (m + 2 + 1 + 8 + 4 + 4) s6.cap) rfl (fun _ => rfl) ?_
 simp only [Act.put, Xa, Xz, Xs]
 refine wl_nil ?_
 refine we_then ?_
 refine wc_ret ?_
 refine we_ret1 (.slice s6.ptr (m + 2 + 1 + 8 + 4 + 4) s6.cap) rfl rfl rfl (fun w1 hE => ?_)
 exact ⟨s6, has_list (grp_lay X g) (by rw [grpL_len]) hs6, by rw [grpL_len], hE.sub (List.Sublist.cons _ (List.Sublist.append_left (List.Sublist.refl _) _))⟩
theorem seal_at (L : List UInt8) (p : Option Addr) (n c : Nat) (w : World) (hl : L.length = n) (hL : Reads w p (flat ub L)) (hn : L.length ≤ 1000000) :
  Calls Try.prog 20 #[.slice p n c] w fun e w' => ∃ g : Nat, True ∧ e = .returned (.slice (some ⟨g, 0, none⟩) (n + 2) (n + 2)) ∧ Env w w' [⟨g, (flat ub (seal_ L)).toArray, 5⟩] := by
 subst hl
 exact Crc.seal_any L p c w hL hn
set_option maxHeartbeats 8000000 in
theorem pack_any (G : List Sg) (H : List Gp) (p q : Option Addr) (c d : Nat) (w : World) (hS : Reads w p (flat sg G)) (hG : OkS w G) (hH : Reads w q (flat gp H)) (hn : G.length ≤ 140737488355328) (hm : H.length ≤ 140737488355328) :
  Calls Try.prog 9 #[.agg #[.slice p G.length c, .slice q H.length d]] w fun e w' => ∃ z : Bs, BsOk (packL G H) z ∧ e = .returned (.tuple #[.slice z.p (packL G H).length z.c, .int .i64 ((packE G H : Nat) : Int)]) ∧ Env w w' z.N := by
 refine calls_sx Try.func9 rfl ?_
 simp only [Try.ntmps9, List.size_toArray, List.length_cons, List.length_nil, Nat.reduceAdd, Nat.reduceSub, Array.replicate_succ, Array.replicate_zero, List.push_toArray, List.append_toArray, List.nil_append, List.cons_append]
 refine wc_seq ?_
 refine wc_region ?_
 refine wl_new 25 (#[.slice p G.length c, .slice q H.length d]) rfl (fun _ => by go_simp) ?_
 intro g1
 simp only [Act.put, Xa, Xz, Xs]
 refine wl_val (.slice none 0 0) rfl (fun _ => rfl) ?_
 simp only [Act.put, Xa, Xz, Xs]
 refine wl_val (.int .i64 0) rfl (fun _ => rfl) ?_
 simp only [Act.put, Xa, Xz, Xs]
 refine wl_nil ?_
 refine we_then ?_
 refine wc_seq ?_
 refine wc_seq ?_
 refine wc_region ?_
 refine wl_load 25 (.tmp 1) (own_row 0 rfl) rfl rfl rfl Try.underlying25 rfl (by kernel_rfl) ?_
 simp only [Act.put, Xa, Xz, Xs]
 refine wl_call_at 16 #[.agg #[.slice p G.length c, .slice q H.length d]] (.tuple #[.int .i64 (((chk G H).1 : Nat) : Int), .int .i64 (((chk G H).2 : Nat) : Int)]) rfl (fun _ => by go_simp) (fun W hE => Tra.check_any G H p q c d W (reads_below hS hE.below) (oks_below hG hE.below) (reads_below hH hE.below) hn hm) ?_
 simp only [Act.put, Xa, Xz, Xs]
 refine wl_val (.tuple #[.int .i64 (((chk G H).1 : Nat) : Int), .int .i64 (((chk G H).2 : Nat) : Int)]) rfl (fun _ => rfl) ?_
 simp only [Act.put, Xa, Xz, Xs]
 refine wl_val (.int .i64 (((chk G H).1 : Nat) : Int)) rfl (fun _ => by go_simp) ?_
 simp only [Act.put, Xa, Xz, Xs]
 refine wl_val (.int .i64 (((chk G H).2 : Nat) : Int)) rfl (fun _ => by go_simp) ?_
 simp only [Act.put, Xa, Xz, Xs]
 refine wl_val (.int .i64 (((chk G H).1 : Nat) : Int)) rfl (fun _ => rfl) ?_
 simp only [Act.put, Xa, Xz, Xs]
 refine wl_val (.int .i64 (((chk G H).2 : Nat) : Int)) rfl (fun _ => rfl) ?_
 simp only [Act.put, Xa, Xz, Xs]
 refine wl_nil ?_
 refine we_then ?_
 refine wc_seq ?_
 refine wc_region ?_
 refine wl_val (.int .i64 (((chk G H).1 : Nat) : Int)) rfl (fun _ => rfl) ?_
 simp only [Act.put, Xa, Xz, Xs]
 refine wl_val (.bool ((((chk G H).1 : Nat) : Int) != 0)) rfl (fun w => run_cmp rfl rfl rfl Try.underlying29 rfl w) ?_
 simp only [Act.put, Xa, Xz, Xs]
 refine wl_nil ?_
 refine we_then ?_
 cases h2 : ((((chk G H).1 : Nat) : Int) != 0)
 ·
  skip
  have p2 : ¬ ((((chk G H).1 : Nat) : Int) ≠ 0) := by first | (simp; done) | (simp at h2; done) | simpa using h2
  refine wc_false rfl ?_
  refine wc_skip ?_
  refine we_then ?_
  refine wc_seq ?_
  have h0 : (chk G H).1 = 0 := by have := p2; omega
  have hM : TrackMay G H := may_of_chk h0
  have hz1 := hM.sizes.1
  have hz2 := hM.sizes.2.1
  have hz3 := hM.sizes.2.2
  refine wc_region ?_
  refine wl_lit (e := 5) #[.int .u8 79, .int .u8 68, .int .u8 79, .int .u8 49] 4 rfl (fun _ => by go_simp) ?_
  intro g3
  simp only [Act.put, Xa, Xz, Xs]
  refine wl_const_keep 0 (L := [79, 68, 79, 49]) rfl rfl rfl rfl rfl Try.underlying28 Try.underlying5 ?_
  intro W4 hb5 hr6 hk7 hd8
  have hg1k : W4.heap[g1]? = some (.cells #[.slice p G.length c, .slice q H.length d] 25 (0, 0)) := hk7 ⟨g1, #[.slice p G.length c, .slice q H.length d], 25⟩ (mem_of_at (i := 1) rfl) (hd8 1 _ rfl (by decide))
  replace hS := reads_below hS hb5
  replace hG := oks_below hG hb5
  replace hH := reads_below hH hb5
  simp only [Act.put, Xa, Xz, Xs]
  refine wl_val (.pointer (some ⟨g1, 0, none⟩)) rfl (fun _ => by go_simp) ?_
  simp only [Act.put, Xa, Xz, Xs]
  refine wl_cell 22 (.tmp 20) (.slice p G.length c) (old_row hg1k) rfl rfl rfl rfl Try.isAgg22 ?_
  simp only [Act.put, Xa, Xz, Xs]
  refine wl_val (.int .i64 (G.length : Int)) rfl (fun w => er_len rfl rfl Try.underlying22 w) ?_
  simp only [Act.put, Xa, Xz, Xs]
  refine wl_call_own (ι := Own) (e := 5) [] [] 17 #[.slice (some ⟨g3, 0, none⟩) 4 4, .int .i64 2, .int .i64 (G.length : Int)] (fun s9 => .slice s9.ptr 6 s9.cap) (fun s9 => s9) (fun s9 => s9.Has 1 6 (flat ub ([79, 68, 79, 49] ++ pb (G.length : Int) 2))) rfl rfl (fun _ => by go_simp) (fun W hE => put_head [79, 68, 79, 49] _ (G.length : Int) W ((sl_old hr6) W hE) rfl) ?_
  rintro s9 hs9
  simp only [List.nil_append, Act.put, Xa, Xz, Xs]
  refine wl_val (.slice s9.ptr 6 s9.cap) rfl (fun _ => rfl) ?_
  simp only [Act.put, Xa, Xz, Xs]
  refine wl_nil ?_
  refine we_then ?_
  refine wc_seq ?_
  refine wc_seq ?_
  refine wc_region ?_
  refine wl_val (.pointer (some ⟨g1, 0, none⟩)) rfl (fun _ => by go_simp) ?_
  simp only [Act.put, Xa, Xz, Xs]
  refine wl_cell 22 (.tmp 24) (.slice p G.length c) (old_row hg1k) rfl rfl rfl rfl Try.isAgg22 ?_
  simp only [Act.put, Xa, Xz, Xs]
  refine wl_val (.int .i64 (G.length : Int)) rfl (fun w => er_len rfl rfl Try.underlying22 w) ?_
  simp only [Act.put, Xa, Xz, Xs]
  refine wl_val (.int .i64 0) rfl (fun _ => rfl) ?_
  simp only [Act.put, Xa, Xz, Xs]
  refine wl_nil ?_
  refine we_then ?_
  refine wc_block ?_
  refine wc_loop (fun (zz : Nat × Nat × Own × Value × Value × Value × Value × Value × Value × Value × Value) => match zz with | ⟨i, n, o, u8, u28, u29, u30, u31, u32, u33, u34⟩ => ({ tmps := #[.agg #[.slice p G.length c, .slice q H.length d], .pointer (some ⟨g1, 0, none⟩), .slice none 0 0, .int .i64 0, .int .i64 (((chk G H).1 : Nat) : Int), .int .i64 (((chk G H).2 : Nat) : Int), .slice o.ptr n o.cap, undef, u8, undef, undef, .tuple #[.int .i64 (((chk G H).1 : Nat) : Int), .int .i64 (((chk G H).2 : Nat) : Int)], .agg #[.slice p G.length c, .slice q H.length d], .tuple #[.int .i64 (((chk G H).1 : Nat) : Int), .int .i64 (((chk G H).2 : Nat) : Int)], .int .i64 (((chk G H).1 : Nat) : Int), .int .i64 (((chk G H).2 : Nat) : Int), .int .i64 (((chk G H).1 : Nat) : Int), .bool false, .slice (some ⟨g3, 0, none⟩) 4 4, .slice (some ⟨g3, 0, none⟩) 4 4, .pointer (some ⟨g1, 0, none⟩), .slice p G.length c, .int .i64 (G.length : Int), .slice s9.ptr 6 s9.cap, .pointer (some ⟨g1, 0, none⟩), .slice p G.length c, .int .i64 (G.length : Int), .int .i64 (i : Int), u28, u29, u30, u31, u32, u33, u34, undef, undef, undef, undef, undef, undef, undef, undef, undef, undef, undef, undef, undef, undef, undef, undef, undef, undef], defers := [] } : Act)) (fun (zz : Nat × Nat × Own × Value × Value × Value × Value × Value × Value × Value × Value) => match zz with | ⟨i, n, o, u8, u28, u29, u30, u31, u32, u33, u34⟩ => (o.rows 5 ++ [])) (fun (zz : Nat × Nat × Own × Value × Value × Value × Value × Value × Value × Value × Value) => match zz with | ⟨i, n, o, u8, u28, u29, u30, u31, u32, u33, u34⟩ => i ≤ G.length ∧ (PX G i).length = n ∧ o.Has 1 n (flat ub (PX G i))) (fun (zz : Nat × Nat × Own × Value × Value × Value × Value × Value × Value × Value × Value) => match zz with | ⟨i, n, o, u8, u28, u29, u30, u31, u32, u33, u34⟩ => G.length - i) ⟨0, (6), s9, _, _, _, _, _, _, _, _⟩ ⟨Nat.zero_le _, (congrArg List.length (PX_0 G)).symm.trans (lay_len rfl _ _), (has_cast (congrArg (flat ub) (PX_0 G)) hs9)⟩ rfl (List.Sublist.append_left List.Sublist.slnil _) ?_
  rintro ⟨i, n, o, u8, u28, u29, u30, u31, u32, u33, u34⟩ hφ
  (try dsimp only at hφ ⊢)
  obtain ⟨b1, b2, b3⟩ := hφ
  have b4 := px_le hM i
  refine wc_seq ?_
  refine wc_region ?_
  refine wl_val (.bool (decide ((i : Int) < (G.length : Int)))) rfl (fun w => run_cmp rfl rfl rfl Try.underlying3 rfl w) ?_
  simp only [Act.put, Xa, Xz, Xs]
  refine wl_nil ?_
  refine we_then ?_
  refine wc_seq ?_
  cases h10 : (decide ((i : Int) < (G.length : Int)))
  ·
   skip
   have p10 : ¬ ((i : Int) < (G.length : Int)) := of_decide_eq_false h10
   refine wc_false rfl ?_
   refine wc_exit ?_
   refine we_then_exit ?_
   refine we_then_exit ?_
   refine we_in_here ?_
   refine we_then ?_
   refine wc_seq ?_
   have e3 : i = G.length := by omega
   rw [e3] at b2 b3 b4
   refine wc_region ?_
   refine wl_val (.slice o.ptr n o.cap) rfl (fun _ => rfl) ?_
   simp only [Act.put, Xa, Xz, Xs]
   refine wl_val (.pointer (some ⟨g1, 1, none⟩)) rfl (fun _ => by go_simp) ?_
   simp only [Act.put, Xa, Xz, Xs]
   refine wl_cell 23 (.tmp 36) (.slice q H.length d) (old_row hg1k) rfl rfl rfl rfl Try.isAgg23 ?_
   simp only [Act.put, Xa, Xz, Xs]
   refine wl_val (.int .i64 (H.length : Int)) rfl (fun w => er_len rfl rfl Try.underlying23 w) ?_
   simp only [Act.put, Xa, Xz, Xs]
   refine wl_call_turnv (ι := Own) (e := 5) [] [] o 17 #[.slice o.ptr n o.cap, .int .i64 2, .int .i64 (H.length : Int)] (fun (s11 : Own) => .slice s11.ptr (n + 2) s11.cap) (fun (s11 : Own) => s11) (fun (s11 : Own) => s11.Has 1 (n + 2) (flat ub ((PX G G.length) ++ pb (H.length : Int) 2))) rfl rfl (fun _ => by go_simp) (fun W hE => put_own _ _ o (PX G G.length) n 2 (H.length : Int) W hE b3 b2 (by omega) (by decide) (by decide)) ?_
   rintro s11 hs11
   simp only [List.nil_append, Act.put, Xa, Xz, Xs]
   refine wl_val (.slice s11.ptr (n + 2) s11.cap) rfl (fun _ => rfl) ?_
   simp only [Act.put, Xa, Xz, Xs]
   refine wl_nil ?_
   refine we_then ?_
   refine wc_seq ?_
   refine wc_seq ?_
   refine wc_region ?_
   refine wl_val (.pointer (some ⟨g1, 1, none⟩)) rfl (fun _ => by go_simp) ?_
   simp only [Act.put, Xa, Xz, Xs]
   refine wl_cell 23 (.tmp 40) (.slice q H.length d) (old_row hg1k) rfl rfl rfl rfl Try.isAgg23 ?_
   simp only [Act.put, Xa, Xz, Xs]
   refine wl_val (.int .i64 (H.length : Int)) rfl (fun w => er_len rfl rfl Try.underlying23 w) ?_
   simp only [Act.put, Xa, Xz, Xs]
   refine wl_val (.int .i64 0) rfl (fun _ => rfl) ?_
   simp only [Act.put, Xa, Xz, Xs]
   refine wl_nil ?_
   refine we_then ?_
   refine wc_block ?_
   refine wc_loop (fun (zz : Nat × Nat × Own × Value × Value × Value × Value × Value × Value × Value × Value) => match zz with | ⟨r, x, y, u10, u44, u45, u46, u47, u48, u49, u50⟩ => ({ tmps := #[.agg #[.slice p G.length c, .slice q H.length d], .pointer (some ⟨g1, 0, none⟩), .slice none 0 0, .int .i64 0, .int .i64 (((chk G H).1 : Nat) : Int), .int .i64 (((chk G H).2 : Nat) : Int), .slice y.ptr x y.cap, undef, u8, undef, u10, .tuple #[.int .i64 (((chk G H).1 : Nat) : Int), .int .i64 (((chk G H).2 : Nat) : Int)], .agg #[.slice p G.length c, .slice q H.length d], .tuple #[.int .i64 (((chk G H).1 : Nat) : Int), .int .i64 (((chk G H).2 : Nat) : Int)], .int .i64 (((chk G H).1 : Nat) : Int), .int .i64 (((chk G H).2 : Nat) : Int), .int .i64 (((chk G H).1 : Nat) : Int), .bool false, .slice (some ⟨g3, 0, none⟩) 4 4, .slice (some ⟨g3, 0, none⟩) 4 4, .pointer (some ⟨g1, 0, none⟩), .slice p G.length c, .int .i64 (G.length : Int), .slice s9.ptr 6 s9.cap, .pointer (some ⟨g1, 0, none⟩), .slice p G.length c, .int .i64 (G.length : Int), .int .i64 (i : Int), .bool false, u29, u30, u31, u32, u33, u34, .slice o.ptr n o.cap, .pointer (some ⟨g1, 1, none⟩), .slice q H.length d, .int .i64 (H.length : Int), .slice s11.ptr (n + 2) s11.cap, .pointer (some ⟨g1, 1, none⟩), .slice q H.length d, .int .i64 (H.length : Int), .int .i64 (r : Int), u44, u45, u46, u47, u48, u49, u50, undef, undef], defers := [] } : Act)) (fun (zz : Nat × Nat × Own × Value × Value × Value × Value × Value × Value × Value × Value) => match zz with | ⟨r, x, y, u10, u44, u45, u46, u47, u48, u49, u50⟩ => (y.rows 5 ++ [])) (fun (zz : Nat × Nat × Own × Value × Value × Value × Value × Value × Value × Value × Value) => match zz with | ⟨r, x, y, u10, u44, u45, u46, u47, u48, u49, u50⟩ => r ≤ H.length ∧ (GX G H r).length = x ∧ y.Has 1 x (flat ub (GX G H r))) (fun (zz : Nat × Nat × Own × Value × Value × Value × Value × Value × Value × Value × Value) => match zz with | ⟨r, x, y, u10, u44, u45, u46, u47, u48, u49, u50⟩ => H.length - r) ⟨0, (n + 2), s11, _, _, _, _, _, _, _, _⟩ ⟨Nat.zero_le _, (congrArg List.length (GX_0 G H)).symm.trans (lay_len b2 _ _), (has_cast (congrArg (flat ub) (GX_0 G H)) hs11)⟩ rfl (List.Sublist.append_left List.Sublist.slnil _) ?_
   rintro ⟨r, x, y, u10, u44, u45, u46, u47, u48, u49, u50⟩ hφ
   (try dsimp only at hφ ⊢)
   obtain ⟨x1, x2, x3⟩ := hφ
   have x4 := gx_le hM r
   refine wc_seq ?_
   refine wc_region ?_
   refine wl_val (.bool (decide ((r : Int) < (H.length : Int)))) rfl (fun w => run_cmp rfl rfl rfl Try.underlying3 rfl w) ?_
   simp only [Act.put, Xa, Xz, Xs]
   refine wl_nil ?_
   refine we_then ?_
   refine wc_seq ?_
   cases h12 : (decide ((r : Int) < (H.length : Int)))
   ·
    skip
    have p12 : ¬ ((r : Int) < (H.length : Int)) := of_decide_eq_false h12
    refine wc_false rfl ?_
    refine wc_exit ?_
    refine we_then_exit ?_
    refine we_then_exit ?_
    refine we_in_here ?_
    refine we_then ?_
    refine wc_seq ?_
    have e4 : r = H.length := by omega
    rw [e4] at x2 x3 x4
    refine wc_region ?_
    refine wl_val (.slice y.ptr x y.cap) rfl (fun _ => rfl) ?_
    simp only [Act.put, Xa, Xz, Xs]
    refine wl_call_env (ι := Nat) 20 #[.slice y.ptr x y.cap] (fun g13 => .slice (some ⟨g13, 0, none⟩) (x + 2) (x + 2)) (fun g13 => [⟨g13, (flat ub (seal_ (GX G H H.length))).toArray, 5⟩]) (fun _ => True) rfl (fun _ => by go_simp) (fun W hE => seal_at (GX G H H.length) _ _ _ W x2 ((sl_own [] [] x3 rfl) W hE) (by omega)) ?_
    rintro g13 -
    simp only [List.cons_append, List.nil_append, Act.put, Xa, Xz, Xs]
    refine wl_val (.slice (some ⟨g13, 0, none⟩) (x + 2) (x + 2)) rfl (fun _ => rfl) ?_
    simp only [Act.put, Xa, Xz, Xs]
    refine wl_val (.int .i64 0) rfl (fun _ => rfl) ?_
    simp only [Act.put, Xa, Xz, Xs]
    refine wl_nil ?_
    refine we_then ?_
    refine wc_ret ?_
    refine we_ret2 (.slice (some ⟨g13, 0, none⟩) (x + 2) (x + 2)) (.int .i64 0) rfl rfl rfl rfl (fun w1 hE => ?_)
    have e1 : packL G H = seal_ (GX G H H.length) := by rw [packL_yes h0]; unfold img; rw [GX_all]
    have e2 : (packL G H).length = x + 2 := by rw [e1, seal_length, x2]
    exact ⟨⟨some ⟨g13, 0, none⟩, x + 2, [⟨g13, (flat ub (seal_ (GX G H H.length))).toArray, 5⟩]⟩, ⟨by rw [e1]; exact fun w0 => sl_mk 0 rfl, by rw [e2]; exact Nat.le_refl _⟩, by rw [e2, packE_yes h0]; rfl, Env.rebase hb5 (hE.sub (List.Sublist.cons_cons _ (List.sublist_append_of_sublist_right List.Sublist.slnil)))⟩
   ·
    skip
    have p12 : (r : Int) < (H.length : Int) := of_decide_eq_true h12
    refine wc_true rfl ?_
    refine wc_skip ?_
    refine we_then ?_
    refine wc_seq ?_
    refine wc_block ?_
    refine wc_seq ?_
    refine wc_region ?_
    refine wl_read (eaddr q (r * 5)) rfl (er_index r 5 (sl_old hH) rfl rfl rfl rfl (by omega) (flat_length (enc := gp) (size := 5) (fun _ => rfl) _) (by decide) Try.underlying23 (by kernel_rfl)) ?_
    simp only [Act.put, Xa, Xz, Xs]
    refine wl_read (.agg #[.int .i64 ((H[r]!).id), .int .i64 ((H[r]!).seg), .int .i64 ((H[r]!).off), .int .i64 ((H[r]!).acc), .int .i64 ((H[r]!).slack)]) rfl (er_part (r * 5) [.int .i64 ((H[r]!).id), .int .i64 ((H[r]!).seg), .int .i64 ((H[r]!).off), .int .i64 ((H[r]!).acc), .int .i64 ((H[r]!).slack)] (sl_old hH) rfl rfl (flat_part (enc := gp) (fun _ => rfl) H r (by omega)) (Nat.zero_lt_succ _) Try.underlying60 rfl (by kernel_rfl)) ?_
    simp only [Act.put, Xa, Xz, Xs]
    refine wl_new 60 (#[.int .i64 0, .int .i64 0, .int .i64 0, .int .i64 0, .int .i64 0]) rfl (fun _ => by go_simp) ?_
    intro g14
    simp only [Act.put, Xa, Xz, Xs]
    refine wl_store 0 60 (.tmp 10) (.tmp 46) (#[.int .i64 ((H[r]!).id), .int .i64 ((H[r]!).seg), .int .i64 ((H[r]!).off), .int .i64 ((H[r]!).acc), .int .i64 ((H[r]!).slack)]) rfl rfl rfl rfl rfl (by kernel_rfl) rfl (by simp [Value.oneCell']) ?_
    simp only [Act.put, List.set_cons_zero]
    refine wl_nil ?_
    refine we_then ?_
    refine wc_region ?_
    refine wl_val (.slice y.ptr x y.cap) rfl (fun _ => rfl) ?_
    simp only [Act.put, Xa, Xz, Xs]
    refine wl_load 60 (.tmp 10) (own_row 0 rfl) rfl rfl rfl Try.underlying60 rfl (by kernel_rfl) ?_
    simp only [Act.put, Xa, Xz, Xs]
    refine wl_call_turnv (ι := Own) (e := 5) [⟨g14, #[.int .i64 ((H[r]!).id), .int .i64 ((H[r]!).seg), .int .i64 ((H[r]!).off), .int .i64 ((H[r]!).acc), .int .i64 ((H[r]!).slack)], 60⟩] [] y 19 #[.slice y.ptr x y.cap, .agg #[.int .i64 ((H[r]!).id), .int .i64 ((H[r]!).seg), .int .i64 ((H[r]!).off), .int .i64 ((H[r]!).acc), .int .i64 ((H[r]!).slack)]] (fun (s15 : Own) => .slice s15.ptr (x + (grpL (H[r]!)).length) s15.cap) (fun (s15 : Own) => s15) (fun (s15 : Own) => s15.Has 1 (x + (grpL (H[r]!)).length) (flat ub ((GX G H r) ++ grpL (H[r]!)))) rfl rfl (fun _ => by go_simp) (fun W hE => putGroup_own _ _ y (GX G H r) x (H[r]!) W hE x3 x2 (by omega)) ?_
    rintro s15 hs15
    simp only [List.cons_append, List.nil_append, Act.put, Xa, Xz, Xs]
    refine wl_val (.slice s15.ptr (x + (grpL (H[r]!)).length) s15.cap) rfl (fun _ => rfl) ?_
    simp only [Act.put, Xa, Xz, Xs]
    refine wl_nil ?_
    refine we_in ?_
    refine we_then ?_
    refine wc_region ?_
    refine wl_val (.int .i64 ((r + 1 : Nat) : Int)) rfl (fun w => run_nat (X := r) (Y := 1) (Z := r + 1) rfl rfl rfl rfl (by omega) w) ?_
    simp only [Act.put, Xa, Xz, Xs]
    refine wl_val (.int .i64 ((r + 1 : Nat) : Int)) rfl (fun _ => rfl) ?_
    simp only [Act.put, Xa, Xz, Xs]
    refine wl_nil ?_
    exact we_meet ⟨(r + 1), (x + (grpL (H[r]!)).length), s15, _, _, _, _, _, _, _, _⟩ (by (try dsimp only); exact ⟨⟨by omega, (congrArg List.length (GX_n G H r (by omega))).symm.trans (lay_app x2 _), (has_cast (congrArg (flat ub) (GX_n G H r (by omega))) hs15)⟩, by omega⟩) rfl (List.Sublist.cons _ (List.Sublist.append_left List.Sublist.slnil _))
  ·
   skip
   have p10 : (i : Int) < (G.length : Int) := of_decide_eq_true h10
   refine wc_true rfl ?_
   refine wc_skip ?_
   refine we_then ?_
   refine wc_seq ?_
   refine wc_block ?_
   refine wc_seq ?_
   refine wc_region ?_
   refine wl_read (eaddr p (i * 3)) rfl (er_index i 3 (sl_old hS) rfl rfl rfl rfl (by omega) (flat_length (enc := sg) (size := 3) (fun _ => rfl) _) (by decide) Try.underlying22 (by kernel_rfl)) ?_
   simp only [Act.put, Xa, Xz, Xs]
   refine wl_read (.agg #[.int .i64 ((G[i]!).len), .slice ((G[i]!).pp) ((G[i]!).P.length) ((G[i]!).pc), .slice ((G[i]!).np) ((G[i]!).X.length) ((G[i]!).nc)]) rfl (er_part (i * 3) [.int .i64 ((G[i]!).len), .slice ((G[i]!).pp) ((G[i]!).P.length) ((G[i]!).pc), .slice ((G[i]!).np) ((G[i]!).X.length) ((G[i]!).nc)] (sl_old hS) rfl rfl (flat_part (enc := sg) (fun _ => rfl) G i (by omega)) (Nat.zero_lt_succ _) Try.underlying54 rfl (by kernel_rfl)) ?_
   simp only [Act.put, Xa, Xz, Xs]
   refine wl_new 54 (#[.int .i64 0, .slice none 0 0, .slice none 0 0]) rfl (fun _ => by go_simp) ?_
   intro g16
   simp only [Act.put, Xa, Xz, Xs]
   refine wl_store 0 54 (.tmp 8) (.tmp 30) (#[.int .i64 ((G[i]!).len), .slice ((G[i]!).pp) ((G[i]!).P.length) ((G[i]!).pc), .slice ((G[i]!).np) ((G[i]!).X.length) ((G[i]!).nc)]) rfl rfl rfl rfl rfl (by kernel_rfl) rfl (by simp [Value.oneCell']) ?_
   simp only [Act.put, List.set_cons_zero]
   refine wl_nil ?_
   refine we_then ?_
   have sm := hM.segs i (by omega)
   refine wc_region ?_
   refine wl_val (.slice o.ptr n o.cap) rfl (fun _ => rfl) ?_
   simp only [Act.put, Xa, Xz, Xs]
   refine wl_load 54 (.tmp 8) (own_row 0 rfl) rfl rfl rfl Try.underlying54 rfl (by kernel_rfl) ?_
   simp only [Act.put, Xa, Xz, Xs]
   refine wl_call_turnv (ι := Own) (e := 5) [⟨g16, #[.int .i64 ((G[i]!).len), .slice ((G[i]!).pp) ((G[i]!).P.length) ((G[i]!).pc), .slice ((G[i]!).np) ((G[i]!).X.length) ((G[i]!).nc)], 54⟩] [] o 18 #[.slice o.ptr n o.cap, .agg #[.int .i64 ((G[i]!).len), .slice ((G[i]!).pp) ((G[i]!).P.length) ((G[i]!).pc), .slice ((G[i]!).np) ((G[i]!).X.length) ((G[i]!).nc)]] (fun (s17 : Own) => .slice s17.ptr (n + (segL (dat (G[i]!))).length) s17.cap) (fun (s17 : Own) => s17) (fun (s17 : Own) => s17.Has 1 (n + (segL (dat (G[i]!))).length) (flat ub ((PX G i) ++ segL (dat (G[i]!))))) rfl rfl (fun _ => by go_simp) (fun W hE => putSegment_own _ _ o (PX G i) n (G[i]!) W hE b3 b2 (by omega) (sg_at hG (by omega)) sm.may.few sm.two) ?_
   rintro s17 hs17
   simp only [List.cons_append, List.nil_append, Act.put, Xa, Xz, Xs]
   refine wl_val (.slice s17.ptr (n + (segL (dat (G[i]!))).length) s17.cap) rfl (fun _ => rfl) ?_
   simp only [Act.put, Xa, Xz, Xs]
   refine wl_nil ?_
   refine we_in ?_
   refine we_then ?_
   refine wc_region ?_
   refine wl_val (.int .i64 ((i + 1 : Nat) : Int)) rfl (fun w => run_nat (X := i) (Y := 1) (Z := i + 1) rfl rfl rfl rfl (by omega) w) ?_
   simp only [Act.put, Xa, Xz, Xs]
   refine wl_val (.int .i64 ((i + 1 : Nat) : Int)) rfl (fun _ => rfl) ?_
   simp only [Act.put, Xa, Xz, Xs]
   refine wl_nil ?_
   exact we_meet ⟨(i + 1), (n + (segL (dat (G[i]!))).length), s17, _, _, _, _, _, _, _, _⟩ (by (try dsimp only); exact ⟨⟨by omega, (congrArg List.length (PX_n G i (by omega))).symm.trans (lay_app b2 _), (has_cast (congrArg (flat ub) (PX_n G i (by omega))) hs17)⟩, by omega⟩) rfl (List.Sublist.cons _ (List.Sublist.append_left List.Sublist.slnil _))
 ·
  skip
  have p2 : (((chk G H).1 : Nat) : Int) ≠ 0 := by first | (simp; done) | (simp at h2; done) | simpa using h2
  refine wc_true rfl ?_
  refine wc_seq ?_
  refine wc_region ?_
  refine wl_val (.slice none 0 0) rfl (fun _ => rfl) ?_
  simp only [Act.put, Xa, Xz, Xs]
  refine wl_val (.int .i64 51) rfl (fun _ => rfl) ?_
  simp only [Act.put, Xa, Xz, Xs]
  refine wl_nil ?_
  refine we_then ?_
  refine wc_ret ?_
  refine we_then_ret ?_
  refine we_ret2 (.slice none 0 0) (.int .i64 51) rfl rfl rfl rfl (fun w1 hE => ?_)
  have h0 : ¬ (chk G H).1 = 0 := by have := p2; omega
  exact ⟨⟨none, 0, []⟩, ⟨by rw [packL_no h0]; exact fun _ _ _ => reads_nil _ _, by rw [packL_no h0]; exact Nat.le_refl _⟩, by rw [packL_no h0, packE_no h0]; rfl, hE.sub (List.nil_sublist _)⟩
end Go.Proofs.Ytggannjlaehihaa.Ima
