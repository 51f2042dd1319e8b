/-
 RollMirrored: the law's walk. No condition.
-/
import Derived.Test.YtjpkcpoamkameaaRllw
namespace Go.Proofs.Ytjpkcpoamkameaa.Walks
open Go.ChangeShapes Go.WideShapes Go.ChangeAt Go.RowKit
open Arr Steady Sx Sw Sl Sb Sc Si Sj Sk Sh Sfn Smu Vs Gr Tk Tkh Tkl Cf Cfref Rlm Rllw
set_option linter.unusedVariables false
set_option linter.unusedSimpArgs false
set_option maxRecDepth 100000

set_option maxHeartbeats 8000000 in
theorem rollMirrored_walk (k : Cf) (L : List Cy9) (p : Option Addr) (c : Nat) (w : World) (hL : Reads w p (flat cy9 L)) (hn : L.length ≤ 140737488355328) :
  Calls Try.prog 5 #[.agg #[.int .i64 k.pu, .int .i64 k.lo, .int .i64 k.hi, .int .i64 k.rb, .int .i64 k.rp, .int .i64 k.ae, .int .i64 k.ms, .int .i64 k.ma, .int .i64 k.an, .int .i64 k.st, .int .i64 k.ss, .int .i64 k.ro, .int .i64 k.ti, .int .i64 k.br], .slice p L.length c] w fun e w' => e = .returned (.bool true) ∧ Below w.heap.size w w' := by
 refine calls_sx Try.func5 rfl ?_
 simp only [Try.ntmps5, List.size_toArray, List.length_cons, List.length_nil, Nat.reduceAdd, Nat.reduceSub, Array.replicate_succ, Array.replicate_zero, List.push_toArray, List.append_toArray, List.nil_append, List.cons_append]
 refine wc_seq ?_
 refine wc_region ?_
 refine wl_new 23 (#[.int .i64 k.pu, .int .i64 k.lo, .int .i64 k.hi, .int .i64 k.rb, .int .i64 k.rp, .int .i64 k.ae, .int .i64 k.ms, .int .i64 k.ma, .int .i64 k.an, .int .i64 k.st, .int .i64 k.ss, .int .i64 k.ro, .int .i64 k.ti, .int .i64 k.br]) rfl (fun _ => by go_simp) ?_
 intro g1
 simp only [Act.put, Xa, Xz, Xs]
 refine wl_val (.bool false) rfl (fun _ => rfl) ?_
 simp only [Act.put, Xa, Xz, Xs]
 refine wl_nil ?_
 refine we_then ?_
 refine wc_seq ?_
 refine wc_seq ?_
 refine wc_region ?_
 refine wl_call 6 #[] (.bool true) rfl (fun _ => by go_simp) (fun W => Rllw.anchor_any W) ?_
 simp only [Act.put, Xa, Xz, Xs]
 refine wl_val (.bool false) rfl (fun _ => by go_simp) ?_
 simp only [Act.put, Xa, Xz, Xs]
 refine wl_nil ?_
 refine we_then ?_
 refine wc_false rfl ?_
 refine wc_skip ?_
 refine we_then ?_
 refine wc_seq ?_
 refine wc_seq ?_
 refine wc_region ?_
 refine wl_load 23 (.tmp 2) (own_row 0 rfl) rfl rfl rfl Try.underlying23 rfl (by kernel_rfl) ?_
 simp only [Act.put, Xa, Xz, Xs]
 refine wl_call 7 #[.agg #[.int .i64 k.pu, .int .i64 k.lo, .int .i64 k.hi, .int .i64 k.rb, .int .i64 k.rp, .int .i64 k.ae, .int .i64 k.ms, .int .i64 k.ma, .int .i64 k.an, .int .i64 k.st, .int .i64 k.ss, .int .i64 k.ro, .int .i64 k.ti, .int .i64 k.br]] (.int .i64 ((wrong k : Nat) : Int)) rfl (fun _ => by go_simp) (fun W => wrong_any k W) ?_
 simp only [Act.put, Xa, Xz, Xs]
 refine wl_val (.bool (((wrong k : Nat) : Int) != 0)) rfl (fun w => run_cmp rfl rfl rfl Try.underlying3 rfl w) ?_
 simp only [Act.put, Xa, Xz, Xs]
 refine wl_val (.bool (((wrong k : Nat) : Int) != 0)) rfl (fun _ => rfl) ?_
 simp only [Act.put, Xa, Xz, Xs]
 cases h2 : (((wrong k : Nat) : Int) != 0)
 ·
  skip
  have p2 : ¬ (((wrong k : Nat) : Int) ≠ 0) := by first | (simp; done) | (simp at h2; done) | simpa using h2
  refine wl_val (.slice p L.length c) rfl (fun _ => rfl) ?_
  simp only [Act.put, Xa, Xz, Xs]
  refine wl_val (.int .i64 (L.length : Int)) rfl (fun w => er_len rfl rfl Try.underlying24 w) ?_
  simp only [Act.put, Xa, Xz, Xs]
  refine wl_val (.bool (decide (1000 < (L.length : Int)))) rfl (fun w => run_cmp rfl rfl rfl Try.underlying3 rfl w) ?_
  simp only [Act.put, Xa, Xz, Xs]
  refine wl_val (.bool (decide (1000 < (L.length : Int)))) rfl (fun _ => rfl) ?_
  simp only [Act.put, Xa, Xz, Xs]
  refine wl_nil ?_
  refine we_then ?_
  cases h3 : (decide (1000 < (L.length : Int)))
  ·
   skip
   have p3 : ¬ (1000 < (L.length : Int)) := of_decide_eq_false h3
   refine wc_false rfl ?_
   refine wc_skip ?_
   refine we_then ?_
   refine wc_seq ?_
   have hk := ok_of (c := k) (by omega)
   have hk1 := hk.ro1
   have hk2 := hk.ro2
   refine wc_region ?_
   refine wl_new 31 (#[.bool false, .bool false, .int .i64 0, .int .i64 0]) rfl (fun _ => by go_simp) ?_
   intro g4
   simp only [Act.put, Xa, Xz, Xs]
   refine wl_new 31 (#[.bool false, .bool false, .int .i64 0, .int .i64 0]) rfl (fun _ => by go_simp) ?_
   intro g5
   simp only [Act.put, Xa, Xz, Xs]
   refine wl_nil ?_
   refine we_then ?_
   refine wc_seq ?_
   refine wc_seq ?_
   refine wc_region ?_
   refine wl_val (.slice p L.length c) rfl (fun _ => rfl) ?_
   simp only [Act.put, Xa, Xz, Xs]
   refine wl_val (.int .i64 (L.length : Int)) rfl (fun w => er_len rfl rfl Try.underlying24 w) ?_
   simp only [Act.put, Xa, Xz, Xs]
   refine wl_val (.int .i64 0) rfl (fun _ => rfl) ?_
   simp only [Act.put, Xa, Xz, Xs]
   refine wl_nil ?_
   refine we_then ?_
   refine wc_block ?_
   refine wc_loop (fun (zz : Nat × Bool × Bool × Int × Int × Int × Int × Value × Value × Value × Value × Value × Value × Value × Value × Value × Value × Value × Value × Value × Value × Value × Value × Value × Value × Value × Value × Value × Value × Value × Value × Value × Value × Value × Value × Value × Value × Value × Value × Value × Value × Value × Value × Value × Value × Value × Value × Value × Value × Value × Value × Value × Value × Value × Value × Value × Value × Value × Value × Value × Value × Value × Value × Value × Value × Value × Value × Value × Value × Value × Value × Value × Value × Value) => match zz with | ⟨i, an, on, lo, hi, x, y, u4, u8, u22, u23, u24, u25, u26, u27, u28, u29, u30, u31, u32, u33, u34, u35, u36, u37, u38, u39, u40, u41, u42, u43, u44, u45, u46, u47, u48, u49, u50, u51, u52, u53, u54, u55, u56, u57, u58, u59, u60, u61, u62, u63, u64, u65, u66, u67, u68, u69, u70, u71, u72, u73, u74, u75, u76, u77, u78, u79, u80, u81, u82, u83, u84, u85, u86⟩ => ({ tmps := #[.agg #[.int .i64 k.pu, .int .i64 k.lo, .int .i64 k.hi, .int .i64 k.rb, .int .i64 k.rp, .int .i64 k.ae, .int .i64 k.ms, .int .i64 k.ma, .int .i64 k.an, .int .i64 k.st, .int .i64 k.ss, .int .i64 k.ro, .int .i64 k.ti, .int .i64 k.br], .slice p L.length c, .pointer (some ⟨g1, 0, none⟩), undef, u4, .pointer (some ⟨g4, 0, none⟩), .pointer (some ⟨g5, 0, none⟩), undef, u8, .bool true, .bool false, .agg #[.int .i64 k.pu, .int .i64 k.lo, .int .i64 k.hi, .int .i64 k.rb, .int .i64 k.rp, .int .i64 k.ae, .int .i64 k.ms, .int .i64 k.ma, .int .i64 k.an, .int .i64 k.st, .int .i64 k.ss, .int .i64 k.ro, .int .i64 k.ti, .int .i64 k.br], .int .i64 ((wrong k : Nat) : Int), .bool false, .bool false, .slice p L.length c, .int .i64 (L.length : Int), .bool false, .bool false, .slice p L.length c, .int .i64 (L.length : Int), .int .i64 (i : Int), u22, u23, u24, u25, u26, u27, u28, u29, u30, u31, u32, u33, u34, u35, u36, u37, u38, u39, u40, u41, u42, u43, u44, u45, u46, u47, u48, u49, u50, u51, u52, u53, u54, u55, u56, u57, u58, u59, u60, u61, u62, u63, u64, u65, u66, u67, u68, u69, u70, u71, u72, u73, u74, u75, u76, u77, u78, u79, u80, u81, u82, u83, u84, u85, u86], defers := [] } : Act)) (fun (zz : Nat × Bool × Bool × Int × Int × Int × Int × Value × Value × Value × Value × Value × Value × Value × Value × Value × Value × Value × Value × Value × Value × Value × Value × Value × Value × Value × Value × Value × Value × Value × Value × Value × Value × Value × Value × Value × Value × Value × Value × Value × Value × Value × Value × Value × Value × Value × Value × Value × Value × Value × Value × Value × Value × Value × Value × Value × Value × Value × Value × Value × Value × Value × Value × Value × Value × Value × Value × Value × Value × Value × Value × Value × Value × Value) => match zz with | ⟨i, an, on, lo, hi, x, y, u4, u8, u22, u23, u24, u25, u26, u27, u28, u29, u30, u31, u32, u33, u34, u35, u36, u37, u38, u39, u40, u41, u42, u43, u44, u45, u46, u47, u48, u49, u50, u51, u52, u53, u54, u55, u56, u57, u58, u59, u60, u61, u62, u63, u64, u65, u66, u67, u68, u69, u70, u71, u72, u73, u74, u75, u76, u77, u78, u79, u80, u81, u82, u83, u84, u85, u86⟩ => [⟨g5, #[.bool an, .bool on, .int .i64 x, .int .i64 y], 31⟩, ⟨g4, #[.bool an, .bool on, .int .i64 lo, .int .i64 hi], 31⟩, ⟨g1, #[.int .i64 k.pu, .int .i64 k.lo, .int .i64 k.hi, .int .i64 k.rb, .int .i64 k.rp, .int .i64 k.ae, .int .i64 k.ms, .int .i64 k.ma, .int .i64 k.an, .int .i64 k.st, .int .i64 k.ss, .int .i64 k.ro, .int .i64 k.ti, .int .i64 k.br], 23⟩]) (fun (zz : Nat × Bool × Bool × Int × Int × Int × Int × Value × Value × Value × Value × Value × Value × Value × Value × Value × Value × Value × Value × Value × Value × Value × Value × Value × Value × Value × Value × Value × Value × Value × Value × Value × Value × Value × Value × Value × Value × Value × Value × Value × Value × Value × Value × Value × Value × Value × Value × Value × Value × Value × Value × Value × Value × Value × Value × Value × Value × Value × Value × Value × Value × Value × Value × Value × Value × Value × Value × Value × Value × Value × Value × Value × Value × Value) => match zz with | ⟨i, an, on, lo, hi, x, y, u4, u8, u22, u23, u24, u25, u26, u27, u28, u29, u30, u31, u32, u33, u34, u35, u36, u37, u38, u39, u40, u41, u42, u43, u44, u45, u46, u47, u48, u49, u50, u51, u52, u53, u54, u55, u56, u57, u58, u59, u60, u61, u62, u63, u64, u65, u66, u67, u68, u69, u70, u71, u72, u73, u74, u75, u76, u77, u78, u79, u80, u81, u82, u83, u84, u85, u86⟩ => i ≤ L.length ∧ lo ≤ hi ∧ -(1099511627776 * (i : Int)) ≤ lo ∧ hi ≤ 1099511627776 * (i : Int) ∧ x = -hi ∧ y = -lo) (fun (zz : Nat × Bool × Bool × Int × Int × Int × Int × Value × Value × Value × Value × Value × Value × Value × Value × Value × Value × Value × Value × Value × Value × Value × Value × Value × Value × Value × Value × Value × Value × Value × Value × Value × Value × Value × Value × Value × Value × Value × Value × Value × Value × Value × Value × Value × Value × Value × Value × Value × Value × Value × Value × Value × Value × Value × Value × Value × Value × Value × Value × Value × Value × Value × Value × Value × Value × Value × Value × Value × Value × Value × Value × Value × Value × Value) => match zz with | ⟨i, an, on, lo, hi, x, y, u4, u8, u22, u23, u24, u25, u26, u27, u28, u29, u30, u31, u32, u33, u34, u35, u36, u37, u38, u39, u40, u41, u42, u43, u44, u45, u46, u47, u48, u49, u50, u51, u52, u53, u54, u55, u56, u57, u58, u59, u60, u61, u62, u63, u64, u65, u66, u67, u68, u69, u70, u71, u72, u73, u74, u75, u76, u77, u78, u79, u80, u81, u82, u83, u84, u85, u86⟩ => L.length - i) ⟨0, false, false, 0, 0, 0, 0, _, _, _, _, _, _, _, _, _, _, _, _, _, _, _, _, _, _, _, _, _, _, _, _, _, _, _, _, _, _, _, _, _, _, _, _, _, _, _, _, _, _, _, _, _, _, _, _, _, _, _, _, _, _, _, _, _, _, _, _, _, _, _, _, _, _, _⟩ ⟨Nat.zero_le _, by omega, by omega, by omega, by omega, by omega⟩ rfl (List.Sublist.cons_cons _ (List.Sublist.cons_cons _ (List.Sublist.cons_cons _ List.Sublist.slnil))) ?_
   rintro ⟨i, an, on, lo, hi, x, y, u4, u8, u22, u23, u24, u25, u26, u27, u28, u29, u30, u31, u32, u33, u34, u35, u36, u37, u38, u39, u40, u41, u42, u43, u44, u45, u46, u47, u48, u49, u50, u51, u52, u53, u54, u55, u56, u57, u58, u59, u60, u61, u62, u63, u64, u65, u66, u67, u68, u69, u70, u71, u72, u73, u74, u75, u76, u77, u78, u79, u80, u81, u82, u83, u84, u85, u86⟩ hφ
   (try dsimp only at hφ ⊢)
   obtain ⟨b1, b2, b3, b4, b5, b6⟩ := hφ
   refine wc_seq ?_
   refine wc_region ?_
   refine wl_val (.bool (decide ((i : Int) < (L.length : Int)))) rfl (fun w => run_cmp rfl rfl rfl Try.underlying3 rfl w) ?_
   simp only [Act.put, Xa, Xz, Xs]
   refine wl_nil ?_
   refine we_then ?_
   refine wc_seq ?_
   cases h6 : (decide ((i : Int) < (L.length : Int)))
   ·
    skip
    have p6 : ¬ ((i : Int) < (L.length : Int)) := of_decide_eq_false h6
    refine wc_false rfl ?_
    refine wc_exit ?_
    refine we_then_exit ?_
    refine we_then_exit ?_
    refine we_in_here ?_
    refine we_then ?_
    refine wc_seq ?_
    refine wc_region ?_
    refine wl_val (.bool true) rfl (fun _ => rfl) ?_
    simp only [Act.put, Xa, Xz, Xs]
    refine wl_nil ?_
    refine we_then ?_
    refine wc_ret ?_
    refine we_ret1 (.bool true) rfl rfl rfl (fun w1 hE => ?_)
    exact ⟨rfl, hE.below⟩
   ·
    skip
    have p6 : (i : Int) < (L.length : Int) := of_decide_eq_true h6
    refine wc_true rfl ?_
    refine wc_skip ?_
    refine we_then ?_
    refine wc_seq ?_
    refine wc_block ?_
    refine wc_seq ?_
    refine wc_region ?_
    refine wl_read (eaddr p (i * 5)) rfl (er_index i 5 (sl_old hL) rfl rfl rfl rfl (by omega) (flat_length (enc := cy9) (size := 5) (fun _ => rfl) _) (by decide) Try.underlying24 (by kernel_rfl)) ?_
    simp only [Act.put, Xa, Xz, Xs]
    refine wl_read (.agg #[.int .i64 ((L[i]!).lo), .int .i64 ((L[i]!).hi), .int .i64 ((L[i]!).v), .bool ((L[i]!).st), .bool ((L[i]!).cm)]) rfl (er_part (i * 5) [.int .i64 ((L[i]!).lo), .int .i64 ((L[i]!).hi), .int .i64 ((L[i]!).v), .bool ((L[i]!).st), .bool ((L[i]!).cm)] (sl_old hL) rfl rfl (flat_part (enc := cy9) (fun _ => rfl) L i (by omega)) (Nat.zero_lt_succ _) Try.underlying33 rfl (by kernel_rfl)) ?_
    simp only [Act.put, Xa, Xz, Xs]
    refine wl_new 33 (#[.int .i64 0, .int .i64 0, .int .i64 0, .bool false, .bool false]) rfl (fun _ => by go_simp) ?_
    intro g7
    simp only [Act.put, Xa, Xz, Xs]
    refine wl_store 0 33 (.tmp 8) (.tmp 24) (#[.int .i64 ((L[i]!).lo), .int .i64 ((L[i]!).hi), .int .i64 ((L[i]!).v), .bool ((L[i]!).st), .bool ((L[i]!).cm)]) rfl rfl rfl rfl rfl (by kernel_rfl) rfl (by simp [Value.oneCell']) ?_
    simp only [Act.put, List.set_cons_zero]
    refine wl_nil ?_
    refine we_then ?_
    refine wc_seq ?_
    refine wc_seq ?_
    refine wc_region ?_
    refine wl_val (.pointer (some ⟨g7, 0, none⟩)) rfl (fun _ => by go_simp) ?_
    simp only [Act.put, Xa, Xz, Xs]
    refine wl_part 29 (.tmp 25) [.int .i64 ((L[i]!).lo), .int .i64 ((L[i]!).hi)] (own_row 0 rfl) rfl rfl rfl rfl Try.underlying29 rfl (by kernel_rfl) ?_
    simp only [Act.put, Xa, Xz, Xs]
    refine wl_call 8 #[.agg #[.int .i64 ((L[i]!).lo), .int .i64 ((L[i]!).hi)]] (.bool (smallB ((L[i]!).lo) ((L[i]!).hi))) rfl (fun _ => by go_simp) (fun W => small_any ((L[i]!).lo) ((L[i]!).hi) W) ?_
    simp only [Act.put, Xa, Xz, Xs]
    refine wl_val (.bool (!(smallB ((L[i]!).lo) ((L[i]!).hi)))) rfl (fun _ => by go_simp) ?_
    simp only [Act.put, Xa, Xz, Xs]
    refine wl_nil ?_
    refine we_then ?_
    cases h8 : (smallB ((L[i]!).lo) ((L[i]!).hi))
    ·
     skip
     refine wc_true rfl ?_
     refine wc_seq ?_
     refine wc_region ?_
     refine wl_val (.bool true) rfl (fun _ => rfl) ?_
     simp only [Act.put, Xa, Xz, Xs]
     refine wl_nil ?_
     refine we_then ?_
     refine wc_ret ?_
     refine we_then_ret ?_
     refine we_in_ret ?_
     refine we_then_ret ?_
     refine we_then_ret ?_
     refine we_in_ret ?_
     refine we_then_ret ?_
     refine we_ret1 (.bool true) rfl rfl rfl (fun w1 hE => ?_)
     exact ⟨rfl, hE.below⟩
    ·
     skip
     refine wc_false rfl ?_
     refine wc_skip ?_
     refine we_then ?_
     refine wc_seq ?_
     have hs := small_of h8
     refine wc_region ?_
     refine wl_load 31 (.tmp 5) (own_row 2 rfl) rfl rfl rfl Try.underlying31 rfl (by kernel_rfl) ?_
     simp only [Act.put, Xa, Xz, Xs]
     refine wl_load 23 (.tmp 2) (own_row 3 rfl) rfl rfl rfl Try.underlying23 rfl (by kernel_rfl) ?_
     simp only [Act.put, Xa, Xz, Xs]
     refine wl_val (.pointer (some ⟨g7, 3, none⟩)) rfl (fun _ => by go_simp) ?_
     simp only [Act.put, Xa, Xz, Xs]
     refine wl_cell 4 (.tmp 31) (.bool ((L[i]!).st)) (own_row 0 rfl) rfl rfl rfl rfl Try.isAgg4 ?_
     simp only [Act.put, Xa, Xz, Xs]
     refine wl_val (.pointer (some ⟨g7, 4, none⟩)) rfl (fun _ => by go_simp) ?_
     simp only [Act.put, Xa, Xz, Xs]
     refine wl_cell 4 (.tmp 33) (.bool ((L[i]!).cm)) (own_row 0 rfl) rfl rfl rfl rfl Try.isAgg4 ?_
     simp only [Act.put, Xa, Xz, Xs]
     refine wl_val (.pointer (some ⟨g7, 0, none⟩)) rfl (fun _ => by go_simp) ?_
     simp only [Act.put, Xa, Xz, Xs]
     refine wl_part 29 (.tmp 35) [.int .i64 ((L[i]!).lo), .int .i64 ((L[i]!).hi)] (own_row 0 rfl) rfl rfl rfl rfl Try.underlying29 rfl (by kernel_rfl) ?_
     simp only [Act.put, Xa, Xz, Xs]
     cases h9 : ((L[i]!).cm)
     ·
      skip
      cases h10 : (an)
      ·
       skip
       refine wl_call 9 #[.agg #[.bool false, .bool on, .int .i64 lo, .int .i64 hi], .agg #[.int .i64 k.pu, .int .i64 k.lo, .int .i64 k.hi, .int .i64 k.rb, .int .i64 k.rp, .int .i64 k.ae, .int .i64 k.ms, .int .i64 k.ma, .int .i64 k.an, .int .i64 k.st, .int .i64 k.ss, .int .i64 k.ro, .int .i64 k.ti, .int .i64 k.br], .bool ((L[i]!).st), .bool false, .agg #[.int .i64 ((L[i]!).lo), .int .i64 ((L[i]!).hi)]] (.agg #[.bool ((L[i]!).st), .bool false, .int .i64 0, .int .i64 0]) rfl (fun _ => by go_simp) (fun W => by have h9 := Rll.next_any k ⟨false, on, lo, hi⟩ ((L[i]!).st) false ((L[i]!).lo) ((L[i]!).hi) W hk ⟨by (try dsimp only); omega, by (try dsimp only); omega, by (try dsimp only); omega, by (try dsimp only); omega, by (try dsimp only); omega, by (try dsimp only); omega⟩; exact h9) ?_
       simp only [Act.put, Xa, Xz, Xs]
       refine wl_store 2 31 (.tmp 5) (.tmp 37) (#[.bool ((L[i]!).st), .bool false, .int .i64 0, .int .i64 0]) rfl rfl rfl rfl rfl (by kernel_rfl) rfl (by simp [Value.oneCell']) ?_
       simp only [Act.put, List.set_cons_zero, List.set_cons_succ]
       refine wl_nil ?_
       refine we_then ?_
       refine wc_seq ?_
       refine wc_region ?_
       refine wl_load 31 (.tmp 6) (own_row 1 rfl) rfl rfl rfl Try.underlying31 rfl (by kernel_rfl) ?_
       simp only [Act.put, Xa, Xz, Xs]
       refine wl_load 23 (.tmp 2) (own_row 3 rfl) rfl rfl rfl Try.underlying23 rfl (by kernel_rfl) ?_
       simp only [Act.put, Xa, Xz, Xs]
       refine wl_val (.pointer (some ⟨g7, 3, none⟩)) rfl (fun _ => by go_simp) ?_
       simp only [Act.put, Xa, Xz, Xs]
       refine wl_cell 4 (.tmp 40) (.bool ((L[i]!).st)) (own_row 0 rfl) rfl rfl rfl rfl Try.isAgg4 ?_
       simp only [Act.put, Xa, Xz, Xs]
       refine wl_val (.pointer (some ⟨g7, 4, none⟩)) rfl (fun _ => by go_simp) ?_
       simp only [Act.put, Xa, Xz, Xs]
       refine wl_cell 4 (.tmp 42) (.bool false) (own_row 0 rfl) rfl rfl rfl rfl Try.isAgg4 ?_
       simp only [Act.put, Xa, Xz, Xs]
       refine wl_val (.pointer (some ⟨g7, 0, none⟩)) rfl (fun _ => by go_simp) ?_
       simp only [Act.put, Xa, Xz, Xs]
       refine wl_val (.pointer (some ⟨g7, 1, none⟩)) rfl (fun _ => by go_simp) ?_
       simp only [Act.put, Xa, Xz, Xs]
       refine wl_cell 2 (.tmp 45) (.int .i64 ((L[i]!).hi)) (own_row 0 rfl) rfl rfl rfl rfl Try.isAgg2 ?_
       simp only [Act.put, Xa, Xz, Xs]
       refine wl_val (.int .i64 (-((L[i]!).hi))) rfl (fun w => run_neg rfl rfl Try.underlying2 (i64_in (by omega) (by omega)) w) ?_
       simp only [Act.put, Xa, Xz, Xs]
       refine wl_val (.pointer (some ⟨g7, 0, none⟩)) rfl (fun _ => by go_simp) ?_
       simp only [Act.put, Xa, Xz, Xs]
       refine wl_val (.pointer (some ⟨g7, 0, none⟩)) rfl (fun _ => by go_simp) ?_
       simp only [Act.put, Xa, Xz, Xs]
       refine wl_cell 2 (.tmp 49) (.int .i64 ((L[i]!).lo)) (own_row 0 rfl) rfl rfl rfl rfl Try.isAgg2 ?_
       simp only [Act.put, Xa, Xz, Xs]
       refine wl_val (.int .i64 (-((L[i]!).lo))) rfl (fun w => run_neg rfl rfl Try.underlying2 (i64_in (by omega) (by omega)) w) ?_
       simp only [Act.put, Xa, Xz, Xs]
       refine wl_val (.agg #[.int .i64 (-((L[i]!).hi)), .int .i64 (-((L[i]!).lo))]) rfl (fun _ => by go_simp) ?_
       simp only [Act.put, Xa, Xz, Xs]
       refine wl_call 9 #[.agg #[.bool false, .bool on, .int .i64 x, .int .i64 y], .agg #[.int .i64 k.pu, .int .i64 k.lo, .int .i64 k.hi, .int .i64 k.rb, .int .i64 k.rp, .int .i64 k.ae, .int .i64 k.ms, .int .i64 k.ma, .int .i64 k.an, .int .i64 k.st, .int .i64 k.ss, .int .i64 k.ro, .int .i64 k.ti, .int .i64 k.br], .bool ((L[i]!).st), .bool false, .agg #[.int .i64 (-((L[i]!).hi)), .int .i64 (-((L[i]!).lo))]] (.agg #[.bool ((L[i]!).st), .bool false, .int .i64 0, .int .i64 0]) rfl (fun _ => by go_simp) (fun W => by have h9 := Rll.next_any k ⟨false, on, x, y⟩ ((L[i]!).st) false (-((L[i]!).hi)) (-((L[i]!).lo)) W hk ⟨by (try dsimp only); omega, by (try dsimp only); omega, by (try dsimp only); omega, by (try dsimp only); omega, by (try dsimp only); omega, by (try dsimp only); omega⟩; exact h9) ?_
       simp only [Act.put, Xa, Xz, Xs]
       refine wl_store 1 31 (.tmp 6) (.tmp 53) (#[.bool ((L[i]!).st), .bool false, .int .i64 0, .int .i64 0]) rfl rfl rfl rfl rfl (by kernel_rfl) rfl (by simp [Value.oneCell']) ?_
       simp only [Act.put, List.set_cons_zero, List.set_cons_succ]
       refine wl_nil ?_
       refine we_then ?_
       refine wc_seq ?_
       refine wc_region ?_
       refine wl_val (.pointer (some ⟨g4, 0, none⟩)) rfl (fun _ => by go_simp) ?_
       simp only [Act.put, Xa, Xz, Xs]
       refine wl_cell 4 (.tmp 54) (.bool ((L[i]!).st)) (own_row 2 rfl) rfl rfl rfl rfl Try.isAgg4 ?_
       simp only [Act.put, Xa, Xz, Xs]
       refine wl_val (.pointer (some ⟨g5, 0, none⟩)) rfl (fun _ => by go_simp) ?_
       simp only [Act.put, Xa, Xz, Xs]
       refine wl_cell 4 (.tmp 56) (.bool ((L[i]!).st)) (own_row 1 rfl) rfl rfl rfl rfl Try.isAgg4 ?_
       simp only [Act.put, Xa, Xz, Xs]
       refine wl_val (.bool false) rfl (fun w => run_bne rfl rfl rfl Try.underlying4 (by cases ((L[i]!).st) <;> rfl) w) ?_
       simp only [Act.put, Xa, Xz, Xs]
       refine wl_val (.bool false) rfl (fun _ => rfl) ?_
       simp only [Act.put, Xa, Xz, Xs]
       refine wl_val (.pointer (some ⟨g4, 1, none⟩)) rfl (fun _ => by go_simp) ?_
       simp only [Act.put, Xa, Xz, Xs]
       refine wl_cell 4 (.tmp 60) (.bool false) (own_row 2 rfl) rfl rfl rfl rfl Try.isAgg4 ?_
       simp only [Act.put, Xa, Xz, Xs]
       refine wl_val (.pointer (some ⟨g5, 1, none⟩)) rfl (fun _ => by go_simp) ?_
       simp only [Act.put, Xa, Xz, Xs]
       refine wl_cell 4 (.tmp 62) (.bool false) (own_row 1 rfl) rfl rfl rfl rfl Try.isAgg4 ?_
       simp only [Act.put, Xa, Xz, Xs]
       refine wl_val (.bool false) rfl (fun _ => by go_simp) ?_
       simp only [Act.put, Xa, Xz, Xs]
       refine wl_val (.bool false) rfl (fun _ => rfl) ?_
       simp only [Act.put, Xa, Xz, Xs]
       refine wl_val (.bool false) rfl (fun _ => rfl) ?_
       simp only [Act.put, Xa, Xz, Xs]
       refine wl_val (.pointer (some ⟨g4, 2, none⟩)) rfl (fun _ => by go_simp) ?_
       simp only [Act.put, Xa, Xz, Xs]
       refine wl_val (.pointer (some ⟨g4, 2, none⟩)) rfl (fun _ => by go_simp) ?_
       simp only [Act.put, Xa, Xz, Xs]
       refine wl_cell 2 (.tmp 68) (.int .i64 0) (own_row 2 rfl) rfl rfl rfl rfl Try.isAgg2 ?_
       simp only [Act.put, Xa, Xz, Xs]
       refine wl_val (.pointer (some ⟨g5, 2, none⟩)) rfl (fun _ => by go_simp) ?_
       simp only [Act.put, Xa, Xz, Xs]
       refine wl_val (.pointer (some ⟨g5, 3, none⟩)) rfl (fun _ => by go_simp) ?_
       simp only [Act.put, Xa, Xz, Xs]
       refine wl_cell 2 (.tmp 71) (.int .i64 0) (own_row 1 rfl) rfl rfl rfl rfl Try.isAgg2 ?_
       simp only [Act.put, Xa, Xz, Xs]
       refine wl_val (.int .i64 (-0)) rfl (fun w => run_neg rfl rfl Try.underlying2 (i64_in (by omega) (by omega)) w) ?_
       simp only [Act.put, Xa, Xz, Xs]
       refine wl_val (.bool (0 != (-0))) rfl (fun w => run_cmp rfl rfl rfl Try.underlying2 rfl w) ?_
       simp only [Act.put, Xa, Xz, Xs]
       refine wl_val (.bool (0 != (-0))) rfl (fun _ => rfl) ?_
       simp only [Act.put, Xa, Xz, Xs]
       refine wl_val (.bool (0 != (-0))) rfl (fun _ => rfl) ?_
       simp only [Act.put, Xa, Xz, Xs]
       cases h11 : (0 != (-0))
       ·
        skip
        have p11 : ¬ (0 ≠ (-0)) := by first | (simp; done) | (simp at h11; done) | simpa using h11
        refine wl_val (.pointer (some ⟨g4, 2, none⟩)) rfl (fun _ => by go_simp) ?_
        simp only [Act.put, Xa, Xz, Xs]
        refine wl_val (.pointer (some ⟨g4, 3, none⟩)) rfl (fun _ => by go_simp) ?_
        simp only [Act.put, Xa, Xz, Xs]
        refine wl_cell 2 (.tmp 78) (.int .i64 0) (own_row 2 rfl) rfl rfl rfl rfl Try.isAgg2 ?_
        simp only [Act.put, Xa, Xz, Xs]
        refine wl_val (.pointer (some ⟨g5, 2, none⟩)) rfl (fun _ => by go_simp) ?_
        simp only [Act.put, Xa, Xz, Xs]
        refine wl_val (.pointer (some ⟨g5, 2, none⟩)) rfl (fun _ => by go_simp) ?_
        simp only [Act.put, Xa, Xz, Xs]
        refine wl_cell 2 (.tmp 81) (.int .i64 0) (own_row 1 rfl) rfl rfl rfl rfl Try.isAgg2 ?_
        simp only [Act.put, Xa, Xz, Xs]
        refine wl_val (.int .i64 (-0)) rfl (fun w => run_neg rfl rfl Try.underlying2 (i64_in (by omega) (by omega)) w) ?_
        simp only [Act.put, Xa, Xz, Xs]
        refine wl_val (.bool false) rfl (fun w => run_cmp (b := false) rfl rfl rfl Try.underlying2 (by exact congrArg some h11) w) ?_
        simp only [Act.put, Xa, Xz, Xs]
        refine wl_val (.bool false) rfl (fun _ => rfl) ?_
        simp only [Act.put, Xa, Xz, Xs]
        refine wl_nil ?_
        refine we_then ?_
        refine wc_false rfl ?_
        refine wc_skip ?_
        refine we_in ?_
        refine we_then ?_
        refine wc_region ?_
        refine wl_val (.int .i64 ((i + 1 : Nat) : Int)) rfl (fun w => run_nat (X := i) (Y := 1) (Z := i + 1) rfl rfl rfl rfl (by omega) w) ?_
        simp only [Act.put, Xa, Xz, Xs]
        refine wl_val (.int .i64 ((i + 1 : Nat) : Int)) rfl (fun _ => rfl) ?_
        simp only [Act.put, Xa, Xz, Xs]
        refine wl_nil ?_
        exact we_meet ⟨(i + 1), ((L[i]!).st), false, 0, 0, 0, 0, _, _, _, _, _, _, _, _, _, _, _, _, _, _, _, _, _, _, _, _, _, _, _, _, _, _, _, _, _, _, _, _, _, _, _, _, _, _, _, _, _, _, _, _, _, _, _, _, _, _, _, _, _, _, _, _, _, _, _, _, _, _, _, _, _, _, _⟩ ⟨⟨by (try dsimp only); omega, by (try dsimp only); omega, by (try dsimp only); omega, by (try dsimp only); omega, by (try dsimp only); omega, by (try dsimp only); omega⟩, by (try dsimp only); omega⟩ rfl (List.Sublist.cons _ (List.Sublist.cons_cons _ (List.Sublist.cons_cons _ (List.Sublist.cons_cons _ List.Sublist.slnil))))
       ·
        skip
        have p11 : 0 ≠ (-0) := by first | (simp; done) | (simp at h11; done) | simpa using h11
        refine wl_skip rfl ?_
        simp only [Act.put, Xa, Xz, Xs]
        refine wl_skip rfl ?_
        simp only [Act.put, Xa, Xz, Xs]
        refine wl_skip rfl ?_
        simp only [Act.put, Xa, Xz, Xs]
        refine wl_skip rfl ?_
        simp only [Act.put, Xa, Xz, Xs]
        refine wl_skip rfl ?_
        simp only [Act.put, Xa, Xz, Xs]
        refine wl_skip rfl ?_
        simp only [Act.put, Xa, Xz, Xs]
        refine wl_skip rfl ?_
        simp only [Act.put, Xa, Xz, Xs]
        refine wl_skip rfl ?_
        simp only [Act.put, Xa, Xz, Xs]
        refine wl_val (.bool true) rfl (fun _ => rfl) ?_
        simp only [Act.put, Xa, Xz, Xs]
        refine wl_nil ?_
        refine we_then ?_
        refine wc_true rfl ?_
        refine wc_seq ?_
        refine wc_region ?_
        refine wl_val (.bool false) rfl (fun _ => rfl) ?_
        simp only [Act.put, Xa, Xz, Xs]
        refine wl_nil ?_
        refine we_then ?_
        refine wc_ret ?_
        refine we_in_ret ?_
        refine we_then_ret ?_
        refine we_then_ret ?_
        refine we_in_ret ?_
        refine we_then_ret ?_
        refine we_ret1 (.bool false) rfl rfl rfl (fun w1 hE => ?_)
        exact (by exfalso; first | omega | simp_all)
      ·
       skip
       cases h12 : (on)
       ·
        skip
        cases h13 : (decide (k.ro < lo + ((L[i]!).lo)))
        ·
         skip
         have p13 : ¬ (k.ro < lo + ((L[i]!).lo)) := of_decide_eq_false h13
         cases h14 : (decide (hi + ((L[i]!).hi) < -k.ro))
         ·
          skip
          have p14 : ¬ (hi + ((L[i]!).hi) < -k.ro) := of_decide_eq_false h14
          refine wl_call 9 #[.agg #[.bool true, .bool false, .int .i64 lo, .int .i64 hi], .agg #[.int .i64 k.pu, .int .i64 k.lo, .int .i64 k.hi, .int .i64 k.rb, .int .i64 k.rp, .int .i64 k.ae, .int .i64 k.ms, .int .i64 k.ma, .int .i64 k.an, .int .i64 k.st, .int .i64 k.ss, .int .i64 k.ro, .int .i64 k.ti, .int .i64 k.br], .bool ((L[i]!).st), .bool false, .agg #[.int .i64 ((L[i]!).lo), .int .i64 ((L[i]!).hi)]] (.agg #[.bool true, .bool false, .int .i64 (lo + ((L[i]!).lo)), .int .i64 (hi + ((L[i]!).hi))]) rfl (fun _ => by go_simp) (fun W => by have h9 := Rll.next_any k ⟨true, false, lo, hi⟩ ((L[i]!).st) false ((L[i]!).lo) ((L[i]!).hi) W hk ⟨by (try dsimp only); omega, by (try dsimp only); omega, by (try dsimp only); omega, by (try dsimp only); omega, by (try dsimp only); omega, by (try dsimp only); omega⟩; rwa [show (nx k ⟨true, false, lo, hi⟩ ((L[i]!).st) false ((L[i]!).lo) ((L[i]!).hi)).on = false from (by show (false || (decide (k.ro < lo + ((L[i]!).lo)) || decide (hi + ((L[i]!).hi) < -k.ro))) = false; rw [h13, h14]; try rfl)] at h9) ?_
          simp only [Act.put, Xa, Xz, Xs]
          refine wl_store 2 31 (.tmp 5) (.tmp 37) (#[.bool true, .bool false, .int .i64 (lo + ((L[i]!).lo)), .int .i64 (hi + ((L[i]!).hi))]) rfl rfl rfl rfl rfl (by kernel_rfl) rfl (by simp [Value.oneCell']) ?_
          simp only [Act.put, List.set_cons_zero, List.set_cons_succ]
          refine wl_nil ?_
          refine we_then ?_
          refine wc_seq ?_
          refine wc_region ?_
          refine wl_load 31 (.tmp 6) (own_row 1 rfl) rfl rfl rfl Try.underlying31 rfl (by kernel_rfl) ?_
          simp only [Act.put, Xa, Xz, Xs]
          refine wl_load 23 (.tmp 2) (own_row 3 rfl) rfl rfl rfl Try.underlying23 rfl (by kernel_rfl) ?_
          simp only [Act.put, Xa, Xz, Xs]
          refine wl_val (.pointer (some ⟨g7, 3, none⟩)) rfl (fun _ => by go_simp) ?_
          simp only [Act.put, Xa, Xz, Xs]
          refine wl_cell 4 (.tmp 40) (.bool ((L[i]!).st)) (own_row 0 rfl) rfl rfl rfl rfl Try.isAgg4 ?_
          simp only [Act.put, Xa, Xz, Xs]
          refine wl_val (.pointer (some ⟨g7, 4, none⟩)) rfl (fun _ => by go_simp) ?_
          simp only [Act.put, Xa, Xz, Xs]
          refine wl_cell 4 (.tmp 42) (.bool false) (own_row 0 rfl) rfl rfl rfl rfl Try.isAgg4 ?_
          simp only [Act.put, Xa, Xz, Xs]
          refine wl_val (.pointer (some ⟨g7, 0, none⟩)) rfl (fun _ => by go_simp) ?_
          simp only [Act.put, Xa, Xz, Xs]
          refine wl_val (.pointer (some ⟨g7, 1, none⟩)) rfl (fun _ => by go_simp) ?_
          simp only [Act.put, Xa, Xz, Xs]
          refine wl_cell 2 (.tmp 45) (.int .i64 ((L[i]!).hi)) (own_row 0 rfl) rfl rfl rfl rfl Try.isAgg2 ?_
          simp only [Act.put, Xa, Xz, Xs]
          refine wl_val (.int .i64 (-((L[i]!).hi))) rfl (fun w => run_neg rfl rfl Try.underlying2 (i64_in (by omega) (by omega)) w) ?_
          simp only [Act.put, Xa, Xz, Xs]
          refine wl_val (.pointer (some ⟨g7, 0, none⟩)) rfl (fun _ => by go_simp) ?_
          simp only [Act.put, Xa, Xz, Xs]
          refine wl_val (.pointer (some ⟨g7, 0, none⟩)) rfl (fun _ => by go_simp) ?_
          simp only [Act.put, Xa, Xz, Xs]
          refine wl_cell 2 (.tmp 49) (.int .i64 ((L[i]!).lo)) (own_row 0 rfl) rfl rfl rfl rfl Try.isAgg2 ?_
          simp only [Act.put, Xa, Xz, Xs]
          refine wl_val (.int .i64 (-((L[i]!).lo))) rfl (fun w => run_neg rfl rfl Try.underlying2 (i64_in (by omega) (by omega)) w) ?_
          simp only [Act.put, Xa, Xz, Xs]
          refine wl_val (.agg #[.int .i64 (-((L[i]!).hi)), .int .i64 (-((L[i]!).lo))]) rfl (fun _ => by go_simp) ?_
          simp only [Act.put, Xa, Xz, Xs]
          cases h15 : (decide (k.ro < x + (-((L[i]!).hi))))
          ·
           skip
           have p15 : ¬ (k.ro < x + (-((L[i]!).hi))) := of_decide_eq_false h15
           cases h16 : (decide (y + (-((L[i]!).lo)) < -k.ro))
           ·
            skip
            have p16 : ¬ (y + (-((L[i]!).lo)) < -k.ro) := of_decide_eq_false h16
            refine wl_call 9 #[.agg #[.bool true, .bool false, .int .i64 x, .int .i64 y], .agg #[.int .i64 k.pu, .int .i64 k.lo, .int .i64 k.hi, .int .i64 k.rb, .int .i64 k.rp, .int .i64 k.ae, .int .i64 k.ms, .int .i64 k.ma, .int .i64 k.an, .int .i64 k.st, .int .i64 k.ss, .int .i64 k.ro, .int .i64 k.ti, .int .i64 k.br], .bool ((L[i]!).st), .bool false, .agg #[.int .i64 (-((L[i]!).hi)), .int .i64 (-((L[i]!).lo))]] (.agg #[.bool true, .bool false, .int .i64 (x + (-((L[i]!).hi))), .int .i64 (y + (-((L[i]!).lo)))]) rfl (fun _ => by go_simp) (fun W => by have h9 := Rll.next_any k ⟨true, false, x, y⟩ ((L[i]!).st) false (-((L[i]!).hi)) (-((L[i]!).lo)) W hk ⟨by (try dsimp only); omega, by (try dsimp only); omega, by (try dsimp only); omega, by (try dsimp only); omega, by (try dsimp only); omega, by (try dsimp only); omega⟩; rwa [show (nx k ⟨true, false, x, y⟩ ((L[i]!).st) false (-((L[i]!).hi)) (-((L[i]!).lo))).on = false from (by show (false || (decide (k.ro < x + (-((L[i]!).hi))) || decide (y + (-((L[i]!).lo)) < -k.ro))) = false; rw [h15, h16]; try rfl)] at h9) ?_
            simp only [Act.put, Xa, Xz, Xs]
            refine wl_store 1 31 (.tmp 6) (.tmp 53) (#[.bool true, .bool false, .int .i64 (x + (-((L[i]!).hi))), .int .i64 (y + (-((L[i]!).lo)))]) rfl rfl rfl rfl rfl (by kernel_rfl) rfl (by simp [Value.oneCell']) ?_
            simp only [Act.put, List.set_cons_zero, List.set_cons_succ]
            refine wl_nil ?_
            refine we_then ?_
            refine wc_seq ?_
            refine wc_region ?_
            refine wl_val (.pointer (some ⟨g4, 0, none⟩)) rfl (fun _ => by go_simp) ?_
            simp only [Act.put, Xa, Xz, Xs]
            refine wl_cell 4 (.tmp 54) (.bool true) (own_row 2 rfl) rfl rfl rfl rfl Try.isAgg4 ?_
            simp only [Act.put, Xa, Xz, Xs]
            refine wl_val (.pointer (some ⟨g5, 0, none⟩)) rfl (fun _ => by go_simp) ?_
            simp only [Act.put, Xa, Xz, Xs]
            refine wl_cell 4 (.tmp 56) (.bool true) (own_row 1 rfl) rfl rfl rfl rfl Try.isAgg4 ?_
            simp only [Act.put, Xa, Xz, Xs]
            refine wl_val (.bool false) rfl (fun _ => by go_simp) ?_
            simp only [Act.put, Xa, Xz, Xs]
            refine wl_val (.bool false) rfl (fun _ => rfl) ?_
            simp only [Act.put, Xa, Xz, Xs]
            refine wl_val (.pointer (some ⟨g4, 1, none⟩)) rfl (fun _ => by go_simp) ?_
            simp only [Act.put, Xa, Xz, Xs]
            refine wl_cell 4 (.tmp 60) (.bool false) (own_row 2 rfl) rfl rfl rfl rfl Try.isAgg4 ?_
            simp only [Act.put, Xa, Xz, Xs]
            refine wl_val (.pointer (some ⟨g5, 1, none⟩)) rfl (fun _ => by go_simp) ?_
            simp only [Act.put, Xa, Xz, Xs]
            refine wl_cell 4 (.tmp 62) (.bool false) (own_row 1 rfl) rfl rfl rfl rfl Try.isAgg4 ?_
            simp only [Act.put, Xa, Xz, Xs]
            refine wl_val (.bool false) rfl (fun _ => by go_simp) ?_
            simp only [Act.put, Xa, Xz, Xs]
            refine wl_val (.bool false) rfl (fun _ => rfl) ?_
            simp only [Act.put, Xa, Xz, Xs]
            refine wl_val (.bool false) rfl (fun _ => rfl) ?_
            simp only [Act.put, Xa, Xz, Xs]
            refine wl_val (.pointer (some ⟨g4, 2, none⟩)) rfl (fun _ => by go_simp) ?_
            simp only [Act.put, Xa, Xz, Xs]
            refine wl_val (.pointer (some ⟨g4, 2, none⟩)) rfl (fun _ => by go_simp) ?_
            simp only [Act.put, Xa, Xz, Xs]
            refine wl_cell 2 (.tmp 68) (.int .i64 (lo + ((L[i]!).lo))) (own_row 2 rfl) rfl rfl rfl rfl Try.isAgg2 ?_
            simp only [Act.put, Xa, Xz, Xs]
            refine wl_val (.pointer (some ⟨g5, 2, none⟩)) rfl (fun _ => by go_simp) ?_
            simp only [Act.put, Xa, Xz, Xs]
            refine wl_val (.pointer (some ⟨g5, 3, none⟩)) rfl (fun _ => by go_simp) ?_
            simp only [Act.put, Xa, Xz, Xs]
            refine wl_cell 2 (.tmp 71) (.int .i64 (y + (-((L[i]!).lo)))) (own_row 1 rfl) rfl rfl rfl rfl Try.isAgg2 ?_
            simp only [Act.put, Xa, Xz, Xs]
            refine wl_val (.int .i64 (-(y + (-((L[i]!).lo))))) rfl (fun w => run_neg rfl rfl Try.underlying2 (i64_in (by omega) (by omega)) w) ?_
            simp only [Act.put, Xa, Xz, Xs]
            refine wl_val (.bool ((lo + ((L[i]!).lo)) != (-(y + (-((L[i]!).lo)))))) rfl (fun w => run_cmp rfl rfl rfl Try.underlying2 rfl w) ?_
            simp only [Act.put, Xa, Xz, Xs]
            refine wl_val (.bool ((lo + ((L[i]!).lo)) != (-(y + (-((L[i]!).lo)))))) rfl (fun _ => rfl) ?_
            simp only [Act.put, Xa, Xz, Xs]
            refine wl_val (.bool ((lo + ((L[i]!).lo)) != (-(y + (-((L[i]!).lo)))))) rfl (fun _ => rfl) ?_
            simp only [Act.put, Xa, Xz, Xs]
            cases h17 : ((lo + ((L[i]!).lo)) != (-(y + (-((L[i]!).lo)))))
            ·
             skip
             have p17 : ¬ ((lo + ((L[i]!).lo)) ≠ (-(y + (-((L[i]!).lo))))) := by first | (simp; done) | (simp at h17; done) | simpa using h17
             refine wl_val (.pointer (some ⟨g4, 2, none⟩)) rfl (fun _ => by go_simp) ?_
             simp only [Act.put, Xa, Xz, Xs]
             refine wl_val (.pointer (some ⟨g4, 3, none⟩)) rfl (fun _ => by go_simp) ?_
             simp only [Act.put, Xa, Xz, Xs]
             refine wl_cell 2 (.tmp 78) (.int .i64 (hi + ((L[i]!).hi))) (own_row 2 rfl) rfl rfl rfl rfl Try.isAgg2 ?_
             simp only [Act.put, Xa, Xz, Xs]
             refine wl_val (.pointer (some ⟨g5, 2, none⟩)) rfl (fun _ => by go_simp) ?_
             simp only [Act.put, Xa, Xz, Xs]
             refine wl_val (.pointer (some ⟨g5, 2, none⟩)) rfl (fun _ => by go_simp) ?_
             simp only [Act.put, Xa, Xz, Xs]
             refine wl_cell 2 (.tmp 81) (.int .i64 (x + (-((L[i]!).hi)))) (own_row 1 rfl) rfl rfl rfl rfl Try.isAgg2 ?_
             simp only [Act.put, Xa, Xz, Xs]
             refine wl_val (.int .i64 (-(x + (-((L[i]!).hi))))) rfl (fun w => run_neg rfl rfl Try.underlying2 (i64_in (by omega) (by omega)) w) ?_
             simp only [Act.put, Xa, Xz, Xs]
             refine wl_val (.bool ((hi + ((L[i]!).hi)) != (-(x + (-((L[i]!).hi)))))) rfl (fun w => run_cmp rfl rfl rfl Try.underlying2 rfl w) ?_
             simp only [Act.put, Xa, Xz, Xs]
             refine wl_val (.bool ((hi + ((L[i]!).hi)) != (-(x + (-((L[i]!).hi)))))) rfl (fun _ => rfl) ?_
             simp only [Act.put, Xa, Xz, Xs]
             refine wl_nil ?_
             refine we_then ?_
             cases h18 : ((hi + ((L[i]!).hi)) != (-(x + (-((L[i]!).hi)))))
             ·
              skip
              have p18 : ¬ ((hi + ((L[i]!).hi)) ≠ (-(x + (-((L[i]!).hi))))) := by first | (simp; done) | (simp at h18; done) | simpa using h18
              refine wc_false rfl ?_
              refine wc_skip ?_
              refine we_in ?_
              refine we_then ?_
              refine wc_region ?_
              refine wl_val (.int .i64 ((i + 1 : Nat) : Int)) rfl (fun w => run_nat (X := i) (Y := 1) (Z := i + 1) rfl rfl rfl rfl (by omega) w) ?_
              simp only [Act.put, Xa, Xz, Xs]
              refine wl_val (.int .i64 ((i + 1 : Nat) : Int)) rfl (fun _ => rfl) ?_
              simp only [Act.put, Xa, Xz, Xs]
              refine wl_nil ?_
              exact we_meet ⟨(i + 1), true, false, (lo + ((L[i]!).lo)), (hi + ((L[i]!).hi)), (x + (-((L[i]!).hi))), (y + (-((L[i]!).lo))), _, _, _, _, _, _, _, _, _, _, _, _, _, _, _, _, _, _, _, _, _, _, _, _, _, _, _, _, _, _, _, _, _, _, _, _, _, _, _, _, _, _, _, _, _, _, _, _, _, _, _, _, _, _, _, _, _, _, _, _, _, _, _, _, _, _, _⟩ ⟨⟨by (try dsimp only); omega, by (try dsimp only); omega, by (try dsimp only); omega, by (try dsimp only); omega, by (try dsimp only); omega, by (try dsimp only); omega⟩, by (try dsimp only); omega⟩ rfl (List.Sublist.cons _ (List.Sublist.cons_cons _ (List.Sublist.cons_cons _ (List.Sublist.cons_cons _ List.Sublist.slnil))))
             ·
              skip
              have p18 : (hi + ((L[i]!).hi)) ≠ (-(x + (-((L[i]!).hi)))) := by first | (simp; done) | (simp at h18; done) | simpa using h18
              refine wc_true rfl ?_
              refine wc_seq ?_
              refine wc_region ?_
              refine wl_val (.bool false) rfl (fun _ => rfl) ?_
              simp only [Act.put, Xa, Xz, Xs]
              refine wl_nil ?_
              refine we_then ?_
              refine wc_ret ?_
              refine we_in_ret ?_
              refine we_then_ret ?_
              refine we_then_ret ?_
              refine we_in_ret ?_
              refine we_then_ret ?_
              refine we_ret1 (.bool false) rfl rfl rfl (fun w1 hE => ?_)
              exact (by exfalso; first | omega | simp_all)
            ·
             skip
             have p17 : (lo + ((L[i]!).lo)) ≠ (-(y + (-((L[i]!).lo)))) := by first | (simp; done) | (simp at h17; done) | simpa using h17
             refine wl_skip rfl ?_
             simp only [Act.put, Xa, Xz, Xs]
             refine wl_skip rfl ?_
             simp only [Act.put, Xa, Xz, Xs]
             refine wl_skip rfl ?_
             simp only [Act.put, Xa, Xz, Xs]
             refine wl_skip rfl ?_
             simp only [Act.put, Xa, Xz, Xs]
             refine wl_skip rfl ?_
             simp only [Act.put, Xa, Xz, Xs]
             refine wl_skip rfl ?_
             simp only [Act.put, Xa, Xz, Xs]
             refine wl_skip rfl ?_
             simp only [Act.put, Xa, Xz, Xs]
             refine wl_skip rfl ?_
             simp only [Act.put, Xa, Xz, Xs]
             refine wl_val (.bool true) rfl (fun _ => rfl) ?_
             simp only [Act.put, Xa, Xz, Xs]
             refine wl_nil ?_
             refine we_then ?_
             refine wc_true rfl ?_
             refine wc_seq ?_
             refine wc_region ?_
             refine wl_val (.bool false) rfl (fun _ => rfl) ?_
             simp only [Act.put, Xa, Xz, Xs]
             refine wl_nil ?_
             refine we_then ?_
             refine wc_ret ?_
             refine we_in_ret ?_
             refine we_then_ret ?_
             refine we_then_ret ?_
             refine we_in_ret ?_
             refine we_then_ret ?_
             refine we_ret1 (.bool false) rfl rfl rfl (fun w1 hE => ?_)
             exact (by exfalso; first | omega | simp_all)
           ·
            skip
            have p16 : y + (-((L[i]!).lo)) < -k.ro := of_decide_eq_true h16
            refine wl_call 9 #[.agg #[.bool true, .bool false, .int .i64 x, .int .i64 y], .agg #[.int .i64 k.pu, .int .i64 k.lo, .int .i64 k.hi, .int .i64 k.rb, .int .i64 k.rp, .int .i64 k.ae, .int .i64 k.ms, .int .i64 k.ma, .int .i64 k.an, .int .i64 k.st, .int .i64 k.ss, .int .i64 k.ro, .int .i64 k.ti, .int .i64 k.br], .bool ((L[i]!).st), .bool false, .agg #[.int .i64 (-((L[i]!).hi)), .int .i64 (-((L[i]!).lo))]] (.agg #[.bool true, .bool true, .int .i64 (x + (-((L[i]!).hi))), .int .i64 (y + (-((L[i]!).lo)))]) rfl (fun _ => by go_simp) (fun W => by have h9 := Rll.next_any k ⟨true, false, x, y⟩ ((L[i]!).st) false (-((L[i]!).hi)) (-((L[i]!).lo)) W hk ⟨by (try dsimp only); omega, by (try dsimp only); omega, by (try dsimp only); omega, by (try dsimp only); omega, by (try dsimp only); omega, by (try dsimp only); omega⟩; rwa [show (nx k ⟨true, false, x, y⟩ ((L[i]!).st) false (-((L[i]!).hi)) (-((L[i]!).lo))).on = true from (by show (false || (decide (k.ro < x + (-((L[i]!).hi))) || decide (y + (-((L[i]!).lo)) < -k.ro))) = true; rw [h15, h16]; try rfl)] at h9) ?_
            simp only [Act.put, Xa, Xz, Xs]
            refine wl_store 1 31 (.tmp 6) (.tmp 53) (#[.bool true, .bool true, .int .i64 (x + (-((L[i]!).hi))), .int .i64 (y + (-((L[i]!).lo)))]) rfl rfl rfl rfl rfl (by kernel_rfl) rfl (by simp [Value.oneCell']) ?_
            simp only [Act.put, List.set_cons_zero, List.set_cons_succ]
            refine wl_nil ?_
            refine we_then ?_
            refine wc_seq ?_
            refine wc_region ?_
            refine wl_val (.pointer (some ⟨g4, 0, none⟩)) rfl (fun _ => by go_simp) ?_
            simp only [Act.put, Xa, Xz, Xs]
            refine wl_cell 4 (.tmp 54) (.bool true) (own_row 2 rfl) rfl rfl rfl rfl Try.isAgg4 ?_
            simp only [Act.put, Xa, Xz, Xs]
            refine wl_val (.pointer (some ⟨g5, 0, none⟩)) rfl (fun _ => by go_simp) ?_
            simp only [Act.put, Xa, Xz, Xs]
            refine wl_cell 4 (.tmp 56) (.bool true) (own_row 1 rfl) rfl rfl rfl rfl Try.isAgg4 ?_
            simp only [Act.put, Xa, Xz, Xs]
            refine wl_val (.bool false) rfl (fun _ => by go_simp) ?_
            simp only [Act.put, Xa, Xz, Xs]
            refine wl_val (.bool false) rfl (fun _ => rfl) ?_
            simp only [Act.put, Xa, Xz, Xs]
            refine wl_val (.pointer (some ⟨g4, 1, none⟩)) rfl (fun _ => by go_simp) ?_
            simp only [Act.put, Xa, Xz, Xs]
            refine wl_cell 4 (.tmp 60) (.bool false) (own_row 2 rfl) rfl rfl rfl rfl Try.isAgg4 ?_
            simp only [Act.put, Xa, Xz, Xs]
            refine wl_val (.pointer (some ⟨g5, 1, none⟩)) rfl (fun _ => by go_simp) ?_
            simp only [Act.put, Xa, Xz, Xs]
            refine wl_cell 4 (.tmp 62) (.bool true) (own_row 1 rfl) rfl rfl rfl rfl Try.isAgg4 ?_
            simp only [Act.put, Xa, Xz, Xs]
            refine wl_val (.bool true) rfl (fun _ => by go_simp) ?_
            simp only [Act.put, Xa, Xz, Xs]
            refine wl_val (.bool true) rfl (fun _ => rfl) ?_
            simp only [Act.put, Xa, Xz, Xs]
            refine wl_val (.bool true) rfl (fun _ => rfl) ?_
            simp only [Act.put, Xa, Xz, Xs]
            refine wl_skip rfl ?_
            simp only [Act.put, Xa, Xz, Xs]
            refine wl_skip rfl ?_
            simp only [Act.put, Xa, Xz, Xs]
            refine wl_skip rfl ?_
            simp only [Act.put, Xa, Xz, Xs]
            refine wl_skip rfl ?_
            simp only [Act.put, Xa, Xz, Xs]
            refine wl_skip rfl ?_
            simp only [Act.put, Xa, Xz, Xs]
            refine wl_skip rfl ?_
            simp only [Act.put, Xa, Xz, Xs]
            refine wl_skip rfl ?_
            simp only [Act.put, Xa, Xz, Xs]
            refine wl_skip rfl ?_
            simp only [Act.put, Xa, Xz, Xs]
            refine wl_val (.bool true) rfl (fun _ => rfl) ?_
            simp only [Act.put, Xa, Xz, Xs]
            refine wl_val (.bool true) rfl (fun _ => rfl) ?_
            simp only [Act.put, Xa, Xz, Xs]
            refine wl_skip rfl ?_
            simp only [Act.put, Xa, Xz, Xs]
            refine wl_skip rfl ?_
            simp only [Act.put, Xa, Xz, Xs]
            refine wl_skip rfl ?_
            simp only [Act.put, Xa, Xz, Xs]
            refine wl_skip rfl ?_
            simp only [Act.put, Xa, Xz, Xs]
            refine wl_skip rfl ?_
            simp only [Act.put, Xa, Xz, Xs]
            refine wl_skip rfl ?_
            simp only [Act.put, Xa, Xz, Xs]
            refine wl_skip rfl ?_
            simp only [Act.put, Xa, Xz, Xs]
            refine wl_skip rfl ?_
            simp only [Act.put, Xa, Xz, Xs]
            refine wl_val (.bool true) rfl (fun _ => rfl) ?_
            simp only [Act.put, Xa, Xz, Xs]
            refine wl_nil ?_
            refine we_then ?_
            refine wc_true rfl ?_
            refine wc_seq ?_
            refine wc_region ?_
            refine wl_val (.bool false) rfl (fun _ => rfl) ?_
            simp only [Act.put, Xa, Xz, Xs]
            refine wl_nil ?_
            refine we_then ?_
            refine wc_ret ?_
            refine we_in_ret ?_
            refine we_then_ret ?_
            refine we_then_ret ?_
            refine we_in_ret ?_
            refine we_then_ret ?_
            refine we_ret1 (.bool false) rfl rfl rfl (fun w1 hE => ?_)
            exact (by exfalso; first | omega | simp_all)
          ·
           skip
           have p15 : k.ro < x + (-((L[i]!).hi)) := of_decide_eq_true h15
           refine wl_call 9 #[.agg #[.bool true, .bool false, .int .i64 x, .int .i64 y], .agg #[.int .i64 k.pu, .int .i64 k.lo, .int .i64 k.hi, .int .i64 k.rb, .int .i64 k.rp, .int .i64 k.ae, .int .i64 k.ms, .int .i64 k.ma, .int .i64 k.an, .int .i64 k.st, .int .i64 k.ss, .int .i64 k.ro, .int .i64 k.ti, .int .i64 k.br], .bool ((L[i]!).st), .bool false, .agg #[.int .i64 (-((L[i]!).hi)), .int .i64 (-((L[i]!).lo))]] (.agg #[.bool true, .bool true, .int .i64 (x + (-((L[i]!).hi))), .int .i64 (y + (-((L[i]!).lo)))]) rfl (fun _ => by go_simp) (fun W => by have h9 := Rll.next_any k ⟨true, false, x, y⟩ ((L[i]!).st) false (-((L[i]!).hi)) (-((L[i]!).lo)) W hk ⟨by (try dsimp only); omega, by (try dsimp only); omega, by (try dsimp only); omega, by (try dsimp only); omega, by (try dsimp only); omega, by (try dsimp only); omega⟩; rwa [show (nx k ⟨true, false, x, y⟩ ((L[i]!).st) false (-((L[i]!).hi)) (-((L[i]!).lo))).on = true from (by show (false || (decide (k.ro < x + (-((L[i]!).hi))) || decide (y + (-((L[i]!).lo)) < -k.ro))) = true; rw [h15]; try rfl)] at h9) ?_
           simp only [Act.put, Xa, Xz, Xs]
           refine wl_store 1 31 (.tmp 6) (.tmp 53) (#[.bool true, .bool true, .int .i64 (x + (-((L[i]!).hi))), .int .i64 (y + (-((L[i]!).lo)))]) rfl rfl rfl rfl rfl (by kernel_rfl) rfl (by simp [Value.oneCell']) ?_
           simp only [Act.put, List.set_cons_zero, List.set_cons_succ]
           refine wl_nil ?_
           refine we_then ?_
           refine wc_seq ?_
           refine wc_region ?_
           refine wl_val (.pointer (some ⟨g4, 0, none⟩)) rfl (fun _ => by go_simp) ?_
           simp only [Act.put, Xa, Xz, Xs]
           refine wl_cell 4 (.tmp 54) (.bool true) (own_row 2 rfl) rfl rfl rfl rfl Try.isAgg4 ?_
           simp only [Act.put, Xa, Xz, Xs]
           refine wl_val (.pointer (some ⟨g5, 0, none⟩)) rfl (fun _ => by go_simp) ?_
           simp only [Act.put, Xa, Xz, Xs]
           refine wl_cell 4 (.tmp 56) (.bool true) (own_row 1 rfl) rfl rfl rfl rfl Try.isAgg4 ?_
           simp only [Act.put, Xa, Xz, Xs]
           refine wl_val (.bool false) rfl (fun _ => by go_simp) ?_
           simp only [Act.put, Xa, Xz, Xs]
           refine wl_val (.bool false) rfl (fun _ => rfl) ?_
           simp only [Act.put, Xa, Xz, Xs]
           refine wl_val (.pointer (some ⟨g4, 1, none⟩)) rfl (fun _ => by go_simp) ?_
           simp only [Act.put, Xa, Xz, Xs]
           refine wl_cell 4 (.tmp 60) (.bool false) (own_row 2 rfl) rfl rfl rfl rfl Try.isAgg4 ?_
           simp only [Act.put, Xa, Xz, Xs]
           refine wl_val (.pointer (some ⟨g5, 1, none⟩)) rfl (fun _ => by go_simp) ?_
           simp only [Act.put, Xa, Xz, Xs]
           refine wl_cell 4 (.tmp 62) (.bool true) (own_row 1 rfl) rfl rfl rfl rfl Try.isAgg4 ?_
           simp only [Act.put, Xa, Xz, Xs]
           refine wl_val (.bool true) rfl (fun _ => by go_simp) ?_
           simp only [Act.put, Xa, Xz, Xs]
           refine wl_val (.bool true) rfl (fun _ => rfl) ?_
           simp only [Act.put, Xa, Xz, Xs]
           refine wl_val (.bool true) rfl (fun _ => rfl) ?_
           simp only [Act.put, Xa, Xz, Xs]
           refine wl_skip rfl ?_
           simp only [Act.put, Xa, Xz, Xs]
           refine wl_skip rfl ?_
           simp only [Act.put, Xa, Xz, Xs]
           refine wl_skip rfl ?_
           simp only [Act.put, Xa, Xz, Xs]
           refine wl_skip rfl ?_
           simp only [Act.put, Xa, Xz, Xs]
           refine wl_skip rfl ?_
           simp only [Act.put, Xa, Xz, Xs]
           refine wl_skip rfl ?_
           simp only [Act.put, Xa, Xz, Xs]
           refine wl_skip rfl ?_
           simp only [Act.put, Xa, Xz, Xs]
           refine wl_skip rfl ?_
           simp only [Act.put, Xa, Xz, Xs]
           refine wl_val (.bool true) rfl (fun _ => rfl) ?_
           simp only [Act.put, Xa, Xz, Xs]
           refine wl_val (.bool true) rfl (fun _ => rfl) ?_
           simp only [Act.put, Xa, Xz, Xs]
           refine wl_skip rfl ?_
           simp only [Act.put, Xa, Xz, Xs]
           refine wl_skip rfl ?_
           simp only [Act.put, Xa, Xz, Xs]
           refine wl_skip rfl ?_
           simp only [Act.put, Xa, Xz, Xs]
           refine wl_skip rfl ?_
           simp only [Act.put, Xa, Xz, Xs]
           refine wl_skip rfl ?_
           simp only [Act.put, Xa, Xz, Xs]
           refine wl_skip rfl ?_
           simp only [Act.put, Xa, Xz, Xs]
           refine wl_skip rfl ?_
           simp only [Act.put, Xa, Xz, Xs]
           refine wl_skip rfl ?_
           simp only [Act.put, Xa, Xz, Xs]
           refine wl_val (.bool true) rfl (fun _ => rfl) ?_
           simp only [Act.put, Xa, Xz, Xs]
           refine wl_nil ?_
           refine we_then ?_
           refine wc_true rfl ?_
           refine wc_seq ?_
           refine wc_region ?_
           refine wl_val (.bool false) rfl (fun _ => rfl) ?_
           simp only [Act.put, Xa, Xz, Xs]
           refine wl_nil ?_
           refine we_then ?_
           refine wc_ret ?_
           refine we_in_ret ?_
           refine we_then_ret ?_
           refine we_then_ret ?_
           refine we_in_ret ?_
           refine we_then_ret ?_
           refine we_ret1 (.bool false) rfl rfl rfl (fun w1 hE => ?_)
           exact (by exfalso; first | omega | simp_all)
         ·
          skip
          have p14 : hi + ((L[i]!).hi) < -k.ro := of_decide_eq_true h14
          refine wl_call 9 #[.agg #[.bool true, .bool false, .int .i64 lo, .int .i64 hi], .agg #[.int .i64 k.pu, .int .i64 k.lo, .int .i64 k.hi, .int .i64 k.rb, .int .i64 k.rp, .int .i64 k.ae, .int .i64 k.ms, .int .i64 k.ma, .int .i64 k.an, .int .i64 k.st, .int .i64 k.ss, .int .i64 k.ro, .int .i64 k.ti, .int .i64 k.br], .bool ((L[i]!).st), .bool false, .agg #[.int .i64 ((L[i]!).lo), .int .i64 ((L[i]!).hi)]] (.agg #[.bool true, .bool true, .int .i64 (lo + ((L[i]!).lo)), .int .i64 (hi + ((L[i]!).hi))]) rfl (fun _ => by go_simp) (fun W => by have h9 := Rll.next_any k ⟨true, false, lo, hi⟩ ((L[i]!).st) false ((L[i]!).lo) ((L[i]!).hi) W hk ⟨by (try dsimp only); omega, by (try dsimp only); omega, by (try dsimp only); omega, by (try dsimp only); omega, by (try dsimp only); omega, by (try dsimp only); omega⟩; rwa [show (nx k ⟨true, false, lo, hi⟩ ((L[i]!).st) false ((L[i]!).lo) ((L[i]!).hi)).on = true from (by show (false || (decide (k.ro < lo + ((L[i]!).lo)) || decide (hi + ((L[i]!).hi) < -k.ro))) = true; rw [h13, h14]; try rfl)] at h9) ?_
          simp only [Act.put, Xa, Xz, Xs]
          refine wl_store 2 31 (.tmp 5) (.tmp 37) (#[.bool true, .bool true, .int .i64 (lo + ((L[i]!).lo)), .int .i64 (hi + ((L[i]!).hi))]) rfl rfl rfl rfl rfl (by kernel_rfl) rfl (by simp [Value.oneCell']) ?_
          simp only [Act.put, List.set_cons_zero, List.set_cons_succ]
          refine wl_nil ?_
          refine we_then ?_
          refine wc_seq ?_
          refine wc_region ?_
          refine wl_load 31 (.tmp 6) (own_row 1 rfl) rfl rfl rfl Try.underlying31 rfl (by kernel_rfl) ?_
          simp only [Act.put, Xa, Xz, Xs]
          refine wl_load 23 (.tmp 2) (own_row 3 rfl) rfl rfl rfl Try.underlying23 rfl (by kernel_rfl) ?_
          simp only [Act.put, Xa, Xz, Xs]
          refine wl_val (.pointer (some ⟨g7, 3, none⟩)) rfl (fun _ => by go_simp) ?_
          simp only [Act.put, Xa, Xz, Xs]
          refine wl_cell 4 (.tmp 40) (.bool ((L[i]!).st)) (own_row 0 rfl) rfl rfl rfl rfl Try.isAgg4 ?_
          simp only [Act.put, Xa, Xz, Xs]
          refine wl_val (.pointer (some ⟨g7, 4, none⟩)) rfl (fun _ => by go_simp) ?_
          simp only [Act.put, Xa, Xz, Xs]
          refine wl_cell 4 (.tmp 42) (.bool false) (own_row 0 rfl) rfl rfl rfl rfl Try.isAgg4 ?_
          simp only [Act.put, Xa, Xz, Xs]
          refine wl_val (.pointer (some ⟨g7, 0, none⟩)) rfl (fun _ => by go_simp) ?_
          simp only [Act.put, Xa, Xz, Xs]
          refine wl_val (.pointer (some ⟨g7, 1, none⟩)) rfl (fun _ => by go_simp) ?_
          simp only [Act.put, Xa, Xz, Xs]
          refine wl_cell 2 (.tmp 45) (.int .i64 ((L[i]!).hi)) (own_row 0 rfl) rfl rfl rfl rfl Try.isAgg2 ?_
          simp only [Act.put, Xa, Xz, Xs]
          refine wl_val (.int .i64 (-((L[i]!).hi))) rfl (fun w => run_neg rfl rfl Try.underlying2 (i64_in (by omega) (by omega)) w) ?_
          simp only [Act.put, Xa, Xz, Xs]
          refine wl_val (.pointer (some ⟨g7, 0, none⟩)) rfl (fun _ => by go_simp) ?_
          simp only [Act.put, Xa, Xz, Xs]
          refine wl_val (.pointer (some ⟨g7, 0, none⟩)) rfl (fun _ => by go_simp) ?_
          simp only [Act.put, Xa, Xz, Xs]
          refine wl_cell 2 (.tmp 49) (.int .i64 ((L[i]!).lo)) (own_row 0 rfl) rfl rfl rfl rfl Try.isAgg2 ?_
          simp only [Act.put, Xa, Xz, Xs]
          refine wl_val (.int .i64 (-((L[i]!).lo))) rfl (fun w => run_neg rfl rfl Try.underlying2 (i64_in (by omega) (by omega)) w) ?_
          simp only [Act.put, Xa, Xz, Xs]
          refine wl_val (.agg #[.int .i64 (-((L[i]!).hi)), .int .i64 (-((L[i]!).lo))]) rfl (fun _ => by go_simp) ?_
          simp only [Act.put, Xa, Xz, Xs]
          cases h19 : (decide (k.ro < x + (-((L[i]!).hi))))
          ·
           skip
           have p19 : ¬ (k.ro < x + (-((L[i]!).hi))) := of_decide_eq_false h19
           cases h20 : (decide (y + (-((L[i]!).lo)) < -k.ro))
           ·
            skip
            have p20 : ¬ (y + (-((L[i]!).lo)) < -k.ro) := of_decide_eq_false h20
            refine wl_call 9 #[.agg #[.bool true, .bool false, .int .i64 x, .int .i64 y], .agg #[.int .i64 k.pu, .int .i64 k.lo, .int .i64 k.hi, .int .i64 k.rb, .int .i64 k.rp, .int .i64 k.ae, .int .i64 k.ms, .int .i64 k.ma, .int .i64 k.an, .int .i64 k.st, .int .i64 k.ss, .int .i64 k.ro, .int .i64 k.ti, .int .i64 k.br], .bool ((L[i]!).st), .bool false, .agg #[.int .i64 (-((L[i]!).hi)), .int .i64 (-((L[i]!).lo))]] (.agg #[.bool true, .bool false, .int .i64 (x + (-((L[i]!).hi))), .int .i64 (y + (-((L[i]!).lo)))]) rfl (fun _ => by go_simp) (fun W => by have h9 := Rll.next_any k ⟨true, false, x, y⟩ ((L[i]!).st) false (-((L[i]!).hi)) (-((L[i]!).lo)) W hk ⟨by (try dsimp only); omega, by (try dsimp only); omega, by (try dsimp only); omega, by (try dsimp only); omega, by (try dsimp only); omega, by (try dsimp only); omega⟩; rwa [show (nx k ⟨true, false, x, y⟩ ((L[i]!).st) false (-((L[i]!).hi)) (-((L[i]!).lo))).on = false from (by show (false || (decide (k.ro < x + (-((L[i]!).hi))) || decide (y + (-((L[i]!).lo)) < -k.ro))) = false; rw [h19, h20]; try rfl)] at h9) ?_
            simp only [Act.put, Xa, Xz, Xs]
            refine wl_store 1 31 (.tmp 6) (.tmp 53) (#[.bool true, .bool false, .int .i64 (x + (-((L[i]!).hi))), .int .i64 (y + (-((L[i]!).lo)))]) rfl rfl rfl rfl rfl (by kernel_rfl) rfl (by simp [Value.oneCell']) ?_
            simp only [Act.put, List.set_cons_zero, List.set_cons_succ]
            refine wl_nil ?_
            refine we_then ?_
            refine wc_seq ?_
            refine wc_region ?_
            refine wl_val (.pointer (some ⟨g4, 0, none⟩)) rfl (fun _ => by go_simp) ?_
            simp only [Act.put, Xa, Xz, Xs]
            refine wl_cell 4 (.tmp 54) (.bool true) (own_row 2 rfl) rfl rfl rfl rfl Try.isAgg4 ?_
            simp only [Act.put, Xa, Xz, Xs]
            refine wl_val (.pointer (some ⟨g5, 0, none⟩)) rfl (fun _ => by go_simp) ?_
            simp only [Act.put, Xa, Xz, Xs]
            refine wl_cell 4 (.tmp 56) (.bool true) (own_row 1 rfl) rfl rfl rfl rfl Try.isAgg4 ?_
            simp only [Act.put, Xa, Xz, Xs]
            refine wl_val (.bool false) rfl (fun _ => by go_simp) ?_
            simp only [Act.put, Xa, Xz, Xs]
            refine wl_val (.bool false) rfl (fun _ => rfl) ?_
            simp only [Act.put, Xa, Xz, Xs]
            refine wl_val (.pointer (some ⟨g4, 1, none⟩)) rfl (fun _ => by go_simp) ?_
            simp only [Act.put, Xa, Xz, Xs]
            refine wl_cell 4 (.tmp 60) (.bool true) (own_row 2 rfl) rfl rfl rfl rfl Try.isAgg4 ?_
            simp only [Act.put, Xa, Xz, Xs]
            refine wl_val (.pointer (some ⟨g5, 1, none⟩)) rfl (fun _ => by go_simp) ?_
            simp only [Act.put, Xa, Xz, Xs]
            refine wl_cell 4 (.tmp 62) (.bool false) (own_row 1 rfl) rfl rfl rfl rfl Try.isAgg4 ?_
            simp only [Act.put, Xa, Xz, Xs]
            refine wl_val (.bool true) rfl (fun _ => by go_simp) ?_
            simp only [Act.put, Xa, Xz, Xs]
            refine wl_val (.bool true) rfl (fun _ => rfl) ?_
            simp only [Act.put, Xa, Xz, Xs]
            refine wl_val (.bool true) rfl (fun _ => rfl) ?_
            simp only [Act.put, Xa, Xz, Xs]
            refine wl_skip rfl ?_
            simp only [Act.put, Xa, Xz, Xs]
            refine wl_skip rfl ?_
            simp only [Act.put, Xa, Xz, Xs]
            refine wl_skip rfl ?_
            simp only [Act.put, Xa, Xz, Xs]
            refine wl_skip rfl ?_
            simp only [Act.put, Xa, Xz, Xs]
            refine wl_skip rfl ?_
            simp only [Act.put, Xa, Xz, Xs]
            refine wl_skip rfl ?_
            simp only [Act.put, Xa, Xz, Xs]
            refine wl_skip rfl ?_
            simp only [Act.put, Xa, Xz, Xs]
            refine wl_skip rfl ?_
            simp only [Act.put, Xa, Xz, Xs]
            refine wl_val (.bool true) rfl (fun _ => rfl) ?_
            simp only [Act.put, Xa, Xz, Xs]
            refine wl_val (.bool true) rfl (fun _ => rfl) ?_
            simp only [Act.put, Xa, Xz, Xs]
            refine wl_skip rfl ?_
            simp only [Act.put, Xa, Xz, Xs]
            refine wl_skip rfl ?_
            simp only [Act.put, Xa, Xz, Xs]
            refine wl_skip rfl ?_
            simp only [Act.put, Xa, Xz, Xs]
            refine wl_skip rfl ?_
            simp only [Act.put, Xa, Xz, Xs]
            refine wl_skip rfl ?_
            simp only [Act.put, Xa, Xz, Xs]
            refine wl_skip rfl ?_
            simp only [Act.put, Xa, Xz, Xs]
            refine wl_skip rfl ?_
            simp only [Act.put, Xa, Xz, Xs]
            refine wl_skip rfl ?_
            simp only [Act.put, Xa, Xz, Xs]
            refine wl_val (.bool true) rfl (fun _ => rfl) ?_
            simp only [Act.put, Xa, Xz, Xs]
            refine wl_nil ?_
            refine we_then ?_
            refine wc_true rfl ?_
            refine wc_seq ?_
            refine wc_region ?_
            refine wl_val (.bool false) rfl (fun _ => rfl) ?_
            simp only [Act.put, Xa, Xz, Xs]
            refine wl_nil ?_
            refine we_then ?_
            refine wc_ret ?_
            refine we_in_ret ?_
            refine we_then_ret ?_
            refine we_then_ret ?_
            refine we_in_ret ?_
            refine we_then_ret ?_
            refine we_ret1 (.bool false) rfl rfl rfl (fun w1 hE => ?_)
            exact (by exfalso; first | omega | simp_all)
           ·
            skip
            have p20 : y + (-((L[i]!).lo)) < -k.ro := of_decide_eq_true h20
            refine wl_call 9 #[.agg #[.bool true, .bool false, .int .i64 x, .int .i64 y], .agg #[.int .i64 k.pu, .int .i64 k.lo, .int .i64 k.hi, .int .i64 k.rb, .int .i64 k.rp, .int .i64 k.ae, .int .i64 k.ms, .int .i64 k.ma, .int .i64 k.an, .int .i64 k.st, .int .i64 k.ss, .int .i64 k.ro, .int .i64 k.ti, .int .i64 k.br], .bool ((L[i]!).st), .bool false, .agg #[.int .i64 (-((L[i]!).hi)), .int .i64 (-((L[i]!).lo))]] (.agg #[.bool true, .bool true, .int .i64 (x + (-((L[i]!).hi))), .int .i64 (y + (-((L[i]!).lo)))]) rfl (fun _ => by go_simp) (fun W => by have h9 := Rll.next_any k ⟨true, false, x, y⟩ ((L[i]!).st) false (-((L[i]!).hi)) (-((L[i]!).lo)) W hk ⟨by (try dsimp only); omega, by (try dsimp only); omega, by (try dsimp only); omega, by (try dsimp only); omega, by (try dsimp only); omega, by (try dsimp only); omega⟩; rwa [show (nx k ⟨true, false, x, y⟩ ((L[i]!).st) false (-((L[i]!).hi)) (-((L[i]!).lo))).on = true from (by show (false || (decide (k.ro < x + (-((L[i]!).hi))) || decide (y + (-((L[i]!).lo)) < -k.ro))) = true; rw [h19, h20]; try rfl)] at h9) ?_
            simp only [Act.put, Xa, Xz, Xs]
            refine wl_store 1 31 (.tmp 6) (.tmp 53) (#[.bool true, .bool true, .int .i64 (x + (-((L[i]!).hi))), .int .i64 (y + (-((L[i]!).lo)))]) rfl rfl rfl rfl rfl (by kernel_rfl) rfl (by simp [Value.oneCell']) ?_
            simp only [Act.put, List.set_cons_zero, List.set_cons_succ]
            refine wl_nil ?_
            refine we_then ?_
            refine wc_seq ?_
            refine wc_region ?_
            refine wl_val (.pointer (some ⟨g4, 0, none⟩)) rfl (fun _ => by go_simp) ?_
            simp only [Act.put, Xa, Xz, Xs]
            refine wl_cell 4 (.tmp 54) (.bool true) (own_row 2 rfl) rfl rfl rfl rfl Try.isAgg4 ?_
            simp only [Act.put, Xa, Xz, Xs]
            refine wl_val (.pointer (some ⟨g5, 0, none⟩)) rfl (fun _ => by go_simp) ?_
            simp only [Act.put, Xa, Xz, Xs]
            refine wl_cell 4 (.tmp 56) (.bool true) (own_row 1 rfl) rfl rfl rfl rfl Try.isAgg4 ?_
            simp only [Act.put, Xa, Xz, Xs]
            refine wl_val (.bool false) rfl (fun _ => by go_simp) ?_
            simp only [Act.put, Xa, Xz, Xs]
            refine wl_val (.bool false) rfl (fun _ => rfl) ?_
            simp only [Act.put, Xa, Xz, Xs]
            refine wl_val (.pointer (some ⟨g4, 1, none⟩)) rfl (fun _ => by go_simp) ?_
            simp only [Act.put, Xa, Xz, Xs]
            refine wl_cell 4 (.tmp 60) (.bool true) (own_row 2 rfl) rfl rfl rfl rfl Try.isAgg4 ?_
            simp only [Act.put, Xa, Xz, Xs]
            refine wl_val (.pointer (some ⟨g5, 1, none⟩)) rfl (fun _ => by go_simp) ?_
            simp only [Act.put, Xa, Xz, Xs]
            refine wl_cell 4 (.tmp 62) (.bool true) (own_row 1 rfl) rfl rfl rfl rfl Try.isAgg4 ?_
            simp only [Act.put, Xa, Xz, Xs]
            refine wl_val (.bool false) rfl (fun _ => by go_simp) ?_
            simp only [Act.put, Xa, Xz, Xs]
            refine wl_val (.bool false) rfl (fun _ => rfl) ?_
            simp only [Act.put, Xa, Xz, Xs]
            refine wl_val (.bool false) rfl (fun _ => rfl) ?_
            simp only [Act.put, Xa, Xz, Xs]
            refine wl_val (.pointer (some ⟨g4, 2, none⟩)) rfl (fun _ => by go_simp) ?_
            simp only [Act.put, Xa, Xz, Xs]
            refine wl_val (.pointer (some ⟨g4, 2, none⟩)) rfl (fun _ => by go_simp) ?_
            simp only [Act.put, Xa, Xz, Xs]
            refine wl_cell 2 (.tmp 68) (.int .i64 (lo + ((L[i]!).lo))) (own_row 2 rfl) rfl rfl rfl rfl Try.isAgg2 ?_
            simp only [Act.put, Xa, Xz, Xs]
            refine wl_val (.pointer (some ⟨g5, 2, none⟩)) rfl (fun _ => by go_simp) ?_
            simp only [Act.put, Xa, Xz, Xs]
            refine wl_val (.pointer (some ⟨g5, 3, none⟩)) rfl (fun _ => by go_simp) ?_
            simp only [Act.put, Xa, Xz, Xs]
            refine wl_cell 2 (.tmp 71) (.int .i64 (y + (-((L[i]!).lo)))) (own_row 1 rfl) rfl rfl rfl rfl Try.isAgg2 ?_
            simp only [Act.put, Xa, Xz, Xs]
            refine wl_val (.int .i64 (-(y + (-((L[i]!).lo))))) rfl (fun w => run_neg rfl rfl Try.underlying2 (i64_in (by omega) (by omega)) w) ?_
            simp only [Act.put, Xa, Xz, Xs]
            refine wl_val (.bool ((lo + ((L[i]!).lo)) != (-(y + (-((L[i]!).lo)))))) rfl (fun w => run_cmp rfl rfl rfl Try.underlying2 rfl w) ?_
            simp only [Act.put, Xa, Xz, Xs]
            refine wl_val (.bool ((lo + ((L[i]!).lo)) != (-(y + (-((L[i]!).lo)))))) rfl (fun _ => rfl) ?_
            simp only [Act.put, Xa, Xz, Xs]
            refine wl_val (.bool ((lo + ((L[i]!).lo)) != (-(y + (-((L[i]!).lo)))))) rfl (fun _ => rfl) ?_
            simp only [Act.put, Xa, Xz, Xs]
            cases h21 : ((lo + ((L[i]!).lo)) != (-(y + (-((L[i]!).lo)))))
            ·
             skip
             have p21 : ¬ ((lo + ((L[i]!).lo)) ≠ (-(y + (-((L[i]!).lo))))) := by first | (simp; done) | (simp at h21; done) | simpa using h21
             refine wl_val (.pointer (some ⟨g4, 2, none⟩)) rfl (fun _ => by go_simp) ?_
             simp only [Act.put, Xa, Xz, Xs]
             refine wl_val (.pointer (some ⟨g4, 3, none⟩)) rfl (fun _ => by go_simp) ?_
             simp only [Act.put, Xa, Xz, Xs]
             refine wl_cell 2 (.tmp 78) (.int .i64 (hi + ((L[i]!).hi))) (own_row 2 rfl) rfl rfl rfl rfl Try.isAgg2 ?_
             simp only [Act.put, Xa, Xz, Xs]
             refine wl_val (.pointer (some ⟨g5, 2, none⟩)) rfl (fun _ => by go_simp) ?_
             simp only [Act.put, Xa, Xz, Xs]
             refine wl_val (.pointer (some ⟨g5, 2, none⟩)) rfl (fun _ => by go_simp) ?_
             simp only [Act.put, Xa, Xz, Xs]
             refine wl_cell 2 (.tmp 81) (.int .i64 (x + (-((L[i]!).hi)))) (own_row 1 rfl) rfl rfl rfl rfl Try.isAgg2 ?_
             simp only [Act.put, Xa, Xz, Xs]
             refine wl_val (.int .i64 (-(x + (-((L[i]!).hi))))) rfl (fun w => run_neg rfl rfl Try.underlying2 (i64_in (by omega) (by omega)) w) ?_
             simp only [Act.put, Xa, Xz, Xs]
             refine wl_val (.bool ((hi + ((L[i]!).hi)) != (-(x + (-((L[i]!).hi)))))) rfl (fun w => run_cmp rfl rfl rfl Try.underlying2 rfl w) ?_
             simp only [Act.put, Xa, Xz, Xs]
             refine wl_val (.bool ((hi + ((L[i]!).hi)) != (-(x + (-((L[i]!).hi)))))) rfl (fun _ => rfl) ?_
             simp only [Act.put, Xa, Xz, Xs]
             refine wl_nil ?_
             refine we_then ?_
             cases h22 : ((hi + ((L[i]!).hi)) != (-(x + (-((L[i]!).hi)))))
             ·
              skip
              have p22 : ¬ ((hi + ((L[i]!).hi)) ≠ (-(x + (-((L[i]!).hi))))) := by first | (simp; done) | (simp at h22; done) | simpa using h22
              refine wc_false rfl ?_
              refine wc_skip ?_
              refine we_in ?_
              refine we_then ?_
              refine wc_region ?_
              refine wl_val (.int .i64 ((i + 1 : Nat) : Int)) rfl (fun w => run_nat (X := i) (Y := 1) (Z := i + 1) rfl rfl rfl rfl (by omega) w) ?_
              simp only [Act.put, Xa, Xz, Xs]
              refine wl_val (.int .i64 ((i + 1 : Nat) : Int)) rfl (fun _ => rfl) ?_
              simp only [Act.put, Xa, Xz, Xs]
              refine wl_nil ?_
              exact we_meet ⟨(i + 1), true, true, (lo + ((L[i]!).lo)), (hi + ((L[i]!).hi)), (x + (-((L[i]!).hi))), (y + (-((L[i]!).lo))), _, _, _, _, _, _, _, _, _, _, _, _, _, _, _, _, _, _, _, _, _, _, _, _, _, _, _, _, _, _, _, _, _, _, _, _, _, _, _, _, _, _, _, _, _, _, _, _, _, _, _, _, _, _, _, _, _, _, _, _, _, _, _, _, _, _, _⟩ ⟨⟨by (try dsimp only); omega, by (try dsimp only); omega, by (try dsimp only); omega, by (try dsimp only); omega, by (try dsimp only); omega, by (try dsimp only); omega⟩, by (try dsimp only); omega⟩ rfl (List.Sublist.cons _ (List.Sublist.cons_cons _ (List.Sublist.cons_cons _ (List.Sublist.cons_cons _ List.Sublist.slnil))))
             ·
              skip
              have p22 : (hi + ((L[i]!).hi)) ≠ (-(x + (-((L[i]!).hi)))) := by first | (simp; done) | (simp at h22; done) | simpa using h22
              refine wc_true rfl ?_
              refine wc_seq ?_
              refine wc_region ?_
              refine wl_val (.bool false) rfl (fun _ => rfl) ?_
              simp only [Act.put, Xa, Xz, Xs]
              refine wl_nil ?_
              refine we_then ?_
              refine wc_ret ?_
              refine we_in_ret ?_
              refine we_then_ret ?_
              refine we_then_ret ?_
              refine we_in_ret ?_
              refine we_then_ret ?_
              refine we_ret1 (.bool false) rfl rfl rfl (fun w1 hE => ?_)
              exact (by exfalso; first | omega | simp_all)
            ·
             skip
             have p21 : (lo + ((L[i]!).lo)) ≠ (-(y + (-((L[i]!).lo)))) := by first | (simp; done) | (simp at h21; done) | simpa using h21
             refine wl_skip rfl ?_
             simp only [Act.put, Xa, Xz, Xs]
             refine wl_skip rfl ?_
             simp only [Act.put, Xa, Xz, Xs]
             refine wl_skip rfl ?_
             simp only [Act.put, Xa, Xz, Xs]
             refine wl_skip rfl ?_
             simp only [Act.put, Xa, Xz, Xs]
             refine wl_skip rfl ?_
             simp only [Act.put, Xa, Xz, Xs]
             refine wl_skip rfl ?_
             simp only [Act.put, Xa, Xz, Xs]
             refine wl_skip rfl ?_
             simp only [Act.put, Xa, Xz, Xs]
             refine wl_skip rfl ?_
             simp only [Act.put, Xa, Xz, Xs]
             refine wl_val (.bool true) rfl (fun _ => rfl) ?_
             simp only [Act.put, Xa, Xz, Xs]
             refine wl_nil ?_
             refine we_then ?_
             refine wc_true rfl ?_
             refine wc_seq ?_
             refine wc_region ?_
             refine wl_val (.bool false) rfl (fun _ => rfl) ?_
             simp only [Act.put, Xa, Xz, Xs]
             refine wl_nil ?_
             refine we_then ?_
             refine wc_ret ?_
             refine we_in_ret ?_
             refine we_then_ret ?_
             refine we_then_ret ?_
             refine we_in_ret ?_
             refine we_then_ret ?_
             refine we_ret1 (.bool false) rfl rfl rfl (fun w1 hE => ?_)
             exact (by exfalso; first | omega | simp_all)
          ·
           skip
           have p19 : k.ro < x + (-((L[i]!).hi)) := of_decide_eq_true h19
           refine wl_call 9 #[.agg #[.bool true, .bool false, .int .i64 x, .int .i64 y], .agg #[.int .i64 k.pu, .int .i64 k.lo, .int .i64 k.hi, .int .i64 k.rb, .int .i64 k.rp, .int .i64 k.ae, .int .i64 k.ms, .int .i64 k.ma, .int .i64 k.an, .int .i64 k.st, .int .i64 k.ss, .int .i64 k.ro, .int .i64 k.ti, .int .i64 k.br], .bool ((L[i]!).st), .bool false, .agg #[.int .i64 (-((L[i]!).hi)), .int .i64 (-((L[i]!).lo))]] (.agg #[.bool true, .bool true, .int .i64 (x + (-((L[i]!).hi))), .int .i64 (y + (-((L[i]!).lo)))]) rfl (fun _ => by go_simp) (fun W => by have h9 := Rll.next_any k ⟨true, false, x, y⟩ ((L[i]!).st) false (-((L[i]!).hi)) (-((L[i]!).lo)) W hk ⟨by (try dsimp only); omega, by (try dsimp only); omega, by (try dsimp only); omega, by (try dsimp only); omega, by (try dsimp only); omega, by (try dsimp only); omega⟩; rwa [show (nx k ⟨true, false, x, y⟩ ((L[i]!).st) false (-((L[i]!).hi)) (-((L[i]!).lo))).on = true from (by show (false || (decide (k.ro < x + (-((L[i]!).hi))) || decide (y + (-((L[i]!).lo)) < -k.ro))) = true; rw [h19]; try rfl)] at h9) ?_
           simp only [Act.put, Xa, Xz, Xs]
           refine wl_store 1 31 (.tmp 6) (.tmp 53) (#[.bool true, .bool true, .int .i64 (x + (-((L[i]!).hi))), .int .i64 (y + (-((L[i]!).lo)))]) rfl rfl rfl rfl rfl (by kernel_rfl) rfl (by simp [Value.oneCell']) ?_
           simp only [Act.put, List.set_cons_zero, List.set_cons_succ]
           refine wl_nil ?_
           refine we_then ?_
           refine wc_seq ?_
           refine wc_region ?_
           refine wl_val (.pointer (some ⟨g4, 0, none⟩)) rfl (fun _ => by go_simp) ?_
           simp only [Act.put, Xa, Xz, Xs]
           refine wl_cell 4 (.tmp 54) (.bool true) (own_row 2 rfl) rfl rfl rfl rfl Try.isAgg4 ?_
           simp only [Act.put, Xa, Xz, Xs]
           refine wl_val (.pointer (some ⟨g5, 0, none⟩)) rfl (fun _ => by go_simp) ?_
           simp only [Act.put, Xa, Xz, Xs]
           refine wl_cell 4 (.tmp 56) (.bool true) (own_row 1 rfl) rfl rfl rfl rfl Try.isAgg4 ?_
           simp only [Act.put, Xa, Xz, Xs]
           refine wl_val (.bool false) rfl (fun _ => by go_simp) ?_
           simp only [Act.put, Xa, Xz, Xs]
           refine wl_val (.bool false) rfl (fun _ => rfl) ?_
           simp only [Act.put, Xa, Xz, Xs]
           refine wl_val (.pointer (some ⟨g4, 1, none⟩)) rfl (fun _ => by go_simp) ?_
           simp only [Act.put, Xa, Xz, Xs]
           refine wl_cell 4 (.tmp 60) (.bool true) (own_row 2 rfl) rfl rfl rfl rfl Try.isAgg4 ?_
           simp only [Act.put, Xa, Xz, Xs]
           refine wl_val (.pointer (some ⟨g5, 1, none⟩)) rfl (fun _ => by go_simp) ?_
           simp only [Act.put, Xa, Xz, Xs]
           refine wl_cell 4 (.tmp 62) (.bool true) (own_row 1 rfl) rfl rfl rfl rfl Try.isAgg4 ?_
           simp only [Act.put, Xa, Xz, Xs]
           refine wl_val (.bool false) rfl (fun _ => by go_simp) ?_
           simp only [Act.put, Xa, Xz, Xs]
           refine wl_val (.bool false) rfl (fun _ => rfl) ?_
           simp only [Act.put, Xa, Xz, Xs]
           refine wl_val (.bool false) rfl (fun _ => rfl) ?_
           simp only [Act.put, Xa, Xz, Xs]
           refine wl_val (.pointer (some ⟨g4, 2, none⟩)) rfl (fun _ => by go_simp) ?_
           simp only [Act.put, Xa, Xz, Xs]
           refine wl_val (.pointer (some ⟨g4, 2, none⟩)) rfl (fun _ => by go_simp) ?_
           simp only [Act.put, Xa, Xz, Xs]
           refine wl_cell 2 (.tmp 68) (.int .i64 (lo + ((L[i]!).lo))) (own_row 2 rfl) rfl rfl rfl rfl Try.isAgg2 ?_
           simp only [Act.put, Xa, Xz, Xs]
           refine wl_val (.pointer (some ⟨g5, 2, none⟩)) rfl (fun _ => by go_simp) ?_
           simp only [Act.put, Xa, Xz, Xs]
           refine wl_val (.pointer (some ⟨g5, 3, none⟩)) rfl (fun _ => by go_simp) ?_
           simp only [Act.put, Xa, Xz, Xs]
           refine wl_cell 2 (.tmp 71) (.int .i64 (y + (-((L[i]!).lo)))) (own_row 1 rfl) rfl rfl rfl rfl Try.isAgg2 ?_
           simp only [Act.put, Xa, Xz, Xs]
           refine wl_val (.int .i64 (-(y + (-((L[i]!).lo))))) rfl (fun w => run_neg rfl rfl Try.underlying2 (i64_in (by omega) (by omega)) w) ?_
           simp only [Act.put, Xa, Xz, Xs]
           refine wl_val (.bool ((lo + ((L[i]!).lo)) != (-(y + (-((L[i]!).lo)))))) rfl (fun w => run_cmp rfl rfl rfl Try.underlying2 rfl w) ?_
           simp only [Act.put, Xa, Xz, Xs]
           refine wl_val (.bool ((lo + ((L[i]!).lo)) != (-(y + (-((L[i]!).lo)))))) rfl (fun _ => rfl) ?_
           simp only [Act.put, Xa, Xz, Xs]
           refine wl_val (.bool ((lo + ((L[i]!).lo)) != (-(y + (-((L[i]!).lo)))))) rfl (fun _ => rfl) ?_
           simp only [Act.put, Xa, Xz, Xs]
           cases h23 : ((lo + ((L[i]!).lo)) != (-(y + (-((L[i]!).lo)))))
           ·
            skip
            have p23 : ¬ ((lo + ((L[i]!).lo)) ≠ (-(y + (-((L[i]!).lo))))) := by first | (simp; done) | (simp at h23; done) | simpa using h23
            refine wl_val (.pointer (some ⟨g4, 2, none⟩)) rfl (fun _ => by go_simp) ?_
            simp only [Act.put, Xa, Xz, Xs]
            refine wl_val (.pointer (some ⟨g4, 3, none⟩)) rfl (fun _ => by go_simp) ?_
            simp only [Act.put, Xa, Xz, Xs]
            refine wl_cell 2 (.tmp 78) (.int .i64 (hi + ((L[i]!).hi))) (own_row 2 rfl) rfl rfl rfl rfl Try.isAgg2 ?_
            simp only [Act.put, Xa, Xz, Xs]
            refine wl_val (.pointer (some ⟨g5, 2, none⟩)) rfl (fun _ => by go_simp) ?_
            simp only [Act.put, Xa, Xz, Xs]
            refine wl_val (.pointer (some ⟨g5, 2, none⟩)) rfl (fun _ => by go_simp) ?_
            simp only [Act.put, Xa, Xz, Xs]
            refine wl_cell 2 (.tmp 81) (.int .i64 (x + (-((L[i]!).hi)))) (own_row 1 rfl) rfl rfl rfl rfl Try.isAgg2 ?_
            simp only [Act.put, Xa, Xz, Xs]
            refine wl_val (.int .i64 (-(x + (-((L[i]!).hi))))) rfl (fun w => run_neg rfl rfl Try.underlying2 (i64_in (by omega) (by omega)) w) ?_
            simp only [Act.put, Xa, Xz, Xs]
            refine wl_val (.bool ((hi + ((L[i]!).hi)) != (-(x + (-((L[i]!).hi)))))) rfl (fun w => run_cmp rfl rfl rfl Try.underlying2 rfl w) ?_
            simp only [Act.put, Xa, Xz, Xs]
            refine wl_val (.bool ((hi + ((L[i]!).hi)) != (-(x + (-((L[i]!).hi)))))) rfl (fun _ => rfl) ?_
            simp only [Act.put, Xa, Xz, Xs]
            refine wl_nil ?_
            refine we_then ?_
            cases h24 : ((hi + ((L[i]!).hi)) != (-(x + (-((L[i]!).hi)))))
            ·
             skip
             have p24 : ¬ ((hi + ((L[i]!).hi)) ≠ (-(x + (-((L[i]!).hi))))) := by first | (simp; done) | (simp at h24; done) | simpa using h24
             refine wc_false rfl ?_
             refine wc_skip ?_
             refine we_in ?_
             refine we_then ?_
             refine wc_region ?_
             refine wl_val (.int .i64 ((i + 1 : Nat) : Int)) rfl (fun w => run_nat (X := i) (Y := 1) (Z := i + 1) rfl rfl rfl rfl (by omega) w) ?_
             simp only [Act.put, Xa, Xz, Xs]
             refine wl_val (.int .i64 ((i + 1 : Nat) : Int)) rfl (fun _ => rfl) ?_
             simp only [Act.put, Xa, Xz, Xs]
             refine wl_nil ?_
             exact we_meet ⟨(i + 1), true, true, (lo + ((L[i]!).lo)), (hi + ((L[i]!).hi)), (x + (-((L[i]!).hi))), (y + (-((L[i]!).lo))), _, _, _, _, _, _, _, _, _, _, _, _, _, _, _, _, _, _, _, _, _, _, _, _, _, _, _, _, _, _, _, _, _, _, _, _, _, _, _, _, _, _, _, _, _, _, _, _, _, _, _, _, _, _, _, _, _, _, _, _, _, _, _, _, _, _, _⟩ ⟨⟨by (try dsimp only); omega, by (try dsimp only); omega, by (try dsimp only); omega, by (try dsimp only); omega, by (try dsimp only); omega, by (try dsimp only); omega⟩, by (try dsimp only); omega⟩ rfl (List.Sublist.cons _ (List.Sublist.cons_cons _ (List.Sublist.cons_cons _ (List.Sublist.cons_cons _ List.Sublist.slnil))))
            ·
             skip
             have p24 : (hi + ((L[i]!).hi)) ≠ (-(x + (-((L[i]!).hi)))) := by first | (simp; done) | (simp at h24; done) | simpa using h24
             refine wc_true rfl ?_
             refine wc_seq ?_
             refine wc_region ?_
             refine wl_val (.bool false) rfl (fun _ => rfl) ?_
             simp only [Act.put, Xa, Xz, Xs]
             refine wl_nil ?_
             refine we_then ?_
             refine wc_ret ?_
             refine we_in_ret ?_
             refine we_then_ret ?_
             refine we_then_ret ?_
             refine we_in_ret ?_
             refine we_then_ret ?_
             refine we_ret1 (.bool false) rfl rfl rfl (fun w1 hE => ?_)
             exact (by exfalso; first | omega | simp_all)
           ·
            skip
            have p23 : (lo + ((L[i]!).lo)) ≠ (-(y + (-((L[i]!).lo)))) := by first | (simp; done) | (simp at h23; done) | simpa using h23
            refine wl_skip rfl ?_
            simp only [Act.put, Xa, Xz, Xs]
            refine wl_skip rfl ?_
            simp only [Act.put, Xa, Xz, Xs]
            refine wl_skip rfl ?_
            simp only [Act.put, Xa, Xz, Xs]
            refine wl_skip rfl ?_
            simp only [Act.put, Xa, Xz, Xs]
            refine wl_skip rfl ?_
            simp only [Act.put, Xa, Xz, Xs]
            refine wl_skip rfl ?_
            simp only [Act.put, Xa, Xz, Xs]
            refine wl_skip rfl ?_
            simp only [Act.put, Xa, Xz, Xs]
            refine wl_skip rfl ?_
            simp only [Act.put, Xa, Xz, Xs]
            refine wl_val (.bool true) rfl (fun _ => rfl) ?_
            simp only [Act.put, Xa, Xz, Xs]
            refine wl_nil ?_
            refine we_then ?_
            refine wc_true rfl ?_
            refine wc_seq ?_
            refine wc_region ?_
            refine wl_val (.bool false) rfl (fun _ => rfl) ?_
            simp only [Act.put, Xa, Xz, Xs]
            refine wl_nil ?_
            refine we_then ?_
            refine wc_ret ?_
            refine we_in_ret ?_
            refine we_then_ret ?_
            refine we_then_ret ?_
            refine we_in_ret ?_
            refine we_then_ret ?_
            refine we_ret1 (.bool false) rfl rfl rfl (fun w1 hE => ?_)
            exact (by exfalso; first | omega | simp_all)
        ·
         skip
         have p13 : k.ro < lo + ((L[i]!).lo) := of_decide_eq_true h13
         refine wl_call 9 #[.agg #[.bool true, .bool false, .int .i64 lo, .int .i64 hi], .agg #[.int .i64 k.pu, .int .i64 k.lo, .int .i64 k.hi, .int .i64 k.rb, .int .i64 k.rp, .int .i64 k.ae, .int .i64 k.ms, .int .i64 k.ma, .int .i64 k.an, .int .i64 k.st, .int .i64 k.ss, .int .i64 k.ro, .int .i64 k.ti, .int .i64 k.br], .bool ((L[i]!).st), .bool false, .agg #[.int .i64 ((L[i]!).lo), .int .i64 ((L[i]!).hi)]] (.agg #[.bool true, .bool true, .int .i64 (lo + ((L[i]!).lo)), .int .i64 (hi + ((L[i]!).hi))]) rfl (fun _ => by go_simp) (fun W => by have h9 := Rll.next_any k ⟨true, false, lo, hi⟩ ((L[i]!).st) false ((L[i]!).lo) ((L[i]!).hi) W hk ⟨by (try dsimp only); omega, by (try dsimp only); omega, by (try dsimp only); omega, by (try dsimp only); omega, by (try dsimp only); omega, by (try dsimp only); omega⟩; rwa [show (nx k ⟨true, false, lo, hi⟩ ((L[i]!).st) false ((L[i]!).lo) ((L[i]!).hi)).on = true from (by show (false || (decide (k.ro < lo + ((L[i]!).lo)) || decide (hi + ((L[i]!).hi) < -k.ro))) = true; rw [h13]; try rfl)] at h9) ?_
         simp only [Act.put, Xa, Xz, Xs]
         refine wl_store 2 31 (.tmp 5) (.tmp 37) (#[.bool true, .bool true, .int .i64 (lo + ((L[i]!).lo)), .int .i64 (hi + ((L[i]!).hi))]) rfl rfl rfl rfl rfl (by kernel_rfl) rfl (by simp [Value.oneCell']) ?_
         simp only [Act.put, List.set_cons_zero, List.set_cons_succ]
         refine wl_nil ?_
         refine we_then ?_
         refine wc_seq ?_
         refine wc_region ?_
         refine wl_load 31 (.tmp 6) (own_row 1 rfl) rfl rfl rfl Try.underlying31 rfl (by kernel_rfl) ?_
         simp only [Act.put, Xa, Xz, Xs]
         refine wl_load 23 (.tmp 2) (own_row 3 rfl) rfl rfl rfl Try.underlying23 rfl (by kernel_rfl) ?_
         simp only [Act.put, Xa, Xz, Xs]
         refine wl_val (.pointer (some ⟨g7, 3, none⟩)) rfl (fun _ => by go_simp) ?_
         simp only [Act.put, Xa, Xz, Xs]
         refine wl_cell 4 (.tmp 40) (.bool ((L[i]!).st)) (own_row 0 rfl) rfl rfl rfl rfl Try.isAgg4 ?_
         simp only [Act.put, Xa, Xz, Xs]
         refine wl_val (.pointer (some ⟨g7, 4, none⟩)) rfl (fun _ => by go_simp) ?_
         simp only [Act.put, Xa, Xz, Xs]
         refine wl_cell 4 (.tmp 42) (.bool false) (own_row 0 rfl) rfl rfl rfl rfl Try.isAgg4 ?_
         simp only [Act.put, Xa, Xz, Xs]
         refine wl_val (.pointer (some ⟨g7, 0, none⟩)) rfl (fun _ => by go_simp) ?_
         simp only [Act.put, Xa, Xz, Xs]
         refine wl_val (.pointer (some ⟨g7, 1, none⟩)) rfl (fun _ => by go_simp) ?_
         simp only [Act.put, Xa, Xz, Xs]
         refine wl_cell 2 (.tmp 45) (.int .i64 ((L[i]!).hi)) (own_row 0 rfl) rfl rfl rfl rfl Try.isAgg2 ?_
         simp only [Act.put, Xa, Xz, Xs]
         refine wl_val (.int .i64 (-((L[i]!).hi))) rfl (fun w => run_neg rfl rfl Try.underlying2 (i64_in (by omega) (by omega)) w) ?_
         simp only [Act.put, Xa, Xz, Xs]
         refine wl_val (.pointer (some ⟨g7, 0, none⟩)) rfl (fun _ => by go_simp) ?_
         simp only [Act.put, Xa, Xz, Xs]
         refine wl_val (.pointer (some ⟨g7, 0, none⟩)) rfl (fun _ => by go_simp) ?_
         simp only [Act.put, Xa, Xz, Xs]
         refine wl_cell 2 (.tmp 49) (.int .i64 ((L[i]!).lo)) (own_row 0 rfl) rfl rfl rfl rfl Try.isAgg2 ?_
         simp only [Act.put, Xa, Xz, Xs]
         refine wl_val (.int .i64 (-((L[i]!).lo))) rfl (fun w => run_neg rfl rfl Try.underlying2 (i64_in (by omega) (by omega)) w) ?_
         simp only [Act.put, Xa, Xz, Xs]
         refine wl_val (.agg #[.int .i64 (-((L[i]!).hi)), .int .i64 (-((L[i]!).lo))]) rfl (fun _ => by go_simp) ?_
         simp only [Act.put, Xa, Xz, Xs]
         cases h25 : (decide (k.ro < x + (-((L[i]!).hi))))
         ·
          skip
          have p25 : ¬ (k.ro < x + (-((L[i]!).hi))) := of_decide_eq_false h25
          cases h26 : (decide (y + (-((L[i]!).lo)) < -k.ro))
          ·
           skip
           have p26 : ¬ (y + (-((L[i]!).lo)) < -k.ro) := of_decide_eq_false h26
           refine wl_call 9 #[.agg #[.bool true, .bool false, .int .i64 x, .int .i64 y], .agg #[.int .i64 k.pu, .int .i64 k.lo, .int .i64 k.hi, .int .i64 k.rb, .int .i64 k.rp, .int .i64 k.ae, .int .i64 k.ms, .int .i64 k.ma, .int .i64 k.an, .int .i64 k.st, .int .i64 k.ss, .int .i64 k.ro, .int .i64 k.ti, .int .i64 k.br], .bool ((L[i]!).st), .bool false, .agg #[.int .i64 (-((L[i]!).hi)), .int .i64 (-((L[i]!).lo))]] (.agg #[.bool true, .bool false, .int .i64 (x + (-((L[i]!).hi))), .int .i64 (y + (-((L[i]!).lo)))]) rfl (fun _ => by go_simp) (fun W => by have h9 := Rll.next_any k ⟨true, false, x, y⟩ ((L[i]!).st) false (-((L[i]!).hi)) (-((L[i]!).lo)) W hk ⟨by (try dsimp only); omega, by (try dsimp only); omega, by (try dsimp only); omega, by (try dsimp only); omega, by (try dsimp only); omega, by (try dsimp only); omega⟩; rwa [show (nx k ⟨true, false, x, y⟩ ((L[i]!).st) false (-((L[i]!).hi)) (-((L[i]!).lo))).on = false from (by show (false || (decide (k.ro < x + (-((L[i]!).hi))) || decide (y + (-((L[i]!).lo)) < -k.ro))) = false; rw [h25, h26]; try rfl)] at h9) ?_
           simp only [Act.put, Xa, Xz, Xs]
           refine wl_store 1 31 (.tmp 6) (.tmp 53) (#[.bool true, .bool false, .int .i64 (x + (-((L[i]!).hi))), .int .i64 (y + (-((L[i]!).lo)))]) rfl rfl rfl rfl rfl (by kernel_rfl) rfl (by simp [Value.oneCell']) ?_
           simp only [Act.put, List.set_cons_zero, List.set_cons_succ]
           refine wl_nil ?_
           refine we_then ?_
           refine wc_seq ?_
           refine wc_region ?_
           refine wl_val (.pointer (some ⟨g4, 0, none⟩)) rfl (fun _ => by go_simp) ?_
           simp only [Act.put, Xa, Xz, Xs]
           refine wl_cell 4 (.tmp 54) (.bool true) (own_row 2 rfl) rfl rfl rfl rfl Try.isAgg4 ?_
           simp only [Act.put, Xa, Xz, Xs]
           refine wl_val (.pointer (some ⟨g5, 0, none⟩)) rfl (fun _ => by go_simp) ?_
           simp only [Act.put, Xa, Xz, Xs]
           refine wl_cell 4 (.tmp 56) (.bool true) (own_row 1 rfl) rfl rfl rfl rfl Try.isAgg4 ?_
           simp only [Act.put, Xa, Xz, Xs]
           refine wl_val (.bool false) rfl (fun _ => by go_simp) ?_
           simp only [Act.put, Xa, Xz, Xs]
           refine wl_val (.bool false) rfl (fun _ => rfl) ?_
           simp only [Act.put, Xa, Xz, Xs]
           refine wl_val (.pointer (some ⟨g4, 1, none⟩)) rfl (fun _ => by go_simp) ?_
           simp only [Act.put, Xa, Xz, Xs]
           refine wl_cell 4 (.tmp 60) (.bool true) (own_row 2 rfl) rfl rfl rfl rfl Try.isAgg4 ?_
           simp only [Act.put, Xa, Xz, Xs]
           refine wl_val (.pointer (some ⟨g5, 1, none⟩)) rfl (fun _ => by go_simp) ?_
           simp only [Act.put, Xa, Xz, Xs]
           refine wl_cell 4 (.tmp 62) (.bool false) (own_row 1 rfl) rfl rfl rfl rfl Try.isAgg4 ?_
           simp only [Act.put, Xa, Xz, Xs]
           refine wl_val (.bool true) rfl (fun _ => by go_simp) ?_
           simp only [Act.put, Xa, Xz, Xs]
           refine wl_val (.bool true) rfl (fun _ => rfl) ?_
           simp only [Act.put, Xa, Xz, Xs]
           refine wl_val (.bool true) rfl (fun _ => rfl) ?_
           simp only [Act.put, Xa, Xz, Xs]
           refine wl_skip rfl ?_
           simp only [Act.put, Xa, Xz, Xs]
           refine wl_skip rfl ?_
           simp only [Act.put, Xa, Xz, Xs]
           refine wl_skip rfl ?_
           simp only [Act.put, Xa, Xz, Xs]
           refine wl_skip rfl ?_
           simp only [Act.put, Xa, Xz, Xs]
           refine wl_skip rfl ?_
           simp only [Act.put, Xa, Xz, Xs]
           refine wl_skip rfl ?_
           simp only [Act.put, Xa, Xz, Xs]
           refine wl_skip rfl ?_
           simp only [Act.put, Xa, Xz, Xs]
           refine wl_skip rfl ?_
           simp only [Act.put, Xa, Xz, Xs]
           refine wl_val (.bool true) rfl (fun _ => rfl) ?_
           simp only [Act.put, Xa, Xz, Xs]
           refine wl_val (.bool true) rfl (fun _ => rfl) ?_
           simp only [Act.put, Xa, Xz, Xs]
           refine wl_skip rfl ?_
           simp only [Act.put, Xa, Xz, Xs]
           refine wl_skip rfl ?_
           simp only [Act.put, Xa, Xz, Xs]
           refine wl_skip rfl ?_
           simp only [Act.put, Xa, Xz, Xs]
           refine wl_skip rfl ?_
           simp only [Act.put, Xa, Xz, Xs]
           refine wl_skip rfl ?_
           simp only [Act.put, Xa, Xz, Xs]
           refine wl_skip rfl ?_
           simp only [Act.put, Xa, Xz, Xs]
           refine wl_skip rfl ?_
           simp only [Act.put, Xa, Xz, Xs]
           refine wl_skip rfl ?_
           simp only [Act.put, Xa, Xz, Xs]
           refine wl_val (.bool true) rfl (fun _ => rfl) ?_
           simp only [Act.put, Xa, Xz, Xs]
           refine wl_nil ?_
           refine we_then ?_
           refine wc_true rfl ?_
           refine wc_seq ?_
           refine wc_region ?_
           refine wl_val (.bool false) rfl (fun _ => rfl) ?_
           simp only [Act.put, Xa, Xz, Xs]
           refine wl_nil ?_
           refine we_then ?_
           refine wc_ret ?_
           refine we_in_ret ?_
           refine we_then_ret ?_
           refine we_then_ret ?_
           refine we_in_ret ?_
           refine we_then_ret ?_
           refine we_ret1 (.bool false) rfl rfl rfl (fun w1 hE => ?_)
           exact (by exfalso; first | omega | simp_all)
          ·
           skip
           have p26 : y + (-((L[i]!).lo)) < -k.ro := of_decide_eq_true h26
           refine wl_call 9 #[.agg #[.bool true, .bool false, .int .i64 x, .int .i64 y], .agg #[.int .i64 k.pu, .int .i64 k.lo, .int .i64 k.hi, .int .i64 k.rb, .int .i64 k.rp, .int .i64 k.ae, .int .i64 k.ms, .int .i64 k.ma, .int .i64 k.an, .int .i64 k.st, .int .i64 k.ss, .int .i64 k.ro, .int .i64 k.ti, .int .i64 k.br], .bool ((L[i]!).st), .bool false, .agg #[.int .i64 (-((L[i]!).hi)), .int .i64 (-((L[i]!).lo))]] (.agg #[.bool true, .bool true, .int .i64 (x + (-((L[i]!).hi))), .int .i64 (y + (-((L[i]!).lo)))]) rfl (fun _ => by go_simp) (fun W => by have h9 := Rll.next_any k ⟨true, false, x, y⟩ ((L[i]!).st) false (-((L[i]!).hi)) (-((L[i]!).lo)) W hk ⟨by (try dsimp only); omega, by (try dsimp only); omega, by (try dsimp only); omega, by (try dsimp only); omega, by (try dsimp only); omega, by (try dsimp only); omega⟩; rwa [show (nx k ⟨true, false, x, y⟩ ((L[i]!).st) false (-((L[i]!).hi)) (-((L[i]!).lo))).on = true from (by show (false || (decide (k.ro < x + (-((L[i]!).hi))) || decide (y + (-((L[i]!).lo)) < -k.ro))) = true; rw [h25, h26]; try rfl)] at h9) ?_
           simp only [Act.put, Xa, Xz, Xs]
           refine wl_store 1 31 (.tmp 6) (.tmp 53) (#[.bool true, .bool true, .int .i64 (x + (-((L[i]!).hi))), .int .i64 (y + (-((L[i]!).lo)))]) rfl rfl rfl rfl rfl (by kernel_rfl) rfl (by simp [Value.oneCell']) ?_
           simp only [Act.put, List.set_cons_zero, List.set_cons_succ]
           refine wl_nil ?_
           refine we_then ?_
           refine wc_seq ?_
           refine wc_region ?_
           refine wl_val (.pointer (some ⟨g4, 0, none⟩)) rfl (fun _ => by go_simp) ?_
           simp only [Act.put, Xa, Xz, Xs]
           refine wl_cell 4 (.tmp 54) (.bool true) (own_row 2 rfl) rfl rfl rfl rfl Try.isAgg4 ?_
           simp only [Act.put, Xa, Xz, Xs]
           refine wl_val (.pointer (some ⟨g5, 0, none⟩)) rfl (fun _ => by go_simp) ?_
           simp only [Act.put, Xa, Xz, Xs]
           refine wl_cell 4 (.tmp 56) (.bool true) (own_row 1 rfl) rfl rfl rfl rfl Try.isAgg4 ?_
           simp only [Act.put, Xa, Xz, Xs]
           refine wl_val (.bool false) rfl (fun _ => by go_simp) ?_
           simp only [Act.put, Xa, Xz, Xs]
           refine wl_val (.bool false) rfl (fun _ => rfl) ?_
           simp only [Act.put, Xa, Xz, Xs]
           refine wl_val (.pointer (some ⟨g4, 1, none⟩)) rfl (fun _ => by go_simp) ?_
           simp only [Act.put, Xa, Xz, Xs]
           refine wl_cell 4 (.tmp 60) (.bool true) (own_row 2 rfl) rfl rfl rfl rfl Try.isAgg4 ?_
           simp only [Act.put, Xa, Xz, Xs]
           refine wl_val (.pointer (some ⟨g5, 1, none⟩)) rfl (fun _ => by go_simp) ?_
           simp only [Act.put, Xa, Xz, Xs]
           refine wl_cell 4 (.tmp 62) (.bool true) (own_row 1 rfl) rfl rfl rfl rfl Try.isAgg4 ?_
           simp only [Act.put, Xa, Xz, Xs]
           refine wl_val (.bool false) rfl (fun _ => by go_simp) ?_
           simp only [Act.put, Xa, Xz, Xs]
           refine wl_val (.bool false) rfl (fun _ => rfl) ?_
           simp only [Act.put, Xa, Xz, Xs]
           refine wl_val (.bool false) rfl (fun _ => rfl) ?_
           simp only [Act.put, Xa, Xz, Xs]
           refine wl_val (.pointer (some ⟨g4, 2, none⟩)) rfl (fun _ => by go_simp) ?_
           simp only [Act.put, Xa, Xz, Xs]
           refine wl_val (.pointer (some ⟨g4, 2, none⟩)) rfl (fun _ => by go_simp) ?_
           simp only [Act.put, Xa, Xz, Xs]
           refine wl_cell 2 (.tmp 68) (.int .i64 (lo + ((L[i]!).lo))) (own_row 2 rfl) rfl rfl rfl rfl Try.isAgg2 ?_
           simp only [Act.put, Xa, Xz, Xs]
           refine wl_val (.pointer (some ⟨g5, 2, none⟩)) rfl (fun _ => by go_simp) ?_
           simp only [Act.put, Xa, Xz, Xs]
           refine wl_val (.pointer (some ⟨g5, 3, none⟩)) rfl (fun _ => by go_simp) ?_
           simp only [Act.put, Xa, Xz, Xs]
           refine wl_cell 2 (.tmp 71) (.int .i64 (y + (-((L[i]!).lo)))) (own_row 1 rfl) rfl rfl rfl rfl Try.isAgg2 ?_
           simp only [Act.put, Xa, Xz, Xs]
           refine wl_val (.int .i64 (-(y + (-((L[i]!).lo))))) rfl (fun w => run_neg rfl rfl Try.underlying2 (i64_in (by omega) (by omega)) w) ?_
           simp only [Act.put, Xa, Xz, Xs]
           refine wl_val (.bool ((lo + ((L[i]!).lo)) != (-(y + (-((L[i]!).lo)))))) rfl (fun w => run_cmp rfl rfl rfl Try.underlying2 rfl w) ?_
           simp only [Act.put, Xa, Xz, Xs]
           refine wl_val (.bool ((lo + ((L[i]!).lo)) != (-(y + (-((L[i]!).lo)))))) rfl (fun _ => rfl) ?_
           simp only [Act.put, Xa, Xz, Xs]
           refine wl_val (.bool ((lo + ((L[i]!).lo)) != (-(y + (-((L[i]!).lo)))))) rfl (fun _ => rfl) ?_
           simp only [Act.put, Xa, Xz, Xs]
           cases h27 : ((lo + ((L[i]!).lo)) != (-(y + (-((L[i]!).lo)))))
           ·
            skip
            have p27 : ¬ ((lo + ((L[i]!).lo)) ≠ (-(y + (-((L[i]!).lo))))) := by first | (simp; done) | (simp at h27; done) | simpa using h27
            refine wl_val (.pointer (some ⟨g4, 2, none⟩)) rfl (fun _ => by go_simp) ?_
            simp only [Act.put, Xa, Xz, Xs]
            refine wl_val (.pointer (some ⟨g4, 3, none⟩)) rfl (fun _ => by go_simp) ?_
            simp only [Act.put, Xa, Xz, Xs]
            refine wl_cell 2 (.tmp 78) (.int .i64 (hi + ((L[i]!).hi))) (own_row 2 rfl) rfl rfl rfl rfl Try.isAgg2 ?_
            simp only [Act.put, Xa, Xz, Xs]
            refine wl_val (.pointer (some ⟨g5, 2, none⟩)) rfl (fun _ => by go_simp) ?_
            simp only [Act.put, Xa, Xz, Xs]
            refine wl_val (.pointer (some ⟨g5, 2, none⟩)) rfl (fun _ => by go_simp) ?_
            simp only [Act.put, Xa, Xz, Xs]
            refine wl_cell 2 (.tmp 81) (.int .i64 (x + (-((L[i]!).hi)))) (own_row 1 rfl) rfl rfl rfl rfl Try.isAgg2 ?_
            simp only [Act.put, Xa, Xz, Xs]
            refine wl_val (.int .i64 (-(x + (-((L[i]!).hi))))) rfl (fun w => run_neg rfl rfl Try.underlying2 (i64_in (by omega) (by omega)) w) ?_
            simp only [Act.put, Xa, Xz, Xs]
            refine wl_val (.bool ((hi + ((L[i]!).hi)) != (-(x + (-((L[i]!).hi)))))) rfl (fun w => run_cmp rfl rfl rfl Try.underlying2 rfl w) ?_
            simp only [Act.put, Xa, Xz, Xs]
            refine wl_val (.bool ((hi + ((L[i]!).hi)) != (-(x + (-((L[i]!).hi)))))) rfl (fun _ => rfl) ?_
            simp only [Act.put, Xa, Xz, Xs]
            refine wl_nil ?_
            refine we_then ?_
            cases h28 : ((hi + ((L[i]!).hi)) != (-(x + (-((L[i]!).hi)))))
            ·
             skip
             have p28 : ¬ ((hi + ((L[i]!).hi)) ≠ (-(x + (-((L[i]!).hi))))) := by first | (simp; done) | (simp at h28; done) | simpa using h28
             refine wc_false rfl ?_
             refine wc_skip ?_
             refine we_in ?_
             refine we_then ?_
             refine wc_region ?_
             refine wl_val (.int .i64 ((i + 1 : Nat) : Int)) rfl (fun w => run_nat (X := i) (Y := 1) (Z := i + 1) rfl rfl rfl rfl (by omega) w) ?_
             simp only [Act.put, Xa, Xz, Xs]
             refine wl_val (.int .i64 ((i + 1 : Nat) : Int)) rfl (fun _ => rfl) ?_
             simp only [Act.put, Xa, Xz, Xs]
             refine wl_nil ?_
             exact we_meet ⟨(i + 1), true, true, (lo + ((L[i]!).lo)), (hi + ((L[i]!).hi)), (x + (-((L[i]!).hi))), (y + (-((L[i]!).lo))), _, _, _, _, _, _, _, _, _, _, _, _, _, _, _, _, _, _, _, _, _, _, _, _, _, _, _, _, _, _, _, _, _, _, _, _, _, _, _, _, _, _, _, _, _, _, _, _, _, _, _, _, _, _, _, _, _, _, _, _, _, _, _, _, _, _, _⟩ ⟨⟨by (try dsimp only); omega, by (try dsimp only); omega, by (try dsimp only); omega, by (try dsimp only); omega, by (try dsimp only); omega, by (try dsimp only); omega⟩, by (try dsimp only); omega⟩ rfl (List.Sublist.cons _ (List.Sublist.cons_cons _ (List.Sublist.cons_cons _ (List.Sublist.cons_cons _ List.Sublist.slnil))))
            ·
             skip
             have p28 : (hi + ((L[i]!).hi)) ≠ (-(x + (-((L[i]!).hi)))) := by first | (simp; done) | (simp at h28; done) | simpa using h28
             refine wc_true rfl ?_
             refine wc_seq ?_
             refine wc_region ?_
             refine wl_val (.bool false) rfl (fun _ => rfl) ?_
             simp only [Act.put, Xa, Xz, Xs]
             refine wl_nil ?_
             refine we_then ?_
             refine wc_ret ?_
             refine we_in_ret ?_
             refine we_then_ret ?_
             refine we_then_ret ?_
             refine we_in_ret ?_
             refine we_then_ret ?_
             refine we_ret1 (.bool false) rfl rfl rfl (fun w1 hE => ?_)
             exact (by exfalso; first | omega | simp_all)
           ·
            skip
            have p27 : (lo + ((L[i]!).lo)) ≠ (-(y + (-((L[i]!).lo)))) := by first | (simp; done) | (simp at h27; done) | simpa using h27
            refine wl_skip rfl ?_
            simp only [Act.put, Xa, Xz, Xs]
            refine wl_skip rfl ?_
            simp only [Act.put, Xa, Xz, Xs]
            refine wl_skip rfl ?_
            simp only [Act.put, Xa, Xz, Xs]
            refine wl_skip rfl ?_
            simp only [Act.put, Xa, Xz, Xs]
            refine wl_skip rfl ?_
            simp only [Act.put, Xa, Xz, Xs]
            refine wl_skip rfl ?_
            simp only [Act.put, Xa, Xz, Xs]
            refine wl_skip rfl ?_
            simp only [Act.put, Xa, Xz, Xs]
            refine wl_skip rfl ?_
            simp only [Act.put, Xa, Xz, Xs]
            refine wl_val (.bool true) rfl (fun _ => rfl) ?_
            simp only [Act.put, Xa, Xz, Xs]
            refine wl_nil ?_
            refine we_then ?_
            refine wc_true rfl ?_
            refine wc_seq ?_
            refine wc_region ?_
            refine wl_val (.bool false) rfl (fun _ => rfl) ?_
            simp only [Act.put, Xa, Xz, Xs]
            refine wl_nil ?_
            refine we_then ?_
            refine wc_ret ?_
            refine we_in_ret ?_
            refine we_then_ret ?_
            refine we_then_ret ?_
            refine we_in_ret ?_
            refine we_then_ret ?_
            refine we_ret1 (.bool false) rfl rfl rfl (fun w1 hE => ?_)
            exact (by exfalso; first | omega | simp_all)
         ·
          skip
          have p25 : k.ro < x + (-((L[i]!).hi)) := of_decide_eq_true h25
          refine wl_call 9 #[.agg #[.bool true, .bool false, .int .i64 x, .int .i64 y], .agg #[.int .i64 k.pu, .int .i64 k.lo, .int .i64 k.hi, .int .i64 k.rb, .int .i64 k.rp, .int .i64 k.ae, .int .i64 k.ms, .int .i64 k.ma, .int .i64 k.an, .int .i64 k.st, .int .i64 k.ss, .int .i64 k.ro, .int .i64 k.ti, .int .i64 k.br], .bool ((L[i]!).st), .bool false, .agg #[.int .i64 (-((L[i]!).hi)), .int .i64 (-((L[i]!).lo))]] (.agg #[.bool true, .bool true, .int .i64 (x + (-((L[i]!).hi))), .int .i64 (y + (-((L[i]!).lo)))]) rfl (fun _ => by go_simp) (fun W => by have h9 := Rll.next_any k ⟨true, false, x, y⟩ ((L[i]!).st) false (-((L[i]!).hi)) (-((L[i]!).lo)) W hk ⟨by (try dsimp only); omega, by (try dsimp only); omega, by (try dsimp only); omega, by (try dsimp only); omega, by (try dsimp only); omega, by (try dsimp only); omega⟩; rwa [show (nx k ⟨true, false, x, y⟩ ((L[i]!).st) false (-((L[i]!).hi)) (-((L[i]!).lo))).on = true from (by show (false || (decide (k.ro < x + (-((L[i]!).hi))) || decide (y + (-((L[i]!).lo)) < -k.ro))) = true; rw [h25]; try rfl)] at h9) ?_
          simp only [Act.put, Xa, Xz, Xs]
          refine wl_store 1 31 (.tmp 6) (.tmp 53) (#[.bool true, .bool true, .int .i64 (x + (-((L[i]!).hi))), .int .i64 (y + (-((L[i]!).lo)))]) rfl rfl rfl rfl rfl (by kernel_rfl) rfl (by simp [Value.oneCell']) ?_
          simp only [Act.put, List.set_cons_zero, List.set_cons_succ]
          refine wl_nil ?_
          refine we_then ?_
          refine wc_seq ?_
          refine wc_region ?_
          refine wl_val (.pointer (some ⟨g4, 0, none⟩)) rfl (fun _ => by go_simp) ?_
          simp only [Act.put, Xa, Xz, Xs]
          refine wl_cell 4 (.tmp 54) (.bool true) (own_row 2 rfl) rfl rfl rfl rfl Try.isAgg4 ?_
          simp only [Act.put, Xa, Xz, Xs]
          refine wl_val (.pointer (some ⟨g5, 0, none⟩)) rfl (fun _ => by go_simp) ?_
          simp only [Act.put, Xa, Xz, Xs]
          refine wl_cell 4 (.tmp 56) (.bool true) (own_row 1 rfl) rfl rfl rfl rfl Try.isAgg4 ?_
          simp only [Act.put, Xa, Xz, Xs]
          refine wl_val (.bool false) rfl (fun _ => by go_simp) ?_
          simp only [Act.put, Xa, Xz, Xs]
          refine wl_val (.bool false) rfl (fun _ => rfl) ?_
          simp only [Act.put, Xa, Xz, Xs]
          refine wl_val (.pointer (some ⟨g4, 1, none⟩)) rfl (fun _ => by go_simp) ?_
          simp only [Act.put, Xa, Xz, Xs]
          refine wl_cell 4 (.tmp 60) (.bool true) (own_row 2 rfl) rfl rfl rfl rfl Try.isAgg4 ?_
          simp only [Act.put, Xa, Xz, Xs]
          refine wl_val (.pointer (some ⟨g5, 1, none⟩)) rfl (fun _ => by go_simp) ?_
          simp only [Act.put, Xa, Xz, Xs]
          refine wl_cell 4 (.tmp 62) (.bool true) (own_row 1 rfl) rfl rfl rfl rfl Try.isAgg4 ?_
          simp only [Act.put, Xa, Xz, Xs]
          refine wl_val (.bool false) rfl (fun _ => by go_simp) ?_
          simp only [Act.put, Xa, Xz, Xs]
          refine wl_val (.bool false) rfl (fun _ => rfl) ?_
          simp only [Act.put, Xa, Xz, Xs]
          refine wl_val (.bool false) rfl (fun _ => rfl) ?_
          simp only [Act.put, Xa, Xz, Xs]
          refine wl_val (.pointer (some ⟨g4, 2, none⟩)) rfl (fun _ => by go_simp) ?_
          simp only [Act.put, Xa, Xz, Xs]
          refine wl_val (.pointer (some ⟨g4, 2, none⟩)) rfl (fun _ => by go_simp) ?_
          simp only [Act.put, Xa, Xz, Xs]
          refine wl_cell 2 (.tmp 68) (.int .i64 (lo + ((L[i]!).lo))) (own_row 2 rfl) rfl rfl rfl rfl Try.isAgg2 ?_
          simp only [Act.put, Xa, Xz, Xs]
          refine wl_val (.pointer (some ⟨g5, 2, none⟩)) rfl (fun _ => by go_simp) ?_
          simp only [Act.put, Xa, Xz, Xs]
          refine wl_val (.pointer (some ⟨g5, 3, none⟩)) rfl (fun _ => by go_simp) ?_
          simp only [Act.put, Xa, Xz, Xs]
          refine wl_cell 2 (.tmp 71) (.int .i64 (y + (-((L[i]!).lo)))) (own_row 1 rfl) rfl rfl rfl rfl Try.isAgg2 ?_
          simp only [Act.put, Xa, Xz, Xs]
          refine wl_val (.int .i64 (-(y + (-((L[i]!).lo))))) rfl (fun w => run_neg rfl rfl Try.underlying2 (i64_in (by omega) (by omega)) w) ?_
          simp only [Act.put, Xa, Xz, Xs]
          refine wl_val (.bool ((lo + ((L[i]!).lo)) != (-(y + (-((L[i]!).lo)))))) rfl (fun w => run_cmp rfl rfl rfl Try.underlying2 rfl w) ?_
          simp only [Act.put, Xa, Xz, Xs]
          refine wl_val (.bool ((lo + ((L[i]!).lo)) != (-(y + (-((L[i]!).lo)))))) rfl (fun _ => rfl) ?_
          simp only [Act.put, Xa, Xz, Xs]
          refine wl_val (.bool ((lo + ((L[i]!).lo)) != (-(y + (-((L[i]!).lo)))))) rfl (fun _ => rfl) ?_
          simp only [Act.put, Xa, Xz, Xs]
          cases h29 : ((lo + ((L[i]!).lo)) != (-(y + (-((L[i]!).lo)))))
          ·
           skip
           have p29 : ¬ ((lo + ((L[i]!).lo)) ≠ (-(y + (-((L[i]!).lo))))) := by first | (simp; done) | (simp at h29; done) | simpa using h29
           refine wl_val (.pointer (some ⟨g4, 2, none⟩)) rfl (fun _ => by go_simp) ?_
           simp only [Act.put, Xa, Xz, Xs]
           refine wl_val (.pointer (some ⟨g4, 3, none⟩)) rfl (fun _ => by go_simp) ?_
           simp only [Act.put, Xa, Xz, Xs]
           refine wl_cell 2 (.tmp 78) (.int .i64 (hi + ((L[i]!).hi))) (own_row 2 rfl) rfl rfl rfl rfl Try.isAgg2 ?_
           simp only [Act.put, Xa, Xz, Xs]
           refine wl_val (.pointer (some ⟨g5, 2, none⟩)) rfl (fun _ => by go_simp) ?_
           simp only [Act.put, Xa, Xz, Xs]
           refine wl_val (.pointer (some ⟨g5, 2, none⟩)) rfl (fun _ => by go_simp) ?_
           simp only [Act.put, Xa, Xz, Xs]
           refine wl_cell 2 (.tmp 81) (.int .i64 (x + (-((L[i]!).hi)))) (own_row 1 rfl) rfl rfl rfl rfl Try.isAgg2 ?_
           simp only [Act.put, Xa, Xz, Xs]
           refine wl_val (.int .i64 (-(x + (-((L[i]!).hi))))) rfl (fun w => run_neg rfl rfl Try.underlying2 (i64_in (by omega) (by omega)) w) ?_
           simp only [Act.put, Xa, Xz, Xs]
           refine wl_val (.bool ((hi + ((L[i]!).hi)) != (-(x + (-((L[i]!).hi)))))) rfl (fun w => run_cmp rfl rfl rfl Try.underlying2 rfl w) ?_
           simp only [Act.put, Xa, Xz, Xs]
           refine wl_val (.bool ((hi + ((L[i]!).hi)) != (-(x + (-((L[i]!).hi)))))) rfl (fun _ => rfl) ?_
           simp only [Act.put, Xa, Xz, Xs]
           refine wl_nil ?_
           refine we_then ?_
           cases h30 : ((hi + ((L[i]!).hi)) != (-(x + (-((L[i]!).hi)))))
           ·
            skip
            have p30 : ¬ ((hi + ((L[i]!).hi)) ≠ (-(x + (-((L[i]!).hi))))) := by first | (simp; done) | (simp at h30; done) | simpa using h30
            refine wc_false rfl ?_
            refine wc_skip ?_
            refine we_in ?_
            refine we_then ?_
            refine wc_region ?_
            refine wl_val (.int .i64 ((i + 1 : Nat) : Int)) rfl (fun w => run_nat (X := i) (Y := 1) (Z := i + 1) rfl rfl rfl rfl (by omega) w) ?_
            simp only [Act.put, Xa, Xz, Xs]
            refine wl_val (.int .i64 ((i + 1 : Nat) : Int)) rfl (fun _ => rfl) ?_
            simp only [Act.put, Xa, Xz, Xs]
            refine wl_nil ?_
            exact we_meet ⟨(i + 1), true, true, (lo + ((L[i]!).lo)), (hi + ((L[i]!).hi)), (x + (-((L[i]!).hi))), (y + (-((L[i]!).lo))), _, _, _, _, _, _, _, _, _, _, _, _, _, _, _, _, _, _, _, _, _, _, _, _, _, _, _, _, _, _, _, _, _, _, _, _, _, _, _, _, _, _, _, _, _, _, _, _, _, _, _, _, _, _, _, _, _, _, _, _, _, _, _, _, _, _, _⟩ ⟨⟨by (try dsimp only); omega, by (try dsimp only); omega, by (try dsimp only); omega, by (try dsimp only); omega, by (try dsimp only); omega, by (try dsimp only); omega⟩, by (try dsimp only); omega⟩ rfl (List.Sublist.cons _ (List.Sublist.cons_cons _ (List.Sublist.cons_cons _ (List.Sublist.cons_cons _ List.Sublist.slnil))))
           ·
            skip
            have p30 : (hi + ((L[i]!).hi)) ≠ (-(x + (-((L[i]!).hi)))) := by first | (simp; done) | (simp at h30; done) | simpa using h30
            refine wc_true rfl ?_
            refine wc_seq ?_
            refine wc_region ?_
            refine wl_val (.bool false) rfl (fun _ => rfl) ?_
            simp only [Act.put, Xa, Xz, Xs]
            refine wl_nil ?_
            refine we_then ?_
            refine wc_ret ?_
            refine we_in_ret ?_
            refine we_then_ret ?_
            refine we_then_ret ?_
            refine we_in_ret ?_
            refine we_then_ret ?_
            refine we_ret1 (.bool false) rfl rfl rfl (fun w1 hE => ?_)
            exact (by exfalso; first | omega | simp_all)
          ·
           skip
           have p29 : (lo + ((L[i]!).lo)) ≠ (-(y + (-((L[i]!).lo)))) := by first | (simp; done) | (simp at h29; done) | simpa using h29
           refine wl_skip rfl ?_
           simp only [Act.put, Xa, Xz, Xs]
           refine wl_skip rfl ?_
           simp only [Act.put, Xa, Xz, Xs]
           refine wl_skip rfl ?_
           simp only [Act.put, Xa, Xz, Xs]
           refine wl_skip rfl ?_
           simp only [Act.put, Xa, Xz, Xs]
           refine wl_skip rfl ?_
           simp only [Act.put, Xa, Xz, Xs]
           refine wl_skip rfl ?_
           simp only [Act.put, Xa, Xz, Xs]
           refine wl_skip rfl ?_
           simp only [Act.put, Xa, Xz, Xs]
           refine wl_skip rfl ?_
           simp only [Act.put, Xa, Xz, Xs]
           refine wl_val (.bool true) rfl (fun _ => rfl) ?_
           simp only [Act.put, Xa, Xz, Xs]
           refine wl_nil ?_
           refine we_then ?_
           refine wc_true rfl ?_
           refine wc_seq ?_
           refine wc_region ?_
           refine wl_val (.bool false) rfl (fun _ => rfl) ?_
           simp only [Act.put, Xa, Xz, Xs]
           refine wl_nil ?_
           refine we_then ?_
           refine wc_ret ?_
           refine we_in_ret ?_
           refine we_then_ret ?_
           refine we_then_ret ?_
           refine we_in_ret ?_
           refine we_then_ret ?_
           refine we_ret1 (.bool false) rfl rfl rfl (fun w1 hE => ?_)
           exact (by exfalso; first | omega | simp_all)
       ·
        skip
        refine wl_call 9 #[.agg #[.bool true, .bool true, .int .i64 lo, .int .i64 hi], .agg #[.int .i64 k.pu, .int .i64 k.lo, .int .i64 k.hi, .int .i64 k.rb, .int .i64 k.rp, .int .i64 k.ae, .int .i64 k.ms, .int .i64 k.ma, .int .i64 k.an, .int .i64 k.st, .int .i64 k.ss, .int .i64 k.ro, .int .i64 k.ti, .int .i64 k.br], .bool ((L[i]!).st), .bool false, .agg #[.int .i64 ((L[i]!).lo), .int .i64 ((L[i]!).hi)]] (.agg #[.bool true, .bool true, .int .i64 (lo + ((L[i]!).lo)), .int .i64 (hi + ((L[i]!).hi))]) rfl (fun _ => by go_simp) (fun W => by have h9 := Rll.next_any k ⟨true, true, lo, hi⟩ ((L[i]!).st) false ((L[i]!).lo) ((L[i]!).hi) W hk ⟨by (try dsimp only); omega, by (try dsimp only); omega, by (try dsimp only); omega, by (try dsimp only); omega, by (try dsimp only); omega, by (try dsimp only); omega⟩; rwa [show (nx k ⟨true, true, lo, hi⟩ ((L[i]!).st) false ((L[i]!).lo) ((L[i]!).hi)).on = true from rfl] at h9) ?_
        simp only [Act.put, Xa, Xz, Xs]
        refine wl_store 2 31 (.tmp 5) (.tmp 37) (#[.bool true, .bool true, .int .i64 (lo + ((L[i]!).lo)), .int .i64 (hi + ((L[i]!).hi))]) rfl rfl rfl rfl rfl (by kernel_rfl) rfl (by simp [Value.oneCell']) ?_
        simp only [Act.put, List.set_cons_zero, List.set_cons_succ]
        refine wl_nil ?_
        refine we_then ?_
        refine wc_seq ?_
        refine wc_region ?_
        refine wl_load 31 (.tmp 6) (own_row 1 rfl) rfl rfl rfl Try.underlying31 rfl (by kernel_rfl) ?_
        simp only [Act.put, Xa, Xz, Xs]
        refine wl_load 23 (.tmp 2) (own_row 3 rfl) rfl rfl rfl Try.underlying23 rfl (by kernel_rfl) ?_
        simp only [Act.put, Xa, Xz, Xs]
        refine wl_val (.pointer (some ⟨g7, 3, none⟩)) rfl (fun _ => by go_simp) ?_
        simp only [Act.put, Xa, Xz, Xs]
        refine wl_cell 4 (.tmp 40) (.bool ((L[i]!).st)) (own_row 0 rfl) rfl rfl rfl rfl Try.isAgg4 ?_
        simp only [Act.put, Xa, Xz, Xs]
        refine wl_val (.pointer (some ⟨g7, 4, none⟩)) rfl (fun _ => by go_simp) ?_
        simp only [Act.put, Xa, Xz, Xs]
        refine wl_cell 4 (.tmp 42) (.bool false) (own_row 0 rfl) rfl rfl rfl rfl Try.isAgg4 ?_
        simp only [Act.put, Xa, Xz, Xs]
        refine wl_val (.pointer (some ⟨g7, 0, none⟩)) rfl (fun _ => by go_simp) ?_
        simp only [Act.put, Xa, Xz, Xs]
        refine wl_val (.pointer (some ⟨g7, 1, none⟩)) rfl (fun _ => by go_simp) ?_
        simp only [Act.put, Xa, Xz, Xs]
        refine wl_cell 2 (.tmp 45) (.int .i64 ((L[i]!).hi)) (own_row 0 rfl) rfl rfl rfl rfl Try.isAgg2 ?_
        simp only [Act.put, Xa, Xz, Xs]
        refine wl_val (.int .i64 (-((L[i]!).hi))) rfl (fun w => run_neg rfl rfl Try.underlying2 (i64_in (by omega) (by omega)) w) ?_
        simp only [Act.put, Xa, Xz, Xs]
        refine wl_val (.pointer (some ⟨g7, 0, none⟩)) rfl (fun _ => by go_simp) ?_
        simp only [Act.put, Xa, Xz, Xs]
        refine wl_val (.pointer (some ⟨g7, 0, none⟩)) rfl (fun _ => by go_simp) ?_
        simp only [Act.put, Xa, Xz, Xs]
        refine wl_cell 2 (.tmp 49) (.int .i64 ((L[i]!).lo)) (own_row 0 rfl) rfl rfl rfl rfl Try.isAgg2 ?_
        simp only [Act.put, Xa, Xz, Xs]
        refine wl_val (.int .i64 (-((L[i]!).lo))) rfl (fun w => run_neg rfl rfl Try.underlying2 (i64_in (by omega) (by omega)) w) ?_
        simp only [Act.put, Xa, Xz, Xs]
        refine wl_val (.agg #[.int .i64 (-((L[i]!).hi)), .int .i64 (-((L[i]!).lo))]) rfl (fun _ => by go_simp) ?_
        simp only [Act.put, Xa, Xz, Xs]
        refine wl_call 9 #[.agg #[.bool true, .bool true, .int .i64 x, .int .i64 y], .agg #[.int .i64 k.pu, .int .i64 k.lo, .int .i64 k.hi, .int .i64 k.rb, .int .i64 k.rp, .int .i64 k.ae, .int .i64 k.ms, .int .i64 k.ma, .int .i64 k.an, .int .i64 k.st, .int .i64 k.ss, .int .i64 k.ro, .int .i64 k.ti, .int .i64 k.br], .bool ((L[i]!).st), .bool false, .agg #[.int .i64 (-((L[i]!).hi)), .int .i64 (-((L[i]!).lo))]] (.agg #[.bool true, .bool true, .int .i64 (x + (-((L[i]!).hi))), .int .i64 (y + (-((L[i]!).lo)))]) rfl (fun _ => by go_simp) (fun W => by have h9 := Rll.next_any k ⟨true, true, x, y⟩ ((L[i]!).st) false (-((L[i]!).hi)) (-((L[i]!).lo)) W hk ⟨by (try dsimp only); omega, by (try dsimp only); omega, by (try dsimp only); omega, by (try dsimp only); omega, by (try dsimp only); omega, by (try dsimp only); omega⟩; rwa [show (nx k ⟨true, true, x, y⟩ ((L[i]!).st) false (-((L[i]!).hi)) (-((L[i]!).lo))).on = true from rfl] at h9) ?_
        simp only [Act.put, Xa, Xz, Xs]
        refine wl_store 1 31 (.tmp 6) (.tmp 53) (#[.bool true, .bool true, .int .i64 (x + (-((L[i]!).hi))), .int .i64 (y + (-((L[i]!).lo)))]) rfl rfl rfl rfl rfl (by kernel_rfl) rfl (by simp [Value.oneCell']) ?_
        simp only [Act.put, List.set_cons_zero, List.set_cons_succ]
        refine wl_nil ?_
        refine we_then ?_
        refine wc_seq ?_
        refine wc_region ?_
        refine wl_val (.pointer (some ⟨g4, 0, none⟩)) rfl (fun _ => by go_simp) ?_
        simp only [Act.put, Xa, Xz, Xs]
        refine wl_cell 4 (.tmp 54) (.bool true) (own_row 2 rfl) rfl rfl rfl rfl Try.isAgg4 ?_
        simp only [Act.put, Xa, Xz, Xs]
        refine wl_val (.pointer (some ⟨g5, 0, none⟩)) rfl (fun _ => by go_simp) ?_
        simp only [Act.put, Xa, Xz, Xs]
        refine wl_cell 4 (.tmp 56) (.bool true) (own_row 1 rfl) rfl rfl rfl rfl Try.isAgg4 ?_
        simp only [Act.put, Xa, Xz, Xs]
        refine wl_val (.bool false) rfl (fun _ => by go_simp) ?_
        simp only [Act.put, Xa, Xz, Xs]
        refine wl_val (.bool false) rfl (fun _ => rfl) ?_
        simp only [Act.put, Xa, Xz, Xs]
        refine wl_val (.pointer (some ⟨g4, 1, none⟩)) rfl (fun _ => by go_simp) ?_
        simp only [Act.put, Xa, Xz, Xs]
        refine wl_cell 4 (.tmp 60) (.bool true) (own_row 2 rfl) rfl rfl rfl rfl Try.isAgg4 ?_
        simp only [Act.put, Xa, Xz, Xs]
        refine wl_val (.pointer (some ⟨g5, 1, none⟩)) rfl (fun _ => by go_simp) ?_
        simp only [Act.put, Xa, Xz, Xs]
        refine wl_cell 4 (.tmp 62) (.bool true) (own_row 1 rfl) rfl rfl rfl rfl Try.isAgg4 ?_
        simp only [Act.put, Xa, Xz, Xs]
        refine wl_val (.bool false) rfl (fun _ => by go_simp) ?_
        simp only [Act.put, Xa, Xz, Xs]
        refine wl_val (.bool false) rfl (fun _ => rfl) ?_
        simp only [Act.put, Xa, Xz, Xs]
        refine wl_val (.bool false) rfl (fun _ => rfl) ?_
        simp only [Act.put, Xa, Xz, Xs]
        refine wl_val (.pointer (some ⟨g4, 2, none⟩)) rfl (fun _ => by go_simp) ?_
        simp only [Act.put, Xa, Xz, Xs]
        refine wl_val (.pointer (some ⟨g4, 2, none⟩)) rfl (fun _ => by go_simp) ?_
        simp only [Act.put, Xa, Xz, Xs]
        refine wl_cell 2 (.tmp 68) (.int .i64 (lo + ((L[i]!).lo))) (own_row 2 rfl) rfl rfl rfl rfl Try.isAgg2 ?_
        simp only [Act.put, Xa, Xz, Xs]
        refine wl_val (.pointer (some ⟨g5, 2, none⟩)) rfl (fun _ => by go_simp) ?_
        simp only [Act.put, Xa, Xz, Xs]
        refine wl_val (.pointer (some ⟨g5, 3, none⟩)) rfl (fun _ => by go_simp) ?_
        simp only [Act.put, Xa, Xz, Xs]
        refine wl_cell 2 (.tmp 71) (.int .i64 (y + (-((L[i]!).lo)))) (own_row 1 rfl) rfl rfl rfl rfl Try.isAgg2 ?_
        simp only [Act.put, Xa, Xz, Xs]
        refine wl_val (.int .i64 (-(y + (-((L[i]!).lo))))) rfl (fun w => run_neg rfl rfl Try.underlying2 (i64_in (by omega) (by omega)) w) ?_
        simp only [Act.put, Xa, Xz, Xs]
        refine wl_val (.bool ((lo + ((L[i]!).lo)) != (-(y + (-((L[i]!).lo)))))) rfl (fun w => run_cmp rfl rfl rfl Try.underlying2 rfl w) ?_
        simp only [Act.put, Xa, Xz, Xs]
        refine wl_val (.bool ((lo + ((L[i]!).lo)) != (-(y + (-((L[i]!).lo)))))) rfl (fun _ => rfl) ?_
        simp only [Act.put, Xa, Xz, Xs]
        refine wl_val (.bool ((lo + ((L[i]!).lo)) != (-(y + (-((L[i]!).lo)))))) rfl (fun _ => rfl) ?_
        simp only [Act.put, Xa, Xz, Xs]
        cases h31 : ((lo + ((L[i]!).lo)) != (-(y + (-((L[i]!).lo)))))
        ·
         skip
         have p31 : ¬ ((lo + ((L[i]!).lo)) ≠ (-(y + (-((L[i]!).lo))))) := by first | (simp; done) | (simp at h31; done) | simpa using h31
         refine wl_val (.pointer (some ⟨g4, 2, none⟩)) rfl (fun _ => by go_simp) ?_
         simp only [Act.put, Xa, Xz, Xs]
         refine wl_val (.pointer (some ⟨g4, 3, none⟩)) rfl (fun _ => by go_simp) ?_
         simp only [Act.put, Xa, Xz, Xs]
         refine wl_cell 2 (.tmp 78) (.int .i64 (hi + ((L[i]!).hi))) (own_row 2 rfl) rfl rfl rfl rfl Try.isAgg2 ?_
         simp only [Act.put, Xa, Xz, Xs]
         refine wl_val (.pointer (some ⟨g5, 2, none⟩)) rfl (fun _ => by go_simp) ?_
         simp only [Act.put, Xa, Xz, Xs]
         refine wl_val (.pointer (some ⟨g5, 2, none⟩)) rfl (fun _ => by go_simp) ?_
         simp only [Act.put, Xa, Xz, Xs]
         refine wl_cell 2 (.tmp 81) (.int .i64 (x + (-((L[i]!).hi)))) (own_row 1 rfl) rfl rfl rfl rfl Try.isAgg2 ?_
         simp only [Act.put, Xa, Xz, Xs]
         refine wl_val (.int .i64 (-(x + (-((L[i]!).hi))))) rfl (fun w => run_neg rfl rfl Try.underlying2 (i64_in (by omega) (by omega)) w) ?_
         simp only [Act.put, Xa, Xz, Xs]
         refine wl_val (.bool ((hi + ((L[i]!).hi)) != (-(x + (-((L[i]!).hi)))))) rfl (fun w => run_cmp rfl rfl rfl Try.underlying2 rfl w) ?_
         simp only [Act.put, Xa, Xz, Xs]
         refine wl_val (.bool ((hi + ((L[i]!).hi)) != (-(x + (-((L[i]!).hi)))))) rfl (fun _ => rfl) ?_
         simp only [Act.put, Xa, Xz, Xs]
         refine wl_nil ?_
         refine we_then ?_
         cases h32 : ((hi + ((L[i]!).hi)) != (-(x + (-((L[i]!).hi)))))
         ·
          skip
          have p32 : ¬ ((hi + ((L[i]!).hi)) ≠ (-(x + (-((L[i]!).hi))))) := by first | (simp; done) | (simp at h32; done) | simpa using h32
          refine wc_false rfl ?_
          refine wc_skip ?_
          refine we_in ?_
          refine we_then ?_
          refine wc_region ?_
          refine wl_val (.int .i64 ((i + 1 : Nat) : Int)) rfl (fun w => run_nat (X := i) (Y := 1) (Z := i + 1) rfl rfl rfl rfl (by omega) w) ?_
          simp only [Act.put, Xa, Xz, Xs]
          refine wl_val (.int .i64 ((i + 1 : Nat) : Int)) rfl (fun _ => rfl) ?_
          simp only [Act.put, Xa, Xz, Xs]
          refine wl_nil ?_
          exact we_meet ⟨(i + 1), true, true, (lo + ((L[i]!).lo)), (hi + ((L[i]!).hi)), (x + (-((L[i]!).hi))), (y + (-((L[i]!).lo))), _, _, _, _, _, _, _, _, _, _, _, _, _, _, _, _, _, _, _, _, _, _, _, _, _, _, _, _, _, _, _, _, _, _, _, _, _, _, _, _, _, _, _, _, _, _, _, _, _, _, _, _, _, _, _, _, _, _, _, _, _, _, _, _, _, _, _⟩ ⟨⟨by (try dsimp only); omega, by (try dsimp only); omega, by (try dsimp only); omega, by (try dsimp only); omega, by (try dsimp only); omega, by (try dsimp only); omega⟩, by (try dsimp only); omega⟩ rfl (List.Sublist.cons _ (List.Sublist.cons_cons _ (List.Sublist.cons_cons _ (List.Sublist.cons_cons _ List.Sublist.slnil))))
         ·
          skip
          have p32 : (hi + ((L[i]!).hi)) ≠ (-(x + (-((L[i]!).hi)))) := by first | (simp; done) | (simp at h32; done) | simpa using h32
          refine wc_true rfl ?_
          refine wc_seq ?_
          refine wc_region ?_
          refine wl_val (.bool false) rfl (fun _ => rfl) ?_
          simp only [Act.put, Xa, Xz, Xs]
          refine wl_nil ?_
          refine we_then ?_
          refine wc_ret ?_
          refine we_in_ret ?_
          refine we_then_ret ?_
          refine we_then_ret ?_
          refine we_in_ret ?_
          refine we_then_ret ?_
          refine we_ret1 (.bool false) rfl rfl rfl (fun w1 hE => ?_)
          exact (by exfalso; first | omega | simp_all)
        ·
         skip
         have p31 : (lo + ((L[i]!).lo)) ≠ (-(y + (-((L[i]!).lo)))) := by first | (simp; done) | (simp at h31; done) | simpa using h31
         refine wl_skip rfl ?_
         simp only [Act.put, Xa, Xz, Xs]
         refine wl_skip rfl ?_
         simp only [Act.put, Xa, Xz, Xs]
         refine wl_skip rfl ?_
         simp only [Act.put, Xa, Xz, Xs]
         refine wl_skip rfl ?_
         simp only [Act.put, Xa, Xz, Xs]
         refine wl_skip rfl ?_
         simp only [Act.put, Xa, Xz, Xs]
         refine wl_skip rfl ?_
         simp only [Act.put, Xa, Xz, Xs]
         refine wl_skip rfl ?_
         simp only [Act.put, Xa, Xz, Xs]
         refine wl_skip rfl ?_
         simp only [Act.put, Xa, Xz, Xs]
         refine wl_val (.bool true) rfl (fun _ => rfl) ?_
         simp only [Act.put, Xa, Xz, Xs]
         refine wl_nil ?_
         refine we_then ?_
         refine wc_true rfl ?_
         refine wc_seq ?_
         refine wc_region ?_
         refine wl_val (.bool false) rfl (fun _ => rfl) ?_
         simp only [Act.put, Xa, Xz, Xs]
         refine wl_nil ?_
         refine we_then ?_
         refine wc_ret ?_
         refine we_in_ret ?_
         refine we_then_ret ?_
         refine we_then_ret ?_
         refine we_in_ret ?_
         refine we_then_ret ?_
         refine we_ret1 (.bool false) rfl rfl rfl (fun w1 hE => ?_)
         exact (by exfalso; first | omega | simp_all)
     ·
      skip
      refine wl_call 9 #[.agg #[.bool an, .bool on, .int .i64 lo, .int .i64 hi], .agg #[.int .i64 k.pu, .int .i64 k.lo, .int .i64 k.hi, .int .i64 k.rb, .int .i64 k.rp, .int .i64 k.ae, .int .i64 k.ms, .int .i64 k.ma, .int .i64 k.an, .int .i64 k.st, .int .i64 k.ss, .int .i64 k.ro, .int .i64 k.ti, .int .i64 k.br], .bool ((L[i]!).st), .bool true, .agg #[.int .i64 ((L[i]!).lo), .int .i64 ((L[i]!).hi)]] (.agg #[.bool false, .bool false, .int .i64 0, .int .i64 0]) rfl (fun _ => by go_simp) (fun W => by have h9 := Rll.next_any k ⟨an, on, lo, hi⟩ ((L[i]!).st) true ((L[i]!).lo) ((L[i]!).hi) W hk ⟨by (try dsimp only); omega, by (try dsimp only); omega, by (try dsimp only); omega, by (try dsimp only); omega, by (try dsimp only); omega, by (try dsimp only); omega⟩; exact h9) ?_
      simp only [Act.put, Xa, Xz, Xs]
      refine wl_store 2 31 (.tmp 5) (.tmp 37) (#[.bool false, .bool false, .int .i64 0, .int .i64 0]) rfl rfl rfl rfl rfl (by kernel_rfl) rfl (by simp [Value.oneCell']) ?_
      simp only [Act.put, List.set_cons_zero, List.set_cons_succ]
      refine wl_nil ?_
      refine we_then ?_
      refine wc_seq ?_
      refine wc_region ?_
      refine wl_load 31 (.tmp 6) (own_row 1 rfl) rfl rfl rfl Try.underlying31 rfl (by kernel_rfl) ?_
      simp only [Act.put, Xa, Xz, Xs]
      refine wl_load 23 (.tmp 2) (own_row 3 rfl) rfl rfl rfl Try.underlying23 rfl (by kernel_rfl) ?_
      simp only [Act.put, Xa, Xz, Xs]
      refine wl_val (.pointer (some ⟨g7, 3, none⟩)) rfl (fun _ => by go_simp) ?_
      simp only [Act.put, Xa, Xz, Xs]
      refine wl_cell 4 (.tmp 40) (.bool ((L[i]!).st)) (own_row 0 rfl) rfl rfl rfl rfl Try.isAgg4 ?_
      simp only [Act.put, Xa, Xz, Xs]
      refine wl_val (.pointer (some ⟨g7, 4, none⟩)) rfl (fun _ => by go_simp) ?_
      simp only [Act.put, Xa, Xz, Xs]
      refine wl_cell 4 (.tmp 42) (.bool true) (own_row 0 rfl) rfl rfl rfl rfl Try.isAgg4 ?_
      simp only [Act.put, Xa, Xz, Xs]
      refine wl_val (.pointer (some ⟨g7, 0, none⟩)) rfl (fun _ => by go_simp) ?_
      simp only [Act.put, Xa, Xz, Xs]
      refine wl_val (.pointer (some ⟨g7, 1, none⟩)) rfl (fun _ => by go_simp) ?_
      simp only [Act.put, Xa, Xz, Xs]
      refine wl_cell 2 (.tmp 45) (.int .i64 ((L[i]!).hi)) (own_row 0 rfl) rfl rfl rfl rfl Try.isAgg2 ?_
      simp only [Act.put, Xa, Xz, Xs]
      refine wl_val (.int .i64 (-((L[i]!).hi))) rfl (fun w => run_neg rfl rfl Try.underlying2 (i64_in (by omega) (by omega)) w) ?_
      simp only [Act.put, Xa, Xz, Xs]
      refine wl_val (.pointer (some ⟨g7, 0, none⟩)) rfl (fun _ => by go_simp) ?_
      simp only [Act.put, Xa, Xz, Xs]
      refine wl_val (.pointer (some ⟨g7, 0, none⟩)) rfl (fun _ => by go_simp) ?_
      simp only [Act.put, Xa, Xz, Xs]
      refine wl_cell 2 (.tmp 49) (.int .i64 ((L[i]!).lo)) (own_row 0 rfl) rfl rfl rfl rfl Try.isAgg2 ?_
      simp only [Act.put, Xa, Xz, Xs]
      refine wl_val (.int .i64 (-((L[i]!).lo))) rfl (fun w => run_neg rfl rfl Try.underlying2 (i64_in (by omega) (by omega)) w) ?_
      simp only [Act.put, Xa, Xz, Xs]
      refine wl_val (.agg #[.int .i64 (-((L[i]!).hi)), .int .i64 (-((L[i]!).lo))]) rfl (fun _ => by go_simp) ?_
      simp only [Act.put, Xa, Xz, Xs]
      refine wl_call 9 #[.agg #[.bool an, .bool on, .int .i64 x, .int .i64 y], .agg #[.int .i64 k.pu, .int .i64 k.lo, .int .i64 k.hi, .int .i64 k.rb, .int .i64 k.rp, .int .i64 k.ae, .int .i64 k.ms, .int .i64 k.ma, .int .i64 k.an, .int .i64 k.st, .int .i64 k.ss, .int .i64 k.ro, .int .i64 k.ti, .int .i64 k.br], .bool ((L[i]!).st), .bool true, .agg #[.int .i64 (-((L[i]!).hi)), .int .i64 (-((L[i]!).lo))]] (.agg #[.bool false, .bool false, .int .i64 0, .int .i64 0]) rfl (fun _ => by go_simp) (fun W => by have h9 := Rll.next_any k ⟨an, on, x, y⟩ ((L[i]!).st) true (-((L[i]!).hi)) (-((L[i]!).lo)) W hk ⟨by (try dsimp only); omega, by (try dsimp only); omega, by (try dsimp only); omega, by (try dsimp only); omega, by (try dsimp only); omega, by (try dsimp only); omega⟩; exact h9) ?_
      simp only [Act.put, Xa, Xz, Xs]
      refine wl_store 1 31 (.tmp 6) (.tmp 53) (#[.bool false, .bool false, .int .i64 0, .int .i64 0]) rfl rfl rfl rfl rfl (by kernel_rfl) rfl (by simp [Value.oneCell']) ?_
      simp only [Act.put, List.set_cons_zero, List.set_cons_succ]
      refine wl_nil ?_
      refine we_then ?_
      refine wc_seq ?_
      refine wc_region ?_
      refine wl_val (.pointer (some ⟨g4, 0, none⟩)) rfl (fun _ => by go_simp) ?_
      simp only [Act.put, Xa, Xz, Xs]
      refine wl_cell 4 (.tmp 54) (.bool false) (own_row 2 rfl) rfl rfl rfl rfl Try.isAgg4 ?_
      simp only [Act.put, Xa, Xz, Xs]
      refine wl_val (.pointer (some ⟨g5, 0, none⟩)) rfl (fun _ => by go_simp) ?_
      simp only [Act.put, Xa, Xz, Xs]
      refine wl_cell 4 (.tmp 56) (.bool false) (own_row 1 rfl) rfl rfl rfl rfl Try.isAgg4 ?_
      simp only [Act.put, Xa, Xz, Xs]
      refine wl_val (.bool false) rfl (fun _ => by go_simp) ?_
      simp only [Act.put, Xa, Xz, Xs]
      refine wl_val (.bool false) rfl (fun _ => rfl) ?_
      simp only [Act.put, Xa, Xz, Xs]
      refine wl_val (.pointer (some ⟨g4, 1, none⟩)) rfl (fun _ => by go_simp) ?_
      simp only [Act.put, Xa, Xz, Xs]
      refine wl_cell 4 (.tmp 60) (.bool false) (own_row 2 rfl) rfl rfl rfl rfl Try.isAgg4 ?_
      simp only [Act.put, Xa, Xz, Xs]
      refine wl_val (.pointer (some ⟨g5, 1, none⟩)) rfl (fun _ => by go_simp) ?_
      simp only [Act.put, Xa, Xz, Xs]
      refine wl_cell 4 (.tmp 62) (.bool false) (own_row 1 rfl) rfl rfl rfl rfl Try.isAgg4 ?_
      simp only [Act.put, Xa, Xz, Xs]
      refine wl_val (.bool false) rfl (fun _ => by go_simp) ?_
      simp only [Act.put, Xa, Xz, Xs]
      refine wl_val (.bool false) rfl (fun _ => rfl) ?_
      simp only [Act.put, Xa, Xz, Xs]
      refine wl_val (.bool false) rfl (fun _ => rfl) ?_
      simp only [Act.put, Xa, Xz, Xs]
      refine wl_val (.pointer (some ⟨g4, 2, none⟩)) rfl (fun _ => by go_simp) ?_
      simp only [Act.put, Xa, Xz, Xs]
      refine wl_val (.pointer (some ⟨g4, 2, none⟩)) rfl (fun _ => by go_simp) ?_
      simp only [Act.put, Xa, Xz, Xs]
      refine wl_cell 2 (.tmp 68) (.int .i64 0) (own_row 2 rfl) rfl rfl rfl rfl Try.isAgg2 ?_
      simp only [Act.put, Xa, Xz, Xs]
      refine wl_val (.pointer (some ⟨g5, 2, none⟩)) rfl (fun _ => by go_simp) ?_
      simp only [Act.put, Xa, Xz, Xs]
      refine wl_val (.pointer (some ⟨g5, 3, none⟩)) rfl (fun _ => by go_simp) ?_
      simp only [Act.put, Xa, Xz, Xs]
      refine wl_cell 2 (.tmp 71) (.int .i64 0) (own_row 1 rfl) rfl rfl rfl rfl Try.isAgg2 ?_
      simp only [Act.put, Xa, Xz, Xs]
      refine wl_val (.int .i64 (-0)) rfl (fun w => run_neg rfl rfl Try.underlying2 (i64_in (by omega) (by omega)) w) ?_
      simp only [Act.put, Xa, Xz, Xs]
      refine wl_val (.bool (0 != (-0))) rfl (fun w => run_cmp rfl rfl rfl Try.underlying2 rfl w) ?_
      simp only [Act.put, Xa, Xz, Xs]
      refine wl_val (.bool (0 != (-0))) rfl (fun _ => rfl) ?_
      simp only [Act.put, Xa, Xz, Xs]
      refine wl_val (.bool (0 != (-0))) rfl (fun _ => rfl) ?_
      simp only [Act.put, Xa, Xz, Xs]
      cases h33 : (0 != (-0))
      ·
       skip
       have p33 : ¬ (0 ≠ (-0)) := by first | (simp; done) | (simp at h33; done) | simpa using h33
       refine wl_val (.pointer (some ⟨g4, 2, none⟩)) rfl (fun _ => by go_simp) ?_
       simp only [Act.put, Xa, Xz, Xs]
       refine wl_val (.pointer (some ⟨g4, 3, none⟩)) rfl (fun _ => by go_simp) ?_
       simp only [Act.put, Xa, Xz, Xs]
       refine wl_cell 2 (.tmp 78) (.int .i64 0) (own_row 2 rfl) rfl rfl rfl rfl Try.isAgg2 ?_
       simp only [Act.put, Xa, Xz, Xs]
       refine wl_val (.pointer (some ⟨g5, 2, none⟩)) rfl (fun _ => by go_simp) ?_
       simp only [Act.put, Xa, Xz, Xs]
       refine wl_val (.pointer (some ⟨g5, 2, none⟩)) rfl (fun _ => by go_simp) ?_
       simp only [Act.put, Xa, Xz, Xs]
       refine wl_cell 2 (.tmp 81) (.int .i64 0) (own_row 1 rfl) rfl rfl rfl rfl Try.isAgg2 ?_
       simp only [Act.put, Xa, Xz, Xs]
       refine wl_val (.int .i64 (-0)) rfl (fun w => run_neg rfl rfl Try.underlying2 (i64_in (by omega) (by omega)) w) ?_
       simp only [Act.put, Xa, Xz, Xs]
       refine wl_val (.bool false) rfl (fun w => run_cmp (b := false) rfl rfl rfl Try.underlying2 (by exact congrArg some h33) w) ?_
       simp only [Act.put, Xa, Xz, Xs]
       refine wl_val (.bool false) rfl (fun _ => rfl) ?_
       simp only [Act.put, Xa, Xz, Xs]
       refine wl_nil ?_
       refine we_then ?_
       refine wc_false rfl ?_
       refine wc_skip ?_
       refine we_in ?_
       refine we_then ?_
       refine wc_region ?_
       refine wl_val (.int .i64 ((i + 1 : Nat) : Int)) rfl (fun w => run_nat (X := i) (Y := 1) (Z := i + 1) rfl rfl rfl rfl (by omega) w) ?_
       simp only [Act.put, Xa, Xz, Xs]
       refine wl_val (.int .i64 ((i + 1 : Nat) : Int)) rfl (fun _ => rfl) ?_
       simp only [Act.put, Xa, Xz, Xs]
       refine wl_nil ?_
       exact we_meet ⟨(i + 1), false, false, 0, 0, 0, 0, _, _, _, _, _, _, _, _, _, _, _, _, _, _, _, _, _, _, _, _, _, _, _, _, _, _, _, _, _, _, _, _, _, _, _, _, _, _, _, _, _, _, _, _, _, _, _, _, _, _, _, _, _, _, _, _, _, _, _, _, _, _, _, _, _, _, _⟩ ⟨⟨by (try dsimp only); omega, by (try dsimp only); omega, by (try dsimp only); omega, by (try dsimp only); omega, by (try dsimp only); omega, by (try dsimp only); omega⟩, by (try dsimp only); omega⟩ rfl (List.Sublist.cons _ (List.Sublist.cons_cons _ (List.Sublist.cons_cons _ (List.Sublist.cons_cons _ List.Sublist.slnil))))
      ·
       skip
       have p33 : 0 ≠ (-0) := by first | (simp; done) | (simp at h33; done) | simpa using h33
       refine wl_skip rfl ?_
       simp only [Act.put, Xa, Xz, Xs]
       refine wl_skip rfl ?_
       simp only [Act.put, Xa, Xz, Xs]
       refine wl_skip rfl ?_
       simp only [Act.put, Xa, Xz, Xs]
       refine wl_skip rfl ?_
       simp only [Act.put, Xa, Xz, Xs]
       refine wl_skip rfl ?_
       simp only [Act.put, Xa, Xz, Xs]
       refine wl_skip rfl ?_
       simp only [Act.put, Xa, Xz, Xs]
       refine wl_skip rfl ?_
       simp only [Act.put, Xa, Xz, Xs]
       refine wl_skip rfl ?_
       simp only [Act.put, Xa, Xz, Xs]
       refine wl_val (.bool true) rfl (fun _ => rfl) ?_
       simp only [Act.put, Xa, Xz, Xs]
       refine wl_nil ?_
       refine we_then ?_
       refine wc_true rfl ?_
       refine wc_seq ?_
       refine wc_region ?_
       refine wl_val (.bool false) rfl (fun _ => rfl) ?_
       simp only [Act.put, Xa, Xz, Xs]
       refine wl_nil ?_
       refine we_then ?_
       refine wc_ret ?_
       refine we_in_ret ?_
       refine we_then_ret ?_
       refine we_then_ret ?_
       refine we_in_ret ?_
       refine we_then_ret ?_
       refine we_ret1 (.bool false) rfl rfl rfl (fun w1 hE => ?_)
       exact (by exfalso; first | omega | simp_all)
  ·
   skip
   have p3 : 1000 < (L.length : Int) := of_decide_eq_true h3
   refine wc_true rfl ?_
   refine wc_seq ?_
   refine wc_region ?_
   refine wl_val (.bool true) rfl (fun _ => rfl) ?_
   simp only [Act.put, Xa, Xz, Xs]
   refine wl_nil ?_
   refine we_then ?_
   refine wc_ret ?_
   refine we_then_ret ?_
   refine we_ret1 (.bool true) rfl rfl rfl (fun w1 hE => ?_)
   exact ⟨rfl, hE.below⟩
 ·
  skip
  have p2 : ((wrong k : Nat) : Int) ≠ 0 := by first | (simp; done) | (simp at h2; done) | simpa using h2
  refine wl_skip rfl ?_
  simp only [Act.put, Xa, Xz, Xs]
  refine wl_skip rfl ?_
  simp only [Act.put, Xa, Xz, Xs]
  refine wl_skip rfl ?_
  simp only [Act.put, Xa, Xz, Xs]
  refine wl_val (.bool true) rfl (fun _ => rfl) ?_
  simp only [Act.put, Xa, Xz, Xs]
  refine wl_nil ?_
  refine we_then ?_
  refine wc_true rfl ?_
  refine wc_seq ?_
  refine wc_region ?_
  refine wl_val (.bool true) rfl (fun _ => rfl) ?_
  simp only [Act.put, Xa, Xz, Xs]
  refine wl_nil ?_
  refine we_then ?_
  refine wc_ret ?_
  refine we_then_ret ?_
  refine we_ret1 (.bool true) rfl rfl rfl (fun w1 hE => ?_)
  exact ⟨rfl, hE.below⟩
end Go.Proofs.Ytjpkcpoamkameaa.Walks
