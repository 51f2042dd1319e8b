/-
 RollTrue: the law's walk. No condition.
-/
import Derived.Test.YtjpkcpoamkameaaRllw
namespace Go.Proofs.Ytjpkcpoamkameaa.Walks
open Go.ChangeShapes Go.WideShapes Go.ChangeAt Go.RowKit
open Arr Steady Sx Sw Sl Sb Sc Si Sj Sk Sh Sfn Smu Vs Gr Tk Tkh Tkl Cf Cfref Rlm Rllw
set_option linter.unusedVariables false
set_option linter.unusedSimpArgs false
set_option maxRecDepth 100000

set_option maxHeartbeats 8000000 in
theorem rollTrue_walk (k : Cf) (L : List Cy9) (p : Option Addr) (c : Nat) (w : World) (hL : Reads w p (flat cy9 L)) (hn : L.length ≤ 140737488355328) :
  Calls Try.prog 4 #[.agg #[.int .i64 k.pu, .int .i64 k.lo, .int .i64 k.hi, .int .i64 k.rb, .int .i64 k.rp, .int .i64 k.ae, .int .i64 k.ms, .int .i64 k.ma, .int .i64 k.an, .int .i64 k.st, .int .i64 k.ss, .int .i64 k.ro, .int .i64 k.ti, .int .i64 k.br], .slice p L.length c] w fun e w' => e = .returned (.bool true) ∧ Below w.heap.size w w' := by
 refine calls_sx Try.func4 rfl ?_
 simp only [Try.ntmps4, List.size_toArray, List.length_cons, List.length_nil, Nat.reduceAdd, Nat.reduceSub, Array.replicate_succ, Array.replicate_zero, List.push_toArray, List.append_toArray, List.nil_append, List.cons_append]
 refine wc_seq ?_
 refine wc_region ?_
 refine wl_new 23 (#[.int .i64 k.pu, .int .i64 k.lo, .int .i64 k.hi, .int .i64 k.rb, .int .i64 k.rp, .int .i64 k.ae, .int .i64 k.ms, .int .i64 k.ma, .int .i64 k.an, .int .i64 k.st, .int .i64 k.ss, .int .i64 k.ro, .int .i64 k.ti, .int .i64 k.br]) rfl (fun _ => by go_simp) ?_
 intro g1
 simp only [Act.put, Xa, Xz, Xs]
 refine wl_val (.bool false) rfl (fun _ => rfl) ?_
 simp only [Act.put, Xa, Xz, Xs]
 refine wl_nil ?_
 refine we_then ?_
 refine wc_seq ?_
 refine wc_seq ?_
 refine wc_region ?_
 refine wl_call 6 #[] (.bool true) rfl (fun _ => by go_simp) (fun W => Rllw.anchor_any W) ?_
 simp only [Act.put, Xa, Xz, Xs]
 refine wl_val (.bool false) rfl (fun _ => by go_simp) ?_
 simp only [Act.put, Xa, Xz, Xs]
 refine wl_nil ?_
 refine we_then ?_
 refine wc_false rfl ?_
 refine wc_skip ?_
 refine we_then ?_
 refine wc_seq ?_
 refine wc_seq ?_
 refine wc_region ?_
 refine wl_load 23 (.tmp 2) (own_row 0 rfl) rfl rfl rfl Try.underlying23 rfl (by kernel_rfl) ?_
 simp only [Act.put, Xa, Xz, Xs]
 refine wl_call 7 #[.agg #[.int .i64 k.pu, .int .i64 k.lo, .int .i64 k.hi, .int .i64 k.rb, .int .i64 k.rp, .int .i64 k.ae, .int .i64 k.ms, .int .i64 k.ma, .int .i64 k.an, .int .i64 k.st, .int .i64 k.ss, .int .i64 k.ro, .int .i64 k.ti, .int .i64 k.br]] (.int .i64 ((wrong k : Nat) : Int)) rfl (fun _ => by go_simp) (fun W => wrong_any k W) ?_
 simp only [Act.put, Xa, Xz, Xs]
 refine wl_val (.bool (((wrong k : Nat) : Int) != 0)) rfl (fun w => run_cmp rfl rfl rfl Try.underlying3 rfl w) ?_
 simp only [Act.put, Xa, Xz, Xs]
 refine wl_val (.bool (((wrong k : Nat) : Int) != 0)) rfl (fun _ => rfl) ?_
 simp only [Act.put, Xa, Xz, Xs]
 cases h2 : (((wrong k : Nat) : Int) != 0)
 ·
  skip
  have p2 : ¬ (((wrong k : Nat) : Int) ≠ 0) := by first | (simp; done) | (simp at h2; done) | simpa using h2
  refine wl_val (.slice p L.length c) rfl (fun _ => rfl) ?_
  simp only [Act.put, Xa, Xz, Xs]
  refine wl_val (.int .i64 (L.length : Int)) rfl (fun w => er_len rfl rfl Try.underlying24 w) ?_
  simp only [Act.put, Xa, Xz, Xs]
  refine wl_val (.bool (decide (1000 < (L.length : Int)))) rfl (fun w => run_cmp rfl rfl rfl Try.underlying3 rfl w) ?_
  simp only [Act.put, Xa, Xz, Xs]
  refine wl_val (.bool (decide (1000 < (L.length : Int)))) rfl (fun _ => rfl) ?_
  simp only [Act.put, Xa, Xz, Xs]
  refine wl_nil ?_
  refine we_then ?_
  cases h3 : (decide (1000 < (L.length : Int)))
  ·
   skip
   have p3 : ¬ (1000 < (L.length : Int)) := of_decide_eq_false h3
   refine wc_false rfl ?_
   refine wc_skip ?_
   refine we_then ?_
   refine wc_seq ?_
   have hk := ok_of (c := k) (by omega)
   have hk1 := hk.ro1
   have hk2 := hk.ro2
   refine wc_region ?_
   refine wl_new 31 (#[.bool false, .bool false, .int .i64 0, .int .i64 0]) rfl (fun _ => by go_simp) ?_
   intro g4
   simp only [Act.put, Xa, Xz, Xs]
   refine wl_nil ?_
   refine we_then ?_
   refine wc_seq ?_
   refine wc_region ?_
   refine wl_val (.int .i64 0) rfl (fun _ => rfl) ?_
   simp only [Act.put, Xa, Xz, Xs]
   refine wl_nil ?_
   refine we_then ?_
   refine wc_seq ?_
   refine wc_region ?_
   refine wl_val (.bool false) rfl (fun _ => rfl) ?_
   simp only [Act.put, Xa, Xz, Xs]
   refine wl_nil ?_
   refine we_then ?_
   refine wc_seq ?_
   refine wc_seq ?_
   refine wc_region ?_
   refine wl_val (.slice p L.length c) rfl (fun _ => rfl) ?_
   simp only [Act.put, Xa, Xz, Xs]
   refine wl_val (.int .i64 (L.length : Int)) rfl (fun w => er_len rfl rfl Try.underlying24 w) ?_
   simp only [Act.put, Xa, Xz, Xs]
   refine wl_val (.int .i64 0) rfl (fun _ => rfl) ?_
   simp only [Act.put, Xa, Xz, Xs]
   refine wl_nil ?_
   refine we_then ?_
   refine wc_block ?_
   refine wc_loop (fun (zz : Nat × Bool × Bool × Int × Int × Int × Bool × Value × Value × Value × Value × Value × Value × Value × Value × Value × Value × Value × Value × Value × Value × Value × Value × Value × Value × Value × Value × Value × Value × Value × Value × Value × Value × Value × Value × Value × Value × Value × Value × Value × Value × Value × Value × Value × Value × Value × Value × Value × Value × Value × Value × Value × Value × Value × Value × Value × Value × Value × Value × Value × Value × Value × Value × Value × Value × Value × Value × Value × Value × Value × Value × Value × Value × Value × Value × Value × Value × Value × Value × Value × Value × Value × Value × Value × Value × Value × Value × Value × Value × Value × Value × Value × Value × Value × Value × Value × Value × Value × Value × Value × Value × Value × Value × Value) => match zz with | ⟨i, an, on, lo, hi, m, f, u4, u9, u10, u11, u25, u26, u27, u28, u29, u30, u31, u32, u33, u34, u35, u36, u37, u38, u39, u40, u41, u42, u43, u44, u45, u46, u47, u48, u49, u50, u51, u52, u53, u54, u55, u56, u57, u58, u59, u60, u61, u62, u63, u64, u65, u66, u67, u68, u69, u70, u71, u72, u73, u74, u75, u76, u77, u78, u79, u80, u81, u82, u83, u84, u85, u86, u87, u88, u89, u90, u91, u92, u93, u94, u95, u96, u97, u98, u99, u100, u101, u102, u103, u104, u105, u106, u107, u108, u109, u110, u111, u112, u113, u114, u115, u116, u117⟩ => ({ tmps := #[.agg #[.int .i64 k.pu, .int .i64 k.lo, .int .i64 k.hi, .int .i64 k.rb, .int .i64 k.rp, .int .i64 k.ae, .int .i64 k.ms, .int .i64 k.ma, .int .i64 k.an, .int .i64 k.st, .int .i64 k.ss, .int .i64 k.ro, .int .i64 k.ti, .int .i64 k.br], .slice p L.length c, .pointer (some ⟨g1, 0, none⟩), undef, u4, .pointer (some ⟨g4, 0, none⟩), .int .i64 m, .bool f, undef, u9, u10, u11, .bool true, .bool false, .agg #[.int .i64 k.pu, .int .i64 k.lo, .int .i64 k.hi, .int .i64 k.rb, .int .i64 k.rp, .int .i64 k.ae, .int .i64 k.ms, .int .i64 k.ma, .int .i64 k.an, .int .i64 k.st, .int .i64 k.ss, .int .i64 k.ro, .int .i64 k.ti, .int .i64 k.br], .int .i64 ((wrong k : Nat) : Int), .bool false, .bool false, .slice p L.length c, .int .i64 (L.length : Int), .bool false, .bool false, .slice p L.length c, .int .i64 (L.length : Int), .int .i64 (i : Int), u25, u26, u27, u28, u29, u30, u31, u32, u33, u34, u35, u36, u37, u38, u39, u40, u41, u42, u43, u44, u45, u46, u47, u48, u49, u50, u51, u52, u53, u54, u55, u56, u57, u58, u59, u60, u61, u62, u63, u64, u65, u66, u67, u68, u69, u70, u71, u72, u73, u74, u75, u76, u77, u78, u79, u80, u81, u82, u83, u84, u85, u86, u87, u88, u89, u90, u91, u92, u93, u94, u95, u96, u97, u98, u99, u100, u101, u102, u103, u104, u105, u106, u107, u108, u109, u110, u111, u112, u113, u114, u115, u116, u117], defers := [] } : Act)) (fun (zz : Nat × Bool × Bool × Int × Int × Int × Bool × Value × Value × Value × Value × Value × Value × Value × Value × Value × Value × Value × Value × Value × Value × Value × Value × Value × Value × Value × Value × Value × Value × Value × Value × Value × Value × Value × Value × Value × Value × Value × Value × Value × Value × Value × Value × Value × Value × Value × Value × Value × Value × Value × Value × Value × Value × Value × Value × Value × Value × Value × Value × Value × Value × Value × Value × Value × Value × Value × Value × Value × Value × Value × Value × Value × Value × Value × Value × Value × Value × Value × Value × Value × Value × Value × Value × Value × Value × Value × Value × Value × Value × Value × Value × Value × Value × Value × Value × Value × Value × Value × Value × Value × Value × Value × Value × Value) => match zz with | ⟨i, an, on, lo, hi, m, f, u4, u9, u10, u11, u25, u26, u27, u28, u29, u30, u31, u32, u33, u34, u35, u36, u37, u38, u39, u40, u41, u42, u43, u44, u45, u46, u47, u48, u49, u50, u51, u52, u53, u54, u55, u56, u57, u58, u59, u60, u61, u62, u63, u64, u65, u66, u67, u68, u69, u70, u71, u72, u73, u74, u75, u76, u77, u78, u79, u80, u81, u82, u83, u84, u85, u86, u87, u88, u89, u90, u91, u92, u93, u94, u95, u96, u97, u98, u99, u100, u101, u102, u103, u104, u105, u106, u107, u108, u109, u110, u111, u112, u113, u114, u115, u116, u117⟩ => [⟨g4, #[.bool an, .bool on, .int .i64 lo, .int .i64 hi], 31⟩, ⟨g1, #[.int .i64 k.pu, .int .i64 k.lo, .int .i64 k.hi, .int .i64 k.rb, .int .i64 k.rp, .int .i64 k.ae, .int .i64 k.ms, .int .i64 k.ma, .int .i64 k.an, .int .i64 k.st, .int .i64 k.ss, .int .i64 k.ro, .int .i64 k.ti, .int .i64 k.br], 23⟩]) (fun (zz : Nat × Bool × Bool × Int × Int × Int × Bool × Value × Value × Value × Value × Value × Value × Value × Value × Value × Value × Value × Value × Value × Value × Value × Value × Value × Value × Value × Value × Value × Value × Value × Value × Value × Value × Value × Value × Value × Value × Value × Value × Value × Value × Value × Value × Value × Value × Value × Value × Value × Value × Value × Value × Value × Value × Value × Value × Value × Value × Value × Value × Value × Value × Value × Value × Value × Value × Value × Value × Value × Value × Value × Value × Value × Value × Value × Value × Value × Value × Value × Value × Value × Value × Value × Value × Value × Value × Value × Value × Value × Value × Value × Value × Value × Value × Value × Value × Value × Value × Value × Value × Value × Value × Value × Value × Value) => match zz with | ⟨i, an, on, lo, hi, m, f, u4, u9, u10, u11, u25, u26, u27, u28, u29, u30, u31, u32, u33, u34, u35, u36, u37, u38, u39, u40, u41, u42, u43, u44, u45, u46, u47, u48, u49, u50, u51, u52, u53, u54, u55, u56, u57, u58, u59, u60, u61, u62, u63, u64, u65, u66, u67, u68, u69, u70, u71, u72, u73, u74, u75, u76, u77, u78, u79, u80, u81, u82, u83, u84, u85, u86, u87, u88, u89, u90, u91, u92, u93, u94, u95, u96, u97, u98, u99, u100, u101, u102, u103, u104, u105, u106, u107, u108, u109, u110, u111, u112, u113, u114, u115, u116, u117⟩ => i ≤ L.length ∧ lo ≤ hi ∧ -(1099511627776 * (i : Int)) ≤ lo ∧ hi ≤ 1099511627776 * (i : Int) ∧ -(1099511627776 * (i : Int)) ≤ m ∧ m ≤ 1099511627776 * (i : Int) ∧ (an = true → lo ≤ m ∧ m ≤ hi ∧ (on = true → f = true))) (fun (zz : Nat × Bool × Bool × Int × Int × Int × Bool × Value × Value × Value × Value × Value × Value × Value × Value × Value × Value × Value × Value × Value × Value × Value × Value × Value × Value × Value × Value × Value × Value × Value × Value × Value × Value × Value × Value × Value × Value × Value × Value × Value × Value × Value × Value × Value × Value × Value × Value × Value × Value × Value × Value × Value × Value × Value × Value × Value × Value × Value × Value × Value × Value × Value × Value × Value × Value × Value × Value × Value × Value × Value × Value × Value × Value × Value × Value × Value × Value × Value × Value × Value × Value × Value × Value × Value × Value × Value × Value × Value × Value × Value × Value × Value × Value × Value × Value × Value × Value × Value × Value × Value × Value × Value × Value × Value) => match zz with | ⟨i, an, on, lo, hi, m, f, u4, u9, u10, u11, u25, u26, u27, u28, u29, u30, u31, u32, u33, u34, u35, u36, u37, u38, u39, u40, u41, u42, u43, u44, u45, u46, u47, u48, u49, u50, u51, u52, u53, u54, u55, u56, u57, u58, u59, u60, u61, u62, u63, u64, u65, u66, u67, u68, u69, u70, u71, u72, u73, u74, u75, u76, u77, u78, u79, u80, u81, u82, u83, u84, u85, u86, u87, u88, u89, u90, u91, u92, u93, u94, u95, u96, u97, u98, u99, u100, u101, u102, u103, u104, u105, u106, u107, u108, u109, u110, u111, u112, u113, u114, u115, u116, u117⟩ => L.length - i) ⟨0, false, false, 0, 0, 0, false, _, _, _, _, _, _, _, _, _, _, _, _, _, _, _, _, _, _, _, _, _, _, _, _, _, _, _, _, _, _, _, _, _, _, _, _, _, _, _, _, _, _, _, _, _, _, _, _, _, _, _, _, _, _, _, _, _, _, _, _, _, _, _, _, _, _, _, _, _, _, _, _, _, _, _, _, _, _, _, _, _, _, _, _, _, _, _, _, _, _, _, _, _, _, _, _, _⟩ ⟨Nat.zero_le _, by omega, by omega, by omega, by omega, by omega, fun z => by cases z⟩ rfl (List.Sublist.cons_cons _ (List.Sublist.cons_cons _ List.Sublist.slnil)) ?_
   rintro ⟨i, an, on, lo, hi, m, f, u4, u9, u10, u11, u25, u26, u27, u28, u29, u30, u31, u32, u33, u34, u35, u36, u37, u38, u39, u40, u41, u42, u43, u44, u45, u46, u47, u48, u49, u50, u51, u52, u53, u54, u55, u56, u57, u58, u59, u60, u61, u62, u63, u64, u65, u66, u67, u68, u69, u70, u71, u72, u73, u74, u75, u76, u77, u78, u79, u80, u81, u82, u83, u84, u85, u86, u87, u88, u89, u90, u91, u92, u93, u94, u95, u96, u97, u98, u99, u100, u101, u102, u103, u104, u105, u106, u107, u108, u109, u110, u111, u112, u113, u114, u115, u116, u117⟩ hφ
   (try dsimp only at hφ ⊢)
   obtain ⟨b1, b2, b3, b4, b5, b6, b7⟩ := hφ
   refine wc_seq ?_
   refine wc_region ?_
   refine wl_val (.bool (decide ((i : Int) < (L.length : Int)))) rfl (fun w => run_cmp rfl rfl rfl Try.underlying3 rfl w) ?_
   simp only [Act.put, Xa, Xz, Xs]
   refine wl_nil ?_
   refine we_then ?_
   refine wc_seq ?_
   cases h5 : (decide ((i : Int) < (L.length : Int)))
   ·
    skip
    have p5 : ¬ ((i : Int) < (L.length : Int)) := of_decide_eq_false h5
    refine wc_false rfl ?_
    refine wc_exit ?_
    refine we_then_exit ?_
    refine we_then_exit ?_
    refine we_in_here ?_
    refine we_then ?_
    refine wc_seq ?_
    refine wc_region ?_
    refine wl_val (.bool true) rfl (fun _ => rfl) ?_
    simp only [Act.put, Xa, Xz, Xs]
    refine wl_nil ?_
    refine we_then ?_
    refine wc_ret ?_
    refine we_ret1 (.bool true) rfl rfl rfl (fun w1 hE => ?_)
    exact ⟨rfl, hE.below⟩
   ·
    skip
    have p5 : (i : Int) < (L.length : Int) := of_decide_eq_true h5
    refine wc_true rfl ?_
    refine wc_skip ?_
    refine we_then ?_
    refine wc_seq ?_
    refine wc_block ?_
    refine wc_seq ?_
    refine wc_region ?_
    refine wl_read (eaddr p (i * 5)) rfl (er_index i 5 (sl_old hL) rfl rfl rfl rfl (by omega) (flat_length (enc := cy9) (size := 5) (fun _ => rfl) _) (by decide) Try.underlying24 (by kernel_rfl)) ?_
    simp only [Act.put, Xa, Xz, Xs]
    refine wl_read (.agg #[.int .i64 ((L[i]!).lo), .int .i64 ((L[i]!).hi), .int .i64 ((L[i]!).v), .bool ((L[i]!).st), .bool ((L[i]!).cm)]) rfl (er_part (i * 5) [.int .i64 ((L[i]!).lo), .int .i64 ((L[i]!).hi), .int .i64 ((L[i]!).v), .bool ((L[i]!).st), .bool ((L[i]!).cm)] (sl_old hL) rfl rfl (flat_part (enc := cy9) (fun _ => rfl) L i (by omega)) (Nat.zero_lt_succ _) Try.underlying33 rfl (by kernel_rfl)) ?_
    simp only [Act.put, Xa, Xz, Xs]
    refine wl_new 33 (#[.int .i64 0, .int .i64 0, .int .i64 0, .bool false, .bool false]) rfl (fun _ => by go_simp) ?_
    intro g6
    simp only [Act.put, Xa, Xz, Xs]
    refine wl_store 0 33 (.tmp 9) (.tmp 27) (#[.int .i64 ((L[i]!).lo), .int .i64 ((L[i]!).hi), .int .i64 ((L[i]!).v), .bool ((L[i]!).st), .bool ((L[i]!).cm)]) rfl rfl rfl rfl rfl (by kernel_rfl) rfl (by simp [Value.oneCell']) ?_
    simp only [Act.put, List.set_cons_zero]
    refine wl_nil ?_
    refine we_then ?_
    refine wc_seq ?_
    refine wc_seq ?_
    refine wc_region ?_
    refine wl_val (.pointer (some ⟨g6, 0, none⟩)) rfl (fun _ => by go_simp) ?_
    simp only [Act.put, Xa, Xz, Xs]
    refine wl_part 29 (.tmp 28) [.int .i64 ((L[i]!).lo), .int .i64 ((L[i]!).hi)] (own_row 0 rfl) rfl rfl rfl rfl Try.underlying29 rfl (by kernel_rfl) ?_
    simp only [Act.put, Xa, Xz, Xs]
    refine wl_call 8 #[.agg #[.int .i64 ((L[i]!).lo), .int .i64 ((L[i]!).hi)]] (.bool (smallB ((L[i]!).lo) ((L[i]!).hi))) rfl (fun _ => by go_simp) (fun W => small_any ((L[i]!).lo) ((L[i]!).hi) W) ?_
    simp only [Act.put, Xa, Xz, Xs]
    refine wl_val (.bool (!(smallB ((L[i]!).lo) ((L[i]!).hi)))) rfl (fun _ => by go_simp) ?_
    simp only [Act.put, Xa, Xz, Xs]
    refine wl_val (.bool (!(smallB ((L[i]!).lo) ((L[i]!).hi)))) rfl (fun _ => rfl) ?_
    simp only [Act.put, Xa, Xz, Xs]
    cases h7 : (smallB ((L[i]!).lo) ((L[i]!).hi))
    ·
     skip
     refine wl_skip rfl ?_
     simp only [Act.put, Xa, Xz, Xs]
     refine wl_skip rfl ?_
     simp only [Act.put, Xa, Xz, Xs]
     refine wl_skip rfl ?_
     simp only [Act.put, Xa, Xz, Xs]
     refine wl_skip rfl ?_
     simp only [Act.put, Xa, Xz, Xs]
     refine wl_skip rfl ?_
     simp only [Act.put, Xa, Xz, Xs]
     refine wl_skip rfl ?_
     simp only [Act.put, Xa, Xz, Xs]
     refine wl_val (.bool true) rfl (fun _ => rfl) ?_
     simp only [Act.put, Xa, Xz, Xs]
     refine wl_val (.bool true) rfl (fun _ => rfl) ?_
     simp only [Act.put, Xa, Xz, Xs]
     refine wl_skip rfl ?_
     simp only [Act.put, Xa, Xz, Xs]
     refine wl_skip rfl ?_
     simp only [Act.put, Xa, Xz, Xs]
     refine wl_skip rfl ?_
     simp only [Act.put, Xa, Xz, Xs]
     refine wl_skip rfl ?_
     simp only [Act.put, Xa, Xz, Xs]
     refine wl_skip rfl ?_
     simp only [Act.put, Xa, Xz, Xs]
     refine wl_skip rfl ?_
     simp only [Act.put, Xa, Xz, Xs]
     refine wl_val (.bool true) rfl (fun _ => rfl) ?_
     simp only [Act.put, Xa, Xz, Xs]
     refine wl_nil ?_
     refine we_then ?_
     refine wc_true rfl ?_
     refine wc_seq ?_
     refine wc_region ?_
     refine wl_val (.bool true) rfl (fun _ => rfl) ?_
     simp only [Act.put, Xa, Xz, Xs]
     refine wl_nil ?_
     refine we_then ?_
     refine wc_ret ?_
     refine we_then_ret ?_
     refine we_in_ret ?_
     refine we_then_ret ?_
     refine we_then_ret ?_
     refine we_in_ret ?_
     refine we_then_ret ?_
     refine we_ret1 (.bool true) rfl rfl rfl (fun w1 hE => ?_)
     exact ⟨rfl, hE.below⟩
    ·
     skip
     refine wl_val (.pointer (some ⟨g6, 2, none⟩)) rfl (fun _ => by go_simp) ?_
     simp only [Act.put, Xa, Xz, Xs]
     refine wl_cell 2 (.tmp 33) (.int .i64 ((L[i]!).v)) (own_row 0 rfl) rfl rfl rfl rfl Try.isAgg2 ?_
     simp only [Act.put, Xa, Xz, Xs]
     refine wl_val (.pointer (some ⟨g6, 0, none⟩)) rfl (fun _ => by go_simp) ?_
     simp only [Act.put, Xa, Xz, Xs]
     refine wl_val (.pointer (some ⟨g6, 0, none⟩)) rfl (fun _ => by go_simp) ?_
     simp only [Act.put, Xa, Xz, Xs]
     refine wl_cell 2 (.tmp 36) (.int .i64 ((L[i]!).lo)) (own_row 0 rfl) rfl rfl rfl rfl Try.isAgg2 ?_
     simp only [Act.put, Xa, Xz, Xs]
     refine wl_val (.bool (decide ((L[i]!).v < (L[i]!).lo))) rfl (fun w => run_cmp rfl rfl rfl Try.underlying2 rfl w) ?_
     simp only [Act.put, Xa, Xz, Xs]
     refine wl_val (.bool (decide ((L[i]!).v < (L[i]!).lo))) rfl (fun _ => rfl) ?_
     simp only [Act.put, Xa, Xz, Xs]
     refine wl_val (.bool (decide ((L[i]!).v < (L[i]!).lo))) rfl (fun _ => rfl) ?_
     simp only [Act.put, Xa, Xz, Xs]
     cases h8 : (decide ((L[i]!).v < (L[i]!).lo))
     ·
      skip
      have p8 : ¬ ((L[i]!).v < (L[i]!).lo) := of_decide_eq_false h8
      refine wl_val (.pointer (some ⟨g6, 2, none⟩)) rfl (fun _ => by go_simp) ?_
      simp only [Act.put, Xa, Xz, Xs]
      refine wl_cell 2 (.tmp 41) (.int .i64 ((L[i]!).v)) (own_row 0 rfl) rfl rfl rfl rfl Try.isAgg2 ?_
      simp only [Act.put, Xa, Xz, Xs]
      refine wl_val (.pointer (some ⟨g6, 0, none⟩)) rfl (fun _ => by go_simp) ?_
      simp only [Act.put, Xa, Xz, Xs]
      refine wl_val (.pointer (some ⟨g6, 1, none⟩)) rfl (fun _ => by go_simp) ?_
      simp only [Act.put, Xa, Xz, Xs]
      refine wl_cell 2 (.tmp 44) (.int .i64 ((L[i]!).hi)) (own_row 0 rfl) rfl rfl rfl rfl Try.isAgg2 ?_
      simp only [Act.put, Xa, Xz, Xs]
      refine wl_val (.bool (decide ((L[i]!).hi < (L[i]!).v))) rfl (fun w => run_cmp rfl rfl rfl Try.underlying2 rfl w) ?_
      simp only [Act.put, Xa, Xz, Xs]
      refine wl_val (.bool (decide ((L[i]!).hi < (L[i]!).v))) rfl (fun _ => rfl) ?_
      simp only [Act.put, Xa, Xz, Xs]
      refine wl_nil ?_
      refine we_then ?_
      cases h9 : (decide ((L[i]!).hi < (L[i]!).v))
      ·
       skip
       have p9 : ¬ ((L[i]!).hi < (L[i]!).v) := of_decide_eq_false h9
       refine wc_false rfl ?_
       refine wc_skip ?_
       refine we_then ?_
       refine wc_seq ?_
       refine wc_region ?_
       refine wl_val (.pointer (some ⟨g4, 0, none⟩)) rfl (fun _ => by go_simp) ?_
       simp only [Act.put, Xa, Xz, Xs]
       refine wl_cell 4 (.tmp 48) (.bool an) (own_row 1 rfl) rfl rfl rfl rfl Try.isAgg4 ?_
       simp only [Act.put, Xa, Xz, Xs]
       refine wl_val (.bool an) rfl (fun _ => rfl) ?_
       simp only [Act.put, Xa, Xz, Xs]
       refine wl_nil ?_
       refine we_then ?_
       refine wc_seq ?_
       have hs := small_of h7
       refine wc_region ?_
       refine wl_load 31 (.tmp 5) (own_row 1 rfl) rfl rfl rfl Try.underlying31 rfl (by kernel_rfl) ?_
       simp only [Act.put, Xa, Xz, Xs]
       refine wl_load 23 (.tmp 2) (own_row 2 rfl) rfl rfl rfl Try.underlying23 rfl (by kernel_rfl) ?_
       simp only [Act.put, Xa, Xz, Xs]
       refine wl_val (.pointer (some ⟨g6, 3, none⟩)) rfl (fun _ => by go_simp) ?_
       simp only [Act.put, Xa, Xz, Xs]
       refine wl_cell 4 (.tmp 52) (.bool ((L[i]!).st)) (own_row 0 rfl) rfl rfl rfl rfl Try.isAgg4 ?_
       simp only [Act.put, Xa, Xz, Xs]
       refine wl_val (.pointer (some ⟨g6, 4, none⟩)) rfl (fun _ => by go_simp) ?_
       simp only [Act.put, Xa, Xz, Xs]
       refine wl_cell 4 (.tmp 54) (.bool ((L[i]!).cm)) (own_row 0 rfl) rfl rfl rfl rfl Try.isAgg4 ?_
       simp only [Act.put, Xa, Xz, Xs]
       refine wl_val (.pointer (some ⟨g6, 0, none⟩)) rfl (fun _ => by go_simp) ?_
       simp only [Act.put, Xa, Xz, Xs]
       refine wl_part 29 (.tmp 56) [.int .i64 ((L[i]!).lo), .int .i64 ((L[i]!).hi)] (own_row 0 rfl) rfl rfl rfl rfl Try.underlying29 rfl (by kernel_rfl) ?_
       simp only [Act.put, Xa, Xz, Xs]
       cases h10 : ((L[i]!).cm)
       ·
        skip
        cases h11 : (an)
        ·
         skip
         refine wl_call 9 #[.agg #[.bool false, .bool on, .int .i64 lo, .int .i64 hi], .agg #[.int .i64 k.pu, .int .i64 k.lo, .int .i64 k.hi, .int .i64 k.rb, .int .i64 k.rp, .int .i64 k.ae, .int .i64 k.ms, .int .i64 k.ma, .int .i64 k.an, .int .i64 k.st, .int .i64 k.ss, .int .i64 k.ro, .int .i64 k.ti, .int .i64 k.br], .bool ((L[i]!).st), .bool false, .agg #[.int .i64 ((L[i]!).lo), .int .i64 ((L[i]!).hi)]] (.agg #[.bool ((L[i]!).st), .bool false, .int .i64 0, .int .i64 0]) rfl (fun _ => by go_simp) (fun W => by have h9 := Rll.next_any k ⟨false, on, lo, hi⟩ ((L[i]!).st) false ((L[i]!).lo) ((L[i]!).hi) W hk ⟨by (try dsimp only); omega, by (try dsimp only); omega, by (try dsimp only); omega, by (try dsimp only); omega, by (try dsimp only); omega, by (try dsimp only); omega⟩; exact h9) ?_
         simp only [Act.put, Xa, Xz, Xs]
         refine wl_store 1 31 (.tmp 5) (.tmp 58) (#[.bool ((L[i]!).st), .bool false, .int .i64 0, .int .i64 0]) rfl rfl rfl rfl rfl (by kernel_rfl) rfl (by simp [Value.oneCell']) ?_
         simp only [Act.put, List.set_cons_zero, List.set_cons_succ]
         refine wl_nil ?_
         refine we_then ?_
         refine wc_seq ?_
         refine wc_seq ?_
         refine wc_region ?_
         refine wl_val (.pointer (some ⟨g4, 0, none⟩)) rfl (fun _ => by go_simp) ?_
         simp only [Act.put, Xa, Xz, Xs]
         refine wl_cell 4 (.tmp 59) (.bool ((L[i]!).st)) (own_row 1 rfl) rfl rfl rfl rfl Try.isAgg4 ?_
         simp only [Act.put, Xa, Xz, Xs]
         refine wl_val (.bool (!((L[i]!).st))) rfl (fun _ => by go_simp) ?_
         simp only [Act.put, Xa, Xz, Xs]
         refine wl_val (.bool (!((L[i]!).st))) rfl (fun _ => rfl) ?_
         simp only [Act.put, Xa, Xz, Xs]
         cases h12 : ((L[i]!).st)
         ·
          skip
          refine wl_skip rfl ?_
          simp only [Act.put, Xa, Xz, Xs]
          refine wl_skip rfl ?_
          simp only [Act.put, Xa, Xz, Xs]
          refine wl_val (.bool true) rfl (fun _ => rfl) ?_
          simp only [Act.put, Xa, Xz, Xs]
          refine wl_nil ?_
          refine we_then ?_
          refine wc_true rfl ?_
          refine wc_seq ?_
          refine wc_region ?_
          refine wl_val (.int .i64 0) rfl (fun _ => rfl) ?_
          simp only [Act.put, Xa, Xz, Xs]
          refine wl_val (.bool false) rfl (fun _ => rfl) ?_
          simp only [Act.put, Xa, Xz, Xs]
          refine wl_nil ?_
          refine we_then ?_
          refine wc_exit ?_
          refine we_then_exit ?_
          refine we_in_here ?_
          refine we_then ?_
          refine wc_region ?_
          refine wl_val (.int .i64 ((i + 1 : Nat) : Int)) rfl (fun w => run_nat (X := i) (Y := 1) (Z := i + 1) rfl rfl rfl rfl (by omega) w) ?_
          simp only [Act.put, Xa, Xz, Xs]
          refine wl_val (.int .i64 ((i + 1 : Nat) : Int)) rfl (fun _ => rfl) ?_
          simp only [Act.put, Xa, Xz, Xs]
          refine wl_nil ?_
          exact we_meet ⟨(i + 1), false, false, 0, 0, 0, false, _, _, _, _, _, _, _, _, _, _, _, _, _, _, _, _, _, _, _, _, _, _, _, _, _, _, _, _, _, _, _, _, _, _, _, _, _, _, _, _, _, _, _, _, _, _, _, _, _, _, _, _, _, _, _, _, _, _, _, _, _, _, _, _, _, _, _, _, _, _, _, _, _, _, _, _, _, _, _, _, _, _, _, _, _, _, _, _, _, _, _, _, _, _, _, _, _⟩ ⟨⟨by (try dsimp only); omega, by (try dsimp only); omega, by (try dsimp only); omega, by (try dsimp only); omega, by (try dsimp only); omega, by (try dsimp only); omega, fun z => ⟨by (try dsimp only); omega, by (try dsimp only); omega, by (try dsimp only); first | (intro z2; first | rfl | assumption | (exact absurd z2 (by decide)) | simp_all | omega)⟩⟩, by (try dsimp only); omega⟩ rfl (List.Sublist.cons _ (List.Sublist.cons_cons _ (List.Sublist.cons_cons _ List.Sublist.slnil)))
         ·
          skip
          refine wl_val (.bool false) rfl (fun _ => rfl) ?_
          simp only [Act.put, Xa, Xz, Xs]
          refine wl_val (.bool true) rfl (fun _ => by go_simp) ?_
          simp only [Act.put, Xa, Xz, Xs]
          refine wl_val (.bool true) rfl (fun _ => rfl) ?_
          simp only [Act.put, Xa, Xz, Xs]
          refine wl_nil ?_
          refine we_then ?_
          refine wc_true rfl ?_
          refine wc_seq ?_
          refine wc_region ?_
          refine wl_val (.int .i64 0) rfl (fun _ => rfl) ?_
          simp only [Act.put, Xa, Xz, Xs]
          refine wl_val (.bool false) rfl (fun _ => rfl) ?_
          simp only [Act.put, Xa, Xz, Xs]
          refine wl_nil ?_
          refine we_then ?_
          refine wc_exit ?_
          refine we_then_exit ?_
          refine we_in_here ?_
          refine we_then ?_
          refine wc_region ?_
          refine wl_val (.int .i64 ((i + 1 : Nat) : Int)) rfl (fun w => run_nat (X := i) (Y := 1) (Z := i + 1) rfl rfl rfl rfl (by omega) w) ?_
          simp only [Act.put, Xa, Xz, Xs]
          refine wl_val (.int .i64 ((i + 1 : Nat) : Int)) rfl (fun _ => rfl) ?_
          simp only [Act.put, Xa, Xz, Xs]
          refine wl_nil ?_
          exact we_meet ⟨(i + 1), true, false, 0, 0, 0, false, _, _, _, _, _, _, _, _, _, _, _, _, _, _, _, _, _, _, _, _, _, _, _, _, _, _, _, _, _, _, _, _, _, _, _, _, _, _, _, _, _, _, _, _, _, _, _, _, _, _, _, _, _, _, _, _, _, _, _, _, _, _, _, _, _, _, _, _, _, _, _, _, _, _, _, _, _, _, _, _, _, _, _, _, _, _, _, _, _, _, _, _, _, _, _, _, _⟩ ⟨⟨by (try dsimp only); omega, by (try dsimp only); omega, by (try dsimp only); omega, by (try dsimp only); omega, by (try dsimp only); omega, by (try dsimp only); omega, fun z => ⟨by (try dsimp only); omega, by (try dsimp only); omega, by (try dsimp only); first | (intro z2; first | rfl | assumption | (exact absurd z2 (by decide)) | simp_all | omega)⟩⟩, by (try dsimp only); omega⟩ rfl (List.Sublist.cons _ (List.Sublist.cons_cons _ (List.Sublist.cons_cons _ List.Sublist.slnil)))
        ·
         skip
         cases h13 : (on)
         ·
          skip
          cases h14 : (decide (k.ro < lo + ((L[i]!).lo)))
          ·
           skip
           have p14 : ¬ (k.ro < lo + ((L[i]!).lo)) := of_decide_eq_false h14
           cases h15 : (decide (hi + ((L[i]!).hi) < -k.ro))
           ·
            skip
            have p15 : ¬ (hi + ((L[i]!).hi) < -k.ro) := of_decide_eq_false h15
            refine wl_call 9 #[.agg #[.bool true, .bool false, .int .i64 lo, .int .i64 hi], .agg #[.int .i64 k.pu, .int .i64 k.lo, .int .i64 k.hi, .int .i64 k.rb, .int .i64 k.rp, .int .i64 k.ae, .int .i64 k.ms, .int .i64 k.ma, .int .i64 k.an, .int .i64 k.st, .int .i64 k.ss, .int .i64 k.ro, .int .i64 k.ti, .int .i64 k.br], .bool ((L[i]!).st), .bool false, .agg #[.int .i64 ((L[i]!).lo), .int .i64 ((L[i]!).hi)]] (.agg #[.bool true, .bool false, .int .i64 (lo + ((L[i]!).lo)), .int .i64 (hi + ((L[i]!).hi))]) rfl (fun _ => by go_simp) (fun W => by have h9 := Rll.next_any k ⟨true, false, lo, hi⟩ ((L[i]!).st) false ((L[i]!).lo) ((L[i]!).hi) W hk ⟨by (try dsimp only); omega, by (try dsimp only); omega, by (try dsimp only); omega, by (try dsimp only); omega, by (try dsimp only); omega, by (try dsimp only); omega⟩; rwa [show (nx k ⟨true, false, lo, hi⟩ ((L[i]!).st) false ((L[i]!).lo) ((L[i]!).hi)).on = false from (by show (false || (decide (k.ro < lo + ((L[i]!).lo)) || decide (hi + ((L[i]!).hi) < -k.ro))) = false; rw [h14, h15]; try rfl)] at h9) ?_
            simp only [Act.put, Xa, Xz, Xs]
            refine wl_store 1 31 (.tmp 5) (.tmp 58) (#[.bool true, .bool false, .int .i64 (lo + ((L[i]!).lo)), .int .i64 (hi + ((L[i]!).hi))]) rfl rfl rfl rfl rfl (by kernel_rfl) rfl (by simp [Value.oneCell']) ?_
            simp only [Act.put, List.set_cons_zero, List.set_cons_succ]
            refine wl_nil ?_
            refine we_then ?_
            refine wc_seq ?_
            refine wc_seq ?_
            refine wc_region ?_
            refine wl_val (.pointer (some ⟨g4, 0, none⟩)) rfl (fun _ => by go_simp) ?_
            simp only [Act.put, Xa, Xz, Xs]
            refine wl_cell 4 (.tmp 59) (.bool true) (own_row 1 rfl) rfl rfl rfl rfl Try.isAgg4 ?_
            simp only [Act.put, Xa, Xz, Xs]
            refine wl_val (.bool false) rfl (fun _ => by go_simp) ?_
            simp only [Act.put, Xa, Xz, Xs]
            refine wl_val (.bool false) rfl (fun _ => rfl) ?_
            simp only [Act.put, Xa, Xz, Xs]
            refine wl_val (.bool true) rfl (fun _ => rfl) ?_
            simp only [Act.put, Xa, Xz, Xs]
            refine wl_val (.bool false) rfl (fun _ => by go_simp) ?_
            simp only [Act.put, Xa, Xz, Xs]
            refine wl_val (.bool false) rfl (fun _ => rfl) ?_
            simp only [Act.put, Xa, Xz, Xs]
            refine wl_nil ?_
            refine we_then ?_
            refine wc_false rfl ?_
            refine wc_skip ?_
            refine we_then ?_
            refine wc_seq ?_
            refine wc_region ?_
            refine wl_val (.int .i64 m) rfl (fun _ => rfl) ?_
            simp only [Act.put, Xa, Xz, Xs]
            refine wl_val (.pointer (some ⟨g6, 2, none⟩)) rfl (fun _ => by go_simp) ?_
            simp only [Act.put, Xa, Xz, Xs]
            refine wl_cell 2 (.tmp 67) (.int .i64 ((L[i]!).v)) (own_row 0 rfl) rfl rfl rfl rfl Try.isAgg2 ?_
            simp only [Act.put, Xa, Xz, Xs]
            refine wl_val (.int .i64 (m + ((L[i]!).v))) rfl (fun w => run_arith (op := .add) rfl rfl rfl Try.underlying2 (congrArg some (i64_in (by omega) (by omega))) w) ?_
            simp only [Act.put, Xa, Xz, Xs]
            refine wl_val (.int .i64 (m + ((L[i]!).v))) rfl (fun _ => rfl) ?_
            simp only [Act.put, Xa, Xz, Xs]
            refine wl_nil ?_
            refine we_then ?_
            refine wc_seq ?_
            refine wc_region ?_
            refine wl_val (.int .i64 (m + ((L[i]!).v))) rfl (fun _ => rfl) ?_
            simp only [Act.put, Xa, Xz, Xs]
            refine wl_val (.int .i64 (m + ((L[i]!).v))) rfl (fun _ => rfl) ?_
            simp only [Act.put, Xa, Xz, Xs]
            refine wl_val (.int .i64 (-(m + ((L[i]!).v)))) rfl (fun w => run_neg rfl rfl Try.underlying2 (i64_in (by omega) (by omega)) w) ?_
            simp only [Act.put, Xa, Xz, Xs]
            refine wl_val (.int .i64 (max (m + ((L[i]!).v)) (-(m + ((L[i]!).v))))) rfl (fun w => by first | exact run_max2 rfl rfl rfl rfl w | go_simp) ?_
            simp only [Act.put, Xa, Xz, Xs]
            refine wl_val (.int .i64 (max (m + ((L[i]!).v)) (-(m + ((L[i]!).v))))) rfl (fun _ => rfl) ?_
            simp only [Act.put, Xa, Xz, Xs]
            refine wl_nil ?_
            refine we_then ?_
            refine wc_seq ?_
            refine wc_region ?_
            refine wl_val (.bool f) rfl (fun _ => rfl) ?_
            simp only [Act.put, Xa, Xz, Xs]
            refine wl_val (.bool f) rfl (fun _ => rfl) ?_
            simp only [Act.put, Xa, Xz, Xs]
            cases h16 : (f)
            ·
             skip
             refine wl_val (.int .i64 (max (m + ((L[i]!).v)) (-(m + ((L[i]!).v))))) rfl (fun _ => rfl) ?_
             simp only [Act.put, Xa, Xz, Xs]
             refine wl_val (.pointer (some ⟨g1, 11, none⟩)) rfl (fun _ => by go_simp) ?_
             simp only [Act.put, Xa, Xz, Xs]
             refine wl_cell 2 (.tmp 77) (.int .i64 k.ro) (own_row 2 rfl) rfl rfl rfl rfl Try.isAgg2 ?_
             simp only [Act.put, Xa, Xz, Xs]
             refine wl_val (.bool (decide (k.ro < max (m + ((L[i]!).v)) (-(m + ((L[i]!).v)))))) rfl (fun w => run_cmp rfl rfl rfl Try.underlying2 rfl w) ?_
             simp only [Act.put, Xa, Xz, Xs]
             refine wl_val (.bool (decide (k.ro < max (m + ((L[i]!).v)) (-(m + ((L[i]!).v)))))) rfl (fun _ => rfl) ?_
             simp only [Act.put, Xa, Xz, Xs]
             refine wl_val (.bool (decide (k.ro < max (m + ((L[i]!).v)) (-(m + ((L[i]!).v)))))) rfl (fun _ => rfl) ?_
             simp only [Act.put, Xa, Xz, Xs]
             refine wl_nil ?_
             refine we_then ?_
             refine wc_seq ?_
             have b9 := b7 h11
             have b8 : lo + ((L[i]!).lo) ≤ m + ((L[i]!).v) ∧ m + ((L[i]!).v) ≤ hi + ((L[i]!).hi) := ⟨by omega, by omega⟩
             refine wc_draw [.late, .plain, .late, .plain, .late, .late, .late, .plain, .late, .late, .late, .late, .late, .late, .late, .plain, .late, .late, .late, .late, .plain, .late, .late, .late, .late, .late, .late, .plain, .late, .late, .late, .plain, .plain, .late, .late, .late] none [] 118 (by kernel_rfl) rfl (by kernel_rfl) (by kernel_rfl) ?_
             refine ws_late (.pointer (some ⟨g4, 2, none⟩)) rfl rfl (fun _ => by go_simp) ?_
             simp only [Nat.reduceAdd, Act.put, Xa, Xz, Xs]
             refine ws_part 29 (.tmp 81) [.int .i64 (lo + ((L[i]!).lo)), .int .i64 (hi + ((L[i]!).hi))] (own_row 1 rfl) rfl rfl rfl rfl rfl Try.underlying29 rfl (by kernel_rfl) ?_
             simp only [Nat.reduceAdd, Act.put, Xa, Xz, Xs]
             refine ws_late (.int .i64 (m + ((L[i]!).v))) rfl rfl (fun _ => rfl) ?_
             simp only [Nat.reduceAdd, Act.put, Xa, Xz, Xs]
             refine ws_call 10 #[.agg #[.int .i64 (lo + ((L[i]!).lo)), .int .i64 (hi + ((L[i]!).hi))], .int .i64 (m + ((L[i]!).v))] (.bool true) rfl rfl (fun _ => by go_simp) (fun W => by have h9 := has_b (lo + ((L[i]!).lo)) (hi + ((L[i]!).hi)) (m + ((L[i]!).v)) W; rwa [decide_eq_true b8.1, decide_eq_true b8.2] at h9) ?_
             simp only [Nat.reduceAdd, Act.put, Xa, Xz, Xs]
             refine ws_late (.bool false) rfl rfl (fun _ => by go_simp) ?_
             simp only [Nat.reduceAdd, Act.put, Xa, Xz, Xs]
             refine ws_late (.bool false) rfl rfl (fun _ => rfl) ?_
             simp only [Nat.reduceAdd, Act.put, Xa, Xz, Xs]
             refine ws_late (.pointer (some ⟨g4, 1, none⟩)) rfl rfl (fun _ => by go_simp) ?_
             simp only [Nat.reduceAdd, Act.put, Xa, Xz, Xs]
             refine ws_cell 4 (.tmp 87) (.bool false) (own_row 1 rfl) rfl rfl rfl rfl rfl Try.isAgg4 ?_
             simp only [Nat.reduceAdd, Act.put, Xa, Xz, Xs]
             refine ws_late (.bool false) rfl rfl (fun _ => rfl) ?_
             simp only [Nat.reduceAdd, Act.put, Xa, Xz, Xs]
             refine ws_skip_late rfl rfl ?_
             simp only [Nat.reduceAdd, Act.put, Xa, Xz, Xs]
             refine ws_skip_late rfl rfl ?_
             simp only [Nat.reduceAdd, Act.put, Xa, Xz, Xs]
             refine ws_late (.bool false) rfl rfl (fun _ => rfl) ?_
             simp only [Nat.reduceAdd, Act.put, Xa, Xz, Xs]
             refine ws_late (.bool false) rfl rfl (fun _ => rfl) ?_
             simp only [Nat.reduceAdd, Act.put, Xa, Xz, Xs]
             refine ws_late (.bool false) rfl rfl (fun _ => rfl) ?_
             simp only [Nat.reduceAdd, Act.put, Xa, Xz, Xs]
             refine ws_late (.pointer (some ⟨g4, 1, none⟩)) rfl rfl (fun _ => by go_simp) ?_
             simp only [Nat.reduceAdd, Act.put, Xa, Xz, Xs]
             refine ws_cell 4 (.tmp 95) (.bool false) (own_row 1 rfl) rfl rfl rfl rfl rfl Try.isAgg4 ?_
             simp only [Nat.reduceAdd, Act.put, Xa, Xz, Xs]
             refine ws_late (.bool true) rfl rfl (fun _ => by go_simp) ?_
             simp only [Nat.reduceAdd, Act.put, Xa, Xz, Xs]
             refine ws_late (.bool true) rfl rfl (fun _ => rfl) ?_
             simp only [Nat.reduceAdd, Act.put, Xa, Xz, Xs]
             refine ws_late (.int .i64 (max (m + ((L[i]!).v)) (-(m + ((L[i]!).v))))) rfl rfl (fun _ => rfl) ?_
             simp only [Nat.reduceAdd, Act.put, Xa, Xz, Xs]
             refine ws_late (.pointer (some ⟨g1, 11, none⟩)) rfl rfl (fun _ => by go_simp) ?_
             simp only [Nat.reduceAdd, Act.put, Xa, Xz, Xs]
             refine ws_cell 2 (.tmp 100) (.int .i64 k.ro) (own_row 2 rfl) rfl rfl rfl rfl rfl Try.isAgg2 ?_
             simp only [Nat.reduceAdd, Act.put, Xa, Xz, Xs]
             refine ws_late (.bool (decide (k.ro < max (m + ((L[i]!).v)) (-(m + ((L[i]!).v)))))) rfl rfl (fun w => run_cmp rfl rfl rfl Try.underlying2 rfl w) ?_
             simp only [Nat.reduceAdd, Act.put, Xa, Xz, Xs]
             refine ws_late (.bool (decide (k.ro < max (m + ((L[i]!).v)) (-(m + ((L[i]!).v)))))) rfl rfl (fun _ => rfl) ?_
             simp only [Nat.reduceAdd, Act.put, Xa, Xz, Xs]
             refine ws_late (.bool (decide (k.ro < max (m + ((L[i]!).v)) (-(m + ((L[i]!).v)))))) rfl rfl (fun _ => rfl) ?_
             simp only [Nat.reduceAdd, Act.put, Xa, Xz, Xs]
             cases h17 : (decide (k.ro < max (m + ((L[i]!).v)) (-(m + ((L[i]!).v)))))
             ·
              skip
              have p17 : ¬ (k.ro < max (m + ((L[i]!).v)) (-(m + ((L[i]!).v)))) := of_decide_eq_false h17
              refine ws_skip_late rfl rfl ?_
              simp only [Nat.reduceAdd, Act.put, Xa, Xz, Xs]
              refine ws_skip_late rfl rfl ?_
              simp only [Nat.reduceAdd, Act.put, Xa, Xz, Xs]
              refine ws_skip_late rfl rfl ?_
              simp only [Nat.reduceAdd, Act.put, Xa, Xz, Xs]
              refine ws_skip rfl rfl ?_
              simp only [Nat.reduceAdd, Act.put, Xa, Xz, Xs]
              refine ws_skip_late rfl rfl ?_
              simp only [Nat.reduceAdd, Act.put, Xa, Xz, Xs]
              refine ws_skip_late rfl rfl ?_
              simp only [Nat.reduceAdd, Act.put, Xa, Xz, Xs]
              refine ws_skip_late rfl rfl ?_
              simp only [Nat.reduceAdd, Act.put, Xa, Xz, Xs]
              refine ws_skip rfl rfl ?_
              simp only [Nat.reduceAdd, Act.put, Xa, Xz, Xs]
              refine ws_skip rfl rfl ?_
              simp only [Nat.reduceAdd, Act.put, Xa, Xz, Xs]
              refine ws_skip_late rfl rfl ?_
              simp only [Nat.reduceAdd, Act.put, Xa, Xz, Xs]
              refine ws_late (.bool false) rfl rfl (fun _ => rfl) ?_
              simp only [Nat.reduceAdd, Act.put, Xa, Xz, Xs]
              refine ws_late (.bool false) rfl rfl (fun _ => rfl) ?_
              simp only [Nat.reduceAdd, Act.put, Xa, Xz, Xs]
              refine ws_nil [] trivial (by simp) ?_
              intro ps18
              simp only [fin, List.foldl_nil, List.map, List.nil_append]
              refine we_then ?_
              refine wc_false rfl ?_
              refine wc_skip ?_
              refine we_in ?_
              refine we_then ?_
              refine wc_region ?_
              refine wl_val (.int .i64 ((i + 1 : Nat) : Int)) rfl (fun w => run_nat (X := i) (Y := 1) (Z := i + 1) rfl rfl rfl rfl (by omega) w) ?_
              simp only [Act.put, Xa, Xz, Xs]
              refine wl_val (.int .i64 ((i + 1 : Nat) : Int)) rfl (fun _ => rfl) ?_
              simp only [Act.put, Xa, Xz, Xs]
              refine wl_nil ?_
              exact we_meet ⟨(i + 1), true, false, (lo + ((L[i]!).lo)), (hi + ((L[i]!).hi)), (m + ((L[i]!).v)), false, _, _, _, _, _, _, _, _, _, _, _, _, _, _, _, _, _, _, _, _, _, _, _, _, _, _, _, _, _, _, _, _, _, _, _, _, _, _, _, _, _, _, _, _, _, _, _, _, _, _, _, _, _, _, _, _, _, _, _, _, _, _, _, _, _, _, _, _, _, _, _, _, _, _, _, _, _, _, _, _, _, _, _, _, _, _, _, _, _, _, _, _, _, _, _, _, _⟩ ⟨⟨by (try dsimp only); omega, by (try dsimp only); omega, by (try dsimp only); omega, by (try dsimp only); omega, by (try dsimp only); omega, by (try dsimp only); omega, fun z => ⟨by (try dsimp only); omega, by (try dsimp only); omega, by (try dsimp only); first | (intro z2; first | rfl | assumption | (exact absurd z2 (by decide)) | simp_all | omega)⟩⟩, by (try dsimp only); omega⟩ rfl (List.Sublist.cons _ (List.Sublist.cons_cons _ (List.Sublist.cons_cons _ List.Sublist.slnil)))
             ·
              skip
              have p17 : k.ro < max (m + ((L[i]!).v)) (-(m + ((L[i]!).v))) := of_decide_eq_true h17
              refine ws_late (.int .i64 (max (m + ((L[i]!).v)) (-(m + ((L[i]!).v))))) rfl rfl (fun _ => rfl) ?_
              simp only [Nat.reduceAdd, Act.put, Xa, Xz, Xs]
              refine ws_late (.int .u64 (max (m + ((L[i]!).v)) (-(m + ((L[i]!).v))))) rfl rfl (fun w => Sw.run_conv rfl rfl Try.underlying2 Try.underlying38 (u64_in (by omega) (by omega)) w) ?_
              simp only [Nat.reduceAdd, Act.put, Xa, Xz, Xs]
              refine ws_late (.pointer (some ⟨g1, 11, none⟩)) rfl rfl (fun _ => by go_simp) ?_
              simp only [Nat.reduceAdd, Act.put, Xa, Xz, Xs]
              refine ws_cell 2 (.tmp 107) (.int .i64 k.ro) (own_row 2 rfl) rfl rfl rfl rfl rfl Try.isAgg2 ?_
              simp only [Nat.reduceAdd, Act.put, Xa, Xz, Xs]
              refine ws_late (.int .u64 k.ro) rfl rfl (fun w => Sw.run_conv rfl rfl Try.underlying2 Try.underlying38 (u64_in (by omega) (by omega)) w) ?_
              simp only [Nat.reduceAdd, Act.put, Xa, Xz, Xs]
              refine ws_late (.int .u64 ((max (m + ((L[i]!).v)) (-(m + ((L[i]!).v)))) - k.ro)) rfl rfl (fun w => run_arith (op := .sub) rfl rfl rfl Try.underlying38 (congrArg some (u64_in (by omega) (by omega))) w) ?_
              simp only [Nat.reduceAdd, Act.put, Xa, Xz, Xs]
              refine ws_late (.pointer (some ⟨g4, 2, none⟩)) rfl rfl (fun _ => by go_simp) ?_
              simp only [Nat.reduceAdd, Act.put, Xa, Xz, Xs]
              refine ws_part 29 (.tmp 111) [.int .i64 (lo + ((L[i]!).lo)), .int .i64 (hi + ((L[i]!).hi))] (own_row 1 rfl) rfl rfl rfl rfl rfl Try.underlying29 rfl (by kernel_rfl) ?_
              simp only [Nat.reduceAdd, Act.put, Xa, Xz, Xs]
              refine ws_call 11 #[.agg #[.int .i64 (lo + ((L[i]!).lo)), .int .i64 (hi + ((L[i]!).hi))]] (.int .u64 ((hi + ((L[i]!).hi)) - (lo + ((L[i]!).lo)))) rfl rfl (fun _ => by go_simp) (fun W => Spo.width_any (lo + ((L[i]!).lo)) (hi + ((L[i]!).hi)) W ⟨by omega, by omega⟩ ⟨by omega, by omega⟩ (by omega)) ?_
              simp only [Nat.reduceAdd, Act.put, Xa, Xz, Xs]
              refine ws_late (.bool (decide ((hi + ((L[i]!).hi)) - (lo + ((L[i]!).lo)) < (max (m + ((L[i]!).v)) (-(m + ((L[i]!).v)))) - k.ro))) rfl rfl (fun w => run_cmp rfl rfl rfl Try.underlying38 rfl w) ?_
              simp only [Nat.reduceAdd, Act.put, Xa, Xz, Xs]
              refine ws_late (.bool (decide ((hi + ((L[i]!).hi)) - (lo + ((L[i]!).lo)) < (max (m + ((L[i]!).v)) (-(m + ((L[i]!).v)))) - k.ro))) rfl rfl (fun _ => rfl) ?_
              simp only [Nat.reduceAdd, Act.put, Xa, Xz, Xs]
              refine ws_late (.bool (decide ((hi + ((L[i]!).hi)) - (lo + ((L[i]!).lo)) < (max (m + ((L[i]!).v)) (-(m + ((L[i]!).v)))) - k.ro))) rfl rfl (fun _ => rfl) ?_
              simp only [Nat.reduceAdd, Act.put, Xa, Xz, Xs]
              refine ws_nil [] trivial (by simp) ?_
              intro ps19
              simp only [fin, List.foldl_nil, List.map, List.nil_append]
              refine we_then ?_
              cases h20 : (decide ((hi + ((L[i]!).hi)) - (lo + ((L[i]!).lo)) < (max (m + ((L[i]!).v)) (-(m + ((L[i]!).v)))) - k.ro))
              ·
               skip
               have p20 : ¬ ((hi + ((L[i]!).hi)) - (lo + ((L[i]!).lo)) < (max (m + ((L[i]!).v)) (-(m + ((L[i]!).v)))) - k.ro) := of_decide_eq_false h20
               refine wc_false rfl ?_
               refine wc_skip ?_
               refine we_in ?_
               refine we_then ?_
               refine wc_region ?_
               refine wl_val (.int .i64 ((i + 1 : Nat) : Int)) rfl (fun w => run_nat (X := i) (Y := 1) (Z := i + 1) rfl rfl rfl rfl (by omega) w) ?_
               simp only [Act.put, Xa, Xz, Xs]
               refine wl_val (.int .i64 ((i + 1 : Nat) : Int)) rfl (fun _ => rfl) ?_
               simp only [Act.put, Xa, Xz, Xs]
               refine wl_nil ?_
               exact we_meet ⟨(i + 1), true, false, (lo + ((L[i]!).lo)), (hi + ((L[i]!).hi)), (m + ((L[i]!).v)), true, _, _, _, _, _, _, _, _, _, _, _, _, _, _, _, _, _, _, _, _, _, _, _, _, _, _, _, _, _, _, _, _, _, _, _, _, _, _, _, _, _, _, _, _, _, _, _, _, _, _, _, _, _, _, _, _, _, _, _, _, _, _, _, _, _, _, _, _, _, _, _, _, _, _, _, _, _, _, _, _, _, _, _, _, _, _, _, _, _, _, _, _, _, _, _, _, _⟩ ⟨⟨by (try dsimp only); omega, by (try dsimp only); omega, by (try dsimp only); omega, by (try dsimp only); omega, by (try dsimp only); omega, by (try dsimp only); omega, fun z => ⟨by (try dsimp only); omega, by (try dsimp only); omega, by (try dsimp only); first | (intro z2; first | rfl | assumption | (exact absurd z2 (by decide)) | simp_all | omega)⟩⟩, by (try dsimp only); omega⟩ rfl (List.Sublist.cons _ (List.Sublist.cons_cons _ (List.Sublist.cons_cons _ List.Sublist.slnil)))
              ·
               skip
               have p20 : (hi + ((L[i]!).hi)) - (lo + ((L[i]!).lo)) < (max (m + ((L[i]!).v)) (-(m + ((L[i]!).v)))) - k.ro := of_decide_eq_true h20
               refine wc_true rfl ?_
               refine wc_seq ?_
               refine wc_region ?_
               refine wl_val (.bool false) rfl (fun _ => rfl) ?_
               simp only [Act.put, Xa, Xz, Xs]
               refine wl_nil ?_
               refine we_then ?_
               refine wc_ret ?_
               refine we_in_ret ?_
               refine we_then_ret ?_
               refine we_then_ret ?_
               refine we_in_ret ?_
               refine we_then_ret ?_
               refine we_ret1 (.bool false) rfl rfl rfl (fun w1 hE => ?_)
               exact (by exfalso; first | omega | simp_all)
            ·
             skip
             refine wl_skip rfl ?_
             simp only [Act.put, Xa, Xz, Xs]
             refine wl_skip rfl ?_
             simp only [Act.put, Xa, Xz, Xs]
             refine wl_skip rfl ?_
             simp only [Act.put, Xa, Xz, Xs]
             refine wl_skip rfl ?_
             simp only [Act.put, Xa, Xz, Xs]
             refine wl_val (.bool true) rfl (fun _ => rfl) ?_
             simp only [Act.put, Xa, Xz, Xs]
             refine wl_val (.bool true) rfl (fun _ => rfl) ?_
             simp only [Act.put, Xa, Xz, Xs]
             refine wl_nil ?_
             refine we_then ?_
             refine wc_seq ?_
             have b9 := b7 h11
             have b8 : lo + ((L[i]!).lo) ≤ m + ((L[i]!).v) ∧ m + ((L[i]!).v) ≤ hi + ((L[i]!).hi) := ⟨by omega, by omega⟩
             refine wc_draw [.late, .plain, .late, .plain, .late, .late, .late, .plain, .late, .late, .late, .late, .late, .late, .late, .plain, .late, .late, .late, .late, .plain, .late, .late, .late, .late, .late, .late, .plain, .late, .late, .late, .plain, .plain, .late, .late, .late] none [] 118 (by kernel_rfl) rfl (by kernel_rfl) (by kernel_rfl) ?_
             refine ws_late (.pointer (some ⟨g4, 2, none⟩)) rfl rfl (fun _ => by go_simp) ?_
             simp only [Nat.reduceAdd, Act.put, Xa, Xz, Xs]
             refine ws_part 29 (.tmp 81) [.int .i64 (lo + ((L[i]!).lo)), .int .i64 (hi + ((L[i]!).hi))] (own_row 1 rfl) rfl rfl rfl rfl rfl Try.underlying29 rfl (by kernel_rfl) ?_
             simp only [Nat.reduceAdd, Act.put, Xa, Xz, Xs]
             refine ws_late (.int .i64 (m + ((L[i]!).v))) rfl rfl (fun _ => rfl) ?_
             simp only [Nat.reduceAdd, Act.put, Xa, Xz, Xs]
             refine ws_call 10 #[.agg #[.int .i64 (lo + ((L[i]!).lo)), .int .i64 (hi + ((L[i]!).hi))], .int .i64 (m + ((L[i]!).v))] (.bool true) rfl rfl (fun _ => by go_simp) (fun W => by have h9 := has_b (lo + ((L[i]!).lo)) (hi + ((L[i]!).hi)) (m + ((L[i]!).v)) W; rwa [decide_eq_true b8.1, decide_eq_true b8.2] at h9) ?_
             simp only [Nat.reduceAdd, Act.put, Xa, Xz, Xs]
             refine ws_late (.bool false) rfl rfl (fun _ => by go_simp) ?_
             simp only [Nat.reduceAdd, Act.put, Xa, Xz, Xs]
             refine ws_late (.bool false) rfl rfl (fun _ => rfl) ?_
             simp only [Nat.reduceAdd, Act.put, Xa, Xz, Xs]
             refine ws_late (.pointer (some ⟨g4, 1, none⟩)) rfl rfl (fun _ => by go_simp) ?_
             simp only [Nat.reduceAdd, Act.put, Xa, Xz, Xs]
             refine ws_cell 4 (.tmp 87) (.bool false) (own_row 1 rfl) rfl rfl rfl rfl rfl Try.isAgg4 ?_
             simp only [Nat.reduceAdd, Act.put, Xa, Xz, Xs]
             refine ws_late (.bool false) rfl rfl (fun _ => rfl) ?_
             simp only [Nat.reduceAdd, Act.put, Xa, Xz, Xs]
             refine ws_skip_late rfl rfl ?_
             simp only [Nat.reduceAdd, Act.put, Xa, Xz, Xs]
             refine ws_skip_late rfl rfl ?_
             simp only [Nat.reduceAdd, Act.put, Xa, Xz, Xs]
             refine ws_late (.bool false) rfl rfl (fun _ => rfl) ?_
             simp only [Nat.reduceAdd, Act.put, Xa, Xz, Xs]
             refine ws_late (.bool false) rfl rfl (fun _ => rfl) ?_
             simp only [Nat.reduceAdd, Act.put, Xa, Xz, Xs]
             refine ws_late (.bool false) rfl rfl (fun _ => rfl) ?_
             simp only [Nat.reduceAdd, Act.put, Xa, Xz, Xs]
             refine ws_late (.pointer (some ⟨g4, 1, none⟩)) rfl rfl (fun _ => by go_simp) ?_
             simp only [Nat.reduceAdd, Act.put, Xa, Xz, Xs]
             refine ws_cell 4 (.tmp 95) (.bool false) (own_row 1 rfl) rfl rfl rfl rfl rfl Try.isAgg4 ?_
             simp only [Nat.reduceAdd, Act.put, Xa, Xz, Xs]
             refine ws_late (.bool true) rfl rfl (fun _ => by go_simp) ?_
             simp only [Nat.reduceAdd, Act.put, Xa, Xz, Xs]
             refine ws_late (.bool true) rfl rfl (fun _ => rfl) ?_
             simp only [Nat.reduceAdd, Act.put, Xa, Xz, Xs]
             refine ws_late (.int .i64 (max (m + ((L[i]!).v)) (-(m + ((L[i]!).v))))) rfl rfl (fun _ => rfl) ?_
             simp only [Nat.reduceAdd, Act.put, Xa, Xz, Xs]
             refine ws_late (.pointer (some ⟨g1, 11, none⟩)) rfl rfl (fun _ => by go_simp) ?_
             simp only [Nat.reduceAdd, Act.put, Xa, Xz, Xs]
             refine ws_cell 2 (.tmp 100) (.int .i64 k.ro) (own_row 2 rfl) rfl rfl rfl rfl rfl Try.isAgg2 ?_
             simp only [Nat.reduceAdd, Act.put, Xa, Xz, Xs]
             refine ws_late (.bool (decide (k.ro < max (m + ((L[i]!).v)) (-(m + ((L[i]!).v)))))) rfl rfl (fun w => run_cmp rfl rfl rfl Try.underlying2 rfl w) ?_
             simp only [Nat.reduceAdd, Act.put, Xa, Xz, Xs]
             refine ws_late (.bool (decide (k.ro < max (m + ((L[i]!).v)) (-(m + ((L[i]!).v)))))) rfl rfl (fun _ => rfl) ?_
             simp only [Nat.reduceAdd, Act.put, Xa, Xz, Xs]
             refine ws_late (.bool (decide (k.ro < max (m + ((L[i]!).v)) (-(m + ((L[i]!).v)))))) rfl rfl (fun _ => rfl) ?_
             simp only [Nat.reduceAdd, Act.put, Xa, Xz, Xs]
             cases h21 : (decide (k.ro < max (m + ((L[i]!).v)) (-(m + ((L[i]!).v)))))
             ·
              skip
              have p21 : ¬ (k.ro < max (m + ((L[i]!).v)) (-(m + ((L[i]!).v)))) := of_decide_eq_false h21
              refine ws_skip_late rfl rfl ?_
              simp only [Nat.reduceAdd, Act.put, Xa, Xz, Xs]
              refine ws_skip_late rfl rfl ?_
              simp only [Nat.reduceAdd, Act.put, Xa, Xz, Xs]
              refine ws_skip_late rfl rfl ?_
              simp only [Nat.reduceAdd, Act.put, Xa, Xz, Xs]
              refine ws_skip rfl rfl ?_
              simp only [Nat.reduceAdd, Act.put, Xa, Xz, Xs]
              refine ws_skip_late rfl rfl ?_
              simp only [Nat.reduceAdd, Act.put, Xa, Xz, Xs]
              refine ws_skip_late rfl rfl ?_
              simp only [Nat.reduceAdd, Act.put, Xa, Xz, Xs]
              refine ws_skip_late rfl rfl ?_
              simp only [Nat.reduceAdd, Act.put, Xa, Xz, Xs]
              refine ws_skip rfl rfl ?_
              simp only [Nat.reduceAdd, Act.put, Xa, Xz, Xs]
              refine ws_skip rfl rfl ?_
              simp only [Nat.reduceAdd, Act.put, Xa, Xz, Xs]
              refine ws_skip_late rfl rfl ?_
              simp only [Nat.reduceAdd, Act.put, Xa, Xz, Xs]
              refine ws_late (.bool false) rfl rfl (fun _ => rfl) ?_
              simp only [Nat.reduceAdd, Act.put, Xa, Xz, Xs]
              refine ws_late (.bool false) rfl rfl (fun _ => rfl) ?_
              simp only [Nat.reduceAdd, Act.put, Xa, Xz, Xs]
              refine ws_nil [] trivial (by simp) ?_
              intro ps22
              simp only [fin, List.foldl_nil, List.map, List.nil_append]
              refine we_then ?_
              refine wc_false rfl ?_
              refine wc_skip ?_
              refine we_in ?_
              refine we_then ?_
              refine wc_region ?_
              refine wl_val (.int .i64 ((i + 1 : Nat) : Int)) rfl (fun w => run_nat (X := i) (Y := 1) (Z := i + 1) rfl rfl rfl rfl (by omega) w) ?_
              simp only [Act.put, Xa, Xz, Xs]
              refine wl_val (.int .i64 ((i + 1 : Nat) : Int)) rfl (fun _ => rfl) ?_
              simp only [Act.put, Xa, Xz, Xs]
              refine wl_nil ?_
              exact we_meet ⟨(i + 1), true, false, (lo + ((L[i]!).lo)), (hi + ((L[i]!).hi)), (m + ((L[i]!).v)), true, _, _, _, _, _, _, _, _, _, _, _, _, _, _, _, _, _, _, _, _, _, _, _, _, _, _, _, _, _, _, _, _, _, _, _, _, _, _, _, _, _, _, _, _, _, _, _, _, _, _, _, _, _, _, _, _, _, _, _, _, _, _, _, _, _, _, _, _, _, _, _, _, _, _, _, _, _, _, _, _, _, _, _, _, _, _, _, _, _, _, _, _, _, _, _, _, _⟩ ⟨⟨by (try dsimp only); omega, by (try dsimp only); omega, by (try dsimp only); omega, by (try dsimp only); omega, by (try dsimp only); omega, by (try dsimp only); omega, fun z => ⟨by (try dsimp only); omega, by (try dsimp only); omega, by (try dsimp only); first | (intro z2; first | rfl | assumption | (exact absurd z2 (by decide)) | simp_all | omega)⟩⟩, by (try dsimp only); omega⟩ rfl (List.Sublist.cons _ (List.Sublist.cons_cons _ (List.Sublist.cons_cons _ List.Sublist.slnil)))
             ·
              skip
              have p21 : k.ro < max (m + ((L[i]!).v)) (-(m + ((L[i]!).v))) := of_decide_eq_true h21
              refine ws_late (.int .i64 (max (m + ((L[i]!).v)) (-(m + ((L[i]!).v))))) rfl rfl (fun _ => rfl) ?_
              simp only [Nat.reduceAdd, Act.put, Xa, Xz, Xs]
              refine ws_late (.int .u64 (max (m + ((L[i]!).v)) (-(m + ((L[i]!).v))))) rfl rfl (fun w => Sw.run_conv rfl rfl Try.underlying2 Try.underlying38 (u64_in (by omega) (by omega)) w) ?_
              simp only [Nat.reduceAdd, Act.put, Xa, Xz, Xs]
              refine ws_late (.pointer (some ⟨g1, 11, none⟩)) rfl rfl (fun _ => by go_simp) ?_
              simp only [Nat.reduceAdd, Act.put, Xa, Xz, Xs]
              refine ws_cell 2 (.tmp 107) (.int .i64 k.ro) (own_row 2 rfl) rfl rfl rfl rfl rfl Try.isAgg2 ?_
              simp only [Nat.reduceAdd, Act.put, Xa, Xz, Xs]
              refine ws_late (.int .u64 k.ro) rfl rfl (fun w => Sw.run_conv rfl rfl Try.underlying2 Try.underlying38 (u64_in (by omega) (by omega)) w) ?_
              simp only [Nat.reduceAdd, Act.put, Xa, Xz, Xs]
              refine ws_late (.int .u64 ((max (m + ((L[i]!).v)) (-(m + ((L[i]!).v)))) - k.ro)) rfl rfl (fun w => run_arith (op := .sub) rfl rfl rfl Try.underlying38 (congrArg some (u64_in (by omega) (by omega))) w) ?_
              simp only [Nat.reduceAdd, Act.put, Xa, Xz, Xs]
              refine ws_late (.pointer (some ⟨g4, 2, none⟩)) rfl rfl (fun _ => by go_simp) ?_
              simp only [Nat.reduceAdd, Act.put, Xa, Xz, Xs]
              refine ws_part 29 (.tmp 111) [.int .i64 (lo + ((L[i]!).lo)), .int .i64 (hi + ((L[i]!).hi))] (own_row 1 rfl) rfl rfl rfl rfl rfl Try.underlying29 rfl (by kernel_rfl) ?_
              simp only [Nat.reduceAdd, Act.put, Xa, Xz, Xs]
              refine ws_call 11 #[.agg #[.int .i64 (lo + ((L[i]!).lo)), .int .i64 (hi + ((L[i]!).hi))]] (.int .u64 ((hi + ((L[i]!).hi)) - (lo + ((L[i]!).lo)))) rfl rfl (fun _ => by go_simp) (fun W => Spo.width_any (lo + ((L[i]!).lo)) (hi + ((L[i]!).hi)) W ⟨by omega, by omega⟩ ⟨by omega, by omega⟩ (by omega)) ?_
              simp only [Nat.reduceAdd, Act.put, Xa, Xz, Xs]
              refine ws_late (.bool (decide ((hi + ((L[i]!).hi)) - (lo + ((L[i]!).lo)) < (max (m + ((L[i]!).v)) (-(m + ((L[i]!).v)))) - k.ro))) rfl rfl (fun w => run_cmp rfl rfl rfl Try.underlying38 rfl w) ?_
              simp only [Nat.reduceAdd, Act.put, Xa, Xz, Xs]
              refine ws_late (.bool (decide ((hi + ((L[i]!).hi)) - (lo + ((L[i]!).lo)) < (max (m + ((L[i]!).v)) (-(m + ((L[i]!).v)))) - k.ro))) rfl rfl (fun _ => rfl) ?_
              simp only [Nat.reduceAdd, Act.put, Xa, Xz, Xs]
              refine ws_late (.bool (decide ((hi + ((L[i]!).hi)) - (lo + ((L[i]!).lo)) < (max (m + ((L[i]!).v)) (-(m + ((L[i]!).v)))) - k.ro))) rfl rfl (fun _ => rfl) ?_
              simp only [Nat.reduceAdd, Act.put, Xa, Xz, Xs]
              refine ws_nil [] trivial (by simp) ?_
              intro ps23
              simp only [fin, List.foldl_nil, List.map, List.nil_append]
              refine we_then ?_
              cases h24 : (decide ((hi + ((L[i]!).hi)) - (lo + ((L[i]!).lo)) < (max (m + ((L[i]!).v)) (-(m + ((L[i]!).v)))) - k.ro))
              ·
               skip
               have p24 : ¬ ((hi + ((L[i]!).hi)) - (lo + ((L[i]!).lo)) < (max (m + ((L[i]!).v)) (-(m + ((L[i]!).v)))) - k.ro) := of_decide_eq_false h24
               refine wc_false rfl ?_
               refine wc_skip ?_
               refine we_in ?_
               refine we_then ?_
               refine wc_region ?_
               refine wl_val (.int .i64 ((i + 1 : Nat) : Int)) rfl (fun w => run_nat (X := i) (Y := 1) (Z := i + 1) rfl rfl rfl rfl (by omega) w) ?_
               simp only [Act.put, Xa, Xz, Xs]
               refine wl_val (.int .i64 ((i + 1 : Nat) : Int)) rfl (fun _ => rfl) ?_
               simp only [Act.put, Xa, Xz, Xs]
               refine wl_nil ?_
               exact we_meet ⟨(i + 1), true, false, (lo + ((L[i]!).lo)), (hi + ((L[i]!).hi)), (m + ((L[i]!).v)), true, _, _, _, _, _, _, _, _, _, _, _, _, _, _, _, _, _, _, _, _, _, _, _, _, _, _, _, _, _, _, _, _, _, _, _, _, _, _, _, _, _, _, _, _, _, _, _, _, _, _, _, _, _, _, _, _, _, _, _, _, _, _, _, _, _, _, _, _, _, _, _, _, _, _, _, _, _, _, _, _, _, _, _, _, _, _, _, _, _, _, _, _, _, _, _, _, _⟩ ⟨⟨by (try dsimp only); omega, by (try dsimp only); omega, by (try dsimp only); omega, by (try dsimp only); omega, by (try dsimp only); omega, by (try dsimp only); omega, fun z => ⟨by (try dsimp only); omega, by (try dsimp only); omega, by (try dsimp only); first | (intro z2; first | rfl | assumption | (exact absurd z2 (by decide)) | simp_all | omega)⟩⟩, by (try dsimp only); omega⟩ rfl (List.Sublist.cons _ (List.Sublist.cons_cons _ (List.Sublist.cons_cons _ List.Sublist.slnil)))
              ·
               skip
               have p24 : (hi + ((L[i]!).hi)) - (lo + ((L[i]!).lo)) < (max (m + ((L[i]!).v)) (-(m + ((L[i]!).v)))) - k.ro := of_decide_eq_true h24
               refine wc_true rfl ?_
               refine wc_seq ?_
               refine wc_region ?_
               refine wl_val (.bool false) rfl (fun _ => rfl) ?_
               simp only [Act.put, Xa, Xz, Xs]
               refine wl_nil ?_
               refine we_then ?_
               refine wc_ret ?_
               refine we_in_ret ?_
               refine we_then_ret ?_
               refine we_then_ret ?_
               refine we_in_ret ?_
               refine we_then_ret ?_
               refine we_ret1 (.bool false) rfl rfl rfl (fun w1 hE => ?_)
               exact (by exfalso; first | omega | simp_all)
           ·
            skip
            have p15 : hi + ((L[i]!).hi) < -k.ro := of_decide_eq_true h15
            refine wl_call 9 #[.agg #[.bool true, .bool false, .int .i64 lo, .int .i64 hi], .agg #[.int .i64 k.pu, .int .i64 k.lo, .int .i64 k.hi, .int .i64 k.rb, .int .i64 k.rp, .int .i64 k.ae, .int .i64 k.ms, .int .i64 k.ma, .int .i64 k.an, .int .i64 k.st, .int .i64 k.ss, .int .i64 k.ro, .int .i64 k.ti, .int .i64 k.br], .bool ((L[i]!).st), .bool false, .agg #[.int .i64 ((L[i]!).lo), .int .i64 ((L[i]!).hi)]] (.agg #[.bool true, .bool true, .int .i64 (lo + ((L[i]!).lo)), .int .i64 (hi + ((L[i]!).hi))]) rfl (fun _ => by go_simp) (fun W => by have h9 := Rll.next_any k ⟨true, false, lo, hi⟩ ((L[i]!).st) false ((L[i]!).lo) ((L[i]!).hi) W hk ⟨by (try dsimp only); omega, by (try dsimp only); omega, by (try dsimp only); omega, by (try dsimp only); omega, by (try dsimp only); omega, by (try dsimp only); omega⟩; rwa [show (nx k ⟨true, false, lo, hi⟩ ((L[i]!).st) false ((L[i]!).lo) ((L[i]!).hi)).on = true from (by show (false || (decide (k.ro < lo + ((L[i]!).lo)) || decide (hi + ((L[i]!).hi) < -k.ro))) = true; rw [h14, h15]; try rfl)] at h9) ?_
            simp only [Act.put, Xa, Xz, Xs]
            refine wl_store 1 31 (.tmp 5) (.tmp 58) (#[.bool true, .bool true, .int .i64 (lo + ((L[i]!).lo)), .int .i64 (hi + ((L[i]!).hi))]) rfl rfl rfl rfl rfl (by kernel_rfl) rfl (by simp [Value.oneCell']) ?_
            simp only [Act.put, List.set_cons_zero, List.set_cons_succ]
            refine wl_nil ?_
            refine we_then ?_
            refine wc_seq ?_
            refine wc_seq ?_
            refine wc_region ?_
            refine wl_val (.pointer (some ⟨g4, 0, none⟩)) rfl (fun _ => by go_simp) ?_
            simp only [Act.put, Xa, Xz, Xs]
            refine wl_cell 4 (.tmp 59) (.bool true) (own_row 1 rfl) rfl rfl rfl rfl Try.isAgg4 ?_
            simp only [Act.put, Xa, Xz, Xs]
            refine wl_val (.bool false) rfl (fun _ => by go_simp) ?_
            simp only [Act.put, Xa, Xz, Xs]
            refine wl_val (.bool false) rfl (fun _ => rfl) ?_
            simp only [Act.put, Xa, Xz, Xs]
            refine wl_val (.bool true) rfl (fun _ => rfl) ?_
            simp only [Act.put, Xa, Xz, Xs]
            refine wl_val (.bool false) rfl (fun _ => by go_simp) ?_
            simp only [Act.put, Xa, Xz, Xs]
            refine wl_val (.bool false) rfl (fun _ => rfl) ?_
            simp only [Act.put, Xa, Xz, Xs]
            refine wl_nil ?_
            refine we_then ?_
            refine wc_false rfl ?_
            refine wc_skip ?_
            refine we_then ?_
            refine wc_seq ?_
            refine wc_region ?_
            refine wl_val (.int .i64 m) rfl (fun _ => rfl) ?_
            simp only [Act.put, Xa, Xz, Xs]
            refine wl_val (.pointer (some ⟨g6, 2, none⟩)) rfl (fun _ => by go_simp) ?_
            simp only [Act.put, Xa, Xz, Xs]
            refine wl_cell 2 (.tmp 67) (.int .i64 ((L[i]!).v)) (own_row 0 rfl) rfl rfl rfl rfl Try.isAgg2 ?_
            simp only [Act.put, Xa, Xz, Xs]
            refine wl_val (.int .i64 (m + ((L[i]!).v))) rfl (fun w => run_arith (op := .add) rfl rfl rfl Try.underlying2 (congrArg some (i64_in (by omega) (by omega))) w) ?_
            simp only [Act.put, Xa, Xz, Xs]
            refine wl_val (.int .i64 (m + ((L[i]!).v))) rfl (fun _ => rfl) ?_
            simp only [Act.put, Xa, Xz, Xs]
            refine wl_nil ?_
            refine we_then ?_
            refine wc_seq ?_
            refine wc_region ?_
            refine wl_val (.int .i64 (m + ((L[i]!).v))) rfl (fun _ => rfl) ?_
            simp only [Act.put, Xa, Xz, Xs]
            refine wl_val (.int .i64 (m + ((L[i]!).v))) rfl (fun _ => rfl) ?_
            simp only [Act.put, Xa, Xz, Xs]
            refine wl_val (.int .i64 (-(m + ((L[i]!).v)))) rfl (fun w => run_neg rfl rfl Try.underlying2 (i64_in (by omega) (by omega)) w) ?_
            simp only [Act.put, Xa, Xz, Xs]
            refine wl_val (.int .i64 (max (m + ((L[i]!).v)) (-(m + ((L[i]!).v))))) rfl (fun w => by first | exact run_max2 rfl rfl rfl rfl w | go_simp) ?_
            simp only [Act.put, Xa, Xz, Xs]
            refine wl_val (.int .i64 (max (m + ((L[i]!).v)) (-(m + ((L[i]!).v))))) rfl (fun _ => rfl) ?_
            simp only [Act.put, Xa, Xz, Xs]
            refine wl_nil ?_
            refine we_then ?_
            refine wc_seq ?_
            refine wc_region ?_
            refine wl_val (.bool f) rfl (fun _ => rfl) ?_
            simp only [Act.put, Xa, Xz, Xs]
            refine wl_val (.bool f) rfl (fun _ => rfl) ?_
            simp only [Act.put, Xa, Xz, Xs]
            cases h25 : (f)
            ·
             skip
             refine wl_val (.int .i64 (max (m + ((L[i]!).v)) (-(m + ((L[i]!).v))))) rfl (fun _ => rfl) ?_
             simp only [Act.put, Xa, Xz, Xs]
             refine wl_val (.pointer (some ⟨g1, 11, none⟩)) rfl (fun _ => by go_simp) ?_
             simp only [Act.put, Xa, Xz, Xs]
             refine wl_cell 2 (.tmp 77) (.int .i64 k.ro) (own_row 2 rfl) rfl rfl rfl rfl Try.isAgg2 ?_
             simp only [Act.put, Xa, Xz, Xs]
             refine wl_val (.bool (decide (k.ro < max (m + ((L[i]!).v)) (-(m + ((L[i]!).v)))))) rfl (fun w => run_cmp rfl rfl rfl Try.underlying2 rfl w) ?_
             simp only [Act.put, Xa, Xz, Xs]
             refine wl_val (.bool (decide (k.ro < max (m + ((L[i]!).v)) (-(m + ((L[i]!).v)))))) rfl (fun _ => rfl) ?_
             simp only [Act.put, Xa, Xz, Xs]
             refine wl_val (.bool (decide (k.ro < max (m + ((L[i]!).v)) (-(m + ((L[i]!).v)))))) rfl (fun _ => rfl) ?_
             simp only [Act.put, Xa, Xz, Xs]
             refine wl_nil ?_
             refine we_then ?_
             refine wc_seq ?_
             have b9 := b7 h11
             have b8 : lo + ((L[i]!).lo) ≤ m + ((L[i]!).v) ∧ m + ((L[i]!).v) ≤ hi + ((L[i]!).hi) := ⟨by omega, by omega⟩
             refine wc_draw [.late, .plain, .late, .plain, .late, .late, .late, .plain, .late, .late, .late, .late, .late, .late, .late, .plain, .late, .late, .late, .late, .plain, .late, .late, .late, .late, .late, .late, .plain, .late, .late, .late, .plain, .plain, .late, .late, .late] none [] 118 (by kernel_rfl) rfl (by kernel_rfl) (by kernel_rfl) ?_
             refine ws_late (.pointer (some ⟨g4, 2, none⟩)) rfl rfl (fun _ => by go_simp) ?_
             simp only [Nat.reduceAdd, Act.put, Xa, Xz, Xs]
             refine ws_part 29 (.tmp 81) [.int .i64 (lo + ((L[i]!).lo)), .int .i64 (hi + ((L[i]!).hi))] (own_row 1 rfl) rfl rfl rfl rfl rfl Try.underlying29 rfl (by kernel_rfl) ?_
             simp only [Nat.reduceAdd, Act.put, Xa, Xz, Xs]
             refine ws_late (.int .i64 (m + ((L[i]!).v))) rfl rfl (fun _ => rfl) ?_
             simp only [Nat.reduceAdd, Act.put, Xa, Xz, Xs]
             refine ws_call 10 #[.agg #[.int .i64 (lo + ((L[i]!).lo)), .int .i64 (hi + ((L[i]!).hi))], .int .i64 (m + ((L[i]!).v))] (.bool true) rfl rfl (fun _ => by go_simp) (fun W => by have h9 := has_b (lo + ((L[i]!).lo)) (hi + ((L[i]!).hi)) (m + ((L[i]!).v)) W; rwa [decide_eq_true b8.1, decide_eq_true b8.2] at h9) ?_
             simp only [Nat.reduceAdd, Act.put, Xa, Xz, Xs]
             refine ws_late (.bool false) rfl rfl (fun _ => by go_simp) ?_
             simp only [Nat.reduceAdd, Act.put, Xa, Xz, Xs]
             refine ws_late (.bool false) rfl rfl (fun _ => rfl) ?_
             simp only [Nat.reduceAdd, Act.put, Xa, Xz, Xs]
             refine ws_late (.pointer (some ⟨g4, 1, none⟩)) rfl rfl (fun _ => by go_simp) ?_
             simp only [Nat.reduceAdd, Act.put, Xa, Xz, Xs]
             refine ws_cell 4 (.tmp 87) (.bool true) (own_row 1 rfl) rfl rfl rfl rfl rfl Try.isAgg4 ?_
             simp only [Nat.reduceAdd, Act.put, Xa, Xz, Xs]
             refine ws_late (.bool true) rfl rfl (fun _ => rfl) ?_
             simp only [Nat.reduceAdd, Act.put, Xa, Xz, Xs]
             refine ws_late (.bool (decide (k.ro < max (m + ((L[i]!).v)) (-(m + ((L[i]!).v)))))) rfl rfl (fun _ => rfl) ?_
             simp only [Nat.reduceAdd, Act.put, Xa, Xz, Xs]
             refine ws_late (.bool (!(decide (k.ro < max (m + ((L[i]!).v)) (-(m + ((L[i]!).v))))))) rfl rfl (fun _ => by go_simp) ?_
             simp only [Nat.reduceAdd, Act.put, Xa, Xz, Xs]
             refine ws_late (.bool (!(decide (k.ro < max (m + ((L[i]!).v)) (-(m + ((L[i]!).v))))))) rfl rfl (fun _ => rfl) ?_
             simp only [Nat.reduceAdd, Act.put, Xa, Xz, Xs]
             refine ws_late (.bool (!(decide (k.ro < max (m + ((L[i]!).v)) (-(m + ((L[i]!).v))))))) rfl rfl (fun _ => rfl) ?_
             simp only [Nat.reduceAdd, Act.put, Xa, Xz, Xs]
             refine ws_late (.bool (!(decide (k.ro < max (m + ((L[i]!).v)) (-(m + ((L[i]!).v))))))) rfl rfl (fun _ => rfl) ?_
             simp only [Nat.reduceAdd, Act.put, Xa, Xz, Xs]
             cases h26 : (decide (k.ro < max (m + ((L[i]!).v)) (-(m + ((L[i]!).v)))))
             ·
              skip
              have p26 : ¬ (k.ro < max (m + ((L[i]!).v)) (-(m + ((L[i]!).v)))) := of_decide_eq_false h26
              refine ws_skip_late rfl rfl ?_
              simp only [Nat.reduceAdd, Act.put, Xa, Xz, Xs]
              refine ws_skip rfl rfl ?_
              simp only [Nat.reduceAdd, Act.put, Xa, Xz, Xs]
              refine ws_skip_late rfl rfl ?_
              simp only [Nat.reduceAdd, Act.put, Xa, Xz, Xs]
              refine ws_skip_late rfl rfl ?_
              simp only [Nat.reduceAdd, Act.put, Xa, Xz, Xs]
              refine ws_skip_late rfl rfl ?_
              simp only [Nat.reduceAdd, Act.put, Xa, Xz, Xs]
              refine ws_skip_late rfl rfl ?_
              simp only [Nat.reduceAdd, Act.put, Xa, Xz, Xs]
              refine ws_skip rfl rfl ?_
              simp only [Nat.reduceAdd, Act.put, Xa, Xz, Xs]
              refine ws_skip_late rfl rfl ?_
              simp only [Nat.reduceAdd, Act.put, Xa, Xz, Xs]
              refine ws_skip_late rfl rfl ?_
              simp only [Nat.reduceAdd, Act.put, Xa, Xz, Xs]
              refine ws_skip_late rfl rfl ?_
              simp only [Nat.reduceAdd, Act.put, Xa, Xz, Xs]
              refine ws_skip_late rfl rfl ?_
              simp only [Nat.reduceAdd, Act.put, Xa, Xz, Xs]
              refine ws_skip_late rfl rfl ?_
              simp only [Nat.reduceAdd, Act.put, Xa, Xz, Xs]
              refine ws_skip_late rfl rfl ?_
              simp only [Nat.reduceAdd, Act.put, Xa, Xz, Xs]
              refine ws_skip rfl rfl ?_
              simp only [Nat.reduceAdd, Act.put, Xa, Xz, Xs]
              refine ws_skip_late rfl rfl ?_
              simp only [Nat.reduceAdd, Act.put, Xa, Xz, Xs]
              refine ws_skip_late rfl rfl ?_
              simp only [Nat.reduceAdd, Act.put, Xa, Xz, Xs]
              refine ws_skip_late rfl rfl ?_
              simp only [Nat.reduceAdd, Act.put, Xa, Xz, Xs]
              refine ws_skip rfl rfl ?_
              simp only [Nat.reduceAdd, Act.put, Xa, Xz, Xs]
              refine ws_skip rfl rfl ?_
              simp only [Nat.reduceAdd, Act.put, Xa, Xz, Xs]
              refine ws_skip_late rfl rfl ?_
              simp only [Nat.reduceAdd, Act.put, Xa, Xz, Xs]
              refine ws_skip_late rfl rfl ?_
              simp only [Nat.reduceAdd, Act.put, Xa, Xz, Xs]
              refine ws_late (.bool true) rfl rfl (fun _ => rfl) ?_
              simp only [Nat.reduceAdd, Act.put, Xa, Xz, Xs]
              refine ws_nil [] trivial (by simp) ?_
              intro ps27
              simp only [fin, List.foldl_nil, List.map, List.nil_append]
              refine we_then ?_
              refine wc_true rfl ?_
              refine wc_seq ?_
              refine wc_region ?_
              refine wl_val (.bool false) rfl (fun _ => rfl) ?_
              simp only [Act.put, Xa, Xz, Xs]
              refine wl_nil ?_
              refine we_then ?_
              refine wc_ret ?_
              refine we_in_ret ?_
              refine we_then_ret ?_
              refine we_then_ret ?_
              refine we_in_ret ?_
              refine we_then_ret ?_
              refine we_ret1 (.bool false) rfl rfl rfl (fun w1 hE => ?_)
              exact (by exfalso; first | omega | simp_all)
             ·
              skip
              have p26 : k.ro < max (m + ((L[i]!).v)) (-(m + ((L[i]!).v))) := of_decide_eq_true h26
              refine ws_late (.pointer (some ⟨g4, 1, none⟩)) rfl rfl (fun _ => by go_simp) ?_
              simp only [Nat.reduceAdd, Act.put, Xa, Xz, Xs]
              refine ws_cell 4 (.tmp 95) (.bool true) (own_row 1 rfl) rfl rfl rfl rfl rfl Try.isAgg4 ?_
              simp only [Nat.reduceAdd, Act.put, Xa, Xz, Xs]
              refine ws_late (.bool false) rfl rfl (fun _ => by go_simp) ?_
              simp only [Nat.reduceAdd, Act.put, Xa, Xz, Xs]
              refine ws_late (.bool false) rfl rfl (fun _ => rfl) ?_
              simp only [Nat.reduceAdd, Act.put, Xa, Xz, Xs]
              refine ws_skip_late rfl rfl ?_
              simp only [Nat.reduceAdd, Act.put, Xa, Xz, Xs]
              refine ws_skip_late rfl rfl ?_
              simp only [Nat.reduceAdd, Act.put, Xa, Xz, Xs]
              refine ws_skip rfl rfl ?_
              simp only [Nat.reduceAdd, Act.put, Xa, Xz, Xs]
              refine ws_skip_late rfl rfl ?_
              simp only [Nat.reduceAdd, Act.put, Xa, Xz, Xs]
              refine ws_late (.bool false) rfl rfl (fun _ => rfl) ?_
              simp only [Nat.reduceAdd, Act.put, Xa, Xz, Xs]
              refine ws_late (.bool false) rfl rfl (fun _ => rfl) ?_
              simp only [Nat.reduceAdd, Act.put, Xa, Xz, Xs]
              refine ws_skip_late rfl rfl ?_
              simp only [Nat.reduceAdd, Act.put, Xa, Xz, Xs]
              refine ws_skip_late rfl rfl ?_
              simp only [Nat.reduceAdd, Act.put, Xa, Xz, Xs]
              refine ws_skip_late rfl rfl ?_
              simp only [Nat.reduceAdd, Act.put, Xa, Xz, Xs]
              refine ws_skip rfl rfl ?_
              simp only [Nat.reduceAdd, Act.put, Xa, Xz, Xs]
              refine ws_skip_late rfl rfl ?_
              simp only [Nat.reduceAdd, Act.put, Xa, Xz, Xs]
              refine ws_skip_late rfl rfl ?_
              simp only [Nat.reduceAdd, Act.put, Xa, Xz, Xs]
              refine ws_skip_late rfl rfl ?_
              simp only [Nat.reduceAdd, Act.put, Xa, Xz, Xs]
              refine ws_skip rfl rfl ?_
              simp only [Nat.reduceAdd, Act.put, Xa, Xz, Xs]
              refine ws_skip rfl rfl ?_
              simp only [Nat.reduceAdd, Act.put, Xa, Xz, Xs]
              refine ws_skip_late rfl rfl ?_
              simp only [Nat.reduceAdd, Act.put, Xa, Xz, Xs]
              refine ws_late (.bool false) rfl rfl (fun _ => rfl) ?_
              simp only [Nat.reduceAdd, Act.put, Xa, Xz, Xs]
              refine ws_late (.bool false) rfl rfl (fun _ => rfl) ?_
              simp only [Nat.reduceAdd, Act.put, Xa, Xz, Xs]
              refine ws_nil [] trivial (by simp) ?_
              intro ps28
              simp only [fin, List.foldl_nil, List.map, List.nil_append]
              refine we_then ?_
              refine wc_false rfl ?_
              refine wc_skip ?_
              refine we_in ?_
              refine we_then ?_
              refine wc_region ?_
              refine wl_val (.int .i64 ((i + 1 : Nat) : Int)) rfl (fun w => run_nat (X := i) (Y := 1) (Z := i + 1) rfl rfl rfl rfl (by omega) w) ?_
              simp only [Act.put, Xa, Xz, Xs]
              refine wl_val (.int .i64 ((i + 1 : Nat) : Int)) rfl (fun _ => rfl) ?_
              simp only [Act.put, Xa, Xz, Xs]
              refine wl_nil ?_
              exact we_meet ⟨(i + 1), true, true, (lo + ((L[i]!).lo)), (hi + ((L[i]!).hi)), (m + ((L[i]!).v)), true, _, _, _, _, _, _, _, _, _, _, _, _, _, _, _, _, _, _, _, _, _, _, _, _, _, _, _, _, _, _, _, _, _, _, _, _, _, _, _, _, _, _, _, _, _, _, _, _, _, _, _, _, _, _, _, _, _, _, _, _, _, _, _, _, _, _, _, _, _, _, _, _, _, _, _, _, _, _, _, _, _, _, _, _, _, _, _, _, _, _, _, _, _, _, _, _, _⟩ ⟨⟨by (try dsimp only); omega, by (try dsimp only); omega, by (try dsimp only); omega, by (try dsimp only); omega, by (try dsimp only); omega, by (try dsimp only); omega, fun z => ⟨by (try dsimp only); omega, by (try dsimp only); omega, by (try dsimp only); first | (intro z2; first | rfl | assumption | (exact absurd z2 (by decide)) | simp_all | omega)⟩⟩, by (try dsimp only); omega⟩ rfl (List.Sublist.cons _ (List.Sublist.cons_cons _ (List.Sublist.cons_cons _ List.Sublist.slnil)))
            ·
             skip
             refine wl_skip rfl ?_
             simp only [Act.put, Xa, Xz, Xs]
             refine wl_skip rfl ?_
             simp only [Act.put, Xa, Xz, Xs]
             refine wl_skip rfl ?_
             simp only [Act.put, Xa, Xz, Xs]
             refine wl_skip rfl ?_
             simp only [Act.put, Xa, Xz, Xs]
             refine wl_val (.bool true) rfl (fun _ => rfl) ?_
             simp only [Act.put, Xa, Xz, Xs]
             refine wl_val (.bool true) rfl (fun _ => rfl) ?_
             simp only [Act.put, Xa, Xz, Xs]
             refine wl_nil ?_
             refine we_then ?_
             refine wc_seq ?_
             have b9 := b7 h11
             have b8 : lo + ((L[i]!).lo) ≤ m + ((L[i]!).v) ∧ m + ((L[i]!).v) ≤ hi + ((L[i]!).hi) := ⟨by omega, by omega⟩
             refine wc_draw [.late, .plain, .late, .plain, .late, .late, .late, .plain, .late, .late, .late, .late, .late, .late, .late, .plain, .late, .late, .late, .late, .plain, .late, .late, .late, .late, .late, .late, .plain, .late, .late, .late, .plain, .plain, .late, .late, .late] none [] 118 (by kernel_rfl) rfl (by kernel_rfl) (by kernel_rfl) ?_
             refine ws_late (.pointer (some ⟨g4, 2, none⟩)) rfl rfl (fun _ => by go_simp) ?_
             simp only [Nat.reduceAdd, Act.put, Xa, Xz, Xs]
             refine ws_part 29 (.tmp 81) [.int .i64 (lo + ((L[i]!).lo)), .int .i64 (hi + ((L[i]!).hi))] (own_row 1 rfl) rfl rfl rfl rfl rfl Try.underlying29 rfl (by kernel_rfl) ?_
             simp only [Nat.reduceAdd, Act.put, Xa, Xz, Xs]
             refine ws_late (.int .i64 (m + ((L[i]!).v))) rfl rfl (fun _ => rfl) ?_
             simp only [Nat.reduceAdd, Act.put, Xa, Xz, Xs]
             refine ws_call 10 #[.agg #[.int .i64 (lo + ((L[i]!).lo)), .int .i64 (hi + ((L[i]!).hi))], .int .i64 (m + ((L[i]!).v))] (.bool true) rfl rfl (fun _ => by go_simp) (fun W => by have h9 := has_b (lo + ((L[i]!).lo)) (hi + ((L[i]!).hi)) (m + ((L[i]!).v)) W; rwa [decide_eq_true b8.1, decide_eq_true b8.2] at h9) ?_
             simp only [Nat.reduceAdd, Act.put, Xa, Xz, Xs]
             refine ws_late (.bool false) rfl rfl (fun _ => by go_simp) ?_
             simp only [Nat.reduceAdd, Act.put, Xa, Xz, Xs]
             refine ws_late (.bool false) rfl rfl (fun _ => rfl) ?_
             simp only [Nat.reduceAdd, Act.put, Xa, Xz, Xs]
             refine ws_late (.pointer (some ⟨g4, 1, none⟩)) rfl rfl (fun _ => by go_simp) ?_
             simp only [Nat.reduceAdd, Act.put, Xa, Xz, Xs]
             refine ws_cell 4 (.tmp 87) (.bool true) (own_row 1 rfl) rfl rfl rfl rfl rfl Try.isAgg4 ?_
             simp only [Nat.reduceAdd, Act.put, Xa, Xz, Xs]
             refine ws_late (.bool true) rfl rfl (fun _ => rfl) ?_
             simp only [Nat.reduceAdd, Act.put, Xa, Xz, Xs]
             refine ws_late (.bool true) rfl rfl (fun _ => rfl) ?_
             simp only [Nat.reduceAdd, Act.put, Xa, Xz, Xs]
             refine ws_late (.bool false) rfl rfl (fun _ => by go_simp) ?_
             simp only [Nat.reduceAdd, Act.put, Xa, Xz, Xs]
             refine ws_late (.bool false) rfl rfl (fun _ => rfl) ?_
             simp only [Nat.reduceAdd, Act.put, Xa, Xz, Xs]
             refine ws_late (.bool false) rfl rfl (fun _ => rfl) ?_
             simp only [Nat.reduceAdd, Act.put, Xa, Xz, Xs]
             refine ws_late (.bool false) rfl rfl (fun _ => rfl) ?_
             simp only [Nat.reduceAdd, Act.put, Xa, Xz, Xs]
             refine ws_late (.pointer (some ⟨g4, 1, none⟩)) rfl rfl (fun _ => by go_simp) ?_
             simp only [Nat.reduceAdd, Act.put, Xa, Xz, Xs]
             refine ws_cell 4 (.tmp 95) (.bool true) (own_row 1 rfl) rfl rfl rfl rfl rfl Try.isAgg4 ?_
             simp only [Nat.reduceAdd, Act.put, Xa, Xz, Xs]
             refine ws_late (.bool false) rfl rfl (fun _ => by go_simp) ?_
             simp only [Nat.reduceAdd, Act.put, Xa, Xz, Xs]
             refine ws_late (.bool false) rfl rfl (fun _ => rfl) ?_
             simp only [Nat.reduceAdd, Act.put, Xa, Xz, Xs]
             refine ws_skip_late rfl rfl ?_
             simp only [Nat.reduceAdd, Act.put, Xa, Xz, Xs]
             refine ws_skip_late rfl rfl ?_
             simp only [Nat.reduceAdd, Act.put, Xa, Xz, Xs]
             refine ws_skip rfl rfl ?_
             simp only [Nat.reduceAdd, Act.put, Xa, Xz, Xs]
             refine ws_skip_late rfl rfl ?_
             simp only [Nat.reduceAdd, Act.put, Xa, Xz, Xs]
             refine ws_late (.bool false) rfl rfl (fun _ => rfl) ?_
             simp only [Nat.reduceAdd, Act.put, Xa, Xz, Xs]
             refine ws_late (.bool false) rfl rfl (fun _ => rfl) ?_
             simp only [Nat.reduceAdd, Act.put, Xa, Xz, Xs]
             refine ws_skip_late rfl rfl ?_
             simp only [Nat.reduceAdd, Act.put, Xa, Xz, Xs]
             refine ws_skip_late rfl rfl ?_
             simp only [Nat.reduceAdd, Act.put, Xa, Xz, Xs]
             refine ws_skip_late rfl rfl ?_
             simp only [Nat.reduceAdd, Act.put, Xa, Xz, Xs]
             refine ws_skip rfl rfl ?_
             simp only [Nat.reduceAdd, Act.put, Xa, Xz, Xs]
             refine ws_skip_late rfl rfl ?_
             simp only [Nat.reduceAdd, Act.put, Xa, Xz, Xs]
             refine ws_skip_late rfl rfl ?_
             simp only [Nat.reduceAdd, Act.put, Xa, Xz, Xs]
             refine ws_skip_late rfl rfl ?_
             simp only [Nat.reduceAdd, Act.put, Xa, Xz, Xs]
             refine ws_skip rfl rfl ?_
             simp only [Nat.reduceAdd, Act.put, Xa, Xz, Xs]
             refine ws_skip rfl rfl ?_
             simp only [Nat.reduceAdd, Act.put, Xa, Xz, Xs]
             refine ws_skip_late rfl rfl ?_
             simp only [Nat.reduceAdd, Act.put, Xa, Xz, Xs]
             refine ws_late (.bool false) rfl rfl (fun _ => rfl) ?_
             simp only [Nat.reduceAdd, Act.put, Xa, Xz, Xs]
             refine ws_late (.bool false) rfl rfl (fun _ => rfl) ?_
             simp only [Nat.reduceAdd, Act.put, Xa, Xz, Xs]
             refine ws_nil [] trivial (by simp) ?_
             intro ps29
             simp only [fin, List.foldl_nil, List.map, List.nil_append]
             refine we_then ?_
             refine wc_false rfl ?_
             refine wc_skip ?_
             refine we_in ?_
             refine we_then ?_
             refine wc_region ?_
             refine wl_val (.int .i64 ((i + 1 : Nat) : Int)) rfl (fun w => run_nat (X := i) (Y := 1) (Z := i + 1) rfl rfl rfl rfl (by omega) w) ?_
             simp only [Act.put, Xa, Xz, Xs]
             refine wl_val (.int .i64 ((i + 1 : Nat) : Int)) rfl (fun _ => rfl) ?_
             simp only [Act.put, Xa, Xz, Xs]
             refine wl_nil ?_
             exact we_meet ⟨(i + 1), true, true, (lo + ((L[i]!).lo)), (hi + ((L[i]!).hi)), (m + ((L[i]!).v)), true, _, _, _, _, _, _, _, _, _, _, _, _, _, _, _, _, _, _, _, _, _, _, _, _, _, _, _, _, _, _, _, _, _, _, _, _, _, _, _, _, _, _, _, _, _, _, _, _, _, _, _, _, _, _, _, _, _, _, _, _, _, _, _, _, _, _, _, _, _, _, _, _, _, _, _, _, _, _, _, _, _, _, _, _, _, _, _, _, _, _, _, _, _, _, _, _, _⟩ ⟨⟨by (try dsimp only); omega, by (try dsimp only); omega, by (try dsimp only); omega, by (try dsimp only); omega, by (try dsimp only); omega, by (try dsimp only); omega, fun z => ⟨by (try dsimp only); omega, by (try dsimp only); omega, by (try dsimp only); first | (intro z2; first | rfl | assumption | (exact absurd z2 (by decide)) | simp_all | omega)⟩⟩, by (try dsimp only); omega⟩ rfl (List.Sublist.cons _ (List.Sublist.cons_cons _ (List.Sublist.cons_cons _ List.Sublist.slnil)))
          ·
           skip
           have p14 : k.ro < lo + ((L[i]!).lo) := of_decide_eq_true h14
           refine wl_call 9 #[.agg #[.bool true, .bool false, .int .i64 lo, .int .i64 hi], .agg #[.int .i64 k.pu, .int .i64 k.lo, .int .i64 k.hi, .int .i64 k.rb, .int .i64 k.rp, .int .i64 k.ae, .int .i64 k.ms, .int .i64 k.ma, .int .i64 k.an, .int .i64 k.st, .int .i64 k.ss, .int .i64 k.ro, .int .i64 k.ti, .int .i64 k.br], .bool ((L[i]!).st), .bool false, .agg #[.int .i64 ((L[i]!).lo), .int .i64 ((L[i]!).hi)]] (.agg #[.bool true, .bool true, .int .i64 (lo + ((L[i]!).lo)), .int .i64 (hi + ((L[i]!).hi))]) rfl (fun _ => by go_simp) (fun W => by have h9 := Rll.next_any k ⟨true, false, lo, hi⟩ ((L[i]!).st) false ((L[i]!).lo) ((L[i]!).hi) W hk ⟨by (try dsimp only); omega, by (try dsimp only); omega, by (try dsimp only); omega, by (try dsimp only); omega, by (try dsimp only); omega, by (try dsimp only); omega⟩; rwa [show (nx k ⟨true, false, lo, hi⟩ ((L[i]!).st) false ((L[i]!).lo) ((L[i]!).hi)).on = true from (by show (false || (decide (k.ro < lo + ((L[i]!).lo)) || decide (hi + ((L[i]!).hi) < -k.ro))) = true; rw [h14]; try rfl)] at h9) ?_
           simp only [Act.put, Xa, Xz, Xs]
           refine wl_store 1 31 (.tmp 5) (.tmp 58) (#[.bool true, .bool true, .int .i64 (lo + ((L[i]!).lo)), .int .i64 (hi + ((L[i]!).hi))]) rfl rfl rfl rfl rfl (by kernel_rfl) rfl (by simp [Value.oneCell']) ?_
           simp only [Act.put, List.set_cons_zero, List.set_cons_succ]
           refine wl_nil ?_
           refine we_then ?_
           refine wc_seq ?_
           refine wc_seq ?_
           refine wc_region ?_
           refine wl_val (.pointer (some ⟨g4, 0, none⟩)) rfl (fun _ => by go_simp) ?_
           simp only [Act.put, Xa, Xz, Xs]
           refine wl_cell 4 (.tmp 59) (.bool true) (own_row 1 rfl) rfl rfl rfl rfl Try.isAgg4 ?_
           simp only [Act.put, Xa, Xz, Xs]
           refine wl_val (.bool false) rfl (fun _ => by go_simp) ?_
           simp only [Act.put, Xa, Xz, Xs]
           refine wl_val (.bool false) rfl (fun _ => rfl) ?_
           simp only [Act.put, Xa, Xz, Xs]
           refine wl_val (.bool true) rfl (fun _ => rfl) ?_
           simp only [Act.put, Xa, Xz, Xs]
           refine wl_val (.bool false) rfl (fun _ => by go_simp) ?_
           simp only [Act.put, Xa, Xz, Xs]
           refine wl_val (.bool false) rfl (fun _ => rfl) ?_
           simp only [Act.put, Xa, Xz, Xs]
           refine wl_nil ?_
           refine we_then ?_
           refine wc_false rfl ?_
           refine wc_skip ?_
           refine we_then ?_
           refine wc_seq ?_
           refine wc_region ?_
           refine wl_val (.int .i64 m) rfl (fun _ => rfl) ?_
           simp only [Act.put, Xa, Xz, Xs]
           refine wl_val (.pointer (some ⟨g6, 2, none⟩)) rfl (fun _ => by go_simp) ?_
           simp only [Act.put, Xa, Xz, Xs]
           refine wl_cell 2 (.tmp 67) (.int .i64 ((L[i]!).v)) (own_row 0 rfl) rfl rfl rfl rfl Try.isAgg2 ?_
           simp only [Act.put, Xa, Xz, Xs]
           refine wl_val (.int .i64 (m + ((L[i]!).v))) rfl (fun w => run_arith (op := .add) rfl rfl rfl Try.underlying2 (congrArg some (i64_in (by omega) (by omega))) w) ?_
           simp only [Act.put, Xa, Xz, Xs]
           refine wl_val (.int .i64 (m + ((L[i]!).v))) rfl (fun _ => rfl) ?_
           simp only [Act.put, Xa, Xz, Xs]
           refine wl_nil ?_
           refine we_then ?_
           refine wc_seq ?_
           refine wc_region ?_
           refine wl_val (.int .i64 (m + ((L[i]!).v))) rfl (fun _ => rfl) ?_
           simp only [Act.put, Xa, Xz, Xs]
           refine wl_val (.int .i64 (m + ((L[i]!).v))) rfl (fun _ => rfl) ?_
           simp only [Act.put, Xa, Xz, Xs]
           refine wl_val (.int .i64 (-(m + ((L[i]!).v)))) rfl (fun w => run_neg rfl rfl Try.underlying2 (i64_in (by omega) (by omega)) w) ?_
           simp only [Act.put, Xa, Xz, Xs]
           refine wl_val (.int .i64 (max (m + ((L[i]!).v)) (-(m + ((L[i]!).v))))) rfl (fun w => by first | exact run_max2 rfl rfl rfl rfl w | go_simp) ?_
           simp only [Act.put, Xa, Xz, Xs]
           refine wl_val (.int .i64 (max (m + ((L[i]!).v)) (-(m + ((L[i]!).v))))) rfl (fun _ => rfl) ?_
           simp only [Act.put, Xa, Xz, Xs]
           refine wl_nil ?_
           refine we_then ?_
           refine wc_seq ?_
           refine wc_region ?_
           refine wl_val (.bool f) rfl (fun _ => rfl) ?_
           simp only [Act.put, Xa, Xz, Xs]
           refine wl_val (.bool f) rfl (fun _ => rfl) ?_
           simp only [Act.put, Xa, Xz, Xs]
           cases h30 : (f)
           ·
            skip
            refine wl_val (.int .i64 (max (m + ((L[i]!).v)) (-(m + ((L[i]!).v))))) rfl (fun _ => rfl) ?_
            simp only [Act.put, Xa, Xz, Xs]
            refine wl_val (.pointer (some ⟨g1, 11, none⟩)) rfl (fun _ => by go_simp) ?_
            simp only [Act.put, Xa, Xz, Xs]
            refine wl_cell 2 (.tmp 77) (.int .i64 k.ro) (own_row 2 rfl) rfl rfl rfl rfl Try.isAgg2 ?_
            simp only [Act.put, Xa, Xz, Xs]
            refine wl_val (.bool (decide (k.ro < max (m + ((L[i]!).v)) (-(m + ((L[i]!).v)))))) rfl (fun w => run_cmp rfl rfl rfl Try.underlying2 rfl w) ?_
            simp only [Act.put, Xa, Xz, Xs]
            refine wl_val (.bool (decide (k.ro < max (m + ((L[i]!).v)) (-(m + ((L[i]!).v)))))) rfl (fun _ => rfl) ?_
            simp only [Act.put, Xa, Xz, Xs]
            refine wl_val (.bool (decide (k.ro < max (m + ((L[i]!).v)) (-(m + ((L[i]!).v)))))) rfl (fun _ => rfl) ?_
            simp only [Act.put, Xa, Xz, Xs]
            refine wl_nil ?_
            refine we_then ?_
            refine wc_seq ?_
            have b9 := b7 h11
            have b8 : lo + ((L[i]!).lo) ≤ m + ((L[i]!).v) ∧ m + ((L[i]!).v) ≤ hi + ((L[i]!).hi) := ⟨by omega, by omega⟩
            refine wc_draw [.late, .plain, .late, .plain, .late, .late, .late, .plain, .late, .late, .late, .late, .late, .late, .late, .plain, .late, .late, .late, .late, .plain, .late, .late, .late, .late, .late, .late, .plain, .late, .late, .late, .plain, .plain, .late, .late, .late] none [] 118 (by kernel_rfl) rfl (by kernel_rfl) (by kernel_rfl) ?_
            refine ws_late (.pointer (some ⟨g4, 2, none⟩)) rfl rfl (fun _ => by go_simp) ?_
            simp only [Nat.reduceAdd, Act.put, Xa, Xz, Xs]
            refine ws_part 29 (.tmp 81) [.int .i64 (lo + ((L[i]!).lo)), .int .i64 (hi + ((L[i]!).hi))] (own_row 1 rfl) rfl rfl rfl rfl rfl Try.underlying29 rfl (by kernel_rfl) ?_
            simp only [Nat.reduceAdd, Act.put, Xa, Xz, Xs]
            refine ws_late (.int .i64 (m + ((L[i]!).v))) rfl rfl (fun _ => rfl) ?_
            simp only [Nat.reduceAdd, Act.put, Xa, Xz, Xs]
            refine ws_call 10 #[.agg #[.int .i64 (lo + ((L[i]!).lo)), .int .i64 (hi + ((L[i]!).hi))], .int .i64 (m + ((L[i]!).v))] (.bool true) rfl rfl (fun _ => by go_simp) (fun W => by have h9 := has_b (lo + ((L[i]!).lo)) (hi + ((L[i]!).hi)) (m + ((L[i]!).v)) W; rwa [decide_eq_true b8.1, decide_eq_true b8.2] at h9) ?_
            simp only [Nat.reduceAdd, Act.put, Xa, Xz, Xs]
            refine ws_late (.bool false) rfl rfl (fun _ => by go_simp) ?_
            simp only [Nat.reduceAdd, Act.put, Xa, Xz, Xs]
            refine ws_late (.bool false) rfl rfl (fun _ => rfl) ?_
            simp only [Nat.reduceAdd, Act.put, Xa, Xz, Xs]
            refine ws_late (.pointer (some ⟨g4, 1, none⟩)) rfl rfl (fun _ => by go_simp) ?_
            simp only [Nat.reduceAdd, Act.put, Xa, Xz, Xs]
            refine ws_cell 4 (.tmp 87) (.bool true) (own_row 1 rfl) rfl rfl rfl rfl rfl Try.isAgg4 ?_
            simp only [Nat.reduceAdd, Act.put, Xa, Xz, Xs]
            refine ws_late (.bool true) rfl rfl (fun _ => rfl) ?_
            simp only [Nat.reduceAdd, Act.put, Xa, Xz, Xs]
            refine ws_late (.bool (decide (k.ro < max (m + ((L[i]!).v)) (-(m + ((L[i]!).v)))))) rfl rfl (fun _ => rfl) ?_
            simp only [Nat.reduceAdd, Act.put, Xa, Xz, Xs]
            refine ws_late (.bool (!(decide (k.ro < max (m + ((L[i]!).v)) (-(m + ((L[i]!).v))))))) rfl rfl (fun _ => by go_simp) ?_
            simp only [Nat.reduceAdd, Act.put, Xa, Xz, Xs]
            refine ws_late (.bool (!(decide (k.ro < max (m + ((L[i]!).v)) (-(m + ((L[i]!).v))))))) rfl rfl (fun _ => rfl) ?_
            simp only [Nat.reduceAdd, Act.put, Xa, Xz, Xs]
            refine ws_late (.bool (!(decide (k.ro < max (m + ((L[i]!).v)) (-(m + ((L[i]!).v))))))) rfl rfl (fun _ => rfl) ?_
            simp only [Nat.reduceAdd, Act.put, Xa, Xz, Xs]
            refine ws_late (.bool (!(decide (k.ro < max (m + ((L[i]!).v)) (-(m + ((L[i]!).v))))))) rfl rfl (fun _ => rfl) ?_
            simp only [Nat.reduceAdd, Act.put, Xa, Xz, Xs]
            cases h31 : (decide (k.ro < max (m + ((L[i]!).v)) (-(m + ((L[i]!).v)))))
            ·
             skip
             have p31 : ¬ (k.ro < max (m + ((L[i]!).v)) (-(m + ((L[i]!).v)))) := of_decide_eq_false h31
             refine ws_skip_late rfl rfl ?_
             simp only [Nat.reduceAdd, Act.put, Xa, Xz, Xs]
             refine ws_skip rfl rfl ?_
             simp only [Nat.reduceAdd, Act.put, Xa, Xz, Xs]
             refine ws_skip_late rfl rfl ?_
             simp only [Nat.reduceAdd, Act.put, Xa, Xz, Xs]
             refine ws_skip_late rfl rfl ?_
             simp only [Nat.reduceAdd, Act.put, Xa, Xz, Xs]
             refine ws_skip_late rfl rfl ?_
             simp only [Nat.reduceAdd, Act.put, Xa, Xz, Xs]
             refine ws_skip_late rfl rfl ?_
             simp only [Nat.reduceAdd, Act.put, Xa, Xz, Xs]
             refine ws_skip rfl rfl ?_
             simp only [Nat.reduceAdd, Act.put, Xa, Xz, Xs]
             refine ws_skip_late rfl rfl ?_
             simp only [Nat.reduceAdd, Act.put, Xa, Xz, Xs]
             refine ws_skip_late rfl rfl ?_
             simp only [Nat.reduceAdd, Act.put, Xa, Xz, Xs]
             refine ws_skip_late rfl rfl ?_
             simp only [Nat.reduceAdd, Act.put, Xa, Xz, Xs]
             refine ws_skip_late rfl rfl ?_
             simp only [Nat.reduceAdd, Act.put, Xa, Xz, Xs]
             refine ws_skip_late rfl rfl ?_
             simp only [Nat.reduceAdd, Act.put, Xa, Xz, Xs]
             refine ws_skip_late rfl rfl ?_
             simp only [Nat.reduceAdd, Act.put, Xa, Xz, Xs]
             refine ws_skip rfl rfl ?_
             simp only [Nat.reduceAdd, Act.put, Xa, Xz, Xs]
             refine ws_skip_late rfl rfl ?_
             simp only [Nat.reduceAdd, Act.put, Xa, Xz, Xs]
             refine ws_skip_late rfl rfl ?_
             simp only [Nat.reduceAdd, Act.put, Xa, Xz, Xs]
             refine ws_skip_late rfl rfl ?_
             simp only [Nat.reduceAdd, Act.put, Xa, Xz, Xs]
             refine ws_skip rfl rfl ?_
             simp only [Nat.reduceAdd, Act.put, Xa, Xz, Xs]
             refine ws_skip rfl rfl ?_
             simp only [Nat.reduceAdd, Act.put, Xa, Xz, Xs]
             refine ws_skip_late rfl rfl ?_
             simp only [Nat.reduceAdd, Act.put, Xa, Xz, Xs]
             refine ws_skip_late rfl rfl ?_
             simp only [Nat.reduceAdd, Act.put, Xa, Xz, Xs]
             refine ws_late (.bool true) rfl rfl (fun _ => rfl) ?_
             simp only [Nat.reduceAdd, Act.put, Xa, Xz, Xs]
             refine ws_nil [] trivial (by simp) ?_
             intro ps32
             simp only [fin, List.foldl_nil, List.map, List.nil_append]
             refine we_then ?_
             refine wc_true rfl ?_
             refine wc_seq ?_
             refine wc_region ?_
             refine wl_val (.bool false) rfl (fun _ => rfl) ?_
             simp only [Act.put, Xa, Xz, Xs]
             refine wl_nil ?_
             refine we_then ?_
             refine wc_ret ?_
             refine we_in_ret ?_
             refine we_then_ret ?_
             refine we_then_ret ?_
             refine we_in_ret ?_
             refine we_then_ret ?_
             refine we_ret1 (.bool false) rfl rfl rfl (fun w1 hE => ?_)
             exact (by exfalso; first | omega | simp_all)
            ·
             skip
             have p31 : k.ro < max (m + ((L[i]!).v)) (-(m + ((L[i]!).v))) := of_decide_eq_true h31
             refine ws_late (.pointer (some ⟨g4, 1, none⟩)) rfl rfl (fun _ => by go_simp) ?_
             simp only [Nat.reduceAdd, Act.put, Xa, Xz, Xs]
             refine ws_cell 4 (.tmp 95) (.bool true) (own_row 1 rfl) rfl rfl rfl rfl rfl Try.isAgg4 ?_
             simp only [Nat.reduceAdd, Act.put, Xa, Xz, Xs]
             refine ws_late (.bool false) rfl rfl (fun _ => by go_simp) ?_
             simp only [Nat.reduceAdd, Act.put, Xa, Xz, Xs]
             refine ws_late (.bool false) rfl rfl (fun _ => rfl) ?_
             simp only [Nat.reduceAdd, Act.put, Xa, Xz, Xs]
             refine ws_skip_late rfl rfl ?_
             simp only [Nat.reduceAdd, Act.put, Xa, Xz, Xs]
             refine ws_skip_late rfl rfl ?_
             simp only [Nat.reduceAdd, Act.put, Xa, Xz, Xs]
             refine ws_skip rfl rfl ?_
             simp only [Nat.reduceAdd, Act.put, Xa, Xz, Xs]
             refine ws_skip_late rfl rfl ?_
             simp only [Nat.reduceAdd, Act.put, Xa, Xz, Xs]
             refine ws_late (.bool false) rfl rfl (fun _ => rfl) ?_
             simp only [Nat.reduceAdd, Act.put, Xa, Xz, Xs]
             refine ws_late (.bool false) rfl rfl (fun _ => rfl) ?_
             simp only [Nat.reduceAdd, Act.put, Xa, Xz, Xs]
             refine ws_skip_late rfl rfl ?_
             simp only [Nat.reduceAdd, Act.put, Xa, Xz, Xs]
             refine ws_skip_late rfl rfl ?_
             simp only [Nat.reduceAdd, Act.put, Xa, Xz, Xs]
             refine ws_skip_late rfl rfl ?_
             simp only [Nat.reduceAdd, Act.put, Xa, Xz, Xs]
             refine ws_skip rfl rfl ?_
             simp only [Nat.reduceAdd, Act.put, Xa, Xz, Xs]
             refine ws_skip_late rfl rfl ?_
             simp only [Nat.reduceAdd, Act.put, Xa, Xz, Xs]
             refine ws_skip_late rfl rfl ?_
             simp only [Nat.reduceAdd, Act.put, Xa, Xz, Xs]
             refine ws_skip_late rfl rfl ?_
             simp only [Nat.reduceAdd, Act.put, Xa, Xz, Xs]
             refine ws_skip rfl rfl ?_
             simp only [Nat.reduceAdd, Act.put, Xa, Xz, Xs]
             refine ws_skip rfl rfl ?_
             simp only [Nat.reduceAdd, Act.put, Xa, Xz, Xs]
             refine ws_skip_late rfl rfl ?_
             simp only [Nat.reduceAdd, Act.put, Xa, Xz, Xs]
             refine ws_late (.bool false) rfl rfl (fun _ => rfl) ?_
             simp only [Nat.reduceAdd, Act.put, Xa, Xz, Xs]
             refine ws_late (.bool false) rfl rfl (fun _ => rfl) ?_
             simp only [Nat.reduceAdd, Act.put, Xa, Xz, Xs]
             refine ws_nil [] trivial (by simp) ?_
             intro ps33
             simp only [fin, List.foldl_nil, List.map, List.nil_append]
             refine we_then ?_
             refine wc_false rfl ?_
             refine wc_skip ?_
             refine we_in ?_
             refine we_then ?_
             refine wc_region ?_
             refine wl_val (.int .i64 ((i + 1 : Nat) : Int)) rfl (fun w => run_nat (X := i) (Y := 1) (Z := i + 1) rfl rfl rfl rfl (by omega) w) ?_
             simp only [Act.put, Xa, Xz, Xs]
             refine wl_val (.int .i64 ((i + 1 : Nat) : Int)) rfl (fun _ => rfl) ?_
             simp only [Act.put, Xa, Xz, Xs]
             refine wl_nil ?_
             exact we_meet ⟨(i + 1), true, true, (lo + ((L[i]!).lo)), (hi + ((L[i]!).hi)), (m + ((L[i]!).v)), true, _, _, _, _, _, _, _, _, _, _, _, _, _, _, _, _, _, _, _, _, _, _, _, _, _, _, _, _, _, _, _, _, _, _, _, _, _, _, _, _, _, _, _, _, _, _, _, _, _, _, _, _, _, _, _, _, _, _, _, _, _, _, _, _, _, _, _, _, _, _, _, _, _, _, _, _, _, _, _, _, _, _, _, _, _, _, _, _, _, _, _, _, _, _, _, _, _⟩ ⟨⟨by (try dsimp only); omega, by (try dsimp only); omega, by (try dsimp only); omega, by (try dsimp only); omega, by (try dsimp only); omega, by (try dsimp only); omega, fun z => ⟨by (try dsimp only); omega, by (try dsimp only); omega, by (try dsimp only); first | (intro z2; first | rfl | assumption | (exact absurd z2 (by decide)) | simp_all | omega)⟩⟩, by (try dsimp only); omega⟩ rfl (List.Sublist.cons _ (List.Sublist.cons_cons _ (List.Sublist.cons_cons _ List.Sublist.slnil)))
           ·
            skip
            refine wl_skip rfl ?_
            simp only [Act.put, Xa, Xz, Xs]
            refine wl_skip rfl ?_
            simp only [Act.put, Xa, Xz, Xs]
            refine wl_skip rfl ?_
            simp only [Act.put, Xa, Xz, Xs]
            refine wl_skip rfl ?_
            simp only [Act.put, Xa, Xz, Xs]
            refine wl_val (.bool true) rfl (fun _ => rfl) ?_
            simp only [Act.put, Xa, Xz, Xs]
            refine wl_val (.bool true) rfl (fun _ => rfl) ?_
            simp only [Act.put, Xa, Xz, Xs]
            refine wl_nil ?_
            refine we_then ?_
            refine wc_seq ?_
            have b9 := b7 h11
            have b8 : lo + ((L[i]!).lo) ≤ m + ((L[i]!).v) ∧ m + ((L[i]!).v) ≤ hi + ((L[i]!).hi) := ⟨by omega, by omega⟩
            refine wc_draw [.late, .plain, .late, .plain, .late, .late, .late, .plain, .late, .late, .late, .late, .late, .late, .late, .plain, .late, .late, .late, .late, .plain, .late, .late, .late, .late, .late, .late, .plain, .late, .late, .late, .plain, .plain, .late, .late, .late] none [] 118 (by kernel_rfl) rfl (by kernel_rfl) (by kernel_rfl) ?_
            refine ws_late (.pointer (some ⟨g4, 2, none⟩)) rfl rfl (fun _ => by go_simp) ?_
            simp only [Nat.reduceAdd, Act.put, Xa, Xz, Xs]
            refine ws_part 29 (.tmp 81) [.int .i64 (lo + ((L[i]!).lo)), .int .i64 (hi + ((L[i]!).hi))] (own_row 1 rfl) rfl rfl rfl rfl rfl Try.underlying29 rfl (by kernel_rfl) ?_
            simp only [Nat.reduceAdd, Act.put, Xa, Xz, Xs]
            refine ws_late (.int .i64 (m + ((L[i]!).v))) rfl rfl (fun _ => rfl) ?_
            simp only [Nat.reduceAdd, Act.put, Xa, Xz, Xs]
            refine ws_call 10 #[.agg #[.int .i64 (lo + ((L[i]!).lo)), .int .i64 (hi + ((L[i]!).hi))], .int .i64 (m + ((L[i]!).v))] (.bool true) rfl rfl (fun _ => by go_simp) (fun W => by have h9 := has_b (lo + ((L[i]!).lo)) (hi + ((L[i]!).hi)) (m + ((L[i]!).v)) W; rwa [decide_eq_true b8.1, decide_eq_true b8.2] at h9) ?_
            simp only [Nat.reduceAdd, Act.put, Xa, Xz, Xs]
            refine ws_late (.bool false) rfl rfl (fun _ => by go_simp) ?_
            simp only [Nat.reduceAdd, Act.put, Xa, Xz, Xs]
            refine ws_late (.bool false) rfl rfl (fun _ => rfl) ?_
            simp only [Nat.reduceAdd, Act.put, Xa, Xz, Xs]
            refine ws_late (.pointer (some ⟨g4, 1, none⟩)) rfl rfl (fun _ => by go_simp) ?_
            simp only [Nat.reduceAdd, Act.put, Xa, Xz, Xs]
            refine ws_cell 4 (.tmp 87) (.bool true) (own_row 1 rfl) rfl rfl rfl rfl rfl Try.isAgg4 ?_
            simp only [Nat.reduceAdd, Act.put, Xa, Xz, Xs]
            refine ws_late (.bool true) rfl rfl (fun _ => rfl) ?_
            simp only [Nat.reduceAdd, Act.put, Xa, Xz, Xs]
            refine ws_late (.bool true) rfl rfl (fun _ => rfl) ?_
            simp only [Nat.reduceAdd, Act.put, Xa, Xz, Xs]
            refine ws_late (.bool false) rfl rfl (fun _ => by go_simp) ?_
            simp only [Nat.reduceAdd, Act.put, Xa, Xz, Xs]
            refine ws_late (.bool false) rfl rfl (fun _ => rfl) ?_
            simp only [Nat.reduceAdd, Act.put, Xa, Xz, Xs]
            refine ws_late (.bool false) rfl rfl (fun _ => rfl) ?_
            simp only [Nat.reduceAdd, Act.put, Xa, Xz, Xs]
            refine ws_late (.bool false) rfl rfl (fun _ => rfl) ?_
            simp only [Nat.reduceAdd, Act.put, Xa, Xz, Xs]
            refine ws_late (.pointer (some ⟨g4, 1, none⟩)) rfl rfl (fun _ => by go_simp) ?_
            simp only [Nat.reduceAdd, Act.put, Xa, Xz, Xs]
            refine ws_cell 4 (.tmp 95) (.bool true) (own_row 1 rfl) rfl rfl rfl rfl rfl Try.isAgg4 ?_
            simp only [Nat.reduceAdd, Act.put, Xa, Xz, Xs]
            refine ws_late (.bool false) rfl rfl (fun _ => by go_simp) ?_
            simp only [Nat.reduceAdd, Act.put, Xa, Xz, Xs]
            refine ws_late (.bool false) rfl rfl (fun _ => rfl) ?_
            simp only [Nat.reduceAdd, Act.put, Xa, Xz, Xs]
            refine ws_skip_late rfl rfl ?_
            simp only [Nat.reduceAdd, Act.put, Xa, Xz, Xs]
            refine ws_skip_late rfl rfl ?_
            simp only [Nat.reduceAdd, Act.put, Xa, Xz, Xs]
            refine ws_skip rfl rfl ?_
            simp only [Nat.reduceAdd, Act.put, Xa, Xz, Xs]
            refine ws_skip_late rfl rfl ?_
            simp only [Nat.reduceAdd, Act.put, Xa, Xz, Xs]
            refine ws_late (.bool false) rfl rfl (fun _ => rfl) ?_
            simp only [Nat.reduceAdd, Act.put, Xa, Xz, Xs]
            refine ws_late (.bool false) rfl rfl (fun _ => rfl) ?_
            simp only [Nat.reduceAdd, Act.put, Xa, Xz, Xs]
            refine ws_skip_late rfl rfl ?_
            simp only [Nat.reduceAdd, Act.put, Xa, Xz, Xs]
            refine ws_skip_late rfl rfl ?_
            simp only [Nat.reduceAdd, Act.put, Xa, Xz, Xs]
            refine ws_skip_late rfl rfl ?_
            simp only [Nat.reduceAdd, Act.put, Xa, Xz, Xs]
            refine ws_skip rfl rfl ?_
            simp only [Nat.reduceAdd, Act.put, Xa, Xz, Xs]
            refine ws_skip_late rfl rfl ?_
            simp only [Nat.reduceAdd, Act.put, Xa, Xz, Xs]
            refine ws_skip_late rfl rfl ?_
            simp only [Nat.reduceAdd, Act.put, Xa, Xz, Xs]
            refine ws_skip_late rfl rfl ?_
            simp only [Nat.reduceAdd, Act.put, Xa, Xz, Xs]
            refine ws_skip rfl rfl ?_
            simp only [Nat.reduceAdd, Act.put, Xa, Xz, Xs]
            refine ws_skip rfl rfl ?_
            simp only [Nat.reduceAdd, Act.put, Xa, Xz, Xs]
            refine ws_skip_late rfl rfl ?_
            simp only [Nat.reduceAdd, Act.put, Xa, Xz, Xs]
            refine ws_late (.bool false) rfl rfl (fun _ => rfl) ?_
            simp only [Nat.reduceAdd, Act.put, Xa, Xz, Xs]
            refine ws_late (.bool false) rfl rfl (fun _ => rfl) ?_
            simp only [Nat.reduceAdd, Act.put, Xa, Xz, Xs]
            refine ws_nil [] trivial (by simp) ?_
            intro ps34
            simp only [fin, List.foldl_nil, List.map, List.nil_append]
            refine we_then ?_
            refine wc_false rfl ?_
            refine wc_skip ?_
            refine we_in ?_
            refine we_then ?_
            refine wc_region ?_
            refine wl_val (.int .i64 ((i + 1 : Nat) : Int)) rfl (fun w => run_nat (X := i) (Y := 1) (Z := i + 1) rfl rfl rfl rfl (by omega) w) ?_
            simp only [Act.put, Xa, Xz, Xs]
            refine wl_val (.int .i64 ((i + 1 : Nat) : Int)) rfl (fun _ => rfl) ?_
            simp only [Act.put, Xa, Xz, Xs]
            refine wl_nil ?_
            exact we_meet ⟨(i + 1), true, true, (lo + ((L[i]!).lo)), (hi + ((L[i]!).hi)), (m + ((L[i]!).v)), true, _, _, _, _, _, _, _, _, _, _, _, _, _, _, _, _, _, _, _, _, _, _, _, _, _, _, _, _, _, _, _, _, _, _, _, _, _, _, _, _, _, _, _, _, _, _, _, _, _, _, _, _, _, _, _, _, _, _, _, _, _, _, _, _, _, _, _, _, _, _, _, _, _, _, _, _, _, _, _, _, _, _, _, _, _, _, _, _, _, _, _, _, _, _, _, _, _⟩ ⟨⟨by (try dsimp only); omega, by (try dsimp only); omega, by (try dsimp only); omega, by (try dsimp only); omega, by (try dsimp only); omega, by (try dsimp only); omega, fun z => ⟨by (try dsimp only); omega, by (try dsimp only); omega, by (try dsimp only); first | (intro z2; first | rfl | assumption | (exact absurd z2 (by decide)) | simp_all | omega)⟩⟩, by (try dsimp only); omega⟩ rfl (List.Sublist.cons _ (List.Sublist.cons_cons _ (List.Sublist.cons_cons _ List.Sublist.slnil)))
         ·
          skip
          refine wl_call 9 #[.agg #[.bool true, .bool true, .int .i64 lo, .int .i64 hi], .agg #[.int .i64 k.pu, .int .i64 k.lo, .int .i64 k.hi, .int .i64 k.rb, .int .i64 k.rp, .int .i64 k.ae, .int .i64 k.ms, .int .i64 k.ma, .int .i64 k.an, .int .i64 k.st, .int .i64 k.ss, .int .i64 k.ro, .int .i64 k.ti, .int .i64 k.br], .bool ((L[i]!).st), .bool false, .agg #[.int .i64 ((L[i]!).lo), .int .i64 ((L[i]!).hi)]] (.agg #[.bool true, .bool true, .int .i64 (lo + ((L[i]!).lo)), .int .i64 (hi + ((L[i]!).hi))]) rfl (fun _ => by go_simp) (fun W => by have h9 := Rll.next_any k ⟨true, true, lo, hi⟩ ((L[i]!).st) false ((L[i]!).lo) ((L[i]!).hi) W hk ⟨by (try dsimp only); omega, by (try dsimp only); omega, by (try dsimp only); omega, by (try dsimp only); omega, by (try dsimp only); omega, by (try dsimp only); omega⟩; rwa [show (nx k ⟨true, true, lo, hi⟩ ((L[i]!).st) false ((L[i]!).lo) ((L[i]!).hi)).on = true from rfl] at h9) ?_
          simp only [Act.put, Xa, Xz, Xs]
          refine wl_store 1 31 (.tmp 5) (.tmp 58) (#[.bool true, .bool true, .int .i64 (lo + ((L[i]!).lo)), .int .i64 (hi + ((L[i]!).hi))]) rfl rfl rfl rfl rfl (by kernel_rfl) rfl (by simp [Value.oneCell']) ?_
          simp only [Act.put, List.set_cons_zero, List.set_cons_succ]
          refine wl_nil ?_
          refine we_then ?_
          refine wc_seq ?_
          refine wc_seq ?_
          refine wc_region ?_
          refine wl_val (.pointer (some ⟨g4, 0, none⟩)) rfl (fun _ => by go_simp) ?_
          simp only [Act.put, Xa, Xz, Xs]
          refine wl_cell 4 (.tmp 59) (.bool true) (own_row 1 rfl) rfl rfl rfl rfl Try.isAgg4 ?_
          simp only [Act.put, Xa, Xz, Xs]
          refine wl_val (.bool false) rfl (fun _ => by go_simp) ?_
          simp only [Act.put, Xa, Xz, Xs]
          refine wl_val (.bool false) rfl (fun _ => rfl) ?_
          simp only [Act.put, Xa, Xz, Xs]
          refine wl_val (.bool true) rfl (fun _ => rfl) ?_
          simp only [Act.put, Xa, Xz, Xs]
          refine wl_val (.bool false) rfl (fun _ => by go_simp) ?_
          simp only [Act.put, Xa, Xz, Xs]
          refine wl_val (.bool false) rfl (fun _ => rfl) ?_
          simp only [Act.put, Xa, Xz, Xs]
          refine wl_nil ?_
          refine we_then ?_
          refine wc_false rfl ?_
          refine wc_skip ?_
          refine we_then ?_
          refine wc_seq ?_
          refine wc_region ?_
          refine wl_val (.int .i64 m) rfl (fun _ => rfl) ?_
          simp only [Act.put, Xa, Xz, Xs]
          refine wl_val (.pointer (some ⟨g6, 2, none⟩)) rfl (fun _ => by go_simp) ?_
          simp only [Act.put, Xa, Xz, Xs]
          refine wl_cell 2 (.tmp 67) (.int .i64 ((L[i]!).v)) (own_row 0 rfl) rfl rfl rfl rfl Try.isAgg2 ?_
          simp only [Act.put, Xa, Xz, Xs]
          refine wl_val (.int .i64 (m + ((L[i]!).v))) rfl (fun w => run_arith (op := .add) rfl rfl rfl Try.underlying2 (congrArg some (i64_in (by omega) (by omega))) w) ?_
          simp only [Act.put, Xa, Xz, Xs]
          refine wl_val (.int .i64 (m + ((L[i]!).v))) rfl (fun _ => rfl) ?_
          simp only [Act.put, Xa, Xz, Xs]
          refine wl_nil ?_
          refine we_then ?_
          refine wc_seq ?_
          refine wc_region ?_
          refine wl_val (.int .i64 (m + ((L[i]!).v))) rfl (fun _ => rfl) ?_
          simp only [Act.put, Xa, Xz, Xs]
          refine wl_val (.int .i64 (m + ((L[i]!).v))) rfl (fun _ => rfl) ?_
          simp only [Act.put, Xa, Xz, Xs]
          refine wl_val (.int .i64 (-(m + ((L[i]!).v)))) rfl (fun w => run_neg rfl rfl Try.underlying2 (i64_in (by omega) (by omega)) w) ?_
          simp only [Act.put, Xa, Xz, Xs]
          refine wl_val (.int .i64 (max (m + ((L[i]!).v)) (-(m + ((L[i]!).v))))) rfl (fun w => by first | exact run_max2 rfl rfl rfl rfl w | go_simp) ?_
          simp only [Act.put, Xa, Xz, Xs]
          refine wl_val (.int .i64 (max (m + ((L[i]!).v)) (-(m + ((L[i]!).v))))) rfl (fun _ => rfl) ?_
          simp only [Act.put, Xa, Xz, Xs]
          refine wl_nil ?_
          refine we_then ?_
          refine wc_seq ?_
          refine wc_region ?_
          refine wl_val (.bool f) rfl (fun _ => rfl) ?_
          simp only [Act.put, Xa, Xz, Xs]
          refine wl_val (.bool f) rfl (fun _ => rfl) ?_
          simp only [Act.put, Xa, Xz, Xs]
          cases h35 : (f)
          ·
           skip
           refine wl_val (.int .i64 (max (m + ((L[i]!).v)) (-(m + ((L[i]!).v))))) rfl (fun _ => rfl) ?_
           simp only [Act.put, Xa, Xz, Xs]
           refine wl_val (.pointer (some ⟨g1, 11, none⟩)) rfl (fun _ => by go_simp) ?_
           simp only [Act.put, Xa, Xz, Xs]
           refine wl_cell 2 (.tmp 77) (.int .i64 k.ro) (own_row 2 rfl) rfl rfl rfl rfl Try.isAgg2 ?_
           simp only [Act.put, Xa, Xz, Xs]
           refine wl_val (.bool (decide (k.ro < max (m + ((L[i]!).v)) (-(m + ((L[i]!).v)))))) rfl (fun w => run_cmp rfl rfl rfl Try.underlying2 rfl w) ?_
           simp only [Act.put, Xa, Xz, Xs]
           refine wl_val (.bool (decide (k.ro < max (m + ((L[i]!).v)) (-(m + ((L[i]!).v)))))) rfl (fun _ => rfl) ?_
           simp only [Act.put, Xa, Xz, Xs]
           refine wl_val (.bool (decide (k.ro < max (m + ((L[i]!).v)) (-(m + ((L[i]!).v)))))) rfl (fun _ => rfl) ?_
           simp only [Act.put, Xa, Xz, Xs]
           refine wl_nil ?_
           refine we_then ?_
           refine wc_seq ?_
           have b9 := b7 h11
           have b8 : lo + ((L[i]!).lo) ≤ m + ((L[i]!).v) ∧ m + ((L[i]!).v) ≤ hi + ((L[i]!).hi) := ⟨by omega, by omega⟩
           refine wc_draw [.late, .plain, .late, .plain, .late, .late, .late, .plain, .late, .late, .late, .late, .late, .late, .late, .plain, .late, .late, .late, .late, .plain, .late, .late, .late, .late, .late, .late, .plain, .late, .late, .late, .plain, .plain, .late, .late, .late] none [] 118 (by kernel_rfl) rfl (by kernel_rfl) (by kernel_rfl) ?_
           refine ws_late (.pointer (some ⟨g4, 2, none⟩)) rfl rfl (fun _ => by go_simp) ?_
           simp only [Nat.reduceAdd, Act.put, Xa, Xz, Xs]
           refine ws_part 29 (.tmp 81) [.int .i64 (lo + ((L[i]!).lo)), .int .i64 (hi + ((L[i]!).hi))] (own_row 1 rfl) rfl rfl rfl rfl rfl Try.underlying29 rfl (by kernel_rfl) ?_
           simp only [Nat.reduceAdd, Act.put, Xa, Xz, Xs]
           refine ws_late (.int .i64 (m + ((L[i]!).v))) rfl rfl (fun _ => rfl) ?_
           simp only [Nat.reduceAdd, Act.put, Xa, Xz, Xs]
           refine ws_call 10 #[.agg #[.int .i64 (lo + ((L[i]!).lo)), .int .i64 (hi + ((L[i]!).hi))], .int .i64 (m + ((L[i]!).v))] (.bool true) rfl rfl (fun _ => by go_simp) (fun W => by have h9 := has_b (lo + ((L[i]!).lo)) (hi + ((L[i]!).hi)) (m + ((L[i]!).v)) W; rwa [decide_eq_true b8.1, decide_eq_true b8.2] at h9) ?_
           simp only [Nat.reduceAdd, Act.put, Xa, Xz, Xs]
           refine ws_late (.bool false) rfl rfl (fun _ => by go_simp) ?_
           simp only [Nat.reduceAdd, Act.put, Xa, Xz, Xs]
           refine ws_late (.bool false) rfl rfl (fun _ => rfl) ?_
           simp only [Nat.reduceAdd, Act.put, Xa, Xz, Xs]
           refine ws_late (.pointer (some ⟨g4, 1, none⟩)) rfl rfl (fun _ => by go_simp) ?_
           simp only [Nat.reduceAdd, Act.put, Xa, Xz, Xs]
           refine ws_cell 4 (.tmp 87) (.bool true) (own_row 1 rfl) rfl rfl rfl rfl rfl Try.isAgg4 ?_
           simp only [Nat.reduceAdd, Act.put, Xa, Xz, Xs]
           refine ws_late (.bool true) rfl rfl (fun _ => rfl) ?_
           simp only [Nat.reduceAdd, Act.put, Xa, Xz, Xs]
           refine ws_late (.bool (decide (k.ro < max (m + ((L[i]!).v)) (-(m + ((L[i]!).v)))))) rfl rfl (fun _ => rfl) ?_
           simp only [Nat.reduceAdd, Act.put, Xa, Xz, Xs]
           refine ws_late (.bool (!(decide (k.ro < max (m + ((L[i]!).v)) (-(m + ((L[i]!).v))))))) rfl rfl (fun _ => by go_simp) ?_
           simp only [Nat.reduceAdd, Act.put, Xa, Xz, Xs]
           refine ws_late (.bool (!(decide (k.ro < max (m + ((L[i]!).v)) (-(m + ((L[i]!).v))))))) rfl rfl (fun _ => rfl) ?_
           simp only [Nat.reduceAdd, Act.put, Xa, Xz, Xs]
           refine ws_late (.bool (!(decide (k.ro < max (m + ((L[i]!).v)) (-(m + ((L[i]!).v))))))) rfl rfl (fun _ => rfl) ?_
           simp only [Nat.reduceAdd, Act.put, Xa, Xz, Xs]
           refine ws_late (.bool (!(decide (k.ro < max (m + ((L[i]!).v)) (-(m + ((L[i]!).v))))))) rfl rfl (fun _ => rfl) ?_
           simp only [Nat.reduceAdd, Act.put, Xa, Xz, Xs]
           cases h36 : (decide (k.ro < max (m + ((L[i]!).v)) (-(m + ((L[i]!).v)))))
           ·
            skip
            have p36 : ¬ (k.ro < max (m + ((L[i]!).v)) (-(m + ((L[i]!).v)))) := of_decide_eq_false h36
            refine ws_skip_late rfl rfl ?_
            simp only [Nat.reduceAdd, Act.put, Xa, Xz, Xs]
            refine ws_skip rfl rfl ?_
            simp only [Nat.reduceAdd, Act.put, Xa, Xz, Xs]
            refine ws_skip_late rfl rfl ?_
            simp only [Nat.reduceAdd, Act.put, Xa, Xz, Xs]
            refine ws_skip_late rfl rfl ?_
            simp only [Nat.reduceAdd, Act.put, Xa, Xz, Xs]
            refine ws_skip_late rfl rfl ?_
            simp only [Nat.reduceAdd, Act.put, Xa, Xz, Xs]
            refine ws_skip_late rfl rfl ?_
            simp only [Nat.reduceAdd, Act.put, Xa, Xz, Xs]
            refine ws_skip rfl rfl ?_
            simp only [Nat.reduceAdd, Act.put, Xa, Xz, Xs]
            refine ws_skip_late rfl rfl ?_
            simp only [Nat.reduceAdd, Act.put, Xa, Xz, Xs]
            refine ws_skip_late rfl rfl ?_
            simp only [Nat.reduceAdd, Act.put, Xa, Xz, Xs]
            refine ws_skip_late rfl rfl ?_
            simp only [Nat.reduceAdd, Act.put, Xa, Xz, Xs]
            refine ws_skip_late rfl rfl ?_
            simp only [Nat.reduceAdd, Act.put, Xa, Xz, Xs]
            refine ws_skip_late rfl rfl ?_
            simp only [Nat.reduceAdd, Act.put, Xa, Xz, Xs]
            refine ws_skip_late rfl rfl ?_
            simp only [Nat.reduceAdd, Act.put, Xa, Xz, Xs]
            refine ws_skip rfl rfl ?_
            simp only [Nat.reduceAdd, Act.put, Xa, Xz, Xs]
            refine ws_skip_late rfl rfl ?_
            simp only [Nat.reduceAdd, Act.put, Xa, Xz, Xs]
            refine ws_skip_late rfl rfl ?_
            simp only [Nat.reduceAdd, Act.put, Xa, Xz, Xs]
            refine ws_skip_late rfl rfl ?_
            simp only [Nat.reduceAdd, Act.put, Xa, Xz, Xs]
            refine ws_skip rfl rfl ?_
            simp only [Nat.reduceAdd, Act.put, Xa, Xz, Xs]
            refine ws_skip rfl rfl ?_
            simp only [Nat.reduceAdd, Act.put, Xa, Xz, Xs]
            refine ws_skip_late rfl rfl ?_
            simp only [Nat.reduceAdd, Act.put, Xa, Xz, Xs]
            refine ws_skip_late rfl rfl ?_
            simp only [Nat.reduceAdd, Act.put, Xa, Xz, Xs]
            refine ws_late (.bool true) rfl rfl (fun _ => rfl) ?_
            simp only [Nat.reduceAdd, Act.put, Xa, Xz, Xs]
            refine ws_nil [] trivial (by simp) ?_
            intro ps37
            simp only [fin, List.foldl_nil, List.map, List.nil_append]
            refine we_then ?_
            refine wc_true rfl ?_
            refine wc_seq ?_
            refine wc_region ?_
            refine wl_val (.bool false) rfl (fun _ => rfl) ?_
            simp only [Act.put, Xa, Xz, Xs]
            refine wl_nil ?_
            refine we_then ?_
            refine wc_ret ?_
            refine we_in_ret ?_
            refine we_then_ret ?_
            refine we_then_ret ?_
            refine we_in_ret ?_
            refine we_then_ret ?_
            refine we_ret1 (.bool false) rfl rfl rfl (fun w1 hE => ?_)
            exact (by exfalso; first | omega | simp_all)
           ·
            skip
            have p36 : k.ro < max (m + ((L[i]!).v)) (-(m + ((L[i]!).v))) := of_decide_eq_true h36
            refine ws_late (.pointer (some ⟨g4, 1, none⟩)) rfl rfl (fun _ => by go_simp) ?_
            simp only [Nat.reduceAdd, Act.put, Xa, Xz, Xs]
            refine ws_cell 4 (.tmp 95) (.bool true) (own_row 1 rfl) rfl rfl rfl rfl rfl Try.isAgg4 ?_
            simp only [Nat.reduceAdd, Act.put, Xa, Xz, Xs]
            refine ws_late (.bool false) rfl rfl (fun _ => by go_simp) ?_
            simp only [Nat.reduceAdd, Act.put, Xa, Xz, Xs]
            refine ws_late (.bool false) rfl rfl (fun _ => rfl) ?_
            simp only [Nat.reduceAdd, Act.put, Xa, Xz, Xs]
            refine ws_skip_late rfl rfl ?_
            simp only [Nat.reduceAdd, Act.put, Xa, Xz, Xs]
            refine ws_skip_late rfl rfl ?_
            simp only [Nat.reduceAdd, Act.put, Xa, Xz, Xs]
            refine ws_skip rfl rfl ?_
            simp only [Nat.reduceAdd, Act.put, Xa, Xz, Xs]
            refine ws_skip_late rfl rfl ?_
            simp only [Nat.reduceAdd, Act.put, Xa, Xz, Xs]
            refine ws_late (.bool false) rfl rfl (fun _ => rfl) ?_
            simp only [Nat.reduceAdd, Act.put, Xa, Xz, Xs]
            refine ws_late (.bool false) rfl rfl (fun _ => rfl) ?_
            simp only [Nat.reduceAdd, Act.put, Xa, Xz, Xs]
            refine ws_skip_late rfl rfl ?_
            simp only [Nat.reduceAdd, Act.put, Xa, Xz, Xs]
            refine ws_skip_late rfl rfl ?_
            simp only [Nat.reduceAdd, Act.put, Xa, Xz, Xs]
            refine ws_skip_late rfl rfl ?_
            simp only [Nat.reduceAdd, Act.put, Xa, Xz, Xs]
            refine ws_skip rfl rfl ?_
            simp only [Nat.reduceAdd, Act.put, Xa, Xz, Xs]
            refine ws_skip_late rfl rfl ?_
            simp only [Nat.reduceAdd, Act.put, Xa, Xz, Xs]
            refine ws_skip_late rfl rfl ?_
            simp only [Nat.reduceAdd, Act.put, Xa, Xz, Xs]
            refine ws_skip_late rfl rfl ?_
            simp only [Nat.reduceAdd, Act.put, Xa, Xz, Xs]
            refine ws_skip rfl rfl ?_
            simp only [Nat.reduceAdd, Act.put, Xa, Xz, Xs]
            refine ws_skip rfl rfl ?_
            simp only [Nat.reduceAdd, Act.put, Xa, Xz, Xs]
            refine ws_skip_late rfl rfl ?_
            simp only [Nat.reduceAdd, Act.put, Xa, Xz, Xs]
            refine ws_late (.bool false) rfl rfl (fun _ => rfl) ?_
            simp only [Nat.reduceAdd, Act.put, Xa, Xz, Xs]
            refine ws_late (.bool false) rfl rfl (fun _ => rfl) ?_
            simp only [Nat.reduceAdd, Act.put, Xa, Xz, Xs]
            refine ws_nil [] trivial (by simp) ?_
            intro ps38
            simp only [fin, List.foldl_nil, List.map, List.nil_append]
            refine we_then ?_
            refine wc_false rfl ?_
            refine wc_skip ?_
            refine we_in ?_
            refine we_then ?_
            refine wc_region ?_
            refine wl_val (.int .i64 ((i + 1 : Nat) : Int)) rfl (fun w => run_nat (X := i) (Y := 1) (Z := i + 1) rfl rfl rfl rfl (by omega) w) ?_
            simp only [Act.put, Xa, Xz, Xs]
            refine wl_val (.int .i64 ((i + 1 : Nat) : Int)) rfl (fun _ => rfl) ?_
            simp only [Act.put, Xa, Xz, Xs]
            refine wl_nil ?_
            exact we_meet ⟨(i + 1), true, true, (lo + ((L[i]!).lo)), (hi + ((L[i]!).hi)), (m + ((L[i]!).v)), true, _, _, _, _, _, _, _, _, _, _, _, _, _, _, _, _, _, _, _, _, _, _, _, _, _, _, _, _, _, _, _, _, _, _, _, _, _, _, _, _, _, _, _, _, _, _, _, _, _, _, _, _, _, _, _, _, _, _, _, _, _, _, _, _, _, _, _, _, _, _, _, _, _, _, _, _, _, _, _, _, _, _, _, _, _, _, _, _, _, _, _, _, _, _, _, _, _⟩ ⟨⟨by (try dsimp only); omega, by (try dsimp only); omega, by (try dsimp only); omega, by (try dsimp only); omega, by (try dsimp only); omega, by (try dsimp only); omega, fun z => ⟨by (try dsimp only); omega, by (try dsimp only); omega, by (try dsimp only); first | (intro z2; first | rfl | assumption | (exact absurd z2 (by decide)) | simp_all | omega)⟩⟩, by (try dsimp only); omega⟩ rfl (List.Sublist.cons _ (List.Sublist.cons_cons _ (List.Sublist.cons_cons _ List.Sublist.slnil)))
          ·
           skip
           refine wl_skip rfl ?_
           simp only [Act.put, Xa, Xz, Xs]
           refine wl_skip rfl ?_
           simp only [Act.put, Xa, Xz, Xs]
           refine wl_skip rfl ?_
           simp only [Act.put, Xa, Xz, Xs]
           refine wl_skip rfl ?_
           simp only [Act.put, Xa, Xz, Xs]
           refine wl_val (.bool true) rfl (fun _ => rfl) ?_
           simp only [Act.put, Xa, Xz, Xs]
           refine wl_val (.bool true) rfl (fun _ => rfl) ?_
           simp only [Act.put, Xa, Xz, Xs]
           refine wl_nil ?_
           refine we_then ?_
           refine wc_seq ?_
           have b9 := b7 h11
           have b8 : lo + ((L[i]!).lo) ≤ m + ((L[i]!).v) ∧ m + ((L[i]!).v) ≤ hi + ((L[i]!).hi) := ⟨by omega, by omega⟩
           refine wc_draw [.late, .plain, .late, .plain, .late, .late, .late, .plain, .late, .late, .late, .late, .late, .late, .late, .plain, .late, .late, .late, .late, .plain, .late, .late, .late, .late, .late, .late, .plain, .late, .late, .late, .plain, .plain, .late, .late, .late] none [] 118 (by kernel_rfl) rfl (by kernel_rfl) (by kernel_rfl) ?_
           refine ws_late (.pointer (some ⟨g4, 2, none⟩)) rfl rfl (fun _ => by go_simp) ?_
           simp only [Nat.reduceAdd, Act.put, Xa, Xz, Xs]
           refine ws_part 29 (.tmp 81) [.int .i64 (lo + ((L[i]!).lo)), .int .i64 (hi + ((L[i]!).hi))] (own_row 1 rfl) rfl rfl rfl rfl rfl Try.underlying29 rfl (by kernel_rfl) ?_
           simp only [Nat.reduceAdd, Act.put, Xa, Xz, Xs]
           refine ws_late (.int .i64 (m + ((L[i]!).v))) rfl rfl (fun _ => rfl) ?_
           simp only [Nat.reduceAdd, Act.put, Xa, Xz, Xs]
           refine ws_call 10 #[.agg #[.int .i64 (lo + ((L[i]!).lo)), .int .i64 (hi + ((L[i]!).hi))], .int .i64 (m + ((L[i]!).v))] (.bool true) rfl rfl (fun _ => by go_simp) (fun W => by have h9 := has_b (lo + ((L[i]!).lo)) (hi + ((L[i]!).hi)) (m + ((L[i]!).v)) W; rwa [decide_eq_true b8.1, decide_eq_true b8.2] at h9) ?_
           simp only [Nat.reduceAdd, Act.put, Xa, Xz, Xs]
           refine ws_late (.bool false) rfl rfl (fun _ => by go_simp) ?_
           simp only [Nat.reduceAdd, Act.put, Xa, Xz, Xs]
           refine ws_late (.bool false) rfl rfl (fun _ => rfl) ?_
           simp only [Nat.reduceAdd, Act.put, Xa, Xz, Xs]
           refine ws_late (.pointer (some ⟨g4, 1, none⟩)) rfl rfl (fun _ => by go_simp) ?_
           simp only [Nat.reduceAdd, Act.put, Xa, Xz, Xs]
           refine ws_cell 4 (.tmp 87) (.bool true) (own_row 1 rfl) rfl rfl rfl rfl rfl Try.isAgg4 ?_
           simp only [Nat.reduceAdd, Act.put, Xa, Xz, Xs]
           refine ws_late (.bool true) rfl rfl (fun _ => rfl) ?_
           simp only [Nat.reduceAdd, Act.put, Xa, Xz, Xs]
           refine ws_late (.bool true) rfl rfl (fun _ => rfl) ?_
           simp only [Nat.reduceAdd, Act.put, Xa, Xz, Xs]
           refine ws_late (.bool false) rfl rfl (fun _ => by go_simp) ?_
           simp only [Nat.reduceAdd, Act.put, Xa, Xz, Xs]
           refine ws_late (.bool false) rfl rfl (fun _ => rfl) ?_
           simp only [Nat.reduceAdd, Act.put, Xa, Xz, Xs]
           refine ws_late (.bool false) rfl rfl (fun _ => rfl) ?_
           simp only [Nat.reduceAdd, Act.put, Xa, Xz, Xs]
           refine ws_late (.bool false) rfl rfl (fun _ => rfl) ?_
           simp only [Nat.reduceAdd, Act.put, Xa, Xz, Xs]
           refine ws_late (.pointer (some ⟨g4, 1, none⟩)) rfl rfl (fun _ => by go_simp) ?_
           simp only [Nat.reduceAdd, Act.put, Xa, Xz, Xs]
           refine ws_cell 4 (.tmp 95) (.bool true) (own_row 1 rfl) rfl rfl rfl rfl rfl Try.isAgg4 ?_
           simp only [Nat.reduceAdd, Act.put, Xa, Xz, Xs]
           refine ws_late (.bool false) rfl rfl (fun _ => by go_simp) ?_
           simp only [Nat.reduceAdd, Act.put, Xa, Xz, Xs]
           refine ws_late (.bool false) rfl rfl (fun _ => rfl) ?_
           simp only [Nat.reduceAdd, Act.put, Xa, Xz, Xs]
           refine ws_skip_late rfl rfl ?_
           simp only [Nat.reduceAdd, Act.put, Xa, Xz, Xs]
           refine ws_skip_late rfl rfl ?_
           simp only [Nat.reduceAdd, Act.put, Xa, Xz, Xs]
           refine ws_skip rfl rfl ?_
           simp only [Nat.reduceAdd, Act.put, Xa, Xz, Xs]
           refine ws_skip_late rfl rfl ?_
           simp only [Nat.reduceAdd, Act.put, Xa, Xz, Xs]
           refine ws_late (.bool false) rfl rfl (fun _ => rfl) ?_
           simp only [Nat.reduceAdd, Act.put, Xa, Xz, Xs]
           refine ws_late (.bool false) rfl rfl (fun _ => rfl) ?_
           simp only [Nat.reduceAdd, Act.put, Xa, Xz, Xs]
           refine ws_skip_late rfl rfl ?_
           simp only [Nat.reduceAdd, Act.put, Xa, Xz, Xs]
           refine ws_skip_late rfl rfl ?_
           simp only [Nat.reduceAdd, Act.put, Xa, Xz, Xs]
           refine ws_skip_late rfl rfl ?_
           simp only [Nat.reduceAdd, Act.put, Xa, Xz, Xs]
           refine ws_skip rfl rfl ?_
           simp only [Nat.reduceAdd, Act.put, Xa, Xz, Xs]
           refine ws_skip_late rfl rfl ?_
           simp only [Nat.reduceAdd, Act.put, Xa, Xz, Xs]
           refine ws_skip_late rfl rfl ?_
           simp only [Nat.reduceAdd, Act.put, Xa, Xz, Xs]
           refine ws_skip_late rfl rfl ?_
           simp only [Nat.reduceAdd, Act.put, Xa, Xz, Xs]
           refine ws_skip rfl rfl ?_
           simp only [Nat.reduceAdd, Act.put, Xa, Xz, Xs]
           refine ws_skip rfl rfl ?_
           simp only [Nat.reduceAdd, Act.put, Xa, Xz, Xs]
           refine ws_skip_late rfl rfl ?_
           simp only [Nat.reduceAdd, Act.put, Xa, Xz, Xs]
           refine ws_late (.bool false) rfl rfl (fun _ => rfl) ?_
           simp only [Nat.reduceAdd, Act.put, Xa, Xz, Xs]
           refine ws_late (.bool false) rfl rfl (fun _ => rfl) ?_
           simp only [Nat.reduceAdd, Act.put, Xa, Xz, Xs]
           refine ws_nil [] trivial (by simp) ?_
           intro ps39
           simp only [fin, List.foldl_nil, List.map, List.nil_append]
           refine we_then ?_
           refine wc_false rfl ?_
           refine wc_skip ?_
           refine we_in ?_
           refine we_then ?_
           refine wc_region ?_
           refine wl_val (.int .i64 ((i + 1 : Nat) : Int)) rfl (fun w => run_nat (X := i) (Y := 1) (Z := i + 1) rfl rfl rfl rfl (by omega) w) ?_
           simp only [Act.put, Xa, Xz, Xs]
           refine wl_val (.int .i64 ((i + 1 : Nat) : Int)) rfl (fun _ => rfl) ?_
           simp only [Act.put, Xa, Xz, Xs]
           refine wl_nil ?_
           exact we_meet ⟨(i + 1), true, true, (lo + ((L[i]!).lo)), (hi + ((L[i]!).hi)), (m + ((L[i]!).v)), true, _, _, _, _, _, _, _, _, _, _, _, _, _, _, _, _, _, _, _, _, _, _, _, _, _, _, _, _, _, _, _, _, _, _, _, _, _, _, _, _, _, _, _, _, _, _, _, _, _, _, _, _, _, _, _, _, _, _, _, _, _, _, _, _, _, _, _, _, _, _, _, _, _, _, _, _, _, _, _, _, _, _, _, _, _, _, _, _, _, _, _, _, _, _, _, _, _⟩ ⟨⟨by (try dsimp only); omega, by (try dsimp only); omega, by (try dsimp only); omega, by (try dsimp only); omega, by (try dsimp only); omega, by (try dsimp only); omega, fun z => ⟨by (try dsimp only); omega, by (try dsimp only); omega, by (try dsimp only); first | (intro z2; first | rfl | assumption | (exact absurd z2 (by decide)) | simp_all | omega)⟩⟩, by (try dsimp only); omega⟩ rfl (List.Sublist.cons _ (List.Sublist.cons_cons _ (List.Sublist.cons_cons _ List.Sublist.slnil)))
       ·
        skip
        refine wl_call 9 #[.agg #[.bool an, .bool on, .int .i64 lo, .int .i64 hi], .agg #[.int .i64 k.pu, .int .i64 k.lo, .int .i64 k.hi, .int .i64 k.rb, .int .i64 k.rp, .int .i64 k.ae, .int .i64 k.ms, .int .i64 k.ma, .int .i64 k.an, .int .i64 k.st, .int .i64 k.ss, .int .i64 k.ro, .int .i64 k.ti, .int .i64 k.br], .bool ((L[i]!).st), .bool true, .agg #[.int .i64 ((L[i]!).lo), .int .i64 ((L[i]!).hi)]] (.agg #[.bool false, .bool false, .int .i64 0, .int .i64 0]) rfl (fun _ => by go_simp) (fun W => by have h9 := Rll.next_any k ⟨an, on, lo, hi⟩ ((L[i]!).st) true ((L[i]!).lo) ((L[i]!).hi) W hk ⟨by (try dsimp only); omega, by (try dsimp only); omega, by (try dsimp only); omega, by (try dsimp only); omega, by (try dsimp only); omega, by (try dsimp only); omega⟩; exact h9) ?_
        simp only [Act.put, Xa, Xz, Xs]
        refine wl_store 1 31 (.tmp 5) (.tmp 58) (#[.bool false, .bool false, .int .i64 0, .int .i64 0]) rfl rfl rfl rfl rfl (by kernel_rfl) rfl (by simp [Value.oneCell']) ?_
        simp only [Act.put, List.set_cons_zero, List.set_cons_succ]
        refine wl_nil ?_
        refine we_then ?_
        refine wc_seq ?_
        refine wc_seq ?_
        refine wc_region ?_
        refine wl_val (.pointer (some ⟨g4, 0, none⟩)) rfl (fun _ => by go_simp) ?_
        simp only [Act.put, Xa, Xz, Xs]
        refine wl_cell 4 (.tmp 59) (.bool false) (own_row 1 rfl) rfl rfl rfl rfl Try.isAgg4 ?_
        simp only [Act.put, Xa, Xz, Xs]
        refine wl_val (.bool true) rfl (fun _ => by go_simp) ?_
        simp only [Act.put, Xa, Xz, Xs]
        refine wl_val (.bool true) rfl (fun _ => rfl) ?_
        simp only [Act.put, Xa, Xz, Xs]
        refine wl_skip rfl ?_
        simp only [Act.put, Xa, Xz, Xs]
        refine wl_skip rfl ?_
        simp only [Act.put, Xa, Xz, Xs]
        refine wl_val (.bool true) rfl (fun _ => rfl) ?_
        simp only [Act.put, Xa, Xz, Xs]
        refine wl_nil ?_
        refine we_then ?_
        refine wc_true rfl ?_
        refine wc_seq ?_
        refine wc_region ?_
        refine wl_val (.int .i64 0) rfl (fun _ => rfl) ?_
        simp only [Act.put, Xa, Xz, Xs]
        refine wl_val (.bool false) rfl (fun _ => rfl) ?_
        simp only [Act.put, Xa, Xz, Xs]
        refine wl_nil ?_
        refine we_then ?_
        refine wc_exit ?_
        refine we_then_exit ?_
        refine we_in_here ?_
        refine we_then ?_
        refine wc_region ?_
        refine wl_val (.int .i64 ((i + 1 : Nat) : Int)) rfl (fun w => run_nat (X := i) (Y := 1) (Z := i + 1) rfl rfl rfl rfl (by omega) w) ?_
        simp only [Act.put, Xa, Xz, Xs]
        refine wl_val (.int .i64 ((i + 1 : Nat) : Int)) rfl (fun _ => rfl) ?_
        simp only [Act.put, Xa, Xz, Xs]
        refine wl_nil ?_
        exact we_meet ⟨(i + 1), false, false, 0, 0, 0, false, _, _, _, _, _, _, _, _, _, _, _, _, _, _, _, _, _, _, _, _, _, _, _, _, _, _, _, _, _, _, _, _, _, _, _, _, _, _, _, _, _, _, _, _, _, _, _, _, _, _, _, _, _, _, _, _, _, _, _, _, _, _, _, _, _, _, _, _, _, _, _, _, _, _, _, _, _, _, _, _, _, _, _, _, _, _, _, _, _, _, _, _, _, _, _, _, _⟩ ⟨⟨by (try dsimp only); omega, by (try dsimp only); omega, by (try dsimp only); omega, by (try dsimp only); omega, by (try dsimp only); omega, by (try dsimp only); omega, fun z => ⟨by (try dsimp only); omega, by (try dsimp only); omega, by (try dsimp only); first | (intro z2; first | rfl | assumption | (exact absurd z2 (by decide)) | simp_all | omega)⟩⟩, by (try dsimp only); omega⟩ rfl (List.Sublist.cons _ (List.Sublist.cons_cons _ (List.Sublist.cons_cons _ List.Sublist.slnil)))
      ·
       skip
       have p9 : (L[i]!).hi < (L[i]!).v := of_decide_eq_true h9
       refine wc_true rfl ?_
       refine wc_seq ?_
       refine wc_region ?_
       refine wl_val (.bool true) rfl (fun _ => rfl) ?_
       simp only [Act.put, Xa, Xz, Xs]
       refine wl_nil ?_
       refine we_then ?_
       refine wc_ret ?_
       refine we_then_ret ?_
       refine we_in_ret ?_
       refine we_then_ret ?_
       refine we_then_ret ?_
       refine we_in_ret ?_
       refine we_then_ret ?_
       refine we_ret1 (.bool true) rfl rfl rfl (fun w1 hE => ?_)
       exact ⟨rfl, hE.below⟩
     ·
      skip
      have p8 : (L[i]!).v < (L[i]!).lo := of_decide_eq_true h8
      refine wl_skip rfl ?_
      simp only [Act.put, Xa, Xz, Xs]
      refine wl_skip rfl ?_
      simp only [Act.put, Xa, Xz, Xs]
      refine wl_skip rfl ?_
      simp only [Act.put, Xa, Xz, Xs]
      refine wl_skip rfl ?_
      simp only [Act.put, Xa, Xz, Xs]
      refine wl_skip rfl ?_
      simp only [Act.put, Xa, Xz, Xs]
      refine wl_skip rfl ?_
      simp only [Act.put, Xa, Xz, Xs]
      refine wl_val (.bool true) rfl (fun _ => rfl) ?_
      simp only [Act.put, Xa, Xz, Xs]
      refine wl_nil ?_
      refine we_then ?_
      refine wc_true rfl ?_
      refine wc_seq ?_
      refine wc_region ?_
      refine wl_val (.bool true) rfl (fun _ => rfl) ?_
      simp only [Act.put, Xa, Xz, Xs]
      refine wl_nil ?_
      refine we_then ?_
      refine wc_ret ?_
      refine we_then_ret ?_
      refine we_in_ret ?_
      refine we_then_ret ?_
      refine we_then_ret ?_
      refine we_in_ret ?_
      refine we_then_ret ?_
      refine we_ret1 (.bool true) rfl rfl rfl (fun w1 hE => ?_)
      exact ⟨rfl, hE.below⟩
  ·
   skip
   have p3 : 1000 < (L.length : Int) := of_decide_eq_true h3
   refine wc_true rfl ?_
   refine wc_seq ?_
   refine wc_region ?_
   refine wl_val (.bool true) rfl (fun _ => rfl) ?_
   simp only [Act.put, Xa, Xz, Xs]
   refine wl_nil ?_
   refine we_then ?_
   refine wc_ret ?_
   refine we_then_ret ?_
   refine we_ret1 (.bool true) rfl rfl rfl (fun w1 hE => ?_)
   exact ⟨rfl, hE.below⟩
 ·
  skip
  have p2 : ((wrong k : Nat) : Int) ≠ 0 := by first | (simp; done) | (simp at h2; done) | simpa using h2
  refine wl_skip rfl ?_
  simp only [Act.put, Xa, Xz, Xs]
  refine wl_skip rfl ?_
  simp only [Act.put, Xa, Xz, Xs]
  refine wl_skip rfl ?_
  simp only [Act.put, Xa, Xz, Xs]
  refine wl_val (.bool true) rfl (fun _ => rfl) ?_
  simp only [Act.put, Xa, Xz, Xs]
  refine wl_nil ?_
  refine we_then ?_
  refine wc_true rfl ?_
  refine wc_seq ?_
  refine wc_region ?_
  refine wl_val (.bool true) rfl (fun _ => rfl) ?_
  simp only [Act.put, Xa, Xz, Xs]
  refine wl_nil ?_
  refine we_then ?_
  refine wc_ret ?_
  refine we_then_ret ?_
  refine we_ret1 (.bool true) rfl rfl rfl (fun w1 hE => ?_)
  exact ⟨rfl, hE.below⟩
end Go.Proofs.Ytjpkcpoamkameaa.Walks
