/-
 StillNarrow: the law's walk. No condition.
-/
import Derived.Test.YtbacblnbmdomaaaStlw
namespace Go.Proofs.Ytbacblnbmdomaaa.Walks
open Go.ChangeShapes Go.WideShapes Go.ChangeAt Go.RowKit
open Arr Steady Sx Sw Sl Sb Sc Si Sj Sk Sh Sfn Smu Vs Gr Tk Tkh Tkl Cf Cfref Stm Stlw
set_option linter.unusedVariables false
set_option linter.unusedSimpArgs false
set_option maxRecDepth 100000

set_option maxHeartbeats 8000000 in
theorem stillNarrow_walk (k : Cf) (L : List Cy) (p : Option Addr) (c : Nat) (M : List Cy) (q : Option Addr) (d : Nat) (w : World) (hL : Reads w p (flat cy L)) (hn : L.length ≤ 140737488355328) (hM : Reads w q (flat cy M)) (hm : M.length ≤ 140737488355328) :
  Calls Try.prog 5 #[.agg #[.int .i64 k.pu, .int .i64 k.lo, .int .i64 k.hi, .int .i64 k.rb, .int .i64 k.rp, .int .i64 k.ae, .int .i64 k.ms, .int .i64 k.ma, .int .i64 k.an, .int .i64 k.st, .int .i64 k.ss, .int .i64 k.ro, .int .i64 k.ti, .int .i64 k.br], .slice p L.length c, .slice q M.length d] w fun e w' => e = .returned (.bool true) ∧ Below w.heap.size w w' := by
 refine calls_sx Try.func5 rfl ?_
 simp only [Try.ntmps5, List.size_toArray, List.length_cons, List.length_nil, Nat.reduceAdd, Nat.reduceSub, Array.replicate_succ, Array.replicate_zero, List.push_toArray, List.append_toArray, List.nil_append, List.cons_append]
 refine wc_seq ?_
 refine wc_region ?_
 refine wl_new 23 (#[.int .i64 k.pu, .int .i64 k.lo, .int .i64 k.hi, .int .i64 k.rb, .int .i64 k.rp, .int .i64 k.ae, .int .i64 k.ms, .int .i64 k.ma, .int .i64 k.an, .int .i64 k.st, .int .i64 k.ss, .int .i64 k.ro, .int .i64 k.ti, .int .i64 k.br]) rfl (fun _ => by go_simp) ?_
 intro g1
 simp only [Act.put, Xa, Xz, Xs]
 refine wl_val (.bool false) rfl (fun _ => rfl) ?_
 simp only [Act.put, Xa, Xz, Xs]
 refine wl_nil ?_
 refine we_then ?_
 refine wc_seq ?_
 refine wc_seq ?_
 refine wc_region ?_
 refine wl_call 6 #[] (.bool true) rfl (fun _ => by go_simp) (fun W => Stlw.anchor_any W) ?_
 simp only [Act.put, Xa, Xz, Xs]
 refine wl_val (.bool false) rfl (fun _ => by go_simp) ?_
 simp only [Act.put, Xa, Xz, Xs]
 refine wl_nil ?_
 refine we_then ?_
 refine wc_false rfl ?_
 refine wc_skip ?_
 refine we_then ?_
 refine wc_seq ?_
 refine wc_seq ?_
 refine wc_region ?_
 refine wl_load 23 (.tmp 3) (own_row 0 rfl) rfl rfl rfl Try.underlying23 rfl (by kernel_rfl) ?_
 simp only [Act.put, Xa, Xz, Xs]
 refine wl_call 7 #[.agg #[.int .i64 k.pu, .int .i64 k.lo, .int .i64 k.hi, .int .i64 k.rb, .int .i64 k.rp, .int .i64 k.ae, .int .i64 k.ms, .int .i64 k.ma, .int .i64 k.an, .int .i64 k.st, .int .i64 k.ss, .int .i64 k.ro, .int .i64 k.ti, .int .i64 k.br]] (.int .i64 ((wrong k : Nat) : Int)) rfl (fun _ => by go_simp) (fun W => wrong_any k W) ?_
 simp only [Act.put, Xa, Xz, Xs]
 refine wl_val (.bool (((wrong k : Nat) : Int) != 0)) rfl (fun w => run_cmp rfl rfl rfl Try.underlying3 rfl w) ?_
 simp only [Act.put, Xa, Xz, Xs]
 refine wl_val (.bool (((wrong k : Nat) : Int) != 0)) rfl (fun _ => rfl) ?_
 simp only [Act.put, Xa, Xz, Xs]
 cases h2 : (((wrong k : Nat) : Int) != 0)
 ·
  skip
  have p2 : ¬ (((wrong k : Nat) : Int) ≠ 0) := by first | (simp; done) | (simp at h2; done) | simpa using h2
  refine wl_val (.slice p L.length c) rfl (fun _ => rfl) ?_
  simp only [Act.put, Xa, Xz, Xs]
  refine wl_val (.int .i64 (L.length : Int)) rfl (fun w => er_len rfl rfl Try.underlying24 w) ?_
  simp only [Act.put, Xa, Xz, Xs]
  refine wl_val (.bool (decide (3000 < (L.length : Int)))) rfl (fun w => run_cmp rfl rfl rfl Try.underlying3 rfl w) ?_
  simp only [Act.put, Xa, Xz, Xs]
  refine wl_val (.bool (decide (3000 < (L.length : Int)))) rfl (fun _ => rfl) ?_
  simp only [Act.put, Xa, Xz, Xs]
  refine wl_val (.bool (decide (3000 < (L.length : Int)))) rfl (fun _ => rfl) ?_
  simp only [Act.put, Xa, Xz, Xs]
  cases h3 : (decide (3000 < (L.length : Int)))
  ·
   skip
   have p3 : ¬ (3000 < (L.length : Int)) := of_decide_eq_false h3
   refine wl_val (.slice p L.length c) rfl (fun _ => rfl) ?_
   simp only [Act.put, Xa, Xz, Xs]
   refine wl_val (.int .i64 (L.length : Int)) rfl (fun w => er_len rfl rfl Try.underlying24 w) ?_
   simp only [Act.put, Xa, Xz, Xs]
   refine wl_val (.slice q M.length d) rfl (fun _ => rfl) ?_
   simp only [Act.put, Xa, Xz, Xs]
   refine wl_val (.int .i64 (M.length : Int)) rfl (fun w => er_len rfl rfl Try.underlying24 w) ?_
   simp only [Act.put, Xa, Xz, Xs]
   refine wl_val (.bool ((L.length : Int) != (M.length : Int))) rfl (fun w => run_cmp rfl rfl rfl Try.underlying3 rfl w) ?_
   simp only [Act.put, Xa, Xz, Xs]
   refine wl_val (.bool ((L.length : Int) != (M.length : Int))) rfl (fun _ => rfl) ?_
   simp only [Act.put, Xa, Xz, Xs]
   refine wl_nil ?_
   refine we_then ?_
   cases h4 : ((L.length : Int) != (M.length : Int))
   ·
    skip
    have p4 : ¬ ((L.length : Int) ≠ (M.length : Int)) := by first | (simp; done) | (simp at h4; done) | simpa using h4
    refine wc_false rfl ?_
    refine wc_skip ?_
    refine we_then ?_
    refine wc_seq ?_
    have hk := ok_of (c := k) (by omega)
    have hk1 := hk.st1
    have hk2 := hk.st2
    have hk3 := hk.ss2
    have hk4 := hk.rb1
    have hk5 := hk.ss3
    refine wc_region ?_
    refine wl_new 29 (#[.int .i64 0, .bool false]) rfl (fun _ => by go_simp) ?_
    intro g5
    simp only [Act.put, Xa, Xz, Xs]
    refine wl_new 29 (#[.int .i64 0, .bool false]) rfl (fun _ => by go_simp) ?_
    intro g6
    simp only [Act.put, Xa, Xz, Xs]
    refine wl_nil ?_
    refine we_then ?_
    refine wc_seq ?_
    refine wc_seq ?_
    refine wc_region ?_
    refine wl_val (.slice p L.length c) rfl (fun _ => rfl) ?_
    simp only [Act.put, Xa, Xz, Xs]
    refine wl_val (.int .i64 (L.length : Int)) rfl (fun w => er_len rfl rfl Try.underlying24 w) ?_
    simp only [Act.put, Xa, Xz, Xs]
    refine wl_val (.int .i64 0) rfl (fun _ => rfl) ?_
    simp only [Act.put, Xa, Xz, Xs]
    refine wl_nil ?_
    refine we_then ?_
    refine wc_block ?_
    refine wc_loop (fun (zz : Nat × Int × Bool × Int × Bool × Value × Value × Value × Value × Value × Value × Value × Value × Value × Value × Value × Value × Value × Value × Value × Value × Value × Value × Value × Value × Value × Value × Value × Value × Value × Value × Value × Value × Value × Value × Value × Value × Value × Value × Value × Value × Value × Value × Value × Value × Value × Value × Value × Value × Value × Value × Value × Value × Value × Value × Value × Value × Value × Value × Value × Value × Value × Value × Value × Value × Value × Value × Value × Value × Value × Value × Value × Value × Value × Value × Value × Value × Value × Value × Value × Value × Value × Value × Value × Value × Value × Value) => match zz with | ⟨i, s, o, t, u, u6, u9, u10, u11, u32, u33, u34, u35, u36, u37, u38, u39, u40, u41, u42, u43, u44, u45, u46, u47, u48, u49, u50, u51, u52, u53, u54, u55, u56, u57, u58, u59, u60, u61, u62, u63, u64, u65, u66, u67, u68, u69, u70, u71, u72, u73, u74, u75, u76, u77, u78, u79, u80, u81, u82, u83, u84, u85, u86, u87, u88, u89, u90, u91, u92, u93, u94, u95, u96, u97, u98, u99, u100, u101, u102, u103, u104, u105, u106, u107, u108, u109⟩ => ({ tmps := #[.agg #[.int .i64 k.pu, .int .i64 k.lo, .int .i64 k.hi, .int .i64 k.rb, .int .i64 k.rp, .int .i64 k.ae, .int .i64 k.ms, .int .i64 k.ma, .int .i64 k.an, .int .i64 k.st, .int .i64 k.ss, .int .i64 k.ro, .int .i64 k.ti, .int .i64 k.br], .slice p L.length c, .slice q M.length d, .pointer (some ⟨g1, 0, none⟩), undef, undef, u6, .pointer (some ⟨g5, 0, none⟩), .pointer (some ⟨g6, 0, none⟩), u9, u10, u11, .bool true, .bool false, .agg #[.int .i64 k.pu, .int .i64 k.lo, .int .i64 k.hi, .int .i64 k.rb, .int .i64 k.rp, .int .i64 k.ae, .int .i64 k.ms, .int .i64 k.ma, .int .i64 k.an, .int .i64 k.st, .int .i64 k.ss, .int .i64 k.ro, .int .i64 k.ti, .int .i64 k.br], .int .i64 ((wrong k : Nat) : Int), .bool false, .bool false, .slice p L.length c, .int .i64 (L.length : Int), .bool false, .bool false, .bool false, .slice p L.length c, .int .i64 (L.length : Int), .slice q M.length d, .int .i64 (M.length : Int), .bool false, .bool false, .slice p L.length c, .int .i64 (L.length : Int), .int .i64 (i : Int), u32, u33, u34, u35, u36, u37, u38, u39, u40, u41, u42, u43, u44, u45, u46, u47, u48, u49, u50, u51, u52, u53, u54, u55, u56, u57, u58, u59, u60, u61, u62, u63, u64, u65, u66, u67, u68, u69, u70, u71, u72, u73, u74, u75, u76, u77, u78, u79, u80, u81, u82, u83, u84, u85, u86, u87, u88, u89, u90, u91, u92, u93, u94, u95, u96, u97, u98, u99, u100, u101, u102, u103, u104, u105, u106, u107, u108, u109], defers := [] } : Act)) (fun (zz : Nat × Int × Bool × Int × Bool × Value × Value × Value × Value × Value × Value × Value × Value × Value × Value × Value × Value × Value × Value × Value × Value × Value × Value × Value × Value × Value × Value × Value × Value × Value × Value × Value × Value × Value × Value × Value × Value × Value × Value × Value × Value × Value × Value × Value × Value × Value × Value × Value × Value × Value × Value × Value × Value × Value × Value × Value × Value × Value × Value × Value × Value × Value × Value × Value × Value × Value × Value × Value × Value × Value × Value × Value × Value × Value × Value × Value × Value × Value × Value × Value × Value × Value × Value × Value × Value × Value × Value) => match zz with | ⟨i, s, o, t, u, u6, u9, u10, u11, u32, u33, u34, u35, u36, u37, u38, u39, u40, u41, u42, u43, u44, u45, u46, u47, u48, u49, u50, u51, u52, u53, u54, u55, u56, u57, u58, u59, u60, u61, u62, u63, u64, u65, u66, u67, u68, u69, u70, u71, u72, u73, u74, u75, u76, u77, u78, u79, u80, u81, u82, u83, u84, u85, u86, u87, u88, u89, u90, u91, u92, u93, u94, u95, u96, u97, u98, u99, u100, u101, u102, u103, u104, u105, u106, u107, u108, u109⟩ => [⟨g6, #[.int .i64 t, .bool u], 29⟩, ⟨g5, #[.int .i64 s, .bool o], 29⟩, ⟨g1, #[.int .i64 k.pu, .int .i64 k.lo, .int .i64 k.hi, .int .i64 k.rb, .int .i64 k.rp, .int .i64 k.ae, .int .i64 k.ms, .int .i64 k.ma, .int .i64 k.an, .int .i64 k.st, .int .i64 k.ss, .int .i64 k.ro, .int .i64 k.ti, .int .i64 k.br], 23⟩]) (fun (zz : Nat × Int × Bool × Int × Bool × Value × Value × Value × Value × Value × Value × Value × Value × Value × Value × Value × Value × Value × Value × Value × Value × Value × Value × Value × Value × Value × Value × Value × Value × Value × Value × Value × Value × Value × Value × Value × Value × Value × Value × Value × Value × Value × Value × Value × Value × Value × Value × Value × Value × Value × Value × Value × Value × Value × Value × Value × Value × Value × Value × Value × Value × Value × Value × Value × Value × Value × Value × Value × Value × Value × Value × Value × Value × Value × Value × Value × Value × Value × Value × Value × Value × Value × Value × Value × Value × Value × Value) => match zz with | ⟨i, s, o, t, u, u6, u9, u10, u11, u32, u33, u34, u35, u36, u37, u38, u39, u40, u41, u42, u43, u44, u45, u46, u47, u48, u49, u50, u51, u52, u53, u54, u55, u56, u57, u58, u59, u60, u61, u62, u63, u64, u65, u66, u67, u68, u69, u70, u71, u72, u73, u74, u75, u76, u77, u78, u79, u80, u81, u82, u83, u84, u85, u86, u87, u88, u89, u90, u91, u92, u93, u94, u95, u96, u97, u98, u99, u100, u101, u102, u103, u104, u105, u106, u107, u108, u109⟩ => i ≤ L.length ∧ 0 ≤ s ∧ s ≤ t ∧ t ≤ k.st ∧ (o = true → u = true)) (fun (zz : Nat × Int × Bool × Int × Bool × Value × Value × Value × Value × Value × Value × Value × Value × Value × Value × Value × Value × Value × Value × Value × Value × Value × Value × Value × Value × Value × Value × Value × Value × Value × Value × Value × Value × Value × Value × Value × Value × Value × Value × Value × Value × Value × Value × Value × Value × Value × Value × Value × Value × Value × Value × Value × Value × Value × Value × Value × Value × Value × Value × Value × Value × Value × Value × Value × Value × Value × Value × Value × Value × Value × Value × Value × Value × Value × Value × Value × Value × Value × Value × Value × Value × Value × Value × Value × Value × Value × Value) => match zz with | ⟨i, s, o, t, u, u6, u9, u10, u11, u32, u33, u34, u35, u36, u37, u38, u39, u40, u41, u42, u43, u44, u45, u46, u47, u48, u49, u50, u51, u52, u53, u54, u55, u56, u57, u58, u59, u60, u61, u62, u63, u64, u65, u66, u67, u68, u69, u70, u71, u72, u73, u74, u75, u76, u77, u78, u79, u80, u81, u82, u83, u84, u85, u86, u87, u88, u89, u90, u91, u92, u93, u94, u95, u96, u97, u98, u99, u100, u101, u102, u103, u104, u105, u106, u107, u108, u109⟩ => L.length - i) ⟨0, 0, false, 0, false, _, _, _, _, _, _, _, _, _, _, _, _, _, _, _, _, _, _, _, _, _, _, _, _, _, _, _, _, _, _, _, _, _, _, _, _, _, _, _, _, _, _, _, _, _, _, _, _, _, _, _, _, _, _, _, _, _, _, _, _, _, _, _, _, _, _, _, _, _, _, _, _, _, _, _, _, _, _, _, _, _, _⟩ ⟨Nat.zero_le _, by omega, by omega, by omega, by decide⟩ rfl (List.Sublist.cons_cons _ (List.Sublist.cons_cons _ (List.Sublist.cons_cons _ List.Sublist.slnil))) ?_
    rintro ⟨i, s, o, t, u, u6, u9, u10, u11, u32, u33, u34, u35, u36, u37, u38, u39, u40, u41, u42, u43, u44, u45, u46, u47, u48, u49, u50, u51, u52, u53, u54, u55, u56, u57, u58, u59, u60, u61, u62, u63, u64, u65, u66, u67, u68, u69, u70, u71, u72, u73, u74, u75, u76, u77, u78, u79, u80, u81, u82, u83, u84, u85, u86, u87, u88, u89, u90, u91, u92, u93, u94, u95, u96, u97, u98, u99, u100, u101, u102, u103, u104, u105, u106, u107, u108, u109⟩ hφ
    (try dsimp only at hφ ⊢)
    obtain ⟨b1, b2, b3, b4, b5⟩ := hφ
    refine wc_seq ?_
    refine wc_region ?_
    refine wl_val (.bool (decide ((i : Int) < (L.length : Int)))) rfl (fun w => run_cmp rfl rfl rfl Try.underlying3 rfl w) ?_
    simp only [Act.put, Xa, Xz, Xs]
    refine wl_nil ?_
    refine we_then ?_
    refine wc_seq ?_
    cases h7 : (decide ((i : Int) < (L.length : Int)))
    ·
     skip
     have p7 : ¬ ((i : Int) < (L.length : Int)) := of_decide_eq_false h7
     refine wc_false rfl ?_
     refine wc_exit ?_
     refine we_then_exit ?_
     refine we_then_exit ?_
     refine we_in_here ?_
     refine we_then ?_
     refine wc_seq ?_
     refine wc_region ?_
     refine wl_val (.bool true) rfl (fun _ => rfl) ?_
     simp only [Act.put, Xa, Xz, Xs]
     refine wl_nil ?_
     refine we_then ?_
     refine wc_ret ?_
     refine we_ret1 (.bool true) rfl rfl rfl (fun w1 hE => ?_)
     exact ⟨rfl, hE.below⟩
    ·
     skip
     have p7 : (i : Int) < (L.length : Int) := of_decide_eq_true h7
     refine wc_true rfl ?_
     refine wc_skip ?_
     refine we_then ?_
     refine wc_seq ?_
     refine wc_block ?_
     refine wc_seq ?_
     refine wc_region ?_
     refine wl_val (.int .i64 (i : Int)) rfl (fun _ => rfl) ?_
     simp only [Act.put, Xa, Xz, Xs]
     refine wl_read (eaddr p (i * 3)) rfl (er_index i 3 (sl_old hL) rfl rfl rfl rfl (by omega) (flat_length (enc := cy) (size := 3) (fun _ => rfl) _) (by decide) Try.underlying24 (by kernel_rfl)) ?_
     simp only [Act.put, Xa, Xz, Xs]
     refine wl_read (.agg #[.int .i64 ((L[i]!).lo), .int .i64 ((L[i]!).hi), .int .i64 ((L[i]!).fit)]) rfl (er_part (i * 3) [.int .i64 ((L[i]!).lo), .int .i64 ((L[i]!).hi), .int .i64 ((L[i]!).fit)] (sl_old hL) rfl rfl (flat_part (enc := cy) (fun _ => rfl) L i (by omega)) (Nat.zero_lt_succ _) Try.underlying33 rfl (by kernel_rfl)) ?_
     simp only [Act.put, Xa, Xz, Xs]
     refine wl_new 33 (#[.int .i64 0, .int .i64 0, .int .i64 0]) rfl (fun _ => by go_simp) ?_
     intro g8
     simp only [Act.put, Xa, Xz, Xs]
     refine wl_val (.int .i64 (i : Int)) rfl (fun _ => rfl) ?_
     simp only [Act.put, Xa, Xz, Xs]
     refine wl_store 0 33 (.tmp 10) (.tmp 35) (#[.int .i64 ((L[i]!).lo), .int .i64 ((L[i]!).hi), .int .i64 ((L[i]!).fit)]) rfl rfl rfl rfl rfl (by kernel_rfl) rfl (by simp [Value.oneCell']) ?_
     simp only [Act.put, List.set_cons_zero]
     refine wl_nil ?_
     refine we_then ?_
     refine wc_seq ?_
     refine wc_region ?_
     refine wl_val (.slice q M.length d) rfl (fun _ => rfl) ?_
     simp only [Act.put, Xa, Xz, Xs]
     refine wl_val (.int .i64 (i : Int)) rfl (fun _ => rfl) ?_
     simp only [Act.put, Xa, Xz, Xs]
     refine wl_read (eaddr q (i * 3)) rfl (er_index i 3 (sl_old hM) rfl rfl rfl rfl (by omega) (flat_length (enc := cy) (size := 3) (fun _ => rfl) _) (by decide) Try.underlying24 (by kernel_rfl)) ?_
     simp only [Act.put, Xa, Xz, Xs]
     refine wl_read (.agg #[.int .i64 ((M[i]!).lo), .int .i64 ((M[i]!).hi), .int .i64 ((M[i]!).fit)]) rfl (er_part (i * 3) [.int .i64 ((M[i]!).lo), .int .i64 ((M[i]!).hi), .int .i64 ((M[i]!).fit)] (sl_old hM) rfl rfl (flat_part (enc := cy) (fun _ => rfl) M i (by omega)) (Nat.zero_lt_succ _) Try.underlying33 rfl (by kernel_rfl)) ?_
     simp only [Act.put, Xa, Xz, Xs]
     refine wl_new 33 (#[.int .i64 0, .int .i64 0, .int .i64 0]) rfl (fun _ => by go_simp) ?_
     intro g9
     simp only [Act.put, Xa, Xz, Xs]
     refine wl_store 0 33 (.tmp 11) (.tmp 39) (#[.int .i64 ((M[i]!).lo), .int .i64 ((M[i]!).hi), .int .i64 ((M[i]!).fit)]) rfl rfl rfl rfl rfl (by kernel_rfl) rfl (by simp [Value.oneCell']) ?_
     simp only [Act.put, List.set_cons_zero]
     refine wl_nil ?_
     refine we_then ?_
     refine wc_seq ?_
     refine wc_seq ?_
     refine wc_region ?_
     refine wl_val (.pointer (some ⟨g8, 0, none⟩)) rfl (fun _ => by go_simp) ?_
     simp only [Act.put, Xa, Xz, Xs]
     refine wl_val (.pointer (some ⟨g8, 0, none⟩)) rfl (fun _ => by go_simp) ?_
     simp only [Act.put, Xa, Xz, Xs]
     refine wl_cell 2 (.tmp 41) (.int .i64 ((L[i]!).lo)) (own_row 1 rfl) rfl rfl rfl rfl Try.isAgg2 ?_
     simp only [Act.put, Xa, Xz, Xs]
     refine wl_val (.pointer (some ⟨g8, 0, none⟩)) rfl (fun _ => by go_simp) ?_
     simp only [Act.put, Xa, Xz, Xs]
     refine wl_val (.pointer (some ⟨g8, 1, none⟩)) rfl (fun _ => by go_simp) ?_
     simp only [Act.put, Xa, Xz, Xs]
     refine wl_cell 2 (.tmp 44) (.int .i64 ((L[i]!).hi)) (own_row 1 rfl) rfl rfl rfl rfl Try.isAgg2 ?_
     simp only [Act.put, Xa, Xz, Xs]
     refine wl_val (.bool (decide ((L[i]!).hi < (L[i]!).lo))) rfl (fun w => run_cmp rfl rfl rfl Try.underlying2 rfl w) ?_
     simp only [Act.put, Xa, Xz, Xs]
     refine wl_val (.bool (decide ((L[i]!).hi < (L[i]!).lo))) rfl (fun _ => rfl) ?_
     simp only [Act.put, Xa, Xz, Xs]
     cases h10 : (decide ((L[i]!).hi < (L[i]!).lo))
     ·
      skip
      have p10 : ¬ ((L[i]!).hi < (L[i]!).lo) := of_decide_eq_false h10
      refine wl_val (.pointer (some ⟨g9, 0, none⟩)) rfl (fun _ => by go_simp) ?_
      simp only [Act.put, Xa, Xz, Xs]
      refine wl_val (.pointer (some ⟨g9, 0, none⟩)) rfl (fun _ => by go_simp) ?_
      simp only [Act.put, Xa, Xz, Xs]
      refine wl_cell 2 (.tmp 49) (.int .i64 ((M[i]!).lo)) (own_row 0 rfl) rfl rfl rfl rfl Try.isAgg2 ?_
      simp only [Act.put, Xa, Xz, Xs]
      refine wl_val (.pointer (some ⟨g9, 0, none⟩)) rfl (fun _ => by go_simp) ?_
      simp only [Act.put, Xa, Xz, Xs]
      refine wl_val (.pointer (some ⟨g9, 1, none⟩)) rfl (fun _ => by go_simp) ?_
      simp only [Act.put, Xa, Xz, Xs]
      refine wl_cell 2 (.tmp 52) (.int .i64 ((M[i]!).hi)) (own_row 0 rfl) rfl rfl rfl rfl Try.isAgg2 ?_
      simp only [Act.put, Xa, Xz, Xs]
      refine wl_val (.bool (decide ((M[i]!).hi < (M[i]!).lo))) rfl (fun w => run_cmp rfl rfl rfl Try.underlying2 rfl w) ?_
      simp only [Act.put, Xa, Xz, Xs]
      refine wl_val (.bool (decide ((M[i]!).hi < (M[i]!).lo))) rfl (fun _ => rfl) ?_
      simp only [Act.put, Xa, Xz, Xs]
      refine wl_val (.bool (decide ((M[i]!).hi < (M[i]!).lo))) rfl (fun _ => rfl) ?_
      simp only [Act.put, Xa, Xz, Xs]
      cases h11 : (decide ((M[i]!).hi < (M[i]!).lo))
      ·
       skip
       have p11 : ¬ ((M[i]!).hi < (M[i]!).lo) := of_decide_eq_false h11
       refine wl_val (.pointer (some ⟨g9, 0, none⟩)) rfl (fun _ => by go_simp) ?_
       simp only [Act.put, Xa, Xz, Xs]
       refine wl_val (.pointer (some ⟨g9, 0, none⟩)) rfl (fun _ => by go_simp) ?_
       simp only [Act.put, Xa, Xz, Xs]
       refine wl_cell 2 (.tmp 58) (.int .i64 ((M[i]!).lo)) (own_row 0 rfl) rfl rfl rfl rfl Try.isAgg2 ?_
       simp only [Act.put, Xa, Xz, Xs]
       refine wl_val (.pointer (some ⟨g8, 0, none⟩)) rfl (fun _ => by go_simp) ?_
       simp only [Act.put, Xa, Xz, Xs]
       refine wl_val (.pointer (some ⟨g8, 0, none⟩)) rfl (fun _ => by go_simp) ?_
       simp only [Act.put, Xa, Xz, Xs]
       refine wl_cell 2 (.tmp 61) (.int .i64 ((L[i]!).lo)) (own_row 1 rfl) rfl rfl rfl rfl Try.isAgg2 ?_
       simp only [Act.put, Xa, Xz, Xs]
       refine wl_val (.bool (decide ((M[i]!).lo < (L[i]!).lo))) rfl (fun w => run_cmp rfl rfl rfl Try.underlying2 rfl w) ?_
       simp only [Act.put, Xa, Xz, Xs]
       refine wl_val (.bool (decide ((M[i]!).lo < (L[i]!).lo))) rfl (fun _ => rfl) ?_
       simp only [Act.put, Xa, Xz, Xs]
       refine wl_val (.bool (decide ((M[i]!).lo < (L[i]!).lo))) rfl (fun _ => rfl) ?_
       simp only [Act.put, Xa, Xz, Xs]
       cases h12 : (decide ((M[i]!).lo < (L[i]!).lo))
       ·
        skip
        have p12 : ¬ ((M[i]!).lo < (L[i]!).lo) := of_decide_eq_false h12
        refine wl_val (.pointer (some ⟨g9, 0, none⟩)) rfl (fun _ => by go_simp) ?_
        simp only [Act.put, Xa, Xz, Xs]
        refine wl_val (.pointer (some ⟨g9, 1, none⟩)) rfl (fun _ => by go_simp) ?_
        simp only [Act.put, Xa, Xz, Xs]
        refine wl_cell 2 (.tmp 67) (.int .i64 ((M[i]!).hi)) (own_row 0 rfl) rfl rfl rfl rfl Try.isAgg2 ?_
        simp only [Act.put, Xa, Xz, Xs]
        refine wl_val (.pointer (some ⟨g8, 0, none⟩)) rfl (fun _ => by go_simp) ?_
        simp only [Act.put, Xa, Xz, Xs]
        refine wl_val (.pointer (some ⟨g8, 1, none⟩)) rfl (fun _ => by go_simp) ?_
        simp only [Act.put, Xa, Xz, Xs]
        refine wl_cell 2 (.tmp 70) (.int .i64 ((L[i]!).hi)) (own_row 1 rfl) rfl rfl rfl rfl Try.isAgg2 ?_
        simp only [Act.put, Xa, Xz, Xs]
        refine wl_val (.bool (decide ((L[i]!).hi < (M[i]!).hi))) rfl (fun w => run_cmp rfl rfl rfl Try.underlying2 rfl w) ?_
        simp only [Act.put, Xa, Xz, Xs]
        refine wl_val (.bool (decide ((L[i]!).hi < (M[i]!).hi))) rfl (fun _ => rfl) ?_
        simp only [Act.put, Xa, Xz, Xs]
        refine wl_val (.bool (decide ((L[i]!).hi < (M[i]!).hi))) rfl (fun _ => rfl) ?_
        simp only [Act.put, Xa, Xz, Xs]
        cases h13 : (decide ((L[i]!).hi < (M[i]!).hi))
        ·
         skip
         have p13 : ¬ ((L[i]!).hi < (M[i]!).hi) := of_decide_eq_false h13
         refine wl_val (.pointer (some ⟨g9, 2, none⟩)) rfl (fun _ => by go_simp) ?_
         simp only [Act.put, Xa, Xz, Xs]
         refine wl_cell 3 (.tmp 75) (.int .i64 ((M[i]!).fit)) (own_row 0 rfl) rfl rfl rfl rfl Try.isAgg3 ?_
         simp only [Act.put, Xa, Xz, Xs]
         refine wl_val (.pointer (some ⟨g8, 2, none⟩)) rfl (fun _ => by go_simp) ?_
         simp only [Act.put, Xa, Xz, Xs]
         refine wl_cell 3 (.tmp 77) (.int .i64 ((L[i]!).fit)) (own_row 1 rfl) rfl rfl rfl rfl Try.isAgg3 ?_
         simp only [Act.put, Xa, Xz, Xs]
         refine wl_val (.bool (decide ((M[i]!).fit < (L[i]!).fit))) rfl (fun w => run_cmp rfl rfl rfl Try.underlying3 rfl w) ?_
         simp only [Act.put, Xa, Xz, Xs]
         refine wl_val (.bool (decide ((M[i]!).fit < (L[i]!).fit))) rfl (fun _ => rfl) ?_
         simp only [Act.put, Xa, Xz, Xs]
         refine wl_nil ?_
         refine we_then ?_
         cases h14 : (decide ((M[i]!).fit < (L[i]!).fit))
         ·
          skip
          have p14 : ¬ ((M[i]!).fit < (L[i]!).fit) := of_decide_eq_false h14
          refine wc_false rfl ?_
          refine wc_skip ?_
          refine we_then ?_
          refine wc_seq ?_
          have y1 := nxN_in (c := k) (n := s) (a := (L[i]!).lo) (b := (L[i]!).hi) (f := (L[i]!).fit) hk1 (by omega)
          have y2 := nxN_in (c := k) (n := t) (a := (M[i]!).lo) (b := (M[i]!).hi) (f := (M[i]!).fit) hk1 (by omega)
          have y3 : nxN k s (L[i]!).lo (L[i]!).hi (L[i]!).fit ≤ nxN k t (M[i]!).lo (M[i]!).hi (M[i]!).fit := by unfold nxN; split <;> split <;> omega
          have y4 : nxO k s (L[i]!).lo (L[i]!).hi (L[i]!).fit = true → nxO k t (M[i]!).lo (M[i]!).hi (M[i]!).fit = true := fun z => by have z1 := nxO_of z; exact decide_eq_true (by omega)
          refine wc_draw_fin (Γ := Unit) (fun _ j9 => ([.agg #[.int .i64 s, .bool o], .agg #[.int .i64 k.pu, .int .i64 k.lo, .int .i64 k.hi, .int .i64 k.rb, .int .i64 k.rp, .int .i64 k.ae, .int .i64 k.ms, .int .i64 k.ma, .int .i64 k.an, .int .i64 k.st, .int .i64 k.ss, .int .i64 k.ro, .int .i64 k.ti, .int .i64 k.br], .pointer (some ⟨g8, 0, none⟩), .agg #[.int .i64 ((L[i]!).lo), .int .i64 ((L[i]!).hi)], .pointer (some ⟨g8, 2, none⟩), .int .i64 ((L[i]!).fit), .agg #[.int .i64 (nxN k s ((L[i]!).lo) ((L[i]!).hi) ((L[i]!).fit)), .bool (nxO k s ((L[i]!).lo) ((L[i]!).hi) ((L[i]!).fit))], .agg #[.int .i64 t, .bool u], .agg #[.int .i64 k.pu, .int .i64 k.lo, .int .i64 k.hi, .int .i64 k.rb, .int .i64 k.rp, .int .i64 k.ae, .int .i64 k.ms, .int .i64 k.ma, .int .i64 k.an, .int .i64 k.st, .int .i64 k.ss, .int .i64 k.ro, .int .i64 k.ti, .int .i64 k.br], .pointer (some ⟨g9, 0, none⟩), .agg #[.int .i64 ((M[i]!).lo), .int .i64 ((M[i]!).hi)], .pointer (some ⟨g9, 2, none⟩), .int .i64 ((M[i]!).fit), .agg #[.int .i64 (nxN k t ((M[i]!).lo) ((M[i]!).hi) ((M[i]!).fit)), .bool (nxO k t ((M[i]!).lo) ((M[i]!).hi) ((M[i]!).fit))], undef, undef]).getD j9 undef) (fun ld _ => ⟨g9, #[.int .i64 ((M[i]!).lo), .int .i64 ((M[i]!).hi), .int .i64 ((M[i]!).fit)], 33⟩ :: ⟨g8, #[.int .i64 ((L[i]!).lo), .int .i64 ((L[i]!).hi), .int .i64 ((L[i]!).fit)], 33⟩ :: ⟨g6, (if ld 15 = true then #[.int .i64 (nxN k t ((M[i]!).lo) ((M[i]!).hi) ((M[i]!).fit)), .bool (nxO k t ((M[i]!).lo) ((M[i]!).hi) ((M[i]!).fit))] else #[.int .i64 t, .bool u]), 29⟩ :: ⟨g5, (if ld 14 = true then #[.int .i64 (nxN k s ((L[i]!).lo) ((L[i]!).hi) ((L[i]!).fit)), .bool (nxO k s ((L[i]!).lo) ((L[i]!).hi) ((L[i]!).fit))] else #[.int .i64 s, .bool o]), 29⟩ :: ⟨g1, #[.int .i64 k.pu, .int .i64 k.lo, .int .i64 k.hi, .int .i64 k.rb, .int .i64 k.rp, .int .i64 k.ae, .int .i64 k.ms, .int .i64 k.ma, .int .i64 k.an, .int .i64 k.st, .int .i64 k.ss, .int .i64 k.ro, .int .i64 k.ti, .int .i64 k.br], 23⟩ :: []) (fun _ _ => True) () 110 (fun _ => ({ tmps := #[.agg #[.int .i64 k.pu, .int .i64 k.lo, .int .i64 k.hi, .int .i64 k.rb, .int .i64 k.rp, .int .i64 k.ae, .int .i64 k.ms, .int .i64 k.ma, .int .i64 k.an, .int .i64 k.st, .int .i64 k.ss, .int .i64 k.ro, .int .i64 k.ti, .int .i64 k.br], .slice p L.length c, .slice q M.length d, .pointer (some ⟨g1, 0, none⟩), undef, undef, u6, .pointer (some ⟨g5, 0, none⟩), .pointer (some ⟨g6, 0, none⟩), .int .i64 (i : Int), .pointer (some ⟨g8, 0, none⟩), .pointer (some ⟨g9, 0, none⟩), .bool true, .bool false, .agg #[.int .i64 k.pu, .int .i64 k.lo, .int .i64 k.hi, .int .i64 k.rb, .int .i64 k.rp, .int .i64 k.ae, .int .i64 k.ms, .int .i64 k.ma, .int .i64 k.an, .int .i64 k.st, .int .i64 k.ss, .int .i64 k.ro, .int .i64 k.ti, .int .i64 k.br], .int .i64 ((wrong k : Nat) : Int), .bool false, .bool false, .slice p L.length c, .int .i64 (L.length : Int), .bool false, .bool false, .bool false, .slice p L.length c, .int .i64 (L.length : Int), .slice q M.length d, .int .i64 (M.length : Int), .bool false, .bool false, .slice p L.length c, .int .i64 (L.length : Int), .int .i64 (i : Int), .bool true, .int .i64 (i : Int), eaddr p (i * 3), .agg #[.int .i64 ((L[i]!).lo), .int .i64 ((L[i]!).hi), .int .i64 ((L[i]!).fit)], .slice q M.length d, .int .i64 (i : Int), eaddr q (i * 3), .agg #[.int .i64 ((M[i]!).lo), .int .i64 ((M[i]!).hi), .int .i64 ((M[i]!).fit)], .pointer (some ⟨g8, 0, none⟩), .pointer (some ⟨g8, 0, none⟩), .int .i64 ((L[i]!).lo), .pointer (some ⟨g8, 0, none⟩), .pointer (some ⟨g8, 1, none⟩), .int .i64 ((L[i]!).hi), .bool false, .bool false, .pointer (some ⟨g9, 0, none⟩), .pointer (some ⟨g9, 0, none⟩), .int .i64 ((M[i]!).lo), .pointer (some ⟨g9, 0, none⟩), .pointer (some ⟨g9, 1, none⟩), .int .i64 ((M[i]!).hi), .bool false, .bool false, .bool false, .pointer (some ⟨g9, 0, none⟩), .pointer (some ⟨g9, 0, none⟩), .int .i64 ((M[i]!).lo), .pointer (some ⟨g8, 0, none⟩), .pointer (some ⟨g8, 0, none⟩), .int .i64 ((L[i]!).lo), .bool false, .bool false, .bool false, .pointer (some ⟨g9, 0, none⟩), .pointer (some ⟨g9, 1, none⟩), .int .i64 ((M[i]!).hi), .pointer (some ⟨g8, 0, none⟩), .pointer (some ⟨g8, 1, none⟩), .int .i64 ((L[i]!).hi), .bool false, .bool false, .bool false, .pointer (some ⟨g9, 2, none⟩), .int .i64 ((M[i]!).fit), .pointer (some ⟨g8, 2, none⟩), .int .i64 ((L[i]!).fit), .bool false, .bool false, .agg #[.int .i64 s, .bool o], .agg #[.int .i64 k.pu, .int .i64 k.lo, .int .i64 k.hi, .int .i64 k.rb, .int .i64 k.rp, .int .i64 k.ae, .int .i64 k.ms, .int .i64 k.ma, .int .i64 k.an, .int .i64 k.st, .int .i64 k.ss, .int .i64 k.ro, .int .i64 k.ti, .int .i64 k.br], .pointer (some ⟨g8, 0, none⟩), .agg #[.int .i64 ((L[i]!).lo), .int .i64 ((L[i]!).hi)], .pointer (some ⟨g8, 2, none⟩), .int .i64 ((L[i]!).fit), .agg #[.int .i64 (nxN k s ((L[i]!).lo) ((L[i]!).hi) ((L[i]!).fit)), .bool (nxO k s ((L[i]!).lo) ((L[i]!).hi) ((L[i]!).fit))], .agg #[.int .i64 t, .bool u], .agg #[.int .i64 k.pu, .int .i64 k.lo, .int .i64 k.hi, .int .i64 k.rb, .int .i64 k.rp, .int .i64 k.ae, .int .i64 k.ms, .int .i64 k.ma, .int .i64 k.an, .int .i64 k.st, .int .i64 k.ss, .int .i64 k.ro, .int .i64 k.ti, .int .i64 k.br], .pointer (some ⟨g9, 0, none⟩), .agg #[.int .i64 ((M[i]!).lo), .int .i64 ((M[i]!).hi)], .pointer (some ⟨g9, 2, none⟩), .int .i64 ((M[i]!).fit), .agg #[.int .i64 (nxN k t ((M[i]!).lo) ((M[i]!).hi) ((M[i]!).fit)), .bool (nxO k t ((M[i]!).lo) ((M[i]!).hi) ((M[i]!).fit))], u95, u96, u97, u98, u99, u100, u101, u102, u103, u104, u105, u106, u107, u108, u109], defers := [] } : Act)) (fun _ => [⟨g9, #[.int .i64 ((M[i]!).lo), .int .i64 ((M[i]!).hi), .int .i64 ((M[i]!).fit)], 33⟩, ⟨g8, #[.int .i64 ((L[i]!).lo), .int .i64 ((L[i]!).hi), .int .i64 ((L[i]!).fit)], 33⟩, ⟨g6, #[.int .i64 (nxN k t ((M[i]!).lo) ((M[i]!).hi) ((M[i]!).fit)), .bool (nxO k t ((M[i]!).lo) ((M[i]!).hi) ((M[i]!).fit))], 29⟩, ⟨g5, #[.int .i64 (nxN k s ((L[i]!).lo) ((L[i]!).hi) ((L[i]!).fit)), .bool (nxO k s ((L[i]!).lo) ((L[i]!).hi) ((L[i]!).fit))], 29⟩, ⟨g1, #[.int .i64 k.pu, .int .i64 k.lo, .int .i64 k.hi, .int .i64 k.rb, .int .i64 k.rp, .int .i64 k.ae, .int .i64 k.ms, .int .i64 k.ma, .int .i64 k.an, .int .i64 k.st, .int .i64 k.ss, .int .i64 k.ro, .int .i64 k.ti, .int .i64 k.br], 23⟩]) (by kernel_rfl) rfl (by kernel_rfl) rfl trivial (fun _ => by kernel_rfl) (fun _ => rfl) ?_ ?_
          ·
           skip
           refine sps_cons (sp_val (.agg #[.int .i64 s, .bool o]) rfl (fun _ => rfl) (fun _ _ h => h) (fun _ _ => rfl) (fun ld γ9 a9 w9 h9 hE9 => ?_)) ?_
           ·
            skip
            have dl14 : ld 14 = false := h9.non (by kernel_rfl)
            have hE2 := hE9
            (try dsimp only at hE2)
            simp only [dl14, if_true, if_false, Bool.false_eq_true] at hE2
            exact load_row (hE2.rowAt (i := 3) rfl) rfl (h9.out (by kernel_rfl) rfl) Try.underlying29 rfl (by kernel_rfl)
           refine sps_cons (sp_val (.agg #[.int .i64 k.pu, .int .i64 k.lo, .int .i64 k.hi, .int .i64 k.rb, .int .i64 k.rp, .int .i64 k.ae, .int .i64 k.ms, .int .i64 k.ma, .int .i64 k.an, .int .i64 k.st, .int .i64 k.ss, .int .i64 k.ro, .int .i64 k.ti, .int .i64 k.br]) rfl (fun _ => rfl) (fun _ _ h => h) (fun _ _ => rfl) (fun ld γ9 a9 w9 h9 hE9 => ?_)) ?_
           ·
            skip
            have hE2 := hE9
            (try dsimp only at hE2)
            exact load_row (hE2.rowAt (i := 4) rfl) rfl (h9.out (by kernel_rfl) rfl) Try.underlying23 rfl (by kernel_rfl)
           refine sps_cons (sp_val (.pointer (some ⟨g8, 0, none⟩)) rfl (fun _ => rfl) (fun _ _ h => h) (fun _ _ => rfl) (fun ld γ9 a9 w9 h9 hE9 => run_fieldAddr (f := 0) (off := 0) (d := 0) (z := 1) rfl (h9.out (by kernel_rfl) rfl) Try.underlying33 rfl rfl (by kernel_rfl) w9)) ?_
           refine sps_cons (sp_val (.agg #[.int .i64 ((L[i]!).lo), .int .i64 ((L[i]!).hi)]) rfl (fun _ => rfl) (fun _ _ h => h) (fun _ _ => rfl) (fun ld γ9 a9 w9 h9 hE9 => ?_)) ?_
           ·
            skip
            have hE2 := hE9
            (try dsimp only at hE2)
            exact load_part (ps := [.int .i64 ((L[i]!).lo), .int .i64 ((L[i]!).hi)]) (hE2.rowAt (i := 1) rfl) rfl rfl (h9.tmp 2 rfl (h9.dep (by kernel_rfl))) Try.underlying31 rfl (by kernel_rfl)
           refine sps_cons (sp_val (.pointer (some ⟨g8, 2, none⟩)) rfl (fun _ => rfl) (fun _ _ h => h) (fun _ _ => rfl) (fun ld γ9 a9 w9 h9 hE9 => run_fieldAddr (f := 1) (off := 0) (d := 2) (z := 0) rfl (h9.out (by kernel_rfl) rfl) Try.underlying33 rfl rfl (by kernel_rfl) w9)) ?_
           refine sps_cons (sp_val (.int .i64 ((L[i]!).fit)) rfl (fun _ => rfl) (fun _ _ h => h) (fun _ _ => rfl) (fun ld γ9 a9 w9 h9 hE9 => ?_)) ?_
           ·
            skip
            have hE2 := hE9
            (try dsimp only at hE2)
            exact load_cell (hE2.rowAt (i := 1) rfl) rfl rfl (h9.tmp 4 rfl (h9.dep (by kernel_rfl))) Try.isAgg3
           refine sps_cons (sp_call 9 (.agg #[.int .i64 (nxN k s ((L[i]!).lo) ((L[i]!).hi) ((L[i]!).fit)), .bool (nxO k s ((L[i]!).lo) ((L[i]!).hi) ((L[i]!).fit))]) rfl (fun _ => rfl) (fun _ _ h => h) (fun _ _ => rfl) (fun ld γ9 a9 w9 h9 hF9 hE9 => ?_)) ?_
           ·
            skip
            have dl14 : ld 14 = false := h9.non (by kernel_rfl)
            have dl15 : ld 15 = false := h9.non (by kernel_rfl)
            have hE2 := hE9
            (try dsimp only at hE2)
            simp only [dl14, dl15, if_true, if_false, Bool.false_eq_true] at hE2
            have e0 : a9.eval (.tmp 81) = .agg #[.int .i64 s, .bool o] := (h9.tmp 0 rfl (h9.dep (by kernel_rfl)))
            have e1 : a9.eval (.tmp 82) = .agg #[.int .i64 k.pu, .int .i64 k.lo, .int .i64 k.hi, .int .i64 k.rb, .int .i64 k.rp, .int .i64 k.ae, .int .i64 k.ms, .int .i64 k.ma, .int .i64 k.an, .int .i64 k.st, .int .i64 k.ss, .int .i64 k.ro, .int .i64 k.ti, .int .i64 k.br] := (h9.tmp 1 rfl (h9.dep (by kernel_rfl)))
            have e2 : a9.eval (.tmp 84) = .agg #[.int .i64 ((L[i]!).lo), .int .i64 ((L[i]!).hi)] := (h9.tmp 3 rfl (h9.dep (by kernel_rfl)))
            have e3 : a9.eval (.tmp 86) = .int .i64 ((L[i]!).fit) := (h9.tmp 5 rfl (h9.dep (by kernel_rfl)))
            exact ⟨#[.agg #[.int .i64 s, .bool o], .agg #[.int .i64 k.pu, .int .i64 k.lo, .int .i64 k.hi, .int .i64 k.rb, .int .i64 k.rp, .int .i64 k.ae, .int .i64 k.ms, .int .i64 k.ma, .int .i64 k.an, .int .i64 k.st, .int .i64 k.ss, .int .i64 k.ro, .int .i64 k.ti, .int .i64 k.br], .agg #[.int .i64 ((L[i]!).lo), .int .i64 ((L[i]!).hi)], .int .i64 ((L[i]!).fit)], er_callg (enters_of Try.func9 (by kernel_rfl) rfl) rfl (by simp only [List.map_toArray, List.map_cons, List.map_nil, e0, e1, e2, e3]) w9, (Stl.next_any k s o ((L[i]!).lo) ((L[i]!).hi) ((L[i]!).fit) w9 hk (by omega) (by omega) (by omega))⟩
           refine sps_cons (sp_val (.agg #[.int .i64 t, .bool u]) rfl (fun _ => rfl) (fun _ _ h => h) (fun _ _ => rfl) (fun ld γ9 a9 w9 h9 hE9 => ?_)) ?_
           ·
            skip
            have dl15 : ld 15 = false := h9.non (by kernel_rfl)
            have hE2 := hE9
            (try dsimp only at hE2)
            simp only [dl15, if_true, if_false, Bool.false_eq_true] at hE2
            exact load_row (hE2.rowAt (i := 2) rfl) rfl (h9.out (by kernel_rfl) rfl) Try.underlying29 rfl (by kernel_rfl)
           refine sps_cons (sp_val (.agg #[.int .i64 k.pu, .int .i64 k.lo, .int .i64 k.hi, .int .i64 k.rb, .int .i64 k.rp, .int .i64 k.ae, .int .i64 k.ms, .int .i64 k.ma, .int .i64 k.an, .int .i64 k.st, .int .i64 k.ss, .int .i64 k.ro, .int .i64 k.ti, .int .i64 k.br]) rfl (fun _ => rfl) (fun _ _ h => h) (fun _ _ => rfl) (fun ld γ9 a9 w9 h9 hE9 => ?_)) ?_
           ·
            skip
            have hE2 := hE9
            (try dsimp only at hE2)
            exact load_row (hE2.rowAt (i := 4) rfl) rfl (h9.out (by kernel_rfl) rfl) Try.underlying23 rfl (by kernel_rfl)
           refine sps_cons (sp_val (.pointer (some ⟨g9, 0, none⟩)) rfl (fun _ => rfl) (fun _ _ h => h) (fun _ _ => rfl) (fun ld γ9 a9 w9 h9 hE9 => run_fieldAddr (f := 0) (off := 0) (d := 0) (z := 1) rfl (h9.out (by kernel_rfl) rfl) Try.underlying33 rfl rfl (by kernel_rfl) w9)) ?_
           refine sps_cons (sp_val (.agg #[.int .i64 ((M[i]!).lo), .int .i64 ((M[i]!).hi)]) rfl (fun _ => rfl) (fun _ _ h => h) (fun _ _ => rfl) (fun ld γ9 a9 w9 h9 hE9 => ?_)) ?_
           ·
            skip
            have hE2 := hE9
            (try dsimp only at hE2)
            exact load_part (ps := [.int .i64 ((M[i]!).lo), .int .i64 ((M[i]!).hi)]) (hE2.rowAt (i := 0) rfl) rfl rfl (h9.tmp 9 rfl (h9.dep (by kernel_rfl))) Try.underlying31 rfl (by kernel_rfl)
           refine sps_cons (sp_val (.pointer (some ⟨g9, 2, none⟩)) rfl (fun _ => rfl) (fun _ _ h => h) (fun _ _ => rfl) (fun ld γ9 a9 w9 h9 hE9 => run_fieldAddr (f := 1) (off := 0) (d := 2) (z := 0) rfl (h9.out (by kernel_rfl) rfl) Try.underlying33 rfl rfl (by kernel_rfl) w9)) ?_
           refine sps_cons (sp_val (.int .i64 ((M[i]!).fit)) rfl (fun _ => rfl) (fun _ _ h => h) (fun _ _ => rfl) (fun ld γ9 a9 w9 h9 hE9 => ?_)) ?_
           ·
            skip
            have hE2 := hE9
            (try dsimp only at hE2)
            exact load_cell (hE2.rowAt (i := 0) rfl) rfl rfl (h9.tmp 11 rfl (h9.dep (by kernel_rfl))) Try.isAgg3
           refine sps_cons (sp_call 9 (.agg #[.int .i64 (nxN k t ((M[i]!).lo) ((M[i]!).hi) ((M[i]!).fit)), .bool (nxO k t ((M[i]!).lo) ((M[i]!).hi) ((M[i]!).fit))]) rfl (fun _ => rfl) (fun _ _ h => h) (fun _ _ => rfl) (fun ld γ9 a9 w9 h9 hF9 hE9 => ?_)) ?_
           ·
            skip
            have dl14 : ld 14 = false := h9.non (by kernel_rfl)
            have dl15 : ld 15 = false := h9.non (by kernel_rfl)
            have hE2 := hE9
            (try dsimp only at hE2)
            simp only [dl14, dl15, if_true, if_false, Bool.false_eq_true] at hE2
            have e0 : a9.eval (.tmp 88) = .agg #[.int .i64 t, .bool u] := (h9.tmp 7 rfl (h9.dep (by kernel_rfl)))
            have e1 : a9.eval (.tmp 89) = .agg #[.int .i64 k.pu, .int .i64 k.lo, .int .i64 k.hi, .int .i64 k.rb, .int .i64 k.rp, .int .i64 k.ae, .int .i64 k.ms, .int .i64 k.ma, .int .i64 k.an, .int .i64 k.st, .int .i64 k.ss, .int .i64 k.ro, .int .i64 k.ti, .int .i64 k.br] := (h9.tmp 8 rfl (h9.dep (by kernel_rfl)))
            have e2 : a9.eval (.tmp 91) = .agg #[.int .i64 ((M[i]!).lo), .int .i64 ((M[i]!).hi)] := (h9.tmp 10 rfl (h9.dep (by kernel_rfl)))
            have e3 : a9.eval (.tmp 93) = .int .i64 ((M[i]!).fit) := (h9.tmp 12 rfl (h9.dep (by kernel_rfl)))
            exact ⟨#[.agg #[.int .i64 t, .bool u], .agg #[.int .i64 k.pu, .int .i64 k.lo, .int .i64 k.hi, .int .i64 k.rb, .int .i64 k.rp, .int .i64 k.ae, .int .i64 k.ms, .int .i64 k.ma, .int .i64 k.an, .int .i64 k.st, .int .i64 k.ss, .int .i64 k.ro, .int .i64 k.ti, .int .i64 k.br], .agg #[.int .i64 ((M[i]!).lo), .int .i64 ((M[i]!).hi)], .int .i64 ((M[i]!).fit)], er_callg (enters_of Try.func9 (by kernel_rfl) rfl) rfl (by simp only [List.map_toArray, List.map_cons, List.map_nil, e0, e1, e2, e3]) w9, (Stl.next_any k t u ((M[i]!).lo) ((M[i]!).hi) ((M[i]!).fit) w9 hk (by omega) (by omega) (by omega))⟩
           refine sps_cons (sp_row 29 (.tmp 7) (.tmp 87) 3 rfl rfl (fun _ => rfl) (fun _ _ h => h) (fun ld γ9 a9 h9 hF9 => ?_)) ?_
           ·
            have dl14 : ld 14 = false := h9.off
            (try dsimp only)
            exact ⟨g5, #[.int .i64 (nxN k s ((L[i]!).lo) ((L[i]!).hi) ((L[i]!).fit)), .bool (nxO k s ((L[i]!).lo) ((L[i]!).hi) ((L[i]!).fit))], (if ld 14 = true then #[.int .i64 (nxN k s ((L[i]!).lo) ((L[i]!).hi) ((L[i]!).fit)), .bool (nxO k s ((L[i]!).lo) ((L[i]!).hi) ((L[i]!).fit))] else #[.int .i64 s, .bool o]), 29, (h9.out (by kernel_rfl) rfl), (h9.tmp 6 rfl (h9.dep (by kernel_rfl))), (by kernel_rfl), rfl, by simp only [dl14, if_false, Bool.false_eq_true]; rfl, (by simp [Value.oneCell']), rfl⟩
           refine sps_cons (sp_row 29 (.tmp 8) (.tmp 94) 2 rfl rfl (fun _ => rfl) (fun _ _ h => h) (fun ld γ9 a9 h9 hF9 => ?_)) ?_
           ·
            have dl15 : ld 15 = false := h9.off
            (try dsimp only)
            exact ⟨g6, #[.int .i64 (nxN k t ((M[i]!).lo) ((M[i]!).hi) ((M[i]!).fit)), .bool (nxO k t ((M[i]!).lo) ((M[i]!).hi) ((M[i]!).fit))], (if ld 15 = true then #[.int .i64 (nxN k t ((M[i]!).lo) ((M[i]!).hi) ((M[i]!).fit)), .bool (nxO k t ((M[i]!).lo) ((M[i]!).hi) ((M[i]!).fit))] else #[.int .i64 t, .bool u]), 29, (h9.out (by kernel_rfl) rfl), (h9.tmp 13 rfl (h9.dep (by kernel_rfl))), (by kernel_rfl), rfl, by simp only [dl15, if_false, Bool.false_eq_true]; rfl, (by simp [Value.oneCell']), rfl⟩
           exact sps_nil
          rintro ⟨⟩ -
          (try dsimp only)
          refine we_then ?_
          refine wc_seq ?_
          refine wc_region ?_
          refine wl_val (.pointer (some ⟨g5, 1, none⟩)) rfl (fun _ => by go_simp) ?_
          simp only [Act.put, Xa, Xz, Xs]
          refine wl_cell 4 (.tmp 95) (.bool (nxO k s ((L[i]!).lo) ((L[i]!).hi) ((L[i]!).fit))) (own_row 3 rfl) rfl rfl rfl rfl Try.isAgg4 ?_
          simp only [Act.put, Xa, Xz, Xs]
          refine wl_val (.bool (nxO k s ((L[i]!).lo) ((L[i]!).hi) ((L[i]!).fit))) rfl (fun _ => rfl) ?_
          simp only [Act.put, Xa, Xz, Xs]
          cases h15 : (nxO k s ((L[i]!).lo) ((L[i]!).hi) ((L[i]!).fit))
          ·
           skip
           refine wl_skip rfl ?_
           simp only [Act.put, Xa, Xz, Xs]
           refine wl_skip rfl ?_
           simp only [Act.put, Xa, Xz, Xs]
           refine wl_skip rfl ?_
           simp only [Act.put, Xa, Xz, Xs]
           refine wl_val (.bool false) rfl (fun _ => rfl) ?_
           simp only [Act.put, Xa, Xz, Xs]
           refine wl_val (.bool false) rfl (fun _ => rfl) ?_
           simp only [Act.put, Xa, Xz, Xs]
           refine wl_val (.pointer (some ⟨g6, 0, none⟩)) rfl (fun _ => by go_simp) ?_
           simp only [Act.put, Xa, Xz, Xs]
           refine wl_cell 3 (.tmp 103) (.int .i64 (nxN k t ((M[i]!).lo) ((M[i]!).hi) ((M[i]!).fit))) (own_row 2 rfl) rfl rfl rfl rfl Try.isAgg3 ?_
           simp only [Act.put, Xa, Xz, Xs]
           refine wl_val (.pointer (some ⟨g5, 0, none⟩)) rfl (fun _ => by go_simp) ?_
           simp only [Act.put, Xa, Xz, Xs]
           refine wl_cell 3 (.tmp 105) (.int .i64 (nxN k s ((L[i]!).lo) ((L[i]!).hi) ((L[i]!).fit))) (own_row 3 rfl) rfl rfl rfl rfl Try.isAgg3 ?_
           simp only [Act.put, Xa, Xz, Xs]
           refine wl_val (.bool (decide ((nxN k t ((M[i]!).lo) ((M[i]!).hi) ((M[i]!).fit)) < (nxN k s ((L[i]!).lo) ((L[i]!).hi) ((L[i]!).fit))))) rfl (fun w => run_cmp rfl rfl rfl Try.underlying3 rfl w) ?_
           simp only [Act.put, Xa, Xz, Xs]
           refine wl_val (.bool (decide ((nxN k t ((M[i]!).lo) ((M[i]!).hi) ((M[i]!).fit)) < (nxN k s ((L[i]!).lo) ((L[i]!).hi) ((L[i]!).fit))))) rfl (fun _ => rfl) ?_
           simp only [Act.put, Xa, Xz, Xs]
           refine wl_nil ?_
           refine we_then ?_
           cases h16 : (decide ((nxN k t ((M[i]!).lo) ((M[i]!).hi) ((M[i]!).fit)) < (nxN k s ((L[i]!).lo) ((L[i]!).hi) ((L[i]!).fit))))
           ·
            skip
            have p16 : ¬ ((nxN k t ((M[i]!).lo) ((M[i]!).hi) ((M[i]!).fit)) < (nxN k s ((L[i]!).lo) ((L[i]!).hi) ((L[i]!).fit))) := of_decide_eq_false h16
            refine wc_false rfl ?_
            refine wc_skip ?_
            refine we_in ?_
            refine we_then ?_
            refine wc_region ?_
            refine wl_val (.int .i64 ((i + 1 : Nat) : Int)) rfl (fun w => run_nat (X := i) (Y := 1) (Z := i + 1) rfl rfl rfl rfl (by omega) w) ?_
            simp only [Act.put, Xa, Xz, Xs]
            refine wl_val (.int .i64 ((i + 1 : Nat) : Int)) rfl (fun _ => rfl) ?_
            simp only [Act.put, Xa, Xz, Xs]
            refine wl_nil ?_
            exact we_meet ⟨(i + 1), (nxN k s ((L[i]!).lo) ((L[i]!).hi) ((L[i]!).fit)), false, (nxN k t ((M[i]!).lo) ((M[i]!).hi) ((M[i]!).fit)), (nxO k t ((M[i]!).lo) ((M[i]!).hi) ((M[i]!).fit)), _, _, _, _, _, _, _, _, _, _, _, _, _, _, _, _, _, _, _, _, _, _, _, _, _, _, _, _, _, _, _, _, _, _, _, _, _, _, _, _, _, _, _, _, _, _, _, _, _, _, _, _, _, _, _, _, _, _, _, _, _, _, _, _, _, _, _, _, _, _, _, _, _, _, _, _, _, _, _, _, _, _⟩ ⟨⟨by (try dsimp only); omega, by (try dsimp only); omega, by (try dsimp only); omega, by (try dsimp only); omega, by (try dsimp only); intro z; first | assumption | rfl | exact absurd z (by decide) | simp_all⟩, by (try dsimp only); omega⟩ rfl (List.Sublist.cons _ (List.Sublist.cons _ (List.Sublist.cons_cons _ (List.Sublist.cons_cons _ (List.Sublist.cons_cons _ List.Sublist.slnil)))))
           ·
            skip
            have p16 : (nxN k t ((M[i]!).lo) ((M[i]!).hi) ((M[i]!).fit)) < (nxN k s ((L[i]!).lo) ((L[i]!).hi) ((L[i]!).fit)) := of_decide_eq_true h16
            refine wc_true rfl ?_
            refine wc_seq ?_
            refine wc_region ?_
            refine wl_val (.bool false) rfl (fun _ => rfl) ?_
            simp only [Act.put, Xa, Xz, Xs]
            refine wl_nil ?_
            refine we_then ?_
            refine wc_ret ?_
            refine we_in_ret ?_
            refine we_then_ret ?_
            refine we_then_ret ?_
            refine we_in_ret ?_
            refine we_then_ret ?_
            refine we_ret1 (.bool false) rfl rfl rfl (fun w1 hE => ?_)
            exact (by exfalso; first | omega | simp_all)
          ·
           skip
           refine wl_val (.pointer (some ⟨g6, 1, none⟩)) rfl (fun _ => by go_simp) ?_
           simp only [Act.put, Xa, Xz, Xs]
           refine wl_cell 4 (.tmp 98) (.bool (nxO k t ((M[i]!).lo) ((M[i]!).hi) ((M[i]!).fit))) (own_row 2 rfl) rfl rfl rfl rfl Try.isAgg4 ?_
           simp only [Act.put, Xa, Xz, Xs]
           refine wl_val (.bool (!(nxO k t ((M[i]!).lo) ((M[i]!).hi) ((M[i]!).fit)))) rfl (fun _ => by go_simp) ?_
           simp only [Act.put, Xa, Xz, Xs]
           refine wl_val (.bool (!(nxO k t ((M[i]!).lo) ((M[i]!).hi) ((M[i]!).fit)))) rfl (fun _ => rfl) ?_
           simp only [Act.put, Xa, Xz, Xs]
           refine wl_val (.bool (!(nxO k t ((M[i]!).lo) ((M[i]!).hi) ((M[i]!).fit)))) rfl (fun _ => rfl) ?_
           simp only [Act.put, Xa, Xz, Xs]
           cases h17 : (nxO k t ((M[i]!).lo) ((M[i]!).hi) ((M[i]!).fit))
           ·
            skip
            refine wl_skip rfl ?_
            simp only [Act.put, Xa, Xz, Xs]
            refine wl_skip rfl ?_
            simp only [Act.put, Xa, Xz, Xs]
            refine wl_skip rfl ?_
            simp only [Act.put, Xa, Xz, Xs]
            refine wl_skip rfl ?_
            simp only [Act.put, Xa, Xz, Xs]
            refine wl_skip rfl ?_
            simp only [Act.put, Xa, Xz, Xs]
            refine wl_val (.bool true) rfl (fun _ => rfl) ?_
            simp only [Act.put, Xa, Xz, Xs]
            refine wl_nil ?_
            refine we_then ?_
            refine wc_true rfl ?_
            refine wc_seq ?_
            refine wc_region ?_
            refine wl_val (.bool false) rfl (fun _ => rfl) ?_
            simp only [Act.put, Xa, Xz, Xs]
            refine wl_nil ?_
            refine we_then ?_
            refine wc_ret ?_
            refine we_in_ret ?_
            refine we_then_ret ?_
            refine we_then_ret ?_
            refine we_in_ret ?_
            refine we_then_ret ?_
            refine we_ret1 (.bool false) rfl rfl rfl (fun w1 hE => ?_)
            exact (by exfalso; first | omega | simp_all)
           ·
            skip
            refine wl_val (.pointer (some ⟨g6, 0, none⟩)) rfl (fun _ => by go_simp) ?_
            simp only [Act.put, Xa, Xz, Xs]
            refine wl_cell 3 (.tmp 103) (.int .i64 (nxN k t ((M[i]!).lo) ((M[i]!).hi) ((M[i]!).fit))) (own_row 2 rfl) rfl rfl rfl rfl Try.isAgg3 ?_
            simp only [Act.put, Xa, Xz, Xs]
            refine wl_val (.pointer (some ⟨g5, 0, none⟩)) rfl (fun _ => by go_simp) ?_
            simp only [Act.put, Xa, Xz, Xs]
            refine wl_cell 3 (.tmp 105) (.int .i64 (nxN k s ((L[i]!).lo) ((L[i]!).hi) ((L[i]!).fit))) (own_row 3 rfl) rfl rfl rfl rfl Try.isAgg3 ?_
            simp only [Act.put, Xa, Xz, Xs]
            refine wl_val (.bool (decide ((nxN k t ((M[i]!).lo) ((M[i]!).hi) ((M[i]!).fit)) < (nxN k s ((L[i]!).lo) ((L[i]!).hi) ((L[i]!).fit))))) rfl (fun w => run_cmp rfl rfl rfl Try.underlying3 rfl w) ?_
            simp only [Act.put, Xa, Xz, Xs]
            refine wl_val (.bool (decide ((nxN k t ((M[i]!).lo) ((M[i]!).hi) ((M[i]!).fit)) < (nxN k s ((L[i]!).lo) ((L[i]!).hi) ((L[i]!).fit))))) rfl (fun _ => rfl) ?_
            simp only [Act.put, Xa, Xz, Xs]
            refine wl_nil ?_
            refine we_then ?_
            cases h18 : (decide ((nxN k t ((M[i]!).lo) ((M[i]!).hi) ((M[i]!).fit)) < (nxN k s ((L[i]!).lo) ((L[i]!).hi) ((L[i]!).fit))))
            ·
             skip
             have p18 : ¬ ((nxN k t ((M[i]!).lo) ((M[i]!).hi) ((M[i]!).fit)) < (nxN k s ((L[i]!).lo) ((L[i]!).hi) ((L[i]!).fit))) := of_decide_eq_false h18
             refine wc_false rfl ?_
             refine wc_skip ?_
             refine we_in ?_
             refine we_then ?_
             refine wc_region ?_
             refine wl_val (.int .i64 ((i + 1 : Nat) : Int)) rfl (fun w => run_nat (X := i) (Y := 1) (Z := i + 1) rfl rfl rfl rfl (by omega) w) ?_
             simp only [Act.put, Xa, Xz, Xs]
             refine wl_val (.int .i64 ((i + 1 : Nat) : Int)) rfl (fun _ => rfl) ?_
             simp only [Act.put, Xa, Xz, Xs]
             refine wl_nil ?_
             exact we_meet ⟨(i + 1), (nxN k s ((L[i]!).lo) ((L[i]!).hi) ((L[i]!).fit)), true, (nxN k t ((M[i]!).lo) ((M[i]!).hi) ((M[i]!).fit)), true, _, _, _, _, _, _, _, _, _, _, _, _, _, _, _, _, _, _, _, _, _, _, _, _, _, _, _, _, _, _, _, _, _, _, _, _, _, _, _, _, _, _, _, _, _, _, _, _, _, _, _, _, _, _, _, _, _, _, _, _, _, _, _, _, _, _, _, _, _, _, _, _, _, _, _, _, _, _, _, _, _, _⟩ ⟨⟨by (try dsimp only); omega, by (try dsimp only); omega, by (try dsimp only); omega, by (try dsimp only); omega, by (try dsimp only); intro z; first | assumption | rfl | exact absurd z (by decide) | simp_all⟩, by (try dsimp only); omega⟩ rfl (List.Sublist.cons _ (List.Sublist.cons _ (List.Sublist.cons_cons _ (List.Sublist.cons_cons _ (List.Sublist.cons_cons _ List.Sublist.slnil)))))
            ·
             skip
             have p18 : (nxN k t ((M[i]!).lo) ((M[i]!).hi) ((M[i]!).fit)) < (nxN k s ((L[i]!).lo) ((L[i]!).hi) ((L[i]!).fit)) := of_decide_eq_true h18
             refine wc_true rfl ?_
             refine wc_seq ?_
             refine wc_region ?_
             refine wl_val (.bool false) rfl (fun _ => rfl) ?_
             simp only [Act.put, Xa, Xz, Xs]
             refine wl_nil ?_
             refine we_then ?_
             refine wc_ret ?_
             refine we_in_ret ?_
             refine we_then_ret ?_
             refine we_then_ret ?_
             refine we_in_ret ?_
             refine we_then_ret ?_
             refine we_ret1 (.bool false) rfl rfl rfl (fun w1 hE => ?_)
             exact (by exfalso; first | omega | simp_all)
         ·
          skip
          have p14 : (M[i]!).fit < (L[i]!).fit := of_decide_eq_true h14
          refine wc_true rfl ?_
          refine wc_seq ?_
          refine wc_region ?_
          refine wl_val (.bool true) rfl (fun _ => rfl) ?_
          simp only [Act.put, Xa, Xz, Xs]
          refine wl_nil ?_
          refine we_then ?_
          refine wc_ret ?_
          refine we_then_ret ?_
          refine we_in_ret ?_
          refine we_then_ret ?_
          refine we_then_ret ?_
          refine we_in_ret ?_
          refine we_then_ret ?_
          refine we_ret1 (.bool true) rfl rfl rfl (fun w1 hE => ?_)
          exact ⟨rfl, hE.below⟩
        ·
         skip
         have p13 : (L[i]!).hi < (M[i]!).hi := of_decide_eq_true h13
         refine wl_skip rfl ?_
         simp only [Act.put, Xa, Xz, Xs]
         refine wl_skip rfl ?_
         simp only [Act.put, Xa, Xz, Xs]
         refine wl_skip rfl ?_
         simp only [Act.put, Xa, Xz, Xs]
         refine wl_skip rfl ?_
         simp only [Act.put, Xa, Xz, Xs]
         refine wl_skip rfl ?_
         simp only [Act.put, Xa, Xz, Xs]
         refine wl_val (.bool true) rfl (fun _ => rfl) ?_
         simp only [Act.put, Xa, Xz, Xs]
         refine wl_nil ?_
         refine we_then ?_
         refine wc_true rfl ?_
         refine wc_seq ?_
         refine wc_region ?_
         refine wl_val (.bool true) rfl (fun _ => rfl) ?_
         simp only [Act.put, Xa, Xz, Xs]
         refine wl_nil ?_
         refine we_then ?_
         refine wc_ret ?_
         refine we_then_ret ?_
         refine we_in_ret ?_
         refine we_then_ret ?_
         refine we_then_ret ?_
         refine we_in_ret ?_
         refine we_then_ret ?_
         refine we_ret1 (.bool true) rfl rfl rfl (fun w1 hE => ?_)
         exact ⟨rfl, hE.below⟩
       ·
        skip
        have p12 : (M[i]!).lo < (L[i]!).lo := of_decide_eq_true h12
        refine wl_skip rfl ?_
        simp only [Act.put, Xa, Xz, Xs]
        refine wl_skip rfl ?_
        simp only [Act.put, Xa, Xz, Xs]
        refine wl_skip rfl ?_
        simp only [Act.put, Xa, Xz, Xs]
        refine wl_skip rfl ?_
        simp only [Act.put, Xa, Xz, Xs]
        refine wl_skip rfl ?_
        simp only [Act.put, Xa, Xz, Xs]
        refine wl_skip rfl ?_
        simp only [Act.put, Xa, Xz, Xs]
        refine wl_skip rfl ?_
        simp only [Act.put, Xa, Xz, Xs]
        refine wl_val (.bool true) rfl (fun _ => rfl) ?_
        simp only [Act.put, Xa, Xz, Xs]
        refine wl_val (.bool true) rfl (fun _ => rfl) ?_
        simp only [Act.put, Xa, Xz, Xs]
        refine wl_skip rfl ?_
        simp only [Act.put, Xa, Xz, Xs]
        refine wl_skip rfl ?_
        simp only [Act.put, Xa, Xz, Xs]
        refine wl_skip rfl ?_
        simp only [Act.put, Xa, Xz, Xs]
        refine wl_skip rfl ?_
        simp only [Act.put, Xa, Xz, Xs]
        refine wl_skip rfl ?_
        simp only [Act.put, Xa, Xz, Xs]
        refine wl_val (.bool true) rfl (fun _ => rfl) ?_
        simp only [Act.put, Xa, Xz, Xs]
        refine wl_nil ?_
        refine we_then ?_
        refine wc_true rfl ?_
        refine wc_seq ?_
        refine wc_region ?_
        refine wl_val (.bool true) rfl (fun _ => rfl) ?_
        simp only [Act.put, Xa, Xz, Xs]
        refine wl_nil ?_
        refine we_then ?_
        refine wc_ret ?_
        refine we_then_ret ?_
        refine we_in_ret ?_
        refine we_then_ret ?_
        refine we_then_ret ?_
        refine we_in_ret ?_
        refine we_then_ret ?_
        refine we_ret1 (.bool true) rfl rfl rfl (fun w1 hE => ?_)
        exact ⟨rfl, hE.below⟩
      ·
       skip
       have p11 : (M[i]!).hi < (M[i]!).lo := of_decide_eq_true h11
       refine wl_skip rfl ?_
       simp only [Act.put, Xa, Xz, Xs]
       refine wl_skip rfl ?_
       simp only [Act.put, Xa, Xz, Xs]
       refine wl_skip rfl ?_
       simp only [Act.put, Xa, Xz, Xs]
       refine wl_skip rfl ?_
       simp only [Act.put, Xa, Xz, Xs]
       refine wl_skip rfl ?_
       simp only [Act.put, Xa, Xz, Xs]
       refine wl_skip rfl ?_
       simp only [Act.put, Xa, Xz, Xs]
       refine wl_skip rfl ?_
       simp only [Act.put, Xa, Xz, Xs]
       refine wl_val (.bool true) rfl (fun _ => rfl) ?_
       simp only [Act.put, Xa, Xz, Xs]
       refine wl_val (.bool true) rfl (fun _ => rfl) ?_
       simp only [Act.put, Xa, Xz, Xs]
       refine wl_skip rfl ?_
       simp only [Act.put, Xa, Xz, Xs]
       refine wl_skip rfl ?_
       simp only [Act.put, Xa, Xz, Xs]
       refine wl_skip rfl ?_
       simp only [Act.put, Xa, Xz, Xs]
       refine wl_skip rfl ?_
       simp only [Act.put, Xa, Xz, Xs]
       refine wl_skip rfl ?_
       simp only [Act.put, Xa, Xz, Xs]
       refine wl_skip rfl ?_
       simp only [Act.put, Xa, Xz, Xs]
       refine wl_skip rfl ?_
       simp only [Act.put, Xa, Xz, Xs]
       refine wl_val (.bool true) rfl (fun _ => rfl) ?_
       simp only [Act.put, Xa, Xz, Xs]
       refine wl_val (.bool true) rfl (fun _ => rfl) ?_
       simp only [Act.put, Xa, Xz, Xs]
       refine wl_skip rfl ?_
       simp only [Act.put, Xa, Xz, Xs]
       refine wl_skip rfl ?_
       simp only [Act.put, Xa, Xz, Xs]
       refine wl_skip rfl ?_
       simp only [Act.put, Xa, Xz, Xs]
       refine wl_skip rfl ?_
       simp only [Act.put, Xa, Xz, Xs]
       refine wl_skip rfl ?_
       simp only [Act.put, Xa, Xz, Xs]
       refine wl_val (.bool true) rfl (fun _ => rfl) ?_
       simp only [Act.put, Xa, Xz, Xs]
       refine wl_nil ?_
       refine we_then ?_
       refine wc_true rfl ?_
       refine wc_seq ?_
       refine wc_region ?_
       refine wl_val (.bool true) rfl (fun _ => rfl) ?_
       simp only [Act.put, Xa, Xz, Xs]
       refine wl_nil ?_
       refine we_then ?_
       refine wc_ret ?_
       refine we_then_ret ?_
       refine we_in_ret ?_
       refine we_then_ret ?_
       refine we_then_ret ?_
       refine we_in_ret ?_
       refine we_then_ret ?_
       refine we_ret1 (.bool true) rfl rfl rfl (fun w1 hE => ?_)
       exact ⟨rfl, hE.below⟩
     ·
      skip
      have p10 : (L[i]!).hi < (L[i]!).lo := of_decide_eq_true h10
      refine wl_skip rfl ?_
      simp only [Act.put, Xa, Xz, Xs]
      refine wl_skip rfl ?_
      simp only [Act.put, Xa, Xz, Xs]
      refine wl_skip rfl ?_
      simp only [Act.put, Xa, Xz, Xs]
      refine wl_skip rfl ?_
      simp only [Act.put, Xa, Xz, Xs]
      refine wl_skip rfl ?_
      simp only [Act.put, Xa, Xz, Xs]
      refine wl_skip rfl ?_
      simp only [Act.put, Xa, Xz, Xs]
      refine wl_skip rfl ?_
      simp only [Act.put, Xa, Xz, Xs]
      refine wl_val (.bool true) rfl (fun _ => rfl) ?_
      simp only [Act.put, Xa, Xz, Xs]
      refine wl_val (.bool true) rfl (fun _ => rfl) ?_
      simp only [Act.put, Xa, Xz, Xs]
      refine wl_skip rfl ?_
      simp only [Act.put, Xa, Xz, Xs]
      refine wl_skip rfl ?_
      simp only [Act.put, Xa, Xz, Xs]
      refine wl_skip rfl ?_
      simp only [Act.put, Xa, Xz, Xs]
      refine wl_skip rfl ?_
      simp only [Act.put, Xa, Xz, Xs]
      refine wl_skip rfl ?_
      simp only [Act.put, Xa, Xz, Xs]
      refine wl_skip rfl ?_
      simp only [Act.put, Xa, Xz, Xs]
      refine wl_skip rfl ?_
      simp only [Act.put, Xa, Xz, Xs]
      refine wl_val (.bool true) rfl (fun _ => rfl) ?_
      simp only [Act.put, Xa, Xz, Xs]
      refine wl_val (.bool true) rfl (fun _ => rfl) ?_
      simp only [Act.put, Xa, Xz, Xs]
      refine wl_skip rfl ?_
      simp only [Act.put, Xa, Xz, Xs]
      refine wl_skip rfl ?_
      simp only [Act.put, Xa, Xz, Xs]
      refine wl_skip rfl ?_
      simp only [Act.put, Xa, Xz, Xs]
      refine wl_skip rfl ?_
      simp only [Act.put, Xa, Xz, Xs]
      refine wl_skip rfl ?_
      simp only [Act.put, Xa, Xz, Xs]
      refine wl_skip rfl ?_
      simp only [Act.put, Xa, Xz, Xs]
      refine wl_skip rfl ?_
      simp only [Act.put, Xa, Xz, Xs]
      refine wl_val (.bool true) rfl (fun _ => rfl) ?_
      simp only [Act.put, Xa, Xz, Xs]
      refine wl_val (.bool true) rfl (fun _ => rfl) ?_
      simp only [Act.put, Xa, Xz, Xs]
      refine wl_skip rfl ?_
      simp only [Act.put, Xa, Xz, Xs]
      refine wl_skip rfl ?_
      simp only [Act.put, Xa, Xz, Xs]
      refine wl_skip rfl ?_
      simp only [Act.put, Xa, Xz, Xs]
      refine wl_skip rfl ?_
      simp only [Act.put, Xa, Xz, Xs]
      refine wl_skip rfl ?_
      simp only [Act.put, Xa, Xz, Xs]
      refine wl_val (.bool true) rfl (fun _ => rfl) ?_
      simp only [Act.put, Xa, Xz, Xs]
      refine wl_nil ?_
      refine we_then ?_
      refine wc_true rfl ?_
      refine wc_seq ?_
      refine wc_region ?_
      refine wl_val (.bool true) rfl (fun _ => rfl) ?_
      simp only [Act.put, Xa, Xz, Xs]
      refine wl_nil ?_
      refine we_then ?_
      refine wc_ret ?_
      refine we_then_ret ?_
      refine we_in_ret ?_
      refine we_then_ret ?_
      refine we_then_ret ?_
      refine we_in_ret ?_
      refine we_then_ret ?_
      refine we_ret1 (.bool true) rfl rfl rfl (fun w1 hE => ?_)
      exact ⟨rfl, hE.below⟩
   ·
    skip
    have p4 : (L.length : Int) ≠ (M.length : Int) := by first | (simp; done) | (simp at h4; done) | simpa using h4
    refine wc_true rfl ?_
    refine wc_seq ?_
    refine wc_region ?_
    refine wl_val (.bool true) rfl (fun _ => rfl) ?_
    simp only [Act.put, Xa, Xz, Xs]
    refine wl_nil ?_
    refine we_then ?_
    refine wc_ret ?_
    refine we_then_ret ?_
    refine we_ret1 (.bool true) rfl rfl rfl (fun w1 hE => ?_)
    exact ⟨rfl, hE.below⟩
  ·
   skip
   have p3 : 3000 < (L.length : Int) := of_decide_eq_true h3
   refine wl_skip rfl ?_
   simp only [Act.put, Xa, Xz, Xs]
   refine wl_skip rfl ?_
   simp only [Act.put, Xa, Xz, Xs]
   refine wl_skip rfl ?_
   simp only [Act.put, Xa, Xz, Xs]
   refine wl_skip rfl ?_
   simp only [Act.put, Xa, Xz, Xs]
   refine wl_skip rfl ?_
   simp only [Act.put, Xa, Xz, Xs]
   refine wl_val (.bool true) rfl (fun _ => rfl) ?_
   simp only [Act.put, Xa, Xz, Xs]
   refine wl_nil ?_
   refine we_then ?_
   refine wc_true rfl ?_
   refine wc_seq ?_
   refine wc_region ?_
   refine wl_val (.bool true) rfl (fun _ => rfl) ?_
   simp only [Act.put, Xa, Xz, Xs]
   refine wl_nil ?_
   refine we_then ?_
   refine wc_ret ?_
   refine we_then_ret ?_
   refine we_ret1 (.bool true) rfl rfl rfl (fun w1 hE => ?_)
   exact ⟨rfl, hE.below⟩
 ·
  skip
  have p2 : ((wrong k : Nat) : Int) ≠ 0 := by first | (simp; done) | (simp at h2; done) | simpa using h2
  refine wl_skip rfl ?_
  simp only [Act.put, Xa, Xz, Xs]
  refine wl_skip rfl ?_
  simp only [Act.put, Xa, Xz, Xs]
  refine wl_skip rfl ?_
  simp only [Act.put, Xa, Xz, Xs]
  refine wl_val (.bool true) rfl (fun _ => rfl) ?_
  simp only [Act.put, Xa, Xz, Xs]
  refine wl_val (.bool true) rfl (fun _ => rfl) ?_
  simp only [Act.put, Xa, Xz, Xs]
  refine wl_skip rfl ?_
  simp only [Act.put, Xa, Xz, Xs]
  refine wl_skip rfl ?_
  simp only [Act.put, Xa, Xz, Xs]
  refine wl_skip rfl ?_
  simp only [Act.put, Xa, Xz, Xs]
  refine wl_skip rfl ?_
  simp only [Act.put, Xa, Xz, Xs]
  refine wl_skip rfl ?_
  simp only [Act.put, Xa, Xz, Xs]
  refine wl_val (.bool true) rfl (fun _ => rfl) ?_
  simp only [Act.put, Xa, Xz, Xs]
  refine wl_nil ?_
  refine we_then ?_
  refine wc_true rfl ?_
  refine wc_seq ?_
  refine wc_region ?_
  refine wl_val (.bool true) rfl (fun _ => rfl) ?_
  simp only [Act.put, Xa, Xz, Xs]
  refine wl_nil ?_
  refine we_then ?_
  refine wc_ret ?_
  refine we_then_ret ?_
  refine we_ret1 (.bool true) rfl rfl rfl (fun w1 hE => ?_)
  exact ⟨rfl, hE.below⟩
end Go.Proofs.Ytbacblnbmdomaaa.Walks
