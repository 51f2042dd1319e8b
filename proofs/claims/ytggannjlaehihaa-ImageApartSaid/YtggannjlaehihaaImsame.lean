/-
 A helper of layer 12's law: are two tracks the same.
-/
import Derived.Test.YtggannjlaehihaaImo
import Derived.Test.YtggannjlaehihaaSh
namespace Go.Proofs.Ytggannjlaehihaa.Imsame
open Go.ChangeShapes Go.WideShapes Go.ChangeAt Go.RowKit
open Arr Steady Sx Sw Sl Sb Sc Si Sj Sk Sh Cr Fr Vs Gr Tk Tkh Tkl Img Imp Imo
set_option linter.unusedVariables false
set_option linter.unusedSimpArgs false
set_option maxRecDepth 100000

theorem ne_piece {o : Oper} {a : Act} {x y : Operand} {p0 q0 : Int} {p1 q1 : Int} (ho : o.op = .binOp .neq 50 x y 50) (hx : a.eval x = .agg #[.int .i64 p0, .int .i64 p1])
  (hy : a.eval y = .agg #[.int .i64 q0, .int .i64 q1]) (w : World) : (execOp a.eval o).run Try.prog w = .ok (.value (.bool (!(p0 == q0 && p1 == q1)))) w := by
 unfold execOp
 simp only [ho, hx, hy]
 by_cases h0 : p0 = q0 <;> by_cases h1 : p1 = q1 <;> simp [go_sem, *]
theorem ne_grp {o : Oper} {a : Act} {x y : Operand} {p0 q0 : Int} {p1 q1 : Int} {p2 q2 : Int} {p3 q3 : Int} {p4 q4 : Int} (ho : o.op = .binOp .neq 60 x y 60) (hx : a.eval x = .agg #[.int .i64 p0, .int .i64 p1, .int .i64 p2, .int .i64 p3, .int .i64 p4])
  (hy : a.eval y = .agg #[.int .i64 q0, .int .i64 q1, .int .i64 q2, .int .i64 q3, .int .i64 q4]) (w : World) : (execOp a.eval o).run Try.prog w = .ok (.value (.bool (!(p0 == q0 && p1 == q1 && p2 == q2 && p3 == q3 && p4 == q4)))) w := by
 unfold execOp
 simp only [ho, hx, hy]
 by_cases h0 : p0 = q0 <;> by_cases h1 : p1 = q1 <;> by_cases h2 : p2 = q2 <;> by_cases h3 : p3 = q3 <;> by_cases h4 : p4 = q4 <;> simp [go_sem, *]
def SameT (G : List Sg) (H : List Gp) (K : List Sg) (J : List Gp) : Prop := G.map dat = K.map dat ∧ H = J
noncomputable def sameB (G : List Sg) (H : List Gp) (K : List Sg) (J : List Gp) : Bool := @decide (SameT G H K J) (Classical.propDecidable _)
theorem sameB_yes {G K : List Sg} {H J : List Gp} (h : SameT G H K J) : sameB G H K J = true := by unfold sameB; exact @decide_eq_true _ (Classical.propDecidable _) h
theorem sameB_no {G K : List Sg} {H J : List Gp} (h : ¬ SameT G H K J) : sameB G H K J = false := by unfold sameB; exact @decide_eq_false _ (Classical.propDecidable _) h
theorem sameT_of {G K : List Sg} {H J : List Gp} (h1 : G.length = K.length) (h2 : H.length = J.length) (h3 : ∀ j, j < G.length → dat (G[j]!) = dat (K[j]!)) (h4 : ∀ j, j < H.length → H[j]! = J[j]!) : SameT G H K J := by
 refine ⟨List.ext_getElem (by simpa using h1) (fun i a b => ?_), List.ext_getElem h2 (fun i a b => ?_)⟩
 ·
  have ha : i < G.length := by simpa using a
  have hb : i < K.length := by simpa using b
  have := h3 i ha
  rw [getElem!_pos G i ha, getElem!_pos K i hb] at this
  rw [List.getElem_map, List.getElem_map]
  exact this
 ·
  have := h4 i a
  rwa [getElem!_pos H i a, getElem!_pos J i b] at this
theorem sameT_dat {G K : List Sg} {H J : List Gp} (h : SameT G H K J) {i : Nat} (hi : i < G.length) : dat (G[i]!) = dat (K[i]!) := by
 have hl : G.length = K.length := by simpa using congrArg List.length h.1
 have e : (G.map dat)[i]? = (K.map dat)[i]? := by rw [h.1]
 rw [List.getElem?_map, List.getElem?_map, List.getElem?_eq_getElem hi, List.getElem?_eq_getElem (show i < K.length by omega)] at e
 rw [getElem!_pos G i hi, getElem!_pos K i (by omega)]
 simpa using e
theorem sameT_len {G K : List Sg} {H J : List Gp} (h : SameT G H K J) : G.length = K.length ∧ H.length = J.length := ⟨by simpa using congrArg List.length h.1, by rw [h.2]⟩
theorem dat_eq {s z : Sg} (h1 : s.len = z.len) (h2 : s.P.length = z.P.length) (h3 : s.X.length = z.X.length) (h4 : ∀ k, k < s.P.length → s.P[k]! = z.P[k]!) (h5 : ∀ k, k < s.X.length → s.X[k]! = z.X[k]!) : dat s = dat z := by
 unfold dat
 rw [h1]
 congr 1
 ·
  refine List.ext_getElem h2 (fun i a b => ?_)
  have := h4 i a
  rwa [getElem!_pos _ i a, getElem!_pos _ i b] at this
 ·
  refine List.ext_getElem h3 (fun i a b => ?_)
  have := h5 i a
  rwa [getElem!_pos _ i a, getElem!_pos _ i b] at this
theorem gp_ext {a b : Gp} (h : a.id = b.id ∧ a.seg = b.seg ∧ a.off = b.off ∧ a.acc = b.acc ∧ a.slack = b.slack) : a = b := by
 obtain ⟨h1, h2, h3, h4, h5⟩ := h
 cases a
 cases b
 simp_all
theorem all_succ {p : Nat → Prop} {k : Nat} (h : ∀ j, j < k → p j) (hk : p k) : ∀ j, j < k + 1 → p j := fun j hj => by
 rcases Nat.lt_or_eq_of_le (Nat.le_of_lt_succ hj) with h1 | h1
 ·
  exact h j h1
 ·
  exact h1 ▸ hk
set_option maxHeartbeats 6000000 in
theorem same_any (G K : List Sg) (H J : List Gp) (p q p' q' : Option Addr) (c d c' d' : Nat) (w : World) (hS : Reads w p (flat sg G)) (hG : OkS w G) (hH : Reads w q (flat gp H)) (kS : Reads w p' (flat sg K)) (hK : OkS w K) (kH : Reads w q' (flat gp J)) (hn : G.length ≤ 1000000) (hm : H.length ≤ 1000000) :
  Calls Try.prog 14 #[.agg #[.slice p G.length c, .slice q H.length d], .agg #[.slice p' K.length c', .slice q' J.length d']] w fun e w' => e = .returned (.bool (sameB G H K J)) ∧ Below w.heap.size w w' := by
 refine calls_sx Try.func14 rfl ?_
 simp only [Try.ntmps14, List.size_toArray, List.length_cons, List.length_nil, Nat.reduceAdd, Nat.reduceSub, Array.replicate_succ, Array.replicate_zero, List.push_toArray, List.append_toArray, List.nil_append, List.cons_append]
 refine wc_seq ?_
 refine wc_region ?_
 refine wl_new 25 (#[.slice p G.length c, .slice q H.length d]) rfl (fun _ => by go_simp) ?_
 intro g1
 simp only [Act.put, Xa, Xz, Xs]
 refine wl_new 25 (#[.slice p' K.length c', .slice q' J.length d']) rfl (fun _ => by go_simp) ?_
 intro g2
 simp only [Act.put, Xa, Xz, Xs]
 refine wl_val (.bool false) rfl (fun _ => rfl) ?_
 simp only [Act.put, Xa, Xz, Xs]
 refine wl_nil ?_
 refine we_then ?_
 refine wc_seq ?_
 refine wc_seq ?_
 refine wc_region ?_
 refine wl_val (.pointer (some ⟨g1, 0, none⟩)) rfl (fun _ => by go_simp) ?_
 simp only [Act.put, Xa, Xz, Xs]
 refine wl_cell 22 (.tmp 12) (.slice p G.length c) (own_row 1 rfl) rfl rfl rfl rfl Try.isAgg22 ?_
 simp only [Act.put, Xa, Xz, Xs]
 refine wl_val (.int .i64 (G.length : Int)) rfl (fun w => er_len rfl rfl Try.underlying22 w) ?_
 simp only [Act.put, Xa, Xz, Xs]
 refine wl_val (.pointer (some ⟨g2, 0, none⟩)) rfl (fun _ => by go_simp) ?_
 simp only [Act.put, Xa, Xz, Xs]
 refine wl_cell 22 (.tmp 15) (.slice p' K.length c') (own_row 0 rfl) rfl rfl rfl rfl Try.isAgg22 ?_
 simp only [Act.put, Xa, Xz, Xs]
 refine wl_val (.int .i64 (K.length : Int)) rfl (fun w => er_len rfl rfl Try.underlying22 w) ?_
 simp only [Act.put, Xa, Xz, Xs]
 refine wl_val (.bool ((G.length : Int) != (K.length : Int))) rfl (fun w => run_cmp rfl rfl rfl Try.underlying3 rfl w) ?_
 simp only [Act.put, Xa, Xz, Xs]
 refine wl_val (.bool ((G.length : Int) != (K.length : Int))) rfl (fun _ => rfl) ?_
 simp only [Act.put, Xa, Xz, Xs]
 cases h3 : ((G.length : Int) != (K.length : Int))
 ·
  skip
  have p3 : ¬ ((G.length : Int) ≠ (K.length : Int)) := by simpa using h3
  refine wl_val (.pointer (some ⟨g1, 1, none⟩)) rfl (fun _ => by go_simp) ?_
  simp only [Act.put, Xa, Xz, Xs]
  refine wl_cell 23 (.tmp 20) (.slice q H.length d) (own_row 1 rfl) rfl rfl rfl rfl Try.isAgg23 ?_
  simp only [Act.put, Xa, Xz, Xs]
  refine wl_val (.int .i64 (H.length : Int)) rfl (fun w => er_len rfl rfl Try.underlying23 w) ?_
  simp only [Act.put, Xa, Xz, Xs]
  refine wl_val (.pointer (some ⟨g2, 1, none⟩)) rfl (fun _ => by go_simp) ?_
  simp only [Act.put, Xa, Xz, Xs]
  refine wl_cell 23 (.tmp 23) (.slice q' J.length d') (own_row 0 rfl) rfl rfl rfl rfl Try.isAgg23 ?_
  simp only [Act.put, Xa, Xz, Xs]
  refine wl_val (.int .i64 (J.length : Int)) rfl (fun w => er_len rfl rfl Try.underlying23 w) ?_
  simp only [Act.put, Xa, Xz, Xs]
  refine wl_val (.bool ((H.length : Int) != (J.length : Int))) rfl (fun w => run_cmp rfl rfl rfl Try.underlying3 rfl w) ?_
  simp only [Act.put, Xa, Xz, Xs]
  refine wl_val (.bool ((H.length : Int) != (J.length : Int))) rfl (fun _ => rfl) ?_
  simp only [Act.put, Xa, Xz, Xs]
  refine wl_nil ?_
  refine we_then ?_
  cases h4 : ((H.length : Int) != (J.length : Int))
  ·
   skip
   have p4 : ¬ ((H.length : Int) ≠ (J.length : Int)) := by simpa using h4
   refine wc_false rfl ?_
   refine wc_skip ?_
   refine we_then ?_
   refine wc_seq ?_
   refine wc_seq ?_
   refine wc_region ?_
   refine wl_val (.pointer (some ⟨g1, 0, none⟩)) rfl (fun _ => by go_simp) ?_
   simp only [Act.put, Xa, Xz, Xs]
   refine wl_cell 22 (.tmp 28) (.slice p G.length c) (own_row 1 rfl) rfl rfl rfl rfl Try.isAgg22 ?_
   simp only [Act.put, Xa, Xz, Xs]
   refine wl_val (.int .i64 (G.length : Int)) rfl (fun w => er_len rfl rfl Try.underlying22 w) ?_
   simp only [Act.put, Xa, Xz, Xs]
   refine wl_val (.int .i64 0) rfl (fun _ => rfl) ?_
   simp only [Act.put, Xa, Xz, Xs]
   refine wl_nil ?_
   refine we_then ?_
   refine wc_block ?_
   refine wc_loop (fun (zz : Nat × Value × Value × Value × Value × Value × Value × Value × Value × Value × Value × Value × Value × Value × Value × Value × Value × Value × Value × Value × Value × Value × Value × Value × Value × Value × Value × Value × Value × Value × Value × Value × Value × Value × Value × Value × Value × Value × Value × Value × Value × Value × Value × Value × Value × Value × Value × Value × Value × Value × Value × Value × Value × Value × Value × Value × Value × Value × Value × Value × Value × Value × Value × Value × Value × Value × Value × Value × Value × Value × Value × Value × Value × Value × Value × Value) => match zz with | ⟨i, u4, u5, u6, u7, u8, u9, u32, u33, u34, u35, u36, u37, u38, u39, u40, u41, u42, u43, u44, u45, u46, u47, u48, u49, u50, u51, u52, u53, u54, u55, u56, u57, u58, u59, u60, u61, u62, u63, u64, u65, u66, u67, u68, u69, u70, u71, u72, u73, u74, u75, u76, u77, u78, u79, u80, u81, u82, u83, u84, u85, u86, u87, u88, u89, u90, u91, u92, u93, u94, u95, u96, u97, u98, u99, u100⟩ => ({ tmps := #[.agg #[.slice p G.length c, .slice q H.length d], .agg #[.slice p' K.length c', .slice q' J.length d'], .pointer (some ⟨g1, 0, none⟩), .pointer (some ⟨g2, 0, none⟩), u4, u5, u6, u7, u8, u9, undef, undef, .pointer (some ⟨g1, 0, none⟩), .slice p G.length c, .int .i64 (G.length : Int), .pointer (some ⟨g2, 0, none⟩), .slice p' K.length c', .int .i64 (K.length : Int), .bool false, .bool false, .pointer (some ⟨g1, 1, none⟩), .slice q H.length d, .int .i64 (H.length : Int), .pointer (some ⟨g2, 1, none⟩), .slice q' J.length d', .int .i64 (J.length : Int), .bool false, .bool false, .pointer (some ⟨g1, 0, none⟩), .slice p G.length c, .int .i64 (G.length : Int), .int .i64 (i : Int), u32, u33, u34, u35, u36, u37, u38, u39, u40, u41, u42, u43, u44, u45, u46, u47, u48, u49, u50, u51, u52, u53, u54, u55, u56, u57, u58, u59, u60, u61, u62, u63, u64, u65, u66, u67, u68, u69, u70, u71, u72, u73, u74, u75, u76, u77, u78, u79, u80, u81, u82, u83, u84, u85, u86, u87, u88, u89, u90, u91, u92, u93, u94, u95, u96, u97, u98, u99, u100, undef, undef, undef, undef, undef, undef, undef, undef, undef, undef, undef, undef, undef, undef, undef, undef], defers := [] } : Act)) (fun (zz : Nat × Value × Value × Value × Value × Value × Value × Value × Value × Value × Value × Value × Value × Value × Value × Value × Value × Value × Value × Value × Value × Value × Value × Value × Value × Value × Value × Value × Value × Value × Value × Value × Value × Value × Value × Value × Value × Value × Value × Value × Value × Value × Value × Value × Value × Value × Value × Value × Value × Value × Value × Value × Value × Value × Value × Value × Value × Value × Value × Value × Value × Value × Value × Value × Value × Value × Value × Value × Value × Value × Value × Value × Value × Value × Value × Value) => match zz with | ⟨i, u4, u5, u6, u7, u8, u9, u32, u33, u34, u35, u36, u37, u38, u39, u40, u41, u42, u43, u44, u45, u46, u47, u48, u49, u50, u51, u52, u53, u54, u55, u56, u57, u58, u59, u60, u61, u62, u63, u64, u65, u66, u67, u68, u69, u70, u71, u72, u73, u74, u75, u76, u77, u78, u79, u80, u81, u82, u83, u84, u85, u86, u87, u88, u89, u90, u91, u92, u93, u94, u95, u96, u97, u98, u99, u100⟩ => [⟨g2, #[.slice p' K.length c', .slice q' J.length d'], 25⟩, ⟨g1, #[.slice p G.length c, .slice q H.length d], 25⟩]) (fun (zz : Nat × Value × Value × Value × Value × Value × Value × Value × Value × Value × Value × Value × Value × Value × Value × Value × Value × Value × Value × Value × Value × Value × Value × Value × Value × Value × Value × Value × Value × Value × Value × Value × Value × Value × Value × Value × Value × Value × Value × Value × Value × Value × Value × Value × Value × Value × Value × Value × Value × Value × Value × Value × Value × Value × Value × Value × Value × Value × Value × Value × Value × Value × Value × Value × Value × Value × Value × Value × Value × Value × Value × Value × Value × Value × Value × Value) => match zz with | ⟨i, u4, u5, u6, u7, u8, u9, u32, u33, u34, u35, u36, u37, u38, u39, u40, u41, u42, u43, u44, u45, u46, u47, u48, u49, u50, u51, u52, u53, u54, u55, u56, u57, u58, u59, u60, u61, u62, u63, u64, u65, u66, u67, u68, u69, u70, u71, u72, u73, u74, u75, u76, u77, u78, u79, u80, u81, u82, u83, u84, u85, u86, u87, u88, u89, u90, u91, u92, u93, u94, u95, u96, u97, u98, u99, u100⟩ => i ≤ G.length ∧ ∀ j, j < i → dat (G[j]!) = dat (K[j]!)) (fun (zz : Nat × Value × Value × Value × Value × Value × Value × Value × Value × Value × Value × Value × Value × Value × Value × Value × Value × Value × Value × Value × Value × Value × Value × Value × Value × Value × Value × Value × Value × Value × Value × Value × Value × Value × Value × Value × Value × Value × Value × Value × Value × Value × Value × Value × Value × Value × Value × Value × Value × Value × Value × Value × Value × Value × Value × Value × Value × Value × Value × Value × Value × Value × Value × Value × Value × Value × Value × Value × Value × Value × Value × Value × Value × Value × Value × Value) => match zz with | ⟨i, u4, u5, u6, u7, u8, u9, u32, u33, u34, u35, u36, u37, u38, u39, u40, u41, u42, u43, u44, u45, u46, u47, u48, u49, u50, u51, u52, u53, u54, u55, u56, u57, u58, u59, u60, u61, u62, u63, u64, u65, u66, u67, u68, u69, u70, u71, u72, u73, u74, u75, u76, u77, u78, u79, u80, u81, u82, u83, u84, u85, u86, u87, u88, u89, u90, u91, u92, u93, u94, u95, u96, u97, u98, u99, u100⟩ => G.length - i) ⟨0, _, _, _, _, _, _, _, _, _, _, _, _, _, _, _, _, _, _, _, _, _, _, _, _, _, _, _, _, _, _, _, _, _, _, _, _, _, _, _, _, _, _, _, _, _, _, _, _, _, _, _, _, _, _, _, _, _, _, _, _, _, _, _, _, _, _, _, _, _, _, _, _, _, _, _⟩ ⟨Nat.zero_le _, fun j hj => absurd hj (Nat.not_lt_zero j)⟩ rfl (List.Sublist.cons_cons _ (List.Sublist.cons_cons _ List.Sublist.slnil)) ?_
   rintro ⟨i, u4, u5, u6, u7, u8, u9, u32, u33, u34, u35, u36, u37, u38, u39, u40, u41, u42, u43, u44, u45, u46, u47, u48, u49, u50, u51, u52, u53, u54, u55, u56, u57, u58, u59, u60, u61, u62, u63, u64, u65, u66, u67, u68, u69, u70, u71, u72, u73, u74, u75, u76, u77, u78, u79, u80, u81, u82, u83, u84, u85, u86, u87, u88, u89, u90, u91, u92, u93, u94, u95, u96, u97, u98, u99, u100⟩ hφ
   (try dsimp only at hφ ⊢)
   obtain ⟨b1, b2⟩ := hφ
   refine wc_seq ?_
   refine wc_region ?_
   refine wl_val (.bool (decide ((i : Int) < (G.length : Int)))) rfl (fun w => run_cmp rfl rfl rfl Try.underlying3 rfl w) ?_
   simp only [Act.put, Xa, Xz, Xs]
   refine wl_nil ?_
   refine we_then ?_
   refine wc_seq ?_
   cases h5 : (decide ((i : Int) < (G.length : Int)))
   ·
    skip
    have p5 : ¬ ((i : Int) < (G.length : Int)) := of_decide_eq_false h5
    refine wc_false rfl ?_
    refine wc_exit ?_
    refine we_then_exit ?_
    refine we_then_exit ?_
    refine we_in_here ?_
    refine we_then ?_
    refine wc_seq ?_
    refine wc_seq ?_
    refine wc_region ?_
    refine wl_val (.pointer (some ⟨g1, 1, none⟩)) rfl (fun _ => by go_simp) ?_
    simp only [Act.put, Xa, Xz, Xs]
    refine wl_cell 23 (.tmp 101) (.slice q H.length d) (own_row 1 rfl) rfl rfl rfl rfl Try.isAgg23 ?_
    simp only [Act.put, Xa, Xz, Xs]
    refine wl_val (.int .i64 (H.length : Int)) rfl (fun w => er_len rfl rfl Try.underlying23 w) ?_
    simp only [Act.put, Xa, Xz, Xs]
    refine wl_val (.int .i64 0) rfl (fun _ => rfl) ?_
    simp only [Act.put, Xa, Xz, Xs]
    refine wl_nil ?_
    refine we_then ?_
    refine wc_block ?_
    refine wc_loop (fun (zz : Nat × Value × Value × Value × Value × Value × Value × Value × Value × Value × Value × Value × Value × Value × Value × Value) => match zz with | ⟨r, u4, u10, u11, u105, u106, u107, u108, u109, u110, u111, u112, u113, u114, u115, u116⟩ => ({ tmps := #[.agg #[.slice p G.length c, .slice q H.length d], .agg #[.slice p' K.length c', .slice q' J.length d'], .pointer (some ⟨g1, 0, none⟩), .pointer (some ⟨g2, 0, none⟩), u4, u5, u6, u7, u8, u9, u10, u11, .pointer (some ⟨g1, 0, none⟩), .slice p G.length c, .int .i64 (G.length : Int), .pointer (some ⟨g2, 0, none⟩), .slice p' K.length c', .int .i64 (K.length : Int), .bool false, .bool false, .pointer (some ⟨g1, 1, none⟩), .slice q H.length d, .int .i64 (H.length : Int), .pointer (some ⟨g2, 1, none⟩), .slice q' J.length d', .int .i64 (J.length : Int), .bool false, .bool false, .pointer (some ⟨g1, 0, none⟩), .slice p G.length c, .int .i64 (G.length : Int), .int .i64 (i : Int), .bool false, u33, u34, u35, u36, u37, u38, u39, u40, u41, u42, u43, u44, u45, u46, u47, u48, u49, u50, u51, u52, u53, u54, u55, u56, u57, u58, u59, u60, u61, u62, u63, u64, u65, u66, u67, u68, u69, u70, u71, u72, u73, u74, u75, u76, u77, u78, u79, u80, u81, u82, u83, u84, u85, u86, u87, u88, u89, u90, u91, u92, u93, u94, u95, u96, u97, u98, u99, u100, .pointer (some ⟨g1, 1, none⟩), .slice q H.length d, .int .i64 (H.length : Int), .int .i64 (r : Int), u105, u106, u107, u108, u109, u110, u111, u112, u113, u114, u115, u116], defers := [] } : Act)) (fun (zz : Nat × Value × Value × Value × Value × Value × Value × Value × Value × Value × Value × Value × Value × Value × Value × Value) => match zz with | ⟨r, u4, u10, u11, u105, u106, u107, u108, u109, u110, u111, u112, u113, u114, u115, u116⟩ => [⟨g2, #[.slice p' K.length c', .slice q' J.length d'], 25⟩, ⟨g1, #[.slice p G.length c, .slice q H.length d], 25⟩]) (fun (zz : Nat × Value × Value × Value × Value × Value × Value × Value × Value × Value × Value × Value × Value × Value × Value × Value) => match zz with | ⟨r, u4, u10, u11, u105, u106, u107, u108, u109, u110, u111, u112, u113, u114, u115, u116⟩ => r ≤ H.length ∧ ∀ l, l < r → H[l]! = J[l]!) (fun (zz : Nat × Value × Value × Value × Value × Value × Value × Value × Value × Value × Value × Value × Value × Value × Value × Value) => match zz with | ⟨r, u4, u10, u11, u105, u106, u107, u108, u109, u110, u111, u112, u113, u114, u115, u116⟩ => H.length - r) ⟨0, _, _, _, _, _, _, _, _, _, _, _, _, _, _, _⟩ ⟨Nat.zero_le _, fun j hj => absurd hj (Nat.not_lt_zero j)⟩ rfl (List.Sublist.cons_cons _ (List.Sublist.cons_cons _ List.Sublist.slnil)) ?_
    rintro ⟨r, u4, u10, u11, u105, u106, u107, u108, u109, u110, u111, u112, u113, u114, u115, u116⟩ hφ
    (try dsimp only at hφ ⊢)
    obtain ⟨x1, x2⟩ := hφ
    refine wc_seq ?_
    refine wc_region ?_
    refine wl_val (.bool (decide ((r : Int) < (H.length : Int)))) rfl (fun w => run_cmp rfl rfl rfl Try.underlying3 rfl w) ?_
    simp only [Act.put, Xa, Xz, Xs]
    refine wl_nil ?_
    refine we_then ?_
    refine wc_seq ?_
    cases h6 : (decide ((r : Int) < (H.length : Int)))
    ·
     skip
     have p6 : ¬ ((r : Int) < (H.length : Int)) := of_decide_eq_false h6
     refine wc_false rfl ?_
     refine wc_exit ?_
     refine we_then_exit ?_
     refine we_then_exit ?_
     refine we_in_here ?_
     refine we_then ?_
     refine wc_seq ?_
     refine wc_region ?_
     refine wl_val (.bool true) rfl (fun _ => rfl) ?_
     simp only [Act.put, Xa, Xz, Xs]
     refine wl_nil ?_
     refine we_then ?_
     refine wc_ret ?_
     refine we_ret1 (.bool true) rfl rfl rfl (fun w1 hE => ?_)
     have e1 : i = G.length := by omega
     have e2 : r = H.length := by omega
     rw [sameB_yes (sameT_of (by omega) (by omega) (fun j hj => b2 j (by omega)) (fun j hj => x2 j (by omega)))]
     exact ⟨rfl, hE.below⟩
    ·
     skip
     have p6 : (r : Int) < (H.length : Int) := of_decide_eq_true h6
     refine wc_true rfl ?_
     refine wc_skip ?_
     refine we_then ?_
     refine wc_seq ?_
     refine wc_block ?_
     refine wc_seq ?_
     refine wc_region ?_
     refine wl_val (.int .i64 (r : Int)) rfl (fun _ => rfl) ?_
     simp only [Act.put, Xa, Xz, Xs]
     refine wl_read (eaddr q (r * 5)) rfl (er_index r 5 (sl_old hH) rfl rfl rfl rfl (by omega) (flat_length (enc := gp) (size := 5) (fun _ => rfl) _) (by decide) Try.underlying23 (by kernel_rfl)) ?_
     simp only [Act.put, Xa, Xz, Xs]
     refine wl_read (.agg #[.int .i64 ((H[r]!).id), .int .i64 ((H[r]!).seg), .int .i64 ((H[r]!).off), .int .i64 ((H[r]!).acc), .int .i64 ((H[r]!).slack)]) rfl (er_part (r * 5) [.int .i64 ((H[r]!).id), .int .i64 ((H[r]!).seg), .int .i64 ((H[r]!).off), .int .i64 ((H[r]!).acc), .int .i64 ((H[r]!).slack)] (sl_old hH) rfl rfl (flat_part (enc := gp) (fun _ => rfl) H r (by omega)) (Nat.zero_lt_succ _) Try.underlying60 rfl (by kernel_rfl)) ?_
     simp only [Act.put, Xa, Xz, Xs]
     refine wl_new 60 (#[.int .i64 0, .int .i64 0, .int .i64 0, .int .i64 0, .int .i64 0]) rfl (fun _ => by go_simp) ?_
     intro g7
     simp only [Act.put, Xa, Xz, Xs]
     refine wl_val (.int .i64 (r : Int)) rfl (fun _ => rfl) ?_
     simp only [Act.put, Xa, Xz, Xs]
     refine wl_store 0 60 (.tmp 11) (.tmp 108) (#[.int .i64 ((H[r]!).id), .int .i64 ((H[r]!).seg), .int .i64 ((H[r]!).off), .int .i64 ((H[r]!).acc), .int .i64 ((H[r]!).slack)]) rfl rfl rfl rfl rfl (by kernel_rfl) rfl (by simp [Value.oneCell']) ?_
     simp only [Act.put, List.set_cons_zero]
     refine wl_nil ?_
     refine we_then ?_
     refine wc_seq ?_
     refine wc_draw [.plain, .late, .plain, .late, .plain, .plain, .late] none [] 117 (by kernel_rfl) rfl (by kernel_rfl) (by kernel_rfl) ?_
     refine ws_load 60 (.tmp 11) (own_row 0 rfl) rfl rfl rfl rfl Try.underlying60 rfl (by kernel_rfl) ?_
     simp only [Nat.reduceAdd, Act.put, Xa, Xz, Xs]
     refine ws_late (.pointer (some ⟨g2, 1, none⟩)) rfl rfl (fun _ => by go_simp) ?_
     simp only [Nat.reduceAdd, Act.put, Xa, Xz, Xs]
     refine ws_cell 23 (.tmp 110) (.slice q' J.length d') (own_row 1 rfl) rfl rfl rfl rfl rfl Try.isAgg23 ?_
     simp only [Nat.reduceAdd, Act.put, Xa, Xz, Xs]
     refine ws_late (.int .i64 (r : Int)) rfl rfl (fun _ => rfl) ?_
     simp only [Nat.reduceAdd, Act.put, Xa, Xz, Xs]
     refine ws_read (eaddr q' (r * 5)) rfl rfl (er_index r 5 (sl_old kH) rfl rfl rfl rfl (by omega) (flat_length (enc := gp) (size := 5) (fun _ => rfl) _) (by decide) Try.underlying23 (by kernel_rfl)) ?_
     simp only [Nat.reduceAdd, Act.put, Xa, Xz, Xs]
     refine ws_read (.agg #[.int .i64 ((J[r]!).id), .int .i64 ((J[r]!).seg), .int .i64 ((J[r]!).off), .int .i64 ((J[r]!).acc), .int .i64 ((J[r]!).slack)]) rfl rfl (er_part (r * 5) [.int .i64 ((J[r]!).id), .int .i64 ((J[r]!).seg), .int .i64 ((J[r]!).off), .int .i64 ((J[r]!).acc), .int .i64 ((J[r]!).slack)] (sl_old kH) rfl rfl (flat_part (enc := gp) (fun _ => rfl) J r (by omega)) (Nat.zero_lt_succ _) Try.underlying60 rfl (by kernel_rfl)) ?_
     simp only [Nat.reduceAdd, Act.put, Xa, Xz, Xs]
     refine ws_late (.bool (!(((H[r]!).id) == ((J[r]!).id) && ((H[r]!).seg) == ((J[r]!).seg) && ((H[r]!).off) == ((J[r]!).off) && ((H[r]!).acc) == ((J[r]!).acc) && ((H[r]!).slack) == ((J[r]!).slack)))) rfl rfl (fun w => ne_grp rfl rfl rfl w) ?_
     simp only [Nat.reduceAdd, Act.put, Xa, Xz, Xs]
     refine ws_nil [] trivial (by simp) ?_
     intro ps8
     simp only [fin, List.foldl_nil, List.map, List.nil_append]
     refine we_then ?_
     cases h9 : (((H[r]!).id) == ((J[r]!).id) && ((H[r]!).seg) == ((J[r]!).seg) && ((H[r]!).off) == ((J[r]!).off) && ((H[r]!).acc) == ((J[r]!).acc) && ((H[r]!).slack) == ((J[r]!).slack))
     ·
      skip
      have p9 : ¬ ((((H[r]!).id) = ((J[r]!).id)) ∧ (((H[r]!).seg) = ((J[r]!).seg)) ∧ (((H[r]!).off) = ((J[r]!).off)) ∧ (((H[r]!).acc) = ((J[r]!).acc)) ∧ (((H[r]!).slack) = ((J[r]!).slack))) := by simpa [and_assoc] using h9
      refine wc_true rfl ?_
      refine wc_seq ?_
      refine wc_region ?_
      refine wl_val (.bool false) rfl (fun _ => rfl) ?_
      simp only [Act.put, Xa, Xz, Xs]
      refine wl_nil ?_
      refine we_then ?_
      refine wc_ret ?_
      refine we_in_ret ?_
      refine we_then_ret ?_
      refine we_then_ret ?_
      refine we_in_ret ?_
      refine we_then_ret ?_
      refine we_ret1 (.bool false) rfl rfl rfl (fun w1 hE => ?_)
      rw [sameB_no (fun hq => by have y := hq.2; subst y; simp_all)]
      exact ⟨rfl, hE.below⟩
     ·
      skip
      have p9 : (((H[r]!).id) = ((J[r]!).id)) ∧ (((H[r]!).seg) = ((J[r]!).seg)) ∧ (((H[r]!).off) = ((J[r]!).off)) ∧ (((H[r]!).acc) = ((J[r]!).acc)) ∧ (((H[r]!).slack) = ((J[r]!).slack)) := by simpa [and_assoc] using h9
      refine wc_false rfl ?_
      refine wc_skip ?_
      refine we_in ?_
      refine we_then ?_
      refine wc_region ?_
      refine wl_val (.int .i64 ((r + 1 : Nat) : Int)) rfl (fun w => run_nat (X := r) (Y := 1) (Z := r + 1) rfl rfl rfl rfl (by omega) w) ?_
      simp only [Act.put, Xa, Xz, Xs]
      refine wl_val (.int .i64 ((r + 1 : Nat) : Int)) rfl (fun _ => rfl) ?_
      simp only [Act.put, Xa, Xz, Xs]
      refine wl_nil ?_
      exact we_meet ⟨(r + 1), _, _, _, _, _, _, _, _, _, _, _, _, _, _, _⟩ (by (try dsimp only); exact ⟨⟨by omega, all_succ x2 (gp_ext p9)⟩, by omega⟩) rfl (List.Sublist.cons _ (List.Sublist.cons_cons _ (List.Sublist.cons_cons _ List.Sublist.slnil)))
   ·
    skip
    have p5 : (i : Int) < (G.length : Int) := of_decide_eq_true h5
    refine wc_true rfl ?_
    refine wc_skip ?_
    refine we_then ?_
    refine wc_seq ?_
    refine wc_block ?_
    refine wc_seq ?_
    have sq := sg_at hG (show i < G.length by omega)
    have sq1 := sq.fewP
    have sq2 := sq.fewX
    refine wc_region ?_
    refine wl_val (.int .i64 (i : Int)) rfl (fun _ => rfl) ?_
    simp only [Act.put, Xa, Xz, Xs]
    refine wl_read (eaddr p (i * 3)) rfl (er_index i 3 (sl_old hS) rfl rfl rfl rfl (by omega) (flat_length (enc := sg) (size := 3) (fun _ => rfl) _) (by decide) Try.underlying22 (by kernel_rfl)) ?_
    simp only [Act.put, Xa, Xz, Xs]
    refine wl_read (.agg #[.int .i64 ((G[i]!).len), .slice ((G[i]!).pp) ((G[i]!).P.length) ((G[i]!).pc), .slice ((G[i]!).np) ((G[i]!).X.length) ((G[i]!).nc)]) rfl (er_part (i * 3) [.int .i64 ((G[i]!).len), .slice ((G[i]!).pp) ((G[i]!).P.length) ((G[i]!).pc), .slice ((G[i]!).np) ((G[i]!).X.length) ((G[i]!).nc)] (sl_old hS) rfl rfl (flat_part (enc := sg) (fun _ => rfl) G i (by omega)) (Nat.zero_lt_succ _) Try.underlying54 rfl (by kernel_rfl)) ?_
    simp only [Act.put, Xa, Xz, Xs]
    refine wl_new 54 (#[.int .i64 0, .slice none 0 0, .slice none 0 0]) rfl (fun _ => by go_simp) ?_
    intro g10
    simp only [Act.put, Xa, Xz, Xs]
    refine wl_val (.int .i64 (i : Int)) rfl (fun _ => rfl) ?_
    simp only [Act.put, Xa, Xz, Xs]
    refine wl_store 0 54 (.tmp 6) (.tmp 35) (#[.int .i64 ((G[i]!).len), .slice ((G[i]!).pp) ((G[i]!).P.length) ((G[i]!).pc), .slice ((G[i]!).np) ((G[i]!).X.length) ((G[i]!).nc)]) rfl rfl rfl rfl rfl (by kernel_rfl) rfl (by simp [Value.oneCell']) ?_
    simp only [Act.put, List.set_cons_zero]
    refine wl_nil ?_
    refine we_then ?_
    refine wc_seq ?_
    refine wc_region ?_
    refine wl_val (.pointer (some ⟨g2, 0, none⟩)) rfl (fun _ => by go_simp) ?_
    simp only [Act.put, Xa, Xz, Xs]
    refine wl_cell 22 (.tmp 36) (.slice p' K.length c') (own_row 1 rfl) rfl rfl rfl rfl Try.isAgg22 ?_
    simp only [Act.put, Xa, Xz, Xs]
    refine wl_val (.int .i64 (i : Int)) rfl (fun _ => rfl) ?_
    simp only [Act.put, Xa, Xz, Xs]
    refine wl_read (eaddr p' (i * 3)) rfl (er_index i 3 (sl_old kS) rfl rfl rfl rfl (by omega) (flat_length (enc := sg) (size := 3) (fun _ => rfl) _) (by decide) Try.underlying22 (by kernel_rfl)) ?_
    simp only [Act.put, Xa, Xz, Xs]
    refine wl_read (.agg #[.int .i64 ((K[i]!).len), .slice ((K[i]!).pp) ((K[i]!).P.length) ((K[i]!).pc), .slice ((K[i]!).np) ((K[i]!).X.length) ((K[i]!).nc)]) rfl (er_part (i * 3) [.int .i64 ((K[i]!).len), .slice ((K[i]!).pp) ((K[i]!).P.length) ((K[i]!).pc), .slice ((K[i]!).np) ((K[i]!).X.length) ((K[i]!).nc)] (sl_old kS) rfl rfl (flat_part (enc := sg) (fun _ => rfl) K i (by omega)) (Nat.zero_lt_succ _) Try.underlying54 rfl (by kernel_rfl)) ?_
    simp only [Act.put, Xa, Xz, Xs]
    refine wl_new 54 (#[.int .i64 0, .slice none 0 0, .slice none 0 0]) rfl (fun _ => by go_simp) ?_
    intro g11
    simp only [Act.put, Xa, Xz, Xs]
    refine wl_store 0 54 (.tmp 7) (.tmp 40) (#[.int .i64 ((K[i]!).len), .slice ((K[i]!).pp) ((K[i]!).P.length) ((K[i]!).pc), .slice ((K[i]!).np) ((K[i]!).X.length) ((K[i]!).nc)]) rfl rfl rfl rfl rfl (by kernel_rfl) rfl (by simp [Value.oneCell']) ?_
    simp only [Act.put, List.set_cons_zero]
    refine wl_nil ?_
    refine we_then ?_
    refine wc_seq ?_
    refine wc_seq ?_
    refine wc_region ?_
    refine wl_val (.pointer (some ⟨g10, 0, none⟩)) rfl (fun _ => by go_simp) ?_
    simp only [Act.put, Xa, Xz, Xs]
    refine wl_cell 2 (.tmp 41) (.int .i64 ((G[i]!).len)) (own_row 1 rfl) rfl rfl rfl rfl Try.isAgg2 ?_
    simp only [Act.put, Xa, Xz, Xs]
    refine wl_val (.pointer (some ⟨g11, 0, none⟩)) rfl (fun _ => by go_simp) ?_
    simp only [Act.put, Xa, Xz, Xs]
    refine wl_cell 2 (.tmp 43) (.int .i64 ((K[i]!).len)) (own_row 0 rfl) rfl rfl rfl rfl Try.isAgg2 ?_
    simp only [Act.put, Xa, Xz, Xs]
    refine wl_val (.bool (((G[i]!).len) != ((K[i]!).len))) rfl (fun w => run_cmp rfl rfl rfl Try.underlying2 rfl w) ?_
    simp only [Act.put, Xa, Xz, Xs]
    refine wl_val (.bool (((G[i]!).len) != ((K[i]!).len))) rfl (fun _ => rfl) ?_
    simp only [Act.put, Xa, Xz, Xs]
    cases h12 : (((G[i]!).len) != ((K[i]!).len))
    ·
     skip
     have p12 : ¬ (((G[i]!).len) ≠ ((K[i]!).len)) := by simpa using h12
     refine wl_val (.pointer (some ⟨g10, 1, none⟩)) rfl (fun _ => by go_simp) ?_
     simp only [Act.put, Xa, Xz, Xs]
     refine wl_cell 51 (.tmp 47) (.slice ((G[i]!).pp) ((G[i]!).P.length) ((G[i]!).pc)) (own_row 1 rfl) rfl rfl rfl rfl Try.isAgg51 ?_
     simp only [Act.put, Xa, Xz, Xs]
     refine wl_val (.int .i64 (((G[i]!).P.length : Nat) : Int)) rfl (fun w => er_len rfl rfl Try.underlying51 w) ?_
     simp only [Act.put, Xa, Xz, Xs]
     refine wl_val (.pointer (some ⟨g11, 1, none⟩)) rfl (fun _ => by go_simp) ?_
     simp only [Act.put, Xa, Xz, Xs]
     refine wl_cell 51 (.tmp 50) (.slice ((K[i]!).pp) ((K[i]!).P.length) ((K[i]!).pc)) (own_row 0 rfl) rfl rfl rfl rfl Try.isAgg51 ?_
     simp only [Act.put, Xa, Xz, Xs]
     refine wl_val (.int .i64 (((K[i]!).P.length : Nat) : Int)) rfl (fun w => er_len rfl rfl Try.underlying51 w) ?_
     simp only [Act.put, Xa, Xz, Xs]
     refine wl_val (.bool ((((G[i]!).P.length : Nat) : Int) != (((K[i]!).P.length : Nat) : Int))) rfl (fun w => run_cmp rfl rfl rfl Try.underlying3 rfl w) ?_
     simp only [Act.put, Xa, Xz, Xs]
     refine wl_val (.bool ((((G[i]!).P.length : Nat) : Int) != (((K[i]!).P.length : Nat) : Int))) rfl (fun _ => rfl) ?_
     simp only [Act.put, Xa, Xz, Xs]
     refine wl_val (.bool ((((G[i]!).P.length : Nat) : Int) != (((K[i]!).P.length : Nat) : Int))) rfl (fun _ => rfl) ?_
     simp only [Act.put, Xa, Xz, Xs]
     cases h13 : ((((G[i]!).P.length : Nat) : Int) != (((K[i]!).P.length : Nat) : Int))
     ·
      skip
      have p13 : ¬ ((((G[i]!).P.length : Nat) : Int) ≠ (((K[i]!).P.length : Nat) : Int)) := by simpa using h13
      refine wl_val (.pointer (some ⟨g10, 2, none⟩)) rfl (fun _ => by go_simp) ?_
      simp only [Act.put, Xa, Xz, Xs]
      refine wl_cell 52 (.tmp 56) (.slice ((G[i]!).np) ((G[i]!).X.length) ((G[i]!).nc)) (own_row 1 rfl) rfl rfl rfl rfl Try.isAgg52 ?_
      simp only [Act.put, Xa, Xz, Xs]
      refine wl_val (.int .i64 (((G[i]!).X.length : Nat) : Int)) rfl (fun w => er_len rfl rfl Try.underlying52 w) ?_
      simp only [Act.put, Xa, Xz, Xs]
      refine wl_val (.pointer (some ⟨g11, 2, none⟩)) rfl (fun _ => by go_simp) ?_
      simp only [Act.put, Xa, Xz, Xs]
      refine wl_cell 52 (.tmp 59) (.slice ((K[i]!).np) ((K[i]!).X.length) ((K[i]!).nc)) (own_row 0 rfl) rfl rfl rfl rfl Try.isAgg52 ?_
      simp only [Act.put, Xa, Xz, Xs]
      refine wl_val (.int .i64 (((K[i]!).X.length : Nat) : Int)) rfl (fun w => er_len rfl rfl Try.underlying52 w) ?_
      simp only [Act.put, Xa, Xz, Xs]
      refine wl_val (.bool ((((G[i]!).X.length : Nat) : Int) != (((K[i]!).X.length : Nat) : Int))) rfl (fun w => run_cmp rfl rfl rfl Try.underlying3 rfl w) ?_
      simp only [Act.put, Xa, Xz, Xs]
      refine wl_val (.bool ((((G[i]!).X.length : Nat) : Int) != (((K[i]!).X.length : Nat) : Int))) rfl (fun _ => rfl) ?_
      simp only [Act.put, Xa, Xz, Xs]
      refine wl_nil ?_
      refine we_then ?_
      cases h14 : ((((G[i]!).X.length : Nat) : Int) != (((K[i]!).X.length : Nat) : Int))
      ·
       skip
       have p14 : ¬ ((((G[i]!).X.length : Nat) : Int) ≠ (((K[i]!).X.length : Nat) : Int)) := by simpa using h14
       refine wc_false rfl ?_
       refine wc_skip ?_
       refine we_then ?_
       refine wc_seq ?_
       refine wc_seq ?_
       refine wc_region ?_
       refine wl_val (.pointer (some ⟨g10, 1, none⟩)) rfl (fun _ => by go_simp) ?_
       simp only [Act.put, Xa, Xz, Xs]
       refine wl_cell 51 (.tmp 64) (.slice ((G[i]!).pp) ((G[i]!).P.length) ((G[i]!).pc)) (own_row 1 rfl) rfl rfl rfl rfl Try.isAgg51 ?_
       simp only [Act.put, Xa, Xz, Xs]
       refine wl_val (.int .i64 (((G[i]!).P.length : Nat) : Int)) rfl (fun w => er_len rfl rfl Try.underlying51 w) ?_
       simp only [Act.put, Xa, Xz, Xs]
       refine wl_val (.int .i64 0) rfl (fun _ => rfl) ?_
       simp only [Act.put, Xa, Xz, Xs]
       refine wl_nil ?_
       refine we_then ?_
       refine wc_block ?_
       refine wc_loop (fun (zz : Nat × Value × Value × Value × Value × Value × Value × Value × Value × Value × Value × Value × Value × Value × Value × Value × Value) => match zz with | ⟨k, u4, u8, u68, u69, u70, u71, u72, u73, u74, u75, u76, u77, u78, u79, u80, u81⟩ => ({ tmps := #[.agg #[.slice p G.length c, .slice q H.length d], .agg #[.slice p' K.length c', .slice q' J.length d'], .pointer (some ⟨g1, 0, none⟩), .pointer (some ⟨g2, 0, none⟩), u4, .int .i64 (i : Int), .pointer (some ⟨g10, 0, none⟩), .pointer (some ⟨g11, 0, none⟩), u8, u9, undef, undef, .pointer (some ⟨g1, 0, none⟩), .slice p G.length c, .int .i64 (G.length : Int), .pointer (some ⟨g2, 0, none⟩), .slice p' K.length c', .int .i64 (K.length : Int), .bool false, .bool false, .pointer (some ⟨g1, 1, none⟩), .slice q H.length d, .int .i64 (H.length : Int), .pointer (some ⟨g2, 1, none⟩), .slice q' J.length d', .int .i64 (J.length : Int), .bool false, .bool false, .pointer (some ⟨g1, 0, none⟩), .slice p G.length c, .int .i64 (G.length : Int), .int .i64 (i : Int), .bool true, .int .i64 (i : Int), eaddr p (i * 3), .agg #[.int .i64 ((G[i]!).len), .slice ((G[i]!).pp) ((G[i]!).P.length) ((G[i]!).pc), .slice ((G[i]!).np) ((G[i]!).X.length) ((G[i]!).nc)], .pointer (some ⟨g2, 0, none⟩), .slice p' K.length c', .int .i64 (i : Int), eaddr p' (i * 3), .agg #[.int .i64 ((K[i]!).len), .slice ((K[i]!).pp) ((K[i]!).P.length) ((K[i]!).pc), .slice ((K[i]!).np) ((K[i]!).X.length) ((K[i]!).nc)], .pointer (some ⟨g10, 0, none⟩), .int .i64 ((G[i]!).len), .pointer (some ⟨g11, 0, none⟩), .int .i64 ((K[i]!).len), .bool false, .bool false, .pointer (some ⟨g10, 1, none⟩), .slice ((G[i]!).pp) ((G[i]!).P.length) ((G[i]!).pc), .int .i64 (((G[i]!).P.length : Nat) : Int), .pointer (some ⟨g11, 1, none⟩), .slice ((K[i]!).pp) ((K[i]!).P.length) ((K[i]!).pc), .int .i64 (((K[i]!).P.length : Nat) : Int), .bool false, .bool false, .bool false, .pointer (some ⟨g10, 2, none⟩), .slice ((G[i]!).np) ((G[i]!).X.length) ((G[i]!).nc), .int .i64 (((G[i]!).X.length : Nat) : Int), .pointer (some ⟨g11, 2, none⟩), .slice ((K[i]!).np) ((K[i]!).X.length) ((K[i]!).nc), .int .i64 (((K[i]!).X.length : Nat) : Int), .bool false, .bool false, .pointer (some ⟨g10, 1, none⟩), .slice ((G[i]!).pp) ((G[i]!).P.length) ((G[i]!).pc), .int .i64 (((G[i]!).P.length : Nat) : Int), .int .i64 (k : Int), u68, u69, u70, u71, u72, u73, u74, u75, u76, u77, u78, u79, u80, u81, u82, u83, u84, u85, u86, u87, u88, u89, u90, u91, u92, u93, u94, u95, u96, u97, u98, u99, u100, undef, undef, undef, undef, undef, undef, undef, undef, undef, undef, undef, undef, undef, undef, undef, undef], defers := [] } : Act)) (fun (zz : Nat × Value × Value × Value × Value × Value × Value × Value × Value × Value × Value × Value × Value × Value × Value × Value × Value) => match zz with | ⟨k, u4, u8, u68, u69, u70, u71, u72, u73, u74, u75, u76, u77, u78, u79, u80, u81⟩ => [⟨g11, #[.int .i64 ((K[i]!).len), .slice ((K[i]!).pp) ((K[i]!).P.length) ((K[i]!).pc), .slice ((K[i]!).np) ((K[i]!).X.length) ((K[i]!).nc)], 54⟩, ⟨g10, #[.int .i64 ((G[i]!).len), .slice ((G[i]!).pp) ((G[i]!).P.length) ((G[i]!).pc), .slice ((G[i]!).np) ((G[i]!).X.length) ((G[i]!).nc)], 54⟩, ⟨g2, #[.slice p' K.length c', .slice q' J.length d'], 25⟩, ⟨g1, #[.slice p G.length c, .slice q H.length d], 25⟩]) (fun (zz : Nat × Value × Value × Value × Value × Value × Value × Value × Value × Value × Value × Value × Value × Value × Value × Value × Value) => match zz with | ⟨k, u4, u8, u68, u69, u70, u71, u72, u73, u74, u75, u76, u77, u78, u79, u80, u81⟩ => k ≤ (G[i]!).P.length ∧ ∀ l, l < k → (G[i]!).P[l]! = (K[i]!).P[l]!) (fun (zz : Nat × Value × Value × Value × Value × Value × Value × Value × Value × Value × Value × Value × Value × Value × Value × Value × Value) => match zz with | ⟨k, u4, u8, u68, u69, u70, u71, u72, u73, u74, u75, u76, u77, u78, u79, u80, u81⟩ => (G[i]!).P.length - k) ⟨0, _, _, _, _, _, _, _, _, _, _, _, _, _, _, _, _⟩ ⟨Nat.zero_le _, fun j hj => absurd hj (Nat.not_lt_zero j)⟩ rfl (List.Sublist.cons_cons _ (List.Sublist.cons_cons _ (List.Sublist.cons_cons _ (List.Sublist.cons_cons _ List.Sublist.slnil)))) ?_
       rintro ⟨k, u4, u8, u68, u69, u70, u71, u72, u73, u74, u75, u76, u77, u78, u79, u80, u81⟩ hφ
       (try dsimp only at hφ ⊢)
       obtain ⟨c1, c2⟩ := hφ
       refine wc_seq ?_
       refine wc_region ?_
       refine wl_val (.bool (decide ((k : Int) < (((G[i]!).P.length : Nat) : Int)))) rfl (fun w => run_cmp rfl rfl rfl Try.underlying3 rfl w) ?_
       simp only [Act.put, Xa, Xz, Xs]
       refine wl_nil ?_
       refine we_then ?_
       refine wc_seq ?_
       cases h15 : (decide ((k : Int) < (((G[i]!).P.length : Nat) : Int)))
       ·
        skip
        have p15 : ¬ ((k : Int) < (((G[i]!).P.length : Nat) : Int)) := of_decide_eq_false h15
        refine wc_false rfl ?_
        refine wc_exit ?_
        refine we_then_exit ?_
        refine we_then_exit ?_
        refine we_in_here ?_
        refine we_then ?_
        refine wc_seq ?_
        refine wc_region ?_
        refine wl_val (.pointer (some ⟨g10, 2, none⟩)) rfl (fun _ => by go_simp) ?_
        simp only [Act.put, Xa, Xz, Xs]
        refine wl_cell 52 (.tmp 82) (.slice ((G[i]!).np) ((G[i]!).X.length) ((G[i]!).nc)) (own_row 1 rfl) rfl rfl rfl rfl Try.isAgg52 ?_
        simp only [Act.put, Xa, Xz, Xs]
        refine wl_val (.int .i64 (((G[i]!).X.length : Nat) : Int)) rfl (fun w => er_len rfl rfl Try.underlying52 w) ?_
        simp only [Act.put, Xa, Xz, Xs]
        refine wl_val (.int .i64 0) rfl (fun _ => rfl) ?_
        simp only [Act.put, Xa, Xz, Xs]
        refine wl_nil ?_
        refine we_then ?_
        refine wc_block ?_
        refine wc_loop (fun (zz : Nat × Value × Value × Value × Value × Value × Value × Value × Value × Value × Value × Value × Value × Value × Value × Value × Value) => match zz with | ⟨j, u4, u9, u86, u87, u88, u89, u90, u91, u92, u93, u94, u95, u96, u97, u98, u99⟩ => ({ tmps := #[.agg #[.slice p G.length c, .slice q H.length d], .agg #[.slice p' K.length c', .slice q' J.length d'], .pointer (some ⟨g1, 0, none⟩), .pointer (some ⟨g2, 0, none⟩), u4, .int .i64 (i : Int), .pointer (some ⟨g10, 0, none⟩), .pointer (some ⟨g11, 0, none⟩), u8, u9, undef, undef, .pointer (some ⟨g1, 0, none⟩), .slice p G.length c, .int .i64 (G.length : Int), .pointer (some ⟨g2, 0, none⟩), .slice p' K.length c', .int .i64 (K.length : Int), .bool false, .bool false, .pointer (some ⟨g1, 1, none⟩), .slice q H.length d, .int .i64 (H.length : Int), .pointer (some ⟨g2, 1, none⟩), .slice q' J.length d', .int .i64 (J.length : Int), .bool false, .bool false, .pointer (some ⟨g1, 0, none⟩), .slice p G.length c, .int .i64 (G.length : Int), .int .i64 (i : Int), .bool true, .int .i64 (i : Int), eaddr p (i * 3), .agg #[.int .i64 ((G[i]!).len), .slice ((G[i]!).pp) ((G[i]!).P.length) ((G[i]!).pc), .slice ((G[i]!).np) ((G[i]!).X.length) ((G[i]!).nc)], .pointer (some ⟨g2, 0, none⟩), .slice p' K.length c', .int .i64 (i : Int), eaddr p' (i * 3), .agg #[.int .i64 ((K[i]!).len), .slice ((K[i]!).pp) ((K[i]!).P.length) ((K[i]!).pc), .slice ((K[i]!).np) ((K[i]!).X.length) ((K[i]!).nc)], .pointer (some ⟨g10, 0, none⟩), .int .i64 ((G[i]!).len), .pointer (some ⟨g11, 0, none⟩), .int .i64 ((K[i]!).len), .bool false, .bool false, .pointer (some ⟨g10, 1, none⟩), .slice ((G[i]!).pp) ((G[i]!).P.length) ((G[i]!).pc), .int .i64 (((G[i]!).P.length : Nat) : Int), .pointer (some ⟨g11, 1, none⟩), .slice ((K[i]!).pp) ((K[i]!).P.length) ((K[i]!).pc), .int .i64 (((K[i]!).P.length : Nat) : Int), .bool false, .bool false, .bool false, .pointer (some ⟨g10, 2, none⟩), .slice ((G[i]!).np) ((G[i]!).X.length) ((G[i]!).nc), .int .i64 (((G[i]!).X.length : Nat) : Int), .pointer (some ⟨g11, 2, none⟩), .slice ((K[i]!).np) ((K[i]!).X.length) ((K[i]!).nc), .int .i64 (((K[i]!).X.length : Nat) : Int), .bool false, .bool false, .pointer (some ⟨g10, 1, none⟩), .slice ((G[i]!).pp) ((G[i]!).P.length) ((G[i]!).pc), .int .i64 (((G[i]!).P.length : Nat) : Int), .int .i64 (k : Int), .bool false, u69, u70, u71, u72, u73, u74, u75, u76, u77, u78, u79, u80, u81, .pointer (some ⟨g10, 2, none⟩), .slice ((G[i]!).np) ((G[i]!).X.length) ((G[i]!).nc), .int .i64 (((G[i]!).X.length : Nat) : Int), .int .i64 (j : Int), u86, u87, u88, u89, u90, u91, u92, u93, u94, u95, u96, u97, u98, u99, u100, undef, undef, undef, undef, undef, undef, undef, undef, undef, undef, undef, undef, undef, undef, undef, undef], defers := [] } : Act)) (fun (zz : Nat × Value × Value × Value × Value × Value × Value × Value × Value × Value × Value × Value × Value × Value × Value × Value × Value) => match zz with | ⟨j, u4, u9, u86, u87, u88, u89, u90, u91, u92, u93, u94, u95, u96, u97, u98, u99⟩ => [⟨g11, #[.int .i64 ((K[i]!).len), .slice ((K[i]!).pp) ((K[i]!).P.length) ((K[i]!).pc), .slice ((K[i]!).np) ((K[i]!).X.length) ((K[i]!).nc)], 54⟩, ⟨g10, #[.int .i64 ((G[i]!).len), .slice ((G[i]!).pp) ((G[i]!).P.length) ((G[i]!).pc), .slice ((G[i]!).np) ((G[i]!).X.length) ((G[i]!).nc)], 54⟩, ⟨g2, #[.slice p' K.length c', .slice q' J.length d'], 25⟩, ⟨g1, #[.slice p G.length c, .slice q H.length d], 25⟩]) (fun (zz : Nat × Value × Value × Value × Value × Value × Value × Value × Value × Value × Value × Value × Value × Value × Value × Value × Value) => match zz with | ⟨j, u4, u9, u86, u87, u88, u89, u90, u91, u92, u93, u94, u95, u96, u97, u98, u99⟩ => j ≤ (G[i]!).X.length ∧ ∀ l, l < j → (G[i]!).X[l]! = (K[i]!).X[l]!) (fun (zz : Nat × Value × Value × Value × Value × Value × Value × Value × Value × Value × Value × Value × Value × Value × Value × Value × Value) => match zz with | ⟨j, u4, u9, u86, u87, u88, u89, u90, u91, u92, u93, u94, u95, u96, u97, u98, u99⟩ => (G[i]!).X.length - j) ⟨0, _, _, _, _, _, _, _, _, _, _, _, _, _, _, _, _⟩ ⟨Nat.zero_le _, fun j hj => absurd hj (Nat.not_lt_zero j)⟩ rfl (List.Sublist.cons_cons _ (List.Sublist.cons_cons _ (List.Sublist.cons_cons _ (List.Sublist.cons_cons _ List.Sublist.slnil)))) ?_
        rintro ⟨j, u4, u9, u86, u87, u88, u89, u90, u91, u92, u93, u94, u95, u96, u97, u98, u99⟩ hφ
        (try dsimp only at hφ ⊢)
        obtain ⟨d1, d2⟩ := hφ
        refine wc_seq ?_
        refine wc_region ?_
        refine wl_val (.bool (decide ((j : Int) < (((G[i]!).X.length : Nat) : Int)))) rfl (fun w => run_cmp rfl rfl rfl Try.underlying3 rfl w) ?_
        simp only [Act.put, Xa, Xz, Xs]
        refine wl_nil ?_
        refine we_then ?_
        refine wc_seq ?_
        cases h16 : (decide ((j : Int) < (((G[i]!).X.length : Nat) : Int)))
        ·
         skip
         have p16 : ¬ ((j : Int) < (((G[i]!).X.length : Nat) : Int)) := of_decide_eq_false h16
         refine wc_false rfl ?_
         refine wc_exit ?_
         refine we_then_exit ?_
         refine we_then_exit ?_
         refine we_in_here ?_
         refine we_in ?_
         refine we_then ?_
         refine wc_region ?_
         refine wl_val (.int .i64 ((i + 1 : Nat) : Int)) rfl (fun w => run_nat (X := i) (Y := 1) (Z := i + 1) rfl rfl rfl rfl (by omega) w) ?_
         simp only [Act.put, Xa, Xz, Xs]
         refine wl_val (.int .i64 ((i + 1 : Nat) : Int)) rfl (fun _ => rfl) ?_
         simp only [Act.put, Xa, Xz, Xs]
         refine wl_nil ?_
         exact we_meet ⟨(i + 1), _, _, _, _, _, _, _, _, _, _, _, _, _, _, _, _, _, _, _, _, _, _, _, _, _, _, _, _, _, _, _, _, _, _, _, _, _, _, _, _, _, _, _, _, _, _, _, _, _, _, _, _, _, _, _, _, _, _, _, _, _, _, _, _, _, _, _, _, _, _, _, _, _, _, _⟩ (by (try dsimp only); exact ⟨⟨by omega, all_succ b2 (dat_eq (by omega) (by omega) (by omega) (fun l hl => c2 l (by omega)) (fun l hl => d2 l (by omega)))⟩, by omega⟩) rfl (List.Sublist.cons _ (List.Sublist.cons _ (List.Sublist.cons_cons _ (List.Sublist.cons_cons _ List.Sublist.slnil))))
        ·
         skip
         have p16 : (j : Int) < (((G[i]!).X.length : Nat) : Int) := of_decide_eq_true h16
         refine wc_true rfl ?_
         refine wc_skip ?_
         refine we_then ?_
         refine wc_seq ?_
         refine wc_block ?_
         refine wc_seq ?_
         refine wc_region ?_
         refine wl_val (.int .i64 (j : Int)) rfl (fun _ => rfl) ?_
         simp only [Act.put, Xa, Xz, Xs]
         refine wl_val (.int .i64 (j : Int)) rfl (fun _ => rfl) ?_
         simp only [Act.put, Xa, Xz, Xs]
         refine wl_nil ?_
         refine we_then ?_
         refine wc_seq ?_
         refine wc_draw [.late, .plain, .late, .plain, .plain, .late, .plain, .late, .plain, .plain, .late] none [] 117 (by kernel_rfl) rfl (by kernel_rfl) (by kernel_rfl) ?_
         refine ws_late (.pointer (some ⟨g10, 2, none⟩)) rfl rfl (fun _ => by go_simp) ?_
         simp only [Nat.reduceAdd, Act.put, Xa, Xz, Xs]
         refine ws_cell 52 (.tmp 88) (.slice ((G[i]!).np) ((G[i]!).X.length) ((G[i]!).nc)) (own_row 1 rfl) rfl rfl rfl rfl rfl Try.isAgg52 ?_
         simp only [Nat.reduceAdd, Act.put, Xa, Xz, Xs]
         refine ws_late (.int .i64 (j : Int)) rfl rfl (fun _ => rfl) ?_
         simp only [Nat.reduceAdd, Act.put, Xa, Xz, Xs]
         refine ws_read (eaddr ((G[i]!).np) (j * 1)) rfl rfl (er_index j 1 (sl_old (sg_at hG (by omega)).x) rfl rfl rfl rfl (by omega) (flat_length (enc := enc1) (size := 1) (fun _ => rfl) _) (by decide) Try.underlying52 (by kernel_rfl)) ?_
         simp only [Nat.reduceAdd, Act.put, Xa, Xz, Xs]
         refine ws_read (.int .i64 (((G[i]!).X)[j]!)) rfl rfl (er_cell (j * 1) (.int .i64 (((G[i]!).X)[j]!)) (sl_old (sg_at hG (by omega)).x) rfl rfl (flat_cell (enc := enc1) (fun _ => rfl) ((G[i]!).X) j 0 (by omega) (by decide)) Try.isAgg3) ?_
         simp only [Nat.reduceAdd, Act.put, Xa, Xz, Xs]
         refine ws_late (.pointer (some ⟨g11, 2, none⟩)) rfl rfl (fun _ => by go_simp) ?_
         simp only [Nat.reduceAdd, Act.put, Xa, Xz, Xs]
         refine ws_cell 52 (.tmp 93) (.slice ((K[i]!).np) ((K[i]!).X.length) ((K[i]!).nc)) (own_row 0 rfl) rfl rfl rfl rfl rfl Try.isAgg52 ?_
         simp only [Nat.reduceAdd, Act.put, Xa, Xz, Xs]
         refine ws_late (.int .i64 (j : Int)) rfl rfl (fun _ => rfl) ?_
         simp only [Nat.reduceAdd, Act.put, Xa, Xz, Xs]
         refine ws_read (eaddr ((K[i]!).np) (j * 1)) rfl rfl (er_index j 1 (sl_old (sg_at hK (by omega)).x) rfl rfl rfl rfl (by omega) (flat_length (enc := enc1) (size := 1) (fun _ => rfl) _) (by decide) Try.underlying52 (by kernel_rfl)) ?_
         simp only [Nat.reduceAdd, Act.put, Xa, Xz, Xs]
         refine ws_read (.int .i64 (((K[i]!).X)[j]!)) rfl rfl (er_cell (j * 1) (.int .i64 (((K[i]!).X)[j]!)) (sl_old (sg_at hK (by omega)).x) rfl rfl (flat_cell (enc := enc1) (fun _ => rfl) ((K[i]!).X) j 0 (by omega) (by decide)) Try.isAgg3) ?_
         simp only [Nat.reduceAdd, Act.put, Xa, Xz, Xs]
         refine ws_late (.bool ((((G[i]!).X)[j]!) != (((K[i]!).X)[j]!))) rfl rfl (fun w => run_cmp rfl rfl rfl Try.underlying3 rfl w) ?_
         simp only [Nat.reduceAdd, Act.put, Xa, Xz, Xs]
         refine ws_nil [] trivial (by simp) ?_
         intro ps17
         simp only [fin, List.foldl_nil, List.map, List.nil_append]
         refine we_then ?_
         cases h18 : ((((G[i]!).X)[j]!) != (((K[i]!).X)[j]!))
         ·
          skip
          have p18 : ¬ ((((G[i]!).X)[j]!) ≠ (((K[i]!).X)[j]!)) := by simpa using h18
          refine wc_false rfl ?_
          refine wc_skip ?_
          refine we_in ?_
          refine we_then ?_
          refine wc_region ?_
          refine wl_val (.int .i64 ((j + 1 : Nat) : Int)) rfl (fun w => run_nat (X := j) (Y := 1) (Z := j + 1) rfl rfl rfl rfl (by omega) w) ?_
          simp only [Act.put, Xa, Xz, Xs]
          refine wl_val (.int .i64 ((j + 1 : Nat) : Int)) rfl (fun _ => rfl) ?_
          simp only [Act.put, Xa, Xz, Xs]
          refine wl_nil ?_
          exact we_meet ⟨(j + 1), _, _, _, _, _, _, _, _, _, _, _, _, _, _, _, _⟩ (by (try dsimp only); exact ⟨⟨by omega, all_succ d2 (by omega)⟩, by omega⟩) rfl (List.Sublist.cons_cons _ (List.Sublist.cons_cons _ (List.Sublist.cons_cons _ (List.Sublist.cons_cons _ List.Sublist.slnil))))
         ·
          skip
          have p18 : (((G[i]!).X)[j]!) ≠ (((K[i]!).X)[j]!) := by simpa using h18
          refine wc_true rfl ?_
          refine wc_seq ?_
          refine wc_region ?_
          refine wl_val (.bool false) rfl (fun _ => rfl) ?_
          simp only [Act.put, Xa, Xz, Xs]
          refine wl_nil ?_
          refine we_then ?_
          refine wc_ret ?_
          refine we_in_ret ?_
          refine we_then_ret ?_
          refine we_then_ret ?_
          refine we_in_ret ?_
          refine we_in_ret ?_
          refine we_then_ret ?_
          refine we_then_ret ?_
          refine we_in_ret ?_
          refine we_then_ret ?_
          refine we_ret1 (.bool false) rfl rfl rfl (fun w1 hE => ?_)
          rw [sameB_no (fun hq => by have y := sameT_dat hq (show i < G.length by omega); have y1 := congrArg Sd.len y; have y2 := congrArg Sd.P y; have y3 := congrArg Sd.X y; dsimp only [dat] at y1 y2 y3; simp_all)]
          exact ⟨rfl, hE.below⟩
       ·
        skip
        have p15 : (k : Int) < (((G[i]!).P.length : Nat) : Int) := of_decide_eq_true h15
        refine wc_true rfl ?_
        refine wc_skip ?_
        refine we_then ?_
        refine wc_seq ?_
        refine wc_block ?_
        refine wc_seq ?_
        refine wc_region ?_
        refine wl_val (.int .i64 (k : Int)) rfl (fun _ => rfl) ?_
        simp only [Act.put, Xa, Xz, Xs]
        refine wl_val (.int .i64 (k : Int)) rfl (fun _ => rfl) ?_
        simp only [Act.put, Xa, Xz, Xs]
        refine wl_nil ?_
        refine we_then ?_
        refine wc_seq ?_
        refine wc_draw [.late, .plain, .late, .plain, .plain, .late, .plain, .late, .plain, .plain, .late] none [] 117 (by kernel_rfl) rfl (by kernel_rfl) (by kernel_rfl) ?_
        refine ws_late (.pointer (some ⟨g10, 1, none⟩)) rfl rfl (fun _ => by go_simp) ?_
        simp only [Nat.reduceAdd, Act.put, Xa, Xz, Xs]
        refine ws_cell 51 (.tmp 70) (.slice ((G[i]!).pp) ((G[i]!).P.length) ((G[i]!).pc)) (own_row 1 rfl) rfl rfl rfl rfl rfl Try.isAgg51 ?_
        simp only [Nat.reduceAdd, Act.put, Xa, Xz, Xs]
        refine ws_late (.int .i64 (k : Int)) rfl rfl (fun _ => rfl) ?_
        simp only [Nat.reduceAdd, Act.put, Xa, Xz, Xs]
        refine ws_read (eaddr ((G[i]!).pp) (k * 2)) rfl rfl (er_index k 2 (sl_old (sg_at hG (by omega)).p) rfl rfl rfl rfl (by omega) (flat_length (enc := enc2) (size := 2) (fun _ => rfl) _) (by decide) Try.underlying51 (by kernel_rfl)) ?_
        simp only [Nat.reduceAdd, Act.put, Xa, Xz, Xs]
        refine ws_read (.agg #[.int .i64 ((((G[i]!).P)[k]!).1), .int .i64 ((((G[i]!).P)[k]!).2)]) rfl rfl (er_part (k * 2) [.int .i64 ((((G[i]!).P)[k]!).1), .int .i64 ((((G[i]!).P)[k]!).2)] (sl_old (sg_at hG (by omega)).p) rfl rfl (flat_part (enc := enc2) (fun _ => rfl) ((G[i]!).P) k (by omega)) (Nat.zero_lt_succ _) Try.underlying50 rfl (by kernel_rfl)) ?_
        simp only [Nat.reduceAdd, Act.put, Xa, Xz, Xs]
        refine ws_late (.pointer (some ⟨g11, 1, none⟩)) rfl rfl (fun _ => by go_simp) ?_
        simp only [Nat.reduceAdd, Act.put, Xa, Xz, Xs]
        refine ws_cell 51 (.tmp 75) (.slice ((K[i]!).pp) ((K[i]!).P.length) ((K[i]!).pc)) (own_row 0 rfl) rfl rfl rfl rfl rfl Try.isAgg51 ?_
        simp only [Nat.reduceAdd, Act.put, Xa, Xz, Xs]
        refine ws_late (.int .i64 (k : Int)) rfl rfl (fun _ => rfl) ?_
        simp only [Nat.reduceAdd, Act.put, Xa, Xz, Xs]
        refine ws_read (eaddr ((K[i]!).pp) (k * 2)) rfl rfl (er_index k 2 (sl_old (sg_at hK (by omega)).p) rfl rfl rfl rfl (by omega) (flat_length (enc := enc2) (size := 2) (fun _ => rfl) _) (by decide) Try.underlying51 (by kernel_rfl)) ?_
        simp only [Nat.reduceAdd, Act.put, Xa, Xz, Xs]
        refine ws_read (.agg #[.int .i64 ((((K[i]!).P)[k]!).1), .int .i64 ((((K[i]!).P)[k]!).2)]) rfl rfl (er_part (k * 2) [.int .i64 ((((K[i]!).P)[k]!).1), .int .i64 ((((K[i]!).P)[k]!).2)] (sl_old (sg_at hK (by omega)).p) rfl rfl (flat_part (enc := enc2) (fun _ => rfl) ((K[i]!).P) k (by omega)) (Nat.zero_lt_succ _) Try.underlying50 rfl (by kernel_rfl)) ?_
        simp only [Nat.reduceAdd, Act.put, Xa, Xz, Xs]
        refine ws_late (.bool (!(((((G[i]!).P)[k]!).1) == ((((K[i]!).P)[k]!).1) && ((((G[i]!).P)[k]!).2) == ((((K[i]!).P)[k]!).2)))) rfl rfl (fun w => ne_piece rfl rfl rfl w) ?_
        simp only [Nat.reduceAdd, Act.put, Xa, Xz, Xs]
        refine ws_nil [] trivial (by simp) ?_
        intro ps19
        simp only [fin, List.foldl_nil, List.map, List.nil_append]
        refine we_then ?_
        cases h20 : (((((G[i]!).P)[k]!).1) == ((((K[i]!).P)[k]!).1) && ((((G[i]!).P)[k]!).2) == ((((K[i]!).P)[k]!).2))
        ·
         skip
         have p20 : ¬ ((((((G[i]!).P)[k]!).1) = ((((K[i]!).P)[k]!).1)) ∧ (((((G[i]!).P)[k]!).2) = ((((K[i]!).P)[k]!).2))) := by simpa using h20
         refine wc_true rfl ?_
         refine wc_seq ?_
         refine wc_region ?_
         refine wl_val (.bool false) rfl (fun _ => rfl) ?_
         simp only [Act.put, Xa, Xz, Xs]
         refine wl_nil ?_
         refine we_then ?_
         refine wc_ret ?_
         refine we_in_ret ?_
         refine we_then_ret ?_
         refine we_then_ret ?_
         refine we_in_ret ?_
         refine we_then_ret ?_
         refine we_in_ret ?_
         refine we_then_ret ?_
         refine we_then_ret ?_
         refine we_in_ret ?_
         refine we_then_ret ?_
         refine we_ret1 (.bool false) rfl rfl rfl (fun w1 hE => ?_)
         rw [sameB_no (fun hq => by have y := sameT_dat hq (show i < G.length by omega); have y1 := congrArg Sd.len y; have y2 := congrArg Sd.P y; have y3 := congrArg Sd.X y; dsimp only [dat] at y1 y2 y3; simp_all)]
         exact ⟨rfl, hE.below⟩
        ·
         skip
         have p20 : (((((G[i]!).P)[k]!).1) = ((((K[i]!).P)[k]!).1)) ∧ (((((G[i]!).P)[k]!).2) = ((((K[i]!).P)[k]!).2)) := by simpa using h20
         refine wc_false rfl ?_
         refine wc_skip ?_
         refine we_in ?_
         refine we_then ?_
         refine wc_region ?_
         refine wl_val (.int .i64 ((k + 1 : Nat) : Int)) rfl (fun w => run_nat (X := k) (Y := 1) (Z := k + 1) rfl rfl rfl rfl (by omega) w) ?_
         simp only [Act.put, Xa, Xz, Xs]
         refine wl_val (.int .i64 ((k + 1 : Nat) : Int)) rfl (fun _ => rfl) ?_
         simp only [Act.put, Xa, Xz, Xs]
         refine wl_nil ?_
         exact we_meet ⟨(k + 1), _, _, _, _, _, _, _, _, _, _, _, _, _, _, _, _⟩ (by (try dsimp only); exact ⟨⟨by omega, all_succ c2 (Prod.ext p20.1 p20.2)⟩, by omega⟩) rfl (List.Sublist.cons_cons _ (List.Sublist.cons_cons _ (List.Sublist.cons_cons _ (List.Sublist.cons_cons _ List.Sublist.slnil))))
      ·
       skip
       have p14 : (((G[i]!).X.length : Nat) : Int) ≠ (((K[i]!).X.length : Nat) : Int) := by simpa using h14
       refine wc_true rfl ?_
       refine wc_seq ?_
       refine wc_region ?_
       refine wl_val (.bool false) rfl (fun _ => rfl) ?_
       simp only [Act.put, Xa, Xz, Xs]
       refine wl_nil ?_
       refine we_then ?_
       refine wc_ret ?_
       refine we_then_ret ?_
       refine we_in_ret ?_
       refine we_then_ret ?_
       refine we_then_ret ?_
       refine we_in_ret ?_
       refine we_then_ret ?_
       refine we_ret1 (.bool false) rfl rfl rfl (fun w1 hE => ?_)
       rw [sameB_no (fun hq => by have y := sameT_dat hq (show i < G.length by omega); have y1 := congrArg Sd.len y; have y2 := congrArg Sd.P y; have y3 := congrArg Sd.X y; dsimp only [dat] at y1 y2 y3; simp_all)]
       exact ⟨rfl, hE.below⟩
     ·
      skip
      have p13 : (((G[i]!).P.length : Nat) : Int) ≠ (((K[i]!).P.length : Nat) : Int) := by simpa using h13
      refine wl_skip rfl ?_
      simp only [Act.put, Xa, Xz, Xs]
      refine wl_skip rfl ?_
      simp only [Act.put, Xa, Xz, Xs]
      refine wl_skip rfl ?_
      simp only [Act.put, Xa, Xz, Xs]
      refine wl_skip rfl ?_
      simp only [Act.put, Xa, Xz, Xs]
      refine wl_skip rfl ?_
      simp only [Act.put, Xa, Xz, Xs]
      refine wl_skip rfl ?_
      simp only [Act.put, Xa, Xz, Xs]
      refine wl_skip rfl ?_
      simp only [Act.put, Xa, Xz, Xs]
      refine wl_val (.bool true) rfl (fun _ => rfl) ?_
      simp only [Act.put, Xa, Xz, Xs]
      refine wl_nil ?_
      refine we_then ?_
      refine wc_true rfl ?_
      refine wc_seq ?_
      refine wc_region ?_
      refine wl_val (.bool false) rfl (fun _ => rfl) ?_
      simp only [Act.put, Xa, Xz, Xs]
      refine wl_nil ?_
      refine we_then ?_
      refine wc_ret ?_
      refine we_then_ret ?_
      refine we_in_ret ?_
      refine we_then_ret ?_
      refine we_then_ret ?_
      refine we_in_ret ?_
      refine we_then_ret ?_
      refine we_ret1 (.bool false) rfl rfl rfl (fun w1 hE => ?_)
      rw [sameB_no (fun hq => by have y := sameT_dat hq (show i < G.length by omega); have y1 := congrArg Sd.len y; have y2 := congrArg Sd.P y; have y3 := congrArg Sd.X y; dsimp only [dat] at y1 y2 y3; simp_all)]
      exact ⟨rfl, hE.below⟩
    ·
     skip
     have p12 : ((G[i]!).len) ≠ ((K[i]!).len) := by simpa using h12
     refine wl_skip rfl ?_
     simp only [Act.put, Xa, Xz, Xs]
     refine wl_skip rfl ?_
     simp only [Act.put, Xa, Xz, Xs]
     refine wl_skip rfl ?_
     simp only [Act.put, Xa, Xz, Xs]
     refine wl_skip rfl ?_
     simp only [Act.put, Xa, Xz, Xs]
     refine wl_skip rfl ?_
     simp only [Act.put, Xa, Xz, Xs]
     refine wl_skip rfl ?_
     simp only [Act.put, Xa, Xz, Xs]
     refine wl_skip rfl ?_
     simp only [Act.put, Xa, Xz, Xs]
     refine wl_val (.bool true) rfl (fun _ => rfl) ?_
     simp only [Act.put, Xa, Xz, Xs]
     refine wl_val (.bool true) rfl (fun _ => rfl) ?_
     simp only [Act.put, Xa, Xz, Xs]
     refine wl_skip rfl ?_
     simp only [Act.put, Xa, Xz, Xs]
     refine wl_skip rfl ?_
     simp only [Act.put, Xa, Xz, Xs]
     refine wl_skip rfl ?_
     simp only [Act.put, Xa, Xz, Xs]
     refine wl_skip rfl ?_
     simp only [Act.put, Xa, Xz, Xs]
     refine wl_skip rfl ?_
     simp only [Act.put, Xa, Xz, Xs]
     refine wl_skip rfl ?_
     simp only [Act.put, Xa, Xz, Xs]
     refine wl_skip rfl ?_
     simp only [Act.put, Xa, Xz, Xs]
     refine wl_val (.bool true) rfl (fun _ => rfl) ?_
     simp only [Act.put, Xa, Xz, Xs]
     refine wl_nil ?_
     refine we_then ?_
     refine wc_true rfl ?_
     refine wc_seq ?_
     refine wc_region ?_
     refine wl_val (.bool false) rfl (fun _ => rfl) ?_
     simp only [Act.put, Xa, Xz, Xs]
     refine wl_nil ?_
     refine we_then ?_
     refine wc_ret ?_
     refine we_then_ret ?_
     refine we_in_ret ?_
     refine we_then_ret ?_
     refine we_then_ret ?_
     refine we_in_ret ?_
     refine we_then_ret ?_
     refine we_ret1 (.bool false) rfl rfl rfl (fun w1 hE => ?_)
     rw [sameB_no (fun hq => by have y := sameT_dat hq (show i < G.length by omega); have y1 := congrArg Sd.len y; have y2 := congrArg Sd.P y; have y3 := congrArg Sd.X y; dsimp only [dat] at y1 y2 y3; simp_all)]
     exact ⟨rfl, hE.below⟩
  ·
   skip
   have p4 : (H.length : Int) ≠ (J.length : Int) := by simpa using h4
   refine wc_true rfl ?_
   refine wc_seq ?_
   refine wc_region ?_
   refine wl_val (.bool false) rfl (fun _ => rfl) ?_
   simp only [Act.put, Xa, Xz, Xs]
   refine wl_nil ?_
   refine we_then ?_
   refine wc_ret ?_
   refine we_then_ret ?_
   refine we_ret1 (.bool false) rfl rfl rfl (fun w1 hE => ?_)
   rw [sameB_no (fun hq => by have y := sameT_len hq; omega)]
   exact ⟨rfl, hE.below⟩
 ·
  skip
  have p3 : (G.length : Int) ≠ (K.length : Int) := by simpa using h3
  refine wl_skip rfl ?_
  simp only [Act.put, Xa, Xz, Xs]
  refine wl_skip rfl ?_
  simp only [Act.put, Xa, Xz, Xs]
  refine wl_skip rfl ?_
  simp only [Act.put, Xa, Xz, Xs]
  refine wl_skip rfl ?_
  simp only [Act.put, Xa, Xz, Xs]
  refine wl_skip rfl ?_
  simp only [Act.put, Xa, Xz, Xs]
  refine wl_skip rfl ?_
  simp only [Act.put, Xa, Xz, Xs]
  refine wl_skip rfl ?_
  simp only [Act.put, Xa, Xz, Xs]
  refine wl_val (.bool true) rfl (fun _ => rfl) ?_
  simp only [Act.put, Xa, Xz, Xs]
  refine wl_nil ?_
  refine we_then ?_
  refine wc_true rfl ?_
  refine wc_seq ?_
  refine wc_region ?_
  refine wl_val (.bool false) rfl (fun _ => rfl) ?_
  simp only [Act.put, Xa, Xz, Xs]
  refine wl_nil ?_
  refine we_then ?_
  refine wc_ret ?_
  refine we_then_ret ?_
  refine we_ret1 (.bool false) rfl rfl rfl (fun w1 hE => ?_)
  rw [sameB_no (fun hq => by have y := sameT_len hq; omega)]
  exact ⟨rfl, hE.below⟩
end Go.Proofs.Ytggannjlaehihaa.Imsame
