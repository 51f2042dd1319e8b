/-
 The laws of layer 14: steps, a set and the document's that grow together. Condition: at most 2^47 of each.
-/
import Derived.Test.YtkbaponpebkpiaaRtla
import Derived.Test.YtkbaponpebkpiaaRtsm
import Derived.Test.YtkbaponpebkpiaaRtgrow
import Derived.Test.YtkbaponpebkpiaaSfn
import Derived.Test.YtkbaponpebkpiaaVs2
namespace Go.Proofs.Ytkbaponpebkpiaa.Rtlb
open Go.ChangeShapes Go.WideShapes Go.ChangeAt Go.RowKit
open Arr Steady Sx Sw Sl Sb Sc Si Sj Sk Sh Vs Gr Tk Tkh Tkl Rt Rtm Rtg Rtp Rtk Rts Tkrefs14 Rtla Rtsm Sfn
set_option linter.unusedVariables false
set_option linter.unusedSimpArgs false
set_option maxRecDepth 100000

theorem same_len (G : List Sg) (O : List Ix) (f f1 : Int) (n : Nat) (ps tp : Option Addr) (cs tc : Nat) (w : World) (hf : f1 = f) (hl : n = O.length) (hP : Reads w ps (flat rti O)) (hT : Reads w tp (flat ix O)) (hO : OkI w O) (hR : ∀ x ∈ O, RtOk G x.X) (hn : O.length ≤ 16) :
  Calls Try.prog 21 #[.agg #[.int .i64 f1, .slice ps n cs], .agg #[.int .i64 f, .slice tp O.length tc]] w fun e w' => e = .returned (.bool true) ∧ Below w.heap.size w w' := by
 subst hf
 subst hl
 exact same_any G O f1 ps tp cs tc w hP hT hO hR hn
theorem grow_len (lo hi : Int) (G : List Sg) (H : List Gp) (p q : Option Addr) (c d : Nat) (s0 f : Int) (O : List Ix) (ps : Option Addr) (cs : Nat) (w : World) (hS : Reads w p (flat sg G)) (hG : OkS w G) (hH : Reads w q (flat gp H)) (hM : TrackMay G H) (hX : SetOk G s0 f (xs O)) (hR : Reads w ps (flat rti O)) (hlo : -9223372036854775808 ≤ lo ∧ lo ≤ 9223372036854775807) (hhi : -9223372036854775808 ≤ hi ∧ hi ≤ 9223372036854775807) (hC : ∀ s ∈ G, s.X.length ≤ s.nc) :
  Calls Try.prog 18 #[.agg #[.int .i64 f, .slice ps O.length cs], .agg #[.slice p G.length c, .slice q H.length d], .agg #[.int .i64 lo, .int .i64 hi]] w fun e w' => ∃ z : Gp2, Gp2Ok G f hi lo (xs O) z ∧ e = .returned (.tuple #[.agg #[.int .i64 z.F, .slice z.p z.X.length z.c], .int .i64 (z.e : Nat)]) ∧ Env w w' z.N := by
 have h := Rou.grow_any lo hi G H p q c d s0 f (xs O) ps cs w hS hG hH hM hX (by rw [flat_rti]; exact hR) hlo hhi hC
 rwa [xs_len] at h
theorem fit_at {L : Spans} (h : FitL L) {i : Nat} (hi : i < L.length) : (-9223372036854775808 ≤ (L[i]!).1 ∧ (L[i]!).1 ≤ 9223372036854775807) ∧ (-9223372036854775808 ≤ (L[i]!).2 ∧ (L[i]!).2 ≤ 9223372036854775807) := by
 rw [getElem!_pos L i hi]
 exact h _ (List.getElem_mem hi)
/-- What steps hands back. -/
structure Stz where
 O : List Ix
 pp : Option Addr
 pc : Nat
 tp : Option Addr
 tc : Nat
 N : List Rw
structure StzOk (G : List Sg) (s f : Int) (z : Stz) : Prop where
 set : SetOk G s f (xs z.O)
 prog : Held z.N z.pp (flat rti z.O)
 ref : Held z.N z.tp (flat ix z.O)
 each : HeldI z.N z.O
set_option maxHeartbeats 8000000 in
theorem steps_any (s f : Int) (L : Spans) (lp : Option Addr) (lc : Nat) (G : List Sg) (H : List Gp) (p q : Option Addr) (c d : Nat) (w : World) (hS : Reads w p (flat sg G)) (hG : OkS w G) (hH : Reads w q (flat gp H)) (hn : G.length ≤ 140737488355328) (hm : H.length ≤ 140737488355328) (hM : TrackMay G H) (hs : 0 ≤ s ∧ s < G.length) (hf : 0 ≤ f ∧ f ≤ (G[s.toNat]!).len) (hL : Reads w lp (flat enc2 L)) (hF : FitL L) (hLn : L.length ≤ 140737488355328) (hC : ∀ s ∈ G, s.X.length ≤ s.nc) :
  Calls Try.prog 9 #[.agg #[.slice p G.length c, .slice q H.length d], .int .i64 s, .int .i64 f, .slice lp L.length lc] w fun e w' => ∃ z : Stz, StzOk G s f z ∧ e = .returned (.tuple #[.agg #[.int .i64 f, .slice z.pp z.O.length z.pc], .agg #[.int .i64 f, .slice z.tp z.O.length z.tc], .bool true]) ∧ Env w w' z.N := by
 refine calls_sx Try.func9 rfl ?_
 simp only [Try.ntmps9, List.size_toArray, List.length_cons, List.length_nil, Nat.reduceAdd, Nat.reduceSub, Array.replicate_succ, Array.replicate_zero, List.push_toArray, List.append_toArray, List.nil_append, List.cons_append]
 refine wc_seq ?_
 refine wc_region ?_
 refine wl_new 25 (#[.slice p G.length c, .slice q H.length d]) rfl (fun _ => by go_simp) ?_
 intro g1
 simp only [Act.put, Xa, Xz, Xs]
 refine wl_new 31 (#[.int .i64 0, .slice none 0 0]) rfl (fun _ => by go_simp) ?_
 intro g2
 simp only [Act.put, Xa, Xz, Xs]
 refine wl_new 34 (#[.int .i64 0, .slice none 0 0]) rfl (fun _ => by go_simp) ?_
 intro g3
 simp only [Act.put, Xa, Xz, Xs]
 refine wl_val (.bool false) rfl (fun _ => rfl) ?_
 simp only [Act.put, Xa, Xz, Xs]
 refine wl_nil ?_
 refine we_then ?_
 refine wc_seq ?_
 refine wc_region ?_
 refine wl_val (.int .i64 s) rfl (fun _ => rfl) ?_
 simp only [Act.put, Xa, Xz, Xs]
 refine wl_val (.int .i64 f) rfl (fun _ => rfl) ?_
 simp only [Act.put, Xa, Xz, Xs]
 refine wl_call_open (ι := Pz) (fun zz => match zz with | zk4 => ⟨g3, #[.int .i64 0, .slice none 0 0], 34⟩ :: ⟨g2, #[.int .i64 0, .slice none 0 0], 31⟩ :: ⟨g1, #[.slice p G.length c, .slice q H.length d], 25⟩ :: zk4.N) 17 #[.int .i64 s, .int .i64 f] (fun zz => match zz with | zk4 => .agg #[.int .i64 f, .slice zk4.p 1 zk4.c]) (fun zz => match zz with | zk4 => zk4.N) (fun zz => match zz with | zk4 => Held zk4.N zk4.p (flat rt [[s]])) (by rintro zk4; simp) rfl (fun _ => by go_simp) (fun W hE => Rou.begin_any s f W) ?_
 rintro zk4 k4
 (try dsimp only)
 simp only [Act.put, Xa, Xz, Xs]
 refine wl_val (.int .i64 f) rfl (fun _ => rfl) ?_
 simp only [Act.put, Xa, Xz, Xs]
 refine wl_val (.int .i64 s) rfl (fun _ => rfl) ?_
 simp only [Act.put, Xa, Xz, Xs]
 refine wl_lit (e := 3) #[.int .i64 s] 1 rfl (fun _ => by go_simp) ?_
 intro g5
 simp only [Act.put, Xa, Xz, Xs]
 refine wl_lit (e := 47) #[.slice (some ⟨g5, 0, none⟩) 1 1] 1 rfl (fun _ => by go_simp) ?_
 intro g6
 simp only [Act.put, Xa, Xz, Xs]
 refine wl_val (.agg #[.int .i64 f, .slice (some ⟨g6, 0, none⟩) 1 1]) rfl (fun _ => by go_simp) ?_
 simp only [Act.put, Xa, Xz, Xs]
 refine wl_new 31 (#[.int .i64 0, .slice none 0 0]) rfl (fun _ => by go_simp) ?_
 intro g7
 simp only [Act.put, Xa, Xz, Xs]
 refine wl_new 34 (#[.int .i64 0, .slice none 0 0]) rfl (fun _ => by go_simp) ?_
 intro g8
 simp only [Act.put, Xa, Xz, Xs]
 refine wl_store 1 31 (.tmp 11) (.tmp 21) (#[.int .i64 f, .slice zk4.p 1 zk4.c]) rfl rfl rfl rfl rfl (by kernel_rfl) rfl (by simp [Value.oneCell']) ?_
 simp only [Act.put, List.set_cons_zero, List.set_cons_succ]
 refine wl_store 0 34 (.tmp 12) (.tmp 26) (#[.int .i64 f, .slice (some ⟨g6, 0, none⟩) 1 1]) rfl rfl rfl rfl rfl (by kernel_rfl) rfl (by simp [Value.oneCell']) ?_
 simp only [Act.put, List.set_cons_zero]
 refine wl_nil ?_
 refine we_then ?_
 refine wc_seq ?_
 refine wc_seq ?_
 refine wc_region ?_
 refine wl_load 31 (.tmp 11) (own_row 1 rfl) rfl rfl rfl Try.underlying31 rfl (by kernel_rfl) ?_
 simp only [Act.put, Xa, Xz, Xs]
 refine wl_load 34 (.tmp 12) (own_row 0 rfl) rfl rfl rfl Try.underlying34 rfl (by kernel_rfl) ?_
 simp only [Act.put, Xa, Xz, Xs]
 refine wl_call_at 21 #[.agg #[.int .i64 f, .slice zk4.p 1 zk4.c], .agg #[.int .i64 f, .slice (some ⟨g6, 0, none⟩) 1 1]] (.bool true) rfl (fun _ => by go_simp) (fun W hE => same_len G [(⟨some ⟨g5, 0, none⟩, [s], 1⟩ : Ix)] f f 1 _ _ _ _ W rfl rfl (held_at (show Held zk4.N zk4.p (flat rti [(⟨some ⟨g5, 0, none⟩, [s], 1⟩ : Ix)]) from k4) (List.Sublist.cons _ (List.Sublist.cons _ (List.Sublist.cons _ (List.Sublist.cons _ (List.Sublist.cons _ (List.Sublist.cons _ (List.Sublist.cons _ (List.Sublist.refl _)))))))) hE) (held_at (show Held [⟨g6, #[.slice (some ⟨g5, 0, none⟩) 1 1], 47⟩, ⟨g5, #[.int .i64 s], 3⟩] (some ⟨g6, 0, none⟩) (flat ix [(⟨some ⟨g5, 0, none⟩, [s], 1⟩ : Ix)]) from held_top) (List.Sublist.cons _ (List.Sublist.cons _ (List.Sublist.cons_cons _ (List.Sublist.cons_cons _ (List.Sublist.cons _ (List.Sublist.cons _ (List.Sublist.cons _ (List.nil_sublist _)))))))) hE) (fun x hx => by obtain rfl := List.mem_singleton.1 hx; exact ⟨held_at (show Held [⟨g6, #[.slice (some ⟨g5, 0, none⟩) 1 1], 47⟩, ⟨g5, #[.int .i64 s], 3⟩] (some ⟨g5, 0, none⟩) (flat enc1 [s]) from held_sec) (List.Sublist.cons _ (List.Sublist.cons _ (List.Sublist.cons_cons _ (List.Sublist.cons_cons _ (List.Sublist.cons _ (List.Sublist.cons _ (List.Sublist.cons _ (List.nil_sublist _)))))))) hE, by simp⟩) (set_rt (begin_ok hs hf)) (by simp)) ?_
 simp only [Act.put, Xa, Xz, Xs]
 refine wl_val (.bool false) rfl (fun _ => by go_simp) ?_
 simp only [Act.put, Xa, Xz, Xs]
 refine wl_nil ?_
 refine we_then ?_
 refine wc_false rfl ?_
 refine wc_skip ?_
 refine we_then ?_
 refine wc_seq ?_
 refine wc_seq ?_
 refine wc_region ?_
 refine wl_val (.slice lp L.length lc) rfl (fun _ => rfl) ?_
 simp only [Act.put, Xa, Xz, Xs]
 refine wl_val (.int .i64 (L.length : Int)) rfl (fun w => er_len rfl rfl Try.underlying26 w) ?_
 simp only [Act.put, Xa, Xz, Xs]
 refine wl_val (.int .i64 0) rfl (fun _ => rfl) ?_
 simp only [Act.put, Xa, Xz, Xs]
 refine wl_nil ?_
 refine we_then ?_
 refine wc_block ?_
 refine wc_loop (fun (zz : Nat × List Ix × Option Addr × Nat × Option Addr × Nat × List Rw × Value × Value × Value × Value × Value × Value × Value × Value × Value × Value × Value × Value × Value × Value × Value × Value × Value × Value × Value × Value × Value × Value × Value × Value × Value × Value × Value × Value × Value × Value × Value × Value × Value × Value × Value × Value × Value × Value × Value × Value × Value × Value × Value × Value × Value × Value × Value × Value × Value × Value × Value × Value × Value × Value × Value × Value × Value) => match zz with | ⟨i, O, pp, pc, tp, tc, N, u10, u14, u15, u16, u17, u18, u36, u37, u38, u39, u40, u41, u42, u43, u44, u45, u46, u47, u48, u49, u50, u51, u52, u53, u54, u55, u56, u57, u58, u59, u60, u61, u62, u63, u64, u65, u66, u67, u68, u69, u70, u71, u72, u73, u74, u75, u76, u77, u78, u79, u80, u81, u82, u83, u84, u85, u86⟩ => ({ tmps := #[.agg #[.slice p G.length c, .slice q H.length d], .int .i64 s, .int .i64 f, .slice lp L.length lc, .pointer (some ⟨g1, 0, none⟩), undef, undef, undef, .pointer (some ⟨g2, 0, none⟩), .pointer (some ⟨g3, 0, none⟩), u10, .pointer (some ⟨g7, 0, none⟩), .pointer (some ⟨g8, 0, none⟩), undef, u14, u15, u16, u17, u18, .int .i64 s, .int .i64 f, .agg #[.int .i64 f, .slice zk4.p 1 zk4.c], .int .i64 f, .int .i64 s, .slice (some ⟨g5, 0, none⟩) 1 1, .slice (some ⟨g6, 0, none⟩) 1 1, .agg #[.int .i64 f, .slice (some ⟨g6, 0, none⟩) 1 1], .agg #[.int .i64 f, .slice zk4.p 1 zk4.c], .agg #[.int .i64 f, .slice (some ⟨g6, 0, none⟩) 1 1], .bool true, .bool false, undef, undef, .slice lp L.length lc, .int .i64 (L.length : Int), .int .i64 (i : Int), u36, u37, u38, u39, u40, u41, u42, u43, u44, u45, u46, u47, u48, u49, u50, u51, u52, u53, u54, u55, u56, u57, u58, u59, u60, u61, u62, u63, u64, u65, u66, u67, u68, u69, u70, u71, u72, u73, u74, u75, u76, u77, u78, u79, u80, u81, u82, u83, u84, u85, u86, undef, undef], defers := [] } : Act)) (fun (zz : Nat × List Ix × Option Addr × Nat × Option Addr × Nat × List Rw × Value × Value × Value × Value × Value × Value × Value × Value × Value × Value × Value × Value × Value × Value × Value × Value × Value × Value × Value × Value × Value × Value × Value × Value × Value × Value × Value × Value × Value × Value × Value × Value × Value × Value × Value × Value × Value × Value × Value × Value × Value × Value × Value × Value × Value × Value × Value × Value × Value × Value × Value × Value × Value × Value × Value × Value × Value) => match zz with | ⟨i, O, pp, pc, tp, tc, N, u10, u14, u15, u16, u17, u18, u36, u37, u38, u39, u40, u41, u42, u43, u44, u45, u46, u47, u48, u49, u50, u51, u52, u53, u54, u55, u56, u57, u58, u59, u60, u61, u62, u63, u64, u65, u66, u67, u68, u69, u70, u71, u72, u73, u74, u75, u76, u77, u78, u79, u80, u81, u82, u83, u84, u85, u86⟩ => ⟨g8, #[.int .i64 f, .slice tp O.length tc], 34⟩ :: ⟨g7, #[.int .i64 f, .slice pp O.length pc], 31⟩ :: ⟨g6, #[.slice (some ⟨g5, 0, none⟩) 1 1], 47⟩ :: ⟨g5, #[.int .i64 s], 3⟩ :: ⟨g3, #[.int .i64 0, .slice none 0 0], 34⟩ :: ⟨g2, #[.int .i64 0, .slice none 0 0], 31⟩ :: ⟨g1, #[.slice p G.length c, .slice q H.length d], 25⟩ :: N) (fun (zz : Nat × List Ix × Option Addr × Nat × Option Addr × Nat × List Rw × Value × Value × Value × Value × Value × Value × Value × Value × Value × Value × Value × Value × Value × Value × Value × Value × Value × Value × Value × Value × Value × Value × Value × Value × Value × Value × Value × Value × Value × Value × Value × Value × Value × Value × Value × Value × Value × Value × Value × Value × Value × Value × Value × Value × Value × Value × Value × Value × Value × Value × Value × Value × Value × Value × Value × Value × Value) => match zz with | ⟨i, O, pp, pc, tp, tc, N, u10, u14, u15, u16, u17, u18, u36, u37, u38, u39, u40, u41, u42, u43, u44, u45, u46, u47, u48, u49, u50, u51, u52, u53, u54, u55, u56, u57, u58, u59, u60, u61, u62, u63, u64, u65, u66, u67, u68, u69, u70, u71, u72, u73, u74, u75, u76, u77, u78, u79, u80, u81, u82, u83, u84, u85, u86⟩ => i ≤ L.length ∧ SetOk G s f (xs O) ∧ Held ([⟨g6, #[.slice (some ⟨g5, 0, none⟩) 1 1], 47⟩, ⟨g5, #[.int .i64 s], 3⟩] ++ N) pp (flat rti O) ∧ Held ([⟨g6, #[.slice (some ⟨g5, 0, none⟩) 1 1], 47⟩, ⟨g5, #[.int .i64 s], 3⟩] ++ N) tp (flat ix O) ∧ HeldI ([⟨g6, #[.slice (some ⟨g5, 0, none⟩) 1 1], 47⟩, ⟨g5, #[.int .i64 s], 3⟩] ++ N) O) (fun (zz : Nat × List Ix × Option Addr × Nat × Option Addr × Nat × List Rw × Value × Value × Value × Value × Value × Value × Value × Value × Value × Value × Value × Value × Value × Value × Value × Value × Value × Value × Value × Value × Value × Value × Value × Value × Value × Value × Value × Value × Value × Value × Value × Value × Value × Value × Value × Value × Value × Value × Value × Value × Value × Value × Value × Value × Value × Value × Value × Value × Value × Value × Value × Value × Value × Value × Value × Value × Value) => match zz with | ⟨i, O, pp, pc, tp, tc, N, u10, u14, u15, u16, u17, u18, u36, u37, u38, u39, u40, u41, u42, u43, u44, u45, u46, u47, u48, u49, u50, u51, u52, u53, u54, u55, u56, u57, u58, u59, u60, u61, u62, u63, u64, u65, u66, u67, u68, u69, u70, u71, u72, u73, u74, u75, u76, u77, u78, u79, u80, u81, u82, u83, u84, u85, u86⟩ => L.length - i) ⟨0, [(⟨some ⟨g5, 0, none⟩, [s], 1⟩ : Ix)], zk4.p, zk4.c, (some ⟨g6, 0, none⟩), 1, zk4.N, _, _, _, _, _, _, _, _, _, _, _, _, _, _, _, _, _, _, _, _, _, _, _, _, _, _, _, _, _, _, _, _, _, _, _, _, _, _, _, _, _, _, _, _, _, _, _, _, _, _, _, _, _, _, _, _, _⟩ ⟨Nat.zero_le _, begin_ok hs hf, (show Held zk4.N zk4.p (flat rti [(⟨some ⟨g5, 0, none⟩, [s], 1⟩ : Ix)]) from k4).mono (List.sublist_append_right _ _), held_top, fun x hx => by obtain rfl := List.mem_singleton.1 hx; exact held_sec⟩ rfl (List.Sublist.cons_cons _ (List.Sublist.cons_cons _ (List.Sublist.cons_cons _ (List.Sublist.cons_cons _ (List.Sublist.cons_cons _ (List.Sublist.cons_cons _ (List.Sublist.cons_cons _ (List.Sublist.refl _)))))))) ?_
 rintro ⟨i, O, pp, pc, tp, tc, N, u10, u14, u15, u16, u17, u18, u36, u37, u38, u39, u40, u41, u42, u43, u44, u45, u46, u47, u48, u49, u50, u51, u52, u53, u54, u55, u56, u57, u58, u59, u60, u61, u62, u63, u64, u65, u66, u67, u68, u69, u70, u71, u72, u73, u74, u75, u76, u77, u78, u79, u80, u81, u82, u83, u84, u85, u86⟩ hφ
 (try dsimp only at hφ ⊢)
 obtain ⟨b1, b2, b3, b4, b5⟩ := hφ
 refine wc_seq ?_
 refine wc_region ?_
 refine wl_val (.bool (decide ((i : Int) < (L.length : Int)))) rfl (fun w => run_cmp rfl rfl rfl Try.underlying3 rfl w) ?_
 simp only [Act.put, Xa, Xz, Xs]
 refine wl_nil ?_
 refine we_then ?_
 refine wc_seq ?_
 cases h9 : (decide ((i : Int) < (L.length : Int)))
 ·
  skip
  have p9 : ¬ ((i : Int) < (L.length : Int)) := of_decide_eq_false h9
  refine wc_false rfl ?_
  refine wc_exit ?_
  refine we_then_exit ?_
  refine we_then_exit ?_
  refine we_in_here ?_
  refine we_then ?_
  refine wc_seq ?_
  refine wc_draw_fin (Γ := Unit) (fun _ j9 => ([.agg #[.int .i64 f, .slice pp O.length pc], .agg #[.int .i64 f, .slice tp O.length tc], undef, undef, .bool true]).getD j9 undef) (fun ld _ => ⟨g8, #[.int .i64 f, .slice tp O.length tc], 34⟩ :: ⟨g7, #[.int .i64 f, .slice pp O.length pc], 31⟩ :: ⟨g6, #[.slice (some ⟨g5, 0, none⟩) 1 1], 47⟩ :: ⟨g5, #[.int .i64 s], 3⟩ :: ⟨g3, if ld 3 = true then #[.int .i64 f, .slice tp O.length tc] else #[.int .i64 0, .slice none 0 0], 34⟩ :: ⟨g2, if ld 2 = true then #[.int .i64 f, .slice pp O.length pc] else #[.int .i64 0, .slice none 0 0], 31⟩ :: ⟨g1, #[.slice p G.length c, .slice q H.length d], 25⟩ :: N) (fun _ _ => True) () 89 (fun _ => ({ tmps := #[.agg #[.slice p G.length c, .slice q H.length d], .int .i64 s, .int .i64 f, .slice lp L.length lc, .pointer (some ⟨g1, 0, none⟩), undef, undef, undef, .pointer (some ⟨g2, 0, none⟩), .pointer (some ⟨g3, 0, none⟩), .bool true, .pointer (some ⟨g7, 0, none⟩), .pointer (some ⟨g8, 0, none⟩), undef, u14, u15, u16, u17, u18, .int .i64 s, .int .i64 f, .agg #[.int .i64 f, .slice zk4.p 1 zk4.c], .int .i64 f, .int .i64 s, .slice (some ⟨g5, 0, none⟩) 1 1, .slice (some ⟨g6, 0, none⟩) 1 1, .agg #[.int .i64 f, .slice (some ⟨g6, 0, none⟩) 1 1], .agg #[.int .i64 f, .slice zk4.p 1 zk4.c], .agg #[.int .i64 f, .slice (some ⟨g6, 0, none⟩) 1 1], .bool true, .bool false, undef, undef, .slice lp L.length lc, .int .i64 (L.length : Int), .int .i64 (i : Int), .bool false, u37, u38, u39, u40, u41, u42, u43, u44, u45, u46, u47, u48, u49, u50, u51, u52, u53, u54, u55, u56, u57, u58, u59, u60, u61, u62, u63, u64, u65, u66, u67, u68, u69, u70, u71, u72, u73, u74, u75, u76, u77, u78, u79, u80, u81, u82, u83, u84, u85, u86, .agg #[.int .i64 f, .slice pp O.length pc], .agg #[.int .i64 f, .slice tp O.length tc]], defers := [] } : Act)) (fun _ => ⟨g8, #[.int .i64 f, .slice tp O.length tc], 34⟩ :: ⟨g7, #[.int .i64 f, .slice pp O.length pc], 31⟩ :: ⟨g6, #[.slice (some ⟨g5, 0, none⟩) 1 1], 47⟩ :: ⟨g5, #[.int .i64 s], 3⟩ :: ⟨g3, #[.int .i64 f, .slice tp O.length tc], 34⟩ :: ⟨g2, #[.int .i64 f, .slice pp O.length pc], 31⟩ :: ⟨g1, #[.slice p G.length c, .slice q H.length d], 25⟩ :: N) (by kernel_rfl) rfl (by kernel_rfl) rfl trivial (fun _ => by kernel_rfl) (fun _ => rfl) ?_ ?_
  ·
   skip
   refine sps_cons (sp_val (.agg #[.int .i64 f, .slice pp O.length pc]) rfl (fun _ => rfl) (fun _ _ h => h) (fun _ _ => rfl) (fun ld γ9 a9 w9 h9 hE9 => load_row (hE9.rowAt (i := 1) rfl) rfl (h9.out (by kernel_rfl) rfl) Try.underlying31 rfl (by kernel_rfl))) ?_
   refine sps_cons (sp_val (.agg #[.int .i64 f, .slice tp O.length tc]) rfl (fun _ => rfl) (fun _ _ h => h) (fun _ _ => rfl) (fun ld γ9 a9 w9 h9 hE9 => load_row (hE9.rowAt (i := 0) rfl) rfl (h9.out (by kernel_rfl) rfl) Try.underlying34 rfl (by kernel_rfl))) ?_
   refine sps_cons ⟨fun ld γ9 a9 w9 h9 _ hE9 K9 hK9 => h9.go rfl ?_⟩ ?_
   ·
    have l0 : ld 2 = false := h9.off
    have hE2 := hE9
    simp only [l0, Bool.false_eq_true, if_false] at hE2
    exact wp_store_row 31 _ _ rfl _ (#[.int .i64 f, .slice pp O.length pc]) (h9.out (by kernel_rfl) rfl) (h9.tmp 0 rfl (h9.dep (by kernel_rfl))) _ _ (hE2.rowAt (i := 5) rfl) (by kernel_rfl) rfl (by simp [Value.oneCell']) (hK9 γ9 _ (fun _ _ => rfl) trivial (hE2.setRow (i := 5) rfl (#[.int .i64 f, .slice pp O.length pc])))
   refine sps_cons ⟨fun ld γ9 a9 w9 h9 _ hE9 K9 hK9 => h9.go rfl ?_⟩ ?_
   ·
    have l0 : ld 3 = false := h9.off
    have hE2 := hE9
    simp only [l0, Bool.false_eq_true, if_false] at hE2
    exact wp_store_row 34 _ _ rfl _ (#[.int .i64 f, .slice tp O.length tc]) (h9.out (by kernel_rfl) rfl) (h9.tmp 1 rfl (h9.dep (by kernel_rfl))) _ _ (hE2.rowAt (i := 4) rfl) (by kernel_rfl) rfl (by simp [Value.oneCell']) (hK9 γ9 _ (fun _ _ => rfl) trivial (hE2.setRow (i := 4) rfl (#[.int .i64 f, .slice tp O.length tc])))
   refine sps_cons (sp_val (.bool true) rfl (fun _ => rfl) (fun _ _ h => h) (fun _ _ => rfl) (fun ld γ9 a9 w9 h9 hE9 => rfl)) ?_
   exact sps_nil
  rintro ⟨⟩ -
  (try dsimp only)
  refine we_then ?_
  refine wc_ret ?_
  refine we_ret_cell2_tmp (.bool true) (own_row 5 rfl) (own_row 4 rfl) rfl rfl rfl rfl rfl Try.underlying31 rfl (by kernel_rfl) Try.underlying34 rfl (by kernel_rfl) (fun w1 hE => ?_)
  exact ⟨⟨O, pp, pc, tp, tc, ([⟨g6, #[.slice (some ⟨g5, 0, none⟩) 1 1], 47⟩, ⟨g5, #[.int .i64 s], 3⟩] ++ N)⟩, ⟨b2, b3, b4, b5⟩, rfl, hE.sub (List.Sublist.cons _ (List.Sublist.cons _ (List.Sublist.cons_cons _ (List.Sublist.cons_cons _ (List.Sublist.cons _ (List.Sublist.cons _ (List.Sublist.cons _ (List.Sublist.refl _))))))))⟩
 ·
  skip
  have p9 : (i : Int) < (L.length : Int) := of_decide_eq_true h9
  refine wc_true rfl ?_
  refine wc_skip ?_
  refine we_then ?_
  refine wc_seq ?_
  refine wc_block ?_
  refine wc_seq ?_
  refine wc_region ?_
  refine wl_read (eaddr lp (i * 2)) rfl (er_index i 2 (sl_old hL) rfl rfl rfl rfl (by omega) (flat_length (enc := enc2) (size := 2) (fun _ => rfl) _) (by decide) Try.underlying26 (by kernel_rfl)) ?_
  simp only [Act.put, Xa, Xz, Xs]
  refine wl_read (.agg #[.int .i64 ((L[i]!).1), .int .i64 ((L[i]!).2)]) rfl (er_part (i * 2) [.int .i64 ((L[i]!).1), .int .i64 ((L[i]!).2)] (sl_old hL) rfl rfl (flat_part (enc := enc2) (fun _ => rfl) L i (by omega)) (Nat.zero_lt_succ _) Try.underlying53 rfl (by kernel_rfl)) ?_
  simp only [Act.put, Xa, Xz, Xs]
  refine wl_new 53 (#[.int .i64 0, .int .i64 0]) rfl (fun _ => by go_simp) ?_
  intro g10
  simp only [Act.put, Xa, Xz, Xs]
  refine wl_store 0 53 (.tmp 14) (.tmp 38) (#[.int .i64 ((L[i]!).1), .int .i64 ((L[i]!).2)]) rfl rfl rfl rfl rfl (by kernel_rfl) rfl (by simp [Value.oneCell']) ?_
  simp only [Act.put, List.set_cons_zero]
  refine wl_nil ?_
  refine we_then ?_
  refine wc_seq ?_
  refine wc_region ?_
  refine wl_load 31 (.tmp 11) (own_row 2 rfl) rfl rfl rfl Try.underlying31 rfl (by kernel_rfl) ?_
  simp only [Act.put, Xa, Xz, Xs]
  refine wl_load 25 (.tmp 4) (own_row 7 rfl) rfl rfl rfl Try.underlying25 rfl (by kernel_rfl) ?_
  simp only [Act.put, Xa, Xz, Xs]
  refine wl_load 53 (.tmp 14) (own_row 0 rfl) rfl rfl rfl Try.underlying53 rfl (by kernel_rfl) ?_
  simp only [Act.put, Xa, Xz, Xs]
  refine wl_call_open (ι := Gp2) (fun zz => match zz with | zk11 => ⟨g10, #[.int .i64 ((L[i]!).1), .int .i64 ((L[i]!).2)], 53⟩ :: ⟨g8, #[.int .i64 f, .slice tp O.length tc], 34⟩ :: ⟨g7, #[.int .i64 f, .slice pp O.length pc], 31⟩ :: ⟨g6, #[.slice (some ⟨g5, 0, none⟩) 1 1], 47⟩ :: ⟨g5, #[.int .i64 s], 3⟩ :: ⟨g3, #[.int .i64 0, .slice none 0 0], 34⟩ :: ⟨g2, #[.int .i64 0, .slice none 0 0], 31⟩ :: ⟨g1, #[.slice p G.length c, .slice q H.length d], 25⟩ :: (N ++ zk11.N)) 18 #[.agg #[.int .i64 f, .slice pp O.length pc], .agg #[.slice p G.length c, .slice q H.length d], .agg #[.int .i64 ((L[i]!).1), .int .i64 ((L[i]!).2)]] (fun zz => match zz with | zk11 => .tuple #[.agg #[.int .i64 zk11.F, .slice zk11.p zk11.X.length zk11.c], .int .i64 (zk11.e : Int)]) (fun zz => match zz with | zk11 => zk11.N) (fun zz => match zz with | zk11 => Gp2Ok G f ((L[i]!).2) ((L[i]!).1) (xs O) zk11) (by rintro zk11; simp) rfl (fun _ => by go_simp) (fun W hE => grow_len ((L[i]!).1) ((L[i]!).2) G H _ _ _ _ s f O _ _ W ((sl_old hS) W hE) (oks_below hG hE.below) ((sl_old hH) W hE) hM b2 ((sl_held b3 (List.Sublist.cons _ (List.Sublist.cons _ (List.Sublist.cons _ (List.Sublist.cons_cons _ (List.Sublist.cons_cons _ (List.Sublist.cons _ (List.Sublist.cons _ (List.Sublist.cons _ (List.Sublist.refl _)))))))))) W hE) (fit_at hF (by omega)).1 (fit_at hF (by omega)).2 hC) ?_
  rintro zk11 k11
  (try dsimp only)
  simp only [Act.put, Xa, Xz, Xs]
  refine wl_val (.tuple #[.agg #[.int .i64 zk11.F, .slice zk11.p zk11.X.length zk11.c], .int .i64 (zk11.e : Int)]) rfl (fun _ => rfl) ?_
  simp only [Act.put, Xa, Xz, Xs]
  refine wl_val (.agg #[.int .i64 zk11.F, .slice zk11.p zk11.X.length zk11.c]) rfl (fun _ => by go_simp) ?_
  simp only [Act.put, Xa, Xz, Xs]
  refine wl_val (.int .i64 (zk11.e : Int)) rfl (fun _ => by go_simp) ?_
  simp only [Act.put, Xa, Xz, Xs]
  refine wl_new 31 (#[.int .i64 0, .slice none 0 0]) rfl (fun _ => by go_simp) ?_
  intro g12
  simp only [Act.put, Xa, Xz, Xs]
  refine wl_store 0 31 (.tmp 15) (.tmp 44) (#[.int .i64 zk11.F, .slice zk11.p zk11.X.length zk11.c]) rfl rfl rfl rfl rfl (by kernel_rfl) rfl (by simp [Value.oneCell']) ?_
  simp only [Act.put, List.set_cons_zero]
  refine wl_val (.int .i64 (zk11.e : Int)) rfl (fun _ => rfl) ?_
  simp only [Act.put, Xa, Xz, Xs]
  refine wl_nil ?_
  refine we_then ?_
  refine wc_seq ?_
  refine wc_draw_fin (Γ := Cp × Gz × Nat) (fun γ9 j9 => [.agg #[.slice p G.length c, .slice q H.length d], .agg #[.slice γ9.1.p γ9.1.K.length γ9.1.c, .slice γ9.1.q H.length γ9.1.d], .agg #[.int .i64 f, .slice tp O.length tc], .pointer (some ⟨g10, 0, none⟩), .int .i64 ((L[i]!).1), .pointer (some ⟨g10, 1, none⟩), .int .i64 ((L[i]!).2), .tuple #[.agg #[.int .i64 γ9.2.1.F, .slice γ9.2.1.p γ9.2.1.O.length γ9.2.1.c], .int .i64 (γ9.2.1.e : Int)], .tuple #[.agg #[.int .i64 γ9.2.1.F, .slice γ9.2.1.p γ9.2.1.O.length γ9.2.1.c], .int .i64 (γ9.2.1.e : Int)], .agg #[.int .i64 γ9.2.1.F, .slice γ9.2.1.p γ9.2.1.O.length γ9.2.1.c], .int .i64 (γ9.2.1.e : Int), .pointer (some ⟨γ9.2.2, 0, none⟩), undef, .int .i64 (γ9.2.1.e : Int)].getD j9 undef) (fun ld γ9 => ((if ld 11 = true then [⟨γ9.2.2, if ld 12 = true then #[.int .i64 γ9.2.1.F, .slice γ9.2.1.p γ9.2.1.O.length γ9.2.1.c] else #[.int .i64 0, .slice none 0 0], 34⟩] else []) ++ ((if ld 7 = true then γ9.2.1.N else []) ++ ((if ld 1 = true then γ9.1.N else []) ++ ⟨g12, #[.int .i64 zk11.F, .slice zk11.p zk11.X.length zk11.c], 31⟩ :: ⟨g10, #[.int .i64 ((L[i]!).1), .int .i64 ((L[i]!).2)], 53⟩ :: ⟨g8, #[.int .i64 f, .slice tp O.length tc], 34⟩ :: ⟨g7, #[.int .i64 f, .slice pp O.length pc], 31⟩ :: ⟨g6, #[.slice (some ⟨g5, 0, none⟩) 1 1], 47⟩ :: ⟨g5, #[.int .i64 s], 3⟩ :: ⟨g3, #[.int .i64 0, .slice none 0 0], 34⟩ :: ⟨g2, #[.int .i64 0, .slice none 0 0], 31⟩ :: ⟨g1, #[.slice p G.length c, .slice q H.length d], 25⟩ :: (N ++ zk11.N))))) (fun ld γ9 => (ld 1 = true → CpOk G H γ9.1) ∧ (ld 7 = true → GzOk G f ((L[i]!).2) ((L[i]!).1) O γ9.2.1) ∧ True) ((⟨[], none, 0, none, 0, []⟩, ⟨0, 0, none, [], 0, []⟩, 0)) 89 (fun γ9 => ({ tmps := #[.agg #[.slice p G.length c, .slice q H.length d], .int .i64 s, .int .i64 f, .slice lp L.length lc, .pointer (some ⟨g1, 0, none⟩), undef, undef, undef, .pointer (some ⟨g2, 0, none⟩), .pointer (some ⟨g3, 0, none⟩), u10, .pointer (some ⟨g7, 0, none⟩), .pointer (some ⟨g8, 0, none⟩), undef, .pointer (some ⟨g10, 0, none⟩), .pointer (some ⟨g12, 0, none⟩), .int .i64 (zk11.e : Int), .pointer (some ⟨γ9.2.2, 0, none⟩), .int .i64 (γ9.2.1.e : Int), .int .i64 s, .int .i64 f, .agg #[.int .i64 f, .slice zk4.p 1 zk4.c], .int .i64 f, .int .i64 s, .slice (some ⟨g5, 0, none⟩) 1 1, .slice (some ⟨g6, 0, none⟩) 1 1, .agg #[.int .i64 f, .slice (some ⟨g6, 0, none⟩) 1 1], .agg #[.int .i64 f, .slice zk4.p 1 zk4.c], .agg #[.int .i64 f, .slice (some ⟨g6, 0, none⟩) 1 1], .bool true, .bool false, undef, undef, .slice lp L.length lc, .int .i64 (L.length : Int), .int .i64 (i : Int), .bool true, eaddr lp (i * 2), .agg #[.int .i64 ((L[i]!).1), .int .i64 ((L[i]!).2)], .tuple #[.agg #[.int .i64 zk11.F, .slice zk11.p zk11.X.length zk11.c], .int .i64 (zk11.e : Int)], .agg #[.int .i64 f, .slice pp O.length pc], .agg #[.slice p G.length c, .slice q H.length d], .agg #[.int .i64 ((L[i]!).1), .int .i64 ((L[i]!).2)], .tuple #[.agg #[.int .i64 zk11.F, .slice zk11.p zk11.X.length zk11.c], .int .i64 (zk11.e : Int)], .agg #[.int .i64 zk11.F, .slice zk11.p zk11.X.length zk11.c], .int .i64 (zk11.e : Int), .tuple #[.agg #[.int .i64 γ9.2.1.F, .slice γ9.2.1.p γ9.2.1.O.length γ9.2.1.c], .int .i64 (γ9.2.1.e : Int)], .agg #[.slice p G.length c, .slice q H.length d], .agg #[.slice γ9.1.p γ9.1.K.length γ9.1.c, .slice γ9.1.q H.length γ9.1.d], .agg #[.int .i64 f, .slice tp O.length tc], .pointer (some ⟨g10, 0, none⟩), .int .i64 ((L[i]!).1), .pointer (some ⟨g10, 1, none⟩), .int .i64 ((L[i]!).2), .tuple #[.agg #[.int .i64 γ9.2.1.F, .slice γ9.2.1.p γ9.2.1.O.length γ9.2.1.c], .int .i64 (γ9.2.1.e : Int)], .agg #[.int .i64 γ9.2.1.F, .slice γ9.2.1.p γ9.2.1.O.length γ9.2.1.c], .int .i64 (γ9.2.1.e : Int), u57, u58, u59, u60, u61, u62, u63, u64, u65, u66, u67, u68, u69, u70, u71, u72, u73, u74, u75, u76, u77, u78, u79, u80, u81, u82, u83, u84, u85, u86, undef, undef], defers := [] } : Act)) (fun γ9 => ([⟨γ9.2.2, #[.int .i64 γ9.2.1.F, .slice γ9.2.1.p γ9.2.1.O.length γ9.2.1.c], 34⟩] ++ (γ9.2.1.N ++ (γ9.1.N ++ ⟨g12, #[.int .i64 zk11.F, .slice zk11.p zk11.X.length zk11.c], 31⟩ :: ⟨g10, #[.int .i64 ((L[i]!).1), .int .i64 ((L[i]!).2)], 53⟩ :: ⟨g8, #[.int .i64 f, .slice tp O.length tc], 34⟩ :: ⟨g7, #[.int .i64 f, .slice pp O.length pc], 31⟩ :: ⟨g6, #[.slice (some ⟨g5, 0, none⟩) 1 1], 47⟩ :: ⟨g5, #[.int .i64 s], 3⟩ :: ⟨g3, #[.int .i64 0, .slice none 0 0], 34⟩ :: ⟨g2, #[.int .i64 0, .slice none 0 0], 31⟩ :: ⟨g1, #[.slice p G.length c, .slice q H.length d], 25⟩ :: (N ++ zk11.N))))) (by kernel_rfl) rfl (by kernel_rfl) rfl (by simp) (fun _ => by kernel_rfl) (fun _ => rfl) ?_ ?_
  ·
   skip
   refine sps_cons (sp_valg (fun γ9 => .agg #[.slice p G.length c, .slice q H.length d]) rfl (fun _ => rfl) (fun _ _ h => h) (fun _ _ => rfl) (fun ld γ9 a9 w9 h9 hF9 hE9 => by obtain ⟨zk13, zk14, g15⟩ := γ9; exact load_row (hE9.row ⟨g1, #[.slice p G.length c, .slice q H.length d], 25⟩ (List.mem_append_right _ (List.mem_append_right _ (List.mem_append_right _ (mem_of_at (i := 8) rfl))))) rfl (h9.out (by kernel_rfl) rfl) Try.underlying25 rfl (by kernel_rfl))) ?_
   refine sps_cons (sp_open 12 (fun (zk13 : Cp) => .agg #[.slice zk13.p zk13.K.length zk13.c, .slice zk13.q H.length zk13.d]) (fun (zk13 : Cp) => zk13.N) (fun (zk13 : Cp) => CpOk G H zk13) rfl (fun ld γ9 a9 w9 h9 hF9 hE9 => ?_)) ?_
   ·
    obtain ⟨yy, zk14, g15⟩ := γ9
    have dl1 : ld 1 = false := h9.off
    have dl7 : ld 7 = false := h9.non (by kernel_rfl)
    have dl12 : ld 12 = false := h9.non (by kernel_rfl)
    have hS9 := hE9
    dsimp only at hS9
    simp only [dl1, dl7, dl12, if_true, if_false, Bool.false_eq_true, List.nil_append] at hS9
    have hE0 : Env w w9 (⟨g12, #[.int .i64 zk11.F, .slice zk11.p zk11.X.length zk11.c], 31⟩ :: ⟨g10, #[.int .i64 ((L[i]!).1), .int .i64 ((L[i]!).2)], 53⟩ :: ⟨g8, #[.int .i64 f, .slice tp O.length tc], 34⟩ :: ⟨g7, #[.int .i64 f, .slice pp O.length pc], 31⟩ :: ⟨g6, #[.slice (some ⟨g5, 0, none⟩) 1 1], 47⟩ :: ⟨g5, #[.int .i64 s], 3⟩ :: ⟨g3, #[.int .i64 0, .slice none 0 0], 34⟩ :: ⟨g2, #[.int .i64 0, .slice none 0 0], 31⟩ :: ⟨g1, #[.slice p G.length c, .slice q H.length d], 25⟩ :: (N ++ zk11.N)) := (hS9.sub (List.sublist_append_right _ _))
    have e0 : a9.eval (.tmp 47) = .agg #[.slice p G.length c, .slice q H.length d] := (h9.tmp 0 rfl (h9.dep (by kernel_rfl)))
    refine ⟨#[.agg #[.slice p G.length c, .slice q H.length d]], er_callg (enters_of Try.func12 (by kernel_rfl) rfl) rfl (by simp only [List.map_toArray, List.map_cons, List.map_nil, e0]) w9, (refs_open G H _ _ _ _ w9 ((sl_old hS) w9 hE0) (oks_below hG hE0.below) ((sl_old hH) w9 hE0) (may_few hM).1 (may_few hM).2), fun zk13 k13 => ?_⟩
    refine ⟨(zk13, zk14, g15), rfl, ?_, ?_, ?_⟩
    ·
     intro k hk
     have hk2 : k < 14 := h9.within k hk
     have hb : k = 0 ∨ k = 1 ∨ k = 2 ∨ k = 3 ∨ k = 4 ∨ k = 5 ∨ k = 6 ∨ k = 7 ∨ k = 8 ∨ k = 9 ∨ k = 10 ∨ k = 11 ∨ k = 12 ∨ k = 13 := by omega
     rcases hb with rfl | rfl | rfl | rfl | rfl | rfl | rfl | rfl | rfl | rfl | rfl | rfl | rfl | rfl
     ·
      rfl
     ·
      rw [dl1] at hk; cases hk
     ·
      rfl
     ·
      rfl
     ·
      rfl
     ·
      rfl
     ·
      rfl
     ·
      rfl
     ·
      rfl
     ·
      rfl
     ·
      rfl
     ·
      rfl
     ·
      rfl
     ·
      rfl
    ·
     exact ⟨fun _ => k13, (fun e => by (have e1 : ld 7 = true := e); rw [dl7] at e1; cases e1), trivial⟩
    ·
     skip
     have od1 : Si.one ld 1 1 = true := rfl
     have od7 : Si.one ld 1 7 = ld 7 := rfl
     have od11 : Si.one ld 1 11 = ld 11 := rfl
     have od12 : Si.one ld 1 12 = ld 12 := rfl
     dsimp only
     simp only [od1, od7, od11, od12, dl7, dl12, dl1, if_true, if_false, Bool.false_eq_true, List.nil_append]
     exact pin1 _ _ _
   refine sps_cons (sp_valg (fun γ9 => .agg #[.int .i64 f, .slice tp O.length tc]) rfl (fun _ => rfl) (fun _ _ h => h) (fun _ _ => rfl) (fun ld γ9 a9 w9 h9 hF9 hE9 => by obtain ⟨zk13, zk14, g15⟩ := γ9; exact load_row (hE9.row ⟨g8, #[.int .i64 f, .slice tp O.length tc], 34⟩ (List.mem_append_right _ (List.mem_append_right _ (List.mem_append_right _ (mem_of_at (i := 2) rfl))))) rfl (h9.out (by kernel_rfl) rfl) Try.underlying34 rfl (by kernel_rfl))) ?_
   refine sps_cons (sp_valg (fun γ9 => .pointer (some ⟨g10, 0, none⟩)) rfl (fun _ => rfl) (fun _ _ h => h) (fun _ _ => rfl) (fun ld γ9 a9 w9 h9 hF9 hE9 => by obtain ⟨zk13, zk14, g15⟩ := γ9; exact run_fieldAddr (f := 0) (off := 0) (d := 0) (z := 0) rfl (h9.out (by kernel_rfl) rfl) Try.underlying53 rfl rfl (by kernel_rfl) w9)) ?_
   refine sps_cons (sp_valg (fun γ9 => .int .i64 ((L[i]!).1)) rfl (fun _ => rfl) (fun _ _ h => h) (fun _ _ => rfl) (fun ld γ9 a9 w9 h9 hF9 hE9 => by obtain ⟨zk13, zk14, g15⟩ := γ9; exact load_cell (hE9.row ⟨g10, #[.int .i64 ((L[i]!).1), .int .i64 ((L[i]!).2)], 53⟩ (List.mem_append_right _ (List.mem_append_right _ (List.mem_append_right _ (mem_of_at (i := 1) rfl))))) rfl rfl (h9.tmp 3 rfl (h9.dep (by kernel_rfl))) Try.isAgg2)) ?_
   refine sps_cons (sp_valg (fun γ9 => .pointer (some ⟨g10, 1, none⟩)) rfl (fun _ => rfl) (fun _ _ h => h) (fun _ _ => rfl) (fun ld γ9 a9 w9 h9 hF9 hE9 => by obtain ⟨zk13, zk14, g15⟩ := γ9; exact run_fieldAddr (f := 1) (off := 0) (d := 1) (z := 0) rfl (h9.out (by kernel_rfl) rfl) Try.underlying53 rfl rfl (by kernel_rfl) w9)) ?_
   refine sps_cons (sp_valg (fun γ9 => .int .i64 ((L[i]!).2)) rfl (fun _ => rfl) (fun _ _ h => h) (fun _ _ => rfl) (fun ld γ9 a9 w9 h9 hF9 hE9 => by obtain ⟨zk13, zk14, g15⟩ := γ9; exact load_cell (hE9.row ⟨g10, #[.int .i64 ((L[i]!).1), .int .i64 ((L[i]!).2)], 53⟩ (List.mem_append_right _ (List.mem_append_right _ (List.mem_append_right _ (mem_of_at (i := 1) rfl))))) rfl rfl (h9.tmp 5 rfl (h9.dep (by kernel_rfl))) Try.isAgg2)) ?_
   refine sps_cons (sp_open 22 (fun (zk14 : Gz) => .tuple #[.agg #[.int .i64 zk14.F, .slice zk14.p zk14.O.length zk14.c], .int .i64 (zk14.e : Int)]) (fun (zk14 : Gz) => zk14.N) (fun (zk14 : Gz) => GzOk G f ((L[i]!).2) ((L[i]!).1) O zk14) rfl (fun ld γ9 a9 w9 h9 hF9 hE9 => ?_)) ?_
   ·
    obtain ⟨zk13, yy, g15⟩ := γ9
    have dl7 : ld 7 = false := h9.off
    have dl1 : ld 1 = true := h9.dep (by kernel_rfl)
    have dl12 : ld 12 = false := h9.non (by kernel_rfl)
    have k13 := hF9.1 dl1
    have hS9 := hE9
    dsimp only at hS9
    simp only [dl1, dl7, dl12, if_true, if_false, Bool.false_eq_true, List.nil_append] at hS9
    have hE0 : Env w w9 (⟨g12, #[.int .i64 zk11.F, .slice zk11.p zk11.X.length zk11.c], 31⟩ :: ⟨g10, #[.int .i64 ((L[i]!).1), .int .i64 ((L[i]!).2)], 53⟩ :: ⟨g8, #[.int .i64 f, .slice tp O.length tc], 34⟩ :: ⟨g7, #[.int .i64 f, .slice pp O.length pc], 31⟩ :: ⟨g6, #[.slice (some ⟨g5, 0, none⟩) 1 1], 47⟩ :: ⟨g5, #[.int .i64 s], 3⟩ :: ⟨g3, #[.int .i64 0, .slice none 0 0], 34⟩ :: ⟨g2, #[.int .i64 0, .slice none 0 0], 31⟩ :: ⟨g1, #[.slice p G.length c, .slice q H.length d], 25⟩ :: (N ++ (zk11.N ++ zk13.N))) := Env.perm (hS9.sub (List.sublist_append_right _ _)) ((pf1 [] _ _).trans (List.Perm.of_eq (by first | rfl | simp only [List.append_assoc, List.cons_append, List.nil_append])))
    have e0 : a9.eval (.tmp 48) = .agg #[.slice zk13.p zk13.K.length zk13.c, .slice zk13.q H.length zk13.d] := (h9.tmp 1 rfl (h9.dep (by kernel_rfl)))
    have e1 : a9.eval (.tmp 49) = .agg #[.int .i64 f, .slice tp O.length tc] := (h9.tmp 2 rfl (h9.dep (by kernel_rfl)))
    have e2 : a9.eval (.tmp 51) = .int .i64 ((L[i]!).1) := (h9.tmp 4 rfl (h9.dep (by kernel_rfl)))
    have e3 : a9.eval (.tmp 53) = .int .i64 ((L[i]!).2) := (h9.tmp 6 rfl (h9.dep (by kernel_rfl)))
    refine ⟨#[.agg #[.slice zk13.p zk13.K.length zk13.c, .slice zk13.q H.length zk13.d], .agg #[.int .i64 f, .slice tp O.length tc], .int .i64 ((L[i]!).1), .int .i64 ((L[i]!).2)], er_callg (enters_of Try.func22 (by kernel_rfl) rfl) rfl (by simp only [List.map_toArray, List.map_cons, List.map_nil, e0, e1, e2, e3]) w9, ((Rtgrow.grow_any f ((L[i]!).1) ((L[i]!).2) O _ _ zk13.K H _ _ zk13.c zk13.d w9 (held_at k13.segs (List.Sublist.cons _ (List.Sublist.cons _ (List.Sublist.cons _ (List.Sublist.cons _ (List.Sublist.cons _ (List.Sublist.cons _ (List.Sublist.cons _ (List.Sublist.cons _ (List.Sublist.cons _ (List.sublist_append_of_sublist_right (List.sublist_append_of_sublist_right (List.Sublist.refl _)))))))))))) hE0) (k13.ok _ _ hG (hE0.sub (List.Sublist.cons _ (List.Sublist.cons _ (List.Sublist.cons _ (List.Sublist.cons _ (List.Sublist.cons _ (List.Sublist.cons _ (List.Sublist.cons _ (List.Sublist.cons _ (List.Sublist.cons _ (List.sublist_append_of_sublist_right (List.sublist_append_of_sublist_right (List.Sublist.refl _)))))))))))))) (held_at k13.grps (List.Sublist.cons _ (List.Sublist.cons _ (List.Sublist.cons _ (List.Sublist.cons _ (List.Sublist.cons _ (List.Sublist.cons _ (List.Sublist.cons _ (List.Sublist.cons _ (List.Sublist.cons _ (List.sublist_append_of_sublist_right (List.sublist_append_of_sublist_right (List.Sublist.refl _)))))))))))) hE0) (by rw [k13.same.length]; omega) (by omega) (segs_same k13.same hM.segs) ⟨hf.1, by have := (hM.segs s.toNat (by omega)).high; omega⟩ ((sl_held b4 (List.Sublist.cons _ (List.Sublist.cons _ (List.Sublist.cons _ (List.Sublist.cons _ (List.Sublist.cons_cons _ (List.Sublist.cons_cons _ (List.Sublist.cons _ (List.Sublist.cons _ (List.Sublist.cons _ (List.sublist_append_left _ _))))))))))) w9 hE0) (heldi_ok b5 b2 (List.Sublist.cons _ (List.Sublist.cons _ (List.Sublist.cons _ (List.Sublist.cons _ (List.Sublist.cons_cons _ (List.Sublist.cons_cons _ (List.Sublist.cons _ (List.Sublist.cons _ (List.Sublist.cons _ (List.sublist_append_left _ _)))))))))) hE0) (fun x hx => rtok_same k13.same (set_rt b2 x hx)) (set_len b2) (by have := b2.few; rw [xs_len] at this; exact this)).mono (fun e w8 hz => by obtain ⟨z8, h8, he8, hE8⟩ := hz; exact ⟨z8, gz_same k13.same h8, he8, hE8⟩)), fun zk14 k14 => ?_⟩
    refine ⟨(zk13, zk14, g15), rfl, ?_, ?_, ?_⟩
    have dl8 : ld 8 = false := h9.non (by kernel_rfl)
    have dl9 : ld 9 = false := h9.non2 8 dl8 (by kernel_rfl)
    have dl10 : ld 10 = false := h9.non2 8 dl8 (by kernel_rfl)
    have dl13 : ld 13 = false := h9.non (by kernel_rfl)
    ·
     intro k hk
     have hk2 : k < 14 := h9.within k hk
     have hb : k = 0 ∨ k = 1 ∨ k = 2 ∨ k = 3 ∨ k = 4 ∨ k = 5 ∨ k = 6 ∨ k = 7 ∨ k = 8 ∨ k = 9 ∨ k = 10 ∨ k = 11 ∨ k = 12 ∨ k = 13 := by omega
     rcases hb with rfl | rfl | rfl | rfl | rfl | rfl | rfl | rfl | rfl | rfl | rfl | rfl | rfl | rfl
     ·
      rfl
     ·
      rfl
     ·
      rfl
     ·
      rfl
     ·
      rfl
     ·
      rfl
     ·
      rfl
     ·
      rw [dl7] at hk; cases hk
     ·
      rw [dl8] at hk; cases hk
     ·
      rw [dl9] at hk; cases hk
     ·
      rw [dl10] at hk; cases hk
     ·
      rfl
     ·
      rfl
     ·
      rw [dl13] at hk; cases hk
    ·
     exact ⟨fun _ => k13, fun _ => k14, trivial⟩
    ·
     skip
     have od1 : Si.one ld 7 1 = ld 1 := rfl
     have od7 : Si.one ld 7 7 = true := rfl
     have od11 : Si.one ld 7 11 = ld 11 := rfl
     have od12 : Si.one ld 7 12 = ld 12 := rfl
     dsimp only
     simp only [od1, od7, od11, od12, dl1, dl12, dl7, if_true, if_false, Bool.false_eq_true, List.nil_append]
     exact pin1 _ _ _
   refine sps_cons (sp_valg (fun γ9 => .tuple #[.agg #[.int .i64 γ9.2.1.F, .slice γ9.2.1.p γ9.2.1.O.length γ9.2.1.c], .int .i64 (γ9.2.1.e : Int)]) rfl (fun _ => rfl) (fun _ _ h => h) (fun _ _ => rfl) (fun ld γ9 a9 w9 h9 hF9 hE9 => by obtain ⟨zk13, zk14, g15⟩ := γ9; exact run_moveg (by rfl) (h9.tmp 7 rfl (h9.dep (by kernel_rfl))))) ?_
   refine sps_cons (sp_valg (fun γ9 => .agg #[.int .i64 γ9.2.1.F, .slice γ9.2.1.p γ9.2.1.O.length γ9.2.1.c]) rfl (fun _ => rfl) (fun _ _ h => h) (fun _ _ => rfl) (fun ld γ9 a9 w9 h9 hF9 hE9 => by obtain ⟨zk13, zk14, g15⟩ := γ9; exact run_extractg (by rfl) (h9.tmp 8 rfl (h9.dep (by kernel_rfl))) rfl)) ?_
   refine sps_cons (sp_valg (fun γ9 => .int .i64 (γ9.2.1.e : Int)) rfl (fun _ => rfl) (fun _ _ h => h) (fun _ _ => rfl) (fun ld γ9 a9 w9 h9 hF9 hE9 => by obtain ⟨zk13, zk14, g15⟩ := γ9; exact run_extractg (by rfl) (h9.tmp 8 rfl (h9.dep (by kernel_rfl))) rfl)) ?_
   refine sps_cons (sp_alloc (#[.int .i64 0, .slice none 0 0]) 34 rfl (fun a9 w9 => by go_simp) (fun ld γ9 a9 n9 h9 hF9 => ?_)) ?_
   ·
    obtain ⟨zk13, zk14, yy⟩ := γ9
    have dl11 : ld 11 = false := h9.off
    have dl12 : ld 12 = false := h9.non (by kernel_rfl)
    refine ⟨(zk13, zk14, n9), rfl, ?_, hF9, ?_⟩
    ·
     intro k hk
     have hk2 : k < 14 := h9.within k hk
     have hb : k = 0 ∨ k = 1 ∨ k = 2 ∨ k = 3 ∨ k = 4 ∨ k = 5 ∨ k = 6 ∨ k = 7 ∨ k = 8 ∨ k = 9 ∨ k = 10 ∨ k = 11 ∨ k = 12 ∨ k = 13 := by omega
     rcases hb with rfl | rfl | rfl | rfl | rfl | rfl | rfl | rfl | rfl | rfl | rfl | rfl | rfl | rfl
     ·
      rfl
     ·
      rfl
     ·
      rfl
     ·
      rfl
     ·
      rfl
     ·
      rfl
     ·
      rfl
     ·
      rfl
     ·
      rfl
     ·
      rfl
     ·
      rfl
     ·
      rw [dl11] at hk; cases hk
     ·
      rfl
     ·
      rfl
    ·
     skip
     have od1 : Si.one ld 11 1 = ld 1 := rfl
     have od7 : Si.one ld 11 7 = ld 7 := rfl
     have od11 : Si.one ld 11 11 = true := rfl
     have od12 : Si.one ld 11 12 = ld 12 := rfl
     dsimp only
     simp only [od1, od7, od11, od12, dl12, dl11, if_true, if_false, Bool.false_eq_true, List.nil_append]
     exact pin0 [_] _
   refine sps_cons (sp_put 34 (.tmp 17) (.tmp 55) rfl rfl (fun ld γ9 a9 h9 hF9 => ?_)) ?_
   ·
    obtain ⟨zk13, zk14, g15⟩ := γ9
    have dl12 : ld 12 = false := h9.off
    have dl11 : ld 11 = true := h9.dep (by kernel_rfl)
    have dl1 : ld 1 = true := h9.dep (by kernel_rfl)
    have dl7 : ld 7 = true := h9.dep (by kernel_rfl)
    refine ⟨g15, #[.int .i64 zk14.F, .slice zk14.p zk14.O.length zk14.c], #[.int .i64 0, .slice none 0 0], 34, ((if ld 7 = true then zk14.N else []) ++ ((if ld 1 = true then zk13.N else []) ++ ⟨g12, #[.int .i64 zk11.F, .slice zk11.p zk11.X.length zk11.c], 31⟩ :: ⟨g10, #[.int .i64 ((L[i]!).1), .int .i64 ((L[i]!).2)], 53⟩ :: ⟨g8, #[.int .i64 f, .slice tp O.length tc], 34⟩ :: ⟨g7, #[.int .i64 f, .slice pp O.length pc], 31⟩ :: ⟨g6, #[.slice (some ⟨g5, 0, none⟩) 1 1], 47⟩ :: ⟨g5, #[.int .i64 s], 3⟩ :: ⟨g3, #[.int .i64 0, .slice none 0 0], 34⟩ :: ⟨g2, #[.int .i64 0, .slice none 0 0], 31⟩ :: ⟨g1, #[.slice p G.length c, .slice q H.length d], 25⟩ :: (N ++ zk11.N))), (h9.tmp 11 rfl (h9.dep (by kernel_rfl))), (h9.tmp 9 rfl (h9.dep (by kernel_rfl))), (by kernel_rfl), rfl, (by simp [Value.oneCell']), ?_, rfl, hF9, ?_⟩
    ·
     dsimp only
     simp only [dl11, dl12, if_true, if_false, Bool.false_eq_true]
     exact (pin0 [_] _).symm
    ·
     skip
     have od1 : Si.one ld 12 1 = ld 1 := rfl
     have od7 : Si.one ld 12 7 = ld 7 := rfl
     have od11 : Si.one ld 12 11 = ld 11 := rfl
     have od12 : Si.one ld 12 12 = true := rfl
     dsimp only
     simp only [od1, od7, od11, od12, dl1, dl7, dl11, dl12, if_true, if_false, Bool.false_eq_true, List.nil_append]
     exact pin0 [_] _
   refine sps_cons (sp_valg (fun γ9 => .int .i64 (γ9.2.1.e : Int)) rfl (fun _ => rfl) (fun _ _ h => h) (fun _ _ => rfl) (fun ld γ9 a9 w9 h9 hF9 hE9 => by obtain ⟨zk13, zk14, g15⟩ := γ9; exact run_assigng (by rfl) (h9.tmp 10 rfl (h9.dep (by kernel_rfl))))) ?_
   exact sps_nil
  rintro ⟨zk13, zk14, g15⟩ ⟨k13, k14, -⟩
  replace k13 := k13 (by decide)
  (try dsimp only at k13)
  replace k14 := k14 (by decide)
  (try dsimp only at k14)
  (try dsimp only)
  refine we_perm (R' := ⟨g15, #[.int .i64 zk14.F, .slice zk14.p zk14.O.length zk14.c], 34⟩ :: ⟨g12, #[.int .i64 zk11.F, .slice zk11.p zk11.X.length zk11.c], 31⟩ :: ⟨g10, #[.int .i64 ((L[i]!).1), .int .i64 ((L[i]!).2)], 53⟩ :: ⟨g8, #[.int .i64 f, .slice tp O.length tc], 34⟩ :: ⟨g7, #[.int .i64 f, .slice pp O.length pc], 31⟩ :: ⟨g6, #[.slice (some ⟨g5, 0, none⟩) 1 1], 47⟩ :: ⟨g5, #[.int .i64 s], 3⟩ :: ⟨g3, #[.int .i64 0, .slice none 0 0], 34⟩ :: ⟨g2, #[.int .i64 0, .slice none 0 0], 31⟩ :: ⟨g1, #[.slice p G.length c, .slice q H.length d], 25⟩ :: (N ++ (zk11.N ++ (zk13.N ++ zk14.N)))) ((pf2 [⟨g15, #[.int .i64 zk14.F, .slice zk14.p zk14.O.length zk14.c], 34⟩] _ _ _).trans (List.Perm.of_eq (by first | rfl | simp only [List.append_assoc, List.cons_append, List.nil_append]))) ?_
  have ee : zk11.e = zk14.e := (Prod.mk.inj (k11.is.symm.trans k14.is)).1
  have ex : zk11.X = xs zk14.O := (Prod.mk.inj (k11.is.symm.trans k14.is)).2
  have el : zk11.X.length = zk14.O.length := by rw [ex, xs_len]
  have en : zk11.e ≠ 0 → zk11.X.length = 0 := fun h => by rw [(grow_none hM.segs b2.wf k11.is h).1]; rfl
  have e8 : zk11.e = 0 → zk11.F = f := k11.frm
  have e9 : zk14.e = 0 → zk14.F = f := k14.frm
  refine we_then ?_
  refine wc_seq ?_
  refine wc_seq ?_
  refine wc_region ?_
  refine wl_val (.int .i64 (zk11.e : Int)) rfl (fun _ => rfl) ?_
  simp only [Act.put, Xa, Xz, Xs]
  refine wl_val (.int .i64 (zk14.e : Int)) rfl (fun _ => rfl) ?_
  simp only [Act.put, Xa, Xz, Xs]
  refine wl_val (.bool ((zk11.e : Int) != (zk14.e : Int))) rfl (fun w => run_cmp rfl rfl rfl Try.underlying3 rfl w) ?_
  simp only [Act.put, Xa, Xz, Xs]
  refine wl_val (.bool ((zk11.e : Int) != (zk14.e : Int))) rfl (fun _ => rfl) ?_
  simp only [Act.put, Xa, Xz, Xs]
  cases h16 : ((zk11.e : Int) != (zk14.e : Int))
  ·
   skip
   have p16 : ¬ ((zk11.e : Int) ≠ (zk14.e : Int)) := by first | (simp; done) | (simp at h16; done) | simpa using h16
   refine wl_val (.int .i64 (zk11.e : Int)) rfl (fun _ => rfl) ?_
   simp only [Act.put, Xa, Xz, Xs]
   refine wl_val (.bool ((zk11.e : Int) != 0)) rfl (fun w => run_cmp rfl rfl rfl Try.underlying64 rfl w) ?_
   simp only [Act.put, Xa, Xz, Xs]
   refine wl_val (.bool ((zk11.e : Int) != 0)) rfl (fun _ => rfl) ?_
   simp only [Act.put, Xa, Xz, Xs]
   cases h17 : ((zk11.e : Int) != 0)
   ·
    skip
    have p17 : ¬ ((zk11.e : Int) ≠ 0) := by first | (simp; done) | (simp at h17; done) | simpa using h17
    refine wl_skip rfl ?_
    simp only [Act.put, Xa, Xz, Xs]
    refine wl_skip rfl ?_
    simp only [Act.put, Xa, Xz, Xs]
    refine wl_skip rfl ?_
    simp only [Act.put, Xa, Xz, Xs]
    refine wl_skip rfl ?_
    simp only [Act.put, Xa, Xz, Xs]
    refine wl_val (.bool false) rfl (fun _ => rfl) ?_
    simp only [Act.put, Xa, Xz, Xs]
    refine wl_val (.bool false) rfl (fun _ => rfl) ?_
    simp only [Act.put, Xa, Xz, Xs]
    refine wl_val (.bool false) rfl (fun _ => rfl) ?_
    simp only [Act.put, Xa, Xz, Xs]
    refine wl_val (.int .i64 (zk11.e : Int)) rfl (fun _ => rfl) ?_
    simp only [Act.put, Xa, Xz, Xs]
    refine wl_val (.bool ((zk11.e : Int) == 0)) rfl (fun w => run_cmp rfl rfl rfl Try.underlying64 rfl w) ?_
    simp only [Act.put, Xa, Xz, Xs]
    refine wl_val (.bool ((zk11.e : Int) == 0)) rfl (fun _ => rfl) ?_
    simp only [Act.put, Xa, Xz, Xs]
    cases h18 : ((zk11.e : Int) == 0)
    ·
     skip
     have p18 : ¬ ((zk11.e : Int) = 0) := by first | (simp; done) | (simp at h18; done) | simpa using h18
     refine wl_skip rfl ?_
     simp only [Act.put, Xa, Xz, Xs]
     refine wl_skip rfl ?_
     simp only [Act.put, Xa, Xz, Xs]
     refine wl_skip rfl ?_
     simp only [Act.put, Xa, Xz, Xs]
     refine wl_skip rfl ?_
     simp only [Act.put, Xa, Xz, Xs]
     refine wl_val (.bool false) rfl (fun _ => rfl) ?_
     simp only [Act.put, Xa, Xz, Xs]
     refine wl_val (.bool false) rfl (fun _ => rfl) ?_
     simp only [Act.put, Xa, Xz, Xs]
     refine wl_nil ?_
     refine we_then ?_
     refine wc_false rfl ?_
     refine wc_skip ?_
     refine we_then ?_
     refine wc_seq ?_
     refine wc_region ?_
     refine wl_val (.int .i64 (zk11.e : Int)) rfl (fun _ => rfl) ?_
     simp only [Act.put, Xa, Xz, Xs]
     refine wl_val (.bool false) rfl (fun w => run_cmp (b := false) rfl rfl rfl Try.underlying64 (by exact congrArg some h18) w) ?_
     simp only [Act.put, Xa, Xz, Xs]
     refine wl_nil ?_
     refine we_then ?_
     refine wc_false rfl ?_
     refine wc_skip ?_
     refine we_in ?_
     refine we_then ?_
     refine wc_region ?_
     refine wl_val (.int .i64 ((i + 1 : Nat) : Int)) rfl (fun w => run_nat (X := i) (Y := 1) (Z := i + 1) rfl rfl rfl rfl (by omega) w) ?_
     simp only [Act.put, Xa, Xz, Xs]
     refine wl_val (.int .i64 ((i + 1 : Nat) : Int)) rfl (fun _ => rfl) ?_
     simp only [Act.put, Xa, Xz, Xs]
     refine wl_nil ?_
     exact we_meet ⟨(i + 1), O, pp, pc, tp, tc, (N ++ (zk11.N ++ (zk13.N ++ zk14.N))), _, _, _, _, _, _, _, _, _, _, _, _, _, _, _, _, _, _, _, _, _, _, _, _, _, _, _, _, _, _, _, _, _, _, _, _, _, _, _, _, _, _, _, _, _, _, _, _, _, _, _, _, _, _, _, _, _⟩ (by (try dsimp only); exact ⟨⟨by omega, b2, b3.mono (List.Sublist.append_left (List.sublist_append_left _ _) _), b4.mono (List.Sublist.append_left (List.sublist_append_left _ _) _), b5.mono (List.Sublist.append_left (List.sublist_append_left _ _) _)⟩, by omega⟩) rfl (List.Sublist.cons _ (List.Sublist.cons _ (List.Sublist.cons _ (List.Sublist.cons_cons _ (List.Sublist.cons_cons _ (List.Sublist.cons_cons _ (List.Sublist.cons_cons _ (List.Sublist.cons_cons _ (List.Sublist.cons_cons _ (List.Sublist.cons_cons _ (List.Sublist.refl _)))))))))))
    ·
     skip
     have p18 : (zk11.e : Int) = 0 := by first | (simp; done) | (simp at h18; done) | simpa using h18
     refine wl_load 31 (.tmp 15) (own_row 1 rfl) rfl rfl rfl Try.underlying31 rfl (by kernel_rfl) ?_
     simp only [Act.put, Xa, Xz, Xs]
     refine wl_load 34 (.tmp 17) (own_row 0 rfl) rfl rfl rfl Try.underlying34 rfl (by kernel_rfl) ?_
     simp only [Act.put, Xa, Xz, Xs]
     refine wl_call_at 21 #[.agg #[.int .i64 zk11.F, .slice zk11.p zk11.X.length zk11.c], .agg #[.int .i64 zk14.F, .slice zk14.p zk14.O.length zk14.c]] (.bool true) rfl (fun _ => by go_simp) (fun W hE => by have a := grow_ok hM.segs b2 (s0 := s) (by have x := k14.is; rwa [show zk14.e = 0 by omega] at x); rw [show zk14.F = f from k14.frm (by omega)]; exact same_len G zk14.O f _ _ _ _ _ _ W (e8 (by omega)) el (held_at (show Held zk11.N zk11.p (flat rti zk14.O) from by rw [← flat_rti, ← ex]; exact k11.held) (List.Sublist.cons _ (List.Sublist.cons _ (List.Sublist.cons _ (List.Sublist.cons _ (List.Sublist.cons _ (List.Sublist.cons _ (List.Sublist.cons _ (List.Sublist.cons _ (List.Sublist.cons _ (List.Sublist.cons _ (List.sublist_append_of_sublist_right (List.sublist_append_left _ _)))))))))))) hE) (held_at k14.held (List.Sublist.cons _ (List.Sublist.cons _ (List.Sublist.cons _ (List.Sublist.cons _ (List.Sublist.cons _ (List.Sublist.cons _ (List.Sublist.cons _ (List.Sublist.cons _ (List.Sublist.cons _ (List.Sublist.cons _ (List.sublist_append_of_sublist_right (List.sublist_append_of_sublist_right (List.sublist_append_of_sublist_right (List.Sublist.refl _)))))))))))))) hE) (heldi_ok (heldi_mem b5 k14.mem (R := ⟨g15, #[.int .i64 zk14.F, .slice zk14.p zk14.O.length zk14.c], 34⟩ :: ⟨g12, #[.int .i64 zk11.F, .slice zk11.p zk11.X.length zk11.c], 31⟩ :: ⟨g10, #[.int .i64 ((L[i]!).1), .int .i64 ((L[i]!).2)], 53⟩ :: ⟨g8, #[.int .i64 f, .slice tp O.length tc], 34⟩ :: ⟨g7, #[.int .i64 f, .slice pp O.length pc], 31⟩ :: ⟨g6, #[.slice (some ⟨g5, 0, none⟩) 1 1], 47⟩ :: ⟨g5, #[.int .i64 s], 3⟩ :: ⟨g3, #[.int .i64 0, .slice none 0 0], 34⟩ :: ⟨g2, #[.int .i64 0, .slice none 0 0], 31⟩ :: ⟨g1, #[.slice p G.length c, .slice q H.length d], 25⟩ :: (N ++ (zk11.N ++ (zk13.N ++ zk14.N)))) (List.Sublist.cons _ (List.Sublist.cons _ (List.Sublist.cons _ (List.Sublist.cons _ (List.Sublist.cons _ (List.Sublist.cons_cons _ (List.Sublist.cons_cons _ (List.Sublist.cons _ (List.Sublist.cons _ (List.Sublist.cons _ (List.sublist_append_left _ _))))))))))) (List.Sublist.cons _ (List.Sublist.cons _ (List.Sublist.cons _ (List.Sublist.cons _ (List.Sublist.cons _ (List.Sublist.cons _ (List.Sublist.cons _ (List.Sublist.cons _ (List.Sublist.cons _ (List.Sublist.cons _ (List.sublist_append_of_sublist_right (List.sublist_append_of_sublist_right (List.sublist_append_of_sublist_right (List.Sublist.refl _))))))))))))))) a (List.Sublist.refl _) hE) (set_rt a) (by have := a.few; rw [xs_len] at this; exact this)) ?_
     simp only [Act.put, Xa, Xz, Xs]
     refine wl_val (.bool false) rfl (fun _ => by go_simp) ?_
     simp only [Act.put, Xa, Xz, Xs]
     refine wl_val (.bool false) rfl (fun _ => rfl) ?_
     simp only [Act.put, Xa, Xz, Xs]
     refine wl_val (.bool false) rfl (fun _ => rfl) ?_
     simp only [Act.put, Xa, Xz, Xs]
     refine wl_nil ?_
     refine we_then ?_
     refine wc_false rfl ?_
     refine wc_skip ?_
     refine we_then ?_
     refine wc_seq ?_
     refine wc_region ?_
     refine wl_val (.int .i64 (zk11.e : Int)) rfl (fun _ => rfl) ?_
     simp only [Act.put, Xa, Xz, Xs]
     refine wl_val (.bool true) rfl (fun w => run_cmp (b := true) rfl rfl rfl Try.underlying64 (by exact congrArg some h18) w) ?_
     simp only [Act.put, Xa, Xz, Xs]
     refine wl_nil ?_
     refine we_then ?_
     refine wc_true rfl ?_
     have f8 : zk11.F = f := e8 (by omega)
     have f9 : zk14.F = f := e9 (by omega)
     rw [f8, f9, el]
     refine wc_draw_fin (Γ := Unit) (fun _ j9 => ([.agg #[.int .i64 f, .slice zk11.p zk14.O.length zk11.c], .agg #[.int .i64 f, .slice zk14.p zk14.O.length zk14.c], undef, undef]).getD j9 undef) (fun ld _ => ⟨g15, #[.int .i64 f, .slice zk14.p zk14.O.length zk14.c], 34⟩ :: ⟨g12, #[.int .i64 f, .slice zk11.p zk14.O.length zk11.c], 31⟩ :: ⟨g10, #[.int .i64 ((L[i]!).1), .int .i64 ((L[i]!).2)], 53⟩ :: ⟨g8, if ld 3 = true then #[.int .i64 f, .slice zk14.p zk14.O.length zk14.c] else #[.int .i64 f, .slice tp O.length tc], 34⟩ :: ⟨g7, if ld 2 = true then #[.int .i64 f, .slice zk11.p zk14.O.length zk11.c] else #[.int .i64 f, .slice pp O.length pc], 31⟩ :: ⟨g6, #[.slice (some ⟨g5, 0, none⟩) 1 1], 47⟩ :: ⟨g5, #[.int .i64 s], 3⟩ :: ⟨g3, #[.int .i64 0, .slice none 0 0], 34⟩ :: ⟨g2, #[.int .i64 0, .slice none 0 0], 31⟩ :: ⟨g1, #[.slice p G.length c, .slice q H.length d], 25⟩ :: (N ++ (zk11.N ++ (zk13.N ++ zk14.N)))) (fun _ _ => True) () 89 (fun _ => ({ tmps := #[.agg #[.slice p G.length c, .slice q H.length d], .int .i64 s, .int .i64 f, .slice lp L.length lc, .pointer (some ⟨g1, 0, none⟩), undef, undef, undef, .pointer (some ⟨g2, 0, none⟩), .pointer (some ⟨g3, 0, none⟩), u10, .pointer (some ⟨g7, 0, none⟩), .pointer (some ⟨g8, 0, none⟩), undef, .pointer (some ⟨g10, 0, none⟩), .pointer (some ⟨g12, 0, none⟩), .int .i64 (zk11.e : Int), .pointer (some ⟨g15, 0, none⟩), .int .i64 (zk14.e : Int), .int .i64 s, .int .i64 f, .agg #[.int .i64 f, .slice zk4.p 1 zk4.c], .int .i64 f, .int .i64 s, .slice (some ⟨g5, 0, none⟩) 1 1, .slice (some ⟨g6, 0, none⟩) 1 1, .agg #[.int .i64 f, .slice (some ⟨g6, 0, none⟩) 1 1], .agg #[.int .i64 f, .slice zk4.p 1 zk4.c], .agg #[.int .i64 f, .slice (some ⟨g6, 0, none⟩) 1 1], .bool true, .bool false, undef, undef, .slice lp L.length lc, .int .i64 (L.length : Int), .int .i64 (i : Int), .bool true, eaddr lp (i * 2), .agg #[.int .i64 ((L[i]!).1), .int .i64 ((L[i]!).2)], .tuple #[.agg #[.int .i64 f, .slice zk11.p zk14.O.length zk11.c], .int .i64 (zk11.e : Int)], .agg #[.int .i64 f, .slice pp O.length pc], .agg #[.slice p G.length c, .slice q H.length d], .agg #[.int .i64 ((L[i]!).1), .int .i64 ((L[i]!).2)], .tuple #[.agg #[.int .i64 f, .slice zk11.p zk14.O.length zk11.c], .int .i64 (zk11.e : Int)], .agg #[.int .i64 f, .slice zk11.p zk14.O.length zk11.c], .int .i64 (zk11.e : Int), .tuple #[.agg #[.int .i64 f, .slice zk14.p zk14.O.length zk14.c], .int .i64 (zk14.e : Int)], .agg #[.slice p G.length c, .slice q H.length d], .agg #[.slice zk13.p zk13.K.length zk13.c, .slice zk13.q H.length zk13.d], .agg #[.int .i64 f, .slice tp O.length tc], .pointer (some ⟨g10, 0, none⟩), .int .i64 ((L[i]!).1), .pointer (some ⟨g10, 1, none⟩), .int .i64 ((L[i]!).2), .tuple #[.agg #[.int .i64 f, .slice zk14.p zk14.O.length zk14.c], .int .i64 (zk14.e : Int)], .agg #[.int .i64 f, .slice zk14.p zk14.O.length zk14.c], .int .i64 (zk14.e : Int), .int .i64 (zk11.e : Int), .int .i64 (zk14.e : Int), .bool false, .bool false, .int .i64 (zk11.e : Int), .bool false, .bool false, undef, undef, undef, undef, .bool false, .bool false, .bool false, .int .i64 (zk11.e : Int), .bool true, .bool true, .agg #[.int .i64 f, .slice zk11.p zk14.O.length zk11.c], .agg #[.int .i64 f, .slice zk14.p zk14.O.length zk14.c], .bool true, .bool false, .bool false, .bool false, u80, u81, .int .i64 (zk11.e : Int), .bool true, .agg #[.int .i64 f, .slice zk11.p zk14.O.length zk11.c], .agg #[.int .i64 f, .slice zk14.p zk14.O.length zk14.c], u86, undef, undef], defers := [] } : Act)) (fun _ => ⟨g15, #[.int .i64 f, .slice zk14.p zk14.O.length zk14.c], 34⟩ :: ⟨g12, #[.int .i64 f, .slice zk11.p zk14.O.length zk11.c], 31⟩ :: ⟨g10, #[.int .i64 ((L[i]!).1), .int .i64 ((L[i]!).2)], 53⟩ :: ⟨g8, #[.int .i64 f, .slice zk14.p zk14.O.length zk14.c], 34⟩ :: ⟨g7, #[.int .i64 f, .slice zk11.p zk14.O.length zk11.c], 31⟩ :: ⟨g6, #[.slice (some ⟨g5, 0, none⟩) 1 1], 47⟩ :: ⟨g5, #[.int .i64 s], 3⟩ :: ⟨g3, #[.int .i64 0, .slice none 0 0], 34⟩ :: ⟨g2, #[.int .i64 0, .slice none 0 0], 31⟩ :: ⟨g1, #[.slice p G.length c, .slice q H.length d], 25⟩ :: (N ++ (zk11.N ++ (zk13.N ++ zk14.N)))) (by kernel_rfl) rfl (by kernel_rfl) rfl trivial (fun _ => by kernel_rfl) (fun _ => rfl) ?_ ?_
     ·
      skip
      refine sps_cons (sp_val (.agg #[.int .i64 f, .slice zk11.p zk14.O.length zk11.c]) rfl (fun _ => rfl) (fun _ _ h => h) (fun _ _ => rfl) (fun ld γ9 a9 w9 h9 hE9 => load_row (hE9.rowAt (i := 1) rfl) rfl (h9.out (by kernel_rfl) rfl) Try.underlying31 rfl (by kernel_rfl))) ?_
      refine sps_cons (sp_val (.agg #[.int .i64 f, .slice zk14.p zk14.O.length zk14.c]) rfl (fun _ => rfl) (fun _ _ h => h) (fun _ _ => rfl) (fun ld γ9 a9 w9 h9 hE9 => load_row (hE9.rowAt (i := 0) rfl) rfl (h9.out (by kernel_rfl) rfl) Try.underlying34 rfl (by kernel_rfl))) ?_
      refine sps_cons ⟨fun ld γ9 a9 w9 h9 _ hE9 K9 hK9 => h9.go rfl ?_⟩ ?_
      ·
       have l0 : ld 2 = false := h9.off
       have hE2 := hE9
       simp only [l0, Bool.false_eq_true, if_false] at hE2
       exact wp_store_row 31 _ _ rfl _ (#[.int .i64 f, .slice zk11.p zk14.O.length zk11.c]) (h9.out (by kernel_rfl) rfl) (h9.tmp 0 rfl (h9.dep (by kernel_rfl))) _ _ (hE2.rowAt (i := 4) rfl) (by kernel_rfl) rfl (by simp [Value.oneCell']) (hK9 γ9 _ (fun _ _ => rfl) trivial (hE2.setRow (i := 4) rfl (#[.int .i64 f, .slice zk11.p zk14.O.length zk11.c])))
      refine sps_cons ⟨fun ld γ9 a9 w9 h9 _ hE9 K9 hK9 => h9.go rfl ?_⟩ ?_
      ·
       have l0 : ld 3 = false := h9.off
       have hE2 := hE9
       simp only [l0, Bool.false_eq_true, if_false] at hE2
       exact wp_store_row 34 _ _ rfl _ (#[.int .i64 f, .slice zk14.p zk14.O.length zk14.c]) (h9.out (by kernel_rfl) rfl) (h9.tmp 1 rfl (h9.dep (by kernel_rfl))) _ _ (hE2.rowAt (i := 3) rfl) (by kernel_rfl) rfl (by simp [Value.oneCell']) (hK9 γ9 _ (fun _ _ => rfl) trivial (hE2.setRow (i := 3) rfl (#[.int .i64 f, .slice zk14.p zk14.O.length zk14.c])))
      exact sps_nil
     rintro ⟨⟩ -
     (try dsimp only)
     refine we_in ?_
     refine we_then ?_
     refine wc_region ?_
     refine wl_val (.int .i64 ((i + 1 : Nat) : Int)) rfl (fun w => run_nat (X := i) (Y := 1) (Z := i + 1) rfl rfl rfl rfl (by omega) w) ?_
     simp only [Act.put, Xa, Xz, Xs]
     refine wl_val (.int .i64 ((i + 1 : Nat) : Int)) rfl (fun _ => rfl) ?_
     simp only [Act.put, Xa, Xz, Xs]
     refine wl_nil ?_
     exact we_meet ⟨(i + 1), zk14.O, zk11.p, zk11.c, zk14.p, zk14.c, (N ++ (zk11.N ++ (zk13.N ++ zk14.N))), _, _, _, _, _, _, _, _, _, _, _, _, _, _, _, _, _, _, _, _, _, _, _, _, _, _, _, _, _, _, _, _, _, _, _, _, _, _, _, _, _, _, _, _, _, _, _, _, _, _, _, _, _, _, _, _, _⟩ (by (try dsimp only); have a := grow_ok hM.segs b2 (s0 := s) (by have x := k14.is; rwa [show zk14.e = 0 by omega] at x); exact ⟨⟨by omega, a, (show Held zk11.N zk11.p (flat rti zk14.O) from by rw [← flat_rti, ← ex]; exact k11.held).mono (((List.sublist_append_left _ _).trans (List.sublist_append_right _ _)).trans (List.sublist_append_right _ _)), k14.held.mono (((((List.Sublist.refl _).trans (List.sublist_append_right _ _)).trans (List.sublist_append_right _ _)).trans (List.sublist_append_right _ _)).trans (List.sublist_append_right _ _)), heldi_mem b5 k14.mem (List.Sublist.append_left (List.sublist_append_left _ _) _) (((((List.Sublist.refl _).trans (List.sublist_append_right _ _)).trans (List.sublist_append_right _ _)).trans (List.sublist_append_right _ _)).trans (List.sublist_append_right _ _))⟩, by omega⟩) rfl (List.Sublist.cons _ (List.Sublist.cons _ (List.Sublist.cons _ (List.Sublist.cons_cons _ (List.Sublist.cons_cons _ (List.Sublist.cons_cons _ (List.Sublist.cons_cons _ (List.Sublist.cons_cons _ (List.Sublist.cons_cons _ (List.Sublist.cons_cons _ (List.Sublist.refl _)))))))))))
   ·
    skip
    have p17 : (zk11.e : Int) ≠ 0 := by first | (simp; done) | (simp at h17; done) | simpa using h17
    refine wl_val (.pointer (some ⟨g12, 1, none⟩)) rfl (fun _ => by go_simp) ?_
    simp only [Act.put, Xa, Xz, Xs]
    refine wl_cell 29 (.tmp 64) (.slice zk11.p zk11.X.length zk11.c) (own_row 1 rfl) rfl rfl rfl rfl Try.isAgg29 ?_
    simp only [Act.put, Xa, Xz, Xs]
    refine wl_val (.int .i64 (zk11.X.length : Int)) rfl (fun w => er_len rfl rfl Try.underlying29 w) ?_
    simp only [Act.put, Xa, Xz, Xs]
    refine wl_val (.bool ((zk11.X.length : Int) != 0)) rfl (fun w => run_cmp rfl rfl rfl Try.underlying3 rfl w) ?_
    simp only [Act.put, Xa, Xz, Xs]
    refine wl_val (.bool ((zk11.X.length : Int) != 0)) rfl (fun _ => rfl) ?_
    simp only [Act.put, Xa, Xz, Xs]
    refine wl_val (.bool ((zk11.X.length : Int) != 0)) rfl (fun _ => rfl) ?_
    simp only [Act.put, Xa, Xz, Xs]
    refine wl_val (.bool ((zk11.X.length : Int) != 0)) rfl (fun _ => rfl) ?_
    simp only [Act.put, Xa, Xz, Xs]
    cases h19 : ((zk11.X.length : Int) != 0)
    ·
     skip
     have p19 : ¬ ((zk11.X.length : Int) ≠ 0) := by first | (simp; done) | (simp at h19; done) | simpa using h19
     refine wl_val (.int .i64 (zk11.e : Int)) rfl (fun _ => rfl) ?_
     simp only [Act.put, Xa, Xz, Xs]
     refine wl_val (.bool ((zk11.e : Int) == 0)) rfl (fun w => run_cmp rfl rfl rfl Try.underlying64 rfl w) ?_
     simp only [Act.put, Xa, Xz, Xs]
     refine wl_val (.bool ((zk11.e : Int) == 0)) rfl (fun _ => rfl) ?_
     simp only [Act.put, Xa, Xz, Xs]
     cases h20 : ((zk11.e : Int) == 0)
     ·
      skip
      have p20 : ¬ ((zk11.e : Int) = 0) := by first | (simp; done) | (simp at h20; done) | simpa using h20
      refine wl_skip rfl ?_
      simp only [Act.put, Xa, Xz, Xs]
      refine wl_skip rfl ?_
      simp only [Act.put, Xa, Xz, Xs]
      refine wl_skip rfl ?_
      simp only [Act.put, Xa, Xz, Xs]
      refine wl_skip rfl ?_
      simp only [Act.put, Xa, Xz, Xs]
      refine wl_val (.bool false) rfl (fun _ => rfl) ?_
      simp only [Act.put, Xa, Xz, Xs]
      refine wl_val (.bool false) rfl (fun _ => rfl) ?_
      simp only [Act.put, Xa, Xz, Xs]
      refine wl_nil ?_
      refine we_then ?_
      refine wc_false rfl ?_
      refine wc_skip ?_
      refine we_then ?_
      refine wc_seq ?_
      refine wc_region ?_
      refine wl_val (.int .i64 (zk11.e : Int)) rfl (fun _ => rfl) ?_
      simp only [Act.put, Xa, Xz, Xs]
      refine wl_val (.bool false) rfl (fun w => run_cmp (b := false) rfl rfl rfl Try.underlying64 (by exact congrArg some h20) w) ?_
      simp only [Act.put, Xa, Xz, Xs]
      refine wl_nil ?_
      refine we_then ?_
      refine wc_false rfl ?_
      refine wc_skip ?_
      refine we_in ?_
      refine we_then ?_
      refine wc_region ?_
      refine wl_val (.int .i64 ((i + 1 : Nat) : Int)) rfl (fun w => run_nat (X := i) (Y := 1) (Z := i + 1) rfl rfl rfl rfl (by omega) w) ?_
      simp only [Act.put, Xa, Xz, Xs]
      refine wl_val (.int .i64 ((i + 1 : Nat) : Int)) rfl (fun _ => rfl) ?_
      simp only [Act.put, Xa, Xz, Xs]
      refine wl_nil ?_
      exact we_meet ⟨(i + 1), O, pp, pc, tp, tc, (N ++ (zk11.N ++ (zk13.N ++ zk14.N))), _, _, _, _, _, _, _, _, _, _, _, _, _, _, _, _, _, _, _, _, _, _, _, _, _, _, _, _, _, _, _, _, _, _, _, _, _, _, _, _, _, _, _, _, _, _, _, _, _, _, _, _, _, _, _, _, _⟩ (by (try dsimp only); exact ⟨⟨by omega, b2, b3.mono (List.Sublist.append_left (List.sublist_append_left _ _) _), b4.mono (List.Sublist.append_left (List.sublist_append_left _ _) _), b5.mono (List.Sublist.append_left (List.sublist_append_left _ _) _)⟩, by omega⟩) rfl (List.Sublist.cons _ (List.Sublist.cons _ (List.Sublist.cons _ (List.Sublist.cons_cons _ (List.Sublist.cons_cons _ (List.Sublist.cons_cons _ (List.Sublist.cons_cons _ (List.Sublist.cons_cons _ (List.Sublist.cons_cons _ (List.Sublist.cons_cons _ (List.Sublist.refl _)))))))))))
     ·
      skip
      have p20 : (zk11.e : Int) = 0 := by first | (simp; done) | (simp at h20; done) | simpa using h20
      refine wl_load 31 (.tmp 15) (own_row 1 rfl) rfl rfl rfl Try.underlying31 rfl (by kernel_rfl) ?_
      simp only [Act.put, Xa, Xz, Xs]
      refine wl_load 34 (.tmp 17) (own_row 0 rfl) rfl rfl rfl Try.underlying34 rfl (by kernel_rfl) ?_
      simp only [Act.put, Xa, Xz, Xs]
      refine wl_call_at 21 #[.agg #[.int .i64 zk11.F, .slice zk11.p zk11.X.length zk11.c], .agg #[.int .i64 zk14.F, .slice zk14.p zk14.O.length zk14.c]] (.bool true) rfl (fun _ => by go_simp) (fun W hE => by have a := grow_ok hM.segs b2 (s0 := s) (by have x := k14.is; rwa [show zk14.e = 0 by omega] at x); rw [show zk14.F = f from k14.frm (by omega)]; exact same_len G zk14.O f _ _ _ _ _ _ W (e8 (by omega)) el (held_at (show Held zk11.N zk11.p (flat rti zk14.O) from by rw [← flat_rti, ← ex]; exact k11.held) (List.Sublist.cons _ (List.Sublist.cons _ (List.Sublist.cons _ (List.Sublist.cons _ (List.Sublist.cons _ (List.Sublist.cons _ (List.Sublist.cons _ (List.Sublist.cons _ (List.Sublist.cons _ (List.Sublist.cons _ (List.sublist_append_of_sublist_right (List.sublist_append_left _ _)))))))))))) hE) (held_at k14.held (List.Sublist.cons _ (List.Sublist.cons _ (List.Sublist.cons _ (List.Sublist.cons _ (List.Sublist.cons _ (List.Sublist.cons _ (List.Sublist.cons _ (List.Sublist.cons _ (List.Sublist.cons _ (List.Sublist.cons _ (List.sublist_append_of_sublist_right (List.sublist_append_of_sublist_right (List.sublist_append_of_sublist_right (List.Sublist.refl _)))))))))))))) hE) (heldi_ok (heldi_mem b5 k14.mem (R := ⟨g15, #[.int .i64 zk14.F, .slice zk14.p zk14.O.length zk14.c], 34⟩ :: ⟨g12, #[.int .i64 zk11.F, .slice zk11.p zk11.X.length zk11.c], 31⟩ :: ⟨g10, #[.int .i64 ((L[i]!).1), .int .i64 ((L[i]!).2)], 53⟩ :: ⟨g8, #[.int .i64 f, .slice tp O.length tc], 34⟩ :: ⟨g7, #[.int .i64 f, .slice pp O.length pc], 31⟩ :: ⟨g6, #[.slice (some ⟨g5, 0, none⟩) 1 1], 47⟩ :: ⟨g5, #[.int .i64 s], 3⟩ :: ⟨g3, #[.int .i64 0, .slice none 0 0], 34⟩ :: ⟨g2, #[.int .i64 0, .slice none 0 0], 31⟩ :: ⟨g1, #[.slice p G.length c, .slice q H.length d], 25⟩ :: (N ++ (zk11.N ++ (zk13.N ++ zk14.N)))) (List.Sublist.cons _ (List.Sublist.cons _ (List.Sublist.cons _ (List.Sublist.cons _ (List.Sublist.cons _ (List.Sublist.cons_cons _ (List.Sublist.cons_cons _ (List.Sublist.cons _ (List.Sublist.cons _ (List.Sublist.cons _ (List.sublist_append_left _ _))))))))))) (List.Sublist.cons _ (List.Sublist.cons _ (List.Sublist.cons _ (List.Sublist.cons _ (List.Sublist.cons _ (List.Sublist.cons _ (List.Sublist.cons _ (List.Sublist.cons _ (List.Sublist.cons _ (List.Sublist.cons _ (List.sublist_append_of_sublist_right (List.sublist_append_of_sublist_right (List.sublist_append_of_sublist_right (List.Sublist.refl _))))))))))))))) a (List.Sublist.refl _) hE) (set_rt a) (by have := a.few; rw [xs_len] at this; exact this)) ?_
      simp only [Act.put, Xa, Xz, Xs]
      refine wl_val (.bool false) rfl (fun _ => by go_simp) ?_
      simp only [Act.put, Xa, Xz, Xs]
      refine wl_val (.bool false) rfl (fun _ => rfl) ?_
      simp only [Act.put, Xa, Xz, Xs]
      refine wl_val (.bool false) rfl (fun _ => rfl) ?_
      simp only [Act.put, Xa, Xz, Xs]
      refine wl_nil ?_
      refine we_then ?_
      refine wc_false rfl ?_
      refine wc_skip ?_
      refine we_then ?_
      refine wc_seq ?_
      refine wc_region ?_
      refine wl_val (.int .i64 (zk11.e : Int)) rfl (fun _ => rfl) ?_
      simp only [Act.put, Xa, Xz, Xs]
      refine wl_val (.bool true) rfl (fun w => run_cmp (b := true) rfl rfl rfl Try.underlying64 (by exact congrArg some h20) w) ?_
      simp only [Act.put, Xa, Xz, Xs]
      refine wl_nil ?_
      refine we_then ?_
      refine wc_true rfl ?_
      have f8 : zk11.F = f := e8 (by omega)
      have f9 : zk14.F = f := e9 (by omega)
      rw [f8, f9, el]
      refine wc_draw_fin (Γ := Unit) (fun _ j9 => ([.agg #[.int .i64 f, .slice zk11.p zk14.O.length zk11.c], .agg #[.int .i64 f, .slice zk14.p zk14.O.length zk14.c], undef, undef]).getD j9 undef) (fun ld _ => ⟨g15, #[.int .i64 f, .slice zk14.p zk14.O.length zk14.c], 34⟩ :: ⟨g12, #[.int .i64 f, .slice zk11.p zk14.O.length zk11.c], 31⟩ :: ⟨g10, #[.int .i64 ((L[i]!).1), .int .i64 ((L[i]!).2)], 53⟩ :: ⟨g8, if ld 3 = true then #[.int .i64 f, .slice zk14.p zk14.O.length zk14.c] else #[.int .i64 f, .slice tp O.length tc], 34⟩ :: ⟨g7, if ld 2 = true then #[.int .i64 f, .slice zk11.p zk14.O.length zk11.c] else #[.int .i64 f, .slice pp O.length pc], 31⟩ :: ⟨g6, #[.slice (some ⟨g5, 0, none⟩) 1 1], 47⟩ :: ⟨g5, #[.int .i64 s], 3⟩ :: ⟨g3, #[.int .i64 0, .slice none 0 0], 34⟩ :: ⟨g2, #[.int .i64 0, .slice none 0 0], 31⟩ :: ⟨g1, #[.slice p G.length c, .slice q H.length d], 25⟩ :: (N ++ (zk11.N ++ (zk13.N ++ zk14.N)))) (fun _ _ => True) () 89 (fun _ => ({ tmps := #[.agg #[.slice p G.length c, .slice q H.length d], .int .i64 s, .int .i64 f, .slice lp L.length lc, .pointer (some ⟨g1, 0, none⟩), undef, undef, undef, .pointer (some ⟨g2, 0, none⟩), .pointer (some ⟨g3, 0, none⟩), u10, .pointer (some ⟨g7, 0, none⟩), .pointer (some ⟨g8, 0, none⟩), undef, .pointer (some ⟨g10, 0, none⟩), .pointer (some ⟨g12, 0, none⟩), .int .i64 (zk11.e : Int), .pointer (some ⟨g15, 0, none⟩), .int .i64 (zk14.e : Int), .int .i64 s, .int .i64 f, .agg #[.int .i64 f, .slice zk4.p 1 zk4.c], .int .i64 f, .int .i64 s, .slice (some ⟨g5, 0, none⟩) 1 1, .slice (some ⟨g6, 0, none⟩) 1 1, .agg #[.int .i64 f, .slice (some ⟨g6, 0, none⟩) 1 1], .agg #[.int .i64 f, .slice zk4.p 1 zk4.c], .agg #[.int .i64 f, .slice (some ⟨g6, 0, none⟩) 1 1], .bool true, .bool false, undef, undef, .slice lp L.length lc, .int .i64 (L.length : Int), .int .i64 (i : Int), .bool true, eaddr lp (i * 2), .agg #[.int .i64 ((L[i]!).1), .int .i64 ((L[i]!).2)], .tuple #[.agg #[.int .i64 f, .slice zk11.p zk14.O.length zk11.c], .int .i64 (zk11.e : Int)], .agg #[.int .i64 f, .slice pp O.length pc], .agg #[.slice p G.length c, .slice q H.length d], .agg #[.int .i64 ((L[i]!).1), .int .i64 ((L[i]!).2)], .tuple #[.agg #[.int .i64 f, .slice zk11.p zk14.O.length zk11.c], .int .i64 (zk11.e : Int)], .agg #[.int .i64 f, .slice zk11.p zk14.O.length zk11.c], .int .i64 (zk11.e : Int), .tuple #[.agg #[.int .i64 f, .slice zk14.p zk14.O.length zk14.c], .int .i64 (zk14.e : Int)], .agg #[.slice p G.length c, .slice q H.length d], .agg #[.slice zk13.p zk13.K.length zk13.c, .slice zk13.q H.length zk13.d], .agg #[.int .i64 f, .slice tp O.length tc], .pointer (some ⟨g10, 0, none⟩), .int .i64 ((L[i]!).1), .pointer (some ⟨g10, 1, none⟩), .int .i64 ((L[i]!).2), .tuple #[.agg #[.int .i64 f, .slice zk14.p zk14.O.length zk14.c], .int .i64 (zk14.e : Int)], .agg #[.int .i64 f, .slice zk14.p zk14.O.length zk14.c], .int .i64 (zk14.e : Int), .int .i64 (zk11.e : Int), .int .i64 (zk14.e : Int), .bool false, .bool false, .int .i64 (zk11.e : Int), .bool true, .bool true, .pointer (some ⟨g12, 1, none⟩), .slice zk11.p zk14.O.length zk11.c, .int .i64 (zk14.O.length : Int), .bool false, .bool false, .bool false, .bool false, .int .i64 (zk11.e : Int), .bool true, .bool true, .agg #[.int .i64 f, .slice zk11.p zk14.O.length zk11.c], .agg #[.int .i64 f, .slice zk14.p zk14.O.length zk14.c], .bool true, .bool false, .bool false, .bool false, u80, u81, .int .i64 (zk11.e : Int), .bool true, .agg #[.int .i64 f, .slice zk11.p zk14.O.length zk11.c], .agg #[.int .i64 f, .slice zk14.p zk14.O.length zk14.c], u86, undef, undef], defers := [] } : Act)) (fun _ => ⟨g15, #[.int .i64 f, .slice zk14.p zk14.O.length zk14.c], 34⟩ :: ⟨g12, #[.int .i64 f, .slice zk11.p zk14.O.length zk11.c], 31⟩ :: ⟨g10, #[.int .i64 ((L[i]!).1), .int .i64 ((L[i]!).2)], 53⟩ :: ⟨g8, #[.int .i64 f, .slice zk14.p zk14.O.length zk14.c], 34⟩ :: ⟨g7, #[.int .i64 f, .slice zk11.p zk14.O.length zk11.c], 31⟩ :: ⟨g6, #[.slice (some ⟨g5, 0, none⟩) 1 1], 47⟩ :: ⟨g5, #[.int .i64 s], 3⟩ :: ⟨g3, #[.int .i64 0, .slice none 0 0], 34⟩ :: ⟨g2, #[.int .i64 0, .slice none 0 0], 31⟩ :: ⟨g1, #[.slice p G.length c, .slice q H.length d], 25⟩ :: (N ++ (zk11.N ++ (zk13.N ++ zk14.N)))) (by kernel_rfl) rfl (by kernel_rfl) rfl trivial (fun _ => by kernel_rfl) (fun _ => rfl) ?_ ?_
      ·
       skip
       refine sps_cons (sp_val (.agg #[.int .i64 f, .slice zk11.p zk14.O.length zk11.c]) rfl (fun _ => rfl) (fun _ _ h => h) (fun _ _ => rfl) (fun ld γ9 a9 w9 h9 hE9 => load_row (hE9.rowAt (i := 1) rfl) rfl (h9.out (by kernel_rfl) rfl) Try.underlying31 rfl (by kernel_rfl))) ?_
       refine sps_cons (sp_val (.agg #[.int .i64 f, .slice zk14.p zk14.O.length zk14.c]) rfl (fun _ => rfl) (fun _ _ h => h) (fun _ _ => rfl) (fun ld γ9 a9 w9 h9 hE9 => load_row (hE9.rowAt (i := 0) rfl) rfl (h9.out (by kernel_rfl) rfl) Try.underlying34 rfl (by kernel_rfl))) ?_
       refine sps_cons ⟨fun ld γ9 a9 w9 h9 _ hE9 K9 hK9 => h9.go rfl ?_⟩ ?_
       ·
        have l0 : ld 2 = false := h9.off
        have hE2 := hE9
        simp only [l0, Bool.false_eq_true, if_false] at hE2
        exact wp_store_row 31 _ _ rfl _ (#[.int .i64 f, .slice zk11.p zk14.O.length zk11.c]) (h9.out (by kernel_rfl) rfl) (h9.tmp 0 rfl (h9.dep (by kernel_rfl))) _ _ (hE2.rowAt (i := 4) rfl) (by kernel_rfl) rfl (by simp [Value.oneCell']) (hK9 γ9 _ (fun _ _ => rfl) trivial (hE2.setRow (i := 4) rfl (#[.int .i64 f, .slice zk11.p zk14.O.length zk11.c])))
       refine sps_cons ⟨fun ld γ9 a9 w9 h9 _ hE9 K9 hK9 => h9.go rfl ?_⟩ ?_
       ·
        have l0 : ld 3 = false := h9.off
        have hE2 := hE9
        simp only [l0, Bool.false_eq_true, if_false] at hE2
        exact wp_store_row 34 _ _ rfl _ (#[.int .i64 f, .slice zk14.p zk14.O.length zk14.c]) (h9.out (by kernel_rfl) rfl) (h9.tmp 1 rfl (h9.dep (by kernel_rfl))) _ _ (hE2.rowAt (i := 3) rfl) (by kernel_rfl) rfl (by simp [Value.oneCell']) (hK9 γ9 _ (fun _ _ => rfl) trivial (hE2.setRow (i := 3) rfl (#[.int .i64 f, .slice zk14.p zk14.O.length zk14.c])))
       exact sps_nil
      rintro ⟨⟩ -
      (try dsimp only)
      refine we_in ?_
      refine we_then ?_
      refine wc_region ?_
      refine wl_val (.int .i64 ((i + 1 : Nat) : Int)) rfl (fun w => run_nat (X := i) (Y := 1) (Z := i + 1) rfl rfl rfl rfl (by omega) w) ?_
      simp only [Act.put, Xa, Xz, Xs]
      refine wl_val (.int .i64 ((i + 1 : Nat) : Int)) rfl (fun _ => rfl) ?_
      simp only [Act.put, Xa, Xz, Xs]
      refine wl_nil ?_
      exact we_meet ⟨(i + 1), zk14.O, zk11.p, zk11.c, zk14.p, zk14.c, (N ++ (zk11.N ++ (zk13.N ++ zk14.N))), _, _, _, _, _, _, _, _, _, _, _, _, _, _, _, _, _, _, _, _, _, _, _, _, _, _, _, _, _, _, _, _, _, _, _, _, _, _, _, _, _, _, _, _, _, _, _, _, _, _, _, _, _, _, _, _, _⟩ (by (try dsimp only); have a := grow_ok hM.segs b2 (s0 := s) (by have x := k14.is; rwa [show zk14.e = 0 by omega] at x); exact ⟨⟨by omega, a, (show Held zk11.N zk11.p (flat rti zk14.O) from by rw [← flat_rti, ← ex]; exact k11.held).mono (((List.sublist_append_left _ _).trans (List.sublist_append_right _ _)).trans (List.sublist_append_right _ _)), k14.held.mono (((((List.Sublist.refl _).trans (List.sublist_append_right _ _)).trans (List.sublist_append_right _ _)).trans (List.sublist_append_right _ _)).trans (List.sublist_append_right _ _)), heldi_mem b5 k14.mem (List.Sublist.append_left (List.sublist_append_left _ _) _) (((((List.Sublist.refl _).trans (List.sublist_append_right _ _)).trans (List.sublist_append_right _ _)).trans (List.sublist_append_right _ _)).trans (List.sublist_append_right _ _))⟩, by omega⟩) rfl (List.Sublist.cons _ (List.Sublist.cons _ (List.Sublist.cons _ (List.Sublist.cons_cons _ (List.Sublist.cons_cons _ (List.Sublist.cons_cons _ (List.Sublist.cons_cons _ (List.Sublist.cons_cons _ (List.Sublist.cons_cons _ (List.Sublist.cons_cons _ (List.Sublist.refl _)))))))))))
    ·
     skip
     have p19 : (zk11.X.length : Int) ≠ 0 := by first | (simp; done) | (simp at h19; done) | simpa using h19
     refine wl_skip rfl ?_
     simp only [Act.put, Xa, Xz, Xs]
     refine wl_skip rfl ?_
     simp only [Act.put, Xa, Xz, Xs]
     refine wl_skip rfl ?_
     simp only [Act.put, Xa, Xz, Xs]
     refine wl_skip rfl ?_
     simp only [Act.put, Xa, Xz, Xs]
     refine wl_skip rfl ?_
     simp only [Act.put, Xa, Xz, Xs]
     refine wl_skip rfl ?_
     simp only [Act.put, Xa, Xz, Xs]
     refine wl_skip rfl ?_
     simp only [Act.put, Xa, Xz, Xs]
     refine wl_skip rfl ?_
     simp only [Act.put, Xa, Xz, Xs]
     refine wl_val (.bool true) rfl (fun _ => rfl) ?_
     simp only [Act.put, Xa, Xz, Xs]
     refine wl_nil ?_
     refine we_then ?_
     refine wc_true rfl ?_
     refine wc_seq ?_
     refine wc_draw_fin (Γ := Unit) (fun _ j9 => ([.agg #[.int .i64 f, .slice pp O.length pc], .agg #[.int .i64 f, .slice tp O.length tc], undef, undef, .bool false]).getD j9 undef) (fun ld _ => ⟨g15, #[.int .i64 zk14.F, .slice zk14.p zk14.O.length zk14.c], 34⟩ :: ⟨g12, #[.int .i64 zk11.F, .slice zk11.p zk11.X.length zk11.c], 31⟩ :: ⟨g10, #[.int .i64 ((L[i]!).1), .int .i64 ((L[i]!).2)], 53⟩ :: ⟨g8, #[.int .i64 f, .slice tp O.length tc], 34⟩ :: ⟨g7, #[.int .i64 f, .slice pp O.length pc], 31⟩ :: ⟨g6, #[.slice (some ⟨g5, 0, none⟩) 1 1], 47⟩ :: ⟨g5, #[.int .i64 s], 3⟩ :: ⟨g3, if ld 3 = true then #[.int .i64 f, .slice tp O.length tc] else #[.int .i64 0, .slice none 0 0], 34⟩ :: ⟨g2, if ld 2 = true then #[.int .i64 f, .slice pp O.length pc] else #[.int .i64 0, .slice none 0 0], 31⟩ :: ⟨g1, #[.slice p G.length c, .slice q H.length d], 25⟩ :: (N ++ (zk11.N ++ (zk13.N ++ zk14.N)))) (fun _ _ => True) () 89 (fun _ => ({ tmps := #[.agg #[.slice p G.length c, .slice q H.length d], .int .i64 s, .int .i64 f, .slice lp L.length lc, .pointer (some ⟨g1, 0, none⟩), undef, undef, undef, .pointer (some ⟨g2, 0, none⟩), .pointer (some ⟨g3, 0, none⟩), .bool false, .pointer (some ⟨g7, 0, none⟩), .pointer (some ⟨g8, 0, none⟩), undef, .pointer (some ⟨g10, 0, none⟩), .pointer (some ⟨g12, 0, none⟩), .int .i64 (zk11.e : Int), .pointer (some ⟨g15, 0, none⟩), .int .i64 (zk14.e : Int), .int .i64 s, .int .i64 f, .agg #[.int .i64 f, .slice zk4.p 1 zk4.c], .int .i64 f, .int .i64 s, .slice (some ⟨g5, 0, none⟩) 1 1, .slice (some ⟨g6, 0, none⟩) 1 1, .agg #[.int .i64 f, .slice (some ⟨g6, 0, none⟩) 1 1], .agg #[.int .i64 f, .slice zk4.p 1 zk4.c], .agg #[.int .i64 f, .slice (some ⟨g6, 0, none⟩) 1 1], .bool true, .bool false, undef, undef, .slice lp L.length lc, .int .i64 (L.length : Int), .int .i64 (i : Int), .bool true, eaddr lp (i * 2), .agg #[.int .i64 ((L[i]!).1), .int .i64 ((L[i]!).2)], .tuple #[.agg #[.int .i64 zk11.F, .slice zk11.p zk11.X.length zk11.c], .int .i64 (zk11.e : Int)], .agg #[.int .i64 f, .slice pp O.length pc], .agg #[.slice p G.length c, .slice q H.length d], .agg #[.int .i64 ((L[i]!).1), .int .i64 ((L[i]!).2)], .tuple #[.agg #[.int .i64 zk11.F, .slice zk11.p zk11.X.length zk11.c], .int .i64 (zk11.e : Int)], .agg #[.int .i64 zk11.F, .slice zk11.p zk11.X.length zk11.c], .int .i64 (zk11.e : Int), .tuple #[.agg #[.int .i64 zk14.F, .slice zk14.p zk14.O.length zk14.c], .int .i64 (zk14.e : Int)], .agg #[.slice p G.length c, .slice q H.length d], .agg #[.slice zk13.p zk13.K.length zk13.c, .slice zk13.q H.length zk13.d], .agg #[.int .i64 f, .slice tp O.length tc], .pointer (some ⟨g10, 0, none⟩), .int .i64 ((L[i]!).1), .pointer (some ⟨g10, 1, none⟩), .int .i64 ((L[i]!).2), .tuple #[.agg #[.int .i64 zk14.F, .slice zk14.p zk14.O.length zk14.c], .int .i64 (zk14.e : Int)], .agg #[.int .i64 zk14.F, .slice zk14.p zk14.O.length zk14.c], .int .i64 (zk14.e : Int), .int .i64 (zk11.e : Int), .int .i64 (zk14.e : Int), .bool false, .bool false, .int .i64 (zk11.e : Int), .bool true, .bool true, .pointer (some ⟨g12, 1, none⟩), .slice zk11.p zk11.X.length zk11.c, .int .i64 (zk11.X.length : Int), .bool true, .bool true, .bool true, .bool true, undef, undef, undef, undef, undef, undef, undef, undef, .bool true, .agg #[.int .i64 f, .slice pp O.length pc], .agg #[.int .i64 f, .slice tp O.length tc], u82, u83, u84, u85, u86, undef, undef], defers := [] } : Act)) (fun _ => ⟨g15, #[.int .i64 zk14.F, .slice zk14.p zk14.O.length zk14.c], 34⟩ :: ⟨g12, #[.int .i64 zk11.F, .slice zk11.p zk11.X.length zk11.c], 31⟩ :: ⟨g10, #[.int .i64 ((L[i]!).1), .int .i64 ((L[i]!).2)], 53⟩ :: ⟨g8, #[.int .i64 f, .slice tp O.length tc], 34⟩ :: ⟨g7, #[.int .i64 f, .slice pp O.length pc], 31⟩ :: ⟨g6, #[.slice (some ⟨g5, 0, none⟩) 1 1], 47⟩ :: ⟨g5, #[.int .i64 s], 3⟩ :: ⟨g3, #[.int .i64 f, .slice tp O.length tc], 34⟩ :: ⟨g2, #[.int .i64 f, .slice pp O.length pc], 31⟩ :: ⟨g1, #[.slice p G.length c, .slice q H.length d], 25⟩ :: (N ++ (zk11.N ++ (zk13.N ++ zk14.N)))) (by kernel_rfl) rfl (by kernel_rfl) rfl trivial (fun _ => by kernel_rfl) (fun _ => rfl) ?_ ?_
     ·
      skip
      refine sps_cons (sp_val (.agg #[.int .i64 f, .slice pp O.length pc]) rfl (fun _ => rfl) (fun _ _ h => h) (fun _ _ => rfl) (fun ld γ9 a9 w9 h9 hE9 => load_row (hE9.rowAt (i := 4) rfl) rfl (h9.out (by kernel_rfl) rfl) Try.underlying31 rfl (by kernel_rfl))) ?_
      refine sps_cons (sp_val (.agg #[.int .i64 f, .slice tp O.length tc]) rfl (fun _ => rfl) (fun _ _ h => h) (fun _ _ => rfl) (fun ld γ9 a9 w9 h9 hE9 => load_row (hE9.rowAt (i := 3) rfl) rfl (h9.out (by kernel_rfl) rfl) Try.underlying34 rfl (by kernel_rfl))) ?_
      refine sps_cons ⟨fun ld γ9 a9 w9 h9 _ hE9 K9 hK9 => h9.go rfl ?_⟩ ?_
      ·
       have l0 : ld 2 = false := h9.off
       have hE2 := hE9
       simp only [l0, Bool.false_eq_true, if_false] at hE2
       exact wp_store_row 31 _ _ rfl _ (#[.int .i64 f, .slice pp O.length pc]) (h9.out (by kernel_rfl) rfl) (h9.tmp 0 rfl (h9.dep (by kernel_rfl))) _ _ (hE2.rowAt (i := 8) rfl) (by kernel_rfl) rfl (by simp [Value.oneCell']) (hK9 γ9 _ (fun _ _ => rfl) trivial (hE2.setRow (i := 8) rfl (#[.int .i64 f, .slice pp O.length pc])))
      refine sps_cons ⟨fun ld γ9 a9 w9 h9 _ hE9 K9 hK9 => h9.go rfl ?_⟩ ?_
      ·
       have l0 : ld 3 = false := h9.off
       have hE2 := hE9
       simp only [l0, Bool.false_eq_true, if_false] at hE2
       exact wp_store_row 34 _ _ rfl _ (#[.int .i64 f, .slice tp O.length tc]) (h9.out (by kernel_rfl) rfl) (h9.tmp 1 rfl (h9.dep (by kernel_rfl))) _ _ (hE2.rowAt (i := 7) rfl) (by kernel_rfl) rfl (by simp [Value.oneCell']) (hK9 γ9 _ (fun _ _ => rfl) trivial (hE2.setRow (i := 7) rfl (#[.int .i64 f, .slice tp O.length tc])))
      refine sps_cons (sp_val (.bool false) rfl (fun _ => rfl) (fun _ _ h => h) (fun _ _ => rfl) (fun ld γ9 a9 w9 h9 hE9 => rfl)) ?_
      exact sps_nil
     rintro ⟨⟩ -
     (try dsimp only)
     refine we_then ?_
     refine wc_ret ?_
     refine we_then_ret ?_
     refine we_in_ret ?_
     refine we_then_ret ?_
     refine we_then_ret ?_
     refine we_in_ret ?_
     refine we_then_ret ?_
     refine we_ret_cell2_tmp (.bool false) (own_row 8 rfl) (own_row 7 rfl) rfl rfl rfl rfl rfl Try.underlying31 rfl (by kernel_rfl) Try.underlying34 rfl (by kernel_rfl) (fun w1 hE => ?_)
     exact (by exfalso; omega)
  ·
   skip
   have p16 : (zk11.e : Int) ≠ (zk14.e : Int) := by first | (simp; done) | (simp at h16; done) | simpa using h16
   refine wl_skip rfl ?_
   simp only [Act.put, Xa, Xz, Xs]
   refine wl_skip rfl ?_
   simp only [Act.put, Xa, Xz, Xs]
   refine wl_skip rfl ?_
   simp only [Act.put, Xa, Xz, Xs]
   refine wl_skip rfl ?_
   simp only [Act.put, Xa, Xz, Xs]
   refine wl_skip rfl ?_
   simp only [Act.put, Xa, Xz, Xs]
   refine wl_skip rfl ?_
   simp only [Act.put, Xa, Xz, Xs]
   refine wl_skip rfl ?_
   simp only [Act.put, Xa, Xz, Xs]
   refine wl_skip rfl ?_
   simp only [Act.put, Xa, Xz, Xs]
   refine wl_val (.bool true) rfl (fun _ => rfl) ?_
   simp only [Act.put, Xa, Xz, Xs]
   refine wl_val (.bool true) rfl (fun _ => rfl) ?_
   simp only [Act.put, Xa, Xz, Xs]
   refine wl_skip rfl ?_
   simp only [Act.put, Xa, Xz, Xs]
   refine wl_skip rfl ?_
   simp only [Act.put, Xa, Xz, Xs]
   refine wl_skip rfl ?_
   simp only [Act.put, Xa, Xz, Xs]
   refine wl_skip rfl ?_
   simp only [Act.put, Xa, Xz, Xs]
   refine wl_skip rfl ?_
   simp only [Act.put, Xa, Xz, Xs]
   refine wl_skip rfl ?_
   simp only [Act.put, Xa, Xz, Xs]
   refine wl_skip rfl ?_
   simp only [Act.put, Xa, Xz, Xs]
   refine wl_skip rfl ?_
   simp only [Act.put, Xa, Xz, Xs]
   refine wl_val (.bool true) rfl (fun _ => rfl) ?_
   simp only [Act.put, Xa, Xz, Xs]
   refine wl_nil ?_
   refine we_then ?_
   refine wc_true rfl ?_
   refine wc_seq ?_
   refine wc_draw_fin (Γ := Unit) (fun _ j9 => ([.agg #[.int .i64 f, .slice pp O.length pc], .agg #[.int .i64 f, .slice tp O.length tc], undef, undef, .bool false]).getD j9 undef) (fun ld _ => ⟨g15, #[.int .i64 zk14.F, .slice zk14.p zk14.O.length zk14.c], 34⟩ :: ⟨g12, #[.int .i64 zk11.F, .slice zk11.p zk11.X.length zk11.c], 31⟩ :: ⟨g10, #[.int .i64 ((L[i]!).1), .int .i64 ((L[i]!).2)], 53⟩ :: ⟨g8, #[.int .i64 f, .slice tp O.length tc], 34⟩ :: ⟨g7, #[.int .i64 f, .slice pp O.length pc], 31⟩ :: ⟨g6, #[.slice (some ⟨g5, 0, none⟩) 1 1], 47⟩ :: ⟨g5, #[.int .i64 s], 3⟩ :: ⟨g3, if ld 3 = true then #[.int .i64 f, .slice tp O.length tc] else #[.int .i64 0, .slice none 0 0], 34⟩ :: ⟨g2, if ld 2 = true then #[.int .i64 f, .slice pp O.length pc] else #[.int .i64 0, .slice none 0 0], 31⟩ :: ⟨g1, #[.slice p G.length c, .slice q H.length d], 25⟩ :: (N ++ (zk11.N ++ (zk13.N ++ zk14.N)))) (fun _ _ => True) () 89 (fun _ => ({ tmps := #[.agg #[.slice p G.length c, .slice q H.length d], .int .i64 s, .int .i64 f, .slice lp L.length lc, .pointer (some ⟨g1, 0, none⟩), undef, undef, undef, .pointer (some ⟨g2, 0, none⟩), .pointer (some ⟨g3, 0, none⟩), .bool false, .pointer (some ⟨g7, 0, none⟩), .pointer (some ⟨g8, 0, none⟩), undef, .pointer (some ⟨g10, 0, none⟩), .pointer (some ⟨g12, 0, none⟩), .int .i64 (zk11.e : Int), .pointer (some ⟨g15, 0, none⟩), .int .i64 (zk14.e : Int), .int .i64 s, .int .i64 f, .agg #[.int .i64 f, .slice zk4.p 1 zk4.c], .int .i64 f, .int .i64 s, .slice (some ⟨g5, 0, none⟩) 1 1, .slice (some ⟨g6, 0, none⟩) 1 1, .agg #[.int .i64 f, .slice (some ⟨g6, 0, none⟩) 1 1], .agg #[.int .i64 f, .slice zk4.p 1 zk4.c], .agg #[.int .i64 f, .slice (some ⟨g6, 0, none⟩) 1 1], .bool true, .bool false, undef, undef, .slice lp L.length lc, .int .i64 (L.length : Int), .int .i64 (i : Int), .bool true, eaddr lp (i * 2), .agg #[.int .i64 ((L[i]!).1), .int .i64 ((L[i]!).2)], .tuple #[.agg #[.int .i64 zk11.F, .slice zk11.p zk11.X.length zk11.c], .int .i64 (zk11.e : Int)], .agg #[.int .i64 f, .slice pp O.length pc], .agg #[.slice p G.length c, .slice q H.length d], .agg #[.int .i64 ((L[i]!).1), .int .i64 ((L[i]!).2)], .tuple #[.agg #[.int .i64 zk11.F, .slice zk11.p zk11.X.length zk11.c], .int .i64 (zk11.e : Int)], .agg #[.int .i64 zk11.F, .slice zk11.p zk11.X.length zk11.c], .int .i64 (zk11.e : Int), .tuple #[.agg #[.int .i64 zk14.F, .slice zk14.p zk14.O.length zk14.c], .int .i64 (zk14.e : Int)], .agg #[.slice p G.length c, .slice q H.length d], .agg #[.slice zk13.p zk13.K.length zk13.c, .slice zk13.q H.length zk13.d], .agg #[.int .i64 f, .slice tp O.length tc], .pointer (some ⟨g10, 0, none⟩), .int .i64 ((L[i]!).1), .pointer (some ⟨g10, 1, none⟩), .int .i64 ((L[i]!).2), .tuple #[.agg #[.int .i64 zk14.F, .slice zk14.p zk14.O.length zk14.c], .int .i64 (zk14.e : Int)], .agg #[.int .i64 zk14.F, .slice zk14.p zk14.O.length zk14.c], .int .i64 (zk14.e : Int), .int .i64 (zk11.e : Int), .int .i64 (zk14.e : Int), .bool true, .bool true, undef, undef, undef, undef, undef, undef, undef, undef, .bool true, .bool true, undef, undef, undef, undef, undef, undef, undef, undef, .bool true, .agg #[.int .i64 f, .slice pp O.length pc], .agg #[.int .i64 f, .slice tp O.length tc], u82, u83, u84, u85, u86, undef, undef], defers := [] } : Act)) (fun _ => ⟨g15, #[.int .i64 zk14.F, .slice zk14.p zk14.O.length zk14.c], 34⟩ :: ⟨g12, #[.int .i64 zk11.F, .slice zk11.p zk11.X.length zk11.c], 31⟩ :: ⟨g10, #[.int .i64 ((L[i]!).1), .int .i64 ((L[i]!).2)], 53⟩ :: ⟨g8, #[.int .i64 f, .slice tp O.length tc], 34⟩ :: ⟨g7, #[.int .i64 f, .slice pp O.length pc], 31⟩ :: ⟨g6, #[.slice (some ⟨g5, 0, none⟩) 1 1], 47⟩ :: ⟨g5, #[.int .i64 s], 3⟩ :: ⟨g3, #[.int .i64 f, .slice tp O.length tc], 34⟩ :: ⟨g2, #[.int .i64 f, .slice pp O.length pc], 31⟩ :: ⟨g1, #[.slice p G.length c, .slice q H.length d], 25⟩ :: (N ++ (zk11.N ++ (zk13.N ++ zk14.N)))) (by kernel_rfl) rfl (by kernel_rfl) rfl trivial (fun _ => by kernel_rfl) (fun _ => rfl) ?_ ?_
   ·
    skip
    refine sps_cons (sp_val (.agg #[.int .i64 f, .slice pp O.length pc]) rfl (fun _ => rfl) (fun _ _ h => h) (fun _ _ => rfl) (fun ld γ9 a9 w9 h9 hE9 => load_row (hE9.rowAt (i := 4) rfl) rfl (h9.out (by kernel_rfl) rfl) Try.underlying31 rfl (by kernel_rfl))) ?_
    refine sps_cons (sp_val (.agg #[.int .i64 f, .slice tp O.length tc]) rfl (fun _ => rfl) (fun _ _ h => h) (fun _ _ => rfl) (fun ld γ9 a9 w9 h9 hE9 => load_row (hE9.rowAt (i := 3) rfl) rfl (h9.out (by kernel_rfl) rfl) Try.underlying34 rfl (by kernel_rfl))) ?_
    refine sps_cons ⟨fun ld γ9 a9 w9 h9 _ hE9 K9 hK9 => h9.go rfl ?_⟩ ?_
    ·
     have l0 : ld 2 = false := h9.off
     have hE2 := hE9
     simp only [l0, Bool.false_eq_true, if_false] at hE2
     exact wp_store_row 31 _ _ rfl _ (#[.int .i64 f, .slice pp O.length pc]) (h9.out (by kernel_rfl) rfl) (h9.tmp 0 rfl (h9.dep (by kernel_rfl))) _ _ (hE2.rowAt (i := 8) rfl) (by kernel_rfl) rfl (by simp [Value.oneCell']) (hK9 γ9 _ (fun _ _ => rfl) trivial (hE2.setRow (i := 8) rfl (#[.int .i64 f, .slice pp O.length pc])))
    refine sps_cons ⟨fun ld γ9 a9 w9 h9 _ hE9 K9 hK9 => h9.go rfl ?_⟩ ?_
    ·
     have l0 : ld 3 = false := h9.off
     have hE2 := hE9
     simp only [l0, Bool.false_eq_true, if_false] at hE2
     exact wp_store_row 34 _ _ rfl _ (#[.int .i64 f, .slice tp O.length tc]) (h9.out (by kernel_rfl) rfl) (h9.tmp 1 rfl (h9.dep (by kernel_rfl))) _ _ (hE2.rowAt (i := 7) rfl) (by kernel_rfl) rfl (by simp [Value.oneCell']) (hK9 γ9 _ (fun _ _ => rfl) trivial (hE2.setRow (i := 7) rfl (#[.int .i64 f, .slice tp O.length tc])))
    refine sps_cons (sp_val (.bool false) rfl (fun _ => rfl) (fun _ _ h => h) (fun _ _ => rfl) (fun ld γ9 a9 w9 h9 hE9 => rfl)) ?_
    exact sps_nil
   rintro ⟨⟩ -
   (try dsimp only)
   refine we_then ?_
   refine wc_ret ?_
   refine we_then_ret ?_
   refine we_in_ret ?_
   refine we_then_ret ?_
   refine we_then_ret ?_
   refine we_in_ret ?_
   refine we_then_ret ?_
   refine we_ret_cell2_tmp (.bool false) (own_row 8 rfl) (own_row 7 rfl) rfl rfl rfl rfl rfl Try.underlying31 rfl (by kernel_rfl) Try.underlying34 rfl (by kernel_rfl) (fun w1 hE => ?_)
   exact (by exfalso; omega)
end Go.Proofs.Ytkbaponpebkpiaa.Rtlb
