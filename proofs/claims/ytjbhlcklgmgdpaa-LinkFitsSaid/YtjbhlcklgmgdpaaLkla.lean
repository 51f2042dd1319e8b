/-
 The laws of layer 20: their helpers refs and may. Condition: at most 2^47 of each.
-/
import Derived.Test.YtjbhlcklgmgdpaaMrl
import Derived.Test.YtjbhlcklgmgdpaaMkr
import Derived.Test.YtjbhlcklgmgdpaaRtref
namespace Go.Proofs.Ytjbhlcklgmgdpaa.Lkla
open Go.ChangeShapes Go.WideShapes Go.ChangeAt Go.RowKit
open Arr Steady Sx Sw Sl Sb Sc Si Sj Sk Sh Vs Gr Tk Tkh Tkl Rt Rtm Rtg Rtp Rtk Rts Tkrefs20 Rtla
set_option linter.unusedVariables false
set_option linter.unusedSimpArgs false
set_option maxRecDepth 100000

theorem refs_open20 (G : List Sg) (H : List Gp) (p q : Option Addr) (c d : Nat) (w : World) (hS : Reads w p (flat sg G)) (hG : OkS w G) (hH : Reads w q (flat gp H)) (hn : G.length + H.length ≤ 800) (hf : ∀ j, j < G.length → (G[j]!).P.length ≤ 100 ∧ (G[j]!).X.length ≤ 100) :
  Calls Try.prog 15 #[.agg #[.slice p G.length c, .slice q H.length d]] w fun e w' => ∃ z : Cp, CpOk G H z ∧ e = .returned (.agg #[.slice z.p z.K.length z.c, .slice z.q H.length z.d]) ∧ Env w w' z.N := by
 refine (Tkrefs20.refs_any G H p q c d w hS hG hH hn hf).mono ?_
 rintro e w' ⟨K, s, v, M, h1, h2, h3, h4, rfl, h6⟩
 refine ⟨⟨K, s.ptr, s.cap, v.ptr, v.cap, s.rows 89 ++ (v.rows 93 ++ M)⟩, ⟨same_copy h1 h4, (held_own h2).mono (List.sublist_append_left _ _), (held_own h3).mono ((List.sublist_append_left _ _).trans (List.sublist_append_right _ _)), fun w0 W hO hE => ?_⟩, by rw [h1], h6⟩
 exact oks_copy hO h1 h4 (hE.sub ((List.sublist_append_right _ _).trans (List.sublist_append_right _ _)))
set_option maxHeartbeats 4000000 in
theorem may_any20 (s f : Int) (G : List Sg) (H : List Gp) (p q : Option Addr) (c d : Nat) (w : World) (hS : Reads w p (flat sg G)) (hG : OkS w G) (hH : Reads w q (flat gp H)) (hn : G.length ≤ 140737488355328) (hm : H.length ≤ 140737488355328) :
  Calls Try.prog 10 #[.agg #[.slice p G.length c, .slice q H.length d], .int .i64 s, .int .i64 f] w fun e w' => e = .returned (.bool (mayT G H s f)) ∧ Below w.heap.size w w' := by
 refine calls_sx Try.func10 rfl ?_
 simp only [Try.ntmps10, List.size_toArray, List.length_cons, List.length_nil, Nat.reduceAdd, Nat.reduceSub, Array.replicate_succ, Array.replicate_zero, List.push_toArray, List.append_toArray, List.nil_append, List.cons_append]
 refine wc_seq ?_
 refine wc_region ?_
 refine wl_new 35 (#[.slice p G.length c, .slice q H.length d]) rfl (fun _ => by go_simp) ?_
 intro g1
 simp only [Act.put, Xa, Xz, Xs]
 refine wl_val (.bool false) rfl (fun _ => rfl) ?_
 simp only [Act.put, Xa, Xz, Xs]
 refine wl_nil ?_
 refine we_then ?_
 refine wc_seq ?_
 refine wc_seq ?_
 refine wc_region ?_
 refine wl_val (.pointer (some ⟨g1, 0, none⟩)) rfl (fun _ => by go_simp) ?_
 simp only [Act.put, Xa, Xz, Xs]
 refine wl_cell 32 (.tmp 11) (.slice p G.length c) (own_row 0 rfl) rfl rfl rfl rfl Try.isAgg32 ?_
 simp only [Act.put, Xa, Xz, Xs]
 refine wl_val (.int .i64 (G.length : Int)) rfl (fun w => er_len rfl rfl Try.underlying32 w) ?_
 simp only [Act.put, Xa, Xz, Xs]
 refine wl_val (.bool (decide (300 < (G.length : Int)))) rfl (fun w => run_cmp rfl rfl rfl Try.underlying3 rfl w) ?_
 simp only [Act.put, Xa, Xz, Xs]
 refine wl_val (.bool (decide (300 < (G.length : Int)))) rfl (fun _ => rfl) ?_
 simp only [Act.put, Xa, Xz, Xs]
 cases h2 : (decide (300 < (G.length : Int)))
 ·
  skip
  have p2 : ¬ (300 < (G.length : Int)) := of_decide_eq_false h2
  refine wl_val (.pointer (some ⟨g1, 1, none⟩)) rfl (fun _ => by go_simp) ?_
  simp only [Act.put, Xa, Xz, Xs]
  refine wl_cell 33 (.tmp 16) (.slice q H.length d) (own_row 0 rfl) rfl rfl rfl rfl Try.isAgg33 ?_
  simp only [Act.put, Xa, Xz, Xs]
  refine wl_val (.int .i64 (H.length : Int)) rfl (fun w => er_len rfl rfl Try.underlying33 w) ?_
  simp only [Act.put, Xa, Xz, Xs]
  refine wl_val (.bool (decide (500 < (H.length : Int)))) rfl (fun w => run_cmp rfl rfl rfl Try.underlying3 rfl w) ?_
  simp only [Act.put, Xa, Xz, Xs]
  refine wl_val (.bool (decide (500 < (H.length : Int)))) rfl (fun _ => rfl) ?_
  simp only [Act.put, Xa, Xz, Xs]
  refine wl_nil ?_
  refine we_then ?_
  cases h3 : (decide (500 < (H.length : Int)))
  ·
   skip
   have p3 : ¬ (500 < (H.length : Int)) := of_decide_eq_false h3
   refine wc_false rfl ?_
   refine wc_skip ?_
   refine we_then ?_
   refine wc_seq ?_
   refine wc_seq ?_
   refine wc_region ?_
   refine wl_val (.pointer (some ⟨g1, 0, none⟩)) rfl (fun _ => by go_simp) ?_
   simp only [Act.put, Xa, Xz, Xs]
   refine wl_cell 32 (.tmp 21) (.slice p G.length c) (own_row 0 rfl) rfl rfl rfl rfl Try.isAgg32 ?_
   simp only [Act.put, Xa, Xz, Xs]
   refine wl_val (.int .i64 (G.length : Int)) rfl (fun w => er_len rfl rfl Try.underlying32 w) ?_
   simp only [Act.put, Xa, Xz, Xs]
   refine wl_val (.int .i64 0) rfl (fun _ => rfl) ?_
   simp only [Act.put, Xa, Xz, Xs]
   refine wl_nil ?_
   refine we_then ?_
   refine wc_block ?_
   refine wc_loop (fun (zz : Nat × Value × Value × Value × Value × Value × Value × Value × Value × Value × Value × Value × Value × Value × Value × Value × Value) => match zz with | ⟨i, u6, u8, u25, u26, u27, u28, u29, u30, u31, u32, u33, u34, u35, u36, u37, u38⟩ => ({ tmps := #[.agg #[.slice p G.length c, .slice q H.length d], .int .i64 s, .int .i64 f, .pointer (some ⟨g1, 0, none⟩), undef, undef, u6, undef, u8, undef, undef, .pointer (some ⟨g1, 0, none⟩), .slice p G.length c, .int .i64 (G.length : Int), .bool false, .bool false, .pointer (some ⟨g1, 1, none⟩), .slice q H.length d, .int .i64 (H.length : Int), .bool false, .bool false, .pointer (some ⟨g1, 0, none⟩), .slice p G.length c, .int .i64 (G.length : Int), .int .i64 (i : Int), u25, u26, u27, u28, u29, u30, u31, u32, u33, u34, u35, u36, u37, u38, undef, undef, undef, undef, undef, undef, undef, undef, undef, undef, undef, undef, undef, undef, undef, undef, undef, undef, undef, undef, undef, undef, undef, undef, undef, undef, undef, undef, undef, undef, undef, undef, undef], defers := [] } : Act)) (fun (zz : Nat × Value × Value × Value × Value × Value × Value × Value × Value × Value × Value × Value × Value × Value × Value × Value × Value) => match zz with | ⟨i, u6, u8, u25, u26, u27, u28, u29, u30, u31, u32, u33, u34, u35, u36, u37, u38⟩ => [⟨g1, #[.slice p G.length c, .slice q H.length d], 35⟩]) (fun (zz : Nat × Value × Value × Value × Value × Value × Value × Value × Value × Value × Value × Value × Value × Value × Value × Value × Value) => match zz with | ⟨i, u6, u8, u25, u26, u27, u28, u29, u30, u31, u32, u33, u34, u35, u36, u37, u38⟩ => i ≤ G.length ∧ ∀ j, j < i → (G[j]!).P.length ≤ 100 ∧ (G[j]!).X.length ≤ 100) (fun (zz : Nat × Value × Value × Value × Value × Value × Value × Value × Value × Value × Value × Value × Value × Value × Value × Value × Value) => match zz with | ⟨i, u6, u8, u25, u26, u27, u28, u29, u30, u31, u32, u33, u34, u35, u36, u37, u38⟩ => G.length - i) ⟨0, _, _, _, _, _, _, _, _, _, _, _, _, _, _, _, _⟩ ⟨Nat.zero_le _, fun j hj => absurd hj (Nat.not_lt_zero j)⟩ rfl (List.Sublist.cons_cons _ List.Sublist.slnil) ?_
   rintro ⟨i, u6, u8, u25, u26, u27, u28, u29, u30, u31, u32, u33, u34, u35, u36, u37, u38⟩ hφ
   (try dsimp only at hφ ⊢)
   obtain ⟨b1, b2⟩ := hφ
   refine wc_seq ?_
   refine wc_region ?_
   refine wl_val (.bool (decide ((i : Int) < (G.length : Int)))) rfl (fun w => run_cmp rfl rfl rfl Try.underlying3 rfl w) ?_
   simp only [Act.put, Xa, Xz, Xs]
   refine wl_nil ?_
   refine we_then ?_
   refine wc_seq ?_
   cases h4 : (decide ((i : Int) < (G.length : Int)))
   ·
    skip
    have p4 : ¬ ((i : Int) < (G.length : Int)) := of_decide_eq_false h4
    refine wc_false rfl ?_
    refine wc_exit ?_
    refine we_then_exit ?_
    refine we_then_exit ?_
    refine we_in_here ?_
    refine we_then ?_
    refine wc_seq ?_
    have fw : ∀ j, j < G.length → (G[j]!).P.length ≤ 100 ∧ (G[j]!).X.length ≤ 100 := fun j hj => b2 j (by omega)
    refine wc_region ?_
    refine wl_load 35 (.tmp 3) (own_row 0 rfl) rfl rfl rfl Try.underlying35 rfl (by kernel_rfl) ?_
    simp only [Act.put, Xa, Xz, Xs]
    refine wl_call_open (ι := Cp) (fun zz => match zz with | zk5 => ⟨g1, #[.slice p G.length c, .slice q H.length d], 35⟩ :: zk5.N) 15 #[.agg #[.slice p G.length c, .slice q H.length d]] (fun zz => match zz with | zk5 => .agg #[.slice zk5.p zk5.K.length zk5.c, .slice zk5.q H.length zk5.d]) (fun zz => match zz with | zk5 => zk5.N) (fun zz => match zz with | zk5 => CpOk G H zk5) (by rintro zk5; simp) rfl (fun _ => by go_simp) (fun W hE => refs_open20 G H _ _ _ _ W ((sl_old hS) W hE) (oks_below hG hE.below) ((sl_old hH) W hE) (by omega) fw) ?_
    rintro zk5 k5
    (try dsimp only)
    simp only [Act.put, Xa, Xz, Xs]
    refine wl_call_at 23 #[.agg #[.slice zk5.p zk5.K.length zk5.c, .slice zk5.q H.length zk5.d]] (.tuple #[.int .i64 (((chk G H).1 : Nat) : Int), .int .i64 (((chk G H).2 : Nat) : Int)]) rfl (fun _ => by go_simp) (fun W hE => by have x := Tkref.check_any zk5.K H _ _ zk5.c zk5.d W (held_at k5.segs (List.Sublist.cons _ (List.Sublist.refl _)) hE) (k5.ok _ _ hG (hE.sub (List.Sublist.cons _ (List.Sublist.refl _)))) (held_at k5.grps (List.Sublist.cons _ (List.Sublist.refl _)) hE) (by rw [k5.same.length]; omega) (by omega); rwa [chk_same k5.same] at x) ?_
    simp only [Act.put, Xa, Xz, Xs]
    refine wl_val (.tuple #[.int .i64 (((chk G H).1 : Nat) : Int), .int .i64 (((chk G H).2 : Nat) : Int)]) rfl (fun _ => rfl) ?_
    simp only [Act.put, Xa, Xz, Xs]
    refine wl_val (.int .i64 (((chk G H).1 : Nat) : Int)) rfl (fun _ => by go_simp) ?_
    simp only [Act.put, Xa, Xz, Xs]
    refine wl_val (.int .i64 (((chk G H).2 : Nat) : Int)) rfl (fun _ => by go_simp) ?_
    simp only [Act.put, Xa, Xz, Xs]
    refine wl_val (.int .i64 (((chk G H).1 : Nat) : Int)) rfl (fun _ => rfl) ?_
    simp only [Act.put, Xa, Xz, Xs]
    refine wl_val (.int .i64 (((chk G H).2 : Nat) : Int)) rfl (fun _ => rfl) ?_
    simp only [Act.put, Xa, Xz, Xs]
    refine wl_nil ?_
    refine we_then ?_
    refine wc_seq ?_
    refine wc_region ?_
    refine wl_val (.int .i64 (((chk G H).1 : Nat) : Int)) rfl (fun _ => rfl) ?_
    simp only [Act.put, Xa, Xz, Xs]
    refine wl_val (.bool ((((chk G H).1 : Nat) : Int) == 0)) rfl (fun w => run_cmp rfl rfl rfl Try.underlying3 rfl w) ?_
    simp only [Act.put, Xa, Xz, Xs]
    refine wl_val (.bool ((((chk G H).1 : Nat) : Int) == 0)) rfl (fun _ => rfl) ?_
    simp only [Act.put, Xa, Xz, Xs]
    cases h6 : ((((chk G H).1 : Nat) : Int) == 0)
    ·
     skip
     have p6 : ¬ ((((chk G H).1 : Nat) : Int) = 0) := by first | (simp; done) | (simp at h6; done) | simpa using h6
     refine wl_skip rfl ?_
     simp only [Act.put, Xa, Xz, Xs]
     refine wl_skip rfl ?_
     simp only [Act.put, Xa, Xz, Xs]
     refine wl_val (.bool false) rfl (fun _ => rfl) ?_
     simp only [Act.put, Xa, Xz, Xs]
     refine wl_val (.bool false) rfl (fun _ => rfl) ?_
     simp only [Act.put, Xa, Xz, Xs]
     refine wl_skip rfl ?_
     simp only [Act.put, Xa, Xz, Xs]
     refine wl_skip rfl ?_
     simp only [Act.put, Xa, Xz, Xs]
     refine wl_skip rfl ?_
     simp only [Act.put, Xa, Xz, Xs]
     refine wl_skip rfl ?_
     simp only [Act.put, Xa, Xz, Xs]
     refine wl_skip rfl ?_
     simp only [Act.put, Xa, Xz, Xs]
     refine wl_val (.bool false) rfl (fun _ => rfl) ?_
     simp only [Act.put, Xa, Xz, Xs]
     refine wl_val (.bool false) rfl (fun _ => rfl) ?_
     simp only [Act.put, Xa, Xz, Xs]
     refine wl_skip rfl ?_
     simp only [Act.put, Xa, Xz, Xs]
     refine wl_skip rfl ?_
     simp only [Act.put, Xa, Xz, Xs]
     refine wl_val (.bool false) rfl (fun _ => rfl) ?_
     simp only [Act.put, Xa, Xz, Xs]
     refine wl_val (.bool false) rfl (fun _ => rfl) ?_
     simp only [Act.put, Xa, Xz, Xs]
     refine wl_skip rfl ?_
     simp only [Act.put, Xa, Xz, Xs]
     refine wl_skip rfl ?_
     simp only [Act.put, Xa, Xz, Xs]
     refine wl_skip rfl ?_
     simp only [Act.put, Xa, Xz, Xs]
     refine wl_skip rfl ?_
     simp only [Act.put, Xa, Xz, Xs]
     refine wl_skip rfl ?_
     simp only [Act.put, Xa, Xz, Xs]
     refine wl_skip rfl ?_
     simp only [Act.put, Xa, Xz, Xs]
     refine wl_skip rfl ?_
     simp only [Act.put, Xa, Xz, Xs]
     refine wl_skip rfl ?_
     simp only [Act.put, Xa, Xz, Xs]
     refine wl_val (.bool false) rfl (fun _ => rfl) ?_
     simp only [Act.put, Xa, Xz, Xs]
     refine wl_val (.bool false) rfl (fun _ => rfl) ?_
     simp only [Act.put, Xa, Xz, Xs]
     refine wl_nil ?_
     refine we_then ?_
     refine wc_ret ?_
     refine we_ret1 (.bool false) rfl rfl rfl (fun w1 hE => ?_)
     rw [mayT_no (fun k => by have k1 := chk_may k.1; have k2 : (chk G H).1 = 0 := (by rw [k1]); omega)]
     exact ⟨rfl, hE.below⟩
    ·
     skip
     have p6 : (((chk G H).1 : Nat) : Int) = 0 := by first | (simp; done) | (simp at h6; done) | simpa using h6
     refine wl_val (.int .i64 s) rfl (fun _ => rfl) ?_
     simp only [Act.put, Xa, Xz, Xs]
     refine wl_val (.bool (decide (0 ≤ s))) rfl (fun w => run_cmp rfl rfl rfl Try.underlying3 rfl w) ?_
     simp only [Act.put, Xa, Xz, Xs]
     refine wl_val (.bool (decide (0 ≤ s))) rfl (fun _ => rfl) ?_
     simp only [Act.put, Xa, Xz, Xs]
     refine wl_val (.bool (decide (0 ≤ s))) rfl (fun _ => rfl) ?_
     simp only [Act.put, Xa, Xz, Xs]
     cases h7 : (decide (0 ≤ s))
     ·
      skip
      have p7 : ¬ (0 ≤ s) := of_decide_eq_false h7
      refine wl_skip rfl ?_
      simp only [Act.put, Xa, Xz, Xs]
      refine wl_skip rfl ?_
      simp only [Act.put, Xa, Xz, Xs]
      refine wl_skip rfl ?_
      simp only [Act.put, Xa, Xz, Xs]
      refine wl_skip rfl ?_
      simp only [Act.put, Xa, Xz, Xs]
      refine wl_skip rfl ?_
      simp only [Act.put, Xa, Xz, Xs]
      refine wl_val (.bool false) rfl (fun _ => rfl) ?_
      simp only [Act.put, Xa, Xz, Xs]
      refine wl_val (.bool false) rfl (fun _ => rfl) ?_
      simp only [Act.put, Xa, Xz, Xs]
      refine wl_skip rfl ?_
      simp only [Act.put, Xa, Xz, Xs]
      refine wl_skip rfl ?_
      simp only [Act.put, Xa, Xz, Xs]
      refine wl_val (.bool false) rfl (fun _ => rfl) ?_
      simp only [Act.put, Xa, Xz, Xs]
      refine wl_val (.bool false) rfl (fun _ => rfl) ?_
      simp only [Act.put, Xa, Xz, Xs]
      refine wl_skip rfl ?_
      simp only [Act.put, Xa, Xz, Xs]
      refine wl_skip rfl ?_
      simp only [Act.put, Xa, Xz, Xs]
      refine wl_skip rfl ?_
      simp only [Act.put, Xa, Xz, Xs]
      refine wl_skip rfl ?_
      simp only [Act.put, Xa, Xz, Xs]
      refine wl_skip rfl ?_
      simp only [Act.put, Xa, Xz, Xs]
      refine wl_skip rfl ?_
      simp only [Act.put, Xa, Xz, Xs]
      refine wl_skip rfl ?_
      simp only [Act.put, Xa, Xz, Xs]
      refine wl_skip rfl ?_
      simp only [Act.put, Xa, Xz, Xs]
      refine wl_val (.bool false) rfl (fun _ => rfl) ?_
      simp only [Act.put, Xa, Xz, Xs]
      refine wl_val (.bool false) rfl (fun _ => rfl) ?_
      simp only [Act.put, Xa, Xz, Xs]
      refine wl_nil ?_
      refine we_then ?_
      refine wc_ret ?_
      refine we_ret1 (.bool false) rfl rfl rfl (fun w1 hE => ?_)
      rw [mayT_no (fun k => by have k1 := k.2.1; have k2 := k.2.2; omega)]
      exact ⟨rfl, hE.below⟩
     ·
      skip
      have p7 : 0 ≤ s := of_decide_eq_true h7
      refine wl_val (.int .i64 s) rfl (fun _ => rfl) ?_
      simp only [Act.put, Xa, Xz, Xs]
      refine wl_val (.pointer (some ⟨g1, 0, none⟩)) rfl (fun _ => by go_simp) ?_
      simp only [Act.put, Xa, Xz, Xs]
      refine wl_cell 32 (.tmp 53) (.slice p G.length c) (own_row 0 rfl) rfl rfl rfl rfl Try.isAgg32 ?_
      simp only [Act.put, Xa, Xz, Xs]
      refine wl_val (.int .i64 (G.length : Int)) rfl (fun w => er_len rfl rfl Try.underlying32 w) ?_
      simp only [Act.put, Xa, Xz, Xs]
      refine wl_val (.bool (decide (s < (G.length : Int)))) rfl (fun w => run_cmp rfl rfl rfl Try.underlying3 rfl w) ?_
      simp only [Act.put, Xa, Xz, Xs]
      refine wl_val (.bool (decide (s < (G.length : Int)))) rfl (fun _ => rfl) ?_
      simp only [Act.put, Xa, Xz, Xs]
      refine wl_val (.bool (decide (s < (G.length : Int)))) rfl (fun _ => rfl) ?_
      simp only [Act.put, Xa, Xz, Xs]
      cases h8 : (decide (s < (G.length : Int)))
      ·
       skip
       have p8 : ¬ (s < (G.length : Int)) := of_decide_eq_false h8
       refine wl_skip rfl ?_
       simp only [Act.put, Xa, Xz, Xs]
       refine wl_skip rfl ?_
       simp only [Act.put, Xa, Xz, Xs]
       refine wl_val (.bool false) rfl (fun _ => rfl) ?_
       simp only [Act.put, Xa, Xz, Xs]
       refine wl_val (.bool false) rfl (fun _ => rfl) ?_
       simp only [Act.put, Xa, Xz, Xs]
       refine wl_skip rfl ?_
       simp only [Act.put, Xa, Xz, Xs]
       refine wl_skip rfl ?_
       simp only [Act.put, Xa, Xz, Xs]
       refine wl_skip rfl ?_
       simp only [Act.put, Xa, Xz, Xs]
       refine wl_skip rfl ?_
       simp only [Act.put, Xa, Xz, Xs]
       refine wl_skip rfl ?_
       simp only [Act.put, Xa, Xz, Xs]
       refine wl_skip rfl ?_
       simp only [Act.put, Xa, Xz, Xs]
       refine wl_skip rfl ?_
       simp only [Act.put, Xa, Xz, Xs]
       refine wl_skip rfl ?_
       simp only [Act.put, Xa, Xz, Xs]
       refine wl_val (.bool false) rfl (fun _ => rfl) ?_
       simp only [Act.put, Xa, Xz, Xs]
       refine wl_val (.bool false) rfl (fun _ => rfl) ?_
       simp only [Act.put, Xa, Xz, Xs]
       refine wl_nil ?_
       refine we_then ?_
       refine wc_ret ?_
       refine we_ret1 (.bool false) rfl rfl rfl (fun w1 hE => ?_)
       rw [mayT_no (fun k => by have k1 := k.2.1; have k2 := k.2.2; omega)]
       exact ⟨rfl, hE.below⟩
      ·
       skip
       have p8 : s < (G.length : Int) := of_decide_eq_true h8
       refine wl_val (.int .i64 f) rfl (fun _ => rfl) ?_
       simp only [Act.put, Xa, Xz, Xs]
       refine wl_val (.bool (decide (0 ≤ f))) rfl (fun w => run_cmp rfl rfl rfl Try.underlying2 rfl w) ?_
       simp only [Act.put, Xa, Xz, Xs]
       refine wl_val (.bool (decide (0 ≤ f))) rfl (fun _ => rfl) ?_
       simp only [Act.put, Xa, Xz, Xs]
       refine wl_val (.bool (decide (0 ≤ f))) rfl (fun _ => rfl) ?_
       simp only [Act.put, Xa, Xz, Xs]
       cases h9 : (decide (0 ≤ f))
       ·
        skip
        have p9 : ¬ (0 ≤ f) := of_decide_eq_false h9
        refine wl_skip rfl ?_
        simp only [Act.put, Xa, Xz, Xs]
        refine wl_skip rfl ?_
        simp only [Act.put, Xa, Xz, Xs]
        refine wl_skip rfl ?_
        simp only [Act.put, Xa, Xz, Xs]
        refine wl_skip rfl ?_
        simp only [Act.put, Xa, Xz, Xs]
        refine wl_skip rfl ?_
        simp only [Act.put, Xa, Xz, Xs]
        refine wl_skip rfl ?_
        simp only [Act.put, Xa, Xz, Xs]
        refine wl_skip rfl ?_
        simp only [Act.put, Xa, Xz, Xs]
        refine wl_skip rfl ?_
        simp only [Act.put, Xa, Xz, Xs]
        refine wl_val (.bool false) rfl (fun _ => rfl) ?_
        simp only [Act.put, Xa, Xz, Xs]
        refine wl_val (.bool false) rfl (fun _ => rfl) ?_
        simp only [Act.put, Xa, Xz, Xs]
        refine wl_nil ?_
        refine we_then ?_
        refine wc_ret ?_
        refine we_ret1 (.bool false) rfl rfl rfl (fun w1 hE => ?_)
        rw [mayT_no (fun k => by have k1 := k.2.1; have k2 := k.2.2; omega)]
        exact ⟨rfl, hE.below⟩
       ·
        skip
        have p9 : 0 ≤ f := of_decide_eq_true h9
        refine wl_val (.int .i64 f) rfl (fun _ => rfl) ?_
        simp only [Act.put, Xa, Xz, Xs]
        refine wl_val (.pointer (some ⟨g1, 0, none⟩)) rfl (fun _ => by go_simp) ?_
        simp only [Act.put, Xa, Xz, Xs]
        refine wl_cell 32 (.tmp 64) (.slice p G.length c) (own_row 0 rfl) rfl rfl rfl rfl Try.isAgg32 ?_
        simp only [Act.put, Xa, Xz, Xs]
        refine wl_val (.int .i64 s) rfl (fun _ => rfl) ?_
        simp only [Act.put, Xa, Xz, Xs]
        refine wl_read (eaddr p ((s.toNat) * 3)) rfl (er_index (s.toNat) 3 (sl_old hS) rfl rfl rfl (by omega) (by omega) (flat_length (enc := sg) (size := 3) (fun _ => rfl) _) (by decide) Try.underlying32 (by kernel_rfl)) ?_
        simp only [Act.put, Xa, Xz, Xs]
        refine wl_read (eaddr p ((s.toNat) * 3 + 0)) rfl (er_field (z := 0) ((s.toNat) * 3) 0 0 (sl_old hS) rfl rfl (flat_lt (enc := sg) (fun _ => rfl) G (s.toNat) 0 (by omega) (by decide)) Try.underlying68 rfl rfl (by kernel_rfl)) ?_
        simp only [Act.put, Xa, Xz, Xs]
        refine wl_read (.int .i64 ((G[s.toNat]!).len)) rfl (er_cell ((s.toNat) * 3 + 0) (.int .i64 ((G[s.toNat]!).len)) (sl_old hS) rfl rfl (flat_cell (enc := sg) (fun _ => rfl) G (s.toNat) 0 (by omega) (by decide)) Try.isAgg2) ?_
        simp only [Act.put, Xa, Xz, Xs]
        refine wl_val (.bool (decide (f ≤ (G[s.toNat]!).len))) rfl (fun w => run_cmp rfl rfl rfl Try.underlying2 rfl w) ?_
        simp only [Act.put, Xa, Xz, Xs]
        refine wl_val (.bool (decide (f ≤ (G[s.toNat]!).len))) rfl (fun _ => rfl) ?_
        simp only [Act.put, Xa, Xz, Xs]
        refine wl_val (.bool (decide (f ≤ (G[s.toNat]!).len))) rfl (fun _ => rfl) ?_
        simp only [Act.put, Xa, Xz, Xs]
        refine wl_nil ?_
        refine we_then ?_
        refine wc_ret ?_
        refine we_ret1 (.bool (decide (f ≤ (G[s.toNat]!).len))) rfl rfl rfl (fun w1 hE => ?_)
        have hc := may_of_chk (G := G) (H := H) (by omega)
        have e0 : mayT G H s f = (decide (f ≤ (G[s.toNat]!).len)) := by
         by_cases h0 : f ≤ (G[s.toNat]!).len
         ·
          rw [mayT_yes ⟨hc, ⟨by omega, by omega⟩, by omega, h0⟩]; exact (decide_eq_true h0).symm
         ·
          rw [mayT_no (fun k => h0 k.2.2.2)]; exact (decide_eq_false h0).symm
        exact ⟨by rw [e0], hE.below⟩
   ·
    skip
    have p4 : (i : Int) < (G.length : Int) := of_decide_eq_true h4
    refine wc_true rfl ?_
    refine wc_skip ?_
    refine we_then ?_
    refine wc_seq ?_
    refine wc_block ?_
    refine wc_seq ?_
    refine wc_region ?_
    refine wl_read (eaddr p (i * 3)) rfl (er_index i 3 (sl_old hS) rfl rfl rfl rfl (by omega) (flat_length (enc := sg) (size := 3) (fun _ => rfl) _) (by decide) Try.underlying32 (by kernel_rfl)) ?_
    simp only [Act.put, Xa, Xz, Xs]
    refine wl_read (.agg #[.int .i64 ((G[i]!).len), .slice ((G[i]!).pp) ((G[i]!).P.length) ((G[i]!).pc), .slice ((G[i]!).np) ((G[i]!).X.length) ((G[i]!).nc)]) rfl (er_part (i * 3) [.int .i64 ((G[i]!).len), .slice ((G[i]!).pp) ((G[i]!).P.length) ((G[i]!).pc), .slice ((G[i]!).np) ((G[i]!).X.length) ((G[i]!).nc)] (sl_old hS) rfl rfl (flat_part (enc := sg) (fun _ => rfl) G i (by omega)) (Nat.zero_lt_succ _) Try.underlying68 rfl (by kernel_rfl)) ?_
    simp only [Act.put, Xa, Xz, Xs]
    refine wl_new 68 (#[.int .i64 0, .slice none 0 0, .slice none 0 0]) rfl (fun _ => by go_simp) ?_
    intro g10
    simp only [Act.put, Xa, Xz, Xs]
    refine wl_store 0 68 (.tmp 8) (.tmp 27) (#[.int .i64 ((G[i]!).len), .slice ((G[i]!).pp) ((G[i]!).P.length) ((G[i]!).pc), .slice ((G[i]!).np) ((G[i]!).X.length) ((G[i]!).nc)]) rfl rfl rfl rfl rfl (by kernel_rfl) rfl (by simp [Value.oneCell']) ?_
    simp only [Act.put, List.set_cons_zero]
    refine wl_nil ?_
    refine we_then ?_
    refine wc_seq ?_
    have fs := sg_at hG (show i < G.length by omega)
    have f1 := fs.fewP
    have f2 := fs.fewX
    refine wc_region ?_
    refine wl_val (.pointer (some ⟨g10, 1, none⟩)) rfl (fun _ => by go_simp) ?_
    simp only [Act.put, Xa, Xz, Xs]
    refine wl_cell 66 (.tmp 28) (.slice ((G[i]!).pp) ((G[i]!).P.length) ((G[i]!).pc)) (own_row 0 rfl) rfl rfl rfl rfl Try.isAgg66 ?_
    simp only [Act.put, Xa, Xz, Xs]
    refine wl_val (.int .i64 (((G[i]!).P.length : Nat) : Int)) rfl (fun w => er_len rfl rfl Try.underlying66 w) ?_
    simp only [Act.put, Xa, Xz, Xs]
    refine wl_val (.bool (decide (100 < (((G[i]!).P.length : Nat) : Int)))) rfl (fun w => run_cmp rfl rfl rfl Try.underlying3 rfl w) ?_
    simp only [Act.put, Xa, Xz, Xs]
    refine wl_val (.bool (decide (100 < (((G[i]!).P.length : Nat) : Int)))) rfl (fun _ => rfl) ?_
    simp only [Act.put, Xa, Xz, Xs]
    cases h11 : (decide (100 < (((G[i]!).P.length : Nat) : Int)))
    ·
     skip
     have p11 : ¬ (100 < (((G[i]!).P.length : Nat) : Int)) := of_decide_eq_false h11
     refine wl_val (.pointer (some ⟨g10, 2, none⟩)) rfl (fun _ => by go_simp) ?_
     simp only [Act.put, Xa, Xz, Xs]
     refine wl_cell 58 (.tmp 33) (.slice ((G[i]!).np) ((G[i]!).X.length) ((G[i]!).nc)) (own_row 0 rfl) rfl rfl rfl rfl Try.isAgg58 ?_
     simp only [Act.put, Xa, Xz, Xs]
     refine wl_val (.int .i64 (((G[i]!).X.length : Nat) : Int)) rfl (fun w => er_len rfl rfl Try.underlying58 w) ?_
     simp only [Act.put, Xa, Xz, Xs]
     refine wl_val (.bool (decide (3 < (((G[i]!).X.length : Nat) : Int)))) rfl (fun w => run_cmp rfl rfl rfl Try.underlying3 rfl w) ?_
     simp only [Act.put, Xa, Xz, Xs]
     refine wl_val (.bool (decide (3 < (((G[i]!).X.length : Nat) : Int)))) rfl (fun _ => rfl) ?_
     simp only [Act.put, Xa, Xz, Xs]
     refine wl_nil ?_
     refine we_then ?_
     cases h12 : (decide (3 < (((G[i]!).X.length : Nat) : Int)))
     ·
      skip
      have p12 : ¬ (3 < (((G[i]!).X.length : Nat) : Int)) := of_decide_eq_false h12
      refine wc_false rfl ?_
      refine wc_skip ?_
      refine we_in ?_
      refine we_then ?_
      refine wc_region ?_
      refine wl_val (.int .i64 ((i + 1 : Nat) : Int)) rfl (fun w => run_nat (X := i) (Y := 1) (Z := i + 1) rfl rfl rfl rfl (by omega) w) ?_
      simp only [Act.put, Xa, Xz, Xs]
      refine wl_val (.int .i64 ((i + 1 : Nat) : Int)) rfl (fun _ => rfl) ?_
      simp only [Act.put, Xa, Xz, Xs]
      refine wl_nil ?_
      exact we_meet ⟨(i + 1), _, _, _, _, _, _, _, _, _, _, _, _, _, _, _, _⟩ ⟨⟨by (try dsimp only); omega, fun j hj => by rcases Nat.lt_or_eq_of_le (Nat.le_of_lt_succ hj) with h | h; exact b2 j h; subst h; exact ⟨by omega, by omega⟩⟩, by (try dsimp only); omega⟩ rfl (List.Sublist.cons _ (List.Sublist.cons_cons _ List.Sublist.slnil))
     ·
      skip
      have p12 : 3 < (((G[i]!).X.length : Nat) : Int) := of_decide_eq_true h12
      refine wc_true rfl ?_
      refine wc_seq ?_
      refine wc_region ?_
      refine wl_val (.bool false) rfl (fun _ => rfl) ?_
      simp only [Act.put, Xa, Xz, Xs]
      refine wl_nil ?_
      refine we_then ?_
      refine wc_ret ?_
      refine we_in_ret ?_
      refine we_then_ret ?_
      refine we_then_ret ?_
      refine we_in_ret ?_
      refine we_then_ret ?_
      refine we_ret1 (.bool false) rfl rfl rfl (fun w1 hE => ?_)
      rw [mayT_no (fun k => by have k1 := (k.1.segs i (by omega)).may.few; have k2 := (k.1.segs i (by omega)).two; omega)]
      exact ⟨rfl, hE.below⟩
    ·
     skip
     have p11 : 100 < (((G[i]!).P.length : Nat) : Int) := of_decide_eq_true h11
     refine wl_skip rfl ?_
     simp only [Act.put, Xa, Xz, Xs]
     refine wl_skip rfl ?_
     simp only [Act.put, Xa, Xz, Xs]
     refine wl_skip rfl ?_
     simp only [Act.put, Xa, Xz, Xs]
     refine wl_skip rfl ?_
     simp only [Act.put, Xa, Xz, Xs]
     refine wl_val (.bool true) rfl (fun _ => rfl) ?_
     simp only [Act.put, Xa, Xz, Xs]
     refine wl_nil ?_
     refine we_then ?_
     refine wc_true rfl ?_
     refine wc_seq ?_
     refine wc_region ?_
     refine wl_val (.bool false) rfl (fun _ => rfl) ?_
     simp only [Act.put, Xa, Xz, Xs]
     refine wl_nil ?_
     refine we_then ?_
     refine wc_ret ?_
     refine we_in_ret ?_
     refine we_then_ret ?_
     refine we_then_ret ?_
     refine we_in_ret ?_
     refine we_then_ret ?_
     refine we_ret1 (.bool false) rfl rfl rfl (fun w1 hE => ?_)
     rw [mayT_no (fun k => by have k1 := (k.1.segs i (by omega)).may.few; have k2 := (k.1.segs i (by omega)).two; omega)]
     exact ⟨rfl, hE.below⟩
  ·
   skip
   have p3 : 500 < (H.length : Int) := of_decide_eq_true h3
   refine wc_true rfl ?_
   refine wc_seq ?_
   refine wc_region ?_
   refine wl_val (.bool false) rfl (fun _ => rfl) ?_
   simp only [Act.put, Xa, Xz, Xs]
   refine wl_nil ?_
   refine we_then ?_
   refine wc_ret ?_
   refine we_then_ret ?_
   refine we_ret1 (.bool false) rfl rfl rfl (fun w1 hE => ?_)
   rw [mayT_no (fun k => by have k1 := k.1.sizes.2.1; have k2 := k.1.sizes.2.2; omega)]
   exact ⟨rfl, hE.below⟩
 ·
  skip
  have p2 : 300 < (G.length : Int) := of_decide_eq_true h2
  refine wl_skip rfl ?_
  simp only [Act.put, Xa, Xz, Xs]
  refine wl_skip rfl ?_
  simp only [Act.put, Xa, Xz, Xs]
  refine wl_skip rfl ?_
  simp only [Act.put, Xa, Xz, Xs]
  refine wl_skip rfl ?_
  simp only [Act.put, Xa, Xz, Xs]
  refine wl_val (.bool true) rfl (fun _ => rfl) ?_
  simp only [Act.put, Xa, Xz, Xs]
  refine wl_nil ?_
  refine we_then ?_
  refine wc_true rfl ?_
  refine wc_seq ?_
  refine wc_region ?_
  refine wl_val (.bool false) rfl (fun _ => rfl) ?_
  simp only [Act.put, Xa, Xz, Xs]
  refine wl_nil ?_
  refine we_then ?_
  refine wc_ret ?_
  refine we_then_ret ?_
  refine we_ret1 (.bool false) rfl rfl rfl (fun w1 hE => ?_)
  rw [mayT_no (fun k => by have k1 := k.1.sizes.2.1; have k2 := k.1.sizes.2.2; omega)]
  exact ⟨rfl, hE.below⟩
end Go.Proofs.Ytjbhlcklgmgdpaa.Lkla
