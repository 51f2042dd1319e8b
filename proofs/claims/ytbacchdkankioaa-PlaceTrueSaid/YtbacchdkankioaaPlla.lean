/-
 The laws of layer 21: their helpers refs, may and same. Condition: at most 2^47 of each.
-/
import Derived.Test.YtbacchdkankioaaMrl
import Derived.Test.YtbacchdkankioaaMkr
import Derived.Test.YtbacchdkankioaaRtref
import Derived.Test.YtbacchdkankioaaCfref
import Derived.Test.YtbacchdkankioaaPlm
import Derived.Test.YtbacchdkankioaaMro
import Derived.Test.YtbacchdkankioaaMsf
namespace Go.Proofs.Ytbacchdkankioaa.Plla
open Go.ChangeShapes Go.WideShapes Go.ChangeAt Go.RowKit
open Arr Steady Sx Sw Sl Sb Sc Si Sj Sk Sh Vs Gr Tk Tkh Tkl Rt Rtm Rtg Rtp Rtk Rts Rtsm Shh Sfn Cf Plm Tkrefs21 Rtla
set_option linter.unusedVariables false
set_option linter.unusedSimpArgs false
set_option maxRecDepth 100000

theorem refs_open21 (G : List Sg) (H : List Gp) (p q : Option Addr) (c d : Nat) (w : World) (hS : Reads w p (flat sg G)) (hG : OkS w G) (hH : Reads w q (flat gp H)) (hn : G.length + H.length ≤ 800) (hf : ∀ j, j < G.length → (G[j]!).P.length ≤ 100 ∧ (G[j]!).X.length ≤ 100) :
  Calls Try.prog 11 #[.agg #[.slice p G.length c, .slice q H.length d]] w fun e w' => ∃ z : Cp, CpOk G H z ∧ e = .returned (.agg #[.slice z.p z.K.length z.c, .slice z.q H.length z.d]) ∧ Env w w' z.N := by
 refine (Tkrefs21.refs_any G H p q c d w hS hG hH hn hf).mono ?_
 rintro e w' ⟨K, s, v, M, h1, h2, h3, h4, rfl, h6⟩
 refine ⟨⟨K, s.ptr, s.cap, v.ptr, v.cap, s.rows 88 ++ (v.rows 84 ++ M)⟩, ⟨same_copy h1 h4, (held_own h2).mono (List.sublist_append_left _ _), (held_own h3).mono ((List.sublist_append_left _ _).trans (List.sublist_append_right _ _)), fun w0 W hO hE => ?_⟩, by rw [h1], h6⟩
 exact oks_copy hO h1 h4 (hE.sub ((List.sublist_append_right _ _).trans (List.sublist_append_right _ _)))
/-- May a configuration and a track be, and a group. -/
def MayP (k : Cf) (G : List Sg) (H : List Gp) (gi : Int) : Prop := wrong k = 0 ∧ TrackMay G H ∧ 0 ≤ gi ∧ gi < H.length
noncomputable def mayP (k : Cf) (G : List Sg) (H : List Gp) (gi : Int) : Bool := @decide (MayP k G H gi) (Classical.propDecidable _)
theorem mayP_yes {k : Cf} {G : List Sg} {H : List Gp} {gi : Int} (h : MayP k G H gi) : mayP k G H gi = true := by unfold mayP; exact @decide_eq_true _ (Classical.propDecidable _) h
theorem mayP_no {k : Cf} {G : List Sg} {H : List Gp} {gi : Int} (h : ¬ MayP k G H gi) : mayP k G H gi = false := by unfold mayP; exact @decide_eq_false _ (Classical.propDecidable _) h
theorem mayP_of {k : Cf} {G : List Sg} {H : List Gp} {gi : Int} (h : mayP k G H gi = true) : MayP k G H gi := by unfold mayP at h; exact @of_decide_eq_true _ (Classical.propDecidable _) h
set_option maxHeartbeats 4000000 in
theorem may_any21 (k : Cf) (gi : Int) (G : List Sg) (H : List Gp) (p q : Option Addr) (c d : Nat) (w : World) (hS : Reads w p (flat sg G)) (hG : OkS w G) (hH : Reads w q (flat gp H)) (hn : G.length ≤ 140737488355328) (hm : H.length ≤ 140737488355328) :
  Calls Try.prog 6 #[.agg #[.int .i64 k.pu, .int .i64 k.lo, .int .i64 k.hi, .int .i64 k.rb, .int .i64 k.rp, .int .i64 k.ae, .int .i64 k.ms, .int .i64 k.ma, .int .i64 k.an, .int .i64 k.st, .int .i64 k.ss, .int .i64 k.ro, .int .i64 k.ti, .int .i64 k.br], .agg #[.slice p G.length c, .slice q H.length d], .int .i64 gi] w fun e w' => e = .returned (.bool (mayP k G H gi)) ∧ Below w.heap.size w w' := by
 refine calls_sx Try.func6 rfl ?_
 simp only [Try.ntmps6, List.size_toArray, List.length_cons, List.length_nil, Nat.reduceAdd, Nat.reduceSub, Array.replicate_succ, Array.replicate_zero, List.push_toArray, List.append_toArray, List.nil_append, List.cons_append]
 refine wc_seq ?_
 refine wc_region ?_
 refine wl_new 23 (#[.int .i64 k.pu, .int .i64 k.lo, .int .i64 k.hi, .int .i64 k.rb, .int .i64 k.rp, .int .i64 k.ae, .int .i64 k.ms, .int .i64 k.ma, .int .i64 k.an, .int .i64 k.st, .int .i64 k.ss, .int .i64 k.ro, .int .i64 k.ti, .int .i64 k.br]) rfl (fun _ => by go_simp) ?_
 intro g1
 simp only [Act.put, Xa, Xz, Xs]
 refine wl_new 27 (#[.slice p G.length c, .slice q H.length d]) rfl (fun _ => by go_simp) ?_
 intro g2
 simp only [Act.put, Xa, Xz, Xs]
 refine wl_val (.bool false) rfl (fun _ => rfl) ?_
 simp only [Act.put, Xa, Xz, Xs]
 refine wl_nil ?_
 refine we_then ?_
 refine wc_seq ?_
 refine wc_seq ?_
 refine wc_region ?_
 refine wl_load 23 (.tmp 3) (own_row 1 rfl) rfl rfl rfl Try.underlying23 rfl (by kernel_rfl) ?_
 simp only [Act.put, Xa, Xz, Xs]
 refine wl_call 18 #[.agg #[.int .i64 k.pu, .int .i64 k.lo, .int .i64 k.hi, .int .i64 k.rb, .int .i64 k.rp, .int .i64 k.ae, .int .i64 k.ms, .int .i64 k.ma, .int .i64 k.an, .int .i64 k.st, .int .i64 k.ss, .int .i64 k.ro, .int .i64 k.ti, .int .i64 k.br]] (.int .i64 ((wrong k : Nat) : Int)) rfl (fun _ => by go_simp) (fun W => Cfref.wrong_any k W) ?_
 simp only [Act.put, Xa, Xz, Xs]
 refine wl_val (.bool (((wrong k : Nat) : Int) != 0)) rfl (fun w => run_cmp rfl rfl rfl Try.underlying3 rfl w) ?_
 simp only [Act.put, Xa, Xz, Xs]
 refine wl_val (.bool (((wrong k : Nat) : Int) != 0)) rfl (fun _ => rfl) ?_
 simp only [Act.put, Xa, Xz, Xs]
 cases h3 : (((wrong k : Nat) : Int) != 0)
 ·
  skip
  have p3 : ¬ (((wrong k : Nat) : Int) ≠ 0) := by first | (simp; done) | (simp at h3; done) | simpa using h3
  refine wl_val (.pointer (some ⟨g2, 0, none⟩)) rfl (fun _ => by go_simp) ?_
  simp only [Act.put, Xa, Xz, Xs]
  refine wl_cell 24 (.tmp 15) (.slice p G.length c) (own_row 0 rfl) rfl rfl rfl rfl Try.isAgg24 ?_
  simp only [Act.put, Xa, Xz, Xs]
  refine wl_val (.int .i64 (G.length : Int)) rfl (fun w => er_len rfl rfl Try.underlying24 w) ?_
  simp only [Act.put, Xa, Xz, Xs]
  refine wl_val (.bool (decide (300 < (G.length : Int)))) rfl (fun w => run_cmp rfl rfl rfl Try.underlying3 rfl w) ?_
  simp only [Act.put, Xa, Xz, Xs]
  refine wl_val (.bool (decide (300 < (G.length : Int)))) rfl (fun _ => rfl) ?_
  simp only [Act.put, Xa, Xz, Xs]
  refine wl_val (.bool (decide (300 < (G.length : Int)))) rfl (fun _ => rfl) ?_
  simp only [Act.put, Xa, Xz, Xs]
  cases h4 : (decide (300 < (G.length : Int)))
  ·
   skip
   have p4 : ¬ (300 < (G.length : Int)) := of_decide_eq_false h4
   refine wl_val (.pointer (some ⟨g2, 1, none⟩)) rfl (fun _ => by go_simp) ?_
   simp only [Act.put, Xa, Xz, Xs]
   refine wl_cell 25 (.tmp 21) (.slice q H.length d) (own_row 0 rfl) rfl rfl rfl rfl Try.isAgg25 ?_
   simp only [Act.put, Xa, Xz, Xs]
   refine wl_val (.int .i64 (H.length : Int)) rfl (fun w => er_len rfl rfl Try.underlying25 w) ?_
   simp only [Act.put, Xa, Xz, Xs]
   refine wl_val (.bool (decide (500 < (H.length : Int)))) rfl (fun w => run_cmp rfl rfl rfl Try.underlying3 rfl w) ?_
   simp only [Act.put, Xa, Xz, Xs]
   refine wl_val (.bool (decide (500 < (H.length : Int)))) rfl (fun _ => rfl) ?_
   simp only [Act.put, Xa, Xz, Xs]
   refine wl_nil ?_
   refine we_then ?_
   cases h5 : (decide (500 < (H.length : Int)))
   ·
    skip
    have p5 : ¬ (500 < (H.length : Int)) := of_decide_eq_false h5
    refine wc_false rfl ?_
    refine wc_skip ?_
    refine we_then ?_
    refine wc_seq ?_
    refine wc_seq ?_
    refine wc_region ?_
    refine wl_val (.pointer (some ⟨g2, 0, none⟩)) rfl (fun _ => by go_simp) ?_
    simp only [Act.put, Xa, Xz, Xs]
    refine wl_cell 24 (.tmp 26) (.slice p G.length c) (own_row 0 rfl) rfl rfl rfl rfl Try.isAgg24 ?_
    simp only [Act.put, Xa, Xz, Xs]
    refine wl_val (.int .i64 (G.length : Int)) rfl (fun w => er_len rfl rfl Try.underlying24 w) ?_
    simp only [Act.put, Xa, Xz, Xs]
    refine wl_val (.int .i64 0) rfl (fun _ => rfl) ?_
    simp only [Act.put, Xa, Xz, Xs]
    refine wl_nil ?_
    refine we_then ?_
    refine wc_block ?_
    refine wc_loop (fun (zz : Nat × Value × Value × Value × Value × Value × Value × Value × Value × Value × Value × Value × Value × Value × Value × Value × Value) => match zz with | ⟨i, u6, u8, u30, u31, u32, u33, u34, u35, u36, u37, u38, u39, u40, u41, u42, u43⟩ => ({ tmps := #[.agg #[.int .i64 k.pu, .int .i64 k.lo, .int .i64 k.hi, .int .i64 k.rb, .int .i64 k.rp, .int .i64 k.ae, .int .i64 k.ms, .int .i64 k.ma, .int .i64 k.an, .int .i64 k.st, .int .i64 k.ss, .int .i64 k.ro, .int .i64 k.ti, .int .i64 k.br], .agg #[.slice p G.length c, .slice q H.length d], .int .i64 gi, .pointer (some ⟨g1, 0, none⟩), .pointer (some ⟨g2, 0, none⟩), undef, u6, undef, u8, undef, undef, .agg #[.int .i64 k.pu, .int .i64 k.lo, .int .i64 k.hi, .int .i64 k.rb, .int .i64 k.rp, .int .i64 k.ae, .int .i64 k.ms, .int .i64 k.ma, .int .i64 k.an, .int .i64 k.st, .int .i64 k.ss, .int .i64 k.ro, .int .i64 k.ti, .int .i64 k.br], .int .i64 ((wrong k : Nat) : Int), .bool false, .bool false, .pointer (some ⟨g2, 0, none⟩), .slice p G.length c, .int .i64 (G.length : Int), .bool false, .bool false, .bool false, .pointer (some ⟨g2, 1, none⟩), .slice q H.length d, .int .i64 (H.length : Int), .bool false, .bool false, .pointer (some ⟨g2, 0, none⟩), .slice p G.length c, .int .i64 (G.length : Int), .int .i64 (i : Int), u30, u31, u32, u33, u34, u35, u36, u37, u38, u39, u40, u41, u42, u43, undef, undef, undef, undef, undef, undef, undef, undef, undef, undef, undef, undef, undef, undef, undef, undef, undef, undef, undef], defers := [] } : Act)) (fun (zz : Nat × Value × Value × Value × Value × Value × Value × Value × Value × Value × Value × Value × Value × Value × Value × Value × Value) => match zz with | ⟨i, u6, u8, u30, u31, u32, u33, u34, u35, u36, u37, u38, u39, u40, u41, u42, u43⟩ => [⟨g2, #[.slice p G.length c, .slice q H.length d], 27⟩, ⟨g1, #[.int .i64 k.pu, .int .i64 k.lo, .int .i64 k.hi, .int .i64 k.rb, .int .i64 k.rp, .int .i64 k.ae, .int .i64 k.ms, .int .i64 k.ma, .int .i64 k.an, .int .i64 k.st, .int .i64 k.ss, .int .i64 k.ro, .int .i64 k.ti, .int .i64 k.br], 23⟩]) (fun (zz : Nat × Value × Value × Value × Value × Value × Value × Value × Value × Value × Value × Value × Value × Value × Value × Value × Value) => match zz with | ⟨i, u6, u8, u30, u31, u32, u33, u34, u35, u36, u37, u38, u39, u40, u41, u42, u43⟩ => i ≤ G.length ∧ ∀ j, j < i → (G[j]!).P.length ≤ 100 ∧ (G[j]!).X.length ≤ 100) (fun (zz : Nat × Value × Value × Value × Value × Value × Value × Value × Value × Value × Value × Value × Value × Value × Value × Value × Value) => match zz with | ⟨i, u6, u8, u30, u31, u32, u33, u34, u35, u36, u37, u38, u39, u40, u41, u42, u43⟩ => G.length - i) ⟨0, _, _, _, _, _, _, _, _, _, _, _, _, _, _, _, _⟩ ⟨Nat.zero_le _, fun j hj => absurd hj (Nat.not_lt_zero j)⟩ rfl (List.Sublist.cons_cons _ (List.Sublist.cons_cons _ List.Sublist.slnil)) ?_
    rintro ⟨i, u6, u8, u30, u31, u32, u33, u34, u35, u36, u37, u38, u39, u40, u41, u42, u43⟩ hφ
    (try dsimp only at hφ ⊢)
    obtain ⟨b1, b2⟩ := hφ
    refine wc_seq ?_
    refine wc_region ?_
    refine wl_val (.bool (decide ((i : Int) < (G.length : Int)))) rfl (fun w => run_cmp rfl rfl rfl Try.underlying3 rfl w) ?_
    simp only [Act.put, Xa, Xz, Xs]
    refine wl_nil ?_
    refine we_then ?_
    refine wc_seq ?_
    cases h6 : (decide ((i : Int) < (G.length : Int)))
    ·
     skip
     have p6 : ¬ ((i : Int) < (G.length : Int)) := of_decide_eq_false h6
     refine wc_false rfl ?_
     refine wc_exit ?_
     refine we_then_exit ?_
     refine we_then_exit ?_
     refine we_in_here ?_
     refine we_then ?_
     refine wc_seq ?_
     have fw : ∀ j, j < G.length → (G[j]!).P.length ≤ 100 ∧ (G[j]!).X.length ≤ 100 := fun j hj => b2 j (by omega)
     refine wc_region ?_
     refine wl_load 27 (.tmp 4) (own_row 0 rfl) rfl rfl rfl Try.underlying27 rfl (by kernel_rfl) ?_
     simp only [Act.put, Xa, Xz, Xs]
     refine wl_call_open (ι := Cp) (fun zz => match zz with | zk7 => ⟨g2, #[.slice p G.length c, .slice q H.length d], 27⟩ :: ⟨g1, #[.int .i64 k.pu, .int .i64 k.lo, .int .i64 k.hi, .int .i64 k.rb, .int .i64 k.rp, .int .i64 k.ae, .int .i64 k.ms, .int .i64 k.ma, .int .i64 k.an, .int .i64 k.st, .int .i64 k.ss, .int .i64 k.ro, .int .i64 k.ti, .int .i64 k.br], 23⟩ :: zk7.N) 11 #[.agg #[.slice p G.length c, .slice q H.length d]] (fun zz => match zz with | zk7 => .agg #[.slice zk7.p zk7.K.length zk7.c, .slice zk7.q H.length zk7.d]) (fun zz => match zz with | zk7 => zk7.N) (fun zz => match zz with | zk7 => CpOk G H zk7) (by rintro zk7; simp) rfl (fun _ => by go_simp) (fun W hE => refs_open21 G H _ _ _ _ W ((sl_old hS) W hE) (oks_below hG hE.below) ((sl_old hH) W hE) (by omega) fw) ?_
     rintro zk7 k7
     (try dsimp only)
     simp only [Act.put, Xa, Xz, Xs]
     refine wl_call_at 19 #[.agg #[.slice zk7.p zk7.K.length zk7.c, .slice zk7.q H.length zk7.d]] (.tuple #[.int .i64 (((chk G H).1 : Nat) : Int), .int .i64 (((chk G H).2 : Nat) : Int)]) rfl (fun _ => by go_simp) (fun W hE => by have x := Tkref.check_any zk7.K H _ _ zk7.c zk7.d W (held_at k7.segs (List.Sublist.cons _ (List.Sublist.cons _ (List.Sublist.refl _))) hE) (k7.ok _ _ hG (hE.sub (List.Sublist.cons _ (List.Sublist.cons _ (List.Sublist.refl _))))) (held_at k7.grps (List.Sublist.cons _ (List.Sublist.cons _ (List.Sublist.refl _))) hE) (by rw [k7.same.length]; omega) (by omega); rwa [chk_same k7.same] at x) ?_
     simp only [Act.put, Xa, Xz, Xs]
     refine wl_val (.tuple #[.int .i64 (((chk G H).1 : Nat) : Int), .int .i64 (((chk G H).2 : Nat) : Int)]) rfl (fun _ => rfl) ?_
     simp only [Act.put, Xa, Xz, Xs]
     refine wl_val (.int .i64 (((chk G H).1 : Nat) : Int)) rfl (fun _ => by go_simp) ?_
     simp only [Act.put, Xa, Xz, Xs]
     refine wl_val (.int .i64 (((chk G H).2 : Nat) : Int)) rfl (fun _ => by go_simp) ?_
     simp only [Act.put, Xa, Xz, Xs]
     refine wl_val (.int .i64 (((chk G H).1 : Nat) : Int)) rfl (fun _ => rfl) ?_
     simp only [Act.put, Xa, Xz, Xs]
     refine wl_val (.int .i64 (((chk G H).2 : Nat) : Int)) rfl (fun _ => rfl) ?_
     simp only [Act.put, Xa, Xz, Xs]
     refine wl_nil ?_
     refine we_then ?_
     refine wc_seq ?_
     refine wc_region ?_
     refine wl_val (.int .i64 (((chk G H).1 : Nat) : Int)) rfl (fun _ => rfl) ?_
     simp only [Act.put, Xa, Xz, Xs]
     refine wl_val (.bool ((((chk G H).1 : Nat) : Int) == 0)) rfl (fun w => run_cmp rfl rfl rfl Try.underlying3 rfl w) ?_
     simp only [Act.put, Xa, Xz, Xs]
     refine wl_val (.bool ((((chk G H).1 : Nat) : Int) == 0)) rfl (fun _ => rfl) ?_
     simp only [Act.put, Xa, Xz, Xs]
     cases h8 : ((((chk G H).1 : Nat) : Int) == 0)
     ·
      skip
      have p8 : ¬ ((((chk G H).1 : Nat) : Int) = 0) := by first | (simp; done) | (simp at h8; done) | simpa using h8
      refine wl_skip rfl ?_
      simp only [Act.put, Xa, Xz, Xs]
      refine wl_skip rfl ?_
      simp only [Act.put, Xa, Xz, Xs]
      refine wl_val (.bool false) rfl (fun _ => rfl) ?_
      simp only [Act.put, Xa, Xz, Xs]
      refine wl_val (.bool false) rfl (fun _ => rfl) ?_
      simp only [Act.put, Xa, Xz, Xs]
      refine wl_skip rfl ?_
      simp only [Act.put, Xa, Xz, Xs]
      refine wl_skip rfl ?_
      simp only [Act.put, Xa, Xz, Xs]
      refine wl_skip rfl ?_
      simp only [Act.put, Xa, Xz, Xs]
      refine wl_skip rfl ?_
      simp only [Act.put, Xa, Xz, Xs]
      refine wl_skip rfl ?_
      simp only [Act.put, Xa, Xz, Xs]
      refine wl_val (.bool false) rfl (fun _ => rfl) ?_
      simp only [Act.put, Xa, Xz, Xs]
      refine wl_val (.bool false) rfl (fun _ => rfl) ?_
      simp only [Act.put, Xa, Xz, Xs]
      refine wl_nil ?_
      refine we_then ?_
      refine wc_ret ?_
      refine we_ret1 (.bool false) rfl rfl rfl (fun w1 hE => ?_)
      rw [mayP_no (fun k => by have k1 := chk_may k.2.1; have k2 : (chk G H).1 = 0 := (by rw [k1]); omega)]
      exact ⟨rfl, hE.below⟩
     ·
      skip
      have p8 : (((chk G H).1 : Nat) : Int) = 0 := by first | (simp; done) | (simp at h8; done) | simpa using h8
      refine wl_val (.int .i64 gi) rfl (fun _ => rfl) ?_
      simp only [Act.put, Xa, Xz, Xs]
      refine wl_val (.bool (decide (0 ≤ gi))) rfl (fun w => run_cmp rfl rfl rfl Try.underlying3 rfl w) ?_
      simp only [Act.put, Xa, Xz, Xs]
      refine wl_val (.bool (decide (0 ≤ gi))) rfl (fun _ => rfl) ?_
      simp only [Act.put, Xa, Xz, Xs]
      refine wl_val (.bool (decide (0 ≤ gi))) rfl (fun _ => rfl) ?_
      simp only [Act.put, Xa, Xz, Xs]
      cases h9 : (decide (0 ≤ gi))
      ·
       skip
       have p9 : ¬ (0 ≤ gi) := of_decide_eq_false h9
       refine wl_skip rfl ?_
       simp only [Act.put, Xa, Xz, Xs]
       refine wl_skip rfl ?_
       simp only [Act.put, Xa, Xz, Xs]
       refine wl_skip rfl ?_
       simp only [Act.put, Xa, Xz, Xs]
       refine wl_skip rfl ?_
       simp only [Act.put, Xa, Xz, Xs]
       refine wl_skip rfl ?_
       simp only [Act.put, Xa, Xz, Xs]
       refine wl_val (.bool false) rfl (fun _ => rfl) ?_
       simp only [Act.put, Xa, Xz, Xs]
       refine wl_val (.bool false) rfl (fun _ => rfl) ?_
       simp only [Act.put, Xa, Xz, Xs]
       refine wl_nil ?_
       refine we_then ?_
       refine wc_ret ?_
       refine we_ret1 (.bool false) rfl rfl rfl (fun w1 hE => ?_)
       rw [mayP_no (fun k => by have k1 := k.2.2.1; omega)]
       exact ⟨rfl, hE.below⟩
      ·
       skip
       have p9 : 0 ≤ gi := of_decide_eq_true h9
       refine wl_val (.int .i64 gi) rfl (fun _ => rfl) ?_
       simp only [Act.put, Xa, Xz, Xs]
       refine wl_val (.pointer (some ⟨g2, 1, none⟩)) rfl (fun _ => by go_simp) ?_
       simp only [Act.put, Xa, Xz, Xs]
       refine wl_cell 25 (.tmp 58) (.slice q H.length d) (own_row 0 rfl) rfl rfl rfl rfl Try.isAgg25 ?_
       simp only [Act.put, Xa, Xz, Xs]
       refine wl_val (.int .i64 (H.length : Int)) rfl (fun w => er_len rfl rfl Try.underlying25 w) ?_
       simp only [Act.put, Xa, Xz, Xs]
       refine wl_val (.bool (decide (gi < (H.length : Int)))) rfl (fun w => run_cmp rfl rfl rfl Try.underlying3 rfl w) ?_
       simp only [Act.put, Xa, Xz, Xs]
       refine wl_val (.bool (decide (gi < (H.length : Int)))) rfl (fun _ => rfl) ?_
       simp only [Act.put, Xa, Xz, Xs]
       refine wl_val (.bool (decide (gi < (H.length : Int)))) rfl (fun _ => rfl) ?_
       simp only [Act.put, Xa, Xz, Xs]
       refine wl_nil ?_
       refine we_then ?_
       refine wc_ret ?_
       refine we_ret1 (.bool (decide (gi < (H.length : Int)))) rfl rfl rfl (fun w1 hE => ?_)
       have hc := may_of_chk (G := G) (H := H) (by omega)
       have e0 : mayP k G H gi = (decide (gi < (H.length : Int))) := by
        by_cases h0 : gi < (H.length : Int)
        ·
         rw [mayP_yes ⟨by omega, hc, by omega, h0⟩]; exact (decide_eq_true h0).symm
        ·
         rw [mayP_no (fun k => h0 k.2.2.2)]; exact (decide_eq_false h0).symm
       exact ⟨by rw [e0], hE.below⟩
    ·
     skip
     have p6 : (i : Int) < (G.length : Int) := of_decide_eq_true h6
     refine wc_true rfl ?_
     refine wc_skip ?_
     refine we_then ?_
     refine wc_seq ?_
     refine wc_block ?_
     refine wc_seq ?_
     refine wc_region ?_
     refine wl_read (eaddr p (i * 3)) rfl (er_index i 3 (sl_old hS) rfl rfl rfl rfl (by omega) (flat_length (enc := sg) (size := 3) (fun _ => rfl) _) (by decide) Try.underlying24 (by kernel_rfl)) ?_
     simp only [Act.put, Xa, Xz, Xs]
     refine wl_read (.agg #[.int .i64 ((G[i]!).len), .slice ((G[i]!).pp) ((G[i]!).P.length) ((G[i]!).pc), .slice ((G[i]!).np) ((G[i]!).X.length) ((G[i]!).nc)]) rfl (er_part (i * 3) [.int .i64 ((G[i]!).len), .slice ((G[i]!).pp) ((G[i]!).P.length) ((G[i]!).pc), .slice ((G[i]!).np) ((G[i]!).X.length) ((G[i]!).nc)] (sl_old hS) rfl rfl (flat_part (enc := sg) (fun _ => rfl) G i (by omega)) (Nat.zero_lt_succ _) Try.underlying66 rfl (by kernel_rfl)) ?_
     simp only [Act.put, Xa, Xz, Xs]
     refine wl_new 66 (#[.int .i64 0, .slice none 0 0, .slice none 0 0]) rfl (fun _ => by go_simp) ?_
     intro g10
     simp only [Act.put, Xa, Xz, Xs]
     refine wl_store 0 66 (.tmp 8) (.tmp 32) (#[.int .i64 ((G[i]!).len), .slice ((G[i]!).pp) ((G[i]!).P.length) ((G[i]!).pc), .slice ((G[i]!).np) ((G[i]!).X.length) ((G[i]!).nc)]) rfl rfl rfl rfl rfl (by kernel_rfl) rfl (by simp [Value.oneCell']) ?_
     simp only [Act.put, List.set_cons_zero]
     refine wl_nil ?_
     refine we_then ?_
     refine wc_seq ?_
     have fs := sg_at hG (show i < G.length by omega)
     have f1 := fs.fewP
     have f2 := fs.fewX
     refine wc_region ?_
     refine wl_val (.pointer (some ⟨g10, 1, none⟩)) rfl (fun _ => by go_simp) ?_
     simp only [Act.put, Xa, Xz, Xs]
     refine wl_cell 64 (.tmp 33) (.slice ((G[i]!).pp) ((G[i]!).P.length) ((G[i]!).pc)) (own_row 0 rfl) rfl rfl rfl rfl Try.isAgg64 ?_
     simp only [Act.put, Xa, Xz, Xs]
     refine wl_val (.int .i64 (((G[i]!).P.length : Nat) : Int)) rfl (fun w => er_len rfl rfl Try.underlying64 w) ?_
     simp only [Act.put, Xa, Xz, Xs]
     refine wl_val (.bool (decide (100 < (((G[i]!).P.length : Nat) : Int)))) rfl (fun w => run_cmp rfl rfl rfl Try.underlying3 rfl w) ?_
     simp only [Act.put, Xa, Xz, Xs]
     refine wl_val (.bool (decide (100 < (((G[i]!).P.length : Nat) : Int)))) rfl (fun _ => rfl) ?_
     simp only [Act.put, Xa, Xz, Xs]
     cases h11 : (decide (100 < (((G[i]!).P.length : Nat) : Int)))
     ·
      skip
      have p11 : ¬ (100 < (((G[i]!).P.length : Nat) : Int)) := of_decide_eq_false h11
      refine wl_val (.pointer (some ⟨g10, 2, none⟩)) rfl (fun _ => by go_simp) ?_
      simp only [Act.put, Xa, Xz, Xs]
      refine wl_cell 63 (.tmp 38) (.slice ((G[i]!).np) ((G[i]!).X.length) ((G[i]!).nc)) (own_row 0 rfl) rfl rfl rfl rfl Try.isAgg63 ?_
      simp only [Act.put, Xa, Xz, Xs]
      refine wl_val (.int .i64 (((G[i]!).X.length : Nat) : Int)) rfl (fun w => er_len rfl rfl Try.underlying63 w) ?_
      simp only [Act.put, Xa, Xz, Xs]
      refine wl_val (.bool (decide (3 < (((G[i]!).X.length : Nat) : Int)))) rfl (fun w => run_cmp rfl rfl rfl Try.underlying3 rfl w) ?_
      simp only [Act.put, Xa, Xz, Xs]
      refine wl_val (.bool (decide (3 < (((G[i]!).X.length : Nat) : Int)))) rfl (fun _ => rfl) ?_
      simp only [Act.put, Xa, Xz, Xs]
      refine wl_nil ?_
      refine we_then ?_
      cases h12 : (decide (3 < (((G[i]!).X.length : Nat) : Int)))
      ·
       skip
       have p12 : ¬ (3 < (((G[i]!).X.length : Nat) : Int)) := of_decide_eq_false h12
       refine wc_false rfl ?_
       refine wc_skip ?_
       refine we_in ?_
       refine we_then ?_
       refine wc_region ?_
       refine wl_val (.int .i64 ((i + 1 : Nat) : Int)) rfl (fun w => run_nat (X := i) (Y := 1) (Z := i + 1) rfl rfl rfl rfl (by omega) w) ?_
       simp only [Act.put, Xa, Xz, Xs]
       refine wl_val (.int .i64 ((i + 1 : Nat) : Int)) rfl (fun _ => rfl) ?_
       simp only [Act.put, Xa, Xz, Xs]
       refine wl_nil ?_
       exact we_meet ⟨(i + 1), _, _, _, _, _, _, _, _, _, _, _, _, _, _, _, _⟩ ⟨⟨by (try dsimp only); omega, fun j hj => by rcases Nat.lt_or_eq_of_le (Nat.le_of_lt_succ hj) with h | h; exact b2 j h; subst h; exact ⟨by omega, by omega⟩⟩, by (try dsimp only); omega⟩ rfl (List.Sublist.cons _ (List.Sublist.cons_cons _ (List.Sublist.cons_cons _ List.Sublist.slnil)))
      ·
       skip
       have p12 : 3 < (((G[i]!).X.length : Nat) : Int) := of_decide_eq_true h12
       refine wc_true rfl ?_
       refine wc_seq ?_
       refine wc_region ?_
       refine wl_val (.bool false) rfl (fun _ => rfl) ?_
       simp only [Act.put, Xa, Xz, Xs]
       refine wl_nil ?_
       refine we_then ?_
       refine wc_ret ?_
       refine we_in_ret ?_
       refine we_then_ret ?_
       refine we_then_ret ?_
       refine we_in_ret ?_
       refine we_then_ret ?_
       refine we_ret1 (.bool false) rfl rfl rfl (fun w1 hE => ?_)
       rw [mayP_no (fun k => by have k1 := (k.2.1.segs i (by omega)).may.few; have k2 := (k.2.1.segs i (by omega)).two; omega)]
       exact ⟨rfl, hE.below⟩
     ·
      skip
      have p11 : 100 < (((G[i]!).P.length : Nat) : Int) := of_decide_eq_true h11
      refine wl_skip rfl ?_
      simp only [Act.put, Xa, Xz, Xs]
      refine wl_skip rfl ?_
      simp only [Act.put, Xa, Xz, Xs]
      refine wl_skip rfl ?_
      simp only [Act.put, Xa, Xz, Xs]
      refine wl_skip rfl ?_
      simp only [Act.put, Xa, Xz, Xs]
      refine wl_val (.bool true) rfl (fun _ => rfl) ?_
      simp only [Act.put, Xa, Xz, Xs]
      refine wl_nil ?_
      refine we_then ?_
      refine wc_true rfl ?_
      refine wc_seq ?_
      refine wc_region ?_
      refine wl_val (.bool false) rfl (fun _ => rfl) ?_
      simp only [Act.put, Xa, Xz, Xs]
      refine wl_nil ?_
      refine we_then ?_
      refine wc_ret ?_
      refine we_in_ret ?_
      refine we_then_ret ?_
      refine we_then_ret ?_
      refine we_in_ret ?_
      refine we_then_ret ?_
      refine we_ret1 (.bool false) rfl rfl rfl (fun w1 hE => ?_)
      rw [mayP_no (fun k => by have k1 := (k.2.1.segs i (by omega)).may.few; have k2 := (k.2.1.segs i (by omega)).two; omega)]
      exact ⟨rfl, hE.below⟩
   ·
    skip
    have p5 : 500 < (H.length : Int) := of_decide_eq_true h5
    refine wc_true rfl ?_
    refine wc_seq ?_
    refine wc_region ?_
    refine wl_val (.bool false) rfl (fun _ => rfl) ?_
    simp only [Act.put, Xa, Xz, Xs]
    refine wl_nil ?_
    refine we_then ?_
    refine wc_ret ?_
    refine we_then_ret ?_
    refine we_ret1 (.bool false) rfl rfl rfl (fun w1 hE => ?_)
    rw [mayP_no (fun k => by have k0 := k.1; have k1 := k.2.1.sizes.2.1; have k2 := k.2.1.sizes.2.2; omega)]
    exact ⟨rfl, hE.below⟩
  ·
   skip
   have p4 : 300 < (G.length : Int) := of_decide_eq_true h4
   refine wl_skip rfl ?_
   simp only [Act.put, Xa, Xz, Xs]
   refine wl_skip rfl ?_
   simp only [Act.put, Xa, Xz, Xs]
   refine wl_skip rfl ?_
   simp only [Act.put, Xa, Xz, Xs]
   refine wl_skip rfl ?_
   simp only [Act.put, Xa, Xz, Xs]
   refine wl_val (.bool true) rfl (fun _ => rfl) ?_
   simp only [Act.put, Xa, Xz, Xs]
   refine wl_nil ?_
   refine we_then ?_
   refine wc_true rfl ?_
   refine wc_seq ?_
   refine wc_region ?_
   refine wl_val (.bool false) rfl (fun _ => rfl) ?_
   simp only [Act.put, Xa, Xz, Xs]
   refine wl_nil ?_
   refine we_then ?_
   refine wc_ret ?_
   refine we_then_ret ?_
   refine we_ret1 (.bool false) rfl rfl rfl (fun w1 hE => ?_)
   rw [mayP_no (fun k => by have k0 := k.1; have k1 := k.2.1.sizes.2.1; have k2 := k.2.1.sizes.2.2; omega)]
   exact ⟨rfl, hE.below⟩
 ·
  skip
  have p3 : ((wrong k : Nat) : Int) ≠ 0 := by first | (simp; done) | (simp at h3; done) | simpa using h3
  refine wl_skip rfl ?_
  simp only [Act.put, Xa, Xz, Xs]
  refine wl_skip rfl ?_
  simp only [Act.put, Xa, Xz, Xs]
  refine wl_skip rfl ?_
  simp only [Act.put, Xa, Xz, Xs]
  refine wl_skip rfl ?_
  simp only [Act.put, Xa, Xz, Xs]
  refine wl_val (.bool true) rfl (fun _ => rfl) ?_
  simp only [Act.put, Xa, Xz, Xs]
  refine wl_val (.bool true) rfl (fun _ => rfl) ?_
  simp only [Act.put, Xa, Xz, Xs]
  refine wl_skip rfl ?_
  simp only [Act.put, Xa, Xz, Xs]
  refine wl_skip rfl ?_
  simp only [Act.put, Xa, Xz, Xs]
  refine wl_skip rfl ?_
  simp only [Act.put, Xa, Xz, Xs]
  refine wl_skip rfl ?_
  simp only [Act.put, Xa, Xz, Xs]
  refine wl_val (.bool true) rfl (fun _ => rfl) ?_
  simp only [Act.put, Xa, Xz, Xs]
  refine wl_nil ?_
  refine we_then ?_
  refine wc_true rfl ?_
  refine wc_seq ?_
  refine wc_region ?_
  refine wl_val (.bool false) rfl (fun _ => rfl) ?_
  simp only [Act.put, Xa, Xz, Xs]
  refine wl_nil ?_
  refine we_then ?_
  refine wc_ret ?_
  refine we_then_ret ?_
  refine we_ret1 (.bool false) rfl rfl rfl (fun w1 hE => ?_)
  rw [mayP_no (fun k => by have k0 := k.1; have k1 := k.2.1.sizes.2.1; have k2 := k.2.1.sizes.2.2; omega)]
  exact ⟨rfl, hE.below⟩
set_option maxHeartbeats 4000000 in
theorem same_in (G : List Sg) (O : List Ix) (n g0 a b m f : Int) (ps tp : Option Addr) (cs tc : Nat) (w : World) (hP : Reads w ps (flat rti O)) (hT : Reads w tp (flat ix O)) (hO : OkI w O) (hR : ∀ x ∈ O, RtOk G x.X) (hn : O.length ≤ 16) :
  Calls Try.prog 12 #[.agg #[.bool (n == 1), .int .i64 g0, .int .i64 a, .int .i64 b, .int .i64 m, .int .i64 f, .slice ps O.length cs], .agg #[.int .i64 n, .int .i64 g0, .int .i64 a, .int .i64 b, .int .i64 m, .int .i64 f, .slice tp O.length tc]] w fun e w' => e = .returned (.bool true) ∧ Below w.heap.size w w' := by
 refine calls_sx Try.func12 rfl ?_
 simp only [Try.ntmps12, List.size_toArray, List.length_cons, List.length_nil, Nat.reduceAdd, Nat.reduceSub, Array.replicate_succ, Array.replicate_zero, List.push_toArray, List.append_toArray, List.nil_append, List.cons_append]
 refine wc_seq ?_
 refine wc_region ?_
 refine wl_new 38 (#[.bool (n == 1), .int .i64 g0, .int .i64 a, .int .i64 b, .int .i64 m, .int .i64 f, .slice ps O.length cs]) rfl (fun _ => by go_simp) ?_
 intro g1
 simp only [Act.put, Xa, Xz, Xs]
 refine wl_new 44 (#[.int .i64 n, .int .i64 g0, .int .i64 a, .int .i64 b, .int .i64 m, .int .i64 f, .slice tp O.length tc]) rfl (fun _ => by go_simp) ?_
 intro g2
 simp only [Act.put, Xa, Xz, Xs]
 refine wl_val (.bool false) rfl (fun _ => rfl) ?_
 simp only [Act.put, Xa, Xz, Xs]
 refine wl_nil ?_
 refine we_then ?_
 refine wc_seq ?_
 refine wc_seq ?_
 refine wc_region ?_
 refine wl_val (.pointer (some ⟨g1, 0, none⟩)) rfl (fun _ => by go_simp) ?_
 simp only [Act.put, Xa, Xz, Xs]
 refine wl_cell 4 (.tmp 9) (.bool (n == 1)) (own_row 1 rfl) rfl rfl rfl rfl Try.isAgg4 ?_
 simp only [Act.put, Xa, Xz, Xs]
 refine wl_val (.pointer (some ⟨g2, 0, none⟩)) rfl (fun _ => by go_simp) ?_
 simp only [Act.put, Xa, Xz, Xs]
 refine wl_cell 3 (.tmp 11) (.int .i64 n) (own_row 0 rfl) rfl rfl rfl rfl Try.isAgg3 ?_
 simp only [Act.put, Xa, Xz, Xs]
 refine wl_val (.bool (n == 1)) rfl (fun w => run_cmp rfl rfl rfl Try.underlying3 rfl w) ?_
 simp only [Act.put, Xa, Xz, Xs]
 refine wl_val (.bool ((n == 1) != (n == 1))) rfl (fun w => run_bne rfl rfl rfl Try.underlying4 rfl w) ?_
 simp only [Act.put, Xa, Xz, Xs]
 refine wl_val (.bool ((n == 1) != (n == 1))) rfl (fun _ => rfl) ?_
 simp only [Act.put, Xa, Xz, Xs]
 cases h3 : (n == 1)
 ·
  skip
  have p3 : ¬ (n = 1) := by first | (simp; done) | (simp at h3; done) | simpa using h3
  refine wl_val (.pointer (some ⟨g1, 1, none⟩)) rfl (fun _ => by go_simp) ?_
  simp only [Act.put, Xa, Xz, Xs]
  refine wl_cell 3 (.tmp 16) (.int .i64 g0) (own_row 1 rfl) rfl rfl rfl rfl Try.isAgg3 ?_
  simp only [Act.put, Xa, Xz, Xs]
  refine wl_val (.pointer (some ⟨g2, 1, none⟩)) rfl (fun _ => by go_simp) ?_
  simp only [Act.put, Xa, Xz, Xs]
  refine wl_cell 3 (.tmp 18) (.int .i64 g0) (own_row 0 rfl) rfl rfl rfl rfl Try.isAgg3 ?_
  simp only [Act.put, Xa, Xz, Xs]
  refine wl_val (.bool false) rfl (fun w => run_cmp (b := false) rfl rfl rfl Try.underlying3 (by simp [cmpOf]) w) ?_
  simp only [Act.put, Xa, Xz, Xs]
  refine wl_val (.bool false) rfl (fun _ => rfl) ?_
  simp only [Act.put, Xa, Xz, Xs]
  refine wl_val (.bool false) rfl (fun _ => rfl) ?_
  simp only [Act.put, Xa, Xz, Xs]
  refine wl_val (.pointer (some ⟨g1, 2, none⟩)) rfl (fun _ => by go_simp) ?_
  simp only [Act.put, Xa, Xz, Xs]
  refine wl_val (.pointer (some ⟨g1, 2, none⟩)) rfl (fun _ => by go_simp) ?_
  simp only [Act.put, Xa, Xz, Xs]
  refine wl_cell 2 (.tmp 24) (.int .i64 a) (own_row 1 rfl) rfl rfl rfl rfl Try.isAgg2 ?_
  simp only [Act.put, Xa, Xz, Xs]
  refine wl_val (.pointer (some ⟨g2, 2, none⟩)) rfl (fun _ => by go_simp) ?_
  simp only [Act.put, Xa, Xz, Xs]
  refine wl_cell 2 (.tmp 26) (.int .i64 a) (own_row 0 rfl) rfl rfl rfl rfl Try.isAgg2 ?_
  simp only [Act.put, Xa, Xz, Xs]
  refine wl_val (.bool false) rfl (fun w => run_cmp (b := false) rfl rfl rfl Try.underlying2 (by simp [cmpOf]) w) ?_
  simp only [Act.put, Xa, Xz, Xs]
  refine wl_val (.bool false) rfl (fun _ => rfl) ?_
  simp only [Act.put, Xa, Xz, Xs]
  refine wl_val (.bool false) rfl (fun _ => rfl) ?_
  simp only [Act.put, Xa, Xz, Xs]
  refine wl_val (.pointer (some ⟨g1, 2, none⟩)) rfl (fun _ => by go_simp) ?_
  simp only [Act.put, Xa, Xz, Xs]
  refine wl_val (.pointer (some ⟨g1, 3, none⟩)) rfl (fun _ => by go_simp) ?_
  simp only [Act.put, Xa, Xz, Xs]
  refine wl_cell 2 (.tmp 32) (.int .i64 b) (own_row 1 rfl) rfl rfl rfl rfl Try.isAgg2 ?_
  simp only [Act.put, Xa, Xz, Xs]
  refine wl_val (.pointer (some ⟨g2, 3, none⟩)) rfl (fun _ => by go_simp) ?_
  simp only [Act.put, Xa, Xz, Xs]
  refine wl_cell 2 (.tmp 34) (.int .i64 b) (own_row 0 rfl) rfl rfl rfl rfl Try.isAgg2 ?_
  simp only [Act.put, Xa, Xz, Xs]
  refine wl_val (.bool false) rfl (fun w => run_cmp (b := false) rfl rfl rfl Try.underlying2 (by simp [cmpOf]) w) ?_
  simp only [Act.put, Xa, Xz, Xs]
  refine wl_val (.bool false) rfl (fun _ => rfl) ?_
  simp only [Act.put, Xa, Xz, Xs]
  refine wl_val (.bool false) rfl (fun _ => rfl) ?_
  simp only [Act.put, Xa, Xz, Xs]
  refine wl_val (.pointer (some ⟨g1, 4, none⟩)) rfl (fun _ => by go_simp) ?_
  simp only [Act.put, Xa, Xz, Xs]
  refine wl_cell 2 (.tmp 39) (.int .i64 m) (own_row 1 rfl) rfl rfl rfl rfl Try.isAgg2 ?_
  simp only [Act.put, Xa, Xz, Xs]
  refine wl_val (.pointer (some ⟨g2, 4, none⟩)) rfl (fun _ => by go_simp) ?_
  simp only [Act.put, Xa, Xz, Xs]
  refine wl_cell 2 (.tmp 41) (.int .i64 m) (own_row 0 rfl) rfl rfl rfl rfl Try.isAgg2 ?_
  simp only [Act.put, Xa, Xz, Xs]
  refine wl_val (.bool false) rfl (fun w => run_cmp (b := false) rfl rfl rfl Try.underlying2 (by simp [cmpOf]) w) ?_
  simp only [Act.put, Xa, Xz, Xs]
  refine wl_val (.bool false) rfl (fun _ => rfl) ?_
  simp only [Act.put, Xa, Xz, Xs]
  refine wl_val (.bool false) rfl (fun _ => rfl) ?_
  simp only [Act.put, Xa, Xz, Xs]
  refine wl_val (.pointer (some ⟨g1, 5, none⟩)) rfl (fun _ => by go_simp) ?_
  simp only [Act.put, Xa, Xz, Xs]
  refine wl_val (.pointer (some ⟨g1, 5, none⟩)) rfl (fun _ => by go_simp) ?_
  simp only [Act.put, Xa, Xz, Xs]
  refine wl_cell 2 (.tmp 47) (.int .i64 f) (own_row 1 rfl) rfl rfl rfl rfl Try.isAgg2 ?_
  simp only [Act.put, Xa, Xz, Xs]
  refine wl_val (.pointer (some ⟨g2, 5, none⟩)) rfl (fun _ => by go_simp) ?_
  simp only [Act.put, Xa, Xz, Xs]
  refine wl_val (.pointer (some ⟨g2, 5, none⟩)) rfl (fun _ => by go_simp) ?_
  simp only [Act.put, Xa, Xz, Xs]
  refine wl_cell 2 (.tmp 50) (.int .i64 f) (own_row 0 rfl) rfl rfl rfl rfl Try.isAgg2 ?_
  simp only [Act.put, Xa, Xz, Xs]
  refine wl_val (.bool false) rfl (fun w => run_cmp (b := false) rfl rfl rfl Try.underlying2 (by simp [cmpOf]) w) ?_
  simp only [Act.put, Xa, Xz, Xs]
  refine wl_val (.bool false) rfl (fun _ => rfl) ?_
  simp only [Act.put, Xa, Xz, Xs]
  refine wl_val (.bool false) rfl (fun _ => rfl) ?_
  simp only [Act.put, Xa, Xz, Xs]
  refine wl_val (.pointer (some ⟨g1, 5, none⟩)) rfl (fun _ => by go_simp) ?_
  simp only [Act.put, Xa, Xz, Xs]
  refine wl_val (.pointer (some ⟨g1, 6, none⟩)) rfl (fun _ => by go_simp) ?_
  simp only [Act.put, Xa, Xz, Xs]
  refine wl_cell 34 (.tmp 56) (.slice ps O.length cs) (own_row 1 rfl) rfl rfl rfl rfl Try.isAgg34 ?_
  simp only [Act.put, Xa, Xz, Xs]
  refine wl_val (.int .i64 (O.length : Int)) rfl (fun w => er_len rfl rfl Try.underlying34 w) ?_
  simp only [Act.put, Xa, Xz, Xs]
  refine wl_val (.pointer (some ⟨g2, 5, none⟩)) rfl (fun _ => by go_simp) ?_
  simp only [Act.put, Xa, Xz, Xs]
  refine wl_val (.pointer (some ⟨g2, 6, none⟩)) rfl (fun _ => by go_simp) ?_
  simp only [Act.put, Xa, Xz, Xs]
  refine wl_cell 40 (.tmp 60) (.slice tp O.length tc) (own_row 0 rfl) rfl rfl rfl rfl Try.isAgg40 ?_
  simp only [Act.put, Xa, Xz, Xs]
  refine wl_val (.int .i64 (O.length : Int)) rfl (fun w => er_len rfl rfl Try.underlying40 w) ?_
  simp only [Act.put, Xa, Xz, Xs]
  refine wl_val (.bool false) rfl (fun w => run_cmp (b := false) rfl rfl rfl Try.underlying3 (by simp [cmpOf]) w) ?_
  simp only [Act.put, Xa, Xz, Xs]
  refine wl_val (.bool false) rfl (fun _ => rfl) ?_
  simp only [Act.put, Xa, Xz, Xs]
  refine wl_nil ?_
  refine we_then ?_
  refine wc_false rfl ?_
  refine wc_skip ?_
  refine we_then ?_
  refine wc_seq ?_
  refine wc_seq ?_
  refine wc_region ?_
  refine wl_val (.pointer (some ⟨g1, 5, none⟩)) rfl (fun _ => by go_simp) ?_
  simp only [Act.put, Xa, Xz, Xs]
  refine wl_val (.pointer (some ⟨g1, 6, none⟩)) rfl (fun _ => by go_simp) ?_
  simp only [Act.put, Xa, Xz, Xs]
  refine wl_cell 34 (.tmp 66) (.slice ps O.length cs) (own_row 1 rfl) rfl rfl rfl rfl Try.isAgg34 ?_
  simp only [Act.put, Xa, Xz, Xs]
  refine wl_val (.int .i64 (O.length : Int)) rfl (fun w => er_len rfl rfl Try.underlying34 w) ?_
  simp only [Act.put, Xa, Xz, Xs]
  refine wl_val (.int .i64 0) rfl (fun _ => rfl) ?_
  simp only [Act.put, Xa, Xz, Xs]
  refine wl_nil ?_
  refine we_then ?_
  refine wc_block ?_
  refine wc_loop (fun (zz : Nat × Value × Value × Value × Value × Value × Value × Value × Value × Value × Value × Value × Value × Value × Value × Value × Value × Value × Value × Value × Value × Value × Value × Value × Value × Value × Value × Value × Value × Value × Value × Value × Value × Value × Value × Value × Value × Value × Value × Value × Value × Value × Value) => match zz with | ⟨i, u4, u5, u6, u7, u8, u70, u71, u72, u73, u74, u75, u76, u77, u78, u79, u80, u81, u82, u83, u84, u85, u86, u87, u88, u89, u90, u91, u92, u93, u94, u95, u96, u97, u98, u99, u100, u101, u102, u103, u104, u105, u106⟩ => ({ tmps := #[.agg #[.bool false, .int .i64 g0, .int .i64 a, .int .i64 b, .int .i64 m, .int .i64 f, .slice ps O.length cs], .agg #[.int .i64 n, .int .i64 g0, .int .i64 a, .int .i64 b, .int .i64 m, .int .i64 f, .slice tp O.length tc], .pointer (some ⟨g1, 0, none⟩), .pointer (some ⟨g2, 0, none⟩), u4, u5, u6, u7, u8, .pointer (some ⟨g1, 0, none⟩), .bool false, .pointer (some ⟨g2, 0, none⟩), .int .i64 n, .bool false, .bool (false != false), .bool (false != false), .pointer (some ⟨g1, 1, none⟩), .int .i64 g0, .pointer (some ⟨g2, 1, none⟩), .int .i64 g0, .bool false, .bool false, .bool false, .pointer (some ⟨g1, 2, none⟩), .pointer (some ⟨g1, 2, none⟩), .int .i64 a, .pointer (some ⟨g2, 2, none⟩), .int .i64 a, .bool false, .bool false, .bool false, .pointer (some ⟨g1, 2, none⟩), .pointer (some ⟨g1, 3, none⟩), .int .i64 b, .pointer (some ⟨g2, 3, none⟩), .int .i64 b, .bool false, .bool false, .bool false, .pointer (some ⟨g1, 4, none⟩), .int .i64 m, .pointer (some ⟨g2, 4, none⟩), .int .i64 m, .bool false, .bool false, .bool false, .pointer (some ⟨g1, 5, none⟩), .pointer (some ⟨g1, 5, none⟩), .int .i64 f, .pointer (some ⟨g2, 5, none⟩), .pointer (some ⟨g2, 5, none⟩), .int .i64 f, .bool false, .bool false, .bool false, .pointer (some ⟨g1, 5, none⟩), .pointer (some ⟨g1, 6, none⟩), .slice ps O.length cs, .int .i64 (O.length : Int), .pointer (some ⟨g2, 5, none⟩), .pointer (some ⟨g2, 6, none⟩), .slice tp O.length tc, .int .i64 (O.length : Int), .bool false, .bool false, .pointer (some ⟨g1, 5, none⟩), .pointer (some ⟨g1, 6, none⟩), .slice ps O.length cs, .int .i64 (O.length : Int), .int .i64 (i : Int), u70, u71, u72, u73, u74, u75, u76, u77, u78, u79, u80, u81, u82, u83, u84, u85, u86, u87, u88, u89, u90, u91, u92, u93, u94, u95, u96, u97, u98, u99, u100, u101, u102, u103, u104, u105, u106], defers := [] } : Act)) (fun (zz : Nat × Value × Value × Value × Value × Value × Value × Value × Value × Value × Value × Value × Value × Value × Value × Value × Value × Value × Value × Value × Value × Value × Value × Value × Value × Value × Value × Value × Value × Value × Value × Value × Value × Value × Value × Value × Value × Value × Value × Value × Value × Value × Value) => match zz with | ⟨i, u4, u5, u6, u7, u8, u70, u71, u72, u73, u74, u75, u76, u77, u78, u79, u80, u81, u82, u83, u84, u85, u86, u87, u88, u89, u90, u91, u92, u93, u94, u95, u96, u97, u98, u99, u100, u101, u102, u103, u104, u105, u106⟩ => [⟨g2, #[.int .i64 n, .int .i64 g0, .int .i64 a, .int .i64 b, .int .i64 m, .int .i64 f, .slice tp O.length tc], 44⟩, ⟨g1, #[.bool false, .int .i64 g0, .int .i64 a, .int .i64 b, .int .i64 m, .int .i64 f, .slice ps O.length cs], 38⟩]) (fun (zz : Nat × Value × Value × Value × Value × Value × Value × Value × Value × Value × Value × Value × Value × Value × Value × Value × Value × Value × Value × Value × Value × Value × Value × Value × Value × Value × Value × Value × Value × Value × Value × Value × Value × Value × Value × Value × Value × Value × Value × Value × Value × Value × Value) => match zz with | ⟨i, u4, u5, u6, u7, u8, u70, u71, u72, u73, u74, u75, u76, u77, u78, u79, u80, u81, u82, u83, u84, u85, u86, u87, u88, u89, u90, u91, u92, u93, u94, u95, u96, u97, u98, u99, u100, u101, u102, u103, u104, u105, u106⟩ => i ≤ O.length) (fun (zz : Nat × Value × Value × Value × Value × Value × Value × Value × Value × Value × Value × Value × Value × Value × Value × Value × Value × Value × Value × Value × Value × Value × Value × Value × Value × Value × Value × Value × Value × Value × Value × Value × Value × Value × Value × Value × Value × Value × Value × Value × Value × Value × Value) => match zz with | ⟨i, u4, u5, u6, u7, u8, u70, u71, u72, u73, u74, u75, u76, u77, u78, u79, u80, u81, u82, u83, u84, u85, u86, u87, u88, u89, u90, u91, u92, u93, u94, u95, u96, u97, u98, u99, u100, u101, u102, u103, u104, u105, u106⟩ => O.length - i) ⟨0, _, _, _, _, _, _, _, _, _, _, _, _, _, _, _, _, _, _, _, _, _, _, _, _, _, _, _, _, _, _, _, _, _, _, _, _, _, _, _, _, _, _⟩ (by (try dsimp only); exact Nat.zero_le _) rfl (List.Sublist.cons_cons _ (List.Sublist.cons_cons _ List.Sublist.slnil)) ?_
  rintro ⟨i, u4, u5, u6, u7, u8, u70, u71, u72, u73, u74, u75, u76, u77, u78, u79, u80, u81, u82, u83, u84, u85, u86, u87, u88, u89, u90, u91, u92, u93, u94, u95, u96, u97, u98, u99, u100, u101, u102, u103, u104, u105, u106⟩ hφ
  (try dsimp only at hφ ⊢)
  refine wc_seq ?_
  refine wc_region ?_
  refine wl_val (.bool (decide ((i : Int) < (O.length : Int)))) rfl (fun w => run_cmp rfl rfl rfl Try.underlying3 rfl w) ?_
  simp only [Act.put, Xa, Xz, Xs]
  refine wl_nil ?_
  refine we_then ?_
  refine wc_seq ?_
  cases h4 : (decide ((i : Int) < (O.length : Int)))
  ·
   skip
   have p4 : ¬ ((i : Int) < (O.length : Int)) := of_decide_eq_false h4
   refine wc_false rfl ?_
   refine wc_exit ?_
   refine we_then_exit ?_
   refine we_then_exit ?_
   refine we_in_here ?_
   refine we_then ?_
   refine wc_seq ?_
   refine wc_region ?_
   refine wl_val (.bool true) rfl (fun _ => rfl) ?_
   simp only [Act.put, Xa, Xz, Xs]
   refine wl_nil ?_
   refine we_then ?_
   refine wc_ret ?_
   refine we_ret1 (.bool true) rfl rfl rfl (fun w1 hE => ?_)
   exact ⟨rfl, hE.below⟩
  ·
   skip
   have p4 : (i : Int) < (O.length : Int) := of_decide_eq_true h4
   refine wc_true rfl ?_
   refine wc_skip ?_
   refine we_then ?_
   refine wc_seq ?_
   refine wc_block ?_
   refine wc_seq ?_
   refine wc_region ?_
   refine wl_val (.int .i64 (i : Int)) rfl (fun _ => rfl) ?_
   simp only [Act.put, Xa, Xz, Xs]
   refine wl_read (eaddr ps (i * 13)) rfl (er_index i 13 (sl_old hP) rfl rfl rfl rfl (by omega) (flat_length (enc := rti) (size := 13) (fun _ => rfl) _) (by decide) Try.underlying34 (by kernel_rfl)) ?_
   simp only [Act.put, Xa, Xz, Xs]
   refine wl_read (.agg #[.int .i64 (((O[i]!).X.length : Nat) : Int), .int .i64 (pad (O[i]!).X 0), .int .i64 (pad (O[i]!).X 1), .int .i64 (pad (O[i]!).X 2), .int .i64 (pad (O[i]!).X 3), .int .i64 (pad (O[i]!).X 4), .int .i64 (pad (O[i]!).X 5), .int .i64 (pad (O[i]!).X 6), .int .i64 (pad (O[i]!).X 7), .int .i64 (pad (O[i]!).X 8), .int .i64 (pad (O[i]!).X 9), .int .i64 (pad (O[i]!).X 10), .int .i64 (pad (O[i]!).X 11)]) rfl (er_part (i * 13) [.int .i64 (((O[i]!).X.length : Nat) : Int), .int .i64 (pad (O[i]!).X 0), .int .i64 (pad (O[i]!).X 1), .int .i64 (pad (O[i]!).X 2), .int .i64 (pad (O[i]!).X 3), .int .i64 (pad (O[i]!).X 4), .int .i64 (pad (O[i]!).X 5), .int .i64 (pad (O[i]!).X 6), .int .i64 (pad (O[i]!).X 7), .int .i64 (pad (O[i]!).X 8), .int .i64 (pad (O[i]!).X 9), .int .i64 (pad (O[i]!).X 10), .int .i64 (pad (O[i]!).X 11)] (sl_old hP) rfl rfl (flat_part (enc := rti) (fun _ => rfl) O i (by omega)) (Nat.zero_lt_succ _) Try.underlying92 rfl (by kernel_rfl)) ?_
   simp only [Act.put, Xa, Xz, Xs]
   refine wl_new 92 (#[.int .i64 0, .int .i64 0, .int .i64 0, .int .i64 0, .int .i64 0, .int .i64 0, .int .i64 0, .int .i64 0, .int .i64 0, .int .i64 0, .int .i64 0, .int .i64 0, .int .i64 0]) rfl (fun _ => by go_simp) ?_
   intro g5
   simp only [Act.put, Xa, Xz, Xs]
   refine wl_val (.int .i64 (i : Int)) rfl (fun _ => rfl) ?_
   simp only [Act.put, Xa, Xz, Xs]
   refine wl_store 0 92 (.tmp 6) (.tmp 73) (#[.int .i64 (((O[i]!).X.length : Nat) : Int), .int .i64 (pad (O[i]!).X 0), .int .i64 (pad (O[i]!).X 1), .int .i64 (pad (O[i]!).X 2), .int .i64 (pad (O[i]!).X 3), .int .i64 (pad (O[i]!).X 4), .int .i64 (pad (O[i]!).X 5), .int .i64 (pad (O[i]!).X 6), .int .i64 (pad (O[i]!).X 7), .int .i64 (pad (O[i]!).X 8), .int .i64 (pad (O[i]!).X 9), .int .i64 (pad (O[i]!).X 10), .int .i64 (pad (O[i]!).X 11)]) rfl rfl rfl rfl rfl (by kernel_rfl) rfl (by simp [Value.oneCell']) ?_
   simp only [Act.put, List.set_cons_zero]
   refine wl_nil ?_
   refine we_then ?_
   refine wc_seq ?_
   have r1 := hR _ (get_mem (show i < O.length by omega))
   have r2 := r1.some
   have r3 := r1.few
   refine wc_region ?_
   refine wl_load 92 (.tmp 6) (own_row 0 rfl) rfl rfl rfl Try.underlying92 rfl (by kernel_rfl) ?_
   simp only [Act.put, Xa, Xz, Xs]
   refine wl_call_open (ι := Pz) (fun zz => match zz with | zk6 => ⟨g5, #[.int .i64 (((O[i]!).X.length : Nat) : Int), .int .i64 (pad (O[i]!).X 0), .int .i64 (pad (O[i]!).X 1), .int .i64 (pad (O[i]!).X 2), .int .i64 (pad (O[i]!).X 3), .int .i64 (pad (O[i]!).X 4), .int .i64 (pad (O[i]!).X 5), .int .i64 (pad (O[i]!).X 6), .int .i64 (pad (O[i]!).X 7), .int .i64 (pad (O[i]!).X 8), .int .i64 (pad (O[i]!).X 9), .int .i64 (pad (O[i]!).X 10), .int .i64 (pad (O[i]!).X 11)], 92⟩ :: ⟨g2, #[.int .i64 n, .int .i64 g0, .int .i64 a, .int .i64 b, .int .i64 m, .int .i64 f, .slice tp O.length tc], 44⟩ :: ⟨g1, #[.bool false, .int .i64 g0, .int .i64 a, .int .i64 b, .int .i64 m, .int .i64 f, .slice ps O.length cs], 38⟩ :: zk6.N) 26 #[.agg #[.int .i64 (((O[i]!).X.length : Nat) : Int), .int .i64 (pad (O[i]!).X 0), .int .i64 (pad (O[i]!).X 1), .int .i64 (pad (O[i]!).X 2), .int .i64 (pad (O[i]!).X 3), .int .i64 (pad (O[i]!).X 4), .int .i64 (pad (O[i]!).X 5), .int .i64 (pad (O[i]!).X 6), .int .i64 (pad (O[i]!).X 7), .int .i64 (pad (O[i]!).X 8), .int .i64 (pad (O[i]!).X 9), .int .i64 (pad (O[i]!).X 10), .int .i64 (pad (O[i]!).X 11)]] (fun zz => match zz with | zk6 => .slice zk6.p ((O[i]!).X.length) zk6.c) (fun zz => match zz with | zk6 => zk6.N) (fun zz => match zz with | zk6 => Held zk6.N zk6.p (flat enc1 (O[i]!).X)) (by rintro zk6; simp) rfl (fun _ => by go_simp) (fun W hE => Rou.path_any (O[i]!).X W (by omega) (by omega)) ?_
   rintro zk6 k6
   (try dsimp only)
   simp only [Act.put, Xa, Xz, Xs]
   refine wl_val (.slice zk6.p ((O[i]!).X.length) zk6.c) rfl (fun _ => rfl) ?_
   simp only [Act.put, Xa, Xz, Xs]
   refine wl_nil ?_
   refine we_then ?_
   refine wc_seq ?_
   refine wc_seq ?_
   refine wc_region ?_
   refine wl_val (.slice zk6.p ((O[i]!).X.length) zk6.c) rfl (fun _ => rfl) ?_
   simp only [Act.put, Xa, Xz, Xs]
   refine wl_val (.int .i64 (((O[i]!).X.length : Nat) : Int)) rfl (fun w => er_len rfl rfl Try.underlying63 w) ?_
   simp only [Act.put, Xa, Xz, Xs]
   refine wl_val (.pointer (some ⟨g2, 5, none⟩)) rfl (fun _ => by go_simp) ?_
   simp only [Act.put, Xa, Xz, Xs]
   refine wl_val (.pointer (some ⟨g2, 6, none⟩)) rfl (fun _ => by go_simp) ?_
   simp only [Act.put, Xa, Xz, Xs]
   refine wl_cell 40 (.tmp 79) (.slice tp O.length tc) (own_row 1 rfl) rfl rfl rfl rfl Try.isAgg40 ?_
   simp only [Act.put, Xa, Xz, Xs]
   refine wl_val (.int .i64 (i : Int)) rfl (fun _ => rfl) ?_
   simp only [Act.put, Xa, Xz, Xs]
   refine wl_read (eaddr tp (i * 1)) rfl (er_index i 1 (sl_old hT) rfl rfl rfl rfl (by omega) (flat_length (enc := ix) (size := 1) (fun _ => rfl) _) (by decide) Try.underlying40 (by kernel_rfl)) ?_
   simp only [Act.put, Xa, Xz, Xs]
   refine wl_read (.slice ((O[i]!).p) ((O[i]!).X.length) ((O[i]!).c)) rfl (er_cell (i * 1) (.slice ((O[i]!).p) ((O[i]!).X.length) ((O[i]!).c)) (sl_old hT) rfl rfl (flat_cell (enc := ix) (fun _ => rfl) O i 0 (by omega) (by decide)) Try.isAgg63) ?_
   simp only [Act.put, Xa, Xz, Xs]
   refine wl_val (.int .i64 (((O[i]!).X.length : Nat) : Int)) rfl (fun w => er_len rfl rfl Try.underlying63 w) ?_
   simp only [Act.put, Xa, Xz, Xs]
   refine wl_val (.bool false) rfl (fun w => run_cmp (b := false) rfl rfl rfl Try.underlying3 (by simp [cmpOf]) w) ?_
   simp only [Act.put, Xa, Xz, Xs]
   refine wl_nil ?_
   refine we_then ?_
   refine wc_false rfl ?_
   refine wc_skip ?_
   refine we_then ?_
   refine wc_seq ?_
   refine wc_region ?_
   refine wl_val (.slice zk6.p ((O[i]!).X.length) zk6.c) rfl (fun _ => rfl) ?_
   simp only [Act.put, Xa, Xz, Xs]
   refine wl_val (.int .i64 (((O[i]!).X.length : Nat) : Int)) rfl (fun w => er_len rfl rfl Try.underlying63 w) ?_
   simp only [Act.put, Xa, Xz, Xs]
   refine wl_val (.int .i64 0) rfl (fun _ => rfl) ?_
   simp only [Act.put, Xa, Xz, Xs]
   refine wl_nil ?_
   refine we_then ?_
   refine wc_block ?_
   refine wc_loop (fun (zz : Nat × Value × Value × Value × Value × Value × Value × Value × Value × Value × Value × Value × Value × Value × Value × Value × Value × Value × Value × Value) => match zz with | ⟨k, u4, u8, u89, u90, u91, u92, u93, u94, u95, u96, u97, u98, u99, u100, u101, u102, u103, u104, u105⟩ => ({ tmps := #[.agg #[.bool false, .int .i64 g0, .int .i64 a, .int .i64 b, .int .i64 m, .int .i64 f, .slice ps O.length cs], .agg #[.int .i64 n, .int .i64 g0, .int .i64 a, .int .i64 b, .int .i64 m, .int .i64 f, .slice tp O.length tc], .pointer (some ⟨g1, 0, none⟩), .pointer (some ⟨g2, 0, none⟩), u4, .int .i64 (i : Int), .pointer (some ⟨g5, 0, none⟩), .slice zk6.p ((O[i]!).X.length) zk6.c, u8, .pointer (some ⟨g1, 0, none⟩), .bool false, .pointer (some ⟨g2, 0, none⟩), .int .i64 n, .bool false, .bool (false != false), .bool (false != false), .pointer (some ⟨g1, 1, none⟩), .int .i64 g0, .pointer (some ⟨g2, 1, none⟩), .int .i64 g0, .bool false, .bool false, .bool false, .pointer (some ⟨g1, 2, none⟩), .pointer (some ⟨g1, 2, none⟩), .int .i64 a, .pointer (some ⟨g2, 2, none⟩), .int .i64 a, .bool false, .bool false, .bool false, .pointer (some ⟨g1, 2, none⟩), .pointer (some ⟨g1, 3, none⟩), .int .i64 b, .pointer (some ⟨g2, 3, none⟩), .int .i64 b, .bool false, .bool false, .bool false, .pointer (some ⟨g1, 4, none⟩), .int .i64 m, .pointer (some ⟨g2, 4, none⟩), .int .i64 m, .bool false, .bool false, .bool false, .pointer (some ⟨g1, 5, none⟩), .pointer (some ⟨g1, 5, none⟩), .int .i64 f, .pointer (some ⟨g2, 5, none⟩), .pointer (some ⟨g2, 5, none⟩), .int .i64 f, .bool false, .bool false, .bool false, .pointer (some ⟨g1, 5, none⟩), .pointer (some ⟨g1, 6, none⟩), .slice ps O.length cs, .int .i64 (O.length : Int), .pointer (some ⟨g2, 5, none⟩), .pointer (some ⟨g2, 6, none⟩), .slice tp O.length tc, .int .i64 (O.length : Int), .bool false, .bool false, .pointer (some ⟨g1, 5, none⟩), .pointer (some ⟨g1, 6, none⟩), .slice ps O.length cs, .int .i64 (O.length : Int), .int .i64 (i : Int), .bool true, .int .i64 (i : Int), eaddr ps (i * 13), .agg #[.int .i64 (((O[i]!).X.length : Nat) : Int), .int .i64 (pad (O[i]!).X 0), .int .i64 (pad (O[i]!).X 1), .int .i64 (pad (O[i]!).X 2), .int .i64 (pad (O[i]!).X 3), .int .i64 (pad (O[i]!).X 4), .int .i64 (pad (O[i]!).X 5), .int .i64 (pad (O[i]!).X 6), .int .i64 (pad (O[i]!).X 7), .int .i64 (pad (O[i]!).X 8), .int .i64 (pad (O[i]!).X 9), .int .i64 (pad (O[i]!).X 10), .int .i64 (pad (O[i]!).X 11)], .agg #[.int .i64 (((O[i]!).X.length : Nat) : Int), .int .i64 (pad (O[i]!).X 0), .int .i64 (pad (O[i]!).X 1), .int .i64 (pad (O[i]!).X 2), .int .i64 (pad (O[i]!).X 3), .int .i64 (pad (O[i]!).X 4), .int .i64 (pad (O[i]!).X 5), .int .i64 (pad (O[i]!).X 6), .int .i64 (pad (O[i]!).X 7), .int .i64 (pad (O[i]!).X 8), .int .i64 (pad (O[i]!).X 9), .int .i64 (pad (O[i]!).X 10), .int .i64 (pad (O[i]!).X 11)], .slice zk6.p ((O[i]!).X.length) zk6.c, .slice zk6.p ((O[i]!).X.length) zk6.c, .int .i64 (((O[i]!).X.length : Nat) : Int), .pointer (some ⟨g2, 5, none⟩), .pointer (some ⟨g2, 6, none⟩), .slice tp O.length tc, .int .i64 (i : Int), eaddr tp (i * 1), .slice ((O[i]!).p) ((O[i]!).X.length) ((O[i]!).c), .int .i64 (((O[i]!).X.length : Nat) : Int), .bool false, .slice zk6.p ((O[i]!).X.length) zk6.c, .int .i64 (((O[i]!).X.length : Nat) : Int), .int .i64 (k : Int), u89, u90, u91, u92, u93, u94, u95, u96, u97, u98, u99, u100, u101, u102, u103, u104, u105, u106], defers := [] } : Act)) (fun (zz : Nat × Value × Value × Value × Value × Value × Value × Value × Value × Value × Value × Value × Value × Value × Value × Value × Value × Value × Value × Value) => match zz with | ⟨k, u4, u8, u89, u90, u91, u92, u93, u94, u95, u96, u97, u98, u99, u100, u101, u102, u103, u104, u105⟩ => ⟨g5, #[.int .i64 (((O[i]!).X.length : Nat) : Int), .int .i64 (pad (O[i]!).X 0), .int .i64 (pad (O[i]!).X 1), .int .i64 (pad (O[i]!).X 2), .int .i64 (pad (O[i]!).X 3), .int .i64 (pad (O[i]!).X 4), .int .i64 (pad (O[i]!).X 5), .int .i64 (pad (O[i]!).X 6), .int .i64 (pad (O[i]!).X 7), .int .i64 (pad (O[i]!).X 8), .int .i64 (pad (O[i]!).X 9), .int .i64 (pad (O[i]!).X 10), .int .i64 (pad (O[i]!).X 11)], 92⟩ :: ⟨g2, #[.int .i64 n, .int .i64 g0, .int .i64 a, .int .i64 b, .int .i64 m, .int .i64 f, .slice tp O.length tc], 44⟩ :: ⟨g1, #[.bool false, .int .i64 g0, .int .i64 a, .int .i64 b, .int .i64 m, .int .i64 f, .slice ps O.length cs], 38⟩ :: zk6.N) (fun (zz : Nat × Value × Value × Value × Value × Value × Value × Value × Value × Value × Value × Value × Value × Value × Value × Value × Value × Value × Value × Value) => match zz with | ⟨k, u4, u8, u89, u90, u91, u92, u93, u94, u95, u96, u97, u98, u99, u100, u101, u102, u103, u104, u105⟩ => k ≤ (O[i]!).X.length) (fun (zz : Nat × Value × Value × Value × Value × Value × Value × Value × Value × Value × Value × Value × Value × Value × Value × Value × Value × Value × Value × Value) => match zz with | ⟨k, u4, u8, u89, u90, u91, u92, u93, u94, u95, u96, u97, u98, u99, u100, u101, u102, u103, u104, u105⟩ => (O[i]!).X.length - k) ⟨0, _, _, _, _, _, _, _, _, _, _, _, _, _, _, _, _, _, _, _⟩ (by (try dsimp only); omega) rfl (List.Sublist.cons_cons _ (List.Sublist.cons_cons _ (List.Sublist.cons_cons _ (List.Sublist.refl _)))) ?_
   rintro ⟨k, u4, u8, u89, u90, u91, u92, u93, u94, u95, u96, u97, u98, u99, u100, u101, u102, u103, u104, u105⟩ hφ
   (try dsimp only at hφ ⊢)
   refine wc_seq ?_
   refine wc_region ?_
   refine wl_val (.bool (decide ((k : Int) < (((O[i]!).X.length : Nat) : Int)))) rfl (fun w => run_cmp rfl rfl rfl Try.underlying3 rfl w) ?_
   simp only [Act.put, Xa, Xz, Xs]
   refine wl_nil ?_
   refine we_then ?_
   refine wc_seq ?_
   cases h7 : (decide ((k : Int) < (((O[i]!).X.length : Nat) : Int)))
   ·
    skip
    have p7 : ¬ ((k : Int) < (((O[i]!).X.length : Nat) : Int)) := of_decide_eq_false h7
    refine wc_false rfl ?_
    refine wc_exit ?_
    refine we_then_exit ?_
    refine we_then_exit ?_
    refine we_in_here ?_
    refine we_in ?_
    refine we_then ?_
    refine wc_region ?_
    refine wl_val (.int .i64 ((i + 1 : Nat) : Int)) rfl (fun w => run_nat (X := i) (Y := 1) (Z := i + 1) rfl rfl rfl rfl (by omega) w) ?_
    simp only [Act.put, Xa, Xz, Xs]
    refine wl_val (.int .i64 ((i + 1 : Nat) : Int)) rfl (fun _ => rfl) ?_
    simp only [Act.put, Xa, Xz, Xs]
    refine wl_nil ?_
    exact we_meet ⟨(i + 1), _, _, _, _, _, _, _, _, _, _, _, _, _, _, _, _, _, _, _, _, _, _, _, _, _, _, _, _, _, _, _, _, _, _, _, _, _, _, _, _, _, _⟩ ⟨by (try dsimp only); omega, by (try dsimp only); omega⟩ rfl (List.Sublist.cons _ (List.Sublist.cons_cons _ (List.Sublist.cons_cons _ (List.nil_sublist _))))
   ·
    skip
    have p7 : (k : Int) < (((O[i]!).X.length : Nat) : Int) := of_decide_eq_true h7
    refine wc_true rfl ?_
    refine wc_skip ?_
    refine we_then ?_
    refine wc_seq ?_
    refine wc_block ?_
    refine wc_seq ?_
    refine wc_region ?_
    refine wl_val (.int .i64 (k : Int)) rfl (fun _ => rfl) ?_
    simp only [Act.put, Xa, Xz, Xs]
    refine wl_val (.int .i64 (k : Int)) rfl (fun _ => rfl) ?_
    simp only [Act.put, Xa, Xz, Xs]
    refine wl_nil ?_
    refine we_then ?_
    refine wc_seq ?_
    refine wc_draw [.late, .late, .plain, .plain, .late, .late, .plain, .late, .plain, .plain, .late, .plain, .plain, .late] none [] 107 (by kernel_rfl) rfl (by kernel_rfl) (by kernel_rfl) ?_
    refine ws_late (.slice zk6.p ((O[i]!).X.length) zk6.c) rfl rfl (fun _ => rfl) ?_
    simp only [Nat.reduceAdd, Act.put, Xa, Xz, Xs]
    refine ws_late (.int .i64 (k : Int)) rfl rfl (fun _ => rfl) ?_
    simp only [Nat.reduceAdd, Act.put, Xa, Xz, Xs]
    refine ws_read (eaddr zk6.p (k * 1)) rfl rfl (er_index k 1 (sl_held k6 (List.Sublist.cons _ (List.Sublist.cons _ (List.Sublist.cons _ (List.Sublist.refl _))))) rfl rfl rfl rfl (by omega) (flat_length (enc := enc1) (size := 1) (fun _ => rfl) _) (by decide) Try.underlying63 (by kernel_rfl)) ?_
    simp only [Nat.reduceAdd, Act.put, Xa, Xz, Xs]
    refine ws_read (.int .i64 (((O[i]!).X)[k]!)) rfl rfl (er_cell (k * 1) (.int .i64 (((O[i]!).X)[k]!)) (sl_held k6 (List.Sublist.cons _ (List.Sublist.cons _ (List.Sublist.cons _ (List.Sublist.refl _))))) rfl rfl (flat_cell (enc := enc1) (fun _ => rfl) ((O[i]!).X) k 0 (by omega) (by decide)) Try.isAgg3) ?_
    simp only [Nat.reduceAdd, Act.put, Xa, Xz, Xs]
    refine ws_late (.pointer (some ⟨g2, 5, none⟩)) rfl rfl (fun _ => by go_simp) ?_
    simp only [Nat.reduceAdd, Act.put, Xa, Xz, Xs]
    refine ws_late (.pointer (some ⟨g2, 6, none⟩)) rfl rfl (fun _ => by go_simp) ?_
    simp only [Nat.reduceAdd, Act.put, Xa, Xz, Xs]
    refine ws_cell 40 (.tmp 96) (.slice tp O.length tc) (own_row 1 rfl) rfl rfl rfl rfl rfl Try.isAgg40 ?_
    simp only [Nat.reduceAdd, Act.put, Xa, Xz, Xs]
    refine ws_late (.int .i64 (i : Int)) rfl rfl (fun _ => rfl) ?_
    simp only [Nat.reduceAdd, Act.put, Xa, Xz, Xs]
    refine ws_read (eaddr tp (i * 1)) rfl rfl (er_index i 1 (sl_old hT) rfl rfl rfl rfl (by omega) (flat_length (enc := ix) (size := 1) (fun _ => rfl) _) (by decide) Try.underlying40 (by kernel_rfl)) ?_
    simp only [Nat.reduceAdd, Act.put, Xa, Xz, Xs]
    refine ws_read (.slice ((O[i]!).p) ((O[i]!).X.length) ((O[i]!).c)) rfl rfl (er_cell (i * 1) (.slice ((O[i]!).p) ((O[i]!).X.length) ((O[i]!).c)) (sl_old hT) rfl rfl (flat_cell (enc := ix) (fun _ => rfl) O i 0 (by omega) (by decide)) Try.isAgg63) ?_
    simp only [Nat.reduceAdd, Act.put, Xa, Xz, Xs]
    refine ws_late (.int .i64 (k : Int)) rfl rfl (fun _ => rfl) ?_
    simp only [Nat.reduceAdd, Act.put, Xa, Xz, Xs]
    refine ws_read (eaddr ((O[i]!).p) (k * 1)) rfl rfl (er_index k 1 (sl_old (ix_at hO (by omega)).rd) rfl rfl rfl rfl (by omega) (flat_length (enc := enc1) (size := 1) (fun _ => rfl) _) (by decide) Try.underlying63 (by kernel_rfl)) ?_
    simp only [Nat.reduceAdd, Act.put, Xa, Xz, Xs]
    refine ws_read (.int .i64 (((O[i]!).X)[k]!)) rfl rfl (er_cell (k * 1) (.int .i64 (((O[i]!).X)[k]!)) (sl_old (ix_at hO (by omega)).rd) rfl rfl (flat_cell (enc := enc1) (fun _ => rfl) ((O[i]!).X) k 0 (by omega) (by decide)) Try.isAgg3) ?_
    simp only [Nat.reduceAdd, Act.put, Xa, Xz, Xs]
    refine ws_late (.bool false) rfl rfl (fun w => run_cmp (b := false) rfl rfl rfl Try.underlying3 (by simp [cmpOf]) w) ?_
    simp only [Nat.reduceAdd, Act.put, Xa, Xz, Xs]
    refine ws_nil [] trivial (by simp) ?_
    intro ps8
    simp only [fin, List.foldl_nil, List.map, List.nil_append]
    refine we_then ?_
    refine wc_false rfl ?_
    refine wc_skip ?_
    refine we_in ?_
    refine we_then ?_
    refine wc_region ?_
    refine wl_val (.int .i64 ((k + 1 : Nat) : Int)) rfl (fun w => run_nat (X := k) (Y := 1) (Z := k + 1) rfl rfl rfl rfl (by omega) w) ?_
    simp only [Act.put, Xa, Xz, Xs]
    refine wl_val (.int .i64 ((k + 1 : Nat) : Int)) rfl (fun _ => rfl) ?_
    simp only [Act.put, Xa, Xz, Xs]
    refine wl_nil ?_
    exact we_meet ⟨(k + 1), _, _, _, _, _, _, _, _, _, _, _, _, _, _, _, _, _, _, _⟩ ⟨by (try dsimp only); omega, by (try dsimp only); omega⟩ rfl (List.Sublist.cons_cons _ (List.Sublist.cons_cons _ (List.Sublist.cons_cons _ (List.Sublist.refl _))))
 ·
  skip
  have p3 : n = 1 := by first | (simp; done) | (simp at h3; done) | simpa using h3
  refine wl_val (.pointer (some ⟨g1, 1, none⟩)) rfl (fun _ => by go_simp) ?_
  simp only [Act.put, Xa, Xz, Xs]
  refine wl_cell 3 (.tmp 16) (.int .i64 g0) (own_row 1 rfl) rfl rfl rfl rfl Try.isAgg3 ?_
  simp only [Act.put, Xa, Xz, Xs]
  refine wl_val (.pointer (some ⟨g2, 1, none⟩)) rfl (fun _ => by go_simp) ?_
  simp only [Act.put, Xa, Xz, Xs]
  refine wl_cell 3 (.tmp 18) (.int .i64 g0) (own_row 0 rfl) rfl rfl rfl rfl Try.isAgg3 ?_
  simp only [Act.put, Xa, Xz, Xs]
  refine wl_val (.bool false) rfl (fun w => run_cmp (b := false) rfl rfl rfl Try.underlying3 (by simp [cmpOf]) w) ?_
  simp only [Act.put, Xa, Xz, Xs]
  refine wl_val (.bool false) rfl (fun _ => rfl) ?_
  simp only [Act.put, Xa, Xz, Xs]
  refine wl_val (.bool false) rfl (fun _ => rfl) ?_
  simp only [Act.put, Xa, Xz, Xs]
  refine wl_val (.pointer (some ⟨g1, 2, none⟩)) rfl (fun _ => by go_simp) ?_
  simp only [Act.put, Xa, Xz, Xs]
  refine wl_val (.pointer (some ⟨g1, 2, none⟩)) rfl (fun _ => by go_simp) ?_
  simp only [Act.put, Xa, Xz, Xs]
  refine wl_cell 2 (.tmp 24) (.int .i64 a) (own_row 1 rfl) rfl rfl rfl rfl Try.isAgg2 ?_
  simp only [Act.put, Xa, Xz, Xs]
  refine wl_val (.pointer (some ⟨g2, 2, none⟩)) rfl (fun _ => by go_simp) ?_
  simp only [Act.put, Xa, Xz, Xs]
  refine wl_cell 2 (.tmp 26) (.int .i64 a) (own_row 0 rfl) rfl rfl rfl rfl Try.isAgg2 ?_
  simp only [Act.put, Xa, Xz, Xs]
  refine wl_val (.bool false) rfl (fun w => run_cmp (b := false) rfl rfl rfl Try.underlying2 (by simp [cmpOf]) w) ?_
  simp only [Act.put, Xa, Xz, Xs]
  refine wl_val (.bool false) rfl (fun _ => rfl) ?_
  simp only [Act.put, Xa, Xz, Xs]
  refine wl_val (.bool false) rfl (fun _ => rfl) ?_
  simp only [Act.put, Xa, Xz, Xs]
  refine wl_val (.pointer (some ⟨g1, 2, none⟩)) rfl (fun _ => by go_simp) ?_
  simp only [Act.put, Xa, Xz, Xs]
  refine wl_val (.pointer (some ⟨g1, 3, none⟩)) rfl (fun _ => by go_simp) ?_
  simp only [Act.put, Xa, Xz, Xs]
  refine wl_cell 2 (.tmp 32) (.int .i64 b) (own_row 1 rfl) rfl rfl rfl rfl Try.isAgg2 ?_
  simp only [Act.put, Xa, Xz, Xs]
  refine wl_val (.pointer (some ⟨g2, 3, none⟩)) rfl (fun _ => by go_simp) ?_
  simp only [Act.put, Xa, Xz, Xs]
  refine wl_cell 2 (.tmp 34) (.int .i64 b) (own_row 0 rfl) rfl rfl rfl rfl Try.isAgg2 ?_
  simp only [Act.put, Xa, Xz, Xs]
  refine wl_val (.bool false) rfl (fun w => run_cmp (b := false) rfl rfl rfl Try.underlying2 (by simp [cmpOf]) w) ?_
  simp only [Act.put, Xa, Xz, Xs]
  refine wl_val (.bool false) rfl (fun _ => rfl) ?_
  simp only [Act.put, Xa, Xz, Xs]
  refine wl_val (.bool false) rfl (fun _ => rfl) ?_
  simp only [Act.put, Xa, Xz, Xs]
  refine wl_val (.pointer (some ⟨g1, 4, none⟩)) rfl (fun _ => by go_simp) ?_
  simp only [Act.put, Xa, Xz, Xs]
  refine wl_cell 2 (.tmp 39) (.int .i64 m) (own_row 1 rfl) rfl rfl rfl rfl Try.isAgg2 ?_
  simp only [Act.put, Xa, Xz, Xs]
  refine wl_val (.pointer (some ⟨g2, 4, none⟩)) rfl (fun _ => by go_simp) ?_
  simp only [Act.put, Xa, Xz, Xs]
  refine wl_cell 2 (.tmp 41) (.int .i64 m) (own_row 0 rfl) rfl rfl rfl rfl Try.isAgg2 ?_
  simp only [Act.put, Xa, Xz, Xs]
  refine wl_val (.bool false) rfl (fun w => run_cmp (b := false) rfl rfl rfl Try.underlying2 (by simp [cmpOf]) w) ?_
  simp only [Act.put, Xa, Xz, Xs]
  refine wl_val (.bool false) rfl (fun _ => rfl) ?_
  simp only [Act.put, Xa, Xz, Xs]
  refine wl_val (.bool false) rfl (fun _ => rfl) ?_
  simp only [Act.put, Xa, Xz, Xs]
  refine wl_val (.pointer (some ⟨g1, 5, none⟩)) rfl (fun _ => by go_simp) ?_
  simp only [Act.put, Xa, Xz, Xs]
  refine wl_val (.pointer (some ⟨g1, 5, none⟩)) rfl (fun _ => by go_simp) ?_
  simp only [Act.put, Xa, Xz, Xs]
  refine wl_cell 2 (.tmp 47) (.int .i64 f) (own_row 1 rfl) rfl rfl rfl rfl Try.isAgg2 ?_
  simp only [Act.put, Xa, Xz, Xs]
  refine wl_val (.pointer (some ⟨g2, 5, none⟩)) rfl (fun _ => by go_simp) ?_
  simp only [Act.put, Xa, Xz, Xs]
  refine wl_val (.pointer (some ⟨g2, 5, none⟩)) rfl (fun _ => by go_simp) ?_
  simp only [Act.put, Xa, Xz, Xs]
  refine wl_cell 2 (.tmp 50) (.int .i64 f) (own_row 0 rfl) rfl rfl rfl rfl Try.isAgg2 ?_
  simp only [Act.put, Xa, Xz, Xs]
  refine wl_val (.bool false) rfl (fun w => run_cmp (b := false) rfl rfl rfl Try.underlying2 (by simp [cmpOf]) w) ?_
  simp only [Act.put, Xa, Xz, Xs]
  refine wl_val (.bool false) rfl (fun _ => rfl) ?_
  simp only [Act.put, Xa, Xz, Xs]
  refine wl_val (.bool false) rfl (fun _ => rfl) ?_
  simp only [Act.put, Xa, Xz, Xs]
  refine wl_val (.pointer (some ⟨g1, 5, none⟩)) rfl (fun _ => by go_simp) ?_
  simp only [Act.put, Xa, Xz, Xs]
  refine wl_val (.pointer (some ⟨g1, 6, none⟩)) rfl (fun _ => by go_simp) ?_
  simp only [Act.put, Xa, Xz, Xs]
  refine wl_cell 34 (.tmp 56) (.slice ps O.length cs) (own_row 1 rfl) rfl rfl rfl rfl Try.isAgg34 ?_
  simp only [Act.put, Xa, Xz, Xs]
  refine wl_val (.int .i64 (O.length : Int)) rfl (fun w => er_len rfl rfl Try.underlying34 w) ?_
  simp only [Act.put, Xa, Xz, Xs]
  refine wl_val (.pointer (some ⟨g2, 5, none⟩)) rfl (fun _ => by go_simp) ?_
  simp only [Act.put, Xa, Xz, Xs]
  refine wl_val (.pointer (some ⟨g2, 6, none⟩)) rfl (fun _ => by go_simp) ?_
  simp only [Act.put, Xa, Xz, Xs]
  refine wl_cell 40 (.tmp 60) (.slice tp O.length tc) (own_row 0 rfl) rfl rfl rfl rfl Try.isAgg40 ?_
  simp only [Act.put, Xa, Xz, Xs]
  refine wl_val (.int .i64 (O.length : Int)) rfl (fun w => er_len rfl rfl Try.underlying40 w) ?_
  simp only [Act.put, Xa, Xz, Xs]
  refine wl_val (.bool false) rfl (fun w => run_cmp (b := false) rfl rfl rfl Try.underlying3 (by simp [cmpOf]) w) ?_
  simp only [Act.put, Xa, Xz, Xs]
  refine wl_val (.bool false) rfl (fun _ => rfl) ?_
  simp only [Act.put, Xa, Xz, Xs]
  refine wl_nil ?_
  refine we_then ?_
  refine wc_false rfl ?_
  refine wc_skip ?_
  refine we_then ?_
  refine wc_seq ?_
  refine wc_seq ?_
  refine wc_region ?_
  refine wl_val (.pointer (some ⟨g1, 5, none⟩)) rfl (fun _ => by go_simp) ?_
  simp only [Act.put, Xa, Xz, Xs]
  refine wl_val (.pointer (some ⟨g1, 6, none⟩)) rfl (fun _ => by go_simp) ?_
  simp only [Act.put, Xa, Xz, Xs]
  refine wl_cell 34 (.tmp 66) (.slice ps O.length cs) (own_row 1 rfl) rfl rfl rfl rfl Try.isAgg34 ?_
  simp only [Act.put, Xa, Xz, Xs]
  refine wl_val (.int .i64 (O.length : Int)) rfl (fun w => er_len rfl rfl Try.underlying34 w) ?_
  simp only [Act.put, Xa, Xz, Xs]
  refine wl_val (.int .i64 0) rfl (fun _ => rfl) ?_
  simp only [Act.put, Xa, Xz, Xs]
  refine wl_nil ?_
  refine we_then ?_
  refine wc_block ?_
  refine wc_loop (fun (zz : Nat × Value × Value × Value × Value × Value × Value × Value × Value × Value × Value × Value × Value × Value × Value × Value × Value × Value × Value × Value × Value × Value × Value × Value × Value × Value × Value × Value × Value × Value × Value × Value × Value × Value × Value × Value × Value × Value × Value × Value × Value × Value × Value) => match zz with | ⟨i, u4, u5, u6, u7, u8, u70, u71, u72, u73, u74, u75, u76, u77, u78, u79, u80, u81, u82, u83, u84, u85, u86, u87, u88, u89, u90, u91, u92, u93, u94, u95, u96, u97, u98, u99, u100, u101, u102, u103, u104, u105, u106⟩ => ({ tmps := #[.agg #[.bool true, .int .i64 g0, .int .i64 a, .int .i64 b, .int .i64 m, .int .i64 f, .slice ps O.length cs], .agg #[.int .i64 n, .int .i64 g0, .int .i64 a, .int .i64 b, .int .i64 m, .int .i64 f, .slice tp O.length tc], .pointer (some ⟨g1, 0, none⟩), .pointer (some ⟨g2, 0, none⟩), u4, u5, u6, u7, u8, .pointer (some ⟨g1, 0, none⟩), .bool true, .pointer (some ⟨g2, 0, none⟩), .int .i64 n, .bool true, .bool (true != true), .bool (true != true), .pointer (some ⟨g1, 1, none⟩), .int .i64 g0, .pointer (some ⟨g2, 1, none⟩), .int .i64 g0, .bool false, .bool false, .bool false, .pointer (some ⟨g1, 2, none⟩), .pointer (some ⟨g1, 2, none⟩), .int .i64 a, .pointer (some ⟨g2, 2, none⟩), .int .i64 a, .bool false, .bool false, .bool false, .pointer (some ⟨g1, 2, none⟩), .pointer (some ⟨g1, 3, none⟩), .int .i64 b, .pointer (some ⟨g2, 3, none⟩), .int .i64 b, .bool false, .bool false, .bool false, .pointer (some ⟨g1, 4, none⟩), .int .i64 m, .pointer (some ⟨g2, 4, none⟩), .int .i64 m, .bool false, .bool false, .bool false, .pointer (some ⟨g1, 5, none⟩), .pointer (some ⟨g1, 5, none⟩), .int .i64 f, .pointer (some ⟨g2, 5, none⟩), .pointer (some ⟨g2, 5, none⟩), .int .i64 f, .bool false, .bool false, .bool false, .pointer (some ⟨g1, 5, none⟩), .pointer (some ⟨g1, 6, none⟩), .slice ps O.length cs, .int .i64 (O.length : Int), .pointer (some ⟨g2, 5, none⟩), .pointer (some ⟨g2, 6, none⟩), .slice tp O.length tc, .int .i64 (O.length : Int), .bool false, .bool false, .pointer (some ⟨g1, 5, none⟩), .pointer (some ⟨g1, 6, none⟩), .slice ps O.length cs, .int .i64 (O.length : Int), .int .i64 (i : Int), u70, u71, u72, u73, u74, u75, u76, u77, u78, u79, u80, u81, u82, u83, u84, u85, u86, u87, u88, u89, u90, u91, u92, u93, u94, u95, u96, u97, u98, u99, u100, u101, u102, u103, u104, u105, u106], defers := [] } : Act)) (fun (zz : Nat × Value × Value × Value × Value × Value × Value × Value × Value × Value × Value × Value × Value × Value × Value × Value × Value × Value × Value × Value × Value × Value × Value × Value × Value × Value × Value × Value × Value × Value × Value × Value × Value × Value × Value × Value × Value × Value × Value × Value × Value × Value × Value) => match zz with | ⟨i, u4, u5, u6, u7, u8, u70, u71, u72, u73, u74, u75, u76, u77, u78, u79, u80, u81, u82, u83, u84, u85, u86, u87, u88, u89, u90, u91, u92, u93, u94, u95, u96, u97, u98, u99, u100, u101, u102, u103, u104, u105, u106⟩ => [⟨g2, #[.int .i64 n, .int .i64 g0, .int .i64 a, .int .i64 b, .int .i64 m, .int .i64 f, .slice tp O.length tc], 44⟩, ⟨g1, #[.bool true, .int .i64 g0, .int .i64 a, .int .i64 b, .int .i64 m, .int .i64 f, .slice ps O.length cs], 38⟩]) (fun (zz : Nat × Value × Value × Value × Value × Value × Value × Value × Value × Value × Value × Value × Value × Value × Value × Value × Value × Value × Value × Value × Value × Value × Value × Value × Value × Value × Value × Value × Value × Value × Value × Value × Value × Value × Value × Value × Value × Value × Value × Value × Value × Value × Value) => match zz with | ⟨i, u4, u5, u6, u7, u8, u70, u71, u72, u73, u74, u75, u76, u77, u78, u79, u80, u81, u82, u83, u84, u85, u86, u87, u88, u89, u90, u91, u92, u93, u94, u95, u96, u97, u98, u99, u100, u101, u102, u103, u104, u105, u106⟩ => i ≤ O.length) (fun (zz : Nat × Value × Value × Value × Value × Value × Value × Value × Value × Value × Value × Value × Value × Value × Value × Value × Value × Value × Value × Value × Value × Value × Value × Value × Value × Value × Value × Value × Value × Value × Value × Value × Value × Value × Value × Value × Value × Value × Value × Value × Value × Value × Value) => match zz with | ⟨i, u4, u5, u6, u7, u8, u70, u71, u72, u73, u74, u75, u76, u77, u78, u79, u80, u81, u82, u83, u84, u85, u86, u87, u88, u89, u90, u91, u92, u93, u94, u95, u96, u97, u98, u99, u100, u101, u102, u103, u104, u105, u106⟩ => O.length - i) ⟨0, _, _, _, _, _, _, _, _, _, _, _, _, _, _, _, _, _, _, _, _, _, _, _, _, _, _, _, _, _, _, _, _, _, _, _, _, _, _, _, _, _, _⟩ (by (try dsimp only); exact Nat.zero_le _) rfl (List.Sublist.cons_cons _ (List.Sublist.cons_cons _ List.Sublist.slnil)) ?_
  rintro ⟨i, u4, u5, u6, u7, u8, u70, u71, u72, u73, u74, u75, u76, u77, u78, u79, u80, u81, u82, u83, u84, u85, u86, u87, u88, u89, u90, u91, u92, u93, u94, u95, u96, u97, u98, u99, u100, u101, u102, u103, u104, u105, u106⟩ hφ
  (try dsimp only at hφ ⊢)
  refine wc_seq ?_
  refine wc_region ?_
  refine wl_val (.bool (decide ((i : Int) < (O.length : Int)))) rfl (fun w => run_cmp rfl rfl rfl Try.underlying3 rfl w) ?_
  simp only [Act.put, Xa, Xz, Xs]
  refine wl_nil ?_
  refine we_then ?_
  refine wc_seq ?_
  cases h9 : (decide ((i : Int) < (O.length : Int)))
  ·
   skip
   have p9 : ¬ ((i : Int) < (O.length : Int)) := of_decide_eq_false h9
   refine wc_false rfl ?_
   refine wc_exit ?_
   refine we_then_exit ?_
   refine we_then_exit ?_
   refine we_in_here ?_
   refine we_then ?_
   refine wc_seq ?_
   refine wc_region ?_
   refine wl_val (.bool true) rfl (fun _ => rfl) ?_
   simp only [Act.put, Xa, Xz, Xs]
   refine wl_nil ?_
   refine we_then ?_
   refine wc_ret ?_
   refine we_ret1 (.bool true) rfl rfl rfl (fun w1 hE => ?_)
   exact ⟨rfl, hE.below⟩
  ·
   skip
   have p9 : (i : Int) < (O.length : Int) := of_decide_eq_true h9
   refine wc_true rfl ?_
   refine wc_skip ?_
   refine we_then ?_
   refine wc_seq ?_
   refine wc_block ?_
   refine wc_seq ?_
   refine wc_region ?_
   refine wl_val (.int .i64 (i : Int)) rfl (fun _ => rfl) ?_
   simp only [Act.put, Xa, Xz, Xs]
   refine wl_read (eaddr ps (i * 13)) rfl (er_index i 13 (sl_old hP) rfl rfl rfl rfl (by omega) (flat_length (enc := rti) (size := 13) (fun _ => rfl) _) (by decide) Try.underlying34 (by kernel_rfl)) ?_
   simp only [Act.put, Xa, Xz, Xs]
   refine wl_read (.agg #[.int .i64 (((O[i]!).X.length : Nat) : Int), .int .i64 (pad (O[i]!).X 0), .int .i64 (pad (O[i]!).X 1), .int .i64 (pad (O[i]!).X 2), .int .i64 (pad (O[i]!).X 3), .int .i64 (pad (O[i]!).X 4), .int .i64 (pad (O[i]!).X 5), .int .i64 (pad (O[i]!).X 6), .int .i64 (pad (O[i]!).X 7), .int .i64 (pad (O[i]!).X 8), .int .i64 (pad (O[i]!).X 9), .int .i64 (pad (O[i]!).X 10), .int .i64 (pad (O[i]!).X 11)]) rfl (er_part (i * 13) [.int .i64 (((O[i]!).X.length : Nat) : Int), .int .i64 (pad (O[i]!).X 0), .int .i64 (pad (O[i]!).X 1), .int .i64 (pad (O[i]!).X 2), .int .i64 (pad (O[i]!).X 3), .int .i64 (pad (O[i]!).X 4), .int .i64 (pad (O[i]!).X 5), .int .i64 (pad (O[i]!).X 6), .int .i64 (pad (O[i]!).X 7), .int .i64 (pad (O[i]!).X 8), .int .i64 (pad (O[i]!).X 9), .int .i64 (pad (O[i]!).X 10), .int .i64 (pad (O[i]!).X 11)] (sl_old hP) rfl rfl (flat_part (enc := rti) (fun _ => rfl) O i (by omega)) (Nat.zero_lt_succ _) Try.underlying92 rfl (by kernel_rfl)) ?_
   simp only [Act.put, Xa, Xz, Xs]
   refine wl_new 92 (#[.int .i64 0, .int .i64 0, .int .i64 0, .int .i64 0, .int .i64 0, .int .i64 0, .int .i64 0, .int .i64 0, .int .i64 0, .int .i64 0, .int .i64 0, .int .i64 0, .int .i64 0]) rfl (fun _ => by go_simp) ?_
   intro g10
   simp only [Act.put, Xa, Xz, Xs]
   refine wl_val (.int .i64 (i : Int)) rfl (fun _ => rfl) ?_
   simp only [Act.put, Xa, Xz, Xs]
   refine wl_store 0 92 (.tmp 6) (.tmp 73) (#[.int .i64 (((O[i]!).X.length : Nat) : Int), .int .i64 (pad (O[i]!).X 0), .int .i64 (pad (O[i]!).X 1), .int .i64 (pad (O[i]!).X 2), .int .i64 (pad (O[i]!).X 3), .int .i64 (pad (O[i]!).X 4), .int .i64 (pad (O[i]!).X 5), .int .i64 (pad (O[i]!).X 6), .int .i64 (pad (O[i]!).X 7), .int .i64 (pad (O[i]!).X 8), .int .i64 (pad (O[i]!).X 9), .int .i64 (pad (O[i]!).X 10), .int .i64 (pad (O[i]!).X 11)]) rfl rfl rfl rfl rfl (by kernel_rfl) rfl (by simp [Value.oneCell']) ?_
   simp only [Act.put, List.set_cons_zero]
   refine wl_nil ?_
   refine we_then ?_
   refine wc_seq ?_
   have r1 := hR _ (get_mem (show i < O.length by omega))
   have r2 := r1.some
   have r3 := r1.few
   refine wc_region ?_
   refine wl_load 92 (.tmp 6) (own_row 0 rfl) rfl rfl rfl Try.underlying92 rfl (by kernel_rfl) ?_
   simp only [Act.put, Xa, Xz, Xs]
   refine wl_call_open (ι := Pz) (fun zz => match zz with | zk11 => ⟨g10, #[.int .i64 (((O[i]!).X.length : Nat) : Int), .int .i64 (pad (O[i]!).X 0), .int .i64 (pad (O[i]!).X 1), .int .i64 (pad (O[i]!).X 2), .int .i64 (pad (O[i]!).X 3), .int .i64 (pad (O[i]!).X 4), .int .i64 (pad (O[i]!).X 5), .int .i64 (pad (O[i]!).X 6), .int .i64 (pad (O[i]!).X 7), .int .i64 (pad (O[i]!).X 8), .int .i64 (pad (O[i]!).X 9), .int .i64 (pad (O[i]!).X 10), .int .i64 (pad (O[i]!).X 11)], 92⟩ :: ⟨g2, #[.int .i64 n, .int .i64 g0, .int .i64 a, .int .i64 b, .int .i64 m, .int .i64 f, .slice tp O.length tc], 44⟩ :: ⟨g1, #[.bool true, .int .i64 g0, .int .i64 a, .int .i64 b, .int .i64 m, .int .i64 f, .slice ps O.length cs], 38⟩ :: zk11.N) 26 #[.agg #[.int .i64 (((O[i]!).X.length : Nat) : Int), .int .i64 (pad (O[i]!).X 0), .int .i64 (pad (O[i]!).X 1), .int .i64 (pad (O[i]!).X 2), .int .i64 (pad (O[i]!).X 3), .int .i64 (pad (O[i]!).X 4), .int .i64 (pad (O[i]!).X 5), .int .i64 (pad (O[i]!).X 6), .int .i64 (pad (O[i]!).X 7), .int .i64 (pad (O[i]!).X 8), .int .i64 (pad (O[i]!).X 9), .int .i64 (pad (O[i]!).X 10), .int .i64 (pad (O[i]!).X 11)]] (fun zz => match zz with | zk11 => .slice zk11.p ((O[i]!).X.length) zk11.c) (fun zz => match zz with | zk11 => zk11.N) (fun zz => match zz with | zk11 => Held zk11.N zk11.p (flat enc1 (O[i]!).X)) (by rintro zk11; simp) rfl (fun _ => by go_simp) (fun W hE => Rou.path_any (O[i]!).X W (by omega) (by omega)) ?_
   rintro zk11 k11
   (try dsimp only)
   simp only [Act.put, Xa, Xz, Xs]
   refine wl_val (.slice zk11.p ((O[i]!).X.length) zk11.c) rfl (fun _ => rfl) ?_
   simp only [Act.put, Xa, Xz, Xs]
   refine wl_nil ?_
   refine we_then ?_
   refine wc_seq ?_
   refine wc_seq ?_
   refine wc_region ?_
   refine wl_val (.slice zk11.p ((O[i]!).X.length) zk11.c) rfl (fun _ => rfl) ?_
   simp only [Act.put, Xa, Xz, Xs]
   refine wl_val (.int .i64 (((O[i]!).X.length : Nat) : Int)) rfl (fun w => er_len rfl rfl Try.underlying63 w) ?_
   simp only [Act.put, Xa, Xz, Xs]
   refine wl_val (.pointer (some ⟨g2, 5, none⟩)) rfl (fun _ => by go_simp) ?_
   simp only [Act.put, Xa, Xz, Xs]
   refine wl_val (.pointer (some ⟨g2, 6, none⟩)) rfl (fun _ => by go_simp) ?_
   simp only [Act.put, Xa, Xz, Xs]
   refine wl_cell 40 (.tmp 79) (.slice tp O.length tc) (own_row 1 rfl) rfl rfl rfl rfl Try.isAgg40 ?_
   simp only [Act.put, Xa, Xz, Xs]
   refine wl_val (.int .i64 (i : Int)) rfl (fun _ => rfl) ?_
   simp only [Act.put, Xa, Xz, Xs]
   refine wl_read (eaddr tp (i * 1)) rfl (er_index i 1 (sl_old hT) rfl rfl rfl rfl (by omega) (flat_length (enc := ix) (size := 1) (fun _ => rfl) _) (by decide) Try.underlying40 (by kernel_rfl)) ?_
   simp only [Act.put, Xa, Xz, Xs]
   refine wl_read (.slice ((O[i]!).p) ((O[i]!).X.length) ((O[i]!).c)) rfl (er_cell (i * 1) (.slice ((O[i]!).p) ((O[i]!).X.length) ((O[i]!).c)) (sl_old hT) rfl rfl (flat_cell (enc := ix) (fun _ => rfl) O i 0 (by omega) (by decide)) Try.isAgg63) ?_
   simp only [Act.put, Xa, Xz, Xs]
   refine wl_val (.int .i64 (((O[i]!).X.length : Nat) : Int)) rfl (fun w => er_len rfl rfl Try.underlying63 w) ?_
   simp only [Act.put, Xa, Xz, Xs]
   refine wl_val (.bool false) rfl (fun w => run_cmp (b := false) rfl rfl rfl Try.underlying3 (by simp [cmpOf]) w) ?_
   simp only [Act.put, Xa, Xz, Xs]
   refine wl_nil ?_
   refine we_then ?_
   refine wc_false rfl ?_
   refine wc_skip ?_
   refine we_then ?_
   refine wc_seq ?_
   refine wc_region ?_
   refine wl_val (.slice zk11.p ((O[i]!).X.length) zk11.c) rfl (fun _ => rfl) ?_
   simp only [Act.put, Xa, Xz, Xs]
   refine wl_val (.int .i64 (((O[i]!).X.length : Nat) : Int)) rfl (fun w => er_len rfl rfl Try.underlying63 w) ?_
   simp only [Act.put, Xa, Xz, Xs]
   refine wl_val (.int .i64 0) rfl (fun _ => rfl) ?_
   simp only [Act.put, Xa, Xz, Xs]
   refine wl_nil ?_
   refine we_then ?_
   refine wc_block ?_
   refine wc_loop (fun (zz : Nat × Value × Value × Value × Value × Value × Value × Value × Value × Value × Value × Value × Value × Value × Value × Value × Value × Value × Value × Value) => match zz with | ⟨k, u4, u8, u89, u90, u91, u92, u93, u94, u95, u96, u97, u98, u99, u100, u101, u102, u103, u104, u105⟩ => ({ tmps := #[.agg #[.bool true, .int .i64 g0, .int .i64 a, .int .i64 b, .int .i64 m, .int .i64 f, .slice ps O.length cs], .agg #[.int .i64 n, .int .i64 g0, .int .i64 a, .int .i64 b, .int .i64 m, .int .i64 f, .slice tp O.length tc], .pointer (some ⟨g1, 0, none⟩), .pointer (some ⟨g2, 0, none⟩), u4, .int .i64 (i : Int), .pointer (some ⟨g10, 0, none⟩), .slice zk11.p ((O[i]!).X.length) zk11.c, u8, .pointer (some ⟨g1, 0, none⟩), .bool true, .pointer (some ⟨g2, 0, none⟩), .int .i64 n, .bool true, .bool (true != true), .bool (true != true), .pointer (some ⟨g1, 1, none⟩), .int .i64 g0, .pointer (some ⟨g2, 1, none⟩), .int .i64 g0, .bool false, .bool false, .bool false, .pointer (some ⟨g1, 2, none⟩), .pointer (some ⟨g1, 2, none⟩), .int .i64 a, .pointer (some ⟨g2, 2, none⟩), .int .i64 a, .bool false, .bool false, .bool false, .pointer (some ⟨g1, 2, none⟩), .pointer (some ⟨g1, 3, none⟩), .int .i64 b, .pointer (some ⟨g2, 3, none⟩), .int .i64 b, .bool false, .bool false, .bool false, .pointer (some ⟨g1, 4, none⟩), .int .i64 m, .pointer (some ⟨g2, 4, none⟩), .int .i64 m, .bool false, .bool false, .bool false, .pointer (some ⟨g1, 5, none⟩), .pointer (some ⟨g1, 5, none⟩), .int .i64 f, .pointer (some ⟨g2, 5, none⟩), .pointer (some ⟨g2, 5, none⟩), .int .i64 f, .bool false, .bool false, .bool false, .pointer (some ⟨g1, 5, none⟩), .pointer (some ⟨g1, 6, none⟩), .slice ps O.length cs, .int .i64 (O.length : Int), .pointer (some ⟨g2, 5, none⟩), .pointer (some ⟨g2, 6, none⟩), .slice tp O.length tc, .int .i64 (O.length : Int), .bool false, .bool false, .pointer (some ⟨g1, 5, none⟩), .pointer (some ⟨g1, 6, none⟩), .slice ps O.length cs, .int .i64 (O.length : Int), .int .i64 (i : Int), .bool true, .int .i64 (i : Int), eaddr ps (i * 13), .agg #[.int .i64 (((O[i]!).X.length : Nat) : Int), .int .i64 (pad (O[i]!).X 0), .int .i64 (pad (O[i]!).X 1), .int .i64 (pad (O[i]!).X 2), .int .i64 (pad (O[i]!).X 3), .int .i64 (pad (O[i]!).X 4), .int .i64 (pad (O[i]!).X 5), .int .i64 (pad (O[i]!).X 6), .int .i64 (pad (O[i]!).X 7), .int .i64 (pad (O[i]!).X 8), .int .i64 (pad (O[i]!).X 9), .int .i64 (pad (O[i]!).X 10), .int .i64 (pad (O[i]!).X 11)], .agg #[.int .i64 (((O[i]!).X.length : Nat) : Int), .int .i64 (pad (O[i]!).X 0), .int .i64 (pad (O[i]!).X 1), .int .i64 (pad (O[i]!).X 2), .int .i64 (pad (O[i]!).X 3), .int .i64 (pad (O[i]!).X 4), .int .i64 (pad (O[i]!).X 5), .int .i64 (pad (O[i]!).X 6), .int .i64 (pad (O[i]!).X 7), .int .i64 (pad (O[i]!).X 8), .int .i64 (pad (O[i]!).X 9), .int .i64 (pad (O[i]!).X 10), .int .i64 (pad (O[i]!).X 11)], .slice zk11.p ((O[i]!).X.length) zk11.c, .slice zk11.p ((O[i]!).X.length) zk11.c, .int .i64 (((O[i]!).X.length : Nat) : Int), .pointer (some ⟨g2, 5, none⟩), .pointer (some ⟨g2, 6, none⟩), .slice tp O.length tc, .int .i64 (i : Int), eaddr tp (i * 1), .slice ((O[i]!).p) ((O[i]!).X.length) ((O[i]!).c), .int .i64 (((O[i]!).X.length : Nat) : Int), .bool false, .slice zk11.p ((O[i]!).X.length) zk11.c, .int .i64 (((O[i]!).X.length : Nat) : Int), .int .i64 (k : Int), u89, u90, u91, u92, u93, u94, u95, u96, u97, u98, u99, u100, u101, u102, u103, u104, u105, u106], defers := [] } : Act)) (fun (zz : Nat × Value × Value × Value × Value × Value × Value × Value × Value × Value × Value × Value × Value × Value × Value × Value × Value × Value × Value × Value) => match zz with | ⟨k, u4, u8, u89, u90, u91, u92, u93, u94, u95, u96, u97, u98, u99, u100, u101, u102, u103, u104, u105⟩ => ⟨g10, #[.int .i64 (((O[i]!).X.length : Nat) : Int), .int .i64 (pad (O[i]!).X 0), .int .i64 (pad (O[i]!).X 1), .int .i64 (pad (O[i]!).X 2), .int .i64 (pad (O[i]!).X 3), .int .i64 (pad (O[i]!).X 4), .int .i64 (pad (O[i]!).X 5), .int .i64 (pad (O[i]!).X 6), .int .i64 (pad (O[i]!).X 7), .int .i64 (pad (O[i]!).X 8), .int .i64 (pad (O[i]!).X 9), .int .i64 (pad (O[i]!).X 10), .int .i64 (pad (O[i]!).X 11)], 92⟩ :: ⟨g2, #[.int .i64 n, .int .i64 g0, .int .i64 a, .int .i64 b, .int .i64 m, .int .i64 f, .slice tp O.length tc], 44⟩ :: ⟨g1, #[.bool true, .int .i64 g0, .int .i64 a, .int .i64 b, .int .i64 m, .int .i64 f, .slice ps O.length cs], 38⟩ :: zk11.N) (fun (zz : Nat × Value × Value × Value × Value × Value × Value × Value × Value × Value × Value × Value × Value × Value × Value × Value × Value × Value × Value × Value) => match zz with | ⟨k, u4, u8, u89, u90, u91, u92, u93, u94, u95, u96, u97, u98, u99, u100, u101, u102, u103, u104, u105⟩ => k ≤ (O[i]!).X.length) (fun (zz : Nat × Value × Value × Value × Value × Value × Value × Value × Value × Value × Value × Value × Value × Value × Value × Value × Value × Value × Value × Value) => match zz with | ⟨k, u4, u8, u89, u90, u91, u92, u93, u94, u95, u96, u97, u98, u99, u100, u101, u102, u103, u104, u105⟩ => (O[i]!).X.length - k) ⟨0, _, _, _, _, _, _, _, _, _, _, _, _, _, _, _, _, _, _, _⟩ (by (try dsimp only); omega) rfl (List.Sublist.cons_cons _ (List.Sublist.cons_cons _ (List.Sublist.cons_cons _ (List.Sublist.refl _)))) ?_
   rintro ⟨k, u4, u8, u89, u90, u91, u92, u93, u94, u95, u96, u97, u98, u99, u100, u101, u102, u103, u104, u105⟩ hφ
   (try dsimp only at hφ ⊢)
   refine wc_seq ?_
   refine wc_region ?_
   refine wl_val (.bool (decide ((k : Int) < (((O[i]!).X.length : Nat) : Int)))) rfl (fun w => run_cmp rfl rfl rfl Try.underlying3 rfl w) ?_
   simp only [Act.put, Xa, Xz, Xs]
   refine wl_nil ?_
   refine we_then ?_
   refine wc_seq ?_
   cases h12 : (decide ((k : Int) < (((O[i]!).X.length : Nat) : Int)))
   ·
    skip
    have p12 : ¬ ((k : Int) < (((O[i]!).X.length : Nat) : Int)) := of_decide_eq_false h12
    refine wc_false rfl ?_
    refine wc_exit ?_
    refine we_then_exit ?_
    refine we_then_exit ?_
    refine we_in_here ?_
    refine we_in ?_
    refine we_then ?_
    refine wc_region ?_
    refine wl_val (.int .i64 ((i + 1 : Nat) : Int)) rfl (fun w => run_nat (X := i) (Y := 1) (Z := i + 1) rfl rfl rfl rfl (by omega) w) ?_
    simp only [Act.put, Xa, Xz, Xs]
    refine wl_val (.int .i64 ((i + 1 : Nat) : Int)) rfl (fun _ => rfl) ?_
    simp only [Act.put, Xa, Xz, Xs]
    refine wl_nil ?_
    exact we_meet ⟨(i + 1), _, _, _, _, _, _, _, _, _, _, _, _, _, _, _, _, _, _, _, _, _, _, _, _, _, _, _, _, _, _, _, _, _, _, _, _, _, _, _, _, _, _⟩ ⟨by (try dsimp only); omega, by (try dsimp only); omega⟩ rfl (List.Sublist.cons _ (List.Sublist.cons_cons _ (List.Sublist.cons_cons _ (List.nil_sublist _))))
   ·
    skip
    have p12 : (k : Int) < (((O[i]!).X.length : Nat) : Int) := of_decide_eq_true h12
    refine wc_true rfl ?_
    refine wc_skip ?_
    refine we_then ?_
    refine wc_seq ?_
    refine wc_block ?_
    refine wc_seq ?_
    refine wc_region ?_
    refine wl_val (.int .i64 (k : Int)) rfl (fun _ => rfl) ?_
    simp only [Act.put, Xa, Xz, Xs]
    refine wl_val (.int .i64 (k : Int)) rfl (fun _ => rfl) ?_
    simp only [Act.put, Xa, Xz, Xs]
    refine wl_nil ?_
    refine we_then ?_
    refine wc_seq ?_
    refine wc_draw [.late, .late, .plain, .plain, .late, .late, .plain, .late, .plain, .plain, .late, .plain, .plain, .late] none [] 107 (by kernel_rfl) rfl (by kernel_rfl) (by kernel_rfl) ?_
    refine ws_late (.slice zk11.p ((O[i]!).X.length) zk11.c) rfl rfl (fun _ => rfl) ?_
    simp only [Nat.reduceAdd, Act.put, Xa, Xz, Xs]
    refine ws_late (.int .i64 (k : Int)) rfl rfl (fun _ => rfl) ?_
    simp only [Nat.reduceAdd, Act.put, Xa, Xz, Xs]
    refine ws_read (eaddr zk11.p (k * 1)) rfl rfl (er_index k 1 (sl_held k11 (List.Sublist.cons _ (List.Sublist.cons _ (List.Sublist.cons _ (List.Sublist.refl _))))) rfl rfl rfl rfl (by omega) (flat_length (enc := enc1) (size := 1) (fun _ => rfl) _) (by decide) Try.underlying63 (by kernel_rfl)) ?_
    simp only [Nat.reduceAdd, Act.put, Xa, Xz, Xs]
    refine ws_read (.int .i64 (((O[i]!).X)[k]!)) rfl rfl (er_cell (k * 1) (.int .i64 (((O[i]!).X)[k]!)) (sl_held k11 (List.Sublist.cons _ (List.Sublist.cons _ (List.Sublist.cons _ (List.Sublist.refl _))))) rfl rfl (flat_cell (enc := enc1) (fun _ => rfl) ((O[i]!).X) k 0 (by omega) (by decide)) Try.isAgg3) ?_
    simp only [Nat.reduceAdd, Act.put, Xa, Xz, Xs]
    refine ws_late (.pointer (some ⟨g2, 5, none⟩)) rfl rfl (fun _ => by go_simp) ?_
    simp only [Nat.reduceAdd, Act.put, Xa, Xz, Xs]
    refine ws_late (.pointer (some ⟨g2, 6, none⟩)) rfl rfl (fun _ => by go_simp) ?_
    simp only [Nat.reduceAdd, Act.put, Xa, Xz, Xs]
    refine ws_cell 40 (.tmp 96) (.slice tp O.length tc) (own_row 1 rfl) rfl rfl rfl rfl rfl Try.isAgg40 ?_
    simp only [Nat.reduceAdd, Act.put, Xa, Xz, Xs]
    refine ws_late (.int .i64 (i : Int)) rfl rfl (fun _ => rfl) ?_
    simp only [Nat.reduceAdd, Act.put, Xa, Xz, Xs]
    refine ws_read (eaddr tp (i * 1)) rfl rfl (er_index i 1 (sl_old hT) rfl rfl rfl rfl (by omega) (flat_length (enc := ix) (size := 1) (fun _ => rfl) _) (by decide) Try.underlying40 (by kernel_rfl)) ?_
    simp only [Nat.reduceAdd, Act.put, Xa, Xz, Xs]
    refine ws_read (.slice ((O[i]!).p) ((O[i]!).X.length) ((O[i]!).c)) rfl rfl (er_cell (i * 1) (.slice ((O[i]!).p) ((O[i]!).X.length) ((O[i]!).c)) (sl_old hT) rfl rfl (flat_cell (enc := ix) (fun _ => rfl) O i 0 (by omega) (by decide)) Try.isAgg63) ?_
    simp only [Nat.reduceAdd, Act.put, Xa, Xz, Xs]
    refine ws_late (.int .i64 (k : Int)) rfl rfl (fun _ => rfl) ?_
    simp only [Nat.reduceAdd, Act.put, Xa, Xz, Xs]
    refine ws_read (eaddr ((O[i]!).p) (k * 1)) rfl rfl (er_index k 1 (sl_old (ix_at hO (by omega)).rd) rfl rfl rfl rfl (by omega) (flat_length (enc := enc1) (size := 1) (fun _ => rfl) _) (by decide) Try.underlying63 (by kernel_rfl)) ?_
    simp only [Nat.reduceAdd, Act.put, Xa, Xz, Xs]
    refine ws_read (.int .i64 (((O[i]!).X)[k]!)) rfl rfl (er_cell (k * 1) (.int .i64 (((O[i]!).X)[k]!)) (sl_old (ix_at hO (by omega)).rd) rfl rfl (flat_cell (enc := enc1) (fun _ => rfl) ((O[i]!).X) k 0 (by omega) (by decide)) Try.isAgg3) ?_
    simp only [Nat.reduceAdd, Act.put, Xa, Xz, Xs]
    refine ws_late (.bool false) rfl rfl (fun w => run_cmp (b := false) rfl rfl rfl Try.underlying3 (by simp [cmpOf]) w) ?_
    simp only [Nat.reduceAdd, Act.put, Xa, Xz, Xs]
    refine ws_nil [] trivial (by simp) ?_
    intro ps13
    simp only [fin, List.foldl_nil, List.map, List.nil_append]
    refine we_then ?_
    refine wc_false rfl ?_
    refine wc_skip ?_
    refine we_in ?_
    refine we_then ?_
    refine wc_region ?_
    refine wl_val (.int .i64 ((k + 1 : Nat) : Int)) rfl (fun w => run_nat (X := k) (Y := 1) (Z := k + 1) rfl rfl rfl rfl (by omega) w) ?_
    simp only [Act.put, Xa, Xz, Xs]
    refine wl_val (.int .i64 ((k + 1 : Nat) : Int)) rfl (fun _ => rfl) ?_
    simp only [Act.put, Xa, Xz, Xs]
    refine wl_nil ?_
    exact we_meet ⟨(k + 1), _, _, _, _, _, _, _, _, _, _, _, _, _, _, _, _, _, _, _⟩ ⟨by (try dsimp only); omega, by (try dsimp only); omega⟩ rfl (List.Sublist.cons_cons _ (List.Sublist.cons_cons _ (List.Sublist.cons_cons _ (List.Sublist.refl _))))
theorem same_any21 (G : List Sg) (P : Mv) (Q : Mr) (w : World) (h : Eqs P Q) (hP : Reads w P.p (flat rt P.X)) (hT : Reads w Q.p (flat ix Q.O)) (hO : OkI w Q.O) (hR : ∀ x ∈ Q.O, RtOk G x.X) (hn : Q.O.length ≤ 16) :
  Calls Try.prog 12 #[.agg #[.bool P.on, .int .i64 P.gi, .int .i64 P.lo, .int .i64 P.hi, .int .i64 P.est, .int .i64 P.F, .slice P.p P.X.length P.c], .agg #[.int .i64 Q.on, .int .i64 Q.gi, .int .i64 Q.lo, .int .i64 Q.hi, .int .i64 Q.est, .int .i64 Q.F, .slice Q.p Q.O.length Q.c]] w fun e w' => e = .returned (.bool true) ∧ Below w.heap.size w w' := by
 rw [h.len, h.on, h.gi, h.lo, h.hi, h.est, h.F]
 exact same_in G Q.O Q.on Q.gi Q.lo Q.hi Q.est Q.F P.p Q.p P.c Q.c w (by rw [← flat_rti, ← h.X]; exact hP) hT hO hR hn
end Go.Proofs.Ytbacchdkankioaa.Plla
