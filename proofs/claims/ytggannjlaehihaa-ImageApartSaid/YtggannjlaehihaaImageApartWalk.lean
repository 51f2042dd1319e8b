/-
  ImageApart: the law's walk. No condition.
-/
import Derived.Test.YtggannjlaehihaaImlw
namespace Go.Proofs.Ytggannjlaehihaa.Walks
open Go.ChangeShapes Go.WideShapes Go.ChangeAt Go.RowKit
open Arr Steady Sx Sw Sl Sb Sc Si Sj Sk Sh Shh Cr Fr Vs Gr Tk Tkh Tkl Img Imp Imo Imref Imrefo Imput Imb Imsame Imc Tkrefs12 Imlw
set_option linter.unusedVariables false
set_option linter.unusedSimpArgs false
set_option maxRecDepth 100000

set_option maxHeartbeats 8000000 in
theorem imageApart_walk (G : List Sg) (H : List Gp) (p q : Option Addr) (c d : Nat) (K : List Sg) (J : List Gp) (p' q' : Option Addr) (c' d' : Nat) (w : World) (hS : Reads w p (flat sg G)) (hG : OkS w G) (hH : Reads w q (flat gp H)) (hn : G.length ≤ 140737488355328) (hm : H.length ≤ 140737488355328) (hcc : G.length ≤ c) (hcd : H.length ≤ d) (kS : Reads w p' (flat sg K)) (hK : OkS w K) (kH : Reads w q' (flat gp J)) (kn : K.length ≤ 140737488355328) (km : J.length ≤ 140737488355328) (kcc : K.length ≤ c') (kcd : J.length ≤ d') :
    Calls Try.prog 6 #[.agg #[.slice p G.length c, .slice q H.length d], .agg #[.slice p' K.length c', .slice q' J.length d']] w fun e w' => e = .returned (.bool true) ∧ Below w.heap.size w w' := by
  refine calls_sx Try.func6 rfl ?_
  simp only [Try.ntmps6, List.size_toArray, List.length_cons, List.length_nil, Nat.reduceAdd, Nat.reduceSub, Array.replicate_succ, Array.replicate_zero, List.push_toArray, List.append_toArray, List.nil_append, List.cons_append]
  refine wc_seq ?_
  refine wc_region ?_
  refine wl_new 25 (#[.slice p G.length c, .slice q H.length d]) rfl (fun _ => by go_simp) ?_
  intro g1
  simp only [Act.put, Xa, Xz, Xs]
  refine wl_new 25 (#[.slice p' K.length c', .slice q' J.length d']) rfl (fun _ => by go_simp) ?_
  intro g2
  simp only [Act.put, Xa, Xz, Xs]
  refine wl_val (.bool false) rfl (fun _ => rfl) ?_
  simp only [Act.put, Xa, Xz, Xs]
  refine wl_nil ?_
  refine we_then ?_
  refine wc_seq ?_
  refine wc_seq ?_
  refine wc_region ?_
  refine wl_call 7 #[] (.bool true) rfl (fun _ => by go_simp) (fun W => Imlw.anchor_any W) ?_
  simp only [Act.put, Xa, Xz, Xs]
  refine wl_val (.bool false) rfl (fun _ => by go_simp) ?_
  simp only [Act.put, Xa, Xz, Xs]
  refine wl_nil ?_
  refine we_then ?_
  refine wc_false rfl ?_
  refine wc_skip ?_
  refine we_then ?_
  refine wc_seq ?_
  refine wc_seq ?_
  refine wc_region ?_
  refine wl_load 25 (.tmp 2) (own_row 1 rfl) rfl rfl rfl Try.underlying25 rfl (by kernel_rfl) ?_
  simp only [Act.put, Xa, Xz, Xs]
  refine wl_call_at 8 #[.agg #[.slice p G.length c, .slice q H.length d]] (.bool (greatC G H)) rfl (fun _ => by go_simp) (fun W hE => great_any G H _ _ _ _ W ((sl_old hS) W hE) (oks_below hG hE.below) ((sl_old hH) W hE) hn hm) ?_
  simp only [Act.put, Xa, Xz, Xs]
  refine wl_val (.bool (greatC G H)) rfl (fun _ => rfl) ?_
  simp only [Act.put, Xa, Xz, Xs]
  cases h3 : (greatC G H)
  · skip
    refine wl_load 25 (.tmp 3) (own_row 0 rfl) rfl rfl rfl Try.underlying25 rfl (by kernel_rfl) ?_
    simp only [Act.put, Xa, Xz, Xs]
    refine wl_call_at 8 #[.agg #[.slice p' K.length c', .slice q' J.length d']] (.bool (greatC K J)) rfl (fun _ => by go_simp) (fun W hE => great_any K J _ _ _ _ W ((sl_old kS) W hE) (oks_below hK hE.below) ((sl_old kH) W hE) kn km) ?_
    simp only [Act.put, Xa, Xz, Xs]
    refine wl_val (.bool (greatC K J)) rfl (fun _ => rfl) ?_
    simp only [Act.put, Xa, Xz, Xs]
    refine wl_nil ?_
    refine we_then ?_
    cases h4 : (greatC K J)
    · skip
      refine wc_false rfl ?_
      refine wc_skip ?_
      refine we_then ?_
      refine wc_seq ?_
      refine wc_region ?_
      refine wl_load 25 (.tmp 2) (own_row 1 rfl) rfl rfl rfl Try.underlying25 rfl (by kernel_rfl) ?_
      simp only [Act.put, Xa, Xz, Xs]
      cases h6 : (decide ((chk G H).1 = 0))
      · skip
        have p6 : ¬ ((chk G H).1 = 0) := of_decide_eq_false h6
        refine wl_call_open (ι := Bs) (fun zz => match zz with | zk7 => ⟨g2, #[.slice p' K.length c', .slice q' J.length d'], 25⟩ :: ⟨g1, #[.slice p G.length c, .slice q H.length d], 25⟩ :: zk7.N) 9 #[.agg #[.slice p G.length c, .slice q H.length d]] (fun zz => match zz with | zk7 => .tuple #[.slice zk7.p 0 zk7.c, .int .i64 51]) (fun zz => match zz with | zk7 => zk7.N) (fun zz => match zz with | zk7 => BsOk [] zk7) (by rintro zk7; simp) rfl (fun _ => by go_simp) (fun W hE => pack_no G H _ _ _ _ W ((sl_old hS) W hE) (oks_below hG hE.below) ((sl_old hH) W hE) hn hm (of_decide_eq_false h6)) ?_
        rintro zk7 k7
        (try dsimp only)
        simp only [Act.put, Xa, Xz, Xs]
        refine wl_val (.tuple #[.slice zk7.p 0 zk7.c, .int .i64 51]) rfl (fun _ => rfl) ?_
        simp only [Act.put, Xa, Xz, Xs]
        refine wl_val (.slice zk7.p 0 zk7.c) rfl (fun _ => by go_simp) ?_
        simp only [Act.put, Xa, Xz, Xs]
        refine wl_val (.int .i64 51) rfl (fun _ => by go_simp) ?_
        simp only [Act.put, Xa, Xz, Xs]
        refine wl_val (.slice zk7.p 0 zk7.c) rfl (fun _ => rfl) ?_
        simp only [Act.put, Xa, Xz, Xs]
        refine wl_val (.int .i64 51) rfl (fun _ => rfl) ?_
        simp only [Act.put, Xa, Xz, Xs]
        refine wl_nil ?_
        refine we_then ?_
        refine wc_seq ?_
        refine wc_region ?_
        refine wl_load 25 (.tmp 3) (own_row 0 rfl) rfl rfl rfl Try.underlying25 rfl (by kernel_rfl) ?_
        simp only [Act.put, Xa, Xz, Xs]
        cases h9 : (decide ((chk K J).1 = 0))
        · skip
          have p9 : ¬ ((chk K J).1 = 0) := of_decide_eq_false h9
          refine wl_call_open (ι := Bs) (fun zz => match zz with | zk10 => ⟨g2, #[.slice p' K.length c', .slice q' J.length d'], 25⟩ :: ⟨g1, #[.slice p G.length c, .slice q H.length d], 25⟩ :: (zk7.N ++ zk10.N)) 9 #[.agg #[.slice p' K.length c', .slice q' J.length d']] (fun zz => match zz with | zk10 => .tuple #[.slice zk10.p 0 zk10.c, .int .i64 51]) (fun zz => match zz with | zk10 => zk10.N) (fun zz => match zz with | zk10 => BsOk [] zk10) (by rintro zk10; simp) rfl (fun _ => by go_simp) (fun W hE => pack_no K J _ _ _ _ W ((sl_old kS) W hE) (oks_below hK hE.below) ((sl_old kH) W hE) kn km (of_decide_eq_false h9)) ?_
          rintro zk10 k10
          (try dsimp only)
          simp only [Act.put, Xa, Xz, Xs]
          refine wl_val (.tuple #[.slice zk10.p 0 zk10.c, .int .i64 51]) rfl (fun _ => rfl) ?_
          simp only [Act.put, Xa, Xz, Xs]
          refine wl_val (.slice zk10.p 0 zk10.c) rfl (fun _ => by go_simp) ?_
          simp only [Act.put, Xa, Xz, Xs]
          refine wl_val (.int .i64 51) rfl (fun _ => by go_simp) ?_
          simp only [Act.put, Xa, Xz, Xs]
          refine wl_val (.slice zk10.p 0 zk10.c) rfl (fun _ => rfl) ?_
          simp only [Act.put, Xa, Xz, Xs]
          refine wl_val (.int .i64 51) rfl (fun _ => rfl) ?_
          simp only [Act.put, Xa, Xz, Xs]
          refine wl_nil ?_
          refine we_then ?_
          refine wc_seq ?_
          refine wc_draw [.late, .late, .late, .late, .late, .late, .late, .late, .plain, .late, .plain, .late, .plain, .plain, .plain, .late, .late, .late] none [] 44 (by kernel_rfl) rfl (by kernel_rfl) (by kernel_rfl) ?_
          refine ws_late (.int .i64 51) rfl rfl (fun _ => rfl) ?_
          simp only [Nat.reduceAdd, Act.put, Xa, Xz, Xs]
          refine ws_late (.bool true) rfl rfl (fun w => run_cmp rfl rfl rfl Try.underlying29 rfl w) ?_
          simp only [Nat.reduceAdd, Act.put, Xa, Xz, Xs]
          refine ws_late (.bool true) rfl rfl (fun _ => rfl) ?_
          simp only [Nat.reduceAdd, Act.put, Xa, Xz, Xs]
          refine ws_skip_late rfl rfl ?_
          simp only [Nat.reduceAdd, Act.put, Xa, Xz, Xs]
          refine ws_skip_late rfl rfl ?_
          simp only [Nat.reduceAdd, Act.put, Xa, Xz, Xs]
          refine ws_late (.bool true) rfl rfl (fun _ => rfl) ?_
          simp only [Nat.reduceAdd, Act.put, Xa, Xz, Xs]
          refine ws_late (.bool true) rfl rfl (fun _ => rfl) ?_
          simp only [Nat.reduceAdd, Act.put, Xa, Xz, Xs]
          refine ws_skip_late rfl rfl ?_
          simp only [Nat.reduceAdd, Act.put, Xa, Xz, Xs]
          refine ws_skip rfl rfl ?_
          simp only [Nat.reduceAdd, Act.put, Xa, Xz, Xs]
          refine ws_skip_late rfl rfl ?_
          simp only [Nat.reduceAdd, Act.put, Xa, Xz, Xs]
          refine ws_skip rfl rfl ?_
          simp only [Nat.reduceAdd, Act.put, Xa, Xz, Xs]
          refine ws_skip_late rfl rfl ?_
          simp only [Nat.reduceAdd, Act.put, Xa, Xz, Xs]
          refine ws_skip rfl rfl ?_
          simp only [Nat.reduceAdd, Act.put, Xa, Xz, Xs]
          refine ws_skip rfl rfl ?_
          simp only [Nat.reduceAdd, Act.put, Xa, Xz, Xs]
          refine ws_skip rfl rfl ?_
          simp only [Nat.reduceAdd, Act.put, Xa, Xz, Xs]
          refine ws_skip_late rfl rfl ?_
          simp only [Nat.reduceAdd, Act.put, Xa, Xz, Xs]
          refine ws_late (.bool true) rfl rfl (fun _ => rfl) ?_
          simp only [Nat.reduceAdd, Act.put, Xa, Xz, Xs]
          refine ws_late (.bool true) rfl rfl (fun _ => rfl) ?_
          simp only [Nat.reduceAdd, Act.put, Xa, Xz, Xs]
          refine ws_nil [] trivial (by simp) ?_
          intro ps11
          simp only [fin, List.foldl_nil, List.map, List.nil_append]
          refine we_then ?_
          refine wc_ret ?_
          refine we_ret1 (.bool true) rfl rfl rfl (fun w1 hE => ?_)
          exact ⟨rfl, hE.below⟩
        · skip
          have p9 : (chk K J).1 = 0 := of_decide_eq_true h9
          refine wl_call_open (ι := Bs) (fun zz => match zz with | zk12 => ⟨g2, #[.slice p' K.length c', .slice q' J.length d'], 25⟩ :: ⟨g1, #[.slice p G.length c, .slice q H.length d], 25⟩ :: (zk7.N ++ zk12.N)) 9 #[.agg #[.slice p' K.length c', .slice q' J.length d']] (fun zz => match zz with | zk12 => .tuple #[.slice zk12.p ((img (K.map dat) J).length) zk12.c, .int .i64 0]) (fun zz => match zz with | zk12 => zk12.N) (fun zz => match zz with | zk12 => BsOk (img (K.map dat) J) zk12) (by rintro zk12; simp) rfl (fun _ => by go_simp) (fun W hE => pack_yes K J _ _ _ _ W ((sl_old kS) W hE) (oks_below hK hE.below) ((sl_old kH) W hE) kn km (of_decide_eq_true h9)) ?_
          rintro zk12 k12
          (try dsimp only)
          have fk12 := img_few (of_decide_eq_true h9)
          simp only [Act.put, Xa, Xz, Xs]
          refine wl_val (.tuple #[.slice zk12.p ((img (K.map dat) J).length) zk12.c, .int .i64 0]) rfl (fun _ => rfl) ?_
          simp only [Act.put, Xa, Xz, Xs]
          refine wl_val (.slice zk12.p ((img (K.map dat) J).length) zk12.c) rfl (fun _ => by go_simp) ?_
          simp only [Act.put, Xa, Xz, Xs]
          refine wl_val (.int .i64 0) rfl (fun _ => by go_simp) ?_
          simp only [Act.put, Xa, Xz, Xs]
          refine wl_val (.slice zk12.p ((img (K.map dat) J).length) zk12.c) rfl (fun _ => rfl) ?_
          simp only [Act.put, Xa, Xz, Xs]
          refine wl_val (.int .i64 0) rfl (fun _ => rfl) ?_
          simp only [Act.put, Xa, Xz, Xs]
          refine wl_nil ?_
          refine we_then ?_
          refine wc_seq ?_
          refine wc_draw [.late, .late, .late, .late, .late, .late, .late, .late, .plain, .late, .plain, .late, .plain, .plain, .plain, .late, .late, .late] none [] 44 (by kernel_rfl) rfl (by kernel_rfl) (by kernel_rfl) ?_
          refine ws_late (.int .i64 51) rfl rfl (fun _ => rfl) ?_
          simp only [Nat.reduceAdd, Act.put, Xa, Xz, Xs]
          refine ws_late (.bool true) rfl rfl (fun w => run_cmp rfl rfl rfl Try.underlying29 rfl w) ?_
          simp only [Nat.reduceAdd, Act.put, Xa, Xz, Xs]
          refine ws_late (.bool true) rfl rfl (fun _ => rfl) ?_
          simp only [Nat.reduceAdd, Act.put, Xa, Xz, Xs]
          refine ws_skip_late rfl rfl ?_
          simp only [Nat.reduceAdd, Act.put, Xa, Xz, Xs]
          refine ws_skip_late rfl rfl ?_
          simp only [Nat.reduceAdd, Act.put, Xa, Xz, Xs]
          refine ws_late (.bool true) rfl rfl (fun _ => rfl) ?_
          simp only [Nat.reduceAdd, Act.put, Xa, Xz, Xs]
          refine ws_late (.bool true) rfl rfl (fun _ => rfl) ?_
          simp only [Nat.reduceAdd, Act.put, Xa, Xz, Xs]
          refine ws_skip_late rfl rfl ?_
          simp only [Nat.reduceAdd, Act.put, Xa, Xz, Xs]
          refine ws_skip rfl rfl ?_
          simp only [Nat.reduceAdd, Act.put, Xa, Xz, Xs]
          refine ws_skip_late rfl rfl ?_
          simp only [Nat.reduceAdd, Act.put, Xa, Xz, Xs]
          refine ws_skip rfl rfl ?_
          simp only [Nat.reduceAdd, Act.put, Xa, Xz, Xs]
          refine ws_skip_late rfl rfl ?_
          simp only [Nat.reduceAdd, Act.put, Xa, Xz, Xs]
          refine ws_skip rfl rfl ?_
          simp only [Nat.reduceAdd, Act.put, Xa, Xz, Xs]
          refine ws_skip rfl rfl ?_
          simp only [Nat.reduceAdd, Act.put, Xa, Xz, Xs]
          refine ws_skip rfl rfl ?_
          simp only [Nat.reduceAdd, Act.put, Xa, Xz, Xs]
          refine ws_skip_late rfl rfl ?_
          simp only [Nat.reduceAdd, Act.put, Xa, Xz, Xs]
          refine ws_late (.bool true) rfl rfl (fun _ => rfl) ?_
          simp only [Nat.reduceAdd, Act.put, Xa, Xz, Xs]
          refine ws_late (.bool true) rfl rfl (fun _ => rfl) ?_
          simp only [Nat.reduceAdd, Act.put, Xa, Xz, Xs]
          refine ws_nil [] trivial (by simp) ?_
          intro ps13
          simp only [fin, List.foldl_nil, List.map, List.nil_append]
          refine we_then ?_
          refine wc_ret ?_
          refine we_ret1 (.bool true) rfl rfl rfl (fun w1 hE => ?_)
          exact ⟨rfl, hE.below⟩
      · skip
        have p6 : (chk G H).1 = 0 := of_decide_eq_true h6
        refine wl_call_open (ι := Bs) (fun zz => match zz with | zk14 => ⟨g2, #[.slice p' K.length c', .slice q' J.length d'], 25⟩ :: ⟨g1, #[.slice p G.length c, .slice q H.length d], 25⟩ :: zk14.N) 9 #[.agg #[.slice p G.length c, .slice q H.length d]] (fun zz => match zz with | zk14 => .tuple #[.slice zk14.p ((img (G.map dat) H).length) zk14.c, .int .i64 0]) (fun zz => match zz with | zk14 => zk14.N) (fun zz => match zz with | zk14 => BsOk (img (G.map dat) H) zk14) (by rintro zk14; simp) rfl (fun _ => by go_simp) (fun W hE => pack_yes G H _ _ _ _ W ((sl_old hS) W hE) (oks_below hG hE.below) ((sl_old hH) W hE) hn hm (of_decide_eq_true h6)) ?_
        rintro zk14 k14
        (try dsimp only)
        have fk14 := img_few (of_decide_eq_true h6)
        simp only [Act.put, Xa, Xz, Xs]
        refine wl_val (.tuple #[.slice zk14.p ((img (G.map dat) H).length) zk14.c, .int .i64 0]) rfl (fun _ => rfl) ?_
        simp only [Act.put, Xa, Xz, Xs]
        refine wl_val (.slice zk14.p ((img (G.map dat) H).length) zk14.c) rfl (fun _ => by go_simp) ?_
        simp only [Act.put, Xa, Xz, Xs]
        refine wl_val (.int .i64 0) rfl (fun _ => by go_simp) ?_
        simp only [Act.put, Xa, Xz, Xs]
        refine wl_val (.slice zk14.p ((img (G.map dat) H).length) zk14.c) rfl (fun _ => rfl) ?_
        simp only [Act.put, Xa, Xz, Xs]
        refine wl_val (.int .i64 0) rfl (fun _ => rfl) ?_
        simp only [Act.put, Xa, Xz, Xs]
        refine wl_nil ?_
        refine we_then ?_
        refine wc_seq ?_
        refine wc_region ?_
        refine wl_load 25 (.tmp 3) (own_row 0 rfl) rfl rfl rfl Try.underlying25 rfl (by kernel_rfl) ?_
        simp only [Act.put, Xa, Xz, Xs]
        cases h16 : (decide ((chk K J).1 = 0))
        · skip
          have p16 : ¬ ((chk K J).1 = 0) := of_decide_eq_false h16
          refine wl_call_open (ι := Bs) (fun zz => match zz with | zk17 => ⟨g2, #[.slice p' K.length c', .slice q' J.length d'], 25⟩ :: ⟨g1, #[.slice p G.length c, .slice q H.length d], 25⟩ :: (zk14.N ++ zk17.N)) 9 #[.agg #[.slice p' K.length c', .slice q' J.length d']] (fun zz => match zz with | zk17 => .tuple #[.slice zk17.p 0 zk17.c, .int .i64 51]) (fun zz => match zz with | zk17 => zk17.N) (fun zz => match zz with | zk17 => BsOk [] zk17) (by rintro zk17; simp) rfl (fun _ => by go_simp) (fun W hE => pack_no K J _ _ _ _ W ((sl_old kS) W hE) (oks_below hK hE.below) ((sl_old kH) W hE) kn km (of_decide_eq_false h16)) ?_
          rintro zk17 k17
          (try dsimp only)
          simp only [Act.put, Xa, Xz, Xs]
          refine wl_val (.tuple #[.slice zk17.p 0 zk17.c, .int .i64 51]) rfl (fun _ => rfl) ?_
          simp only [Act.put, Xa, Xz, Xs]
          refine wl_val (.slice zk17.p 0 zk17.c) rfl (fun _ => by go_simp) ?_
          simp only [Act.put, Xa, Xz, Xs]
          refine wl_val (.int .i64 51) rfl (fun _ => by go_simp) ?_
          simp only [Act.put, Xa, Xz, Xs]
          refine wl_val (.slice zk17.p 0 zk17.c) rfl (fun _ => rfl) ?_
          simp only [Act.put, Xa, Xz, Xs]
          refine wl_val (.int .i64 51) rfl (fun _ => rfl) ?_
          simp only [Act.put, Xa, Xz, Xs]
          refine wl_nil ?_
          refine we_then ?_
          refine wc_seq ?_
          refine wc_draw [.late, .late, .late, .late, .late, .late, .late, .late, .plain, .late, .plain, .late, .plain, .plain, .plain, .late, .late, .late] none [] 44 (by kernel_rfl) rfl (by kernel_rfl) (by kernel_rfl) ?_
          refine ws_late (.int .i64 0) rfl rfl (fun _ => rfl) ?_
          simp only [Nat.reduceAdd, Act.put, Xa, Xz, Xs]
          refine ws_late (.bool false) rfl rfl (fun w => run_cmp rfl rfl rfl Try.underlying29 rfl w) ?_
          simp only [Nat.reduceAdd, Act.put, Xa, Xz, Xs]
          refine ws_late (.bool false) rfl rfl (fun _ => rfl) ?_
          simp only [Nat.reduceAdd, Act.put, Xa, Xz, Xs]
          refine ws_late (.int .i64 51) rfl rfl (fun _ => rfl) ?_
          simp only [Nat.reduceAdd, Act.put, Xa, Xz, Xs]
          refine ws_late (.bool true) rfl rfl (fun w => run_cmp rfl rfl rfl Try.underlying29 rfl w) ?_
          simp only [Nat.reduceAdd, Act.put, Xa, Xz, Xs]
          refine ws_late (.bool true) rfl rfl (fun _ => rfl) ?_
          simp only [Nat.reduceAdd, Act.put, Xa, Xz, Xs]
          refine ws_late (.bool true) rfl rfl (fun _ => rfl) ?_
          simp only [Nat.reduceAdd, Act.put, Xa, Xz, Xs]
          refine ws_skip_late rfl rfl ?_
          simp only [Nat.reduceAdd, Act.put, Xa, Xz, Xs]
          refine ws_skip rfl rfl ?_
          simp only [Nat.reduceAdd, Act.put, Xa, Xz, Xs]
          refine ws_skip_late rfl rfl ?_
          simp only [Nat.reduceAdd, Act.put, Xa, Xz, Xs]
          refine ws_skip rfl rfl ?_
          simp only [Nat.reduceAdd, Act.put, Xa, Xz, Xs]
          refine ws_skip_late rfl rfl ?_
          simp only [Nat.reduceAdd, Act.put, Xa, Xz, Xs]
          refine ws_skip rfl rfl ?_
          simp only [Nat.reduceAdd, Act.put, Xa, Xz, Xs]
          refine ws_skip rfl rfl ?_
          simp only [Nat.reduceAdd, Act.put, Xa, Xz, Xs]
          refine ws_skip rfl rfl ?_
          simp only [Nat.reduceAdd, Act.put, Xa, Xz, Xs]
          refine ws_skip_late rfl rfl ?_
          simp only [Nat.reduceAdd, Act.put, Xa, Xz, Xs]
          refine ws_late (.bool true) rfl rfl (fun _ => rfl) ?_
          simp only [Nat.reduceAdd, Act.put, Xa, Xz, Xs]
          refine ws_late (.bool true) rfl rfl (fun _ => rfl) ?_
          simp only [Nat.reduceAdd, Act.put, Xa, Xz, Xs]
          refine ws_nil [] trivial (by simp) ?_
          intro ps18
          simp only [fin, List.foldl_nil, List.map, List.nil_append]
          refine we_then ?_
          refine wc_ret ?_
          refine we_ret1 (.bool true) rfl rfl rfl (fun w1 hE => ?_)
          exact ⟨rfl, hE.below⟩
        · skip
          have p16 : (chk K J).1 = 0 := of_decide_eq_true h16
          refine wl_call_open (ι := Bs) (fun zz => match zz with | zk19 => ⟨g2, #[.slice p' K.length c', .slice q' J.length d'], 25⟩ :: ⟨g1, #[.slice p G.length c, .slice q H.length d], 25⟩ :: (zk14.N ++ zk19.N)) 9 #[.agg #[.slice p' K.length c', .slice q' J.length d']] (fun zz => match zz with | zk19 => .tuple #[.slice zk19.p ((img (K.map dat) J).length) zk19.c, .int .i64 0]) (fun zz => match zz with | zk19 => zk19.N) (fun zz => match zz with | zk19 => BsOk (img (K.map dat) J) zk19) (by rintro zk19; simp) rfl (fun _ => by go_simp) (fun W hE => pack_yes K J _ _ _ _ W ((sl_old kS) W hE) (oks_below hK hE.below) ((sl_old kH) W hE) kn km (of_decide_eq_true h16)) ?_
          rintro zk19 k19
          (try dsimp only)
          have fk19 := img_few (of_decide_eq_true h16)
          simp only [Act.put, Xa, Xz, Xs]
          refine wl_val (.tuple #[.slice zk19.p ((img (K.map dat) J).length) zk19.c, .int .i64 0]) rfl (fun _ => rfl) ?_
          simp only [Act.put, Xa, Xz, Xs]
          refine wl_val (.slice zk19.p ((img (K.map dat) J).length) zk19.c) rfl (fun _ => by go_simp) ?_
          simp only [Act.put, Xa, Xz, Xs]
          refine wl_val (.int .i64 0) rfl (fun _ => by go_simp) ?_
          simp only [Act.put, Xa, Xz, Xs]
          refine wl_val (.slice zk19.p ((img (K.map dat) J).length) zk19.c) rfl (fun _ => rfl) ?_
          simp only [Act.put, Xa, Xz, Xs]
          refine wl_val (.int .i64 0) rfl (fun _ => rfl) ?_
          simp only [Act.put, Xa, Xz, Xs]
          refine wl_nil ?_
          refine we_then ?_
          refine wc_seq ?_
          refine wc_draw [.late, .late, .late, .late, .late, .late, .late, .late, .plain, .late, .plain, .late, .plain, .plain, .plain, .late, .late, .late] none [] 44 (by kernel_rfl) rfl (by kernel_rfl) (by kernel_rfl) ?_
          refine ws_late (.int .i64 0) rfl rfl (fun _ => rfl) ?_
          simp only [Nat.reduceAdd, Act.put, Xa, Xz, Xs]
          refine ws_late (.bool false) rfl rfl (fun w => run_cmp rfl rfl rfl Try.underlying29 rfl w) ?_
          simp only [Nat.reduceAdd, Act.put, Xa, Xz, Xs]
          refine ws_late (.bool false) rfl rfl (fun _ => rfl) ?_
          simp only [Nat.reduceAdd, Act.put, Xa, Xz, Xs]
          refine ws_late (.int .i64 0) rfl rfl (fun _ => rfl) ?_
          simp only [Nat.reduceAdd, Act.put, Xa, Xz, Xs]
          refine ws_late (.bool false) rfl rfl (fun w => run_cmp rfl rfl rfl Try.underlying29 rfl w) ?_
          simp only [Nat.reduceAdd, Act.put, Xa, Xz, Xs]
          refine ws_late (.bool false) rfl rfl (fun _ => rfl) ?_
          simp only [Nat.reduceAdd, Act.put, Xa, Xz, Xs]
          refine ws_late (.bool false) rfl rfl (fun _ => rfl) ?_
          simp only [Nat.reduceAdd, Act.put, Xa, Xz, Xs]
          refine ws_late (.slice zk14.p ((img (G.map dat) H).length) zk14.c) rfl rfl (fun _ => rfl) ?_
          simp only [Nat.reduceAdd, Act.put, Xa, Xz, Xs]
          refine ws_read (.string (str (img (G.map dat) H))) rfl rfl (er_string (L := img (G.map dat) H) (sl_held k14.held (List.Sublist.cons _ (List.Sublist.cons _ (List.sublist_append_left _ _)))) rfl rfl rfl Try.underlying28 Try.underlying5 Try.underlying9) ?_
          simp only [Nat.reduceAdd, Act.put, Xa, Xz, Xs]
          refine ws_late (.slice zk19.p ((img (K.map dat) J).length) zk19.c) rfl rfl (fun _ => rfl) ?_
          simp only [Nat.reduceAdd, Act.put, Xa, Xz, Xs]
          refine ws_read (.string (str (img (K.map dat) J))) rfl rfl (er_string (L := img (K.map dat) J) (sl_held k19.held (List.Sublist.cons _ (List.Sublist.cons _ (List.sublist_append_of_sublist_right (List.Sublist.refl _))))) rfl rfl rfl Try.underlying28 Try.underlying5 Try.underlying9) ?_
          simp only [Nat.reduceAdd, Act.put, Xa, Xz, Xs]
          refine ws_late (.bool (decide (img (G.map dat) H = img (K.map dat) J))) rfl rfl (fun w => run_streq rfl rfl rfl rfl w) ?_
          simp only [Nat.reduceAdd, Act.put, Xa, Xz, Xs]
          refine ws_load 25 (.tmp 2) (own_row 1 rfl) rfl rfl rfl rfl Try.underlying25 rfl (by kernel_rfl) ?_
          simp only [Nat.reduceAdd, Act.put, Xa, Xz, Xs]
          refine ws_load 25 (.tmp 3) (own_row 0 rfl) rfl rfl rfl rfl Try.underlying25 rfl (by kernel_rfl) ?_
          simp only [Nat.reduceAdd, Act.put, Xa, Xz, Xs]
          refine ws_call_at 14 #[.agg #[.slice p G.length c, .slice q H.length d], .agg #[.slice p' K.length c', .slice q' J.length d']] (.bool (sameB G H K J)) rfl rfl (fun _ => by go_simp) (fun W hE => same_any G K H J _ _ _ _ _ _ _ _ W ((sl_old hS) W hE) (oks_below hG hE.below) ((sl_old hH) W hE) ((sl_old kS) W hE) (oks_below hK hE.below) ((sl_old kH) W hE) (by have := greatC_few h3; omega) (by have := greatC_few h3; omega)) ?_
          simp only [Nat.reduceAdd, Act.put, Xa, Xz, Xs]
          refine ws_late (.bool ((decide (img (G.map dat) H = img (K.map dat) J)) == (sameB G H K J))) rfl rfl (fun w => run_beq rfl rfl rfl Try.underlying4 rfl w) ?_
          simp only [Nat.reduceAdd, Act.put, Xa, Xz, Xs]
          refine ws_late (.bool ((decide (img (G.map dat) H = img (K.map dat) J)) == (sameB G H K J))) rfl rfl (fun _ => rfl) ?_
          simp only [Nat.reduceAdd, Act.put, Xa, Xz, Xs]
          refine ws_late (.bool ((decide (img (G.map dat) H = img (K.map dat) J)) == (sameB G H K J))) rfl rfl (fun _ => rfl) ?_
          simp only [Nat.reduceAdd, Act.put, Xa, Xz, Xs]
          refine ws_nil [] trivial (by simp) ?_
          intro ps20
          simp only [fin, List.foldl_nil, List.map, List.nil_append]
          refine we_then ?_
          refine wc_ret ?_
          refine we_ret1 (.bool ((decide (img (G.map dat) H = img (K.map dat) J)) == (sameB G H K J))) rfl rfl rfl (fun w1 hE => ?_)
          exact ⟨by rw [img_same (of_decide_eq_true h6) (of_decide_eq_true h16)]; simp, hE.below⟩
    · skip
      refine wc_true rfl ?_
      refine wc_seq ?_
      refine wc_region ?_
      refine wl_val (.bool true) rfl (fun _ => rfl) ?_
      simp only [Act.put, Xa, Xz, Xs]
      refine wl_nil ?_
      refine we_then ?_
      refine wc_ret ?_
      refine we_then_ret ?_
      refine we_ret1 (.bool true) rfl rfl rfl (fun w1 hE => ?_)
      exact ⟨rfl, hE.below⟩
  · skip
    refine wl_skip rfl ?_
    simp only [Act.put, Xa, Xz, Xs]
    refine wl_skip rfl ?_
    simp only [Act.put, Xa, Xz, Xs]
    refine wl_val (.bool true) rfl (fun _ => rfl) ?_
    simp only [Act.put, Xa, Xz, Xs]
    refine wl_nil ?_
    refine we_then ?_
    refine wc_true rfl ?_
    refine wc_seq ?_
    refine wc_region ?_
    refine wl_val (.bool true) rfl (fun _ => rfl) ?_
    simp only [Act.put, Xa, Xz, Xs]
    refine wl_nil ?_
    refine we_then ?_
    refine wc_ret ?_
    refine we_then_ret ?_
    refine we_ret1 (.bool true) rfl rfl rfl (fun w1 hE => ?_)
    exact ⟨rfl, hE.below⟩
end Go.Proofs.Ytggannjlaehihaa.Walks
