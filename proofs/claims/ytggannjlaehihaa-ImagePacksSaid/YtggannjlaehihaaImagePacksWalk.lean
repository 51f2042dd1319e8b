/-
  ImagePacks: the law's walk. No condition.
-/
import Derived.Test.YtggannjlaehihaaImlw
namespace Go.Proofs.Ytggannjlaehihaa.Walks
open Go.ChangeShapes Go.WideShapes Go.ChangeAt Go.RowKit
open Arr Steady Sx Sw Sl Sb Sc Si Sj Sk Sh Shh Cr Fr Vs Gr Tk Tkh Tkl Img Imp Imo Imref Imrefo Imput Imb Imsame Imc Tkrefs12 Imlw
set_option linter.unusedVariables false
set_option linter.unusedSimpArgs false
set_option maxRecDepth 100000

set_option maxHeartbeats 8000000 in
theorem imagePacks_walk (G : List Sg) (H : List Gp) (p q : Option Addr) (c d : Nat) (w : World) (hS : Reads w p (flat sg G)) (hG : OkS w G) (hH : Reads w q (flat gp H)) (hn : G.length ≤ 140737488355328) (hm : H.length ≤ 140737488355328) (hcc : G.length ≤ c) (hcd : H.length ≤ d) :
    Calls Try.prog 3 #[.agg #[.slice p G.length c, .slice q H.length d]] w fun e w' => e = .returned (.bool true) ∧ Below w.heap.size w w' := by
  refine calls_sx Try.func3 rfl ?_
  simp only [Try.ntmps3, List.size_toArray, List.length_cons, List.length_nil, Nat.reduceAdd, Nat.reduceSub, Array.replicate_succ, Array.replicate_zero, List.push_toArray, List.append_toArray, List.nil_append, List.cons_append]
  refine wc_seq ?_
  refine wc_region ?_
  refine wl_new 25 (#[.slice p G.length c, .slice q H.length d]) rfl (fun _ => by go_simp) ?_
  intro g1
  simp only [Act.put, Xa, Xz, Xs]
  refine wl_val (.bool false) rfl (fun _ => rfl) ?_
  simp only [Act.put, Xa, Xz, Xs]
  refine wl_nil ?_
  refine we_then ?_
  refine wc_seq ?_
  refine wc_seq ?_
  refine wc_region ?_
  refine wl_call 7 #[] (.bool true) rfl (fun _ => by go_simp) (fun W => Imlw.anchor_any W) ?_
  simp only [Act.put, Xa, Xz, Xs]
  refine wl_val (.bool false) rfl (fun _ => by go_simp) ?_
  simp only [Act.put, Xa, Xz, Xs]
  refine wl_nil ?_
  refine we_then ?_
  refine wc_false rfl ?_
  refine wc_skip ?_
  refine we_then ?_
  refine wc_seq ?_
  refine wc_seq ?_
  refine wc_region ?_
  refine wl_load 25 (.tmp 1) (own_row 0 rfl) rfl rfl rfl Try.underlying25 rfl (by kernel_rfl) ?_
  simp only [Act.put, Xa, Xz, Xs]
  refine wl_call_at 8 #[.agg #[.slice p G.length c, .slice q H.length d]] (.bool (greatC G H)) rfl (fun _ => by go_simp) (fun W hE => great_any G H _ _ _ _ W ((sl_old hS) W hE) (oks_below hG hE.below) ((sl_old hH) W hE) hn hm) ?_
  simp only [Act.put, Xa, Xz, Xs]
  refine wl_nil ?_
  refine we_then ?_
  cases h2 : (greatC G H)
  · skip
    refine wc_false rfl ?_
    refine wc_skip ?_
    refine we_then ?_
    refine wc_seq ?_
    refine wc_region ?_
    refine wl_load 25 (.tmp 1) (own_row 0 rfl) rfl rfl rfl Try.underlying25 rfl (by kernel_rfl) ?_
    simp only [Act.put, Xa, Xz, Xs]
    cases h4 : (decide ((chk G H).1 = 0))
    · skip
      have p4 : ¬ ((chk G H).1 = 0) := of_decide_eq_false h4
      refine wl_call_open (ι := Bs) (fun zz => match zz with | zk5 => ⟨g1, #[.slice p G.length c, .slice q H.length d], 25⟩ :: zk5.N) 9 #[.agg #[.slice p G.length c, .slice q H.length d]] (fun zz => match zz with | zk5 => .tuple #[.slice zk5.p 0 zk5.c, .int .i64 51]) (fun zz => match zz with | zk5 => zk5.N) (fun zz => match zz with | zk5 => BsOk [] zk5) (by rintro zk5; simp) rfl (fun _ => by go_simp) (fun W hE => pack_no G H _ _ _ _ W ((sl_old hS) W hE) (oks_below hG hE.below) ((sl_old hH) W hE) hn hm (of_decide_eq_false h4)) ?_
      rintro zk5 k5
      (try dsimp only)
      simp only [Act.put, Xa, Xz, Xs]
      refine wl_val (.tuple #[.slice zk5.p 0 zk5.c, .int .i64 51]) rfl (fun _ => rfl) ?_
      simp only [Act.put, Xa, Xz, Xs]
      refine wl_val (.slice zk5.p 0 zk5.c) rfl (fun _ => by go_simp) ?_
      simp only [Act.put, Xa, Xz, Xs]
      refine wl_val (.int .i64 51) rfl (fun _ => by go_simp) ?_
      simp only [Act.put, Xa, Xz, Xs]
      refine wl_val (.slice zk5.p 0 zk5.c) rfl (fun _ => rfl) ?_
      simp only [Act.put, Xa, Xz, Xs]
      refine wl_val (.int .i64 51) rfl (fun _ => rfl) ?_
      simp only [Act.put, Xa, Xz, Xs]
      refine wl_nil ?_
      refine we_then ?_
      refine wc_seq ?_
      refine wc_seq ?_
      refine wc_region ?_
      refine wl_load 25 (.tmp 1) (own_row 0 rfl) rfl rfl rfl Try.underlying25 rfl (by kernel_rfl) ?_
      simp only [Act.put, Xa, Xz, Xs]
      refine wl_call_open (ι := Cp) (fun zz => match zz with | zk6 => ⟨g1, #[.slice p G.length c, .slice q H.length d], 25⟩ :: (zk5.N ++ zk6.N)) 11 #[.agg #[.slice p G.length c, .slice q H.length d]] (fun zz => match zz with | zk6 => .agg #[.slice zk6.p zk6.K.length zk6.c, .slice zk6.q H.length zk6.d]) (fun zz => match zz with | zk6 => zk6.N) (fun zz => match zz with | zk6 => CpOk G H zk6) (by rintro zk6; simp) rfl (fun _ => by go_simp) (fun W hE => refs_open G H _ _ _ _ W ((sl_old hS) W hE) (oks_below hG hE.below) ((sl_old hH) W hE) h2) ?_
      rintro zk6 k6
      (try dsimp only)
      simp only [Act.put, Xa, Xz, Xs]
      refine wl_call_at 10 #[.agg #[.slice zk6.p zk6.K.length zk6.c, .slice zk6.q H.length zk6.d]] (.tuple #[.int .i64 (((chk G H).1 : Nat) : Int), .int .i64 (((chk G H).2 : Nat) : Int)]) rfl (fun _ => by go_simp) (fun W hE => by have x := Tkref.check_any zk6.K H zk6.p zk6.q zk6.c zk6.d W ((sl_held k6.segs (List.Sublist.cons _ (List.sublist_append_of_sublist_right (List.Sublist.refl _)))) W hE) (k6.ok _ _ hG (hE.sub (List.Sublist.cons _ (List.sublist_append_of_sublist_right (List.Sublist.refl _))))) ((sl_held k6.grps (List.Sublist.cons _ (List.sublist_append_of_sublist_right (List.Sublist.refl _)))) W hE) (by rw [k6.len]; omega) (by omega); rwa [chk_dat k6.same] at x) ?_
      simp only [Act.put, Xa, Xz, Xs]
      refine wl_val (.tuple #[.int .i64 (((chk G H).1 : Nat) : Int), .int .i64 (((chk G H).2 : Nat) : Int)]) rfl (fun _ => rfl) ?_
      simp only [Act.put, Xa, Xz, Xs]
      refine wl_val (.int .i64 (((chk G H).1 : Nat) : Int)) rfl (fun _ => by go_simp) ?_
      simp only [Act.put, Xa, Xz, Xs]
      refine wl_val (.int .i64 (((chk G H).2 : Nat) : Int)) rfl (fun _ => by go_simp) ?_
      simp only [Act.put, Xa, Xz, Xs]
      refine wl_val (.int .i64 (((chk G H).1 : Nat) : Int)) rfl (fun _ => rfl) ?_
      simp only [Act.put, Xa, Xz, Xs]
      refine wl_val (.int .i64 (((chk G H).2 : Nat) : Int)) rfl (fun _ => rfl) ?_
      simp only [Act.put, Xa, Xz, Xs]
      refine wl_nil ?_
      refine we_then ?_
      refine wc_seq ?_
      refine wc_region ?_
      refine wl_val (.int .i64 (((chk G H).1 : Nat) : Int)) rfl (fun _ => rfl) ?_
      simp only [Act.put, Xa, Xz, Xs]
      refine wl_val (.bool ((((chk G H).1 : Nat) : Int) != 0)) rfl (fun w => run_cmp rfl rfl rfl Try.underlying3 rfl w) ?_
      simp only [Act.put, Xa, Xz, Xs]
      refine wl_nil ?_
      refine we_then ?_
      cases h7 : ((((chk G H).1 : Nat) : Int) != 0)
      · skip
        have p7 : ¬ ((((chk G H).1 : Nat) : Int) ≠ 0) := by simpa using h7
        exact (by exfalso; omega)
      · skip
        have p7 : (((chk G H).1 : Nat) : Int) ≠ 0 := by simpa using h7
        refine wc_true rfl ?_
        refine wc_seq ?_
        refine wc_region ?_
        refine wl_val (.int .i64 51) rfl (fun _ => rfl) ?_
        simp only [Act.put, Xa, Xz, Xs]
        refine wl_val (.bool true) rfl (fun w => run_cmp rfl rfl rfl Try.underlying29 rfl w) ?_
        simp only [Act.put, Xa, Xz, Xs]
        refine wl_val (.bool true) rfl (fun _ => rfl) ?_
        simp only [Act.put, Xa, Xz, Xs]
        refine wl_val (.slice zk5.p 0 zk5.c) rfl (fun _ => rfl) ?_
        simp only [Act.put, Xa, Xz, Xs]
        refine wl_val (.int .i64 0) rfl (fun w => er_len rfl rfl Try.underlying28 w) ?_
        simp only [Act.put, Xa, Xz, Xs]
        refine wl_val (.bool true) rfl (fun w => run_cmp rfl rfl rfl Try.underlying3 rfl w) ?_
        simp only [Act.put, Xa, Xz, Xs]
        refine wl_val (.bool true) rfl (fun _ => rfl) ?_
        simp only [Act.put, Xa, Xz, Xs]
        refine wl_val (.bool true) rfl (fun _ => rfl) ?_
        simp only [Act.put, Xa, Xz, Xs]
        refine wl_nil ?_
        refine we_then ?_
        refine wc_ret ?_
        refine we_then_ret ?_
        refine we_ret1 (.bool true) rfl rfl rfl (fun w1 hE => ?_)
        exact ⟨rfl, hE.below⟩
    · skip
      have p4 : (chk G H).1 = 0 := of_decide_eq_true h4
      refine wl_call_open (ι := Bs) (fun zz => match zz with | zk8 => ⟨g1, #[.slice p G.length c, .slice q H.length d], 25⟩ :: zk8.N) 9 #[.agg #[.slice p G.length c, .slice q H.length d]] (fun zz => match zz with | zk8 => .tuple #[.slice zk8.p ((img (G.map dat) H).length) zk8.c, .int .i64 0]) (fun zz => match zz with | zk8 => zk8.N) (fun zz => match zz with | zk8 => BsOk (img (G.map dat) H) zk8) (by rintro zk8; simp) rfl (fun _ => by go_simp) (fun W hE => pack_yes G H _ _ _ _ W ((sl_old hS) W hE) (oks_below hG hE.below) ((sl_old hH) W hE) hn hm (of_decide_eq_true h4)) ?_
      rintro zk8 k8
      (try dsimp only)
      have fk8 := img_few (of_decide_eq_true h4)
      simp only [Act.put, Xa, Xz, Xs]
      refine wl_val (.tuple #[.slice zk8.p ((img (G.map dat) H).length) zk8.c, .int .i64 0]) rfl (fun _ => rfl) ?_
      simp only [Act.put, Xa, Xz, Xs]
      refine wl_val (.slice zk8.p ((img (G.map dat) H).length) zk8.c) rfl (fun _ => by go_simp) ?_
      simp only [Act.put, Xa, Xz, Xs]
      refine wl_val (.int .i64 0) rfl (fun _ => by go_simp) ?_
      simp only [Act.put, Xa, Xz, Xs]
      refine wl_val (.slice zk8.p ((img (G.map dat) H).length) zk8.c) rfl (fun _ => rfl) ?_
      simp only [Act.put, Xa, Xz, Xs]
      refine wl_val (.int .i64 0) rfl (fun _ => rfl) ?_
      simp only [Act.put, Xa, Xz, Xs]
      refine wl_nil ?_
      refine we_then ?_
      refine wc_seq ?_
      refine wc_seq ?_
      refine wc_region ?_
      refine wl_load 25 (.tmp 1) (own_row 0 rfl) rfl rfl rfl Try.underlying25 rfl (by kernel_rfl) ?_
      simp only [Act.put, Xa, Xz, Xs]
      refine wl_call_open (ι := Cp) (fun zz => match zz with | zk9 => ⟨g1, #[.slice p G.length c, .slice q H.length d], 25⟩ :: (zk8.N ++ zk9.N)) 11 #[.agg #[.slice p G.length c, .slice q H.length d]] (fun zz => match zz with | zk9 => .agg #[.slice zk9.p zk9.K.length zk9.c, .slice zk9.q H.length zk9.d]) (fun zz => match zz with | zk9 => zk9.N) (fun zz => match zz with | zk9 => CpOk G H zk9) (by rintro zk9; simp) rfl (fun _ => by go_simp) (fun W hE => refs_open G H _ _ _ _ W ((sl_old hS) W hE) (oks_below hG hE.below) ((sl_old hH) W hE) h2) ?_
      rintro zk9 k9
      (try dsimp only)
      simp only [Act.put, Xa, Xz, Xs]
      refine wl_call_at 10 #[.agg #[.slice zk9.p zk9.K.length zk9.c, .slice zk9.q H.length zk9.d]] (.tuple #[.int .i64 0, .int .i64 (((chk G H).2 : Nat) : Int)]) rfl (fun _ => by go_simp) (fun W hE => by have x := Tkref.check_any zk9.K H zk9.p zk9.q zk9.c zk9.d W ((sl_held k9.segs (List.Sublist.cons _ (List.sublist_append_of_sublist_right (List.Sublist.refl _)))) W hE) (k9.ok _ _ hG (hE.sub (List.Sublist.cons _ (List.sublist_append_of_sublist_right (List.Sublist.refl _))))) ((sl_held k9.grps (List.Sublist.cons _ (List.sublist_append_of_sublist_right (List.Sublist.refl _)))) W hE) (by rw [k9.len]; omega) (by omega); rw [chk_dat k9.same, show (chk G H).1 = 0 from of_decide_eq_true h4] at x; exact x) ?_
      simp only [Act.put, Xa, Xz, Xs]
      refine wl_val (.tuple #[.int .i64 0, .int .i64 (((chk G H).2 : Nat) : Int)]) rfl (fun _ => rfl) ?_
      simp only [Act.put, Xa, Xz, Xs]
      refine wl_val (.int .i64 0) rfl (fun _ => by go_simp) ?_
      simp only [Act.put, Xa, Xz, Xs]
      refine wl_val (.int .i64 (((chk G H).2 : Nat) : Int)) rfl (fun _ => by go_simp) ?_
      simp only [Act.put, Xa, Xz, Xs]
      refine wl_val (.int .i64 0) rfl (fun _ => rfl) ?_
      simp only [Act.put, Xa, Xz, Xs]
      refine wl_val (.int .i64 (((chk G H).2 : Nat) : Int)) rfl (fun _ => rfl) ?_
      simp only [Act.put, Xa, Xz, Xs]
      refine wl_nil ?_
      refine we_then ?_
      refine wc_seq ?_
      refine wc_region ?_
      refine wl_val (.int .i64 0) rfl (fun _ => rfl) ?_
      simp only [Act.put, Xa, Xz, Xs]
      refine wl_val (.bool false) rfl (fun w => run_cmp rfl rfl rfl Try.underlying3 rfl w) ?_
      simp only [Act.put, Xa, Xz, Xs]
      refine wl_nil ?_
      refine we_then ?_
      refine wc_false rfl ?_
      refine wc_skip ?_
      refine we_then ?_
      refine wc_seq ?_
      refine wc_region ?_
      refine wl_val (.slice zk8.p ((img (G.map dat) H).length) zk8.c) rfl (fun _ => rfl) ?_
      simp only [Act.put, Xa, Xz, Xs]
      refine wl_call_open (ι := Ov) (fun zz => match zz with | zk10 => ⟨g1, #[.slice p G.length c, .slice q H.length d], 25⟩ :: (zk8.N ++ (zk9.N ++ zk10.N))) 12 #[.slice zk8.p ((img (G.map dat) H).length) zk8.c] (fun zz => match zz with | zk10 => .tuple #[.agg #[.slice zk10.p zk10.K.length zk10.c, .slice zk10.q zk10.H.length zk10.d], .int .i64 0]) (fun zz => match zz with | zk10 => zk10.N) (fun zz => match zz with | zk10 => OvOk (img (G.map dat) H) zk10) (by rintro zk10; simp) rfl (fun _ => by go_simp) (fun W hE => open_img G H _ _ W ((sl_held k8.held (List.Sublist.cons _ (List.sublist_append_left _ _))) W hE) k8.cap (of_decide_eq_true h4)) ?_
      rintro zk10 k10
      (try dsimp only)
      obtain ⟨i1k10, i2k10⟩ := ov_img (of_decide_eq_true h4) k10
      simp only [Act.put, Xa, Xz, Xs]
      refine wl_val (.tuple #[.agg #[.slice zk10.p zk10.K.length zk10.c, .slice zk10.q zk10.H.length zk10.d], .int .i64 0]) rfl (fun _ => rfl) ?_
      simp only [Act.put, Xa, Xz, Xs]
      refine wl_val (.agg #[.slice zk10.p zk10.K.length zk10.c, .slice zk10.q zk10.H.length zk10.d]) rfl (fun _ => by go_simp) ?_
      simp only [Act.put, Xa, Xz, Xs]
      refine wl_val (.int .i64 0) rfl (fun _ => by go_simp) ?_
      simp only [Act.put, Xa, Xz, Xs]
      refine wl_new 25 (#[.slice none 0 0, .slice none 0 0]) rfl (fun _ => by go_simp) ?_
      intro g11
      simp only [Act.put, Xa, Xz, Xs]
      refine wl_store 0 25 (.tmp 7) (.tmp 36) (#[.slice zk10.p zk10.K.length zk10.c, .slice zk10.q zk10.H.length zk10.d]) rfl rfl rfl rfl rfl (by kernel_rfl) rfl (by simp [Value.oneCell']) ?_
      simp only [Act.put, List.set_cons_zero]
      refine wl_val (.int .i64 0) rfl (fun _ => rfl) ?_
      simp only [Act.put, Xa, Xz, Xs]
      refine wl_nil ?_
      refine we_then ?_
      refine wc_seq ?_
      refine wc_draw_ghost2 (Γ0 := Cp) (Γ1 := Bs) 6 7 11 13 #[.agg #[.slice p G.length c, .slice q H.length d]] (fun zz => match zz with | zk12 => #[.agg #[.slice zk12.p zk12.K.length zk12.c, .slice zk12.q H.length zk12.d]]) (fun k => [0, 0, 0, 0, 0, 0, 1, 2, 2, 2, 2, 2, 2, 2, 2, 2, 2, 2, 2, 2, 2].getD k 0) (fun k => [.int .i64 0, .bool true, .bool true, .slice zk8.p ((img (G.map dat) H).length) zk8.c, .string (str (img (G.map dat) H)), .agg #[.slice p G.length c, .slice q H.length d], undef, undef, undef, undef, undef, undef, undef, undef, undef, undef, undef, undef, undef, undef, undef].getD k undef) (fun zz => match zz with | zk12 => fun k => [undef, undef, undef, undef, undef, undef, .agg #[.slice zk12.p zk12.K.length zk12.c, .slice zk12.q H.length zk12.d], undef, undef, undef, undef, undef, undef, undef, undef, undef, undef, undef, undef, undef, undef].getD k undef) (fun zz yy => match zz, yy with | zk12, zk13 => fun k => [undef, undef, undef, undef, undef, undef, undef, .slice zk13.p ((img (G.map dat) H).length) zk13.c, .string (str (img (G.map dat) H)), .bool true, .bool true, .bool true, .int .i64 0, .bool true, .bool true, .bool true, .agg #[.slice p G.length c, .slice q H.length d], .agg #[.slice zk10.p zk10.K.length zk10.c, .slice zk10.q zk10.H.length zk10.d], .bool true, .bool true, .bool true].getD k undef) (fun zz => match zz with | zk12 => zk12.N) (fun zz yy => match zz, yy with | zk12, zk13 => zk13.N) (fun zz => match zz with | zk12 => ⟨g11, #[.slice zk10.p zk10.K.length zk10.c, .slice zk10.q zk10.H.length zk10.d], 25⟩ :: ⟨g1, #[.slice p G.length c, .slice q H.length d], 25⟩ :: (zk8.N ++ (zk9.N ++ (zk10.N ++ zk12.N)))) (fun zz yy => match zz, yy with | zk12, zk13 => ⟨g11, #[.slice zk10.p zk10.K.length zk10.c, .slice zk10.q zk10.H.length zk10.d], 25⟩ :: ⟨g1, #[.slice p G.length c, .slice q H.length d], 25⟩ :: (zk8.N ++ (zk9.N ++ (zk10.N ++ (zk12.N ++ zk13.N))))) (fun zz => match zz with | zk12 => CpOk G H zk12) (fun zz yy => match zz, yy with | zk12, zk13 => Held zk13.N zk13.p (flat ub (img (G.map dat) H))) 58 (by kernel_rfl) rfl (by kernel_rfl) (by kernel_rfl) (by kernel_rfl) rfl rfl (by kernel_rfl) (by decide) (by decide) (by rintro zk12; simp) (by rintro zk12 zk13; simp) (fun W hE => refs_open G H _ _ _ _ W ((sl_old hS) W hE) (oks_below hG hE.below) ((sl_old hH) W hE) h2) (by rintro zk12 k12; exact (fun W hE => rpack_open zk12.K H _ _ _ _ W (img (G.map dat) H) ((sl_held k12.segs (List.Sublist.cons _ (List.Sublist.cons _ (List.sublist_append_of_sublist_right (List.sublist_append_of_sublist_right (List.sublist_append_of_sublist_right (List.Sublist.refl _))))))) W hE) (k12.ok _ _ hG (hE.sub (List.Sublist.cons _ (List.Sublist.cons _ (List.sublist_append_of_sublist_right (List.sublist_append_of_sublist_right (List.sublist_append_of_sublist_right (List.Sublist.refl _)))))))) ((sl_held k12.grps (List.Sublist.cons _ (List.Sublist.cons _ (List.sublist_append_of_sublist_right (List.sublist_append_of_sublist_right (List.sublist_append_of_sublist_right (List.Sublist.refl _))))))) W hE) (by rw [chk_dat k12.same]; exact of_decide_eq_true h4) (by rw [k12.same]))) ?_ ?_ ?_
      · intro y z
        refine wg_val (.int .i64 0) rfl rfl rfl (fun _ => rfl) ?_
        simp only [Nat.reduceAdd, Act.put, Xa, Xz, Xs]
        refine wg_val (.bool true) rfl rfl rfl (fun w => run_cmp rfl rfl rfl Try.underlying29 rfl w) ?_
        simp only [Nat.reduceAdd, Act.put, Xa, Xz, Xs]
        refine wg_val (.bool true) rfl rfl rfl (fun _ => rfl) ?_
        simp only [Nat.reduceAdd, Act.put, Xa, Xz, Xs]
        refine wg_val (.slice zk8.p ((img (G.map dat) H).length) zk8.c) rfl rfl rfl (fun _ => rfl) ?_
        simp only [Nat.reduceAdd, Act.put, Xa, Xz, Xs]
        refine wg_read (.string (str (img (G.map dat) H))) rfl rfl rfl (er_string (L := img (G.map dat) H) (sl_held k8.held (List.Sublist.cons _ (List.Sublist.cons _ (List.sublist_append_left _ _)))) rfl rfl rfl Try.underlying28 Try.underlying5 Try.underlying9) ?_
        simp only [Nat.reduceAdd, Act.put, Xa, Xz, Xs]
        refine wg_load 25 (.tmp 1) (own_row 1 rfl) rfl rfl rfl rfl rfl Try.underlying25 rfl (by kernel_rfl) ?_
        simp only [Nat.reduceAdd, Act.put, Xa, Xz, Xs]
        refine wg_own (y 6) rfl rfl rfl (fun _ => by go_simp) ?_
        simp only [Nat.reduceAdd, Act.put, Xa, Xz, Xs]
        refine wg_pass (z 7) rfl rfl rfl ?_
        simp only [Nat.reduceAdd, Act.put, Xa, Xz, Xs]
        refine wg_pass (z 8) rfl rfl rfl ?_
        simp only [Nat.reduceAdd, Act.put, Xa, Xz, Xs]
        refine wg_pass (z 9) rfl rfl rfl ?_
        simp only [Nat.reduceAdd, Act.put, Xa, Xz, Xs]
        refine wg_pass (z 10) rfl rfl rfl ?_
        simp only [Nat.reduceAdd, Act.put, Xa, Xz, Xs]
        refine wg_pass (z 11) rfl rfl rfl ?_
        simp only [Nat.reduceAdd, Act.put, Xa, Xz, Xs]
        refine wg_pass (z 12) rfl rfl rfl ?_
        simp only [Nat.reduceAdd, Act.put, Xa, Xz, Xs]
        refine wg_pass (z 13) rfl rfl rfl ?_
        simp only [Nat.reduceAdd, Act.put, Xa, Xz, Xs]
        refine wg_pass (z 14) rfl rfl rfl ?_
        simp only [Nat.reduceAdd, Act.put, Xa, Xz, Xs]
        refine wg_pass (z 15) rfl rfl rfl ?_
        simp only [Nat.reduceAdd, Act.put, Xa, Xz, Xs]
        refine wg_pass (z 16) rfl rfl rfl ?_
        simp only [Nat.reduceAdd, Act.put, Xa, Xz, Xs]
        refine wg_pass (z 17) rfl rfl rfl ?_
        simp only [Nat.reduceAdd, Act.put, Xa, Xz, Xs]
        refine wg_pass (z 18) rfl rfl rfl ?_
        simp only [Nat.reduceAdd, Act.put, Xa, Xz, Xs]
        refine wg_pass (z 19) rfl rfl rfl ?_
        simp only [Nat.reduceAdd, Act.put, Xa, Xz, Xs]
        refine wg_pass (z 20) rfl rfl rfl ?_
        simp only [Nat.reduceAdd, Act.put, Xa, Xz, Xs]
        exact wg_nil trivial
      · rintro zk12 k12 z
        (try dsimp only)
        refine wg_pass (.int .i64 0) rfl rfl rfl ?_
        simp only [Nat.reduceAdd, Act.put, Xa, Xz, Xs]
        refine wg_pass (.bool true) rfl rfl rfl ?_
        simp only [Nat.reduceAdd, Act.put, Xa, Xz, Xs]
        refine wg_pass (.bool true) rfl rfl rfl ?_
        simp only [Nat.reduceAdd, Act.put, Xa, Xz, Xs]
        refine wg_pass (.slice zk8.p ((img (G.map dat) H).length) zk8.c) rfl rfl rfl ?_
        simp only [Nat.reduceAdd, Act.put, Xa, Xz, Xs]
        refine wg_pass (.string (str (img (G.map dat) H))) rfl rfl rfl ?_
        simp only [Nat.reduceAdd, Act.put, Xa, Xz, Xs]
        refine wg_pass (.agg #[.slice p G.length c, .slice q H.length d]) rfl rfl rfl ?_
        simp only [Nat.reduceAdd, Act.put, Xa, Xz, Xs]
        refine wg_pass (.agg #[.slice zk12.p zk12.K.length zk12.c, .slice zk12.q H.length zk12.d]) rfl rfl rfl ?_
        simp only [Nat.reduceAdd, Act.put, Xa, Xz, Xs]
        refine wg_own (z 7) rfl rfl rfl (fun _ => by go_simp) ?_
        simp only [Nat.reduceAdd, Act.put, Xa, Xz, Xs]
        refine wg_pass (z 8) rfl rfl rfl ?_
        simp only [Nat.reduceAdd, Act.put, Xa, Xz, Xs]
        refine wg_pass (z 9) rfl rfl rfl ?_
        simp only [Nat.reduceAdd, Act.put, Xa, Xz, Xs]
        refine wg_pass (z 10) rfl rfl rfl ?_
        simp only [Nat.reduceAdd, Act.put, Xa, Xz, Xs]
        refine wg_pass (z 11) rfl rfl rfl ?_
        simp only [Nat.reduceAdd, Act.put, Xa, Xz, Xs]
        refine wg_pass (z 12) rfl rfl rfl ?_
        simp only [Nat.reduceAdd, Act.put, Xa, Xz, Xs]
        refine wg_pass (z 13) rfl rfl rfl ?_
        simp only [Nat.reduceAdd, Act.put, Xa, Xz, Xs]
        refine wg_pass (z 14) rfl rfl rfl ?_
        simp only [Nat.reduceAdd, Act.put, Xa, Xz, Xs]
        refine wg_pass (z 15) rfl rfl rfl ?_
        simp only [Nat.reduceAdd, Act.put, Xa, Xz, Xs]
        refine wg_pass (z 16) rfl rfl rfl ?_
        simp only [Nat.reduceAdd, Act.put, Xa, Xz, Xs]
        refine wg_pass (z 17) rfl rfl rfl ?_
        simp only [Nat.reduceAdd, Act.put, Xa, Xz, Xs]
        refine wg_pass (z 18) rfl rfl rfl ?_
        simp only [Nat.reduceAdd, Act.put, Xa, Xz, Xs]
        refine wg_pass (z 19) rfl rfl rfl ?_
        simp only [Nat.reduceAdd, Act.put, Xa, Xz, Xs]
        refine wg_pass (z 20) rfl rfl rfl ?_
        simp only [Nat.reduceAdd, Act.put, Xa, Xz, Xs]
        exact wg_nil trivial
      · rintro zk12 zk13 k12 k13
        (try dsimp only)
        refine wg_pass (.int .i64 0) rfl rfl rfl ?_
        simp only [Nat.reduceAdd, Act.put, Xa, Xz, Xs]
        refine wg_pass (.bool true) rfl rfl rfl ?_
        simp only [Nat.reduceAdd, Act.put, Xa, Xz, Xs]
        refine wg_pass (.bool true) rfl rfl rfl ?_
        simp only [Nat.reduceAdd, Act.put, Xa, Xz, Xs]
        refine wg_pass (.slice zk8.p ((img (G.map dat) H).length) zk8.c) rfl rfl rfl ?_
        simp only [Nat.reduceAdd, Act.put, Xa, Xz, Xs]
        refine wg_pass (.string (str (img (G.map dat) H))) rfl rfl rfl ?_
        simp only [Nat.reduceAdd, Act.put, Xa, Xz, Xs]
        refine wg_pass (.agg #[.slice p G.length c, .slice q H.length d]) rfl rfl rfl ?_
        simp only [Nat.reduceAdd, Act.put, Xa, Xz, Xs]
        refine wg_pass (.agg #[.slice zk12.p zk12.K.length zk12.c, .slice zk12.q H.length zk12.d]) rfl rfl rfl ?_
        simp only [Nat.reduceAdd, Act.put, Xa, Xz, Xs]
        refine wg_own (.slice zk13.p ((img (G.map dat) H).length) zk13.c) rfl rfl rfl (fun _ => by go_simp) ?_
        simp only [Nat.reduceAdd, Act.put, Xa, Xz, Xs]
        refine wg_read (.string (str (img (G.map dat) H))) rfl rfl rfl (er_string (L := img (G.map dat) H) (sl_held k13 (List.Sublist.cons _ (List.Sublist.cons _ (List.sublist_append_of_sublist_right (List.sublist_append_of_sublist_right (List.sublist_append_of_sublist_right (List.sublist_append_of_sublist_right (List.Sublist.refl _)))))))) rfl rfl rfl Try.underlying28 Try.underlying5 Try.underlying9) ?_
        simp only [Nat.reduceAdd, Act.put, Xa, Xz, Xs]
        refine wg_val (.bool true) rfl rfl rfl (fun w => run_streq rfl rfl rfl (by simp) w) ?_
        simp only [Nat.reduceAdd, Act.put, Xa, Xz, Xs]
        refine wg_val (.bool true) rfl rfl rfl (fun _ => rfl) ?_
        simp only [Nat.reduceAdd, Act.put, Xa, Xz, Xs]
        refine wg_val (.bool true) rfl rfl rfl (fun _ => rfl) ?_
        simp only [Nat.reduceAdd, Act.put, Xa, Xz, Xs]
        refine wg_val (.int .i64 0) rfl rfl rfl (fun _ => rfl) ?_
        simp only [Nat.reduceAdd, Act.put, Xa, Xz, Xs]
        refine wg_val (.bool true) rfl rfl rfl (fun w => run_cmp rfl rfl rfl Try.underlying29 rfl w) ?_
        simp only [Nat.reduceAdd, Act.put, Xa, Xz, Xs]
        refine wg_val (.bool true) rfl rfl rfl (fun _ => rfl) ?_
        simp only [Nat.reduceAdd, Act.put, Xa, Xz, Xs]
        refine wg_val (.bool true) rfl rfl rfl (fun _ => rfl) ?_
        simp only [Nat.reduceAdd, Act.put, Xa, Xz, Xs]
        refine wg_load 25 (.tmp 1) (own_row 1 rfl) rfl rfl rfl rfl rfl Try.underlying25 rfl (by kernel_rfl) ?_
        simp only [Nat.reduceAdd, Act.put, Xa, Xz, Xs]
        refine wg_load 25 (.tmp 7) (own_row 0 rfl) rfl rfl rfl rfl rfl Try.underlying25 rfl (by kernel_rfl) ?_
        simp only [Nat.reduceAdd, Act.put, Xa, Xz, Xs]
        refine wg_call_at 14 #[.agg #[.slice p G.length c, .slice q H.length d], .agg #[.slice zk10.p zk10.K.length zk10.c, .slice zk10.q zk10.H.length zk10.d]] (.bool true) rfl rfl rfl (fun _ => by go_simp) (fun W hE => by have x := same_any G zk10.K H zk10.H p q zk10.p zk10.q c d zk10.c zk10.d W ((sl_old hS) W hE) (oks_below hG hE.below) ((sl_old hH) W hE) ((sl_held k10.segs (List.Sublist.cons _ (List.Sublist.cons _ (List.sublist_append_of_sublist_right (List.sublist_append_of_sublist_right (List.sublist_append_left _ _)))))) W hE) (heldS_ok k10.ok (hE.sub (List.Sublist.cons _ (List.Sublist.cons _ (List.sublist_append_of_sublist_right (List.sublist_append_of_sublist_right (List.sublist_append_left _ _))))))) ((sl_held k10.grps (List.Sublist.cons _ (List.Sublist.cons _ (List.sublist_append_of_sublist_right (List.sublist_append_of_sublist_right (List.sublist_append_left _ _)))))) W hE) (by have := greatC_few h2; omega) (by have := greatC_few h2; omega); rwa [same_yes i1k10 i2k10] at x) ?_
        simp only [Nat.reduceAdd, Act.put, Xa, Xz, Xs]
        refine wg_val (.bool true) rfl rfl rfl (fun _ => rfl) ?_
        simp only [Nat.reduceAdd, Act.put, Xa, Xz, Xs]
        refine wg_val (.bool true) rfl rfl rfl (fun _ => rfl) ?_
        simp only [Nat.reduceAdd, Act.put, Xa, Xz, Xs]
        refine wg_nil ?_
        refine we_then ?_
        refine wc_ret ?_
        refine we_ret1 (.bool true) rfl rfl rfl (fun w1 hE => ?_)
        exact ⟨rfl, hE.below⟩
  · skip
    refine wc_true rfl ?_
    refine wc_seq ?_
    refine wc_region ?_
    refine wl_val (.bool true) rfl (fun _ => rfl) ?_
    simp only [Act.put, Xa, Xz, Xs]
    refine wl_nil ?_
    refine we_then ?_
    refine wc_ret ?_
    refine we_then_ret ?_
    refine we_ret1 (.bool true) rfl rfl rfl (fun w1 hE => ?_)
    exact ⟨rfl, hE.below⟩
end Go.Proofs.Ytggannjlaehihaa.Walks
