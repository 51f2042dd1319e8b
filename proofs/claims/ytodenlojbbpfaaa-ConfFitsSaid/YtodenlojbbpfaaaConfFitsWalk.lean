/-
  ConfFits: the law's walk. No condition.
-/
import Derived.Test.YtodenlojbbpfaaaCflw
import Derived.Test.YtodenlojbbpfaaaTkrefs13
namespace Go.Proofs.Ytodenlojbbpfaaa.Walks
open Go.ChangeShapes Go.WideShapes Go.ChangeAt Go.RowKit
open Arr Steady Sx Sw Sl Sb Sc Si Sj Sk Sh Vs Gr Tk Tkh Tkl Cf Cfref Cflw Tkrefs13
set_option linter.unusedVariables false
set_option linter.unusedSimpArgs false
set_option maxRecDepth 100000

/-- What the helper hands back: a track that says the same, in rows of its own. -/
structure Cp where
  K : List Sg
  p : Option Addr
  c : Nat
  q : Option Addr
  d : Nat
  N : List Rw
structure CpOk (G : List Sg) (H : List Gp) (z : Cp) : Prop where
  same : Same G z.K
  segs : Held z.N z.p (flat sg z.K)
  grps : Held z.N z.q (flat gp H)
  ok : ∀ w0 W, OkS w0 G → Env w0 W z.N → OkS W z.K
theorem refs_open (G : List Sg) (H : List Gp) (p q : Option Addr) (c d : Nat) (w : World) (hS : Reads w p (flat sg G)) (hG : OkS w G) (hH : Reads w q (flat gp H)) (hg : greatB G H = false) :
    Calls Try.prog 13 #[.agg #[.slice p G.length c, .slice q H.length d]] w fun e w' => ∃ z : Cp, CpOk G H z ∧ e = .returned (.agg #[.slice z.p z.K.length z.c, .slice z.q H.length z.d]) ∧ Env w w' z.N := by
  refine (refs_any G H p q c d w hS hG hH (great_few hg).1 (great_few hg).2).mono ?_
  rintro e w' ⟨K, s, v, M, h1, h2, h3, h4, rfl, h6⟩
  refine ⟨⟨K, s.ptr, s.cap, v.ptr, v.cap, s.rows 65 ++ (v.rows 62 ++ M)⟩, ⟨same_copy h1 h4, (held_own h2).mono (List.sublist_append_left _ _), (held_own h3).mono ((List.sublist_append_left _ _).trans (List.sublist_append_right _ _)), fun w0 W hO hE => ?_⟩, by rw [h1], h6⟩
  exact oks_copy hO h1 h4 (hE.sub ((List.sublist_append_right _ _).trans (List.sublist_append_right _ _)))
set_option maxHeartbeats 6000000 in
theorem confFits_walk (k : Cf) (G : List Sg) (H : List Gp) (p q : Option Addr) (c d : Nat) (w : World) (hS : Reads w p (flat sg G)) (hG : OkS w G) (hH : Reads w q (flat gp H)) (hn : G.length ≤ 140737488355328) (hm : H.length ≤ 140737488355328) (hcc : G.length ≤ c) (hcd : H.length ≤ d) :
    Calls Try.prog 4 #[.agg #[.int .i64 k.pu, .int .i64 k.lo, .int .i64 k.hi, .int .i64 k.rb, .int .i64 k.rp, .int .i64 k.ae, .int .i64 k.ms, .int .i64 k.ma, .int .i64 k.an, .int .i64 k.st, .int .i64 k.ss, .int .i64 k.ro, .int .i64 k.ti, .int .i64 k.br], .agg #[.slice p G.length c, .slice q H.length d]] w fun e w' => e = .returned (.bool true) ∧ Below w.heap.size w w' := by
  refine calls_sx Try.func4 rfl ?_
  simp only [Try.ntmps4, List.size_toArray, List.length_cons, List.length_nil, Nat.reduceAdd, Nat.reduceSub, Array.replicate_succ, Array.replicate_zero, List.push_toArray, List.append_toArray, List.nil_append, List.cons_append]
  refine wc_seq ?_
  refine wc_region ?_
  refine wl_new 23 (#[.int .i64 k.pu, .int .i64 k.lo, .int .i64 k.hi, .int .i64 k.rb, .int .i64 k.rp, .int .i64 k.ae, .int .i64 k.ms, .int .i64 k.ma, .int .i64 k.an, .int .i64 k.st, .int .i64 k.ss, .int .i64 k.ro, .int .i64 k.ti, .int .i64 k.br]) rfl (fun _ => by go_simp) ?_
  intro g1
  simp only [Act.put, Xa, Xz, Xs]
  refine wl_new 34 (#[.slice p G.length c, .slice q H.length d]) rfl (fun _ => by go_simp) ?_
  intro g2
  simp only [Act.put, Xa, Xz, Xs]
  refine wl_val (.bool false) rfl (fun _ => rfl) ?_
  simp only [Act.put, Xa, Xz, Xs]
  refine wl_nil ?_
  refine we_then ?_
  refine wc_seq ?_
  refine wc_seq ?_
  refine wc_region ?_
  refine wl_call 7 #[] (.bool true) rfl (fun _ => by go_simp) (fun W => Cflw.anchor_any W) ?_
  simp only [Act.put, Xa, Xz, Xs]
  refine wl_val (.bool false) rfl (fun _ => by go_simp) ?_
  simp only [Act.put, Xa, Xz, Xs]
  refine wl_nil ?_
  refine we_then ?_
  refine wc_false rfl ?_
  refine wc_skip ?_
  refine we_then ?_
  refine wc_seq ?_
  refine wc_seq ?_
  refine wc_region ?_
  refine wl_load 34 (.tmp 3) (own_row 0 rfl) rfl rfl rfl Try.underlying34 rfl (by kernel_rfl) ?_
  simp only [Act.put, Xa, Xz, Xs]
  refine wl_call_at 10 #[.agg #[.slice p G.length c, .slice q H.length d]] (.bool (greatB G H)) rfl (fun _ => by go_simp) (fun W hE => great_any G H _ _ _ _ W ((sl_old hS) W hE) (oks_below hG hE.below) ((sl_old hH) W hE) hn hm) ?_
  simp only [Act.put, Xa, Xz, Xs]
  refine wl_nil ?_
  refine we_then ?_
  cases h3 : (greatB G H)
  · skip
    refine wc_false rfl ?_
    refine wc_skip ?_
    refine we_then ?_
    refine wc_seq ?_
    refine wc_region ?_
    refine wl_load 23 (.tmp 2) (own_row 1 rfl) rfl rfl rfl Try.underlying23 rfl (by kernel_rfl) ?_
    simp only [Act.put, Xa, Xz, Xs]
    refine wl_load 34 (.tmp 3) (own_row 0 rfl) rfl rfl rfl Try.underlying34 rfl (by kernel_rfl) ?_
    simp only [Act.put, Xa, Xz, Xs]
    refine wl_call_at 11 #[.agg #[.int .i64 k.pu, .int .i64 k.lo, .int .i64 k.hi, .int .i64 k.rb, .int .i64 k.rp, .int .i64 k.ae, .int .i64 k.ms, .int .i64 k.ma, .int .i64 k.an, .int .i64 k.st, .int .i64 k.ss, .int .i64 k.ro, .int .i64 k.ti, .int .i64 k.br], .agg #[.slice p G.length c, .slice q H.length d]] (.tuple #[.int .i64 (((fit k G H).1 : Nat) : Int), .int .i64 (((fit k G H).2 : Nat) : Int)]) rfl (fun _ => by go_simp) (fun W hE => Cnf.fits_any k G H _ _ _ _ W ((sl_old hS) W hE) (oks_below hG hE.below) ((sl_old hH) W hE) hn hm) ?_
    simp only [Act.put, Xa, Xz, Xs]
    refine wl_val (.tuple #[.int .i64 (((fit k G H).1 : Nat) : Int), .int .i64 (((fit k G H).2 : Nat) : Int)]) rfl (fun _ => rfl) ?_
    simp only [Act.put, Xa, Xz, Xs]
    refine wl_val (.int .i64 (((fit k G H).1 : Nat) : Int)) rfl (fun _ => by go_simp) ?_
    simp only [Act.put, Xa, Xz, Xs]
    refine wl_val (.int .i64 (((fit k G H).2 : Nat) : Int)) rfl (fun _ => by go_simp) ?_
    simp only [Act.put, Xa, Xz, Xs]
    refine wl_val (.int .i64 (((fit k G H).1 : Nat) : Int)) rfl (fun _ => rfl) ?_
    simp only [Act.put, Xa, Xz, Xs]
    refine wl_val (.int .i64 (((fit k G H).2 : Nat) : Int)) rfl (fun _ => rfl) ?_
    simp only [Act.put, Xa, Xz, Xs]
    refine wl_nil ?_
    refine we_then ?_
    refine wc_seq ?_
    refine wc_draw_ghost (Γ := Cp) 2 13 #[.agg #[.slice p G.length c, .slice q H.length d]] (fun j9 => [false, false, true, true, true, true, true, true, true].getD j9 false) (fun j9 => [.agg #[.int .i64 k.pu, .int .i64 k.lo, .int .i64 k.hi, .int .i64 k.rb, .int .i64 k.rp, .int .i64 k.ae, .int .i64 k.ms, .int .i64 k.ma, .int .i64 k.an, .int .i64 k.st, .int .i64 k.ss, .int .i64 k.ro, .int .i64 k.ti, .int .i64 k.br], .agg #[.slice p G.length c, .slice q H.length d], undef, undef, undef, undef, undef, undef, undef].getD j9 undef) (fun zz => match zz with | zk4 => fun j9 => [undef, undef, .agg #[.slice zk4.p zk4.K.length zk4.c, .slice zk4.q H.length zk4.d], .tuple #[.int .i64 (((fit k G H).1 : Nat) : Int), .int .i64 (((fit k G H).2 : Nat) : Int)], .tuple #[.int .i64 (((fit k G H).1 : Nat) : Int), .int .i64 (((fit k G H).2 : Nat) : Int)], .int .i64 (((fit k G H).1 : Nat) : Int), .int .i64 (((fit k G H).2 : Nat) : Int), .int .i64 (((fit k G H).1 : Nat) : Int), .int .i64 (((fit k G H).2 : Nat) : Int)].getD j9 undef) (fun zz => match zz with | zk4 => zk4.N) (fun zz => match zz with | zk4 => ⟨g2, #[.slice p G.length c, .slice q H.length d], 34⟩ :: ⟨g1, #[.int .i64 k.pu, .int .i64 k.lo, .int .i64 k.hi, .int .i64 k.rb, .int .i64 k.rp, .int .i64 k.ae, .int .i64 k.ms, .int .i64 k.ma, .int .i64 k.an, .int .i64 k.st, .int .i64 k.ss, .int .i64 k.ro, .int .i64 k.ti, .int .i64 k.br], 23⟩ :: zk4.N) (fun zz => match zz with | zk4 => CpOk G H zk4) 34 (by kernel_rfl) rfl (by kernel_rfl) (by kernel_rfl) rfl (by decide) (by rintro zk4; simp) (fun W hE => refs_open G H _ _ _ _ W ((sl_old hS) W hE) (oks_below hG hE.below) ((sl_old hH) W hE) h3) ?_ ?_
    · intro z
      refine wg_load 23 (.tmp 2) (own_row 1 rfl) rfl rfl rfl rfl rfl Try.underlying23 rfl (by kernel_rfl) ?_
      simp only [Nat.reduceAdd, Act.put, Xa, Xz, Xs]
      refine wg_load 34 (.tmp 3) (own_row 0 rfl) rfl rfl rfl rfl rfl Try.underlying34 rfl (by kernel_rfl) ?_
      simp only [Nat.reduceAdd, Act.put, Xa, Xz, Xs]
      refine wg_own (z 2) rfl rfl rfl (fun _ => by go_simp) ?_
      simp only [Nat.reduceAdd, Act.put, Xa, Xz, Xs]
      refine wg_pass (z 3) rfl rfl rfl ?_
      simp only [Nat.reduceAdd, Act.put, Xa, Xz, Xs]
      refine wg_pass (z 4) rfl rfl rfl ?_
      simp only [Nat.reduceAdd, Act.put, Xa, Xz, Xs]
      refine wg_pass (z 5) rfl rfl rfl ?_
      simp only [Nat.reduceAdd, Act.put, Xa, Xz, Xs]
      refine wg_pass (z 6) rfl rfl rfl ?_
      simp only [Nat.reduceAdd, Act.put, Xa, Xz, Xs]
      refine wg_pass (z 7) rfl rfl rfl ?_
      simp only [Nat.reduceAdd, Act.put, Xa, Xz, Xs]
      refine wg_pass (z 8) rfl rfl rfl ?_
      simp only [Nat.reduceAdd, Act.put, Xa, Xz, Xs]
      exact wg_nil trivial
    · rintro zk4 k4
      (try dsimp only)
      refine wg_pass (.agg #[.int .i64 k.pu, .int .i64 k.lo, .int .i64 k.hi, .int .i64 k.rb, .int .i64 k.rp, .int .i64 k.ae, .int .i64 k.ms, .int .i64 k.ma, .int .i64 k.an, .int .i64 k.st, .int .i64 k.ss, .int .i64 k.ro, .int .i64 k.ti, .int .i64 k.br]) rfl rfl rfl ?_
      simp only [Nat.reduceAdd, Act.put, Xa, Xz, Xs]
      refine wg_pass (.agg #[.slice p G.length c, .slice q H.length d]) rfl rfl rfl ?_
      simp only [Nat.reduceAdd, Act.put, Xa, Xz, Xs]
      refine wg_own (.agg #[.slice zk4.p zk4.K.length zk4.c, .slice zk4.q H.length zk4.d]) rfl rfl rfl (fun _ => by go_simp) ?_
      simp only [Nat.reduceAdd, Act.put, Xa, Xz, Xs]
      refine wg_call_at 12 #[.agg #[.int .i64 k.pu, .int .i64 k.lo, .int .i64 k.hi, .int .i64 k.rb, .int .i64 k.rp, .int .i64 k.ae, .int .i64 k.ms, .int .i64 k.ma, .int .i64 k.an, .int .i64 k.st, .int .i64 k.ss, .int .i64 k.ro, .int .i64 k.ti, .int .i64 k.br], .agg #[.slice zk4.p zk4.K.length zk4.c, .slice zk4.q H.length zk4.d]] (.tuple #[.int .i64 (((fit k G H).1 : Nat) : Int), .int .i64 (((fit k G H).2 : Nat) : Int)]) rfl rfl rfl (fun _ => by go_simp) (fun W hE => by have x := Cfref.fits_any k zk4.K H _ _ zk4.c zk4.d W (held_at k4.segs (List.Sublist.cons _ (List.Sublist.cons _ (List.Sublist.refl _))) hE) (k4.ok _ _ hG (hE.sub (List.Sublist.cons _ (List.Sublist.cons _ (List.Sublist.refl _))))) (held_at k4.grps (List.Sublist.cons _ (List.Sublist.cons _ (List.Sublist.refl _))) hE) (by rw [k4.same.length]; omega) (by omega); rwa [fit_same k4.same] at x) ?_
      simp only [Nat.reduceAdd, Act.put, Xa, Xz, Xs]
      refine wg_val (.tuple #[.int .i64 (((fit k G H).1 : Nat) : Int), .int .i64 (((fit k G H).2 : Nat) : Int)]) rfl rfl rfl (fun _ => rfl) ?_
      simp only [Nat.reduceAdd, Act.put, Xa, Xz, Xs]
      refine wg_val (.int .i64 (((fit k G H).1 : Nat) : Int)) rfl rfl rfl (fun _ => by go_simp) ?_
      simp only [Nat.reduceAdd, Act.put, Xa, Xz, Xs]
      refine wg_val (.int .i64 (((fit k G H).2 : Nat) : Int)) rfl rfl rfl (fun _ => by go_simp) ?_
      simp only [Nat.reduceAdd, Act.put, Xa, Xz, Xs]
      refine wg_val (.int .i64 (((fit k G H).1 : Nat) : Int)) rfl rfl rfl (fun _ => rfl) ?_
      simp only [Nat.reduceAdd, Act.put, Xa, Xz, Xs]
      refine wg_val (.int .i64 (((fit k G H).2 : Nat) : Int)) rfl rfl rfl (fun _ => rfl) ?_
      simp only [Nat.reduceAdd, Act.put, Xa, Xz, Xs]
      refine wg_nil ?_
      refine we_then ?_
      refine wc_seq ?_
      refine wc_region ?_
      refine wl_val (.int .i64 (((fit k G H).1 : Nat) : Int)) rfl (fun _ => rfl) ?_
      simp only [Act.put, Xa, Xz, Xs]
      refine wl_val (.int .i64 (((fit k G H).1 : Nat) : Int)) rfl (fun _ => rfl) ?_
      simp only [Act.put, Xa, Xz, Xs]
      refine wl_val (.bool true) rfl (fun w => run_cmp (b := true) rfl rfl rfl Try.underlying3 (by simp [cmpOf]) w) ?_
      simp only [Act.put, Xa, Xz, Xs]
      refine wl_val (.bool true) rfl (fun _ => rfl) ?_
      simp only [Act.put, Xa, Xz, Xs]
      refine wl_val (.int .i64 (((fit k G H).2 : Nat) : Int)) rfl (fun _ => rfl) ?_
      simp only [Act.put, Xa, Xz, Xs]
      refine wl_val (.int .i64 (((fit k G H).2 : Nat) : Int)) rfl (fun _ => rfl) ?_
      simp only [Act.put, Xa, Xz, Xs]
      refine wl_val (.bool true) rfl (fun w => run_cmp (b := true) rfl rfl rfl Try.underlying3 (by simp [cmpOf]) w) ?_
      simp only [Act.put, Xa, Xz, Xs]
      refine wl_val (.bool true) rfl (fun _ => rfl) ?_
      simp only [Act.put, Xa, Xz, Xs]
      refine wl_val (.bool true) rfl (fun _ => rfl) ?_
      simp only [Act.put, Xa, Xz, Xs]
      refine wl_nil ?_
      refine we_then ?_
      refine wc_ret ?_
      refine we_ret1 (.bool true) rfl rfl rfl (fun w1 hE => ?_)
      exact ⟨rfl, hE.below⟩
  · skip
    refine wc_true rfl ?_
    refine wc_seq ?_
    refine wc_region ?_
    refine wl_val (.bool true) rfl (fun _ => rfl) ?_
    simp only [Act.put, Xa, Xz, Xs]
    refine wl_nil ?_
    refine we_then ?_
    refine wc_ret ?_
    refine we_then_ret ?_
    refine we_ret1 (.bool true) rfl rfl rfl (fun w1 hE => ?_)
    exact ⟨rfl, hE.below⟩
end Go.Proofs.Ytodenlojbbpfaaa.Walks
