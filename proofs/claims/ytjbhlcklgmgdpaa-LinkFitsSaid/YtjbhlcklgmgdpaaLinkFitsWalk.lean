/-
 LinkFits: the law's walk. No condition.
-/
import Derived.Test.YtjbhlcklgmgdpaaLklw
import Derived.Test.YtjbhlcklgmgdpaaLkla
import Derived.Test.YtjbhlcklgmgdpaaMrl
import Derived.Test.YtjbhlcklgmgdpaaCfref
namespace Go.Proofs.Ytjbhlcklgmgdpaa.Walks
open Go.ChangeShapes Go.WideShapes Go.ChangeAt Go.RowKit
open Arr Steady Sx Sw Sl Sb Sc Si Sj Sk Sh Vs Gr Tk Tkh Tkl Rt Rtm Rtg Rtp Rtk Rts Shh Sfn Cf Lkm Lklw Lkla Rtla Rtlc Cfref Rtsm
set_option linter.unusedVariables false
set_option linter.unusedSimpArgs false
set_option maxRecDepth 100000

theorem fitting_len (k : Cf) (lo hi gi : Int) (G : List Sg) (H : List Gp) (p q : Option Addr) (c d : Nat) (s0 f F : Int) (X : List Ro) (ps : Option Addr) (cs : Nat) (w : World) (hF : F = f) (hk : Ok k) (hS : Reads w p (flat sg G)) (hG : OkS w G) (hH : Reads w q (flat gp H)) (hM : TrackMay G H) (hX : SetOk G s0 f X) (hR : Reads w ps (flat rt X)) (hp : Small lo hi) (hgi : -9223372036854775808 ≤ gi ∧ gi ≤ 9223372036854775807) :
  Calls Try.prog 13 #[.agg #[.int .i64 k.pu, .int .i64 k.lo, .int .i64 k.hi, .int .i64 k.rb, .int .i64 k.rp, .int .i64 k.ae, .int .i64 k.ms, .int .i64 k.ma, .int .i64 k.an, .int .i64 k.st, .int .i64 k.ss, .int .i64 k.ro, .int .i64 k.ti, .int .i64 k.br], .agg #[.slice p G.length c, .slice q H.length d], .agg #[.int .i64 F, .slice ps X.length cs], .agg #[.int .i64 lo, .int .i64 hi], .int .i64 gi] w fun e w' => ∃ z : Lz, (z.L = fitG k G H f lo hi gi X ∧ Held z.N z.p (flat enc1 z.L)) ∧ e = .returned (.slice z.p z.L.length z.c) ∧ Env w w' z.N := by
 subst hF
 exact Lnk.fitting_any k lo hi gi G H p q c d s0 F X ps cs w hk hS hG hH hM hX hR hp hgi
theorem places_ref2 (gi : Int) (G : List Sg) (H : List Gp) (p q : Option Addr) (c d : Nat) (K : List Sg) (s0 f F : Int) (O : List Ix) (ps : Option Addr) (cs : Nat) (w : World) (hF : F = f) (hS : Reads w p (flat sg K)) (hG : OkS w K) (hH : Reads w q (flat gp H)) (hM : TrackMay G H) (hs : Same G K) (hX : SetOk G s0 f (xs O)) (hT : Reads w ps (flat ix O)) (hO : OkI w O) (h0 : 0 ≤ gi ∧ gi < H.length) :
  Calls Try.prog 17 #[.agg #[.slice p K.length c, .slice q H.length d], .agg #[.int .i64 F, .slice ps O.length cs], .int .i64 gi] w fun e w' => ∃ z : Pz, Held z.N z.p (flat enc1 (plc G f (H[gi.toNat]!).seg (H[gi.toNat]!).off (xs O) O.length)) ∧ e = .returned (.slice z.p (plc G f (H[gi.toNat]!).seg (H[gi.toNat]!).off (xs O) O.length).length z.c) ∧ Env w w' z.N := by
 subst hF
 exact places_ref gi G H p q c d K s0 F O ps cs w hS hG hH hM hs hX hT hO h0
theorem held_one {g : Nat} {s : Int} {t : TypeId} : HeldI [⟨g, #[.int .i64 s], t⟩] [(⟨some ⟨g, 0, none⟩, [s], 1⟩ : Ix)] := fun x hx => by
 obtain rfl := List.mem_singleton.1 hx
 exact fun w0 => sl_row 0 rfl
set_option maxHeartbeats 16000000 in
theorem linkFits_walk (k : Cf) (G : List Sg) (H : List Gp) (p q : Option Addr) (c d : Nat) (s : Int) (ws : (Lit.int .i64 s).wf = true) (f : Int) (wf : (Lit.int .i64 f).wf = true) (lo : Int) (wlo : (Lit.int .i64 lo).wf = true) (hi : Int) (whi : (Lit.int .i64 hi).wf = true) (a : Int) (wa : (Lit.int .i64 a).wf = true) (b : Int) (wb : (Lit.int .i64 b).wf = true) (gi : Int) (wgi : (Lit.int .i64 gi).wf = true) (w : World) (hS : Reads w p (flat sg G)) (hG : OkS w G) (hH : Reads w q (flat gp H)) (hn : G.length ≤ 140737488355328) (hm : H.length ≤ 140737488355328) (hcc : G.length ≤ c) (hcd : H.length ≤ d) (hC : ∀ s ∈ G, s.X.length ≤ s.nc) :
  Calls Try.prog 4 #[.agg #[.int .i64 k.pu, .int .i64 k.lo, .int .i64 k.hi, .int .i64 k.rb, .int .i64 k.rp, .int .i64 k.ae, .int .i64 k.ms, .int .i64 k.ma, .int .i64 k.an, .int .i64 k.st, .int .i64 k.ss, .int .i64 k.ro, .int .i64 k.ti, .int .i64 k.br], .agg #[.slice p G.length c, .slice q H.length d], .int .i64 s, .int .i64 f, .agg #[.int .i64 lo, .int .i64 hi], .agg #[.int .i64 a, .int .i64 b], .int .i64 gi] w fun e w' => e = .returned (.bool true) ∧ Below w.heap.size w w' := by
 refine calls_sx Try.func4 rfl ?_
 simp only [Try.ntmps4, List.size_toArray, List.length_cons, List.length_nil, Nat.reduceAdd, Nat.reduceSub, Array.replicate_succ, Array.replicate_zero, List.push_toArray, List.append_toArray, List.nil_append, List.cons_append]
 refine wc_seq ?_
 refine wc_region ?_
 refine wl_new 31 (#[.int .i64 k.pu, .int .i64 k.lo, .int .i64 k.hi, .int .i64 k.rb, .int .i64 k.rp, .int .i64 k.ae, .int .i64 k.ms, .int .i64 k.ma, .int .i64 k.an, .int .i64 k.st, .int .i64 k.ss, .int .i64 k.ro, .int .i64 k.ti, .int .i64 k.br]) rfl (fun _ => by go_simp) ?_
 intro g1
 simp only [Act.put, Xa, Xz, Xs]
 refine wl_new 35 (#[.slice p G.length c, .slice q H.length d]) rfl (fun _ => by go_simp) ?_
 intro g2
 simp only [Act.put, Xa, Xz, Xs]
 refine wl_new 23 (#[.int .i64 lo, .int .i64 hi]) rfl (fun _ => by go_simp) ?_
 intro g3
 simp only [Act.put, Xa, Xz, Xs]
 refine wl_new 23 (#[.int .i64 a, .int .i64 b]) rfl (fun _ => by go_simp) ?_
 intro g4
 simp only [Act.put, Xa, Xz, Xs]
 refine wl_val (.bool false) rfl (fun _ => rfl) ?_
 simp only [Act.put, Xa, Xz, Xs]
 refine wl_nil ?_
 refine we_then ?_
 refine wc_seq ?_
 refine wc_seq ?_
 refine wc_region ?_
 refine wl_call 5 #[] (.bool true) rfl (fun _ => by go_simp) (fun W => Lklw.anchor_any W) ?_
 simp only [Act.put, Xa, Xz, Xs]
 refine wl_val (.bool false) rfl (fun _ => by go_simp) ?_
 simp only [Act.put, Xa, Xz, Xs]
 refine wl_nil ?_
 refine we_then ?_
 refine wc_false rfl ?_
 refine wc_skip ?_
 refine we_then ?_
 refine wc_seq ?_
 refine wc_seq ?_
 refine wc_region ?_
 refine wl_load 31 (.tmp 7) (own_row 3 rfl) rfl rfl rfl Try.underlying31 rfl (by kernel_rfl) ?_
 simp only [Act.put, Xa, Xz, Xs]
 refine wl_call 9 #[.agg #[.int .i64 k.pu, .int .i64 k.lo, .int .i64 k.hi, .int .i64 k.rb, .int .i64 k.rp, .int .i64 k.ae, .int .i64 k.ms, .int .i64 k.ma, .int .i64 k.an, .int .i64 k.st, .int .i64 k.ss, .int .i64 k.ro, .int .i64 k.ti, .int .i64 k.br]] (.int .i64 ((wrong k : Nat) : Int)) rfl (fun _ => by go_simp) (fun W => wrong_any k W) ?_
 simp only [Act.put, Xa, Xz, Xs]
 refine wl_val (.bool (((wrong k : Nat) : Int) != 0)) rfl (fun w => run_cmp rfl rfl rfl Try.underlying3 rfl w) ?_
 simp only [Act.put, Xa, Xz, Xs]
 refine wl_val (.bool (((wrong k : Nat) : Int) != 0)) rfl (fun _ => rfl) ?_
 simp only [Act.put, Xa, Xz, Xs]
 cases h5 : (((wrong k : Nat) : Int) != 0)
 ·
  skip
  have p5 : ¬ (((wrong k : Nat) : Int) ≠ 0) := by first | (simp; done) | (simp at h5; done) | simpa using h5
  refine wl_load 35 (.tmp 8) (own_row 2 rfl) rfl rfl rfl Try.underlying35 rfl (by kernel_rfl) ?_
  simp only [Act.put, Xa, Xz, Xs]
  refine wl_val (.int .i64 s) rfl (fun _ => rfl) ?_
  simp only [Act.put, Xa, Xz, Xs]
  refine wl_val (.int .i64 f) rfl (fun _ => rfl) ?_
  simp only [Act.put, Xa, Xz, Xs]
  refine wl_call_at 10 #[.agg #[.slice p G.length c, .slice q H.length d], .int .i64 s, .int .i64 f] (.bool (mayT G H s f)) rfl (fun _ => by go_simp) (fun W hE => may_any20 s f G H _ _ _ _ W ((sl_old hS) W hE) (oks_below hG hE.below) ((sl_old hH) W hE) hn hm) ?_
  simp only [Act.put, Xa, Xz, Xs]
  refine wl_val (.bool (!(mayT G H s f))) rfl (fun _ => by go_simp) ?_
  simp only [Act.put, Xa, Xz, Xs]
  refine wl_val (.bool (!(mayT G H s f))) rfl (fun _ => rfl) ?_
  simp only [Act.put, Xa, Xz, Xs]
  refine wl_val (.bool (!(mayT G H s f))) rfl (fun _ => rfl) ?_
  simp only [Act.put, Xa, Xz, Xs]
  cases h6 : (mayT G H s f)
  ·
   skip
   refine wl_skip rfl ?_
   simp only [Act.put, Xa, Xz, Xs]
   refine wl_skip rfl ?_
   simp only [Act.put, Xa, Xz, Xs]
   refine wl_skip rfl ?_
   simp only [Act.put, Xa, Xz, Xs]
   refine wl_val (.bool true) rfl (fun _ => rfl) ?_
   simp only [Act.put, Xa, Xz, Xs]
   refine wl_val (.bool true) rfl (fun _ => rfl) ?_
   simp only [Act.put, Xa, Xz, Xs]
   refine wl_skip rfl ?_
   simp only [Act.put, Xa, Xz, Xs]
   refine wl_skip rfl ?_
   simp only [Act.put, Xa, Xz, Xs]
   refine wl_skip rfl ?_
   simp only [Act.put, Xa, Xz, Xs]
   refine wl_val (.bool true) rfl (fun _ => rfl) ?_
   simp only [Act.put, Xa, Xz, Xs]
   refine wl_nil ?_
   refine we_then ?_
   refine wc_true rfl ?_
   refine wc_seq ?_
   refine wc_region ?_
   refine wl_val (.bool true) rfl (fun _ => rfl) ?_
   simp only [Act.put, Xa, Xz, Xs]
   refine wl_nil ?_
   refine we_then ?_
   refine wc_ret ?_
   refine we_then_ret ?_
   refine we_ret1 (.bool true) rfl rfl rfl (fun w1 hE => ?_)
   exact ⟨rfl, hE.below⟩
  ·
   skip
   refine wl_load 23 (.tmp 11) (own_row 1 rfl) rfl rfl rfl Try.underlying23 rfl (by kernel_rfl) ?_
   simp only [Act.put, Xa, Xz, Xs]
   refine wl_call 6 #[.agg #[.int .i64 lo, .int .i64 hi]] (.bool (decide (Small lo hi))) rfl (fun _ => by go_simp) (fun W => small_any lo hi W) ?_
   simp only [Act.put, Xa, Xz, Xs]
   refine wl_val (.bool (!(decide (Small lo hi)))) rfl (fun _ => by go_simp) ?_
   simp only [Act.put, Xa, Xz, Xs]
   refine wl_val (.bool (!(decide (Small lo hi)))) rfl (fun _ => rfl) ?_
   simp only [Act.put, Xa, Xz, Xs]
   refine wl_val (.bool (!(decide (Small lo hi)))) rfl (fun _ => rfl) ?_
   simp only [Act.put, Xa, Xz, Xs]
   cases h7 : (decide (Small lo hi))
   ·
    skip
    have p7 : ¬ (Small lo hi) := of_decide_eq_false h7
    refine wl_skip rfl ?_
    simp only [Act.put, Xa, Xz, Xs]
    refine wl_skip rfl ?_
    simp only [Act.put, Xa, Xz, Xs]
    refine wl_skip rfl ?_
    simp only [Act.put, Xa, Xz, Xs]
    refine wl_val (.bool true) rfl (fun _ => rfl) ?_
    simp only [Act.put, Xa, Xz, Xs]
    refine wl_nil ?_
    refine we_then ?_
    refine wc_true rfl ?_
    refine wc_seq ?_
    refine wc_region ?_
    refine wl_val (.bool true) rfl (fun _ => rfl) ?_
    simp only [Act.put, Xa, Xz, Xs]
    refine wl_nil ?_
    refine we_then ?_
    refine wc_ret ?_
    refine we_then_ret ?_
    refine we_ret1 (.bool true) rfl rfl rfl (fun w1 hE => ?_)
    exact ⟨rfl, hE.below⟩
   ·
    skip
    have p7 : Small lo hi := of_decide_eq_true h7
    refine wl_load 23 (.tmp 12) (own_row 0 rfl) rfl rfl rfl Try.underlying23 rfl (by kernel_rfl) ?_
    simp only [Act.put, Xa, Xz, Xs]
    refine wl_call 6 #[.agg #[.int .i64 a, .int .i64 b]] (.bool (decide (Small a b))) rfl (fun _ => by go_simp) (fun W => small_any a b W) ?_
    simp only [Act.put, Xa, Xz, Xs]
    refine wl_val (.bool (!(decide (Small a b)))) rfl (fun _ => by go_simp) ?_
    simp only [Act.put, Xa, Xz, Xs]
    refine wl_val (.bool (!(decide (Small a b)))) rfl (fun _ => rfl) ?_
    simp only [Act.put, Xa, Xz, Xs]
    refine wl_nil ?_
    refine we_then ?_
    cases h8 : (decide (Small a b))
    ·
     skip
     have p8 : ¬ (Small a b) := of_decide_eq_false h8
     refine wc_true rfl ?_
     refine wc_seq ?_
     refine wc_region ?_
     refine wl_val (.bool true) rfl (fun _ => rfl) ?_
     simp only [Act.put, Xa, Xz, Xs]
     refine wl_nil ?_
     refine we_then ?_
     refine wc_ret ?_
     refine we_then_ret ?_
     refine we_ret1 (.bool true) rfl rfl rfl (fun w1 hE => ?_)
     exact ⟨rfl, hE.below⟩
    ·
     skip
     have p8 : Small a b := of_decide_eq_true h8
     refine wc_false rfl ?_
     refine wc_skip ?_
     refine we_then ?_
     refine wc_seq ?_
     have hmt := mayT_of h6
     have hM := hmt.1
     have hs := hmt.2.1
     have hf := hmt.2.2
     have hlen := (hM.segs s.toNat (by omega)).high
     have hsz := hM.sizes
     have hk := ok_of (c := k) (by omega)
     have s9 := p7
     have t9 := p8
     have s1 := s9.1
     have s2 := s9.2.1
     have s3 := s9.2.2
     have t1 := t9.1
     have t2 := t9.2.1
     have t3 := t9.2.2
     have hgi := i64_of_wf wgi
     refine wc_draw_fin (Γ := Pz × Gp2 × Nat) (fun γ9 j9 => [.int .i64 s, .int .i64 f, .agg #[.int .i64 f, .slice γ9.1.p 1 γ9.1.c], .agg #[.slice p G.length c, .slice q H.length d], .agg #[.int .i64 lo, .int .i64 hi], .tuple #[.agg #[.int .i64 γ9.2.1.F, .slice γ9.2.1.p γ9.2.1.X.length γ9.2.1.c], .int .i64 (γ9.2.1.e : Int)], .tuple #[.agg #[.int .i64 γ9.2.1.F, .slice γ9.2.1.p γ9.2.1.X.length γ9.2.1.c], .int .i64 (γ9.2.1.e : Int)], .agg #[.int .i64 γ9.2.1.F, .slice γ9.2.1.p γ9.2.1.X.length γ9.2.1.c], .int .i64 (γ9.2.1.e : Int), .pointer (some ⟨γ9.2.2, 0, none⟩), undef, .int .i64 (γ9.2.1.e : Int)].getD j9 undef) (fun ld γ9 => ((if ld 9 = true then [⟨γ9.2.2, if ld 10 = true then #[.int .i64 γ9.2.1.F, .slice γ9.2.1.p γ9.2.1.X.length γ9.2.1.c] else #[.int .i64 0, .slice none 0 0], 41⟩] else []) ++ ((if ld 5 = true then γ9.2.1.N else []) ++ ((if ld 2 = true then γ9.1.N else []) ++ [⟨g4, #[.int .i64 a, .int .i64 b], 23⟩, ⟨g3, #[.int .i64 lo, .int .i64 hi], 23⟩, ⟨g2, #[.slice p G.length c, .slice q H.length d], 35⟩, ⟨g1, #[.int .i64 k.pu, .int .i64 k.lo, .int .i64 k.hi, .int .i64 k.rb, .int .i64 k.rp, .int .i64 k.ae, .int .i64 k.ms, .int .i64 k.ma, .int .i64 k.an, .int .i64 k.st, .int .i64 k.ss, .int .i64 k.ro, .int .i64 k.ti, .int .i64 k.br], 31⟩])))) (fun ld γ9 => (ld 2 = true → Held γ9.1.N γ9.1.p (flat rt [[s]])) ∧ (ld 5 = true → Gp2Ok G f hi lo [[s]] γ9.2.1) ∧ True) ((⟨none, 0, []⟩, ⟨0, 0, none, [], 0, []⟩, 0)) 152 (fun γ9 => ({ tmps := #[.agg #[.int .i64 k.pu, .int .i64 k.lo, .int .i64 k.hi, .int .i64 k.rb, .int .i64 k.rp, .int .i64 k.ae, .int .i64 k.ms, .int .i64 k.ma, .int .i64 k.an, .int .i64 k.st, .int .i64 k.ss, .int .i64 k.ro, .int .i64 k.ti, .int .i64 k.br], .agg #[.slice p G.length c, .slice q H.length d], .int .i64 s, .int .i64 f, .agg #[.int .i64 lo, .int .i64 hi], .agg #[.int .i64 a, .int .i64 b], .int .i64 gi, .pointer (some ⟨g1, 0, none⟩), .pointer (some ⟨g2, 0, none⟩), undef, undef, .pointer (some ⟨g3, 0, none⟩), .pointer (some ⟨g4, 0, none⟩), undef, .bool false, .pointer (some ⟨γ9.2.2, 0, none⟩), .int .i64 (γ9.2.1.e : Int), undef, undef, undef, undef, undef, undef, undef, undef, .bool true, .bool false, .agg #[.int .i64 k.pu, .int .i64 k.lo, .int .i64 k.hi, .int .i64 k.rb, .int .i64 k.rp, .int .i64 k.ae, .int .i64 k.ms, .int .i64 k.ma, .int .i64 k.an, .int .i64 k.st, .int .i64 k.ss, .int .i64 k.ro, .int .i64 k.ti, .int .i64 k.br], .int .i64 ((wrong k : Nat) : Int), .bool false, .bool false, .agg #[.slice p G.length c, .slice q H.length d], .int .i64 s, .int .i64 f, .bool true, .bool false, .bool false, .bool false, .agg #[.int .i64 lo, .int .i64 hi], .bool true, .bool false, .bool false, .bool false, .agg #[.int .i64 a, .int .i64 b], .bool true, .bool false, .bool false, .tuple #[.agg #[.int .i64 γ9.2.1.F, .slice γ9.2.1.p γ9.2.1.X.length γ9.2.1.c], .int .i64 (γ9.2.1.e : Int)], .int .i64 s, .int .i64 f, .agg #[.int .i64 f, .slice γ9.1.p 1 γ9.1.c], .agg #[.slice p G.length c, .slice q H.length d], .agg #[.int .i64 lo, .int .i64 hi], .tuple #[.agg #[.int .i64 γ9.2.1.F, .slice γ9.2.1.p γ9.2.1.X.length γ9.2.1.c], .int .i64 (γ9.2.1.e : Int)], .agg #[.int .i64 γ9.2.1.F, .slice γ9.2.1.p γ9.2.1.X.length γ9.2.1.c], .int .i64 (γ9.2.1.e : Int), undef, undef, undef, undef, undef, undef, undef, undef, undef, undef, undef, undef, undef, undef, undef, undef, undef, undef, undef, undef, undef, undef, undef, undef, undef, undef, undef, undef, undef, undef, undef, undef, undef, undef, undef, undef, undef, undef, undef, undef, undef, undef, undef, undef, undef, undef, undef, undef, undef, undef, undef, undef, undef, undef, undef, undef, undef, undef, undef, undef, undef, undef, undef, undef, undef, undef, undef, undef, undef, undef, undef, undef, undef, undef, undef, undef, undef, undef, undef, undef, undef, undef, undef, undef, undef, undef, undef, undef, undef, undef, undef, undef, undef, undef, undef, undef], defers := [] } : Act)) (fun γ9 => ([⟨γ9.2.2, #[.int .i64 γ9.2.1.F, .slice γ9.2.1.p γ9.2.1.X.length γ9.2.1.c], 41⟩] ++ (γ9.2.1.N ++ (γ9.1.N ++ [⟨g4, #[.int .i64 a, .int .i64 b], 23⟩, ⟨g3, #[.int .i64 lo, .int .i64 hi], 23⟩, ⟨g2, #[.slice p G.length c, .slice q H.length d], 35⟩, ⟨g1, #[.int .i64 k.pu, .int .i64 k.lo, .int .i64 k.hi, .int .i64 k.rb, .int .i64 k.rp, .int .i64 k.ae, .int .i64 k.ms, .int .i64 k.ma, .int .i64 k.an, .int .i64 k.st, .int .i64 k.ss, .int .i64 k.ro, .int .i64 k.ti, .int .i64 k.br], 31⟩])))) (by kernel_rfl) rfl (by kernel_rfl) rfl (by simp) (fun _ => by kernel_rfl) (fun _ => rfl) ?_ ?_
     ·
      skip
      refine sps_cons (sp_valg (fun γ9 => .int .i64 s) rfl (fun _ => rfl) (fun _ _ h => h) (fun _ _ => rfl) (fun ld γ9 a9 w9 h9 hF9 hE9 => by obtain ⟨zk9, zk10, g11⟩ := γ9; exact run_moveg (by rfl) (h9.out (by kernel_rfl) rfl))) ?_
      refine sps_cons (sp_valg (fun γ9 => .int .i64 f) rfl (fun _ => rfl) (fun _ _ h => h) (fun _ _ => rfl) (fun ld γ9 a9 w9 h9 hF9 hE9 => by obtain ⟨zk9, zk10, g11⟩ := γ9; exact run_moveg (by rfl) (h9.out (by kernel_rfl) rfl))) ?_
      refine sps_cons (sp_open 11 (fun (zk9 : Pz) => .agg #[.int .i64 f, .slice zk9.p 1 zk9.c]) (fun (zk9 : Pz) => zk9.N) (fun (zk9 : Pz) => Held zk9.N zk9.p (flat rt [[s]])) rfl (fun ld γ9 a9 w9 h9 hF9 hE9 => ?_)) ?_
      ·
       obtain ⟨yy, zk10, g11⟩ := γ9
       have dl2 : ld 2 = false := h9.off
       have dl5 : ld 5 = false := h9.non (by kernel_rfl)
       have dl10 : ld 10 = false := h9.non (by kernel_rfl)
       have hS9 := hE9
       dsimp only at hS9
       simp only [dl2, dl5, dl10, if_true, if_false, Bool.false_eq_true, List.nil_append] at hS9
       have hE0 : Env w w9 ([⟨g4, #[.int .i64 a, .int .i64 b], 23⟩, ⟨g3, #[.int .i64 lo, .int .i64 hi], 23⟩, ⟨g2, #[.slice p G.length c, .slice q H.length d], 35⟩, ⟨g1, #[.int .i64 k.pu, .int .i64 k.lo, .int .i64 k.hi, .int .i64 k.rb, .int .i64 k.rp, .int .i64 k.ae, .int .i64 k.ms, .int .i64 k.ma, .int .i64 k.an, .int .i64 k.st, .int .i64 k.ss, .int .i64 k.ro, .int .i64 k.ti, .int .i64 k.br], 31⟩]) := (hS9.sub (List.sublist_append_right _ _))
       have e0 : a9.eval (.tmp 48) = .int .i64 s := (h9.tmp 0 rfl (h9.dep (by kernel_rfl)))
       have e1 : a9.eval (.tmp 49) = .int .i64 f := (h9.tmp 1 rfl (h9.dep (by kernel_rfl)))
       refine ⟨#[.int .i64 s, .int .i64 f], er_callg (enters_of Try.func11 (by kernel_rfl) rfl) rfl (by simp only [List.map_toArray, List.map_cons, List.map_nil, e0, e1]) w9, (Rou.begin_any s f w9), fun zk9 k9 => ?_⟩
       refine ⟨(zk9, zk10, g11), rfl, ?_, ?_, ?_⟩
       ·
        intro k hk
        have hk2 : k < 12 := h9.within k hk
        have hb : k = 0 ∨ k = 1 ∨ k = 2 ∨ k = 3 ∨ k = 4 ∨ k = 5 ∨ k = 6 ∨ k = 7 ∨ k = 8 ∨ k = 9 ∨ k = 10 ∨ k = 11 := by omega
        rcases hb with rfl | rfl | rfl | rfl | rfl | rfl | rfl | rfl | rfl | rfl | rfl | rfl
        ·
         rfl
        ·
         rfl
        ·
         rw [dl2] at hk; cases hk
        ·
         rfl
        ·
         rfl
        ·
         rfl
        ·
         rfl
        ·
         rfl
        ·
         rfl
        ·
         rfl
        ·
         rfl
        ·
         rfl
       ·
        exact ⟨fun _ => k9, (fun e => by (have e1 : ld 5 = true := e); rw [dl5] at e1; cases e1), trivial⟩
       ·
        skip
        have od2 : Si.one ld 2 2 = true := rfl
        have od5 : Si.one ld 2 5 = ld 5 := rfl
        have od9 : Si.one ld 2 9 = ld 9 := rfl
        have od10 : Si.one ld 2 10 = ld 10 := rfl
        dsimp only
        simp only [od2, od5, od9, od10, dl5, dl10, dl2, if_true, if_false, Bool.false_eq_true, List.nil_append]
        exact pin1 _ _ _
      refine sps_cons (sp_valg (fun γ9 => .agg #[.slice p G.length c, .slice q H.length d]) rfl (fun _ => rfl) (fun _ _ h => h) (fun _ _ => rfl) (fun ld γ9 a9 w9 h9 hF9 hE9 => by obtain ⟨zk9, zk10, g11⟩ := γ9; exact load_row (hE9.row ⟨g2, #[.slice p G.length c, .slice q H.length d], 35⟩ (List.mem_append_right _ (List.mem_append_right _ (List.mem_append_right _ (mem_of_at (i := 2) rfl))))) rfl (h9.out (by kernel_rfl) rfl) Try.underlying35 rfl (by kernel_rfl))) ?_
      refine sps_cons (sp_valg (fun γ9 => .agg #[.int .i64 lo, .int .i64 hi]) rfl (fun _ => rfl) (fun _ _ h => h) (fun _ _ => rfl) (fun ld γ9 a9 w9 h9 hF9 hE9 => by obtain ⟨zk9, zk10, g11⟩ := γ9; exact load_row (hE9.row ⟨g3, #[.int .i64 lo, .int .i64 hi], 23⟩ (List.mem_append_right _ (List.mem_append_right _ (List.mem_append_right _ (mem_of_at (i := 1) rfl))))) rfl (h9.out (by kernel_rfl) rfl) Try.underlying23 rfl (by kernel_rfl))) ?_
      refine sps_cons (sp_open 12 (fun (zk10 : Gp2) => .tuple #[.agg #[.int .i64 zk10.F, .slice zk10.p zk10.X.length zk10.c], .int .i64 (zk10.e : Int)]) (fun (zk10 : Gp2) => zk10.N) (fun (zk10 : Gp2) => Gp2Ok G f hi lo [[s]] zk10) rfl (fun ld γ9 a9 w9 h9 hF9 hE9 => ?_)) ?_
      ·
       obtain ⟨zk9, yy, g11⟩ := γ9
       have dl5 : ld 5 = false := h9.off
       have dl2 : ld 2 = true := h9.dep (by kernel_rfl)
       have dl10 : ld 10 = false := h9.non (by kernel_rfl)
       have k9 := hF9.1 dl2
       have hS9 := hE9
       dsimp only at hS9
       simp only [dl2, dl5, dl10, if_true, if_false, Bool.false_eq_true, List.nil_append] at hS9
       have hE0 : Env w w9 (⟨g4, #[.int .i64 a, .int .i64 b], 23⟩ :: ⟨g3, #[.int .i64 lo, .int .i64 hi], 23⟩ :: ⟨g2, #[.slice p G.length c, .slice q H.length d], 35⟩ :: ⟨g1, #[.int .i64 k.pu, .int .i64 k.lo, .int .i64 k.hi, .int .i64 k.rb, .int .i64 k.rp, .int .i64 k.ae, .int .i64 k.ms, .int .i64 k.ma, .int .i64 k.an, .int .i64 k.st, .int .i64 k.ss, .int .i64 k.ro, .int .i64 k.ti, .int .i64 k.br], 31⟩ :: zk9.N) := Env.perm (hS9.sub (List.sublist_append_right _ _)) ((pf1 [] _ _).trans (List.Perm.of_eq (by first | rfl | simp only [List.append_assoc, List.cons_append, List.nil_append])))
       have e0 : a9.eval (.tmp 50) = .agg #[.int .i64 f, .slice zk9.p 1 zk9.c] := (h9.tmp 2 rfl (h9.dep (by kernel_rfl)))
       have e1 : a9.eval (.tmp 51) = .agg #[.slice p G.length c, .slice q H.length d] := (h9.tmp 3 rfl (h9.dep (by kernel_rfl)))
       have e2 : a9.eval (.tmp 52) = .agg #[.int .i64 lo, .int .i64 hi] := (h9.tmp 4 rfl (h9.dep (by kernel_rfl)))
       refine ⟨#[.agg #[.int .i64 f, .slice zk9.p 1 zk9.c], .agg #[.slice p G.length c, .slice q H.length d], .agg #[.int .i64 lo, .int .i64 hi]], er_callg (enters_of Try.func12 (by kernel_rfl) rfl) rfl (by simp only [List.map_toArray, List.map_cons, List.map_nil, e0, e1, e2]) w9, (grow_gen lo hi G H _ _ _ _ s f f [[s]] 1 _ _ w9 ((sl_old hS) w9 hE0) (oks_below hG hE0.below) ((sl_old hH) w9 hE0) hM rfl rfl (begin_ok hs hf) ((sl_held k9 (List.Sublist.cons _ (List.Sublist.cons _ (List.Sublist.cons _ (List.Sublist.cons _ (List.Sublist.refl _)))))) w9 hE0) ⟨by omega, by omega⟩ ⟨by omega, by omega⟩ hC), fun zk10 k10 => ?_⟩
       refine ⟨(zk9, zk10, g11), rfl, ?_, ?_, ?_⟩
       have dl6 : ld 6 = false := h9.non (by kernel_rfl)
       have dl7 : ld 7 = false := h9.non2 6 dl6 (by kernel_rfl)
       have dl8 : ld 8 = false := h9.non2 6 dl6 (by kernel_rfl)
       have dl11 : ld 11 = false := h9.non (by kernel_rfl)
       ·
        intro k hk
        have hk2 : k < 12 := h9.within k hk
        have hb : k = 0 ∨ k = 1 ∨ k = 2 ∨ k = 3 ∨ k = 4 ∨ k = 5 ∨ k = 6 ∨ k = 7 ∨ k = 8 ∨ k = 9 ∨ k = 10 ∨ k = 11 := by omega
        rcases hb with rfl | rfl | rfl | rfl | rfl | rfl | rfl | rfl | rfl | rfl | rfl | rfl
        ·
         rfl
        ·
         rfl
        ·
         rfl
        ·
         rfl
        ·
         rfl
        ·
         rw [dl5] at hk; cases hk
        ·
         rw [dl6] at hk; cases hk
        ·
         rw [dl7] at hk; cases hk
        ·
         rw [dl8] at hk; cases hk
        ·
         rfl
        ·
         rfl
        ·
         rw [dl11] at hk; cases hk
       ·
        exact ⟨fun _ => k9, fun _ => k10, trivial⟩
       ·
        skip
        have od2 : Si.one ld 5 2 = ld 2 := rfl
        have od5 : Si.one ld 5 5 = true := rfl
        have od9 : Si.one ld 5 9 = ld 9 := rfl
        have od10 : Si.one ld 5 10 = ld 10 := rfl
        dsimp only
        simp only [od2, od5, od9, od10, dl2, dl10, dl5, if_true, if_false, Bool.false_eq_true, List.nil_append]
        exact pin1 _ _ _
      refine sps_cons (sp_valg (fun γ9 => .tuple #[.agg #[.int .i64 γ9.2.1.F, .slice γ9.2.1.p γ9.2.1.X.length γ9.2.1.c], .int .i64 (γ9.2.1.e : Int)]) rfl (fun _ => rfl) (fun _ _ h => h) (fun _ _ => rfl) (fun ld γ9 a9 w9 h9 hF9 hE9 => by obtain ⟨zk9, zk10, g11⟩ := γ9; exact run_moveg (by rfl) (h9.tmp 5 rfl (h9.dep (by kernel_rfl))))) ?_
      refine sps_cons (sp_valg (fun γ9 => .agg #[.int .i64 γ9.2.1.F, .slice γ9.2.1.p γ9.2.1.X.length γ9.2.1.c]) rfl (fun _ => rfl) (fun _ _ h => h) (fun _ _ => rfl) (fun ld γ9 a9 w9 h9 hF9 hE9 => by obtain ⟨zk9, zk10, g11⟩ := γ9; exact run_extractg (by rfl) (h9.tmp 6 rfl (h9.dep (by kernel_rfl))) rfl)) ?_
      refine sps_cons (sp_valg (fun γ9 => .int .i64 (γ9.2.1.e : Int)) rfl (fun _ => rfl) (fun _ _ h => h) (fun _ _ => rfl) (fun ld γ9 a9 w9 h9 hF9 hE9 => by obtain ⟨zk9, zk10, g11⟩ := γ9; exact run_extractg (by rfl) (h9.tmp 6 rfl (h9.dep (by kernel_rfl))) rfl)) ?_
      refine sps_cons (sp_alloc (#[.int .i64 0, .slice none 0 0]) 41 rfl (fun a9 w9 => by go_simp) (fun ld γ9 a9 n9 h9 hF9 => ?_)) ?_
      ·
       obtain ⟨zk9, zk10, yy⟩ := γ9
       have dl9 : ld 9 = false := h9.off
       have dl10 : ld 10 = false := h9.non (by kernel_rfl)
       refine ⟨(zk9, zk10, n9), rfl, ?_, hF9, ?_⟩
       ·
        intro k hk
        have hk2 : k < 12 := h9.within k hk
        have hb : k = 0 ∨ k = 1 ∨ k = 2 ∨ k = 3 ∨ k = 4 ∨ k = 5 ∨ k = 6 ∨ k = 7 ∨ k = 8 ∨ k = 9 ∨ k = 10 ∨ k = 11 := by omega
        rcases hb with rfl | rfl | rfl | rfl | rfl | rfl | rfl | rfl | rfl | rfl | rfl | rfl
        ·
         rfl
        ·
         rfl
        ·
         rfl
        ·
         rfl
        ·
         rfl
        ·
         rfl
        ·
         rfl
        ·
         rfl
        ·
         rfl
        ·
         rw [dl9] at hk; cases hk
        ·
         rfl
        ·
         rfl
       ·
        skip
        have od2 : Si.one ld 9 2 = ld 2 := rfl
        have od5 : Si.one ld 9 5 = ld 5 := rfl
        have od9 : Si.one ld 9 9 = true := rfl
        have od10 : Si.one ld 9 10 = ld 10 := rfl
        dsimp only
        simp only [od2, od5, od9, od10, dl10, dl9, if_true, if_false, Bool.false_eq_true, List.nil_append]
        exact pin0 [_] _
      refine sps_cons (sp_put 41 (.tmp 15) (.tmp 54) rfl rfl (fun ld γ9 a9 h9 hF9 => ?_)) ?_
      ·
       obtain ⟨zk9, zk10, g11⟩ := γ9
       have dl10 : ld 10 = false := h9.off
       have dl9 : ld 9 = true := h9.dep (by kernel_rfl)
       have dl2 : ld 2 = true := h9.dep (by kernel_rfl)
       have dl5 : ld 5 = true := h9.dep (by kernel_rfl)
       refine ⟨g11, #[.int .i64 zk10.F, .slice zk10.p zk10.X.length zk10.c], #[.int .i64 0, .slice none 0 0], 41, ((if ld 5 = true then zk10.N else []) ++ ((if ld 2 = true then zk9.N else []) ++ [⟨g4, #[.int .i64 a, .int .i64 b], 23⟩, ⟨g3, #[.int .i64 lo, .int .i64 hi], 23⟩, ⟨g2, #[.slice p G.length c, .slice q H.length d], 35⟩, ⟨g1, #[.int .i64 k.pu, .int .i64 k.lo, .int .i64 k.hi, .int .i64 k.rb, .int .i64 k.rp, .int .i64 k.ae, .int .i64 k.ms, .int .i64 k.ma, .int .i64 k.an, .int .i64 k.st, .int .i64 k.ss, .int .i64 k.ro, .int .i64 k.ti, .int .i64 k.br], 31⟩])), (h9.tmp 9 rfl (h9.dep (by kernel_rfl))), (h9.tmp 7 rfl (h9.dep (by kernel_rfl))), (by kernel_rfl), rfl, (by simp [Value.oneCell']), ?_, rfl, hF9, ?_⟩
       ·
        dsimp only
        simp only [dl9, dl10, if_true, if_false, Bool.false_eq_true]
        exact (pin0 [_] _).symm
       ·
        skip
        have od2 : Si.one ld 10 2 = ld 2 := rfl
        have od5 : Si.one ld 10 5 = ld 5 := rfl
        have od9 : Si.one ld 10 9 = ld 9 := rfl
        have od10 : Si.one ld 10 10 = true := rfl
        dsimp only
        simp only [od2, od5, od9, od10, dl2, dl5, dl9, dl10, if_true, if_false, Bool.false_eq_true, List.nil_append]
        exact pin0 [_] _
      refine sps_cons (sp_valg (fun γ9 => .int .i64 (γ9.2.1.e : Int)) rfl (fun _ => rfl) (fun _ _ h => h) (fun _ _ => rfl) (fun ld γ9 a9 w9 h9 hF9 hE9 => by obtain ⟨zk9, zk10, g11⟩ := γ9; exact run_assigng (by rfl) (h9.tmp 8 rfl (h9.dep (by kernel_rfl))))) ?_
      exact sps_nil
     rintro ⟨zk9, zk10, g11⟩ ⟨k9, k10, -⟩
     replace k9 := k9 (by decide)
     (try dsimp only at k9)
     replace k10 := k10 (by decide)
     (try dsimp only at k10)
     (try dsimp only)
     refine we_perm (R' := ⟨g11, #[.int .i64 zk10.F, .slice zk10.p zk10.X.length zk10.c], 41⟩ :: ⟨g4, #[.int .i64 a, .int .i64 b], 23⟩ :: ⟨g3, #[.int .i64 lo, .int .i64 hi], 23⟩ :: ⟨g2, #[.slice p G.length c, .slice q H.length d], 35⟩ :: ⟨g1, #[.int .i64 k.pu, .int .i64 k.lo, .int .i64 k.hi, .int .i64 k.rb, .int .i64 k.rp, .int .i64 k.ae, .int .i64 k.ms, .int .i64 k.ma, .int .i64 k.an, .int .i64 k.st, .int .i64 k.ss, .int .i64 k.ro, .int .i64 k.ti, .int .i64 k.br], 31⟩ :: (zk9.N ++ zk10.N)) ((pf2 [⟨g11, #[.int .i64 zk10.F, .slice zk10.p zk10.X.length zk10.c], 41⟩] _ _ _).trans (List.Perm.of_eq (by first | rfl | simp only [List.append_assoc, List.cons_append, List.nil_append]))) ?_
     refine we_then ?_
     refine wc_seq ?_
     refine wc_seq ?_
     refine wc_region ?_
     refine wl_val (.int .i64 (zk10.e : Int)) rfl (fun _ => rfl) ?_
     simp only [Act.put, Xa, Xz, Xs]
     refine wl_val (.bool ((zk10.e : Int) != 0)) rfl (fun w => run_cmp rfl rfl rfl Try.underlying42 rfl w) ?_
     simp only [Act.put, Xa, Xz, Xs]
     refine wl_nil ?_
     refine we_then ?_
     cases h12 : ((zk10.e : Int) != 0)
     ·
      skip
      have p12 : ¬ ((zk10.e : Int) ≠ 0) := by first | (simp; done) | (simp at h12; done) | simpa using h12
      refine wc_false rfl ?_
      refine wc_skip ?_
      refine we_then ?_
      refine wc_seq ?_
      have gw1 : growS G f hi [[s]] lo = (0, zk10.X) := by have x := k10.is; rwa [show zk10.e = 0 by omega] at x
      have okX := grow_ok hM.segs (begin_ok hs hf) gw1
      have f1 : zk10.F = f := k10.frm (by omega)
      refine wc_region ?_
      refine wl_load 31 (.tmp 7) (own_row 4 rfl) rfl rfl rfl Try.underlying31 rfl (by kernel_rfl) ?_
      simp only [Act.put, Xa, Xz, Xs]
      refine wl_load 35 (.tmp 8) (own_row 3 rfl) rfl rfl rfl Try.underlying35 rfl (by kernel_rfl) ?_
      simp only [Act.put, Xa, Xz, Xs]
      refine wl_load 41 (.tmp 15) (own_row 0 rfl) rfl rfl rfl Try.underlying41 rfl (by kernel_rfl) ?_
      simp only [Act.put, Xa, Xz, Xs]
      refine wl_load 23 (.tmp 12) (own_row 1 rfl) rfl rfl rfl Try.underlying23 rfl (by kernel_rfl) ?_
      simp only [Act.put, Xa, Xz, Xs]
      refine wl_val (.int .i64 gi) rfl (fun _ => rfl) ?_
      simp only [Act.put, Xa, Xz, Xs]
      refine wl_call_open (ι := Lz) (fun zz => match zz with | zk13 => ⟨g11, #[.int .i64 zk10.F, .slice zk10.p zk10.X.length zk10.c], 41⟩ :: ⟨g4, #[.int .i64 a, .int .i64 b], 23⟩ :: ⟨g3, #[.int .i64 lo, .int .i64 hi], 23⟩ :: ⟨g2, #[.slice p G.length c, .slice q H.length d], 35⟩ :: ⟨g1, #[.int .i64 k.pu, .int .i64 k.lo, .int .i64 k.hi, .int .i64 k.rb, .int .i64 k.rp, .int .i64 k.ae, .int .i64 k.ms, .int .i64 k.ma, .int .i64 k.an, .int .i64 k.st, .int .i64 k.ss, .int .i64 k.ro, .int .i64 k.ti, .int .i64 k.br], 31⟩ :: (zk9.N ++ (zk10.N ++ zk13.N))) 13 #[.agg #[.int .i64 k.pu, .int .i64 k.lo, .int .i64 k.hi, .int .i64 k.rb, .int .i64 k.rp, .int .i64 k.ae, .int .i64 k.ms, .int .i64 k.ma, .int .i64 k.an, .int .i64 k.st, .int .i64 k.ss, .int .i64 k.ro, .int .i64 k.ti, .int .i64 k.br], .agg #[.slice p G.length c, .slice q H.length d], .agg #[.int .i64 zk10.F, .slice zk10.p zk10.X.length zk10.c], .agg #[.int .i64 a, .int .i64 b], .int .i64 gi] (fun zz => match zz with | zk13 => .slice zk13.p zk13.L.length zk13.c) (fun zz => match zz with | zk13 => zk13.N) (fun zz => match zz with | zk13 => zk13.L = fitG k G H f a b gi zk10.X ∧ Held zk13.N zk13.p (flat enc1 zk13.L)) (by rintro zk13; simp) rfl (fun _ => by go_simp) (fun W hE => fitting_len k a b gi G H _ _ _ _ s f zk10.F zk10.X _ _ W f1 hk ((sl_old hS) W hE) (oks_below hG hE.below) ((sl_old hH) W hE) hM okX ((sl_held k10.held (List.Sublist.cons _ (List.Sublist.cons _ (List.Sublist.cons _ (List.Sublist.cons _ (List.Sublist.cons _ (List.sublist_append_of_sublist_right (List.Sublist.refl _)))))))) W hE) t9 hgi) ?_
      rintro zk13 k13
      (try dsimp only)
      simp only [Act.put, Xa, Xz, Xs]
      refine wl_val (.slice zk13.p zk13.L.length zk13.c) rfl (fun _ => rfl) ?_
      simp only [Act.put, Xa, Xz, Xs]
      refine wl_nil ?_
      refine we_then ?_
      refine wc_seq ?_
      refine wc_seq ?_
      refine wc_region ?_
      refine wl_val (.int .i64 gi) rfl (fun _ => rfl) ?_
      simp only [Act.put, Xa, Xz, Xs]
      refine wl_val (.bool (decide (gi < 0))) rfl (fun w => run_cmp rfl rfl rfl Try.underlying3 rfl w) ?_
      simp only [Act.put, Xa, Xz, Xs]
      refine wl_val (.bool (decide (gi < 0))) rfl (fun _ => rfl) ?_
      simp only [Act.put, Xa, Xz, Xs]
      cases h14 : (decide (gi < 0))
      ·
       skip
       have p14 : ¬ (gi < 0) := of_decide_eq_false h14
       refine wl_val (.int .i64 gi) rfl (fun _ => rfl) ?_
       simp only [Act.put, Xa, Xz, Xs]
       refine wl_val (.pointer (some ⟨g2, 1, none⟩)) rfl (fun _ => by go_simp) ?_
       simp only [Act.put, Xa, Xz, Xs]
       refine wl_cell 33 (.tmp 68) (.slice q H.length d) (own_row 3 rfl) rfl rfl rfl rfl Try.isAgg33 ?_
       simp only [Act.put, Xa, Xz, Xs]
       refine wl_val (.int .i64 (H.length : Int)) rfl (fun w => er_len rfl rfl Try.underlying33 w) ?_
       simp only [Act.put, Xa, Xz, Xs]
       refine wl_val (.bool (decide ((H.length : Int) ≤ gi))) rfl (fun w => run_cmp rfl rfl rfl Try.underlying3 rfl w) ?_
       simp only [Act.put, Xa, Xz, Xs]
       refine wl_val (.bool (decide ((H.length : Int) ≤ gi))) rfl (fun _ => rfl) ?_
       simp only [Act.put, Xa, Xz, Xs]
       refine wl_nil ?_
       refine we_then ?_
       cases h15 : (decide ((H.length : Int) ≤ gi))
       ·
        skip
        have p15 : ¬ ((H.length : Int) ≤ gi) := of_decide_eq_false h15
        refine wc_false rfl ?_
        refine wc_skip ?_
        refine we_then ?_
        refine wc_seq ?_
        refine wc_draw_fin (Γ := Cp × Gz × Nat × Nat × Nat) (fun γ9 j9 => [.agg #[.slice p G.length c, .slice q H.length d], .agg #[.slice γ9.1.p γ9.1.K.length γ9.1.c, .slice γ9.1.q H.length γ9.1.d], .int .i64 f, .int .i64 s, .slice (some ⟨γ9.2.2.1, 0, none⟩) 1 1, .slice (some ⟨γ9.2.2.2.1, 0, none⟩) 1 1, .agg #[.int .i64 f, .slice (some ⟨γ9.2.2.2.1, 0, none⟩) 1 1], .pointer (some ⟨g3, 0, none⟩), .int .i64 lo, .pointer (some ⟨g3, 1, none⟩), .int .i64 hi, .tuple #[.agg #[.int .i64 γ9.2.1.F, .slice γ9.2.1.p γ9.2.1.O.length γ9.2.1.c], .int .i64 (γ9.2.1.e : Int)], .tuple #[.agg #[.int .i64 γ9.2.1.F, .slice γ9.2.1.p γ9.2.1.O.length γ9.2.1.c], .int .i64 (γ9.2.1.e : Int)], .agg #[.int .i64 γ9.2.1.F, .slice γ9.2.1.p γ9.2.1.O.length γ9.2.1.c], .int .i64 (γ9.2.1.e : Int), .pointer (some ⟨γ9.2.2.2.2, 0, none⟩), undef, .int .i64 (γ9.2.1.e : Int)].getD j9 undef) (fun ld γ9 => ((if ld 4 = true then [⟨γ9.2.2.1, #[.int .i64 s], 3⟩] else []) ++ ((if ld 5 = true then [⟨γ9.2.2.2.1, #[.slice (some ⟨γ9.2.2.1, 0, none⟩) 1 1], 58⟩] else []) ++ ((if ld 15 = true then [⟨γ9.2.2.2.2, if ld 16 = true then #[.int .i64 γ9.2.1.F, .slice γ9.2.1.p γ9.2.1.O.length γ9.2.1.c] else #[.int .i64 0, .slice none 0 0], 50⟩] else []) ++ ((if ld 11 = true then γ9.2.1.N else []) ++ ((if ld 1 = true then γ9.1.N else []) ++ ⟨g11, #[.int .i64 zk10.F, .slice zk10.p zk10.X.length zk10.c], 41⟩ :: ⟨g4, #[.int .i64 a, .int .i64 b], 23⟩ :: ⟨g3, #[.int .i64 lo, .int .i64 hi], 23⟩ :: ⟨g2, #[.slice p G.length c, .slice q H.length d], 35⟩ :: ⟨g1, #[.int .i64 k.pu, .int .i64 k.lo, .int .i64 k.hi, .int .i64 k.rb, .int .i64 k.rp, .int .i64 k.ae, .int .i64 k.ms, .int .i64 k.ma, .int .i64 k.an, .int .i64 k.st, .int .i64 k.ss, .int .i64 k.ro, .int .i64 k.ti, .int .i64 k.br], 31⟩ :: (zk9.N ++ (zk10.N ++ zk13.N)))))))) (fun ld γ9 => (ld 1 = true → CpOk G H γ9.1) ∧ (ld 11 = true → GzOk G f hi lo [(⟨some ⟨γ9.2.2.1, 0, none⟩, [s], 1⟩ : Ix)] γ9.2.1) ∧ True) ((⟨[], none, 0, none, 0, []⟩, ⟨0, 0, none, [], 0, []⟩, 0, 0, 0)) 152 (fun γ9 => ({ tmps := #[.agg #[.int .i64 k.pu, .int .i64 k.lo, .int .i64 k.hi, .int .i64 k.rb, .int .i64 k.rp, .int .i64 k.ae, .int .i64 k.ms, .int .i64 k.ma, .int .i64 k.an, .int .i64 k.st, .int .i64 k.ss, .int .i64 k.ro, .int .i64 k.ti, .int .i64 k.br], .agg #[.slice p G.length c, .slice q H.length d], .int .i64 s, .int .i64 f, .agg #[.int .i64 lo, .int .i64 hi], .agg #[.int .i64 a, .int .i64 b], .int .i64 gi, .pointer (some ⟨g1, 0, none⟩), .pointer (some ⟨g2, 0, none⟩), undef, undef, .pointer (some ⟨g3, 0, none⟩), .pointer (some ⟨g4, 0, none⟩), undef, .bool false, .pointer (some ⟨g11, 0, none⟩), .int .i64 (zk10.e : Int), .slice zk13.p zk13.L.length zk13.c, .pointer (some ⟨γ9.2.2.2.2, 0, none⟩), .int .i64 (γ9.2.1.e : Int), undef, undef, undef, undef, undef, .bool true, .bool false, .agg #[.int .i64 k.pu, .int .i64 k.lo, .int .i64 k.hi, .int .i64 k.rb, .int .i64 k.rp, .int .i64 k.ae, .int .i64 k.ms, .int .i64 k.ma, .int .i64 k.an, .int .i64 k.st, .int .i64 k.ss, .int .i64 k.ro, .int .i64 k.ti, .int .i64 k.br], .int .i64 ((wrong k : Nat) : Int), .bool false, .bool false, .agg #[.slice p G.length c, .slice q H.length d], .int .i64 s, .int .i64 f, .bool true, .bool false, .bool false, .bool false, .agg #[.int .i64 lo, .int .i64 hi], .bool true, .bool false, .bool false, .bool false, .agg #[.int .i64 a, .int .i64 b], .bool true, .bool false, .bool false, .tuple #[.agg #[.int .i64 zk10.F, .slice zk10.p zk10.X.length zk10.c], .int .i64 (zk10.e : Int)], .int .i64 s, .int .i64 f, .agg #[.int .i64 f, .slice zk9.p 1 zk9.c], .agg #[.slice p G.length c, .slice q H.length d], .agg #[.int .i64 lo, .int .i64 hi], .tuple #[.agg #[.int .i64 zk10.F, .slice zk10.p zk10.X.length zk10.c], .int .i64 (zk10.e : Int)], .agg #[.int .i64 zk10.F, .slice zk10.p zk10.X.length zk10.c], .int .i64 (zk10.e : Int), .int .i64 (zk10.e : Int), .bool false, .agg #[.int .i64 k.pu, .int .i64 k.lo, .int .i64 k.hi, .int .i64 k.rb, .int .i64 k.rp, .int .i64 k.ae, .int .i64 k.ms, .int .i64 k.ma, .int .i64 k.an, .int .i64 k.st, .int .i64 k.ss, .int .i64 k.ro, .int .i64 k.ti, .int .i64 k.br], .agg #[.slice p G.length c, .slice q H.length d], .agg #[.int .i64 zk10.F, .slice zk10.p zk10.X.length zk10.c], .agg #[.int .i64 a, .int .i64 b], .int .i64 gi, .slice zk13.p zk13.L.length zk13.c, .int .i64 gi, .bool false, .bool false, .int .i64 gi, .pointer (some ⟨g2, 1, none⟩), .slice q H.length d, .int .i64 (H.length : Int), .bool false, .bool false, undef, undef, undef, .tuple #[.agg #[.int .i64 γ9.2.1.F, .slice γ9.2.1.p γ9.2.1.O.length γ9.2.1.c], .int .i64 (γ9.2.1.e : Int)], .agg #[.slice p G.length c, .slice q H.length d], .agg #[.slice γ9.1.p γ9.1.K.length γ9.1.c, .slice γ9.1.q H.length γ9.1.d], .int .i64 f, .int .i64 s, .slice (some ⟨γ9.2.2.1, 0, none⟩) 1 1, .slice (some ⟨γ9.2.2.2.1, 0, none⟩) 1 1, .agg #[.int .i64 f, .slice (some ⟨γ9.2.2.2.1, 0, none⟩) 1 1], .pointer (some ⟨g3, 0, none⟩), .int .i64 lo, .pointer (some ⟨g3, 1, none⟩), .int .i64 hi, .tuple #[.agg #[.int .i64 γ9.2.1.F, .slice γ9.2.1.p γ9.2.1.O.length γ9.2.1.c], .int .i64 (γ9.2.1.e : Int)], .agg #[.int .i64 γ9.2.1.F, .slice γ9.2.1.p γ9.2.1.O.length γ9.2.1.c], .int .i64 (γ9.2.1.e : Int), undef, undef, undef, undef, undef, undef, undef, undef, undef, undef, undef, undef, undef, undef, undef, undef, undef, undef, undef, undef, undef, undef, undef, undef, undef, undef, undef, undef, undef, undef, undef, undef, undef, undef, undef, undef, undef, undef, undef, undef, undef, undef, undef, undef, undef, undef, undef, undef, undef, undef, undef, undef, undef, undef, undef, undef, undef, undef, undef, undef, undef], defers := [] } : Act)) (fun γ9 => ([⟨γ9.2.2.1, #[.int .i64 s], 3⟩] ++ ([⟨γ9.2.2.2.1, #[.slice (some ⟨γ9.2.2.1, 0, none⟩) 1 1], 58⟩] ++ ([⟨γ9.2.2.2.2, #[.int .i64 γ9.2.1.F, .slice γ9.2.1.p γ9.2.1.O.length γ9.2.1.c], 50⟩] ++ (γ9.2.1.N ++ (γ9.1.N ++ ⟨g11, #[.int .i64 zk10.F, .slice zk10.p zk10.X.length zk10.c], 41⟩ :: ⟨g4, #[.int .i64 a, .int .i64 b], 23⟩ :: ⟨g3, #[.int .i64 lo, .int .i64 hi], 23⟩ :: ⟨g2, #[.slice p G.length c, .slice q H.length d], 35⟩ :: ⟨g1, #[.int .i64 k.pu, .int .i64 k.lo, .int .i64 k.hi, .int .i64 k.rb, .int .i64 k.rp, .int .i64 k.ae, .int .i64 k.ms, .int .i64 k.ma, .int .i64 k.an, .int .i64 k.st, .int .i64 k.ss, .int .i64 k.ro, .int .i64 k.ti, .int .i64 k.br], 31⟩ :: (zk9.N ++ (zk10.N ++ zk13.N)))))))) (by kernel_rfl) rfl (by kernel_rfl) rfl (by simp) (fun _ => by kernel_rfl) (fun _ => rfl) ?_ ?_
        ·
         skip
         refine sps_cons (sp_valg (fun γ9 => .agg #[.slice p G.length c, .slice q H.length d]) rfl (fun _ => rfl) (fun _ _ h => h) (fun _ _ => rfl) (fun ld γ9 a9 w9 h9 hF9 hE9 => by obtain ⟨zk16, zk19, g17, g18, g20⟩ := γ9; exact load_row (hE9.row ⟨g2, #[.slice p G.length c, .slice q H.length d], 35⟩ (List.mem_append_right _ (List.mem_append_right _ (List.mem_append_right _ (List.mem_append_right _ (List.mem_append_right _ (mem_of_at (i := 3) rfl))))))) rfl (h9.out (by kernel_rfl) rfl) Try.underlying35 rfl (by kernel_rfl))) ?_
         refine sps_cons (sp_open 15 (fun (zk16 : Cp) => .agg #[.slice zk16.p zk16.K.length zk16.c, .slice zk16.q H.length zk16.d]) (fun (zk16 : Cp) => zk16.N) (fun (zk16 : Cp) => CpOk G H zk16) rfl (fun ld γ9 a9 w9 h9 hF9 hE9 => ?_)) ?_
         ·
          obtain ⟨yy, zk19, g17, g18, g20⟩ := γ9
          have dl1 : ld 1 = false := h9.off
          have dl11 : ld 11 = false := h9.non (by kernel_rfl)
          have dl16 : ld 16 = false := h9.non (by kernel_rfl)
          have hS9 := hE9
          dsimp only at hS9
          simp only [dl1, dl11, dl16, if_true, if_false, Bool.false_eq_true, List.nil_append, List.cons_append] at hS9
          have hE0 : Env w w9 (⟨g11, #[.int .i64 zk10.F, .slice zk10.p zk10.X.length zk10.c], 41⟩ :: ⟨g4, #[.int .i64 a, .int .i64 b], 23⟩ :: ⟨g3, #[.int .i64 lo, .int .i64 hi], 23⟩ :: ⟨g2, #[.slice p G.length c, .slice q H.length d], 35⟩ :: ⟨g1, #[.int .i64 k.pu, .int .i64 k.lo, .int .i64 k.hi, .int .i64 k.rb, .int .i64 k.rp, .int .i64 k.ae, .int .i64 k.ms, .int .i64 k.ma, .int .i64 k.an, .int .i64 k.st, .int .i64 k.ss, .int .i64 k.ro, .int .i64 k.ti, .int .i64 k.br], 31⟩ :: (zk9.N ++ (zk10.N ++ zk13.N))) := (((hS9.sub (List.sublist_append_right _ _)).sub (List.sublist_append_right _ _)).sub (List.sublist_append_right _ _))
          have e0 : a9.eval (.tmp 77) = .agg #[.slice p G.length c, .slice q H.length d] := (h9.tmp 0 rfl (h9.dep (by kernel_rfl)))
          refine ⟨#[.agg #[.slice p G.length c, .slice q H.length d]], er_callg (enters_of Try.func15 (by kernel_rfl) rfl) rfl (by simp only [List.map_toArray, List.map_cons, List.map_nil, e0]) w9, (refs_open20 G H _ _ _ _ w9 ((sl_old hS) w9 hE0) (oks_below hG hE0.below) ((sl_old hH) w9 hE0) (may_few hM).1 (may_few hM).2), fun zk16 k16 => ?_⟩
          refine ⟨(zk16, zk19, g17, g18, g20), rfl, ?_, ?_, ?_⟩
          ·
           intro k hk
           have hk2 : k < 18 := h9.within k hk
           have hb : k = 0 ∨ k = 1 ∨ k = 2 ∨ k = 3 ∨ k = 4 ∨ k = 5 ∨ k = 6 ∨ k = 7 ∨ k = 8 ∨ k = 9 ∨ k = 10 ∨ k = 11 ∨ k = 12 ∨ k = 13 ∨ k = 14 ∨ k = 15 ∨ k = 16 ∨ k = 17 := by omega
           rcases hb with rfl | rfl | rfl | rfl | rfl | rfl | rfl | rfl | rfl | rfl | rfl | rfl | rfl | rfl | rfl | rfl | rfl | rfl
           ·
            rfl
           ·
            rw [dl1] at hk; cases hk
           ·
            rfl
           ·
            rfl
           ·
            rfl
           ·
            rfl
           ·
            rfl
           ·
            rfl
           ·
            rfl
           ·
            rfl
           ·
            rfl
           ·
            rfl
           ·
            rfl
           ·
            rfl
           ·
            rfl
           ·
            rfl
           ·
            rfl
           ·
            rfl
          ·
           exact ⟨fun _ => k16, (fun e => by (have e1 : ld 11 = true := e); rw [dl11] at e1; cases e1), trivial⟩
          ·
           skip
           have od1 : Si.one ld 1 1 = true := rfl
           have od11 : Si.one ld 1 11 = ld 11 := rfl
           have od4 : Si.one ld 1 4 = ld 4 := rfl
           have od5 : Si.one ld 1 5 = ld 5 := rfl
           have od15 : Si.one ld 1 15 = ld 15 := rfl
           have od16 : Si.one ld 1 16 = ld 16 := rfl
           dsimp only
           simp only [od1, od11, od4, od5, od15, od16, dl11, dl16, dl1, if_true, if_false, Bool.false_eq_true, List.nil_append]
           exact pin3 _ _ _ _ _
         refine sps_cons (sp_valg (fun γ9 => .int .i64 f) rfl (fun _ => rfl) (fun _ _ h => h) (fun _ _ => rfl) (fun ld γ9 a9 w9 h9 hF9 hE9 => by obtain ⟨zk16, zk19, g17, g18, g20⟩ := γ9; exact run_moveg (by rfl) (h9.out (by kernel_rfl) rfl))) ?_
         refine sps_cons (sp_valg (fun γ9 => .int .i64 s) rfl (fun _ => rfl) (fun _ _ h => h) (fun _ _ => rfl) (fun ld γ9 a9 w9 h9 hF9 hE9 => by obtain ⟨zk16, zk19, g17, g18, g20⟩ := γ9; exact run_moveg (by rfl) (h9.out (by kernel_rfl) rfl))) ?_
         refine sps_cons (sp_lit (fun γ9 => #[.int .i64 s]) 3 1 rfl (fun ld γ9 a9 h9 hF9 => ?_)) ?_
         ·
          obtain ⟨zk16, zk19, yy, g18, g20⟩ := γ9
          have dl4 : ld 4 = false := h9.off
          have dl5 : ld 5 = false := h9.non (by kernel_rfl)
          have dl6 : ld 6 = false := h9.non2 5 dl5 (by kernel_rfl)
          have dl11 : ld 11 = false := h9.non2 6 dl6 (by kernel_rfl)
          have dl16 : ld 16 = false := h9.non (by kernel_rfl)
          refine ⟨fun w9 => run_lit1 (v := .int .i64 s) (z := .int .i64 0) rfl (h9.tmp 3 rfl (h9.dep (by kernel_rfl))) rfl Try.underlying58 (by kernel_rfl) rfl w9, fun n9 => ⟨(zk16, zk19, n9, g18, g20), rfl, ?_, ?_, ?_⟩⟩
          ·
           intro k hk
           have hk2 : k < 18 := h9.within k hk
           have hb : k = 0 ∨ k = 1 ∨ k = 2 ∨ k = 3 ∨ k = 4 ∨ k = 5 ∨ k = 6 ∨ k = 7 ∨ k = 8 ∨ k = 9 ∨ k = 10 ∨ k = 11 ∨ k = 12 ∨ k = 13 ∨ k = 14 ∨ k = 15 ∨ k = 16 ∨ k = 17 := by omega
           rcases hb with rfl | rfl | rfl | rfl | rfl | rfl | rfl | rfl | rfl | rfl | rfl | rfl | rfl | rfl | rfl | rfl | rfl | rfl
           ·
            rfl
           ·
            rfl
           ·
            rfl
           ·
            rfl
           ·
            rw [dl4] at hk; cases hk
           ·
            rfl
           ·
            rfl
           ·
            rfl
           ·
            rfl
           ·
            rfl
           ·
            rfl
           ·
            rfl
           ·
            rfl
           ·
            rfl
           ·
            rfl
           ·
            rfl
           ·
            rfl
           ·
            rfl
          ·
           exact ⟨hF9.1, (fun e => by (have e1 : ld 11 = true := e); rw [dl11] at e1; cases e1), trivial⟩
          ·
           skip
           have od1 : Si.one ld 4 1 = ld 1 := rfl
           have od11 : Si.one ld 4 11 = ld 11 := rfl
           have od4 : Si.one ld 4 4 = true := rfl
           have od5 : Si.one ld 4 5 = ld 5 := rfl
           have od15 : Si.one ld 4 15 = ld 15 := rfl
           have od16 : Si.one ld 4 16 = ld 16 := rfl
           dsimp only
           simp only [od1, od11, od4, od5, od15, od16, dl11, dl5, dl16, dl4, if_true, if_false, Bool.false_eq_true, List.nil_append]
           exact pinc0 _ _
         refine sps_cons (sp_lit (fun γ9 => #[.slice (some ⟨γ9.2.2.1, 0, none⟩) 1 1]) 58 1 rfl (fun ld γ9 a9 h9 hF9 => ?_)) ?_
         ·
          obtain ⟨zk16, zk19, g17, yy, g20⟩ := γ9
          have dl5 : ld 5 = false := h9.off
          have dl6 : ld 6 = false := h9.non (by kernel_rfl)
          have dl11 : ld 11 = false := h9.non2 6 dl6 (by kernel_rfl)
          have dl4 : ld 4 = true := h9.dep (by kernel_rfl)
          have dl16 : ld 16 = false := h9.non (by kernel_rfl)
          refine ⟨fun w9 => run_lit1 (v := .slice (some ⟨g17, 0, none⟩) 1 1) (z := .slice none 0 0) rfl (h9.tmp 4 rfl (h9.dep (by kernel_rfl))) rfl Try.underlying48 (by kernel_rfl) rfl w9, fun n9 => ⟨(zk16, zk19, g17, n9, g20), rfl, ?_, ?_, ?_⟩⟩
          ·
           intro k hk
           have hk2 : k < 18 := h9.within k hk
           have hb : k = 0 ∨ k = 1 ∨ k = 2 ∨ k = 3 ∨ k = 4 ∨ k = 5 ∨ k = 6 ∨ k = 7 ∨ k = 8 ∨ k = 9 ∨ k = 10 ∨ k = 11 ∨ k = 12 ∨ k = 13 ∨ k = 14 ∨ k = 15 ∨ k = 16 ∨ k = 17 := by omega
           rcases hb with rfl | rfl | rfl | rfl | rfl | rfl | rfl | rfl | rfl | rfl | rfl | rfl | rfl | rfl | rfl | rfl | rfl | rfl
           ·
            rfl
           ·
            rfl
           ·
            rfl
           ·
            rfl
           ·
            rfl
           ·
            rw [dl5] at hk; cases hk
           ·
            rw [dl6] at hk; cases hk
           ·
            rfl
           ·
            rfl
           ·
            rfl
           ·
            rfl
           ·
            rfl
           ·
            rfl
           ·
            rfl
           ·
            rfl
           ·
            rfl
           ·
            rfl
           ·
            rfl
          ·
           exact ⟨hF9.1, hF9.2.1, trivial⟩
          ·
           skip
           have od1 : Si.one ld 5 1 = ld 1 := rfl
           have od11 : Si.one ld 5 11 = ld 11 := rfl
           have od4 : Si.one ld 5 4 = ld 4 := rfl
           have od5 : Si.one ld 5 5 = true := rfl
           have od15 : Si.one ld 5 15 = ld 15 := rfl
           have od16 : Si.one ld 5 16 = ld 16 := rfl
           dsimp only
           simp only [od1, od11, od4, od5, od15, od16, dl11, dl4, dl16, dl5, if_true, if_false, Bool.false_eq_true, List.nil_append]
           exact pinc1 _ _ _
         refine sps_cons (sp_valg (fun γ9 => .agg #[.int .i64 f, .slice (some ⟨γ9.2.2.2.1, 0, none⟩) 1 1]) rfl (fun _ => rfl) (fun _ _ h => h) (fun _ _ => rfl) (fun ld γ9 a9 w9 h9 hF9 hE9 => by obtain ⟨zk16, zk19, g17, g18, g20⟩ := γ9; exact (by have e09 : a9.eval (.tmp 79) = .int .i64 f := (h9.tmp 2 rfl (h9.dep (by kernel_rfl))); have e19 : a9.eval (.tmp 82) = .slice (some ⟨g18, 0, none⟩) 1 1 := (h9.tmp 5 rfl (h9.dep (by kernel_rfl))); exact run_buildg (vs := #[(0, .int .i64 f), (1, .slice (some ⟨g18, 0, none⟩) 1 1)]) rfl (by simp only [List.map_toArray, List.map_cons, List.map_nil, e09, e19]) (by kernel_rfl)))) ?_
         refine sps_cons (sp_valg (fun γ9 => .pointer (some ⟨g3, 0, none⟩)) rfl (fun _ => rfl) (fun _ _ h => h) (fun _ _ => rfl) (fun ld γ9 a9 w9 h9 hF9 hE9 => by obtain ⟨zk16, zk19, g17, g18, g20⟩ := γ9; exact run_fieldAddr (f := 0) (off := 0) (d := 0) (z := 0) rfl (h9.out (by kernel_rfl) rfl) Try.underlying23 rfl rfl (by kernel_rfl) w9)) ?_
         refine sps_cons (sp_valg (fun γ9 => .int .i64 lo) rfl (fun _ => rfl) (fun _ _ h => h) (fun _ _ => rfl) (fun ld γ9 a9 w9 h9 hF9 hE9 => by obtain ⟨zk16, zk19, g17, g18, g20⟩ := γ9; exact load_cell (hE9.row ⟨g3, #[.int .i64 lo, .int .i64 hi], 23⟩ (List.mem_append_right _ (List.mem_append_right _ (List.mem_append_right _ (List.mem_append_right _ (List.mem_append_right _ (mem_of_at (i := 2) rfl))))))) rfl rfl (h9.tmp 7 rfl (h9.dep (by kernel_rfl))) Try.isAgg2)) ?_
         refine sps_cons (sp_valg (fun γ9 => .pointer (some ⟨g3, 1, none⟩)) rfl (fun _ => rfl) (fun _ _ h => h) (fun _ _ => rfl) (fun ld γ9 a9 w9 h9 hF9 hE9 => by obtain ⟨zk16, zk19, g17, g18, g20⟩ := γ9; exact run_fieldAddr (f := 1) (off := 0) (d := 1) (z := 0) rfl (h9.out (by kernel_rfl) rfl) Try.underlying23 rfl rfl (by kernel_rfl) w9)) ?_
         refine sps_cons (sp_valg (fun γ9 => .int .i64 hi) rfl (fun _ => rfl) (fun _ _ h => h) (fun _ _ => rfl) (fun ld γ9 a9 w9 h9 hF9 hE9 => by obtain ⟨zk16, zk19, g17, g18, g20⟩ := γ9; exact load_cell (hE9.row ⟨g3, #[.int .i64 lo, .int .i64 hi], 23⟩ (List.mem_append_right _ (List.mem_append_right _ (List.mem_append_right _ (List.mem_append_right _ (List.mem_append_right _ (mem_of_at (i := 2) rfl))))))) rfl rfl (h9.tmp 9 rfl (h9.dep (by kernel_rfl))) Try.isAgg2)) ?_
         refine sps_cons (sp_openg 14 (fun (zk19 : Gz) => .tuple #[.agg #[.int .i64 zk19.F, .slice zk19.p zk19.O.length zk19.c], .int .i64 (zk19.e : Int)]) (fun (zk19 : Gz) => zk19.N) (fun γ9 (zk19 : Gz) => GzOk G f hi lo [(⟨some ⟨γ9.2.2.1, 0, none⟩, [s], 1⟩ : Ix)] zk19) rfl (fun ld γ9 a9 w9 h9 hF9 hE9 => ?_)) ?_
         ·
          obtain ⟨zk16, yy, g17, g18, g20⟩ := γ9
          have dl11 : ld 11 = false := h9.off
          have dl1 : ld 1 = true := h9.dep (by kernel_rfl)
          have dl6 : ld 6 = true := h9.dep (by kernel_rfl)
          have dl5 : ld 5 = true := h9.dep2 6 dl6 (by kernel_rfl)
          have dl4 : ld 4 = true := h9.dep2 5 dl5 (by kernel_rfl)
          have dl16 : ld 16 = false := h9.non (by kernel_rfl)
          have k16 := hF9.1 dl1
          have hS9 := hE9
          dsimp only at hS9
          simp only [dl1, dl11, dl4, dl5, dl16, if_true, if_false, Bool.false_eq_true, List.nil_append, List.cons_append] at hS9
          have hK9 : Env w w9 (⟨g17, #[.int .i64 s], 3⟩ :: ⟨g18, #[.slice (some ⟨g17, 0, none⟩) 1 1], 58⟩ :: (zk16.N ++ ⟨g11, #[.int .i64 zk10.F, .slice zk10.p zk10.X.length zk10.c], 41⟩ :: ⟨g4, #[.int .i64 a, .int .i64 b], 23⟩ :: ⟨g3, #[.int .i64 lo, .int .i64 hi], 23⟩ :: ⟨g2, #[.slice p G.length c, .slice q H.length d], 35⟩ :: ⟨g1, #[.int .i64 k.pu, .int .i64 k.lo, .int .i64 k.hi, .int .i64 k.rb, .int .i64 k.rp, .int .i64 k.ae, .int .i64 k.ms, .int .i64 k.ma, .int .i64 k.an, .int .i64 k.st, .int .i64 k.ss, .int .i64 k.ro, .int .i64 k.ti, .int .i64 k.br], 31⟩ :: (zk9.N ++ (zk10.N ++ zk13.N)))) := (hS9.sub (List.Sublist.cons_cons _ (List.Sublist.cons_cons _ (List.sublist_append_of_sublist_right (List.Sublist.refl _)))))
          have hE0 : Env w w9 (⟨g17, #[.int .i64 s], 3⟩ :: ⟨g18, #[.slice (some ⟨g17, 0, none⟩) 1 1], 58⟩ :: ⟨g11, #[.int .i64 zk10.F, .slice zk10.p zk10.X.length zk10.c], 41⟩ :: ⟨g4, #[.int .i64 a, .int .i64 b], 23⟩ :: ⟨g3, #[.int .i64 lo, .int .i64 hi], 23⟩ :: ⟨g2, #[.slice p G.length c, .slice q H.length d], 35⟩ :: ⟨g1, #[.int .i64 k.pu, .int .i64 k.lo, .int .i64 k.hi, .int .i64 k.rb, .int .i64 k.rp, .int .i64 k.ae, .int .i64 k.ms, .int .i64 k.ma, .int .i64 k.an, .int .i64 k.st, .int .i64 k.ss, .int .i64 k.ro, .int .i64 k.ti, .int .i64 k.br], 31⟩ :: (zk9.N ++ (zk10.N ++ (zk13.N ++ zk16.N)))) := Env.perm hK9 ((pf1 [⟨g17, #[.int .i64 s], 3⟩, ⟨g18, #[.slice (some ⟨g17, 0, none⟩) 1 1], 58⟩] _ _).trans (List.Perm.of_eq (by first | rfl | simp only [List.append_assoc, List.cons_append, List.nil_append])))
          have e0 : a9.eval (.tmp 78) = .agg #[.slice zk16.p zk16.K.length zk16.c, .slice zk16.q H.length zk16.d] := (h9.tmp 1 rfl (h9.dep (by kernel_rfl)))
          have e1 : a9.eval (.tmp 83) = .agg #[.int .i64 f, .slice (some ⟨g18, 0, none⟩) 1 1] := (h9.tmp 6 rfl (h9.dep (by kernel_rfl)))
          have e2 : a9.eval (.tmp 85) = .int .i64 lo := (h9.tmp 8 rfl (h9.dep (by kernel_rfl)))
          have e3 : a9.eval (.tmp 87) = .int .i64 hi := (h9.tmp 10 rfl (h9.dep (by kernel_rfl)))
          refine ⟨#[.agg #[.slice zk16.p zk16.K.length zk16.c, .slice zk16.q H.length zk16.d], .agg #[.int .i64 f, .slice (some ⟨g18, 0, none⟩) 1 1], .int .i64 lo, .int .i64 hi], er_callg (enters_of Try.func14 (by kernel_rfl) rfl) rfl (by simp only [List.map_toArray, List.map_cons, List.map_nil, e0, e1, e2, e3]) w9, ((Rtgrow.grow_any f lo hi [(⟨some ⟨g17, 0, none⟩, [s], 1⟩ : Ix)] _ _ zk16.K H _ _ zk16.c zk16.d w9 (held_at k16.segs (List.Sublist.cons _ (List.Sublist.cons _ (List.Sublist.cons _ (List.Sublist.cons _ (List.Sublist.cons _ (List.Sublist.cons _ (List.Sublist.cons _ (List.sublist_append_of_sublist_right (List.sublist_append_of_sublist_right (List.sublist_append_of_sublist_right (List.Sublist.refl _))))))))))) hE0) (k16.ok _ _ hG (hE0.sub (List.Sublist.cons _ (List.Sublist.cons _ (List.Sublist.cons _ (List.Sublist.cons _ (List.Sublist.cons _ (List.Sublist.cons _ (List.Sublist.cons _ (List.sublist_append_of_sublist_right (List.sublist_append_of_sublist_right (List.sublist_append_of_sublist_right (List.Sublist.refl _))))))))))))) (held_at k16.grps (List.Sublist.cons _ (List.Sublist.cons _ (List.Sublist.cons _ (List.Sublist.cons _ (List.Sublist.cons _ (List.Sublist.cons _ (List.Sublist.cons _ (List.sublist_append_of_sublist_right (List.sublist_append_of_sublist_right (List.sublist_append_of_sublist_right (List.Sublist.refl _))))))))))) hE0) (by rw [k16.same.length]; omega) (by omega) (segs_same k16.same hM.segs) ⟨hf.1, by omega⟩ (sl_row 1 rfl w9 hE0) (fun x hx => by obtain rfl := List.mem_singleton.1 hx; exact ⟨sl_row 0 rfl w9 hE0, by simp⟩) (fun x hx => rtok_same k16.same (set_rt (O := [(⟨some ⟨g17, 0, none⟩, [s], 1⟩ : Ix)]) (begin_ok hs hf) x hx)) (set_len (begin_ok hs hf)) (by simp)).mono (fun e w8 hz => by obtain ⟨z8, h8, he8, hE8⟩ := hz; exact ⟨z8, gz_same k16.same h8, he8, hE8⟩)), fun zk19 k19 => ?_⟩
          refine ⟨(zk16, zk19, g17, g18, g20), rfl, ?_, ?_, ?_⟩
          have dl12 : ld 12 = false := h9.non (by kernel_rfl)
          have dl13 : ld 13 = false := h9.non2 12 dl12 (by kernel_rfl)
          have dl14 : ld 14 = false := h9.non2 12 dl12 (by kernel_rfl)
          have dl17 : ld 17 = false := h9.non (by kernel_rfl)
          ·
           intro k hk
           have hk2 : k < 18 := h9.within k hk
           have hb : k = 0 ∨ k = 1 ∨ k = 2 ∨ k = 3 ∨ k = 4 ∨ k = 5 ∨ k = 6 ∨ k = 7 ∨ k = 8 ∨ k = 9 ∨ k = 10 ∨ k = 11 ∨ k = 12 ∨ k = 13 ∨ k = 14 ∨ k = 15 ∨ k = 16 ∨ k = 17 := by omega
           rcases hb with rfl | rfl | rfl | rfl | rfl | rfl | rfl | rfl | rfl | rfl | rfl | rfl | rfl | rfl | rfl | rfl | rfl | rfl
           ·
            rfl
           ·
            rfl
           ·
            rfl
           ·
            rfl
           ·
            rfl
           ·
            rfl
           ·
            rfl
           ·
            rfl
           ·
            rfl
           ·
            rfl
           ·
            rfl
           ·
            rw [dl11] at hk; cases hk
           ·
            rw [dl12] at hk; cases hk
           ·
            rw [dl13] at hk; cases hk
           ·
            rw [dl14] at hk; cases hk
           ·
            rfl
           ·
            rfl
           ·
            rw [dl17] at hk; cases hk
          ·
           exact ⟨fun _ => k16, fun _ => k19, trivial⟩
          ·
           skip
           have od1 : Si.one ld 11 1 = ld 1 := rfl
           have od11 : Si.one ld 11 11 = true := rfl
           have od4 : Si.one ld 11 4 = ld 4 := rfl
           have od5 : Si.one ld 11 5 = ld 5 := rfl
           have od15 : Si.one ld 11 15 = ld 15 := rfl
           have od16 : Si.one ld 11 16 = ld 16 := rfl
           dsimp only
           simp only [od1, od11, od4, od5, od15, od16, dl1, dl4, dl5, dl16, dl11, if_true, if_false, Bool.false_eq_true, List.nil_append]
           exact pin3 _ _ _ _ _
         refine sps_cons (sp_valg (fun γ9 => .tuple #[.agg #[.int .i64 γ9.2.1.F, .slice γ9.2.1.p γ9.2.1.O.length γ9.2.1.c], .int .i64 (γ9.2.1.e : Int)]) rfl (fun _ => rfl) (fun _ _ h => h) (fun _ _ => rfl) (fun ld γ9 a9 w9 h9 hF9 hE9 => by obtain ⟨zk16, zk19, g17, g18, g20⟩ := γ9; exact run_moveg (by rfl) (h9.tmp 11 rfl (h9.dep (by kernel_rfl))))) ?_
         refine sps_cons (sp_valg (fun γ9 => .agg #[.int .i64 γ9.2.1.F, .slice γ9.2.1.p γ9.2.1.O.length γ9.2.1.c]) rfl (fun _ => rfl) (fun _ _ h => h) (fun _ _ => rfl) (fun ld γ9 a9 w9 h9 hF9 hE9 => by obtain ⟨zk16, zk19, g17, g18, g20⟩ := γ9; exact run_extractg (by rfl) (h9.tmp 12 rfl (h9.dep (by kernel_rfl))) rfl)) ?_
         refine sps_cons (sp_valg (fun γ9 => .int .i64 (γ9.2.1.e : Int)) rfl (fun _ => rfl) (fun _ _ h => h) (fun _ _ => rfl) (fun ld γ9 a9 w9 h9 hF9 hE9 => by obtain ⟨zk16, zk19, g17, g18, g20⟩ := γ9; exact run_extractg (by rfl) (h9.tmp 12 rfl (h9.dep (by kernel_rfl))) rfl)) ?_
         refine sps_cons (sp_alloc (#[.int .i64 0, .slice none 0 0]) 50 rfl (fun a9 w9 => by go_simp) (fun ld γ9 a9 n9 h9 hF9 => ?_)) ?_
         ·
          obtain ⟨zk16, zk19, g17, g18, yy⟩ := γ9
          have dl15 : ld 15 = false := h9.off
          have dl16 : ld 16 = false := h9.non (by kernel_rfl)
          refine ⟨(zk16, zk19, g17, g18, n9), rfl, ?_, hF9, ?_⟩
          ·
           intro k hk
           have hk2 : k < 18 := h9.within k hk
           have hb : k = 0 ∨ k = 1 ∨ k = 2 ∨ k = 3 ∨ k = 4 ∨ k = 5 ∨ k = 6 ∨ k = 7 ∨ k = 8 ∨ k = 9 ∨ k = 10 ∨ k = 11 ∨ k = 12 ∨ k = 13 ∨ k = 14 ∨ k = 15 ∨ k = 16 ∨ k = 17 := by omega
           rcases hb with rfl | rfl | rfl | rfl | rfl | rfl | rfl | rfl | rfl | rfl | rfl | rfl | rfl | rfl | rfl | rfl | rfl | rfl
           ·
            rfl
           ·
            rfl
           ·
            rfl
           ·
            rfl
           ·
            rfl
           ·
            rfl
           ·
            rfl
           ·
            rfl
           ·
            rfl
           ·
            rfl
           ·
            rfl
           ·
            rfl
           ·
            rfl
           ·
            rfl
           ·
            rfl
           ·
            rw [dl15] at hk; cases hk
           ·
            rfl
           ·
            rfl
          ·
           skip
           have od1 : Si.one ld 15 1 = ld 1 := rfl
           have od11 : Si.one ld 15 11 = ld 11 := rfl
           have od4 : Si.one ld 15 4 = ld 4 := rfl
           have od5 : Si.one ld 15 5 = ld 5 := rfl
           have od15 : Si.one ld 15 15 = true := rfl
           have od16 : Si.one ld 15 16 = ld 16 := rfl
           dsimp only
           simp only [od1, od11, od4, od5, od15, od16, dl16, dl15, if_true, if_false, Bool.false_eq_true, List.nil_append]
           exact pinc2 _ _ _ _
         refine sps_cons (sp_put 50 (.tmp 18) (.tmp 89) rfl rfl (fun ld γ9 a9 h9 hF9 => ?_)) ?_
         ·
          obtain ⟨zk16, zk19, g17, g18, g20⟩ := γ9
          have dl16 : ld 16 = false := h9.off
          have dl15 : ld 15 = true := h9.dep (by kernel_rfl)
          have dl1 : ld 1 = true := h9.dep (by kernel_rfl)
          have dl11 : ld 11 = true := h9.dep (by kernel_rfl)
          have dl4 : ld 4 = true := h9.dep (by kernel_rfl)
          have dl5 : ld 5 = true := h9.dep (by kernel_rfl)
          refine ⟨g20, #[.int .i64 zk19.F, .slice zk19.p zk19.O.length zk19.c], #[.int .i64 0, .slice none 0 0], 50, ((if ld 4 = true then [⟨g17, #[.int .i64 s], 3⟩] else []) ++ ((if ld 5 = true then [⟨g18, #[.slice (some ⟨g17, 0, none⟩) 1 1], 58⟩] else []) ++ ((if ld 11 = true then zk19.N else []) ++ ((if ld 1 = true then zk16.N else []) ++ ⟨g11, #[.int .i64 zk10.F, .slice zk10.p zk10.X.length zk10.c], 41⟩ :: ⟨g4, #[.int .i64 a, .int .i64 b], 23⟩ :: ⟨g3, #[.int .i64 lo, .int .i64 hi], 23⟩ :: ⟨g2, #[.slice p G.length c, .slice q H.length d], 35⟩ :: ⟨g1, #[.int .i64 k.pu, .int .i64 k.lo, .int .i64 k.hi, .int .i64 k.rb, .int .i64 k.rp, .int .i64 k.ae, .int .i64 k.ms, .int .i64 k.ma, .int .i64 k.an, .int .i64 k.st, .int .i64 k.ss, .int .i64 k.ro, .int .i64 k.ti, .int .i64 k.br], 31⟩ :: (zk9.N ++ (zk10.N ++ zk13.N)))))), (h9.tmp 15 rfl (h9.dep (by kernel_rfl))), (h9.tmp 13 rfl (h9.dep (by kernel_rfl))), (by kernel_rfl), rfl, (by simp [Value.oneCell']), ?_, rfl, hF9, ?_⟩
          ·
           dsimp only
           simp only [dl15, dl16, if_true, if_false, Bool.false_eq_true]
           exact (pinc2 _ _ _ _).symm
          ·
           skip
           have od1 : Si.one ld 16 1 = ld 1 := rfl
           have od11 : Si.one ld 16 11 = ld 11 := rfl
           have od4 : Si.one ld 16 4 = ld 4 := rfl
           have od5 : Si.one ld 16 5 = ld 5 := rfl
           have od15 : Si.one ld 16 15 = ld 15 := rfl
           have od16 : Si.one ld 16 16 = true := rfl
           dsimp only
           simp only [od1, od11, od4, od5, od15, od16, dl1, dl11, dl4, dl5, dl15, dl16, if_true, if_false, Bool.false_eq_true, List.nil_append]
           exact pinc2 _ _ _ _
         refine sps_cons (sp_valg (fun γ9 => .int .i64 (γ9.2.1.e : Int)) rfl (fun _ => rfl) (fun _ _ h => h) (fun _ _ => rfl) (fun ld γ9 a9 w9 h9 hF9 hE9 => by obtain ⟨zk16, zk19, g17, g18, g20⟩ := γ9; exact run_assigng (by rfl) (h9.tmp 14 rfl (h9.dep (by kernel_rfl))))) ?_
         exact sps_nil
        rintro ⟨zk16, zk19, g17, g18, g20⟩ ⟨k16, k19, -⟩
        replace k16 := k16 (by decide)
        (try dsimp only at k16)
        replace k19 := k19 (by decide)
        (try dsimp only at k19)
        (try dsimp only)
        refine we_perm (R' := ⟨g17, #[.int .i64 s], 3⟩ :: ⟨g18, #[.slice (some ⟨g17, 0, none⟩) 1 1], 58⟩ :: ⟨g20, #[.int .i64 zk19.F, .slice zk19.p zk19.O.length zk19.c], 50⟩ :: ⟨g11, #[.int .i64 zk10.F, .slice zk10.p zk10.X.length zk10.c], 41⟩ :: ⟨g4, #[.int .i64 a, .int .i64 b], 23⟩ :: ⟨g3, #[.int .i64 lo, .int .i64 hi], 23⟩ :: ⟨g2, #[.slice p G.length c, .slice q H.length d], 35⟩ :: ⟨g1, #[.int .i64 k.pu, .int .i64 k.lo, .int .i64 k.hi, .int .i64 k.rb, .int .i64 k.rp, .int .i64 k.ae, .int .i64 k.ms, .int .i64 k.ma, .int .i64 k.an, .int .i64 k.st, .int .i64 k.ss, .int .i64 k.ro, .int .i64 k.ti, .int .i64 k.br], 31⟩ :: (zk9.N ++ (zk10.N ++ (zk13.N ++ (zk16.N ++ zk19.N))))) ((pf2 [⟨g17, #[.int .i64 s], 3⟩, ⟨g18, #[.slice (some ⟨g17, 0, none⟩) 1 1], 58⟩, ⟨g20, #[.int .i64 zk19.F, .slice zk19.p zk19.O.length zk19.c], 50⟩] _ _ _).trans (List.Perm.of_eq (by first | rfl | simp only [List.append_assoc, List.cons_append, List.nil_append]))) ?_
        refine we_then ?_
        refine wc_seq ?_
        have ex : zk10.X = xs zk19.O := (Prod.mk.inj (gw1.symm.trans k19.is)).2
        have ok9 : SetOk G s f (xs zk19.O) := by rw [← ex]; exact okX
        have f2 : zk19.F = f := k19.frm (Prod.mk.inj (gw1.symm.trans k19.is)).1.symm
        have gl := hM.grps gi.toNat (by omega)
        have gm1 := gl.acc0
        have gm2 := gl.accn
        have gm3 := gl.sl0
        have gm4 := gl.sln
        have gm5 := gl.seg0
        have gm6 := gl.segn
        have gm7 := gl.off0
        have gm8 := gl.offn
        have gm9 := (hM.segs (H[gi.toNat]!).seg.toNat (by omega)).high
        have k8 := hk.an1
        have k9 := hk.an2
        have wg : (winG k (H[gi.toNat]!)) = (H[gi.toNat]!).acc + k.an + (H[gi.toNat]!).slack := rfl
        have gq : zk13.L = fitL (winG k (H[gi.toNat]!)) a b (plc G f (H[gi.toNat]!).seg (H[gi.toNat]!).off (xs zk19.O) zk19.O.length) := by rw [k13.1, fit_in ⟨by omega, by omega⟩, ex, xs_len]
        have pl9 := plc_len G f (H[gi.toNat]!).seg (H[gi.toNat]!).off (xs zk19.O) (fun i hi => (ok9.wf _ (get_memr hi)).ok.few) zk19.O.length (by rw [xs_len]; exact Nat.le_refl _)
        have ok8 : zk19.O.length ≤ 16 := by have := ok9.few; rwa [xs_len] at this
        have pl8 := plc_lim (G := G) (f := f) (sg := (H[gi.toNat]!).seg) (off := (H[gi.toNat]!).off) (X := xs zk19.O) hM.segs (fun r hr => (ok9.wf r hr).ok) ⟨hf.1, by omega⟩ ⟨by omega, by omega⟩ zk19.O.length (by rw [xs_len]; exact Nat.le_refl _)
        refine wc_region ?_
        refine wl_val (.pointer (some ⟨g2, 1, none⟩)) rfl (fun _ => by go_simp) ?_
        simp only [Act.put, Xa, Xz, Xs]
        refine wl_cell 33 (.tmp 91) (.slice q H.length d) (own_row 6 rfl) rfl rfl rfl rfl Try.isAgg33 ?_
        simp only [Act.put, Xa, Xz, Xs]
        refine wl_val (.int .i64 gi) rfl (fun _ => rfl) ?_
        simp only [Act.put, Xa, Xz, Xs]
        refine wl_read (eaddr q ((gi.toNat) * 5)) rfl (er_index (gi.toNat) 5 (sl_old hH) rfl rfl rfl (by omega) (by omega) (flat_length (enc := gp) (size := 5) (fun _ => rfl) _) (by decide) Try.underlying33 (by kernel_rfl)) ?_
        simp only [Act.put, Xa, Xz, Xs]
        refine wl_read (.agg #[.int .i64 ((H[gi.toNat]!).id), .int .i64 ((H[gi.toNat]!).seg), .int .i64 ((H[gi.toNat]!).off), .int .i64 ((H[gi.toNat]!).acc), .int .i64 ((H[gi.toNat]!).slack)]) rfl (er_part ((gi.toNat) * 5) [.int .i64 ((H[gi.toNat]!).id), .int .i64 ((H[gi.toNat]!).seg), .int .i64 ((H[gi.toNat]!).off), .int .i64 ((H[gi.toNat]!).acc), .int .i64 ((H[gi.toNat]!).slack)] (sl_old hH) rfl rfl (flat_part (enc := gp) (fun _ => rfl) H (gi.toNat) (by omega)) (Nat.zero_lt_succ _) Try.underlying60 rfl (by kernel_rfl)) ?_
        simp only [Act.put, Xa, Xz, Xs]
        refine wl_new 60 (#[.int .i64 0, .int .i64 0, .int .i64 0, .int .i64 0, .int .i64 0]) rfl (fun _ => by go_simp) ?_
        intro g21
        simp only [Act.put, Xa, Xz, Xs]
        refine wl_store 0 60 (.tmp 20) (.tmp 95) (#[.int .i64 ((H[gi.toNat]!).id), .int .i64 ((H[gi.toNat]!).seg), .int .i64 ((H[gi.toNat]!).off), .int .i64 ((H[gi.toNat]!).acc), .int .i64 ((H[gi.toNat]!).slack)]) rfl rfl rfl rfl rfl (by kernel_rfl) rfl (by simp [Value.oneCell']) ?_
        simp only [Act.put, List.set_cons_zero]
        refine wl_nil ?_
        refine we_then ?_
        refine wc_seq ?_
        refine wc_region ?_
        refine wl_val (.pointer (some ⟨g21, 3, none⟩)) rfl (fun _ => by go_simp) ?_
        simp only [Act.put, Xa, Xz, Xs]
        refine wl_cell 2 (.tmp 96) (.int .i64 ((H[gi.toNat]!).acc)) (own_row 0 rfl) rfl rfl rfl rfl Try.isAgg2 ?_
        simp only [Act.put, Xa, Xz, Xs]
        refine wl_val (.pointer (some ⟨g1, 8, none⟩)) rfl (fun _ => by go_simp) ?_
        simp only [Act.put, Xa, Xz, Xs]
        refine wl_cell 2 (.tmp 98) (.int .i64 k.an) (own_row 8 rfl) rfl rfl rfl rfl Try.isAgg2 ?_
        simp only [Act.put, Xa, Xz, Xs]
        refine wl_val (.int .i64 (((H[gi.toNat]!).acc) + k.an)) rfl (fun w => run_arith (op := .add) rfl rfl rfl Try.underlying2 (congrArg some (i64_in (by omega) (by omega))) w) ?_
        simp only [Act.put, Xa, Xz, Xs]
        refine wl_val (.pointer (some ⟨g21, 4, none⟩)) rfl (fun _ => by go_simp) ?_
        simp only [Act.put, Xa, Xz, Xs]
        refine wl_cell 2 (.tmp 101) (.int .i64 ((H[gi.toNat]!).slack)) (own_row 0 rfl) rfl rfl rfl rfl Try.isAgg2 ?_
        simp only [Act.put, Xa, Xz, Xs]
        refine wl_val (.int .i64 ((((H[gi.toNat]!).acc) + k.an) + ((H[gi.toNat]!).slack))) rfl (fun w => run_arith (op := .add) rfl rfl rfl Try.underlying2 (congrArg some (i64_in (by omega) (by omega))) w) ?_
        simp only [Act.put, Xa, Xz, Xs]
        refine wl_val (.int .i64 ((((H[gi.toNat]!).acc) + k.an) + ((H[gi.toNat]!).slack))) rfl (fun _ => rfl) ?_
        simp only [Act.put, Xa, Xz, Xs]
        refine wl_nil ?_
        refine we_then ?_
        refine wc_seq ?_
        refine wc_seq ?_
        refine wc_region ?_
        refine wl_load 31 (.tmp 7) (own_row 8 rfl) rfl rfl rfl Try.underlying31 rfl (by kernel_rfl) ?_
        simp only [Act.put, Xa, Xz, Xs]
        refine wl_load 60 (.tmp 20) (own_row 0 rfl) rfl rfl rfl Try.underlying60 rfl (by kernel_rfl) ?_
        simp only [Act.put, Xa, Xz, Xs]
        refine wl_call 16 #[.agg #[.int .i64 k.pu, .int .i64 k.lo, .int .i64 k.hi, .int .i64 k.rb, .int .i64 k.rp, .int .i64 k.ae, .int .i64 k.ms, .int .i64 k.ma, .int .i64 k.an, .int .i64 k.st, .int .i64 k.ss, .int .i64 k.ro, .int .i64 k.ti, .int .i64 k.br], .agg #[.int .i64 ((H[gi.toNat]!).id), .int .i64 ((H[gi.toNat]!).seg), .int .i64 ((H[gi.toNat]!).off), .int .i64 ((H[gi.toNat]!).acc), .int .i64 ((H[gi.toNat]!).slack)]] (.int .i64 (winG k (H[gi.toNat]!))) rfl (fun _ => by go_simp) (fun W => Lnk.window_any k (H[gi.toNat]!) W hk ⟨gm1, gm2⟩ ⟨gm3, gm4⟩) ?_
        simp only [Act.put, Xa, Xz, Xs]
        refine wl_val (.int .i64 ((((H[gi.toNat]!).acc) + k.an) + ((H[gi.toNat]!).slack))) rfl (fun _ => rfl) ?_
        simp only [Act.put, Xa, Xz, Xs]
        refine wl_val (.bool ((winG k (H[gi.toNat]!)) != ((((H[gi.toNat]!).acc) + k.an) + ((H[gi.toNat]!).slack)))) rfl (fun w => run_cmp rfl rfl rfl Try.underlying2 rfl w) ?_
        simp only [Act.put, Xa, Xz, Xs]
        refine wl_nil ?_
        refine we_then ?_
        cases h22 : ((winG k (H[gi.toNat]!)) != ((((H[gi.toNat]!).acc) + k.an) + ((H[gi.toNat]!).slack)))
        ·
         skip
         have p22 : ¬ ((winG k (H[gi.toNat]!)) ≠ ((((H[gi.toNat]!).acc) + k.an) + ((H[gi.toNat]!).slack))) := by first | (simp; done) | (simp at h22; done) | simpa using h22
         refine wc_false rfl ?_
         refine wc_skip ?_
         refine we_then ?_
         refine wc_seq ?_
         refine wc_region ?_
         refine wl_val (.int .i64 0) rfl (fun _ => rfl) ?_
         simp only [Act.put, Xa, Xz, Xs]
         refine wl_nil ?_
         refine we_then ?_
         refine wc_seq ?_
         refine wc_seq ?_
         refine wc_draw_ghost2 (Γ0 := Cp) (Γ1 := Pz) 1 4 15 17 #[.agg #[.slice p G.length c, .slice q H.length d]] (fun zz => match zz with | zk23 => #[.agg #[.slice zk23.p zk23.K.length zk23.c, .slice zk23.q H.length zk23.d], .agg #[.int .i64 zk19.F, .slice zk19.p zk19.O.length zk19.c], .int .i64 gi]) (fun j9 => [0, 1, 0, 0, 2, 2, 0].getD j9 0) (fun j9 => [.agg #[.slice p G.length c, .slice q H.length d], undef, .agg #[.int .i64 zk19.F, .slice zk19.p zk19.O.length zk19.c], .int .i64 gi, undef, undef, .int .i64 0].getD j9 undef) (fun zz => match zz with | zk23 => fun j9 => [undef, .agg #[.slice zk23.p zk23.K.length zk23.c, .slice zk23.q H.length zk23.d], undef, undef, undef, undef, undef].getD j9 undef) (fun zz yy => match zz, yy with | zk23, zk24 => fun j9 => [undef, undef, undef, undef, .slice zk24.p ((plc G f (H[gi.toNat]!).seg (H[gi.toNat]!).off (xs zk19.O) zk19.O.length).length) zk24.c, .int .i64 (((plc G f (H[gi.toNat]!).seg (H[gi.toNat]!).off (xs zk19.O) zk19.O.length).length : Nat) : Int), undef].getD j9 undef) (fun zz => match zz with | zk23 => zk23.N) (fun zz yy => match zz, yy with | zk23, zk24 => zk24.N) (fun zz => match zz with | zk23 => ⟨g21, #[.int .i64 ((H[gi.toNat]!).id), .int .i64 ((H[gi.toNat]!).seg), .int .i64 ((H[gi.toNat]!).off), .int .i64 ((H[gi.toNat]!).acc), .int .i64 ((H[gi.toNat]!).slack)], 60⟩ :: ⟨g17, #[.int .i64 s], 3⟩ :: ⟨g18, #[.slice (some ⟨g17, 0, none⟩) 1 1], 58⟩ :: ⟨g20, #[.int .i64 zk19.F, .slice zk19.p zk19.O.length zk19.c], 50⟩ :: ⟨g11, #[.int .i64 zk10.F, .slice zk10.p zk10.X.length zk10.c], 41⟩ :: ⟨g4, #[.int .i64 a, .int .i64 b], 23⟩ :: ⟨g3, #[.int .i64 lo, .int .i64 hi], 23⟩ :: ⟨g2, #[.slice p G.length c, .slice q H.length d], 35⟩ :: ⟨g1, #[.int .i64 k.pu, .int .i64 k.lo, .int .i64 k.hi, .int .i64 k.rb, .int .i64 k.rp, .int .i64 k.ae, .int .i64 k.ms, .int .i64 k.ma, .int .i64 k.an, .int .i64 k.st, .int .i64 k.ss, .int .i64 k.ro, .int .i64 k.ti, .int .i64 k.br], 31⟩ :: (zk9.N ++ (zk10.N ++ (zk13.N ++ (zk16.N ++ (zk19.N ++ zk23.N)))))) (fun zz yy => match zz, yy with | zk23, zk24 => ⟨g21, #[.int .i64 ((H[gi.toNat]!).id), .int .i64 ((H[gi.toNat]!).seg), .int .i64 ((H[gi.toNat]!).off), .int .i64 ((H[gi.toNat]!).acc), .int .i64 ((H[gi.toNat]!).slack)], 60⟩ :: ⟨g17, #[.int .i64 s], 3⟩ :: ⟨g18, #[.slice (some ⟨g17, 0, none⟩) 1 1], 58⟩ :: ⟨g20, #[.int .i64 zk19.F, .slice zk19.p zk19.O.length zk19.c], 50⟩ :: ⟨g11, #[.int .i64 zk10.F, .slice zk10.p zk10.X.length zk10.c], 41⟩ :: ⟨g4, #[.int .i64 a, .int .i64 b], 23⟩ :: ⟨g3, #[.int .i64 lo, .int .i64 hi], 23⟩ :: ⟨g2, #[.slice p G.length c, .slice q H.length d], 35⟩ :: ⟨g1, #[.int .i64 k.pu, .int .i64 k.lo, .int .i64 k.hi, .int .i64 k.rb, .int .i64 k.rp, .int .i64 k.ae, .int .i64 k.ms, .int .i64 k.ma, .int .i64 k.an, .int .i64 k.st, .int .i64 k.ss, .int .i64 k.ro, .int .i64 k.ti, .int .i64 k.br], 31⟩ :: (zk9.N ++ (zk10.N ++ (zk13.N ++ (zk16.N ++ (zk19.N ++ (zk23.N ++ zk24.N))))))) (fun zz => match zz with | zk23 => CpOk G H zk23) (fun zz yy => match zz, yy with | zk23, zk24 => Held zk24.N zk24.p (flat enc1 (plc G f (H[gi.toNat]!).seg (H[gi.toNat]!).off (xs zk19.O) zk19.O.length))) 152 (by kernel_rfl) rfl (by kernel_rfl) (by kernel_rfl) (by kernel_rfl) rfl rfl (by kernel_rfl) (by decide) (by decide) (by rintro zk23; simp) (by rintro zk23 zk24; simp) (fun W hE => refs_open20 G H _ _ _ _ W ((sl_old hS) W hE) (oks_below hG hE.below) ((sl_old hH) W hE) (may_few hM).1 (may_few hM).2) (by rintro zk23 k23; exact (fun W hE => places_ref2 gi G H _ _ zk23.c zk23.d zk23.K s f zk19.F zk19.O _ _ W f2 (held_at k23.segs (List.Sublist.cons _ (List.Sublist.cons _ (List.Sublist.cons _ (List.Sublist.cons _ (List.Sublist.cons _ (List.Sublist.cons _ (List.Sublist.cons _ (List.Sublist.cons _ (List.Sublist.cons _ (List.sublist_append_of_sublist_right (List.sublist_append_of_sublist_right (List.sublist_append_of_sublist_right (List.sublist_append_of_sublist_right (List.sublist_append_of_sublist_right (List.Sublist.refl _))))))))))))))) hE) (k23.ok _ _ hG (hE.sub (List.Sublist.cons _ (List.Sublist.cons _ (List.Sublist.cons _ (List.Sublist.cons _ (List.Sublist.cons _ (List.Sublist.cons _ (List.Sublist.cons _ (List.Sublist.cons _ (List.Sublist.cons _ (List.sublist_append_of_sublist_right (List.sublist_append_of_sublist_right (List.sublist_append_of_sublist_right (List.sublist_append_of_sublist_right (List.sublist_append_of_sublist_right (List.Sublist.refl _))))))))))))))))) (held_at k23.grps (List.Sublist.cons _ (List.Sublist.cons _ (List.Sublist.cons _ (List.Sublist.cons _ (List.Sublist.cons _ (List.Sublist.cons _ (List.Sublist.cons _ (List.Sublist.cons _ (List.Sublist.cons _ (List.sublist_append_of_sublist_right (List.sublist_append_of_sublist_right (List.sublist_append_of_sublist_right (List.sublist_append_of_sublist_right (List.sublist_append_of_sublist_right (List.Sublist.refl _))))))))))))))) hE) hM k23.same ok9 ((sl_held k19.held (List.Sublist.cons _ (List.Sublist.cons _ (List.Sublist.cons _ (List.Sublist.cons _ (List.Sublist.cons _ (List.Sublist.cons _ (List.Sublist.cons _ (List.Sublist.cons _ (List.Sublist.cons _ (List.sublist_append_of_sublist_right (List.sublist_append_of_sublist_right (List.sublist_append_of_sublist_right (List.sublist_append_of_sublist_right (List.sublist_append_left _ _))))))))))))))) W hE) (heldi_ok (heldi_mem (R := ⟨g21, #[.int .i64 ((H[gi.toNat]!).id), .int .i64 ((H[gi.toNat]!).seg), .int .i64 ((H[gi.toNat]!).off), .int .i64 ((H[gi.toNat]!).acc), .int .i64 ((H[gi.toNat]!).slack)], 60⟩ :: ⟨g17, #[.int .i64 s], 3⟩ :: ⟨g18, #[.slice (some ⟨g17, 0, none⟩) 1 1], 58⟩ :: ⟨g20, #[.int .i64 zk19.F, .slice zk19.p zk19.O.length zk19.c], 50⟩ :: ⟨g11, #[.int .i64 zk10.F, .slice zk10.p zk10.X.length zk10.c], 41⟩ :: ⟨g4, #[.int .i64 a, .int .i64 b], 23⟩ :: ⟨g3, #[.int .i64 lo, .int .i64 hi], 23⟩ :: ⟨g2, #[.slice p G.length c, .slice q H.length d], 35⟩ :: ⟨g1, #[.int .i64 k.pu, .int .i64 k.lo, .int .i64 k.hi, .int .i64 k.rb, .int .i64 k.rp, .int .i64 k.ae, .int .i64 k.ms, .int .i64 k.ma, .int .i64 k.an, .int .i64 k.st, .int .i64 k.ss, .int .i64 k.ro, .int .i64 k.ti, .int .i64 k.br], 31⟩ :: (zk9.N ++ (zk10.N ++ (zk13.N ++ (zk16.N ++ (zk19.N ++ zk23.N)))))) held_one k19.mem (List.Sublist.cons _ (List.Sublist.cons_cons _ (List.Sublist.cons _ (List.Sublist.cons _ (List.Sublist.cons _ (List.Sublist.cons _ (List.Sublist.cons _ (List.Sublist.cons _ (List.Sublist.cons _ (List.sublist_append_of_sublist_right (List.sublist_append_of_sublist_right (List.sublist_append_of_sublist_right (List.sublist_append_of_sublist_right (List.sublist_append_of_sublist_right (List.nil_sublist _))))))))))))))) (List.Sublist.cons _ (List.Sublist.cons _ (List.Sublist.cons _ (List.Sublist.cons _ (List.Sublist.cons _ (List.Sublist.cons _ (List.Sublist.cons _ (List.Sublist.cons _ (List.Sublist.cons _ (List.sublist_append_of_sublist_right (List.sublist_append_of_sublist_right (List.sublist_append_of_sublist_right (List.sublist_append_of_sublist_right (List.sublist_append_left _ _))))))))))))))) ok9 (List.Sublist.refl _) hE) ⟨by omega, by omega⟩)) ?_ ?_ ?_
         ·
          intro y z
          refine wg_load 35 (.tmp 8) (own_row 7 rfl) rfl rfl rfl rfl rfl Try.underlying35 rfl (by kernel_rfl) ?_
          simp only [Nat.reduceAdd, Act.put, Xa, Xz, Xs]
          refine wg_own (y 1) rfl rfl rfl (fun _ => by go_simp) ?_
          simp only [Nat.reduceAdd, Act.put, Xa, Xz, Xs]
          refine wg_load 50 (.tmp 18) (own_row 3 rfl) rfl rfl rfl rfl rfl Try.underlying50 rfl (by kernel_rfl) ?_
          simp only [Nat.reduceAdd, Act.put, Xa, Xz, Xs]
          refine wg_val (.int .i64 gi) rfl rfl rfl (fun _ => rfl) ?_
          simp only [Nat.reduceAdd, Act.put, Xa, Xz, Xs]
          refine wg_pass (z 4) rfl rfl rfl ?_
          simp only [Nat.reduceAdd, Act.put, Xa, Xz, Xs]
          refine wg_pass (z 5) rfl rfl rfl ?_
          simp only [Nat.reduceAdd, Act.put, Xa, Xz, Xs]
          refine wg_val (.int .i64 0) rfl rfl rfl (fun _ => rfl) ?_
          simp only [Nat.reduceAdd, Act.put, Xa, Xz, Xs]
          exact wg_nil trivial
         ·
          rintro zk23 k23 z
          (try dsimp only)
          refine wg_pass (.agg #[.slice p G.length c, .slice q H.length d]) rfl rfl rfl ?_
          simp only [Nat.reduceAdd, Act.put, Xa, Xz, Xs]
          refine wg_pass (.agg #[.slice zk23.p zk23.K.length zk23.c, .slice zk23.q H.length zk23.d]) rfl rfl rfl ?_
          simp only [Nat.reduceAdd, Act.put, Xa, Xz, Xs]
          refine wg_pass (.agg #[.int .i64 zk19.F, .slice zk19.p zk19.O.length zk19.c]) rfl rfl rfl ?_
          simp only [Nat.reduceAdd, Act.put, Xa, Xz, Xs]
          refine wg_pass (.int .i64 gi) rfl rfl rfl ?_
          simp only [Nat.reduceAdd, Act.put, Xa, Xz, Xs]
          refine wg_own (z 4) rfl rfl rfl (fun _ => by go_simp) ?_
          simp only [Nat.reduceAdd, Act.put, Xa, Xz, Xs]
          refine wg_pass (z 5) rfl rfl rfl ?_
          simp only [Nat.reduceAdd, Act.put, Xa, Xz, Xs]
          refine wg_pass (.int .i64 0) rfl rfl rfl ?_
          simp only [Nat.reduceAdd, Act.put, Xa, Xz, Xs]
          exact wg_nil trivial
         ·
          rintro zk23 zk24 k23 k24
          (try dsimp only)
          refine wg_pass (.agg #[.slice p G.length c, .slice q H.length d]) rfl rfl rfl ?_
          simp only [Nat.reduceAdd, Act.put, Xa, Xz, Xs]
          refine wg_pass (.agg #[.slice zk23.p zk23.K.length zk23.c, .slice zk23.q H.length zk23.d]) rfl rfl rfl ?_
          simp only [Nat.reduceAdd, Act.put, Xa, Xz, Xs]
          refine wg_pass (.agg #[.int .i64 zk19.F, .slice zk19.p zk19.O.length zk19.c]) rfl rfl rfl ?_
          simp only [Nat.reduceAdd, Act.put, Xa, Xz, Xs]
          refine wg_pass (.int .i64 gi) rfl rfl rfl ?_
          simp only [Nat.reduceAdd, Act.put, Xa, Xz, Xs]
          refine wg_own (.slice zk24.p ((plc G f (H[gi.toNat]!).seg (H[gi.toNat]!).off (xs zk19.O) zk19.O.length).length) zk24.c) rfl rfl rfl (fun _ => by go_simp) ?_
          simp only [Nat.reduceAdd, Act.put, Xa, Xz, Xs]
          refine wg_val (.int .i64 (((plc G f (H[gi.toNat]!).seg (H[gi.toNat]!).off (xs zk19.O) zk19.O.length).length : Nat) : Int)) rfl rfl rfl (fun w => er_len rfl rfl Try.underlying46 w) ?_
          simp only [Nat.reduceAdd, Act.put, Xa, Xz, Xs]
          refine wg_pass (.int .i64 0) rfl rfl rfl ?_
          simp only [Nat.reduceAdd, Act.put, Xa, Xz, Xs]
          refine wg_nil ?_
          refine we_then ?_
          refine wc_block ?_
          refine wc_loop (fun (zz : Nat × Nat × Value × Value × Value × Value × Value × Value × Value × Value × Value × Value × Value × Value × Value × Value × Value × Value × Value × Value × Value × Value × Value × Value × Value × Value × Value × Value × Value × Value × Value × Value × Value × Value × Value × Value) => match zz with | ⟨i, n, u14, u24, u116, u117, u118, u119, u120, u121, u122, u123, u124, u125, u126, u127, u128, u129, u130, u131, u132, u133, u134, u135, u136, u137, u138, u139, u140, u141, u142, u143, u144, u145, u146, u147⟩ => ({ tmps := #[.agg #[.int .i64 k.pu, .int .i64 k.lo, .int .i64 k.hi, .int .i64 k.rb, .int .i64 k.rp, .int .i64 k.ae, .int .i64 k.ms, .int .i64 k.ma, .int .i64 k.an, .int .i64 k.st, .int .i64 k.ss, .int .i64 k.ro, .int .i64 k.ti, .int .i64 k.br], .agg #[.slice p G.length c, .slice q H.length d], .int .i64 s, .int .i64 f, .agg #[.int .i64 lo, .int .i64 hi], .agg #[.int .i64 a, .int .i64 b], .int .i64 gi, .pointer (some ⟨g1, 0, none⟩), .pointer (some ⟨g2, 0, none⟩), undef, undef, .pointer (some ⟨g3, 0, none⟩), .pointer (some ⟨g4, 0, none⟩), undef, u14, .pointer (some ⟨g11, 0, none⟩), .int .i64 (zk10.e : Int), .slice zk13.p zk13.L.length zk13.c, .pointer (some ⟨g20, 0, none⟩), .int .i64 (zk19.e : Int), .pointer (some ⟨g21, 0, none⟩), .int .i64 ((((H[gi.toNat]!).acc) + k.an) + ((H[gi.toNat]!).slack)), .int .i64 (n : Int), undef, u24, .bool true, .bool false, .agg #[.int .i64 k.pu, .int .i64 k.lo, .int .i64 k.hi, .int .i64 k.rb, .int .i64 k.rp, .int .i64 k.ae, .int .i64 k.ms, .int .i64 k.ma, .int .i64 k.an, .int .i64 k.st, .int .i64 k.ss, .int .i64 k.ro, .int .i64 k.ti, .int .i64 k.br], .int .i64 ((wrong k : Nat) : Int), .bool false, .bool false, .agg #[.slice p G.length c, .slice q H.length d], .int .i64 s, .int .i64 f, .bool true, .bool false, .bool false, .bool false, .agg #[.int .i64 lo, .int .i64 hi], .bool true, .bool false, .bool false, .bool false, .agg #[.int .i64 a, .int .i64 b], .bool true, .bool false, .bool false, .tuple #[.agg #[.int .i64 zk10.F, .slice zk10.p zk10.X.length zk10.c], .int .i64 (zk10.e : Int)], .int .i64 s, .int .i64 f, .agg #[.int .i64 f, .slice zk9.p 1 zk9.c], .agg #[.slice p G.length c, .slice q H.length d], .agg #[.int .i64 lo, .int .i64 hi], .tuple #[.agg #[.int .i64 zk10.F, .slice zk10.p zk10.X.length zk10.c], .int .i64 (zk10.e : Int)], .agg #[.int .i64 zk10.F, .slice zk10.p zk10.X.length zk10.c], .int .i64 (zk10.e : Int), .int .i64 (zk10.e : Int), .bool false, .agg #[.int .i64 k.pu, .int .i64 k.lo, .int .i64 k.hi, .int .i64 k.rb, .int .i64 k.rp, .int .i64 k.ae, .int .i64 k.ms, .int .i64 k.ma, .int .i64 k.an, .int .i64 k.st, .int .i64 k.ss, .int .i64 k.ro, .int .i64 k.ti, .int .i64 k.br], .agg #[.slice p G.length c, .slice q H.length d], .agg #[.int .i64 zk10.F, .slice zk10.p zk10.X.length zk10.c], .agg #[.int .i64 a, .int .i64 b], .int .i64 gi, .slice zk13.p zk13.L.length zk13.c, .int .i64 gi, .bool false, .bool false, .int .i64 gi, .pointer (some ⟨g2, 1, none⟩), .slice q H.length d, .int .i64 (H.length : Int), .bool false, .bool false, undef, undef, undef, .tuple #[.agg #[.int .i64 zk19.F, .slice zk19.p zk19.O.length zk19.c], .int .i64 (zk19.e : Int)], .agg #[.slice p G.length c, .slice q H.length d], .agg #[.slice zk16.p zk16.K.length zk16.c, .slice zk16.q H.length zk16.d], .int .i64 f, .int .i64 s, .slice (some ⟨g17, 0, none⟩) 1 1, .slice (some ⟨g18, 0, none⟩) 1 1, .agg #[.int .i64 f, .slice (some ⟨g18, 0, none⟩) 1 1], .pointer (some ⟨g3, 0, none⟩), .int .i64 lo, .pointer (some ⟨g3, 1, none⟩), .int .i64 hi, .tuple #[.agg #[.int .i64 zk19.F, .slice zk19.p zk19.O.length zk19.c], .int .i64 (zk19.e : Int)], .agg #[.int .i64 zk19.F, .slice zk19.p zk19.O.length zk19.c], .int .i64 (zk19.e : Int), .pointer (some ⟨g2, 1, none⟩), .slice q H.length d, .int .i64 gi, eaddr q ((gi.toNat) * 5), .agg #[.int .i64 ((H[gi.toNat]!).id), .int .i64 ((H[gi.toNat]!).seg), .int .i64 ((H[gi.toNat]!).off), .int .i64 ((H[gi.toNat]!).acc), .int .i64 ((H[gi.toNat]!).slack)], .pointer (some ⟨g21, 3, none⟩), .int .i64 ((H[gi.toNat]!).acc), .pointer (some ⟨g1, 8, none⟩), .int .i64 k.an, .int .i64 (((H[gi.toNat]!).acc) + k.an), .pointer (some ⟨g21, 4, none⟩), .int .i64 ((H[gi.toNat]!).slack), .int .i64 ((((H[gi.toNat]!).acc) + k.an) + ((H[gi.toNat]!).slack)), .agg #[.int .i64 k.pu, .int .i64 k.lo, .int .i64 k.hi, .int .i64 k.rb, .int .i64 k.rp, .int .i64 k.ae, .int .i64 k.ms, .int .i64 k.ma, .int .i64 k.an, .int .i64 k.st, .int .i64 k.ss, .int .i64 k.ro, .int .i64 k.ti, .int .i64 k.br], .agg #[.int .i64 ((H[gi.toNat]!).id), .int .i64 ((H[gi.toNat]!).seg), .int .i64 ((H[gi.toNat]!).off), .int .i64 ((H[gi.toNat]!).acc), .int .i64 ((H[gi.toNat]!).slack)], .int .i64 (winG k (H[gi.toNat]!)), .int .i64 ((((H[gi.toNat]!).acc) + k.an) + ((H[gi.toNat]!).slack)), .bool false, .agg #[.slice p G.length c, .slice q H.length d], .agg #[.slice zk23.p zk23.K.length zk23.c, .slice zk23.q H.length zk23.d], .agg #[.int .i64 zk19.F, .slice zk19.p zk19.O.length zk19.c], .int .i64 gi, .slice zk24.p ((plc G f (H[gi.toNat]!).seg (H[gi.toNat]!).off (xs zk19.O) zk19.O.length).length) zk24.c, .int .i64 (((plc G f (H[gi.toNat]!).seg (H[gi.toNat]!).off (xs zk19.O) zk19.O.length).length : Nat) : Int), .int .i64 (i : Int), u116, u117, u118, u119, u120, u121, u122, u123, u124, u125, u126, u127, u128, u129, u130, u131, u132, u133, u134, u135, u136, u137, u138, u139, u140, u141, u142, u143, u144, u145, u146, u147, undef, undef, undef, undef], defers := [] } : Act)) (fun (zz : Nat × Nat × Value × Value × Value × Value × Value × Value × Value × Value × Value × Value × Value × Value × Value × Value × Value × Value × Value × Value × Value × Value × Value × Value × Value × Value × Value × Value × Value × Value × Value × Value × Value × Value × Value × Value) => match zz with | ⟨i, n, u14, u24, u116, u117, u118, u119, u120, u121, u122, u123, u124, u125, u126, u127, u128, u129, u130, u131, u132, u133, u134, u135, u136, u137, u138, u139, u140, u141, u142, u143, u144, u145, u146, u147⟩ => ⟨g21, #[.int .i64 ((H[gi.toNat]!).id), .int .i64 ((H[gi.toNat]!).seg), .int .i64 ((H[gi.toNat]!).off), .int .i64 ((H[gi.toNat]!).acc), .int .i64 ((H[gi.toNat]!).slack)], 60⟩ :: ⟨g17, #[.int .i64 s], 3⟩ :: ⟨g18, #[.slice (some ⟨g17, 0, none⟩) 1 1], 58⟩ :: ⟨g20, #[.int .i64 zk19.F, .slice zk19.p zk19.O.length zk19.c], 50⟩ :: ⟨g11, #[.int .i64 zk10.F, .slice zk10.p zk10.X.length zk10.c], 41⟩ :: ⟨g4, #[.int .i64 a, .int .i64 b], 23⟩ :: ⟨g3, #[.int .i64 lo, .int .i64 hi], 23⟩ :: ⟨g2, #[.slice p G.length c, .slice q H.length d], 35⟩ :: ⟨g1, #[.int .i64 k.pu, .int .i64 k.lo, .int .i64 k.hi, .int .i64 k.rb, .int .i64 k.rp, .int .i64 k.ae, .int .i64 k.ms, .int .i64 k.ma, .int .i64 k.an, .int .i64 k.st, .int .i64 k.ss, .int .i64 k.ro, .int .i64 k.ti, .int .i64 k.br], 31⟩ :: (zk9.N ++ (zk10.N ++ (zk13.N ++ (zk16.N ++ (zk19.N ++ (zk23.N ++ zk24.N))))))) (fun (zz : Nat × Nat × Value × Value × Value × Value × Value × Value × Value × Value × Value × Value × Value × Value × Value × Value × Value × Value × Value × Value × Value × Value × Value × Value × Value × Value × Value × Value × Value × Value × Value × Value × Value × Value × Value × Value) => match zz with | ⟨i, n, u14, u24, u116, u117, u118, u119, u120, u121, u122, u123, u124, u125, u126, u127, u128, u129, u130, u131, u132, u133, u134, u135, u136, u137, u138, u139, u140, u141, u142, u143, u144, u145, u146, u147⟩ => i ≤ (plc G f (H[gi.toNat]!).seg (H[gi.toNat]!).off (xs zk19.O) zk19.O.length).length ∧ n = (fitL (winG k (H[gi.toNat]!)) a b ((plc G f (H[gi.toNat]!).seg (H[gi.toNat]!).off (xs zk19.O) zk19.O.length).take i)).length) (fun (zz : Nat × Nat × Value × Value × Value × Value × Value × Value × Value × Value × Value × Value × Value × Value × Value × Value × Value × Value × Value × Value × Value × Value × Value × Value × Value × Value × Value × Value × Value × Value × Value × Value × Value × Value × Value × Value) => match zz with | ⟨i, n, u14, u24, u116, u117, u118, u119, u120, u121, u122, u123, u124, u125, u126, u127, u128, u129, u130, u131, u132, u133, u134, u135, u136, u137, u138, u139, u140, u141, u142, u143, u144, u145, u146, u147⟩ => (plc G f (H[gi.toNat]!).seg (H[gi.toNat]!).off (xs zk19.O) zk19.O.length).length - i) ⟨0, 0, _, _, _, _, _, _, _, _, _, _, _, _, _, _, _, _, _, _, _, _, _, _, _, _, _, _, _, _, _, _, _, _, _, _⟩ ⟨Nat.zero_le _, rfl⟩ rfl (List.Sublist.cons_cons _ (List.Sublist.cons_cons _ (List.Sublist.cons_cons _ (List.Sublist.cons_cons _ (List.Sublist.cons_cons _ (List.Sublist.cons_cons _ (List.Sublist.cons_cons _ (List.Sublist.cons_cons _ (List.Sublist.cons_cons _ (List.Sublist.refl _)))))))))) ?_
          rintro ⟨i, n, u14, u24, u116, u117, u118, u119, u120, u121, u122, u123, u124, u125, u126, u127, u128, u129, u130, u131, u132, u133, u134, u135, u136, u137, u138, u139, u140, u141, u142, u143, u144, u145, u146, u147⟩ hφ
          (try dsimp only at hφ ⊢)
          obtain ⟨b1, b2⟩ := hφ
          have b3 := fit_take b2
          refine wc_seq ?_
          refine wc_region ?_
          refine wl_val (.bool (decide ((i : Int) < (((plc G f (H[gi.toNat]!).seg (H[gi.toNat]!).off (xs zk19.O) zk19.O.length).length : Nat) : Int)))) rfl (fun w => run_cmp rfl rfl rfl Try.underlying3 rfl w) ?_
          simp only [Act.put, Xa, Xz, Xs]
          refine wl_nil ?_
          refine we_then ?_
          refine wc_seq ?_
          cases h25 : (decide ((i : Int) < (((plc G f (H[gi.toNat]!).seg (H[gi.toNat]!).off (xs zk19.O) zk19.O.length).length : Nat) : Int)))
          ·
           skip
           have p25 : ¬ ((i : Int) < (((plc G f (H[gi.toNat]!).seg (H[gi.toNat]!).off (xs zk19.O) zk19.O.length).length : Nat) : Int)) := of_decide_eq_false h25
           refine wc_false rfl ?_
           refine wc_exit ?_
           refine we_then_exit ?_
           refine we_then_exit ?_
           refine we_in_here ?_
           refine we_then ?_
           refine wc_seq ?_
           refine wc_region ?_
           refine wl_val (.int .i64 (n : Int)) rfl (fun _ => rfl) ?_
           simp only [Act.put, Xa, Xz, Xs]
           refine wl_val (.slice zk13.p zk13.L.length zk13.c) rfl (fun _ => rfl) ?_
           simp only [Act.put, Xa, Xz, Xs]
           refine wl_val (.int .i64 (zk13.L.length : Int)) rfl (fun w => er_len rfl rfl Try.underlying46 w) ?_
           simp only [Act.put, Xa, Xz, Xs]
           refine wl_val (.bool ((n : Int) == (zk13.L.length : Int))) rfl (fun w => run_cmp rfl rfl rfl Try.underlying3 rfl w) ?_
           simp only [Act.put, Xa, Xz, Xs]
           refine wl_val (.bool ((n : Int) == (zk13.L.length : Int))) rfl (fun _ => rfl) ?_
           simp only [Act.put, Xa, Xz, Xs]
           refine wl_nil ?_
           refine we_then ?_
           refine wc_ret ?_
           refine we_ret1 (.bool ((n : Int) == (zk13.L.length : Int))) rfl rfl rfl (fun w1 hE => ?_)
           have e1 : i = (plc G f (H[gi.toNat]!).seg (H[gi.toNat]!).off (xs zk19.O) zk19.O.length).length := by omega
           rw [e1, List.take_length, ← gq] at b2
           exact ⟨by rw [show ((n : Int) == (zk13.L.length : Int)) = true from by rw [b2]; simp], hE.below⟩
          ·
           skip
           have p25 : (i : Int) < (((plc G f (H[gi.toNat]!).seg (H[gi.toNat]!).off (xs zk19.O) zk19.O.length).length : Nat) : Int) := of_decide_eq_true h25
           refine wc_true rfl ?_
           refine wc_skip ?_
           refine we_then ?_
           refine wc_seq ?_
           refine wc_block ?_
           refine wc_seq ?_
           refine wc_region ?_
           refine wl_read (eaddr zk24.p (i * 1)) rfl (er_index i 1 (sl_held k24 (List.Sublist.cons _ (List.Sublist.cons _ (List.Sublist.cons _ (List.Sublist.cons _ (List.Sublist.cons _ (List.Sublist.cons _ (List.Sublist.cons _ (List.Sublist.cons _ (List.Sublist.cons _ (List.sublist_append_of_sublist_right (List.sublist_append_of_sublist_right (List.sublist_append_of_sublist_right (List.sublist_append_of_sublist_right (List.sublist_append_of_sublist_right (List.sublist_append_of_sublist_right (List.Sublist.refl _))))))))))))))))) rfl rfl rfl rfl (by omega) (flat_length (enc := enc1) (size := 1) (fun _ => rfl) _) (by decide) Try.underlying46 (by kernel_rfl)) ?_
           simp only [Act.put, Xa, Xz, Xs]
           refine wl_read (.int .i64 ((plc G f (H[gi.toNat]!).seg (H[gi.toNat]!).off (xs zk19.O) zk19.O.length)[i]!)) rfl (er_cell (i * 1) (.int .i64 ((plc G f (H[gi.toNat]!).seg (H[gi.toNat]!).off (xs zk19.O) zk19.O.length)[i]!)) (sl_held k24 (List.Sublist.cons _ (List.Sublist.cons _ (List.Sublist.cons _ (List.Sublist.cons _ (List.Sublist.cons _ (List.Sublist.cons _ (List.Sublist.cons _ (List.Sublist.cons _ (List.Sublist.cons _ (List.sublist_append_of_sublist_right (List.sublist_append_of_sublist_right (List.sublist_append_of_sublist_right (List.sublist_append_of_sublist_right (List.sublist_append_of_sublist_right (List.sublist_append_of_sublist_right (List.Sublist.refl _))))))))))))))))) rfl rfl (flat_cell (enc := enc1) (fun _ => rfl) (plc G f (H[gi.toNat]!).seg (H[gi.toNat]!).off (xs zk19.O) zk19.O.length) i 0 (by omega) (by decide)) Try.isAgg2) ?_
           simp only [Act.put, Xa, Xz, Xs]
           refine wl_val (.int .i64 ((plc G f (H[gi.toNat]!).seg (H[gi.toNat]!).off (xs zk19.O) zk19.O.length)[i]!)) rfl (fun _ => rfl) ?_
           simp only [Act.put, Xa, Xz, Xs]
           refine wl_nil ?_
           refine we_then ?_
           refine wc_seq ?_
           refine wc_seq ?_
           have al := at_lim pl8 (i := i) (by omega)
           refine wc_region ?_
           refine wl_val (.int .i64 ((plc G f (H[gi.toNat]!).seg (H[gi.toNat]!).off (xs zk19.O) zk19.O.length)[i]!)) rfl (fun _ => rfl) ?_
           simp only [Act.put, Xa, Xz, Xs]
           refine wl_val (.int .i64 ((((H[gi.toNat]!).acc) + k.an) + ((H[gi.toNat]!).slack))) rfl (fun _ => rfl) ?_
           simp only [Act.put, Xa, Xz, Xs]
           refine wl_val (.int .i64 (((plc G f (H[gi.toNat]!).seg (H[gi.toNat]!).off (xs zk19.O) zk19.O.length)[i]!) + ((((H[gi.toNat]!).acc) + k.an) + ((H[gi.toNat]!).slack)))) rfl (fun w => run_arith (op := .add) rfl rfl rfl Try.underlying2 (congrArg some (i64_in (by omega) (by omega))) w) ?_
           simp only [Act.put, Xa, Xz, Xs]
           refine wl_val (.pointer (some ⟨g4, 0, none⟩)) rfl (fun _ => by go_simp) ?_
           simp only [Act.put, Xa, Xz, Xs]
           refine wl_cell 2 (.tmp 122) (.int .i64 a) (own_row 5 rfl) rfl rfl rfl rfl Try.isAgg2 ?_
           simp only [Act.put, Xa, Xz, Xs]
           refine wl_val (.bool (decide (((plc G f (H[gi.toNat]!).seg (H[gi.toNat]!).off (xs zk19.O) zk19.O.length)[i]!) + ((((H[gi.toNat]!).acc) + k.an) + ((H[gi.toNat]!).slack)) < a))) rfl (fun w => run_cmp rfl rfl rfl Try.underlying2 rfl w) ?_
           simp only [Act.put, Xa, Xz, Xs]
           refine wl_val (.bool (decide (((plc G f (H[gi.toNat]!).seg (H[gi.toNat]!).off (xs zk19.O) zk19.O.length)[i]!) + ((((H[gi.toNat]!).acc) + k.an) + ((H[gi.toNat]!).slack)) < a))) rfl (fun _ => rfl) ?_
           simp only [Act.put, Xa, Xz, Xs]
           cases h26 : (decide (((plc G f (H[gi.toNat]!).seg (H[gi.toNat]!).off (xs zk19.O) zk19.O.length)[i]!) + ((((H[gi.toNat]!).acc) + k.an) + ((H[gi.toNat]!).slack)) < a))
           ·
            skip
            have p26 : ¬ (((plc G f (H[gi.toNat]!).seg (H[gi.toNat]!).off (xs zk19.O) zk19.O.length)[i]!) + ((((H[gi.toNat]!).acc) + k.an) + ((H[gi.toNat]!).slack)) < a) := of_decide_eq_false h26
            refine wl_val (.int .i64 ((plc G f (H[gi.toNat]!).seg (H[gi.toNat]!).off (xs zk19.O) zk19.O.length)[i]!)) rfl (fun _ => rfl) ?_
            simp only [Act.put, Xa, Xz, Xs]
            refine wl_val (.int .i64 ((((H[gi.toNat]!).acc) + k.an) + ((H[gi.toNat]!).slack))) rfl (fun _ => rfl) ?_
            simp only [Act.put, Xa, Xz, Xs]
            refine wl_val (.int .i64 (((plc G f (H[gi.toNat]!).seg (H[gi.toNat]!).off (xs zk19.O) zk19.O.length)[i]!) - ((((H[gi.toNat]!).acc) + k.an) + ((H[gi.toNat]!).slack)))) rfl (fun w => run_arith (op := .sub) rfl rfl rfl Try.underlying2 (congrArg some (i64_in (by omega) (by omega))) w) ?_
            simp only [Act.put, Xa, Xz, Xs]
            refine wl_val (.pointer (some ⟨g4, 1, none⟩)) rfl (fun _ => by go_simp) ?_
            simp only [Act.put, Xa, Xz, Xs]
            refine wl_cell 2 (.tmp 129) (.int .i64 b) (own_row 5 rfl) rfl rfl rfl rfl Try.isAgg2 ?_
            simp only [Act.put, Xa, Xz, Xs]
            refine wl_val (.bool (decide (b < ((plc G f (H[gi.toNat]!).seg (H[gi.toNat]!).off (xs zk19.O) zk19.O.length)[i]!) - ((((H[gi.toNat]!).acc) + k.an) + ((H[gi.toNat]!).slack))))) rfl (fun w => run_cmp rfl rfl rfl Try.underlying2 rfl w) ?_
            simp only [Act.put, Xa, Xz, Xs]
            refine wl_val (.bool (decide (b < ((plc G f (H[gi.toNat]!).seg (H[gi.toNat]!).off (xs zk19.O) zk19.O.length)[i]!) - ((((H[gi.toNat]!).acc) + k.an) + ((H[gi.toNat]!).slack))))) rfl (fun _ => rfl) ?_
            simp only [Act.put, Xa, Xz, Xs]
            refine wl_nil ?_
            refine we_then ?_
            cases h27 : (decide (b < ((plc G f (H[gi.toNat]!).seg (H[gi.toNat]!).off (xs zk19.O) zk19.O.length)[i]!) - ((((H[gi.toNat]!).acc) + k.an) + ((H[gi.toNat]!).slack))))
            ·
             skip
             have p27 : ¬ (b < ((plc G f (H[gi.toNat]!).seg (H[gi.toNat]!).off (xs zk19.O) zk19.O.length)[i]!) - ((((H[gi.toNat]!).acc) + k.an) + ((H[gi.toNat]!).slack))) := of_decide_eq_false h27
             refine wc_false rfl ?_
             refine wc_skip ?_
             refine we_then ?_
             refine wc_seq ?_
             refine wc_seq ?_
             have fh := fit_here (W := (winG k (H[gi.toNat]!))) (lo := a) (hi := b) (P := (plc G f (H[gi.toNat]!).seg (H[gi.toNat]!).off (xs zk19.O) zk19.O.length)) (i := i) (n := n) (by omega) b2 (near_yes (by omega) (by omega))
             rw [← gq] at fh
             have fh1 := fh.1
             have fh2 := fh.2
             refine wc_region ?_
             refine wl_val (.int .i64 (n : Int)) rfl (fun _ => rfl) ?_
             simp only [Act.put, Xa, Xz, Xs]
             refine wl_val (.slice zk13.p zk13.L.length zk13.c) rfl (fun _ => rfl) ?_
             simp only [Act.put, Xa, Xz, Xs]
             refine wl_val (.int .i64 (zk13.L.length : Int)) rfl (fun w => er_len rfl rfl Try.underlying46 w) ?_
             simp only [Act.put, Xa, Xz, Xs]
             refine wl_val (.bool (decide ((zk13.L.length : Int) ≤ (n : Int)))) rfl (fun w => run_cmp rfl rfl rfl Try.underlying3 rfl w) ?_
             simp only [Act.put, Xa, Xz, Xs]
             refine wl_val (.bool (decide ((zk13.L.length : Int) ≤ (n : Int)))) rfl (fun _ => rfl) ?_
             simp only [Act.put, Xa, Xz, Xs]
             cases h28 : (decide ((zk13.L.length : Int) ≤ (n : Int)))
             ·
              skip
              have p28 : ¬ ((zk13.L.length : Int) ≤ (n : Int)) := of_decide_eq_false h28
              refine wl_val (.slice zk13.p zk13.L.length zk13.c) rfl (fun _ => rfl) ?_
              simp only [Act.put, Xa, Xz, Xs]
              refine wl_val (.int .i64 (n : Int)) rfl (fun _ => rfl) ?_
              simp only [Act.put, Xa, Xz, Xs]
              refine wl_read (eaddr zk13.p (n * 1)) rfl (er_index n 1 (sl_held k13.2 (List.Sublist.cons _ (List.Sublist.cons _ (List.Sublist.cons _ (List.Sublist.cons _ (List.Sublist.cons _ (List.Sublist.cons _ (List.Sublist.cons _ (List.Sublist.cons _ (List.Sublist.cons _ (List.sublist_append_of_sublist_right (List.sublist_append_of_sublist_right (List.sublist_append_left _ _))))))))))))) rfl rfl rfl rfl (by omega) (flat_length (enc := enc1) (size := 1) (fun _ => rfl) _) (by decide) Try.underlying46 (by kernel_rfl)) ?_
              simp only [Act.put, Xa, Xz, Xs]
              refine wl_read (.int .i64 (zk13.L[n]!)) rfl (er_cell (n * 1) (.int .i64 (zk13.L[n]!)) (sl_held k13.2 (List.Sublist.cons _ (List.Sublist.cons _ (List.Sublist.cons _ (List.Sublist.cons _ (List.Sublist.cons _ (List.Sublist.cons _ (List.Sublist.cons _ (List.Sublist.cons _ (List.Sublist.cons _ (List.sublist_append_of_sublist_right (List.sublist_append_of_sublist_right (List.sublist_append_left _ _))))))))))))) rfl rfl (flat_cell (enc := enc1) (fun _ => rfl) zk13.L n 0 (by omega) (by decide)) Try.isAgg2) ?_
              simp only [Act.put, Xa, Xz, Xs]
              refine wl_val (.int .i64 ((plc G f (H[gi.toNat]!).seg (H[gi.toNat]!).off (xs zk19.O) zk19.O.length)[i]!)) rfl (fun _ => rfl) ?_
              simp only [Act.put, Xa, Xz, Xs]
              refine wl_val (.bool ((zk13.L[n]!) != ((plc G f (H[gi.toNat]!).seg (H[gi.toNat]!).off (xs zk19.O) zk19.O.length)[i]!))) rfl (fun w => run_cmp rfl rfl rfl Try.underlying2 rfl w) ?_
              simp only [Act.put, Xa, Xz, Xs]
              refine wl_val (.bool ((zk13.L[n]!) != ((plc G f (H[gi.toNat]!).seg (H[gi.toNat]!).off (xs zk19.O) zk19.O.length)[i]!))) rfl (fun _ => rfl) ?_
              simp only [Act.put, Xa, Xz, Xs]
              refine wl_nil ?_
              refine we_then ?_
              cases h29 : ((zk13.L[n]!) != ((plc G f (H[gi.toNat]!).seg (H[gi.toNat]!).off (xs zk19.O) zk19.O.length)[i]!))
              ·
               skip
               have p29 : ¬ ((zk13.L[n]!) ≠ ((plc G f (H[gi.toNat]!).seg (H[gi.toNat]!).off (xs zk19.O) zk19.O.length)[i]!)) := by first | (simp; done) | (simp at h29; done) | simpa using h29
               refine wc_false rfl ?_
               refine wc_skip ?_
               refine we_then ?_
               refine wc_region ?_
               refine wl_val (.int .i64 (n : Int)) rfl (fun _ => rfl) ?_
               simp only [Act.put, Xa, Xz, Xs]
               refine wl_val (.int .i64 ((n + 1 : Nat) : Int)) rfl (fun w => run_nat (X := n) (Y := 1) (Z := n + 1) rfl rfl rfl rfl (by omega) w) ?_
               simp only [Act.put, Xa, Xz, Xs]
               refine wl_val (.int .i64 ((n + 1 : Nat) : Int)) rfl (fun _ => rfl) ?_
               simp only [Act.put, Xa, Xz, Xs]
               refine wl_nil ?_
               refine we_in ?_
               refine we_then ?_
               refine wc_region ?_
               refine wl_val (.int .i64 ((i + 1 : Nat) : Int)) rfl (fun w => run_nat (X := i) (Y := 1) (Z := i + 1) rfl rfl rfl rfl (by omega) w) ?_
               simp only [Act.put, Xa, Xz, Xs]
               refine wl_val (.int .i64 ((i + 1 : Nat) : Int)) rfl (fun _ => rfl) ?_
               simp only [Act.put, Xa, Xz, Xs]
               refine wl_nil ?_
               exact we_meet ⟨(i + 1), (n + 1), _, _, _, _, _, _, _, _, _, _, _, _, _, _, _, _, _, _, _, _, _, _, _, _, _, _, _, _, _, _, _, _, _, _⟩ (by (try dsimp only); exact ⟨⟨by omega, by rw [fit_next _ _ _ _ _ (by omega), near_yes (by omega) (by omega)]; simpa using b2⟩, by omega⟩) rfl (List.Sublist.cons_cons _ (List.Sublist.cons_cons _ (List.Sublist.cons_cons _ (List.Sublist.cons_cons _ (List.Sublist.cons_cons _ (List.Sublist.cons_cons _ (List.Sublist.cons_cons _ (List.Sublist.cons_cons _ (List.Sublist.cons_cons _ (List.Sublist.refl _))))))))))
              ·
               skip
               have p29 : (zk13.L[n]!) ≠ ((plc G f (H[gi.toNat]!).seg (H[gi.toNat]!).off (xs zk19.O) zk19.O.length)[i]!) := by first | (simp; done) | (simp at h29; done) | simpa using h29
               refine wc_true rfl ?_
               refine wc_seq ?_
               refine wc_region ?_
               refine wl_val (.bool false) rfl (fun _ => rfl) ?_
               simp only [Act.put, Xa, Xz, Xs]
               refine wl_nil ?_
               refine we_then ?_
               refine wc_ret ?_
               refine we_then_ret ?_
               refine we_in_ret ?_
               refine we_then_ret ?_
               refine we_then_ret ?_
               refine we_in_ret ?_
               refine we_then_ret ?_
               refine we_ret1 (.bool false) rfl rfl rfl (fun w1 hE => ?_)
               exact (by exfalso; omega)
             ·
              skip
              have p28 : (zk13.L.length : Int) ≤ (n : Int) := of_decide_eq_true h28
              refine wl_skip rfl ?_
              simp only [Act.put, Xa, Xz, Xs]
              refine wl_skip rfl ?_
              simp only [Act.put, Xa, Xz, Xs]
              refine wl_skip rfl ?_
              simp only [Act.put, Xa, Xz, Xs]
              refine wl_skip rfl ?_
              simp only [Act.put, Xa, Xz, Xs]
              refine wl_skip rfl ?_
              simp only [Act.put, Xa, Xz, Xs]
              refine wl_skip rfl ?_
              simp only [Act.put, Xa, Xz, Xs]
              refine wl_val (.bool true) rfl (fun _ => rfl) ?_
              simp only [Act.put, Xa, Xz, Xs]
              refine wl_nil ?_
              refine we_then ?_
              refine wc_true rfl ?_
              refine wc_seq ?_
              refine wc_region ?_
              refine wl_val (.bool false) rfl (fun _ => rfl) ?_
              simp only [Act.put, Xa, Xz, Xs]
              refine wl_nil ?_
              refine we_then ?_
              refine wc_ret ?_
              refine we_then_ret ?_
              refine we_in_ret ?_
              refine we_then_ret ?_
              refine we_then_ret ?_
              refine we_in_ret ?_
              refine we_then_ret ?_
              refine we_ret1 (.bool false) rfl rfl rfl (fun w1 hE => ?_)
              exact (by exfalso; omega)
            ·
             skip
             have p27 : b < ((plc G f (H[gi.toNat]!).seg (H[gi.toNat]!).off (xs zk19.O) zk19.O.length)[i]!) - ((((H[gi.toNat]!).acc) + k.an) + ((H[gi.toNat]!).slack)) := of_decide_eq_true h27
             refine wc_true rfl ?_
             refine wc_exit ?_
             refine we_then_exit ?_
             refine we_in_here ?_
             refine we_then ?_
             refine wc_region ?_
             refine wl_val (.int .i64 ((i + 1 : Nat) : Int)) rfl (fun w => run_nat (X := i) (Y := 1) (Z := i + 1) rfl rfl rfl rfl (by omega) w) ?_
             simp only [Act.put, Xa, Xz, Xs]
             refine wl_val (.int .i64 ((i + 1 : Nat) : Int)) rfl (fun _ => rfl) ?_
             simp only [Act.put, Xa, Xz, Xs]
             refine wl_nil ?_
             exact we_meet ⟨(i + 1), n, _, _, _, _, _, _, _, _, _, _, _, _, _, _, _, _, _, _, _, _, _, _, _, _, _, _, _, _, _, _, _, _, _, _⟩ (by (try dsimp only); exact ⟨⟨by omega, by rw [fit_next _ _ _ _ _ (by omega), near_no (by omega)]; simpa using b2⟩, by omega⟩) rfl (List.Sublist.cons_cons _ (List.Sublist.cons_cons _ (List.Sublist.cons_cons _ (List.Sublist.cons_cons _ (List.Sublist.cons_cons _ (List.Sublist.cons_cons _ (List.Sublist.cons_cons _ (List.Sublist.cons_cons _ (List.Sublist.cons_cons _ (List.Sublist.refl _))))))))))
           ·
            skip
            have p26 : ((plc G f (H[gi.toNat]!).seg (H[gi.toNat]!).off (xs zk19.O) zk19.O.length)[i]!) + ((((H[gi.toNat]!).acc) + k.an) + ((H[gi.toNat]!).slack)) < a := of_decide_eq_true h26
            refine wl_skip rfl ?_
            simp only [Act.put, Xa, Xz, Xs]
            refine wl_skip rfl ?_
            simp only [Act.put, Xa, Xz, Xs]
            refine wl_skip rfl ?_
            simp only [Act.put, Xa, Xz, Xs]
            refine wl_skip rfl ?_
            simp only [Act.put, Xa, Xz, Xs]
            refine wl_skip rfl ?_
            simp only [Act.put, Xa, Xz, Xs]
            refine wl_skip rfl ?_
            simp only [Act.put, Xa, Xz, Xs]
            refine wl_val (.bool true) rfl (fun _ => rfl) ?_
            simp only [Act.put, Xa, Xz, Xs]
            refine wl_nil ?_
            refine we_then ?_
            refine wc_true rfl ?_
            refine wc_exit ?_
            refine we_then_exit ?_
            refine we_in_here ?_
            refine we_then ?_
            refine wc_region ?_
            refine wl_val (.int .i64 ((i + 1 : Nat) : Int)) rfl (fun w => run_nat (X := i) (Y := 1) (Z := i + 1) rfl rfl rfl rfl (by omega) w) ?_
            simp only [Act.put, Xa, Xz, Xs]
            refine wl_val (.int .i64 ((i + 1 : Nat) : Int)) rfl (fun _ => rfl) ?_
            simp only [Act.put, Xa, Xz, Xs]
            refine wl_nil ?_
            exact we_meet ⟨(i + 1), n, _, _, _, _, _, _, _, _, _, _, _, _, _, _, _, _, _, _, _, _, _, _, _, _, _, _, _, _, _, _, _, _, _, _⟩ (by (try dsimp only); exact ⟨⟨by omega, by rw [fit_next _ _ _ _ _ (by omega), near_no (by omega)]; simpa using b2⟩, by omega⟩) rfl (List.Sublist.cons_cons _ (List.Sublist.cons_cons _ (List.Sublist.cons_cons _ (List.Sublist.cons_cons _ (List.Sublist.cons_cons _ (List.Sublist.cons_cons _ (List.Sublist.cons_cons _ (List.Sublist.cons_cons _ (List.Sublist.cons_cons _ (List.Sublist.refl _))))))))))
        ·
         skip
         have p22 : (winG k (H[gi.toNat]!)) ≠ ((((H[gi.toNat]!).acc) + k.an) + ((H[gi.toNat]!).slack)) := by first | (simp; done) | (simp at h22; done) | simpa using h22
         refine wc_true rfl ?_
         refine wc_seq ?_
         refine wc_region ?_
         refine wl_val (.bool false) rfl (fun _ => rfl) ?_
         simp only [Act.put, Xa, Xz, Xs]
         refine wl_nil ?_
         refine we_then ?_
         refine wc_ret ?_
         refine we_then_ret ?_
         refine we_ret1 (.bool false) rfl rfl rfl (fun w1 hE => ?_)
         exact (by exfalso; omega)
       ·
        skip
        have p15 : (H.length : Int) ≤ gi := of_decide_eq_true h15
        refine wc_true rfl ?_
        refine wc_seq ?_
        refine wc_region ?_
        refine wl_val (.slice zk13.p zk13.L.length zk13.c) rfl (fun _ => rfl) ?_
        simp only [Act.put, Xa, Xz, Xs]
        refine wl_val (.int .i64 (zk13.L.length : Int)) rfl (fun w => er_len rfl rfl Try.underlying46 w) ?_
        simp only [Act.put, Xa, Xz, Xs]
        refine wl_val (.bool ((zk13.L.length : Int) == 0)) rfl (fun w => run_cmp rfl rfl rfl Try.underlying3 rfl w) ?_
        simp only [Act.put, Xa, Xz, Xs]
        refine wl_val (.bool ((zk13.L.length : Int) == 0)) rfl (fun _ => rfl) ?_
        simp only [Act.put, Xa, Xz, Xs]
        refine wl_nil ?_
        refine we_then ?_
        refine wc_ret ?_
        refine we_then_ret ?_
        refine we_ret1 (.bool ((zk13.L.length : Int) == 0)) rfl rfl rfl (fun w1 hE => ?_)
        have q1 := k13.1.trans (fit_out (fun h => by omega))
        exact ⟨by rw [show ((zk13.L.length : Int) == 0) = true from by rw [q1]; rfl], hE.below⟩
      ·
       skip
       have p14 : gi < 0 := of_decide_eq_true h14
       refine wl_skip rfl ?_
       simp only [Act.put, Xa, Xz, Xs]
       refine wl_skip rfl ?_
       simp only [Act.put, Xa, Xz, Xs]
       refine wl_skip rfl ?_
       simp only [Act.put, Xa, Xz, Xs]
       refine wl_skip rfl ?_
       simp only [Act.put, Xa, Xz, Xs]
       refine wl_skip rfl ?_
       simp only [Act.put, Xa, Xz, Xs]
       refine wl_val (.bool true) rfl (fun _ => rfl) ?_
       simp only [Act.put, Xa, Xz, Xs]
       refine wl_nil ?_
       refine we_then ?_
       refine wc_true rfl ?_
       refine wc_seq ?_
       refine wc_region ?_
       refine wl_val (.slice zk13.p zk13.L.length zk13.c) rfl (fun _ => rfl) ?_
       simp only [Act.put, Xa, Xz, Xs]
       refine wl_val (.int .i64 (zk13.L.length : Int)) rfl (fun w => er_len rfl rfl Try.underlying46 w) ?_
       simp only [Act.put, Xa, Xz, Xs]
       refine wl_val (.bool ((zk13.L.length : Int) == 0)) rfl (fun w => run_cmp rfl rfl rfl Try.underlying3 rfl w) ?_
       simp only [Act.put, Xa, Xz, Xs]
       refine wl_val (.bool ((zk13.L.length : Int) == 0)) rfl (fun _ => rfl) ?_
       simp only [Act.put, Xa, Xz, Xs]
       refine wl_nil ?_
       refine we_then ?_
       refine wc_ret ?_
       refine we_then_ret ?_
       refine we_ret1 (.bool ((zk13.L.length : Int) == 0)) rfl rfl rfl (fun w1 hE => ?_)
       have q1 := k13.1.trans (fit_out (fun h => by omega))
       exact ⟨by rw [show ((zk13.L.length : Int) == 0) = true from by rw [q1]; rfl], hE.below⟩
     ·
      skip
      have p12 : (zk10.e : Int) ≠ 0 := by first | (simp; done) | (simp at h12; done) | simpa using h12
      refine wc_true rfl ?_
      refine wc_seq ?_
      refine wc_region ?_
      refine wl_val (.bool true) rfl (fun _ => rfl) ?_
      simp only [Act.put, Xa, Xz, Xs]
      refine wl_nil ?_
      refine we_then ?_
      refine wc_ret ?_
      refine we_then_ret ?_
      refine we_ret1 (.bool true) rfl rfl rfl (fun w1 hE => ?_)
      exact ⟨rfl, hE.below⟩
 ·
  skip
  have p5 : ((wrong k : Nat) : Int) ≠ 0 := by first | (simp; done) | (simp at h5; done) | simpa using h5
  refine wl_skip rfl ?_
  simp only [Act.put, Xa, Xz, Xs]
  refine wl_skip rfl ?_
  simp only [Act.put, Xa, Xz, Xs]
  refine wl_skip rfl ?_
  simp only [Act.put, Xa, Xz, Xs]
  refine wl_skip rfl ?_
  simp only [Act.put, Xa, Xz, Xs]
  refine wl_skip rfl ?_
  simp only [Act.put, Xa, Xz, Xs]
  refine wl_val (.bool true) rfl (fun _ => rfl) ?_
  simp only [Act.put, Xa, Xz, Xs]
  refine wl_val (.bool true) rfl (fun _ => rfl) ?_
  simp only [Act.put, Xa, Xz, Xs]
  refine wl_skip rfl ?_
  simp only [Act.put, Xa, Xz, Xs]
  refine wl_skip rfl ?_
  simp only [Act.put, Xa, Xz, Xs]
  refine wl_skip rfl ?_
  simp only [Act.put, Xa, Xz, Xs]
  refine wl_val (.bool true) rfl (fun _ => rfl) ?_
  simp only [Act.put, Xa, Xz, Xs]
  refine wl_val (.bool true) rfl (fun _ => rfl) ?_
  simp only [Act.put, Xa, Xz, Xs]
  refine wl_skip rfl ?_
  simp only [Act.put, Xa, Xz, Xs]
  refine wl_skip rfl ?_
  simp only [Act.put, Xa, Xz, Xs]
  refine wl_skip rfl ?_
  simp only [Act.put, Xa, Xz, Xs]
  refine wl_val (.bool true) rfl (fun _ => rfl) ?_
  simp only [Act.put, Xa, Xz, Xs]
  refine wl_nil ?_
  refine we_then ?_
  refine wc_true rfl ?_
  refine wc_seq ?_
  refine wc_region ?_
  refine wl_val (.bool true) rfl (fun _ => rfl) ?_
  simp only [Act.put, Xa, Xz, Xs]
  refine wl_nil ?_
  refine we_then ?_
  refine wc_ret ?_
  refine we_then_ret ?_
  refine we_ret1 (.bool true) rfl rfl rfl (fun w1 hE => ?_)
  exact ⟨rfl, hE.below⟩
end Go.Proofs.Ytjbhlcklgmgdpaa.Walks
