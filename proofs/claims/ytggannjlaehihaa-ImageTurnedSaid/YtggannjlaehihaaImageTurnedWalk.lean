/-
 ImageTurned: the law's walk. No condition.
-/
import Derived.Test.YtggannjlaehihaaImlw
namespace Go.Proofs.Ytggannjlaehihaa.Walks
open Go.ChangeShapes Go.WideShapes Go.ChangeAt Go.RowKit
open Arr Steady Sx Sw Sl Sb Sc Si Sj Sk Sh Shh Cr Fr Vs Gr Tk Tkh Tkl Img Imp Imo Imref Imrefo Imput Imb Imsame Imc Tkrefs12 Imlw
set_option linter.unusedVariables false
set_option linter.unusedSimpArgs false
set_option maxRecDepth 100000

theorem flip_set (L : List UInt8) (j : Nat) : L.set (j / 8) (UInt8.ofBitVec ((L[j / 8]!).toBitVec ^^^ (128#8 >>> (j % 8)))) = Imb.flip L j := by
 unfold Imb.flip
 congr 1
 have k : ∀ r, r < 8 → 128#8 >>> r = ((128 : UInt8) >>> UInt8.ofNat r).toBitVec := by decide
 rw [k _ (Nat.mod_lt _ (by decide))]
 rfl
theorem flp_yes {L : List UInt8} {a i : Nat} {T : BitVec 16} (h : ((T >>> (15 - i)) &&& 1#16 == 1#16) = true) : (flp L a T i).set ((a + i) / 8) (UInt8.ofBitVec (((flp L a T i)[(a + i) / 8]!).toBitVec ^^^ (128#8 >>> ((a + i) % 8)))) = flp L a T (i + 1) := by
 rw [flip_set]
 show _ = if _ then _ else _
 rw [if_pos h]
theorem flp_no {L : List UInt8} {a i : Nat} {T : BitVec 16} (h : ((T >>> (15 - i)) &&& 1#16 == 1#16) = false) : flp L a T i = flp L a T (i + 1) := by
 show _ = if _ then _ else _
 rw [if_neg (by rw [h]; decide)]
set_option maxHeartbeats 8000000 in
theorem imageTurned_core (G : List Sg) (H : List Gp) (p q : Option Addr) (c d : Nat) (x : Int) (wx : (Lit.int .i64 x).wf = true) (T : BitVec 16) (w : World) (hS : Reads w p (flat sg G)) (hG : OkS w G) (hH : Reads w q (flat gp H)) (hn : G.length ≤ 140737488355328) (hm : H.length ≤ 140737488355328) (hcc : G.length ≤ c) (hcd : H.length ≤ d) :
  Calls Try.prog 5 #[.agg #[.slice p G.length c, .slice q H.length d], .int .i64 x, .int .u16 (T.toNat : Int)] w fun e w' => e = .returned (.bool true) ∧ Below w.heap.size w w' := by
 have fx := i64_of_wf wx
 refine calls_sx Try.func5 rfl ?_
 simp only [Try.ntmps5, List.size_toArray, List.length_cons, List.length_nil, Nat.reduceAdd, Nat.reduceSub, Array.replicate_succ, Array.replicate_zero, List.push_toArray, List.append_toArray, List.nil_append, List.cons_append]
 refine wc_seq ?_
 refine wc_region ?_
 refine wl_new 25 (#[.slice p G.length c, .slice q H.length d]) rfl (fun _ => by go_simp) ?_
 intro g1
 simp only [Act.put, Xa, Xz, Xs]
 refine wl_val (.bool false) rfl (fun _ => rfl) ?_
 simp only [Act.put, Xa, Xz, Xs]
 refine wl_nil ?_
 refine we_then ?_
 refine wc_seq ?_
 refine wc_seq ?_
 refine wc_region ?_
 refine wl_call 7 #[] (.bool true) rfl (fun _ => by go_simp) (fun W => Imlw.anchor_any W) ?_
 simp only [Act.put, Xa, Xz, Xs]
 refine wl_val (.bool false) rfl (fun _ => by go_simp) ?_
 simp only [Act.put, Xa, Xz, Xs]
 refine wl_nil ?_
 refine we_then ?_
 refine wc_false rfl ?_
 refine wc_skip ?_
 refine we_then ?_
 refine wc_seq ?_
 refine wc_seq ?_
 refine wc_region ?_
 refine wl_load 25 (.tmp 3) (own_row 0 rfl) rfl rfl rfl Try.underlying25 rfl (by kernel_rfl) ?_
 simp only [Act.put, Xa, Xz, Xs]
 refine wl_call_at 8 #[.agg #[.slice p G.length c, .slice q H.length d]] (.bool (greatC G H)) rfl (fun _ => by go_simp) (fun W hE => great_any G H _ _ _ _ W ((sl_old hS) W hE) (oks_below hG hE.below) ((sl_old hH) W hE) hn hm) ?_
 simp only [Act.put, Xa, Xz, Xs]
 refine wl_val (.bool (greatC G H)) rfl (fun _ => rfl) ?_
 simp only [Act.put, Xa, Xz, Xs]
 cases h2 : (greatC G H)
 ·
  skip
  refine wl_val (.int .u16 (T.toNat : Int)) rfl (fun _ => rfl) ?_
  simp only [Act.put, Xa, Xz, Xs]
  refine wl_val (.bool (T == (0#16))) rfl (fun w => run_bveq (k := .u16) (X := T) (Y := 0#16) rfl rfl rfl Try.underlying46 rfl w) ?_
  simp only [Act.put, Xa, Xz, Xs]
  refine wl_val (.bool (T == (0#16))) rfl (fun _ => rfl) ?_
  simp only [Act.put, Xa, Xz, Xs]
  refine wl_nil ?_
  refine we_then ?_
  cases h3 : (T == (0#16))
  ·
   skip
   have p3 : ¬ (T = (0#16)) := by simpa using h3
   refine wc_false rfl ?_
   refine wc_skip ?_
   refine we_then ?_
   refine wc_seq ?_
   refine wc_region ?_
   refine wl_load 25 (.tmp 3) (own_row 0 rfl) rfl rfl rfl Try.underlying25 rfl (by kernel_rfl) ?_
   simp only [Act.put, Xa, Xz, Xs]
   cases h5 : (decide ((chk G H).1 = 0))
   ·
    skip
    have p5 : ¬ ((chk G H).1 = 0) := of_decide_eq_false h5
    refine wl_call_open (ι := Bs) (fun zz => match zz with | zk6 => ⟨g1, #[.slice p G.length c, .slice q H.length d], 25⟩ :: zk6.N) 9 #[.agg #[.slice p G.length c, .slice q H.length d]] (fun zz => match zz with | zk6 => .tuple #[.slice zk6.p 0 zk6.c, .int .i64 51]) (fun zz => match zz with | zk6 => zk6.N) (fun zz => match zz with | zk6 => BsOk [] zk6) (by rintro zk6; simp) rfl (fun _ => by go_simp) (fun W hE => pack_no G H _ _ _ _ W ((sl_old hS) W hE) (oks_below hG hE.below) ((sl_old hH) W hE) hn hm (of_decide_eq_false h5)) ?_
    rintro zk6 k6
    (try dsimp only)
    simp only [Act.put, Xa, Xz, Xs]
    refine wl_val (.tuple #[.slice zk6.p 0 zk6.c, .int .i64 51]) rfl (fun _ => rfl) ?_
    simp only [Act.put, Xa, Xz, Xs]
    refine wl_val (.slice zk6.p 0 zk6.c) rfl (fun _ => by go_simp) ?_
    simp only [Act.put, Xa, Xz, Xs]
    refine wl_val (.int .i64 51) rfl (fun _ => by go_simp) ?_
    simp only [Act.put, Xa, Xz, Xs]
    refine wl_val (.slice zk6.p 0 zk6.c) rfl (fun _ => rfl) ?_
    simp only [Act.put, Xa, Xz, Xs]
    refine wl_val (.int .i64 51) rfl (fun _ => rfl) ?_
    simp only [Act.put, Xa, Xz, Xs]
    refine wl_nil ?_
    refine we_then ?_
    refine wc_seq ?_
    refine wc_seq ?_
    refine wc_region ?_
    refine wl_val (.int .i64 51) rfl (fun _ => rfl) ?_
    simp only [Act.put, Xa, Xz, Xs]
    refine wl_val (.bool true) rfl (fun w => run_cmp rfl rfl rfl Try.underlying29 rfl w) ?_
    simp only [Act.put, Xa, Xz, Xs]
    refine wl_val (.bool true) rfl (fun _ => rfl) ?_
    simp only [Act.put, Xa, Xz, Xs]
    refine wl_skip rfl ?_
    simp only [Act.put, Xa, Xz, Xs]
    refine wl_skip rfl ?_
    simp only [Act.put, Xa, Xz, Xs]
    refine wl_skip rfl ?_
    simp only [Act.put, Xa, Xz, Xs]
    refine wl_val (.bool true) rfl (fun _ => rfl) ?_
    simp only [Act.put, Xa, Xz, Xs]
    refine wl_val (.bool true) rfl (fun _ => rfl) ?_
    simp only [Act.put, Xa, Xz, Xs]
    refine wl_skip rfl ?_
    simp only [Act.put, Xa, Xz, Xs]
    refine wl_skip rfl ?_
    simp only [Act.put, Xa, Xz, Xs]
    refine wl_val (.bool true) rfl (fun _ => rfl) ?_
    simp only [Act.put, Xa, Xz, Xs]
    refine wl_val (.bool true) rfl (fun _ => rfl) ?_
    simp only [Act.put, Xa, Xz, Xs]
    refine wl_skip rfl ?_
    simp only [Act.put, Xa, Xz, Xs]
    refine wl_skip rfl ?_
    simp only [Act.put, Xa, Xz, Xs]
    refine wl_skip rfl ?_
    simp only [Act.put, Xa, Xz, Xs]
    refine wl_skip rfl ?_
    simp only [Act.put, Xa, Xz, Xs]
    refine wl_skip rfl ?_
    simp only [Act.put, Xa, Xz, Xs]
    refine wl_skip rfl ?_
    simp only [Act.put, Xa, Xz, Xs]
    refine wl_val (.bool true) rfl (fun _ => rfl) ?_
    simp only [Act.put, Xa, Xz, Xs]
    refine wl_nil ?_
    refine we_then ?_
    refine wc_true rfl ?_
    refine wc_seq ?_
    refine wc_region ?_
    refine wl_val (.bool true) rfl (fun _ => rfl) ?_
    simp only [Act.put, Xa, Xz, Xs]
    refine wl_nil ?_
    refine we_then ?_
    refine wc_ret ?_
    refine we_then_ret ?_
    refine we_ret1 (.bool true) rfl rfl rfl (fun w1 hE => ?_)
    exact ⟨rfl, hE.below⟩
   ·
    skip
    have p5 : (chk G H).1 = 0 := of_decide_eq_true h5
    refine wl_call_open (ι := Bs) (fun zz => match zz with | zk7 => ⟨g1, #[.slice p G.length c, .slice q H.length d], 25⟩ :: zk7.N) 9 #[.agg #[.slice p G.length c, .slice q H.length d]] (fun zz => match zz with | zk7 => .tuple #[.slice zk7.p ((img (G.map dat) H).length) zk7.c, .int .i64 0]) (fun zz => match zz with | zk7 => zk7.N) (fun zz => match zz with | zk7 => BsOk (img (G.map dat) H) zk7) (by rintro zk7; simp) rfl (fun _ => by go_simp) (fun W hE => pack_yes G H _ _ _ _ W ((sl_old hS) W hE) (oks_below hG hE.below) ((sl_old hH) W hE) hn hm (of_decide_eq_true h5)) ?_
    rintro zk7 k7
    (try dsimp only)
    have fk7 := img_few (of_decide_eq_true h5)
    simp only [Act.put, Xa, Xz, Xs]
    refine wl_val (.tuple #[.slice zk7.p ((img (G.map dat) H).length) zk7.c, .int .i64 0]) rfl (fun _ => rfl) ?_
    simp only [Act.put, Xa, Xz, Xs]
    refine wl_val (.slice zk7.p ((img (G.map dat) H).length) zk7.c) rfl (fun _ => by go_simp) ?_
    simp only [Act.put, Xa, Xz, Xs]
    refine wl_val (.int .i64 0) rfl (fun _ => by go_simp) ?_
    simp only [Act.put, Xa, Xz, Xs]
    refine wl_val (.slice zk7.p ((img (G.map dat) H).length) zk7.c) rfl (fun _ => rfl) ?_
    simp only [Act.put, Xa, Xz, Xs]
    refine wl_val (.int .i64 0) rfl (fun _ => rfl) ?_
    simp only [Act.put, Xa, Xz, Xs]
    refine wl_nil ?_
    refine we_then ?_
    refine wc_seq ?_
    refine wc_seq ?_
    refine wc_region ?_
    refine wl_val (.int .i64 0) rfl (fun _ => rfl) ?_
    simp only [Act.put, Xa, Xz, Xs]
    refine wl_val (.bool false) rfl (fun w => run_cmp rfl rfl rfl Try.underlying29 rfl w) ?_
    simp only [Act.put, Xa, Xz, Xs]
    refine wl_val (.bool false) rfl (fun _ => rfl) ?_
    simp only [Act.put, Xa, Xz, Xs]
    refine wl_val (.slice zk7.p ((img (G.map dat) H).length) zk7.c) rfl (fun _ => rfl) ?_
    simp only [Act.put, Xa, Xz, Xs]
    refine wl_val (.int .i64 (((img (G.map dat) H).length : Nat) : Int)) rfl (fun w => er_len rfl rfl Try.underlying28 w) ?_
    simp only [Act.put, Xa, Xz, Xs]
    refine wl_val (.bool (decide ((((img (G.map dat) H).length : Nat) : Int) < 32))) rfl (fun w => run_cmp rfl rfl rfl Try.underlying3 rfl w) ?_
    simp only [Act.put, Xa, Xz, Xs]
    refine wl_val (.bool (decide ((((img (G.map dat) H).length : Nat) : Int) < 32))) rfl (fun _ => rfl) ?_
    simp only [Act.put, Xa, Xz, Xs]
    refine wl_val (.bool (decide ((((img (G.map dat) H).length : Nat) : Int) < 32))) rfl (fun _ => rfl) ?_
    simp only [Act.put, Xa, Xz, Xs]
    cases h8 : (decide ((((img (G.map dat) H).length : Nat) : Int) < 32))
    ·
     skip
     have p8 : ¬ ((((img (G.map dat) H).length : Nat) : Int) < 32) := of_decide_eq_false h8
     refine wl_val (.int .i64 x) rfl (fun _ => rfl) ?_
     simp only [Act.put, Xa, Xz, Xs]
     refine wl_val (.bool (decide (x < 0))) rfl (fun w => run_cmp rfl rfl rfl Try.underlying3 rfl w) ?_
     simp only [Act.put, Xa, Xz, Xs]
     refine wl_val (.bool (decide (x < 0))) rfl (fun _ => rfl) ?_
     simp only [Act.put, Xa, Xz, Xs]
     refine wl_val (.bool (decide (x < 0))) rfl (fun _ => rfl) ?_
     simp only [Act.put, Xa, Xz, Xs]
     cases h9 : (decide (x < 0))
     ·
      skip
      have p9 : ¬ (x < 0) := of_decide_eq_false h9
      refine wl_val (.int .i64 x) rfl (fun _ => rfl) ?_
      simp only [Act.put, Xa, Xz, Xs]
      refine wl_val (.slice zk7.p ((img (G.map dat) H).length) zk7.c) rfl (fun _ => rfl) ?_
      simp only [Act.put, Xa, Xz, Xs]
      refine wl_val (.int .i64 (((img (G.map dat) H).length : Nat) : Int)) rfl (fun w => er_len rfl rfl Try.underlying28 w) ?_
      simp only [Act.put, Xa, Xz, Xs]
      refine wl_val (.int .i64 ((8 * ((img (G.map dat) H).length) : Nat) : Int)) rfl (fun w => run_nat (X := 8) (Y := (img (G.map dat) H).length) (Z := 8 * ((img (G.map dat) H).length)) rfl rfl rfl rfl (by omega) w) ?_
      simp only [Act.put, Xa, Xz, Xs]
      refine wl_val (.int .i64 (((8 * ((img (G.map dat) H).length)) - 16 : Nat) : Int)) rfl (fun w => run_nat (X := 8 * ((img (G.map dat) H).length)) (Y := 16) (Z := (8 * ((img (G.map dat) H).length)) - 16) rfl rfl rfl (natOf_sub (by omega)) (by omega) w) ?_
      simp only [Act.put, Xa, Xz, Xs]
      refine wl_val (.bool (decide ((((8 * ((img (G.map dat) H).length)) - 16 : Nat) : Int) < x))) rfl (fun w => run_cmp rfl rfl rfl Try.underlying3 rfl w) ?_
      simp only [Act.put, Xa, Xz, Xs]
      refine wl_val (.bool (decide ((((8 * ((img (G.map dat) H).length)) - 16 : Nat) : Int) < x))) rfl (fun _ => rfl) ?_
      simp only [Act.put, Xa, Xz, Xs]
      refine wl_nil ?_
      refine we_then ?_
      cases h10 : (decide ((((8 * ((img (G.map dat) H).length)) - 16 : Nat) : Int) < x))
      ·
       skip
       have p10 : ¬ ((((8 * ((img (G.map dat) H).length)) - 16 : Nat) : Int) < x) := of_decide_eq_false h10
       refine wc_false rfl ?_
       refine wc_skip ?_
       refine we_then ?_
       refine wc_seq ?_
       obtain ⟨a, rfl⟩ := Int.eq_ofNat_of_zero_le (show 0 ≤ x by omega)
       refine wc_region ?_
       refine wl_lit (e := 5) #[] 0 rfl (fun _ => by go_simp) ?_
       intro g11
       simp only [Act.put, Xa, Xz, Xs]
       refine wl_val (.slice zk7.p ((img (G.map dat) H).length) zk7.c) rfl (fun _ => rfl) ?_
       simp only [Act.put, Xa, Xz, Xs]
       refine wl_perm (perm_last [] ⟨g11, #[], 5⟩ [⟨g1, #[.slice p G.length c, .slice q H.length d], 25⟩] zk7.N) ?_
       refine wl_append (e := 5) (size := 1) (bytes := 1) (m := (img (G.map dat) H).length) [⟨g1, #[.slice p G.length c, .slice q H.length d], 25⟩] zk7.N (Own.row g11 0 #[]) (ys := flat ub (img (G.map dat) H)) rfl (Own.has_lit g11 0 1 #[] (by decide) rfl) (sl_held k7.held (List.Sublist.cons _ (List.Sublist.cons _ (List.Sublist.refl _)))) (ub_len1 rfl) (flat_one ub_one _) rfl rfl rfl rfl Try.underlying28 (by unfold Elem; kernel_rfl) (by decide) (by unfold maxLen; omega) (by omega) ?_
       intro s12 hs12
       rw [Nat.zero_add] at hs12 ⊢
       replace hs12 := has_cast (show _ = flat ub (img (G.map dat) H) from rfl) hs12
       simp only [List.cons_append, List.nil_append, Act.put, Xa, Xz, Xs]
       refine wl_val (.slice s12.ptr ((img (G.map dat) H).length) s12.cap) rfl (fun _ => rfl) ?_
       simp only [Act.put, Xa, Xz, Xs]
       refine wl_nil ?_
       refine we_then ?_
       refine wc_seq ?_
       refine wc_seq ?_
       refine wc_region ?_
       refine wl_val (.int .i64 0) rfl (fun _ => rfl) ?_
       simp only [Act.put, Xa, Xz, Xs]
       refine wl_nil ?_
       refine we_then ?_
       refine wc_block ?_
       refine wc_loop (fun (zz : Nat × Own × Value × Value × Value × Value × Value × Value × Value × Value × Value × Value × Value × Value × Value × Value × Value × Value × Value × Value × Value × Value × Value × Value × Value × Value × Value × Value) => match zz with | ⟨i, o, u10, u49, u50, u51, u52, u53, u54, u55, u56, u57, u58, u59, u60, u61, u62, u63, u64, u65, u66, u67, u68, u69, u70, u71, u72, u73⟩ => ({ tmps := #[.agg #[.slice p G.length c, .slice q H.length d], .int .i64 (a : Int), .int .u16 (T.toNat : Int), .pointer (some ⟨g1, 0, none⟩), undef, undef, .bool false, .slice zk7.p ((img (G.map dat) H).length) zk7.c, .int .i64 0, .slice o.ptr ((img (G.map dat) H).length) o.cap, u10, undef, undef, .bool true, .bool false, .agg #[.slice p G.length c, .slice q H.length d], .bool false, .bool false, .int .u16 (T.toNat : Int), .bool false, .bool false, .tuple #[.slice zk7.p ((img (G.map dat) H).length) zk7.c, .int .i64 0], .agg #[.slice p G.length c, .slice q H.length d], .tuple #[.slice zk7.p ((img (G.map dat) H).length) zk7.c, .int .i64 0], .slice zk7.p ((img (G.map dat) H).length) zk7.c, .int .i64 0, .int .i64 0, .bool false, .bool false, .slice zk7.p ((img (G.map dat) H).length) zk7.c, .int .i64 (((img (G.map dat) H).length : Nat) : Int), .bool false, .bool false, .bool false, .int .i64 (a : Int), .bool false, .bool false, .bool false, .int .i64 (a : Int), .slice zk7.p ((img (G.map dat) H).length) zk7.c, .int .i64 (((img (G.map dat) H).length : Nat) : Int), .int .i64 ((8 * ((img (G.map dat) H).length) : Nat) : Int), .int .i64 (((8 * ((img (G.map dat) H).length)) - 16 : Nat) : Int), .bool false, .bool false, .slice (some ⟨g11, 0, none⟩) 0 0, .slice zk7.p ((img (G.map dat) H).length) zk7.c, .slice s12.ptr ((img (G.map dat) H).length) s12.cap, .int .i64 (i : Int), u49, u50, u51, u52, u53, u54, u55, u56, u57, u58, u59, u60, u61, u62, u63, u64, u65, u66, u67, u68, u69, u70, u71, u72, u73, undef, undef, undef, undef, undef, undef, undef, undef, undef, undef, undef], defers := [] } : Act)) (fun (zz : Nat × Own × Value × Value × Value × Value × Value × Value × Value × Value × Value × Value × Value × Value × Value × Value × Value × Value × Value × Value × Value × Value × Value × Value × Value × Value × Value × Value) => match zz with | ⟨i, o, u10, u49, u50, u51, u52, u53, u54, u55, u56, u57, u58, u59, u60, u61, u62, u63, u64, u65, u66, u67, u68, u69, u70, u71, u72, u73⟩ => ⟨g1, #[.slice p G.length c, .slice q H.length d], 25⟩ :: (o.rows 5 ++ zk7.N)) (fun (zz : Nat × Own × Value × Value × Value × Value × Value × Value × Value × Value × Value × Value × Value × Value × Value × Value × Value × Value × Value × Value × Value × Value × Value × Value × Value × Value × Value × Value) => match zz with | ⟨i, o, u10, u49, u50, u51, u52, u53, u54, u55, u56, u57, u58, u59, u60, u61, u62, u63, u64, u65, u66, u67, u68, u69, u70, u71, u72, u73⟩ => i ≤ 16 ∧ o.Has 1 (img (G.map dat) H).length (flat ub (flp (img (G.map dat) H) a T i))) (fun (zz : Nat × Own × Value × Value × Value × Value × Value × Value × Value × Value × Value × Value × Value × Value × Value × Value × Value × Value × Value × Value × Value × Value × Value × Value × Value × Value × Value × Value) => match zz with | ⟨i, o, u10, u49, u50, u51, u52, u53, u54, u55, u56, u57, u58, u59, u60, u61, u62, u63, u64, u65, u66, u67, u68, u69, u70, u71, u72, u73⟩ => 16 - i) ⟨0, s12, _, _, _, _, _, _, _, _, _, _, _, _, _, _, _, _, _, _, _, _, _, _, _, _, _, _⟩ ⟨Nat.zero_le _, hs12⟩ rfl (List.Sublist.cons_cons _ (List.Sublist.append_left (List.Sublist.refl _) _)) ?_
       rintro ⟨i, o, u10, u49, u50, u51, u52, u53, u54, u55, u56, u57, u58, u59, u60, u61, u62, u63, u64, u65, u66, u67, u68, u69, u70, u71, u72, u73⟩ hφ
       (try dsimp only at hφ ⊢)
       obtain ⟨b1, b2⟩ := hφ
       have fl := flp_len (img (G.map dat) H) a T i
       refine wc_seq ?_
       refine wc_region ?_
       refine wl_val (.bool (decide ((i : Int) < 16))) rfl (fun w => run_cmp rfl rfl rfl Try.underlying3 rfl w) ?_
       simp only [Act.put, Xa, Xz, Xs]
       refine wl_nil ?_
       refine we_then ?_
       refine wc_seq ?_
       cases h13 : (decide ((i : Int) < 16))
       ·
        skip
        have p13 : ¬ ((i : Int) < 16) := of_decide_eq_false h13
        refine wc_false rfl ?_
        refine wc_exit ?_
        refine we_then_exit ?_
        refine we_then_exit ?_
        refine we_in_here ?_
        refine we_then ?_
        refine wc_seq ?_
        have e1 : i = 16 := by omega
        subst e1
        have oh := b2
        have fo := opn_flp (a := a) (T := T) (may_dat (of_decide_eq_true h5)) (by simpa using h3) (by omega)
        refine wc_region ?_
        refine wl_val (.slice o.ptr ((img (G.map dat) H).length) o.cap) rfl (fun _ => rfl) ?_
        simp only [Act.put, Xa, Xz, Xs]
        refine wl_call_open (ι := Ov) (fun zz => match zz with | zk14 => ⟨g1, #[.slice p G.length c, .slice q H.length d], 25⟩ :: (o.rows 5 ++ (zk7.N ++ zk14.N))) 12 #[.slice o.ptr ((img (G.map dat) H).length) o.cap] (fun zz => match zz with | zk14 => .tuple #[.agg #[.slice zk14.p 0 zk14.c, .slice zk14.q 0 zk14.d], .int .i64 ((opnE (flp (img (G.map dat) H) a T 16) : Nat) : Int)]) (fun zz => match zz with | zk14 => zk14.N) (fun zz => match zz with | zk14 => OvOk (flp (img (G.map dat) H) a T 16) zk14) (by rintro zk14; simp) rfl (fun _ => by go_simp) (fun W hE => by have x := open_no (flp (img (G.map dat) H) a T 16) _ _ W ((sl_own [⟨g1, #[.slice p G.length c, .slice q H.length d], 25⟩] zk7.N b2 rfl) W hE) (by rw [flp_len]; omega) (by rw [flp_len]; exact has_cap oh) (by rcases fo with f | f <;> omega); rw [flp_len] at x; exact x) ?_
        rintro zk14 k14
        (try dsimp only)
        simp only [Act.put, Xa, Xz, Xs]
        refine wl_val (.tuple #[.agg #[.slice zk14.p 0 zk14.c, .slice zk14.q 0 zk14.d], .int .i64 ((opnE (flp (img (G.map dat) H) a T 16) : Nat) : Int)]) rfl (fun _ => rfl) ?_
        simp only [Act.put, Xa, Xz, Xs]
        refine wl_val (.agg #[.slice zk14.p 0 zk14.c, .slice zk14.q 0 zk14.d]) rfl (fun _ => by go_simp) ?_
        simp only [Act.put, Xa, Xz, Xs]
        refine wl_val (.int .i64 ((opnE (flp (img (G.map dat) H) a T 16) : Nat) : Int)) rfl (fun _ => by go_simp) ?_
        simp only [Act.put, Xa, Xz, Xs]
        refine wl_new 25 (#[.slice none 0 0, .slice none 0 0]) rfl (fun _ => by go_simp) ?_
        intro g15
        simp only [Act.put, Xa, Xz, Xs]
        refine wl_store 0 25 (.tmp 11) (.tmp 77) (#[.slice zk14.p 0 zk14.c, .slice zk14.q 0 zk14.d]) rfl rfl rfl rfl rfl (by kernel_rfl) rfl (by simp [Value.oneCell']) ?_
        simp only [Act.put, List.set_cons_zero]
        refine wl_val (.int .i64 ((opnE (flp (img (G.map dat) H) a T 16) : Nat) : Int)) rfl (fun _ => rfl) ?_
        simp only [Act.put, Xa, Xz, Xs]
        refine wl_nil ?_
        refine we_then ?_
        refine wc_seq ?_
        refine wc_region ?_
        refine wl_val (.int .i64 ((opnE (flp (img (G.map dat) H) a T 16) : Nat) : Int)) rfl (fun _ => rfl) ?_
        simp only [Act.put, Xa, Xz, Xs]
        refine wl_val (.bool (((opnE (flp (img (G.map dat) H) a T 16) : Nat) : Int) == 31)) rfl (fun w => run_cmp rfl rfl rfl Try.underlying29 rfl w) ?_
        simp only [Act.put, Xa, Xz, Xs]
        refine wl_val (.bool (((opnE (flp (img (G.map dat) H) a T 16) : Nat) : Int) == 31)) rfl (fun _ => rfl) ?_
        simp only [Act.put, Xa, Xz, Xs]
        cases h16 : (((opnE (flp (img (G.map dat) H) a T 16) : Nat) : Int) == 31)
        ·
         skip
         have p16 : ¬ (((opnE (flp (img (G.map dat) H) a T 16) : Nat) : Int) = 31) := by simpa using h16
         refine wl_val (.int .i64 ((opnE (flp (img (G.map dat) H) a T 16) : Nat) : Int)) rfl (fun _ => rfl) ?_
         simp only [Act.put, Xa, Xz, Xs]
         refine wl_val (.bool (((opnE (flp (img (G.map dat) H) a T 16) : Nat) : Int) == 11)) rfl (fun w => run_cmp rfl rfl rfl Try.underlying29 rfl w) ?_
         simp only [Act.put, Xa, Xz, Xs]
         refine wl_val (.bool (((opnE (flp (img (G.map dat) H) a T 16) : Nat) : Int) == 11)) rfl (fun _ => rfl) ?_
         simp only [Act.put, Xa, Xz, Xs]
         refine wl_val (.bool (((opnE (flp (img (G.map dat) H) a T 16) : Nat) : Int) == 11)) rfl (fun _ => rfl) ?_
         simp only [Act.put, Xa, Xz, Xs]
         refine wl_nil ?_
         refine we_then ?_
         refine wc_ret ?_
         refine we_ret1 (.bool (((opnE (flp (img (G.map dat) H) a T 16) : Nat) : Int) == 11)) rfl rfl rfl (fun w1 hE => ?_)
         exact ⟨by rw [show (((opnE (flp (img (G.map dat) H) a T 16) : Nat) : Int) == 11) = true from beq_iff_eq.2 (by rcases fo with f | f <;> omega)], hE.below⟩
        ·
         skip
         have p16 : ((opnE (flp (img (G.map dat) H) a T 16) : Nat) : Int) = 31 := by simpa using h16
         refine wl_skip rfl ?_
         simp only [Act.put, Xa, Xz, Xs]
         refine wl_skip rfl ?_
         simp only [Act.put, Xa, Xz, Xs]
         refine wl_val (.bool true) rfl (fun _ => rfl) ?_
         simp only [Act.put, Xa, Xz, Xs]
         refine wl_val (.bool true) rfl (fun _ => rfl) ?_
         simp only [Act.put, Xa, Xz, Xs]
         refine wl_nil ?_
         refine we_then ?_
         refine wc_ret ?_
         refine we_ret1 (.bool true) rfl rfl rfl (fun w1 hE => ?_)
         exact ⟨rfl, hE.below⟩
       ·
        skip
        have p13 : (i : Int) < 16 := of_decide_eq_true h13
        refine wc_true rfl ?_
        refine wc_skip ?_
        refine we_then ?_
        refine wc_seq ?_
        refine wc_block ?_
        refine wc_seq ?_
        refine wc_region ?_
        refine wl_val (.int .i64 (i : Int)) rfl (fun _ => rfl) ?_
        simp only [Act.put, Xa, Xz, Xs]
        refine wl_val (.int .i64 (i : Int)) rfl (fun _ => rfl) ?_
        simp only [Act.put, Xa, Xz, Xs]
        refine wl_nil ?_
        refine we_then ?_
        refine wc_seq ?_
        refine wc_region ?_
        refine wl_val (.int .u16 (T.toNat : Int)) rfl (fun _ => rfl) ?_
        simp only [Act.put, Xa, Xz, Xs]
        refine wl_val (.int .i64 (i : Int)) rfl (fun _ => rfl) ?_
        simp only [Act.put, Xa, Xz, Xs]
        refine wl_val (.int .i64 ((15 - i : Nat) : Int)) rfl (fun w => run_nat (X := 15) (Y := i) (Z := 15 - i) rfl rfl rfl (natOf_sub (by omega)) (by omega) w) ?_
        simp only [Act.put, Xa, Xz, Xs]
        refine wl_val (.int .u64 ((15 - i : Nat) : Int)) rfl (fun w => run_conv (X := ((15 - i : Nat) : Int)) rfl rfl Try.underlying3 Try.underlying47 (u64_in (by omega) (by omega)) w) ?_
        simp only [Act.put, Xa, Xz, Xs]
        refine wl_val (.int .u16 ((T >>> (15 - i)).toNat : Int)) rfl (fun w => run_shr (k := .u16) (X := T) (15 - i) rfl rfl rfl rfl w) ?_
        simp only [Act.put, Xa, Xz, Xs]
        refine wl_val (.int .u16 (((T >>> (15 - i)) &&& (1#16)).toNat : Int)) rfl (fun w => run_bits (k := .u16) (X := T >>> (15 - i)) (Y := 1#16) (Z := (T >>> (15 - i)) &&& (1#16)) rfl rfl rfl rfl rfl w) ?_
        simp only [Act.put, Xa, Xz, Xs]
        refine wl_val (.bool (((T >>> (15 - i)) &&& (1#16)) == (1#16))) rfl (fun w => run_bveq (k := .u16) (X := (T >>> (15 - i)) &&& (1#16)) (Y := 1#16) rfl rfl rfl Try.underlying46 rfl w) ?_
        simp only [Act.put, Xa, Xz, Xs]
        refine wl_nil ?_
        refine we_then ?_
        cases h17 : (((T >>> (15 - i)) &&& (1#16)) == (1#16))
        ·
         skip
         have p17 : ¬ (((T >>> (15 - i)) &&& (1#16)) = (1#16)) := by simpa using h17
         refine wc_false rfl ?_
         refine wc_skip ?_
         refine we_in ?_
         refine we_then ?_
         refine wc_region ?_
         refine wl_val (.int .i64 ((i + 1 : Nat) : Int)) rfl (fun w => run_nat (X := i) (Y := 1) (Z := i + 1) rfl rfl rfl rfl (by omega) w) ?_
         simp only [Act.put, Xa, Xz, Xs]
         refine wl_val (.int .i64 ((i + 1 : Nat) : Int)) rfl (fun _ => rfl) ?_
         simp only [Act.put, Xa, Xz, Xs]
         refine wl_nil ?_
         exact we_meet ⟨(i + 1), o, _, _, _, _, _, _, _, _, _, _, _, _, _, _, _, _, _, _, _, _, _, _, _, _, _, _⟩ (by (try dsimp only); exact ⟨⟨by omega, has_cast (congrArg (flat ub) (flp_no h17)) b2⟩, by omega⟩) rfl (List.Sublist.cons_cons _ (List.Sublist.append_left (List.Sublist.refl _) _))
        ·
         skip
         have p17 : ((T >>> (15 - i)) &&& (1#16)) = (1#16) := by simpa using h17
         refine wc_true rfl ?_
         refine wc_region ?_
         refine wl_val (.slice o.ptr ((img (G.map dat) H).length) o.cap) rfl (fun _ => rfl) ?_
         simp only [Act.put, Xa, Xz, Xs]
         refine wl_val (.int .i64 (a : Int)) rfl (fun _ => rfl) ?_
         simp only [Act.put, Xa, Xz, Xs]
         refine wl_val (.int .i64 (i : Int)) rfl (fun _ => rfl) ?_
         simp only [Act.put, Xa, Xz, Xs]
         refine wl_val (.int .i64 ((a + i : Nat) : Int)) rfl (fun w => run_nat (X := a) (Y := i) (Z := a + i) rfl rfl rfl rfl (by omega) w) ?_
         simp only [Act.put, Xa, Xz, Xs]
         refine wl_val (.int .i64 (((a + i) / 8 : Nat) : Int)) rfl (fun w => run_nat (X := a + i) (Y := 8) (Z := (a + i) / 8) rfl rfl rfl rfl (by omega) w) ?_
         simp only [Act.put, Xa, Xz, Xs]
         refine wl_read (eaddr o.ptr (((a + i) / 8) * 1)) rfl (er_index ((a + i) / 8) 1 (sl_own [⟨g1, #[.slice p G.length c, .slice q H.length d], 25⟩] zk7.N b2 rfl) rfl rfl rfl rfl (by omega) (ub_len1 (flp_len _ _ _ _)) (by decide) Try.underlying28 (by kernel_rfl)) ?_
         simp only [Act.put, Xa, Xz, Xs]
         refine wl_read (.int .u8 (((flp (img (G.map dat) H) a T i)[(a + i) / 8]!).toNat : Int)) rfl (er_cell (((a + i) / 8) * 1) (.int .u8 (((flp (img (G.map dat) H) a T i)[(a + i) / 8]!).toNat : Int)) (sl_own [⟨g1, #[.slice p G.length c, .slice q H.length d], 25⟩] zk7.N b2 rfl) rfl rfl (flat_cell (enc := ub) (fun _ => rfl) (flp (img (G.map dat) H) a T i) ((a + i) / 8) 0 (by omega) (by decide)) Try.isAgg5) ?_
         simp only [Act.put, Xa, Xz, Xs]
         refine wl_val (.int .i64 (a : Int)) rfl (fun _ => rfl) ?_
         simp only [Act.put, Xa, Xz, Xs]
         refine wl_val (.int .i64 (i : Int)) rfl (fun _ => rfl) ?_
         simp only [Act.put, Xa, Xz, Xs]
         refine wl_val (.int .i64 ((a + i : Nat) : Int)) rfl (fun w => run_nat (X := a) (Y := i) (Z := a + i) rfl rfl rfl rfl (by omega) w) ?_
         simp only [Act.put, Xa, Xz, Xs]
         refine wl_val (.int .i64 (((a + i) % 8 : Nat) : Int)) rfl (fun w => run_nat (X := a + i) (Y := 8) (Z := (a + i) % 8) rfl rfl rfl rfl (by omega) w) ?_
         simp only [Act.put, Xa, Xz, Xs]
         refine wl_val (.int .u64 (((a + i) % 8 : Nat) : Int)) rfl (fun w => run_conv (X := (((a + i) % 8 : Nat) : Int)) rfl rfl Try.underlying3 Try.underlying47 (u64_in (by omega) (by omega)) w) ?_
         simp only [Act.put, Xa, Xz, Xs]
         refine wl_val (.int .u8 (((128#8) >>> ((a + i) % 8)).toNat : Int)) rfl (fun w => run_shr (k := .u8) (X := 128#8) ((a + i) % 8) rfl rfl rfl rfl w) ?_
         simp only [Act.put, Xa, Xz, Xs]
         refine wl_val (.int .u8 (((((flp (img (G.map dat) H) a T i)[(a + i) / 8]!).toBitVec) ^^^ ((128#8) >>> ((a + i) % 8))).toNat : Int)) rfl (fun w => run_bits (k := .u8) (X := ((flp (img (G.map dat) H) a T i)[(a + i) / 8]!).toBitVec) (Y := (128#8) >>> ((a + i) % 8)) (Z := (((flp (img (G.map dat) H) a T i)[(a + i) / 8]!).toBitVec) ^^^ ((128#8) >>> ((a + i) % 8))) rfl rfl rfl rfl rfl w) ?_
         simp only [Act.put, Xa, Xz, Xs]
         refine wl_read (eaddr o.ptr (((a + i) / 8) * 1)) rfl (er_index ((a + i) / 8) 1 (sl_own [⟨g1, #[.slice p G.length c, .slice q H.length d], 25⟩] zk7.N b2 rfl) rfl rfl rfl rfl (by omega) (ub_len1 (flp_len _ _ _ _)) (by decide) Try.underlying28 (by kernel_rfl)) ?_
         simp only [Act.put, Xa, Xz, Xs]
         refine wl_set_own (e := 5) [⟨g1, #[.slice p G.length c, .slice q H.length d], 25⟩] zk7.N o ((a + i) / 8) (L := flp (img (G.map dat) H) a T i) (UInt8.ofBitVec ((((flp (img (G.map dat) H) a T i)[(a + i) / 8]!).toBitVec) ^^^ ((128#8) >>> ((a + i) % 8)))) rfl b2 (by omega) rfl rfl rfl rfl (by kernel_rfl) ?_
         intro s18 es18 cs18 hs18
         rw [← es18]
         (try rw [← cs18])
         simp only [List.cons_append, List.nil_append, Act.put]
         refine wl_nil ?_
         refine we_in ?_
         refine we_then ?_
         refine wc_region ?_
         refine wl_val (.int .i64 ((i + 1 : Nat) : Int)) rfl (fun w => run_nat (X := i) (Y := 1) (Z := i + 1) rfl rfl rfl rfl (by omega) w) ?_
         simp only [Act.put, Xa, Xz, Xs]
         refine wl_val (.int .i64 ((i + 1 : Nat) : Int)) rfl (fun _ => rfl) ?_
         simp only [Act.put, Xa, Xz, Xs]
         refine wl_nil ?_
         exact we_meet ⟨(i + 1), s18, _, _, _, _, _, _, _, _, _, _, _, _, _, _, _, _, _, _, _, _, _, _, _, _, _, _⟩ (by (try dsimp only); exact ⟨⟨by omega, has_cast (congrArg (flat ub) (flp_yes h17)) hs18⟩, by omega⟩) rfl (List.Sublist.cons_cons _ (List.Sublist.append_left (List.Sublist.refl _) _))
      ·
       skip
       have p10 : (((8 * ((img (G.map dat) H).length)) - 16 : Nat) : Int) < x := of_decide_eq_true h10
       refine wc_true rfl ?_
       refine wc_seq ?_
       refine wc_region ?_
       refine wl_val (.bool true) rfl (fun _ => rfl) ?_
       simp only [Act.put, Xa, Xz, Xs]
       refine wl_nil ?_
       refine we_then ?_
       refine wc_ret ?_
       refine we_then_ret ?_
       refine we_ret1 (.bool true) rfl rfl rfl (fun w1 hE => ?_)
       exact ⟨rfl, hE.below⟩
     ·
      skip
      have p9 : x < 0 := of_decide_eq_true h9
      refine wl_skip rfl ?_
      simp only [Act.put, Xa, Xz, Xs]
      refine wl_skip rfl ?_
      simp only [Act.put, Xa, Xz, Xs]
      refine wl_skip rfl ?_
      simp only [Act.put, Xa, Xz, Xs]
      refine wl_skip rfl ?_
      simp only [Act.put, Xa, Xz, Xs]
      refine wl_skip rfl ?_
      simp only [Act.put, Xa, Xz, Xs]
      refine wl_skip rfl ?_
      simp only [Act.put, Xa, Xz, Xs]
      refine wl_val (.bool true) rfl (fun _ => rfl) ?_
      simp only [Act.put, Xa, Xz, Xs]
      refine wl_nil ?_
      refine we_then ?_
      refine wc_true rfl ?_
      refine wc_seq ?_
      refine wc_region ?_
      refine wl_val (.bool true) rfl (fun _ => rfl) ?_
      simp only [Act.put, Xa, Xz, Xs]
      refine wl_nil ?_
      refine we_then ?_
      refine wc_ret ?_
      refine we_then_ret ?_
      refine we_ret1 (.bool true) rfl rfl rfl (fun w1 hE => ?_)
      exact ⟨rfl, hE.below⟩
    ·
     skip
     have p8 : (((img (G.map dat) H).length : Nat) : Int) < 32 := of_decide_eq_true h8
     refine wl_skip rfl ?_
     simp only [Act.put, Xa, Xz, Xs]
     refine wl_skip rfl ?_
     simp only [Act.put, Xa, Xz, Xs]
     refine wl_val (.bool true) rfl (fun _ => rfl) ?_
     simp only [Act.put, Xa, Xz, Xs]
     refine wl_val (.bool true) rfl (fun _ => rfl) ?_
     simp only [Act.put, Xa, Xz, Xs]
     refine wl_skip rfl ?_
     simp only [Act.put, Xa, Xz, Xs]
     refine wl_skip rfl ?_
     simp only [Act.put, Xa, Xz, Xs]
     refine wl_skip rfl ?_
     simp only [Act.put, Xa, Xz, Xs]
     refine wl_skip rfl ?_
     simp only [Act.put, Xa, Xz, Xs]
     refine wl_skip rfl ?_
     simp only [Act.put, Xa, Xz, Xs]
     refine wl_skip rfl ?_
     simp only [Act.put, Xa, Xz, Xs]
     refine wl_val (.bool true) rfl (fun _ => rfl) ?_
     simp only [Act.put, Xa, Xz, Xs]
     refine wl_nil ?_
     refine we_then ?_
     refine wc_true rfl ?_
     refine wc_seq ?_
     refine wc_region ?_
     refine wl_val (.bool true) rfl (fun _ => rfl) ?_
     simp only [Act.put, Xa, Xz, Xs]
     refine wl_nil ?_
     refine we_then ?_
     refine wc_ret ?_
     refine we_then_ret ?_
     refine we_ret1 (.bool true) rfl rfl rfl (fun w1 hE => ?_)
     exact ⟨rfl, hE.below⟩
  ·
   skip
   have p3 : T = (0#16) := by simpa using h3
   refine wc_true rfl ?_
   refine wc_seq ?_
   refine wc_region ?_
   refine wl_val (.bool true) rfl (fun _ => rfl) ?_
   simp only [Act.put, Xa, Xz, Xs]
   refine wl_nil ?_
   refine we_then ?_
   refine wc_ret ?_
   refine we_then_ret ?_
   refine we_ret1 (.bool true) rfl rfl rfl (fun w1 hE => ?_)
   exact ⟨rfl, hE.below⟩
 ·
  skip
  refine wl_skip rfl ?_
  simp only [Act.put, Xa, Xz, Xs]
  refine wl_skip rfl ?_
  simp only [Act.put, Xa, Xz, Xs]
  refine wl_val (.bool true) rfl (fun _ => rfl) ?_
  simp only [Act.put, Xa, Xz, Xs]
  refine wl_nil ?_
  refine we_then ?_
  refine wc_true rfl ?_
  refine wc_seq ?_
  refine wc_region ?_
  refine wl_val (.bool true) rfl (fun _ => rfl) ?_
  simp only [Act.put, Xa, Xz, Xs]
  refine wl_nil ?_
  refine we_then ?_
  refine wc_ret ?_
  refine we_then_ret ?_
  refine we_ret1 (.bool true) rfl rfl rfl (fun w1 hE => ?_)
  exact ⟨rfl, hE.below⟩
theorem imageTurned_walk (G : List Sg) (H : List Gp) (p q : Option Addr) (c d : Nat) (x : Int) (wx : (Lit.int .i64 x).wf = true) (y : Int) (wy : (Lit.int .u16 y).wf = true) (w : World) (hS : Reads w p (flat sg G)) (hG : OkS w G) (hH : Reads w q (flat gp H)) (hn : G.length ≤ 140737488355328) (hm : H.length ≤ 140737488355328) (hcc : G.length ≤ c) (hcd : H.length ≤ d) :
  Calls Try.prog 5 #[.agg #[.slice p G.length c, .slice q H.length d], .int .i64 x, .int .u16 y] w fun e w' => e = .returned (.bool true) ∧ Below w.heap.size w w' := by
 have f := u16_of_wf wy
 obtain ⟨T, rfl⟩ : ∃ T : BitVec 16, y = (T.toNat : Int) := ⟨BitVec.ofNat 16 y.toNat, by rw [BitVec.toNat_ofNat]; omega⟩
 exact imageTurned_core G H p q c d x wx T w hS hG hH hn hm hcc hcd
end Go.Proofs.Ytggannjlaehihaa.Walks
