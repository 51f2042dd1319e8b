/-
  The laws of layer 12: their helpers as calls want them, and their example. No condition.
-/
import Derived.Test.YtggannjlaehihaaIma
import Derived.Test.YtggannjlaehihaaImc
import Derived.Test.YtggannjlaehihaaShh
import Derived.Test.YtggannjlaehihaaTkrefs12
import Derived.Test.YtggannjlaehihaaTkref
namespace Go.Proofs.Ytggannjlaehihaa.Imlw
open Go.ChangeShapes Go.WideShapes Go.ChangeAt Go.RowKit
open Arr Steady Sx Sw Sl Sb Sc Si Sj Sk Sh Shh Cr Fr Vs Gr Tk Tkh Tkl Img Imp Imo Imref Imrefo Imput Imb Imsame Imc Tkrefs12
set_option linter.unusedVariables false
set_option linter.unusedSimpArgs false
set_option maxRecDepth 100000

structure Cp where
  K : List Sg
  p : Option Addr
  c : Nat
  q : Option Addr
  d : Nat
  N : List Rw
structure CpOk (G : List Sg) (H : List Gp) (z : Cp) : Prop where
  same : z.K.map dat = G.map dat
  segs : Held z.N z.p (flat sg z.K)
  grps : Held z.N z.q (flat gp H)
  ok : ∀ w0 W, OkS w0 G → Env w0 W z.N → OkS W z.K
theorem CpOk.len {G : List Sg} {H : List Gp} {z : Cp} (h : CpOk G H z) : z.K.length = G.length := by simpa using congrArg List.length h.same
theorem refs_open (G : List Sg) (H : List Gp) (p q : Option Addr) (c d : Nat) (w : World) (hS : Reads w p (flat sg G)) (hG : OkS w G) (hH : Reads w q (flat gp H)) (hg : greatC G H = false) :
    Calls Try.prog 11 #[.agg #[.slice p G.length c, .slice q H.length d]] w fun e w' => ∃ z : Cp, CpOk G H z ∧ e = .returned (.agg #[.slice z.p z.K.length z.c, .slice z.q H.length z.d]) ∧ Env w w' z.N := by
  refine (Tkrefs12.refs_any G H p q c d w hS hG hH (greatC_few hg).1 (greatC_few hg).2).mono ?_
  rintro e w' ⟨K, s, v, M, h1, h2, h3, h4, rfl, h6⟩
  have hsame : K.map dat = G.map dat := by
    refine List.ext_getElem (by simpa using h1) (fun i a b => ?_)
    have ha : i < K.length := by simpa using a
    have hb : i < G.length := by simpa using b
    have k := h4 i hb
    rw [getElem!_pos G i hb, getElem!_pos K i ha] at k
    rw [List.getElem_map, List.getElem_map]
    unfold dat
    rw [k.len, k.P, k.X]
  refine ⟨⟨K, s.ptr, s.cap, v.ptr, v.cap, s.rows 66 ++ (v.rows 67 ++ M)⟩, ⟨hsame, (held_own h2).mono (List.sublist_append_left _ _), (held_own h3).mono ((List.sublist_append_left _ _).trans (List.sublist_append_right _ _)), fun w0 W hO hE => ?_⟩, by rw [h1], h6⟩
  exact oks_copy hO h1 h4 (hE.sub ((List.sublist_append_right _ _).trans (List.sublist_append_right _ _)))
/-- A packing of a track that may be. -/
theorem pack_yes (G : List Sg) (H : List Gp) (p q : Option Addr) (c d : Nat) (w : World) (hS : Reads w p (flat sg G)) (hG : OkS w G) (hH : Reads w q (flat gp H)) (hn : G.length ≤ 140737488355328) (hm : H.length ≤ 140737488355328) (h : (chk G H).1 = 0) :
    Calls Try.prog 9 #[.agg #[.slice p G.length c, .slice q H.length d]] w fun e w' => ∃ z : Bs, BsOk (img (G.map dat) H) z ∧ e = .returned (.tuple #[.slice z.p (img (G.map dat) H).length z.c, .int .i64 0]) ∧ Env w w' z.N := by
  have k := Ima.pack_any G H p q c d w hS hG hH hn hm
  rw [packL_yes h, packE_yes h] at k
  exact k
theorem pack_no (G : List Sg) (H : List Gp) (p q : Option Addr) (c d : Nat) (w : World) (hS : Reads w p (flat sg G)) (hG : OkS w G) (hH : Reads w q (flat gp H)) (hn : G.length ≤ 140737488355328) (hm : H.length ≤ 140737488355328) (h : ¬ (chk G H).1 = 0) :
    Calls Try.prog 9 #[.agg #[.slice p G.length c, .slice q H.length d]] w fun e w' => ∃ z : Bs, BsOk [] z ∧ e = .returned (.tuple #[.slice z.p 0 z.c, .int .i64 51]) ∧ Env w w' z.N := by
  have k := Ima.pack_any G H p q c d w hS hG hH hn hm
  rw [packL_no h, packE_no h] at k
  exact k
/-- An opening of a track's image. -/
theorem open_img (G : List Sg) (H : List Gp) (q : Option Addr) (c : Nat) (w : World) (hb : Reads w q (flat ub (img (G.map dat) H))) (hbc : (img (G.map dat) H).length ≤ c) (h : (chk G H).1 = 0) :
    Calls Try.prog 12 #[.slice q (img (G.map dat) H).length c] w fun e w' => ∃ z : Ov, OvOk (img (G.map dat) H) z ∧ e = .returned (.tuple #[.agg #[.slice z.p z.K.length z.c, .slice z.q z.H.length z.d], .int .i64 0]) ∧ Env w w' z.N := by
  have k := Ima.open_any (img (G.map dat) H) q c w hb (by have := img_few h; omega) hbc
  rw [opnE_img h] at k
  exact k
theorem open_yes (b : List UInt8) (q : Option Addr) (c : Nat) (w : World) (hb : Reads w q (flat ub b)) (hb6 : b.length ≤ 1000000) (hbc : b.length ≤ c) (h : opnE b = 0) :
    Calls Try.prog 12 #[.slice q b.length c] w fun e w' => ∃ z : Ov, OvOk b z ∧ e = .returned (.tuple #[.agg #[.slice z.p z.K.length z.c, .slice z.q z.H.length z.d], .int .i64 0]) ∧ Env w w' z.N := by
  have k := Ima.open_any b q c w hb hb6 hbc
  rw [h] at k
  exact k
theorem open_no (b : List UInt8) (q : Option Addr) (c : Nat) (w : World) (hb : Reads w q (flat ub b)) (hb6 : b.length ≤ 1000000) (hbc : b.length ≤ c) (h : ¬ opnE b = 0) :
    Calls Try.prog 12 #[.slice q b.length c] w fun e w' => ∃ z : Ov, OvOk b z ∧ e = .returned (.tuple #[.agg #[.slice z.p 0 z.c, .slice z.q 0 z.d], .int .i64 ((opnE b : Nat) : Int)]) ∧ Env w w' z.N := by
  refine (Ima.open_any b q c w hb hb6 hbc).mono ?_
  rintro e w' ⟨z, k, rfl, hE⟩
  obtain ⟨e1, e2⟩ := ov_no h k
  exact ⟨z, k, by rw [e1, e2]; rfl, hE⟩
theorem ropen_yes (b : List UInt8) (q : Option Addr) (c : Nat) (w : World) (hb : Reads w q (flat ub b)) (hb6 : b.length ≤ 1000000) (hbc : b.length ≤ c) (h : opnE b = 0) :
    Calls Try.prog 15 #[.slice q b.length c] w fun e w' => ∃ z : Ov, OvOk b z ∧ e = .returned (.tuple #[.agg #[.slice z.p z.K.length z.c, .slice z.q z.H.length z.d], .int .i64 0]) ∧ Env w w' z.N := by
  have k := Imrefo.open_any b q c w hb hb6 hbc
  rw [h] at k
  exact k
theorem ropen_no (b : List UInt8) (q : Option Addr) (c : Nat) (w : World) (hb : Reads w q (flat ub b)) (hb6 : b.length ≤ 1000000) (hbc : b.length ≤ c) (h : ¬ opnE b = 0) :
    Calls Try.prog 15 #[.slice q b.length c] w fun e w' => ∃ z : Ov, OvOk b z ∧ e = .returned (.tuple #[.agg #[.slice z.p 0 z.c, .slice z.q 0 z.d], .int .i64 ((opnE b : Nat) : Int)]) ∧ Env w w' z.N := by
  refine (Imrefo.open_any b q c w hb hb6 hbc).mono ?_
  rintro e w' ⟨z, k, rfl, hE⟩
  obtain ⟨e1, e2⟩ := ov_no h k
  exact ⟨z, k, by rw [e1, e2]; rfl, hE⟩
theorem rpack_open (G : List Sg) (H : List Gp) (p q : Option Addr) (c d : Nat) (w : World) (X : List UInt8) (hS : Reads w p (flat sg G)) (hG : OkS w G) (hH : Reads w q (flat gp H)) (h : (chk G H).1 = 0) (hX : img (G.map dat) H = X) :
    Calls Try.prog 13 #[.agg #[.slice p G.length c, .slice q H.length d]] w fun e w' => ∃ z : Bs, Held z.N z.p (flat ub X) ∧ e = .returned (.slice z.p X.length z.c) ∧ Env w w' z.N := by
  subst hX
  refine (Imput.pack_any G H p q c d w hS hG hH (may_of_chk h)).mono ?_
  rintro e w' ⟨o, h1, rfl, h3⟩
  exact ⟨⟨o.ptr, o.cap, o.rows 5⟩, held_own h1, rfl, h3⟩
def exG (a : Option Addr) : List Sg := [⟨1, a, [(0, 0)], 1, none, [], 0⟩]
def exB : List UInt8 := img [⟨1, [(0, 0)], []⟩] []
theorem may_ex (a : Option Addr) : TrackMay (exG a) [] := by
  refine ⟨⟨by simp [exG], by simp [exG], by simp⟩, fun j hj => ?_, fun j hj => by simp at hj⟩
  obtain rfl : j = 0 := by simp [exG] at hj; omega
  refine ⟨by simp [exG], by simp [exG], ⟨by simp [exG], by simp [exG], by simp [exG], fun i hi => ?_⟩, by simp [exG], fun i hi => by simp [exG] at hi, fun h => by simp [exG] at h⟩
  obtain rfl : i = 0 := by simp [exG] at hi; omega
  exact ⟨by simp [exG], by simp [exG], by simp [exG], fun h => by omega⟩
theorem chk_ex (a : Option Addr) : (chk (exG a) []).1 = 0 := by rw [chk_may (may_ex a)]
theorem len_ex : exB.length = 32 := by
  unfold exB
  rw [img_length]
  unfold rest
  simp [segL, pieceB, pb_len]
theorem oks_ex {W : World} {a : Option Addr} (h : Reads W a [.int .i64 0, .int .i64 0]) : OkS W (exG a) := by
  intro s hs
  obtain rfl : s = ⟨1, a, [(0, 0)], 1, none, [], 0⟩ := by simpa [exG] using hs
  exact ⟨h, reads_nil _ _, by simp, by simp⟩
theorem pack_ex (p a : Option Addr) (c : Nat) (w : World) (hS : Reads w p [.int .i64 1, .slice a 1 1, .slice none 0 0]) (hP : Reads w a [.int .i64 0, .int .i64 0]) :
    Calls Try.prog 9 #[.agg #[.slice p 1 c, .slice none 0 0]] w fun e w' => ∃ z : Bs, BsOk exB z ∧ e = .returned (.tuple #[.slice z.p 32 z.c, .int .i64 0]) ∧ Env w w' z.N := by
  have k := pack_yes (exG a) [] p none c 0 w hS (oks_ex hP) (reads_nil _ _) (by simp [exG]) (by simp) (chk_ex a)
  rw [show (img ((exG a).map dat) []).length = 32 from len_ex] at k
  exact k
theorem open_ex (q : Option Addr) (c : Nat) (w : World) (hb : Reads w q (flat ub exB)) (hc : exB.length ≤ c) :
    Calls Try.prog 12 #[.slice q 32 c] w fun e w' => ∃ z : Ov, OvOk exB z ∧ e = .returned (.tuple #[.agg #[.slice z.p z.K.length z.c, .slice z.q z.H.length z.d], .int .i64 0]) ∧ Env w w' z.N := by
  have k := open_img (exG none) [] q c w hb hc (chk_ex none)
  rw [show (img ((exG none).map dat) []).length = 32 from len_ex] at k
  exact k
theorem same_ex (p a p' q' : Option Addr) (c c' d' : Nat) (z : Ov) (w : World) (k : OvOk exB z) (hS : Reads w p [.int .i64 1, .slice a 1 1, .slice none 0 0]) (hP : Reads w a [.int .i64 0, .int .i64 0]) (kS : Reads w p' (flat sg z.K)) (hK : OkS w z.K) (kH : Reads w q' (flat gp z.H)) :
    Calls Try.prog 14 #[.agg #[.slice p 1 c, .slice none 0 0], .agg #[.slice p' z.K.length c', .slice q' z.H.length d']] w fun e w' => e = .returned (.bool true) ∧ Below w.heap.size w w' := by
  have x := same_any (exG a) z.K [] z.H p none p' q' c 0 c' d' w hS (oks_ex hP) (reads_nil _ _) kS hK kH (by simp [exG]) (by simp)
  obtain ⟨e1, e2⟩ := ov_img (G := exG a) (H := []) (chk_ex a) k
  rwa [same_yes e1 e2] at x
set_option maxHeartbeats 2000000 in
theorem anchor_any  (w : World) :
    Calls Try.prog 7 #[] w fun e w' => e = .returned (.bool true) ∧ Below w.heap.size w w' := by
  refine calls_sx Try.func7 rfl ?_
  simp only [Try.ntmps7, List.size_toArray, List.length_nil, Nat.reduceSub, Array.replicate_succ, Array.replicate_zero, List.push_toArray, List.append_toArray, List.nil_append, List.cons_append]
  refine wc_seq ?_
  refine wc_region ?_
  refine wl_val (.bool false) rfl (fun _ => rfl) ?_
  simp only [Act.put, Xa, Xz]
  refine wl_nil ?_
  refine we_then ?_
  refine wc_seq ?_
  refine wc_region ?_
  refine wl_val (.agg #[.int .i64 0, .int .i64 0]) rfl (fun _ => by go_simp) ?_
  simp only [Act.put, Xa, Xz, Xs]
  refine wl_lit (e := 50) #[.int .i64 0, .int .i64 0] 1 rfl (fun _ => by go_simp) ?_
  intro g1
  simp only [Act.put, Xa, Xz, Xs]
  refine wl_val (.agg #[.int .i64 1, .slice (some ⟨g1, 0, none⟩) 1 1, .slice none 0 0]) rfl (fun _ => by go_simp) ?_
  simp only [Act.put, Xa, Xz, Xs]
  refine wl_lit (e := 54) #[.int .i64 1, .slice (some ⟨g1, 0, none⟩) 1 1, .slice none 0 0] 1 rfl (fun _ => by go_simp) ?_
  intro g2
  simp only [Act.put, Xa, Xz, Xs]
  refine wl_val (.agg #[.slice (some ⟨g2, 0, none⟩) 1 1, .slice none 0 0]) rfl (fun _ => by go_simp) ?_
  simp only [Act.put, Xa, Xz, Xs]
  refine wl_new 25 (#[.slice none 0 0, .slice none 0 0]) rfl (fun _ => by go_simp) ?_
  intro g3
  simp only [Act.put, Xa, Xz, Xs]
  refine wl_store 0 25 (.tmp 1) (.tmp 10) (#[.slice (some ⟨g2, 0, none⟩) 1 1, .slice none 0 0]) rfl rfl rfl rfl rfl (by kernel_rfl) rfl (by simp [Value.oneCell']) ?_
  simp only [Act.put, List.set_cons_zero]
  refine wl_nil ?_
  refine we_then ?_
  refine wc_seq ?_
  refine wc_region ?_
  refine wl_load 25 (.tmp 1) (own_row 0 rfl) rfl rfl rfl Try.underlying25 rfl (by kernel_rfl) ?_
  simp only [Act.put, Xa, Xz, Xs]
  refine wl_call_open (ι := Bs) (fun zz => match zz with | zk4 => ⟨g3, #[.slice (some ⟨g2, 0, none⟩) 1 1, .slice none 0 0], 25⟩ :: ⟨g2, #[.int .i64 1, .slice (some ⟨g1, 0, none⟩) 1 1, .slice none 0 0], 54⟩ :: ⟨g1, #[.int .i64 0, .int .i64 0], 50⟩ :: zk4.N) 9 #[.agg #[.slice (some ⟨g2, 0, none⟩) 1 1, .slice none 0 0]] (fun zz => match zz with | zk4 => .tuple #[.slice zk4.p 32 zk4.c, .int .i64 0]) (fun zz => match zz with | zk4 => zk4.N) (fun zz => match zz with | zk4 => BsOk exB zk4) (by rintro zk4; simp) rfl (fun _ => by go_simp) (fun W hE => pack_ex _ _ _ W ((sl_row 1 rfl) W hE) ((sl_row 2 rfl) W hE)) ?_
  rintro zk4 k4
  (try dsimp only)
  simp only [Act.put, Xa, Xz, Xs]
  refine wl_val (.tuple #[.slice zk4.p 32 zk4.c, .int .i64 0]) rfl (fun _ => rfl) ?_
  simp only [Act.put, Xa, Xz, Xs]
  refine wl_val (.slice zk4.p 32 zk4.c) rfl (fun _ => by go_simp) ?_
  simp only [Act.put, Xa, Xz, Xs]
  refine wl_val (.int .i64 0) rfl (fun _ => by go_simp) ?_
  simp only [Act.put, Xa, Xz, Xs]
  refine wl_val (.slice zk4.p 32 zk4.c) rfl (fun _ => rfl) ?_
  simp only [Act.put, Xa, Xz, Xs]
  refine wl_val (.int .i64 0) rfl (fun _ => rfl) ?_
  simp only [Act.put, Xa, Xz, Xs]
  refine wl_nil ?_
  refine we_then ?_
  refine wc_seq ?_
  refine wc_region ?_
  refine wl_val (.slice zk4.p 32 zk4.c) rfl (fun _ => rfl) ?_
  simp only [Act.put, Xa, Xz, Xs]
  refine wl_call_open (ι := Ov) (fun zz => match zz with | zk5 => ⟨g3, #[.slice (some ⟨g2, 0, none⟩) 1 1, .slice none 0 0], 25⟩ :: ⟨g2, #[.int .i64 1, .slice (some ⟨g1, 0, none⟩) 1 1, .slice none 0 0], 54⟩ :: ⟨g1, #[.int .i64 0, .int .i64 0], 50⟩ :: (zk4.N ++ zk5.N)) 12 #[.slice zk4.p 32 zk4.c] (fun zz => match zz with | zk5 => .tuple #[.agg #[.slice zk5.p zk5.K.length zk5.c, .slice zk5.q zk5.H.length zk5.d], .int .i64 0]) (fun zz => match zz with | zk5 => zk5.N) (fun zz => match zz with | zk5 => OvOk exB zk5) (by rintro zk5; simp) rfl (fun _ => by go_simp) (fun W hE => open_ex _ _ W ((sl_held k4.held (List.Sublist.cons _ (List.Sublist.cons _ (List.Sublist.cons _ (List.Sublist.refl _))))) W hE) k4.cap) ?_
  rintro zk5 k5
  (try dsimp only)
  simp only [Act.put, Xa, Xz, Xs]
  refine wl_val (.tuple #[.agg #[.slice zk5.p zk5.K.length zk5.c, .slice zk5.q zk5.H.length zk5.d], .int .i64 0]) rfl (fun _ => rfl) ?_
  simp only [Act.put, Xa, Xz, Xs]
  refine wl_val (.agg #[.slice zk5.p zk5.K.length zk5.c, .slice zk5.q zk5.H.length zk5.d]) rfl (fun _ => by go_simp) ?_
  simp only [Act.put, Xa, Xz, Xs]
  refine wl_val (.int .i64 0) rfl (fun _ => by go_simp) ?_
  simp only [Act.put, Xa, Xz, Xs]
  refine wl_new 25 (#[.slice none 0 0, .slice none 0 0]) rfl (fun _ => by go_simp) ?_
  intro g6
  simp only [Act.put, Xa, Xz, Xs]
  refine wl_store 0 25 (.tmp 4) (.tmp 19) (#[.slice zk5.p zk5.K.length zk5.c, .slice zk5.q zk5.H.length zk5.d]) rfl rfl rfl rfl rfl (by kernel_rfl) rfl (by simp [Value.oneCell']) ?_
  simp only [Act.put, List.set_cons_zero]
  refine wl_val (.int .i64 0) rfl (fun _ => rfl) ?_
  simp only [Act.put, Xa, Xz, Xs]
  refine wl_nil ?_
  refine we_then ?_
  refine wc_seq ?_
  refine wc_region ?_
  refine wl_val (.int .i64 0) rfl (fun _ => rfl) ?_
  simp only [Act.put, Xa, Xz, Xs]
  refine wl_val (.bool true) rfl (fun w => run_cmp rfl rfl rfl Try.underlying29 rfl w) ?_
  simp only [Act.put, Xa, Xz, Xs]
  refine wl_val (.bool true) rfl (fun _ => rfl) ?_
  simp only [Act.put, Xa, Xz, Xs]
  refine wl_val (.int .i64 0) rfl (fun _ => rfl) ?_
  simp only [Act.put, Xa, Xz, Xs]
  refine wl_val (.bool true) rfl (fun w => run_cmp rfl rfl rfl Try.underlying29 rfl w) ?_
  simp only [Act.put, Xa, Xz, Xs]
  refine wl_val (.bool true) rfl (fun _ => rfl) ?_
  simp only [Act.put, Xa, Xz, Xs]
  refine wl_val (.bool true) rfl (fun _ => rfl) ?_
  simp only [Act.put, Xa, Xz, Xs]
  refine wl_val (.slice zk4.p 32 zk4.c) rfl (fun _ => rfl) ?_
  simp only [Act.put, Xa, Xz, Xs]
  refine wl_val (.int .i64 32) rfl (fun w => er_len rfl rfl Try.underlying28 w) ?_
  simp only [Act.put, Xa, Xz, Xs]
  refine wl_val (.bool true) rfl (fun w => run_cmp rfl rfl rfl Try.underlying3 rfl w) ?_
  simp only [Act.put, Xa, Xz, Xs]
  refine wl_val (.bool true) rfl (fun _ => rfl) ?_
  simp only [Act.put, Xa, Xz, Xs]
  refine wl_val (.bool true) rfl (fun _ => rfl) ?_
  simp only [Act.put, Xa, Xz, Xs]
  refine wl_load 25 (.tmp 1) (own_row 1 rfl) rfl rfl rfl Try.underlying25 rfl (by kernel_rfl) ?_
  simp only [Act.put, Xa, Xz, Xs]
  refine wl_load 25 (.tmp 4) (own_row 0 rfl) rfl rfl rfl Try.underlying25 rfl (by kernel_rfl) ?_
  simp only [Act.put, Xa, Xz, Xs]
  refine wl_call_at 14 #[.agg #[.slice (some ⟨g2, 0, none⟩) 1 1, .slice none 0 0], .agg #[.slice zk5.p zk5.K.length zk5.c, .slice zk5.q zk5.H.length zk5.d]] (.bool true) rfl (fun _ => by go_simp) (fun W hE => same_ex _ _ _ _ _ _ _ zk5 W k5 ((sl_row 2 rfl) W hE) ((sl_row 3 rfl) W hE) ((sl_held k5.segs (List.Sublist.cons _ (List.Sublist.cons _ (List.Sublist.cons _ (List.Sublist.cons _ (List.sublist_append_of_sublist_right (List.Sublist.refl _))))))) W hE) (heldS_ok k5.ok (hE.sub (List.Sublist.cons _ (List.Sublist.cons _ (List.Sublist.cons _ (List.Sublist.cons _ (List.sublist_append_of_sublist_right (List.Sublist.refl _)))))))) ((sl_held k5.grps (List.Sublist.cons _ (List.Sublist.cons _ (List.Sublist.cons _ (List.Sublist.cons _ (List.sublist_append_of_sublist_right (List.Sublist.refl _))))))) W hE)) ?_
  simp only [Act.put, Xa, Xz, Xs]
  refine wl_val (.bool true) rfl (fun _ => rfl) ?_
  simp only [Act.put, Xa, Xz, Xs]
  refine wl_val (.bool true) rfl (fun _ => rfl) ?_
  simp only [Act.put, Xa, Xz]
  refine wl_nil ?_
  refine we_then ?_
  refine wc_ret ?_
  refine we_ret1 (.bool true) rfl rfl rfl (fun w1 hE => ?_)
  exact ⟨rfl, hE.below⟩
end Go.Proofs.Ytggannjlaehihaa.Imlw
