/-
  The laws of layer 11: their helper, and their example. No condition.
-/
import Derived.Test.YtdkahonmblnlgaaTra
import Derived.Test.YtdkahonmblnlgaaTkrefs
import Derived.Test.YtdkahonmblnlgaaTkref
import Derived.Test.YtdkahonmblnlgaaSh
namespace Go.Proofs.Ytdkahonmblnlgaa.Tlw
open Go.ChangeShapes Go.WideShapes Go.ChangeAt Go.RowKit
open Arr Steady Sx Sw Sl Sb Sc Si Sj Sk Sh Vs Gr Tk Tkh Tkl Tkref Tkrefs
set_option linter.unusedVariables false
set_option linter.unusedSimpArgs false
set_option maxRecDepth 100000

/-- What the helper hands back: a track that says the same, in rows of its own. -/
structure Cp where
  K : List Sg
  p : Option Addr
  c : Nat
  q : Option Addr
  d : Nat
  N : List Rw
structure CpOk (G : List Sg) (H : List Gp) (z : Cp) : Prop where
  same : Same G z.K
  segs : Held z.N z.p (flat sg z.K)
  grps : Held z.N z.q (flat gp H)
  ok : ∀ w0 W, OkS w0 G → Env w0 W z.N → OkS W z.K
theorem refs_open (G : List Sg) (H : List Gp) (p q : Option Addr) (c d : Nat) (w : World) (hS : Reads w p (flat sg G)) (hG : OkS w G) (hH : Reads w q (flat gp H)) (hg : greatB G H = false) :
    Calls Try.prog 12 #[.agg #[.slice p G.length c, .slice q H.length d]] w fun e w' => ∃ z : Cp, CpOk G H z ∧ e = .returned (.agg #[.slice z.p z.K.length z.c, .slice z.q H.length z.d]) ∧ Env w w' z.N := by
  refine (refs_any G H p q c d w hS hG hH (great_few hg).1 (great_few hg).2).mono ?_
  rintro e w' ⟨K, s, v, M, h1, h2, h3, h4, rfl, h6⟩
  refine ⟨⟨K, s.ptr, s.cap, v.ptr, v.cap, s.rows 62 ++ (v.rows 63 ++ M)⟩, ⟨same_copy h1 h4, (held_own h2).mono (List.sublist_append_left _ _), (held_own h3).mono ((List.sublist_append_left _ _).trans (List.sublist_append_right _ _)), fun w0 W hO hE => ?_⟩, by rw [h1], h6⟩
  exact oks_copy hO h1 h4 (hE.sub ((List.sublist_append_right _ _).trans (List.sublist_append_right _ _)))
theorem check_take (G : List Sg) (H : List Gp) (p q : Option Addr) (c d k : Nat) (w : World) (hk : k ≤ H.length) (hS : Reads w p (flat sg G)) (hG : OkS w G) (hH : Reads w q (flat gp H)) (hn : G.length ≤ 140737488355328) (hm : H.length ≤ 140737488355328) :
    Calls Try.prog 10 #[.agg #[.slice p G.length c, .slice q k d]] w fun e w' => e = .returned (.tuple #[.int .i64 (((chk G (H.take k)).1 : Nat) : Int), .int .i64 (((chk G (H.take k)).2 : Nat) : Int)]) ∧ Below w.heap.size w w' := by
  have h := Tra.check_any G (H.take k) p q c d w hS hG (reads_take k hH) hn (by rw [List.length_take]; omega)
  rwa [show (H.take k).length = k by rw [List.length_take]; omega] at h
def exG (a : Option Addr) : List Sg := [⟨9, a, [(0, 0)], 1, none, [], 0⟩]
def exH : List Gp := [⟨3, 0, 0, 0, 0⟩, ⟨9, 0, 0, 0, 0⟩]
theorem may_ex (a : Option Addr) : TrackMay (exG a) exH := by
  refine ⟨⟨by simp [exG], by simp [exG], by simp [exH]⟩, fun j hj => ?_, fun j hj => ?_⟩
  · obtain rfl : j = 0 := by simp [exG] at hj; omega
    refine ⟨by simp [exG], by simp [exG], ⟨by simp [exG], by simp [exG], by simp [exG], fun i hi => ?_⟩, by simp [exG], fun i hi => by simp [exG] at hi, fun h => by simp [exG] at h⟩
    obtain rfl : i = 0 := by simp [exG] at hi; omega
    exact ⟨by simp [exG], by simp [exG], by simp [exG], fun h => by omega⟩
  · rcases (show j = 0 ∨ j = 1 by simp [exH] at hj; omega) with rfl | rfl <;> constructor <;> simp [exG, exH, lastId]
theorem oks_ex {W : World} {a : Option Addr} (h : Reads W a [.int .i64 0, .int .i64 0]) : OkS W (exG a) := by
  intro s hs
  obtain rfl : s = ⟨9, a, [(0, 0)], 1, none, [], 0⟩ := by simpa [exG] using hs
  exact ⟨h, reads_nil _ _, by simp, by simp⟩
theorem check_ex (p q a : Option Addr) (c d : Nat) (w : World) (hS : Reads w p [.int .i64 9, .slice a 1 1, .slice none 0 0]) (hP : Reads w a [.int .i64 0, .int .i64 0]) (hH : Reads w q [.int .i64 3, .int .i64 0, .int .i64 0, .int .i64 0, .int .i64 0, .int .i64 9, .int .i64 0, .int .i64 0, .int .i64 0, .int .i64 0]) :
    Calls Try.prog 10 #[.agg #[.slice p 1 c, .slice q 2 d]] w fun e w' => e = .returned (.tuple #[.int .i64 0, .int .i64 0]) ∧ Below w.heap.size w w' := by
  have h := Tra.check_any (exG a) exH p q c d w hS (oks_ex hP) hH (by simp [exG]) (by simp [exH])
  rw [chk_may (may_ex a)] at h
  exact h
theorem find_ex (p q a : Option Addr) (c d : Nat) (w : World) (hS : Reads w p [.int .i64 9, .slice a 1 1, .slice none 0 0]) (hP : Reads w a [.int .i64 0, .int .i64 0]) (hH : Reads w q [.int .i64 3, .int .i64 0, .int .i64 0, .int .i64 0, .int .i64 0, .int .i64 9, .int .i64 0, .int .i64 0, .int .i64 0, .int .i64 0]) :
    Calls Try.prog 13 #[.agg #[.slice p 1 c, .slice q 2 d], .int .i64 7] w fun e w' => e = .returned (.tuple #[.int .i64 1, .bool false]) ∧ Below w.heap.size w w' :=
  Tra.find_any (exG a) exH p q c d 7 w hS (oks_ex hP) hH (may_ex a)
set_option maxHeartbeats 2000000 in
theorem anchor_any  (w : World) :
    Calls Try.prog 8 #[] w fun e w' => e = .returned (.bool true) ∧ Below w.heap.size w w' := by
  refine calls_sx Try.func8 rfl ?_
  simp only [Try.ntmps8, List.size_toArray, List.length_nil, Nat.reduceSub, Array.replicate_succ, Array.replicate_zero, List.push_toArray, List.append_toArray, List.nil_append, List.cons_append]
  refine wc_seq ?_
  refine wc_region ?_
  refine wl_val (.bool false) rfl (fun _ => rfl) ?_
  simp only [Act.put, List.setIfInBounds_toArray, List.set_cons_zero]
  refine wl_nil ?_
  refine we_then ?_
  refine wc_seq ?_
  refine wc_region ?_
  refine wl_val (.agg #[.int .i64 0, .int .i64 0]) rfl (fun _ => by go_simp) ?_
  simp only [Act.put, List.setIfInBounds_toArray, List.set_cons_zero, List.set_cons_succ]
  refine wl_lit (e := 52) #[.int .i64 0, .int .i64 0] 1 rfl (fun _ => by go_simp) ?_
  intro g1
  simp only [Act.put, List.setIfInBounds_toArray, List.set_cons_zero, List.set_cons_succ]
  refine wl_val (.agg #[.int .i64 9, .slice (some ⟨g1, 0, none⟩) 1 1, .slice none 0 0]) rfl (fun _ => by go_simp) ?_
  simp only [Act.put, List.setIfInBounds_toArray, List.set_cons_zero, List.set_cons_succ]
  refine wl_lit (e := 56) #[.int .i64 9, .slice (some ⟨g1, 0, none⟩) 1 1, .slice none 0 0] 1 rfl (fun _ => by go_simp) ?_
  intro g2
  simp only [Act.put, List.setIfInBounds_toArray, List.set_cons_zero, List.set_cons_succ]
  refine wl_val (.agg #[.int .i64 3, .int .i64 0, .int .i64 0, .int .i64 0, .int .i64 0]) rfl (fun _ => by go_simp) ?_
  simp only [Act.put, List.setIfInBounds_toArray, List.set_cons_zero, List.set_cons_succ]
  refine wl_val (.agg #[.int .i64 9, .int .i64 0, .int .i64 0, .int .i64 0, .int .i64 0]) rfl (fun _ => by go_simp) ?_
  simp only [Act.put, List.setIfInBounds_toArray, List.set_cons_zero, List.set_cons_succ]
  refine wl_lit (e := 41) #[.int .i64 3, .int .i64 0, .int .i64 0, .int .i64 0, .int .i64 0, .int .i64 9, .int .i64 0, .int .i64 0, .int .i64 0, .int .i64 0] 2 rfl (fun _ => by go_simp) ?_
  intro g3
  simp only [Act.put, List.setIfInBounds_toArray, List.set_cons_zero, List.set_cons_succ]
  refine wl_val (.agg #[.slice (some ⟨g2, 0, none⟩) 1 1, .slice (some ⟨g3, 0, none⟩) 2 2]) rfl (fun _ => by go_simp) ?_
  simp only [Act.put, List.setIfInBounds_toArray, List.set_cons_zero, List.set_cons_succ]
  refine wl_new 25 (#[.slice none 0 0, .slice none 0 0]) rfl (fun _ => by go_simp) ?_
  intro g4
  simp only [Act.put, List.setIfInBounds_toArray, List.set_cons_zero, List.set_cons_succ]
  refine wl_store 0 25 (.tmp 1) (.tmp 13) (#[.slice (some ⟨g2, 0, none⟩) 1 1, .slice (some ⟨g3, 0, none⟩) 2 2]) rfl rfl rfl rfl rfl (by kernel_rfl) rfl (by simp [Value.oneCell']) ?_
  simp only [Act.put, List.set_cons_zero]
  refine wl_nil ?_
  refine we_then ?_
  refine wc_seq ?_
  refine wc_region ?_
  refine wl_load 25 (.tmp 1) (own_row 0 rfl) rfl rfl rfl Try.underlying25 rfl (by kernel_rfl) ?_
  simp only [Act.put, List.setIfInBounds_toArray, List.set_cons_zero, List.set_cons_succ]
  refine wl_call_at 10 #[.agg #[.slice (some ⟨g2, 0, none⟩) 1 1, .slice (some ⟨g3, 0, none⟩) 2 2]] (.tuple #[.int .i64 0, .int .i64 0]) rfl (fun _ => by go_simp) (fun W hE => check_ex _ _ _ _ _ W ((sl_row 2 rfl) W hE) ((sl_row 3 rfl) W hE) ((sl_row 1 rfl) W hE)) ?_
  simp only [Act.put, List.setIfInBounds_toArray, List.set_cons_zero, List.set_cons_succ]
  refine wl_val (.tuple #[.int .i64 0, .int .i64 0]) rfl (fun _ => rfl) ?_
  simp only [Act.put, List.setIfInBounds_toArray, List.set_cons_zero, List.set_cons_succ]
  refine wl_val (.int .i64 0) rfl (fun _ => by go_simp) ?_
  simp only [Act.put, List.setIfInBounds_toArray, List.set_cons_zero, List.set_cons_succ]
  refine wl_val (.int .i64 0) rfl (fun _ => by go_simp) ?_
  simp only [Act.put, List.setIfInBounds_toArray, List.set_cons_zero, List.set_cons_succ]
  refine wl_val (.int .i64 0) rfl (fun _ => rfl) ?_
  simp only [Act.put, List.setIfInBounds_toArray, List.set_cons_zero, List.set_cons_succ]
  refine wl_val (.int .i64 0) rfl (fun _ => rfl) ?_
  simp only [Act.put, List.setIfInBounds_toArray, List.set_cons_zero, List.set_cons_succ]
  refine wl_nil ?_
  refine we_then ?_
  refine wc_seq ?_
  refine wc_region ?_
  refine wl_load 25 (.tmp 1) (own_row 0 rfl) rfl rfl rfl Try.underlying25 rfl (by kernel_rfl) ?_
  simp only [Act.put, List.setIfInBounds_toArray, List.set_cons_zero, List.set_cons_succ]
  refine wl_call_at 13 #[.agg #[.slice (some ⟨g2, 0, none⟩) 1 1, .slice (some ⟨g3, 0, none⟩) 2 2], .int .i64 7] (.tuple #[.int .i64 1, .bool false]) rfl (fun _ => by go_simp) (fun W hE => find_ex _ _ _ _ _ W ((sl_row 2 rfl) W hE) ((sl_row 3 rfl) W hE) ((sl_row 1 rfl) W hE)) ?_
  simp only [Act.put, List.setIfInBounds_toArray, List.set_cons_zero, List.set_cons_succ]
  refine wl_val (.tuple #[.int .i64 1, .bool false]) rfl (fun _ => rfl) ?_
  simp only [Act.put, List.setIfInBounds_toArray, List.set_cons_zero, List.set_cons_succ]
  refine wl_val (.int .i64 1) rfl (fun _ => by go_simp) ?_
  simp only [Act.put, List.setIfInBounds_toArray, List.set_cons_zero, List.set_cons_succ]
  refine wl_val (.bool false) rfl (fun _ => by go_simp) ?_
  simp only [Act.put, List.setIfInBounds_toArray, List.set_cons_zero, List.set_cons_succ]
  refine wl_val (.int .i64 1) rfl (fun _ => rfl) ?_
  simp only [Act.put, List.setIfInBounds_toArray, List.set_cons_zero, List.set_cons_succ]
  refine wl_val (.bool false) rfl (fun _ => rfl) ?_
  simp only [Act.put, List.setIfInBounds_toArray, List.set_cons_zero, List.set_cons_succ]
  refine wl_nil ?_
  refine we_then ?_
  refine wc_seq ?_
  refine wc_region ?_
  refine wl_val (.int .i64 0) rfl (fun _ => rfl) ?_
  simp only [Act.put, List.setIfInBounds_toArray, List.set_cons_zero, List.set_cons_succ]
  refine wl_val (.bool true) rfl (fun w => run_cmp rfl rfl rfl Try.underlying28 rfl w) ?_
  simp only [Act.put, List.setIfInBounds_toArray, List.set_cons_zero, List.set_cons_succ]
  refine wl_val (.bool true) rfl (fun _ => rfl) ?_
  simp only [Act.put, List.setIfInBounds_toArray, List.set_cons_zero, List.set_cons_succ]
  refine wl_val (.int .i64 0) rfl (fun _ => rfl) ?_
  simp only [Act.put, List.setIfInBounds_toArray, List.set_cons_zero, List.set_cons_succ]
  refine wl_val (.bool true) rfl (fun w => run_cmp rfl rfl rfl Try.underlying3 rfl w) ?_
  simp only [Act.put, List.setIfInBounds_toArray, List.set_cons_zero, List.set_cons_succ]
  refine wl_val (.bool true) rfl (fun _ => rfl) ?_
  simp only [Act.put, List.setIfInBounds_toArray, List.set_cons_zero, List.set_cons_succ]
  refine wl_val (.bool true) rfl (fun _ => rfl) ?_
  simp only [Act.put, List.setIfInBounds_toArray, List.set_cons_zero, List.set_cons_succ]
  refine wl_val (.int .i64 1) rfl (fun _ => rfl) ?_
  simp only [Act.put, List.setIfInBounds_toArray, List.set_cons_zero, List.set_cons_succ]
  refine wl_val (.bool true) rfl (fun w => run_cmp rfl rfl rfl Try.underlying3 rfl w) ?_
  simp only [Act.put, List.setIfInBounds_toArray, List.set_cons_zero, List.set_cons_succ]
  refine wl_val (.bool true) rfl (fun _ => rfl) ?_
  simp only [Act.put, List.setIfInBounds_toArray, List.set_cons_zero, List.set_cons_succ]
  refine wl_val (.bool true) rfl (fun _ => rfl) ?_
  simp only [Act.put, List.setIfInBounds_toArray, List.set_cons_zero, List.set_cons_succ]
  refine wl_val (.bool false) rfl (fun _ => rfl) ?_
  simp only [Act.put, List.setIfInBounds_toArray, List.set_cons_zero, List.set_cons_succ]
  refine wl_val (.bool true) rfl (fun _ => by go_simp) ?_
  simp only [Act.put, List.setIfInBounds_toArray, List.set_cons_zero, List.set_cons_succ]
  refine wl_val (.bool true) rfl (fun _ => rfl) ?_
  simp only [Act.put, List.setIfInBounds_toArray, List.set_cons_zero, List.set_cons_succ]
  refine wl_val (.bool true) rfl (fun _ => rfl) ?_
  simp only [Act.put, List.setIfInBounds_toArray, List.set_cons_zero]
  refine wl_nil ?_
  refine we_then ?_
  refine wc_ret ?_
  refine we_ret1 (.bool true) rfl rfl rfl (fun w1 hE => ?_)
  exact ⟨rfl, hE.below⟩
end Go.Proofs.Ytdkahonmblnlgaa.Tlw
