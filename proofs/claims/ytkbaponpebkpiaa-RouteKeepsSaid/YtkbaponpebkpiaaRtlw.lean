/-
  The laws of layer 14: their example. No condition.
-/
import Derived.Test.YtkbaponpebkpiaaRtlc
namespace Go.Proofs.Ytkbaponpebkpiaa.Rtlw
open Go.ChangeShapes Go.WideShapes Go.ChangeAt Go.RowKit
open Arr Steady Sx Sw Sl Sb Sc Si Sj Sk Sh Vs Gr Tk Tkh Tkl Rt Rtm Rtg Rtp Rtk Rts Tkrefs14 Rtla Rtsm Shh Sfn Rtlb Rtlc
set_option linter.unusedVariables false
set_option linter.unusedSimpArgs false
set_option maxRecDepth 100000

def exG (a b : Option Addr) : List Sg := [⟨10, a, [(0, 0)], 1, b, [1, 2], 2⟩, ⟨5, a, [(0, 0)], 1, none, [], 0⟩, ⟨5, a, [(0, 0)], 1, none, [], 0⟩]
def exX : List Ro := [[0, 1], [0, 2]]
theorem may_ex (a b : Option Addr) : TrackMay (exG a b) [] := by
  have mp : ∀ n : Int, 1 ≤ n → May [(0, 0)] n := fun n hn => ⟨by simp, by simp, by simp, fun i hi => by
    obtain rfl : i = 0 := by simpa using hi
    exact ⟨by simp, by simp, by simp; omega, fun h => by omega⟩⟩
  refine ⟨⟨by simp [exG], by simp [exG], by simp⟩, fun j hj => ?_, fun j hj => by simp at hj⟩
  rcases (show j = 0 ∨ j = 1 ∨ j = 2 by simp [exG] at hj; omega) with rfl | rfl | rfl
  · exact ⟨by simp [exG], by simp [exG], mp 10 (by omega), by simp [exG], fun j hj => by rcases (show j = 0 ∨ j = 1 by simp [exG] at hj; omega) with rfl | rfl <;> simp [exG], fun _ => by simp [exG]⟩
  · exact ⟨by simp [exG], by simp [exG], mp 5 (by omega), by simp [exG], fun j hj => by simp [exG] at hj, fun h => by simp [exG] at h⟩
  · exact ⟨by simp [exG], by simp [exG], mp 5 (by omega), by simp [exG], fun j hj => by simp [exG] at hj, fun h => by simp [exG] at h⟩
theorem oks_ex {W : World} {a b : Option Addr} (h : Reads W a [.int .i64 0, .int .i64 0]) (k : Reads W b [.int .i64 1, .int .i64 2]) : OkS W (exG a b) := by
  intro s hs
  have hs' : s = ⟨10, a, [(0, 0)], 1, b, [1, 2], 2⟩ ∨ s = ⟨5, a, [(0, 0)], 1, none, [], 0⟩ := by simpa [exG] using hs
  rcases hs' with rfl | rfl
  · exact ⟨h, k, by simp, by simp⟩
  · exact ⟨h, reads_nil _ _, by simp, by simp⟩
theorem lev_idle {G : List Sg} {f hi lo : Int} {X : List Ro} {n : Nat} {o : List Ro} (h : Lev G f hi lo X n o [] []) : ∀ d, Lev G f hi lo X (n + d) o [] [] := by
  intro d
  induction d with
  | zero => exact h
  | succ d ih => exact lev_next ih
theorem grow_ex (a b : Option Addr) : growS (exG a b) 4 8 [[0]] 7 = (0, exX) := by
  have e0 : endR (exG a b) 4 [0] = 6 := by simp [endR, exG]
  have e1 : endR (exG a b) 4 [0, 1] = 11 := by simp [endR, exG]
  have e2 : endR (exG a b) 4 [0, 2] = 11 := by simp [endR, exG]
  have n0 : nxt (exG a b) [0] = [1, 2] := by simp [nxt, exG]
  have l0 := lev_start (G := exG a b) (f := 4) (hi := 8) (lo := 7) (X := [[0]]) (by simp)
  have l1 := lev_go l0 (fun h => by rcases h with h | h; (rw [e0] at h; omega); (rw [n0] at h; cases h)) (by decide)
  rw [n0] at l1
  have l2 : Lev (exG a b) 4 8 7 [[0]] 1 [] [[0, 1], [0, 2]] [] := lev_next l1
  have l3 := lev_put l2 (.inl (by rw [e1]; omega)) (by rw [e1]; omega) (by simp [ins])
  have l4 := lev_put l3 (.inl (by rw [e2]; omega)) (by rw [e2]; omega) (Nat.le_trans (ins_len ltB [0, 2] (ins ltB [0, 1] [])).2 (by simp [ins]))
  have h0 : ∀ j : Nat, j < 1 → key [0, 1] j = key [0, 2] j := fun j hj => by
    have e : j = 0 := by omega
    subst e
    rfl
  have hl : ltB [0, 1] [0, 2] = true := ltB_iff.2 ⟨1, by omega, h0, by simp [key, pad]⟩
  have hi : ins ltB [0, 2] (ins ltB [0, 1] []) = exX := by simp [ins, hl, exX]
  rw [hi] at l4
  exact lev_some (lev_idle l4 11) (by omega) (by omega) (by simp [exX])
theorem cap_ex (a b : Option Addr) : ∀ s ∈ exG a b, s.X.length ≤ s.nc := by
  intro s hs
  simp [exG] at hs
  rcases hs with rfl | rfl | rfl <;> simp
theorem grow_exc (p a b ps : Option Addr) (cs : Nat) (w : World) (hS : Reads w p [.int .i64 10, .slice a 1 1, .slice b 2 2, .int .i64 5, .slice a 1 1, .slice none 0 0, .int .i64 5, .slice a 1 1, .slice none 0 0]) (hA : Reads w a [.int .i64 0, .int .i64 0]) (hB : Reads w b [.int .i64 1, .int .i64 2]) (hR : Reads w ps (flat rt [[0]])) :
    Calls Try.prog 18 #[.agg #[.int .i64 4, .slice ps 1 cs], .agg #[.slice p 3 3, .slice none 0 0], .agg #[.int .i64 7, .int .i64 8]] w fun e w' => ∃ z : Pz, Held z.N z.p (flat rt exX) ∧ e = .returned (.tuple #[.agg #[.int .i64 4, .slice z.p 2 z.c], .int .i64 0]) ∧ Env w w' z.N := by
  refine (grow_gen 7 8 (exG a b) [] p none 3 0 0 4 4 [[0]] 1 ps cs w hS (oks_ex hA hB) (reads_nil _ _) (may_ex a b) rfl rfl (begin_ok (by simp [exG]) (by simp [exG])) hR (by omega) (by omega) (cap_ex a b)).mono ?_
  rintro e w' ⟨z, hz, rfl, hE⟩
  obtain ⟨h1, h2⟩ := Prod.mk.inj (hz.is.symm.trans (grow_ex a b))
  have h3 := hz.frm h1
  have h4 := hz.held
  rw [h2] at h4
  exact ⟨⟨z.p, z.c, z.N⟩, h4, by rw [h3, h2, h1]; rfl, hE⟩
set_option maxHeartbeats 2000000 in
theorem anchor_any  (w : World) :
    Calls Try.prog 7 #[] w fun e w' => e = .returned (.bool true) ∧ Below w.heap.size w w' := by
  have x0 : exX.length = 2 := rfl
  refine calls_sx Try.func7 rfl ?_
  simp only [Try.ntmps7, List.size_toArray, List.length_nil, Nat.reduceSub, Array.replicate_succ, Array.replicate_zero, List.push_toArray, List.append_toArray, List.nil_append, List.cons_append]
  refine wc_seq ?_
  refine wc_region ?_
  refine wl_val (.bool false) rfl (fun _ => rfl) ?_
  simp only [Act.put, Xa, Xz]
  refine wl_nil ?_
  refine we_then ?_
  refine wc_seq ?_
  refine wc_region ?_
  refine wl_val (.agg #[.int .i64 0, .int .i64 0]) rfl (fun _ => by go_simp) ?_
  simp only [Act.put, Xa, Xz, Xs]
  refine wl_lit (e := 71) #[.int .i64 0, .int .i64 0] 1 rfl (fun _ => by go_simp) ?_
  intro g1
  simp only [Act.put, Xa, Xz, Xs]
  refine wl_val (.slice (some ⟨g1, 0, none⟩) 1 1) rfl (fun _ => rfl) ?_
  simp only [Act.put, Xa, Xz, Xs]
  refine wl_nil ?_
  refine we_then ?_
  refine wc_seq ?_
  refine wc_region ?_
  refine wl_val (.slice (some ⟨g1, 0, none⟩) 1 1) rfl (fun _ => rfl) ?_
  simp only [Act.put, Xa, Xz, Xs]
  refine wl_lit (e := 3) #[.int .i64 1, .int .i64 2] 2 rfl (fun _ => by go_simp) ?_
  intro g2
  simp only [Act.put, Xa, Xz, Xs]
  refine wl_val (.agg #[.int .i64 10, .slice (some ⟨g1, 0, none⟩) 1 1, .slice (some ⟨g2, 0, none⟩) 2 2]) rfl (fun _ => by go_simp) ?_
  simp only [Act.put, Xa, Xz, Xs]
  refine wl_val (.slice (some ⟨g1, 0, none⟩) 1 1) rfl (fun _ => rfl) ?_
  simp only [Act.put, Xa, Xz, Xs]
  refine wl_val (.agg #[.int .i64 5, .slice (some ⟨g1, 0, none⟩) 1 1, .slice none 0 0]) rfl (fun _ => by go_simp) ?_
  simp only [Act.put, Xa, Xz, Xs]
  refine wl_val (.slice (some ⟨g1, 0, none⟩) 1 1) rfl (fun _ => rfl) ?_
  simp only [Act.put, Xa, Xz, Xs]
  refine wl_val (.agg #[.int .i64 5, .slice (some ⟨g1, 0, none⟩) 1 1, .slice none 0 0]) rfl (fun _ => by go_simp) ?_
  simp only [Act.put, Xa, Xz, Xs]
  refine wl_lit (e := 62) #[.int .i64 10, .slice (some ⟨g1, 0, none⟩) 1 1, .slice (some ⟨g2, 0, none⟩) 2 2, .int .i64 5, .slice (some ⟨g1, 0, none⟩) 1 1, .slice none 0 0, .int .i64 5, .slice (some ⟨g1, 0, none⟩) 1 1, .slice none 0 0] 3 rfl (fun _ => by go_simp) ?_
  intro g3
  simp only [Act.put, Xa, Xz, Xs]
  refine wl_val (.agg #[.slice (some ⟨g3, 0, none⟩) 3 3, .slice none 0 0]) rfl (fun _ => by go_simp) ?_
  simp only [Act.put, Xa, Xz, Xs]
  refine wl_new 25 (#[.slice none 0 0, .slice none 0 0]) rfl (fun _ => by go_simp) ?_
  intro g4
  simp only [Act.put, Xa, Xz, Xs]
  refine wl_store 0 25 (.tmp 2) (.tmp 15) (#[.slice (some ⟨g3, 0, none⟩) 3 3, .slice none 0 0]) rfl rfl rfl rfl rfl (by kernel_rfl) rfl (by simp [Value.oneCell']) ?_
  simp only [Act.put, List.set_cons_zero]
  refine wl_nil ?_
  refine we_then ?_
  refine wc_seq ?_
  refine wc_draw_fin (Γ := Pz × Pz × Nat) (fun γ9 j9 => [.agg #[.int .i64 4, .slice γ9.1.p 1 γ9.1.c], .agg #[.slice (some ⟨g3, 0, none⟩) 3 3, .slice none 0 0], .agg #[.int .i64 7, .int .i64 8], .tuple #[.agg #[.int .i64 4, .slice γ9.2.1.p 2 γ9.2.1.c], .int .i64 0], .tuple #[.agg #[.int .i64 4, .slice γ9.2.1.p 2 γ9.2.1.c], .int .i64 0], .agg #[.int .i64 4, .slice γ9.2.1.p 2 γ9.2.1.c], .int .i64 0, .pointer (some ⟨γ9.2.2, 0, none⟩), undef, .int .i64 0].getD j9 undef) (fun ld γ9 => ((if ld 7 = true then [⟨γ9.2.2, if ld 8 = true then #[.int .i64 4, .slice γ9.2.1.p 2 γ9.2.1.c] else #[.int .i64 0, .slice none 0 0], 31⟩] else []) ++ ((if ld 3 = true then γ9.2.1.N else []) ++ ((if ld 0 = true then γ9.1.N else []) ++ [⟨g4, #[.slice (some ⟨g3, 0, none⟩) 3 3, .slice none 0 0], 25⟩, ⟨g3, #[.int .i64 10, .slice (some ⟨g1, 0, none⟩) 1 1, .slice (some ⟨g2, 0, none⟩) 2 2, .int .i64 5, .slice (some ⟨g1, 0, none⟩) 1 1, .slice none 0 0, .int .i64 5, .slice (some ⟨g1, 0, none⟩) 1 1, .slice none 0 0], 62⟩, ⟨g2, #[.int .i64 1, .int .i64 2], 3⟩, ⟨g1, #[.int .i64 0, .int .i64 0], 71⟩])))) (fun ld γ9 => (ld 0 = true → Held γ9.1.N γ9.1.p (flat rt [[0]])) ∧ (ld 3 = true → Held γ9.2.1.N γ9.2.1.p (flat rt exX)) ∧ True) ((⟨none, 0, []⟩, ⟨none, 0, []⟩, 0)) 48 (fun γ9 => ({ tmps := #[.bool false, .slice (some ⟨g1, 0, none⟩) 1 1, .pointer (some ⟨g4, 0, none⟩), .pointer (some ⟨γ9.2.2, 0, none⟩), .int .i64 0, .agg #[.int .i64 0, .int .i64 0], .slice (some ⟨g1, 0, none⟩) 1 1, .slice (some ⟨g1, 0, none⟩) 1 1, .slice (some ⟨g2, 0, none⟩) 2 2, .agg #[.int .i64 10, .slice (some ⟨g1, 0, none⟩) 1 1, .slice (some ⟨g2, 0, none⟩) 2 2], .slice (some ⟨g1, 0, none⟩) 1 1, .agg #[.int .i64 5, .slice (some ⟨g1, 0, none⟩) 1 1, .slice none 0 0], .slice (some ⟨g1, 0, none⟩) 1 1, .agg #[.int .i64 5, .slice (some ⟨g1, 0, none⟩) 1 1, .slice none 0 0], .slice (some ⟨g3, 0, none⟩) 3 3, .agg #[.slice (some ⟨g3, 0, none⟩) 3 3, .slice none 0 0], .tuple #[.agg #[.int .i64 4, .slice γ9.2.1.p 2 γ9.2.1.c], .int .i64 0], .agg #[.int .i64 4, .slice γ9.1.p 1 γ9.1.c], .agg #[.slice (some ⟨g3, 0, none⟩) 3 3, .slice none 0 0], .agg #[.int .i64 7, .int .i64 8], .tuple #[.agg #[.int .i64 4, .slice γ9.2.1.p 2 γ9.2.1.c], .int .i64 0], .agg #[.int .i64 4, .slice γ9.2.1.p 2 γ9.2.1.c], .int .i64 0, undef, undef, undef, undef, undef, undef, undef, undef, undef, undef, undef, undef, undef, undef, undef, undef, undef, undef, undef, undef, undef, undef, undef, undef, undef], defers := [] } : Act)) (fun γ9 => ([⟨γ9.2.2, #[.int .i64 4, .slice γ9.2.1.p 2 γ9.2.1.c], 31⟩] ++ (γ9.2.1.N ++ (γ9.1.N ++ [⟨g4, #[.slice (some ⟨g3, 0, none⟩) 3 3, .slice none 0 0], 25⟩, ⟨g3, #[.int .i64 10, .slice (some ⟨g1, 0, none⟩) 1 1, .slice (some ⟨g2, 0, none⟩) 2 2, .int .i64 5, .slice (some ⟨g1, 0, none⟩) 1 1, .slice none 0 0, .int .i64 5, .slice (some ⟨g1, 0, none⟩) 1 1, .slice none 0 0], 62⟩, ⟨g2, #[.int .i64 1, .int .i64 2], 3⟩, ⟨g1, #[.int .i64 0, .int .i64 0], 71⟩])))) (by kernel_rfl) rfl (by kernel_rfl) rfl (by simp) (fun _ => by kernel_rfl) (fun _ => rfl) ?_ ?_
  · skip
    refine sps_cons (sp_open 17 (fun (zk5 : Pz) => .agg #[.int .i64 4, .slice zk5.p 1 zk5.c]) (fun (zk5 : Pz) => zk5.N) (fun (zk5 : Pz) => Held zk5.N zk5.p (flat rt [[0]])) rfl (fun ld γ9 a9 w9 h9 hF9 hE9 => ?_)) ?_
    · obtain ⟨yy, zk6, g7⟩ := γ9
      have dl0 : ld 0 = false := h9.off
      have dl3 : ld 3 = false := h9.non (by kernel_rfl)
      have dl8 : ld 8 = false := h9.non (by kernel_rfl)
      have hS9 := hE9
      dsimp only at hS9
      simp only [dl0, dl3, dl8, if_true, if_false, Bool.false_eq_true, List.nil_append] at hS9
      have hE0 : Env w w9 ([⟨g4, #[.slice (some ⟨g3, 0, none⟩) 3 3, .slice none 0 0], 25⟩, ⟨g3, #[.int .i64 10, .slice (some ⟨g1, 0, none⟩) 1 1, .slice (some ⟨g2, 0, none⟩) 2 2, .int .i64 5, .slice (some ⟨g1, 0, none⟩) 1 1, .slice none 0 0, .int .i64 5, .slice (some ⟨g1, 0, none⟩) 1 1, .slice none 0 0], 62⟩, ⟨g2, #[.int .i64 1, .int .i64 2], 3⟩, ⟨g1, #[.int .i64 0, .int .i64 0], 71⟩]) := (hS9.sub (List.sublist_append_right _ _))
      have e0 : a9.eval (.const (.int .i64 0)) = .int .i64 0 := rfl
      have e1 : a9.eval (.const (.int .i64 4)) = .int .i64 4 := rfl
      refine ⟨#[.int .i64 0, .int .i64 4], er_callg (enters_of Try.func17 (by kernel_rfl) rfl) rfl (by simp only [List.map_toArray, List.map_cons, List.map_nil, e0, e1]) w9, (Rou.begin_any 0 4 w9), fun zk5 k5 => ?_⟩
      refine ⟨(zk5, zk6, g7), rfl, ?_, ?_, ?_⟩
      · intro k hk
        have hk2 : k < 10 := h9.within k hk
        have hb : k = 0 ∨ k = 1 ∨ k = 2 ∨ k = 3 ∨ k = 4 ∨ k = 5 ∨ k = 6 ∨ k = 7 ∨ k = 8 ∨ k = 9 := by omega
        rcases hb with rfl | rfl | rfl | rfl | rfl | rfl | rfl | rfl | rfl | rfl
        · rw [dl0] at hk; cases hk
        · rfl
        · rfl
        · rfl
        · rfl
        · rfl
        · rfl
        · rfl
        · rfl
        · rfl
      · exact ⟨fun _ => k5, (fun e => by (have e1 : ld 3 = true := e); rw [dl3] at e1; cases e1), trivial⟩
      · skip
        have od0 : Si.one ld 0 0 = true := rfl
        have od3 : Si.one ld 0 3 = ld 3 := rfl
        have od7 : Si.one ld 0 7 = ld 7 := rfl
        have od8 : Si.one ld 0 8 = ld 8 := rfl
        dsimp only
        simp only [od0, od3, od7, od8, dl3, dl8, dl0, if_true, if_false, Bool.false_eq_true, List.nil_append]
        exact pin1 _ _ _
    refine sps_cons (sp_valg (fun γ9 => .agg #[.slice (some ⟨g3, 0, none⟩) 3 3, .slice none 0 0]) rfl (fun _ => rfl) (fun _ _ h => h) (fun _ _ => rfl) (fun ld γ9 a9 w9 h9 hF9 hE9 => by obtain ⟨zk5, zk6, g7⟩ := γ9; exact load_row (hE9.row ⟨g4, #[.slice (some ⟨g3, 0, none⟩) 3 3, .slice none 0 0], 25⟩ (List.mem_append_right _ (List.mem_append_right _ (List.mem_append_right _ (mem_of_at (i := 0) rfl))))) rfl (h9.out (by kernel_rfl) rfl) Try.underlying25 rfl (by kernel_rfl))) ?_
    refine sps_cons (sp_valg (fun γ9 => .agg #[.int .i64 7, .int .i64 8]) rfl (fun _ => rfl) (fun _ _ h => h) (fun _ _ => rfl) (fun ld γ9 a9 w9 h9 hF9 hE9 => by obtain ⟨zk5, zk6, g7⟩ := γ9; exact (by have e09 : a9.eval (.const (.int .i64 7)) = .int .i64 7 := rfl; have e19 : a9.eval (.const (.int .i64 8)) = .int .i64 8 := rfl; exact run_buildg (vs := #[(0, .int .i64 7), (1, .int .i64 8)]) rfl (by simp only [List.map_toArray, List.map_cons, List.map_nil, e09, e19]) (by kernel_rfl)))) ?_
    refine sps_cons (sp_open 18 (fun (zk6 : Pz) => .tuple #[.agg #[.int .i64 4, .slice zk6.p 2 zk6.c], .int .i64 0]) (fun (zk6 : Pz) => zk6.N) (fun (zk6 : Pz) => Held zk6.N zk6.p (flat rt exX)) rfl (fun ld γ9 a9 w9 h9 hF9 hE9 => ?_)) ?_
    · obtain ⟨zk5, yy, g7⟩ := γ9
      have dl3 : ld 3 = false := h9.off
      have dl0 : ld 0 = true := h9.dep (by kernel_rfl)
      have dl8 : ld 8 = false := h9.non (by kernel_rfl)
      have k5 := hF9.1 dl0
      have hS9 := hE9
      dsimp only at hS9
      simp only [dl0, dl3, dl8, if_true, if_false, Bool.false_eq_true, List.nil_append] at hS9
      have hE0 : Env w w9 (⟨g4, #[.slice (some ⟨g3, 0, none⟩) 3 3, .slice none 0 0], 25⟩ :: ⟨g3, #[.int .i64 10, .slice (some ⟨g1, 0, none⟩) 1 1, .slice (some ⟨g2, 0, none⟩) 2 2, .int .i64 5, .slice (some ⟨g1, 0, none⟩) 1 1, .slice none 0 0, .int .i64 5, .slice (some ⟨g1, 0, none⟩) 1 1, .slice none 0 0], 62⟩ :: ⟨g2, #[.int .i64 1, .int .i64 2], 3⟩ :: ⟨g1, #[.int .i64 0, .int .i64 0], 71⟩ :: zk5.N) := Env.perm (hS9.sub (List.sublist_append_right _ _)) ((pf1 [] _ _).trans (List.Perm.of_eq (by first | rfl | simp only [List.append_assoc, List.cons_append, List.nil_append])))
      have e0 : a9.eval (.tmp 17) = .agg #[.int .i64 4, .slice zk5.p 1 zk5.c] := (h9.tmp 0 rfl (h9.dep (by kernel_rfl)))
      have e1 : a9.eval (.tmp 18) = .agg #[.slice (some ⟨g3, 0, none⟩) 3 3, .slice none 0 0] := (h9.tmp 1 rfl (h9.dep (by kernel_rfl)))
      have e2 : a9.eval (.tmp 19) = .agg #[.int .i64 7, .int .i64 8] := (h9.tmp 2 rfl (h9.dep (by kernel_rfl)))
      refine ⟨#[.agg #[.int .i64 4, .slice zk5.p 1 zk5.c], .agg #[.slice (some ⟨g3, 0, none⟩) 3 3, .slice none 0 0], .agg #[.int .i64 7, .int .i64 8]], er_callg (enters_of Try.func18 (by kernel_rfl) rfl) rfl (by simp only [List.map_toArray, List.map_cons, List.map_nil, e0, e1, e2]) w9, (grow_exc _ _ _ _ _ w9 ((sl_row 1 rfl) w9 hE0) ((sl_row 3 rfl) w9 hE0) ((sl_row 2 rfl) w9 hE0) ((sl_held k5 (List.Sublist.cons _ (List.Sublist.cons _ (List.Sublist.cons _ (List.Sublist.cons _ (List.Sublist.refl _)))))) w9 hE0)), fun zk6 k6 => ?_⟩
      refine ⟨(zk5, zk6, g7), rfl, ?_, ?_, ?_⟩
      have dl4 : ld 4 = false := h9.non (by kernel_rfl)
      have dl5 : ld 5 = false := h9.non2 4 dl4 (by kernel_rfl)
      · intro k hk
        have hk2 : k < 10 := h9.within k hk
        have hb : k = 0 ∨ k = 1 ∨ k = 2 ∨ k = 3 ∨ k = 4 ∨ k = 5 ∨ k = 6 ∨ k = 7 ∨ k = 8 ∨ k = 9 := by omega
        rcases hb with rfl | rfl | rfl | rfl | rfl | rfl | rfl | rfl | rfl | rfl
        · rfl
        · rfl
        · rfl
        · rw [dl3] at hk; cases hk
        · rw [dl4] at hk; cases hk
        · rw [dl5] at hk; cases hk
        · rfl
        · rfl
        · rfl
        · rfl
      · exact ⟨fun _ => k5, fun _ => k6, trivial⟩
      · skip
        have od0 : Si.one ld 3 0 = ld 0 := rfl
        have od3 : Si.one ld 3 3 = true := rfl
        have od7 : Si.one ld 3 7 = ld 7 := rfl
        have od8 : Si.one ld 3 8 = ld 8 := rfl
        dsimp only
        simp only [od0, od3, od7, od8, dl0, dl8, dl3, if_true, if_false, Bool.false_eq_true, List.nil_append]
        exact pin1 _ _ _
    refine sps_cons (sp_valg (fun γ9 => .tuple #[.agg #[.int .i64 4, .slice γ9.2.1.p 2 γ9.2.1.c], .int .i64 0]) rfl (fun _ => rfl) (fun _ _ h => h) (fun _ _ => rfl) (fun ld γ9 a9 w9 h9 hF9 hE9 => by obtain ⟨zk5, zk6, g7⟩ := γ9; exact run_moveg (by rfl) (h9.tmp 3 rfl (h9.dep (by kernel_rfl))))) ?_
    refine sps_cons (sp_valg (fun γ9 => .agg #[.int .i64 4, .slice γ9.2.1.p 2 γ9.2.1.c]) rfl (fun _ => rfl) (fun _ _ h => h) (fun _ _ => rfl) (fun ld γ9 a9 w9 h9 hF9 hE9 => by obtain ⟨zk5, zk6, g7⟩ := γ9; exact run_extractg (by rfl) (h9.tmp 4 rfl (h9.dep (by kernel_rfl))) rfl)) ?_
    refine sps_cons (sp_valg (fun γ9 => .int .i64 0) rfl (fun _ => rfl) (fun _ _ h => h) (fun _ _ => rfl) (fun ld γ9 a9 w9 h9 hF9 hE9 => by obtain ⟨zk5, zk6, g7⟩ := γ9; exact run_extractg (by rfl) (h9.tmp 4 rfl (h9.dep (by kernel_rfl))) rfl)) ?_
    refine sps_cons (sp_alloc (#[.int .i64 0, .slice none 0 0]) 31 rfl (fun a9 w9 => by go_simp) (fun ld γ9 a9 n9 h9 hF9 => ?_)) ?_
    · obtain ⟨zk5, zk6, yy⟩ := γ9
      have dl7 : ld 7 = false := h9.off
      have dl8 : ld 8 = false := h9.non (by kernel_rfl)
      refine ⟨(zk5, zk6, n9), rfl, ?_, hF9, ?_⟩
      · intro k hk
        have hk2 : k < 10 := h9.within k hk
        have hb : k = 0 ∨ k = 1 ∨ k = 2 ∨ k = 3 ∨ k = 4 ∨ k = 5 ∨ k = 6 ∨ k = 7 ∨ k = 8 ∨ k = 9 := by omega
        rcases hb with rfl | rfl | rfl | rfl | rfl | rfl | rfl | rfl | rfl | rfl
        · rfl
        · rfl
        · rfl
        · rfl
        · rfl
        · rfl
        · rfl
        · rw [dl7] at hk; cases hk
        · rfl
        · rfl
      · skip
        have od0 : Si.one ld 7 0 = ld 0 := rfl
        have od3 : Si.one ld 7 3 = ld 3 := rfl
        have od7 : Si.one ld 7 7 = true := rfl
        have od8 : Si.one ld 7 8 = ld 8 := rfl
        dsimp only
        simp only [od0, od3, od7, od8, dl8, dl7, if_true, if_false, Bool.false_eq_true, List.nil_append]
        exact pin0 [_] _
    refine sps_cons (sp_put 31 (.tmp 3) (.tmp 21) rfl rfl (fun ld γ9 a9 h9 hF9 => ?_)) ?_
    · obtain ⟨zk5, zk6, g7⟩ := γ9
      have dl8 : ld 8 = false := h9.off
      have dl7 : ld 7 = true := h9.dep (by kernel_rfl)
      have dl0 : ld 0 = true := h9.dep (by kernel_rfl)
      have dl3 : ld 3 = true := h9.dep (by kernel_rfl)
      refine ⟨g7, #[.int .i64 4, .slice zk6.p 2 zk6.c], #[.int .i64 0, .slice none 0 0], 31, ((if ld 3 = true then zk6.N else []) ++ ((if ld 0 = true then zk5.N else []) ++ [⟨g4, #[.slice (some ⟨g3, 0, none⟩) 3 3, .slice none 0 0], 25⟩, ⟨g3, #[.int .i64 10, .slice (some ⟨g1, 0, none⟩) 1 1, .slice (some ⟨g2, 0, none⟩) 2 2, .int .i64 5, .slice (some ⟨g1, 0, none⟩) 1 1, .slice none 0 0, .int .i64 5, .slice (some ⟨g1, 0, none⟩) 1 1, .slice none 0 0], 62⟩, ⟨g2, #[.int .i64 1, .int .i64 2], 3⟩, ⟨g1, #[.int .i64 0, .int .i64 0], 71⟩])), (h9.tmp 7 rfl (h9.dep (by kernel_rfl))), (h9.tmp 5 rfl (h9.dep (by kernel_rfl))), (by kernel_rfl), rfl, (by simp [Value.oneCell']), ?_, rfl, hF9, ?_⟩
      · dsimp only
        simp only [dl7, dl8, if_true, if_false, Bool.false_eq_true]
        exact (pin0 [_] _).symm
      · skip
        have od0 : Si.one ld 8 0 = ld 0 := rfl
        have od3 : Si.one ld 8 3 = ld 3 := rfl
        have od7 : Si.one ld 8 7 = ld 7 := rfl
        have od8 : Si.one ld 8 8 = true := rfl
        dsimp only
        simp only [od0, od3, od7, od8, dl0, dl3, dl7, dl8, if_true, if_false, Bool.false_eq_true, List.nil_append]
        exact pin0 [_] _
    refine sps_cons (sp_valg (fun γ9 => .int .i64 0) rfl (fun _ => rfl) (fun _ _ h => h) (fun _ _ => rfl) (fun ld γ9 a9 w9 h9 hF9 hE9 => by obtain ⟨zk5, zk6, g7⟩ := γ9; exact run_assigng (by rfl) (h9.tmp 6 rfl (h9.dep (by kernel_rfl))))) ?_
    exact sps_nil
  rintro ⟨zk5, zk6, g7⟩ ⟨k5, k6, -⟩
  replace k5 := k5 (by decide)
  (try dsimp only at k5)
  replace k6 := k6 (by decide)
  (try dsimp only at k6)
  (try dsimp only)
  refine we_perm (R' := ⟨g7, #[.int .i64 4, .slice zk6.p 2 zk6.c], 31⟩ :: ⟨g4, #[.slice (some ⟨g3, 0, none⟩) 3 3, .slice none 0 0], 25⟩ :: ⟨g3, #[.int .i64 10, .slice (some ⟨g1, 0, none⟩) 1 1, .slice (some ⟨g2, 0, none⟩) 2 2, .int .i64 5, .slice (some ⟨g1, 0, none⟩) 1 1, .slice none 0 0, .int .i64 5, .slice (some ⟨g1, 0, none⟩) 1 1, .slice none 0 0], 62⟩ :: ⟨g2, #[.int .i64 1, .int .i64 2], 3⟩ :: ⟨g1, #[.int .i64 0, .int .i64 0], 71⟩ :: (zk5.N ++ zk6.N)) ((pf2 [⟨g7, #[.int .i64 4, .slice zk6.p 2 zk6.c], 31⟩] _ _ _).trans (List.Perm.of_eq (by first | rfl | simp only [List.append_assoc, List.cons_append, List.nil_append]))) ?_
  refine we_then ?_
  refine wc_seq ?_
  refine wc_region ?_
  refine wl_val (.int .i64 0) rfl (fun _ => rfl) ?_
  simp only [Act.put, Xa, Xz, Xs]
  refine wl_val (.bool true) rfl (fun w => run_cmp rfl rfl rfl Try.underlying64 rfl w) ?_
  simp only [Act.put, Xa, Xz, Xs]
  refine wl_val (.bool true) rfl (fun _ => rfl) ?_
  simp only [Act.put, Xa, Xz, Xs]
  refine wl_val (.pointer (some ⟨g7, 1, none⟩)) rfl (fun _ => by go_simp) ?_
  simp only [Act.put, Xa, Xz, Xs]
  refine wl_cell 29 (.tmp 26) (.slice zk6.p 2 zk6.c) (own_row 0 rfl) rfl rfl rfl rfl Try.isAgg29 ?_
  simp only [Act.put, Xa, Xz, Xs]
  refine wl_val (.int .i64 2) rfl (fun w => er_len rfl rfl Try.underlying29 w) ?_
  simp only [Act.put, Xa, Xz, Xs]
  refine wl_val (.bool true) rfl (fun w => run_cmp rfl rfl rfl Try.underlying3 rfl w) ?_
  simp only [Act.put, Xa, Xz, Xs]
  refine wl_val (.bool true) rfl (fun _ => rfl) ?_
  simp only [Act.put, Xa, Xz, Xs]
  refine wl_val (.bool true) rfl (fun _ => rfl) ?_
  simp only [Act.put, Xa, Xz, Xs]
  refine wl_val (.pointer (some ⟨g7, 1, none⟩)) rfl (fun _ => by go_simp) ?_
  simp only [Act.put, Xa, Xz, Xs]
  refine wl_cell 29 (.tmp 32) (.slice zk6.p 2 zk6.c) (own_row 0 rfl) rfl rfl rfl rfl Try.isAgg29 ?_
  simp only [Act.put, Xa, Xz, Xs]
  refine wl_read (eaddr zk6.p (0 * 13)) rfl (er_index 0 13 (sl_held k6 (List.Sublist.cons _ (List.Sublist.cons _ (List.Sublist.cons _ (List.Sublist.cons _ (List.Sublist.cons _ (List.sublist_append_of_sublist_right (List.Sublist.refl _)))))))) rfl rfl rfl rfl (by omega) (flat_length (enc := rt) (size := 13) (fun _ => rfl) _) (by decide) Try.underlying29 (by kernel_rfl)) ?_
  simp only [Act.put, Xa, Xz, Xs]
  refine wl_read (eaddr zk6.p (0 * 13 + 0)) rfl (er_field (z := 0) (0 * 13) 0 0 (sl_held k6 (List.Sublist.cons _ (List.Sublist.cons _ (List.Sublist.cons _ (List.Sublist.cons _ (List.Sublist.cons _ (List.sublist_append_of_sublist_right (List.Sublist.refl _)))))))) rfl rfl (flat_lt (enc := rt) (fun _ => rfl) exX 0 0 (by omega) (by decide)) Try.underlying39 rfl rfl (by kernel_rfl)) ?_
  simp only [Act.put, Xa, Xz, Xs]
  refine wl_read (.int .i64 (((exX[0]!).length : Nat) : Int)) rfl (er_cell (0 * 13 + 0) (.int .i64 (((exX[0]!).length : Nat) : Int)) (sl_held k6 (List.Sublist.cons _ (List.Sublist.cons _ (List.Sublist.cons _ (List.Sublist.cons _ (List.Sublist.cons _ (List.sublist_append_of_sublist_right (List.Sublist.refl _)))))))) rfl rfl (flat_cell (enc := rt) (fun _ => rfl) exX 0 0 (by omega) (by decide)) Try.isAgg3) ?_
  simp only [Act.put, Xa, Xz, Xs]
  refine wl_val (.bool ((((exX[0]!).length : Nat) : Int) == 2)) rfl (fun w => run_cmp rfl rfl rfl Try.underlying3 rfl w) ?_
  simp only [Act.put, Xa, Xz, Xs]
  refine wl_val (.bool ((((exX[0]!).length : Nat) : Int) == 2)) rfl (fun _ => rfl) ?_
  simp only [Act.put, Xa, Xz, Xs]
  refine wl_val (.bool ((((exX[0]!).length : Nat) : Int) == 2)) rfl (fun _ => rfl) ?_
  simp only [Act.put, Xa, Xz, Xs]
  cases h8 : ((((exX[0]!).length : Nat) : Int) == 2)
  · skip
    have p8 : ¬ ((((exX[0]!).length : Nat) : Int) = 2) := by first | (simp; done) | (simp at h8; done) | simpa using h8
    refine wl_skip rfl ?_
    simp only [Act.put, Xa, Xz, Xs]
    refine wl_skip rfl ?_
    simp only [Act.put, Xa, Xz, Xs]
    refine wl_skip rfl ?_
    simp only [Act.put, Xa, Xz, Xs]
    refine wl_skip rfl ?_
    simp only [Act.put, Xa, Xz, Xs]
    refine wl_skip rfl ?_
    simp only [Act.put, Xa, Xz, Xs]
    refine wl_skip rfl ?_
    simp only [Act.put, Xa, Xz, Xs]
    refine wl_skip rfl ?_
    simp only [Act.put, Xa, Xz, Xs]
    refine wl_val (.bool false) rfl (fun _ => rfl) ?_
    simp only [Act.put, Xa, Xz, Xs]
    refine wl_val (.bool false) rfl (fun _ => rfl) ?_
    simp only [Act.put, Xa, Xz]
    refine wl_nil ?_
    refine we_then ?_
    refine wc_ret ?_
    refine we_ret1 (.bool false) rfl rfl rfl (fun w1 hE => ?_)
    have x1 : (exX[0]!).length = 2 := rfl
    have x2 : pad (exX[1]!) 1 = 2 := rfl
    exact (by exfalso; omega)
  · skip
    have p8 : (((exX[0]!).length : Nat) : Int) = 2 := by first | (simp; done) | (simp at h8; done) | simpa using h8
    refine wl_val (.pointer (some ⟨g7, 1, none⟩)) rfl (fun _ => by go_simp) ?_
    simp only [Act.put, Xa, Xz, Xs]
    refine wl_cell 29 (.tmp 40) (.slice zk6.p 2 zk6.c) (own_row 0 rfl) rfl rfl rfl rfl Try.isAgg29 ?_
    simp only [Act.put, Xa, Xz, Xs]
    refine wl_read (eaddr zk6.p (1 * 13)) rfl (er_index 1 13 (sl_held k6 (List.Sublist.cons _ (List.Sublist.cons _ (List.Sublist.cons _ (List.Sublist.cons _ (List.Sublist.cons _ (List.sublist_append_of_sublist_right (List.Sublist.refl _)))))))) rfl rfl rfl rfl (by omega) (flat_length (enc := rt) (size := 13) (fun _ => rfl) _) (by decide) Try.underlying29 (by kernel_rfl)) ?_
    simp only [Act.put, Xa, Xz, Xs]
    refine wl_read (eaddr zk6.p (1 * 13 + 1)) rfl (er_field (z := 11) (1 * 13) 1 1 (sl_held k6 (List.Sublist.cons _ (List.Sublist.cons _ (List.Sublist.cons _ (List.Sublist.cons _ (List.Sublist.cons _ (List.sublist_append_of_sublist_right (List.Sublist.refl _)))))))) rfl rfl (flat_lt (enc := rt) (fun _ => rfl) exX 1 0 (by omega) (by decide)) Try.underlying39 rfl rfl (by kernel_rfl)) ?_
    simp only [Act.put, Xa, Xz, Xs]
    refine wl_read (eaddr zk6.p (1 * 13 + 1 + 1)) rfl (er_aindex (1 * 13 + 1) 1 1 (sl_held k6 (List.Sublist.cons _ (List.Sublist.cons _ (List.Sublist.cons _ (List.Sublist.cons _ (List.Sublist.cons _ (List.sublist_append_of_sublist_right (List.Sublist.refl _)))))))) rfl rfl rfl rfl (flat_lt (enc := rt) (fun _ => rfl) exX 1 1 (by omega) (by decide)) (by decide) Try.underlying37 (by kernel_rfl)) ?_
    simp only [Act.put, Xa, Xz, Xs]
    refine wl_read (.int .i64 (pad (exX[1]!) 1)) rfl (er_cell (1 * 13 + 1 + 1) (.int .i64 (pad (exX[1]!) 1)) (sl_held k6 (List.Sublist.cons _ (List.Sublist.cons _ (List.Sublist.cons _ (List.Sublist.cons _ (List.Sublist.cons _ (List.sublist_append_of_sublist_right (List.Sublist.refl _)))))))) rfl rfl (flat_cell (enc := rt) (fun _ => rfl) exX 1 2 (by omega) (by decide)) Try.isAgg3) ?_
    simp only [Act.put, Xa, Xz, Xs]
    refine wl_val (.bool ((pad (exX[1]!) 1) == 2)) rfl (fun w => run_cmp rfl rfl rfl Try.underlying3 rfl w) ?_
    simp only [Act.put, Xa, Xz, Xs]
    refine wl_val (.bool ((pad (exX[1]!) 1) == 2)) rfl (fun _ => rfl) ?_
    simp only [Act.put, Xa, Xz, Xs]
    refine wl_val (.bool ((pad (exX[1]!) 1) == 2)) rfl (fun _ => rfl) ?_
    simp only [Act.put, Xa, Xz]
    refine wl_nil ?_
    refine we_then ?_
    refine wc_ret ?_
    refine we_ret1 (.bool ((pad (exX[1]!) 1) == 2)) rfl rfl rfl (fun w1 hE => ?_)
    have x1 : (exX[0]!).length = 2 := rfl
    have x2 : pad (exX[1]!) 1 = 2 := rfl
    exact ⟨by rw [show ((pad (exX[1]!) 1) == 2) = true from by rw [x2]; rfl], hE.below⟩
end Go.Proofs.Ytkbaponpebkpiaa.Rtlw
