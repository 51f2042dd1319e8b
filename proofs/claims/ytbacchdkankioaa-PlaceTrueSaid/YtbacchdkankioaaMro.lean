/-
  Package route: the closure that visits what a set grows to. Conditions: a track that may be; routes of it.
  Package route: reach, Grow. Conditions: a track that may be; a set that came of growing.
  Package route: Places. Conditions: a track that may be; routes of it.
  Contracts of package route. Conditions: a track that may be; sets that Begin and Grow hand back; what follows each segment within its capacity (Grow).
-/
import Derived.Test.YtbacchdkankioaaMra
import Derived.Test.YtbacchdkankioaaMrk
import Derived.Test.YtbacchdkankioaaMre
import Derived.Test.YtbacchdkankioaaMrs
namespace Go.Proofs.Ytbacchdkankioaa.Roue
open Go.ChangeShapes Go.WideShapes Go.ChangeAt Go.RowKit
open Arr Steady Sx Sw Sl Sb Sc Si Sk Sh Smu Sj Vs Gr Tk Tkh Tkl Rt Rtm Rtp Rtk Rts Rtd Fns Rdr Mp Rkd Rte Re Roua Roub Rouc Sfn Spn Go.Maps
set_option linter.unusedVariables false
set_option linter.unusedSimpArgs false
set_option maxRecDepth 100000

/-- What the closure finds: its variables, the track, the map. -/
structure ExIn (G : List Sg) (p : Option Addr) (c : Nat) (q : Option Addr) (nH d : Nat) (lo hi : Int) (bt bp bm bx b : Nat) (w : World) (n : Nat) (D : DataW Unit) : Prop where
 hbt : w.heap[bt]? = some (.cells #[.slice p G.length c, .slice q nH d] 27 (0, 0))
 hbp : w.heap[bp]? = some (.cells #[.int .i64 lo, .int .i64 hi] 32 (0, 0))
 hbm : w.heap[bm]? = some (.cells #[.map (some b)] 109 (0, 0))
 hbx : w.heap[bx]? = some (.cells #[.func (.func 50) #[] #[.pointer (some ⟨bt, 0, none⟩), .pointer (some ⟨bp, 0, none⟩), .pointer (some ⟨bm, 0, none⟩), .pointer (some ⟨bx, 0, none⟩)]] 119 (0, 0))
 hS : Reads w p (flat sg G)
 hG : OkS w G
 own : w.ownsMap Try.prog 92 (Rz (H := Unit)) b n D
theorem ExIn.turn {G : List Sg} {p q : Option Addr} {c nH d n n' : Nat} {lo hi : Int} {bt bp bm bx b : Nat} {w w' : World} {D D' : DataW Unit} (h : ExIn G p c q nH d lo hi bt bp bm bx b w n D) (hb : But [b] w w') (ho : w'.ownsMap Try.prog 92 (Rz (H := Unit)) b n' D') : ExIn G p c q nH d lo hi bt bp bm bx b w' n' D' :=
 ⟨but_row h.own hb h.hbt, but_row h.own hb h.hbp, but_row h.own hb h.hbm, but_row h.own hb h.hbx, but_reads h.own hb h.hS, but_oks h.own hb h.hG, ho⟩
theorem run_notg {P : Program} {o : Oper} {a : Act} {x : Operand} {t : TypeId} {v : Bool} (ho : o.op = .unOp .not t x) (hx : a.eval x = .bool v) (w : World) : (execOp a.eval o).run P w = .ok (.value (.bool (!v))) w := by
 unfold execOp
 simp only [ho, hx]
 cases v <;> simp [go_sem]
theorem run_field0 {P : Program} {o : Oper} {a : Act} {x : Operand} {t : TypeId} {u : Value} {us : List Value} (ho : o.op = .field t x 0) (hx : a.eval x = .agg (u :: us).toArray) (h : ∀ w, (Instr.field t (.agg (u :: us).toArray) 0).run P w = .ok u w) (w : World) : (execOp a.eval o).run P w = .ok (.value u) w := by
 unfold execOp
 simp only [ho, hx]
 simp [h, Result.andThen]
set_option maxHeartbeats 8000000 in
theorem extend_step (G : List Sg) (H : List Gp) (p q : Option Addr) (c d : Nat) (s0 f lo hi : Int) (bt bp bm bx b : Nat) (r : Ro) (n : Nat) (D : DataW Unit) (K : List Ro) (w : World) (ih : ∀ (r' : Ro) (n : Nat) (D : DataW Unit) (K : List Ro) (w : World), r'.length = r.length + 1 → r'.length ≤ 12 → ExIn G p c q H.length d lo hi bt bp bm bx b w n D → Keys D K → K.length ≤ 16 → RtWf G s0 r' → n + 2 ^ (13 - r'.length) ≤ 1000000 → Calls Try.prog 50 (#[.agg #[.int .i64 (r'.length : Int), .int .i64 (pad r' 0), .int .i64 (pad r' 1), .int .i64 (pad r' 2), .int .i64 (pad r' 3), .int .i64 (pad r' 4), .int .i64 (pad r' 5), .int .i64 (pad r' 6), .int .i64 (pad r' 7), .int .i64 (pad r' 8), .int .i64 (pad r' 9), .int .i64 (pad r' 10), .int .i64 (pad r' 11)], .int .i64 (endR G f r')] ++ #[.pointer (some ⟨bt, 0, none⟩), .pointer (some ⟨bp, 0, none⟩), .pointer (some ⟨bm, 0, none⟩), .pointer (some ⟨bx, 0, none⟩)]) w fun e w' => ∃ (ok : Bool) (n' : Nat) (D' : DataW Unit) (M : List Ro), (Ds G f hi lo [r'] K M ok ∧ Keys D' M ∧ n' ≤ n + 2 ^ (13 - r'.length) ∧ But [b] w w' ∧ w'.ownsMap Try.prog 92 (Rz (H := Unit)) b n' D') ∧ e = .returned (.bool ok)) (X : ExIn G p c q H.length d lo hi bt bp bm bx b w n D) (hK : Keys D K) (hk : K.length ≤ 16) (hr : RtWf G s0 r) (hroom : n + 2 ^ (13 - r.length) ≤ 1000000) (hM : TrackMay G H) (hC : ∀ s ∈ G, s.X.length ≤ s.nc) (hf : 0 ≤ f ∧ f ≤ 1099511627776) :
  Calls Try.prog 50 #[.agg #[.int .i64 (r.length : Int), .int .i64 (pad r 0), .int .i64 (pad r 1), .int .i64 (pad r 2), .int .i64 (pad r 3), .int .i64 (pad r 4), .int .i64 (pad r 5), .int .i64 (pad r 6), .int .i64 (pad r 7), .int .i64 (pad r 8), .int .i64 (pad r 9), .int .i64 (pad r 10), .int .i64 (pad r 11)], .int .i64 (endR G f r), .pointer (some ⟨bt, 0, none⟩), .pointer (some ⟨bp, 0, none⟩), .pointer (some ⟨bm, 0, none⟩), .pointer (some ⟨bx, 0, none⟩)] w fun e w' => ∃ (ok : Bool) (n' : Nat) (D' : DataW Unit) (M : List Ro), (Ds G f hi lo [r] K M ok ∧ Keys D' M ∧ n' ≤ n + 2 ^ (13 - r.length) ∧ But [b] w w' ∧ w'.ownsMap Try.prog 92 (Rz (H := Unit)) b n' D') ∧ e = .returned (.bool ok) := by
 have hB := But.refl [b] w
 have hs1 := hM.sizes.1
 have hs2 := hM.sizes.2.1
 have h12 := hr.ok.few
 have hnn : n ≤ 1000000 := Nat.le_trans (Nat.le_add_right n _) hroom
 have h01 := hr.ok.some
 have hix : (r[r.length - 1]!).toNat < G.length := by have := hr.ok.each (r.length - 1) (by omega); omega
 have hx2 := (hM.segs _ hix).two
 have heb := end_in (f := f) hM.segs hr.ok r.length (Nat.le_refl _)
 rw [List.take_length] at heb
 refine calls_sx Try.func50 rfl ?_
 simp only [Try.ntmps50, List.size_toArray, List.length_cons, List.length_nil, Nat.reduceAdd, Nat.reduceSub, Array.replicate_succ, Array.replicate_zero, List.push_toArray, List.append_toArray, List.nil_append, List.cons_append]
 refine wc_seq ?_
 refine wc_region ?_
 refine wl_new 92 (#[.int .i64 (r.length : Int), .int .i64 (pad r 0), .int .i64 (pad r 1), .int .i64 (pad r 2), .int .i64 (pad r 3), .int .i64 (pad r 4), .int .i64 (pad r 5), .int .i64 (pad r 6), .int .i64 (pad r 7), .int .i64 (pad r 8), .int .i64 (pad r 9), .int .i64 (pad r 10), .int .i64 (pad r 11)]) rfl (fun _ => by go_simp) ?_
 intro g1
 simp only [Act.put, Xa, Xz, Xs]
 refine wl_val (.bool false) rfl (fun _ => rfl) ?_
 simp only [Act.put, Xa, Xz, Xs]
 refine wl_nil ?_
 refine we_then ?_
 refine wc_seq ?_
 refine wc_region ?_
 refine wl_load 27 (.tmp 2) (old_row X.hbt) rfl rfl rfl Try.underlying27 rfl (by kernel_rfl) ?_
 simp only [Act.put, Xa, Xz, Xs]
 refine wl_load 92 (.tmp 6) (own_row 0 rfl) rfl rfl rfl Try.underlying92 rfl (by kernel_rfl) ?_
 simp only [Act.put, Xa, Xz, Xs]
 refine wl_call_at 51 #[.agg #[.slice p G.length c, .slice q H.length d], .agg #[.int .i64 (r.length : Int), .int .i64 (pad r 0), .int .i64 (pad r 1), .int .i64 (pad r 2), .int .i64 (pad r 3), .int .i64 (pad r 4), .int .i64 (pad r 5), .int .i64 (pad r 6), .int .i64 (pad r 7), .int .i64 (pad r 8), .int .i64 (pad r 9), .int .i64 (pad r 10), .int .i64 (pad r 11)]] (.slice ((G[(r[r.length - 1]!).toNat]!).np) ((G[(r[r.length - 1]!).toNat]!).X.length) ((G[(r[r.length - 1]!).toNat]!).nc)) rfl (fun _ => by go_simp) (fun W hE => next_any G H p q c d r W (sl_old (R := []) X.hS W (hE.sub (List.nil_sublist _))) (oks_below X.hG hE.below) hM hC hr.ok) ?_
 simp only [Act.put, Xa, Xz, Xs]
 refine wl_val (.slice ((G[(r[r.length - 1]!).toNat]!).np) ((G[(r[r.length - 1]!).toNat]!).X.length) ((G[(r[r.length - 1]!).toNat]!).nc)) rfl (fun _ => rfl) ?_
 simp only [Act.put, Xa, Xz, Xs]
 refine wl_nil ?_
 refine we_then ?_
 refine wc_seq ?_
 refine wc_seq ?_
 refine wc_region ?_
 refine wl_val (.int .i64 (endR G f r)) rfl (fun _ => rfl) ?_
 simp only [Act.put, Xa, Xz, Xs]
 refine wl_val (.pointer (some ⟨bp, 1, none⟩)) rfl (fun _ => by go_simp) ?_
 simp only [Act.put, Xa, Xz, Xs]
 refine wl_cell 2 (.tmp 16) (.int .i64 hi) (old_row X.hbp) rfl rfl rfl rfl Try.isAgg2 ?_
 simp only [Act.put, Xa, Xz, Xs]
 refine wl_val (.bool (decide (hi ≤ (endR G f r)))) rfl (fun w => run_cmp rfl rfl rfl Try.underlying2 rfl w) ?_
 simp only [Act.put, Xa, Xz, Xs]
 refine wl_val (.bool (decide (hi ≤ (endR G f r)))) rfl (fun _ => rfl) ?_
 simp only [Act.put, Xa, Xz, Xs]
 cases h2 : (decide (hi ≤ (endR G f r)))
 ·
  skip
  have p2 : ¬ (hi ≤ (endR G f r)) := of_decide_eq_false h2
  refine wl_val (.slice ((G[(r[r.length - 1]!).toNat]!).np) ((G[(r[r.length - 1]!).toNat]!).X.length) ((G[(r[r.length - 1]!).toNat]!).nc)) rfl (fun _ => rfl) ?_
  simp only [Act.put, Xa, Xz, Xs]
  refine wl_val (.int .i64 (((G[(r[r.length - 1]!).toNat]!).X.length : Nat) : Int)) rfl (fun w => er_len rfl rfl Try.underlying63 w) ?_
  simp only [Act.put, Xa, Xz, Xs]
  refine wl_val (.bool ((((G[(r[r.length - 1]!).toNat]!).X.length : Nat) : Int) == 0)) rfl (fun w => run_cmp rfl rfl rfl Try.underlying3 rfl w) ?_
  simp only [Act.put, Xa, Xz, Xs]
  refine wl_val (.bool ((((G[(r[r.length - 1]!).toNat]!).X.length : Nat) : Int) == 0)) rfl (fun _ => rfl) ?_
  simp only [Act.put, Xa, Xz, Xs]
  refine wl_nil ?_
  refine we_then ?_
  cases h3 : ((((G[(r[r.length - 1]!).toNat]!).X.length : Nat) : Int) == 0)
  ·
   skip
   have p3 : ¬ ((((G[(r[r.length - 1]!).toNat]!).X.length : Nat) : Int) = 0) := by first | (simp; done) | (simp at h3; done) | simpa using h3
   refine wc_false rfl ?_
   refine wc_skip ?_
   refine we_then ?_
   refine wc_seq ?_
   refine wc_seq ?_
   refine wc_region ?_
   refine wl_val (.pointer (some ⟨g1, 0, none⟩)) rfl (fun _ => by go_simp) ?_
   simp only [Act.put, Xa, Xz, Xs]
   refine wl_cell 3 (.tmp 34) (.int .i64 (r.length : Int)) (own_row 0 rfl) rfl rfl rfl rfl Try.isAgg3 ?_
   simp only [Act.put, Xa, Xz, Xs]
   refine wl_val (.bool (decide (12 ≤ (r.length : Int)))) rfl (fun w => run_cmp rfl rfl rfl Try.underlying3 rfl w) ?_
   simp only [Act.put, Xa, Xz, Xs]
   refine wl_nil ?_
   refine we_then ?_
   cases h4 : (decide (12 ≤ (r.length : Int)))
   ·
    skip
    have p4 : ¬ (12 ≤ (r.length : Int)) := of_decide_eq_false h4
    refine wc_false rfl ?_
    refine wc_skip ?_
    refine we_then ?_
    refine wc_seq ?_
    refine wc_seq ?_
    refine wc_region ?_
    refine wl_val (.slice ((G[(r[r.length - 1]!).toNat]!).np) ((G[(r[r.length - 1]!).toNat]!).X.length) ((G[(r[r.length - 1]!).toNat]!).nc)) rfl (fun _ => rfl) ?_
    simp only [Act.put, Xa, Xz, Xs]
    refine wl_val (.int .i64 (((G[(r[r.length - 1]!).toNat]!).X.length : Nat) : Int)) rfl (fun w => er_len rfl rfl Try.underlying63 w) ?_
    simp only [Act.put, Xa, Xz, Xs]
    refine wl_val (.int .i64 0) rfl (fun _ => rfl) ?_
    simp only [Act.put, Xa, Xz, Xs]
    refine wl_nil ?_
    refine we_then ?_
    refine wc_block ?_
    refine wc_base (fun W21 hE21 => ?_)
    have b21 : But [b] w W21 := But.of_below hE21.below
    have X21 := X.turn b21 (own_env X.own hE21)
    have hB21 := hB.trans b21
    have hg1 := hE21.rowAt (i := 0) rfl
    have hxi : (nxt G r).length = (G[(r[r.length - 1]!).toNat]!).X.length := rfl
    refine wc_loopb (fun (zz : Nat × Nat × DataW Unit × List Ro × Value × Value × Value × Value × Value × Value × Value × Value × Value × Value × Value × Value × Value × Value × Value × Value × Value × Value) => match zz with | ⟨i, n1, D1, K1, u8, u11, u40, u41, u42, u43, u44, u45, u46, u47, u48, u49, u50, u51, u52, u53, u54, u55⟩ => ({ tmps := #[.agg #[.int .i64 (r.length : Int), .int .i64 (pad r 0), .int .i64 (pad r 1), .int .i64 (pad r 2), .int .i64 (pad r 3), .int .i64 (pad r 4), .int .i64 (pad r 5), .int .i64 (pad r 6), .int .i64 (pad r 7), .int .i64 (pad r 8), .int .i64 (pad r 9), .int .i64 (pad r 10), .int .i64 (pad r 11)], .int .i64 (endR G f r), .pointer (some ⟨bt, 0, none⟩), .pointer (some ⟨bp, 0, none⟩), .pointer (some ⟨bm, 0, none⟩), .pointer (some ⟨bx, 0, none⟩), .pointer (some ⟨g1, 0, none⟩), undef, u8, .slice ((G[(r[r.length - 1]!).toNat]!).np) ((G[(r[r.length - 1]!).toNat]!).X.length) ((G[(r[r.length - 1]!).toNat]!).nc), undef, u11, .agg #[.slice p G.length c, .slice q H.length d], .agg #[.int .i64 (r.length : Int), .int .i64 (pad r 0), .int .i64 (pad r 1), .int .i64 (pad r 2), .int .i64 (pad r 3), .int .i64 (pad r 4), .int .i64 (pad r 5), .int .i64 (pad r 6), .int .i64 (pad r 7), .int .i64 (pad r 8), .int .i64 (pad r 9), .int .i64 (pad r 10), .int .i64 (pad r 11)], .slice ((G[(r[r.length - 1]!).toNat]!).np) ((G[(r[r.length - 1]!).toNat]!).X.length) ((G[(r[r.length - 1]!).toNat]!).nc), .int .i64 (endR G f r), .pointer (some ⟨bp, 1, none⟩), .int .i64 hi, .bool false, .bool false, .slice ((G[(r[r.length - 1]!).toNat]!).np) ((G[(r[r.length - 1]!).toNat]!).X.length) ((G[(r[r.length - 1]!).toNat]!).nc), .int .i64 (((G[(r[r.length - 1]!).toNat]!).X.length : Nat) : Int), .bool false, .bool false, undef, undef, undef, undef, undef, undef, undef, undef, undef, undef, .pointer (some ⟨g1, 0, none⟩), .int .i64 (r.length : Int), .bool false, .slice ((G[(r[r.length - 1]!).toNat]!).np) ((G[(r[r.length - 1]!).toNat]!).X.length) ((G[(r[r.length - 1]!).toNat]!).nc), .int .i64 (((G[(r[r.length - 1]!).toNat]!).X.length : Nat) : Int), .int .i64 (i : Int), u40, u41, u42, u43, u44, u45, u46, u47, u48, u49, u50, u51, u52, u53, u54, u55], defers := [] } : Act)) (fun (zz : Nat × Nat × DataW Unit × List Ro × Value × Value × Value × Value × Value × Value × Value × Value × Value × Value × Value × Value × Value × Value × Value × Value × Value × Value) => match zz with | ⟨i, n1, D1, K1, u8, u11, u40, u41, u42, u43, u44, u45, u46, u47, u48, u49, u50, u51, u52, u53, u54, u55⟩ => (fun w9 => i ≤ (nxt G r).length ∧ ExIn G p c q H.length d lo hi bt bp bm bx b w9 n1 D1 ∧ But [b] W21 w9 ∧ Keys D1 K1 ∧ Ds G f hi lo (ons r ((nxt G r).take i)) K K1 true ∧ n1 ≤ n + i * 2 ^ (13 - (r.length + 1)) ∧ w9.heap[g1]? = some (.cells #[.int .i64 (r.length : Int), .int .i64 (pad r 0), .int .i64 (pad r 1), .int .i64 (pad r 2), .int .i64 (pad r 3), .int .i64 (pad r 4), .int .i64 (pad r 5), .int .i64 (pad r 6), .int .i64 (pad r 7), .int .i64 (pad r 8), .int .i64 (pad r 9), .int .i64 (pad r 10), .int .i64 (pad r 11)] 92 (0, 0)))) (fun (zz : Nat × Nat × DataW Unit × List Ro × Value × Value × Value × Value × Value × Value × Value × Value × Value × Value × Value × Value × Value × Value × Value × Value × Value × Value) => match zz with | ⟨i, n1, D1, K1, u8, u11, u40, u41, u42, u43, u44, u45, u46, u47, u48, u49, u50, u51, u52, u53, u54, u55⟩ => (nxt G r).length - i) ⟨0, n, D, K, _, _, _, _, _, _, _, _, _, _, _, _, _, _, _, _, _, _⟩ (fun w9 hE9 => ⟨Nat.zero_le _, X21.turn (But.of_below hE9.below) (own_env X21.own hE9), But.of_below hE9.below, hK, by rw [List.take_zero]; exact ds_nil hk, by omega, below_row hE9.below (lt_of_row hg1) hg1⟩) rfl ?_
    rintro ⟨i, n1, D1, K1, u8, u11, u40, u41, u42, u43, u44, u45, u46, u47, u48, u49, u50, u51, u52, u53, u54, u55⟩ w1 hφ
    (try dsimp only at hφ ⊢)
    obtain ⟨b1, X22, b22, j1, j2, j3, hbox⟩ := hφ
    have hB22 := hB21.trans b22
    refine wc_seq ?_
    refine wc_region ?_
    refine wl_val (.bool (decide ((i : Int) < (((G[(r[r.length - 1]!).toNat]!).X.length : Nat) : Int)))) rfl (fun w => run_cmp rfl rfl rfl Try.underlying3 rfl w) ?_
    simp only [Act.put, Xa, Xz, Xs]
    refine wl_nil ?_
    refine we_then ?_
    refine wc_seq ?_
    cases h5 : (decide ((i : Int) < (((G[(r[r.length - 1]!).toNat]!).X.length : Nat) : Int)))
    ·
     skip
     have p5 : ¬ ((i : Int) < (((G[(r[r.length - 1]!).toNat]!).X.length : Nat) : Int)) := of_decide_eq_false h5
     refine wc_false rfl ?_
     refine wc_exit ?_
     refine we_then_exit ?_
     refine we_then_exit ?_
     refine we_in_here ?_
     refine we_then ?_
     refine wc_seq ?_
     refine wc_region ?_
     refine wl_val (.bool true) rfl (fun _ => rfl) ?_
     simp only [Act.put, Xa, Xz, Xs]
     refine wl_nil ?_
     refine we_then ?_
     refine wc_ret ?_
     refine we_ret1 (.bool true) rfl rfl rfl (fun w1 hE => ?_)
     have e9 : i = (nxt G r).length := by omega
     rw [e9, List.take_length] at j2
     have hpw := pw_snoc (l := r.length) (by omega)
     have hpi : i * 2 ^ (13 - (r.length + 1)) ≤ 2 * 2 ^ (13 - (r.length + 1)) := Nat.mul_le_mul_right _ (by omega)
     exact ⟨true, _, _, K1, ⟨ds_step (fun k => k.elim (fun k => p2 k) (fun k => by have k2 : (G[(r[r.length - 1]!).toNat]!).X.length = 0 := (by show (nxt G r).length = 0; rw [k]; rfl); omega)) (by omega) j2, j1, by omega, hB22.trans (But.of_below hE.below), own_env X22.own hE⟩, rfl⟩
    ·
     skip
     have p5 : (i : Int) < (((G[(r[r.length - 1]!).toNat]!).X.length : Nat) : Int) := of_decide_eq_true h5
     refine wc_true rfl ?_
     refine wc_skip ?_
     refine we_then ?_
     refine wc_seq ?_
     refine wc_block ?_
     refine wc_seq ?_
     refine wc_region ?_
     refine wl_read (eaddr ((G[(r[r.length - 1]!).toNat]!).np) (i * 1)) rfl (er_index i 1 (sl_old (sg_at X22.hG hix).x) rfl rfl rfl rfl (by omega) (flat_length (enc := enc1) (size := 1) (fun _ => rfl) _) (by decide) Try.underlying63 (by kernel_rfl)) ?_
     simp only [Act.put, Xa, Xz, Xs]
     refine wl_read (.int .i64 (((G[(r[r.length - 1]!).toNat]!).X)[i]!)) rfl (er_cell (i * 1) (.int .i64 (((G[(r[r.length - 1]!).toNat]!).X)[i]!)) (sl_old (sg_at X22.hG hix).x) rfl rfl (flat_cell (enc := enc1) (fun _ => rfl) ((G[(r[r.length - 1]!).toNat]!).X) i 0 (by omega) (by decide)) Try.isAgg3) ?_
     simp only [Act.put, Xa, Xz, Xs]
     refine wl_val (.int .i64 (((G[(r[r.length - 1]!).toNat]!).X)[i]!)) rfl (fun _ => rfl) ?_
     simp only [Act.put, Xa, Xz, Xs]
     refine wl_nil ?_
     refine we_then ?_
     refine wc_seq ?_
     have q5 : ((nxt G r)[i]!) ∈ nxt G r := by rw [getElem!_pos (nxt G r) i (by omega)]; exact List.getElem_mem _
     have q6 := wf_snoc hM.segs hr (by omega) q5
     have q7 := (hM.segs (r[r.length - 1]!).toNat hix).each i (by omega)
     have q8 : 0 ≤ ((nxt G r)[i]!) ∧ ((nxt G r)[i]!) < G.length := q7
     have l1 := (hM.segs (((nxt G r)[i]!)).toNat (by omega)).low
     have l2 := (hM.segs (((nxt G r)[i]!)).toNat (by omega)).high
     have hen : endR G f (r ++ [((nxt G r)[i]!)]) = endR G f r + (G[(((nxt G r)[i]!)).toNat]!).len := by have := end_snoc G f (r ++ [((nxt G r)[i]!)]) (i := r.length) (by simp); rw [List.take_of_length_le (by simp), List.take_left, get_end] at this; exact this
     refine wc_draw_back (Γ := Bool × Nat × DataW Unit × List Ro) 10 (fun γ9 j9 => [.func (.func 50) #[] #[.pointer (some ⟨bt, 0, none⟩), .pointer (some ⟨bp, 0, none⟩), .pointer (some ⟨bm, 0, none⟩), .pointer (some ⟨bx, 0, none⟩)], .agg #[.int .i64 (r.length : Int), .int .i64 (pad r 0), .int .i64 (pad r 1), .int .i64 (pad r 2), .int .i64 (pad r 3), .int .i64 (pad r 4), .int .i64 (pad r 5), .int .i64 (pad r 6), .int .i64 (pad r 7), .int .i64 (pad r 8), .int .i64 (pad r 9), .int .i64 (pad r 10), .int .i64 (pad r 11)], .int .i64 ((nxt G r)[i]!), .agg #[.int .i64 (((r ++ [((nxt G r)[i]!)]).length : Nat) : Int), .int .i64 (pad (r ++ [((nxt G r)[i]!)]) 0), .int .i64 (pad (r ++ [((nxt G r)[i]!)]) 1), .int .i64 (pad (r ++ [((nxt G r)[i]!)]) 2), .int .i64 (pad (r ++ [((nxt G r)[i]!)]) 3), .int .i64 (pad (r ++ [((nxt G r)[i]!)]) 4), .int .i64 (pad (r ++ [((nxt G r)[i]!)]) 5), .int .i64 (pad (r ++ [((nxt G r)[i]!)]) 6), .int .i64 (pad (r ++ [((nxt G r)[i]!)]) 7), .int .i64 (pad (r ++ [((nxt G r)[i]!)]) 8), .int .i64 (pad (r ++ [((nxt G r)[i]!)]) 9), .int .i64 (pad (r ++ [((nxt G r)[i]!)]) 10), .int .i64 (pad (r ++ [((nxt G r)[i]!)]) 11)], .int .i64 (endR G f r), .agg #[.slice p G.length c, .slice q H.length d], .int .i64 ((nxt G r)[i]!), .agg #[.int .i64 (G[(((nxt G r)[i]!)).toNat]!).len, .slice (G[(((nxt G r)[i]!)).toNat]!).pp (G[(((nxt G r)[i]!)).toNat]!).P.length (G[(((nxt G r)[i]!)).toNat]!).pc, .slice (G[(((nxt G r)[i]!)).toNat]!).np (G[(((nxt G r)[i]!)).toNat]!).X.length (G[(((nxt G r)[i]!)).toNat]!).nc], .int .i64 (G[(((nxt G r)[i]!)).toNat]!).len, .int .i64 (endR G f (r ++ [((nxt G r)[i]!)])), .bool γ9.1, .bool (!γ9.1)].getD j9 undef) (fun _ _ => []) (fun _ _ => True) (fun γ9 w9 => ExIn G p c q H.length d lo hi bt bp bm bx b w9 γ9.2.1 γ9.2.2.1 ∧ But [b] w1 w9 ∧ Keys γ9.2.2.1 γ9.2.2.2 ∧ Ds G f hi lo [r ++ [((nxt G r)[i]!)]] K1 γ9.2.2.2 γ9.1 ∧ γ9.2.1 ≤ n1 + 2 ^ (13 - (r.length + 1))) (false, 0, .map [], []) 56 (fun γ9 => ({ tmps := #[.agg #[.int .i64 (r.length : Int), .int .i64 (pad r 0), .int .i64 (pad r 1), .int .i64 (pad r 2), .int .i64 (pad r 3), .int .i64 (pad r 4), .int .i64 (pad r 5), .int .i64 (pad r 6), .int .i64 (pad r 7), .int .i64 (pad r 8), .int .i64 (pad r 9), .int .i64 (pad r 10), .int .i64 (pad r 11)], .int .i64 (endR G f r), .pointer (some ⟨bt, 0, none⟩), .pointer (some ⟨bp, 0, none⟩), .pointer (some ⟨bm, 0, none⟩), .pointer (some ⟨bx, 0, none⟩), .pointer (some ⟨g1, 0, none⟩), undef, u8, .slice ((G[(r[r.length - 1]!).toNat]!).np) ((G[(r[r.length - 1]!).toNat]!).X.length) ((G[(r[r.length - 1]!).toNat]!).nc), undef, .int .i64 (((G[(r[r.length - 1]!).toNat]!).X)[i]!), .agg #[.slice p G.length c, .slice q H.length d], .agg #[.int .i64 (r.length : Int), .int .i64 (pad r 0), .int .i64 (pad r 1), .int .i64 (pad r 2), .int .i64 (pad r 3), .int .i64 (pad r 4), .int .i64 (pad r 5), .int .i64 (pad r 6), .int .i64 (pad r 7), .int .i64 (pad r 8), .int .i64 (pad r 9), .int .i64 (pad r 10), .int .i64 (pad r 11)], .slice ((G[(r[r.length - 1]!).toNat]!).np) ((G[(r[r.length - 1]!).toNat]!).X.length) ((G[(r[r.length - 1]!).toNat]!).nc), .int .i64 (endR G f r), .pointer (some ⟨bp, 1, none⟩), .int .i64 hi, .bool false, .bool false, .slice ((G[(r[r.length - 1]!).toNat]!).np) ((G[(r[r.length - 1]!).toNat]!).X.length) ((G[(r[r.length - 1]!).toNat]!).nc), .int .i64 (((G[(r[r.length - 1]!).toNat]!).X.length : Nat) : Int), .bool false, .bool false, undef, undef, undef, undef, undef, undef, undef, undef, undef, undef, .pointer (some ⟨g1, 0, none⟩), .int .i64 (r.length : Int), .bool false, .slice ((G[(r[r.length - 1]!).toNat]!).np) ((G[(r[r.length - 1]!).toNat]!).X.length) ((G[(r[r.length - 1]!).toNat]!).nc), .int .i64 (((G[(r[r.length - 1]!).toNat]!).X.length : Nat) : Int), .int .i64 (i : Int), .bool true, eaddr ((G[(r[r.length - 1]!).toNat]!).np) (i * 1), .int .i64 (((G[(r[r.length - 1]!).toNat]!).X)[i]!), .func (.func 50) #[] #[.pointer (some ⟨bt, 0, none⟩), .pointer (some ⟨bp, 0, none⟩), .pointer (some ⟨bm, 0, none⟩), .pointer (some ⟨bx, 0, none⟩)], .agg #[.int .i64 (r.length : Int), .int .i64 (pad r 0), .int .i64 (pad r 1), .int .i64 (pad r 2), .int .i64 (pad r 3), .int .i64 (pad r 4), .int .i64 (pad r 5), .int .i64 (pad r 6), .int .i64 (pad r 7), .int .i64 (pad r 8), .int .i64 (pad r 9), .int .i64 (pad r 10), .int .i64 (pad r 11)], .int .i64 ((nxt G r)[i]!), .agg #[.int .i64 (((r ++ [((nxt G r)[i]!)]).length : Nat) : Int), .int .i64 (pad (r ++ [((nxt G r)[i]!)]) 0), .int .i64 (pad (r ++ [((nxt G r)[i]!)]) 1), .int .i64 (pad (r ++ [((nxt G r)[i]!)]) 2), .int .i64 (pad (r ++ [((nxt G r)[i]!)]) 3), .int .i64 (pad (r ++ [((nxt G r)[i]!)]) 4), .int .i64 (pad (r ++ [((nxt G r)[i]!)]) 5), .int .i64 (pad (r ++ [((nxt G r)[i]!)]) 6), .int .i64 (pad (r ++ [((nxt G r)[i]!)]) 7), .int .i64 (pad (r ++ [((nxt G r)[i]!)]) 8), .int .i64 (pad (r ++ [((nxt G r)[i]!)]) 9), .int .i64 (pad (r ++ [((nxt G r)[i]!)]) 10), .int .i64 (pad (r ++ [((nxt G r)[i]!)]) 11)], .int .i64 (endR G f r), .agg #[.slice p G.length c, .slice q H.length d], .int .i64 ((nxt G r)[i]!), .agg #[.int .i64 (G[(((nxt G r)[i]!)).toNat]!).len, .slice (G[(((nxt G r)[i]!)).toNat]!).pp (G[(((nxt G r)[i]!)).toNat]!).P.length (G[(((nxt G r)[i]!)).toNat]!).pc, .slice (G[(((nxt G r)[i]!)).toNat]!).np (G[(((nxt G r)[i]!)).toNat]!).X.length (G[(((nxt G r)[i]!)).toNat]!).nc], .int .i64 (G[(((nxt G r)[i]!)).toNat]!).len, .int .i64 (endR G f (r ++ [((nxt G r)[i]!)])), .bool γ9.1, .bool (!γ9.1), u55], defers := [] } : Act)) (by kernel_rfl) rfl (by kernel_rfl) rfl trivial (by decide) (fun _ => by kernel_rfl) ?_ ?_ ?_ ?_
     ·
      intro i9 o9 ho9 hi9
      rcases (show i9 = 0 ∨ i9 = 1 ∨ i9 = 2 ∨ i9 = 3 ∨ i9 = 4 ∨ i9 = 5 ∨ i9 = 6 ∨ i9 = 7 ∨ i9 = 8 ∨ i9 = 9 by omega) with rfl | rfl | rfl | rfl | rfl | rfl | rfl | rfl | rfl | rfl
      ·
       obtain rfl := Option.some.inj ho9
       refine ⟨fun ld γ9 a9 h9 => ?_, ?_⟩
       ·
        have dl10 : ld 10 = false := h9.non (by kernel_rfl)
        exact dl10
       ·
        exact sp_val (.func (.func 50) #[] #[.pointer (some ⟨bt, 0, none⟩), .pointer (some ⟨bp, 0, none⟩), .pointer (some ⟨bm, 0, none⟩), .pointer (some ⟨bx, 0, none⟩)]) rfl (fun _ => rfl) (fun _ _ h => h) (fun _ _ => rfl) (fun ld γ9 a9 w9 h9 hE9 => load_cell (below_row hE9.below (lt_of_row X22.hbx) X22.hbx) rfl rfl (h9.out (by kernel_rfl) rfl) Try.isAgg119)
      ·
       obtain rfl := Option.some.inj ho9
       refine ⟨fun ld γ9 a9 h9 => ?_, ?_⟩
       ·
        have dl3 : ld 3 = false := h9.non (by kernel_rfl)
        have dl10 : ld 10 = false := h9.non2 3 dl3 (by kernel_rfl)
        exact dl10
       ·
        exact sp_val (.agg #[.int .i64 (r.length : Int), .int .i64 (pad r 0), .int .i64 (pad r 1), .int .i64 (pad r 2), .int .i64 (pad r 3), .int .i64 (pad r 4), .int .i64 (pad r 5), .int .i64 (pad r 6), .int .i64 (pad r 7), .int .i64 (pad r 8), .int .i64 (pad r 9), .int .i64 (pad r 10), .int .i64 (pad r 11)]) rfl (fun _ => rfl) (fun _ _ h => h) (fun _ _ => rfl) (fun ld γ9 a9 w9 h9 hE9 => load_row (below_row hE9.below (lt_of_row hbox) hbox) rfl (h9.out (by kernel_rfl) rfl) Try.underlying92 rfl (by kernel_rfl))
      ·
       obtain rfl := Option.some.inj ho9
       refine ⟨fun ld γ9 a9 h9 => ?_, ?_⟩
       ·
        have dl3 : ld 3 = false := h9.non (by kernel_rfl)
        have dl10 : ld 10 = false := h9.non2 3 dl3 (by kernel_rfl)
        exact dl10
       ·
        exact sp_val (.int .i64 ((nxt G r)[i]!)) rfl (fun _ => rfl) (fun _ _ h => h) (fun _ _ => rfl) (fun ld γ9 a9 w9 h9 hE9 => run_moveg (by rfl) (h9.out (by kernel_rfl) rfl))
      ·
       obtain rfl := Option.some.inj ho9
       refine ⟨fun ld γ9 a9 h9 => ?_, ?_⟩
       ·
        have dl10 : ld 10 = false := h9.non (by kernel_rfl)
        exact dl10
       ·
        refine sp_callg 41 (fun _ => .agg #[.int .i64 (((r ++ [((nxt G r)[i]!)]).length : Nat) : Int), .int .i64 (pad (r ++ [((nxt G r)[i]!)]) 0), .int .i64 (pad (r ++ [((nxt G r)[i]!)]) 1), .int .i64 (pad (r ++ [((nxt G r)[i]!)]) 2), .int .i64 (pad (r ++ [((nxt G r)[i]!)]) 3), .int .i64 (pad (r ++ [((nxt G r)[i]!)]) 4), .int .i64 (pad (r ++ [((nxt G r)[i]!)]) 5), .int .i64 (pad (r ++ [((nxt G r)[i]!)]) 6), .int .i64 (pad (r ++ [((nxt G r)[i]!)]) 7), .int .i64 (pad (r ++ [((nxt G r)[i]!)]) 8), .int .i64 (pad (r ++ [((nxt G r)[i]!)]) 9), .int .i64 (pad (r ++ [((nxt G r)[i]!)]) 10), .int .i64 (pad (r ++ [((nxt G r)[i]!)]) 11)]) rfl (fun _ => rfl) (fun _ _ h => h) (fun _ _ => rfl) (fun ld γ9 a9 w9 h9 hF9 hE9 => ?_)
        have e0 : a9.eval (.tmp 44) = .agg #[.int .i64 (r.length : Int), .int .i64 (pad r 0), .int .i64 (pad r 1), .int .i64 (pad r 2), .int .i64 (pad r 3), .int .i64 (pad r 4), .int .i64 (pad r 5), .int .i64 (pad r 6), .int .i64 (pad r 7), .int .i64 (pad r 8), .int .i64 (pad r 9), .int .i64 (pad r 10), .int .i64 (pad r 11)] := (h9.tmp 1 rfl (h9.dep (by kernel_rfl)))
        have e1 : a9.eval (.tmp 45) = .int .i64 ((nxt G r)[i]!) := (h9.tmp 2 rfl (h9.dep (by kernel_rfl)))
        exact ⟨#[.agg #[.int .i64 (r.length : Int), .int .i64 (pad r 0), .int .i64 (pad r 1), .int .i64 (pad r 2), .int .i64 (pad r 3), .int .i64 (pad r 4), .int .i64 (pad r 5), .int .i64 (pad r 6), .int .i64 (pad r 7), .int .i64 (pad r 8), .int .i64 (pad r 9), .int .i64 (pad r 10), .int .i64 (pad r 11)], .int .i64 ((nxt G r)[i]!)], er_callg (enters_of Try.func41 (by kernel_rfl) rfl) rfl (by simp only [List.map_toArray, List.map_cons, List.map_nil, e0, e1]) w9, snoc_any r ((nxt G r)[i]!) w9 (by omega)⟩
      ·
       obtain rfl := Option.some.inj ho9
       refine ⟨fun ld γ9 a9 h9 => ?_, ?_⟩
       ·
        have dl9 : ld 9 = false := h9.non (by kernel_rfl)
        have dl10 : ld 10 = false := h9.non2 9 dl9 (by kernel_rfl)
        exact dl10
       ·
        exact sp_val (.int .i64 (endR G f r)) rfl (fun _ => rfl) (fun _ _ h => h) (fun _ _ => rfl) (fun ld γ9 a9 w9 h9 hE9 => run_moveg (by rfl) (h9.out (by kernel_rfl) rfl))
      ·
       obtain rfl := Option.some.inj ho9
       refine ⟨fun ld γ9 a9 h9 => ?_, ?_⟩
       ·
        have dl7 : ld 7 = false := h9.non (by kernel_rfl)
        have dl10 : ld 10 = false := h9.non2 7 dl7 (by kernel_rfl)
        exact dl10
       ·
        exact sp_val (.agg #[.slice p G.length c, .slice q H.length d]) rfl (fun _ => rfl) (fun _ _ h => h) (fun _ _ => rfl) (fun ld γ9 a9 w9 h9 hE9 => load_row (below_row hE9.below (lt_of_row X22.hbt) X22.hbt) rfl (h9.out (by kernel_rfl) rfl) Try.underlying27 rfl (by kernel_rfl))
      ·
       obtain rfl := Option.some.inj ho9
       refine ⟨fun ld γ9 a9 h9 => ?_, ?_⟩
       ·
        have dl7 : ld 7 = false := h9.non (by kernel_rfl)
        have dl10 : ld 10 = false := h9.non2 7 dl7 (by kernel_rfl)
        exact dl10
       ·
        exact sp_val (.int .i64 ((nxt G r)[i]!)) rfl (fun _ => rfl) (fun _ _ h => h) (fun _ _ => rfl) (fun ld γ9 a9 w9 h9 hE9 => run_moveg (by rfl) (h9.out (by kernel_rfl) rfl))
      ·
       obtain rfl := Option.some.inj ho9
       refine ⟨fun ld γ9 a9 h9 => ?_, ?_⟩
       ·
        have dl10 : ld 10 = false := h9.non (by kernel_rfl)
        exact dl10
       ·
        refine sp_callg 52 (fun _ => .agg #[.int .i64 (G[(((nxt G r)[i]!)).toNat]!).len, .slice (G[(((nxt G r)[i]!)).toNat]!).pp (G[(((nxt G r)[i]!)).toNat]!).P.length (G[(((nxt G r)[i]!)).toNat]!).pc, .slice (G[(((nxt G r)[i]!)).toNat]!).np (G[(((nxt G r)[i]!)).toNat]!).X.length (G[(((nxt G r)[i]!)).toNat]!).nc]) rfl (fun _ => rfl) (fun _ _ h => h) (fun _ _ => rfl) (fun ld γ9 a9 w9 h9 hF9 hE9 => ?_)
        have e0 : a9.eval (.tmp 48) = .agg #[.slice p G.length c, .slice q H.length d] := (h9.tmp 5 rfl (h9.dep (by kernel_rfl)))
        have e1 : a9.eval (.tmp 49) = .int .i64 ((nxt G r)[i]!) := (h9.tmp 6 rfl (h9.dep (by kernel_rfl)))
        exact ⟨#[.agg #[.slice p G.length c, .slice q H.length d], .int .i64 ((nxt G r)[i]!)], er_callg (enters_of Try.func52 (by kernel_rfl) rfl) rfl (by simp only [List.map_toArray, List.map_cons, List.map_nil, e0, e1]) w9, at_any G H p q c d ((nxt G r)[i]!) w9 (reads_below X22.hS hE9.below) (oks_below X22.hG hE9.below) (by omega) q8.1 q8.2⟩
      ·
       obtain rfl := Option.some.inj ho9
       refine ⟨fun ld γ9 a9 h9 => ?_, ?_⟩
       ·
        have dl9 : ld 9 = false := h9.non (by kernel_rfl)
        have dl10 : ld 10 = false := h9.non2 9 dl9 (by kernel_rfl)
        exact dl10
       ·
        exact sp_val (.int .i64 (G[(((nxt G r)[i]!)).toNat]!).len) rfl (fun _ => rfl) (fun _ _ h => h) (fun _ _ => rfl) (fun ld γ9 a9 w9 h9 hE9 => run_field0 rfl (h9.tmp 7 rfl (h9.dep (by kernel_rfl))) (fun _ => by kernel_rfl) w9)
      ·
       obtain rfl := Option.some.inj ho9
       refine ⟨fun ld γ9 a9 h9 => ?_, ?_⟩
       ·
        have dl10 : ld 10 = false := h9.non (by kernel_rfl)
        exact dl10
       ·
        exact sp_val (.int .i64 (endR G f (r ++ [((nxt G r)[i]!)]))) rfl (fun _ => rfl) (fun _ _ h => h) (fun _ _ => rfl) (fun ld γ9 a9 w9 h9 hE9 => by rw [hen]; exact run_arith (op := .add) rfl (h9.tmp 4 rfl (h9.dep (by kernel_rfl))) (h9.tmp 8 rfl (h9.dep (by kernel_rfl))) Try.underlying2 (congrArg some (i64_in (by omega) (by omega))) w9)
     ·
      intro o9 ho9 ld γ9 a9 w9 h9 hF9 hE9 Kc hK9
      obtain rfl := Option.some.inj ho9
      refine h9.go rfl ?_
      rw [er_value2 (CB := #[.pointer (some ⟨bt, 0, none⟩), .pointer (some ⟨bp, 0, none⟩), .pointer (some ⟨bm, 0, none⟩), .pointer (some ⟨bx, 0, none⟩)]) (enters_of Try.func50 (by kernel_rfl) rfl) rfl (h9.tmp 0 rfl (h9.dep (by kernel_rfl))) (h9.tmp 3 rfl (h9.dep (by kernel_rfl))) (h9.tmp 9 rfl (h9.dep (by kernel_rfl))) w9]
      have h8 := ih (r ++ [((nxt G r)[i]!)]) n1 D1 K1 w9 (by simp) (by simp; omega) (X22.turn (But.of_below hE9.below) (own_env X22.own hE9)) j1 (ds_few j2 rfl) q6 (by have := pw_snoc (l := r.length) (by omega); have hpi : (i + 1) * 2 ^ (13 - (r.length + 1)) ≤ 2 * 2 ^ (13 - (r.length + 1)) := Nat.mul_le_mul_right _ (by omega); have hpj : (i + 1) * 2 ^ (13 - (r.length + 1)) = i * 2 ^ (13 - (r.length + 1)) + 2 ^ (13 - (r.length + 1)) := Nat.succ_mul _ _; rw [List.length_append, List.length_singleton]; omega)
      refine Calls.mono (by exact h8) ?_
      rintro e w' ⟨ok2, n2, D2, K2, ⟨d1, k2, m2, b2, o2⟩, rfl⟩
      have d10 : ld 10 = false := h9.off
      have d11 : ld 11 = false := h9.non (by kernel_rfl)
      refine hK9 (ok2, n2, D2, K2) w' ?_ ⟨(X22.turn (But.of_below hE9.below) (own_env X22.own hE9)).turn b2 o2, (But.of_below hE9.below).trans b2, k2, d1, by rw [List.length_append, List.length_singleton] at m2; exact m2⟩
      intro k hk
      have hk2 : k < 12 := h9.within k hk
      have hb : k = 0 ∨ k = 1 ∨ k = 2 ∨ k = 3 ∨ k = 4 ∨ k = 5 ∨ k = 6 ∨ k = 7 ∨ k = 8 ∨ k = 9 ∨ k = 10 ∨ k = 11 := by omega
      rcases hb with rfl | rfl | rfl | rfl | rfl | rfl | rfl | rfl | rfl | rfl | rfl | rfl
      ·
       rfl
      ·
       rfl
      ·
       rfl
      ·
       rfl
      ·
       rfl
      ·
       rfl
      ·
       rfl
      ·
       rfl
      ·
       rfl
      ·
       rfl
      ·
       rw [d10] at hk; cases hk
      ·
       rw [d11] at hk; cases hk
     ·
      intro i9 o9 ho9 hi9
      have hl9 : i9 < 12 := (List.getElem?_eq_some_iff.1 ho9).1
      obtain rfl : i9 = 11 := by omega
      obtain rfl := Option.some.inj ho9
      exact ⟨rfl, fun ld γ9 a9 h9 => h9.dep (by kernel_rfl), fun ld γ9 a9 w9 h9 => run_notg rfl (h9.tmp 10 rfl (h9.dep (by kernel_rfl))) w9⟩
     ·
      rintro ⟨ok2, n2, D2, K2⟩ w2 ⟨X23, b2, k2, d2, m2⟩
      (try dsimp only at X23 k2 d2 m2 ⊢)
      have hB23 := hB22.trans b2
      have hbox2 := but_row X22.own b2 hbox
      refine we_then ?_
      cases h6 : (ok2)
      ·
       skip
       refine wc_true rfl ?_
       refine wc_seq ?_
       refine wc_region ?_
       refine wl_val (.bool false) rfl (fun _ => rfl) ?_
       simp only [Act.put, Xa, Xz, Xs]
       refine wl_nil ?_
       refine we_then ?_
       refine wc_ret ?_
       refine we_in_ret ?_
       refine we_then_ret ?_
       refine we_then_ret ?_
       refine we_in_ret ?_
       refine we_then_ret ?_
       refine we_ret1 (.bool false) rfl rfl rfl (fun w1 hE => ?_)
       have hpw := pw_snoc (l := r.length) (by omega)
       have hpi : (i + 1) * 2 ^ (13 - (r.length + 1)) ≤ 2 * 2 ^ (13 - (r.length + 1)) := Nat.mul_le_mul_right _ (by omega)
       have hpj : (i + 1) * 2 ^ (13 - (r.length + 1)) = i * 2 ^ (13 - (r.length + 1)) + 2 ^ (13 - (r.length + 1)) := Nat.succ_mul _ _
       rw [h6] at d2
       have d3 := ds_app j2 d2
       rw [← ons_take (by omega)] at d3
       have d4 := ds_more (U := ons r ((nxt G r).drop (i + 1))) d3
       rw [← ons_split (i + 1)] at d4
       exact ⟨false, _, _, K2, ⟨ds_step (fun k => k.elim (fun k => p2 k) (fun k => by have k2 : (G[(r[r.length - 1]!).toNat]!).X.length = 0 := (by show (nxt G r).length = 0; rw [k]; rfl); omega)) (by omega) d4, k2, by omega, hB23.trans (But.of_below hE.below), own_env X23.own hE⟩, rfl⟩
      ·
       skip
       refine wc_false rfl ?_
       refine wc_skip ?_
       refine we_in ?_
       refine we_then ?_
       refine wc_region ?_
       refine wl_val (.int .i64 ((i + 1 : Nat) : Int)) rfl (fun w => run_nat (X := i) (Y := 1) (Z := i + 1) rfl rfl rfl rfl (by omega) w) ?_
       simp only [Act.put, Xa, Xz, Xs]
       refine wl_val (.int .i64 ((i + 1 : Nat) : Int)) rfl (fun _ => rfl) ?_
       simp only [Act.put, Xa, Xz, Xs]
       refine wl_nil ?_
       have hpj : (i + 1) * 2 ^ (13 - (r.length + 1)) = i * 2 ^ (13 - (r.length + 1)) + 2 ^ (13 - (r.length + 1)) := Nat.succ_mul _ _
       rw [h6] at d2
       have d3 := ds_app j2 d2
       rw [← ons_take (by omega)] at d3
       exact we_meetb ⟨(i + 1), n2, D2, K2, _, _, _, _, _, _, _, _, _, _, _, _, _, _, _, _, _, _⟩ (fun w9 hE9 => ⟨⟨by (try dsimp only); omega, X23.turn (But.of_below hE9.below) (own_env X23.own hE9), (b22.trans b2).trans (But.of_below hE9.below), k2, d3, by (try dsimp only); omega, below_row hE9.below (lt_of_row hbox2) hbox2⟩, by (try dsimp only); omega⟩) rfl
   ·
    skip
    have p4 : 12 ≤ (r.length : Int) := of_decide_eq_true h4
    refine wc_true rfl ?_
    refine wc_seq ?_
    refine wc_region ?_
    refine wl_val (.bool false) rfl (fun _ => rfl) ?_
    simp only [Act.put, Xa, Xz, Xs]
    refine wl_nil ?_
    refine we_then ?_
    refine wc_ret ?_
    refine we_then_ret ?_
    refine we_ret1 (.bool false) rfl rfl rfl (fun w1 hE => ?_)
    have hpw := Nat.one_le_two_pow (n := 13 - r.length)
    exact ⟨false, _, _, K, ⟨ds_deep (fun k => k.elim (fun k => p2 k) (fun k => by have k2 : (G[(r[r.length - 1]!).toNat]!).X.length = 0 := (by show (nxt G r).length = 0; rw [k]; rfl); omega)) (by omega), hK, by omega, hB.trans (But.of_below hE.below), own_env X.own hE⟩, rfl⟩
  ·
   skip
   have p3 : (((G[(r[r.length - 1]!).toNat]!).X.length : Nat) : Int) = 0 := by first | (simp; done) | (simp at h3; done) | simpa using h3
   refine wc_true rfl ?_
   refine wc_seq ?_
   refine wc_seq ?_
   refine wc_region ?_
   refine wl_val (.int .i64 (endR G f r)) rfl (fun _ => rfl) ?_
   simp only [Act.put, Xa, Xz, Xs]
   refine wl_val (.pointer (some ⟨bp, 0, none⟩)) rfl (fun _ => by go_simp) ?_
   simp only [Act.put, Xa, Xz, Xs]
   refine wl_cell 2 (.tmp 25) (.int .i64 lo) (old_row X.hbp) rfl rfl rfl rfl Try.isAgg2 ?_
   simp only [Act.put, Xa, Xz, Xs]
   refine wl_val (.bool (decide (lo ≤ (endR G f r)))) rfl (fun w => run_cmp rfl rfl rfl Try.underlying2 rfl w) ?_
   simp only [Act.put, Xa, Xz, Xs]
   refine wl_nil ?_
   refine we_then ?_
   cases h7 : (decide (lo ≤ (endR G f r)))
   ·
    skip
    have p7 : ¬ (lo ≤ (endR G f r)) := of_decide_eq_false h7
    refine wc_false rfl ?_
    refine wc_skip ?_
    refine we_then ?_
    refine wc_seq ?_
    refine wc_region ?_
    refine wl_cell 109 (.tmp 4) (.map (some b)) (old_row X.hbm) rfl rfl rfl rfl Try.isAgg109 ?_
    simp only [Act.put, Xa, Xz, Xs]
    refine wl_map_len (ts := #[]) (k := 92) (e := 121) (t := 109) rfl rfl Try.underlying109 rfl X.own ?_
    rw [hK.size]
    simp only [Act.put, Xa, Xz, Xs]
    refine wl_val (.bool (decide ((K.length : Int) ≤ 16))) rfl (fun w => run_cmp rfl rfl rfl Try.underlying3 rfl w) ?_
    simp only [Act.put, Xa, Xz, Xs]
    refine wl_val (.bool (decide ((K.length : Int) ≤ 16))) rfl (fun _ => rfl) ?_
    simp only [Act.put, Xa, Xz, Xs]
    refine wl_nil ?_
    refine we_then ?_
    refine wc_ret ?_
    refine we_then_ret ?_
    refine we_ret1 (.bool (decide ((K.length : Int) ≤ 16))) rfl rfl rfl (fun w1 hE => ?_)
    have hpw := Nat.one_le_two_pow (n := 13 - r.length)
    rw [show (decide ((K.length : Int) ≤ 16)) = decide (K.length ≤ 16) from by first | rfl | exact decide_eq_decide.2 (by omega)]
    exact ⟨decide (K.length ≤ 16), _, _, K, ⟨ds_out (.inr (List.eq_nil_of_length_eq_zero (show (G[(r[r.length - 1]!).toNat]!).X.length = 0 by omega))) p7, hK, by omega, hB.trans (But.of_below hE.below), own_env X.own hE⟩, rfl⟩
   ·
    skip
    have p7 : lo ≤ (endR G f r) := of_decide_eq_true h7
    refine wc_true rfl ?_
    refine wc_region ?_
    refine wl_cell 109 (.tmp 4) (.map (some b)) (old_row X.hbm) rfl rfl rfl rfl Try.isAgg109 ?_
    simp only [Act.put, Xa, Xz, Xs]
    refine wl_load 92 (.tmp 6) (own_row 0 rfl) rfl rfl rfl Try.underlying92 rfl (by kernel_rfl) ?_
    simp only [Act.put, Xa, Xz, Xs]
    refine wl_val (.agg #[]) rfl (fun _ => by go_simp) ?_
    simp only [Act.put, Xa, Xz, Xs]
    refine wl_base (fun W24 hE24 => ?_)
    have b24 : But [b] w W24 := But.of_below hE24.below
    have X24 := X.turn b24 (own_env X.own hE24)
    have hB24 := hB.trans b24
    have hg1 := hE24.rowAt (i := 0) rfl
    obtain ⟨kl, hkl⟩ := key_of hr.ok (by omega : G.length ≤ 140737488355328)
    refine wl_map_update (k := 92) (e := 121) (t := 109) (key := rtv r) (val := .agg #[]) (d := .map []) (ps := []) rfl rfl Rkey.law Try.underlying109 rfl rfl rfl hkl rz_unit X24.own (Nat.lt_of_le_of_lt hnn (by unfold maxLen; decide)) ?_
    intro W25 b25 o25
    have X25 := X24.turn b25 o25
    have hB25 := hB24.trans b25
    obtain ⟨M, hKM, hMM⟩ := keys_put hK h12 hkl (.map [])
    simp only [Act.put]
    refine wl_nil ?_
    refine we_then ?_
    refine wc_seq ?_
    refine wc_region ?_
    refine wl_cell 109 (.tmp 4) (.map (some b)) (old_row X25.hbm) rfl rfl rfl rfl Try.isAgg109 ?_
    simp only [Act.put, Xa, Xz, Xs]
    refine wl_map_len (ts := #[]) (k := 92) (e := 121) (t := 109) rfl rfl Try.underlying109 rfl X25.own ?_
    rw [hKM.size]
    simp only [Act.put, Xa, Xz, Xs]
    refine wl_val (.bool (decide ((M.length : Int) ≤ 16))) rfl (fun w => run_cmp rfl rfl rfl Try.underlying3 rfl w) ?_
    simp only [Act.put, Xa, Xz, Xs]
    refine wl_val (.bool (decide ((M.length : Int) ≤ 16))) rfl (fun _ => rfl) ?_
    simp only [Act.put, Xa, Xz, Xs]
    refine wl_nil ?_
    refine we_then ?_
    refine wc_ret ?_
    refine we_then_ret ?_
    refine we_ret1 (.bool (decide ((M.length : Int) ≤ 16))) rfl rfl rfl (fun w1 hE => ?_)
    have hpw := Nat.one_le_two_pow (n := 13 - r.length)
    rw [show (decide ((M.length : Int) ≤ 16)) = decide (M.length ≤ 16) from by first | rfl | exact decide_eq_decide.2 (by omega)]
    exact ⟨decide (M.length ≤ 16), _, _, M, ⟨ds_put (.inr (List.eq_nil_of_length_eq_zero (show (G[(r[r.length - 1]!).toNat]!).X.length = 0 by omega))) p7 hMM, hKM, by omega, hB25.trans (But.of_below hE.below), own_env X25.own hE⟩, rfl⟩
 ·
  skip
  have p2 : hi ≤ (endR G f r) := of_decide_eq_true h2
  refine wl_skip rfl ?_
  simp only [Act.put, Xa, Xz, Xs]
  refine wl_skip rfl ?_
  simp only [Act.put, Xa, Xz, Xs]
  refine wl_skip rfl ?_
  simp only [Act.put, Xa, Xz, Xs]
  refine wl_val (.bool true) rfl (fun _ => rfl) ?_
  simp only [Act.put, Xa, Xz, Xs]
  refine wl_nil ?_
  refine we_then ?_
  refine wc_true rfl ?_
  refine wc_seq ?_
  refine wc_seq ?_
  refine wc_region ?_
  refine wl_val (.int .i64 (endR G f r)) rfl (fun _ => rfl) ?_
  simp only [Act.put, Xa, Xz, Xs]
  refine wl_val (.pointer (some ⟨bp, 0, none⟩)) rfl (fun _ => by go_simp) ?_
  simp only [Act.put, Xa, Xz, Xs]
  refine wl_cell 2 (.tmp 25) (.int .i64 lo) (old_row X.hbp) rfl rfl rfl rfl Try.isAgg2 ?_
  simp only [Act.put, Xa, Xz, Xs]
  refine wl_val (.bool (decide (lo ≤ (endR G f r)))) rfl (fun w => run_cmp rfl rfl rfl Try.underlying2 rfl w) ?_
  simp only [Act.put, Xa, Xz, Xs]
  refine wl_nil ?_
  refine we_then ?_
  cases h8 : (decide (lo ≤ (endR G f r)))
  ·
   skip
   have p8 : ¬ (lo ≤ (endR G f r)) := of_decide_eq_false h8
   refine wc_false rfl ?_
   refine wc_skip ?_
   refine we_then ?_
   refine wc_seq ?_
   refine wc_region ?_
   refine wl_cell 109 (.tmp 4) (.map (some b)) (old_row X.hbm) rfl rfl rfl rfl Try.isAgg109 ?_
   simp only [Act.put, Xa, Xz, Xs]
   refine wl_map_len (ts := #[]) (k := 92) (e := 121) (t := 109) rfl rfl Try.underlying109 rfl X.own ?_
   rw [hK.size]
   simp only [Act.put, Xa, Xz, Xs]
   refine wl_val (.bool (decide ((K.length : Int) ≤ 16))) rfl (fun w => run_cmp rfl rfl rfl Try.underlying3 rfl w) ?_
   simp only [Act.put, Xa, Xz, Xs]
   refine wl_val (.bool (decide ((K.length : Int) ≤ 16))) rfl (fun _ => rfl) ?_
   simp only [Act.put, Xa, Xz, Xs]
   refine wl_nil ?_
   refine we_then ?_
   refine wc_ret ?_
   refine we_then_ret ?_
   refine we_ret1 (.bool (decide ((K.length : Int) ≤ 16))) rfl rfl rfl (fun w1 hE => ?_)
   have hpw := Nat.one_le_two_pow (n := 13 - r.length)
   rw [show (decide ((K.length : Int) ≤ 16)) = decide (K.length ≤ 16) from by first | rfl | exact decide_eq_decide.2 (by omega)]
   exact ⟨decide (K.length ≤ 16), _, _, K, ⟨ds_out (.inl p2) p8, hK, by omega, hB.trans (But.of_below hE.below), own_env X.own hE⟩, rfl⟩
  ·
   skip
   have p8 : lo ≤ (endR G f r) := of_decide_eq_true h8
   refine wc_true rfl ?_
   refine wc_region ?_
   refine wl_cell 109 (.tmp 4) (.map (some b)) (old_row X.hbm) rfl rfl rfl rfl Try.isAgg109 ?_
   simp only [Act.put, Xa, Xz, Xs]
   refine wl_load 92 (.tmp 6) (own_row 0 rfl) rfl rfl rfl Try.underlying92 rfl (by kernel_rfl) ?_
   simp only [Act.put, Xa, Xz, Xs]
   refine wl_val (.agg #[]) rfl (fun _ => by go_simp) ?_
   simp only [Act.put, Xa, Xz, Xs]
   refine wl_base (fun W26 hE26 => ?_)
   have b26 : But [b] w W26 := But.of_below hE26.below
   have X26 := X.turn b26 (own_env X.own hE26)
   have hB26 := hB.trans b26
   have hg1 := hE26.rowAt (i := 0) rfl
   obtain ⟨kl, hkl⟩ := key_of hr.ok (by omega : G.length ≤ 140737488355328)
   refine wl_map_update (k := 92) (e := 121) (t := 109) (key := rtv r) (val := .agg #[]) (d := .map []) (ps := []) rfl rfl Rkey.law Try.underlying109 rfl rfl rfl hkl rz_unit X26.own (Nat.lt_of_le_of_lt hnn (by unfold maxLen; decide)) ?_
   intro W27 b27 o27
   have X27 := X26.turn b27 o27
   have hB27 := hB26.trans b27
   obtain ⟨M, hKM, hMM⟩ := keys_put hK h12 hkl (.map [])
   simp only [Act.put]
   refine wl_nil ?_
   refine we_then ?_
   refine wc_seq ?_
   refine wc_region ?_
   refine wl_cell 109 (.tmp 4) (.map (some b)) (old_row X27.hbm) rfl rfl rfl rfl Try.isAgg109 ?_
   simp only [Act.put, Xa, Xz, Xs]
   refine wl_map_len (ts := #[]) (k := 92) (e := 121) (t := 109) rfl rfl Try.underlying109 rfl X27.own ?_
   rw [hKM.size]
   simp only [Act.put, Xa, Xz, Xs]
   refine wl_val (.bool (decide ((M.length : Int) ≤ 16))) rfl (fun w => run_cmp rfl rfl rfl Try.underlying3 rfl w) ?_
   simp only [Act.put, Xa, Xz, Xs]
   refine wl_val (.bool (decide ((M.length : Int) ≤ 16))) rfl (fun _ => rfl) ?_
   simp only [Act.put, Xa, Xz, Xs]
   refine wl_nil ?_
   refine we_then ?_
   refine wc_ret ?_
   refine we_then_ret ?_
   refine we_ret1 (.bool (decide ((M.length : Int) ≤ 16))) rfl rfl rfl (fun w1 hE => ?_)
   have hpw := Nat.one_le_two_pow (n := 13 - r.length)
   rw [show (decide ((M.length : Int) ≤ 16)) = decide (M.length ≤ 16) from by first | rfl | exact decide_eq_decide.2 (by omega)]
   exact ⟨decide (M.length ≤ 16), _, _, M, ⟨ds_put (.inl p2) p8 hMM, hKM, by omega, hB27.trans (But.of_below hE.below), own_env X27.own hE⟩, rfl⟩
theorem extend_all (G : List Sg) (H : List Gp) (p q : Option Addr) (c d : Nat) (s0 f lo hi : Int) (bt bp bm bx b : Nat) (hM : TrackMay G H) (hC : ∀ s ∈ G, s.X.length ≤ s.nc) (hf : 0 ≤ f ∧ f ≤ 1099511627776) : ∀ (N : Nat) (r : Ro) (n : Nat) (D : DataW Unit) (K : List Ro) (w : World), 12 - r.length < N → ExIn G p c q H.length d lo hi bt bp bm bx b w n D → Keys D K → K.length ≤ 16 → RtWf G s0 r → n + 2 ^ (13 - r.length) ≤ 1000000 → Calls Try.prog 50 (#[.agg #[.int .i64 (r.length : Int), .int .i64 (pad r 0), .int .i64 (pad r 1), .int .i64 (pad r 2), .int .i64 (pad r 3), .int .i64 (pad r 4), .int .i64 (pad r 5), .int .i64 (pad r 6), .int .i64 (pad r 7), .int .i64 (pad r 8), .int .i64 (pad r 9), .int .i64 (pad r 10), .int .i64 (pad r 11)], .int .i64 (endR G f r)] ++ #[.pointer (some ⟨bt, 0, none⟩), .pointer (some ⟨bp, 0, none⟩), .pointer (some ⟨bm, 0, none⟩), .pointer (some ⟨bx, 0, none⟩)]) w fun e w' => ∃ (ok : Bool) (n' : Nat) (D' : DataW Unit) (M : List Ro), (Ds G f hi lo [r] K M ok ∧ Keys D' M ∧ n' ≤ n + 2 ^ (13 - r.length) ∧ But [b] w w' ∧ w'.ownsMap Try.prog 92 (Rz (H := Unit)) b n' D') ∧ e = .returned (.bool ok) := by
 intro N
 induction N with
 | zero => intro r n D K w h; omega
 | succ N ih =>
  intro r n D K w hN X hK hk hr hroom
  exact extend_step G H p q c d s0 f lo hi bt bp bm bx b r n D K w (fun r' n D K w h1 h2 => ih r' n D K w (by omega)) X hK hk hr hroom hM hC hf
end Go.Proofs.Ytbacchdkankioaa.Roue
namespace Go.Proofs.Ytbacchdkankioaa.Rouf
open Go.ChangeShapes Go.WideShapes Go.ChangeAt Go.RowKit
open Arr Steady Sx Sw Sl Sb Sc Si Sk Sh Smu Sj Vs Gr Tk Tkh Tkl Rt Rtm Rtp Rtk Rts Rtd Fns Rdr Mp Rkd Rte Re Rbk Roua Roub Rouc Roue Rsrt Sfn Spn Go.Maps
set_option linter.unusedVariables false
set_option linter.unusedSimpArgs false
set_option maxRecDepth 100000

set_option maxHeartbeats 8000000 in
theorem reach_any (G : List Sg) (H : List Gp) (p q : Option Addr) (c d : Nat) (s0 f lo hi : Int) (X : List Ro) (ps : Option Addr) (cs : Nat) (w : World) (hX : SetOk G s0 f X) (hR : Reads w ps (flat rt X)) (hS : Reads w p (flat sg G)) (hG : OkS w G) (hM : TrackMay G H) (hC : ∀ s ∈ G, s.X.length ≤ s.nc) (hf : 0 ≤ f ∧ f ≤ 1099511627776) :
  Calls Try.prog 43 #[.agg #[.int .i64 f, .slice ps X.length cs], .agg #[.slice p G.length c, .slice q H.length d], .agg #[.int .i64 lo, .int .i64 hi]] w fun e w' => ∃ (ok : Bool) (b n : Nat) (D : DataW Unit) (M : List Ro), (Ds G f hi lo X [] M ok ∧ Keys D M ∧ w'.ownsMap Try.prog 92 (Rz (H := Unit)) b n D ∧ w.heap.size ≤ b ∧ Below w.heap.size w w') ∧ e = .returned (.tuple #[bif ok then .map (some b) else .map none, .bool ok]) := by
 have hs1 := hM.sizes.1
 have hs2 := hM.sizes.2.1
 have hB := But.refl [] w
 have hXf := hX.few
 refine calls_sx Try.func43 rfl ?_
 simp only [Try.ntmps43, List.size_toArray, List.length_cons, List.length_nil, Nat.reduceAdd, Nat.reduceSub, Array.replicate_succ, Array.replicate_zero, List.push_toArray, List.append_toArray, List.nil_append, List.cons_append]
 refine wc_seq ?_
 refine wc_region ?_
 refine wl_new 36 (#[.int .i64 f, .slice ps X.length cs]) rfl (fun _ => by go_simp) ?_
 intro g1
 simp only [Act.put, Xa, Xz, Xs]
 refine wl_new 27 (#[.slice p G.length c, .slice q H.length d]) rfl (fun _ => by go_simp) ?_
 intro g2
 simp only [Act.put, Xa, Xz, Xs]
 refine wl_new 32 (#[.int .i64 lo, .int .i64 hi]) rfl (fun _ => by go_simp) ?_
 intro g3
 simp only [Act.put, Xa, Xz, Xs]
 refine wl_val (.map none) rfl (fun _ => rfl) ?_
 simp only [Act.put, Xa, Xz, Xs]
 refine wl_val (.bool false) rfl (fun _ => rfl) ?_
 simp only [Act.put, Xa, Xz, Xs]
 refine wl_nil ?_
 refine we_then ?_
 refine wc_seq ?_
 refine wc_region ?_
 refine wl_base (fun W1 hE1 => ?_)
 have hg3 := hE1.rowAt (i := 0) rfl
 have hg2 := hE1.rowAt (i := 1) rfl
 have hg1 := hE1.rowAt (i := 2) rfl
 refine wl_map_make (k := 92) (Rd := Rz (H := Unit)) rfl rfl ?_
 intro W2 b c1 c2 own c3
 have hB := (But.of_below (S := []) hE1.below).trans c3
 have hb0 : w.heap.size ≤ b := Nat.le_trans hE1.below.size c1
 have hg1 := c3.row hg1 (by simp)
 have hg2 := c3.row hg2 (by simp)
 have hg3 := c3.row hg3 (by simp)
 have hS := reads_below hS hB.below
 have hG := oks_below hG hB.below
 have hR := reads_below hR hB.below
 simp only [Act.put, Xa, Xz, Xs]
 refine wl_new 109 (#[.map none]) rfl (fun _ => by go_simp) ?_
 intro g4
 simp only [Act.put, Xa, Xz, Xs]
 refine wl_store_cell 0 109 (.tmp 8) (.tmp 12) (.map none) (.map (some b)) rfl rfl rfl rfl rfl rfl (by kernel_rfl) rfl ?_
 simp only [Act.put, List.set_cons_zero]
 refine wl_nil ?_
 refine we_then ?_
 refine wc_seq ?_
 refine wc_region ?_
 refine wl_new 119 (#[.nilFunc]) rfl (fun _ => by go_simp) ?_
 intro g5
 simp only [Act.put, Xa, Xz, Xs]
 refine wl_nil ?_
 refine we_then ?_
 refine wc_seq ?_
 refine wc_region ?_
 refine wl_val (.func (.func 50) #[] #[.pointer (some ⟨g2, 0, none⟩), .pointer (some ⟨g3, 0, none⟩), .pointer (some ⟨g4, 0, none⟩), .pointer (some ⟨g5, 0, none⟩)]) rfl (fun _ => by go_simp) ?_
 simp only [Act.put, Xa, Xz, Xs]
 refine wl_store_cell 0 119 (.tmp 9) (.tmp 13) (.nilFunc) (.func (.func 50) #[] #[.pointer (some ⟨g2, 0, none⟩), .pointer (some ⟨g3, 0, none⟩), .pointer (some ⟨g4, 0, none⟩), .pointer (some ⟨g5, 0, none⟩)]) rfl rfl rfl rfl rfl rfl (by kernel_rfl) rfl ?_
 simp only [Act.put, List.set_cons_zero]
 refine wl_nil ?_
 refine we_then ?_
 refine wc_seq ?_
 refine wc_seq ?_
 refine wc_region ?_
 refine wl_val (.pointer (some ⟨g1, 1, none⟩)) rfl (fun _ => by go_simp) ?_
 simp only [Act.put, Xa, Xz, Xs]
 refine wl_cell 34 (.tmp 14) (.slice ps X.length cs) (old_row hg1) rfl rfl rfl rfl Try.isAgg34 ?_
 simp only [Act.put, Xa, Xz, Xs]
 refine wl_val (.int .i64 (X.length : Int)) rfl (fun w => er_len rfl rfl Try.underlying34 w) ?_
 simp only [Act.put, Xa, Xz, Xs]
 refine wl_val (.int .i64 0) rfl (fun _ => rfl) ?_
 simp only [Act.put, Xa, Xz, Xs]
 refine wl_nil ?_
 refine we_then ?_
 refine wc_block ?_
 refine wc_base (fun W3 hE3 => ?_)
 have hg1 := below_row hE3.below (lt_of_row hg1) hg1
 have hg2 := below_row hE3.below (lt_of_row hg2) hg2
 have hg3 := below_row hE3.below (lt_of_row hg3) hg3
 have hg5 := hE3.rowAt (i := 0) rfl
 have hg4 := hE3.rowAt (i := 1) rfl
 have hS := reads_below hS hE3.below
 have hG := oks_below hG hE3.below
 have hR := reads_below hR hE3.below
 have hB := hB.trans (But.of_below hE3.below)
 have own := own_env own hE3
 have X0 : ExIn G p c q H.length d lo hi g2 g3 g4 g5 b W3 0 (.map []) := ⟨hg2, hg3, hg4, hg5, hS, hG, own⟩
 refine wc_loopb (fun (zz : Nat × Nat × DataW Unit × List Ro × Value × Value × Value × Value × Value × Value × Value × Value × Value × Value × Value × Value × Value × Value × Value) => match zz with | ⟨i, n1, D1, K1, u6, u7, u11, u18, u19, u20, u21, u22, u23, u24, u25, u26, u27, u28, u29⟩ => ({ tmps := #[.agg #[.int .i64 f, .slice ps X.length cs], .agg #[.slice p G.length c, .slice q H.length d], .agg #[.int .i64 lo, .int .i64 hi], .pointer (some ⟨g1, 0, none⟩), .pointer (some ⟨g2, 0, none⟩), .pointer (some ⟨g3, 0, none⟩), u6, u7, .pointer (some ⟨g4, 0, none⟩), .pointer (some ⟨g5, 0, none⟩), undef, u11, .map (some b), .func (.func 50) #[] #[.pointer (some ⟨g2, 0, none⟩), .pointer (some ⟨g3, 0, none⟩), .pointer (some ⟨g4, 0, none⟩), .pointer (some ⟨g5, 0, none⟩)], .pointer (some ⟨g1, 1, none⟩), .slice ps X.length cs, .int .i64 (X.length : Int), .int .i64 (i : Int), u18, u19, u20, u21, u22, u23, u24, u25, u26, u27, u28, u29, undef], defers := [] } : Act)) (fun (zz : Nat × Nat × DataW Unit × List Ro × Value × Value × Value × Value × Value × Value × Value × Value × Value × Value × Value × Value × Value × Value × Value) => match zz with | ⟨i, n1, D1, K1, u6, u7, u11, u18, u19, u20, u21, u22, u23, u24, u25, u26, u27, u28, u29⟩ => (fun w9 => i ≤ X.length ∧ ExIn G p c q H.length d lo hi g2 g3 g4 g5 b w9 n1 D1 ∧ But [b] W3 w9 ∧ Keys D1 K1 ∧ Ds G f hi lo (X.take i) [] K1 true ∧ n1 ≤ i * 4096)) (fun (zz : Nat × Nat × DataW Unit × List Ro × Value × Value × Value × Value × Value × Value × Value × Value × Value × Value × Value × Value × Value × Value × Value) => match zz with | ⟨i, n1, D1, K1, u6, u7, u11, u18, u19, u20, u21, u22, u23, u24, u25, u26, u27, u28, u29⟩ => X.length - i) ⟨0, 0, (.map []), [], _, _, _, _, _, _, _, _, _, _, _, _, _, _, _⟩ (fun w9 hE9 => ⟨Nat.zero_le _, X0.turn (But.of_below hE9.below) (own_env X0.own hE9), But.of_below hE9.below, keys_nil, by rw [List.take_zero]; exact ds_nil (Nat.zero_le _), Nat.zero_le _⟩) rfl ?_
 rintro ⟨i, n1, D1, K1, u6, u7, u11, u18, u19, u20, u21, u22, u23, u24, u25, u26, u27, u28, u29⟩ w1 hφ
 (try dsimp only at hφ ⊢)
 obtain ⟨b1, X1, c4, j1, j2, j3⟩ := hφ
 have hg1 := but_row X0.own c4 hg1
 have hg2 := but_row X0.own c4 hg2
 have hg3 := but_row X0.own c4 hg3
 have hg4 := but_row X0.own c4 hg4
 have hg5 := but_row X0.own c4 hg5
 have hR := but_reads X0.own c4 hR
 refine wc_seq ?_
 refine wc_region ?_
 refine wl_val (.bool (decide ((i : Int) < (X.length : Int)))) rfl (fun w => run_cmp rfl rfl rfl Try.underlying3 rfl w) ?_
 simp only [Act.put, Xa, Xz, Xs]
 refine wl_nil ?_
 refine we_then ?_
 refine wc_seq ?_
 cases h6 : (decide ((i : Int) < (X.length : Int)))
 ·
  skip
  have p6 : ¬ ((i : Int) < (X.length : Int)) := of_decide_eq_false h6
  refine wc_false rfl ?_
  refine wc_exit ?_
  refine we_then_exit ?_
  refine we_then_exit ?_
  refine we_in_here ?_
  refine we_then ?_
  refine wc_seq ?_
  refine wc_region ?_
  refine wl_cell 109 (.tmp 8) (.map (some b)) (old_row hg4) rfl rfl rfl rfl Try.isAgg109 ?_
  simp only [Act.put, Xa, Xz, Xs]
  refine wl_val (.map (some b)) rfl (fun _ => rfl) ?_
  simp only [Act.put, Xa, Xz, Xs]
  refine wl_val (.bool true) rfl (fun _ => rfl) ?_
  simp only [Act.put, Xa, Xz, Xs]
  refine wl_nil ?_
  refine we_then ?_
  refine wc_ret ?_
  refine we_ret2 (.map (some b)) (.bool true) rfl rfl rfl rfl (fun w1 hE => ?_)
  have e9 : i = X.length := by omega
  rw [e9, List.take_length] at j2
  exact ⟨true, b, _, _, K1, ⟨j2, j1, own_env X1.own hE, hb0, (but_new hB (c4.trans (But.of_below hE.below)) (by simpa using hb0)).below⟩, rfl⟩
 ·
  skip
  have p6 : (i : Int) < (X.length : Int) := of_decide_eq_true h6
  refine wc_true rfl ?_
  refine wc_skip ?_
  refine we_then ?_
  refine wc_seq ?_
  refine wc_block ?_
  refine wc_seq ?_
  refine wc_region ?_
  refine wl_read (eaddr ps (i * 13)) rfl (er_index i 13 (sl_old hR) rfl rfl rfl rfl (by omega) (flat_length (enc := rt) (size := 13) (fun _ => rfl) _) (by decide) Try.underlying34 (by kernel_rfl)) ?_
  simp only [Act.put, Xa, Xz, Xs]
  refine wl_read (.agg #[.int .i64 (((X[i]!).length : Nat) : Int), .int .i64 (pad (X[i]!) 0), .int .i64 (pad (X[i]!) 1), .int .i64 (pad (X[i]!) 2), .int .i64 (pad (X[i]!) 3), .int .i64 (pad (X[i]!) 4), .int .i64 (pad (X[i]!) 5), .int .i64 (pad (X[i]!) 6), .int .i64 (pad (X[i]!) 7), .int .i64 (pad (X[i]!) 8), .int .i64 (pad (X[i]!) 9), .int .i64 (pad (X[i]!) 10), .int .i64 (pad (X[i]!) 11)]) rfl (er_part (i * 13) [.int .i64 (((X[i]!).length : Nat) : Int), .int .i64 (pad (X[i]!) 0), .int .i64 (pad (X[i]!) 1), .int .i64 (pad (X[i]!) 2), .int .i64 (pad (X[i]!) 3), .int .i64 (pad (X[i]!) 4), .int .i64 (pad (X[i]!) 5), .int .i64 (pad (X[i]!) 6), .int .i64 (pad (X[i]!) 7), .int .i64 (pad (X[i]!) 8), .int .i64 (pad (X[i]!) 9), .int .i64 (pad (X[i]!) 10), .int .i64 (pad (X[i]!) 11)] (sl_old hR) rfl rfl (flat_part (enc := rt) (fun _ => rfl) X i (by omega)) (Nat.zero_lt_succ _) Try.underlying92 rfl (by kernel_rfl)) ?_
  simp only [Act.put, Xa, Xz, Xs]
  refine wl_new 92 (#[.int .i64 0, .int .i64 0, .int .i64 0, .int .i64 0, .int .i64 0, .int .i64 0, .int .i64 0, .int .i64 0, .int .i64 0, .int .i64 0, .int .i64 0, .int .i64 0, .int .i64 0]) rfl (fun _ => by go_simp) ?_
  intro g7
  simp only [Act.put, Xa, Xz, Xs]
  refine wl_store 0 92 (.tmp 11) (.tmp 20) (#[.int .i64 (((X[i]!).length : Nat) : Int), .int .i64 (pad (X[i]!) 0), .int .i64 (pad (X[i]!) 1), .int .i64 (pad (X[i]!) 2), .int .i64 (pad (X[i]!) 3), .int .i64 (pad (X[i]!) 4), .int .i64 (pad (X[i]!) 5), .int .i64 (pad (X[i]!) 6), .int .i64 (pad (X[i]!) 7), .int .i64 (pad (X[i]!) 8), .int .i64 (pad (X[i]!) 9), .int .i64 (pad (X[i]!) 10), .int .i64 (pad (X[i]!) 11)]) rfl rfl rfl rfl rfl (by kernel_rfl) rfl (by simp [Value.oneCell']) ?_
  simp only [Act.put, List.set_cons_zero]
  refine wl_nil ?_
  refine we_then ?_
  refine wc_seq ?_
  refine wc_base (fun W4 hE4 => ?_)
  have hg1 := below_row hE4.below (lt_of_row hg1) hg1
  have hg2 := below_row hE4.below (lt_of_row hg2) hg2
  have hg3 := below_row hE4.below (lt_of_row hg3) hg3
  have hg4 := below_row hE4.below (lt_of_row hg4) hg4
  have hg5 := below_row hE4.below (lt_of_row hg5) hg5
  have hg7 := hE4.rowAt (i := 0) rfl
  have X2 := X1.turn (But.of_below hE4.below) (own_env X1.own hE4)
  have hR := reads_below hR hE4.below
  have hS := X2.hS
  have hG := X2.hG
  have c6 := c4.trans (But.of_below hE4.below)
  have hri := hX.wf (X[i]!) (by rw [getElem!_pos X i (by omega)]; exact List.getElem_mem _)
  have hr12 := hri.ok.few
  have hr1 := hri.ok.some
  have heb := end_in (f := f) hM.segs hri.ok (X[i]!).length (Nat.le_refl _)
  rw [List.take_length] at heb
  have hpw : 2 ^ (13 - (X[i]!).length) ≤ 4096 := Nat.le_trans (Nat.pow_le_pow_right (by decide) (by omega : 13 - (X[i]!).length ≤ 12)) (by decide)
  refine wc_draw_back (Γ := Bool × Nat × DataW Unit × List Ro) 6 (fun γ9 j9 => [.func (.func 50) #[] #[.pointer (some ⟨g2, 0, none⟩), .pointer (some ⟨g3, 0, none⟩), .pointer (some ⟨g4, 0, none⟩), .pointer (some ⟨g5, 0, none⟩)], .agg #[.int .i64 (((X[i]!).length : Nat) : Int), .int .i64 (pad (X[i]!) 0), .int .i64 (pad (X[i]!) 1), .int .i64 (pad (X[i]!) 2), .int .i64 (pad (X[i]!) 3), .int .i64 (pad (X[i]!) 4), .int .i64 (pad (X[i]!) 5), .int .i64 (pad (X[i]!) 6), .int .i64 (pad (X[i]!) 7), .int .i64 (pad (X[i]!) 8), .int .i64 (pad (X[i]!) 9), .int .i64 (pad (X[i]!) 10), .int .i64 (pad (X[i]!) 11)], .agg #[.int .i64 f, .slice ps X.length cs], .agg #[.slice p G.length c, .slice q H.length d], .agg #[.int .i64 (((X[i]!).length : Nat) : Int), .int .i64 (pad (X[i]!) 0), .int .i64 (pad (X[i]!) 1), .int .i64 (pad (X[i]!) 2), .int .i64 (pad (X[i]!) 3), .int .i64 (pad (X[i]!) 4), .int .i64 (pad (X[i]!) 5), .int .i64 (pad (X[i]!) 6), .int .i64 (pad (X[i]!) 7), .int .i64 (pad (X[i]!) 8), .int .i64 (pad (X[i]!) 9), .int .i64 (pad (X[i]!) 10), .int .i64 (pad (X[i]!) 11)], .int .i64 (endR G f (X[i]!)), .bool γ9.1, .bool (!γ9.1)].getD j9 undef) (fun _ _ => []) (fun _ _ => True) (fun γ9 w9 => ExIn G p c q H.length d lo hi g2 g3 g4 g5 b w9 γ9.2.1 γ9.2.2.1 ∧ But [b] W4 w9 ∧ Keys γ9.2.2.1 γ9.2.2.2 ∧ Ds G f hi lo [(X[i]!)] K1 γ9.2.2.2 γ9.1 ∧ γ9.2.1 ≤ n1 + 4096) (false, 0, .map [], []) 31 (fun γ9 => ({ tmps := #[.agg #[.int .i64 f, .slice ps X.length cs], .agg #[.slice p G.length c, .slice q H.length d], .agg #[.int .i64 lo, .int .i64 hi], .pointer (some ⟨g1, 0, none⟩), .pointer (some ⟨g2, 0, none⟩), .pointer (some ⟨g3, 0, none⟩), u6, u7, .pointer (some ⟨g4, 0, none⟩), .pointer (some ⟨g5, 0, none⟩), undef, .pointer (some ⟨g7, 0, none⟩), .map (some b), .func (.func 50) #[] #[.pointer (some ⟨g2, 0, none⟩), .pointer (some ⟨g3, 0, none⟩), .pointer (some ⟨g4, 0, none⟩), .pointer (some ⟨g5, 0, none⟩)], .pointer (some ⟨g1, 1, none⟩), .slice ps X.length cs, .int .i64 (X.length : Int), .int .i64 (i : Int), .bool true, eaddr ps (i * 13), .agg #[.int .i64 (((X[i]!).length : Nat) : Int), .int .i64 (pad (X[i]!) 0), .int .i64 (pad (X[i]!) 1), .int .i64 (pad (X[i]!) 2), .int .i64 (pad (X[i]!) 3), .int .i64 (pad (X[i]!) 4), .int .i64 (pad (X[i]!) 5), .int .i64 (pad (X[i]!) 6), .int .i64 (pad (X[i]!) 7), .int .i64 (pad (X[i]!) 8), .int .i64 (pad (X[i]!) 9), .int .i64 (pad (X[i]!) 10), .int .i64 (pad (X[i]!) 11)], .func (.func 50) #[] #[.pointer (some ⟨g2, 0, none⟩), .pointer (some ⟨g3, 0, none⟩), .pointer (some ⟨g4, 0, none⟩), .pointer (some ⟨g5, 0, none⟩)], .agg #[.int .i64 (((X[i]!).length : Nat) : Int), .int .i64 (pad (X[i]!) 0), .int .i64 (pad (X[i]!) 1), .int .i64 (pad (X[i]!) 2), .int .i64 (pad (X[i]!) 3), .int .i64 (pad (X[i]!) 4), .int .i64 (pad (X[i]!) 5), .int .i64 (pad (X[i]!) 6), .int .i64 (pad (X[i]!) 7), .int .i64 (pad (X[i]!) 8), .int .i64 (pad (X[i]!) 9), .int .i64 (pad (X[i]!) 10), .int .i64 (pad (X[i]!) 11)], .agg #[.int .i64 f, .slice ps X.length cs], .agg #[.slice p G.length c, .slice q H.length d], .agg #[.int .i64 (((X[i]!).length : Nat) : Int), .int .i64 (pad (X[i]!) 0), .int .i64 (pad (X[i]!) 1), .int .i64 (pad (X[i]!) 2), .int .i64 (pad (X[i]!) 3), .int .i64 (pad (X[i]!) 4), .int .i64 (pad (X[i]!) 5), .int .i64 (pad (X[i]!) 6), .int .i64 (pad (X[i]!) 7), .int .i64 (pad (X[i]!) 8), .int .i64 (pad (X[i]!) 9), .int .i64 (pad (X[i]!) 10), .int .i64 (pad (X[i]!) 11)], .int .i64 (endR G f (X[i]!)), .bool γ9.1, .bool (!γ9.1), u29, undef], defers := [] } : Act)) (by kernel_rfl) rfl (by kernel_rfl) rfl trivial (by decide) (fun _ => by kernel_rfl) ?_ ?_ ?_ ?_
  ·
   intro i9 o9 ho9 hi9
   rcases (show i9 = 0 ∨ i9 = 1 ∨ i9 = 2 ∨ i9 = 3 ∨ i9 = 4 ∨ i9 = 5 by omega) with rfl | rfl | rfl | rfl | rfl | rfl
   ·
    obtain rfl := Option.some.inj ho9
    refine ⟨fun ld γ9 a9 h9 => ?_, ?_⟩
    ·
     have dl6 : ld 6 = false := h9.non (by kernel_rfl)
     exact dl6
    ·
     exact sp_val (.func (.func 50) #[] #[.pointer (some ⟨g2, 0, none⟩), .pointer (some ⟨g3, 0, none⟩), .pointer (some ⟨g4, 0, none⟩), .pointer (some ⟨g5, 0, none⟩)]) rfl (fun _ => rfl) (fun _ _ h => h) (fun _ _ => rfl) (fun ld γ9 a9 w9 h9 hE9 => load_cell (below_row hE9.below (lt_of_row hg5) hg5) rfl rfl (h9.out (by kernel_rfl) rfl) Try.isAgg119)
   ·
    obtain rfl := Option.some.inj ho9
    refine ⟨fun ld γ9 a9 h9 => ?_, ?_⟩
    ·
     have dl6 : ld 6 = false := h9.non (by kernel_rfl)
     exact dl6
    ·
     exact sp_val (.agg #[.int .i64 (((X[i]!).length : Nat) : Int), .int .i64 (pad (X[i]!) 0), .int .i64 (pad (X[i]!) 1), .int .i64 (pad (X[i]!) 2), .int .i64 (pad (X[i]!) 3), .int .i64 (pad (X[i]!) 4), .int .i64 (pad (X[i]!) 5), .int .i64 (pad (X[i]!) 6), .int .i64 (pad (X[i]!) 7), .int .i64 (pad (X[i]!) 8), .int .i64 (pad (X[i]!) 9), .int .i64 (pad (X[i]!) 10), .int .i64 (pad (X[i]!) 11)]) rfl (fun _ => rfl) (fun _ _ h => h) (fun _ _ => rfl) (fun ld γ9 a9 w9 h9 hE9 => load_row (below_row hE9.below (lt_of_row hg7) hg7) rfl (h9.out (by kernel_rfl) rfl) Try.underlying92 rfl (by kernel_rfl))
   ·
    obtain rfl := Option.some.inj ho9
    refine ⟨fun ld γ9 a9 h9 => ?_, ?_⟩
    ·
     have dl5 : ld 5 = false := h9.non (by kernel_rfl)
     have dl6 : ld 6 = false := h9.non2 5 dl5 (by kernel_rfl)
     exact dl6
    ·
     exact sp_val (.agg #[.int .i64 f, .slice ps X.length cs]) rfl (fun _ => rfl) (fun _ _ h => h) (fun _ _ => rfl) (fun ld γ9 a9 w9 h9 hE9 => load_row (below_row hE9.below (lt_of_row hg1) hg1) rfl (h9.out (by kernel_rfl) rfl) Try.underlying36 rfl (by kernel_rfl))
   ·
    obtain rfl := Option.some.inj ho9
    refine ⟨fun ld γ9 a9 h9 => ?_, ?_⟩
    ·
     have dl5 : ld 5 = false := h9.non (by kernel_rfl)
     have dl6 : ld 6 = false := h9.non2 5 dl5 (by kernel_rfl)
     exact dl6
    ·
     exact sp_val (.agg #[.slice p G.length c, .slice q H.length d]) rfl (fun _ => rfl) (fun _ _ h => h) (fun _ _ => rfl) (fun ld γ9 a9 w9 h9 hE9 => load_row (below_row hE9.below (lt_of_row hg2) hg2) rfl (h9.out (by kernel_rfl) rfl) Try.underlying27 rfl (by kernel_rfl))
   ·
    obtain rfl := Option.some.inj ho9
    refine ⟨fun ld γ9 a9 h9 => ?_, ?_⟩
    ·
     have dl5 : ld 5 = false := h9.non (by kernel_rfl)
     have dl6 : ld 6 = false := h9.non2 5 dl5 (by kernel_rfl)
     exact dl6
    ·
     exact sp_val (.agg #[.int .i64 (((X[i]!).length : Nat) : Int), .int .i64 (pad (X[i]!) 0), .int .i64 (pad (X[i]!) 1), .int .i64 (pad (X[i]!) 2), .int .i64 (pad (X[i]!) 3), .int .i64 (pad (X[i]!) 4), .int .i64 (pad (X[i]!) 5), .int .i64 (pad (X[i]!) 6), .int .i64 (pad (X[i]!) 7), .int .i64 (pad (X[i]!) 8), .int .i64 (pad (X[i]!) 9), .int .i64 (pad (X[i]!) 10), .int .i64 (pad (X[i]!) 11)]) rfl (fun _ => rfl) (fun _ _ h => h) (fun _ _ => rfl) (fun ld γ9 a9 w9 h9 hE9 => load_row (below_row hE9.below (lt_of_row hg7) hg7) rfl (h9.out (by kernel_rfl) rfl) Try.underlying92 rfl (by kernel_rfl))
   ·
    obtain rfl := Option.some.inj ho9
    refine ⟨fun ld γ9 a9 h9 => ?_, ?_⟩
    ·
     have dl6 : ld 6 = false := h9.non (by kernel_rfl)
     exact dl6
    ·
     refine sp_callg 53 (fun _ => .int .i64 (endR G f (X[i]!))) rfl (fun _ => rfl) (fun _ _ h => h) (fun _ _ => rfl) (fun ld γ9 a9 w9 h9 hF9 hE9 => ?_)
     have e0 : a9.eval (.tmp 23) = .agg #[.int .i64 f, .slice ps X.length cs] := (h9.tmp 2 rfl (h9.dep (by kernel_rfl)))
     have e1 : a9.eval (.tmp 24) = .agg #[.slice p G.length c, .slice q H.length d] := (h9.tmp 3 rfl (h9.dep (by kernel_rfl)))
     have e2 : a9.eval (.tmp 25) = .agg #[.int .i64 (((X[i]!).length : Nat) : Int), .int .i64 (pad (X[i]!) 0), .int .i64 (pad (X[i]!) 1), .int .i64 (pad (X[i]!) 2), .int .i64 (pad (X[i]!) 3), .int .i64 (pad (X[i]!) 4), .int .i64 (pad (X[i]!) 5), .int .i64 (pad (X[i]!) 6), .int .i64 (pad (X[i]!) 7), .int .i64 (pad (X[i]!) 8), .int .i64 (pad (X[i]!) 9), .int .i64 (pad (X[i]!) 10), .int .i64 (pad (X[i]!) 11)] := (h9.tmp 4 rfl (h9.dep (by kernel_rfl)))
     exact ⟨#[.agg #[.int .i64 f, .slice ps X.length cs], .agg #[.slice p G.length c, .slice q H.length d], .agg #[.int .i64 (((X[i]!).length : Nat) : Int), .int .i64 (pad (X[i]!) 0), .int .i64 (pad (X[i]!) 1), .int .i64 (pad (X[i]!) 2), .int .i64 (pad (X[i]!) 3), .int .i64 (pad (X[i]!) 4), .int .i64 (pad (X[i]!) 5), .int .i64 (pad (X[i]!) 6), .int .i64 (pad (X[i]!) 7), .int .i64 (pad (X[i]!) 8), .int .i64 (pad (X[i]!) 9), .int .i64 (pad (X[i]!) 10), .int .i64 (pad (X[i]!) 11)]], er_callg (enters_of Try.func53 (by kernel_rfl) rfl) rfl (by simp only [List.map_toArray, List.map_cons, List.map_nil, e0, e1, e2]) w9, end_in_any G H p q c d f ps X.length cs (X[i]!) w9 (reads_below hS hE9.below) (oks_below hG hE9.below) hM hf hri.ok⟩
  ·
   intro o9 ho9 ld γ9 a9 w9 h9 hF9 hE9 Kc hK9
   obtain rfl := Option.some.inj ho9
   refine h9.go rfl ?_
   rw [er_value2 (CB := #[.pointer (some ⟨g2, 0, none⟩), .pointer (some ⟨g3, 0, none⟩), .pointer (some ⟨g4, 0, none⟩), .pointer (some ⟨g5, 0, none⟩)]) (enters_of Try.func50 (by kernel_rfl) rfl) rfl (h9.tmp 0 rfl (h9.dep (by kernel_rfl))) (h9.tmp 1 rfl (h9.dep (by kernel_rfl))) (h9.tmp 5 rfl (h9.dep (by kernel_rfl))) w9]
   have h8 := extend_all G H p q c d s0 f lo hi g2 g3 g4 g5 b hM hC hf 13 (X[i]!) n1 D1 K1 w9 (by omega) (X2.turn (But.of_below hE9.below) (own_env X2.own hE9)) j1 (ds_few j2 rfl) hri (by omega)
   refine Calls.mono (by exact h8) ?_
   rintro e w' ⟨ok2, n2, D2, K2, ⟨d1, k2, m2, b2, o2⟩, rfl⟩
   have d10 : ld 6 = false := h9.off
   have d11 : ld 7 = false := h9.non (by kernel_rfl)
   refine hK9 (ok2, n2, D2, K2) w' ?_ ⟨(X2.turn (But.of_below hE9.below) (own_env X2.own hE9)).turn b2 o2, (But.of_below hE9.below).trans b2, k2, d1, by (try dsimp only); omega⟩
   intro k hk
   have hk2 : k < 8 := h9.within k hk
   have hb : k = 0 ∨ k = 1 ∨ k = 2 ∨ k = 3 ∨ k = 4 ∨ k = 5 ∨ k = 6 ∨ k = 7 := by omega
   rcases hb with rfl | rfl | rfl | rfl | rfl | rfl | rfl | rfl
   ·
    rfl
   ·
    rfl
   ·
    rfl
   ·
    rfl
   ·
    rfl
   ·
    rfl
   ·
    rw [d10] at hk; cases hk
   ·
    rw [d11] at hk; cases hk
  ·
   intro i9 o9 ho9 hi9
   have hl9 : i9 < 8 := (List.getElem?_eq_some_iff.1 ho9).1
   obtain rfl : i9 = 7 := by omega
   obtain rfl := Option.some.inj ho9
   exact ⟨rfl, fun ld γ9 a9 h9 => h9.dep (by kernel_rfl), fun ld γ9 a9 w9 h9 => run_notg rfl (h9.tmp 6 rfl (h9.dep (by kernel_rfl))) w9⟩
  ·
   rintro ⟨ok2, n2, D2, K2⟩ w2 ⟨X3, b2, k2, d2, m2⟩
   (try dsimp only at X3 k2 d2 m2 ⊢)
   have hg1 := but_row X2.own b2 hg1
   have hg2 := but_row X2.own b2 hg2
   have hg3 := but_row X2.own b2 hg3
   have hg4 := but_row X2.own b2 hg4
   have hg5 := but_row X2.own b2 hg5
   have hg7 := but_row X2.own b2 hg7
   have hR := but_reads X2.own b2 hR
   refine we_then ?_
   cases h8 : (ok2)
   ·
    skip
    refine wc_true rfl ?_
    refine wc_seq ?_
    refine wc_region ?_
    refine wl_val (.map none) rfl (fun _ => rfl) ?_
    simp only [Act.put, Xa, Xz, Xs]
    refine wl_val (.bool false) rfl (fun _ => rfl) ?_
    simp only [Act.put, Xa, Xz, Xs]
    refine wl_nil ?_
    refine we_then ?_
    refine wc_ret ?_
    refine we_in_ret ?_
    refine we_then_ret ?_
    refine we_then_ret ?_
    refine we_in_ret ?_
    refine we_then_ret ?_
    refine we_ret2 (.map none) (.bool false) rfl rfl rfl rfl (fun w1 hE => ?_)
    rw [h8] at d2
    have d3 := ds_app j2 d2
    rw [← take_snoc X i (by omega)] at d3
    have d4 := ds_more (U := X.drop (i + 1)) d3
    rw [List.take_append_drop] at d4
    exact ⟨false, b, _, _, K2, ⟨d4, k2, own_env X3.own hE, hb0, (but_new hB ((c6.trans b2).trans (But.of_below hE.below)) (by simpa using hb0)).below⟩, rfl⟩
   ·
    skip
    refine wc_false rfl ?_
    refine wc_skip ?_
    refine we_in ?_
    refine we_then ?_
    refine wc_region ?_
    refine wl_val (.int .i64 ((i + 1 : Nat) : Int)) rfl (fun w => run_nat (X := i) (Y := 1) (Z := i + 1) rfl rfl rfl rfl (by omega) w) ?_
    simp only [Act.put, Xa, Xz, Xs]
    refine wl_val (.int .i64 ((i + 1 : Nat) : Int)) rfl (fun _ => rfl) ?_
    simp only [Act.put, Xa, Xz, Xs]
    refine wl_nil ?_
    rw [h8] at d2
    have d3 := ds_app j2 d2
    rw [← take_snoc X i (by omega)] at d3
    exact we_meetb ⟨(i + 1), n2, D2, K2, _, _, _, _, _, _, _, _, _, _, _, _, _, _, _⟩ (fun w9 hE9 => ⟨⟨by (try dsimp only); omega, X3.turn (But.of_below hE9.below) (own_env X3.own hE9), (c6.trans b2).trans (But.of_below hE9.below), k2, d3, by (try dsimp only); omega⟩, by (try dsimp only); omega⟩) rfl
set_option maxHeartbeats 8000000 in
theorem grow_core (G : List Sg) (H : List Gp) (p q : Option Addr) (c d : Nat) (s0 f lo hi : Int) (X : List Ro) (ps : Option Addr) (cs : Nat) (w : World) (hX : SetOk G s0 f X) (hR : Reads w ps (flat rt X)) (hS : Reads w p (flat sg G)) (hG : OkS w G) (hM : TrackMay G H) (hC : ∀ s ∈ G, s.X.length ≤ s.nc) (hf : 0 ≤ f ∧ f ≤ 1099511627776) :
  Calls Try.prog 28 #[.agg #[.int .i64 f, .slice ps X.length cs], .agg #[.slice p G.length c, .slice q H.length d], .agg #[.int .i64 lo, .int .i64 hi]] w fun e w' => ∃ z : Gp2, Gp2Ok G f hi lo X z ∧ e = .returned (.tuple #[.agg #[.int .i64 z.F, .slice z.p z.X.length z.c], .int .i64 (z.e : Nat)]) ∧ Env w w' z.N := by
 have hs1 := hM.sizes.1
 have hs2 := hM.sizes.2.1
 have hB := But.refl [] w
 refine calls_sx Try.func28 rfl ?_
 simp only [Try.ntmps28, List.size_toArray, List.length_cons, List.length_nil, Nat.reduceAdd, Nat.reduceSub, Array.replicate_succ, Array.replicate_zero, List.push_toArray, List.append_toArray, List.nil_append, List.cons_append]
 refine wc_seq ?_
 refine wc_region ?_
 refine wl_new 36 (#[.int .i64 f, .slice ps X.length cs]) rfl (fun _ => by go_simp) ?_
 intro g1
 simp only [Act.put, Xa, Xz, Xs]
 refine wl_new 27 (#[.slice p G.length c, .slice q H.length d]) rfl (fun _ => by go_simp) ?_
 intro g2
 simp only [Act.put, Xa, Xz, Xs]
 refine wl_new 32 (#[.int .i64 lo, .int .i64 hi]) rfl (fun _ => by go_simp) ?_
 intro g3
 simp only [Act.put, Xa, Xz, Xs]
 refine wl_new 36 (#[.int .i64 0, .slice none 0 0]) rfl (fun _ => by go_simp) ?_
 intro g4
 simp only [Act.put, Xa, Xz, Xs]
 refine wl_val (.int .i64 0) rfl (fun _ => rfl) ?_
 simp only [Act.put, Xa, Xz, Xs]
 refine wl_nil ?_
 refine we_then ?_
 refine wc_seq ?_
 refine wc_seq ?_
 refine wc_region ?_
 refine wl_load 32 (.tmp 5) (own_row 1 rfl) rfl rfl rfl Try.underlying32 rfl (by kernel_rfl) ?_
 simp only [Act.put, Xa, Xz, Xs]
 refine wl_call 7 #[.agg #[.int .i64 lo, .int .i64 hi]] (.bool (decide (lo ≤ hi))) rfl (fun _ => by go_simp) (fun W => Spn.right_any lo hi W) ?_
 simp only [Act.put, Xa, Xz, Xs]
 refine wl_val (.bool (!(decide (lo ≤ hi)))) rfl (fun _ => by go_simp) ?_
 simp only [Act.put, Xa, Xz, Xs]
 refine wl_val (.bool (!(decide (lo ≤ hi)))) rfl (fun _ => rfl) ?_
 simp only [Act.put, Xa, Xz, Xs]
 cases h5 : (decide (lo ≤ hi))
 ·
  skip
  have p5 : ¬ (lo ≤ hi) := of_decide_eq_false h5
  refine wl_skip rfl ?_
  simp only [Act.put, Xa, Xz, Xs]
  refine wl_skip rfl ?_
  simp only [Act.put, Xa, Xz, Xs]
  refine wl_skip rfl ?_
  simp only [Act.put, Xa, Xz, Xs]
  refine wl_skip rfl ?_
  simp only [Act.put, Xa, Xz, Xs]
  refine wl_skip rfl ?_
  simp only [Act.put, Xa, Xz, Xs]
  refine wl_skip rfl ?_
  simp only [Act.put, Xa, Xz, Xs]
  refine wl_val (.bool true) rfl (fun _ => rfl) ?_
  simp only [Act.put, Xa, Xz, Xs]
  refine wl_nil ?_
  refine we_then ?_
  refine wc_true rfl ?_
  refine wc_seq ?_
  refine wc_region ?_
  refine wl_val (.agg #[.int .i64 0, .slice none 0 0]) rfl (fun _ => by go_simp) ?_
  simp only [Act.put, Xa, Xz, Xs]
  refine wl_store 0 36 (.tmp 6) (.tmp 23) (#[.int .i64 0, .slice none 0 0]) rfl rfl rfl rfl rfl (by kernel_rfl) rfl (by simp [Value.oneCell']) ?_
  simp only [Act.put, List.set_cons_zero]
  refine wl_val (.int .i64 40) rfl (fun _ => rfl) ?_
  simp only [Act.put, Xa, Xz, Xs]
  refine wl_nil ?_
  refine we_then ?_
  refine wc_ret ?_
  refine we_then_ret ?_
  refine we_ret_cell_tmp (.int .i64 40) (own_row 0 rfl) rfl rfl rfl rfl Try.underlying36 rfl (by kernel_rfl) (fun w1 hE => ?_)
  exact ⟨⟨40, 0, none, [], 0, []⟩, ⟨grow_off (by omega), fun h => (by cases h), fun _ _ _ => reads_nil _ _⟩, rfl, hE.sub (List.nil_sublist _)⟩
 ·
  skip
  have p5 : lo ≤ hi := of_decide_eq_true h5
  refine wl_val (.pointer (some ⟨g3, 0, none⟩)) rfl (fun _ => by go_simp) ?_
  simp only [Act.put, Xa, Xz, Xs]
  refine wl_cell 2 (.tmp 16) (.int .i64 lo) (own_row 1 rfl) rfl rfl rfl rfl Try.isAgg2 ?_
  simp only [Act.put, Xa, Xz, Xs]
  refine wl_val (.pointer (some ⟨g1, 0, none⟩)) rfl (fun _ => by go_simp) ?_
  simp only [Act.put, Xa, Xz, Xs]
  refine wl_cell 2 (.tmp 18) (.int .i64 f) (own_row 3 rfl) rfl rfl rfl rfl Try.isAgg2 ?_
  simp only [Act.put, Xa, Xz, Xs]
  refine wl_val (.int .i64 (-f)) rfl (fun w => run_neg rfl rfl Try.underlying2 (i64_in (by omega) (by omega)) w) ?_
  simp only [Act.put, Xa, Xz, Xs]
  refine wl_val (.bool (decide (lo < (-f)))) rfl (fun w => run_cmp rfl rfl rfl Try.underlying2 rfl w) ?_
  simp only [Act.put, Xa, Xz, Xs]
  refine wl_val (.bool (decide (lo < (-f)))) rfl (fun _ => rfl) ?_
  simp only [Act.put, Xa, Xz, Xs]
  refine wl_nil ?_
  refine we_then ?_
  cases h6 : (decide (lo < (-f)))
  ·
   skip
   have p6 : ¬ (lo < (-f)) := of_decide_eq_false h6
   refine wc_false rfl ?_
   refine wc_skip ?_
   refine we_then ?_
   refine wc_seq ?_
   refine wc_region ?_
   refine wl_load 36 (.tmp 3) (own_row 3 rfl) rfl rfl rfl Try.underlying36 rfl (by kernel_rfl) ?_
   simp only [Act.put, Xa, Xz, Xs]
   refine wl_load 27 (.tmp 4) (own_row 2 rfl) rfl rfl rfl Try.underlying27 rfl (by kernel_rfl) ?_
   simp only [Act.put, Xa, Xz, Xs]
   refine wl_load 32 (.tmp 5) (own_row 1 rfl) rfl rfl rfl Try.underlying32 rfl (by kernel_rfl) ?_
   simp only [Act.put, Xa, Xz, Xs]
   refine wl_base (fun W1 hE1 => ?_)
   have hn6 : w.heap.size ≤ g4 := hE1.own _ (mem_of_at (i := 0) rfl)
   have hg4 := hE1.rowAt (i := 0) rfl
   have hg3 := hE1.rowAt (i := 1) rfl
   have hg2 := hE1.rowAt (i := 2) rfl
   have hg1 := hE1.rowAt (i := 3) rfl
   have hS := reads_below hS hE1.below
   have hG := oks_below hG hE1.below
   have hR := reads_below hR hE1.below
   have hB := hB.trans (But.of_below hE1.below)
   refine wl_call_base (ι := Bool × Nat × Nat × DataW Unit × List Ro) 43 #[.agg #[.int .i64 f, .slice ps X.length cs], .agg #[.slice p G.length c, .slice q H.length d], .agg #[.int .i64 lo, .int .i64 hi]] (fun z => .tuple #[bif z.1 then .map (some z.2.1) else .map none, .bool z.1]) (fun z w9 => Ds G f hi lo X [] z.2.2.2.2 z.1 ∧ Keys z.2.2.2.1 z.2.2.2.2 ∧ w9.ownsMap Try.prog 92 (Rz (H := Unit)) z.2.1 z.2.2.1 z.2.2.2.1 ∧ W1.heap.size ≤ z.2.1 ∧ Below W1.heap.size W1 w9) rfl (fun _ => by go_simp) (fun W hE => ?_) ?_
   ·
    refine (reach_any G H p q c d s0 f lo hi X ps cs W hX (reads_below hR hE.below) (reads_below hS hE.below) (oks_below hG hE.below) hM hC hf).mono ?_
    rintro e w' ⟨ok, b, n, D, M, ⟨a1, a2, a3, a4, a5⟩, rfl⟩
    exact ⟨(ok, b, n, D, M), ⟨a1, a2, a3, Nat.le_trans hE.below.size a4, below_two hE.below a5⟩, rfl⟩
   rintro ⟨ok, b, n, D, M⟩ W2 ⟨hds, hks, own, hb0, hbl⟩
   dsimp only at hds hks own hb0 hbl ⊢
   have hg1 := below_row hbl (lt_of_row hg1) hg1
   have hg2 := below_row hbl (lt_of_row hg2) hg2
   have hg3 := below_row hbl (lt_of_row hg3) hg3
   have hg4 := below_row hbl (lt_of_row hg4) hg4
   have hS := reads_below hS hbl
   have hG := oks_below hG hbl
   have hR := reads_below hR hbl
   have hB := hB.trans (But.of_below hbl)
   have hb0 : w.heap.size ≤ b := Nat.le_trans hE1.below.size hb0
   cases ok
   ·
    skip
    simp only [cond_true, cond_false]
    simp only [Act.put, Xa, Xz, Xs]
    refine wl_val (.tuple #[.map none, .bool false]) rfl (fun _ => rfl) ?_
    simp only [Act.put, Xa, Xz, Xs]
    refine wl_val (.map none) rfl (fun _ => by go_simp) ?_
    simp only [Act.put, Xa, Xz, Xs]
    refine wl_val (.bool false) rfl (fun _ => by go_simp) ?_
    simp only [Act.put, Xa, Xz, Xs]
    refine wl_val (.map none) rfl (fun _ => rfl) ?_
    simp only [Act.put, Xa, Xz, Xs]
    refine wl_val (.bool false) rfl (fun _ => rfl) ?_
    simp only [Act.put, Xa, Xz, Xs]
    refine wl_nil ?_
    refine we_then ?_
    refine wc_seq ?_
    refine wc_seq ?_
    refine wc_region ?_
    refine wl_val (.bool false) rfl (fun _ => rfl) ?_
    simp only [Act.put, Xa, Xz, Xs]
    refine wl_val (.bool true) rfl (fun _ => by go_simp) ?_
    simp only [Act.put, Xa, Xz, Xs]
    refine wl_nil ?_
    refine we_then ?_
    refine wc_true rfl ?_
    refine wc_seq ?_
    refine wc_region ?_
    refine wl_val (.agg #[.int .i64 0, .slice none 0 0]) rfl (fun _ => by go_simp) ?_
    simp only [Act.put, Xa, Xz, Xs]
    refine wl_put_keep 36 (.tmp 6) (.tmp 33) (#[.int .i64 0, .slice none 0 0]) hg4 rfl rfl rfl rfl (by kernel_rfl) rfl (by simp [Value.oneCell']) ?_
    intro W51 b51 hg4
    have hB := but_new hB b51 (by simpa using hn6)
    simp only [Act.put]
    refine wl_val (.int .i64 13) rfl (fun _ => rfl) ?_
    simp only [Act.put, Xa, Xz, Xs]
    refine wl_nil ?_
    refine we_then ?_
    refine wc_ret ?_
    refine we_then_ret ?_
    refine we_ret_cell_tmp (.int .i64 13) (old_row hg4) rfl rfl rfl rfl Try.underlying36 rfl (by kernel_rfl) (fun w1 hE => ?_)
    exact ⟨⟨13, 0, none, [], 0, []⟩, ⟨ds_no hds hks.few hks.once (by omega), fun h => (by cases h), fun _ _ _ => reads_nil _ _⟩, rfl, (but_env hB hE).sub (List.nil_sublist _)⟩
   ·
    skip
    simp only [cond_true, cond_false]
    simp only [Act.put, Xa, Xz, Xs]
    refine wl_val (.tuple #[.map (some b), .bool true]) rfl (fun _ => rfl) ?_
    simp only [Act.put, Xa, Xz, Xs]
    refine wl_val (.map (some b)) rfl (fun _ => by go_simp) ?_
    simp only [Act.put, Xa, Xz, Xs]
    refine wl_val (.bool true) rfl (fun _ => by go_simp) ?_
    simp only [Act.put, Xa, Xz, Xs]
    refine wl_val (.map (some b)) rfl (fun _ => rfl) ?_
    simp only [Act.put, Xa, Xz, Xs]
    refine wl_val (.bool true) rfl (fun _ => rfl) ?_
    simp only [Act.put, Xa, Xz, Xs]
    refine wl_nil ?_
    refine we_then ?_
    refine wc_seq ?_
    refine wc_seq ?_
    refine wc_region ?_
    refine wl_val (.bool true) rfl (fun _ => rfl) ?_
    simp only [Act.put, Xa, Xz, Xs]
    refine wl_val (.bool false) rfl (fun _ => by go_simp) ?_
    simp only [Act.put, Xa, Xz, Xs]
    refine wl_nil ?_
    refine we_then ?_
    refine wc_false rfl ?_
    refine wc_skip ?_
    refine we_then ?_
    refine wc_seq ?_
    refine wc_seq ?_
    have hMl := ds_few hds rfl
    refine wc_region ?_
    refine wl_val (.map (some b)) rfl (fun _ => rfl) ?_
    simp only [Act.put, Xa, Xz, Xs]
    refine wl_map_len (ts := #[]) (k := 92) (e := 121) (t := 109) rfl rfl Try.underlying109 rfl own ?_
    rw [hks.size]
    simp only [Act.put, Xa, Xz, Xs]
    refine wl_val (.bool ((M.length : Int) == 0)) rfl (fun w => run_cmp rfl rfl rfl Try.underlying3 rfl w) ?_
    simp only [Act.put, Xa, Xz, Xs]
    refine wl_nil ?_
    refine we_then ?_
    cases h7 : ((M.length : Int) == 0)
    ·
     skip
     have p7 : ¬ ((M.length : Int) = 0) := by first | (simp; done) | (simp at h7; done) | simpa using h7
     refine wc_false rfl ?_
     refine wc_skip ?_
     refine we_then ?_
     refine wc_seq ?_
     refine wc_region ?_
     refine wl_val (.pointer (some ⟨g1, 0, none⟩)) rfl (fun _ => by go_simp) ?_
     simp only [Act.put, Xa, Xz, Xs]
     refine wl_cell 2 (.tmp 38) (.int .i64 f) (old_row hg1) rfl rfl rfl rfl Try.isAgg2 ?_
     simp only [Act.put, Xa, Xz, Xs]
     refine wl_val (.agg #[.int .i64 f, .slice none 0 0]) rfl (fun _ => by go_simp) ?_
     simp only [Act.put, Xa, Xz, Xs]
     refine wl_new 36 (#[.int .i64 0, .slice none 0 0]) rfl (fun _ => by go_simp) ?_
     intro g8
     simp only [Act.put, Xa, Xz, Xs]
     refine wl_store 0 36 (.tmp 10) (.tmp 40) (#[.int .i64 f, .slice none 0 0]) rfl rfl rfl rfl rfl (by kernel_rfl) rfl (by simp [Value.oneCell']) ?_
     simp only [Act.put, List.set_cons_zero]
     refine wl_nil ?_
     refine we_then ?_
     refine wc_seq ?_
     refine wc_seq ?_
     refine wc_region ?_
     refine wl_val (.map (some b)) rfl (fun _ => rfl) ?_
     simp only [Act.put, Xa, Xz, Xs]
     refine wl_base (fun W5 hE5 => ?_)
     have hn10 : w.heap.size ≤ g8 := Nat.le_trans hB.size (hE5.own _ (mem_of_at (i := 0) rfl))
     have hne : g4 ≠ g8 := by have h8 := lt_of_row hg4; have h9 := hE5.own _ (mem_of_at (i := 0) rfl); dsimp only at h9; omega
     have hg1 := below_row hE5.below (lt_of_row hg1) hg1
     have hg2 := below_row hE5.below (lt_of_row hg2) hg2
     have hg3 := below_row hE5.below (lt_of_row hg3) hg3
     have hg4 := below_row hE5.below (lt_of_row hg4) hg4
     have hg8 := hE5.rowAt (i := 0) rfl
     have hB := hB.trans (But.of_below hE5.below)
     have own := own_env own hE5
     have hz5 := hB.size
     refine wl_map_range (k := 92) (e := 121) (t := 109) (n := n) (D := D) rfl rfl Rkey.law Try.underlying109 rfl own ?_
     intro W6 it c7 hrg c8
     have hitn : w.heap.size ≤ it := Nat.le_trans hz5 c7
     have hg1 := c8.row hg1 (by simp)
     have hg2 := c8.row hg2 (by simp)
     have hg3 := c8.row hg3 (by simp)
     have hg4 := c8.row hg4 (by simp)
     have hg8 := c8.row hg8 (by simp)
     have hB := hB.trans c8
     simp only [Act.put, Xa, Xz, Xs]
     refine wl_nil ?_
     refine we_then ?_
     refine wc_block ?_
     refine wc_loopr (fun (zz : List Ro × Own × (Lit → Bool) × Nat × Value × Value × Value × Value × Value × Value × Value × Value × Value × Value × Value) => match zz with | ⟨O, o, left, cnt, u11, u43, u44, u45, u46, u47, u48, u49, u50, u51, u52⟩ => ({ tmps := #[.agg #[.int .i64 f, .slice ps X.length cs], .agg #[.slice p G.length c, .slice q H.length d], .agg #[.int .i64 lo, .int .i64 hi], .pointer (some ⟨g1, 0, none⟩), .pointer (some ⟨g2, 0, none⟩), .pointer (some ⟨g3, 0, none⟩), .pointer (some ⟨g4, 0, none⟩), .int .i64 0, .map (some b), .bool true, .pointer (some ⟨g8, 0, none⟩), u11, .agg #[.int .i64 lo, .int .i64 hi], .bool true, .bool false, .bool false, .pointer (some ⟨g3, 0, none⟩), .int .i64 lo, .pointer (some ⟨g1, 0, none⟩), .int .i64 f, .int .i64 (-f), .bool false, .bool false, undef, .tuple #[.map (some b), .bool true], .agg #[.int .i64 f, .slice ps X.length cs], .agg #[.slice p G.length c, .slice q H.length d], .agg #[.int .i64 lo, .int .i64 hi], .tuple #[.map (some b), .bool true], .map (some b), .bool true, .bool true, .bool false, undef, .map (some b), .int .i64 (M.length : Int), .bool false, undef, .pointer (some ⟨g1, 0, none⟩), .int .i64 f, .agg #[.int .i64 f, .slice none 0 0], .map (some b), .pointer (some ⟨it, 0, none⟩), u43, u44, u45, u46, u47, u48, u49, u50, u51, u52, undef, undef, undef, undef], defers := [] } : Act)) (fun (zz : List Ro × Own × (Lit → Bool) × Nat × Value × Value × Value × Value × Value × Value × Value × Value × Value × Value × Value) => match zz with | ⟨O, o, left, cnt, u11, u43, u44, u45, u46, u47, u48, u49, u50, u51, u52⟩ => (o.rows 92 ++ [])) (fun (zz : List Ro × Own × (Lit → Bool) × Nat × Value × Value × Value × Value × Value × Value × Value × Value × Value × Value × Value) => match zz with | ⟨O, o, left, cnt, u11, u43, u44, u45, u46, u47, u48, u49, u50, u51, u52⟩ => (fun w9 => Come M O left ∧ w9.ranges Try.prog 92 (Rz (H := Unit)) b it n D left cnt ∧ o.Has 13 O.length (flat rt O) ∧ w9.heap[g8]? = some (.cells #[.int .i64 f, .slice o.ptr O.length o.cap] 36 (0, 0)) ∧ w9.heap[g4]? = some (.cells #[.int .i64 0, .slice none 0 0] 36 (0, 0)) ∧ But [] w w9)) (fun (zz : List Ro × Own × (Lit → Bool) × Nat × Value × Value × Value × Value × Value × Value × Value × Value × Value × Value × Value) => match zz with | ⟨O, o, left, cnt, u11, u43, u44, u45, u46, u47, u48, u49, u50, u51, u52⟩ => cnt) ⟨[], Own.none, (Maps.has D), (Maps.size D), _, _, _, _, _, _, _, _, _, _, _⟩ ⟨come_start hks, hrg, by simpa [flat] using Own.has_none 13, hg8, hg4, hB⟩ rfl (List.nil_sublist _) ?_
     rintro ⟨O, o, left, cnt, u11, u43, u44, u45, u46, u47, u48, u49, u50, u51, u52⟩ w1 hφ
     (try dsimp only at hφ ⊢)
     obtain ⟨hcm, hrg, ho, hg8, hg4, hB⟩ := hφ
     have hOl : O.length ≤ 16 := Nat.le_trans (nodup_len hcm.once hcm.sub) hMl
     refine wc_seq ?_
     refine wc_region ?_
     refine wl_next_keep (k := 92) (α := Value) (β := Unit) id (fun _ => .agg #[]) rfl rfl Rkey.law (fun key kl _ => ⟨key, rfl⟩) (fun v y h => rz_inv h) rfl hrg (rng_lt hrg).1 (rng_lt hrg).2 ?_ ?_
     ·
      intro hc0 hlf
      have hall := come_end hks hcm hlf
      simp only [Act.put, Xa, Xz, Xs]
      refine wl_val (.bool false) rfl (fun _ => by go_simp) ?_
      simp only [Act.put, Xa, Xz, Xs]
      refine wl_nil ?_
      refine we_then ?_
      refine wc_seq ?_
      refine wc_false rfl ?_
      refine wc_exit ?_
      refine we_then_exit ?_
      refine we_then_exit ?_
      refine we_in_here ?_
      refine we_then ?_
      refine wc_seq ?_
      refine wc_region ?_
      refine wl_val (.pointer (some ⟨g8, 1, none⟩)) rfl (fun _ => by go_simp) ?_
      simp only [Act.put, Xa, Xz, Xs]
      refine wl_cell 34 (.tmp 53) (.slice o.ptr O.length o.cap) (old_row hg8) rfl rfl rfl rfl Try.isAgg34 ?_
      simp only [Act.put, Xa, Xz, Xs]
      refine wl_call_turnv (ι := Own × List Ro) (e := 92) [] [] o 44 #[.slice o.ptr O.length o.cap, .func (.func 45) #[] #[]] (fun (z9 : Own × List Ro) => .tuple #[]) (fun (z9 : Own × List Ro) => z9.1) (fun (z9 : Own × List Ro) => z9.1.ptr = o.ptr ∧ z9.1.cap = o.cap ∧ Asc z9.2 ∧ (∀ r, r ∈ z9.2 ↔ r ∈ O) ∧ z9.2.length = O.length ∧ z9.1.Has 13 O.length (flat rt z9.2)) rfl rfl (fun _ => by go_simp) (fun W hE => sort_routes o O hE ho (by omega) (fun r hr => hks.few r (hcm.sub r hr)) hcm.once) ?_
      rintro z9 ⟨e1, e2, ha, hm, hl9, hh9⟩
      simp only [List.nil_append, Act.put, Xa, Xz, Xs]
      refine wl_nil ?_
      refine we_then ?_
      refine wc_seq ?_
      refine wc_region ?_
      refine wl_load 36 (.tmp 10) (old_row hg8) rfl rfl rfl Try.underlying36 rfl (by kernel_rfl) ?_
      simp only [Act.put, Xa, Xz, Xs]
      refine wl_put_keep 36 (.tmp 6) (.tmp 56) (#[.int .i64 f, .slice o.ptr O.length o.cap]) hg4 rfl rfl rfl rfl (by kernel_rfl) rfl (by simp [Value.oneCell']) ?_
      intro W52 b52 hg4
      have hB := but_new hB b52 (by simpa using hn6)
      simp only [Act.put]
      refine wl_val (.int .i64 0) rfl (fun _ => rfl) ?_
      simp only [Act.put, Xa, Xz, Xs]
      refine wl_nil ?_
      refine we_then ?_
      refine wc_ret ?_
      refine we_ret_cell_tmp (.int .i64 0) (old_row hg4) rfl rfl rfl rfl Try.underlying36 rfl (by kernel_rfl) (fun w1 hE => ?_)
      have hne0 : M ≠ [] := fun k => by have k2 : M.length = 0 := (by rw [k]; rfl); omega
      have hgs := ds_some (Y := z9.2) hds hne0 ha (fun r => (hm r).trans (hall r)) (by omega)
      have hH := held_own (e := 92) hh9
      rw [e1] at hH
      exact ⟨⟨0, f, o.ptr, z9.2, o.cap, z9.1.rows 92⟩, ⟨hgs, fun _ => rfl, hH⟩, by rw [hl9]; rfl, Env.tail (but_env hB hE) (List.Sublist.append_left List.Sublist.slnil _)⟩
     ·
      intro x u kl y w2 cnt2 hkl hlf hrz hrg2 hlt b9 hcur
      obtain ⟨r0, hr0, hx, hno, hc2⟩ := come_next hks hcm hkl hlf
      have hx2 : x = rtv r0 := hx
      subst hx2
      have hit : w.heap.size ≤ it := hitn
      have hg8 := rng_row hrg b9 hg8
      have hg4 := rng_row hrg b9 hg4
      have hB := but_new hB b9 (by simpa using hit)
      have hrg := hrg2
      simp only [id]
      simp only [Act.put, Xa, Xz, Xs]
      refine wl_val (.bool true) rfl (fun _ => by go_simp) ?_
      simp only [Act.put, Xa, Xz, Xs]
      refine wl_nil ?_
      refine we_then ?_
      refine wc_seq ?_
      refine wc_true rfl ?_
      refine wc_skip ?_
      refine we_then ?_
      refine wc_block ?_
      refine wc_seq ?_
      refine wc_region ?_
      refine wl_map_entry (b := b) (r := it) (v := .tuple #[.agg #[.int .i64 (r0.length : Int), .int .i64 (pad r0 0), .int .i64 (pad r0 1), .int .i64 (pad r0 2), .int .i64 (pad r0 3), .int .i64 (pad r0 4), .int .i64 (pad r0 5), .int .i64 (pad r0 6), .int .i64 (pad r0 7), .int .i64 (pad r0 8), .int .i64 (pad r0 9), .int .i64 (pad r0 10), .int .i64 (pad r0 11)], .agg #[]]) rfl rfl rfl hcur (rng_lt hrg).1 (rng_lt hrg).2 ?_
      simp only [Act.put, Xa, Xz, Xs]
      refine wl_val (.agg #[.int .i64 (r0.length : Int), .int .i64 (pad r0 0), .int .i64 (pad r0 1), .int .i64 (pad r0 2), .int .i64 (pad r0 3), .int .i64 (pad r0 4), .int .i64 (pad r0 5), .int .i64 (pad r0 6), .int .i64 (pad r0 7), .int .i64 (pad r0 8), .int .i64 (pad r0 9), .int .i64 (pad r0 10), .int .i64 (pad r0 11)]) rfl (fun _ => by go_simp) ?_
      simp only [Act.put, Xa, Xz, Xs]
      refine wl_new 92 (#[.int .i64 0, .int .i64 0, .int .i64 0, .int .i64 0, .int .i64 0, .int .i64 0, .int .i64 0, .int .i64 0, .int .i64 0, .int .i64 0, .int .i64 0, .int .i64 0, .int .i64 0]) rfl (fun _ => by go_simp) ?_
      intro g9
      simp only [Act.put, Xa, Xz, Xs]
      refine wl_store 0 92 (.tmp 11) (.tmp 46) (#[.int .i64 (r0.length : Int), .int .i64 (pad r0 0), .int .i64 (pad r0 1), .int .i64 (pad r0 2), .int .i64 (pad r0 3), .int .i64 (pad r0 4), .int .i64 (pad r0 5), .int .i64 (pad r0 6), .int .i64 (pad r0 7), .int .i64 (pad r0 8), .int .i64 (pad r0 9), .int .i64 (pad r0 10), .int .i64 (pad r0 11)]) rfl rfl rfl rfl rfl (by kernel_rfl) rfl (by simp [Value.oneCell']) ?_
      simp only [Act.put, List.set_cons_zero]
      refine wl_nil ?_
      refine we_then ?_
      refine wc_region ?_
      refine wl_val (.pointer (some ⟨g8, 1, none⟩)) rfl (fun _ => by go_simp) ?_
      simp only [Act.put, Xa, Xz, Xs]
      refine wl_cell 34 (.tmp 47) (.slice o.ptr O.length o.cap) (old_row hg8) rfl rfl rfl rfl Try.isAgg34 ?_
      simp only [Act.put, Xa, Xz, Xs]
      refine wl_load 92 (.tmp 11) (own_row 0 rfl) rfl rfl rfl Try.underlying92 rfl (by kernel_rfl) ?_
      simp only [Act.put, Xa, Xz, Xs]
      refine wl_lit (e := 92) #[.int .i64 (r0.length : Int), .int .i64 (pad r0 0), .int .i64 (pad r0 1), .int .i64 (pad r0 2), .int .i64 (pad r0 3), .int .i64 (pad r0 4), .int .i64 (pad r0 5), .int .i64 (pad r0 6), .int .i64 (pad r0 7), .int .i64 (pad r0 8), .int .i64 (pad r0 9), .int .i64 (pad r0 10), .int .i64 (pad r0 11)] 1 rfl (fun _ => by go_simp) ?_
      intro g10
      simp only [Act.put, Xa, Xz, Xs]
      refine wl_append (e := 92) (size := 13) (bytes := 104) (m := 1) [⟨g10, #[.int .i64 (r0.length : Int), .int .i64 (pad r0 0), .int .i64 (pad r0 1), .int .i64 (pad r0 2), .int .i64 (pad r0 3), .int .i64 (pad r0 4), .int .i64 (pad r0 5), .int .i64 (pad r0 6), .int .i64 (pad r0 7), .int .i64 (pad r0 8), .int .i64 (pad r0 9), .int .i64 (pad r0 10), .int .i64 (pad r0 11)], 92⟩, ⟨g9, #[.int .i64 (r0.length : Int), .int .i64 (pad r0 0), .int .i64 (pad r0 1), .int .i64 (pad r0 2), .int .i64 (pad r0 3), .int .i64 (pad r0 4), .int .i64 (pad r0 5), .int .i64 (pad r0 6), .int .i64 (pad r0 7), .int .i64 (pad r0 8), .int .i64 (pad r0 9), .int .i64 (pad r0 10), .int .i64 (pad r0 11)], 92⟩] [] o (ys := [.int .i64 (r0.length : Int), .int .i64 (pad r0 0), .int .i64 (pad r0 1), .int .i64 (pad r0 2), .int .i64 (pad r0 3), .int .i64 (pad r0 4), .int .i64 (pad r0 5), .int .i64 (pad r0 6), .int .i64 (pad r0 7), .int .i64 (pad r0 8), .int .i64 (pad r0 9), .int .i64 (pad r0 10), .int .i64 (pad r0 11)]) rfl ho (sl_row 0 rfl) rfl (by simp [Value.oneCell']) rfl rfl rfl rfl Try.underlying34 (by unfold Elem; kernel_rfl) (by decide) (by unfold maxLen; omega) (by omega) ?_
      intro s11 hs11
      simp only [List.cons_append, List.nil_append, Act.put, Xa, Xz, Xs]
      refine wl_val (.pointer (some ⟨g8, 1, none⟩)) rfl (fun _ => by go_simp) ?_
      simp only [Act.put, Xa, Xz, Xs]
      refine wl_putc_keep 34 (.tmp 52) (.tmp 51) (.slice o.ptr O.length o.cap) (.slice s11.ptr (O.length + 1) s11.cap) hg8 rfl rfl rfl rfl rfl (by kernel_rfl) rfl ?_
      intro W53 b53 hx53
      have hrg := rng_put hrg b53 hg8
      have hg4 := b53.row hg4 (by simpa using hne)
      have hg8 := hx53
      have hB := but_new hB b53 (by simpa using hn10)
      simp only [Act.put]
      refine wl_nil ?_
      refine we_in ?_
      have e7 : (O ++ [r0]).length = O.length + 1 := by simp
      refine we_meetr ⟨(O ++ [r0]), s11, (fun z => left z && !z.sameKey kl), cnt2, _, _, _, _, _, _, _, _, _, _, _⟩ ⟨⟨hc2, hrg, ?_, ?_, hg4, hB⟩, hlt⟩ rfl ((List.Sublist.cons _ (List.Sublist.cons _ (List.Sublist.append_left List.Sublist.slnil _))))
      ·
       rw [e7]; exact has_snoc (x := r0) hs11
      ·
       rw [e7]; exact hg8
    ·
     skip
     have p7 : (M.length : Int) = 0 := by first | (simp; done) | (simp at h7; done) | simpa using h7
     refine wc_true rfl ?_
     refine wc_seq ?_
     refine wc_region ?_
     refine wl_val (.agg #[.int .i64 0, .slice none 0 0]) rfl (fun _ => by go_simp) ?_
     simp only [Act.put, Xa, Xz, Xs]
     refine wl_put_keep 36 (.tmp 6) (.tmp 37) (#[.int .i64 0, .slice none 0 0]) hg4 rfl rfl rfl rfl (by kernel_rfl) rfl (by simp [Value.oneCell']) ?_
     intro W54 b54 hg4
     have hB := but_new hB b54 (by simpa using hn6)
     simp only [Act.put]
     refine wl_val (.int .i64 40) rfl (fun _ => rfl) ?_
     simp only [Act.put, Xa, Xz, Xs]
     refine wl_nil ?_
     refine we_then ?_
     refine wc_ret ?_
     refine we_then_ret ?_
     refine we_ret_cell_tmp (.int .i64 40) (old_row hg4) rfl rfl rfl rfl Try.underlying36 rfl (by kernel_rfl) (fun w1 hE => ?_)
     have hM0 : M = [] := List.eq_nil_of_length_eq_zero (by omega)
     rw [hM0] at hds
     exact ⟨⟨40, 0, none, [], 0, []⟩, ⟨ds_none hds (by omega), fun h => (by cases h), fun _ _ _ => reads_nil _ _⟩, rfl, (but_env hB hE).sub (List.nil_sublist _)⟩
  ·
   skip
   have p6 : lo < (-f) := of_decide_eq_true h6
   refine wc_true rfl ?_
   refine wc_seq ?_
   refine wc_region ?_
   refine wl_val (.agg #[.int .i64 0, .slice none 0 0]) rfl (fun _ => by go_simp) ?_
   simp only [Act.put, Xa, Xz, Xs]
   refine wl_store 0 36 (.tmp 6) (.tmp 23) (#[.int .i64 0, .slice none 0 0]) rfl rfl rfl rfl rfl (by kernel_rfl) rfl (by simp [Value.oneCell']) ?_
   simp only [Act.put, List.set_cons_zero]
   refine wl_val (.int .i64 40) rfl (fun _ => rfl) ?_
   simp only [Act.put, Xa, Xz, Xs]
   refine wl_nil ?_
   refine we_then ?_
   refine wc_ret ?_
   refine we_then_ret ?_
   refine we_ret_cell_tmp (.int .i64 40) (own_row 0 rfl) rfl rfl rfl rfl Try.underlying36 rfl (by kernel_rfl) (fun w1 hE => ?_)
   exact ⟨⟨40, 0, none, [], 0, []⟩, ⟨grow_off (by omega), fun h => (by cases h), fun _ _ _ => reads_nil _ _⟩, rfl, hE.sub (List.nil_sublist _)⟩
end Go.Proofs.Ytbacchdkankioaa.Rouf
namespace Go.Proofs.Ytbacchdkankioaa.Roud
open Go.ChangeShapes Go.WideShapes Go.ChangeAt Go.RowKit
open Arr Steady Sx Sw Sl Sb Sc Si Sk Sh Smu Sj Vs Gr Tk Tkh Tkl Rt Rtm Rtp Rtk Rts Fns Rdr Mp Re Roua Roub Rouc Rsrt Sfn Spn
set_option linter.unusedVariables false
set_option linter.unusedSimpArgs false
set_option maxRecDepth 100000

end Go.Proofs.Ytbacchdkankioaa.Roud
namespace Go.Proofs.Ytbacchdkankioaa.Rou
open Go.ChangeShapes Go.WideShapes Go.ChangeAt Go.RowKit
open Arr Steady Sx Sw Sl Sb Sc Sh Vs Gr Tk Tkh Tkl Rt Rtm Rtg Rtp Rtk Rts Roub Rouc Roud Rouf
open Roua (path_own)
set_option linter.unusedVariables false
set_option maxRecDepth 100000
theorem frm_in {G : List Sg} {H : List Gp} {s0 f : Int} {X : List Ro} (hM : TrackMay G H) (hX : SetOk G s0 f X) : 0 ≤ f ∧ f ≤ 1099511627776 := by
  have h1 := hX.frm
  have h2 := hX.seg0
  have h3 := (hM.segs s0.toNat (by omega)).high
  omega
theorem begin_any (s0 f : Int) (w : World) :
    Calls Try.prog 24 #[.int .i64 s0, .int .i64 f] w fun e w' => ∃ z : Pz, Held z.N z.p (flat rt [[s0]]) ∧ e = .returned (.agg #[.int .i64 f, .slice z.p 1 z.c]) ∧ Env w w' z.N := Roua.begin_any s0 f w
theorem path_any (r : Ro) (w : World) (h1 : 1 ≤ r.length) (h2 : r.length ≤ 12) :
    Calls Try.prog 26 #[.agg #[.int .i64 (r.length : Int), .int .i64 (pad r 0), .int .i64 (pad r 1), .int .i64 (pad r 2), .int .i64 (pad r 3), .int .i64 (pad r 4), .int .i64 (pad r 5), .int .i64 (pad r 6), .int .i64 (pad r 7), .int .i64 (pad r 8), .int .i64 (pad r 9), .int .i64 (pad r 10), .int .i64 (pad r 11)]] w fun e w' => ∃ z : Pz, Held z.N z.p (flat enc1 r) ∧ e = .returned (.slice z.p r.length z.c) ∧ Env w w' z.N := by
  refine (path_own r w h2).mono ?_
  rintro e w' ⟨s, hs, rfl, hE⟩
  exact ⟨⟨s.ptr, s.cap, s.rows 3⟩, held_own hs, rfl, hE⟩
theorem end_any (G : List Sg) (H : List Gp) (p q : Option Addr) (c d : Nat) (s0 f : Int) (X : List Ro) (ps : Option Addr) (cs : Nat) (r : Ro) (w : World) (hS : Reads w p (flat sg G)) (hG : OkS w G) (hH : Reads w q (flat gp H)) (hM : TrackMay G H) (hX : SetOk G s0 f X) (hR : Reads w ps (flat rt X)) (hr : r ∈ X) :
    Calls Try.prog 53 #[.agg #[.int .i64 f, .slice ps X.length cs], .agg #[.slice p G.length c, .slice q H.length d], .agg #[.int .i64 (r.length : Int), .int .i64 (pad r 0), .int .i64 (pad r 1), .int .i64 (pad r 2), .int .i64 (pad r 3), .int .i64 (pad r 4), .int .i64 (pad r 5), .int .i64 (pad r 6), .int .i64 (pad r 7), .int .i64 (pad r 8), .int .i64 (pad r 9), .int .i64 (pad r 10), .int .i64 (pad r 11)]] w fun e w' => e = .returned (.int .i64 (endR G f r)) ∧ Below w.heap.size w w' := end_in_any G H p q c d f ps X.length cs r w hS hG hM (frm_in hM hX) (hX.wf r hr).ok
theorem grow_any (lo hi : Int) (G : List Sg) (H : List Gp) (p q : Option Addr) (c d : Nat) (s0 f : Int) (X : List Ro) (ps : Option Addr) (cs : Nat) (w : World) (hS : Reads w p (flat sg G)) (hG : OkS w G) (hH : Reads w q (flat gp H)) (hM : TrackMay G H) (hX : SetOk G s0 f X) (hR : Reads w ps (flat rt X)) (hlo : -9223372036854775808 ≤ lo ∧ lo ≤ 9223372036854775807) (hhi : -9223372036854775808 ≤ hi ∧ hi ≤ 9223372036854775807) (hC : ∀ s ∈ G, s.X.length ≤ s.nc) :
    Calls Try.prog 28 #[.agg #[.int .i64 f, .slice ps X.length cs], .agg #[.slice p G.length c, .slice q H.length d], .agg #[.int .i64 lo, .int .i64 hi]] w fun e w' => ∃ z : Gp2, Gp2Ok G f hi lo X z ∧ e = .returned (.tuple #[.agg #[.int .i64 z.F, .slice z.p z.X.length z.c], .int .i64 (z.e : Nat)]) ∧ Env w w' z.N := grow_core G H p q c d s0 f lo hi X ps cs w hX hR hS hG hM hC (frm_in hM hX)
theorem has_any (G : List Sg) (s0 f : Int) (X : List Ro) (ps : Option Addr) (cs : Nat) (P : List Int) (a : Option Addr) (ca : Nat) (w : World) (hX : SetOk G s0 f X) (hR : Reads w ps (flat rt X)) (hP : Reads w a (flat enc1 P)) (hn : P.length ≤ 140737488355328) (hca : P.length ≤ ca) :
    Calls Try.prog 17 #[.agg #[.int .i64 f, .slice ps X.length cs], .slice a P.length ca] w fun e w' => e = .returned (.bool (hasB X P)) ∧ Below w.heap.size w w' := has_core X P f ps a cs ca w hR hP (fun i hi => (hX.wf _ (by rw [getElem!_pos X i hi]; exact List.getElem_mem _)).ok.few) hX.few hn hca
end Go.Proofs.Ytbacchdkankioaa.Rou
