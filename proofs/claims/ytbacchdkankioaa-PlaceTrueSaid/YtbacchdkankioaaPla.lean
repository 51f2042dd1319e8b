/-
 Package place. Conditions: a configuration and a track that may be, a group that is there, speeds that the train can have; places that Reset and Move hand back.
-/
import Derived.Test.YtbacchdkankioaaPlm
import Derived.Test.YtbacchdkankioaaMro
import Derived.Test.YtbacchdkankioaaSpo
import Derived.Test.YtbacchdkankioaaMsf
import Derived.Test.YtbacchdkankioaaSmu
import Derived.Test.YtbacchdkankioaaMsc
import Derived.Test.YtbacchdkankioaaCh
namespace Go.Proofs.Ytbacchdkankioaa.Pla
open Go.ChangeShapes Go.WideShapes Go.ChangeAt Go.RowKit
open Arr Steady Sx Sw Sl Sb Sc Si Sj Sk Sh Ch Smu Shh Sfn Vs Gr Tk Tkh Tkl Rt Rtm Rtg Rtp Rtk Rts Cf Plm
set_option linter.unusedVariables false
set_option linter.unusedSimpArgs false
set_option maxRecDepth 100000

theorem told_yes {r : Bool} {X Y : Int} (hr : r = true) (h1 : -9223372036854775808 ≤ X) (h2 : X ≤ Y) (h3 : Y ≤ 9223372036854775807) : Spo.tB r X Y = true := by
 have f1 : Num.Fits X := by unfold Num.Fits; omega
 have f2 : Num.Fits Y := by unfold Num.Fits; omega
 unfold Spo.tB Spo.fitB
 rw [hr, decide_eq_true f1, decide_eq_true f2, decide_eq_true h2]; rfl
theorem mem_if {c : Prop} [Decidable c] {r : Rw} {A B : List Rw} (ha : r ∈ A) (hb : r ∈ B) : r ∈ (if c then A else B) := by split <;> assumption
theorem heldz (N : List Rw) : Held N none (flat rt []) := fun w0 W hE => reads_nil _ _
theorem addsat_b (a b : Int) (w : World) (ha : Num.Fits a) (hb : Num.Fits b) (h : Num.Fits (a + b)) : Calls Try.prog 30 #[.int .i64 a, .int .i64 b] w fun e w' => e = .returned (.int .i64 (a + b)) ∧ Below w.heap.size w w' := by
 refine (Num.addsat_any a b w ha hb).mono ?_
 rintro e w' ⟨rfl, rfl⟩
 exact ⟨by rw [Num.sat_fits h], Below.refl _ _⟩
theorem clamp_b (x lo hi : Int) (w : World) : Calls Try.prog 29 #[.int .i64 x, .int .i64 lo, .int .i64 hi] w fun e w' => e = .returned (.int .i64 (est1 lo hi x)) ∧ Below w.heap.size w w' := by
 refine (Num.clamp_any x lo hi w).mono ?_
 rintro e w' ⟨rfl, rfl⟩
 exact ⟨rfl, Below.refl _ _⟩
set_option maxHeartbeats 4000000 in
theorem reset_core (k : Cf) (gi lo hi a b x y m : Int) (G : List Sg) (H : List Gp) (p q : Option Addr) (c d : Nat) (w : World) (hgi : 0 ≤ gi ∧ gi < H.length) (h1 : 0 ≤ (H[gi.toNat]!).acc ∧ (H[gi.toNat]!).acc ≤ 1048576) (h3 : 0 ≤ k.an ∧ k.an ≤ 1048576) (hH : Reads w q (flat gp H)) (hS : Reads w p (flat sg G))
  (c1 : ∀ W, Calls Try.prog 20 #[.agg #[.int .i64 lo, .int .i64 hi], .agg #[.int .i64 0, .int .i64 0]] W fun e w' => e = .returned (.agg #[.int .i64 a, .int .i64 b]) ∧ Below W.heap.size W w')
  (c2 : ∀ W, Calls Try.prog 22 #[.agg #[.int .i64 a, .int .i64 b], .int .i64 ((H[gi.toNat]!).acc + k.an)] W fun e w' => e = .returned (.tuple #[.agg #[.int .i64 x, .int .i64 y], .bool true]) ∧ Below W.heap.size W w')
  (c3 : ∀ W, Calls Try.prog 23 #[.agg #[.int .i64 x, .int .i64 y]] W fun e w' => e = .returned (.int .i64 m) ∧ Below W.heap.size W w') :
  Calls Try.prog 9 #[.agg #[.int .i64 k.pu, .int .i64 k.lo, .int .i64 k.hi, .int .i64 k.rb, .int .i64 k.rp, .int .i64 k.ae, .int .i64 k.ms, .int .i64 k.ma, .int .i64 k.an, .int .i64 k.st, .int .i64 k.ss, .int .i64 k.ro, .int .i64 k.ti, .int .i64 k.br], .agg #[.slice p G.length c, .slice q H.length d], .int .i64 gi, .agg #[.int .i64 lo, .int .i64 hi]] w fun e w' => ∃ z : Pz, Held z.N z.p (flat rt [[(H[gi.toNat]!).seg]]) ∧ e = .returned (.agg #[.bool true, .int .i64 gi, .int .i64 x, .int .i64 y, .int .i64 m, .int .i64 (H[gi.toNat]!).off, .slice z.p 1 z.c]) ∧ Env w w' z.N := by
 refine calls_sx Try.func9 rfl ?_
 simp only [Try.ntmps9, List.size_toArray, List.length_cons, List.length_nil, Nat.reduceAdd, Nat.reduceSub, Array.replicate_succ, Array.replicate_zero, List.push_toArray, List.append_toArray, List.nil_append, List.cons_append]
 refine wc_seq ?_
 refine wc_region ?_
 refine wl_new 23 (#[.int .i64 k.pu, .int .i64 k.lo, .int .i64 k.hi, .int .i64 k.rb, .int .i64 k.rp, .int .i64 k.ae, .int .i64 k.ms, .int .i64 k.ma, .int .i64 k.an, .int .i64 k.st, .int .i64 k.ss, .int .i64 k.ro, .int .i64 k.ti, .int .i64 k.br]) rfl (fun _ => by go_simp) ?_
 intro g1
 simp only [Act.put, Xa, Xz, Xs]
 refine wl_new 27 (#[.slice p G.length c, .slice q H.length d]) rfl (fun _ => by go_simp) ?_
 intro g2
 simp only [Act.put, Xa, Xz, Xs]
 refine wl_new 32 (#[.int .i64 lo, .int .i64 hi]) rfl (fun _ => by go_simp) ?_
 intro g3
 simp only [Act.put, Xa, Xz, Xs]
 refine wl_new 38 (#[.bool false, .int .i64 0, .int .i64 0, .int .i64 0, .int .i64 0, .int .i64 0, .slice none 0 0]) rfl (fun _ => by go_simp) ?_
 intro g4
 simp only [Act.put, Xa, Xz, Xs]
 refine wl_nil ?_
 refine we_then ?_
 refine wc_seq ?_
 refine wc_seq ?_
 refine wc_region ?_
 refine wl_val (.int .i64 gi) rfl (fun _ => rfl) ?_
 simp only [Act.put, Xa, Xz, Xs]
 refine wl_val (.bool (decide (gi < 0))) rfl (fun w => run_cmp rfl rfl rfl Try.underlying3 rfl w) ?_
 simp only [Act.put, Xa, Xz, Xs]
 refine wl_val (.bool (decide (gi < 0))) rfl (fun _ => rfl) ?_
 simp only [Act.put, Xa, Xz, Xs]
 cases h5 : (decide (gi < 0))
 ·
  skip
  have p5 : ¬ (gi < 0) := of_decide_eq_false h5
  refine wl_val (.int .i64 gi) rfl (fun _ => rfl) ?_
  simp only [Act.put, Xa, Xz, Xs]
  refine wl_val (.pointer (some ⟨g2, 1, none⟩)) rfl (fun _ => by go_simp) ?_
  simp only [Act.put, Xa, Xz, Xs]
  refine wl_cell 25 (.tmp 16) (.slice q H.length d) (own_row 2 rfl) rfl rfl rfl rfl Try.isAgg25 ?_
  simp only [Act.put, Xa, Xz, Xs]
  refine wl_val (.int .i64 (H.length : Int)) rfl (fun w => er_len rfl rfl Try.underlying25 w) ?_
  simp only [Act.put, Xa, Xz, Xs]
  refine wl_val (.bool (decide ((H.length : Int) ≤ gi))) rfl (fun w => run_cmp rfl rfl rfl Try.underlying3 rfl w) ?_
  simp only [Act.put, Xa, Xz, Xs]
  refine wl_val (.bool (decide ((H.length : Int) ≤ gi))) rfl (fun _ => rfl) ?_
  simp only [Act.put, Xa, Xz, Xs]
  refine wl_nil ?_
  refine we_then ?_
  cases h6 : (decide ((H.length : Int) ≤ gi))
  ·
   skip
   have p6 : ¬ ((H.length : Int) ≤ gi) := of_decide_eq_false h6
   refine wc_false rfl ?_
   refine wc_skip ?_
   refine we_then ?_
   refine wc_seq ?_
   refine wc_region ?_
   refine wl_val (.pointer (some ⟨g2, 1, none⟩)) rfl (fun _ => by go_simp) ?_
   simp only [Act.put, Xa, Xz, Xs]
   refine wl_cell 25 (.tmp 22) (.slice q H.length d) (own_row 2 rfl) rfl rfl rfl rfl Try.isAgg25 ?_
   simp only [Act.put, Xa, Xz, Xs]
   refine wl_val (.int .i64 gi) rfl (fun _ => rfl) ?_
   simp only [Act.put, Xa, Xz, Xs]
   refine wl_read (eaddr q ((gi.toNat) * 5)) rfl (er_index (gi.toNat) 5 (sl_old hH) rfl rfl rfl (by omega) (by omega) (flat_length (enc := gp) (size := 5) (fun _ => rfl) _) (by decide) Try.underlying25 (by kernel_rfl)) ?_
   simp only [Act.put, Xa, Xz, Xs]
   refine wl_read (.agg #[.int .i64 ((H[gi.toNat]!).id), .int .i64 ((H[gi.toNat]!).seg), .int .i64 ((H[gi.toNat]!).off), .int .i64 ((H[gi.toNat]!).acc), .int .i64 ((H[gi.toNat]!).slack)]) rfl (er_part ((gi.toNat) * 5) [.int .i64 ((H[gi.toNat]!).id), .int .i64 ((H[gi.toNat]!).seg), .int .i64 ((H[gi.toNat]!).off), .int .i64 ((H[gi.toNat]!).acc), .int .i64 ((H[gi.toNat]!).slack)] (sl_old hH) rfl rfl (flat_part (enc := gp) (fun _ => rfl) H (gi.toNat) (by omega)) (Nat.zero_lt_succ _) Try.underlying62 rfl (by kernel_rfl)) ?_
   simp only [Act.put, Xa, Xz, Xs]
   refine wl_new 62 (#[.int .i64 0, .int .i64 0, .int .i64 0, .int .i64 0, .int .i64 0]) rfl (fun _ => by go_simp) ?_
   intro g7
   simp only [Act.put, Xa, Xz, Xs]
   refine wl_store 0 62 (.tmp 9) (.tmp 26) (#[.int .i64 ((H[gi.toNat]!).id), .int .i64 ((H[gi.toNat]!).seg), .int .i64 ((H[gi.toNat]!).off), .int .i64 ((H[gi.toNat]!).acc), .int .i64 ((H[gi.toNat]!).slack)]) rfl rfl rfl rfl rfl (by kernel_rfl) rfl (by simp [Value.oneCell']) ?_
   simp only [Act.put, List.set_cons_zero]
   refine wl_nil ?_
   refine we_then ?_
   refine wc_seq ?_
   refine wc_draw [.plain, .plain, .plain, .late, .plain, .late, .plain, .late, .plain, .late, .late, .late, .make 32 (#[.int .i64 0, .int .i64 0]) 13 (#[.int .i64 x, .int .i64 y]), .put 12, .late] none [(12, 10)] 49 (by kernel_rfl) rfl (by kernel_rfl) (by kernel_rfl) ?_
   refine ws_load 32 (.tmp 7) (own_row 2 rfl) rfl rfl rfl rfl Try.underlying32 rfl (by kernel_rfl) ?_
   simp only [Nat.reduceAdd, Act.put, Xa, Xz, Xs]
   refine ws_call 21 #[.int .i64 0] (.agg #[.int .i64 0, .int .i64 0]) rfl rfl (fun _ => by go_simp) (fun W => Spo.at_any 0 W) ?_
   simp only [Nat.reduceAdd, Act.put, Xa, Xz, Xs]
   refine ws_call 20 #[.agg #[.int .i64 lo, .int .i64 hi], .agg #[.int .i64 0, .int .i64 0]] (.agg #[.int .i64 a, .int .i64 b]) rfl rfl (fun _ => by go_simp) (fun W => c1 W) ?_
   simp only [Nat.reduceAdd, Act.put, Xa, Xz, Xs]
   refine ws_late (.pointer (some ⟨g7, 3, none⟩)) rfl rfl (fun _ => by go_simp) ?_
   simp only [Nat.reduceAdd, Act.put, Xa, Xz, Xs]
   refine ws_cell 2 (.tmp 31) (.int .i64 ((H[gi.toNat]!).acc)) (own_row 0 rfl) rfl rfl rfl rfl rfl Try.isAgg2 ?_
   simp only [Nat.reduceAdd, Act.put, Xa, Xz, Xs]
   refine ws_late (.pointer (some ⟨g1, 8, none⟩)) rfl rfl (fun _ => by go_simp) ?_
   simp only [Nat.reduceAdd, Act.put, Xa, Xz, Xs]
   refine ws_cell 2 (.tmp 33) (.int .i64 k.an) (own_row 4 rfl) rfl rfl rfl rfl rfl Try.isAgg2 ?_
   simp only [Nat.reduceAdd, Act.put, Xa, Xz, Xs]
   refine ws_late (.int .i64 (((H[gi.toNat]!).acc) + k.an)) rfl rfl (fun w => run_arith (op := .add) rfl rfl rfl Try.underlying2 (congrArg some (i64_in (by omega) (by omega))) w) ?_
   simp only [Nat.reduceAdd, Act.put, Xa, Xz, Xs]
   refine ws_call 22 #[.agg #[.int .i64 a, .int .i64 b], .int .i64 (((H[gi.toNat]!).acc) + k.an)] (.tuple #[.agg #[.int .i64 x, .int .i64 y], .bool true]) rfl rfl (fun _ => by go_simp) (fun W => c2 W) ?_
   simp only [Nat.reduceAdd, Act.put, Xa, Xz, Xs]
   refine ws_late (.tuple #[.agg #[.int .i64 x, .int .i64 y], .bool true]) rfl rfl (fun _ => rfl) ?_
   simp only [Nat.reduceAdd, Act.put, Xa, Xz, Xs]
   refine ws_late (.agg #[.int .i64 x, .int .i64 y]) rfl rfl (fun _ => by go_simp) ?_
   simp only [Nat.reduceAdd, Act.put, Xa, Xz, Xs]
   refine ws_late (.bool true) rfl rfl (fun _ => by go_simp) ?_
   simp only [Nat.reduceAdd, Act.put, Xa, Xz, Xs]
   refine ws_make 32 (#[.int .i64 0, .int .i64 0]) 13 (#[.int .i64 x, .int .i64 y]) rfl rfl rfl (zero_of_info (n := 2) (by kernel_rfl)).1 ?_
   simp only [Nat.reduceAdd, Act.put, Xa, Xz, Xs]
   refine ws_put 12 32 10 (.tmp 37) _ _ _ rfl rfl rfl rfl (by simp) rfl rfl rfl (by kernel_rfl) rfl (by simp [Value.oneCell']) ?_
   simp only [Nat.reduceAdd]
   refine ws_late (.bool true) rfl rfl (fun _ => rfl) ?_
   simp only [Nat.reduceAdd, Act.put, Xa, Xz, Xs]
   refine ws_nil [(12, #[.int .i64 x, .int .i64 y], 32)] ⟨⟨by decide, _, _, _, rfl, .inl ⟨by decide, rfl⟩⟩, trivial⟩ (by simp) ?_
   intro ps8
   simp only [fin, List.foldl_cons, List.foldl_nil, List.map, rowOf, List.cons_append, List.nil_append, Act.put, Xa, Xz, Xs]
   refine we_then ?_
   refine wc_seq ?_
   refine wc_draw_fin (Γ := Pz) (fun γ9 j9 => [.int .i64 gi, .agg #[.int .i64 x, .int .i64 y], .agg #[.int .i64 x, .int .i64 y], .int .i64 m, .pointer (some ⟨g7, 1, none⟩), .int .i64 ((H[gi.toNat]!).seg), .pointer (some ⟨g7, 2, none⟩), .int .i64 ((H[gi.toNat]!).off), .agg #[.int .i64 ((H[gi.toNat]!).off), .slice γ9.p 1 γ9.c], .agg #[.bool true, .int .i64 gi, .int .i64 x, .int .i64 y, .int .i64 m, .int .i64 ((H[gi.toNat]!).off), .slice γ9.p 1 γ9.c], undef].getD j9 undef) (fun ld γ9 => (if ld 10 = true then ⟨(ps8 12), #[.int .i64 x, .int .i64 y], 32⟩ :: ⟨g7, #[.int .i64 ((H[gi.toNat]!).id), .int .i64 ((H[gi.toNat]!).seg), .int .i64 ((H[gi.toNat]!).off), .int .i64 ((H[gi.toNat]!).acc), .int .i64 ((H[gi.toNat]!).slack)], 62⟩ :: ⟨g4, #[.bool true, .int .i64 gi, .int .i64 x, .int .i64 y, .int .i64 m, .int .i64 ((H[gi.toNat]!).off), .slice γ9.p 1 γ9.c], 38⟩ :: ⟨g3, #[.int .i64 lo, .int .i64 hi], 32⟩ :: ⟨g2, #[.slice p G.length c, .slice q H.length d], 27⟩ :: ⟨g1, #[.int .i64 k.pu, .int .i64 k.lo, .int .i64 k.hi, .int .i64 k.rb, .int .i64 k.rp, .int .i64 k.ae, .int .i64 k.ms, .int .i64 k.ma, .int .i64 k.an, .int .i64 k.st, .int .i64 k.ss, .int .i64 k.ro, .int .i64 k.ti, .int .i64 k.br], 23⟩ :: γ9.N else (if ld 8 = true then ⟨(ps8 12), #[.int .i64 x, .int .i64 y], 32⟩ :: ⟨g7, #[.int .i64 ((H[gi.toNat]!).id), .int .i64 ((H[gi.toNat]!).seg), .int .i64 ((H[gi.toNat]!).off), .int .i64 ((H[gi.toNat]!).acc), .int .i64 ((H[gi.toNat]!).slack)], 62⟩ :: ⟨g4, #[.bool false, .int .i64 0, .int .i64 0, .int .i64 0, .int .i64 0, .int .i64 0, .slice none 0 0], 38⟩ :: ⟨g3, #[.int .i64 lo, .int .i64 hi], 32⟩ :: ⟨g2, #[.slice p G.length c, .slice q H.length d], 27⟩ :: ⟨g1, #[.int .i64 k.pu, .int .i64 k.lo, .int .i64 k.hi, .int .i64 k.rb, .int .i64 k.rp, .int .i64 k.ae, .int .i64 k.ms, .int .i64 k.ma, .int .i64 k.an, .int .i64 k.st, .int .i64 k.ss, .int .i64 k.ro, .int .i64 k.ti, .int .i64 k.br], 23⟩ :: γ9.N else [⟨(ps8 12), #[.int .i64 x, .int .i64 y], 32⟩, ⟨g7, #[.int .i64 ((H[gi.toNat]!).id), .int .i64 ((H[gi.toNat]!).seg), .int .i64 ((H[gi.toNat]!).off), .int .i64 ((H[gi.toNat]!).acc), .int .i64 ((H[gi.toNat]!).slack)], 62⟩, ⟨g4, #[.bool false, .int .i64 0, .int .i64 0, .int .i64 0, .int .i64 0, .int .i64 0, .slice none 0 0], 38⟩, ⟨g3, #[.int .i64 lo, .int .i64 hi], 32⟩, ⟨g2, #[.slice p G.length c, .slice q H.length d], 27⟩, ⟨g1, #[.int .i64 k.pu, .int .i64 k.lo, .int .i64 k.hi, .int .i64 k.rb, .int .i64 k.rp, .int .i64 k.ae, .int .i64 k.ms, .int .i64 k.ma, .int .i64 k.an, .int .i64 k.st, .int .i64 k.ss, .int .i64 k.ro, .int .i64 k.ti, .int .i64 k.br], 23⟩]))) (fun ld γ9 => (ld 8 = true → Held γ9.N γ9.p (flat rt [[(H[gi.toNat]!).seg]])) ∧ True) (⟨none, 0, []⟩) 49 (fun γ9 => ({ tmps := #[.agg #[.int .i64 k.pu, .int .i64 k.lo, .int .i64 k.hi, .int .i64 k.rb, .int .i64 k.rp, .int .i64 k.ae, .int .i64 k.ms, .int .i64 k.ma, .int .i64 k.an, .int .i64 k.st, .int .i64 k.ss, .int .i64 k.ro, .int .i64 k.ti, .int .i64 k.br], .agg #[.slice p G.length c, .slice q H.length d], .int .i64 gi, .agg #[.int .i64 lo, .int .i64 hi], .pointer (some ⟨g1, 0, none⟩), .pointer (some ⟨g2, 0, none⟩), undef, .pointer (some ⟨g3, 0, none⟩), .pointer (some ⟨g4, 0, none⟩), .pointer (some ⟨g7, 0, none⟩), .pointer (some ⟨(ps8 12), 0, none⟩), .bool true, .int .i64 gi, .bool false, .bool false, .int .i64 gi, .pointer (some ⟨g2, 1, none⟩), .slice q H.length d, .int .i64 (H.length : Int), .bool false, .bool false, undef, .pointer (some ⟨g2, 1, none⟩), .slice q H.length d, .int .i64 gi, eaddr q ((gi.toNat) * 5), .agg #[.int .i64 ((H[gi.toNat]!).id), .int .i64 ((H[gi.toNat]!).seg), .int .i64 ((H[gi.toNat]!).off), .int .i64 ((H[gi.toNat]!).acc), .int .i64 ((H[gi.toNat]!).slack)], .tuple #[.agg #[.int .i64 x, .int .i64 y], .bool true], .agg #[.int .i64 lo, .int .i64 hi], .agg #[.int .i64 0, .int .i64 0], .agg #[.int .i64 a, .int .i64 b], .pointer (some ⟨g7, 3, none⟩), .int .i64 ((H[gi.toNat]!).acc), .pointer (some ⟨g1, 8, none⟩), .int .i64 k.an, .int .i64 (((H[gi.toNat]!).acc) + k.an), .tuple #[.agg #[.int .i64 x, .int .i64 y], .bool true], .agg #[.int .i64 x, .int .i64 y], .bool true, .int .i64 gi, .agg #[.int .i64 x, .int .i64 y], .agg #[.int .i64 x, .int .i64 y], .int .i64 m, .pointer (some ⟨g7, 1, none⟩), .int .i64 ((H[gi.toNat]!).seg), .pointer (some ⟨g7, 2, none⟩), .int .i64 ((H[gi.toNat]!).off), .agg #[.int .i64 ((H[gi.toNat]!).off), .slice γ9.p 1 γ9.c], .agg #[.bool true, .int .i64 gi, .int .i64 x, .int .i64 y, .int .i64 m, .int .i64 ((H[gi.toNat]!).off), .slice γ9.p 1 γ9.c]], defers := [] } : Act)) (fun γ9 => ⟨(ps8 12), #[.int .i64 x, .int .i64 y], 32⟩ :: ⟨g7, #[.int .i64 ((H[gi.toNat]!).id), .int .i64 ((H[gi.toNat]!).seg), .int .i64 ((H[gi.toNat]!).off), .int .i64 ((H[gi.toNat]!).acc), .int .i64 ((H[gi.toNat]!).slack)], 62⟩ :: ⟨g4, #[.bool true, .int .i64 gi, .int .i64 x, .int .i64 y, .int .i64 m, .int .i64 ((H[gi.toNat]!).off), .slice γ9.p 1 γ9.c], 38⟩ :: ⟨g3, #[.int .i64 lo, .int .i64 hi], 32⟩ :: ⟨g2, #[.slice p G.length c, .slice q H.length d], 27⟩ :: ⟨g1, #[.int .i64 k.pu, .int .i64 k.lo, .int .i64 k.hi, .int .i64 k.rb, .int .i64 k.rp, .int .i64 k.ae, .int .i64 k.ms, .int .i64 k.ma, .int .i64 k.an, .int .i64 k.st, .int .i64 k.ss, .int .i64 k.ro, .int .i64 k.ti, .int .i64 k.br], 23⟩ :: γ9.N) (by kernel_rfl) rfl (by kernel_rfl) rfl (by simp) (fun _ => by kernel_rfl) (fun _ => rfl) ?_ ?_
   ·
    skip
    refine sps_cons (sp_valg (fun γ9 => .int .i64 gi) rfl (fun _ => rfl) (fun _ _ h => h) (fun _ _ => rfl) (fun ld γ9 a9 w9 h9 hF9 hE9 => by exact run_moveg (by rfl) (h9.out (by kernel_rfl) rfl))) ?_
    refine sps_cons (sp_valg (fun γ9 => .agg #[.int .i64 x, .int .i64 y]) rfl (fun _ => rfl) (fun _ _ h => h) (fun _ _ => rfl) (fun ld γ9 a9 w9 h9 hF9 hE9 => by exact load_row (hE9.row ⟨(ps8 12), #[.int .i64 x, .int .i64 y], 32⟩ (mem_if (mem_of_at (i := 0) rfl) (mem_if (mem_of_at (i := 0) rfl) (mem_of_at (i := 0) rfl)))) rfl (h9.out (by kernel_rfl) rfl) Try.underlying32 rfl (by kernel_rfl))) ?_
    refine sps_cons (sp_valg (fun γ9 => .agg #[.int .i64 x, .int .i64 y]) rfl (fun _ => rfl) (fun _ _ h => h) (fun _ _ => rfl) (fun ld γ9 a9 w9 h9 hF9 hE9 => by exact load_row (hE9.row ⟨(ps8 12), #[.int .i64 x, .int .i64 y], 32⟩ (mem_if (mem_of_at (i := 0) rfl) (mem_if (mem_of_at (i := 0) rfl) (mem_of_at (i := 0) rfl)))) rfl (h9.out (by kernel_rfl) rfl) Try.underlying32 rfl (by kernel_rfl))) ?_
    refine sps_cons (sp_callg 23 (fun γ9 => .int .i64 m) rfl (fun _ => rfl) (fun _ _ h => h) (fun _ _ => rfl) (fun ld γ9 a9 w9 h9 hF9 hE9 => ?_)) ?_
    ·
     obtain ⟨z, rfl⟩ : ∃ x, x = γ9 := ⟨_, rfl⟩
     have dl3 : ld 3 = false := h9.off
     have dl8 : ld 8 = false := h9.non (by kernel_rfl)
     have dl10 : ld 10 = false := h9.non (by kernel_rfl)
     have hS9 : Env w w9 ([⟨(ps8 12), #[.int .i64 x, .int .i64 y], 32⟩, ⟨g7, #[.int .i64 ((H[gi.toNat]!).id), .int .i64 ((H[gi.toNat]!).seg), .int .i64 ((H[gi.toNat]!).off), .int .i64 ((H[gi.toNat]!).acc), .int .i64 ((H[gi.toNat]!).slack)], 62⟩, ⟨g4, #[.bool false, .int .i64 0, .int .i64 0, .int .i64 0, .int .i64 0, .int .i64 0, .slice none 0 0], 38⟩, ⟨g3, #[.int .i64 lo, .int .i64 hi], 32⟩, ⟨g2, #[.slice p G.length c, .slice q H.length d], 27⟩, ⟨g1, #[.int .i64 k.pu, .int .i64 k.lo, .int .i64 k.hi, .int .i64 k.rb, .int .i64 k.rp, .int .i64 k.ae, .int .i64 k.ms, .int .i64 k.ma, .int .i64 k.an, .int .i64 k.st, .int .i64 k.ss, .int .i64 k.ro, .int .i64 k.ti, .int .i64 k.br], 23⟩]) := by
      have hS9 := hE9
      (try dsimp only at hS9)
      simp only [dl8, dl10, if_true, if_false, Bool.false_eq_true] at hS9
      exact hS9
     have e0 : a9.eval (.tmp 41) = .agg #[.int .i64 x, .int .i64 y] := (h9.tmp 2 rfl (h9.dep (by kernel_rfl)))
     exact ⟨#[.agg #[.int .i64 x, .int .i64 y]], er_callg (enters_of Try.func23 (by kernel_rfl) rfl) rfl (by simp only [List.map_toArray, List.map_cons, List.map_nil, e0]) w9, (c3 w9)⟩
    refine sps_cons (sp_valg (fun γ9 => .pointer (some ⟨g7, 1, none⟩)) rfl (fun _ => rfl) (fun _ _ h => h) (fun _ _ => rfl) (fun ld γ9 a9 w9 h9 hF9 hE9 => by exact run_fieldAddr (f := 1) (off := 0) (d := 1) (z := 0) rfl (h9.out (by kernel_rfl) rfl) Try.underlying62 rfl rfl (by kernel_rfl) w9)) ?_
    refine sps_cons (sp_valg (fun γ9 => .int .i64 ((H[gi.toNat]!).seg)) rfl (fun _ => rfl) (fun _ _ h => h) (fun _ _ => rfl) (fun ld γ9 a9 w9 h9 hF9 hE9 => by exact load_cell (hE9.row ⟨g7, #[.int .i64 ((H[gi.toNat]!).id), .int .i64 ((H[gi.toNat]!).seg), .int .i64 ((H[gi.toNat]!).off), .int .i64 ((H[gi.toNat]!).acc), .int .i64 ((H[gi.toNat]!).slack)], 62⟩ (mem_if (mem_of_at (i := 1) rfl) (mem_if (mem_of_at (i := 1) rfl) (mem_of_at (i := 1) rfl)))) rfl rfl (h9.tmp 4 rfl (h9.dep (by kernel_rfl))) Try.isAgg3)) ?_
    refine sps_cons (sp_valg (fun γ9 => .pointer (some ⟨g7, 2, none⟩)) rfl (fun _ => rfl) (fun _ _ h => h) (fun _ _ => rfl) (fun ld γ9 a9 w9 h9 hF9 hE9 => by exact run_fieldAddr (f := 2) (off := 0) (d := 2) (z := 0) rfl (h9.out (by kernel_rfl) rfl) Try.underlying62 rfl rfl (by kernel_rfl) w9)) ?_
    refine sps_cons (sp_valg (fun γ9 => .int .i64 ((H[gi.toNat]!).off)) rfl (fun _ => rfl) (fun _ _ h => h) (fun _ _ => rfl) (fun ld γ9 a9 w9 h9 hF9 hE9 => by exact load_cell (hE9.row ⟨g7, #[.int .i64 ((H[gi.toNat]!).id), .int .i64 ((H[gi.toNat]!).seg), .int .i64 ((H[gi.toNat]!).off), .int .i64 ((H[gi.toNat]!).acc), .int .i64 ((H[gi.toNat]!).slack)], 62⟩ (mem_if (mem_of_at (i := 1) rfl) (mem_if (mem_of_at (i := 1) rfl) (mem_of_at (i := 1) rfl)))) rfl rfl (h9.tmp 6 rfl (h9.dep (by kernel_rfl))) Try.isAgg2)) ?_
    refine sps_cons ⟨fun ld γ9 a9 w9 h9 hF9 hE9 K9 hK9 => ?_⟩ ?_
    ·
     obtain ⟨z, rfl⟩ : ∃ x, x = γ9 := ⟨_, rfl⟩
     have dl8 : ld 8 = false := h9.off
     have dl10 : ld 10 = false := h9.non (by kernel_rfl)
     have hS9 : Env w w9 ([⟨(ps8 12), #[.int .i64 x, .int .i64 y], 32⟩, ⟨g7, #[.int .i64 ((H[gi.toNat]!).id), .int .i64 ((H[gi.toNat]!).seg), .int .i64 ((H[gi.toNat]!).off), .int .i64 ((H[gi.toNat]!).acc), .int .i64 ((H[gi.toNat]!).slack)], 62⟩, ⟨g4, #[.bool false, .int .i64 0, .int .i64 0, .int .i64 0, .int .i64 0, .int .i64 0, .slice none 0 0], 38⟩, ⟨g3, #[.int .i64 lo, .int .i64 hi], 32⟩, ⟨g2, #[.slice p G.length c, .slice q H.length d], 27⟩, ⟨g1, #[.int .i64 k.pu, .int .i64 k.lo, .int .i64 k.hi, .int .i64 k.rb, .int .i64 k.rp, .int .i64 k.ae, .int .i64 k.ms, .int .i64 k.ma, .int .i64 k.an, .int .i64 k.st, .int .i64 k.ss, .int .i64 k.ro, .int .i64 k.ti, .int .i64 k.br], 23⟩]) := by
      have hS9 := hE9
      (try dsimp only at hS9)
      simp only [dl8, dl10, if_true, if_false, Bool.false_eq_true] at hS9
      exact hS9
     have e0 : a9.eval (.tmp 44) = .int .i64 ((H[gi.toNat]!).seg) := (h9.tmp 5 rfl (h9.dep (by kernel_rfl)))
     have e1 : a9.eval (.tmp 46) = .int .i64 ((H[gi.toNat]!).off) := (h9.tmp 7 rfl (h9.dep (by kernel_rfl)))
     refine Rd.wl h9 rfl hS9 ?_
     refine wl_call_open (ι := Pz) (fun z => ⟨(ps8 12), #[.int .i64 x, .int .i64 y], 32⟩ :: ⟨g7, #[.int .i64 ((H[gi.toNat]!).id), .int .i64 ((H[gi.toNat]!).seg), .int .i64 ((H[gi.toNat]!).off), .int .i64 ((H[gi.toNat]!).acc), .int .i64 ((H[gi.toNat]!).slack)], 62⟩ :: ⟨g4, #[.bool false, .int .i64 0, .int .i64 0, .int .i64 0, .int .i64 0, .int .i64 0, .slice none 0 0], 38⟩ :: ⟨g3, #[.int .i64 lo, .int .i64 hi], 32⟩ :: ⟨g2, #[.slice p G.length c, .slice q H.length d], 27⟩ :: ⟨g1, #[.int .i64 k.pu, .int .i64 k.lo, .int .i64 k.hi, .int .i64 k.rb, .int .i64 k.rp, .int .i64 k.ae, .int .i64 k.ms, .int .i64 k.ma, .int .i64 k.an, .int .i64 k.st, .int .i64 k.ss, .int .i64 k.ro, .int .i64 k.ti, .int .i64 k.br], 23⟩ :: z.N) 24 #[.int .i64 (H[gi.toNat]!).seg, .int .i64 (H[gi.toNat]!).off] (fun z => .agg #[.int .i64 ((H[gi.toNat]!).off), .slice z.p 1 z.c]) (fun z => z.N) (fun z => Held z.N z.p (flat rt [[(H[gi.toNat]!).seg]])) (by intro z; simp) rfl (fun w => er_callg (enters_of Try.func24 (by kernel_rfl) rfl) rfl (by simp only [List.map_toArray, List.map_cons, List.map_nil, e0, e1]) w) (fun W hE => Rou.begin_any (H[gi.toNat]!).seg (H[gi.toNat]!).off W) ?_
     intro z hz
     refine wl_nil ⟨fun w8 hE8 => ?_⟩
     refine hK9 z _ ?_ ?_ ?_
     ·
      intro k hk
      have hk2 : k < 11 := h9.within k hk
      have hb : k = 0 ∨ k = 1 ∨ k = 2 ∨ k = 3 ∨ k = 4 ∨ k = 5 ∨ k = 6 ∨ k = 7 ∨ k = 8 ∨ k = 9 ∨ k = 10 := by omega
      have dl9 : ld 9 = false := h9.non (by kernel_rfl)
      rcases hb with rfl | rfl | rfl | rfl | rfl | rfl | rfl | rfl | rfl | rfl | rfl
      ·
       rfl
      ·
       rfl
      ·
       rfl
      ·
       rfl
      ·
       rfl
      ·
       rfl
      ·
       rfl
      ·
       rfl
      ·
       rw [dl8] at hk; try cases hk
      ·
       rw [dl9] at hk; try cases hk
      ·
       rfl
     ·
      exact ⟨(fun _ => hz), trivial⟩
     ·
      skip
      have od8 : Si.one ld 8 8 = true := rfl
      have od10 : Si.one ld 8 10 = ld 10 := rfl
      (try dsimp only)
      simp only [od8, od10, dl10, if_true, if_false, Bool.false_eq_true]
      exact hE8
    refine sps_cons (sp_valg (fun γ9 => .agg #[.bool true, .int .i64 gi, .int .i64 x, .int .i64 y, .int .i64 m, .int .i64 ((H[gi.toNat]!).off), .slice γ9.p 1 γ9.c]) rfl (fun _ => rfl) (fun _ _ h => h) (fun _ _ => rfl) (fun ld γ9 a9 w9 h9 hF9 hE9 => by exact (by have e09 : a9.eval (.const (.bool true)) = .bool true := rfl; have e19 : a9.eval (.tmp 39) = .int .i64 gi := (h9.tmp 0 rfl (h9.dep (by kernel_rfl))); have e29 : a9.eval (.tmp 40) = .agg #[.int .i64 x, .int .i64 y] := (h9.tmp 1 rfl (h9.dep (by kernel_rfl))); have e39 : a9.eval (.tmp 42) = .int .i64 m := (h9.tmp 3 rfl (h9.dep (by kernel_rfl))); have e49 : a9.eval (.tmp 47) = .agg #[.int .i64 ((H[gi.toNat]!).off), .slice γ9.p 1 γ9.c] := (h9.tmp 8 rfl (h9.dep (by kernel_rfl))); exact run_buildg (vs := #[(0, .bool true), (1, .int .i64 gi), (2, .agg #[.int .i64 x, .int .i64 y]), (3, .int .i64 m), (4, .agg #[.int .i64 ((H[gi.toNat]!).off), .slice γ9.p 1 γ9.c])]) rfl (by simp only [List.map_toArray, List.map_cons, List.map_nil, e09, e19, e29, e39, e49]) (by kernel_rfl)))) ?_
    refine sps_cons ⟨fun ld γ9 a9 w9 h9 hF9 hE9 K9 hK9 => ?_⟩ ?_
    ·
     obtain ⟨z, rfl⟩ : ∃ x, x = γ9 := ⟨_, rfl⟩
     have dl10 : ld 10 = false := h9.off
     have dl8 : ld 8 = true := h9.dep (by kernel_rfl)
     have hS9 : Env w w9 (⟨(ps8 12), #[.int .i64 x, .int .i64 y], 32⟩ :: ⟨g7, #[.int .i64 ((H[gi.toNat]!).id), .int .i64 ((H[gi.toNat]!).seg), .int .i64 ((H[gi.toNat]!).off), .int .i64 ((H[gi.toNat]!).acc), .int .i64 ((H[gi.toNat]!).slack)], 62⟩ :: ⟨g4, #[.bool false, .int .i64 0, .int .i64 0, .int .i64 0, .int .i64 0, .int .i64 0, .slice none 0 0], 38⟩ :: ⟨g3, #[.int .i64 lo, .int .i64 hi], 32⟩ :: ⟨g2, #[.slice p G.length c, .slice q H.length d], 27⟩ :: ⟨g1, #[.int .i64 k.pu, .int .i64 k.lo, .int .i64 k.hi, .int .i64 k.rb, .int .i64 k.rp, .int .i64 k.ae, .int .i64 k.ms, .int .i64 k.ma, .int .i64 k.an, .int .i64 k.st, .int .i64 k.ss, .int .i64 k.ro, .int .i64 k.ti, .int .i64 k.br], 23⟩ :: z.N) := by
      have hS9 := hE9
      (try dsimp only at hS9)
      simp only [dl8, dl10, if_true, if_false, Bool.false_eq_true] at hS9
      exact hS9
     have hz := hF9.1 dl8
     have e0 : a9.eval (.tmp 8) = .pointer (some ⟨g4, 0, none⟩) := (h9.out (by kernel_rfl) rfl)
     have e1 : a9.eval (.tmp 48) = .agg #[.bool true, .int .i64 gi, .int .i64 x, .int .i64 y, .int .i64 m, .int .i64 ((H[gi.toNat]!).off), .slice z.p 1 z.c] := (h9.tmp 9 rfl (h9.dep (by kernel_rfl)))
     refine Rd.wl h9 rfl hS9 ?_
     refine wl_store 2 38 _ _ (#[.bool true, .int .i64 gi, .int .i64 x, .int .i64 y, .int .i64 m, .int .i64 ((H[gi.toNat]!).off), .slice z.p 1 z.c]) rfl rfl rfl e0 e1 (by kernel_rfl) rfl (by simp [Value.oneCell']) ?_
     refine wl_nil ⟨fun w8 hE8 => ?_⟩
     refine hK9 z _ ?_ ?_ ?_
     ·
      intro k hk
      have hk2 : k < 11 := h9.within k hk
      have hb : k = 0 ∨ k = 1 ∨ k = 2 ∨ k = 3 ∨ k = 4 ∨ k = 5 ∨ k = 6 ∨ k = 7 ∨ k = 8 ∨ k = 9 ∨ k = 10 := by omega
      rcases hb with rfl | rfl | rfl | rfl | rfl | rfl | rfl | rfl | rfl | rfl | rfl
      ·
       rfl
      ·
       rfl
      ·
       rfl
      ·
       rfl
      ·
       rfl
      ·
       rfl
      ·
       rfl
      ·
       rfl
      ·
       rfl
      ·
       rfl
      ·
       rw [dl10] at hk; try cases hk
     ·
      exact ⟨(fun _ => hz), trivial⟩
     ·
      skip
      have od8 : Si.one ld 10 8 = ld 8 := rfl
      have od10 : Si.one ld 10 10 = true := rfl
      (try dsimp only)
      simp only [od8, od10, dl8, if_true, if_false, Bool.false_eq_true]
      exact hE8
    exact sps_nil
   rintro z ⟨hz, -⟩
   replace hz := hz (by decide)
   (try dsimp only at hz)
   (try dsimp only)
   refine we_then ?_
   refine wc_ret ?_
   refine we_ret_cell (own_row 2 rfl) rfl rfl rfl Try.underlying38 rfl (by kernel_rfl) (fun w1 hE => ?_)
   exact ⟨z, hz, rfl, hE.sub (List.Sublist.cons _ (List.Sublist.cons _ (List.Sublist.cons _ (List.Sublist.cons _ (List.Sublist.cons _ (List.Sublist.cons _ (List.Sublist.refl _)))))))⟩
  ·
   skip
   have p6 : (H.length : Int) ≤ gi := of_decide_eq_true h6
   refine wc_true rfl ?_
   refine wc_seq ?_
   refine wc_region ?_
   refine wl_val (.agg #[.bool false, .int .i64 0, .int .i64 0, .int .i64 0, .int .i64 0, .int .i64 0, .slice none 0 0]) rfl (fun _ => by go_simp) ?_
   simp only [Act.put, Xa, Xz, Xs]
   refine wl_store 0 38 (.tmp 8) (.tmp 21) (#[.bool false, .int .i64 0, .int .i64 0, .int .i64 0, .int .i64 0, .int .i64 0, .slice none 0 0]) rfl rfl rfl rfl rfl (by kernel_rfl) rfl (by simp [Value.oneCell']) ?_
   simp only [Act.put, List.set_cons_zero]
   refine wl_nil ?_
   refine we_then ?_
   refine wc_ret ?_
   refine we_then_ret ?_
   refine we_ret_cell (own_row 0 rfl) rfl rfl rfl Try.underlying38 rfl (by kernel_rfl) (fun w1 hE => ?_)
   exact (by exfalso; omega)
 ·
  skip
  have p5 : gi < 0 := of_decide_eq_true h5
  exact (by exfalso; omega)
theorem reset_any (k : Cf) (gi lo hi : Int) (G : List Sg) (H : List Gp) (p q : Option Addr) (c d : Nat) (w : World) (hk : Ok k) (hS : Reads w p (flat sg G)) (hG : OkS w G) (hH : Reads w q (flat gp H)) (hM : TrackMay G H) (hgi : 0 ≤ gi ∧ gi < H.length) (hv : lo ≤ hi ∧ -k.ms ≤ lo ∧ hi ≤ k.ms) :
  Calls Try.prog 9 #[.agg #[.int .i64 k.pu, .int .i64 k.lo, .int .i64 k.hi, .int .i64 k.rb, .int .i64 k.rp, .int .i64 k.ae, .int .i64 k.ms, .int .i64 k.ma, .int .i64 k.an, .int .i64 k.st, .int .i64 k.ss, .int .i64 k.ro, .int .i64 k.ti, .int .i64 k.br], .agg #[.slice p G.length c, .slice q H.length d], .int .i64 gi, .agg #[.int .i64 lo, .int .i64 hi]] w fun e w' => ∃ z : Pz, Held z.N z.p (flat rt [[(H[gi.toNat]!).seg]]) ∧ e = .returned (.agg #[.bool true, .int .i64 gi, .int .i64 (-((H[gi.toNat]!).acc + k.an) + min lo 0), .int .i64 ((H[gi.toNat]!).acc + k.an + max hi 0), .int .i64 ((min lo 0 + max hi 0) / 2), .int .i64 (H[gi.toNat]!).off, .slice z.p 1 z.c]) ∧ Env w w' z.N := by
 have gl := hM.grps gi.toNat (by omega)
 have a1 := gl.acc0
 have a2 := gl.accn
 have b1 := hk.an1
 have b2 := hk.an2
 have m2 := hk.ms2
 obtain ⟨v1, v2, v3⟩ := hv
 obtain ⟨f, hf⟩ : ∃ f, f = (H[gi.toNat]!).acc + k.an := ⟨_, rfl⟩
 have e1 : -((H[gi.toNat]!).acc + k.an) + min lo 0 = min lo 0 + -f := by omega
 have e2 : (H[gi.toNat]!).acc + k.an + max hi 0 = max hi 0 + f := by omega
 have e3 : (min lo 0 + max hi 0) / 2 = ((min lo 0 + -f) + (max hi 0 + f)) / 2 := by congr 1; omega
 rw [e1, e2, e3]
 refine reset_core k gi lo hi (min lo 0) (max hi 0) _ _ _ G H p q c d w hgi ⟨a1, a2⟩ ⟨b1, b2⟩ hH hS (fun W => Spo.hull_both lo hi 0 0 _ _ W v1 (by omega) rfl rfl) (fun W => ?_) (fun W => Spo.mid_any _ _ W (by unfold Num.Fits; omega) (by unfold Num.Fits; omega))
 rw [← hf]
 have h9 := Spo.grow_any (min lo 0) (max hi 0) f W (by unfold Num.Fits; omega) (by unfold Num.Fits; omega) (by unfold Num.Fits; omega)
 rw [told_yes (r := decide (min lo 0 ≤ max hi 0)) (X := min lo 0 + -f) (Y := max hi 0 + f) (decide_eq_true (by omega)) (by omega) (by omega) (by omega)] at h9
 exact h9
set_option maxHeartbeats 4000000 in
theorem move_over (lo hi a b m f : Int) (P : Mv) (G : List Sg) (H : List Gp) (p q : Option Addr) (c d : Nat) (w : World) (hR : Reads w P.p (flat rt P.X)) (hov : a < -17592186044416 ∨ 17592186044416 < b)
  (c1 : ∀ W, Calls Try.prog 27 #[.agg #[.int .i64 P.lo, .int .i64 P.hi], .agg #[.int .i64 lo, .int .i64 hi]] W fun e w' => e = .returned (.tuple #[.agg #[.int .i64 a, .int .i64 b], .bool true]) ∧ Below W.heap.size W w')
  (c2 : ∀ W, Calls Try.prog 8 #[.agg #[.int .i64 a, .int .i64 b], .agg #[.int .i64 (-17592186044416), .int .i64 17592186044416]] W fun e w' => e = .returned (.bool false) ∧ Below W.heap.size W w') :
  Calls Try.prog 13 #[.agg #[.bool true, .int .i64 P.gi, .int .i64 P.lo, .int .i64 P.hi, .int .i64 P.est, .int .i64 P.F, .slice P.p P.X.length P.c], .agg #[.slice p G.length c, .slice q H.length d], .agg #[.int .i64 lo, .int .i64 hi]] w fun e w' => ∃ z : Mv, MvOk G P.gi f a b m P.X z ∧ e = .returned (.tuple #[.agg #[.bool z.on, .int .i64 z.gi, .int .i64 z.lo, .int .i64 z.hi, .int .i64 z.est, .int .i64 z.F, .slice z.p z.X.length z.c], .int .i64 (z.e : Nat)]) ∧ Env w w' z.N := by
 refine calls_sx Try.func13 rfl ?_
 simp only [Try.ntmps13, List.size_toArray, List.length_cons, List.length_nil, Nat.reduceAdd, Nat.reduceSub, Array.replicate_succ, Array.replicate_zero, List.push_toArray, List.append_toArray, List.nil_append, List.cons_append]
 refine wc_seq ?_
 refine wc_region ?_
 refine wl_new 38 (#[.bool true, .int .i64 P.gi, .int .i64 P.lo, .int .i64 P.hi, .int .i64 P.est, .int .i64 P.F, .slice P.p P.X.length P.c]) rfl (fun _ => by go_simp) ?_
 intro g1
 simp only [Act.put, Xa, Xz, Xs]
 refine wl_new 27 (#[.slice p G.length c, .slice q H.length d]) rfl (fun _ => by go_simp) ?_
 intro g2
 simp only [Act.put, Xa, Xz, Xs]
 refine wl_new 32 (#[.int .i64 lo, .int .i64 hi]) rfl (fun _ => by go_simp) ?_
 intro g3
 simp only [Act.put, Xa, Xz, Xs]
 refine wl_new 38 (#[.bool false, .int .i64 0, .int .i64 0, .int .i64 0, .int .i64 0, .int .i64 0, .slice none 0 0]) rfl (fun _ => by go_simp) ?_
 intro g4
 simp only [Act.put, Xa, Xz, Xs]
 refine wl_val (.int .i64 0) rfl (fun _ => rfl) ?_
 simp only [Act.put, Xa, Xz, Xs]
 refine wl_nil ?_
 refine we_then ?_
 refine wc_seq ?_
 refine wc_seq ?_
 refine wc_region ?_
 refine wl_val (.pointer (some ⟨g1, 0, none⟩)) rfl (fun _ => by go_simp) ?_
 simp only [Act.put, Xa, Xz, Xs]
 refine wl_cell 4 (.tmp 13) (.bool true) (own_row 3 rfl) rfl rfl rfl rfl Try.isAgg4 ?_
 simp only [Act.put, Xa, Xz, Xs]
 refine wl_val (.bool false) rfl (fun _ => by go_simp) ?_
 simp only [Act.put, Xa, Xz, Xs]
 refine wl_nil ?_
 refine we_then ?_
 refine wc_false rfl ?_
 refine wc_skip ?_
 refine we_then ?_
 refine wc_seq ?_
 refine wc_region ?_
 refine wl_val (.pointer (some ⟨g1, 2, none⟩)) rfl (fun _ => by go_simp) ?_
 simp only [Act.put, Xa, Xz, Xs]
 refine wl_part 32 (.tmp 18) [.int .i64 P.lo, .int .i64 P.hi] (own_row 3 rfl) rfl rfl rfl rfl Try.underlying32 rfl (by kernel_rfl) ?_
 simp only [Act.put, Xa, Xz, Xs]
 refine wl_load 32 (.tmp 5) (own_row 1 rfl) rfl rfl rfl Try.underlying32 rfl (by kernel_rfl) ?_
 simp only [Act.put, Xa, Xz, Xs]
 refine wl_call 27 #[.agg #[.int .i64 P.lo, .int .i64 P.hi], .agg #[.int .i64 lo, .int .i64 hi]] (.tuple #[.agg #[.int .i64 a, .int .i64 b], .bool true]) rfl (fun _ => by go_simp) (fun W => c1 W) ?_
 simp only [Act.put, Xa, Xz, Xs]
 refine wl_val (.tuple #[.agg #[.int .i64 a, .int .i64 b], .bool true]) rfl (fun _ => rfl) ?_
 simp only [Act.put, Xa, Xz, Xs]
 refine wl_val (.agg #[.int .i64 a, .int .i64 b]) rfl (fun _ => by go_simp) ?_
 simp only [Act.put, Xa, Xz, Xs]
 refine wl_val (.bool true) rfl (fun _ => by go_simp) ?_
 simp only [Act.put, Xa, Xz, Xs]
 refine wl_new 32 (#[.int .i64 0, .int .i64 0]) rfl (fun _ => by go_simp) ?_
 intro g5
 simp only [Act.put, Xa, Xz, Xs]
 refine wl_store 0 32 (.tmp 8) (.tmp 22) (#[.int .i64 a, .int .i64 b]) rfl rfl rfl rfl rfl (by kernel_rfl) rfl (by simp [Value.oneCell']) ?_
 simp only [Act.put, List.set_cons_zero]
 refine wl_val (.bool true) rfl (fun _ => rfl) ?_
 simp only [Act.put, Xa, Xz, Xs]
 refine wl_nil ?_
 refine we_then ?_
 refine wc_seq ?_
 refine wc_seq ?_
 refine wc_region ?_
 refine wl_val (.bool true) rfl (fun _ => rfl) ?_
 simp only [Act.put, Xa, Xz, Xs]
 refine wl_val (.bool false) rfl (fun _ => by go_simp) ?_
 simp only [Act.put, Xa, Xz, Xs]
 refine wl_val (.bool false) rfl (fun _ => rfl) ?_
 simp only [Act.put, Xa, Xz, Xs]
 refine wl_load 32 (.tmp 8) (own_row 0 rfl) rfl rfl rfl Try.underlying32 rfl (by kernel_rfl) ?_
 simp only [Act.put, Xa, Xz, Xs]
 refine wl_val (.agg #[.int .i64 (-17592186044416), .int .i64 17592186044416]) rfl (fun _ => by go_simp) ?_
 simp only [Act.put, Xa, Xz, Xs]
 refine wl_call 8 #[.agg #[.int .i64 a, .int .i64 b], .agg #[.int .i64 (-17592186044416), .int .i64 17592186044416]] (.bool false) rfl (fun _ => by go_simp) (fun W => c2 W) ?_
 simp only [Act.put, Xa, Xz, Xs]
 refine wl_val (.bool true) rfl (fun _ => by go_simp) ?_
 simp only [Act.put, Xa, Xz, Xs]
 refine wl_val (.bool true) rfl (fun _ => rfl) ?_
 simp only [Act.put, Xa, Xz, Xs]
 refine wl_nil ?_
 refine we_then ?_
 refine wc_true rfl ?_
 refine wc_seq ?_
 refine wc_region ?_
 refine wl_val (.agg #[.bool false, .int .i64 0, .int .i64 0, .int .i64 0, .int .i64 0, .int .i64 0, .slice none 0 0]) rfl (fun _ => by go_simp) ?_
 simp only [Act.put, Xa, Xz, Xs]
 refine wl_store 1 38 (.tmp 6) (.tmp 32) (#[.bool false, .int .i64 0, .int .i64 0, .int .i64 0, .int .i64 0, .int .i64 0, .slice none 0 0]) rfl rfl rfl rfl rfl (by kernel_rfl) rfl (by simp [Value.oneCell']) ?_
 simp only [Act.put, List.set_cons_zero, List.set_cons_succ]
 refine wl_val (.int .i64 20) rfl (fun _ => rfl) ?_
 simp only [Act.put, Xa, Xz, Xs]
 refine wl_nil ?_
 refine we_then ?_
 refine wc_ret ?_
 refine we_then_ret ?_
 refine we_ret_cell_tmp (.int .i64 20) (own_row 1 rfl) rfl rfl rfl rfl Try.underlying38 rfl (by kernel_rfl) (fun w1 hE => ?_)
 exact ⟨⟨20, false, 0, 0, 0, 0, 0, none, [], 0, []⟩, ⟨(by rw [mvS_over hov]), (fun h => by cases h), fun _ => ⟨rfl, rfl, rfl, rfl, rfl, rfl⟩, heldz _⟩, rfl, hE.sub (List.Sublist.cons _ (List.Sublist.cons _ (List.Sublist.cons _ (List.Sublist.cons _ (List.Sublist.cons _ List.Sublist.slnil)))))⟩
set_option maxHeartbeats 4000000 in
theorem move_in (lo hi a b s m : Int) (P : Mv) (G : List Sg) (H : List Gp) (p q : Option Addr) (c d : Nat) (s0 m0 : Int) (w : World) (hR : Reads w P.p (flat rt P.X)) (hS : Reads w p (flat sg G)) (hG : OkS w G) (hH : Reads w q (flat gp H)) (hM : TrackMay G H) (hX : SetOk G s0 P.F P.X) (hC : ∀ s ∈ G, s.X.length ≤ s.nc) (hin : ¬ (a < -17592186044416 ∨ 17592186044416 < b)) (ha : -9223372036854775808 ≤ a ∧ a ≤ 9223372036854775807) (hb : -9223372036854775808 ≤ b ∧ b ≤ 9223372036854775807) (hs : m0 = s)
  (c1 : ∀ W, Calls Try.prog 27 #[.agg #[.int .i64 P.lo, .int .i64 P.hi], .agg #[.int .i64 lo, .int .i64 hi]] W fun e w' => e = .returned (.tuple #[.agg #[.int .i64 a, .int .i64 b], .bool true]) ∧ Below W.heap.size W w')
  (c2 : ∀ W, Calls Try.prog 8 #[.agg #[.int .i64 a, .int .i64 b], .agg #[.int .i64 (-17592186044416), .int .i64 17592186044416]] W fun e w' => e = .returned (.bool true) ∧ Below W.heap.size W w')
  (c3 : ∀ W, Calls Try.prog 23 #[.agg #[.int .i64 lo, .int .i64 hi]] W fun e w' => e = .returned (.int .i64 m) ∧ Below W.heap.size W w')
  (c4 : ∀ W, Calls Try.prog 30 #[.int .i64 P.est, .int .i64 m] W fun e w' => e = .returned (.int .i64 s) ∧ Below W.heap.size W w') :
  Calls Try.prog 13 #[.agg #[.bool true, .int .i64 P.gi, .int .i64 P.lo, .int .i64 P.hi, .int .i64 P.est, .int .i64 P.F, .slice P.p P.X.length P.c], .agg #[.slice p G.length c, .slice q H.length d], .agg #[.int .i64 lo, .int .i64 hi]] w fun e w' => ∃ z : Mv, MvOk G P.gi P.F a b m0 P.X z ∧ e = .returned (.tuple #[.agg #[.bool z.on, .int .i64 z.gi, .int .i64 z.lo, .int .i64 z.hi, .int .i64 z.est, .int .i64 z.F, .slice z.p z.X.length z.c], .int .i64 (z.e : Nat)]) ∧ Env w w' z.N := by
 refine calls_sx Try.func13 rfl ?_
 simp only [Try.ntmps13, List.size_toArray, List.length_cons, List.length_nil, Nat.reduceAdd, Nat.reduceSub, Array.replicate_succ, Array.replicate_zero, List.push_toArray, List.append_toArray, List.nil_append, List.cons_append]
 refine wc_seq ?_
 refine wc_region ?_
 refine wl_new 38 (#[.bool true, .int .i64 P.gi, .int .i64 P.lo, .int .i64 P.hi, .int .i64 P.est, .int .i64 P.F, .slice P.p P.X.length P.c]) rfl (fun _ => by go_simp) ?_
 intro g1
 simp only [Act.put, Xa, Xz, Xs]
 refine wl_new 27 (#[.slice p G.length c, .slice q H.length d]) rfl (fun _ => by go_simp) ?_
 intro g2
 simp only [Act.put, Xa, Xz, Xs]
 refine wl_new 32 (#[.int .i64 lo, .int .i64 hi]) rfl (fun _ => by go_simp) ?_
 intro g3
 simp only [Act.put, Xa, Xz, Xs]
 refine wl_new 38 (#[.bool false, .int .i64 0, .int .i64 0, .int .i64 0, .int .i64 0, .int .i64 0, .slice none 0 0]) rfl (fun _ => by go_simp) ?_
 intro g4
 simp only [Act.put, Xa, Xz, Xs]
 refine wl_val (.int .i64 0) rfl (fun _ => rfl) ?_
 simp only [Act.put, Xa, Xz, Xs]
 refine wl_nil ?_
 refine we_then ?_
 refine wc_seq ?_
 refine wc_seq ?_
 refine wc_region ?_
 refine wl_val (.pointer (some ⟨g1, 0, none⟩)) rfl (fun _ => by go_simp) ?_
 simp only [Act.put, Xa, Xz, Xs]
 refine wl_cell 4 (.tmp 13) (.bool true) (own_row 3 rfl) rfl rfl rfl rfl Try.isAgg4 ?_
 simp only [Act.put, Xa, Xz, Xs]
 refine wl_val (.bool false) rfl (fun _ => by go_simp) ?_
 simp only [Act.put, Xa, Xz, Xs]
 refine wl_nil ?_
 refine we_then ?_
 refine wc_false rfl ?_
 refine wc_skip ?_
 refine we_then ?_
 refine wc_seq ?_
 refine wc_region ?_
 refine wl_val (.pointer (some ⟨g1, 2, none⟩)) rfl (fun _ => by go_simp) ?_
 simp only [Act.put, Xa, Xz, Xs]
 refine wl_part 32 (.tmp 18) [.int .i64 P.lo, .int .i64 P.hi] (own_row 3 rfl) rfl rfl rfl rfl Try.underlying32 rfl (by kernel_rfl) ?_
 simp only [Act.put, Xa, Xz, Xs]
 refine wl_load 32 (.tmp 5) (own_row 1 rfl) rfl rfl rfl Try.underlying32 rfl (by kernel_rfl) ?_
 simp only [Act.put, Xa, Xz, Xs]
 refine wl_call 27 #[.agg #[.int .i64 P.lo, .int .i64 P.hi], .agg #[.int .i64 lo, .int .i64 hi]] (.tuple #[.agg #[.int .i64 a, .int .i64 b], .bool true]) rfl (fun _ => by go_simp) (fun W => c1 W) ?_
 simp only [Act.put, Xa, Xz, Xs]
 refine wl_val (.tuple #[.agg #[.int .i64 a, .int .i64 b], .bool true]) rfl (fun _ => rfl) ?_
 simp only [Act.put, Xa, Xz, Xs]
 refine wl_val (.agg #[.int .i64 a, .int .i64 b]) rfl (fun _ => by go_simp) ?_
 simp only [Act.put, Xa, Xz, Xs]
 refine wl_val (.bool true) rfl (fun _ => by go_simp) ?_
 simp only [Act.put, Xa, Xz, Xs]
 refine wl_new 32 (#[.int .i64 0, .int .i64 0]) rfl (fun _ => by go_simp) ?_
 intro g5
 simp only [Act.put, Xa, Xz, Xs]
 refine wl_store 0 32 (.tmp 8) (.tmp 22) (#[.int .i64 a, .int .i64 b]) rfl rfl rfl rfl rfl (by kernel_rfl) rfl (by simp [Value.oneCell']) ?_
 simp only [Act.put, List.set_cons_zero]
 refine wl_val (.bool true) rfl (fun _ => rfl) ?_
 simp only [Act.put, Xa, Xz, Xs]
 refine wl_nil ?_
 refine we_then ?_
 refine wc_seq ?_
 refine wc_seq ?_
 refine wc_region ?_
 refine wl_val (.bool true) rfl (fun _ => rfl) ?_
 simp only [Act.put, Xa, Xz, Xs]
 refine wl_val (.bool false) rfl (fun _ => by go_simp) ?_
 simp only [Act.put, Xa, Xz, Xs]
 refine wl_val (.bool false) rfl (fun _ => rfl) ?_
 simp only [Act.put, Xa, Xz, Xs]
 refine wl_load 32 (.tmp 8) (own_row 0 rfl) rfl rfl rfl Try.underlying32 rfl (by kernel_rfl) ?_
 simp only [Act.put, Xa, Xz, Xs]
 refine wl_val (.agg #[.int .i64 (-17592186044416), .int .i64 17592186044416]) rfl (fun _ => by go_simp) ?_
 simp only [Act.put, Xa, Xz, Xs]
 refine wl_call 8 #[.agg #[.int .i64 a, .int .i64 b], .agg #[.int .i64 (-17592186044416), .int .i64 17592186044416]] (.bool true) rfl (fun _ => by go_simp) (fun W => c2 W) ?_
 simp only [Act.put, Xa, Xz, Xs]
 refine wl_val (.bool false) rfl (fun _ => by go_simp) ?_
 simp only [Act.put, Xa, Xz, Xs]
 refine wl_val (.bool false) rfl (fun _ => rfl) ?_
 simp only [Act.put, Xa, Xz, Xs]
 refine wl_nil ?_
 refine we_then ?_
 refine wc_false rfl ?_
 refine wc_skip ?_
 refine we_then ?_
 refine wc_seq ?_
 refine wc_region ?_
 refine wl_val (.pointer (some ⟨g1, 5, none⟩)) rfl (fun _ => by go_simp) ?_
 simp only [Act.put, Xa, Xz, Xs]
 refine wl_part 36 (.tmp 34) [.int .i64 P.F, .slice P.p P.X.length P.c] (own_row 4 rfl) rfl rfl rfl rfl Try.underlying36 rfl (by kernel_rfl) ?_
 simp only [Act.put, Xa, Xz, Xs]
 refine wl_load 27 (.tmp 4) (own_row 3 rfl) rfl rfl rfl Try.underlying27 rfl (by kernel_rfl) ?_
 simp only [Act.put, Xa, Xz, Xs]
 refine wl_load 32 (.tmp 8) (own_row 0 rfl) rfl rfl rfl Try.underlying32 rfl (by kernel_rfl) ?_
 simp only [Act.put, Xa, Xz, Xs]
 refine wl_call_open (ι := Gp2) (fun zz => match zz with | zk6 => ⟨g5, #[.int .i64 a, .int .i64 b], 32⟩ :: ⟨g4, #[.bool false, .int .i64 0, .int .i64 0, .int .i64 0, .int .i64 0, .int .i64 0, .slice none 0 0], 38⟩ :: ⟨g3, #[.int .i64 lo, .int .i64 hi], 32⟩ :: ⟨g2, #[.slice p G.length c, .slice q H.length d], 27⟩ :: ⟨g1, #[.bool true, .int .i64 P.gi, .int .i64 P.lo, .int .i64 P.hi, .int .i64 P.est, .int .i64 P.F, .slice P.p P.X.length P.c], 38⟩ :: zk6.N) 28 #[.agg #[.int .i64 P.F, .slice P.p P.X.length P.c], .agg #[.slice p G.length c, .slice q H.length d], .agg #[.int .i64 a, .int .i64 b]] (fun zz => match zz with | zk6 => .tuple #[.agg #[.int .i64 zk6.F, .slice zk6.p zk6.X.length zk6.c], .int .i64 (zk6.e : Int)]) (fun zz => match zz with | zk6 => zk6.N) (fun zz => match zz with | zk6 => Gp2Ok G P.F b a P.X zk6) (by rintro zk6; simp) rfl (fun _ => by go_simp) (fun W hE => Rou.grow_any a b G H _ _ _ _ s0 P.F P.X _ _ W (sl_old (R := []) hS W (hE.sub (List.nil_sublist _))) (oks_below hG hE.below) (sl_old (R := []) hH W (hE.sub (List.nil_sublist _))) hM hX (sl_old (R := []) hR W (hE.sub (List.nil_sublist _))) ha hb hC) ?_
 rintro zk6 k6
 (try dsimp only)
 simp only [Act.put, Xa, Xz, Xs]
 refine wl_val (.tuple #[.agg #[.int .i64 zk6.F, .slice zk6.p zk6.X.length zk6.c], .int .i64 (zk6.e : Int)]) rfl (fun _ => rfl) ?_
 simp only [Act.put, Xa, Xz, Xs]
 refine wl_val (.agg #[.int .i64 zk6.F, .slice zk6.p zk6.X.length zk6.c]) rfl (fun _ => by go_simp) ?_
 simp only [Act.put, Xa, Xz, Xs]
 refine wl_val (.int .i64 (zk6.e : Int)) rfl (fun _ => by go_simp) ?_
 simp only [Act.put, Xa, Xz, Xs]
 refine wl_new 36 (#[.int .i64 0, .slice none 0 0]) rfl (fun _ => by go_simp) ?_
 intro g7
 simp only [Act.put, Xa, Xz, Xs]
 refine wl_store 0 36 (.tmp 10) (.tmp 39) (#[.int .i64 zk6.F, .slice zk6.p zk6.X.length zk6.c]) rfl rfl rfl rfl rfl (by kernel_rfl) rfl (by simp [Value.oneCell']) ?_
 simp only [Act.put, List.set_cons_zero]
 refine wl_val (.int .i64 (zk6.e : Int)) rfl (fun _ => rfl) ?_
 simp only [Act.put, Xa, Xz, Xs]
 refine wl_nil ?_
 refine we_then ?_
 refine wc_seq ?_
 refine wc_seq ?_
 refine wc_region ?_
 refine wl_val (.int .i64 (zk6.e : Int)) rfl (fun _ => rfl) ?_
 simp only [Act.put, Xa, Xz, Xs]
 refine wl_val (.bool ((zk6.e : Int) != 0)) rfl (fun w => run_cmp rfl rfl rfl Try.underlying53 rfl w) ?_
 simp only [Act.put, Xa, Xz, Xs]
 refine wl_nil ?_
 refine we_then ?_
 cases h8 : ((zk6.e : Int) != 0)
 ·
  skip
  have p8 : ¬ ((zk6.e : Int) ≠ 0) := by first | (simp; done) | (simp at h8; done) | simpa using h8
  refine wc_false rfl ?_
  refine wc_skip ?_
  refine we_then ?_
  refine wc_seq ?_
  refine wc_draw [.late, .plain, .plain, .plain, .plain, .late, .plain, .late, .plain, .plain, .late] none [] 61 (by kernel_rfl) rfl (by kernel_rfl) (by kernel_rfl) ?_
  refine ws_late (.pointer (some ⟨g1, 4, none⟩)) rfl rfl (fun _ => by go_simp) ?_
  simp only [Nat.reduceAdd, Act.put, Xa, Xz, Xs]
  refine ws_cell 2 (.tmp 45) (.int .i64 P.est) (own_row 5 rfl) rfl rfl rfl rfl rfl Try.isAgg2 ?_
  simp only [Nat.reduceAdd, Act.put, Xa, Xz, Xs]
  refine ws_load 32 (.tmp 5) (own_row 3 rfl) rfl rfl rfl rfl Try.underlying32 rfl (by kernel_rfl) ?_
  simp only [Nat.reduceAdd, Act.put, Xa, Xz, Xs]
  refine ws_call 23 #[.agg #[.int .i64 lo, .int .i64 hi]] (.int .i64 m) rfl rfl (fun _ => by go_simp) (fun W => c3 W) ?_
  simp only [Nat.reduceAdd, Act.put, Xa, Xz, Xs]
  refine ws_call 30 #[.int .i64 P.est, .int .i64 m] (.int .i64 s) rfl rfl (fun _ => by go_simp) (fun W => c4 W) ?_
  simp only [Nat.reduceAdd, Act.put, Xa, Xz, Xs]
  refine ws_late (.pointer (some ⟨g5, 0, none⟩)) rfl rfl (fun _ => by go_simp) ?_
  simp only [Nat.reduceAdd, Act.put, Xa, Xz, Xs]
  refine ws_cell 2 (.tmp 50) (.int .i64 a) (own_row 1 rfl) rfl rfl rfl rfl rfl Try.isAgg2 ?_
  simp only [Nat.reduceAdd, Act.put, Xa, Xz, Xs]
  refine ws_late (.pointer (some ⟨g5, 1, none⟩)) rfl rfl (fun _ => by go_simp) ?_
  simp only [Nat.reduceAdd, Act.put, Xa, Xz, Xs]
  refine ws_cell 2 (.tmp 52) (.int .i64 b) (own_row 1 rfl) rfl rfl rfl rfl rfl Try.isAgg2 ?_
  simp only [Nat.reduceAdd, Act.put, Xa, Xz, Xs]
  refine ws_call 29 #[.int .i64 s, .int .i64 a, .int .i64 b] (.int .i64 (est1 a b s)) rfl rfl (fun _ => by go_simp) (fun W => clamp_b s a b W) ?_
  simp only [Nat.reduceAdd, Act.put, Xa, Xz, Xs]
  refine ws_late (.int .i64 (est1 a b s)) rfl rfl (fun _ => rfl) ?_
  simp only [Nat.reduceAdd, Act.put, Xa, Xz, Xs]
  refine ws_nil [] trivial (by simp) ?_
  intro ps9
  simp only [fin, List.foldl_nil, List.map, List.nil_append]
  refine we_then ?_
  refine wc_seq ?_
  refine wc_region ?_
  refine wl_val (.pointer (some ⟨g1, 1, none⟩)) rfl (fun _ => by go_simp) ?_
  simp only [Act.put, Xa, Xz, Xs]
  refine wl_cell 3 (.tmp 55) (.int .i64 P.gi) (own_row 5 rfl) rfl rfl rfl rfl Try.isAgg3 ?_
  simp only [Act.put, Xa, Xz, Xs]
  refine wl_load 32 (.tmp 8) (own_row 1 rfl) rfl rfl rfl Try.underlying32 rfl (by kernel_rfl) ?_
  simp only [Act.put, Xa, Xz, Xs]
  refine wl_val (.int .i64 (est1 a b s)) rfl (fun _ => rfl) ?_
  simp only [Act.put, Xa, Xz, Xs]
  refine wl_load 36 (.tmp 10) (own_row 0 rfl) rfl rfl rfl Try.underlying36 rfl (by kernel_rfl) ?_
  simp only [Act.put, Xa, Xz, Xs]
  refine wl_val (.agg #[.bool true, .int .i64 P.gi, .int .i64 a, .int .i64 b, .int .i64 (est1 a b s), .int .i64 zk6.F, .slice zk6.p zk6.X.length zk6.c]) rfl (fun _ => by go_simp) ?_
  simp only [Act.put, Xa, Xz, Xs]
  refine wl_store 2 38 (.tmp 6) (.tmp 60) (#[.bool true, .int .i64 P.gi, .int .i64 a, .int .i64 b, .int .i64 (est1 a b s), .int .i64 zk6.F, .slice zk6.p zk6.X.length zk6.c]) rfl rfl rfl rfl rfl (by kernel_rfl) rfl (by simp [Value.oneCell']) ?_
  simp only [Act.put, List.set_cons_zero, List.set_cons_succ]
  refine wl_val (.int .i64 0) rfl (fun _ => rfl) ?_
  simp only [Act.put, Xa, Xz, Xs]
  refine wl_nil ?_
  refine we_then ?_
  refine wc_ret ?_
  refine we_ret_cell_tmp (.int .i64 0) (own_row 2 rfl) rfl rfl rfl rfl Try.underlying38 rfl (by kernel_rfl) (fun w1 hE => ?_)
  have e0 : zk6.e = 0 := by omega
  exact ⟨⟨zk6.e, true, P.gi, a, b, est1 a b s, zk6.F, zk6.p, zk6.X, zk6.c, zk6.N⟩, ⟨by rw [mvS_in hin]; exact k6.is, fun _ => ⟨rfl, rfl, rfl, rfl, (by rw [hs]), k6.frm e0⟩, fun h => absurd e0 h, k6.held⟩, (by rw [e0]; rfl), hE.sub (List.Sublist.cons _ (List.Sublist.cons _ (List.Sublist.cons _ (List.Sublist.cons _ (List.Sublist.cons _ (List.Sublist.cons _ (List.Sublist.refl _)))))))⟩
 ·
  skip
  have p8 : (zk6.e : Int) ≠ 0 := by first | (simp; done) | (simp at h8; done) | simpa using h8
  refine wc_true rfl ?_
  refine wc_seq ?_
  refine wc_region ?_
  refine wl_val (.agg #[.bool false, .int .i64 0, .int .i64 0, .int .i64 0, .int .i64 0, .int .i64 0, .slice none 0 0]) rfl (fun _ => by go_simp) ?_
  simp only [Act.put, Xa, Xz, Xs]
  refine wl_val (.int .i64 (zk6.e : Int)) rfl (fun _ => rfl) ?_
  simp only [Act.put, Xa, Xz, Xs]
  refine wl_store 2 38 (.tmp 6) (.tmp 43) (#[.bool false, .int .i64 0, .int .i64 0, .int .i64 0, .int .i64 0, .int .i64 0, .slice none 0 0]) rfl rfl rfl rfl rfl (by kernel_rfl) rfl (by simp [Value.oneCell']) ?_
  simp only [Act.put, List.set_cons_zero, List.set_cons_succ]
  refine wl_val (.int .i64 (zk6.e : Int)) rfl (fun _ => rfl) ?_
  simp only [Act.put, Xa, Xz, Xs]
  refine wl_nil ?_
  refine we_then ?_
  refine wc_ret ?_
  refine we_then_ret ?_
  refine we_ret_cell_tmp (.int .i64 (zk6.e : Int)) (own_row 2 rfl) rfl rfl rfl rfl Try.underlying38 rfl (by kernel_rfl) (fun w1 hE => ?_)
  have e0 : zk6.e ≠ 0 := by omega
  have hn := (grow_none hM.segs hX.wf k6.is e0).1
  exact ⟨⟨zk6.e, false, 0, 0, 0, 0, 0, none, [], 0, []⟩, ⟨(by rw [mvS_in hin, k6.is, hn]), fun h => absurd h e0, fun _ => ⟨rfl, rfl, rfl, rfl, rfl, rfl⟩, heldz _⟩, rfl, hE.sub (List.Sublist.cons _ (List.Sublist.cons _ (List.Sublist.cons _ (List.Sublist.cons _ (List.Sublist.cons _ (List.Sublist.cons _ (List.nil_sublist _)))))))⟩
theorem move_any (lo hi : Int) (P : Mv) (G : List Sg) (H : List Gp) (p q : Option Addr) (c d : Nat) (s0 f : Int) (w : World) (hS : Reads w p (flat sg G)) (hG : OkS w G) (hH : Reads w q (flat gp H)) (hM : TrackMay G H) (hP : PlOk G s0 f P) (hR : Reads w P.p (flat rt P.X)) (hv : lo ≤ hi ∧ -1099511627776 ≤ lo ∧ hi ≤ 1099511627776) (hC : ∀ s ∈ G, s.X.length ≤ s.nc) :
  Calls Try.prog 13 #[.agg #[.bool P.on, .int .i64 P.gi, .int .i64 P.lo, .int .i64 P.hi, .int .i64 P.est, .int .i64 P.F, .slice P.p P.X.length P.c], .agg #[.slice p G.length c, .slice q H.length d], .agg #[.int .i64 lo, .int .i64 hi]] w fun e w' => ∃ z : Mv, MvOk G P.gi f (P.lo + lo) (P.hi + hi) (P.est + (lo + hi) / 2) P.X z ∧ e = .returned (.tuple #[.agg #[.bool z.on, .int .i64 z.gi, .int .i64 z.lo, .int .i64 z.hi, .int .i64 z.est, .int .i64 z.F, .slice z.p z.X.length z.c], .int .i64 (z.e : Nat)]) ∧ Env w w' z.N := by
 obtain ⟨v1, v2, v3⟩ := hv
 have l1 := hP.lo
 have l2 := hP.mid
 have l3 := hP.hi
 have c1 : ∀ W, Calls Try.prog 27 #[.agg #[.int .i64 P.lo, .int .i64 P.hi], .agg #[.int .i64 lo, .int .i64 hi]] W fun e w' => e = .returned (.tuple #[.agg #[.int .i64 (P.lo + lo), .int .i64 (P.hi + hi)], .bool true]) ∧ Below W.heap.size W w' := by
  intro W
  have h9 := Spo.add_any P.lo P.hi lo hi W (by unfold Num.Fits; omega) (by unfold Num.Fits; omega) (by unfold Num.Fits; omega) (by unfold Num.Fits; omega)
  rw [told_yes (r := decide (P.lo ≤ P.hi) && decide (lo ≤ hi)) (X := P.lo + lo) (Y := P.hi + hi) (by rw [decide_eq_true (by omega), decide_eq_true v1]; rfl) (by omega) (by omega) (by omega)] at h9
  exact h9
 have c2 := fun W => Spo.in_any (P.lo + lo) (P.hi + hi) (-17592186044416) 17592186044416 W
 rw [hP.on]
 by_cases k1 : -17592186044416 ≤ P.lo + lo ∧ P.hi + hi ≤ 17592186044416
 ·
  have e0 : (!decide (P.lo + lo ≤ P.hi + hi) || decide (-17592186044416 ≤ P.lo + lo) && decide (P.hi + hi ≤ 17592186044416)) = true := by rw [decide_eq_true k1.1, decide_eq_true k1.2]; simp
  rw [e0] at c2
  rw [← hP.F]
  have hX := hP.set
  rw [← hP.F] at hX
  exact move_in lo hi (P.lo + lo) (P.hi + hi) (P.est + (lo + hi) / 2) ((lo + hi) / 2) P G H p q c d s0 _ w hR hS hG hH hM hX hC (by omega) (by omega) (by omega) rfl c1 c2 (fun W => Spo.mid_any lo hi W (by unfold Num.Fits; omega) (by unfold Num.Fits; omega)) (fun W => addsat_b _ _ W (by unfold Num.Fits; omega) (by unfold Num.Fits; omega) (by unfold Num.Fits; omega))
 ·
  have e0 : (!decide (P.lo + lo ≤ P.hi + hi) || decide (-17592186044416 ≤ P.lo + lo) && decide (P.hi + hi ≤ 17592186044416)) = false := by
   rw [decide_eq_true (by omega : P.lo + lo ≤ P.hi + hi), Bool.not_true, Bool.false_or]
   by_cases k2 : -17592186044416 ≤ P.lo + lo
   ·
    rw [decide_eq_false (fun x => k1 ⟨k2, x⟩), Bool.and_false]
   ·
    rw [decide_eq_false k2, Bool.false_and]
  rw [e0] at c2
  exact move_over lo hi (P.lo + lo) (P.hi + hi) _ f P G H p q c d w hR (by omega) c1 c2
end Go.Proofs.Ytbacchdkankioaa.Pla
