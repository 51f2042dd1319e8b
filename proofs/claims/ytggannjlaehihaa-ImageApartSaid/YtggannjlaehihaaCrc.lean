/-
 Package crc: its contracts. Condition: at most a million bytes.
-/
import Derived.Test.YtggannjlaehihaaCr
namespace Go.Proofs.Ytggannjlaehihaa.Crc
open Go.ChangeShapes Go.WideShapes Go.ChangeAt Go.RowKit
open Arr Steady Sx Sw Sl Sb Cr
set_option linter.unusedVariables false
set_option linter.unusedSimpArgs false
set_option maxRecDepth 100000

set_option maxHeartbeats 2000000 in
theorem go_any (s : BitVec 16) (L : List UInt8) (p : Option Addr) (c : Nat) (w : World) (hL : Reads w p (flat ub L)) (hn : L.length ≤ 1000000) :
  Calls Try.prog 48 #[.int .u16 (s.toNat : Int), .slice p L.length c] w fun e w' => e = .returned (.int .u16 ((crc s L).toNat : Int)) ∧ Below w.heap.size w w' := by
 refine calls_sx Try.func48 rfl ?_
 simp only [Try.ntmps48, List.size_toArray, List.length_cons, List.length_nil, Nat.reduceAdd, Nat.reduceSub, Array.replicate_succ, Array.replicate_zero, List.push_toArray, List.append_toArray, List.nil_append, List.cons_append]
 refine wc_seq ?_
 refine wc_region ?_
 refine wl_val (.int .u16 0) rfl (fun _ => rfl) ?_
 simp only [Act.put, Xa, Xz, Xs]
 refine wl_nil ?_
 refine we_then ?_
 refine wc_seq ?_
 refine wc_seq ?_
 refine wc_region ?_
 refine wl_val (.slice p L.length c) rfl (fun _ => rfl) ?_
 simp only [Act.put, Xa, Xz, Xs]
 refine wl_val (.int .i64 (L.length : Int)) rfl (fun w => er_len rfl rfl Try.underlying28 w) ?_
 simp only [Act.put, Xa, Xz, Xs]
 refine wl_val (.int .i64 0) rfl (fun _ => rfl) ?_
 simp only [Act.put, Xa, Xz, Xs]
 refine wl_nil ?_
 refine we_then ?_
 refine wc_block ?_
 refine wc_loop (fun (zz : Nat × BitVec 16 × Value × Value × Value × Value × Value × Value × Value × Value × Value × Value × Value × Value × Value × Value × Value × Value × Value × Value × Value × Value × Value) => match zz with | ⟨i, q, u6, u7, u11, u12, u13, u14, u15, u16, u17, u18, u19, u20, u21, u22, u23, u24, u25, u26, u27, u28, u29⟩ => ({ tmps := #[.int .u16 (q.toNat : Int), .slice p L.length c, undef, undef, .int .u16 0, undef, u6, u7, .slice p L.length c, .int .i64 (L.length : Int), .int .i64 (i : Int), u11, u12, u13, u14, u15, u16, u17, u18, u19, u20, u21, u22, u23, u24, u25, u26, u27, u28, u29, undef], defers := [] } : Act)) (fun (zz : Nat × BitVec 16 × Value × Value × Value × Value × Value × Value × Value × Value × Value × Value × Value × Value × Value × Value × Value × Value × Value × Value × Value × Value × Value) => match zz with | ⟨i, q, u6, u7, u11, u12, u13, u14, u15, u16, u17, u18, u19, u20, u21, u22, u23, u24, u25, u26, u27, u28, u29⟩ => []) (fun (zz : Nat × BitVec 16 × Value × Value × Value × Value × Value × Value × Value × Value × Value × Value × Value × Value × Value × Value × Value × Value × Value × Value × Value × Value × Value) => match zz with | ⟨i, q, u6, u7, u11, u12, u13, u14, u15, u16, u17, u18, u19, u20, u21, u22, u23, u24, u25, u26, u27, u28, u29⟩ => i ≤ L.length ∧ q = crc s (L.take i)) (fun (zz : Nat × BitVec 16 × Value × Value × Value × Value × Value × Value × Value × Value × Value × Value × Value × Value × Value × Value × Value × Value × Value × Value × Value × Value × Value) => match zz with | ⟨i, q, u6, u7, u11, u12, u13, u14, u15, u16, u17, u18, u19, u20, u21, u22, u23, u24, u25, u26, u27, u28, u29⟩ => L.length - i) ⟨0, s, _, _, _, _, _, _, _, _, _, _, _, _, _, _, _, _, _, _, _, _, _⟩ (by (try dsimp only); exact ⟨by omega, rfl⟩) rfl List.Sublist.slnil ?_
 rintro ⟨i, q, u6, u7, u11, u12, u13, u14, u15, u16, u17, u18, u19, u20, u21, u22, u23, u24, u25, u26, u27, u28, u29⟩ hφ
 (try dsimp only at hφ ⊢)
 obtain ⟨b1, b2⟩ := hφ
 refine wc_seq ?_
 refine wc_region ?_
 refine wl_val (.bool (decide ((i : Int) < (L.length : Int)))) rfl (fun w => run_cmp rfl rfl rfl Try.underlying3 rfl w) ?_
 simp only [Act.put, Xa, Xz, Xs]
 refine wl_nil ?_
 refine we_then ?_
 refine wc_seq ?_
 cases h1 : (decide ((i : Int) < (L.length : Int)))
 ·
  skip
  have p1 : ¬ ((i : Int) < (L.length : Int)) := of_decide_eq_false h1
  refine wc_false rfl ?_
  refine wc_exit ?_
  refine we_then_exit ?_
  refine we_then_exit ?_
  refine we_in_here ?_
  refine we_then ?_
  refine wc_seq ?_
  refine wc_region ?_
  refine wl_val (.int .u16 (q.toNat : Int)) rfl (fun _ => rfl) ?_
  simp only [Act.put, Xa, Xz, Xs]
  refine wl_val (.int .u16 (q.toNat : Int)) rfl (fun _ => rfl) ?_
  simp only [Act.put, Xa, Xz, Xs]
  refine wl_nil ?_
  refine we_then ?_
  refine wc_ret ?_
  refine we_ret1 (.int .u16 (q.toNat : Int)) rfl rfl rfl (fun w1 hE => ?_)
  have e1 : i = L.length := by omega
  rw [e1, List.take_of_length_le (Nat.le_refl _)] at b2
  exact ⟨by rw [b2], hE.below⟩
 ·
  skip
  have p1 : (i : Int) < (L.length : Int) := of_decide_eq_true h1
  refine wc_true rfl ?_
  refine wc_skip ?_
  refine we_then ?_
  refine wc_seq ?_
  refine wc_block ?_
  refine wc_seq ?_
  refine wc_region ?_
  refine wl_read (eaddr p (i * 1)) rfl (er_index i 1 (sl_old hL) rfl rfl rfl rfl (by omega) (ub_len1 rfl) (by decide) Try.underlying28 (by kernel_rfl)) ?_
  simp only [Act.put, Xa, Xz, Xs]
  refine wl_read (.int .u8 ((L[i]!).toNat : Int)) rfl (er_cell (i * 1) (.int .u8 ((L[i]!).toNat : Int)) (sl_old hL) rfl rfl (flat_cell (enc := ub) (fun _ => rfl) L i 0 (by omega) (by decide)) Try.isAgg5) ?_
  simp only [Act.put, Xa, Xz, Xs]
  refine wl_val (.int .u8 ((L[i]!).toNat : Int)) rfl (fun _ => rfl) ?_
  simp only [Act.put, Xa, Xz, Xs]
  refine wl_nil ?_
  refine we_then ?_
  refine wc_seq ?_
  refine wc_region ?_
  refine wl_val (.int .u16 (q.toNat : Int)) rfl (fun _ => rfl) ?_
  simp only [Act.put, Xa, Xz, Xs]
  refine wl_val (.int .u8 ((L[i]!).toNat : Int)) rfl (fun _ => rfl) ?_
  simp only [Act.put, Xa, Xz, Xs]
  refine wl_val (.int .u16 ((((L[i]!).toBitVec).setWidth 16).toNat : Int)) rfl (fun w => run_wide (sk := .u8) (k := .u16) (X := (L[i]!).toBitVec) rfl rfl rfl Try.underlying5 Try.underlying46 w) ?_
  simp only [Act.put, Xa, Xz, Xs]
  refine wl_val (.int .u16 (((((L[i]!).toBitVec).setWidth 16) <<< 8).toNat : Int)) rfl (fun w => run_shl (k := .u16) (X := ((L[i]!).toBitVec).setWidth 16) 8 rfl rfl rfl rfl w) ?_
  simp only [Act.put, Xa, Xz, Xs]
  refine wl_val (.int .u16 ((q ^^^ ((((L[i]!).toBitVec).setWidth 16) <<< 8)).toNat : Int)) rfl (fun w => run_bits (k := .u16) (X := q) (Y := (((L[i]!).toBitVec).setWidth 16) <<< 8) (Z := q ^^^ ((((L[i]!).toBitVec).setWidth 16) <<< 8)) rfl rfl rfl rfl rfl w) ?_
  simp only [Act.put, Xa, Xz, Xs]
  refine wl_val (.int .u16 ((q ^^^ ((((L[i]!).toBitVec).setWidth 16) <<< 8)).toNat : Int)) rfl (fun _ => rfl) ?_
  simp only [Act.put, Xa, Xz]
  refine wl_nil ?_
  refine we_then ?_
  refine wc_seq ?_
  refine wc_region ?_
  refine wl_val (.int .i64 0) rfl (fun _ => rfl) ?_
  simp only [Act.put, Xa, Xz, Xs]
  refine wl_nil ?_
  refine we_then ?_
  refine wc_block ?_
  refine wc_loop (fun (zz : Nat × BitVec 16 × Value × Value × Value × Value × Value × Value × Value × Value × Value × Value) => match zz with | ⟨j, r, u7, u20, u21, u22, u23, u24, u25, u26, u27, u28⟩ => ({ tmps := #[.int .u16 (r.toNat : Int), .slice p L.length c, undef, undef, .int .u16 0, undef, .int .u8 ((L[i]!).toNat : Int), u7, .slice p L.length c, .int .i64 (L.length : Int), .int .i64 (i : Int), .bool true, eaddr p (i * 1), .int .u8 ((L[i]!).toNat : Int), .int .u16 (q.toNat : Int), .int .u8 ((L[i]!).toNat : Int), .int .u16 ((((L[i]!).toBitVec).setWidth 16).toNat : Int), .int .u16 (((((L[i]!).toBitVec).setWidth 16) <<< 8).toNat : Int), .int .u16 ((q ^^^ ((((L[i]!).toBitVec).setWidth 16) <<< 8)).toNat : Int), .int .i64 (j : Int), u20, u21, u22, u23, u24, u25, u26, u27, u28, u29, undef], defers := [] } : Act)) (fun (zz : Nat × BitVec 16 × Value × Value × Value × Value × Value × Value × Value × Value × Value × Value) => match zz with | ⟨j, r, u7, u20, u21, u22, u23, u24, u25, u26, u27, u28⟩ => []) (fun (zz : Nat × BitVec 16 × Value × Value × Value × Value × Value × Value × Value × Value × Value × Value) => match zz with | ⟨j, r, u7, u20, u21, u22, u23, u24, u25, u26, u27, u28⟩ => j ≤ 8 ∧ r = itr j (ent q (L[i]!))) (fun (zz : Nat × BitVec 16 × Value × Value × Value × Value × Value × Value × Value × Value × Value × Value) => match zz with | ⟨j, r, u7, u20, u21, u22, u23, u24, u25, u26, u27, u28⟩ => 8 - j) ⟨0, q ^^^ ((((L[i]!).toBitVec).setWidth 16) <<< 8), _, _, _, _, _, _, _, _, _, _⟩ (by (try dsimp only); exact ⟨by omega, rfl⟩) rfl List.Sublist.slnil ?_
  rintro ⟨j, r, u7, u20, u21, u22, u23, u24, u25, u26, u27, u28⟩ hφ
  (try dsimp only at hφ ⊢)
  obtain ⟨b3, b4⟩ := hφ
  refine wc_seq ?_
  refine wc_region ?_
  refine wl_val (.bool (decide ((j : Int) < 8))) rfl (fun w => run_cmp rfl rfl rfl Try.underlying3 rfl w) ?_
  simp only [Act.put, Xa, Xz, Xs]
  refine wl_nil ?_
  refine we_then ?_
  refine wc_seq ?_
  cases h2 : (decide ((j : Int) < 8))
  ·
   skip
   have p2 : ¬ ((j : Int) < 8) := of_decide_eq_false h2
   refine wc_false rfl ?_
   refine wc_exit ?_
   refine we_then_exit ?_
   refine we_then_exit ?_
   refine we_in_here ?_
   refine we_in ?_
   refine we_then ?_
   refine wc_region ?_
   refine wl_val (.int .i64 ((i + 1 : Nat) : Int)) rfl (fun w => run_nat (X := i) (Y := 1) (Z := i + 1) rfl rfl rfl rfl (by omega) w) ?_
   simp only [Act.put, Xa, Xz, Xs]
   refine wl_val (.int .i64 ((i + 1 : Nat) : Int)) rfl (fun _ => rfl) ?_
   simp only [Act.put, Xa, Xz, Xs]
   refine wl_nil ?_
   exact we_meet ⟨(i + 1), r, _, _, _, _, _, _, _, _, _, _, _, _, _, _, _, _, _, _, _, _, _⟩ (by (try dsimp only); have e8 : j = 8 := (by omega); subst e8; exact ⟨⟨by omega, by rw [crc_snoc s L i (by omega), ← b2]; exact b4⟩, by omega⟩) rfl List.Sublist.slnil
  ·
   skip
   have p2 : (j : Int) < 8 := of_decide_eq_true h2
   refine wc_true rfl ?_
   refine wc_skip ?_
   refine we_then ?_
   refine wc_seq ?_
   refine wc_block ?_
   refine wc_seq ?_
   refine wc_region ?_
   refine wl_val (.int .u16 (r.toNat : Int)) rfl (fun _ => rfl) ?_
   simp only [Act.put, Xa, Xz, Xs]
   refine wl_val (.int .u16 ((r >>> 15).toNat : Int)) rfl (fun w => run_shr (k := .u16) (X := r) 15 rfl rfl rfl rfl w) ?_
   simp only [Act.put, Xa, Xz, Xs]
   refine wl_val (.int .u16 ((r >>> 15).toNat : Int)) rfl (fun _ => rfl) ?_
   simp only [Act.put, Xa, Xz, Xs]
   refine wl_nil ?_
   refine we_then ?_
   refine wc_region ?_
   refine wl_val (.int .u16 (r.toNat : Int)) rfl (fun _ => rfl) ?_
   simp only [Act.put, Xa, Xz, Xs]
   refine wl_val (.int .u16 ((r <<< 1).toNat : Int)) rfl (fun w => run_shl (k := .u16) (X := r) 1 rfl rfl rfl rfl w) ?_
   simp only [Act.put, Xa, Xz, Xs]
   refine wl_val (.int .u16 ((r >>> 15).toNat : Int)) rfl (fun _ => rfl) ?_
   simp only [Act.put, Xa, Xz, Xs]
   refine wl_val (.int .u16 (((r >>> 15) * (4129#16)).toNat : Int)) rfl (fun w => run_bits (k := .u16) (X := r >>> 15) (Y := 4129#16) (Z := (r >>> 15) * (4129#16)) rfl rfl rfl rfl rfl w) ?_
   simp only [Act.put, Xa, Xz, Xs]
   refine wl_val (.int .u16 (((r <<< 1) ^^^ ((r >>> 15) * (4129#16))).toNat : Int)) rfl (fun w => run_bits (k := .u16) (X := r <<< 1) (Y := (r >>> 15) * (4129#16)) (Z := (r <<< 1) ^^^ ((r >>> 15) * (4129#16))) rfl rfl rfl rfl rfl w) ?_
   simp only [Act.put, Xa, Xz, Xs]
   refine wl_val (.int .u16 (((r <<< 1) ^^^ ((r >>> 15) * (4129#16))).toNat : Int)) rfl (fun _ => rfl) ?_
   simp only [Act.put, Xa, Xz]
   refine wl_nil ?_
   refine we_in ?_
   refine we_then ?_
   refine wc_region ?_
   refine wl_val (.int .i64 ((j + 1 : Nat) : Int)) rfl (fun w => run_nat (X := j) (Y := 1) (Z := j + 1) rfl rfl rfl rfl (by omega) w) ?_
   simp only [Act.put, Xa, Xz, Xs]
   refine wl_val (.int .i64 ((j + 1 : Nat) : Int)) rfl (fun _ => rfl) ?_
   simp only [Act.put, Xa, Xz, Xs]
   refine wl_nil ?_
   exact we_meet ⟨(j + 1), (r <<< 1) ^^^ ((r >>> 15) * (4129#16)), _, _, _, _, _, _, _, _, _, _⟩ (by (try dsimp only); exact ⟨⟨by omega, by rw [b4]; rfl⟩, by omega⟩) rfl List.Sublist.slnil
theorem go_at (s : BitVec 16) (L : List UInt8) (p : Option Addr) (n c : Nat) (w : World) (hl : L.length = n) (hL : Reads w p (flat ub L)) (hn : L.length ≤ 1000000) :
  Calls Try.prog 48 #[.int .u16 (s.toNat : Int), .slice p n c] w fun e w' => e = .returned (.int .u16 ((crc s L).toNat : Int)) ∧ Below w.heap.size w w' := by
 subst hl
 exact go_any s L p c w hL hn
set_option maxHeartbeats 2000000 in
theorem sum_any (L : List UInt8) (p : Option Addr) (c : Nat) (w : World) (hL : Reads w p (flat ub L)) (hn : L.length ≤ 1000000) :
  Calls Try.prog 35 #[.slice p L.length c] w fun e w' => e = .returned (.int .u16 ((crc 65535#16 L).toNat : Int)) ∧ Below w.heap.size w w' := by
 refine calls_sx Try.func35 rfl ?_
 simp only [Try.ntmps35, List.size_toArray, List.length_cons, List.length_nil, Nat.reduceAdd, Nat.reduceSub, Array.replicate_succ, Array.replicate_zero, List.push_toArray, List.append_toArray, List.nil_append, List.cons_append]
 refine wc_seq ?_
 refine wc_region ?_
 refine wl_val (.int .u16 0) rfl (fun _ => rfl) ?_
 simp only [Act.put, Xa, Xz, Xs]
 refine wl_nil ?_
 refine we_then ?_
 refine wc_seq ?_
 refine wc_region ?_
 refine wl_val (.slice p L.length c) rfl (fun _ => rfl) ?_
 simp only [Act.put, Xa, Xz, Xs]
 refine wl_call_at 48 #[.int .u16 65535, .slice p L.length c] (.int .u16 ((crc (65535#16) L).toNat : Int)) rfl (fun _ => by go_simp) (fun W hE => go_at (65535#16) L _ _ _ W rfl ((sl_old hL) W hE) (by omega)) ?_
 simp only [Act.put, Xa, Xz, Xs]
 refine wl_val (.int .u16 ((crc (65535#16) L).toNat : Int)) rfl (fun _ => rfl) ?_
 simp only [Act.put, Xa, Xz, Xs]
 refine wl_nil ?_
 refine we_then ?_
 refine wc_ret ?_
 refine we_ret1 (.int .u16 ((crc (65535#16) L).toNat : Int)) rfl rfl rfl (fun w1 hE => ?_)
 exact ⟨rfl, hE.below⟩
theorem sum_at (L : List UInt8) (p : Option Addr) (n c : Nat) (w : World) (hl : L.length = n) (hL : Reads w p (flat ub L)) (hn : L.length ≤ 1000000) :
  Calls Try.prog 35 #[.slice p n c] w fun e w' => e = .returned (.int .u16 ((crc 65535#16 L).toNat : Int)) ∧ Below w.heap.size w w' := by
 subst hl
 exact sum_any L p c w hL hn
set_option maxHeartbeats 2000000 in
theorem seal_any (L : List UInt8) (p : Option Addr) (c : Nat) (w : World) (hL : Reads w p (flat ub L)) (hn : L.length ≤ 1000000) :
  Calls Try.prog 20 #[.slice p L.length c] w fun e w' => ∃ g : Nat, True ∧ e = .returned (.slice (some ⟨g, 0, none⟩) (L.length + 2) (L.length + 2)) ∧ Env w w' [⟨g, (flat ub (seal_ L)).toArray, 5⟩] := by
 refine calls_sx Try.func20 rfl ?_
 simp only [Try.ntmps20, List.size_toArray, List.length_cons, List.length_nil, Nat.reduceAdd, Nat.reduceSub, Array.replicate_succ, Array.replicate_zero, List.push_toArray, List.append_toArray, List.nil_append, List.cons_append]
 refine wc_seq ?_
 refine wc_region ?_
 refine wl_val (.slice none 0 0) rfl (fun _ => rfl) ?_
 simp only [Act.put, Xa, Xz, Xs]
 refine wl_nil ?_
 refine we_then ?_
 refine wc_seq ?_
 refine wc_region ?_
 refine wl_val (.slice p L.length c) rfl (fun _ => rfl) ?_
 simp only [Act.put, Xa, Xz, Xs]
 refine wl_val (.int .i64 (L.length : Int)) rfl (fun w => er_len rfl rfl Try.underlying28 w) ?_
 simp only [Act.put, Xa, Xz, Xs]
 refine wl_val (.int .i64 ((L.length + 2 : Nat) : Int)) rfl (fun w => run_nat (X := L.length) (Y := 2) (Z := L.length + 2) rfl rfl rfl rfl (by omega) w) ?_
 simp only [Act.put, Xa, Xz, Xs]
 refine wl_make (e := 5) (L.length + 2) rfl rfl rfl rfl rfl rfl (by omega) Try.underlying28 (by kernel_rfl) ?_
 intro g1
 simp only [Act.put, Xa, Xz, Xs]
 refine wl_val (.slice (some ⟨g1, 0, none⟩) (L.length + 2) (L.length + 2)) rfl (fun _ => rfl) ?_
 simp only [Act.put, Xa, Xz, Xs]
 refine wl_nil ?_
 refine we_then ?_
 refine wc_seq ?_
 refine wc_region ?_
 refine wl_val (.slice (some ⟨g1, 0, none⟩) (L.length + 2) (L.length + 2)) rfl (fun _ => rfl) ?_
 simp only [Act.put, Xa, Xz, Xs]
 refine wl_val (.slice p L.length c) rfl (fun _ => rfl) ?_
 simp only [Act.put, Xa, Xz, Xs]
 refine wl_copy 0 (L := List.replicate (L.length + 2) 0) (M := L) rfl (sl_old hL) rfl List.length_replicate rfl rfl rfl rfl Try.underlying28 (by kernel_rfl) ?_
 simp only [Act.put, Xa, Xz, Xs]
 refine wl_nil ?_
 refine we_then ?_
 refine wc_seq ?_
 refine wc_region ?_
 refine wl_val (.slice p L.length c) rfl (fun _ => rfl) ?_
 simp only [Act.put, Xa, Xz, Xs]
 refine wl_call_at 35 #[.slice p L.length c] (.int .u16 ((crc 65535#16 L).toNat : Int)) rfl (fun _ => by go_simp) (fun W hE => sum_at L _ _ _ W rfl ((sl_old hL) W hE) (by omega)) ?_
 simp only [Act.put, Xa, Xz, Xs]
 refine wl_val (.int .u16 ((crc 65535#16 L).toNat : Int)) rfl (fun _ => rfl) ?_
 simp only [Act.put, Xa, Xz, Xs]
 refine wl_nil ?_
 refine we_then ?_
 refine wc_seq ?_
 refine wc_region ?_
 refine wl_val (.slice (some ⟨g1, 0, none⟩) (L.length + 2) (L.length + 2)) rfl (fun _ => rfl) ?_
 simp only [Act.put, Xa, Xz, Xs]
 refine wl_val (.slice p L.length c) rfl (fun _ => rfl) ?_
 simp only [Act.put, Xa, Xz, Xs]
 refine wl_val (.int .i64 (L.length : Int)) rfl (fun w => er_len rfl rfl Try.underlying28 w) ?_
 simp only [Act.put, Xa, Xz, Xs]
 refine wl_val (.slice (some ⟨g1, 0, none⟩) (L.length + 2) (L.length + 2)) rfl (fun _ => rfl) ?_
 simp only [Act.put, Xa, Xz, Xs]
 refine wl_val (.slice p L.length c) rfl (fun _ => rfl) ?_
 simp only [Act.put, Xa, Xz, Xs]
 refine wl_val (.int .i64 (L.length : Int)) rfl (fun w => er_len rfl rfl Try.underlying28 w) ?_
 simp only [Act.put, Xa, Xz, Xs]
 refine wl_val (.int .i64 ((L.length + 1 : Nat) : Int)) rfl (fun w => run_nat (X := L.length) (Y := 1) (Z := L.length + 1) rfl rfl rfl rfl (by omega) w) ?_
 simp only [Act.put, Xa, Xz, Xs]
 refine wl_val (.int .u16 ((crc 65535#16 L).toNat : Int)) rfl (fun _ => rfl) ?_
 simp only [Act.put, Xa, Xz, Xs]
 refine wl_val (.int .u16 (((crc 65535#16 L) >>> 8).toNat : Int)) rfl (fun w => run_shr (k := .u16) (X := crc 65535#16 L) 8 rfl rfl rfl rfl w) ?_
 simp only [Act.put, Xa, Xz, Xs]
 refine wl_val (.int .u8 ((((crc 65535#16 L) >>> 8).setWidth 8).toNat : Int)) rfl (fun w => run_wide (sk := .u16) (k := .u8) (X := (crc 65535#16 L) >>> 8) rfl rfl rfl Try.underlying46 Try.underlying5 w) ?_
 simp only [Act.put, Xa, Xz, Xs]
 refine wl_val (.int .u16 ((crc 65535#16 L).toNat : Int)) rfl (fun _ => rfl) ?_
 simp only [Act.put, Xa, Xz, Xs]
 refine wl_val (.int .u8 (((crc 65535#16 L).setWidth 8).toNat : Int)) rfl (fun w => run_wide (sk := .u16) (k := .u8) (X := crc 65535#16 L) rfl rfl rfl Try.underlying46 Try.underlying5 w) ?_
 simp only [Act.put, Xa, Xz, Xs]
 refine wl_read (eaddr (some ⟨g1, 0, none⟩) ((L.length) * 1)) rfl (er_index (L.length) 1 (sl_mk 0 (L := laid (List.replicate (L.length + 2) 0) L) rfl) rfl rfl rfl rfl (by omega) (ub_len1 ((laid_length _ _).trans List.length_replicate)) (by decide) Try.underlying28 (by kernel_rfl)) ?_
 simp only [Act.put, Xa, Xz, Xs]
 refine wl_set 0 L.length (L := laid (List.replicate (L.length + 2) 0) L) (UInt8.ofBitVec (((crc 65535#16 L) >>> 8).setWidth 8)) rfl (Nat.lt_of_lt_of_eq (show L.length < L.length + 2 by omega) (Eq.symm ((laid_length _ _).trans List.length_replicate))) rfl rfl rfl rfl (by kernel_rfl) ?_
 simp only [Act.put, List.set_cons_zero]
 refine wl_read (eaddr (some ⟨g1, 0, none⟩) ((L.length + 1) * 1)) rfl (er_index (L.length + 1) 1 (sl_mk 0 (L := (laid (List.replicate (L.length + 2) 0) L).set L.length (UInt8.ofBitVec (((crc 65535#16 L) >>> 8).setWidth 8))) rfl) rfl rfl rfl rfl (by omega) (ub_len1 (List.length_set.trans ((laid_length _ _).trans List.length_replicate))) (by decide) Try.underlying28 (by kernel_rfl)) ?_
 simp only [Act.put, Xa, Xz, Xs]
 refine wl_set 0 (L.length + 1) (L := (laid (List.replicate (L.length + 2) 0) L).set L.length (UInt8.ofBitVec (((crc 65535#16 L) >>> 8).setWidth 8))) (UInt8.ofBitVec ((crc 65535#16 L).setWidth 8)) rfl (Nat.lt_of_lt_of_eq (show L.length + 1 < L.length + 2 by omega) (Eq.symm (List.length_set.trans ((laid_length _ _).trans List.length_replicate)))) rfl rfl rfl rfl (by kernel_rfl) ?_
 simp only [Act.put, List.set_cons_zero]
 refine wl_nil ?_
 refine we_then ?_
 refine wc_seq ?_
 refine wc_region ?_
 refine wl_val (.slice (some ⟨g1, 0, none⟩) (L.length + 2) (L.length + 2)) rfl (fun _ => rfl) ?_
 simp only [Act.put, Xa, Xz, Xs]
 refine wl_val (.slice (some ⟨g1, 0, none⟩) (L.length + 2) (L.length + 2)) rfl (fun _ => rfl) ?_
 simp only [Act.put, Xa, Xz, Xs]
 refine wl_nil ?_
 refine we_then ?_
 refine wc_ret ?_
 refine we_ret1 (.slice (some ⟨g1, 0, none⟩) (L.length + 2) (L.length + 2)) rfl rfl rfl (fun w1 hE => ?_)
 rw [show ((laid (List.replicate (L.length + 2) 0) L).set L.length (UInt8.ofBitVec (((crc 65535#16 L) >>> 8).setWidth 8))).set (L.length + 1) (UInt8.ofBitVec ((crc 65535#16 L).setWidth 8)) = seal_ L from seal_laid L] at hE
 exact ⟨g1, trivial, rfl, hE⟩
theorem opens_short (L : List UInt8) (h : L.length < 2) : opens L = false := by
 unfold opens
 rw [decide_eq_false (by omega)]
 rfl
theorem opens_not (L : List UInt8) (h : (told (L[L.length - 2]!) (L[L.length - 1]!) != crc 65535#16 (L.take (L.length - 2))) = true) : opens L = false := by
 unfold opens
 cases hq : told (L[L.length - 2]!) (L[L.length - 1]!) == crc 65535#16 (L.take (L.length - 2))
 ·
  rw [Bool.and_false]
 ·
  rw [bne, hq] at h; cases h
theorem opens_of (L : List UInt8) (h2 : 2 ≤ L.length) (h : (told (L[L.length - 2]!) (L[L.length - 1]!) != crc 65535#16 (L.take (L.length - 2))) = false) : opens L = true := by
 unfold opens
 cases hq : told (L[L.length - 2]!) (L[L.length - 1]!) == crc 65535#16 (L.take (L.length - 2))
 ·
  rw [bne, hq] at h; cases h
 ·
  rw [decide_eq_true h2]; rfl
set_option maxHeartbeats 2000000 in
theorem open_any (L : List UInt8) (p : Option Addr) (c : Nat) (w : World) (hL : Reads w p (flat ub L)) (hn : L.length ≤ 1000000) (hc : L.length ≤ c) :
  Calls Try.prog 23 #[.slice p L.length c] w fun e w' => (∃ g : Nat, opens L = true ∧ e = .returned (.tuple #[.slice (some ⟨g, 0, none⟩) (L.length - 2) (L.length - 2), .bool true]) ∧ Env w w' [⟨g, (flat ub (L.take (L.length - 2))).toArray, 5⟩]) ∨ (opens L = false ∧ e = .returned (.tuple #[.slice none 0 0, .bool false]) ∧ Below w.heap.size w w') := by
 refine calls_sx Try.func23 rfl ?_
 simp only [Try.ntmps23, List.size_toArray, List.length_cons, List.length_nil, Nat.reduceAdd, Nat.reduceSub, Array.replicate_succ, Array.replicate_zero, List.push_toArray, List.append_toArray, List.nil_append, List.cons_append]
 refine wc_seq ?_
 refine wc_region ?_
 refine wl_val (.slice none 0 0) rfl (fun _ => rfl) ?_
 simp only [Act.put, Xa, Xz, Xs]
 refine wl_val (.bool false) rfl (fun _ => rfl) ?_
 simp only [Act.put, Xa, Xz, Xs]
 refine wl_nil ?_
 refine we_then ?_
 refine wc_seq ?_
 refine wc_region ?_
 refine wl_val (.slice p L.length c) rfl (fun _ => rfl) ?_
 simp only [Act.put, Xa, Xz, Xs]
 refine wl_val (.int .i64 (L.length : Int)) rfl (fun w => er_len rfl rfl Try.underlying28 w) ?_
 simp only [Act.put, Xa, Xz, Xs]
 refine wl_val (.int .i64 ((L.length : Int) - 2)) rfl (fun w => run_arith (op := .sub) rfl rfl rfl Try.underlying3 (congrArg some (i64_in (by omega) (by omega))) w) ?_
 simp only [Act.put, Xa, Xz, Xs]
 refine wl_val (.int .i64 ((L.length : Int) - 2)) rfl (fun _ => rfl) ?_
 simp only [Act.put, Xa, Xz, Xs]
 refine wl_nil ?_
 refine we_then ?_
 refine wc_seq ?_
 refine wc_seq ?_
 refine wc_draw [.late, .late, .late, .late, .late, .plain, .plain, .late, .late, .late, .late, .late, .plain, .plain, .late, .late, .late, .late, .late, .plain, .late, .late] none [] 37 (by kernel_rfl) rfl (by kernel_rfl) (by kernel_rfl) ?_
 refine ws_late (.int .i64 ((L.length : Int) - 2)) rfl rfl (fun _ => rfl) ?_
 simp only [Nat.reduceAdd, Act.put, Xa, Xz, Xs]
 refine ws_late (.bool (decide ((L.length : Int) - 2 < 0))) rfl rfl (fun w => run_cmp rfl rfl rfl Try.underlying3 rfl w) ?_
 simp only [Nat.reduceAdd, Act.put, Xa, Xz, Xs]
 refine ws_late (.bool (decide ((L.length : Int) - 2 < 0))) rfl rfl (fun _ => rfl) ?_
 simp only [Nat.reduceAdd, Act.put, Xa, Xz, Xs]
 cases h1 : (decide ((L.length : Int) - 2 < 0))
 ·
  skip
  have p1 : ¬ ((L.length : Int) - 2 < 0) := of_decide_eq_false h1
  refine ws_late (.slice p L.length c) rfl rfl (fun _ => rfl) ?_
  simp only [Nat.reduceAdd, Act.put, Xa, Xz, Xs]
  refine ws_late (.int .i64 ((L.length : Int) - 2)) rfl rfl (fun _ => rfl) ?_
  simp only [Nat.reduceAdd, Act.put, Xa, Xz, Xs]
  refine ws_read (eaddr p ((L.length - 2) * 1)) rfl rfl (er_index (L.length - 2) 1 (sl_old hL) rfl rfl rfl (by omega) (by omega) (ub_len1 rfl) (by decide) Try.underlying28 (by kernel_rfl)) ?_
  simp only [Nat.reduceAdd, Act.put, Xa, Xz, Xs]
  refine ws_read (.int .u8 ((L[L.length - 2]!).toNat : Int)) rfl rfl (er_cell ((L.length - 2) * 1) (.int .u8 ((L[L.length - 2]!).toNat : Int)) (sl_old hL) rfl rfl (flat_cell (enc := ub) (fun _ => rfl) L (L.length - 2) 0 (by omega) (by decide)) Try.isAgg5) ?_
  simp only [Nat.reduceAdd, Act.put, Xa, Xz, Xs]
  refine ws_late (.int .u16 ((((L[L.length - 2]!).toBitVec).setWidth 16).toNat : Int)) rfl rfl (fun w => run_wide (sk := .u8) (k := .u16) (X := (L[L.length - 2]!).toBitVec) rfl rfl rfl Try.underlying5 Try.underlying46 w) ?_
  simp only [Nat.reduceAdd, Act.put, Xa, Xz, Xs]
  refine ws_late (.int .u16 (((((L[L.length - 2]!).toBitVec).setWidth 16) <<< 8).toNat : Int)) rfl rfl (fun w => run_shl (k := .u16) (X := ((L[L.length - 2]!).toBitVec).setWidth 16) 8 rfl rfl rfl rfl w) ?_
  simp only [Nat.reduceAdd, Act.put, Xa, Xz, Xs]
  refine ws_late (.slice p L.length c) rfl rfl (fun _ => rfl) ?_
  simp only [Nat.reduceAdd, Act.put, Xa, Xz, Xs]
  refine ws_late (.int .i64 ((L.length : Int) - 2)) rfl rfl (fun _ => rfl) ?_
  simp only [Nat.reduceAdd, Act.put, Xa, Xz, Xs]
  refine ws_late (.int .i64 (((L.length : Int) - 2) + 1)) rfl rfl (fun w => run_arith (op := .add) rfl rfl rfl Try.underlying3 (congrArg some (i64_in (by omega) (by omega))) w) ?_
  simp only [Nat.reduceAdd, Act.put, Xa, Xz, Xs]
  refine ws_read (eaddr p ((L.length - 1) * 1)) rfl rfl (er_index (L.length - 1) 1 (sl_old hL) rfl rfl rfl (by omega) (by omega) (ub_len1 rfl) (by decide) Try.underlying28 (by kernel_rfl)) ?_
  simp only [Nat.reduceAdd, Act.put, Xa, Xz, Xs]
  refine ws_read (.int .u8 ((L[L.length - 1]!).toNat : Int)) rfl rfl (er_cell ((L.length - 1) * 1) (.int .u8 ((L[L.length - 1]!).toNat : Int)) (sl_old hL) rfl rfl (flat_cell (enc := ub) (fun _ => rfl) L (L.length - 1) 0 (by omega) (by decide)) Try.isAgg5) ?_
  simp only [Nat.reduceAdd, Act.put, Xa, Xz, Xs]
  refine ws_late (.int .u16 ((((L[L.length - 1]!).toBitVec).setWidth 16).toNat : Int)) rfl rfl (fun w => run_wide (sk := .u8) (k := .u16) (X := (L[L.length - 1]!).toBitVec) rfl rfl rfl Try.underlying5 Try.underlying46 w) ?_
  simp only [Nat.reduceAdd, Act.put, Xa, Xz, Xs]
  refine ws_late (.int .u16 ((((((L[L.length - 2]!).toBitVec).setWidth 16) <<< 8) ||| (((L[L.length - 1]!).toBitVec).setWidth 16)).toNat : Int)) rfl rfl (fun w => run_bits (k := .u16) (X := (((L[L.length - 2]!).toBitVec).setWidth 16) <<< 8) (Y := ((L[L.length - 1]!).toBitVec).setWidth 16) (Z := ((((L[L.length - 2]!).toBitVec).setWidth 16) <<< 8) ||| (((L[L.length - 1]!).toBitVec).setWidth 16)) rfl rfl rfl rfl rfl w) ?_
  simp only [Nat.reduceAdd, Act.put, Xa, Xz, Xs]
  refine ws_late (.slice p L.length c) rfl rfl (fun _ => rfl) ?_
  simp only [Nat.reduceAdd, Act.put, Xa, Xz, Xs]
  refine ws_late (.int .i64 ((L.length : Int) - 2)) rfl rfl (fun _ => rfl) ?_
  simp only [Nat.reduceAdd, Act.put, Xa, Xz, Xs]
  refine ws_late (.slice p (L.length - 2) c) rfl rfl (fun w => er_take (h := L.length - 2) rfl rfl rfl (by omega) (by omega) Try.underlying28 (by kernel_rfl) w) ?_
  simp only [Nat.reduceAdd, Act.put, Xa, Xz, Xs]
  refine ws_call_at 35 #[.slice p (L.length - 2) c] (.int .u16 ((crc 65535#16 (L.take (L.length - 2))).toNat : Int)) rfl rfl (fun _ => by go_simp) (fun W hE => sum_at (L.take (L.length - 2)) _ _ _ W (ub_take_len rfl (by omega)) ((sl_take (L.length - 2) (sl_old hL)) W hE) (Nat.le_trans (Nat.le_of_eq (ub_take_len rfl (by omega))) (by omega))) ?_
  simp only [Nat.reduceAdd, Act.put, Xa, Xz, Xs]
  refine ws_late (.bool ((((((L[L.length - 2]!).toBitVec).setWidth 16) <<< 8) ||| (((L[L.length - 1]!).toBitVec).setWidth 16)) != (crc 65535#16 (L.take (L.length - 2))))) rfl rfl (fun w => run_bvne (k := .u16) (X := ((((L[L.length - 2]!).toBitVec).setWidth 16) <<< 8) ||| (((L[L.length - 1]!).toBitVec).setWidth 16)) (Y := crc 65535#16 (L.take (L.length - 2))) rfl rfl rfl Try.underlying46 rfl w) ?_
  simp only [Nat.reduceAdd, Act.put, Xa, Xz, Xs]
  refine ws_late (.bool ((((((L[L.length - 2]!).toBitVec).setWidth 16) <<< 8) ||| (((L[L.length - 1]!).toBitVec).setWidth 16)) != (crc 65535#16 (L.take (L.length - 2))))) rfl rfl (fun _ => rfl) ?_
  simp only [Nat.reduceAdd, Act.put, Xa, Xz, Xs]
  refine ws_nil [] trivial (by simp) ?_
  intro ps2
  simp only [fin, List.foldl_nil, List.map, List.nil_append]
  refine we_then ?_
  cases h3 : ((((((L[L.length - 2]!).toBitVec).setWidth 16) <<< 8) ||| (((L[L.length - 1]!).toBitVec).setWidth 16)) != (crc 65535#16 (L.take (L.length - 2))))
  ·
   skip
   have p3 : ¬ ((((((L[L.length - 2]!).toBitVec).setWidth 16) <<< 8) ||| (((L[L.length - 1]!).toBitVec).setWidth 16)) ≠ (crc 65535#16 (L.take (L.length - 2)))) := by simpa using h3
   have hne := h3
   refine wc_false rfl ?_
   refine wc_skip ?_
   refine we_then ?_
   refine wc_seq ?_
   refine wc_region ?_
   refine wl_val (.int .i64 ((L.length : Int) - 2)) rfl (fun _ => rfl) ?_
   simp only [Act.put, Xa, Xz, Xs]
   refine wl_make (e := 5) (L.length - 2) rfl rfl rfl rfl (by omega) (by omega) (by omega) Try.underlying28 (by kernel_rfl) ?_
   intro g4
   simp only [Act.put, Xa, Xz, Xs]
   refine wl_val (.slice (some ⟨g4, 0, none⟩) (L.length - 2) (L.length - 2)) rfl (fun _ => rfl) ?_
   simp only [Act.put, Xa, Xz, Xs]
   refine wl_nil ?_
   refine we_then ?_
   refine wc_seq ?_
   refine wc_region ?_
   refine wl_val (.slice (some ⟨g4, 0, none⟩) (L.length - 2) (L.length - 2)) rfl (fun _ => rfl) ?_
   simp only [Act.put, Xa, Xz, Xs]
   refine wl_val (.slice p L.length c) rfl (fun _ => rfl) ?_
   simp only [Act.put, Xa, Xz, Xs]
   refine wl_copy 0 (L := List.replicate (L.length - 2) 0) (M := L) rfl (sl_old hL) rfl List.length_replicate rfl rfl rfl rfl Try.underlying28 (by kernel_rfl) ?_
   simp only [Act.put, Xa, Xz, Xs]
   refine wl_nil ?_
   refine we_then ?_
   refine wc_seq ?_
   refine wc_region ?_
   refine wl_val (.slice (some ⟨g4, 0, none⟩) (L.length - 2) (L.length - 2)) rfl (fun _ => rfl) ?_
   simp only [Act.put, Xa, Xz, Xs]
   refine wl_val (.slice (some ⟨g4, 0, none⟩) (L.length - 2) (L.length - 2)) rfl (fun _ => rfl) ?_
   simp only [Act.put, Xa, Xz, Xs]
   refine wl_val (.bool true) rfl (fun _ => rfl) ?_
   simp only [Act.put, Xa, Xz, Xs]
   refine wl_nil ?_
   refine we_then ?_
   refine wc_ret ?_
   refine we_ret2 (.slice (some ⟨g4, 0, none⟩) (L.length - 2) (L.length - 2)) (.bool true) rfl rfl rfl rfl (fun w1 hE => ?_)
   rw [show laid (List.replicate (L.length - 2) 0) L = L.take (L.length - 2) from laid_less _ _ (by rw [List.length_replicate]; omega) |>.trans (by rw [List.length_replicate])] at hE
   exact .inl ⟨g4, opens_of L (by omega) hne, rfl, hE⟩
  ·
   skip
   have p3 : (((((L[L.length - 2]!).toBitVec).setWidth 16) <<< 8) ||| (((L[L.length - 1]!).toBitVec).setWidth 16)) ≠ (crc 65535#16 (L.take (L.length - 2))) := by simpa using h3
   have hne := h3
   refine wc_true rfl ?_
   refine wc_seq ?_
   refine wc_region ?_
   refine wl_val (.slice none 0 0) rfl (fun _ => rfl) ?_
   simp only [Act.put, Xa, Xz, Xs]
   refine wl_val (.bool false) rfl (fun _ => rfl) ?_
   simp only [Act.put, Xa, Xz, Xs]
   refine wl_nil ?_
   refine we_then ?_
   refine wc_ret ?_
   refine we_then_ret ?_
   refine we_ret2 (.slice none 0 0) (.bool false) rfl rfl rfl rfl (fun w1 hE => ?_)
   exact .inr ⟨opens_not L hne, rfl, hE.below⟩
 ·
  skip
  have p1 : (L.length : Int) - 2 < 0 := of_decide_eq_true h1
  refine ws_skip_late rfl rfl ?_
  simp only [Nat.reduceAdd, Act.put, Xa, Xz, Xs]
  refine ws_skip_late rfl rfl ?_
  simp only [Nat.reduceAdd, Act.put, Xa, Xz, Xs]
  refine ws_skip rfl rfl ?_
  simp only [Nat.reduceAdd, Act.put, Xa, Xz, Xs]
  refine ws_skip rfl rfl ?_
  simp only [Nat.reduceAdd, Act.put, Xa, Xz, Xs]
  refine ws_skip_late rfl rfl ?_
  simp only [Nat.reduceAdd, Act.put, Xa, Xz, Xs]
  refine ws_skip_late rfl rfl ?_
  simp only [Nat.reduceAdd, Act.put, Xa, Xz, Xs]
  refine ws_skip_late rfl rfl ?_
  simp only [Nat.reduceAdd, Act.put, Xa, Xz, Xs]
  refine ws_skip_late rfl rfl ?_
  simp only [Nat.reduceAdd, Act.put, Xa, Xz, Xs]
  refine ws_skip_late rfl rfl ?_
  simp only [Nat.reduceAdd, Act.put, Xa, Xz, Xs]
  refine ws_skip rfl rfl ?_
  simp only [Nat.reduceAdd, Act.put, Xa, Xz, Xs]
  refine ws_skip rfl rfl ?_
  simp only [Nat.reduceAdd, Act.put, Xa, Xz, Xs]
  refine ws_skip_late rfl rfl ?_
  simp only [Nat.reduceAdd, Act.put, Xa, Xz, Xs]
  refine ws_skip_late rfl rfl ?_
  simp only [Nat.reduceAdd, Act.put, Xa, Xz, Xs]
  refine ws_skip_late rfl rfl ?_
  simp only [Nat.reduceAdd, Act.put, Xa, Xz, Xs]
  refine ws_skip_late rfl rfl ?_
  simp only [Nat.reduceAdd, Act.put, Xa, Xz, Xs]
  refine ws_skip_late rfl rfl ?_
  simp only [Nat.reduceAdd, Act.put, Xa, Xz, Xs]
  refine ws_skip rfl rfl ?_
  simp only [Nat.reduceAdd, Act.put, Xa, Xz, Xs]
  refine ws_skip_late rfl rfl ?_
  simp only [Nat.reduceAdd, Act.put, Xa, Xz, Xs]
  refine ws_late (.bool true) rfl rfl (fun _ => rfl) ?_
  simp only [Nat.reduceAdd, Act.put, Xa, Xz, Xs]
  refine ws_nil [] trivial (by simp) ?_
  intro ps5
  simp only [fin, List.foldl_nil, List.map, List.nil_append]
  refine we_then ?_
  refine wc_true rfl ?_
  refine wc_seq ?_
  refine wc_region ?_
  refine wl_val (.slice none 0 0) rfl (fun _ => rfl) ?_
  simp only [Act.put, Xa, Xz, Xs]
  refine wl_val (.bool false) rfl (fun _ => rfl) ?_
  simp only [Act.put, Xa, Xz, Xs]
  refine wl_nil ?_
  refine we_then ?_
  refine wc_ret ?_
  refine we_then_ret ?_
  refine we_ret2 (.slice none 0 0) (.bool false) rfl rfl rfl rfl (fun w1 hE => ?_)
  exact .inr ⟨opens_short L (by omega), rfl, hE.below⟩
end Go.Proofs.Ytggannjlaehihaa.Crc
