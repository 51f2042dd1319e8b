/-
 The reference of layer 6 (what is left of a division, bit by bit), and the law's anchor. Condition: at most a million bytes.
-/
import Derived.Test.YtggannjlaehihaaCrc
namespace Go.Proofs.Ytggannjlaehihaa.Cref
open Go.ChangeShapes Go.WideShapes Go.ChangeAt Go.RowKit
open Arr Steady Sx Sw Sl Sb Cr Crc
set_option linter.unusedVariables false
set_option linter.unusedSimpArgs false
set_option maxRecDepth 100000

theorem xor_bit (a b i : Nat) : (a ^^^ b) % 2 ^ (i + 1) = (a ^^^ b) % 2 ^ i + 2 ^ i * ((a / 2 ^ i % 2 + b / 2 ^ i % 2) % 2) := by
 rw [Nat.mod_pow_succ]
 congr 2
 have h1 := Nat.testBit_xor a b i
 simp only [Nat.testBit_eq_decide_div_mod_eq] at h1
 have ha := Nat.mod_two_eq_zero_or_one (a / 2 ^ i)
 have hb := Nat.mod_two_eq_zero_or_one (b / 2 ^ i)
 have hc := Nat.mod_two_eq_zero_or_one ((a ^^^ b) / 2 ^ i)
 rcases ha with ha | ha <;> rcases hb with hb | hb <;> rcases hc with hc | hc <;> simp [ha, hb, hc] at h1 ⊢
theorem xor_yes {a b i k m : Nat} (hk : k = 2 ^ i) (hm : m = (a ^^^ b) % k) (h : a / k % 2 ≠ b / k % 2) : m + k = (a ^^^ b) % (2 * k) := by
 subst hk
 rw [show 2 * 2 ^ i = 2 ^ (i + 1) by rw [Nat.pow_succ]; omega, xor_bit, hm]
 have e : (a / 2 ^ i % 2 + b / 2 ^ i % 2) % 2 = 1 := by omega
 rw [e, Nat.mul_one]
theorem xor_no {a b i k m : Nat} (hk : k = 2 ^ i) (hm : m = (a ^^^ b) % k) (h : a / k % 2 = b / k % 2) : m = (a ^^^ b) % (2 * k) := by
 subst hk
 rw [show 2 * 2 ^ i = 2 ^ (i + 1) by rw [Nat.pow_succ]; omega, xor_bit, hm]
 have e : (a / 2 ^ i % 2 + b / 2 ^ i % 2) % 2 = 0 := by omega
 rw [e, Nat.mul_zero, Nat.add_zero]
theorem bit_in (L : List UInt8) (i : Nat) (h : i < 8 * L.length) : ((L[i / 8]!).toBitVec >>> (7 - i % 8)).toNat % 2 = if bitAt L i then 1 else 0 := by
 unfold bitAt
 rw [decide_eq_true h, Bool.true_and]
 have h1 := BitVec.getLsbD_ushiftRight (L[i / 8]!).toBitVec (7 - i % 8) 0
 rw [Nat.add_zero] at h1
 rw [← h1]
 obtain ⟨z, hz⟩ : ∃ z, z = (L[i / 8]!).toBitVec >>> (7 - i % 8) := ⟨_, rfl⟩
 rw [← hz]
 simp only [BitVec.getLsbD, Nat.testBit_zero]
 rcases Nat.mod_two_eq_zero_or_one z.toNat with h2 | h2 <;> simp [h2]
theorem bit_out (L : List UInt8) (i : Nat) (h : ¬ i < 8 * L.length) : 0 = if bitAt L i then 1 else 0 := by
 unfold bitAt
 rw [decide_eq_false h, Bool.false_and]
 rfl
theorem ref_lo {L : List UInt8} {i x : Nat} (hx : x = if bitAt L i then 1 else 0) (h : i < 16) : 1 - x = if refB L i then 1 else 0 := by
 unfold refB
 rw [hx, decide_eq_true h]
 cases bitAt L i <;> rfl
theorem ref_hi {L : List UInt8} {i x : Nat} (hx : x = if bitAt L i then 1 else 0) (h : ¬ i < 16) : x = if refB L i then 1 else 0 := by
 unfold refB
 rw [hx, decide_eq_false h]
 cases bitAt L i <;> rfl
theorem rf_next (L : List UInt8) (i m x : Nat) (hm : m = (rf L i).toNat) (hx : x = if refB L i then 1 else 0) : (rf L (i + 1)).toNat = if 65536 ≤ 2 * m + x then (2 * m + x - 65536) ^^^ 4129 else 2 * m + x := by
 show (rstep (rf L i) (refB L i)).toNat = _
 subst hm
 have hr := (rf L i).isLt
 have key : (rf L i <<< 1 ^^^ (if refB L i then 1#16 else 0#16)).toNat = (2 * (rf L i).toNat) % 65536 + x := by
  have e : rf L i <<< 1 &&& (if refB L i then 1#16 else 0#16) = 0#16 := by
   apply BitVec.eq_of_getLsbD_eq
   intro j hj
   simp only [BitVec.getLsbD_and, BitVec.getLsbD_shiftLeft]
   cases refB L i
   ·
    simp
   ·
    by_cases h0 : j < 1
    ·
     simp [h0]
    ·
     have : j ≠ 0 := by omega
     simp [BitVec.getLsbD_one, this]
  have e2 : rf L i <<< 1 ^^^ (if refB L i then 1#16 else 0#16) = rf L i <<< 1 + (if refB L i then 1#16 else 0#16) := by
   rw [BitVec.add_eq_or_of_and_eq_zero _ _ e]
   apply BitVec.eq_of_getLsbD_eq
   intro j hj
   have hj2 := congrArg (·.getLsbD j) e
   simp only [BitVec.getLsbD_and, BitVec.getLsbD_zero] at hj2
   simp only [BitVec.getLsbD_xor, BitVec.getLsbD_or]
   revert hj2
   cases (rf L i <<< 1).getLsbD j <;> cases (if refB L i then 1#16 else 0#16).getLsbD j <;> simp
  rw [e2, BitVec.toNat_add, BitVec.toNat_shiftLeft, Nat.shiftLeft_eq, hx]
  cases refB L i <;> simp <;> omega
 unfold rstep
 rw [stp_eq, BitVec.msb_eq_decide]
 have e3 : rf L i <<< 1 ^^^ (if decide (2 ^ (16 - 1) ≤ (rf L i).toNat) = true then 4129#16 else 0#16) ^^^ (if refB L i then 1#16 else 0#16) = rf L i <<< 1 ^^^ (if refB L i then 1#16 else 0#16) ^^^ (if decide (2 ^ (16 - 1) ≤ (rf L i).toNat) = true then 4129#16 else 0#16) := by ac_rfl
 rw [e3, BitVec.toNat_xor, key]
 have hx1 : x ≤ 1 := by rw [hx]; cases refB L i <;> simp
 by_cases h : 2 ^ 15 ≤ (rf L i).toNat
 ·
  rw [if_pos (by simpa using h), if_pos (by omega)]
  have : 2 * (rf L i).toNat % 65536 + x = 2 * (rf L i).toNat + x - 65536 := by omega
  rw [this]
  rfl
 ·
  rw [if_neg (by simpa using h), if_neg (by omega)]
  have : 2 * (rf L i).toNat % 65536 + x = 2 * (rf L i).toNat + x := by omega
  rw [this]
  exact Nat.xor_zero _
set_option maxHeartbeats 2000000 in
theorem xor_any (a b : Nat) (w : World) (ha : a < 65536) (hb : b < 65536) :
  Calls Try.prog 43 #[.int .i64 (a : Int), .int .i64 (b : Int)] w fun e w' => e = .returned (.int .i64 ((a ^^^ b : Nat) : Int)) ∧ Below w.heap.size w w' := by
 refine calls_sx Try.func43 rfl ?_
 simp only [Try.ntmps43, List.size_toArray, List.length_cons, List.length_nil, Nat.reduceAdd, Nat.reduceSub, Array.replicate_succ, Array.replicate_zero, List.push_toArray, List.append_toArray, List.nil_append, List.cons_append]
 refine wc_seq ?_
 refine wc_region ?_
 refine wl_val (.int .i64 0) rfl (fun _ => rfl) ?_
 simp only [Act.put, Xa, Xz, Xs]
 refine wl_nil ?_
 refine we_then ?_
 refine wc_seq ?_
 refine wc_region ?_
 refine wl_val (.int .i64 0) rfl (fun _ => rfl) ?_
 simp only [Act.put, Xa, Xz, Xs]
 refine wl_nil ?_
 refine we_then ?_
 refine wc_seq ?_
 refine wc_region ?_
 refine wl_val (.int .i64 1) rfl (fun _ => rfl) ?_
 simp only [Act.put, Xa, Xz, Xs]
 refine wl_nil ?_
 refine we_then ?_
 refine wc_seq ?_
 refine wc_seq ?_
 refine wc_region ?_
 refine wl_val (.int .i64 0) rfl (fun _ => rfl) ?_
 simp only [Act.put, Xa, Xz, Xs]
 refine wl_nil ?_
 refine we_then ?_
 refine wc_block ?_
 refine wc_loop (fun (zz : Nat × Nat × Nat × Value × Value × Value × Value × Value × Value × Value × Value × Value × Value × Value × Value × Value × Value × Value × Value × Value × Value) => match zz with | ⟨i, k, m, u8, u9, u10, u11, u12, u13, u14, u15, u16, u17, u18, u19, u20, u21, u22, u23, u24, u25⟩ => ({ tmps := #[.int .i64 (a : Int), .int .i64 (b : Int), undef, undef, .int .i64 0, .int .i64 (m : Int), .int .i64 (k : Int), .int .i64 (i : Int), u8, u9, u10, u11, u12, u13, u14, u15, u16, u17, u18, u19, u20, u21, u22, u23, u24, u25, undef], defers := [] } : Act)) (fun (zz : Nat × Nat × Nat × Value × Value × Value × Value × Value × Value × Value × Value × Value × Value × Value × Value × Value × Value × Value × Value × Value × Value) => match zz with | ⟨i, k, m, u8, u9, u10, u11, u12, u13, u14, u15, u16, u17, u18, u19, u20, u21, u22, u23, u24, u25⟩ => []) (fun (zz : Nat × Nat × Nat × Value × Value × Value × Value × Value × Value × Value × Value × Value × Value × Value × Value × Value × Value × Value × Value × Value × Value) => match zz with | ⟨i, k, m, u8, u9, u10, u11, u12, u13, u14, u15, u16, u17, u18, u19, u20, u21, u22, u23, u24, u25⟩ => i ≤ 16 ∧ k = 2 ^ i ∧ m = (a ^^^ b) % k) (fun (zz : Nat × Nat × Nat × Value × Value × Value × Value × Value × Value × Value × Value × Value × Value × Value × Value × Value × Value × Value × Value × Value × Value) => match zz with | ⟨i, k, m, u8, u9, u10, u11, u12, u13, u14, u15, u16, u17, u18, u19, u20, u21, u22, u23, u24, u25⟩ => 16 - i) ⟨0, 1, 0, _, _, _, _, _, _, _, _, _, _, _, _, _, _, _, _, _, _⟩ (by (try dsimp only); exact ⟨by omega, rfl, (Nat.mod_one _).symm⟩) rfl List.Sublist.slnil ?_
 rintro ⟨i, k, m, u8, u9, u10, u11, u12, u13, u14, u15, u16, u17, u18, u19, u20, u21, u22, u23, u24, u25⟩ hφ
 (try dsimp only at hφ ⊢)
 obtain ⟨b1, b2, b3⟩ := hφ
 have k0 : 0 < k := by rw [b2]; exact Nat.pow_pos (by decide)
 have k1 : k ≤ 65536 := by rw [b2]; exact Nat.pow_le_pow_right (n := 2) (by decide) b1
 have m1 : m < k := by rw [b3]; exact Nat.mod_lt _ k0
 have d1 := Nat.div_le_self a k
 have d2 := Nat.div_le_self b k
 refine wc_seq ?_
 refine wc_seq ?_
 refine wc_region ?_
 refine wl_val (.int .i64 (i : Int)) rfl (fun _ => rfl) ?_
 simp only [Act.put, Xa, Xz, Xs]
 refine wl_val (.bool (decide ((i : Int) < 16))) rfl (fun w => run_cmp rfl rfl rfl Try.underlying3 rfl w) ?_
 simp only [Act.put, Xa, Xz, Xs]
 refine wl_nil ?_
 refine we_then ?_
 cases h1 : (decide ((i : Int) < 16))
 ·
  skip
  have p1 : ¬ ((i : Int) < 16) := of_decide_eq_false h1
  refine wc_false rfl ?_
  refine wc_exit ?_
  refine we_then_exit ?_
  refine we_then_exit ?_
  refine we_in_here ?_
  refine we_then ?_
  refine wc_seq ?_
  refine wc_region ?_
  refine wl_val (.int .i64 (m : Int)) rfl (fun _ => rfl) ?_
  simp only [Act.put, Xa, Xz, Xs]
  refine wl_val (.int .i64 (m : Int)) rfl (fun _ => rfl) ?_
  simp only [Act.put, Xa, Xz, Xs]
  refine wl_nil ?_
  refine we_then ?_
  refine wc_ret ?_
  refine we_ret1 (.int .i64 (m : Int)) rfl rfl rfl (fun w1 hE => ?_)
  have e1 : i = 16 := by omega
  subst e1
  have e2 : m = a ^^^ b := by rw [b3, b2]; exact Nat.mod_eq_of_lt (Nat.xor_lt_two_pow (n := 16) ha hb)
  exact ⟨by rw [e2], hE.below⟩
 ·
  skip
  have p1 : (i : Int) < 16 := of_decide_eq_true h1
  refine wc_true rfl ?_
  refine wc_skip ?_
  refine we_then ?_
  refine wc_seq ?_
  refine wc_block ?_
  refine wc_seq ?_
  refine wc_seq ?_
  refine wc_draw [.late, .late, .late, .late, .late, .late, .late, .late, .late] none [] 27 (by kernel_rfl) rfl (by kernel_rfl) (by kernel_rfl) ?_
  refine ws_late (.int .i64 (a : Int)) rfl rfl (fun _ => rfl) ?_
  simp only [Nat.reduceAdd, Act.put, Xa, Xz, Xs]
  refine ws_late (.int .i64 (k : Int)) rfl rfl (fun _ => rfl) ?_
  simp only [Nat.reduceAdd, Act.put, Xa, Xz, Xs]
  refine ws_late (.int .i64 ((a / k : Nat) : Int)) rfl rfl (fun w => run_nat (X := a) (Y := k) (Z := a / k) rfl rfl rfl (natOf_quo (by omega)) (by omega) w) ?_
  simp only [Nat.reduceAdd, Act.put, Xa, Xz, Xs]
  refine ws_late (.int .i64 (((a / k) % 2 : Nat) : Int)) rfl rfl (fun w => run_nat (X := a / k) (Y := 2) (Z := (a / k) % 2) rfl rfl rfl rfl (by omega) w) ?_
  simp only [Nat.reduceAdd, Act.put, Xa, Xz, Xs]
  refine ws_late (.int .i64 (b : Int)) rfl rfl (fun _ => rfl) ?_
  simp only [Nat.reduceAdd, Act.put, Xa, Xz, Xs]
  refine ws_late (.int .i64 (k : Int)) rfl rfl (fun _ => rfl) ?_
  simp only [Nat.reduceAdd, Act.put, Xa, Xz, Xs]
  refine ws_late (.int .i64 ((b / k : Nat) : Int)) rfl rfl (fun w => run_nat (X := b) (Y := k) (Z := b / k) rfl rfl rfl (natOf_quo (by omega)) (by omega) w) ?_
  simp only [Nat.reduceAdd, Act.put, Xa, Xz, Xs]
  refine ws_late (.int .i64 (((b / k) % 2 : Nat) : Int)) rfl rfl (fun w => run_nat (X := b / k) (Y := 2) (Z := (b / k) % 2) rfl rfl rfl rfl (by omega) w) ?_
  simp only [Nat.reduceAdd, Act.put, Xa, Xz, Xs]
  refine ws_late (.bool ((((a / k) % 2 : Nat) : Int) != (((b / k) % 2 : Nat) : Int))) rfl rfl (fun w => run_cmp rfl rfl rfl Try.underlying3 rfl w) ?_
  simp only [Nat.reduceAdd, Act.put, Xa, Xz, Xs]
  refine ws_nil [] trivial (by simp) ?_
  intro ps2
  simp only [fin, List.foldl_nil, List.map, List.nil_append]
  refine we_then ?_
  cases h3 : ((((a / k) % 2 : Nat) : Int) != (((b / k) % 2 : Nat) : Int))
  ·
   skip
   have p3 : ¬ ((((a / k) % 2 : Nat) : Int) ≠ (((b / k) % 2 : Nat) : Int)) := by simpa using h3
   refine wc_false rfl ?_
   refine wc_skip ?_
   refine we_then ?_
   refine wc_region ?_
   refine wl_val (.int .i64 (k : Int)) rfl (fun _ => rfl) ?_
   simp only [Act.put, Xa, Xz, Xs]
   refine wl_val (.int .i64 ((2 * k : Nat) : Int)) rfl (fun w => run_nat (X := 2) (Y := k) (Z := 2 * k) rfl rfl rfl rfl (by omega) w) ?_
   simp only [Act.put, Xa, Xz, Xs]
   refine wl_val (.int .i64 ((2 * k : Nat) : Int)) rfl (fun _ => rfl) ?_
   simp only [Act.put, Xa, Xz, Xs]
   refine wl_nil ?_
   refine we_in ?_
   refine we_then ?_
   refine wc_region ?_
   refine wl_val (.int .i64 (i : Int)) rfl (fun _ => rfl) ?_
   simp only [Act.put, Xa, Xz, Xs]
   refine wl_val (.int .i64 ((i + 1 : Nat) : Int)) rfl (fun w => run_nat (X := i) (Y := 1) (Z := i + 1) rfl rfl rfl rfl (by omega) w) ?_
   simp only [Act.put, Xa, Xz, Xs]
   refine wl_val (.int .i64 ((i + 1 : Nat) : Int)) rfl (fun _ => rfl) ?_
   simp only [Act.put, Xa, Xz, Xs]
   refine wl_nil ?_
   exact we_meet ⟨(i + 1), (2 * k), m, _, _, _, _, _, _, _, _, _, _, _, _, _, _, _, _, _, _⟩ (by (try dsimp only); exact ⟨⟨by omega, by rw [b2, Nat.pow_succ]; omega, xor_no b2 b3 (by omega)⟩, by omega⟩) rfl List.Sublist.slnil
  ·
   skip
   have p3 : (((a / k) % 2 : Nat) : Int) ≠ (((b / k) % 2 : Nat) : Int) := by simpa using h3
   refine wc_true rfl ?_
   refine wc_region ?_
   refine wl_val (.int .i64 (m : Int)) rfl (fun _ => rfl) ?_
   simp only [Act.put, Xa, Xz, Xs]
   refine wl_val (.int .i64 (k : Int)) rfl (fun _ => rfl) ?_
   simp only [Act.put, Xa, Xz, Xs]
   refine wl_val (.int .i64 ((m + k : Nat) : Int)) rfl (fun w => run_nat (X := m) (Y := k) (Z := m + k) rfl rfl rfl rfl (by omega) w) ?_
   simp only [Act.put, Xa, Xz, Xs]
   refine wl_val (.int .i64 ((m + k : Nat) : Int)) rfl (fun _ => rfl) ?_
   simp only [Act.put, Xa, Xz, Xs]
   refine wl_nil ?_
   refine we_then ?_
   refine wc_region ?_
   refine wl_val (.int .i64 (k : Int)) rfl (fun _ => rfl) ?_
   simp only [Act.put, Xa, Xz, Xs]
   refine wl_val (.int .i64 ((2 * k : Nat) : Int)) rfl (fun w => run_nat (X := 2) (Y := k) (Z := 2 * k) rfl rfl rfl rfl (by omega) w) ?_
   simp only [Act.put, Xa, Xz, Xs]
   refine wl_val (.int .i64 ((2 * k : Nat) : Int)) rfl (fun _ => rfl) ?_
   simp only [Act.put, Xa, Xz, Xs]
   refine wl_nil ?_
   refine we_in ?_
   refine we_then ?_
   refine wc_region ?_
   refine wl_val (.int .i64 (i : Int)) rfl (fun _ => rfl) ?_
   simp only [Act.put, Xa, Xz, Xs]
   refine wl_val (.int .i64 ((i + 1 : Nat) : Int)) rfl (fun w => run_nat (X := i) (Y := 1) (Z := i + 1) rfl rfl rfl rfl (by omega) w) ?_
   simp only [Act.put, Xa, Xz, Xs]
   refine wl_val (.int .i64 ((i + 1 : Nat) : Int)) rfl (fun _ => rfl) ?_
   simp only [Act.put, Xa, Xz, Xs]
   refine wl_nil ?_
   exact we_meet ⟨(i + 1), (2 * k), (m + k), _, _, _, _, _, _, _, _, _, _, _, _, _, _, _, _, _, _⟩ (by (try dsimp only); exact ⟨⟨by omega, by rw [b2, Nat.pow_succ]; omega, xor_yes b2 b3 (by omega)⟩, by omega⟩) rfl List.Sublist.slnil
set_option maxHeartbeats 2000000 in
theorem ref_any (L : List UInt8) (p : Option Addr) (c : Nat) (w : World) (hL : Reads w p (flat ub L)) (hn : L.length ≤ 1000000) :
  Calls Try.prog 29 #[.slice p L.length c] w fun e w' => e = .returned (.int .i64 ((crc 65535#16 L).toNat : Int)) ∧ Below w.heap.size w w' := by
 refine calls_sx Try.func29 rfl ?_
 simp only [Try.ntmps29, List.size_toArray, List.length_cons, List.length_nil, Nat.reduceAdd, Nat.reduceSub, Array.replicate_succ, Array.replicate_zero, List.push_toArray, List.append_toArray, List.nil_append, List.cons_append]
 refine wc_seq ?_
 refine wc_region ?_
 refine wl_val (.int .i64 0) rfl (fun _ => rfl) ?_
 simp only [Act.put, Xa, Xz, Xs]
 refine wl_nil ?_
 refine we_then ?_
 refine wc_seq ?_
 refine wc_region ?_
 refine wl_val (.slice p L.length c) rfl (fun _ => rfl) ?_
 simp only [Act.put, Xa, Xz, Xs]
 refine wl_val (.int .i64 (L.length : Int)) rfl (fun w => er_len rfl rfl Try.underlying28 w) ?_
 simp only [Act.put, Xa, Xz, Xs]
 refine wl_val (.int .i64 ((8 * L.length : Nat) : Int)) rfl (fun w => run_nat (X := 8) (Y := L.length) (Z := 8 * L.length) rfl rfl rfl rfl (by omega) w) ?_
 simp only [Act.put, Xa, Xz, Xs]
 refine wl_val (.int .i64 (((8 * L.length) + 16 : Nat) : Int)) rfl (fun w => run_nat (X := 8 * L.length) (Y := 16) (Z := (8 * L.length) + 16) rfl rfl rfl rfl (by omega) w) ?_
 simp only [Act.put, Xa, Xz, Xs]
 refine wl_val (.int .i64 (((8 * L.length) + 16 : Nat) : Int)) rfl (fun _ => rfl) ?_
 simp only [Act.put, Xa, Xz, Xs]
 refine wl_nil ?_
 refine we_then ?_
 refine wc_seq ?_
 refine wc_region ?_
 refine wl_val (.int .i64 0) rfl (fun _ => rfl) ?_
 simp only [Act.put, Xa, Xz, Xs]
 refine wl_nil ?_
 refine we_then ?_
 refine wc_seq ?_
 refine wc_seq ?_
 refine wc_region ?_
 refine wl_val (.int .i64 0) rfl (fun _ => rfl) ?_
 simp only [Act.put, Xa, Xz, Xs]
 refine wl_nil ?_
 refine we_then ?_
 refine wc_block ?_
 refine wc_loop (fun (zz : Nat × Nat × Value × Value × Value × Value × Value × Value × Value × Value × Value × Value × Value × Value × Value × Value × Value × Value × Value × Value × Value × Value × Value × Value × Value × Value × Value × Value × Value × Value × Value × Value × Value × Value × Value × Value × Value × Value × Value) => match zz with | ⟨i, m, u6, u11, u12, u13, u14, u15, u16, u17, u18, u19, u20, u21, u22, u23, u24, u25, u26, u27, u28, u29, u30, u31, u32, u33, u34, u35, u36, u37, u38, u39, u40, u41, u42, u43, u44, u45, u46⟩ => ({ tmps := #[.slice p L.length c, undef, .int .i64 0, .int .i64 (((8 * L.length) + 16 : Nat) : Int), .int .i64 (m : Int), .int .i64 (i : Int), u6, .slice p L.length c, .int .i64 (L.length : Int), .int .i64 ((8 * L.length : Nat) : Int), .int .i64 (((8 * L.length) + 16 : Nat) : Int), u11, u12, u13, u14, u15, u16, u17, u18, u19, u20, u21, u22, u23, u24, u25, u26, u27, u28, u29, u30, u31, u32, u33, u34, u35, u36, u37, u38, u39, u40, u41, u42, u43, u44, u45, u46, undef], defers := [] } : Act)) (fun (zz : Nat × Nat × Value × Value × Value × Value × Value × Value × Value × Value × Value × Value × Value × Value × Value × Value × Value × Value × Value × Value × Value × Value × Value × Value × Value × Value × Value × Value × Value × Value × Value × Value × Value × Value × Value × Value × Value × Value × Value) => match zz with | ⟨i, m, u6, u11, u12, u13, u14, u15, u16, u17, u18, u19, u20, u21, u22, u23, u24, u25, u26, u27, u28, u29, u30, u31, u32, u33, u34, u35, u36, u37, u38, u39, u40, u41, u42, u43, u44, u45, u46⟩ => []) (fun (zz : Nat × Nat × Value × Value × Value × Value × Value × Value × Value × Value × Value × Value × Value × Value × Value × Value × Value × Value × Value × Value × Value × Value × Value × Value × Value × Value × Value × Value × Value × Value × Value × Value × Value × Value × Value × Value × Value × Value × Value) => match zz with | ⟨i, m, u6, u11, u12, u13, u14, u15, u16, u17, u18, u19, u20, u21, u22, u23, u24, u25, u26, u27, u28, u29, u30, u31, u32, u33, u34, u35, u36, u37, u38, u39, u40, u41, u42, u43, u44, u45, u46⟩ => i ≤ 8 * L.length + 16 ∧ m = (rf L i).toNat) (fun (zz : Nat × Nat × Value × Value × Value × Value × Value × Value × Value × Value × Value × Value × Value × Value × Value × Value × Value × Value × Value × Value × Value × Value × Value × Value × Value × Value × Value × Value × Value × Value × Value × Value × Value × Value × Value × Value × Value × Value × Value) => match zz with | ⟨i, m, u6, u11, u12, u13, u14, u15, u16, u17, u18, u19, u20, u21, u22, u23, u24, u25, u26, u27, u28, u29, u30, u31, u32, u33, u34, u35, u36, u37, u38, u39, u40, u41, u42, u43, u44, u45, u46⟩ => 8 * L.length + 16 - i) ⟨0, 0, _, _, _, _, _, _, _, _, _, _, _, _, _, _, _, _, _, _, _, _, _, _, _, _, _, _, _, _, _, _, _, _, _, _, _, _, _⟩ (by (try dsimp only); exact ⟨by omega, rfl⟩) rfl List.Sublist.slnil ?_
 rintro ⟨i, m, u6, u11, u12, u13, u14, u15, u16, u17, u18, u19, u20, u21, u22, u23, u24, u25, u26, u27, u28, u29, u30, u31, u32, u33, u34, u35, u36, u37, u38, u39, u40, u41, u42, u43, u44, u45, u46⟩ hφ
 (try dsimp only at hφ ⊢)
 obtain ⟨b1, b2⟩ := hφ
 have m1 : m < 65536 := by rw [b2]; exact (rf L i).isLt
 refine wc_seq ?_
 refine wc_seq ?_
 refine wc_region ?_
 refine wl_val (.int .i64 (i : Int)) rfl (fun _ => rfl) ?_
 simp only [Act.put, Xa, Xz, Xs]
 refine wl_val (.int .i64 (((8 * L.length) + 16 : Nat) : Int)) rfl (fun _ => rfl) ?_
 simp only [Act.put, Xa, Xz, Xs]
 refine wl_val (.bool (decide ((i : Int) < (((8 * L.length) + 16 : Nat) : Int)))) rfl (fun w => run_cmp rfl rfl rfl Try.underlying3 rfl w) ?_
 simp only [Act.put, Xa, Xz, Xs]
 refine wl_nil ?_
 refine we_then ?_
 cases h1 : (decide ((i : Int) < (((8 * L.length) + 16 : Nat) : Int)))
 ·
  skip
  have p1 : ¬ ((i : Int) < (((8 * L.length) + 16 : Nat) : Int)) := of_decide_eq_false h1
  refine wc_false rfl ?_
  refine wc_exit ?_
  refine we_then_exit ?_
  refine we_then_exit ?_
  refine we_in_here ?_
  refine we_then ?_
  refine wc_seq ?_
  refine wc_region ?_
  refine wl_val (.int .i64 (m : Int)) rfl (fun _ => rfl) ?_
  simp only [Act.put, Xa, Xz, Xs]
  refine wl_val (.int .i64 (m : Int)) rfl (fun _ => rfl) ?_
  simp only [Act.put, Xa, Xz, Xs]
  refine wl_nil ?_
  refine we_then ?_
  refine wc_ret ?_
  refine we_ret1 (.int .i64 (m : Int)) rfl rfl rfl (fun w1 hE => ?_)
  have e1 : i = 8 * L.length + 16 := by omega
  rw [e1, rf_crc] at b2
  exact ⟨by rw [b2], hE.below⟩
 ·
  skip
  have p1 : (i : Int) < (((8 * L.length) + 16 : Nat) : Int) := of_decide_eq_true h1
  refine wc_true rfl ?_
  refine wc_skip ?_
  refine we_then ?_
  refine wc_seq ?_
  refine wc_block ?_
  refine wc_seq ?_
  refine wc_region ?_
  refine wl_val (.int .i64 0) rfl (fun _ => rfl) ?_
  simp only [Act.put, Xa, Xz, Xs]
  refine wl_nil ?_
  refine we_then ?_
  refine wc_seq ?_
  refine wc_seq ?_
  refine wc_region ?_
  refine wl_val (.int .i64 (i : Int)) rfl (fun _ => rfl) ?_
  simp only [Act.put, Xa, Xz, Xs]
  refine wl_val (.slice p L.length c) rfl (fun _ => rfl) ?_
  simp only [Act.put, Xa, Xz, Xs]
  refine wl_val (.int .i64 (L.length : Int)) rfl (fun w => er_len rfl rfl Try.underlying28 w) ?_
  simp only [Act.put, Xa, Xz, Xs]
  refine wl_val (.int .i64 ((8 * L.length : Nat) : Int)) rfl (fun w => run_nat (X := 8) (Y := L.length) (Z := 8 * L.length) rfl rfl rfl rfl (by omega) w) ?_
  simp only [Act.put, Xa, Xz, Xs]
  refine wl_val (.bool (decide ((i : Int) < ((8 * L.length : Nat) : Int)))) rfl (fun w => run_cmp rfl rfl rfl Try.underlying3 rfl w) ?_
  simp only [Act.put, Xa, Xz, Xs]
  refine wl_nil ?_
  refine we_then ?_
  cases h2 : (decide ((i : Int) < ((8 * L.length : Nat) : Int)))
  ·
   skip
   have p2 : ¬ ((i : Int) < ((8 * L.length : Nat) : Int)) := of_decide_eq_false h2
   refine wc_false rfl ?_
   refine wc_skip ?_
   refine we_then ?_
   refine wc_seq ?_
   refine wc_seq ?_
   refine wc_region ?_
   refine wl_val (.int .i64 (i : Int)) rfl (fun _ => rfl) ?_
   simp only [Act.put, Xa, Xz, Xs]
   refine wl_val (.bool (decide ((i : Int) < 16))) rfl (fun w => run_cmp rfl rfl rfl Try.underlying3 rfl w) ?_
   simp only [Act.put, Xa, Xz, Xs]
   refine wl_nil ?_
   refine we_then ?_
   cases h3 : (decide ((i : Int) < 16))
   ·
    skip
    have p3 : ¬ ((i : Int) < 16) := of_decide_eq_false h3
    refine wc_false rfl ?_
    refine wc_skip ?_
    refine we_then ?_
    refine wc_seq ?_
    refine wc_region ?_
    refine wl_val (.int .i64 (m : Int)) rfl (fun _ => rfl) ?_
    simp only [Act.put, Xa, Xz, Xs]
    refine wl_val (.int .i64 ((2 * m : Nat) : Int)) rfl (fun w => run_nat (X := 2) (Y := m) (Z := 2 * m) rfl rfl rfl rfl (by omega) w) ?_
    simp only [Act.put, Xa, Xz, Xs]
    refine wl_val (.int .i64 0) rfl (fun _ => rfl) ?_
    simp only [Act.put, Xa, Xz, Xs]
    refine wl_val (.int .i64 (((2 * m) + 0 : Nat) : Int)) rfl (fun w => run_nat (X := 2 * m) (Y := 0) (Z := (2 * m) + 0) rfl rfl rfl rfl (by omega) w) ?_
    simp only [Act.put, Xa, Xz, Xs]
    refine wl_val (.int .i64 (((2 * m) + 0 : Nat) : Int)) rfl (fun _ => rfl) ?_
    simp only [Act.put, Xa, Xz, Xs]
    refine wl_nil ?_
    refine we_then ?_
    refine wc_seq ?_
    refine wc_region ?_
    refine wl_val (.int .i64 (((2 * m) + 0 : Nat) : Int)) rfl (fun _ => rfl) ?_
    simp only [Act.put, Xa, Xz, Xs]
    refine wl_val (.bool (decide (65536 ≤ (((2 * m) + 0 : Nat) : Int)))) rfl (fun w => run_cmp rfl rfl rfl Try.underlying3 rfl w) ?_
    simp only [Act.put, Xa, Xz, Xs]
    refine wl_nil ?_
    refine we_then ?_
    cases h4 : (decide (65536 ≤ (((2 * m) + 0 : Nat) : Int)))
    ·
     skip
     have p4 : ¬ (65536 ≤ (((2 * m) + 0 : Nat) : Int)) := of_decide_eq_false h4
     refine wc_false rfl ?_
     refine wc_skip ?_
     refine we_in ?_
     refine we_then ?_
     refine wc_region ?_
     refine wl_val (.int .i64 (i : Int)) rfl (fun _ => rfl) ?_
     simp only [Act.put, Xa, Xz, Xs]
     refine wl_val (.int .i64 ((i + 1 : Nat) : Int)) rfl (fun w => run_nat (X := i) (Y := 1) (Z := i + 1) rfl rfl rfl rfl (by omega) w) ?_
     simp only [Act.put, Xa, Xz, Xs]
     refine wl_val (.int .i64 ((i + 1 : Nat) : Int)) rfl (fun _ => rfl) ?_
     simp only [Act.put, Xa, Xz, Xs]
     refine wl_nil ?_
     exact we_meet ⟨(i + 1), ((2 * m) + 0), _, _, _, _, _, _, _, _, _, _, _, _, _, _, _, _, _, _, _, _, _, _, _, _, _, _, _, _, _, _, _, _, _, _, _, _, _⟩ (by (try dsimp only); exact ⟨⟨by omega, by rw [rf_next L i m _ b2 (ref_hi (bit_out L i (by omega)) (by omega)), if_neg (by omega)]⟩, by omega⟩) rfl List.Sublist.slnil
    ·
     skip
     have p4 : 65536 ≤ (((2 * m) + 0 : Nat) : Int) := of_decide_eq_true h4
     refine wc_true rfl ?_
     refine wc_seq ?_
     refine wc_region ?_
     refine wl_val (.int .i64 (((2 * m) + 0 : Nat) : Int)) rfl (fun _ => rfl) ?_
     simp only [Act.put, Xa, Xz, Xs]
     refine wl_val (.int .i64 ((((2 * m) + 0) - 65536 : Nat) : Int)) rfl (fun w => run_nat (X := (2 * m) + 0) (Y := 65536) (Z := ((2 * m) + 0) - 65536) rfl rfl rfl (natOf_sub (by omega)) (by omega) w) ?_
     simp only [Act.put, Xa, Xz, Xs]
     refine wl_val (.int .i64 ((((2 * m) + 0) - 65536 : Nat) : Int)) rfl (fun _ => rfl) ?_
     simp only [Act.put, Xa, Xz, Xs]
     refine wl_nil ?_
     refine we_then ?_
     refine wc_region ?_
     refine wl_val (.int .i64 ((((2 * m) + 0) - 65536 : Nat) : Int)) rfl (fun _ => rfl) ?_
     simp only [Act.put, Xa, Xz, Xs]
     refine wl_call 43 #[.int .i64 ((((2 * m) + 0) - 65536 : Nat) : Int), .int .i64 4129] (.int .i64 (((((2 * m) + 0) - 65536) ^^^ 4129 : Nat) : Int)) rfl (fun _ => by go_simp) (fun W => xor_any (((2 * m) + 0) - 65536) 4129 W (by omega) (by omega)) ?_
     simp only [Act.put, Xa, Xz, Xs]
     refine wl_val (.int .i64 (((((2 * m) + 0) - 65536) ^^^ 4129 : Nat) : Int)) rfl (fun _ => rfl) ?_
     simp only [Act.put, Xa, Xz, Xs]
     refine wl_nil ?_
     refine we_in ?_
     refine we_then ?_
     refine wc_region ?_
     refine wl_val (.int .i64 (i : Int)) rfl (fun _ => rfl) ?_
     simp only [Act.put, Xa, Xz, Xs]
     refine wl_val (.int .i64 ((i + 1 : Nat) : Int)) rfl (fun w => run_nat (X := i) (Y := 1) (Z := i + 1) rfl rfl rfl rfl (by omega) w) ?_
     simp only [Act.put, Xa, Xz, Xs]
     refine wl_val (.int .i64 ((i + 1 : Nat) : Int)) rfl (fun _ => rfl) ?_
     simp only [Act.put, Xa, Xz, Xs]
     refine wl_nil ?_
     exact we_meet ⟨(i + 1), ((((2 * m) + 0) - 65536) ^^^ 4129), _, _, _, _, _, _, _, _, _, _, _, _, _, _, _, _, _, _, _, _, _, _, _, _, _, _, _, _, _, _, _, _, _, _, _, _, _⟩ (by (try dsimp only); exact ⟨⟨by omega, by rw [rf_next L i m _ b2 (ref_hi (bit_out L i (by omega)) (by omega)), if_pos (by omega)]⟩, by omega⟩) rfl List.Sublist.slnil
   ·
    skip
    have p3 : (i : Int) < 16 := of_decide_eq_true h3
    refine wc_true rfl ?_
    refine wc_region ?_
    refine wl_val (.int .i64 0) rfl (fun _ => rfl) ?_
    simp only [Act.put, Xa, Xz, Xs]
    refine wl_val (.int .i64 ((1 - 0 : Nat) : Int)) rfl (fun w => run_nat (X := 1) (Y := 0) (Z := 1 - 0) rfl rfl rfl (natOf_sub (by omega)) (by omega) w) ?_
    simp only [Act.put, Xa, Xz, Xs]
    refine wl_val (.int .i64 ((1 - 0 : Nat) : Int)) rfl (fun _ => rfl) ?_
    simp only [Act.put, Xa, Xz, Xs]
    refine wl_nil ?_
    refine we_then ?_
    refine wc_seq ?_
    refine wc_region ?_
    refine wl_val (.int .i64 (m : Int)) rfl (fun _ => rfl) ?_
    simp only [Act.put, Xa, Xz, Xs]
    refine wl_val (.int .i64 ((2 * m : Nat) : Int)) rfl (fun w => run_nat (X := 2) (Y := m) (Z := 2 * m) rfl rfl rfl rfl (by omega) w) ?_
    simp only [Act.put, Xa, Xz, Xs]
    refine wl_val (.int .i64 ((1 - 0 : Nat) : Int)) rfl (fun _ => rfl) ?_
    simp only [Act.put, Xa, Xz, Xs]
    refine wl_val (.int .i64 (((2 * m) + (1 - 0) : Nat) : Int)) rfl (fun w => run_nat (X := 2 * m) (Y := 1 - 0) (Z := (2 * m) + (1 - 0)) rfl rfl rfl rfl (by omega) w) ?_
    simp only [Act.put, Xa, Xz, Xs]
    refine wl_val (.int .i64 (((2 * m) + (1 - 0) : Nat) : Int)) rfl (fun _ => rfl) ?_
    simp only [Act.put, Xa, Xz, Xs]
    refine wl_nil ?_
    refine we_then ?_
    refine wc_seq ?_
    refine wc_region ?_
    refine wl_val (.int .i64 (((2 * m) + (1 - 0) : Nat) : Int)) rfl (fun _ => rfl) ?_
    simp only [Act.put, Xa, Xz, Xs]
    refine wl_val (.bool (decide (65536 ≤ (((2 * m) + (1 - 0) : Nat) : Int)))) rfl (fun w => run_cmp rfl rfl rfl Try.underlying3 rfl w) ?_
    simp only [Act.put, Xa, Xz, Xs]
    refine wl_nil ?_
    refine we_then ?_
    cases h5 : (decide (65536 ≤ (((2 * m) + (1 - 0) : Nat) : Int)))
    ·
     skip
     have p5 : ¬ (65536 ≤ (((2 * m) + (1 - 0) : Nat) : Int)) := of_decide_eq_false h5
     refine wc_false rfl ?_
     refine wc_skip ?_
     refine we_in ?_
     refine we_then ?_
     refine wc_region ?_
     refine wl_val (.int .i64 (i : Int)) rfl (fun _ => rfl) ?_
     simp only [Act.put, Xa, Xz, Xs]
     refine wl_val (.int .i64 ((i + 1 : Nat) : Int)) rfl (fun w => run_nat (X := i) (Y := 1) (Z := i + 1) rfl rfl rfl rfl (by omega) w) ?_
     simp only [Act.put, Xa, Xz, Xs]
     refine wl_val (.int .i64 ((i + 1 : Nat) : Int)) rfl (fun _ => rfl) ?_
     simp only [Act.put, Xa, Xz, Xs]
     refine wl_nil ?_
     exact we_meet ⟨(i + 1), ((2 * m) + (1 - 0)), _, _, _, _, _, _, _, _, _, _, _, _, _, _, _, _, _, _, _, _, _, _, _, _, _, _, _, _, _, _, _, _, _, _, _, _, _⟩ (by (try dsimp only); exact ⟨⟨by omega, by rw [rf_next L i m _ b2 (ref_lo (bit_out L i (by omega)) (by omega)), if_neg (by omega)]⟩, by omega⟩) rfl List.Sublist.slnil
    ·
     skip
     have p5 : 65536 ≤ (((2 * m) + (1 - 0) : Nat) : Int) := of_decide_eq_true h5
     refine wc_true rfl ?_
     refine wc_seq ?_
     refine wc_region ?_
     refine wl_val (.int .i64 (((2 * m) + (1 - 0) : Nat) : Int)) rfl (fun _ => rfl) ?_
     simp only [Act.put, Xa, Xz, Xs]
     refine wl_val (.int .i64 ((((2 * m) + (1 - 0)) - 65536 : Nat) : Int)) rfl (fun w => run_nat (X := (2 * m) + (1 - 0)) (Y := 65536) (Z := ((2 * m) + (1 - 0)) - 65536) rfl rfl rfl (natOf_sub (by omega)) (by omega) w) ?_
     simp only [Act.put, Xa, Xz, Xs]
     refine wl_val (.int .i64 ((((2 * m) + (1 - 0)) - 65536 : Nat) : Int)) rfl (fun _ => rfl) ?_
     simp only [Act.put, Xa, Xz, Xs]
     refine wl_nil ?_
     refine we_then ?_
     refine wc_region ?_
     refine wl_val (.int .i64 ((((2 * m) + (1 - 0)) - 65536 : Nat) : Int)) rfl (fun _ => rfl) ?_
     simp only [Act.put, Xa, Xz, Xs]
     refine wl_call 43 #[.int .i64 ((((2 * m) + (1 - 0)) - 65536 : Nat) : Int), .int .i64 4129] (.int .i64 (((((2 * m) + (1 - 0)) - 65536) ^^^ 4129 : Nat) : Int)) rfl (fun _ => by go_simp) (fun W => xor_any (((2 * m) + (1 - 0)) - 65536) 4129 W (by omega) (by omega)) ?_
     simp only [Act.put, Xa, Xz, Xs]
     refine wl_val (.int .i64 (((((2 * m) + (1 - 0)) - 65536) ^^^ 4129 : Nat) : Int)) rfl (fun _ => rfl) ?_
     simp only [Act.put, Xa, Xz, Xs]
     refine wl_nil ?_
     refine we_in ?_
     refine we_then ?_
     refine wc_region ?_
     refine wl_val (.int .i64 (i : Int)) rfl (fun _ => rfl) ?_
     simp only [Act.put, Xa, Xz, Xs]
     refine wl_val (.int .i64 ((i + 1 : Nat) : Int)) rfl (fun w => run_nat (X := i) (Y := 1) (Z := i + 1) rfl rfl rfl rfl (by omega) w) ?_
     simp only [Act.put, Xa, Xz, Xs]
     refine wl_val (.int .i64 ((i + 1 : Nat) : Int)) rfl (fun _ => rfl) ?_
     simp only [Act.put, Xa, Xz, Xs]
     refine wl_nil ?_
     exact we_meet ⟨(i + 1), ((((2 * m) + (1 - 0)) - 65536) ^^^ 4129), _, _, _, _, _, _, _, _, _, _, _, _, _, _, _, _, _, _, _, _, _, _, _, _, _, _, _, _, _, _, _, _, _, _, _, _, _⟩ (by (try dsimp only); exact ⟨⟨by omega, by rw [rf_next L i m _ b2 (ref_lo (bit_out L i (by omega)) (by omega)), if_pos (by omega)]⟩, by omega⟩) rfl List.Sublist.slnil
  ·
   skip
   have p2 : (i : Int) < ((8 * L.length : Nat) : Int) := of_decide_eq_true h2
   refine wc_true rfl ?_
   refine wc_region ?_
   refine wl_val (.slice p L.length c) rfl (fun _ => rfl) ?_
   simp only [Act.put, Xa, Xz, Xs]
   refine wl_val (.int .i64 (i : Int)) rfl (fun _ => rfl) ?_
   simp only [Act.put, Xa, Xz, Xs]
   refine wl_val (.int .i64 ((i / 8 : Nat) : Int)) rfl (fun w => run_nat (X := i) (Y := 8) (Z := i / 8) rfl rfl rfl rfl (by omega) w) ?_
   simp only [Act.put, Xa, Xz, Xs]
   refine wl_read (eaddr p ((i / 8) * 1)) rfl (er_index (i / 8) 1 (sl_old hL) rfl rfl rfl rfl (by omega) (ub_len1 rfl) (by decide) Try.underlying28 (by kernel_rfl)) ?_
   simp only [Act.put, Xa, Xz, Xs]
   refine wl_read (.int .u8 ((L[i / 8]!).toNat : Int)) rfl (er_cell ((i / 8) * 1) (.int .u8 ((L[i / 8]!).toNat : Int)) (sl_old hL) rfl rfl (flat_cell (enc := ub) (fun _ => rfl) L (i / 8) 0 (by omega) (by decide)) Try.isAgg5) ?_
   simp only [Act.put, Xa, Xz, Xs]
   refine wl_val (.int .i64 (i : Int)) rfl (fun _ => rfl) ?_
   simp only [Act.put, Xa, Xz, Xs]
   refine wl_val (.int .i64 ((i % 8 : Nat) : Int)) rfl (fun w => run_nat (X := i) (Y := 8) (Z := i % 8) rfl rfl rfl rfl (by omega) w) ?_
   simp only [Act.put, Xa, Xz, Xs]
   refine wl_val (.int .i64 ((7 - (i % 8) : Nat) : Int)) rfl (fun w => run_nat (X := 7) (Y := i % 8) (Z := 7 - (i % 8)) rfl rfl rfl (natOf_sub (by omega)) (by omega) w) ?_
   simp only [Act.put, Xa, Xz, Xs]
   refine wl_val (.int .u64 ((7 - (i % 8) : Nat) : Int)) rfl (fun w => run_conv (X := ((7 - (i % 8) : Nat) : Int)) rfl rfl Try.underlying3 Try.underlying47 (u64_in (by omega) (by omega)) w) ?_
   simp only [Act.put, Xa, Xz, Xs]
   refine wl_val (.int .u8 ((((L[i / 8]!).toBitVec) >>> (7 - (i % 8))).toNat : Int)) rfl (fun w => run_shr (k := .u8) (X := (L[i / 8]!).toBitVec) (7 - (i % 8)) rfl rfl rfl rfl w) ?_
   simp only [Act.put, Xa, Xz, Xs]
   have q6 : (((L[i / 8]!).toBitVec) >>> (7 - (i % 8))).toNat < 256 := (((L[i / 8]!).toBitVec) >>> (7 - (i % 8))).isLt
   refine wl_val (.int .i64 (((((L[i / 8]!).toBitVec) >>> (7 - (i % 8))).toNat : Nat) : Int)) rfl (fun w => run_conv (X := ((((L[i / 8]!).toBitVec) >>> (7 - (i % 8))).toNat : Int)) rfl rfl Try.underlying5 Try.underlying3 (i64_in (by omega) (by omega)) w) ?_
   simp only [Act.put, Xa, Xz, Xs]
   refine wl_val (.int .i64 ((((((L[i / 8]!).toBitVec) >>> (7 - (i % 8))).toNat) % 2 : Nat) : Int)) rfl (fun w => run_nat (X := (((L[i / 8]!).toBitVec) >>> (7 - (i % 8))).toNat) (Y := 2) (Z := ((((L[i / 8]!).toBitVec) >>> (7 - (i % 8))).toNat) % 2) rfl rfl rfl rfl (by omega) w) ?_
   simp only [Act.put, Xa, Xz, Xs]
   refine wl_val (.int .i64 ((((((L[i / 8]!).toBitVec) >>> (7 - (i % 8))).toNat) % 2 : Nat) : Int)) rfl (fun _ => rfl) ?_
   simp only [Act.put, Xa, Xz, Xs]
   refine wl_nil ?_
   refine we_then ?_
   refine wc_seq ?_
   refine wc_seq ?_
   refine wc_region ?_
   refine wl_val (.int .i64 (i : Int)) rfl (fun _ => rfl) ?_
   simp only [Act.put, Xa, Xz, Xs]
   refine wl_val (.bool (decide ((i : Int) < 16))) rfl (fun w => run_cmp rfl rfl rfl Try.underlying3 rfl w) ?_
   simp only [Act.put, Xa, Xz, Xs]
   refine wl_nil ?_
   refine we_then ?_
   cases h7 : (decide ((i : Int) < 16))
   ·
    skip
    have p7 : ¬ ((i : Int) < 16) := of_decide_eq_false h7
    refine wc_false rfl ?_
    refine wc_skip ?_
    refine we_then ?_
    refine wc_seq ?_
    refine wc_region ?_
    refine wl_val (.int .i64 (m : Int)) rfl (fun _ => rfl) ?_
    simp only [Act.put, Xa, Xz, Xs]
    refine wl_val (.int .i64 ((2 * m : Nat) : Int)) rfl (fun w => run_nat (X := 2) (Y := m) (Z := 2 * m) rfl rfl rfl rfl (by omega) w) ?_
    simp only [Act.put, Xa, Xz, Xs]
    refine wl_val (.int .i64 ((((((L[i / 8]!).toBitVec) >>> (7 - (i % 8))).toNat) % 2 : Nat) : Int)) rfl (fun _ => rfl) ?_
    simp only [Act.put, Xa, Xz, Xs]
    refine wl_val (.int .i64 (((2 * m) + (((((L[i / 8]!).toBitVec) >>> (7 - (i % 8))).toNat) % 2) : Nat) : Int)) rfl (fun w => run_nat (X := 2 * m) (Y := ((((L[i / 8]!).toBitVec) >>> (7 - (i % 8))).toNat) % 2) (Z := (2 * m) + (((((L[i / 8]!).toBitVec) >>> (7 - (i % 8))).toNat) % 2)) rfl rfl rfl rfl (by omega) w) ?_
    simp only [Act.put, Xa, Xz, Xs]
    refine wl_val (.int .i64 (((2 * m) + (((((L[i / 8]!).toBitVec) >>> (7 - (i % 8))).toNat) % 2) : Nat) : Int)) rfl (fun _ => rfl) ?_
    simp only [Act.put, Xa, Xz, Xs]
    refine wl_nil ?_
    refine we_then ?_
    refine wc_seq ?_
    refine wc_region ?_
    refine wl_val (.int .i64 (((2 * m) + (((((L[i / 8]!).toBitVec) >>> (7 - (i % 8))).toNat) % 2) : Nat) : Int)) rfl (fun _ => rfl) ?_
    simp only [Act.put, Xa, Xz, Xs]
    refine wl_val (.bool (decide (65536 ≤ (((2 * m) + (((((L[i / 8]!).toBitVec) >>> (7 - (i % 8))).toNat) % 2) : Nat) : Int)))) rfl (fun w => run_cmp rfl rfl rfl Try.underlying3 rfl w) ?_
    simp only [Act.put, Xa, Xz, Xs]
    refine wl_nil ?_
    refine we_then ?_
    cases h8 : (decide (65536 ≤ (((2 * m) + (((((L[i / 8]!).toBitVec) >>> (7 - (i % 8))).toNat) % 2) : Nat) : Int)))
    ·
     skip
     have p8 : ¬ (65536 ≤ (((2 * m) + (((((L[i / 8]!).toBitVec) >>> (7 - (i % 8))).toNat) % 2) : Nat) : Int)) := of_decide_eq_false h8
     refine wc_false rfl ?_
     refine wc_skip ?_
     refine we_in ?_
     refine we_then ?_
     refine wc_region ?_
     refine wl_val (.int .i64 (i : Int)) rfl (fun _ => rfl) ?_
     simp only [Act.put, Xa, Xz, Xs]
     refine wl_val (.int .i64 ((i + 1 : Nat) : Int)) rfl (fun w => run_nat (X := i) (Y := 1) (Z := i + 1) rfl rfl rfl rfl (by omega) w) ?_
     simp only [Act.put, Xa, Xz, Xs]
     refine wl_val (.int .i64 ((i + 1 : Nat) : Int)) rfl (fun _ => rfl) ?_
     simp only [Act.put, Xa, Xz, Xs]
     refine wl_nil ?_
     exact we_meet ⟨(i + 1), ((2 * m) + (((((L[i / 8]!).toBitVec) >>> (7 - (i % 8))).toNat) % 2)), _, _, _, _, _, _, _, _, _, _, _, _, _, _, _, _, _, _, _, _, _, _, _, _, _, _, _, _, _, _, _, _, _, _, _, _, _⟩ (by (try dsimp only); exact ⟨⟨by omega, by rw [rf_next L i m _ b2 (ref_hi (bit_in L i (by omega)) (by omega)), if_neg (by omega)]⟩, by omega⟩) rfl List.Sublist.slnil
    ·
     skip
     have p8 : 65536 ≤ (((2 * m) + (((((L[i / 8]!).toBitVec) >>> (7 - (i % 8))).toNat) % 2) : Nat) : Int) := of_decide_eq_true h8
     refine wc_true rfl ?_
     refine wc_seq ?_
     refine wc_region ?_
     refine wl_val (.int .i64 (((2 * m) + (((((L[i / 8]!).toBitVec) >>> (7 - (i % 8))).toNat) % 2) : Nat) : Int)) rfl (fun _ => rfl) ?_
     simp only [Act.put, Xa, Xz, Xs]
     refine wl_val (.int .i64 ((((2 * m) + (((((L[i / 8]!).toBitVec) >>> (7 - (i % 8))).toNat) % 2)) - 65536 : Nat) : Int)) rfl (fun w => run_nat (X := (2 * m) + (((((L[i / 8]!).toBitVec) >>> (7 - (i % 8))).toNat) % 2)) (Y := 65536) (Z := ((2 * m) + (((((L[i / 8]!).toBitVec) >>> (7 - (i % 8))).toNat) % 2)) - 65536) rfl rfl rfl (natOf_sub (by omega)) (by omega) w) ?_
     simp only [Act.put, Xa, Xz, Xs]
     refine wl_val (.int .i64 ((((2 * m) + (((((L[i / 8]!).toBitVec) >>> (7 - (i % 8))).toNat) % 2)) - 65536 : Nat) : Int)) rfl (fun _ => rfl) ?_
     simp only [Act.put, Xa, Xz, Xs]
     refine wl_nil ?_
     refine we_then ?_
     refine wc_region ?_
     refine wl_val (.int .i64 ((((2 * m) + (((((L[i / 8]!).toBitVec) >>> (7 - (i % 8))).toNat) % 2)) - 65536 : Nat) : Int)) rfl (fun _ => rfl) ?_
     simp only [Act.put, Xa, Xz, Xs]
     refine wl_call 43 #[.int .i64 ((((2 * m) + (((((L[i / 8]!).toBitVec) >>> (7 - (i % 8))).toNat) % 2)) - 65536 : Nat) : Int), .int .i64 4129] (.int .i64 (((((2 * m) + (((((L[i / 8]!).toBitVec) >>> (7 - (i % 8))).toNat) % 2)) - 65536) ^^^ 4129 : Nat) : Int)) rfl (fun _ => by go_simp) (fun W => xor_any (((2 * m) + (((((L[i / 8]!).toBitVec) >>> (7 - (i % 8))).toNat) % 2)) - 65536) 4129 W (by omega) (by omega)) ?_
     simp only [Act.put, Xa, Xz, Xs]
     refine wl_val (.int .i64 (((((2 * m) + (((((L[i / 8]!).toBitVec) >>> (7 - (i % 8))).toNat) % 2)) - 65536) ^^^ 4129 : Nat) : Int)) rfl (fun _ => rfl) ?_
     simp only [Act.put, Xa, Xz, Xs]
     refine wl_nil ?_
     refine we_in ?_
     refine we_then ?_
     refine wc_region ?_
     refine wl_val (.int .i64 (i : Int)) rfl (fun _ => rfl) ?_
     simp only [Act.put, Xa, Xz, Xs]
     refine wl_val (.int .i64 ((i + 1 : Nat) : Int)) rfl (fun w => run_nat (X := i) (Y := 1) (Z := i + 1) rfl rfl rfl rfl (by omega) w) ?_
     simp only [Act.put, Xa, Xz, Xs]
     refine wl_val (.int .i64 ((i + 1 : Nat) : Int)) rfl (fun _ => rfl) ?_
     simp only [Act.put, Xa, Xz, Xs]
     refine wl_nil ?_
     exact we_meet ⟨(i + 1), ((((2 * m) + (((((L[i / 8]!).toBitVec) >>> (7 - (i % 8))).toNat) % 2)) - 65536) ^^^ 4129), _, _, _, _, _, _, _, _, _, _, _, _, _, _, _, _, _, _, _, _, _, _, _, _, _, _, _, _, _, _, _, _, _, _, _, _, _⟩ (by (try dsimp only); exact ⟨⟨by omega, by rw [rf_next L i m _ b2 (ref_hi (bit_in L i (by omega)) (by omega)), if_pos (by omega)]⟩, by omega⟩) rfl List.Sublist.slnil
   ·
    skip
    have p7 : (i : Int) < 16 := of_decide_eq_true h7
    refine wc_true rfl ?_
    refine wc_region ?_
    refine wl_val (.int .i64 ((((((L[i / 8]!).toBitVec) >>> (7 - (i % 8))).toNat) % 2 : Nat) : Int)) rfl (fun _ => rfl) ?_
    simp only [Act.put, Xa, Xz, Xs]
    refine wl_val (.int .i64 ((1 - (((((L[i / 8]!).toBitVec) >>> (7 - (i % 8))).toNat) % 2) : Nat) : Int)) rfl (fun w => run_nat (X := 1) (Y := ((((L[i / 8]!).toBitVec) >>> (7 - (i % 8))).toNat) % 2) (Z := 1 - (((((L[i / 8]!).toBitVec) >>> (7 - (i % 8))).toNat) % 2)) rfl rfl rfl (natOf_sub (by omega)) (by omega) w) ?_
    simp only [Act.put, Xa, Xz, Xs]
    refine wl_val (.int .i64 ((1 - (((((L[i / 8]!).toBitVec) >>> (7 - (i % 8))).toNat) % 2) : Nat) : Int)) rfl (fun _ => rfl) ?_
    simp only [Act.put, Xa, Xz, Xs]
    refine wl_nil ?_
    refine we_then ?_
    refine wc_seq ?_
    refine wc_region ?_
    refine wl_val (.int .i64 (m : Int)) rfl (fun _ => rfl) ?_
    simp only [Act.put, Xa, Xz, Xs]
    refine wl_val (.int .i64 ((2 * m : Nat) : Int)) rfl (fun w => run_nat (X := 2) (Y := m) (Z := 2 * m) rfl rfl rfl rfl (by omega) w) ?_
    simp only [Act.put, Xa, Xz, Xs]
    refine wl_val (.int .i64 ((1 - (((((L[i / 8]!).toBitVec) >>> (7 - (i % 8))).toNat) % 2) : Nat) : Int)) rfl (fun _ => rfl) ?_
    simp only [Act.put, Xa, Xz, Xs]
    refine wl_val (.int .i64 (((2 * m) + (1 - (((((L[i / 8]!).toBitVec) >>> (7 - (i % 8))).toNat) % 2)) : Nat) : Int)) rfl (fun w => run_nat (X := 2 * m) (Y := 1 - (((((L[i / 8]!).toBitVec) >>> (7 - (i % 8))).toNat) % 2)) (Z := (2 * m) + (1 - (((((L[i / 8]!).toBitVec) >>> (7 - (i % 8))).toNat) % 2))) rfl rfl rfl rfl (by omega) w) ?_
    simp only [Act.put, Xa, Xz, Xs]
    refine wl_val (.int .i64 (((2 * m) + (1 - (((((L[i / 8]!).toBitVec) >>> (7 - (i % 8))).toNat) % 2)) : Nat) : Int)) rfl (fun _ => rfl) ?_
    simp only [Act.put, Xa, Xz, Xs]
    refine wl_nil ?_
    refine we_then ?_
    refine wc_seq ?_
    refine wc_region ?_
    refine wl_val (.int .i64 (((2 * m) + (1 - (((((L[i / 8]!).toBitVec) >>> (7 - (i % 8))).toNat) % 2)) : Nat) : Int)) rfl (fun _ => rfl) ?_
    simp only [Act.put, Xa, Xz, Xs]
    refine wl_val (.bool (decide (65536 ≤ (((2 * m) + (1 - (((((L[i / 8]!).toBitVec) >>> (7 - (i % 8))).toNat) % 2)) : Nat) : Int)))) rfl (fun w => run_cmp rfl rfl rfl Try.underlying3 rfl w) ?_
    simp only [Act.put, Xa, Xz, Xs]
    refine wl_nil ?_
    refine we_then ?_
    cases h9 : (decide (65536 ≤ (((2 * m) + (1 - (((((L[i / 8]!).toBitVec) >>> (7 - (i % 8))).toNat) % 2)) : Nat) : Int)))
    ·
     skip
     have p9 : ¬ (65536 ≤ (((2 * m) + (1 - (((((L[i / 8]!).toBitVec) >>> (7 - (i % 8))).toNat) % 2)) : Nat) : Int)) := of_decide_eq_false h9
     refine wc_false rfl ?_
     refine wc_skip ?_
     refine we_in ?_
     refine we_then ?_
     refine wc_region ?_
     refine wl_val (.int .i64 (i : Int)) rfl (fun _ => rfl) ?_
     simp only [Act.put, Xa, Xz, Xs]
     refine wl_val (.int .i64 ((i + 1 : Nat) : Int)) rfl (fun w => run_nat (X := i) (Y := 1) (Z := i + 1) rfl rfl rfl rfl (by omega) w) ?_
     simp only [Act.put, Xa, Xz, Xs]
     refine wl_val (.int .i64 ((i + 1 : Nat) : Int)) rfl (fun _ => rfl) ?_
     simp only [Act.put, Xa, Xz, Xs]
     refine wl_nil ?_
     exact we_meet ⟨(i + 1), ((2 * m) + (1 - (((((L[i / 8]!).toBitVec) >>> (7 - (i % 8))).toNat) % 2))), _, _, _, _, _, _, _, _, _, _, _, _, _, _, _, _, _, _, _, _, _, _, _, _, _, _, _, _, _, _, _, _, _, _, _, _, _⟩ (by (try dsimp only); exact ⟨⟨by omega, by rw [rf_next L i m _ b2 (ref_lo (bit_in L i (by omega)) (by omega)), if_neg (by omega)]⟩, by omega⟩) rfl List.Sublist.slnil
    ·
     skip
     have p9 : 65536 ≤ (((2 * m) + (1 - (((((L[i / 8]!).toBitVec) >>> (7 - (i % 8))).toNat) % 2)) : Nat) : Int) := of_decide_eq_true h9
     refine wc_true rfl ?_
     refine wc_seq ?_
     refine wc_region ?_
     refine wl_val (.int .i64 (((2 * m) + (1 - (((((L[i / 8]!).toBitVec) >>> (7 - (i % 8))).toNat) % 2)) : Nat) : Int)) rfl (fun _ => rfl) ?_
     simp only [Act.put, Xa, Xz, Xs]
     refine wl_val (.int .i64 ((((2 * m) + (1 - (((((L[i / 8]!).toBitVec) >>> (7 - (i % 8))).toNat) % 2))) - 65536 : Nat) : Int)) rfl (fun w => run_nat (X := (2 * m) + (1 - (((((L[i / 8]!).toBitVec) >>> (7 - (i % 8))).toNat) % 2))) (Y := 65536) (Z := ((2 * m) + (1 - (((((L[i / 8]!).toBitVec) >>> (7 - (i % 8))).toNat) % 2))) - 65536) rfl rfl rfl (natOf_sub (by omega)) (by omega) w) ?_
     simp only [Act.put, Xa, Xz, Xs]
     refine wl_val (.int .i64 ((((2 * m) + (1 - (((((L[i / 8]!).toBitVec) >>> (7 - (i % 8))).toNat) % 2))) - 65536 : Nat) : Int)) rfl (fun _ => rfl) ?_
     simp only [Act.put, Xa, Xz, Xs]
     refine wl_nil ?_
     refine we_then ?_
     refine wc_region ?_
     refine wl_val (.int .i64 ((((2 * m) + (1 - (((((L[i / 8]!).toBitVec) >>> (7 - (i % 8))).toNat) % 2))) - 65536 : Nat) : Int)) rfl (fun _ => rfl) ?_
     simp only [Act.put, Xa, Xz, Xs]
     refine wl_call 43 #[.int .i64 ((((2 * m) + (1 - (((((L[i / 8]!).toBitVec) >>> (7 - (i % 8))).toNat) % 2))) - 65536 : Nat) : Int), .int .i64 4129] (.int .i64 (((((2 * m) + (1 - (((((L[i / 8]!).toBitVec) >>> (7 - (i % 8))).toNat) % 2))) - 65536) ^^^ 4129 : Nat) : Int)) rfl (fun _ => by go_simp) (fun W => xor_any (((2 * m) + (1 - (((((L[i / 8]!).toBitVec) >>> (7 - (i % 8))).toNat) % 2))) - 65536) 4129 W (by omega) (by omega)) ?_
     simp only [Act.put, Xa, Xz, Xs]
     refine wl_val (.int .i64 (((((2 * m) + (1 - (((((L[i / 8]!).toBitVec) >>> (7 - (i % 8))).toNat) % 2))) - 65536) ^^^ 4129 : Nat) : Int)) rfl (fun _ => rfl) ?_
     simp only [Act.put, Xa, Xz, Xs]
     refine wl_nil ?_
     refine we_in ?_
     refine we_then ?_
     refine wc_region ?_
     refine wl_val (.int .i64 (i : Int)) rfl (fun _ => rfl) ?_
     simp only [Act.put, Xa, Xz, Xs]
     refine wl_val (.int .i64 ((i + 1 : Nat) : Int)) rfl (fun w => run_nat (X := i) (Y := 1) (Z := i + 1) rfl rfl rfl rfl (by omega) w) ?_
     simp only [Act.put, Xa, Xz, Xs]
     refine wl_val (.int .i64 ((i + 1 : Nat) : Int)) rfl (fun _ => rfl) ?_
     simp only [Act.put, Xa, Xz, Xs]
     refine wl_nil ?_
     exact we_meet ⟨(i + 1), ((((2 * m) + (1 - (((((L[i / 8]!).toBitVec) >>> (7 - (i % 8))).toNat) % 2))) - 65536) ^^^ 4129), _, _, _, _, _, _, _, _, _, _, _, _, _, _, _, _, _, _, _, _, _, _, _, _, _, _, _, _, _, _, _, _, _, _, _, _, _⟩ (by (try dsimp only); exact ⟨⟨by omega, by rw [rf_next L i m _ b2 (ref_lo (bit_in L i (by omega)) (by omega)), if_pos (by omega)]⟩, by omega⟩) rfl List.Sublist.slnil
theorem ref_at (L : List UInt8) (p : Option Addr) (n c : Nat) (w : World) (hl : L.length = n) (hL : Reads w p (flat ub L)) (hn : L.length ≤ 1000000) :
  Calls Try.prog 29 #[.slice p n c] w fun e w' => e = .returned (.int .i64 ((crc 65535#16 L).toNat : Int)) ∧ Below w.heap.size w w' := by
 subst hl
 exact ref_any L p c w hL hn
end Go.Proofs.Ytggannjlaehihaa.Cref
