/-
 The reference of layer 12, opening. Condition: at most a million bytes.
-/
import Derived.Test.YtggannjlaehihaaImref
import Derived.Test.YtggannjlaehihaaCref
import Derived.Test.YtggannjlaehihaaTkref
namespace Go.Proofs.Ytggannjlaehihaa.Imrefo
open Go.ChangeShapes Go.WideShapes Go.ChangeAt Go.RowKit
open Arr Steady Sx Sw Sl Sb Sc Si Sj Sk Sh Cr Fr Vs Gr Tk Tkh Tkl Img Imp Imo Imref Cref
set_option linter.unusedVariables false
set_option linter.unusedSimpArgs false
set_option maxRecDepth 100000

/-- Segments whose pieces and whose next ones lie in some rows. -/
def HeldS (N : List Rw) (K : List Sg) : Prop := ∀ z ∈ K, Held N z.pp (flat enc2 z.P) ∧ Held N z.np (flat enc1 z.X) ∧ z.P.length ≤ 64 ∧ z.X.length ≤ 2
theorem heldS_nil (N : List Rw) : HeldS N [] := fun z hz => by simp at hz
theorem heldS_snoc {M N : List Rw} {K : List Sg} {z : Sg} (h : HeldS M K) (h1 : Held N z.pp (flat enc2 z.P)) (h2 : Held N z.np (flat enc1 z.X)) (h3 : z.P.length ≤ 64) (h4 : z.X.length ≤ 2) : HeldS (M ++ N) (K ++ [z]) := by
 intro y hy
 rcases List.mem_append.1 hy with hy | hy
 ·
  obtain ⟨a, b, c, d⟩ := h y hy
  exact ⟨a.mono (List.sublist_append_left _ _), b.mono (List.sublist_append_left _ _), c, d⟩
 ·
  obtain rfl : y = z := by simpa using hy
  exact ⟨h1.mono (List.sublist_append_right _ _), h2.mono (List.sublist_append_right _ _), h3, h4⟩
theorem heldS_ok {w0 W : World} {N : List Rw} {K : List Sg} (h : HeldS N K) (hE : Env w0 W N) : OkS W K := fun z hz => by
 obtain ⟨a, b, c, d⟩ := h z hz
 exact ⟨a w0 W hE, b w0 W hE, by omega, by omega⟩
/-- What the reading of a segment hands back. -/
structure Sv where
 p : Option Addr
 c : Nat
 q : Option Addr
 d : Nat
 N : List Rw
theorem segmt_few (L : List UInt8) (s : Pt) : (segmt L s).2.P.length ≤ 64 ∧ (segmt L s).2.X.length ≤ 2 := by
 have e1 : (segmt L s).2.P.length = segN L s := manyV_len _ _ _
 have e2 : (segmt L s).2.X.length = segM L s := manyV_len _ _ _
 have a := cntV_le (L := L) (s := numS L s 8) (n := 1) (m := 64) (by decide)
 have b := cntV_le (L := L) (s := segB' L s) (n := 1) (m := 2) (by decide)
 unfold segN segM at *
 omega
theorem segment_open (L : List UInt8) (q : Option Addr) (c m : Nat) (s : Pt) (w : World) (hm : L.length = m) (hL : Reads w q (flat ub L)) (hl : L.length ≤ 1048576) (hs : s.1 ≤ L.length) :
  Calls Try.prog 31 #[.agg #[.slice q m c, .int .i64 ((s.1 : Nat) : Int), .bool s.2]] w fun e w' => ∃ z : Sv, (Held z.N z.p (flat enc2 (segmt L s).2.P) ∧ Held z.N z.q (flat enc1 (segmt L s).2.X)) ∧
   e = .returned (.tuple #[.agg #[.slice q m c, .int .i64 (((segmt L s).1.1 : Nat) : Int), .bool (segmt L s).1.2], .agg #[.int .i64 (segmt L s).2.len, .slice z.p (segmt L s).2.P.length z.c, .slice z.q (segmt L s).2.X.length z.d]]) ∧ Env w w' z.N := by
 subst hm
 refine (segment_any L q c s w hL hl hs).mono ?_
 rintro e w' ⟨u, v, h1, h2, h3, h4⟩
 have e1 : (segmt L s).2.P.length = segN L s := manyV_len _ _ _
 have e2 : (segmt L s).2.X.length = segM L s := manyV_len _ _ _
 exact ⟨⟨u.ptr, u.cap, v.ptr, v.cap, _⟩, ⟨(held_own h1).mono (List.sublist_append_left _ _), (held_own h2).mono ((List.sublist_append_left _ _).trans (List.sublist_append_right _ _))⟩, by rw [h3, e1, e2], h4⟩
theorem count_at (L : List UInt8) (q : Option Addr) (c k : Nat) (s : Pt) (n : Nat) (m : Int) (w : World) (hk : L.length = k) (hL : Reads w q (flat ub L)) (hl : L.length ≤ 1048576) (hs : s.1 ≤ L.length) (hn : n ≤ 4) :
  Calls Try.prog 30 #[.agg #[.slice q k c, .int .i64 ((s.1 : Nat) : Int), .bool s.2], .int .i64 (n : Int), .int .i64 m] w fun e w' => e = .returned (.tuple #[.agg #[.slice q k c, .int .i64 (((cntS L s n m).1 : Nat) : Int), .bool (cntS L s n m).2], .int .i64 ((cntV L s n m : Nat) : Int)]) ∧ Below w.heap.size w w' := by
 subst hk
 exact count_any L q c s n m w hL hl hs hn
theorem group_at (L : List UInt8) (q : Option Addr) (c k : Nat) (s : Pt) (w : World) (hk : L.length = k) (hL : Reads w q (flat ub L)) (hl : L.length ≤ 1048576) (hs : s.1 ≤ L.length) :
  Calls Try.prog 32 #[.agg #[.slice q k c, .int .i64 ((s.1 : Nat) : Int), .bool s.2]] w fun e w' => e = .returned (.tuple #[.agg #[.slice q k c, .int .i64 (((group L s).1.1 : Nat) : Int), .bool (group L s).1.2], .agg #[.int .i64 (group L s).2.id, .int .i64 (group L s).2.seg, .int .i64 (group L s).2.off, .int .i64 (group L s).2.acc, .int .i64 (group L s).2.slack]]) ∧ Below w.heap.size w w' := by
 subst hk
 exact group_any L q c s w hL hl hs
theorem segmt_le {L : List UInt8} (s : Pt) (h : s.1 ≤ L.length) : (segmt L s).1.1 ≤ L.length :=
 many_le (f := next L) (fun s hs => num_le 1 hs) (cnt_le 1 2 (many_le (f := piece L) (fun s hs => num_le 4 (num_le 8 hs)) (cnt_le 1 64 (num_le 8 h)) _)) _
theorem group_le {L : List UInt8} (s : Pt) (h : s.1 ≤ L.length) : (group L s).1.1 ≤ L.length := num_le 4 (num_le 4 (num_le 8 (num_le 1 (num_le 2 h))))
theorem opn_ne (b : List UInt8) (hb : 2 ≤ b.length) : (((crc 65535#16 (b.take (b.length - 2))).toNat : Int) != (((b[b.length - 2]!).toNat * 256 + (b[b.length - 2 + 1]!).toNat : Nat) : Int)) = !opens b := by
 unfold opens
 have e := told_nat (b[b.length - 2]!) (b[b.length - 1]!)
 rw [show b.length - 2 + 1 = b.length - 1 by omega, decide_eq_true hb, Bool.true_and, ← e, Bool.eq_iff_iff]
 simp only [bne_iff_ne, ne_eq, Bool.not_eq_true', beq_eq_false_iff_ne]
 constructor
 ·
  intro h h2; exact h (by rw [h2])
 ·
  intro h h2; exact h (BitVec.eq_of_toNat_eq (by omega))
theorem byte_no {b : List UInt8} {i : Nat} {k : Nat} (hk : k < 256) (h : ((b[i]!).toBitVec != BitVec.ofNat 8 k) = true) : (bt b i == (k : Int)) = false := by
 rw [bne_iff_ne] at h
 rw [beq_eq_false_iff_ne]
 intro e
 apply h
 apply BitVec.eq_of_toNat_eq
 rw [BitVec.toNat_ofNat, Nat.mod_eq_of_lt (by omega)]
 unfold bt at e
 exact_mod_cast e
theorem byte_yes {b : List UInt8} {i : Nat} {k : Nat} (hk : k < 256) (h : ((b[i]!).toBitVec != BitVec.ofNat 8 k) = false) : (bt b i == (k : Int)) = true := by
 have h' : (b[i]!).toBitVec = BitVec.ofNat 8 k := by simpa using h
 rw [beq_iff_eq]
 unfold bt
 have : (b[i]!).toBitVec.toNat = k := by rw [h', BitVec.toNat_ofNat, Nat.mod_eq_of_lt (by omega)]
 exact_mod_cast this
theorem head_yes {b : List UInt8} (h : ¬ b.length < 6) (h0 : (bt b 0 == 79) = true) (h1 : (bt b 1 == 68) = true) (h2 : (bt b 2 == 79) = true) (h3 : (bt b 3 == 49) = true) : headB b = true := by
 unfold headB
 rw [decide_eq_true (by omega), h0, h1, h2, h3]
 rfl
theorem opn_11 {b : List UInt8} (h : b.length ≤ 1000000) (h1 : headB b = false) : opnE b = 11 := by unfold opnE; rw [if_neg (by omega), if_pos h1]
theorem opn_31 {b : List UInt8} (h : b.length ≤ 1000000) (h1 : headB b = true) (h2 : opens b = false) : opnE b = 31 := by unfold opnE; rw [if_neg (by omega), if_neg (by rw [h1]; decide), if_pos h2]
theorem opn_14 {b : List UInt8} (h : b.length ≤ 1000000) (h1 : headB b = true) (h2 : opens b = true) (h3 : (p4 (b.take (b.length - 2))).2 = true ∨ (p4 (b.take (b.length - 2))).1 ≠ b.length - 2) : opnE b = 14 := by unfold opnE; rw [if_neg (by omega), if_neg (by rw [h1]; decide), if_neg (by rw [h2]; decide), if_pos h3]
theorem opn_51 {b : List UInt8} (h : b.length ≤ 1000000) (h1 : headB b = true) (h2 : opens b = true) (h3 : ¬ ((p4 (b.take (b.length - 2))).2 = true ∨ (p4 (b.take (b.length - 2))).1 ≠ b.length - 2)) (h4 : (chk ((D1 (b.take (b.length - 2))).map toSg) (H1 (b.take (b.length - 2)))).1 ≠ 0) : opnE b = 51 := by unfold opnE; rw [if_neg (by omega), if_neg (by rw [h1]; decide), if_neg (by rw [h2]; decide), if_neg h3, if_pos h4]
theorem opn_0 {b : List UInt8} (h : b.length ≤ 1000000) (h1 : headB b = true) (h2 : opens b = true) (h3 : ¬ ((p4 (b.take (b.length - 2))).2 = true ∨ (p4 (b.take (b.length - 2))).1 ≠ b.length - 2)) (h4 : ¬ (chk ((D1 (b.take (b.length - 2))).map toSg) (H1 (b.take (b.length - 2)))).1 ≠ 0) : opnE b = 0 := by unfold opnE; rw [if_neg (by omega), if_neg (by rw [h1]; decide), if_neg (by rw [h2]; decide), if_neg h3, if_neg h4]
theorem same_map {D : List Sd} {K : List Sg} (h : K.map dat = D) : Same (D.map toSg) K := by
 subst h
 refine ⟨by simp, fun j hj => ?_⟩
 have hj' : j < K.length := by simpa using hj
 rw [getElem!_pos _ j hj, getElem!_pos K j hj', List.getElem_map, List.getElem_map]
 exact ⟨rfl, rfl, rfl⟩
/-- What the opening hands back. -/
structure Ov where
 K : List Sg
 H : List Gp
 p : Option Addr
 c : Nat
 q : Option Addr
 d : Nat
 N : List Rw
structure OvOk (b : List UInt8) (z : Ov) : Prop where
 same : if opnE b = 0 then z.K.map dat = D1 (b.take (b.length - 2)) ∧ z.H = H1 (b.take (b.length - 2)) else z.K = [] ∧ z.H = []
 segs : Held z.N z.p (flat sg z.K)
 grps : Held z.N z.q (flat gp z.H)
 ok : HeldS z.N z.K
theorem ov_none {b : List UInt8} (h : opnE b ≠ 0) : OvOk b ⟨[], [], none, 0, none, 0, []⟩ := ⟨by rw [if_neg h]; exact ⟨rfl, rfl⟩, fun _ _ _ => reads_nil _ _, fun _ _ _ => reads_nil _ _, heldS_nil _⟩
set_option maxHeartbeats 8000000 in
theorem open_any (b : List UInt8) (q : Option Addr) (c : Nat) (w : World) (hb : Reads w q (flat ub b)) (hb6 : b.length ≤ 1000000) (hbc : b.length ≤ c) :
  Calls Try.prog 15 #[.slice q b.length c] w fun e w' => ∃ z : Ov, OvOk b z ∧ e = .returned (.tuple #[.agg #[.slice z.p z.K.length z.c, .slice z.q z.H.length z.d], .int .i64 ((opnE b : Nat) : Int)]) ∧ Env w w' z.N := by
 refine calls_sx Try.func15 rfl ?_
 simp only [Try.ntmps15, List.size_toArray, List.length_cons, List.length_nil, Nat.reduceAdd, Nat.reduceSub, Array.replicate_succ, Array.replicate_zero, List.push_toArray, List.append_toArray, List.nil_append, List.cons_append]
 refine wc_seq ?_
 refine wc_region ?_
 refine wl_new 37 (#[.slice none 0 0, .slice none 0 0]) rfl (fun _ => by go_simp) ?_
 intro g1
 simp only [Act.put, Xa, Xz, Xs]
 refine wl_val (.int .i64 0) rfl (fun _ => rfl) ?_
 simp only [Act.put, Xa, Xz, Xs]
 refine wl_nil ?_
 refine we_then ?_
 refine wc_seq ?_
 refine wc_region ?_
 refine wl_new 37 (#[.slice none 0 0, .slice none 0 0]) rfl (fun _ => by go_simp) ?_
 intro g2
 simp only [Act.put, Xa, Xz, Xs]
 refine wl_nil ?_
 refine we_then ?_
 refine wc_seq ?_
 refine wc_seq ?_
 refine wc_region ?_
 refine wl_val (.slice q b.length c) rfl (fun _ => rfl) ?_
 simp only [Act.put, Xa, Xz, Xs]
 refine wl_val (.int .i64 (b.length : Int)) rfl (fun w => er_len rfl rfl Try.underlying28 w) ?_
 simp only [Act.put, Xa, Xz, Xs]
 refine wl_val (.bool (decide (1048576 < (b.length : Int)))) rfl (fun w => run_cmp rfl rfl rfl Try.underlying3 rfl w) ?_
 simp only [Act.put, Xa, Xz, Xs]
 refine wl_nil ?_
 refine we_then ?_
 cases h3 : (decide (1048576 < (b.length : Int)))
 ·
  skip
  have p3 : ¬ (1048576 < (b.length : Int)) := of_decide_eq_false h3
  refine wc_false rfl ?_
  refine wc_skip ?_
  refine we_then ?_
  refine wc_seq ?_
  refine wc_seq ?_
  refine wc_region ?_
  refine wl_val (.slice q b.length c) rfl (fun _ => rfl) ?_
  simp only [Act.put, Xa, Xz, Xs]
  refine wl_val (.int .i64 (b.length : Int)) rfl (fun w => er_len rfl rfl Try.underlying28 w) ?_
  simp only [Act.put, Xa, Xz, Xs]
  refine wl_val (.bool (decide ((b.length : Int) < 6))) rfl (fun w => run_cmp rfl rfl rfl Try.underlying3 rfl w) ?_
  simp only [Act.put, Xa, Xz, Xs]
  refine wl_val (.bool (decide ((b.length : Int) < 6))) rfl (fun _ => rfl) ?_
  simp only [Act.put, Xa, Xz, Xs]
  cases h4 : (decide ((b.length : Int) < 6))
  ·
   skip
   have p4 : ¬ ((b.length : Int) < 6) := of_decide_eq_false h4
   refine wl_val (.slice q b.length c) rfl (fun _ => rfl) ?_
   simp only [Act.put, Xa, Xz, Xs]
   refine wl_read (eaddr q (0 * 1)) rfl (er_index 0 1 (sl_old hb) rfl rfl rfl rfl (by omega) (ub_len1 rfl) (by decide) Try.underlying28 (by kernel_rfl)) ?_
   simp only [Act.put, Xa, Xz, Xs]
   refine wl_read (.int .u8 ((b[0]!).toNat : Int)) rfl (er_cell (0 * 1) (.int .u8 ((b[0]!).toNat : Int)) (sl_old hb) rfl rfl (flat_cell (enc := ub) (fun _ => rfl) b 0 0 (by omega) (by decide)) Try.isAgg5) ?_
   simp only [Act.put, Xa, Xz, Xs]
   refine wl_val (.bool (((b[0]!).toBitVec) != (79#8))) rfl (fun w => run_bvne (k := .u8) (X := (b[0]!).toBitVec) (Y := 79#8) rfl rfl rfl Try.underlying5 rfl w) ?_
   simp only [Act.put, Xa, Xz, Xs]
   refine wl_val (.bool (((b[0]!).toBitVec) != (79#8))) rfl (fun _ => rfl) ?_
   simp only [Act.put, Xa, Xz, Xs]
   refine wl_val (.bool (((b[0]!).toBitVec) != (79#8))) rfl (fun _ => rfl) ?_
   simp only [Act.put, Xa, Xz, Xs]
   cases h5 : (((b[0]!).toBitVec) != (79#8))
   ·
    skip
    have p5 : ¬ (((b[0]!).toBitVec) ≠ (79#8)) := by simpa using h5
    refine wl_val (.slice q b.length c) rfl (fun _ => rfl) ?_
    simp only [Act.put, Xa, Xz, Xs]
    refine wl_read (eaddr q (1 * 1)) rfl (er_index 1 1 (sl_old hb) rfl rfl rfl rfl (by omega) (ub_len1 rfl) (by decide) Try.underlying28 (by kernel_rfl)) ?_
    simp only [Act.put, Xa, Xz, Xs]
    refine wl_read (.int .u8 ((b[1]!).toNat : Int)) rfl (er_cell (1 * 1) (.int .u8 ((b[1]!).toNat : Int)) (sl_old hb) rfl rfl (flat_cell (enc := ub) (fun _ => rfl) b 1 0 (by omega) (by decide)) Try.isAgg5) ?_
    simp only [Act.put, Xa, Xz, Xs]
    refine wl_val (.bool (((b[1]!).toBitVec) != (68#8))) rfl (fun w => run_bvne (k := .u8) (X := (b[1]!).toBitVec) (Y := 68#8) rfl rfl rfl Try.underlying5 rfl w) ?_
    simp only [Act.put, Xa, Xz, Xs]
    refine wl_val (.bool (((b[1]!).toBitVec) != (68#8))) rfl (fun _ => rfl) ?_
    simp only [Act.put, Xa, Xz, Xs]
    refine wl_val (.bool (((b[1]!).toBitVec) != (68#8))) rfl (fun _ => rfl) ?_
    simp only [Act.put, Xa, Xz, Xs]
    cases h6 : (((b[1]!).toBitVec) != (68#8))
    ·
     skip
     have p6 : ¬ (((b[1]!).toBitVec) ≠ (68#8)) := by simpa using h6
     refine wl_val (.slice q b.length c) rfl (fun _ => rfl) ?_
     simp only [Act.put, Xa, Xz, Xs]
     refine wl_read (eaddr q (2 * 1)) rfl (er_index 2 1 (sl_old hb) rfl rfl rfl rfl (by omega) (ub_len1 rfl) (by decide) Try.underlying28 (by kernel_rfl)) ?_
     simp only [Act.put, Xa, Xz, Xs]
     refine wl_read (.int .u8 ((b[2]!).toNat : Int)) rfl (er_cell (2 * 1) (.int .u8 ((b[2]!).toNat : Int)) (sl_old hb) rfl rfl (flat_cell (enc := ub) (fun _ => rfl) b 2 0 (by omega) (by decide)) Try.isAgg5) ?_
     simp only [Act.put, Xa, Xz, Xs]
     refine wl_val (.bool (((b[2]!).toBitVec) != (79#8))) rfl (fun w => run_bvne (k := .u8) (X := (b[2]!).toBitVec) (Y := 79#8) rfl rfl rfl Try.underlying5 rfl w) ?_
     simp only [Act.put, Xa, Xz, Xs]
     refine wl_val (.bool (((b[2]!).toBitVec) != (79#8))) rfl (fun _ => rfl) ?_
     simp only [Act.put, Xa, Xz, Xs]
     refine wl_val (.bool (((b[2]!).toBitVec) != (79#8))) rfl (fun _ => rfl) ?_
     simp only [Act.put, Xa, Xz, Xs]
     cases h7 : (((b[2]!).toBitVec) != (79#8))
     ·
      skip
      have p7 : ¬ (((b[2]!).toBitVec) ≠ (79#8)) := by simpa using h7
      refine wl_val (.slice q b.length c) rfl (fun _ => rfl) ?_
      simp only [Act.put, Xa, Xz, Xs]
      refine wl_read (eaddr q (3 * 1)) rfl (er_index 3 1 (sl_old hb) rfl rfl rfl rfl (by omega) (ub_len1 rfl) (by decide) Try.underlying28 (by kernel_rfl)) ?_
      simp only [Act.put, Xa, Xz, Xs]
      refine wl_read (.int .u8 ((b[3]!).toNat : Int)) rfl (er_cell (3 * 1) (.int .u8 ((b[3]!).toNat : Int)) (sl_old hb) rfl rfl (flat_cell (enc := ub) (fun _ => rfl) b 3 0 (by omega) (by decide)) Try.isAgg5) ?_
      simp only [Act.put, Xa, Xz, Xs]
      refine wl_val (.bool (((b[3]!).toBitVec) != (49#8))) rfl (fun w => run_bvne (k := .u8) (X := (b[3]!).toBitVec) (Y := 49#8) rfl rfl rfl Try.underlying5 rfl w) ?_
      simp only [Act.put, Xa, Xz, Xs]
      refine wl_val (.bool (((b[3]!).toBitVec) != (49#8))) rfl (fun _ => rfl) ?_
      simp only [Act.put, Xa, Xz, Xs]
      refine wl_nil ?_
      refine we_then ?_
      cases h8 : (((b[3]!).toBitVec) != (49#8))
      ·
       skip
       have p8 : ¬ (((b[3]!).toBitVec) ≠ (49#8)) := by simpa using h8
       refine wc_false rfl ?_
       refine wc_skip ?_
       refine we_then ?_
       refine wc_seq ?_
       refine wc_region ?_
       refine wl_val (.slice q b.length c) rfl (fun _ => rfl) ?_
       simp only [Act.put, Xa, Xz, Xs]
       refine wl_val (.int .i64 (b.length : Int)) rfl (fun w => er_len rfl rfl Try.underlying28 w) ?_
       simp only [Act.put, Xa, Xz, Xs]
       refine wl_val (.int .i64 ((b.length - 2 : Nat) : Int)) rfl (fun w => run_nat (X := b.length) (Y := 2) (Z := b.length - 2) rfl rfl rfl (natOf_sub (by omega)) (by omega) w) ?_
       simp only [Act.put, Xa, Xz, Xs]
       refine wl_val (.int .i64 ((b.length - 2 : Nat) : Int)) rfl (fun _ => rfl) ?_
       simp only [Act.put, Xa, Xz, Xs]
       refine wl_nil ?_
       refine we_then ?_
       refine wc_seq ?_
       refine wc_seq ?_
       cases h9 : (opens b)
       ·
        skip
        refine wc_draw [.late, .late, .late, .plain, .late, .late, .plain, .plain, .late, .late, .late, .late, .late, .plain, .plain, .late, .late, .late] none [] 137 (by kernel_rfl) rfl (by kernel_rfl) (by kernel_rfl) ?_
        refine ws_late (.slice q b.length c) rfl rfl (fun _ => rfl) ?_
        simp only [Nat.reduceAdd, Act.put, Xa, Xz, Xs]
        refine ws_late (.int .i64 ((b.length - 2 : Nat) : Int)) rfl rfl (fun _ => rfl) ?_
        simp only [Nat.reduceAdd, Act.put, Xa, Xz, Xs]
        refine ws_late (.slice q (b.length - 2) c) rfl rfl (fun w => er_take (h := b.length - 2) rfl rfl rfl rfl (by omega) Try.underlying28 (by kernel_rfl) w) ?_
        simp only [Nat.reduceAdd, Act.put, Xa, Xz, Xs]
        refine ws_call_at 29 #[.slice q (b.length - 2) c] (.int .i64 (((crc 65535#16 (b.take (b.length - 2))).toNat : Nat) : Int)) rfl rfl (fun _ => by go_simp) (fun W hE => ref_at (b.take (b.length - 2)) _ _ _ W (ub_take_len rfl (by omega)) ((sl_take (b.length - 2) (sl_old hb)) W hE) (Nat.le_trans (Nat.le_of_eq (show (b.take (b.length - 2)).length = b.length - 2 from (ub_take_len rfl (by omega)))) (by omega))) ?_
        simp only [Nat.reduceAdd, Act.put, Xa, Xz, Xs]
        refine ws_late (.slice q b.length c) rfl rfl (fun _ => rfl) ?_
        simp only [Nat.reduceAdd, Act.put, Xa, Xz, Xs]
        refine ws_late (.int .i64 ((b.length - 2 : Nat) : Int)) rfl rfl (fun _ => rfl) ?_
        simp only [Nat.reduceAdd, Act.put, Xa, Xz, Xs]
        refine ws_read (eaddr q ((b.length - 2) * 1)) rfl rfl (er_index (b.length - 2) 1 (sl_old hb) rfl rfl rfl rfl (by omega) (ub_len1 rfl) (by decide) Try.underlying28 (by kernel_rfl)) ?_
        simp only [Nat.reduceAdd, Act.put, Xa, Xz, Xs]
        refine ws_read (.int .u8 ((b[b.length - 2]!).toNat : Int)) rfl rfl (er_cell ((b.length - 2) * 1) (.int .u8 ((b[b.length - 2]!).toNat : Int)) (sl_old hb) rfl rfl (flat_cell (enc := ub) (fun _ => rfl) b (b.length - 2) 0 (by omega) (by decide)) Try.isAgg5) ?_
        simp only [Nat.reduceAdd, Act.put, Xa, Xz, Xs]
        have q10 : (b[b.length - 2]!).toNat < 256 := ((b[b.length - 2]!).toBitVec).isLt
        refine ws_late (.int .i64 (((b[b.length - 2]!).toNat : Nat) : Int)) rfl rfl (fun w => run_conv (X := ((b[b.length - 2]!).toNat : Int)) rfl rfl Try.underlying5 Try.underlying3 (i64_in (by omega) (by omega)) w) ?_
        simp only [Nat.reduceAdd, Act.put, Xa, Xz, Xs]
        refine ws_late (.int .i64 ((((b[b.length - 2]!).toNat) * 256 : Nat) : Int)) rfl rfl (fun w => run_nat (X := (b[b.length - 2]!).toNat) (Y := 256) (Z := ((b[b.length - 2]!).toNat) * 256) rfl rfl rfl rfl (by omega) w) ?_
        simp only [Nat.reduceAdd, Act.put, Xa, Xz, Xs]
        refine ws_late (.slice q b.length c) rfl rfl (fun _ => rfl) ?_
        simp only [Nat.reduceAdd, Act.put, Xa, Xz, Xs]
        refine ws_late (.int .i64 ((b.length - 2 : Nat) : Int)) rfl rfl (fun _ => rfl) ?_
        simp only [Nat.reduceAdd, Act.put, Xa, Xz, Xs]
        refine ws_late (.int .i64 (((b.length - 2) + 1 : Nat) : Int)) rfl rfl (fun w => run_nat (X := b.length - 2) (Y := 1) (Z := (b.length - 2) + 1) rfl rfl rfl rfl (by omega) w) ?_
        simp only [Nat.reduceAdd, Act.put, Xa, Xz, Xs]
        refine ws_read (eaddr q (((b.length - 2) + 1) * 1)) rfl rfl (er_index ((b.length - 2) + 1) 1 (sl_old hb) rfl rfl rfl rfl (by omega) (ub_len1 rfl) (by decide) Try.underlying28 (by kernel_rfl)) ?_
        simp only [Nat.reduceAdd, Act.put, Xa, Xz, Xs]
        refine ws_read (.int .u8 ((b[(b.length - 2) + 1]!).toNat : Int)) rfl rfl (er_cell (((b.length - 2) + 1) * 1) (.int .u8 ((b[(b.length - 2) + 1]!).toNat : Int)) (sl_old hb) rfl rfl (flat_cell (enc := ub) (fun _ => rfl) b ((b.length - 2) + 1) 0 (by omega) (by decide)) Try.isAgg5) ?_
        simp only [Nat.reduceAdd, Act.put, Xa, Xz, Xs]
        have q11 : (b[(b.length - 2) + 1]!).toNat < 256 := ((b[(b.length - 2) + 1]!).toBitVec).isLt
        refine ws_late (.int .i64 (((b[(b.length - 2) + 1]!).toNat : Nat) : Int)) rfl rfl (fun w => run_conv (X := ((b[(b.length - 2) + 1]!).toNat : Int)) rfl rfl Try.underlying5 Try.underlying3 (i64_in (by omega) (by omega)) w) ?_
        simp only [Nat.reduceAdd, Act.put, Xa, Xz, Xs]
        refine ws_late (.int .i64 (((((b[b.length - 2]!).toNat) * 256) + ((b[(b.length - 2) + 1]!).toNat) : Nat) : Int)) rfl rfl (fun w => run_nat (X := ((b[b.length - 2]!).toNat) * 256) (Y := (b[(b.length - 2) + 1]!).toNat) (Z := (((b[b.length - 2]!).toNat) * 256) + ((b[(b.length - 2) + 1]!).toNat)) rfl rfl rfl rfl (by omega) w) ?_
        simp only [Nat.reduceAdd, Act.put, Xa, Xz, Xs]
        refine ws_late (.bool true) rfl rfl (fun w => run_ine (b := true) rfl rfl rfl Try.underlying3 ((opn_ne b (by omega)).trans (by rw [h9]; rfl)) w) ?_
        simp only [Nat.reduceAdd, Act.put, Xa, Xz, Xs]
        refine ws_nil [] trivial (by simp) ?_
        intro ps12
        simp only [fin, List.foldl_nil, List.map, List.nil_append]
        refine we_then ?_
        refine wc_true rfl ?_
        refine wc_seq ?_
        refine wc_region ?_
        refine wl_load 37 (.tmp 4) (own_row 0 rfl) rfl rfl rfl Try.underlying37 rfl (by kernel_rfl) ?_
        simp only [Act.put, Xa, Xz, Xs]
        refine wl_store 1 37 (.tmp 2) (.tmp 70) (#[.slice none 0 0, .slice none 0 0]) rfl rfl rfl rfl rfl (by kernel_rfl) rfl (by simp [Value.oneCell']) ?_
        simp only [Act.put, List.set_cons_zero, List.set_cons_succ]
        refine wl_val (.int .i64 31) rfl (fun _ => rfl) ?_
        simp only [Act.put, Xa, Xz, Xs]
        refine wl_nil ?_
        refine we_then ?_
        refine wc_ret ?_
        refine we_then_ret ?_
        refine we_ret_cell_tmp (.int .i64 31) (own_row 1 rfl) rfl rfl rfl rfl Try.underlying37 rfl (by kernel_rfl) (fun w1 hE => ?_)
        have eH : headB b = true := head_yes (by omega) (byte_yes (k := 79) (by decide) h5) (byte_yes (k := 68) (by decide) h6) (byte_yes (k := 79) (by decide) h7) (byte_yes (k := 49) (by decide) h8)
        have e0 : opnE b = 31 := opn_31 hb6 eH h9
        exact ⟨⟨[], [], none, 0, none, 0, []⟩, ov_none (by rw [e0]; decide), by rw [e0]; rfl, hE.sub (List.nil_sublist _)⟩
       ·
        skip
        refine wc_draw [.late, .late, .late, .plain, .late, .late, .plain, .plain, .late, .late, .late, .late, .late, .plain, .plain, .late, .late, .late] none [] 137 (by kernel_rfl) rfl (by kernel_rfl) (by kernel_rfl) ?_
        refine ws_late (.slice q b.length c) rfl rfl (fun _ => rfl) ?_
        simp only [Nat.reduceAdd, Act.put, Xa, Xz, Xs]
        refine ws_late (.int .i64 ((b.length - 2 : Nat) : Int)) rfl rfl (fun _ => rfl) ?_
        simp only [Nat.reduceAdd, Act.put, Xa, Xz, Xs]
        refine ws_late (.slice q (b.length - 2) c) rfl rfl (fun w => er_take (h := b.length - 2) rfl rfl rfl rfl (by omega) Try.underlying28 (by kernel_rfl) w) ?_
        simp only [Nat.reduceAdd, Act.put, Xa, Xz, Xs]
        refine ws_call_at 29 #[.slice q (b.length - 2) c] (.int .i64 (((crc 65535#16 (b.take (b.length - 2))).toNat : Nat) : Int)) rfl rfl (fun _ => by go_simp) (fun W hE => ref_at (b.take (b.length - 2)) _ _ _ W (ub_take_len rfl (by omega)) ((sl_take (b.length - 2) (sl_old hb)) W hE) (Nat.le_trans (Nat.le_of_eq (show (b.take (b.length - 2)).length = b.length - 2 from (ub_take_len rfl (by omega)))) (by omega))) ?_
        simp only [Nat.reduceAdd, Act.put, Xa, Xz, Xs]
        refine ws_late (.slice q b.length c) rfl rfl (fun _ => rfl) ?_
        simp only [Nat.reduceAdd, Act.put, Xa, Xz, Xs]
        refine ws_late (.int .i64 ((b.length - 2 : Nat) : Int)) rfl rfl (fun _ => rfl) ?_
        simp only [Nat.reduceAdd, Act.put, Xa, Xz, Xs]
        refine ws_read (eaddr q ((b.length - 2) * 1)) rfl rfl (er_index (b.length - 2) 1 (sl_old hb) rfl rfl rfl rfl (by omega) (ub_len1 rfl) (by decide) Try.underlying28 (by kernel_rfl)) ?_
        simp only [Nat.reduceAdd, Act.put, Xa, Xz, Xs]
        refine ws_read (.int .u8 ((b[b.length - 2]!).toNat : Int)) rfl rfl (er_cell ((b.length - 2) * 1) (.int .u8 ((b[b.length - 2]!).toNat : Int)) (sl_old hb) rfl rfl (flat_cell (enc := ub) (fun _ => rfl) b (b.length - 2) 0 (by omega) (by decide)) Try.isAgg5) ?_
        simp only [Nat.reduceAdd, Act.put, Xa, Xz, Xs]
        have q13 : (b[b.length - 2]!).toNat < 256 := ((b[b.length - 2]!).toBitVec).isLt
        refine ws_late (.int .i64 (((b[b.length - 2]!).toNat : Nat) : Int)) rfl rfl (fun w => run_conv (X := ((b[b.length - 2]!).toNat : Int)) rfl rfl Try.underlying5 Try.underlying3 (i64_in (by omega) (by omega)) w) ?_
        simp only [Nat.reduceAdd, Act.put, Xa, Xz, Xs]
        refine ws_late (.int .i64 ((((b[b.length - 2]!).toNat) * 256 : Nat) : Int)) rfl rfl (fun w => run_nat (X := (b[b.length - 2]!).toNat) (Y := 256) (Z := ((b[b.length - 2]!).toNat) * 256) rfl rfl rfl rfl (by omega) w) ?_
        simp only [Nat.reduceAdd, Act.put, Xa, Xz, Xs]
        refine ws_late (.slice q b.length c) rfl rfl (fun _ => rfl) ?_
        simp only [Nat.reduceAdd, Act.put, Xa, Xz, Xs]
        refine ws_late (.int .i64 ((b.length - 2 : Nat) : Int)) rfl rfl (fun _ => rfl) ?_
        simp only [Nat.reduceAdd, Act.put, Xa, Xz, Xs]
        refine ws_late (.int .i64 (((b.length - 2) + 1 : Nat) : Int)) rfl rfl (fun w => run_nat (X := b.length - 2) (Y := 1) (Z := (b.length - 2) + 1) rfl rfl rfl rfl (by omega) w) ?_
        simp only [Nat.reduceAdd, Act.put, Xa, Xz, Xs]
        refine ws_read (eaddr q (((b.length - 2) + 1) * 1)) rfl rfl (er_index ((b.length - 2) + 1) 1 (sl_old hb) rfl rfl rfl rfl (by omega) (ub_len1 rfl) (by decide) Try.underlying28 (by kernel_rfl)) ?_
        simp only [Nat.reduceAdd, Act.put, Xa, Xz, Xs]
        refine ws_read (.int .u8 ((b[(b.length - 2) + 1]!).toNat : Int)) rfl rfl (er_cell (((b.length - 2) + 1) * 1) (.int .u8 ((b[(b.length - 2) + 1]!).toNat : Int)) (sl_old hb) rfl rfl (flat_cell (enc := ub) (fun _ => rfl) b ((b.length - 2) + 1) 0 (by omega) (by decide)) Try.isAgg5) ?_
        simp only [Nat.reduceAdd, Act.put, Xa, Xz, Xs]
        have q14 : (b[(b.length - 2) + 1]!).toNat < 256 := ((b[(b.length - 2) + 1]!).toBitVec).isLt
        refine ws_late (.int .i64 (((b[(b.length - 2) + 1]!).toNat : Nat) : Int)) rfl rfl (fun w => run_conv (X := ((b[(b.length - 2) + 1]!).toNat : Int)) rfl rfl Try.underlying5 Try.underlying3 (i64_in (by omega) (by omega)) w) ?_
        simp only [Nat.reduceAdd, Act.put, Xa, Xz, Xs]
        refine ws_late (.int .i64 (((((b[b.length - 2]!).toNat) * 256) + ((b[(b.length - 2) + 1]!).toNat) : Nat) : Int)) rfl rfl (fun w => run_nat (X := ((b[b.length - 2]!).toNat) * 256) (Y := (b[(b.length - 2) + 1]!).toNat) (Z := (((b[b.length - 2]!).toNat) * 256) + ((b[(b.length - 2) + 1]!).toNat)) rfl rfl rfl rfl (by omega) w) ?_
        simp only [Nat.reduceAdd, Act.put, Xa, Xz, Xs]
        refine ws_late (.bool false) rfl rfl (fun w => run_ine (b := false) rfl rfl rfl Try.underlying3 ((opn_ne b (by omega)).trans (by rw [h9]; rfl)) w) ?_
        simp only [Nat.reduceAdd, Act.put, Xa, Xz, Xs]
        refine ws_nil [] trivial (by simp) ?_
        intro ps15
        simp only [fin, List.foldl_nil, List.map, List.nil_append]
        refine we_then ?_
        refine wc_false rfl ?_
        refine wc_skip ?_
        refine we_then ?_
        refine wc_seq ?_
        obtain ⟨L, hLe⟩ : ∃ L, b.take (b.length - 2) = L := ⟨_, rfl⟩
        have hlL : L.length = b.length - 2 := by rw [← hLe, List.length_take]; omega
        refine wc_region ?_
        refine wl_val (.slice q b.length c) rfl (fun _ => rfl) ?_
        simp only [Act.put, Xa, Xz, Xs]
        refine wl_val (.int .i64 ((b.length - 2 : Nat) : Int)) rfl (fun _ => rfl) ?_
        simp only [Act.put, Xa, Xz, Xs]
        refine wl_val (.slice q (b.length - 2) c) rfl (fun w => er_take (h := b.length - 2) rfl rfl rfl rfl (by omega) Try.underlying28 (by kernel_rfl) w) ?_
        simp only [Act.put, Xa, Xz, Xs]
        refine wl_val (.agg #[.slice q (b.length - 2) c, .int .i64 4, .bool false]) rfl (fun _ => by go_simp) ?_
        simp only [Act.put, Xa, Xz, Xs]
        refine wl_new 82 (#[.slice none 0 0, .int .i64 0, .bool false]) rfl (fun _ => by go_simp) ?_
        intro g16
        simp only [Act.put, Xa, Xz, Xs]
        refine wl_store 0 82 (.tmp 6) (.tmp 74) (#[.slice q (b.length - 2) c, .int .i64 4, .bool false]) rfl rfl rfl rfl rfl (by kernel_rfl) rfl (by simp [Value.oneCell']) ?_
        simp only [Act.put, List.set_cons_zero]
        refine wl_nil ?_
        refine we_then ?_
        refine wc_seq ?_
        refine wc_region ?_
        refine wl_load 82 (.tmp 6) (own_row 0 rfl) rfl rfl rfl Try.underlying82 rfl (by kernel_rfl) ?_
        simp only [Act.put, Xa, Xz, Xs]
        refine wl_call_at 30 #[.agg #[.slice q (b.length - 2) c, .int .i64 4, .bool false], .int .i64 2, .int .i64 200] (.tuple #[.agg #[.slice q (b.length - 2) c, .int .i64 (((cntS L (4, false) 2 200).1 : Nat) : Int), .bool ((cntS L (4, false) 2 200).2)], .int .i64 ((cntV L (4, false) 2 200 : Nat) : Int)]) rfl (fun _ => by go_simp) (fun W hE => count_at L q c _ (4, false) 2 200 W hlL ((sl_take_eq (b.length - 2) hLe (sl_old hb)) W hE) (by omega) (show 4 ≤ L.length by omega) (by decide)) ?_
        simp only [Act.put, Xa, Xz, Xs]
        refine wl_val (.tuple #[.agg #[.slice q (b.length - 2) c, .int .i64 (((cntS L (4, false) 2 200).1 : Nat) : Int), .bool ((cntS L (4, false) 2 200).2)], .int .i64 ((cntV L (4, false) 2 200 : Nat) : Int)]) rfl (fun _ => rfl) ?_
        simp only [Act.put, Xa, Xz, Xs]
        refine wl_val (.agg #[.slice q (b.length - 2) c, .int .i64 (((cntS L (4, false) 2 200).1 : Nat) : Int), .bool ((cntS L (4, false) 2 200).2)]) rfl (fun _ => by go_simp) ?_
        simp only [Act.put, Xa, Xz, Xs]
        refine wl_val (.int .i64 ((cntV L (4, false) 2 200 : Nat) : Int)) rfl (fun _ => by go_simp) ?_
        simp only [Act.put, Xa, Xz, Xs]
        refine wl_store 0 82 (.tmp 6) (.tmp 78) (#[.slice q (b.length - 2) c, .int .i64 (((cntS L (4, false) 2 200).1 : Nat) : Int), .bool ((cntS L (4, false) 2 200).2)]) rfl rfl rfl rfl rfl (by kernel_rfl) rfl (by simp [Value.oneCell']) ?_
        simp only [Act.put, List.set_cons_zero]
        refine wl_val (.int .i64 ((cntV L (4, false) 2 200 : Nat) : Int)) rfl (fun _ => rfl) ?_
        simp only [Act.put, Xa, Xz, Xs]
        refine wl_nil ?_
        refine we_then ?_
        refine wc_seq ?_
        refine wc_seq ?_
        have c200 := cntV_le (L := L) (s := (4, false)) (n := 2) (m := 200) (by decide)
        refine wc_region ?_
        refine wl_val (.int .i64 0) rfl (fun _ => rfl) ?_
        simp only [Act.put, Xa, Xz, Xs]
        refine wl_nil ?_
        refine we_then ?_
        refine wc_block ?_
        refine wc_loop (fun (zz : Nat × Pt × Own × List Rw × List Sg × Value × Value × Value × Value × Value × Value × Value × Value × Value × Value × Value × Value × Value × Value × Value × Value × Value × Value × Value) => match zz with | ⟨i, t, s, M, K, u9, u10, u80, u81, u82, u83, u84, u85, u86, u87, u88, u89, u90, u91, u92, u93, u94, u95, u96⟩ => ({ tmps := #[.slice q b.length c, undef, .pointer (some ⟨g1, 0, none⟩), .int .i64 0, .pointer (some ⟨g2, 0, none⟩), .int .i64 ((b.length - 2 : Nat) : Int), .pointer (some ⟨g16, 0, none⟩), .int .i64 ((cntV L (4, false) 2 200 : Nat) : Int), .int .i64 (i : Int), u9, u10, undef, undef, undef, undef, undef, undef, .slice q b.length c, .int .i64 (b.length : Int), .bool false, undef, .slice q b.length c, .int .i64 (b.length : Int), .bool false, .bool false, .slice q b.length c, eaddr q (0 * 1), .int .u8 ((b[0]!).toNat : Int), .bool false, .bool false, .bool false, .slice q b.length c, eaddr q (1 * 1), .int .u8 ((b[1]!).toNat : Int), .bool false, .bool false, .bool false, .slice q b.length c, eaddr q (2 * 1), .int .u8 ((b[2]!).toNat : Int), .bool false, .bool false, .bool false, .slice q b.length c, eaddr q (3 * 1), .int .u8 ((b[3]!).toNat : Int), .bool false, .bool false, undef, .slice q b.length c, .int .i64 (b.length : Int), .int .i64 ((b.length - 2 : Nat) : Int), .slice q b.length c, .int .i64 ((b.length - 2 : Nat) : Int), .slice q (b.length - 2) c, .int .i64 (((crc 65535#16 (b.take (b.length - 2))).toNat : Nat) : Int), .slice q b.length c, .int .i64 ((b.length - 2 : Nat) : Int), eaddr q ((b.length - 2) * 1), .int .u8 ((b[b.length - 2]!).toNat : Int), .int .i64 (((b[b.length - 2]!).toNat : Nat) : Int), .int .i64 ((((b[b.length - 2]!).toNat) * 256 : Nat) : Int), .slice q b.length c, .int .i64 ((b.length - 2 : Nat) : Int), .int .i64 (((b.length - 2) + 1 : Nat) : Int), eaddr q (((b.length - 2) + 1) * 1), .int .u8 ((b[(b.length - 2) + 1]!).toNat : Int), .int .i64 (((b[(b.length - 2) + 1]!).toNat : Nat) : Int), .int .i64 (((((b[b.length - 2]!).toNat) * 256) + ((b[(b.length - 2) + 1]!).toNat) : Nat) : Int), .bool false, undef, .slice q b.length c, .int .i64 ((b.length - 2 : Nat) : Int), .slice q (b.length - 2) c, .agg #[.slice q (b.length - 2) c, .int .i64 4, .bool false], .tuple #[.agg #[.slice q (b.length - 2) c, .int .i64 (((cntS L (4, false) 2 200).1 : Nat) : Int), .bool ((cntS L (4, false) 2 200).2)], .int .i64 ((cntV L (4, false) 2 200 : Nat) : Int)], .agg #[.slice q (b.length - 2) c, .int .i64 4, .bool false], .tuple #[.agg #[.slice q (b.length - 2) c, .int .i64 (((cntS L (4, false) 2 200).1 : Nat) : Int), .bool ((cntS L (4, false) 2 200).2)], .int .i64 ((cntV L (4, false) 2 200 : Nat) : Int)], .agg #[.slice q (b.length - 2) c, .int .i64 (((cntS L (4, false) 2 200).1 : Nat) : Int), .bool ((cntS L (4, false) 2 200).2)], .int .i64 ((cntV L (4, false) 2 200 : Nat) : Int), u80, u81, u82, u83, u84, u85, u86, u87, u88, u89, u90, u91, u92, u93, u94, u95, u96, undef, undef, undef, undef, undef, undef, undef, undef, undef, undef, undef, undef, undef, undef, undef, undef, undef, undef, undef, undef, undef, undef, undef, undef, undef, undef, undef, undef, undef, undef, undef, undef, undef, undef, undef, undef, undef, undef, undef, undef], defers := [] } : Act)) (fun (zz : Nat × Pt × Own × List Rw × List Sg × Value × Value × Value × Value × Value × Value × Value × Value × Value × Value × Value × Value × Value × Value × Value × Value × Value × Value × Value) => match zz with | ⟨i, t, s, M, K, u9, u10, u80, u81, u82, u83, u84, u85, u86, u87, u88, u89, u90, u91, u92, u93, u94, u95, u96⟩ => ⟨g16, #[.slice q (b.length - 2) c, .int .i64 (t.1 : Int), .bool t.2], 82⟩ :: ⟨g2, #[.slice s.ptr i s.cap, .slice none 0 0], 37⟩ :: ⟨g1, #[.slice none 0 0, .slice none 0 0], 37⟩ :: (s.rows 66 ++ M)) (fun (zz : Nat × Pt × Own × List Rw × List Sg × Value × Value × Value × Value × Value × Value × Value × Value × Value × Value × Value × Value × Value × Value × Value × Value × Value × Value × Value) => match zz with | ⟨i, t, s, M, K, u9, u10, u80, u81, u82, u83, u84, u85, u86, u87, u88, u89, u90, u91, u92, u93, u94, u95, u96⟩ => i ≤ (cntV L (4, false) 2 200) ∧ t = manyS (segmt L) (cntS L (4, false) 2 200) i ∧ s.Has 3 i (flat sg K) ∧ K.map dat = manyV (segmt L) (cntS L (4, false) 2 200) i ∧ HeldS M K ∧ t.1 ≤ L.length) (fun (zz : Nat × Pt × Own × List Rw × List Sg × Value × Value × Value × Value × Value × Value × Value × Value × Value × Value × Value × Value × Value × Value × Value × Value × Value × Value × Value) => match zz with | ⟨i, t, s, M, K, u9, u10, u80, u81, u82, u83, u84, u85, u86, u87, u88, u89, u90, u91, u92, u93, u94, u95, u96⟩ => (cntV L (4, false) 2 200) - i) ⟨0, (cntS L (4, false) 2 200), Own.none, [], [], _, _, _, _, _, _, _, _, _, _, _, _, _, _, _, _, _, _, _⟩ ⟨Nat.zero_le _, rfl, Own.has_none 3, rfl, heldS_nil _, (cnt_le 2 200 (show 4 ≤ L.length by omega))⟩ rfl (List.Sublist.cons_cons _ (List.Sublist.cons_cons _ (List.Sublist.cons_cons _ List.Sublist.slnil))) ?_
        rintro ⟨i, t, s, M, K, u9, u10, u80, u81, u82, u83, u84, u85, u86, u87, u88, u89, u90, u91, u92, u93, u94, u95, u96⟩ hφ
        (try dsimp only at hφ ⊢)
        obtain ⟨b1, b2, b3, b4, b5, b6⟩ := hφ
        refine wc_seq ?_
        refine wc_seq ?_
        refine wc_region ?_
        refine wl_val (.int .i64 (i : Int)) rfl (fun _ => rfl) ?_
        simp only [Act.put, Xa, Xz, Xs]
        refine wl_val (.int .i64 ((cntV L (4, false) 2 200 : Nat) : Int)) rfl (fun _ => rfl) ?_
        simp only [Act.put, Xa, Xz, Xs]
        refine wl_val (.bool (decide ((i : Int) < ((cntV L (4, false) 2 200 : Nat) : Int)))) rfl (fun w => run_cmp rfl rfl rfl Try.underlying3 rfl w) ?_
        simp only [Act.put, Xa, Xz, Xs]
        refine wl_nil ?_
        refine we_then ?_
        cases h17 : (decide ((i : Int) < ((cntV L (4, false) 2 200 : Nat) : Int)))
        ·
         skip
         have p17 : ¬ ((i : Int) < ((cntV L (4, false) 2 200 : Nat) : Int)) := of_decide_eq_false h17
         refine wc_false rfl ?_
         refine wc_exit ?_
         refine we_then_exit ?_
         refine we_then_exit ?_
         refine we_in_here ?_
         refine we_then ?_
         refine wc_seq ?_
         refine wc_region ?_
         refine wl_load 82 (.tmp 6) (own_row 0 rfl) rfl rfl rfl Try.underlying82 rfl (by kernel_rfl) ?_
         simp only [Act.put, Xa, Xz, Xs]
         refine wl_call_at 30 #[.agg #[.slice q (b.length - 2) c, .int .i64 (t.1 : Int), .bool t.2], .int .i64 2, .int .i64 400] (.tuple #[.agg #[.slice q (b.length - 2) c, .int .i64 (((cntS L t 2 400).1 : Nat) : Int), .bool ((cntS L t 2 400).2)], .int .i64 ((cntV L t 2 400 : Nat) : Int)]) rfl (fun _ => by go_simp) (fun W hE => count_at L q c _ t 2 400 W hlL ((sl_take_eq (b.length - 2) hLe (sl_old hb)) W hE) (by omega) b6 (by decide)) ?_
         simp only [Act.put, Xa, Xz, Xs]
         refine wl_val (.tuple #[.agg #[.slice q (b.length - 2) c, .int .i64 (((cntS L t 2 400).1 : Nat) : Int), .bool ((cntS L t 2 400).2)], .int .i64 ((cntV L t 2 400 : Nat) : Int)]) rfl (fun _ => rfl) ?_
         simp only [Act.put, Xa, Xz, Xs]
         refine wl_val (.agg #[.slice q (b.length - 2) c, .int .i64 (((cntS L t 2 400).1 : Nat) : Int), .bool ((cntS L t 2 400).2)]) rfl (fun _ => by go_simp) ?_
         simp only [Act.put, Xa, Xz, Xs]
         refine wl_val (.int .i64 ((cntV L t 2 400 : Nat) : Int)) rfl (fun _ => by go_simp) ?_
         simp only [Act.put, Xa, Xz, Xs]
         refine wl_store 0 82 (.tmp 6) (.tmp 100) (#[.slice q (b.length - 2) c, .int .i64 (((cntS L t 2 400).1 : Nat) : Int), .bool ((cntS L t 2 400).2)]) rfl rfl rfl rfl rfl (by kernel_rfl) rfl (by simp [Value.oneCell']) ?_
         simp only [Act.put, List.set_cons_zero]
         refine wl_val (.int .i64 ((cntV L t 2 400 : Nat) : Int)) rfl (fun _ => rfl) ?_
         simp only [Act.put, Xa, Xz, Xs]
         refine wl_nil ?_
         refine we_then ?_
         refine wc_seq ?_
         refine wc_seq ?_
         have c400 := cntV_le (L := L) (s := t) (n := 2) (m := 400) (by decide)
         refine wc_region ?_
         refine wl_val (.int .i64 0) rfl (fun _ => rfl) ?_
         simp only [Act.put, Xa, Xz, Xs]
         refine wl_nil ?_
         refine we_then ?_
         refine wc_block ?_
         refine wc_loop (fun (zz : Nat × Pt × Own × Value × Value × Value × Value × Value × Value × Value × Value × Value × Value × Value × Value × Value × Value × Value × Value × Value × Value × Value) => match zz with | ⟨j, r, v, u13, u14, u102, u103, u104, u105, u106, u107, u108, u109, u110, u111, u112, u113, u114, u115, u116, u117, u118⟩ => ({ tmps := #[.slice q b.length c, undef, .pointer (some ⟨g1, 0, none⟩), .int .i64 0, .pointer (some ⟨g2, 0, none⟩), .int .i64 ((b.length - 2 : Nat) : Int), .pointer (some ⟨g16, 0, none⟩), .int .i64 ((cntV L (4, false) 2 200 : Nat) : Int), .int .i64 (i : Int), u9, u10, .int .i64 ((cntV L t 2 400 : Nat) : Int), .int .i64 (j : Int), u13, u14, undef, undef, .slice q b.length c, .int .i64 (b.length : Int), .bool false, undef, .slice q b.length c, .int .i64 (b.length : Int), .bool false, .bool false, .slice q b.length c, eaddr q (0 * 1), .int .u8 ((b[0]!).toNat : Int), .bool false, .bool false, .bool false, .slice q b.length c, eaddr q (1 * 1), .int .u8 ((b[1]!).toNat : Int), .bool false, .bool false, .bool false, .slice q b.length c, eaddr q (2 * 1), .int .u8 ((b[2]!).toNat : Int), .bool false, .bool false, .bool false, .slice q b.length c, eaddr q (3 * 1), .int .u8 ((b[3]!).toNat : Int), .bool false, .bool false, undef, .slice q b.length c, .int .i64 (b.length : Int), .int .i64 ((b.length - 2 : Nat) : Int), .slice q b.length c, .int .i64 ((b.length - 2 : Nat) : Int), .slice q (b.length - 2) c, .int .i64 (((crc 65535#16 (b.take (b.length - 2))).toNat : Nat) : Int), .slice q b.length c, .int .i64 ((b.length - 2 : Nat) : Int), eaddr q ((b.length - 2) * 1), .int .u8 ((b[b.length - 2]!).toNat : Int), .int .i64 (((b[b.length - 2]!).toNat : Nat) : Int), .int .i64 ((((b[b.length - 2]!).toNat) * 256 : Nat) : Int), .slice q b.length c, .int .i64 ((b.length - 2 : Nat) : Int), .int .i64 (((b.length - 2) + 1 : Nat) : Int), eaddr q (((b.length - 2) + 1) * 1), .int .u8 ((b[(b.length - 2) + 1]!).toNat : Int), .int .i64 (((b[(b.length - 2) + 1]!).toNat : Nat) : Int), .int .i64 (((((b[b.length - 2]!).toNat) * 256) + ((b[(b.length - 2) + 1]!).toNat) : Nat) : Int), .bool false, undef, .slice q b.length c, .int .i64 ((b.length - 2 : Nat) : Int), .slice q (b.length - 2) c, .agg #[.slice q (b.length - 2) c, .int .i64 4, .bool false], .tuple #[.agg #[.slice q (b.length - 2) c, .int .i64 (((cntS L (4, false) 2 200).1 : Nat) : Int), .bool ((cntS L (4, false) 2 200).2)], .int .i64 ((cntV L (4, false) 2 200 : Nat) : Int)], .agg #[.slice q (b.length - 2) c, .int .i64 4, .bool false], .tuple #[.agg #[.slice q (b.length - 2) c, .int .i64 (((cntS L (4, false) 2 200).1 : Nat) : Int), .bool ((cntS L (4, false) 2 200).2)], .int .i64 ((cntV L (4, false) 2 200 : Nat) : Int)], .agg #[.slice q (b.length - 2) c, .int .i64 (((cntS L (4, false) 2 200).1 : Nat) : Int), .bool ((cntS L (4, false) 2 200).2)], .int .i64 ((cntV L (4, false) 2 200 : Nat) : Int), .int .i64 (i : Int), .int .i64 ((cntV L (4, false) 2 200 : Nat) : Int), .bool false, u83, u84, u85, u86, u87, u88, u89, u90, u91, u92, u93, u94, u95, u96, .tuple #[.agg #[.slice q (b.length - 2) c, .int .i64 (((cntS L t 2 400).1 : Nat) : Int), .bool ((cntS L t 2 400).2)], .int .i64 ((cntV L t 2 400 : Nat) : Int)], .agg #[.slice q (b.length - 2) c, .int .i64 (t.1 : Int), .bool t.2], .tuple #[.agg #[.slice q (b.length - 2) c, .int .i64 (((cntS L t 2 400).1 : Nat) : Int), .bool ((cntS L t 2 400).2)], .int .i64 ((cntV L t 2 400 : Nat) : Int)], .agg #[.slice q (b.length - 2) c, .int .i64 (((cntS L t 2 400).1 : Nat) : Int), .bool ((cntS L t 2 400).2)], .int .i64 ((cntV L t 2 400 : Nat) : Int), u102, u103, u104, u105, u106, u107, u108, u109, u110, u111, u112, u113, u114, u115, u116, u117, u118, undef, undef, undef, undef, undef, undef, undef, undef, undef, undef, undef, undef, undef, undef, undef, undef, undef, undef], defers := [] } : Act)) (fun (zz : Nat × Pt × Own × Value × Value × Value × Value × Value × Value × Value × Value × Value × Value × Value × Value × Value × Value × Value × Value × Value × Value × Value) => match zz with | ⟨j, r, v, u13, u14, u102, u103, u104, u105, u106, u107, u108, u109, u110, u111, u112, u113, u114, u115, u116, u117, u118⟩ => ⟨g16, #[.slice q (b.length - 2) c, .int .i64 (r.1 : Int), .bool r.2], 82⟩ :: ⟨g2, #[.slice s.ptr i s.cap, .slice v.ptr j v.cap], 37⟩ :: ⟨g1, #[.slice none 0 0, .slice none 0 0], 37⟩ :: (s.rows 66 ++ (v.rows 67 ++ M))) (fun (zz : Nat × Pt × Own × Value × Value × Value × Value × Value × Value × Value × Value × Value × Value × Value × Value × Value × Value × Value × Value × Value × Value × Value) => match zz with | ⟨j, r, v, u13, u14, u102, u103, u104, u105, u106, u107, u108, u109, u110, u111, u112, u113, u114, u115, u116, u117, u118⟩ => j ≤ (cntV L t 2 400) ∧ r = manyS (group L) (cntS L t 2 400) j ∧ v.Has 5 j (flat gp (manyV (group L) (cntS L t 2 400) j)) ∧ r.1 ≤ L.length) (fun (zz : Nat × Pt × Own × Value × Value × Value × Value × Value × Value × Value × Value × Value × Value × Value × Value × Value × Value × Value × Value × Value × Value × Value) => match zz with | ⟨j, r, v, u13, u14, u102, u103, u104, u105, u106, u107, u108, u109, u110, u111, u112, u113, u114, u115, u116, u117, u118⟩ => (cntV L t 2 400) - j) ⟨0, (cntS L t 2 400), Own.none, _, _, _, _, _, _, _, _, _, _, _, _, _, _, _, _, _, _, _⟩ ⟨Nat.zero_le _, rfl, Own.has_none 5, (cnt_le 2 400 b6)⟩ rfl (List.Sublist.cons_cons _ (List.Sublist.cons_cons _ (List.Sublist.cons_cons _ (List.Sublist.append_left (List.Sublist.refl _) _)))) ?_
         rintro ⟨j, r, v, u13, u14, u102, u103, u104, u105, u106, u107, u108, u109, u110, u111, u112, u113, u114, u115, u116, u117, u118⟩ hφ
         (try dsimp only at hφ ⊢)
         obtain ⟨d1, d2, d3, d4⟩ := hφ
         refine wc_seq ?_
         refine wc_seq ?_
         refine wc_region ?_
         refine wl_val (.int .i64 (j : Int)) rfl (fun _ => rfl) ?_
         simp only [Act.put, Xa, Xz, Xs]
         refine wl_val (.int .i64 ((cntV L t 2 400 : Nat) : Int)) rfl (fun _ => rfl) ?_
         simp only [Act.put, Xa, Xz, Xs]
         refine wl_val (.bool (decide ((j : Int) < ((cntV L t 2 400 : Nat) : Int)))) rfl (fun w => run_cmp rfl rfl rfl Try.underlying3 rfl w) ?_
         simp only [Act.put, Xa, Xz, Xs]
         refine wl_nil ?_
         refine we_then ?_
         cases h18 : (decide ((j : Int) < ((cntV L t 2 400 : Nat) : Int)))
         ·
          skip
          have p18 : ¬ ((j : Int) < ((cntV L t 2 400 : Nat) : Int)) := of_decide_eq_false h18
          refine wc_false rfl ?_
          refine wc_exit ?_
          refine we_then_exit ?_
          refine we_then_exit ?_
          refine we_in_here ?_
          refine we_then ?_
          refine wc_seq ?_
          refine wc_seq ?_
          have e1 : i = Imo.n1 L := by show i = (cntV L (4, false) 2 200); omega
          have e2 : t = Imo.p2 L := by rw [b2, e1]; rfl
          have e3 : j = Imo.n3 L := by show j = cntV L (Imo.p2 L) 2 400; rw [← e2]; omega
          have e4 : r = Imo.p4 L := by rw [d2, e3, e2]; rfl
          have e5 : K.map dat = Imo.D1 L := by rw [b4, e1]; rfl
          have e6 : K.length = i := by rw [← List.length_map (f := dat), b4, manyV_len]
          have e7 : v.Has 5 (Imo.H1 L).length (flat gp (Imo.H1 L)) := by rw [show (Imo.H1 L).length = Imo.n3 L from manyV_len _ _ _, ← e3]; rw [e2, e3] at d3; rw [e3]; exact d3
          have e8 : s.Has 3 K.length (flat sg K) := by rw [e6]; exact b3
          have e9 : j = (Imo.H1 L).length := by rw [e3]; exact (manyV_len _ _ _).symm
          refine wc_region ?_
          refine wl_val (.pointer (some ⟨g16, 2, none⟩)) rfl (fun _ => by go_simp) ?_
          simp only [Act.put, Xa, Xz, Xs]
          refine wl_cell 4 (.tmp 119) (.bool r.2) (own_row 0 rfl) rfl rfl rfl rfl Try.isAgg4 ?_
          simp only [Act.put, Xa, Xz, Xs]
          refine wl_val (.bool r.2) rfl (fun _ => rfl) ?_
          simp only [Act.put, Xa, Xz, Xs]
          cases h19 : (r.2)
          ·
           skip
           refine wl_val (.pointer (some ⟨g16, 1, none⟩)) rfl (fun _ => by go_simp) ?_
           simp only [Act.put, Xa, Xz, Xs]
           refine wl_cell 3 (.tmp 122) (.int .i64 (r.1 : Int)) (own_row 0 rfl) rfl rfl rfl rfl Try.isAgg3 ?_
           simp only [Act.put, Xa, Xz, Xs]
           refine wl_val (.int .i64 ((b.length - 2 : Nat) : Int)) rfl (fun _ => rfl) ?_
           simp only [Act.put, Xa, Xz, Xs]
           refine wl_val (.bool ((r.1 : Int) != ((b.length - 2 : Nat) : Int))) rfl (fun w => run_cmp rfl rfl rfl Try.underlying3 rfl w) ?_
           simp only [Act.put, Xa, Xz, Xs]
           refine wl_val (.bool ((r.1 : Int) != ((b.length - 2 : Nat) : Int))) rfl (fun _ => rfl) ?_
           simp only [Act.put, Xa, Xz, Xs]
           refine wl_nil ?_
           refine we_then ?_
           cases h20 : ((r.1 : Int) != ((b.length - 2 : Nat) : Int))
           ·
            skip
            have p20 : ¬ ((r.1 : Int) ≠ ((b.length - 2 : Nat) : Int)) := by simpa using h20
            refine wc_false rfl ?_
            refine wc_skip ?_
            refine we_then ?_
            refine wc_seq ?_
            refine wc_region ?_
            refine wl_load 37 (.tmp 4) (own_row 1 rfl) rfl rfl rfl Try.underlying37 rfl (by kernel_rfl) ?_
            simp only [Act.put, Xa, Xz, Xs]
            refine wl_call_at 10 #[.agg #[.slice s.ptr i s.cap, .slice v.ptr j v.cap]] (.tuple #[.int .i64 (((chk K (Imo.H1 L)).1 : Nat) : Int), .int .i64 (((chk K (Imo.H1 L)).2 : Nat) : Int)]) rfl (fun _ => by go_simp) (fun W hE => by have a := Tkref.check_any K (Imo.H1 L) s.ptr v.ptr s.cap v.cap W (sl_own (e := 66) [⟨g16, #[.slice q (b.length - 2) c, .int .i64 (r.1 : Int), .bool false], 82⟩, ⟨g2, #[.slice s.ptr i s.cap, .slice v.ptr j v.cap], 37⟩, ⟨g1, #[.slice none 0 0, .slice none 0 0], 37⟩] (v.rows 67 ++ M) e8 rfl W hE) (heldS_ok b5 (hE.sub (List.Sublist.cons _ (List.Sublist.cons _ (List.Sublist.cons _ (List.sublist_append_of_sublist_right (List.sublist_append_of_sublist_right (List.Sublist.refl _)))))))) (sl_own (e := 67) ([⟨g16, #[.slice q (b.length - 2) c, .int .i64 (r.1 : Int), .bool false], 82⟩, ⟨g2, #[.slice s.ptr i s.cap, .slice v.ptr j v.cap], 37⟩, ⟨g1, #[.slice none 0 0, .slice none 0 0], 37⟩] ++ (s.rows 66 ++ [])) M e7 (by simp) W hE) (by omega) (by omega); rw [e6, ← e9] at a; exact a) ?_
            simp only [Act.put, Xa, Xz, Xs]
            refine wl_val (.tuple #[.int .i64 (((chk K (Imo.H1 L)).1 : Nat) : Int), .int .i64 (((chk K (Imo.H1 L)).2 : Nat) : Int)]) rfl (fun _ => rfl) ?_
            simp only [Act.put, Xa, Xz, Xs]
            refine wl_val (.int .i64 (((chk K (Imo.H1 L)).1 : Nat) : Int)) rfl (fun _ => by go_simp) ?_
            simp only [Act.put, Xa, Xz, Xs]
            refine wl_val (.int .i64 (((chk K (Imo.H1 L)).2 : Nat) : Int)) rfl (fun _ => by go_simp) ?_
            simp only [Act.put, Xa, Xz, Xs]
            refine wl_val (.int .i64 (((chk K (Imo.H1 L)).1 : Nat) : Int)) rfl (fun _ => rfl) ?_
            simp only [Act.put, Xa, Xz, Xs]
            refine wl_val (.int .i64 (((chk K (Imo.H1 L)).2 : Nat) : Int)) rfl (fun _ => rfl) ?_
            simp only [Act.put, Xa, Xz, Xs]
            refine wl_nil ?_
            refine we_then ?_
            refine wc_seq ?_
            refine wc_seq ?_
            refine wc_region ?_
            refine wl_val (.int .i64 (((chk K (Imo.H1 L)).1 : Nat) : Int)) rfl (fun _ => rfl) ?_
            simp only [Act.put, Xa, Xz, Xs]
            refine wl_val (.bool ((((chk K (Imo.H1 L)).1 : Nat) : Int) != 0)) rfl (fun w => run_cmp rfl rfl rfl Try.underlying3 rfl w) ?_
            simp only [Act.put, Xa, Xz, Xs]
            refine wl_nil ?_
            refine we_then ?_
            cases h21 : ((((chk K (Imo.H1 L)).1 : Nat) : Int) != 0)
            ·
             skip
             have p21 : ¬ ((((chk K (Imo.H1 L)).1 : Nat) : Int) ≠ 0) := by simpa using h21
             refine wc_false rfl ?_
             refine wc_skip ?_
             refine we_then ?_
             refine wc_seq ?_
             refine wc_region ?_
             refine wl_load 37 (.tmp 4) (own_row 1 rfl) rfl rfl rfl Try.underlying37 rfl (by kernel_rfl) ?_
             simp only [Act.put, Xa, Xz, Xs]
             refine wl_store 2 37 (.tmp 2) (.tmp 136) (#[.slice s.ptr i s.cap, .slice v.ptr j v.cap]) rfl rfl rfl rfl rfl (by kernel_rfl) rfl (by simp [Value.oneCell']) ?_
             simp only [Act.put, List.set_cons_zero, List.set_cons_succ]
             refine wl_val (.int .i64 0) rfl (fun _ => rfl) ?_
             simp only [Act.put, Xa, Xz, Xs]
             refine wl_nil ?_
             refine we_then ?_
             refine wc_ret ?_
             refine we_ret_cell_tmp (.int .i64 0) (own_row 2 rfl) rfl rfl rfl rfl Try.underlying37 rfl (by kernel_rfl) (fun w1 hE => ?_)
             have eH : headB b = true := head_yes (by omega) (byte_yes (k := 79) (by decide) h5) (byte_yes (k := 68) (by decide) h6) (byte_yes (k := 79) (by decide) h7) (byte_yes (k := 49) (by decide) h8)
             have e10 : ¬ ((Imo.p4 L).2 = true ∨ (Imo.p4 L).1 ≠ b.length - 2) := by rw [← e4]; intro h; rcases h with h | h; simp_all; omega
             have e11 : chk K (Imo.H1 L) = chk ((Imo.D1 L).map toSg) (Imo.H1 L) := chk_same (same_map e5)
             have e0 : opnE b = 0 := opn_0 hb6 eH h9 (by rw [hLe]; exact e10) (by rw [hLe, ← e11]; omega)
             exact ⟨⟨K, Imo.H1 L, s.ptr, s.cap, v.ptr, v.cap, s.rows 66 ++ (v.rows 67 ++ M)⟩, ⟨by rw [if_pos e0, hLe]; exact ⟨e5, rfl⟩, (held_own e8).mono (List.sublist_append_left _ _), (held_own e7).mono ((List.sublist_append_left _ _).trans (List.sublist_append_right _ _)), fun z hz => by obtain ⟨x1, x2, x3, x4⟩ := b5 z hz; exact ⟨x1.mono ((List.sublist_append_right _ _).trans (List.sublist_append_right _ _)), x2.mono ((List.sublist_append_right _ _).trans (List.sublist_append_right _ _)), x3, x4⟩⟩, by rw [e0, e6, ← e9]; rfl, hE.sub (List.Sublist.cons _ (List.Sublist.cons _ (List.Sublist.cons _ (List.Sublist.append_left (List.Sublist.append_left (List.Sublist.refl _) _) _))))⟩
            ·
             skip
             have p21 : (((chk K (Imo.H1 L)).1 : Nat) : Int) ≠ 0 := by simpa using h21
             refine wc_true rfl ?_
             refine wc_seq ?_
             refine wc_region ?_
             refine wl_val (.agg #[.slice none 0 0, .slice none 0 0]) rfl (fun _ => by go_simp) ?_
             simp only [Act.put, Xa, Xz, Xs]
             refine wl_store 2 37 (.tmp 2) (.tmp 135) (#[.slice none 0 0, .slice none 0 0]) rfl rfl rfl rfl rfl (by kernel_rfl) rfl (by simp [Value.oneCell']) ?_
             simp only [Act.put, List.set_cons_zero, List.set_cons_succ]
             refine wl_val (.int .i64 51) rfl (fun _ => rfl) ?_
             simp only [Act.put, Xa, Xz, Xs]
             refine wl_nil ?_
             refine we_then ?_
             refine wc_ret ?_
             refine we_then_ret ?_
             refine we_ret_cell_tmp (.int .i64 51) (own_row 2 rfl) rfl rfl rfl rfl Try.underlying37 rfl (by kernel_rfl) (fun w1 hE => ?_)
             have eH : headB b = true := head_yes (by omega) (byte_yes (k := 79) (by decide) h5) (byte_yes (k := 68) (by decide) h6) (byte_yes (k := 79) (by decide) h7) (byte_yes (k := 49) (by decide) h8)
             have e10 : ¬ ((Imo.p4 L).2 = true ∨ (Imo.p4 L).1 ≠ b.length - 2) := by rw [← e4]; intro h; rcases h with h | h; simp_all; omega
             have e11 : chk K (Imo.H1 L) = chk ((Imo.D1 L).map toSg) (Imo.H1 L) := chk_same (same_map e5)
             have e0 : opnE b = 51 := opn_51 hb6 eH h9 (by rw [hLe]; exact e10) (by rw [hLe, ← e11]; omega)
             exact ⟨⟨[], [], none, 0, none, 0, []⟩, ov_none (by rw [e0]; decide), by rw [e0]; rfl, hE.sub (List.nil_sublist _)⟩
           ·
            skip
            have p20 : (r.1 : Int) ≠ ((b.length - 2 : Nat) : Int) := by simpa using h20
            refine wc_true rfl ?_
            refine wc_seq ?_
            refine wc_region ?_
            refine wl_val (.agg #[.slice none 0 0, .slice none 0 0]) rfl (fun _ => by go_simp) ?_
            simp only [Act.put, Xa, Xz, Xs]
            refine wl_store 2 37 (.tmp 2) (.tmp 127) (#[.slice none 0 0, .slice none 0 0]) rfl rfl rfl rfl rfl (by kernel_rfl) rfl (by simp [Value.oneCell']) ?_
            simp only [Act.put, List.set_cons_zero, List.set_cons_succ]
            refine wl_val (.int .i64 14) rfl (fun _ => rfl) ?_
            simp only [Act.put, Xa, Xz, Xs]
            refine wl_nil ?_
            refine we_then ?_
            refine wc_ret ?_
            refine we_then_ret ?_
            refine we_ret_cell_tmp (.int .i64 14) (own_row 2 rfl) rfl rfl rfl rfl Try.underlying37 rfl (by kernel_rfl) (fun w1 hE => ?_)
            have eH : headB b = true := head_yes (by omega) (byte_yes (k := 79) (by decide) h5) (byte_yes (k := 68) (by decide) h6) (byte_yes (k := 79) (by decide) h7) (byte_yes (k := 49) (by decide) h8)
            have e0 : opnE b = 14 := opn_14 hb6 eH h9 (by rw [hLe, ← e4]; first | (left; assumption) | (right; omega))
            exact ⟨⟨[], [], none, 0, none, 0, []⟩, ov_none (by rw [e0]; decide), by rw [e0]; rfl, hE.sub (List.nil_sublist _)⟩
          ·
           skip
           refine wl_skip rfl ?_
           simp only [Act.put, Xa, Xz, Xs]
           refine wl_skip rfl ?_
           simp only [Act.put, Xa, Xz, Xs]
           refine wl_skip rfl ?_
           simp only [Act.put, Xa, Xz, Xs]
           refine wl_skip rfl ?_
           simp only [Act.put, Xa, Xz, Xs]
           refine wl_val (.bool true) rfl (fun _ => rfl) ?_
           simp only [Act.put, Xa, Xz, Xs]
           refine wl_nil ?_
           refine we_then ?_
           refine wc_true rfl ?_
           refine wc_seq ?_
           refine wc_region ?_
           refine wl_val (.agg #[.slice none 0 0, .slice none 0 0]) rfl (fun _ => by go_simp) ?_
           simp only [Act.put, Xa, Xz, Xs]
           refine wl_store 2 37 (.tmp 2) (.tmp 127) (#[.slice none 0 0, .slice none 0 0]) rfl rfl rfl rfl rfl (by kernel_rfl) rfl (by simp [Value.oneCell']) ?_
           simp only [Act.put, List.set_cons_zero, List.set_cons_succ]
           refine wl_val (.int .i64 14) rfl (fun _ => rfl) ?_
           simp only [Act.put, Xa, Xz, Xs]
           refine wl_nil ?_
           refine we_then ?_
           refine wc_ret ?_
           refine we_then_ret ?_
           refine we_ret_cell_tmp (.int .i64 14) (own_row 2 rfl) rfl rfl rfl rfl Try.underlying37 rfl (by kernel_rfl) (fun w1 hE => ?_)
           have eH : headB b = true := head_yes (by omega) (byte_yes (k := 79) (by decide) h5) (byte_yes (k := 68) (by decide) h6) (byte_yes (k := 79) (by decide) h7) (byte_yes (k := 49) (by decide) h8)
           have e0 : opnE b = 14 := opn_14 hb6 eH h9 (by rw [hLe, ← e4]; first | (left; assumption) | (right; omega))
           exact ⟨⟨[], [], none, 0, none, 0, []⟩, ov_none (by rw [e0]; decide), by rw [e0]; rfl, hE.sub (List.nil_sublist _)⟩
         ·
          skip
          have p18 : (j : Int) < ((cntV L t 2 400 : Nat) : Int) := of_decide_eq_true h18
          refine wc_true rfl ?_
          refine wc_skip ?_
          refine we_then ?_
          refine wc_seq ?_
          refine wc_block ?_
          refine wc_seq ?_
          refine wc_region ?_
          refine wl_load 82 (.tmp 6) (own_row 0 rfl) rfl rfl rfl Try.underlying82 rfl (by kernel_rfl) ?_
          simp only [Act.put, Xa, Xz, Xs]
          refine wl_call_at 32 #[.agg #[.slice q (b.length - 2) c, .int .i64 (r.1 : Int), .bool r.2]] (.tuple #[.agg #[.slice q (b.length - 2) c, .int .i64 ((((group L r).1).1 : Nat) : Int), .bool (((group L r).1).2)], .agg #[.int .i64 ((group L r).2.id), .int .i64 ((group L r).2.seg), .int .i64 ((group L r).2.off), .int .i64 ((group L r).2.acc), .int .i64 ((group L r).2.slack)]]) rfl (fun _ => by go_simp) (fun W hE => group_at L q c _ r W hlL ((sl_take_eq (b.length - 2) hLe (sl_old hb)) W hE) (by omega) d4) ?_
          simp only [Act.put, Xa, Xz, Xs]
          refine wl_val (.tuple #[.agg #[.slice q (b.length - 2) c, .int .i64 ((((group L r).1).1 : Nat) : Int), .bool (((group L r).1).2)], .agg #[.int .i64 ((group L r).2.id), .int .i64 ((group L r).2.seg), .int .i64 ((group L r).2.off), .int .i64 ((group L r).2.acc), .int .i64 ((group L r).2.slack)]]) rfl (fun _ => rfl) ?_
          simp only [Act.put, Xa, Xz, Xs]
          refine wl_val (.agg #[.slice q (b.length - 2) c, .int .i64 ((((group L r).1).1 : Nat) : Int), .bool (((group L r).1).2)]) rfl (fun _ => by go_simp) ?_
          simp only [Act.put, Xa, Xz, Xs]
          refine wl_val (.agg #[.int .i64 ((group L r).2.id), .int .i64 ((group L r).2.seg), .int .i64 ((group L r).2.off), .int .i64 ((group L r).2.acc), .int .i64 ((group L r).2.slack)]) rfl (fun _ => by go_simp) ?_
          simp only [Act.put, Xa, Xz, Xs]
          refine wl_new 82 (#[.slice none 0 0, .int .i64 0, .bool false]) rfl (fun _ => by go_simp) ?_
          intro g22
          simp only [Act.put, Xa, Xz, Xs]
          refine wl_new 67 (#[.int .i64 0, .int .i64 0, .int .i64 0, .int .i64 0, .int .i64 0]) rfl (fun _ => by go_simp) ?_
          intro g23
          simp only [Act.put, Xa, Xz, Xs]
          refine wl_store 1 82 (.tmp 13) (.tmp 110) (#[.slice q (b.length - 2) c, .int .i64 ((((group L r).1).1 : Nat) : Int), .bool (((group L r).1).2)]) rfl rfl rfl rfl rfl (by kernel_rfl) rfl (by simp [Value.oneCell']) ?_
          simp only [Act.put, List.set_cons_zero, List.set_cons_succ]
          refine wl_store 0 67 (.tmp 14) (.tmp 111) (#[.int .i64 ((group L r).2.id), .int .i64 ((group L r).2.seg), .int .i64 ((group L r).2.off), .int .i64 ((group L r).2.acc), .int .i64 ((group L r).2.slack)]) rfl rfl rfl rfl rfl (by kernel_rfl) rfl (by simp [Value.oneCell']) ?_
          simp only [Act.put, List.set_cons_zero]
          refine wl_nil ?_
          refine we_then ?_
          refine wc_seq ?_
          refine wc_region ?_
          refine wl_load 82 (.tmp 13) (own_row 1 rfl) rfl rfl rfl Try.underlying82 rfl (by kernel_rfl) ?_
          simp only [Act.put, Xa, Xz, Xs]
          refine wl_store 2 82 (.tmp 6) (.tmp 112) (#[.slice q (b.length - 2) c, .int .i64 ((((group L r).1).1 : Nat) : Int), .bool (((group L r).1).2)]) rfl rfl rfl rfl rfl (by kernel_rfl) rfl (by simp [Value.oneCell']) ?_
          simp only [Act.put, List.set_cons_zero, List.set_cons_succ]
          refine wl_nil ?_
          refine we_then ?_
          refine wc_region ?_
          refine wl_val (.pointer (some ⟨g2, 1, none⟩)) rfl (fun _ => by go_simp) ?_
          simp only [Act.put, Xa, Xz, Xs]
          refine wl_cell 35 (.tmp 113) (.slice v.ptr j v.cap) (own_row 3 rfl) rfl rfl rfl rfl Try.isAgg35 ?_
          simp only [Act.put, Xa, Xz, Xs]
          refine wl_load 67 (.tmp 14) (own_row 0 rfl) rfl rfl rfl Try.underlying67 rfl (by kernel_rfl) ?_
          simp only [Act.put, Xa, Xz, Xs]
          refine wl_lit (e := 67) #[.int .i64 ((group L r).2.id), .int .i64 ((group L r).2.seg), .int .i64 ((group L r).2.off), .int .i64 ((group L r).2.acc), .int .i64 ((group L r).2.slack)] 1 rfl (fun _ => by go_simp) ?_
          intro g24
          simp only [Act.put, Xa, Xz, Xs]
          refine wl_append (e := 67) (size := 5) (bytes := 40) (m := 1) ([⟨g24, #[.int .i64 ((group L r).2.id), .int .i64 ((group L r).2.seg), .int .i64 ((group L r).2.off), .int .i64 ((group L r).2.acc), .int .i64 ((group L r).2.slack)], 67⟩, ⟨g23, #[.int .i64 ((group L r).2.id), .int .i64 ((group L r).2.seg), .int .i64 ((group L r).2.off), .int .i64 ((group L r).2.acc), .int .i64 ((group L r).2.slack)], 67⟩, ⟨g22, #[.slice q (b.length - 2) c, .int .i64 ((((group L r).1).1 : Nat) : Int), .bool (((group L r).1).2)], 82⟩, ⟨g16, #[.slice q (b.length - 2) c, .int .i64 ((((group L r).1).1 : Nat) : Int), .bool (((group L r).1).2)], 82⟩, ⟨g2, #[.slice s.ptr i s.cap, .slice v.ptr j v.cap], 37⟩, ⟨g1, #[.slice none 0 0, .slice none 0 0], 37⟩] ++ (s.rows 66 ++ [])) M v (ys := [.int .i64 ((group L r).2.id), .int .i64 ((group L r).2.seg), .int .i64 ((group L r).2.off), .int .i64 ((group L r).2.acc), .int .i64 ((group L r).2.slack)]) (by simp) d3 (sl_row 0 rfl) rfl (by simp [Value.oneCell']) rfl rfl rfl rfl Try.underlying35 (by unfold Elem; kernel_rfl) (by decide) (by unfold maxLen; omega) (by omega) ?_
          intro s25 hs25
          simp only [List.append_assoc, List.cons_append, List.nil_append, Act.put, Xa, Xz, Xs]
          refine wl_val (.pointer (some ⟨g2, 1, none⟩)) rfl (fun _ => by go_simp) ?_
          simp only [Act.put, Xa, Xz, Xs]
          refine wl_store_cell 4 35 (.tmp 118) (.tmp 117) (.slice v.ptr j v.cap) (.slice s25.ptr (j + 1) s25.cap) rfl rfl rfl rfl rfl rfl (by kernel_rfl) rfl ?_
          simp only [Act.put, List.set_cons_zero, List.set_cons_succ]
          refine wl_nil ?_
          refine we_in ?_
          refine we_then ?_
          refine wc_region ?_
          refine wl_val (.int .i64 (j : Int)) rfl (fun _ => rfl) ?_
          simp only [Act.put, Xa, Xz, Xs]
          refine wl_val (.int .i64 ((j + 1 : Nat) : Int)) rfl (fun w => run_nat (X := j) (Y := 1) (Z := j + 1) rfl rfl rfl rfl (by omega) w) ?_
          simp only [Act.put, Xa, Xz, Xs]
          refine wl_val (.int .i64 ((j + 1 : Nat) : Int)) rfl (fun _ => rfl) ?_
          simp only [Act.put, Xa, Xz, Xs]
          refine wl_nil ?_
          exact we_meet ⟨(j + 1), (group L r).1, s25, _, _, _, _, _, _, _, _, _, _, _, _, _, _, _, _, _, _, _⟩ (by (try dsimp only); exact ⟨⟨by omega, by rw [d2]; rfl, by rw [d2] at hs25; exact has_snoc (x := (group L (manyS (group L) (cntS L t 2 400) j)).2) hs25, group_le r d4⟩, by omega⟩) rfl (List.Sublist.cons _ (List.Sublist.cons _ (List.Sublist.cons _ (List.Sublist.cons_cons _ (List.Sublist.cons_cons _ (List.Sublist.cons_cons _ (List.Sublist.append_left (List.Sublist.append_left (List.Sublist.refl _) _) _)))))))
        ·
         skip
         have p17 : (i : Int) < ((cntV L (4, false) 2 200 : Nat) : Int) := of_decide_eq_true h17
         refine wc_true rfl ?_
         refine wc_skip ?_
         refine we_then ?_
         refine wc_seq ?_
         refine wc_block ?_
         refine wc_seq ?_
         refine wc_region ?_
         refine wl_load 82 (.tmp 6) (own_row 0 rfl) rfl rfl rfl Try.underlying82 rfl (by kernel_rfl) ?_
         simp only [Act.put, Xa, Xz, Xs]
         refine wl_call_open (ι := Sv) (fun zz => match zz with | zk26 => ⟨g16, #[.slice q (b.length - 2) c, .int .i64 (t.1 : Int), .bool t.2], 82⟩ :: ⟨g2, #[.slice s.ptr i s.cap, .slice none 0 0], 37⟩ :: ⟨g1, #[.slice none 0 0, .slice none 0 0], 37⟩ :: (s.rows 66 ++ (M ++ zk26.N))) 31 #[.agg #[.slice q (b.length - 2) c, .int .i64 (t.1 : Int), .bool t.2]] (fun zz => match zz with | zk26 => .tuple #[.agg #[.slice q (b.length - 2) c, .int .i64 ((((segmt L t).1).1 : Nat) : Int), .bool (((segmt L t).1).2)], .agg #[.int .i64 ((segmt L t).2.len), .slice zk26.p ((segmt L t).2.P.length) zk26.c, .slice zk26.q ((segmt L t).2.X.length) zk26.d]]) (fun zz => match zz with | zk26 => zk26.N) (fun zz => match zz with | zk26 => Held zk26.N zk26.p (flat enc2 (segmt L t).2.P) ∧ Held zk26.N zk26.q (flat enc1 (segmt L t).2.X)) (by rintro zk26; simp) rfl (fun _ => by go_simp) (fun W hE => segment_open L q c _ t W hlL ((sl_take_eq (b.length - 2) hLe (sl_old hb)) W hE) (by omega) b6) ?_
         rintro zk26 k26
         (try dsimp only)
         simp only [Act.put, Xa, Xz, Xs]
         refine wl_val (.tuple #[.agg #[.slice q (b.length - 2) c, .int .i64 ((((segmt L t).1).1 : Nat) : Int), .bool (((segmt L t).1).2)], .agg #[.int .i64 ((segmt L t).2.len), .slice zk26.p ((segmt L t).2.P.length) zk26.c, .slice zk26.q ((segmt L t).2.X.length) zk26.d]]) rfl (fun _ => rfl) ?_
         simp only [Act.put, Xa, Xz, Xs]
         refine wl_val (.agg #[.slice q (b.length - 2) c, .int .i64 ((((segmt L t).1).1 : Nat) : Int), .bool (((segmt L t).1).2)]) rfl (fun _ => by go_simp) ?_
         simp only [Act.put, Xa, Xz, Xs]
         refine wl_val (.agg #[.int .i64 ((segmt L t).2.len), .slice zk26.p ((segmt L t).2.P.length) zk26.c, .slice zk26.q ((segmt L t).2.X.length) zk26.d]) rfl (fun _ => by go_simp) ?_
         simp only [Act.put, Xa, Xz, Xs]
         refine wl_new 82 (#[.slice none 0 0, .int .i64 0, .bool false]) rfl (fun _ => by go_simp) ?_
         intro g27
         simp only [Act.put, Xa, Xz, Xs]
         refine wl_new 66 (#[.int .i64 0, .slice none 0 0, .slice none 0 0]) rfl (fun _ => by go_simp) ?_
         intro g28
         simp only [Act.put, Xa, Xz, Xs]
         refine wl_store 1 82 (.tmp 9) (.tmp 88) (#[.slice q (b.length - 2) c, .int .i64 ((((segmt L t).1).1 : Nat) : Int), .bool (((segmt L t).1).2)]) rfl rfl rfl rfl rfl (by kernel_rfl) rfl (by simp [Value.oneCell']) ?_
         simp only [Act.put, List.set_cons_zero, List.set_cons_succ]
         refine wl_store 0 66 (.tmp 10) (.tmp 89) (#[.int .i64 ((segmt L t).2.len), .slice zk26.p ((segmt L t).2.P.length) zk26.c, .slice zk26.q ((segmt L t).2.X.length) zk26.d]) rfl rfl rfl rfl rfl (by kernel_rfl) rfl (by simp [Value.oneCell']) ?_
         simp only [Act.put, List.set_cons_zero]
         refine wl_nil ?_
         refine we_then ?_
         refine wc_seq ?_
         refine wc_region ?_
         refine wl_load 82 (.tmp 9) (own_row 1 rfl) rfl rfl rfl Try.underlying82 rfl (by kernel_rfl) ?_
         simp only [Act.put, Xa, Xz, Xs]
         refine wl_store 2 82 (.tmp 6) (.tmp 90) (#[.slice q (b.length - 2) c, .int .i64 ((((segmt L t).1).1 : Nat) : Int), .bool (((segmt L t).1).2)]) rfl rfl rfl rfl rfl (by kernel_rfl) rfl (by simp [Value.oneCell']) ?_
         simp only [Act.put, List.set_cons_zero, List.set_cons_succ]
         refine wl_nil ?_
         refine we_then ?_
         refine wc_region ?_
         refine wl_val (.pointer (some ⟨g2, 0, none⟩)) rfl (fun _ => by go_simp) ?_
         simp only [Act.put, Xa, Xz, Xs]
         refine wl_cell 34 (.tmp 91) (.slice s.ptr i s.cap) (own_row 3 rfl) rfl rfl rfl rfl Try.isAgg34 ?_
         simp only [Act.put, Xa, Xz, Xs]
         refine wl_load 66 (.tmp 10) (own_row 0 rfl) rfl rfl rfl Try.underlying66 rfl (by kernel_rfl) ?_
         simp only [Act.put, Xa, Xz, Xs]
         refine wl_lit (e := 66) #[.int .i64 ((segmt L t).2.len), .slice zk26.p ((segmt L t).2.P.length) zk26.c, .slice zk26.q ((segmt L t).2.X.length) zk26.d] 1 rfl (fun _ => by go_simp) ?_
         intro g29
         simp only [Act.put, Xa, Xz, Xs]
         refine wl_append (e := 66) (size := 3) (bytes := 56) (m := 1) [⟨g29, #[.int .i64 ((segmt L t).2.len), .slice zk26.p ((segmt L t).2.P.length) zk26.c, .slice zk26.q ((segmt L t).2.X.length) zk26.d], 66⟩, ⟨g28, #[.int .i64 ((segmt L t).2.len), .slice zk26.p ((segmt L t).2.P.length) zk26.c, .slice zk26.q ((segmt L t).2.X.length) zk26.d], 66⟩, ⟨g27, #[.slice q (b.length - 2) c, .int .i64 ((((segmt L t).1).1 : Nat) : Int), .bool (((segmt L t).1).2)], 82⟩, ⟨g16, #[.slice q (b.length - 2) c, .int .i64 ((((segmt L t).1).1 : Nat) : Int), .bool (((segmt L t).1).2)], 82⟩, ⟨g2, #[.slice s.ptr i s.cap, .slice none 0 0], 37⟩, ⟨g1, #[.slice none 0 0, .slice none 0 0], 37⟩] (M ++ zk26.N) s (ys := [.int .i64 ((segmt L t).2.len), .slice zk26.p ((segmt L t).2.P.length) zk26.c, .slice zk26.q ((segmt L t).2.X.length) zk26.d]) rfl b3 (sl_row 0 rfl) rfl (by simp [Value.oneCell']) rfl rfl rfl rfl Try.underlying34 (by unfold Elem; kernel_rfl) (by decide) (by unfold maxLen; omega) (by omega) ?_
         intro s30 hs30
         simp only [List.cons_append, List.nil_append, Act.put, Xa, Xz, Xs]
         refine wl_val (.pointer (some ⟨g2, 0, none⟩)) rfl (fun _ => by go_simp) ?_
         simp only [Act.put, Xa, Xz, Xs]
         refine wl_store_cell 4 34 (.tmp 96) (.tmp 95) (.slice s.ptr i s.cap) (.slice s30.ptr (i + 1) s30.cap) rfl rfl rfl rfl rfl rfl (by kernel_rfl) rfl ?_
         simp only [Act.put, List.set_cons_zero, List.set_cons_succ]
         refine wl_nil ?_
         refine we_in ?_
         refine we_then ?_
         refine wc_region ?_
         refine wl_val (.int .i64 (i : Int)) rfl (fun _ => rfl) ?_
         simp only [Act.put, Xa, Xz, Xs]
         refine wl_val (.int .i64 ((i + 1 : Nat) : Int)) rfl (fun w => run_nat (X := i) (Y := 1) (Z := i + 1) rfl rfl rfl rfl (by omega) w) ?_
         simp only [Act.put, Xa, Xz, Xs]
         refine wl_val (.int .i64 ((i + 1 : Nat) : Int)) rfl (fun _ => rfl) ?_
         simp only [Act.put, Xa, Xz, Xs]
         refine wl_nil ?_
         exact we_meet ⟨(i + 1), (segmt L t).1, s30, (M ++ zk26.N), (K ++ [⟨(segmt L t).2.len, zk26.p, (segmt L t).2.P, zk26.c, zk26.q, (segmt L t).2.X, zk26.d⟩]), _, _, _, _, _, _, _, _, _, _, _, _, _, _, _, _, _, _, _⟩ (by (try dsimp only); exact ⟨⟨by omega, by rw [b2]; rfl, has_snoc (x := (⟨(segmt L t).2.len, zk26.p, (segmt L t).2.P, zk26.c, zk26.q, (segmt L t).2.X, zk26.d⟩ : Sg)) hs30, by rw [List.map_append, b4, b2]; rfl, heldS_snoc b5 k26.1 k26.2 (segmt_few L t).1 (segmt_few L t).2, segmt_le t b6⟩, by omega⟩) rfl (List.Sublist.cons _ (List.Sublist.cons _ (List.Sublist.cons _ (List.Sublist.cons_cons _ (List.Sublist.cons_cons _ (List.Sublist.cons_cons _ (List.Sublist.append_left (List.Sublist.refl _) _)))))))
      ·
       skip
       have p8 : ((b[3]!).toBitVec) ≠ (49#8) := by simpa using h8
       refine wc_true rfl ?_
       refine wc_seq ?_
       refine wc_region ?_
       refine wl_load 37 (.tmp 4) (own_row 0 rfl) rfl rfl rfl Try.underlying37 rfl (by kernel_rfl) ?_
       simp only [Act.put, Xa, Xz, Xs]
       refine wl_store 1 37 (.tmp 2) (.tmp 48) (#[.slice none 0 0, .slice none 0 0]) rfl rfl rfl rfl rfl (by kernel_rfl) rfl (by simp [Value.oneCell']) ?_
       simp only [Act.put, List.set_cons_zero, List.set_cons_succ]
       refine wl_val (.int .i64 11) rfl (fun _ => rfl) ?_
       simp only [Act.put, Xa, Xz, Xs]
       refine wl_nil ?_
       refine we_then ?_
       refine wc_ret ?_
       refine we_then_ret ?_
       refine we_ret_cell_tmp (.int .i64 11) (own_row 1 rfl) rfl rfl rfl rfl Try.underlying37 rfl (by kernel_rfl) (fun w1 hE => ?_)
       have e0 : opnE b = 11 := opn_11 hb6 (by unfold headB; rw [show (bt b 3 == 49) = false from byte_no (k := 49) (by decide) h8]; simp)
       exact ⟨⟨[], [], none, 0, none, 0, []⟩, ov_none (by rw [e0]; decide), by rw [e0]; rfl, hE.sub (List.nil_sublist _)⟩
     ·
      skip
      have p7 : ((b[2]!).toBitVec) ≠ (79#8) := by simpa using h7
      refine wl_skip rfl ?_
      simp only [Act.put, Xa, Xz, Xs]
      refine wl_skip rfl ?_
      simp only [Act.put, Xa, Xz, Xs]
      refine wl_skip rfl ?_
      simp only [Act.put, Xa, Xz, Xs]
      refine wl_skip rfl ?_
      simp only [Act.put, Xa, Xz, Xs]
      refine wl_val (.bool true) rfl (fun _ => rfl) ?_
      simp only [Act.put, Xa, Xz, Xs]
      refine wl_nil ?_
      refine we_then ?_
      refine wc_true rfl ?_
      refine wc_seq ?_
      refine wc_region ?_
      refine wl_load 37 (.tmp 4) (own_row 0 rfl) rfl rfl rfl Try.underlying37 rfl (by kernel_rfl) ?_
      simp only [Act.put, Xa, Xz, Xs]
      refine wl_store 1 37 (.tmp 2) (.tmp 48) (#[.slice none 0 0, .slice none 0 0]) rfl rfl rfl rfl rfl (by kernel_rfl) rfl (by simp [Value.oneCell']) ?_
      simp only [Act.put, List.set_cons_zero, List.set_cons_succ]
      refine wl_val (.int .i64 11) rfl (fun _ => rfl) ?_
      simp only [Act.put, Xa, Xz, Xs]
      refine wl_nil ?_
      refine we_then ?_
      refine wc_ret ?_
      refine we_then_ret ?_
      refine we_ret_cell_tmp (.int .i64 11) (own_row 1 rfl) rfl rfl rfl rfl Try.underlying37 rfl (by kernel_rfl) (fun w1 hE => ?_)
      have e0 : opnE b = 11 := opn_11 hb6 (by unfold headB; rw [show (bt b 2 == 79) = false from byte_no (k := 79) (by decide) h7]; simp)
      exact ⟨⟨[], [], none, 0, none, 0, []⟩, ov_none (by rw [e0]; decide), by rw [e0]; rfl, hE.sub (List.nil_sublist _)⟩
    ·
     skip
     have p6 : ((b[1]!).toBitVec) ≠ (68#8) := by simpa using h6
     refine wl_skip rfl ?_
     simp only [Act.put, Xa, Xz, Xs]
     refine wl_skip rfl ?_
     simp only [Act.put, Xa, Xz, Xs]
     refine wl_skip rfl ?_
     simp only [Act.put, Xa, Xz, Xs]
     refine wl_skip rfl ?_
     simp only [Act.put, Xa, Xz, Xs]
     refine wl_val (.bool true) rfl (fun _ => rfl) ?_
     simp only [Act.put, Xa, Xz, Xs]
     refine wl_val (.bool true) rfl (fun _ => rfl) ?_
     simp only [Act.put, Xa, Xz, Xs]
     refine wl_skip rfl ?_
     simp only [Act.put, Xa, Xz, Xs]
     refine wl_skip rfl ?_
     simp only [Act.put, Xa, Xz, Xs]
     refine wl_skip rfl ?_
     simp only [Act.put, Xa, Xz, Xs]
     refine wl_skip rfl ?_
     simp only [Act.put, Xa, Xz, Xs]
     refine wl_val (.bool true) rfl (fun _ => rfl) ?_
     simp only [Act.put, Xa, Xz, Xs]
     refine wl_nil ?_
     refine we_then ?_
     refine wc_true rfl ?_
     refine wc_seq ?_
     refine wc_region ?_
     refine wl_load 37 (.tmp 4) (own_row 0 rfl) rfl rfl rfl Try.underlying37 rfl (by kernel_rfl) ?_
     simp only [Act.put, Xa, Xz, Xs]
     refine wl_store 1 37 (.tmp 2) (.tmp 48) (#[.slice none 0 0, .slice none 0 0]) rfl rfl rfl rfl rfl (by kernel_rfl) rfl (by simp [Value.oneCell']) ?_
     simp only [Act.put, List.set_cons_zero, List.set_cons_succ]
     refine wl_val (.int .i64 11) rfl (fun _ => rfl) ?_
     simp only [Act.put, Xa, Xz, Xs]
     refine wl_nil ?_
     refine we_then ?_
     refine wc_ret ?_
     refine we_then_ret ?_
     refine we_ret_cell_tmp (.int .i64 11) (own_row 1 rfl) rfl rfl rfl rfl Try.underlying37 rfl (by kernel_rfl) (fun w1 hE => ?_)
     have e0 : opnE b = 11 := opn_11 hb6 (by unfold headB; rw [show (bt b 1 == 68) = false from byte_no (k := 68) (by decide) h6]; simp)
     exact ⟨⟨[], [], none, 0, none, 0, []⟩, ov_none (by rw [e0]; decide), by rw [e0]; rfl, hE.sub (List.nil_sublist _)⟩
   ·
    skip
    have p5 : ((b[0]!).toBitVec) ≠ (79#8) := by simpa using h5
    refine wl_skip rfl ?_
    simp only [Act.put, Xa, Xz, Xs]
    refine wl_skip rfl ?_
    simp only [Act.put, Xa, Xz, Xs]
    refine wl_skip rfl ?_
    simp only [Act.put, Xa, Xz, Xs]
    refine wl_skip rfl ?_
    simp only [Act.put, Xa, Xz, Xs]
    refine wl_val (.bool true) rfl (fun _ => rfl) ?_
    simp only [Act.put, Xa, Xz, Xs]
    refine wl_val (.bool true) rfl (fun _ => rfl) ?_
    simp only [Act.put, Xa, Xz, Xs]
    refine wl_skip rfl ?_
    simp only [Act.put, Xa, Xz, Xs]
    refine wl_skip rfl ?_
    simp only [Act.put, Xa, Xz, Xs]
    refine wl_skip rfl ?_
    simp only [Act.put, Xa, Xz, Xs]
    refine wl_skip rfl ?_
    simp only [Act.put, Xa, Xz, Xs]
    refine wl_val (.bool true) rfl (fun _ => rfl) ?_
    simp only [Act.put, Xa, Xz, Xs]
    refine wl_val (.bool true) rfl (fun _ => rfl) ?_
    simp only [Act.put, Xa, Xz, Xs]
    refine wl_skip rfl ?_
    simp only [Act.put, Xa, Xz, Xs]
    refine wl_skip rfl ?_
    simp only [Act.put, Xa, Xz, Xs]
    refine wl_skip rfl ?_
    simp only [Act.put, Xa, Xz, Xs]
    refine wl_skip rfl ?_
    simp only [Act.put, Xa, Xz, Xs]
    refine wl_val (.bool true) rfl (fun _ => rfl) ?_
    simp only [Act.put, Xa, Xz, Xs]
    refine wl_nil ?_
    refine we_then ?_
    refine wc_true rfl ?_
    refine wc_seq ?_
    refine wc_region ?_
    refine wl_load 37 (.tmp 4) (own_row 0 rfl) rfl rfl rfl Try.underlying37 rfl (by kernel_rfl) ?_
    simp only [Act.put, Xa, Xz, Xs]
    refine wl_store 1 37 (.tmp 2) (.tmp 48) (#[.slice none 0 0, .slice none 0 0]) rfl rfl rfl rfl rfl (by kernel_rfl) rfl (by simp [Value.oneCell']) ?_
    simp only [Act.put, List.set_cons_zero, List.set_cons_succ]
    refine wl_val (.int .i64 11) rfl (fun _ => rfl) ?_
    simp only [Act.put, Xa, Xz, Xs]
    refine wl_nil ?_
    refine we_then ?_
    refine wc_ret ?_
    refine we_then_ret ?_
    refine we_ret_cell_tmp (.int .i64 11) (own_row 1 rfl) rfl rfl rfl rfl Try.underlying37 rfl (by kernel_rfl) (fun w1 hE => ?_)
    have e0 : opnE b = 11 := opn_11 hb6 (by unfold headB; rw [show (bt b 0 == 79) = false from byte_no (k := 79) (by decide) h5]; simp)
    exact ⟨⟨[], [], none, 0, none, 0, []⟩, ov_none (by rw [e0]; decide), by rw [e0]; rfl, hE.sub (List.nil_sublist _)⟩
  ·
   skip
   have p4 : (b.length : Int) < 6 := of_decide_eq_true h4
   refine wl_skip rfl ?_
   simp only [Act.put, Xa, Xz, Xs]
   refine wl_skip rfl ?_
   simp only [Act.put, Xa, Xz, Xs]
   refine wl_skip rfl ?_
   simp only [Act.put, Xa, Xz, Xs]
   refine wl_skip rfl ?_
   simp only [Act.put, Xa, Xz, Xs]
   refine wl_val (.bool true) rfl (fun _ => rfl) ?_
   simp only [Act.put, Xa, Xz, Xs]
   refine wl_val (.bool true) rfl (fun _ => rfl) ?_
   simp only [Act.put, Xa, Xz, Xs]
   refine wl_skip rfl ?_
   simp only [Act.put, Xa, Xz, Xs]
   refine wl_skip rfl ?_
   simp only [Act.put, Xa, Xz, Xs]
   refine wl_skip rfl ?_
   simp only [Act.put, Xa, Xz, Xs]
   refine wl_skip rfl ?_
   simp only [Act.put, Xa, Xz, Xs]
   refine wl_val (.bool true) rfl (fun _ => rfl) ?_
   simp only [Act.put, Xa, Xz, Xs]
   refine wl_val (.bool true) rfl (fun _ => rfl) ?_
   simp only [Act.put, Xa, Xz, Xs]
   refine wl_skip rfl ?_
   simp only [Act.put, Xa, Xz, Xs]
   refine wl_skip rfl ?_
   simp only [Act.put, Xa, Xz, Xs]
   refine wl_skip rfl ?_
   simp only [Act.put, Xa, Xz, Xs]
   refine wl_skip rfl ?_
   simp only [Act.put, Xa, Xz, Xs]
   refine wl_val (.bool true) rfl (fun _ => rfl) ?_
   simp only [Act.put, Xa, Xz, Xs]
   refine wl_val (.bool true) rfl (fun _ => rfl) ?_
   simp only [Act.put, Xa, Xz, Xs]
   refine wl_skip rfl ?_
   simp only [Act.put, Xa, Xz, Xs]
   refine wl_skip rfl ?_
   simp only [Act.put, Xa, Xz, Xs]
   refine wl_skip rfl ?_
   simp only [Act.put, Xa, Xz, Xs]
   refine wl_skip rfl ?_
   simp only [Act.put, Xa, Xz, Xs]
   refine wl_val (.bool true) rfl (fun _ => rfl) ?_
   simp only [Act.put, Xa, Xz, Xs]
   refine wl_nil ?_
   refine we_then ?_
   refine wc_true rfl ?_
   refine wc_seq ?_
   refine wc_region ?_
   refine wl_load 37 (.tmp 4) (own_row 0 rfl) rfl rfl rfl Try.underlying37 rfl (by kernel_rfl) ?_
   simp only [Act.put, Xa, Xz, Xs]
   refine wl_store 1 37 (.tmp 2) (.tmp 48) (#[.slice none 0 0, .slice none 0 0]) rfl rfl rfl rfl rfl (by kernel_rfl) rfl (by simp [Value.oneCell']) ?_
   simp only [Act.put, List.set_cons_zero, List.set_cons_succ]
   refine wl_val (.int .i64 11) rfl (fun _ => rfl) ?_
   simp only [Act.put, Xa, Xz, Xs]
   refine wl_nil ?_
   refine we_then ?_
   refine wc_ret ?_
   refine we_then_ret ?_
   refine we_ret_cell_tmp (.int .i64 11) (own_row 1 rfl) rfl rfl rfl rfl Try.underlying37 rfl (by kernel_rfl) (fun w1 hE => ?_)
   have e0 : opnE b = 11 := opn_11 hb6 (by unfold headB; rw [decide_eq_false (by omega)]; rfl)
   exact ⟨⟨[], [], none, 0, none, 0, []⟩, ov_none (by rw [e0]; decide), by rw [e0]; rfl, hE.sub (List.nil_sublist _)⟩
 ·
  skip
  have p3 : 1048576 < (b.length : Int) := of_decide_eq_true h3
  refine wc_true rfl ?_
  refine wc_seq ?_
  refine wc_region ?_
  refine wl_load 37 (.tmp 4) (own_row 0 rfl) rfl rfl rfl Try.underlying37 rfl (by kernel_rfl) ?_
  simp only [Act.put, Xa, Xz, Xs]
  refine wl_store 1 37 (.tmp 2) (.tmp 20) (#[.slice none 0 0, .slice none 0 0]) rfl rfl rfl rfl rfl (by kernel_rfl) rfl (by simp [Value.oneCell']) ?_
  simp only [Act.put, List.set_cons_zero, List.set_cons_succ]
  refine wl_val (.int .i64 15) rfl (fun _ => rfl) ?_
  simp only [Act.put, Xa, Xz, Xs]
  refine wl_nil ?_
  refine we_then ?_
  refine wc_ret ?_
  refine we_then_ret ?_
  refine we_ret_cell_tmp (.int .i64 15) (own_row 1 rfl) rfl rfl rfl rfl Try.underlying37 rfl (by kernel_rfl) (fun w1 hE => ?_)
  exact (by exfalso; omega)
end Go.Proofs.Ytggannjlaehihaa.Imrefo
