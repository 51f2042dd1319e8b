/-
 The reference of layer 12, laying: a number in bytes, a track that may be as bytes.
-/
import Derived.Test.YtggannjlaehihaaImo
import Derived.Test.YtggannjlaehihaaSh
import Derived.Test.YtggannjlaehihaaCref
namespace Go.Proofs.Ytggannjlaehihaa.Imput
open Go.ChangeShapes Go.WideShapes Go.ChangeAt Go.RowKit
open Arr Steady Sx Sw Sl Sb Sc Si Sj Sk Sh Cr Fr Vs Gr Tk Tkh Tkl Img Imp Imo Cref
set_option linter.unusedVariables false
set_option linter.unusedSimpArgs false
set_option maxRecDepth 100000

theorem put_set {m : Nat} {X : List UInt8} {y : UInt8} (hm : 1 ≤ m) : (List.replicate m 0 ++ X).set (m - 1) y = List.replicate (m - 1) 0 ++ (y :: X) := by
 obtain ⟨k, rfl⟩ : ∃ k, m = k + 1 := ⟨m - 1, by omega⟩
 rw [Nat.add_sub_cancel, List.replicate_succ', List.append_assoc, List.set_append]
 simp
theorem put_len {m n : Nat} {X : List UInt8} (h : X.length + m = n) : (List.replicate m (0 : UInt8) ++ X).length = n := by rw [List.length_append, List.length_replicate]; omega
theorem put_neg {m : Nat} {w : Int} {X Y : List UInt8} (hm : 1 ≤ m) (h : pb (-1 - w) m ++ X = Y) : pb (-1 - w / 256) (m - 1) ++ (by8 (255 - w % 256) :: X) = Y := by
 obtain ⟨k, rfl⟩ : ∃ k, m = k + 1 := ⟨m - 1, by omega⟩
 rw [← h, Nat.add_sub_cancel]
 show _ = (pb ((-1 - w) / 256) k ++ [by8 (-1 - w)]) ++ X
 rw [show (-1 - w) / 256 = -1 - w / 256 by omega, byte_eq (show (-1 - w) % 256 = (255 - w % 256) % 256 by omega), List.append_assoc]
 rfl
theorem put_pos {m : Nat} {v : Int} {X Y : List UInt8} (hm : 1 ≤ m) (h : pb v m ++ X = Y) : pb (v / 256) (m - 1) ++ (by8 (v % 256) :: X) = Y := by
 obtain ⟨k, rfl⟩ : ∃ k, m = k + 1 := ⟨m - 1, by omega⟩
 rw [← h, Nat.add_sub_cancel]
 show _ = (pb (v / 256) k ++ [by8 v]) ++ X
 rw [byte_eq (show v % 256 = (v % 256) % 256 by omega), List.append_assoc]
 rfl
set_option maxHeartbeats 4000000 in
theorem put_any (v : Int) (n : Nat) (w : World) (hv : -9223372036854775808 ≤ v ∧ v ≤ 9223372036854775807) (h1 : 1 ≤ n) (h8 : n ≤ 8) :
  Calls Try.prog 28 #[.int .i64 v, .int .i64 (n : Int)] w fun e w' => ∃ g : Nat, True ∧ e = .returned (.slice (some ⟨g, 0, none⟩) n n) ∧ Env w w' [⟨g, (flat ub (pb v n)).toArray, 5⟩] := by
 refine calls_sx Try.func28 rfl ?_
 simp only [Try.ntmps28, List.size_toArray, List.length_cons, List.length_nil, Nat.reduceAdd, Nat.reduceSub, Array.replicate_succ, Array.replicate_zero, List.push_toArray, List.append_toArray, List.nil_append, List.cons_append]
 refine wc_seq ?_
 refine wc_region ?_
 refine wl_val (.slice none 0 0) rfl (fun _ => rfl) ?_
 simp only [Act.put, Xa, Xz, Xs]
 refine wl_nil ?_
 refine we_then ?_
 refine wc_seq ?_
 refine wc_region ?_
 refine wl_val (.int .i64 (n : Int)) rfl (fun _ => rfl) ?_
 simp only [Act.put, Xa, Xz, Xs]
 refine wl_make (e := 5) n rfl rfl rfl rfl rfl rfl (by omega) Try.underlying28 (by kernel_rfl) ?_
 intro g1
 simp only [Act.put, Xa, Xz, Xs]
 refine wl_val (.slice (some ⟨g1, 0, none⟩) n n) rfl (fun _ => rfl) ?_
 simp only [Act.put, Xa, Xz, Xs]
 refine wl_nil ?_
 refine we_then ?_
 refine wc_seq ?_
 refine wc_seq ?_
 refine wc_region ?_
 refine wl_val (.int .i64 v) rfl (fun _ => rfl) ?_
 simp only [Act.put, Xa, Xz, Xs]
 refine wl_val (.bool (decide (v < 0))) rfl (fun w => run_cmp rfl rfl rfl Try.underlying2 rfl w) ?_
 simp only [Act.put, Xa, Xz, Xs]
 refine wl_nil ?_
 refine we_then ?_
 cases h2 : (decide (v < 0))
 ·
  skip
  have p2 : ¬ (v < 0) := of_decide_eq_false h2
  refine wc_false rfl ?_
  refine wc_skip ?_
  refine we_then ?_
  refine wc_seq ?_
  refine wc_seq ?_
  rw [show List.replicate n (0 : UInt8) = List.replicate n 0 ++ [] from (List.append_nil _).symm]
  refine wc_region ?_
  refine wl_val (.int .i64 (n : Int)) rfl (fun _ => rfl) ?_
  simp only [Act.put, Xa, Xz, Xs]
  refine wl_val (.int .i64 ((n : Int) - 1)) rfl (fun w => run_arith (op := .sub) rfl rfl rfl Try.underlying3 (congrArg some (i64_in (by omega) (by omega))) w) ?_
  simp only [Act.put, Xa, Xz, Xs]
  refine wl_val (.int .i64 ((n : Int) - 1)) rfl (fun _ => rfl) ?_
  simp only [Act.put, Xa, Xz, Xs]
  refine wl_nil ?_
  refine we_then ?_
  refine wc_block ?_
  refine wc_loop (fun (zz : Nat × Int × Int × List UInt8 × Value × Value × Value × Value × Value × Value × Value × Value × Value × Value × Value × Value) => match zz with | ⟨m, z, x, X, u33, u34, u35, u36, u37, u38, u39, u40, u41, u42, u43, u44⟩ => ({ tmps := #[.int .i64 x, .int .i64 (n : Int), undef, undef, .slice none 0 0, .slice (some ⟨g1, 0, none⟩) n n, undef, undef, .int .i64 z, .int .i64 (n : Int), .slice (some ⟨g1, 0, none⟩) n n, .int .i64 v, .bool false, undef, undef, undef, undef, undef, undef, undef, undef, undef, undef, undef, undef, undef, undef, undef, undef, undef, undef, .int .i64 (n : Int), .int .i64 ((n : Int) - 1), u33, u34, u35, u36, u37, u38, u39, u40, u41, u42, u43, u44, undef], defers := [] } : Act)) (fun (zz : Nat × Int × Int × List UInt8 × Value × Value × Value × Value × Value × Value × Value × Value × Value × Value × Value × Value) => match zz with | ⟨m, z, x, X, u33, u34, u35, u36, u37, u38, u39, u40, u41, u42, u43, u44⟩ => [⟨g1, (flat ub (List.replicate m 0 ++ X)).toArray, 5⟩]) (fun (zz : Nat × Int × Int × List UInt8 × Value × Value × Value × Value × Value × Value × Value × Value × Value × Value × Value × Value) => match zz with | ⟨m, z, x, X, u33, u34, u35, u36, u37, u38, u39, u40, u41, u42, u43, u44⟩ => m ≤ n ∧ z = (m : Int) - 1 ∧ 0 ≤ x ∧ x ≤ 9223372036854775807 ∧ pb (x) m ++ X = pb v n ∧ X.length + m = n) (fun (zz : Nat × Int × Int × List UInt8 × Value × Value × Value × Value × Value × Value × Value × Value × Value × Value × Value × Value) => match zz with | ⟨m, z, x, X, u33, u34, u35, u36, u37, u38, u39, u40, u41, u42, u43, u44⟩ => m) ⟨n, ((n : Int) - 1), v, [], _, _, _, _, _, _, _, _, _, _, _, _⟩ ⟨Nat.le_refl _, rfl, by omega, by omega, List.append_nil _, Nat.zero_add _⟩ rfl (List.Sublist.cons_cons _ List.Sublist.slnil) ?_
  rintro ⟨m, z, x, X, u33, u34, u35, u36, u37, u38, u39, u40, u41, u42, u43, u44⟩ hφ
  (try dsimp only at hφ ⊢)
  obtain ⟨b1, b2, b3, b4, b5, b6⟩ := hφ
  refine wc_seq ?_
  refine wc_seq ?_
  refine wc_region ?_
  refine wl_val (.int .i64 z) rfl (fun _ => rfl) ?_
  simp only [Act.put, Xa, Xz, Xs]
  refine wl_val (.bool (decide (0 ≤ z))) rfl (fun w => run_cmp rfl rfl rfl Try.underlying3 rfl w) ?_
  simp only [Act.put, Xa, Xz, Xs]
  refine wl_nil ?_
  refine we_then ?_
  cases h3 : (decide (0 ≤ z))
  ·
   skip
   have p3 : ¬ (0 ≤ z) := of_decide_eq_false h3
   refine wc_false rfl ?_
   refine wc_exit ?_
   refine we_then_exit ?_
   refine we_then_exit ?_
   refine we_in_here ?_
   refine we_then ?_
   refine wc_seq ?_
   refine wc_region ?_
   refine wl_val (.slice (some ⟨g1, 0, none⟩) n n) rfl (fun _ => rfl) ?_
   simp only [Act.put, Xa, Xz, Xs]
   refine wl_val (.slice (some ⟨g1, 0, none⟩) n n) rfl (fun _ => rfl) ?_
   simp only [Act.put, Xa, Xz, Xs]
   refine wl_nil ?_
   refine we_then ?_
   refine wc_ret ?_
   refine we_ret1 (.slice (some ⟨g1, 0, none⟩) n n) rfl rfl rfl (fun w1 hE => ?_)
   have e1 : m = 0 := by omega
   subst e1
   have e2 : X = pb v n := b5
   exact ⟨g1, trivial, rfl, by rw [← e2]; exact hE⟩
  ·
   skip
   have p3 : 0 ≤ z := of_decide_eq_true h3
   refine wc_true rfl ?_
   refine wc_skip ?_
   refine we_then ?_
   refine wc_seq ?_
   refine wc_block ?_
   refine wc_seq ?_
   refine wc_region ?_
   refine wl_val (.slice (some ⟨g1, 0, none⟩) n n) rfl (fun _ => rfl) ?_
   simp only [Act.put, Xa, Xz, Xs]
   refine wl_val (.int .i64 z) rfl (fun _ => rfl) ?_
   simp only [Act.put, Xa, Xz, Xs]
   refine wl_val (.int .i64 x) rfl (fun _ => rfl) ?_
   simp only [Act.put, Xa, Xz, Xs]
   refine wl_val (.int .i64 (x % 256)) rfl (fun w => run_rem rfl rfl rfl Try.underlying2 (by omega) (by omega) w) ?_
   simp only [Act.put, Xa, Xz, Xs]
   refine wl_val (.int .u8 ((BitVec.ofInt 8 (x % 256)).toNat : Int)) rfl (fun w => run_low (k := .u8) rfl rfl rfl Try.underlying2 Try.underlying5 w) ?_
   simp only [Act.put, Xa, Xz, Xs]
   refine wl_read (eaddr (some ⟨g1, 0, none⟩) (((m - 1)) * 1)) rfl (er_index ((m - 1)) 1 (sl_mk 0 (L := List.replicate m 0 ++ X) rfl) rfl rfl rfl (by omega) (by omega) (ub_len1 (put_len b6)) (by decide) Try.underlying28 (by kernel_rfl)) ?_
   simp only [Act.put, Xa, Xz, Xs]
   refine wl_set 0 (m - 1) (L := List.replicate m 0 ++ X) (UInt8.ofBitVec (BitVec.ofInt 8 (x % 256))) rfl (Nat.lt_of_lt_of_eq (show (m - 1) < n by omega) (Eq.symm (put_len b6))) rfl rfl rfl rfl (by kernel_rfl) ?_
   simp only [Act.put, List.set_cons_zero]
   refine wl_nil ?_
   refine we_then ?_
   refine wc_region ?_
   refine wl_val (.int .i64 x) rfl (fun _ => rfl) ?_
   simp only [Act.put, Xa, Xz, Xs]
   refine wl_val (.int .i64 (x / 256)) rfl (fun w => run_quo rfl rfl rfl Try.underlying2 (by omega) (by omega) (i64_in (by omega) (by omega)) w) ?_
   simp only [Act.put, Xa, Xz, Xs]
   refine wl_val (.int .i64 (x / 256)) rfl (fun _ => rfl) ?_
   simp only [Act.put, Xa, Xz]
   refine wl_nil ?_
   refine we_in ?_
   refine we_then ?_
   refine wc_region ?_
   refine wl_val (.int .i64 z) rfl (fun _ => rfl) ?_
   simp only [Act.put, Xa, Xz, Xs]
   refine wl_val (.int .i64 (z - 1)) rfl (fun w => run_arith (op := .sub) rfl rfl rfl Try.underlying3 (congrArg some (i64_in (by omega) (by omega))) w) ?_
   simp only [Act.put, Xa, Xz, Xs]
   refine wl_val (.int .i64 (z - 1)) rfl (fun _ => rfl) ?_
   simp only [Act.put, Xa, Xz, Xs]
   refine wl_nil ?_
   rw [put_set (m := m) (X := X) (y := UInt8.ofBitVec (BitVec.ofInt 8 (x % 256))) (by omega)]
   exact we_meet ⟨(m - 1), (z - 1), (x / 256), (by8 (x % 256) :: X), _, _, _, _, _, _, _, _, _, _, _, _⟩ (by (try dsimp only); exact ⟨⟨by omega, by omega, by omega, by omega, put_pos (by omega) b5, by rw [List.length_cons]; omega⟩, by omega⟩) rfl (List.Sublist.cons_cons _ List.Sublist.slnil)
 ·
  skip
  have p2 : v < 0 := of_decide_eq_true h2
  refine wc_true rfl ?_
  refine wc_seq ?_
  refine wc_region ?_
  refine wl_val (.int .i64 v) rfl (fun _ => rfl) ?_
  simp only [Act.put, Xa, Xz, Xs]
  refine wl_val (.int .i64 ((-1) - v)) rfl (fun w => run_arith (op := .sub) rfl rfl rfl Try.underlying2 (congrArg some (i64_in (by omega) (by omega))) w) ?_
  simp only [Act.put, Xa, Xz, Xs]
  refine wl_val (.int .i64 ((-1) - v)) rfl (fun _ => rfl) ?_
  simp only [Act.put, Xa, Xz, Xs]
  refine wl_nil ?_
  refine we_then ?_
  refine wc_seq ?_
  refine wc_seq ?_
  rw [show List.replicate n (0 : UInt8) = List.replicate n 0 ++ [] from (List.append_nil _).symm]
  refine wc_region ?_
  refine wl_val (.int .i64 (n : Int)) rfl (fun _ => rfl) ?_
  simp only [Act.put, Xa, Xz, Xs]
  refine wl_val (.int .i64 ((n : Int) - 1)) rfl (fun w => run_arith (op := .sub) rfl rfl rfl Try.underlying3 (congrArg some (i64_in (by omega) (by omega))) w) ?_
  simp only [Act.put, Xa, Xz, Xs]
  refine wl_val (.int .i64 ((n : Int) - 1)) rfl (fun _ => rfl) ?_
  simp only [Act.put, Xa, Xz, Xs]
  refine wl_nil ?_
  refine we_then ?_
  refine wc_block ?_
  refine wc_loop (fun (zz : Nat × Int × Int × List UInt8 × Value × Value × Value × Value × Value × Value × Value × Value × Value × Value × Value × Value × Value) => match zz with | ⟨m, z, w0, X, u17, u18, u19, u20, u21, u22, u23, u24, u25, u26, u27, u28, u29⟩ => ({ tmps := #[.int .i64 v, .int .i64 (n : Int), undef, undef, .slice none 0 0, .slice (some ⟨g1, 0, none⟩) n n, .int .i64 w0, .int .i64 z, undef, .int .i64 (n : Int), .slice (some ⟨g1, 0, none⟩) n n, .int .i64 v, .bool true, .int .i64 v, .int .i64 ((-1) - v), .int .i64 (n : Int), .int .i64 ((n : Int) - 1), u17, u18, u19, u20, u21, u22, u23, u24, u25, u26, u27, u28, u29, undef, undef, undef, undef, undef, undef, undef, undef, undef, undef, undef, undef, undef, undef, undef, undef], defers := [] } : Act)) (fun (zz : Nat × Int × Int × List UInt8 × Value × Value × Value × Value × Value × Value × Value × Value × Value × Value × Value × Value × Value) => match zz with | ⟨m, z, w0, X, u17, u18, u19, u20, u21, u22, u23, u24, u25, u26, u27, u28, u29⟩ => [⟨g1, (flat ub (List.replicate m 0 ++ X)).toArray, 5⟩]) (fun (zz : Nat × Int × Int × List UInt8 × Value × Value × Value × Value × Value × Value × Value × Value × Value × Value × Value × Value × Value) => match zz with | ⟨m, z, w0, X, u17, u18, u19, u20, u21, u22, u23, u24, u25, u26, u27, u28, u29⟩ => m ≤ n ∧ z = (m : Int) - 1 ∧ 0 ≤ w0 ∧ w0 ≤ 9223372036854775807 ∧ pb (-1 - w0) m ++ X = pb v n ∧ X.length + m = n) (fun (zz : Nat × Int × Int × List UInt8 × Value × Value × Value × Value × Value × Value × Value × Value × Value × Value × Value × Value × Value) => match zz with | ⟨m, z, w0, X, u17, u18, u19, u20, u21, u22, u23, u24, u25, u26, u27, u28, u29⟩ => m) ⟨n, ((n : Int) - 1), (-1 - v), [], _, _, _, _, _, _, _, _, _, _, _, _, _⟩ ⟨Nat.le_refl _, rfl, by omega, by omega, by rw [List.append_nil, show -1 - (-1 - v) = v by omega], Nat.zero_add _⟩ rfl (List.Sublist.cons_cons _ List.Sublist.slnil) ?_
  rintro ⟨m, z, w0, X, u17, u18, u19, u20, u21, u22, u23, u24, u25, u26, u27, u28, u29⟩ hφ
  (try dsimp only at hφ ⊢)
  obtain ⟨b1, b2, b3, b4, b5, b6⟩ := hφ
  refine wc_seq ?_
  refine wc_seq ?_
  refine wc_region ?_
  refine wl_val (.int .i64 z) rfl (fun _ => rfl) ?_
  simp only [Act.put, Xa, Xz, Xs]
  refine wl_val (.bool (decide (0 ≤ z))) rfl (fun w => run_cmp rfl rfl rfl Try.underlying3 rfl w) ?_
  simp only [Act.put, Xa, Xz, Xs]
  refine wl_nil ?_
  refine we_then ?_
  cases h4 : (decide (0 ≤ z))
  ·
   skip
   have p4 : ¬ (0 ≤ z) := of_decide_eq_false h4
   refine wc_false rfl ?_
   refine wc_exit ?_
   refine we_then_exit ?_
   refine we_then_exit ?_
   refine we_in_here ?_
   refine we_then ?_
   refine wc_seq ?_
   refine wc_region ?_
   refine wl_val (.slice (some ⟨g1, 0, none⟩) n n) rfl (fun _ => rfl) ?_
   simp only [Act.put, Xa, Xz, Xs]
   refine wl_val (.slice (some ⟨g1, 0, none⟩) n n) rfl (fun _ => rfl) ?_
   simp only [Act.put, Xa, Xz, Xs]
   refine wl_nil ?_
   refine we_then ?_
   refine wc_ret ?_
   refine we_then_ret ?_
   refine we_ret1 (.slice (some ⟨g1, 0, none⟩) n n) rfl rfl rfl (fun w1 hE => ?_)
   have e1 : m = 0 := by omega
   subst e1
   have e2 : X = pb v n := b5
   exact ⟨g1, trivial, rfl, by rw [← e2]; exact hE⟩
  ·
   skip
   have p4 : 0 ≤ z := of_decide_eq_true h4
   refine wc_true rfl ?_
   refine wc_skip ?_
   refine we_then ?_
   refine wc_seq ?_
   refine wc_block ?_
   refine wc_seq ?_
   refine wc_region ?_
   refine wl_val (.slice (some ⟨g1, 0, none⟩) n n) rfl (fun _ => rfl) ?_
   simp only [Act.put, Xa, Xz, Xs]
   refine wl_val (.int .i64 z) rfl (fun _ => rfl) ?_
   simp only [Act.put, Xa, Xz, Xs]
   refine wl_val (.int .i64 w0) rfl (fun _ => rfl) ?_
   simp only [Act.put, Xa, Xz, Xs]
   refine wl_val (.int .i64 (w0 % 256)) rfl (fun w => run_rem rfl rfl rfl Try.underlying2 (by omega) (by omega) w) ?_
   simp only [Act.put, Xa, Xz, Xs]
   refine wl_val (.int .i64 (255 - (w0 % 256))) rfl (fun w => run_arith (op := .sub) rfl rfl rfl Try.underlying2 (congrArg some (i64_in (by omega) (by omega))) w) ?_
   simp only [Act.put, Xa, Xz, Xs]
   refine wl_val (.int .u8 ((BitVec.ofInt 8 (255 - (w0 % 256))).toNat : Int)) rfl (fun w => run_low (k := .u8) rfl rfl rfl Try.underlying2 Try.underlying5 w) ?_
   simp only [Act.put, Xa, Xz, Xs]
   refine wl_read (eaddr (some ⟨g1, 0, none⟩) (((m - 1)) * 1)) rfl (er_index ((m - 1)) 1 (sl_mk 0 (L := List.replicate m 0 ++ X) rfl) rfl rfl rfl (by omega) (by omega) (ub_len1 (put_len b6)) (by decide) Try.underlying28 (by kernel_rfl)) ?_
   simp only [Act.put, Xa, Xz, Xs]
   refine wl_set 0 (m - 1) (L := List.replicate m 0 ++ X) (UInt8.ofBitVec (BitVec.ofInt 8 (255 - (w0 % 256)))) rfl (Nat.lt_of_lt_of_eq (show (m - 1) < n by omega) (Eq.symm (put_len b6))) rfl rfl rfl rfl (by kernel_rfl) ?_
   simp only [Act.put, List.set_cons_zero]
   refine wl_nil ?_
   refine we_then ?_
   refine wc_region ?_
   refine wl_val (.int .i64 w0) rfl (fun _ => rfl) ?_
   simp only [Act.put, Xa, Xz, Xs]
   refine wl_val (.int .i64 (w0 / 256)) rfl (fun w => run_quo rfl rfl rfl Try.underlying2 (by omega) (by omega) (i64_in (by omega) (by omega)) w) ?_
   simp only [Act.put, Xa, Xz, Xs]
   refine wl_val (.int .i64 (w0 / 256)) rfl (fun _ => rfl) ?_
   simp only [Act.put, Xa, Xz, Xs]
   refine wl_nil ?_
   refine we_in ?_
   refine we_then ?_
   refine wc_region ?_
   refine wl_val (.int .i64 z) rfl (fun _ => rfl) ?_
   simp only [Act.put, Xa, Xz, Xs]
   refine wl_val (.int .i64 (z - 1)) rfl (fun w => run_arith (op := .sub) rfl rfl rfl Try.underlying3 (congrArg some (i64_in (by omega) (by omega))) w) ?_
   simp only [Act.put, Xa, Xz, Xs]
   refine wl_val (.int .i64 (z - 1)) rfl (fun _ => rfl) ?_
   simp only [Act.put, Xa, Xz, Xs]
   refine wl_nil ?_
   rw [put_set (m := m) (X := X) (y := UInt8.ofBitVec (BitVec.ofInt 8 (255 - w0 % 256))) (by omega)]
   exact we_meet ⟨(m - 1), (z - 1), (w0 / 256), (by8 (255 - w0 % 256) :: X), _, _, _, _, _, _, _, _, _, _, _, _, _⟩ (by (try dsimp only); exact ⟨⟨by omega, by omega, by omega, by omega, put_neg (by omega) b5, by rw [List.length_cons]; omega⟩, by omega⟩) rfl (List.Sublist.cons_cons _ List.Sublist.slnil)
def PX (G : List Sg) (i : Nat) : List UInt8 := hdr ++ (pb (G.length : Nat) 2 ++ (G.take i).flatMap (fun s => segL (dat s)))
def QX (G : List Sg) (i k : Nat) : List UInt8 := PX G i ++ (pb (G[i]!).len 8 ++ (pb ((G[i]!).P.length : Nat) 1 ++ ((G[i]!).P.take k).flatMap pieceB))
def RX (G : List Sg) (i j : Nat) : List UInt8 := PX G i ++ (pb (G[i]!).len 8 ++ (pb ((G[i]!).P.length : Nat) 1 ++ ((G[i]!).P.flatMap pieceB ++ (pb ((G[i]!).X.length : Nat) 1 ++ ((G[i]!).X.take j).flatMap nextB))))
def GX (G : List Sg) (H : List Gp) (r : Nat) : List UInt8 := PX G G.length ++ (pb (H.length : Nat) 2 ++ (H.take r).flatMap grpL)
theorem PX_0 (G : List Sg) : hdr ++ pb (G.length : Nat) 2 = PX G 0 := by unfold PX; rw [List.take_zero, List.flatMap_nil, List.append_nil]
theorem QX_0 (G : List Sg) (i : Nat) : PX G i ++ pb (G[i]!).len 8 ++ [by8 ((G[i]!).P.length : Nat)] = QX G i 0 := by unfold QX; rw [List.take_zero, List.flatMap_nil, List.append_nil, List.append_assoc]; rfl
theorem QX_s (G : List Sg) (i k : Nat) (hk : k < (G[i]!).P.length) : QX G i k ++ pb ((G[i]!).P[k]!).1 8 ++ pb ((G[i]!).P[k]!).2 4 = QX G i (k + 1) := by
 unfold QX
 rw [take_snoc _ k hk, List.flatMap_append, List.flatMap_singleton]
 simp only [List.append_assoc, pieceB]
theorem RX_0 (G : List Sg) (i : Nat) : QX G i (G[i]!).P.length ++ [by8 ((G[i]!).X.length : Nat)] = RX G i 0 := by
 unfold QX RX
 rw [List.take_length, List.take_zero, List.flatMap_nil, List.append_nil]
 simp only [List.append_assoc]
 rfl
theorem RX_s (G : List Sg) (i j : Nat) (hj : j < (G[i]!).X.length) : RX G i j ++ [by8 ((G[i]!).X[j]!)] = RX G i (j + 1) := by
 unfold RX
 rw [take_snoc _ j hj, List.flatMap_append, List.flatMap_singleton]
 simp only [List.append_assoc]
 rfl
theorem PX_s (G : List Sg) (i : Nat) (hi : i < G.length) : RX G i (G[i]!).X.length = PX G (i + 1) := by
 unfold RX PX
 rw [take_snoc G i hi, List.flatMap_append, List.flatMap_singleton, List.take_length]
 simp only [List.append_assoc, segL]
 rfl
theorem GX_0 (G : List Sg) (H : List Gp) : PX G G.length ++ pb (H.length : Nat) 2 = GX G H 0 := by unfold GX; rw [List.take_zero, List.flatMap_nil, List.append_nil]
theorem GX_s (G : List Sg) (H : List Gp) (r : Nat) (hr : r < H.length) : GX G H r ++ pb (H[r]!).id 2 ++ [by8 (H[r]!).seg] ++ pb (H[r]!).off 8 ++ pb (H[r]!).acc 4 ++ pb (H[r]!).slack 4 = GX G H (r + 1) := by
 unfold GX
 rw [take_snoc H r hr, List.flatMap_append, List.flatMap_singleton]
 simp only [List.append_assoc, grpL]
 rfl
theorem GX_all (G : List Sg) (H : List Gp) : GX G H H.length = bodyI (G.map dat) H := by
 unfold GX PX bodyI rest
 rw [List.take_length, List.take_length, List.length_map, List.flatMap_map]
 simp only [List.append_assoc]
theorem px_le {G : List Sg} {H : List Gp} (h : TrackMay G H) (i : Nat) : (PX G i).length ≤ 156006 := by
 have a := flat_le (fun s => segL (dat s)) 780 (G.take i) (fun s hs => by
  obtain ⟨j, hj, rfl⟩ := List.mem_iff_getElem.1 (List.mem_of_mem_take hs)
  have q := h.segs j hj
  rw [getElem!_pos G j hj] at q
  exact segL_le (seg_in q (by have := h.sizes.2.1; omega)))
 have b := h.sizes.2.1
 have c : (G.take i).length ≤ G.length := by rw [List.length_take]; omega
 unfold PX
 simp only [List.length_append, pb_len]
 have : hdr.length = 4 := rfl
 omega
theorem piece_len (x : Int × Int) : (pieceB x).length = 12 := by unfold pieceB; simp only [List.length_append, pb_len]
theorem rx_le {G : List Sg} {H : List Gp} (h : TrackMay G H) {i : Nat} (hi : i < G.length) (j : Nat) : (RX G i j).length ≤ 157000 := by
 have q := h.segs i hi
 have a := flat_le pieceB 12 (G[i]!).P (fun x _ => by rw [piece_len]; omega)
 have b := flat_le nextB 1 ((G[i]!).X.take j) (fun x _ => by unfold nextB; rw [pb_len]; omega)
 have c := q.may.few
 have d := q.two
 have e : ((G[i]!).X.take j).length ≤ (G[i]!).X.length := by rw [List.length_take]; omega
 have f := px_le h i
 unfold RX
 simp only [List.length_append, pb_len]
 omega
theorem qx_le {G : List Sg} {H : List Gp} (h : TrackMay G H) {i : Nat} (hi : i < G.length) (k : Nat) : (QX G i k).length ≤ 157000 := by
 have q := h.segs i hi
 have a := flat_le pieceB 12 ((G[i]!).P.take k) (fun x _ => by rw [piece_len]; omega)
 have c := q.may.few
 have e : ((G[i]!).P.take k).length ≤ (G[i]!).P.length := by rw [List.length_take]; omega
 have f := px_le h i
 unfold QX
 simp only [List.length_append, pb_len]
 omega
theorem gx_le {G : List Sg} {H : List Gp} (h : TrackMay G H) (r : Nat) : (GX G H r).length ≤ 170000 := by
 have a := flat_le grpL 19 (H.take r) (fun x _ => by rw [grpL_len]; omega)
 have c := h.sizes.2.2
 have e : (H.take r).length ≤ H.length := by rw [List.length_take]; omega
 have f := px_le h G.length
 unfold GX
 simp only [List.length_append, pb_len]
 omega
theorem piece_lim {P : Spans} {n : Int} (h : May P n) {k : Nat} (hk : k < P.length) : 0 ≤ (P[k]!).1 ∧ (P[k]!).1 < n ∧ -1048576 ≤ (P[k]!).2 ∧ (P[k]!).2 ≤ 1048576 := by
 have q := h.each k hk
 refine ⟨?_, q.within, q.low, q.high⟩
 by_cases e : k = 0
 ·
  subst e; rw [h.first]; exact Int.le_refl _
 ·
  have := up_all h (show 0 < k by omega) hk
  have := h.first
  omega
theorem grp_lim {G : List Sg} {H : List Gp} (h : TrackMay G H) {r : Nat} (hr : r < H.length) : 0 ≤ (H[r]!).id ∧ (H[r]!).id ≤ 65535 ∧ 0 ≤ (H[r]!).seg ∧ (H[r]!).seg < 200 ∧ 0 ≤ (H[r]!).off ∧ (H[r]!).off ≤ 1099511627776 ∧ 0 ≤ (H[r]!).acc ∧ (H[r]!).acc ≤ 1048576 ∧ 0 ≤ (H[r]!).slack ∧ (H[r]!).slack ≤ 16777216 := by
 have q := h.grps r hr
 have l := last_pos h.grps r (by omega)
 have a := q.up
 have b := q.seg0
 have c := q.segn
 have d := q.offn
 have e := (h.segs (H[r]!).seg.toNat (by omega)).high
 have f := h.sizes.2.1
 exact ⟨by omega, q.high, b, by omega, q.off0, by omega, q.acc0, q.accn, q.sl0, q.sln⟩
theorem pack_fin (X : List UInt8) : X ++ [by8 (((crc 65535#16 X).toNat / 256 : Nat) : Int), by8 (((crc 65535#16 X).toNat % 256 : Nat) : Int)] = seal_ X := by rw [hib_nat, lob_nat]; rfl
set_option maxHeartbeats 8000000 in
theorem pack_any (G : List Sg) (H : List Gp) (p q : Option Addr) (c d : Nat) (w : World) (hS : Reads w p (flat sg G)) (hG : OkS w G) (hH : Reads w q (flat gp H)) (hM : TrackMay G H) :
  Calls Try.prog 13 #[.agg #[.slice p G.length c, .slice q H.length d]] w fun e w' => ∃ o : Own, o.Has 1 (img (G.map dat) H).length (flat ub (img (G.map dat) H)) ∧ e = .returned (o.val (img (G.map dat) H).length) ∧ Env w w' (o.rows 5) := by
 have hz1 := hM.sizes.1
 have hz2 := hM.sizes.2.1
 have hz3 := hM.sizes.2.2
 refine calls_sx Try.func13 rfl ?_
 simp only [Try.ntmps13, List.size_toArray, List.length_cons, List.length_nil, Nat.reduceAdd, Nat.reduceSub, Array.replicate_succ, Array.replicate_zero, List.push_toArray, List.append_toArray, List.nil_append, List.cons_append]
 refine wc_seq ?_
 refine wc_region ?_
 refine wl_new 37 (#[.slice p G.length c, .slice q H.length d]) rfl (fun _ => by go_simp) ?_
 intro g1
 simp only [Act.put, Xa, Xz, Xs]
 refine wl_val (.slice none 0 0) rfl (fun _ => rfl) ?_
 simp only [Act.put, Xa, Xz, Xs]
 refine wl_nil ?_
 refine we_then ?_
 refine wc_seq ?_
 refine wc_region ?_
 refine wl_lit (e := 5) #[.int .u8 79, .int .u8 68, .int .u8 79, .int .u8 49] 4 rfl (fun _ => by go_simp) ?_
 intro g2
 simp only [Act.put, Xa, Xz, Xs]
 refine wl_val (.slice (some ⟨g2, 0, none⟩) 4 4) rfl (fun _ => rfl) ?_
 simp only [Act.put, Xa, Xz, Xs]
 refine wl_nil ?_
 refine we_then ?_
 refine wc_seq ?_
 refine wc_region ?_
 refine wl_val (.slice (some ⟨g2, 0, none⟩) 4 4) rfl (fun _ => rfl) ?_
 simp only [Act.put, Xa, Xz, Xs]
 refine wl_val (.pointer (some ⟨g1, 0, none⟩)) rfl (fun _ => by go_simp) ?_
 simp only [Act.put, Xa, Xz, Xs]
 refine wl_cell 34 (.tmp 13) (.slice p G.length c) (own_row 1 rfl) rfl rfl rfl rfl Try.isAgg34 ?_
 simp only [Act.put, Xa, Xz, Xs]
 refine wl_val (.int .i64 (G.length : Int)) rfl (fun w => er_len rfl rfl Try.underlying34 w) ?_
 simp only [Act.put, Xa, Xz, Xs]
 refine wl_call_env (ι := Nat) 28 #[.int .i64 (G.length : Int), .int .i64 2] (fun g3 => .slice (some ⟨g3, 0, none⟩) 2 2) (fun g3 => [⟨g3, (flat ub (pb (G.length : Int) 2)).toArray, 5⟩]) (fun _ => True) rfl (fun _ => by go_simp) (fun W hE => put_any (G.length : Int) 2 W (by omega) (by decide) (by decide)) ?_
 rintro g3 -
 simp only [List.cons_append, List.nil_append, Act.put, Xa, Xz, Xs]
 refine wl_perm (perm_last [⟨g3, (flat ub (pb (G.length : Int) 2)).toArray, 5⟩] ⟨g2, #[.int .u8 79, .int .u8 68, .int .u8 79, .int .u8 49], 5⟩ [⟨g1, #[.slice p G.length c, .slice q H.length d], 37⟩] []) ?_
 refine wl_append (e := 5) (size := 1) (bytes := 1) (m := 2) [⟨g3, (flat ub (pb (G.length : Int) 2)).toArray, 5⟩, ⟨g1, #[.slice p G.length c, .slice q H.length d], 37⟩] [] (Own.row g2 4 #[.int .u8 79, .int .u8 68, .int .u8 79, .int .u8 49]) (ys := flat ub (pb (G.length : Int) 2)) rfl (Own.has_lit g2 4 1 #[.int .u8 79, .int .u8 68, .int .u8 79, .int .u8 49] (by decide) rfl) (sl_mk 0 (L := pb (G.length : Int) 2) rfl) (ub_len1 (pb_len _ _)) (flat_one ub_one _) rfl rfl rfl rfl Try.underlying28 (by unfold Elem; kernel_rfl) (by decide) (by unfold maxLen; omega) (by omega) ?_
 intro s4 hs4
 replace hs4 := has_cast (show _ = flat ub (([79, 68, 79, 49]) ++ (pb (G.length : Int) 2)) from by first | exact (flat_append _ _ _).symm | rw [flat_append] <;> rfl) hs4
 simp only [List.cons_append, List.nil_append, Act.put, Xa, Xz, Xs]
 refine wl_val (.slice s4.ptr (4 + 2) s4.cap) rfl (fun _ => rfl) ?_
 simp only [Act.put, Xa, Xz, Xs]
 refine wl_nil ?_
 refine we_then ?_
 refine wc_seq ?_
 refine wc_seq ?_
 refine wc_region ?_
 refine wl_val (.int .i64 0) rfl (fun _ => rfl) ?_
 simp only [Act.put, Xa, Xz, Xs]
 refine wl_nil ?_
 refine we_then ?_
 refine wc_block ?_
 refine wc_loop (fun (zz : Nat × Nat × Own × Value × Value × Value × Value × Value × Value × Value × Value × Value × Value × Value × Value × Value × Value × Value × Value × Value × Value × Value × Value × Value × Value × Value × Value × Value × Value × Value × Value × Value × Value × Value × Value × Value × Value × Value × Value × Value × Value × Value × Value × Value × Value × Value × Value × Value × Value × Value × Value × Value × Value × Value × Value × Value × Value × Value × Value × Value × Value × Value × Value × Value × Value × Value × Value × Value × Value × Value × Value × Value × Value × Value × Value × Value × Value × Value) => match zz with | ⟨i, n, o, u5, u6, u7, u18, u19, u20, u21, u22, u23, u24, u25, u26, u27, u28, u29, u30, u31, u32, u33, u34, u35, u36, u37, u38, u39, u40, u41, u42, u43, u44, u45, u46, u47, u48, u49, u50, u51, u52, u53, u54, u55, u56, u57, u58, u59, u60, u61, u62, u63, u64, u65, u66, u67, u68, u69, u70, u71, u72, u73, u74, u75, u76, u77, u78, u79, u80, u81, u82, u83, u84, u85, u86, u87, u88, u89⟩ => ({ tmps := #[.agg #[.slice p G.length c, .slice q H.length d], .pointer (some ⟨g1, 0, none⟩), .slice none 0 0, .slice o.ptr n o.cap, .int .i64 (i : Int), u5, u6, u7, undef, undef, undef, .slice (some ⟨g2, 0, none⟩) 4 4, .slice (some ⟨g2, 0, none⟩) 4 4, .pointer (some ⟨g1, 0, none⟩), .slice p G.length c, .int .i64 (G.length : Int), .slice (some ⟨g3, 0, none⟩) 2 2, .slice s4.ptr (4 + 2) s4.cap, u18, u19, u20, u21, u22, u23, u24, u25, u26, u27, u28, u29, u30, u31, u32, u33, u34, u35, u36, u37, u38, u39, u40, u41, u42, u43, u44, u45, u46, u47, u48, u49, u50, u51, u52, u53, u54, u55, u56, u57, u58, u59, u60, u61, u62, u63, u64, u65, u66, u67, u68, u69, u70, u71, u72, u73, u74, u75, u76, u77, u78, u79, u80, u81, u82, u83, u84, u85, u86, u87, u88, u89, undef, undef, undef, undef, undef, undef, undef, undef, undef, undef, undef, undef, undef, undef, undef, undef, undef, undef, undef, undef, undef, undef, undef, undef, undef, undef, undef, undef, undef, undef, undef, undef, undef, undef, undef, undef, undef, undef, undef, undef, undef, undef, undef, undef, undef, undef, undef, undef, undef, undef, undef, undef, undef, undef, undef], defers := [] } : Act)) (fun (zz : Nat × Nat × Own × Value × Value × Value × Value × Value × Value × Value × Value × Value × Value × Value × Value × Value × Value × Value × Value × Value × Value × Value × Value × Value × Value × Value × Value × Value × Value × Value × Value × Value × Value × Value × Value × Value × Value × Value × Value × Value × Value × Value × Value × Value × Value × Value × Value × Value × Value × Value × Value × Value × Value × Value × Value × Value × Value × Value × Value × Value × Value × Value × Value × Value × Value × Value × Value × Value × Value × Value × Value × Value × Value × Value × Value × Value × Value × Value) => match zz with | ⟨i, n, o, u5, u6, u7, u18, u19, u20, u21, u22, u23, u24, u25, u26, u27, u28, u29, u30, u31, u32, u33, u34, u35, u36, u37, u38, u39, u40, u41, u42, u43, u44, u45, u46, u47, u48, u49, u50, u51, u52, u53, u54, u55, u56, u57, u58, u59, u60, u61, u62, u63, u64, u65, u66, u67, u68, u69, u70, u71, u72, u73, u74, u75, u76, u77, u78, u79, u80, u81, u82, u83, u84, u85, u86, u87, u88, u89⟩ => ⟨g3, (flat ub (pb (G.length : Int) 2)).toArray, 5⟩ :: ⟨g1, #[.slice p G.length c, .slice q H.length d], 37⟩ :: (o.rows 5 ++ [])) (fun (zz : Nat × Nat × Own × Value × Value × Value × Value × Value × Value × Value × Value × Value × Value × Value × Value × Value × Value × Value × Value × Value × Value × Value × Value × Value × Value × Value × Value × Value × Value × Value × Value × Value × Value × Value × Value × Value × Value × Value × Value × Value × Value × Value × Value × Value × Value × Value × Value × Value × Value × Value × Value × Value × Value × Value × Value × Value × Value × Value × Value × Value × Value × Value × Value × Value × Value × Value × Value × Value × Value × Value × Value × Value × Value × Value × Value × Value × Value × Value) => match zz with | ⟨i, n, o, u5, u6, u7, u18, u19, u20, u21, u22, u23, u24, u25, u26, u27, u28, u29, u30, u31, u32, u33, u34, u35, u36, u37, u38, u39, u40, u41, u42, u43, u44, u45, u46, u47, u48, u49, u50, u51, u52, u53, u54, u55, u56, u57, u58, u59, u60, u61, u62, u63, u64, u65, u66, u67, u68, u69, u70, u71, u72, u73, u74, u75, u76, u77, u78, u79, u80, u81, u82, u83, u84, u85, u86, u87, u88, u89⟩ => i ≤ G.length ∧ (PX G i).length = n ∧ o.Has 1 n (flat ub (PX G i))) (fun (zz : Nat × Nat × Own × Value × Value × Value × Value × Value × Value × Value × Value × Value × Value × Value × Value × Value × Value × Value × Value × Value × Value × Value × Value × Value × Value × Value × Value × Value × Value × Value × Value × Value × Value × Value × Value × Value × Value × Value × Value × Value × Value × Value × Value × Value × Value × Value × Value × Value × Value × Value × Value × Value × Value × Value × Value × Value × Value × Value × Value × Value × Value × Value × Value × Value × Value × Value × Value × Value × Value × Value × Value × Value × Value × Value × Value × Value × Value × Value) => match zz with | ⟨i, n, o, u5, u6, u7, u18, u19, u20, u21, u22, u23, u24, u25, u26, u27, u28, u29, u30, u31, u32, u33, u34, u35, u36, u37, u38, u39, u40, u41, u42, u43, u44, u45, u46, u47, u48, u49, u50, u51, u52, u53, u54, u55, u56, u57, u58, u59, u60, u61, u62, u63, u64, u65, u66, u67, u68, u69, u70, u71, u72, u73, u74, u75, u76, u77, u78, u79, u80, u81, u82, u83, u84, u85, u86, u87, u88, u89⟩ => G.length - i) ⟨0, (4 + 2), s4, _, _, _, _, _, _, _, _, _, _, _, _, _, _, _, _, _, _, _, _, _, _, _, _, _, _, _, _, _, _, _, _, _, _, _, _, _, _, _, _, _, _, _, _, _, _, _, _, _, _, _, _, _, _, _, _, _, _, _, _, _, _, _, _, _, _, _, _, _, _, _, _, _, _, _⟩ ⟨Nat.zero_le _, (congrArg List.length (PX_0 G)).symm.trans (app_len rfl (pb_len _ _)), (has_cast (congrArg (flat ub) (PX_0 G)) hs4)⟩ rfl (List.Sublist.cons_cons _ (List.Sublist.cons_cons _ (List.Sublist.append_left List.Sublist.slnil _))) ?_
 rintro ⟨i, n, o, u5, u6, u7, u18, u19, u20, u21, u22, u23, u24, u25, u26, u27, u28, u29, u30, u31, u32, u33, u34, u35, u36, u37, u38, u39, u40, u41, u42, u43, u44, u45, u46, u47, u48, u49, u50, u51, u52, u53, u54, u55, u56, u57, u58, u59, u60, u61, u62, u63, u64, u65, u66, u67, u68, u69, u70, u71, u72, u73, u74, u75, u76, u77, u78, u79, u80, u81, u82, u83, u84, u85, u86, u87, u88, u89⟩ hφ
 (try dsimp only at hφ ⊢)
 obtain ⟨b1, b2, b3⟩ := hφ
 have b4 := px_le hM i
 refine wc_seq ?_
 refine wc_seq ?_
 refine wc_region ?_
 refine wl_val (.int .i64 (i : Int)) rfl (fun _ => rfl) ?_
 simp only [Act.put, Xa, Xz, Xs]
 refine wl_val (.pointer (some ⟨g1, 0, none⟩)) rfl (fun _ => by go_simp) ?_
 simp only [Act.put, Xa, Xz, Xs]
 refine wl_cell 34 (.tmp 19) (.slice p G.length c) (own_row 1 rfl) rfl rfl rfl rfl Try.isAgg34 ?_
 simp only [Act.put, Xa, Xz, Xs]
 refine wl_val (.int .i64 (G.length : Int)) rfl (fun w => er_len rfl rfl Try.underlying34 w) ?_
 simp only [Act.put, Xa, Xz, Xs]
 refine wl_val (.bool (decide ((i : Int) < (G.length : Int)))) rfl (fun w => run_cmp rfl rfl rfl Try.underlying3 rfl w) ?_
 simp only [Act.put, Xa, Xz, Xs]
 refine wl_nil ?_
 refine we_then ?_
 cases h5 : (decide ((i : Int) < (G.length : Int)))
 ·
  skip
  have p5 : ¬ ((i : Int) < (G.length : Int)) := of_decide_eq_false h5
  refine wc_false rfl ?_
  refine wc_exit ?_
  refine we_then_exit ?_
  refine we_then_exit ?_
  refine we_in_here ?_
  refine we_then ?_
  refine wc_seq ?_
  have e3 : i = G.length := by omega
  rw [e3] at b2 b3 b4
  refine wc_region ?_
  refine wl_val (.slice o.ptr n o.cap) rfl (fun _ => rfl) ?_
  simp only [Act.put, Xa, Xz, Xs]
  refine wl_val (.pointer (some ⟨g1, 1, none⟩)) rfl (fun _ => by go_simp) ?_
  simp only [Act.put, Xa, Xz, Xs]
  refine wl_cell 35 (.tmp 91) (.slice q H.length d) (own_row 1 rfl) rfl rfl rfl rfl Try.isAgg35 ?_
  simp only [Act.put, Xa, Xz, Xs]
  refine wl_val (.int .i64 (H.length : Int)) rfl (fun w => er_len rfl rfl Try.underlying35 w) ?_
  simp only [Act.put, Xa, Xz, Xs]
  refine wl_call_env (ι := Nat) 28 #[.int .i64 (H.length : Int), .int .i64 2] (fun g6 => .slice (some ⟨g6, 0, none⟩) 2 2) (fun g6 => [⟨g6, (flat ub (pb (H.length : Int) 2)).toArray, 5⟩]) (fun _ => True) rfl (fun _ => by go_simp) (fun W hE => put_any (H.length : Int) 2 W (by omega) (by decide) (by decide)) ?_
  rintro g6 -
  simp only [List.cons_append, List.nil_append, Act.put, Xa, Xz, Xs]
  refine wl_append (e := 5) (size := 1) (bytes := 1) (m := 2) [⟨g6, (flat ub (pb (H.length : Int) 2)).toArray, 5⟩, ⟨g3, (flat ub (pb (G.length : Int) 2)).toArray, 5⟩, ⟨g1, #[.slice p G.length c, .slice q H.length d], 37⟩] [] o (ys := flat ub (pb (H.length : Int) 2)) rfl b3 (sl_mk 0 (L := pb (H.length : Int) 2) rfl) (ub_len1 (pb_len _ _)) (flat_one ub_one _) rfl rfl rfl rfl Try.underlying28 (by unfold Elem; kernel_rfl) (by decide) (by unfold maxLen; omega) (by omega) ?_
  intro s7 hs7
  replace hs7 := has_cast (show _ = flat ub ((PX G G.length) ++ (pb (H.length : Int) 2)) from by first | exact (flat_append _ _ _).symm | rw [flat_append] <;> rfl) hs7
  simp only [List.cons_append, List.nil_append, Act.put, Xa, Xz, Xs]
  refine wl_val (.slice s7.ptr (n + 2) s7.cap) rfl (fun _ => rfl) ?_
  simp only [Act.put, Xa, Xz, Xs]
  refine wl_nil ?_
  refine we_then ?_
  refine wc_seq ?_
  refine wc_seq ?_
  refine wc_region ?_
  refine wl_val (.int .i64 0) rfl (fun _ => rfl) ?_
  simp only [Act.put, Xa, Xz, Xs]
  refine wl_nil ?_
  refine we_then ?_
  refine wc_block ?_
  refine wc_loop (fun (zz : Nat × Nat × Own × Value × Value × Value × Value × Value × Value × Value × Value × Value × Value × Value × Value × Value × Value × Value × Value × Value × Value × Value × Value × Value × Value × Value × Value × Value × Value × Value × Value × Value × Value × Value × Value × Value × Value × Value × Value × Value × Value × Value) => match zz with | ⟨r, x, y, u9, u96, u97, u98, u99, u100, u101, u102, u103, u104, u105, u106, u107, u108, u109, u110, u111, u112, u113, u114, u115, u116, u117, u118, u119, u120, u121, u122, u123, u124, u125, u126, u127, u128, u129, u130, u131, u132, u133⟩ => ({ tmps := #[.agg #[.slice p G.length c, .slice q H.length d], .pointer (some ⟨g1, 0, none⟩), .slice none 0 0, .slice y.ptr x y.cap, .int .i64 (i : Int), u5, u6, u7, .int .i64 (r : Int), u9, undef, .slice (some ⟨g2, 0, none⟩) 4 4, .slice (some ⟨g2, 0, none⟩) 4 4, .pointer (some ⟨g1, 0, none⟩), .slice p G.length c, .int .i64 (G.length : Int), .slice (some ⟨g3, 0, none⟩) 2 2, .slice s4.ptr (4 + 2) s4.cap, .int .i64 (i : Int), .pointer (some ⟨g1, 0, none⟩), .slice p G.length c, .int .i64 (G.length : Int), .bool false, u23, u24, u25, u26, u27, u28, u29, u30, u31, u32, u33, u34, u35, u36, u37, u38, u39, u40, u41, u42, u43, u44, u45, u46, u47, u48, u49, u50, u51, u52, u53, u54, u55, u56, u57, u58, u59, u60, u61, u62, u63, u64, u65, u66, u67, u68, u69, u70, u71, u72, u73, u74, u75, u76, u77, u78, u79, u80, u81, u82, u83, u84, u85, u86, u87, u88, u89, .slice o.ptr n o.cap, .pointer (some ⟨g1, 1, none⟩), .slice q H.length d, .int .i64 (H.length : Int), .slice (some ⟨g6, 0, none⟩) 2 2, .slice s7.ptr (n + 2) s7.cap, u96, u97, u98, u99, u100, u101, u102, u103, u104, u105, u106, u107, u108, u109, u110, u111, u112, u113, u114, u115, u116, u117, u118, u119, u120, u121, u122, u123, u124, u125, u126, u127, u128, u129, u130, u131, u132, u133, undef, undef, undef, undef, undef, undef, undef, undef, undef, undef, undef], defers := [] } : Act)) (fun (zz : Nat × Nat × Own × Value × Value × Value × Value × Value × Value × Value × Value × Value × Value × Value × Value × Value × Value × Value × Value × Value × Value × Value × Value × Value × Value × Value × Value × Value × Value × Value × Value × Value × Value × Value × Value × Value × Value × Value × Value × Value × Value × Value) => match zz with | ⟨r, x, y, u9, u96, u97, u98, u99, u100, u101, u102, u103, u104, u105, u106, u107, u108, u109, u110, u111, u112, u113, u114, u115, u116, u117, u118, u119, u120, u121, u122, u123, u124, u125, u126, u127, u128, u129, u130, u131, u132, u133⟩ => ⟨g6, (flat ub (pb (H.length : Int) 2)).toArray, 5⟩ :: ⟨g3, (flat ub (pb (G.length : Int) 2)).toArray, 5⟩ :: ⟨g1, #[.slice p G.length c, .slice q H.length d], 37⟩ :: (y.rows 5 ++ [])) (fun (zz : Nat × Nat × Own × Value × Value × Value × Value × Value × Value × Value × Value × Value × Value × Value × Value × Value × Value × Value × Value × Value × Value × Value × Value × Value × Value × Value × Value × Value × Value × Value × Value × Value × Value × Value × Value × Value × Value × Value × Value × Value × Value × Value) => match zz with | ⟨r, x, y, u9, u96, u97, u98, u99, u100, u101, u102, u103, u104, u105, u106, u107, u108, u109, u110, u111, u112, u113, u114, u115, u116, u117, u118, u119, u120, u121, u122, u123, u124, u125, u126, u127, u128, u129, u130, u131, u132, u133⟩ => r ≤ H.length ∧ (GX G H r).length = x ∧ y.Has 1 x (flat ub (GX G H r))) (fun (zz : Nat × Nat × Own × Value × Value × Value × Value × Value × Value × Value × Value × Value × Value × Value × Value × Value × Value × Value × Value × Value × Value × Value × Value × Value × Value × Value × Value × Value × Value × Value × Value × Value × Value × Value × Value × Value × Value × Value × Value × Value × Value × Value) => match zz with | ⟨r, x, y, u9, u96, u97, u98, u99, u100, u101, u102, u103, u104, u105, u106, u107, u108, u109, u110, u111, u112, u113, u114, u115, u116, u117, u118, u119, u120, u121, u122, u123, u124, u125, u126, u127, u128, u129, u130, u131, u132, u133⟩ => H.length - r) ⟨0, (n + 2), s7, _, _, _, _, _, _, _, _, _, _, _, _, _, _, _, _, _, _, _, _, _, _, _, _, _, _, _, _, _, _, _, _, _, _, _, _, _, _, _⟩ ⟨Nat.zero_le _, (congrArg List.length (GX_0 G H)).symm.trans (app_len b2 (pb_len _ _)), (has_cast (congrArg (flat ub) (GX_0 G H)) hs7)⟩ rfl (List.Sublist.cons_cons _ (List.Sublist.cons_cons _ (List.Sublist.cons_cons _ (List.Sublist.append_left List.Sublist.slnil _)))) ?_
  rintro ⟨r, x, y, u9, u96, u97, u98, u99, u100, u101, u102, u103, u104, u105, u106, u107, u108, u109, u110, u111, u112, u113, u114, u115, u116, u117, u118, u119, u120, u121, u122, u123, u124, u125, u126, u127, u128, u129, u130, u131, u132, u133⟩ hφ
  (try dsimp only at hφ ⊢)
  obtain ⟨x1, x2, x3⟩ := hφ
  have x4 := gx_le hM r
  refine wc_seq ?_
  refine wc_seq ?_
  refine wc_region ?_
  refine wl_val (.int .i64 (r : Int)) rfl (fun _ => rfl) ?_
  simp only [Act.put, Xa, Xz, Xs]
  refine wl_val (.pointer (some ⟨g1, 1, none⟩)) rfl (fun _ => by go_simp) ?_
  simp only [Act.put, Xa, Xz, Xs]
  refine wl_cell 35 (.tmp 97) (.slice q H.length d) (own_row 2 rfl) rfl rfl rfl rfl Try.isAgg35 ?_
  simp only [Act.put, Xa, Xz, Xs]
  refine wl_val (.int .i64 (H.length : Int)) rfl (fun w => er_len rfl rfl Try.underlying35 w) ?_
  simp only [Act.put, Xa, Xz, Xs]
  refine wl_val (.bool (decide ((r : Int) < (H.length : Int)))) rfl (fun w => run_cmp rfl rfl rfl Try.underlying3 rfl w) ?_
  simp only [Act.put, Xa, Xz, Xs]
  refine wl_nil ?_
  refine we_then ?_
  cases h8 : (decide ((r : Int) < (H.length : Int)))
  ·
   skip
   have p8 : ¬ ((r : Int) < (H.length : Int)) := of_decide_eq_false h8
   refine wc_false rfl ?_
   refine wc_exit ?_
   refine we_then_exit ?_
   refine we_then_exit ?_
   refine we_in_here ?_
   refine we_then ?_
   refine wc_seq ?_
   have e4 : r = H.length := by omega
   rw [e4] at x2 x3 x4
   refine wc_region ?_
   refine wl_val (.slice y.ptr x y.cap) rfl (fun _ => rfl) ?_
   simp only [Act.put, Xa, Xz, Xs]
   refine wl_call_at 29 #[.slice y.ptr x y.cap] (.int .i64 (((crc 65535#16 (GX G H H.length)).toNat : Nat) : Int)) rfl (fun _ => by go_simp) (fun W hE => ref_at (GX G H H.length) _ _ _ W x2 ((sl_own [⟨g6, (flat ub (pb (H.length : Int) 2)).toArray, 5⟩, ⟨g3, (flat ub (pb (G.length : Int) 2)).toArray, 5⟩, ⟨g1, #[.slice p G.length c, .slice q H.length d], 37⟩] [] x3 rfl) W hE) (Nat.le_trans (Nat.le_of_eq (show (GX G H H.length).length = x from x2)) (by omega))) ?_
   simp only [Act.put, Xa, Xz, Xs]
   refine wl_val (.int .i64 (((crc 65535#16 (GX G H H.length)).toNat : Nat) : Int)) rfl (fun _ => rfl) ?_
   simp only [Act.put, Xa, Xz, Xs]
   refine wl_nil ?_
   refine we_then ?_
   refine wc_seq ?_
   refine wc_region ?_
   refine wl_val (.slice y.ptr x y.cap) rfl (fun _ => rfl) ?_
   simp only [Act.put, Xa, Xz, Xs]
   refine wl_val (.int .i64 (((crc 65535#16 (GX G H H.length)).toNat : Nat) : Int)) rfl (fun _ => rfl) ?_
   simp only [Act.put, Xa, Xz, Xs]
   refine wl_val (.int .i64 ((((crc 65535#16 (GX G H H.length)).toNat) / 256 : Nat) : Int)) rfl (fun w => run_nat (X := (crc 65535#16 (GX G H H.length)).toNat) (Y := 256) (Z := ((crc 65535#16 (GX G H H.length)).toNat) / 256) rfl rfl rfl rfl (by omega) w) ?_
   simp only [Act.put, Xa, Xz, Xs]
   refine wl_val (.int .u8 ((BitVec.ofInt 8 ((((crc 65535#16 (GX G H H.length)).toNat) / 256 : Nat) : Int)).toNat : Int)) rfl (fun w => run_low (k := .u8) rfl rfl rfl Try.underlying3 Try.underlying5 w) ?_
   simp only [Act.put, Xa, Xz, Xs]
   refine wl_val (.int .i64 (((crc 65535#16 (GX G H H.length)).toNat : Nat) : Int)) rfl (fun _ => rfl) ?_
   simp only [Act.put, Xa, Xz, Xs]
   refine wl_val (.int .i64 ((((crc 65535#16 (GX G H H.length)).toNat) % 256 : Nat) : Int)) rfl (fun w => run_nat (X := (crc 65535#16 (GX G H H.length)).toNat) (Y := 256) (Z := ((crc 65535#16 (GX G H H.length)).toNat) % 256) rfl rfl rfl rfl (by omega) w) ?_
   simp only [Act.put, Xa, Xz, Xs]
   refine wl_val (.int .u8 ((BitVec.ofInt 8 ((((crc 65535#16 (GX G H H.length)).toNat) % 256 : Nat) : Int)).toNat : Int)) rfl (fun w => run_low (k := .u8) rfl rfl rfl Try.underlying3 Try.underlying5 w) ?_
   simp only [Act.put, Xa, Xz, Xs]
   refine wl_lit (e := 5) #[.int .u8 ((BitVec.ofInt 8 ((((crc 65535#16 (GX G H H.length)).toNat) / 256 : Nat) : Int)).toNat : Int), .int .u8 ((BitVec.ofInt 8 ((((crc 65535#16 (GX G H H.length)).toNat) % 256 : Nat) : Int)).toNat : Int)] 2 rfl (fun _ => by go_simp) ?_
   intro g9
   simp only [Act.put, Xa, Xz, Xs]
   refine wl_append (e := 5) (size := 1) (bytes := 1) (m := 2) [⟨g9, #[.int .u8 ((BitVec.ofInt 8 ((((crc 65535#16 (GX G H H.length)).toNat) / 256 : Nat) : Int)).toNat : Int), .int .u8 ((BitVec.ofInt 8 ((((crc 65535#16 (GX G H H.length)).toNat) % 256 : Nat) : Int)).toNat : Int)], 5⟩, ⟨g6, (flat ub (pb (H.length : Int) 2)).toArray, 5⟩, ⟨g3, (flat ub (pb (G.length : Int) 2)).toArray, 5⟩, ⟨g1, #[.slice p G.length c, .slice q H.length d], 37⟩] [] y (ys := flat ub ([by8 ((((crc 65535#16 (GX G H H.length)).toNat) / 256 : Nat) : Int), by8 ((((crc 65535#16 (GX G H H.length)).toNat) % 256 : Nat) : Int)])) rfl x3 (sl_lit 0 (L := [by8 ((((crc 65535#16 (GX G H H.length)).toNat) / 256 : Nat) : Int), by8 ((((crc 65535#16 (GX G H H.length)).toNat) % 256 : Nat) : Int)]) rfl rfl) (ub_len1 rfl) (flat_one ub_one _) rfl rfl rfl rfl Try.underlying28 (by unfold Elem; kernel_rfl) (by decide) (by unfold maxLen; omega) (by omega) ?_
   intro s10 hs10
   replace hs10 := has_cast (show _ = flat ub ((GX G H H.length) ++ ([by8 ((((crc 65535#16 (GX G H H.length)).toNat) / 256 : Nat) : Int), by8 ((((crc 65535#16 (GX G H H.length)).toNat) % 256 : Nat) : Int)])) from by first | exact (flat_append _ _ _).symm | rw [flat_append] <;> rfl) hs10
   simp only [List.cons_append, List.nil_append, Act.put, Xa, Xz, Xs]
   refine wl_val (.slice s10.ptr (x + 2) s10.cap) rfl (fun _ => rfl) ?_
   simp only [Act.put, Xa, Xz, Xs]
   refine wl_nil ?_
   refine we_then ?_
   refine wc_ret ?_
   refine we_ret1 (.slice s10.ptr (x + 2) s10.cap) rfl rfl rfl (fun w1 hE => ?_)
   have ef : (GX G H H.length) ++ ([by8 ((((crc 65535#16 (GX G H H.length)).toNat) / 256 : Nat) : Int), by8 ((((crc 65535#16 (GX G H H.length)).toNat) % 256 : Nat) : Int)]) = img (G.map dat) H := by rw [pack_fin]; unfold img; rw [← GX_all]
   have eh := has_cast (congrArg (flat ub) ef) hs10
   have el : x + 2 = (img (G.map dat) H).length := by rw [← ef, List.length_append, x2]; rfl
   exact ⟨s10, by rw [← el]; exact eh, by rw [← el], Env.tail hE (List.Sublist.cons _ (List.Sublist.cons _ (List.Sublist.cons _ (List.Sublist.cons _ (List.Sublist.append_left List.Sublist.slnil _)))))⟩
  ·
   skip
   have p8 : (r : Int) < (H.length : Int) := of_decide_eq_true h8
   refine wc_true rfl ?_
   refine wc_skip ?_
   refine we_then ?_
   refine wc_seq ?_
   refine wc_block ?_
   refine wc_seq ?_
   refine wc_region ?_
   refine wl_val (.pointer (some ⟨g1, 1, none⟩)) rfl (fun _ => by go_simp) ?_
   simp only [Act.put, Xa, Xz, Xs]
   refine wl_cell 35 (.tmp 103) (.slice q H.length d) (own_row 2 rfl) rfl rfl rfl rfl Try.isAgg35 ?_
   simp only [Act.put, Xa, Xz, Xs]
   refine wl_val (.int .i64 (r : Int)) rfl (fun _ => rfl) ?_
   simp only [Act.put, Xa, Xz, Xs]
   refine wl_read (eaddr q (r * 5)) rfl (er_index r 5 (sl_old hH) rfl rfl rfl rfl (by omega) (flat_length (enc := gp) (size := 5) (fun _ => rfl) _) (by decide) Try.underlying35 (by kernel_rfl)) ?_
   simp only [Act.put, Xa, Xz, Xs]
   refine wl_read (.agg #[.int .i64 ((H[r]!).id), .int .i64 ((H[r]!).seg), .int .i64 ((H[r]!).off), .int .i64 ((H[r]!).acc), .int .i64 ((H[r]!).slack)]) rfl (er_part (r * 5) [.int .i64 ((H[r]!).id), .int .i64 ((H[r]!).seg), .int .i64 ((H[r]!).off), .int .i64 ((H[r]!).acc), .int .i64 ((H[r]!).slack)] (sl_old hH) rfl rfl (flat_part (enc := gp) (fun _ => rfl) H r (by omega)) (Nat.zero_lt_succ _) Try.underlying67 rfl (by kernel_rfl)) ?_
   simp only [Act.put, Xa, Xz, Xs]
   refine wl_new 67 (#[.int .i64 0, .int .i64 0, .int .i64 0, .int .i64 0, .int .i64 0]) rfl (fun _ => by go_simp) ?_
   intro g11
   simp only [Act.put, Xa, Xz, Xs]
   refine wl_store 0 67 (.tmp 9) (.tmp 107) (#[.int .i64 ((H[r]!).id), .int .i64 ((H[r]!).seg), .int .i64 ((H[r]!).off), .int .i64 ((H[r]!).acc), .int .i64 ((H[r]!).slack)]) rfl rfl rfl rfl rfl (by kernel_rfl) rfl (by simp [Value.oneCell']) ?_
   simp only [Act.put, List.set_cons_zero]
   refine wl_nil ?_
   refine we_then ?_
   refine wc_seq ?_
   have gl := grp_lim hM (show r < H.length by omega)
   refine wc_region ?_
   refine wl_val (.slice y.ptr x y.cap) rfl (fun _ => rfl) ?_
   simp only [Act.put, Xa, Xz, Xs]
   refine wl_val (.pointer (some ⟨g11, 0, none⟩)) rfl (fun _ => by go_simp) ?_
   simp only [Act.put, Xa, Xz, Xs]
   refine wl_cell 3 (.tmp 109) (.int .i64 ((H[r]!).id)) (own_row 0 rfl) rfl rfl rfl rfl Try.isAgg3 ?_
   simp only [Act.put, Xa, Xz, Xs]
   refine wl_call_env (ι := Nat) 28 #[.int .i64 ((H[r]!).id), .int .i64 2] (fun g12 => .slice (some ⟨g12, 0, none⟩) 2 2) (fun g12 => [⟨g12, (flat ub (pb ((H[r]!).id) 2)).toArray, 5⟩]) (fun _ => True) rfl (fun _ => by go_simp) (fun W hE => put_any ((H[r]!).id) 2 W (by omega) (by decide) (by decide)) ?_
   rintro g12 -
   simp only [List.cons_append, List.nil_append, Act.put, Xa, Xz, Xs]
   refine wl_append (e := 5) (size := 1) (bytes := 1) (m := 2) [⟨g12, (flat ub (pb ((H[r]!).id) 2)).toArray, 5⟩, ⟨g11, #[.int .i64 ((H[r]!).id), .int .i64 ((H[r]!).seg), .int .i64 ((H[r]!).off), .int .i64 ((H[r]!).acc), .int .i64 ((H[r]!).slack)], 67⟩, ⟨g6, (flat ub (pb (H.length : Int) 2)).toArray, 5⟩, ⟨g3, (flat ub (pb (G.length : Int) 2)).toArray, 5⟩, ⟨g1, #[.slice p G.length c, .slice q H.length d], 37⟩] [] y (ys := flat ub (pb ((H[r]!).id) 2)) rfl x3 (sl_mk 0 (L := pb ((H[r]!).id) 2) rfl) (ub_len1 (pb_len _ _)) (flat_one ub_one _) rfl rfl rfl rfl Try.underlying28 (by unfold Elem; kernel_rfl) (by decide) (by unfold maxLen; omega) (by omega) ?_
   intro s13 hs13
   replace hs13 := has_cast (show _ = flat ub ((GX G H r) ++ (pb ((H[r]!).id) 2)) from by first | exact (flat_append _ _ _).symm | rw [flat_append] <;> rfl) hs13
   simp only [List.cons_append, List.nil_append, Act.put, Xa, Xz, Xs]
   refine wl_val (.slice s13.ptr (x + 2) s13.cap) rfl (fun _ => rfl) ?_
   simp only [Act.put, Xa, Xz, Xs]
   refine wl_nil ?_
   refine we_then ?_
   refine wc_seq ?_
   refine wc_region ?_
   refine wl_val (.slice s13.ptr (x + 2) s13.cap) rfl (fun _ => rfl) ?_
   simp only [Act.put, Xa, Xz, Xs]
   refine wl_val (.pointer (some ⟨g11, 1, none⟩)) rfl (fun _ => by go_simp) ?_
   simp only [Act.put, Xa, Xz, Xs]
   refine wl_cell 3 (.tmp 114) (.int .i64 ((H[r]!).seg)) (own_row 1 rfl) rfl rfl rfl rfl Try.isAgg3 ?_
   simp only [Act.put, Xa, Xz, Xs]
   refine wl_val (.int .u8 ((BitVec.ofInt 8 ((H[r]!).seg)).toNat : Int)) rfl (fun w => run_low (k := .u8) rfl rfl rfl Try.underlying3 Try.underlying5 w) ?_
   simp only [Act.put, Xa, Xz, Xs]
   refine wl_lit (e := 5) #[.int .u8 ((BitVec.ofInt 8 ((H[r]!).seg)).toNat : Int)] 1 rfl (fun _ => by go_simp) ?_
   intro g14
   simp only [Act.put, Xa, Xz, Xs]
   refine wl_append (e := 5) (size := 1) (bytes := 1) (m := 1) [⟨g14, #[.int .u8 ((BitVec.ofInt 8 ((H[r]!).seg)).toNat : Int)], 5⟩, ⟨g12, (flat ub (pb ((H[r]!).id) 2)).toArray, 5⟩, ⟨g11, #[.int .i64 ((H[r]!).id), .int .i64 ((H[r]!).seg), .int .i64 ((H[r]!).off), .int .i64 ((H[r]!).acc), .int .i64 ((H[r]!).slack)], 67⟩, ⟨g6, (flat ub (pb (H.length : Int) 2)).toArray, 5⟩, ⟨g3, (flat ub (pb (G.length : Int) 2)).toArray, 5⟩, ⟨g1, #[.slice p G.length c, .slice q H.length d], 37⟩] [] s13 (ys := flat ub ([by8 ((H[r]!).seg)])) rfl hs13 (sl_lit 0 (L := [by8 ((H[r]!).seg)]) rfl rfl) (ub_len1 rfl) (flat_one ub_one _) rfl rfl rfl rfl Try.underlying28 (by unfold Elem; kernel_rfl) (by decide) (by unfold maxLen; omega) (by omega) ?_
   intro s15 hs15
   replace hs15 := has_cast (show _ = flat ub ((GX G H r) ++ (pb ((H[r]!).id) 2) ++ ([by8 ((H[r]!).seg)])) from by first | exact (flat_append _ _ _).symm | rw [flat_append] <;> rfl) hs15
   simp only [List.cons_append, List.nil_append, Act.put, Xa, Xz, Xs]
   refine wl_val (.slice s15.ptr (x + 2 + 1) s15.cap) rfl (fun _ => rfl) ?_
   simp only [Act.put, Xa, Xz, Xs]
   refine wl_nil ?_
   refine we_then ?_
   refine wc_seq ?_
   refine wc_region ?_
   refine wl_val (.slice s15.ptr (x + 2 + 1) s15.cap) rfl (fun _ => rfl) ?_
   simp only [Act.put, Xa, Xz, Xs]
   refine wl_val (.pointer (some ⟨g11, 2, none⟩)) rfl (fun _ => by go_simp) ?_
   simp only [Act.put, Xa, Xz, Xs]
   refine wl_cell 2 (.tmp 120) (.int .i64 ((H[r]!).off)) (own_row 2 rfl) rfl rfl rfl rfl Try.isAgg2 ?_
   simp only [Act.put, Xa, Xz, Xs]
   refine wl_call_env (ι := Nat) 28 #[.int .i64 ((H[r]!).off), .int .i64 8] (fun g16 => .slice (some ⟨g16, 0, none⟩) 8 8) (fun g16 => [⟨g16, (flat ub (pb ((H[r]!).off) 8)).toArray, 5⟩]) (fun _ => True) rfl (fun _ => by go_simp) (fun W hE => put_any ((H[r]!).off) 8 W (by omega) (by decide) (by decide)) ?_
   rintro g16 -
   simp only [List.cons_append, List.nil_append, Act.put, Xa, Xz, Xs]
   refine wl_append (e := 5) (size := 1) (bytes := 1) (m := 8) [⟨g16, (flat ub (pb ((H[r]!).off) 8)).toArray, 5⟩, ⟨g14, #[.int .u8 ((BitVec.ofInt 8 ((H[r]!).seg)).toNat : Int)], 5⟩, ⟨g12, (flat ub (pb ((H[r]!).id) 2)).toArray, 5⟩, ⟨g11, #[.int .i64 ((H[r]!).id), .int .i64 ((H[r]!).seg), .int .i64 ((H[r]!).off), .int .i64 ((H[r]!).acc), .int .i64 ((H[r]!).slack)], 67⟩, ⟨g6, (flat ub (pb (H.length : Int) 2)).toArray, 5⟩, ⟨g3, (flat ub (pb (G.length : Int) 2)).toArray, 5⟩, ⟨g1, #[.slice p G.length c, .slice q H.length d], 37⟩] [] s15 (ys := flat ub (pb ((H[r]!).off) 8)) rfl hs15 (sl_mk 0 (L := pb ((H[r]!).off) 8) rfl) (ub_len1 (pb_len _ _)) (flat_one ub_one _) rfl rfl rfl rfl Try.underlying28 (by unfold Elem; kernel_rfl) (by decide) (by unfold maxLen; omega) (by omega) ?_
   intro s17 hs17
   replace hs17 := has_cast (show _ = flat ub ((GX G H r) ++ (pb ((H[r]!).id) 2) ++ ([by8 ((H[r]!).seg)]) ++ (pb ((H[r]!).off) 8)) from by first | exact (flat_append _ _ _).symm | rw [flat_append] <;> rfl) hs17
   simp only [List.cons_append, List.nil_append, Act.put, Xa, Xz, Xs]
   refine wl_val (.slice s17.ptr (x + 2 + 1 + 8) s17.cap) rfl (fun _ => rfl) ?_
   simp only [Act.put, Xa, Xz, Xs]
   refine wl_nil ?_
   refine we_then ?_
   refine wc_seq ?_
   refine wc_region ?_
   refine wl_val (.slice s17.ptr (x + 2 + 1 + 8) s17.cap) rfl (fun _ => rfl) ?_
   simp only [Act.put, Xa, Xz, Xs]
   refine wl_val (.pointer (some ⟨g11, 3, none⟩)) rfl (fun _ => by go_simp) ?_
   simp only [Act.put, Xa, Xz, Xs]
   refine wl_cell 2 (.tmp 125) (.int .i64 ((H[r]!).acc)) (own_row 3 rfl) rfl rfl rfl rfl Try.isAgg2 ?_
   simp only [Act.put, Xa, Xz, Xs]
   refine wl_call_env (ι := Nat) 28 #[.int .i64 ((H[r]!).acc), .int .i64 4] (fun g18 => .slice (some ⟨g18, 0, none⟩) 4 4) (fun g18 => [⟨g18, (flat ub (pb ((H[r]!).acc) 4)).toArray, 5⟩]) (fun _ => True) rfl (fun _ => by go_simp) (fun W hE => put_any ((H[r]!).acc) 4 W (by omega) (by decide) (by decide)) ?_
   rintro g18 -
   simp only [List.cons_append, List.nil_append, Act.put, Xa, Xz, Xs]
   refine wl_append (e := 5) (size := 1) (bytes := 1) (m := 4) [⟨g18, (flat ub (pb ((H[r]!).acc) 4)).toArray, 5⟩, ⟨g16, (flat ub (pb ((H[r]!).off) 8)).toArray, 5⟩, ⟨g14, #[.int .u8 ((BitVec.ofInt 8 ((H[r]!).seg)).toNat : Int)], 5⟩, ⟨g12, (flat ub (pb ((H[r]!).id) 2)).toArray, 5⟩, ⟨g11, #[.int .i64 ((H[r]!).id), .int .i64 ((H[r]!).seg), .int .i64 ((H[r]!).off), .int .i64 ((H[r]!).acc), .int .i64 ((H[r]!).slack)], 67⟩, ⟨g6, (flat ub (pb (H.length : Int) 2)).toArray, 5⟩, ⟨g3, (flat ub (pb (G.length : Int) 2)).toArray, 5⟩, ⟨g1, #[.slice p G.length c, .slice q H.length d], 37⟩] [] s17 (ys := flat ub (pb ((H[r]!).acc) 4)) rfl hs17 (sl_mk 0 (L := pb ((H[r]!).acc) 4) rfl) (ub_len1 (pb_len _ _)) (flat_one ub_one _) rfl rfl rfl rfl Try.underlying28 (by unfold Elem; kernel_rfl) (by decide) (by unfold maxLen; omega) (by omega) ?_
   intro s19 hs19
   replace hs19 := has_cast (show _ = flat ub ((GX G H r) ++ (pb ((H[r]!).id) 2) ++ ([by8 ((H[r]!).seg)]) ++ (pb ((H[r]!).off) 8) ++ (pb ((H[r]!).acc) 4)) from by first | exact (flat_append _ _ _).symm | rw [flat_append] <;> rfl) hs19
   simp only [List.cons_append, List.nil_append, Act.put, Xa, Xz, Xs]
   refine wl_val (.slice s19.ptr (x + 2 + 1 + 8 + 4) s19.cap) rfl (fun _ => rfl) ?_
   simp only [Act.put, Xa, Xz, Xs]
   refine wl_nil ?_
   refine we_then ?_
   refine wc_region ?_
   refine wl_val (.slice s19.ptr (x + 2 + 1 + 8 + 4) s19.cap) rfl (fun _ => rfl) ?_
   simp only [Act.put, Xa, Xz, Xs]
   refine wl_val (.pointer (some ⟨g11, 4, none⟩)) rfl (fun _ => by go_simp) ?_
   simp only [Act.put, Xa, Xz, Xs]
   refine wl_cell 2 (.tmp 130) (.int .i64 ((H[r]!).slack)) (own_row 4 rfl) rfl rfl rfl rfl Try.isAgg2 ?_
   simp only [Act.put, Xa, Xz, Xs]
   refine wl_call_env (ι := Nat) 28 #[.int .i64 ((H[r]!).slack), .int .i64 4] (fun g20 => .slice (some ⟨g20, 0, none⟩) 4 4) (fun g20 => [⟨g20, (flat ub (pb ((H[r]!).slack) 4)).toArray, 5⟩]) (fun _ => True) rfl (fun _ => by go_simp) (fun W hE => put_any ((H[r]!).slack) 4 W (by omega) (by decide) (by decide)) ?_
   rintro g20 -
   simp only [List.cons_append, List.nil_append, Act.put, Xa, Xz, Xs]
   refine wl_append (e := 5) (size := 1) (bytes := 1) (m := 4) [⟨g20, (flat ub (pb ((H[r]!).slack) 4)).toArray, 5⟩, ⟨g18, (flat ub (pb ((H[r]!).acc) 4)).toArray, 5⟩, ⟨g16, (flat ub (pb ((H[r]!).off) 8)).toArray, 5⟩, ⟨g14, #[.int .u8 ((BitVec.ofInt 8 ((H[r]!).seg)).toNat : Int)], 5⟩, ⟨g12, (flat ub (pb ((H[r]!).id) 2)).toArray, 5⟩, ⟨g11, #[.int .i64 ((H[r]!).id), .int .i64 ((H[r]!).seg), .int .i64 ((H[r]!).off), .int .i64 ((H[r]!).acc), .int .i64 ((H[r]!).slack)], 67⟩, ⟨g6, (flat ub (pb (H.length : Int) 2)).toArray, 5⟩, ⟨g3, (flat ub (pb (G.length : Int) 2)).toArray, 5⟩, ⟨g1, #[.slice p G.length c, .slice q H.length d], 37⟩] [] s19 (ys := flat ub (pb ((H[r]!).slack) 4)) rfl hs19 (sl_mk 0 (L := pb ((H[r]!).slack) 4) rfl) (ub_len1 (pb_len _ _)) (flat_one ub_one _) rfl rfl rfl rfl Try.underlying28 (by unfold Elem; kernel_rfl) (by decide) (by unfold maxLen; omega) (by omega) ?_
   intro s21 hs21
   replace hs21 := has_cast (show _ = flat ub ((GX G H r) ++ (pb ((H[r]!).id) 2) ++ ([by8 ((H[r]!).seg)]) ++ (pb ((H[r]!).off) 8) ++ (pb ((H[r]!).acc) 4) ++ (pb ((H[r]!).slack) 4)) from by first | exact (flat_append _ _ _).symm | rw [flat_append] <;> rfl) hs21
   simp only [List.cons_append, List.nil_append, Act.put, Xa, Xz, Xs]
   refine wl_val (.slice s21.ptr (x + 2 + 1 + 8 + 4 + 4) s21.cap) rfl (fun _ => rfl) ?_
   simp only [Act.put, Xa, Xz, Xs]
   refine wl_nil ?_
   refine we_in ?_
   refine we_then ?_
   refine wc_region ?_
   refine wl_val (.int .i64 (r : Int)) rfl (fun _ => rfl) ?_
   simp only [Act.put, Xa, Xz, Xs]
   refine wl_val (.int .i64 ((r + 1 : Nat) : Int)) rfl (fun w => run_nat (X := r) (Y := 1) (Z := r + 1) rfl rfl rfl rfl (by omega) w) ?_
   simp only [Act.put, Xa, Xz, Xs]
   refine wl_val (.int .i64 ((r + 1 : Nat) : Int)) rfl (fun _ => rfl) ?_
   simp only [Act.put, Xa, Xz, Xs]
   refine wl_nil ?_
   exact we_meet ⟨(r + 1), (x + 2 + 1 + 8 + 4 + 4), s21, _, _, _, _, _, _, _, _, _, _, _, _, _, _, _, _, _, _, _, _, _, _, _, _, _, _, _, _, _, _, _, _, _, _, _, _, _, _, _⟩ (by (try dsimp only); exact ⟨⟨by omega, (congrArg List.length (GX_s G H r (by omega))).symm.trans (app_len (app_len (app_len (app_len (app_len x2 (pb_len _ _)) rfl) (pb_len _ _)) (pb_len _ _)) (pb_len _ _)), (has_cast (congrArg (flat ub) (GX_s G H r (by omega))) hs21)⟩, by omega⟩) rfl (List.Sublist.cons _ (List.Sublist.cons _ (List.Sublist.cons _ (List.Sublist.cons _ (List.Sublist.cons _ (List.Sublist.cons _ (List.Sublist.cons_cons _ (List.Sublist.cons_cons _ (List.Sublist.cons_cons _ (List.Sublist.append_left List.Sublist.slnil _))))))))))
 ·
  skip
  have p5 : (i : Int) < (G.length : Int) := of_decide_eq_true h5
  refine wc_true rfl ?_
  refine wc_skip ?_
  refine we_then ?_
  refine wc_seq ?_
  refine wc_block ?_
  refine wc_seq ?_
  refine wc_region ?_
  refine wl_val (.pointer (some ⟨g1, 0, none⟩)) rfl (fun _ => by go_simp) ?_
  simp only [Act.put, Xa, Xz, Xs]
  refine wl_cell 34 (.tmp 25) (.slice p G.length c) (own_row 1 rfl) rfl rfl rfl rfl Try.isAgg34 ?_
  simp only [Act.put, Xa, Xz, Xs]
  refine wl_val (.int .i64 (i : Int)) rfl (fun _ => rfl) ?_
  simp only [Act.put, Xa, Xz, Xs]
  refine wl_read (eaddr p (i * 3)) rfl (er_index i 3 (sl_old hS) rfl rfl rfl rfl (by omega) (flat_length (enc := sg) (size := 3) (fun _ => rfl) _) (by decide) Try.underlying34 (by kernel_rfl)) ?_
  simp only [Act.put, Xa, Xz, Xs]
  refine wl_read (.agg #[.int .i64 ((G[i]!).len), .slice ((G[i]!).pp) ((G[i]!).P.length) ((G[i]!).pc), .slice ((G[i]!).np) ((G[i]!).X.length) ((G[i]!).nc)]) rfl (er_part (i * 3) [.int .i64 ((G[i]!).len), .slice ((G[i]!).pp) ((G[i]!).P.length) ((G[i]!).pc), .slice ((G[i]!).np) ((G[i]!).X.length) ((G[i]!).nc)] (sl_old hS) rfl rfl (flat_part (enc := sg) (fun _ => rfl) G i (by omega)) (Nat.zero_lt_succ _) Try.underlying66 rfl (by kernel_rfl)) ?_
  simp only [Act.put, Xa, Xz, Xs]
  refine wl_new 66 (#[.int .i64 0, .slice none 0 0, .slice none 0 0]) rfl (fun _ => by go_simp) ?_
  intro g22
  simp only [Act.put, Xa, Xz, Xs]
  refine wl_store 0 66 (.tmp 5) (.tmp 29) (#[.int .i64 ((G[i]!).len), .slice ((G[i]!).pp) ((G[i]!).P.length) ((G[i]!).pc), .slice ((G[i]!).np) ((G[i]!).X.length) ((G[i]!).nc)]) rfl rfl rfl rfl rfl (by kernel_rfl) rfl (by simp [Value.oneCell']) ?_
  simp only [Act.put, List.set_cons_zero]
  refine wl_nil ?_
  refine we_then ?_
  refine wc_seq ?_
  have sm := hM.segs i (by omega)
  have sq1 := sm.low
  have sq2 := sm.high
  have sq3 := sm.may.few
  have sq4 := sm.two
  refine wc_region ?_
  refine wl_val (.slice o.ptr n o.cap) rfl (fun _ => rfl) ?_
  simp only [Act.put, Xa, Xz, Xs]
  refine wl_val (.pointer (some ⟨g22, 0, none⟩)) rfl (fun _ => by go_simp) ?_
  simp only [Act.put, Xa, Xz, Xs]
  refine wl_cell 2 (.tmp 31) (.int .i64 ((G[i]!).len)) (own_row 0 rfl) rfl rfl rfl rfl Try.isAgg2 ?_
  simp only [Act.put, Xa, Xz, Xs]
  refine wl_call_env (ι := Nat) 28 #[.int .i64 ((G[i]!).len), .int .i64 8] (fun g23 => .slice (some ⟨g23, 0, none⟩) 8 8) (fun g23 => [⟨g23, (flat ub (pb ((G[i]!).len) 8)).toArray, 5⟩]) (fun _ => True) rfl (fun _ => by go_simp) (fun W hE => put_any ((G[i]!).len) 8 W (by omega) (by decide) (by decide)) ?_
  rintro g23 -
  simp only [List.cons_append, List.nil_append, Act.put, Xa, Xz, Xs]
  refine wl_append (e := 5) (size := 1) (bytes := 1) (m := 8) [⟨g23, (flat ub (pb ((G[i]!).len) 8)).toArray, 5⟩, ⟨g22, #[.int .i64 ((G[i]!).len), .slice ((G[i]!).pp) ((G[i]!).P.length) ((G[i]!).pc), .slice ((G[i]!).np) ((G[i]!).X.length) ((G[i]!).nc)], 66⟩, ⟨g3, (flat ub (pb (G.length : Int) 2)).toArray, 5⟩, ⟨g1, #[.slice p G.length c, .slice q H.length d], 37⟩] [] o (ys := flat ub (pb ((G[i]!).len) 8)) rfl b3 (sl_mk 0 (L := pb ((G[i]!).len) 8) rfl) (ub_len1 (pb_len _ _)) (flat_one ub_one _) rfl rfl rfl rfl Try.underlying28 (by unfold Elem; kernel_rfl) (by decide) (by unfold maxLen; omega) (by omega) ?_
  intro s24 hs24
  replace hs24 := has_cast (show _ = flat ub ((PX G i) ++ (pb ((G[i]!).len) 8)) from by first | exact (flat_append _ _ _).symm | rw [flat_append] <;> rfl) hs24
  simp only [List.cons_append, List.nil_append, Act.put, Xa, Xz, Xs]
  refine wl_val (.slice s24.ptr (n + 8) s24.cap) rfl (fun _ => rfl) ?_
  simp only [Act.put, Xa, Xz, Xs]
  refine wl_nil ?_
  refine we_then ?_
  refine wc_seq ?_
  refine wc_region ?_
  refine wl_val (.slice s24.ptr (n + 8) s24.cap) rfl (fun _ => rfl) ?_
  simp only [Act.put, Xa, Xz, Xs]
  refine wl_val (.pointer (some ⟨g22, 1, none⟩)) rfl (fun _ => by go_simp) ?_
  simp only [Act.put, Xa, Xz, Xs]
  refine wl_cell 64 (.tmp 36) (.slice ((G[i]!).pp) ((G[i]!).P.length) ((G[i]!).pc)) (own_row 1 rfl) rfl rfl rfl rfl Try.isAgg64 ?_
  simp only [Act.put, Xa, Xz, Xs]
  refine wl_val (.int .i64 (((G[i]!).P.length : Nat) : Int)) rfl (fun w => er_len rfl rfl Try.underlying64 w) ?_
  simp only [Act.put, Xa, Xz, Xs]
  refine wl_val (.int .u8 ((BitVec.ofInt 8 (((G[i]!).P.length : Nat) : Int)).toNat : Int)) rfl (fun w => run_low (k := .u8) rfl rfl rfl Try.underlying3 Try.underlying5 w) ?_
  simp only [Act.put, Xa, Xz, Xs]
  refine wl_lit (e := 5) #[.int .u8 ((BitVec.ofInt 8 (((G[i]!).P.length : Nat) : Int)).toNat : Int)] 1 rfl (fun _ => by go_simp) ?_
  intro g25
  simp only [Act.put, Xa, Xz, Xs]
  refine wl_append (e := 5) (size := 1) (bytes := 1) (m := 1) [⟨g25, #[.int .u8 ((BitVec.ofInt 8 (((G[i]!).P.length : Nat) : Int)).toNat : Int)], 5⟩, ⟨g23, (flat ub (pb ((G[i]!).len) 8)).toArray, 5⟩, ⟨g22, #[.int .i64 ((G[i]!).len), .slice ((G[i]!).pp) ((G[i]!).P.length) ((G[i]!).pc), .slice ((G[i]!).np) ((G[i]!).X.length) ((G[i]!).nc)], 66⟩, ⟨g3, (flat ub (pb (G.length : Int) 2)).toArray, 5⟩, ⟨g1, #[.slice p G.length c, .slice q H.length d], 37⟩] [] s24 (ys := flat ub ([by8 (((G[i]!).P.length : Nat) : Int)])) rfl hs24 (sl_lit 0 (L := [by8 (((G[i]!).P.length : Nat) : Int)]) rfl rfl) (ub_len1 rfl) (flat_one ub_one _) rfl rfl rfl rfl Try.underlying28 (by unfold Elem; kernel_rfl) (by decide) (by unfold maxLen; omega) (by omega) ?_
  intro s26 hs26
  replace hs26 := has_cast (show _ = flat ub ((PX G i) ++ (pb ((G[i]!).len) 8) ++ ([by8 (((G[i]!).P.length : Nat) : Int)])) from by first | exact (flat_append _ _ _).symm | rw [flat_append] <;> rfl) hs26
  simp only [List.cons_append, List.nil_append, Act.put, Xa, Xz, Xs]
  refine wl_val (.slice s26.ptr (n + 8 + 1) s26.cap) rfl (fun _ => rfl) ?_
  simp only [Act.put, Xa, Xz, Xs]
  refine wl_nil ?_
  refine we_then ?_
  refine wc_seq ?_
  refine wc_seq ?_
  refine wc_region ?_
  refine wl_val (.int .i64 0) rfl (fun _ => rfl) ?_
  simp only [Act.put, Xa, Xz, Xs]
  refine wl_nil ?_
  refine we_then ?_
  refine wc_block ?_
  refine wc_loop (fun (zz : Nat × Nat × Own × Value × Value × Value × Value × Value × Value × Value × Value × Value × Value × Value × Value × Value × Value × Value × Value × Value × Value × Value × Value × Value × Value × Value × Value × Value) => match zz with | ⟨k, m, u, u42, u43, u44, u45, u46, u47, u48, u49, u50, u51, u52, u53, u54, u55, u56, u57, u58, u59, u60, u61, u62, u63, u64, u65, u66⟩ => ({ tmps := #[.agg #[.slice p G.length c, .slice q H.length d], .pointer (some ⟨g1, 0, none⟩), .slice none 0 0, .slice u.ptr m u.cap, .int .i64 (i : Int), .pointer (some ⟨g22, 0, none⟩), .int .i64 (k : Int), u7, undef, undef, undef, .slice (some ⟨g2, 0, none⟩) 4 4, .slice (some ⟨g2, 0, none⟩) 4 4, .pointer (some ⟨g1, 0, none⟩), .slice p G.length c, .int .i64 (G.length : Int), .slice (some ⟨g3, 0, none⟩) 2 2, .slice s4.ptr (4 + 2) s4.cap, .int .i64 (i : Int), .pointer (some ⟨g1, 0, none⟩), .slice p G.length c, .int .i64 (G.length : Int), .bool true, u23, u24, .pointer (some ⟨g1, 0, none⟩), .slice p G.length c, .int .i64 (i : Int), eaddr p (i * 3), .agg #[.int .i64 ((G[i]!).len), .slice ((G[i]!).pp) ((G[i]!).P.length) ((G[i]!).pc), .slice ((G[i]!).np) ((G[i]!).X.length) ((G[i]!).nc)], .slice o.ptr n o.cap, .pointer (some ⟨g22, 0, none⟩), .int .i64 ((G[i]!).len), .slice (some ⟨g23, 0, none⟩) 8 8, .slice s24.ptr (n + 8) s24.cap, .slice s24.ptr (n + 8) s24.cap, .pointer (some ⟨g22, 1, none⟩), .slice ((G[i]!).pp) ((G[i]!).P.length) ((G[i]!).pc), .int .i64 (((G[i]!).P.length : Nat) : Int), .int .u8 ((BitVec.ofInt 8 (((G[i]!).P.length : Nat) : Int)).toNat : Int), .slice (some ⟨g25, 0, none⟩) 1 1, .slice s26.ptr (n + 8 + 1) s26.cap, u42, u43, u44, u45, u46, u47, u48, u49, u50, u51, u52, u53, u54, u55, u56, u57, u58, u59, u60, u61, u62, u63, u64, u65, u66, u67, u68, u69, u70, u71, u72, u73, u74, u75, u76, u77, u78, u79, u80, u81, u82, u83, u84, u85, u86, u87, u88, u89, undef, undef, undef, undef, undef, undef, undef, undef, undef, undef, undef, undef, undef, undef, undef, undef, undef, undef, undef, undef, undef, undef, undef, undef, undef, undef, undef, undef, undef, undef, undef, undef, undef, undef, undef, undef, undef, undef, undef, undef, undef, undef, undef, undef, undef, undef, undef, undef, undef, undef, undef, undef, undef, undef, undef], defers := [] } : Act)) (fun (zz : Nat × Nat × Own × Value × Value × Value × Value × Value × Value × Value × Value × Value × Value × Value × Value × Value × Value × Value × Value × Value × Value × Value × Value × Value × Value × Value × Value × Value) => match zz with | ⟨k, m, u, u42, u43, u44, u45, u46, u47, u48, u49, u50, u51, u52, u53, u54, u55, u56, u57, u58, u59, u60, u61, u62, u63, u64, u65, u66⟩ => ⟨g25, #[.int .u8 ((BitVec.ofInt 8 (((G[i]!).P.length : Nat) : Int)).toNat : Int)], 5⟩ :: ⟨g23, (flat ub (pb ((G[i]!).len) 8)).toArray, 5⟩ :: ⟨g22, #[.int .i64 ((G[i]!).len), .slice ((G[i]!).pp) ((G[i]!).P.length) ((G[i]!).pc), .slice ((G[i]!).np) ((G[i]!).X.length) ((G[i]!).nc)], 66⟩ :: ⟨g3, (flat ub (pb (G.length : Int) 2)).toArray, 5⟩ :: ⟨g1, #[.slice p G.length c, .slice q H.length d], 37⟩ :: (u.rows 5 ++ [])) (fun (zz : Nat × Nat × Own × Value × Value × Value × Value × Value × Value × Value × Value × Value × Value × Value × Value × Value × Value × Value × Value × Value × Value × Value × Value × Value × Value × Value × Value × Value) => match zz with | ⟨k, m, u, u42, u43, u44, u45, u46, u47, u48, u49, u50, u51, u52, u53, u54, u55, u56, u57, u58, u59, u60, u61, u62, u63, u64, u65, u66⟩ => k ≤ (G[i]!).P.length ∧ (QX G i k).length = m ∧ u.Has 1 m (flat ub (QX G i k))) (fun (zz : Nat × Nat × Own × Value × Value × Value × Value × Value × Value × Value × Value × Value × Value × Value × Value × Value × Value × Value × Value × Value × Value × Value × Value × Value × Value × Value × Value × Value) => match zz with | ⟨k, m, u, u42, u43, u44, u45, u46, u47, u48, u49, u50, u51, u52, u53, u54, u55, u56, u57, u58, u59, u60, u61, u62, u63, u64, u65, u66⟩ => (G[i]!).P.length - k) ⟨0, (n + 8 + 1), s26, _, _, _, _, _, _, _, _, _, _, _, _, _, _, _, _, _, _, _, _, _, _, _, _, _⟩ ⟨Nat.zero_le _, (congrArg List.length (QX_0 G i)).symm.trans (app_len (app_len b2 (pb_len _ _)) rfl), (has_cast (congrArg (flat ub) (QX_0 G i)) hs26)⟩ rfl (List.Sublist.cons_cons _ (List.Sublist.cons_cons _ (List.Sublist.cons_cons _ (List.Sublist.cons_cons _ (List.Sublist.cons_cons _ (List.Sublist.append_left List.Sublist.slnil _)))))) ?_
  rintro ⟨k, m, u, u42, u43, u44, u45, u46, u47, u48, u49, u50, u51, u52, u53, u54, u55, u56, u57, u58, u59, u60, u61, u62, u63, u64, u65, u66⟩ hφ
  (try dsimp only at hφ ⊢)
  obtain ⟨c1, c2, c3⟩ := hφ
  have c4 := qx_le hM (show i < G.length by omega) k
  refine wc_seq ?_
  refine wc_seq ?_
  refine wc_region ?_
  refine wl_val (.int .i64 (k : Int)) rfl (fun _ => rfl) ?_
  simp only [Act.put, Xa, Xz, Xs]
  refine wl_val (.pointer (some ⟨g22, 1, none⟩)) rfl (fun _ => by go_simp) ?_
  simp only [Act.put, Xa, Xz, Xs]
  refine wl_cell 64 (.tmp 43) (.slice ((G[i]!).pp) ((G[i]!).P.length) ((G[i]!).pc)) (own_row 2 rfl) rfl rfl rfl rfl Try.isAgg64 ?_
  simp only [Act.put, Xa, Xz, Xs]
  refine wl_val (.int .i64 (((G[i]!).P.length : Nat) : Int)) rfl (fun w => er_len rfl rfl Try.underlying64 w) ?_
  simp only [Act.put, Xa, Xz, Xs]
  refine wl_val (.bool (decide ((k : Int) < (((G[i]!).P.length : Nat) : Int)))) rfl (fun w => run_cmp rfl rfl rfl Try.underlying3 rfl w) ?_
  simp only [Act.put, Xa, Xz, Xs]
  refine wl_nil ?_
  refine we_then ?_
  cases h27 : (decide ((k : Int) < (((G[i]!).P.length : Nat) : Int)))
  ·
   skip
   have p27 : ¬ ((k : Int) < (((G[i]!).P.length : Nat) : Int)) := of_decide_eq_false h27
   refine wc_false rfl ?_
   refine wc_exit ?_
   refine we_then_exit ?_
   refine we_then_exit ?_
   refine we_in_here ?_
   refine we_then ?_
   refine wc_seq ?_
   have e1 : k = (G[i]!).P.length := by omega
   rw [e1] at c2 c3 c4
   refine wc_region ?_
   refine wl_val (.slice u.ptr m u.cap) rfl (fun _ => rfl) ?_
   simp only [Act.put, Xa, Xz, Xs]
   refine wl_val (.pointer (some ⟨g22, 2, none⟩)) rfl (fun _ => by go_simp) ?_
   simp only [Act.put, Xa, Xz, Xs]
   refine wl_cell 52 (.tmp 68) (.slice ((G[i]!).np) ((G[i]!).X.length) ((G[i]!).nc)) (own_row 2 rfl) rfl rfl rfl rfl Try.isAgg52 ?_
   simp only [Act.put, Xa, Xz, Xs]
   refine wl_val (.int .i64 (((G[i]!).X.length : Nat) : Int)) rfl (fun w => er_len rfl rfl Try.underlying52 w) ?_
   simp only [Act.put, Xa, Xz, Xs]
   refine wl_val (.int .u8 ((BitVec.ofInt 8 (((G[i]!).X.length : Nat) : Int)).toNat : Int)) rfl (fun w => run_low (k := .u8) rfl rfl rfl Try.underlying3 Try.underlying5 w) ?_
   simp only [Act.put, Xa, Xz, Xs]
   refine wl_lit (e := 5) #[.int .u8 ((BitVec.ofInt 8 (((G[i]!).X.length : Nat) : Int)).toNat : Int)] 1 rfl (fun _ => by go_simp) ?_
   intro g28
   simp only [Act.put, Xa, Xz, Xs]
   refine wl_append (e := 5) (size := 1) (bytes := 1) (m := 1) [⟨g28, #[.int .u8 ((BitVec.ofInt 8 (((G[i]!).X.length : Nat) : Int)).toNat : Int)], 5⟩, ⟨g25, #[.int .u8 ((BitVec.ofInt 8 (((G[i]!).P.length : Nat) : Int)).toNat : Int)], 5⟩, ⟨g23, (flat ub (pb ((G[i]!).len) 8)).toArray, 5⟩, ⟨g22, #[.int .i64 ((G[i]!).len), .slice ((G[i]!).pp) ((G[i]!).P.length) ((G[i]!).pc), .slice ((G[i]!).np) ((G[i]!).X.length) ((G[i]!).nc)], 66⟩, ⟨g3, (flat ub (pb (G.length : Int) 2)).toArray, 5⟩, ⟨g1, #[.slice p G.length c, .slice q H.length d], 37⟩] [] u (ys := flat ub ([by8 (((G[i]!).X.length : Nat) : Int)])) rfl c3 (sl_lit 0 (L := [by8 (((G[i]!).X.length : Nat) : Int)]) rfl rfl) (ub_len1 rfl) (flat_one ub_one _) rfl rfl rfl rfl Try.underlying28 (by unfold Elem; kernel_rfl) (by decide) (by unfold maxLen; omega) (by omega) ?_
   intro s29 hs29
   replace hs29 := has_cast (show _ = flat ub ((QX G i (G[i]!).P.length) ++ ([by8 (((G[i]!).X.length : Nat) : Int)])) from by first | exact (flat_append _ _ _).symm | rw [flat_append] <;> rfl) hs29
   simp only [List.cons_append, List.nil_append, Act.put, Xa, Xz, Xs]
   refine wl_val (.slice s29.ptr (m + 1) s29.cap) rfl (fun _ => rfl) ?_
   simp only [Act.put, Xa, Xz, Xs]
   refine wl_nil ?_
   refine we_then ?_
   refine wc_seq ?_
   refine wc_region ?_
   refine wl_val (.int .i64 0) rfl (fun _ => rfl) ?_
   simp only [Act.put, Xa, Xz, Xs]
   refine wl_nil ?_
   refine we_then ?_
   refine wc_block ?_
   refine wc_loop (fun (zz : Nat × Nat × Own × Value × Value × Value × Value × Value × Value × Value × Value × Value × Value × Value × Value × Value × Value × Value × Value) => match zz with | ⟨j, l, v, u74, u75, u76, u77, u78, u79, u80, u81, u82, u83, u84, u85, u86, u87, u88, u89⟩ => ({ tmps := #[.agg #[.slice p G.length c, .slice q H.length d], .pointer (some ⟨g1, 0, none⟩), .slice none 0 0, .slice v.ptr l v.cap, .int .i64 (i : Int), .pointer (some ⟨g22, 0, none⟩), .int .i64 (k : Int), .int .i64 (j : Int), undef, undef, undef, .slice (some ⟨g2, 0, none⟩) 4 4, .slice (some ⟨g2, 0, none⟩) 4 4, .pointer (some ⟨g1, 0, none⟩), .slice p G.length c, .int .i64 (G.length : Int), .slice (some ⟨g3, 0, none⟩) 2 2, .slice s4.ptr (4 + 2) s4.cap, .int .i64 (i : Int), .pointer (some ⟨g1, 0, none⟩), .slice p G.length c, .int .i64 (G.length : Int), .bool true, u23, u24, .pointer (some ⟨g1, 0, none⟩), .slice p G.length c, .int .i64 (i : Int), eaddr p (i * 3), .agg #[.int .i64 ((G[i]!).len), .slice ((G[i]!).pp) ((G[i]!).P.length) ((G[i]!).pc), .slice ((G[i]!).np) ((G[i]!).X.length) ((G[i]!).nc)], .slice o.ptr n o.cap, .pointer (some ⟨g22, 0, none⟩), .int .i64 ((G[i]!).len), .slice (some ⟨g23, 0, none⟩) 8 8, .slice s24.ptr (n + 8) s24.cap, .slice s24.ptr (n + 8) s24.cap, .pointer (some ⟨g22, 1, none⟩), .slice ((G[i]!).pp) ((G[i]!).P.length) ((G[i]!).pc), .int .i64 (((G[i]!).P.length : Nat) : Int), .int .u8 ((BitVec.ofInt 8 (((G[i]!).P.length : Nat) : Int)).toNat : Int), .slice (some ⟨g25, 0, none⟩) 1 1, .slice s26.ptr (n + 8 + 1) s26.cap, .int .i64 (k : Int), .pointer (some ⟨g22, 1, none⟩), .slice ((G[i]!).pp) ((G[i]!).P.length) ((G[i]!).pc), .int .i64 (((G[i]!).P.length : Nat) : Int), .bool false, u47, u48, u49, u50, u51, u52, u53, u54, u55, u56, u57, u58, u59, u60, u61, u62, u63, u64, u65, u66, .slice u.ptr m u.cap, .pointer (some ⟨g22, 2, none⟩), .slice ((G[i]!).np) ((G[i]!).X.length) ((G[i]!).nc), .int .i64 (((G[i]!).X.length : Nat) : Int), .int .u8 ((BitVec.ofInt 8 (((G[i]!).X.length : Nat) : Int)).toNat : Int), .slice (some ⟨g28, 0, none⟩) 1 1, .slice s29.ptr (m + 1) s29.cap, u74, u75, u76, u77, u78, u79, u80, u81, u82, u83, u84, u85, u86, u87, u88, u89, undef, undef, undef, undef, undef, undef, undef, undef, undef, undef, undef, undef, undef, undef, undef, undef, undef, undef, undef, undef, undef, undef, undef, undef, undef, undef, undef, undef, undef, undef, undef, undef, undef, undef, undef, undef, undef, undef, undef, undef, undef, undef, undef, undef, undef, undef, undef, undef, undef, undef, undef, undef, undef, undef, undef], defers := [] } : Act)) (fun (zz : Nat × Nat × Own × Value × Value × Value × Value × Value × Value × Value × Value × Value × Value × Value × Value × Value × Value × Value × Value) => match zz with | ⟨j, l, v, u74, u75, u76, u77, u78, u79, u80, u81, u82, u83, u84, u85, u86, u87, u88, u89⟩ => ⟨g28, #[.int .u8 ((BitVec.ofInt 8 (((G[i]!).X.length : Nat) : Int)).toNat : Int)], 5⟩ :: ⟨g25, #[.int .u8 ((BitVec.ofInt 8 (((G[i]!).P.length : Nat) : Int)).toNat : Int)], 5⟩ :: ⟨g23, (flat ub (pb ((G[i]!).len) 8)).toArray, 5⟩ :: ⟨g22, #[.int .i64 ((G[i]!).len), .slice ((G[i]!).pp) ((G[i]!).P.length) ((G[i]!).pc), .slice ((G[i]!).np) ((G[i]!).X.length) ((G[i]!).nc)], 66⟩ :: ⟨g3, (flat ub (pb (G.length : Int) 2)).toArray, 5⟩ :: ⟨g1, #[.slice p G.length c, .slice q H.length d], 37⟩ :: (v.rows 5 ++ [])) (fun (zz : Nat × Nat × Own × Value × Value × Value × Value × Value × Value × Value × Value × Value × Value × Value × Value × Value × Value × Value × Value) => match zz with | ⟨j, l, v, u74, u75, u76, u77, u78, u79, u80, u81, u82, u83, u84, u85, u86, u87, u88, u89⟩ => j ≤ (G[i]!).X.length ∧ (RX G i j).length = l ∧ v.Has 1 l (flat ub (RX G i j))) (fun (zz : Nat × Nat × Own × Value × Value × Value × Value × Value × Value × Value × Value × Value × Value × Value × Value × Value × Value × Value × Value) => match zz with | ⟨j, l, v, u74, u75, u76, u77, u78, u79, u80, u81, u82, u83, u84, u85, u86, u87, u88, u89⟩ => (G[i]!).X.length - j) ⟨0, (m + 1), s29, _, _, _, _, _, _, _, _, _, _, _, _, _, _, _, _⟩ ⟨Nat.zero_le _, (congrArg List.length (RX_0 G i)).symm.trans (app_len c2 rfl), (has_cast (congrArg (flat ub) (RX_0 G i)) hs29)⟩ rfl (List.Sublist.cons_cons _ (List.Sublist.cons_cons _ (List.Sublist.cons_cons _ (List.Sublist.cons_cons _ (List.Sublist.cons_cons _ (List.Sublist.cons_cons _ (List.Sublist.append_left List.Sublist.slnil _))))))) ?_
   rintro ⟨j, l, v, u74, u75, u76, u77, u78, u79, u80, u81, u82, u83, u84, u85, u86, u87, u88, u89⟩ hφ
   (try dsimp only at hφ ⊢)
   obtain ⟨d1, d2, d3⟩ := hφ
   have d4 := rx_le hM (show i < G.length by omega) j
   refine wc_seq ?_
   refine wc_seq ?_
   refine wc_region ?_
   refine wl_val (.int .i64 (j : Int)) rfl (fun _ => rfl) ?_
   simp only [Act.put, Xa, Xz, Xs]
   refine wl_val (.pointer (some ⟨g22, 2, none⟩)) rfl (fun _ => by go_simp) ?_
   simp only [Act.put, Xa, Xz, Xs]
   refine wl_cell 52 (.tmp 75) (.slice ((G[i]!).np) ((G[i]!).X.length) ((G[i]!).nc)) (own_row 3 rfl) rfl rfl rfl rfl Try.isAgg52 ?_
   simp only [Act.put, Xa, Xz, Xs]
   refine wl_val (.int .i64 (((G[i]!).X.length : Nat) : Int)) rfl (fun w => er_len rfl rfl Try.underlying52 w) ?_
   simp only [Act.put, Xa, Xz, Xs]
   refine wl_val (.bool (decide ((j : Int) < (((G[i]!).X.length : Nat) : Int)))) rfl (fun w => run_cmp rfl rfl rfl Try.underlying3 rfl w) ?_
   simp only [Act.put, Xa, Xz, Xs]
   refine wl_nil ?_
   refine we_then ?_
   cases h30 : (decide ((j : Int) < (((G[i]!).X.length : Nat) : Int)))
   ·
    skip
    have p30 : ¬ ((j : Int) < (((G[i]!).X.length : Nat) : Int)) := of_decide_eq_false h30
    refine wc_false rfl ?_
    refine wc_exit ?_
    refine we_then_exit ?_
    refine we_then_exit ?_
    refine we_in_here ?_
    refine we_in ?_
    refine we_then ?_
    have e2 : j = (G[i]!).X.length := by omega
    rw [e2] at d2 d3 d4
    refine wc_region ?_
    refine wl_val (.int .i64 (i : Int)) rfl (fun _ => rfl) ?_
    simp only [Act.put, Xa, Xz, Xs]
    refine wl_val (.int .i64 ((i + 1 : Nat) : Int)) rfl (fun w => run_nat (X := i) (Y := 1) (Z := i + 1) rfl rfl rfl rfl (by omega) w) ?_
    simp only [Act.put, Xa, Xz, Xs]
    refine wl_val (.int .i64 ((i + 1 : Nat) : Int)) rfl (fun _ => rfl) ?_
    simp only [Act.put, Xa, Xz, Xs]
    refine wl_nil ?_
    exact we_meet ⟨(i + 1), l, v, _, _, _, _, _, _, _, _, _, _, _, _, _, _, _, _, _, _, _, _, _, _, _, _, _, _, _, _, _, _, _, _, _, _, _, _, _, _, _, _, _, _, _, _, _, _, _, _, _, _, _, _, _, _, _, _, _, _, _, _, _, _, _, _, _, _, _, _, _, _, _, _, _, _, _⟩ (by (try dsimp only); exact ⟨⟨by omega, (congrArg List.length (PX_s G i (by omega))).symm.trans d2, (has_cast (congrArg (flat ub) (PX_s G i (by omega))) d3)⟩, by omega⟩) rfl (List.Sublist.cons _ (List.Sublist.cons _ (List.Sublist.cons _ (List.Sublist.cons _ (List.Sublist.cons_cons _ (List.Sublist.cons_cons _ (List.Sublist.append_left List.Sublist.slnil _)))))))
   ·
    skip
    have p30 : (j : Int) < (((G[i]!).X.length : Nat) : Int) := of_decide_eq_true h30
    refine wc_true rfl ?_
    refine wc_skip ?_
    refine we_then ?_
    refine wc_seq ?_
    refine wc_block ?_
    have xk := sm.each j (by omega)
    refine wc_region ?_
    refine wl_val (.slice v.ptr l v.cap) rfl (fun _ => rfl) ?_
    simp only [Act.put, Xa, Xz, Xs]
    refine wl_val (.pointer (some ⟨g22, 2, none⟩)) rfl (fun _ => by go_simp) ?_
    simp only [Act.put, Xa, Xz, Xs]
    refine wl_cell 52 (.tmp 82) (.slice ((G[i]!).np) ((G[i]!).X.length) ((G[i]!).nc)) (own_row 3 rfl) rfl rfl rfl rfl Try.isAgg52 ?_
    simp only [Act.put, Xa, Xz, Xs]
    refine wl_val (.int .i64 (j : Int)) rfl (fun _ => rfl) ?_
    simp only [Act.put, Xa, Xz, Xs]
    refine wl_read (eaddr ((G[i]!).np) (j * 1)) rfl (er_index j 1 (sl_old (sg_at hG (by omega)).x) rfl rfl rfl rfl (by omega) (flat_length (enc := enc1) (size := 1) (fun _ => rfl) _) (by decide) Try.underlying52 (by kernel_rfl)) ?_
    simp only [Act.put, Xa, Xz, Xs]
    refine wl_read (.int .i64 (((G[i]!).X)[j]!)) rfl (er_cell (j * 1) (.int .i64 (((G[i]!).X)[j]!)) (sl_old (sg_at hG (by omega)).x) rfl rfl (flat_cell (enc := enc1) (fun _ => rfl) ((G[i]!).X) j 0 (by omega) (by decide)) Try.isAgg3) ?_
    simp only [Act.put, Xa, Xz, Xs]
    refine wl_val (.int .u8 ((BitVec.ofInt 8 (((G[i]!).X)[j]!)).toNat : Int)) rfl (fun w => run_low (k := .u8) rfl rfl rfl Try.underlying3 Try.underlying5 w) ?_
    simp only [Act.put, Xa, Xz, Xs]
    refine wl_lit (e := 5) #[.int .u8 ((BitVec.ofInt 8 (((G[i]!).X)[j]!)).toNat : Int)] 1 rfl (fun _ => by go_simp) ?_
    intro g31
    simp only [Act.put, Xa, Xz, Xs]
    refine wl_append (e := 5) (size := 1) (bytes := 1) (m := 1) [⟨g31, #[.int .u8 ((BitVec.ofInt 8 (((G[i]!).X)[j]!)).toNat : Int)], 5⟩, ⟨g28, #[.int .u8 ((BitVec.ofInt 8 (((G[i]!).X.length : Nat) : Int)).toNat : Int)], 5⟩, ⟨g25, #[.int .u8 ((BitVec.ofInt 8 (((G[i]!).P.length : Nat) : Int)).toNat : Int)], 5⟩, ⟨g23, (flat ub (pb ((G[i]!).len) 8)).toArray, 5⟩, ⟨g22, #[.int .i64 ((G[i]!).len), .slice ((G[i]!).pp) ((G[i]!).P.length) ((G[i]!).pc), .slice ((G[i]!).np) ((G[i]!).X.length) ((G[i]!).nc)], 66⟩, ⟨g3, (flat ub (pb (G.length : Int) 2)).toArray, 5⟩, ⟨g1, #[.slice p G.length c, .slice q H.length d], 37⟩] [] v (ys := flat ub ([by8 (((G[i]!).X)[j]!)])) rfl d3 (sl_lit 0 (L := [by8 (((G[i]!).X)[j]!)]) rfl rfl) (ub_len1 rfl) (flat_one ub_one _) rfl rfl rfl rfl Try.underlying28 (by unfold Elem; kernel_rfl) (by decide) (by unfold maxLen; omega) (by omega) ?_
    intro s32 hs32
    replace hs32 := has_cast (show _ = flat ub ((RX G i j) ++ ([by8 (((G[i]!).X)[j]!)])) from by first | exact (flat_append _ _ _).symm | rw [flat_append] <;> rfl) hs32
    simp only [List.cons_append, List.nil_append, Act.put, Xa, Xz, Xs]
    refine wl_val (.slice s32.ptr (l + 1) s32.cap) rfl (fun _ => rfl) ?_
    simp only [Act.put, Xa, Xz, Xs]
    refine wl_nil ?_
    refine we_in ?_
    refine we_then ?_
    refine wc_region ?_
    refine wl_val (.int .i64 (j : Int)) rfl (fun _ => rfl) ?_
    simp only [Act.put, Xa, Xz, Xs]
    refine wl_val (.int .i64 ((j + 1 : Nat) : Int)) rfl (fun w => run_nat (X := j) (Y := 1) (Z := j + 1) rfl rfl rfl rfl (by omega) w) ?_
    simp only [Act.put, Xa, Xz, Xs]
    refine wl_val (.int .i64 ((j + 1 : Nat) : Int)) rfl (fun _ => rfl) ?_
    simp only [Act.put, Xa, Xz, Xs]
    refine wl_nil ?_
    exact we_meet ⟨(j + 1), (l + 1), s32, _, _, _, _, _, _, _, _, _, _, _, _, _, _, _, _⟩ (by (try dsimp only); exact ⟨⟨by omega, (congrArg List.length (RX_s G i j (by omega))).symm.trans (app_len d2 rfl), (has_cast (congrArg (flat ub) (RX_s G i j (by omega))) hs32)⟩, by omega⟩) rfl (List.Sublist.cons _ (List.Sublist.cons_cons _ (List.Sublist.cons_cons _ (List.Sublist.cons_cons _ (List.Sublist.cons_cons _ (List.Sublist.cons_cons _ (List.Sublist.cons_cons _ (List.Sublist.append_left List.Sublist.slnil _))))))))
  ·
   skip
   have p27 : (k : Int) < (((G[i]!).P.length : Nat) : Int) := of_decide_eq_true h27
   refine wc_true rfl ?_
   refine wc_skip ?_
   refine we_then ?_
   refine wc_seq ?_
   refine wc_block ?_
   refine wc_seq ?_
   have pk := piece_lim sm.may (show k < (G[i]!).P.length by omega)
   refine wc_region ?_
   refine wl_val (.slice u.ptr m u.cap) rfl (fun _ => rfl) ?_
   simp only [Act.put, Xa, Xz, Xs]
   refine wl_val (.pointer (some ⟨g22, 1, none⟩)) rfl (fun _ => by go_simp) ?_
   simp only [Act.put, Xa, Xz, Xs]
   refine wl_cell 64 (.tmp 50) (.slice ((G[i]!).pp) ((G[i]!).P.length) ((G[i]!).pc)) (own_row 2 rfl) rfl rfl rfl rfl Try.isAgg64 ?_
   simp only [Act.put, Xa, Xz, Xs]
   refine wl_val (.int .i64 (k : Int)) rfl (fun _ => rfl) ?_
   simp only [Act.put, Xa, Xz, Xs]
   refine wl_read (eaddr ((G[i]!).pp) (k * 2)) rfl (er_index k 2 (sl_old (sg_at hG (by omega)).p) rfl rfl rfl rfl (by omega) (flat_length (enc := enc2) (size := 2) (fun _ => rfl) _) (by decide) Try.underlying64 (by kernel_rfl)) ?_
   simp only [Act.put, Xa, Xz, Xs]
   refine wl_read (eaddr ((G[i]!).pp) (k * 2 + 0)) rfl (er_field (z := 0) (k * 2) 0 0 (sl_old (sg_at hG (by omega)).p) rfl rfl (flat_lt (enc := enc2) (fun _ => rfl) ((G[i]!).P) k 0 (by omega) (by decide)) Try.underlying68 rfl rfl (by kernel_rfl)) ?_
   simp only [Act.put, Xa, Xz, Xs]
   refine wl_read (.int .i64 ((((G[i]!).P)[k]!).1)) rfl (er_cell (k * 2 + 0) (.int .i64 ((((G[i]!).P)[k]!).1)) (sl_old (sg_at hG (by omega)).p) rfl rfl (flat_cell (enc := enc2) (fun _ => rfl) ((G[i]!).P) k 0 (by omega) (by decide)) Try.isAgg2) ?_
   simp only [Act.put, Xa, Xz, Xs]
   refine wl_call_env (ι := Nat) 28 #[.int .i64 ((((G[i]!).P)[k]!).1), .int .i64 8] (fun g33 => .slice (some ⟨g33, 0, none⟩) 8 8) (fun g33 => [⟨g33, (flat ub (pb ((((G[i]!).P)[k]!).1) 8)).toArray, 5⟩]) (fun _ => True) rfl (fun _ => by go_simp) (fun W hE => put_any ((((G[i]!).P)[k]!).1) 8 W (by omega) (by decide) (by decide)) ?_
   rintro g33 -
   simp only [List.cons_append, List.nil_append, Act.put, Xa, Xz, Xs]
   refine wl_append (e := 5) (size := 1) (bytes := 1) (m := 8) [⟨g33, (flat ub (pb ((((G[i]!).P)[k]!).1) 8)).toArray, 5⟩, ⟨g25, #[.int .u8 ((BitVec.ofInt 8 (((G[i]!).P.length : Nat) : Int)).toNat : Int)], 5⟩, ⟨g23, (flat ub (pb ((G[i]!).len) 8)).toArray, 5⟩, ⟨g22, #[.int .i64 ((G[i]!).len), .slice ((G[i]!).pp) ((G[i]!).P.length) ((G[i]!).pc), .slice ((G[i]!).np) ((G[i]!).X.length) ((G[i]!).nc)], 66⟩, ⟨g3, (flat ub (pb (G.length : Int) 2)).toArray, 5⟩, ⟨g1, #[.slice p G.length c, .slice q H.length d], 37⟩] [] u (ys := flat ub (pb ((((G[i]!).P)[k]!).1) 8)) rfl c3 (sl_mk 0 (L := pb ((((G[i]!).P)[k]!).1) 8) rfl) (ub_len1 (pb_len _ _)) (flat_one ub_one _) rfl rfl rfl rfl Try.underlying28 (by unfold Elem; kernel_rfl) (by decide) (by unfold maxLen; omega) (by omega) ?_
   intro s34 hs34
   replace hs34 := has_cast (show _ = flat ub ((QX G i k) ++ (pb ((((G[i]!).P)[k]!).1) 8)) from by first | exact (flat_append _ _ _).symm | rw [flat_append] <;> rfl) hs34
   simp only [List.cons_append, List.nil_append, Act.put, Xa, Xz, Xs]
   refine wl_val (.slice s34.ptr (m + 8) s34.cap) rfl (fun _ => rfl) ?_
   simp only [Act.put, Xa, Xz, Xs]
   refine wl_nil ?_
   refine we_then ?_
   refine wc_region ?_
   refine wl_val (.slice s34.ptr (m + 8) s34.cap) rfl (fun _ => rfl) ?_
   simp only [Act.put, Xa, Xz, Xs]
   refine wl_val (.pointer (some ⟨g22, 1, none⟩)) rfl (fun _ => by go_simp) ?_
   simp only [Act.put, Xa, Xz, Xs]
   refine wl_cell 64 (.tmp 59) (.slice ((G[i]!).pp) ((G[i]!).P.length) ((G[i]!).pc)) (own_row 3 rfl) rfl rfl rfl rfl Try.isAgg64 ?_
   simp only [Act.put, Xa, Xz, Xs]
   refine wl_val (.int .i64 (k : Int)) rfl (fun _ => rfl) ?_
   simp only [Act.put, Xa, Xz, Xs]
   refine wl_read (eaddr ((G[i]!).pp) (k * 2)) rfl (er_index k 2 (sl_old (sg_at hG (by omega)).p) rfl rfl rfl rfl (by omega) (flat_length (enc := enc2) (size := 2) (fun _ => rfl) _) (by decide) Try.underlying64 (by kernel_rfl)) ?_
   simp only [Act.put, Xa, Xz, Xs]
   refine wl_read (eaddr ((G[i]!).pp) (k * 2 + 1)) rfl (er_field (z := 0) (k * 2) 1 1 (sl_old (sg_at hG (by omega)).p) rfl rfl (flat_lt (enc := enc2) (fun _ => rfl) ((G[i]!).P) k 0 (by omega) (by decide)) Try.underlying68 rfl rfl (by kernel_rfl)) ?_
   simp only [Act.put, Xa, Xz, Xs]
   refine wl_read (.int .i64 ((((G[i]!).P)[k]!).2)) rfl (er_cell (k * 2 + 1) (.int .i64 ((((G[i]!).P)[k]!).2)) (sl_old (sg_at hG (by omega)).p) rfl rfl (flat_cell (enc := enc2) (fun _ => rfl) ((G[i]!).P) k 1 (by omega) (by decide)) Try.isAgg2) ?_
   simp only [Act.put, Xa, Xz, Xs]
   refine wl_call_env (ι := Nat) 28 #[.int .i64 ((((G[i]!).P)[k]!).2), .int .i64 4] (fun g35 => .slice (some ⟨g35, 0, none⟩) 4 4) (fun g35 => [⟨g35, (flat ub (pb ((((G[i]!).P)[k]!).2) 4)).toArray, 5⟩]) (fun _ => True) rfl (fun _ => by go_simp) (fun W hE => put_any ((((G[i]!).P)[k]!).2) 4 W (by omega) (by decide) (by decide)) ?_
   rintro g35 -
   simp only [List.cons_append, List.nil_append, Act.put, Xa, Xz, Xs]
   refine wl_append (e := 5) (size := 1) (bytes := 1) (m := 4) [⟨g35, (flat ub (pb ((((G[i]!).P)[k]!).2) 4)).toArray, 5⟩, ⟨g33, (flat ub (pb ((((G[i]!).P)[k]!).1) 8)).toArray, 5⟩, ⟨g25, #[.int .u8 ((BitVec.ofInt 8 (((G[i]!).P.length : Nat) : Int)).toNat : Int)], 5⟩, ⟨g23, (flat ub (pb ((G[i]!).len) 8)).toArray, 5⟩, ⟨g22, #[.int .i64 ((G[i]!).len), .slice ((G[i]!).pp) ((G[i]!).P.length) ((G[i]!).pc), .slice ((G[i]!).np) ((G[i]!).X.length) ((G[i]!).nc)], 66⟩, ⟨g3, (flat ub (pb (G.length : Int) 2)).toArray, 5⟩, ⟨g1, #[.slice p G.length c, .slice q H.length d], 37⟩] [] s34 (ys := flat ub (pb ((((G[i]!).P)[k]!).2) 4)) rfl hs34 (sl_mk 0 (L := pb ((((G[i]!).P)[k]!).2) 4) rfl) (ub_len1 (pb_len _ _)) (flat_one ub_one _) rfl rfl rfl rfl Try.underlying28 (by unfold Elem; kernel_rfl) (by decide) (by unfold maxLen; omega) (by omega) ?_
   intro s36 hs36
   replace hs36 := has_cast (show _ = flat ub ((QX G i k) ++ (pb ((((G[i]!).P)[k]!).1) 8) ++ (pb ((((G[i]!).P)[k]!).2) 4)) from by first | exact (flat_append _ _ _).symm | rw [flat_append] <;> rfl) hs36
   simp only [List.cons_append, List.nil_append, Act.put, Xa, Xz, Xs]
   refine wl_val (.slice s36.ptr (m + 8 + 4) s36.cap) rfl (fun _ => rfl) ?_
   simp only [Act.put, Xa, Xz, Xs]
   refine wl_nil ?_
   refine we_in ?_
   refine we_then ?_
   refine wc_region ?_
   refine wl_val (.int .i64 (k : Int)) rfl (fun _ => rfl) ?_
   simp only [Act.put, Xa, Xz, Xs]
   refine wl_val (.int .i64 ((k + 1 : Nat) : Int)) rfl (fun w => run_nat (X := k) (Y := 1) (Z := k + 1) rfl rfl rfl rfl (by omega) w) ?_
   simp only [Act.put, Xa, Xz, Xs]
   refine wl_val (.int .i64 ((k + 1 : Nat) : Int)) rfl (fun _ => rfl) ?_
   simp only [Act.put, Xa, Xz, Xs]
   refine wl_nil ?_
   exact we_meet ⟨(k + 1), (m + 8 + 4), s36, _, _, _, _, _, _, _, _, _, _, _, _, _, _, _, _, _, _, _, _, _, _, _, _, _⟩ (by (try dsimp only); exact ⟨⟨by omega, (congrArg List.length (QX_s G i k (by omega))).symm.trans (app_len (app_len c2 (pb_len _ _)) (pb_len _ _)), (has_cast (congrArg (flat ub) (QX_s G i k (by omega))) hs36)⟩, by omega⟩) rfl (List.Sublist.cons _ (List.Sublist.cons _ (List.Sublist.cons_cons _ (List.Sublist.cons_cons _ (List.Sublist.cons_cons _ (List.Sublist.cons_cons _ (List.Sublist.cons_cons _ (List.Sublist.append_left List.Sublist.slnil _))))))))
end Go.Proofs.Ytggannjlaehihaa.Imput
