/-
  The laws of layer 14: what they call, in the form that they want; their example. Condition: at most 2^47 of each.
-/
import Derived.Test.YtkbaponpebkpiaaRtlb
import Derived.Test.YtkbaponpebkpiaaRtplc
namespace Go.Proofs.Ytkbaponpebkpiaa.Rtlc
open Go.ChangeShapes Go.WideShapes Go.ChangeAt Go.RowKit
open Arr Steady Sx Sw Sl Sb Sc Si Sj Sk Sh Vs Gr Tk Tkh Tkl Rt Rtm Rtg Rtp Rtk Rts Tkrefs14 Rtla Rtsm Shh Sfn Rtlb
set_option linter.unusedVariables false
set_option linter.unusedSimpArgs false
set_option maxRecDepth 100000

theorem get_memi {X : List Int} {i : Nat} (hi : i < X.length) : X[i]! ∈ X := by
  rw [getElem!_pos X i hi]
  exact List.getElem_mem hi
theorem get_memr {X : List Ro} {i : Nat} (hi : i < X.length) : X[i]! ∈ X := by
  rw [getElem!_pos X i hi]
  exact List.getElem_mem hi
theorem may_same {G K : List Sg} {H : List Gp} (h : Same G K) (k : TrackMay G H) : TrackMay K H := may_of_chk (by rw [chk_same h, chk_may k])
theorem grow_gen (lo hi : Int) (G : List Sg) (H : List Gp) (p q : Option Addr) (c d : Nat) (s0 f F : Int) (X : List Ro) (n : Nat) (ps : Option Addr) (cs : Nat) (w : World) (hS : Reads w p (flat sg G)) (hG : OkS w G) (hH : Reads w q (flat gp H)) (hM : TrackMay G H) (hF : F = f) (hn : X.length = n) (hX : SetOk G s0 f X) (hR : Reads w ps (flat rt X)) (hlo : -9223372036854775808 ≤ lo ∧ lo ≤ 9223372036854775807) (hhi : -9223372036854775808 ≤ hi ∧ hi ≤ 9223372036854775807) (hC : ∀ s ∈ G, s.X.length ≤ s.nc) :
    Calls Try.prog 18 #[.agg #[.int .i64 F, .slice ps n cs], .agg #[.slice p G.length c, .slice q H.length d], .agg #[.int .i64 lo, .int .i64 hi]] w fun e w' => ∃ z : Gp2, Gp2Ok G f hi lo X z ∧ e = .returned (.tuple #[.agg #[.int .i64 z.F, .slice z.p z.X.length z.c], .int .i64 (z.e : Nat)]) ∧ Env w w' z.N := by
  subst hF
  subst hn
  exact Rou.grow_any lo hi G H p q c d s0 F X ps cs w hS hG hH hM hX hR hlo hhi hC
theorem again_any (lo hi : Int) (G : List Sg) (H : List Gp) (p q : Option Addr) (c d : Nat) (s0 f F : Int) (X : List Ro) (n : Nat) (ps : Option Addr) (cs : Nat) (w : World) (hS : Reads w p (flat sg G)) (hG : OkS w G) (hH : Reads w q (flat gp H)) (hM : TrackMay G H) (hF : F = f) (hn : X.length = n) (hX : SetOk G s0 f X) (hR : Reads w ps (flat rt X)) (hlo : -9223372036854775808 ≤ lo ∧ lo ≤ 9223372036854775807) (hhi : -9223372036854775808 ≤ hi ∧ hi ≤ 9223372036854775807) (ha : growS G f hi X lo = (0, X)) (hC : ∀ s ∈ G, s.X.length ≤ s.nc) :
    Calls Try.prog 18 #[.agg #[.int .i64 F, .slice ps n cs], .agg #[.slice p G.length c, .slice q H.length d], .agg #[.int .i64 lo, .int .i64 hi]] w fun e w' => ∃ z : Pz, Held z.N z.p (flat rt X) ∧ e = .returned (.tuple #[.agg #[.int .i64 f, .slice z.p n z.c], .int .i64 0]) ∧ Env w w' z.N := by
  refine (grow_gen lo hi G H p q c d s0 f F X n ps cs w hS hG hH hM hF hn hX hR hlo hhi hC).mono ?_
  rintro e w' ⟨z, hz, rfl, hE⟩
  have h := hz.is.symm.trans ha
  obtain ⟨h1, h2⟩ := Prod.mk.inj h
  have h3 := hz.frm h1
  have h4 := hz.held
  rw [h2] at h4
  exact ⟨⟨z.p, z.c, z.N⟩, h4, by rw [h3, h2, h1, hn]; rfl, hE⟩
theorem end_len (G : List Sg) (H : List Gp) (p q : Option Addr) (c d : Nat) (s0 f : Int) (O : List Ix) (ps : Option Addr) (cs : Nat) (i : Nat) (w : World) (hS : Reads w p (flat sg G)) (hG : OkS w G) (hH : Reads w q (flat gp H)) (hM : TrackMay G H) (hX : SetOk G s0 f (xs O)) (hR : Reads w ps (flat rti O)) (hi : i < O.length) :
    Calls Try.prog 10 #[.agg #[.int .i64 f, .slice ps O.length cs], .agg #[.slice p G.length c, .slice q H.length d], .agg #[.int .i64 ((O[i]!).X.length : Int), .int .i64 (pad (O[i]!).X 0), .int .i64 (pad (O[i]!).X 1), .int .i64 (pad (O[i]!).X 2), .int .i64 (pad (O[i]!).X 3), .int .i64 (pad (O[i]!).X 4), .int .i64 (pad (O[i]!).X 5), .int .i64 (pad (O[i]!).X 6), .int .i64 (pad (O[i]!).X 7), .int .i64 (pad (O[i]!).X 8), .int .i64 (pad (O[i]!).X 9), .int .i64 (pad (O[i]!).X 10), .int .i64 (pad (O[i]!).X 11)]] w fun e w' => e = .returned (.int .i64 (endR G f (O[i]!).X)) ∧ Below w.heap.size w w' := by
  have h := Rou.end_any G H p q c d s0 f (xs O) ps cs (O[i]!).X w hS hG hH hM hX (by rw [flat_rti]; exact hR) (List.mem_map.2 ⟨_, get_mem hi, rfl⟩)
  rwa [xs_len] at h
theorem places_in (gi : Int) (G : List Sg) (H : List Gp) (p q : Option Addr) (c d : Nat) (s0 f : Int) (O : List Ix) (ps : Option Addr) (cs : Nat) (w : World) (hS : Reads w p (flat sg G)) (hG : OkS w G) (hH : Reads w q (flat gp H)) (hM : TrackMay G H) (hX : SetOk G s0 f (xs O)) (hR : Reads w ps (flat rti O)) (h0 : 0 ≤ gi ∧ gi < H.length) (h1 : gi ≤ 9223372036854775807) :
    Calls Try.prog 13 #[.agg #[.int .i64 f, .slice ps O.length cs], .agg #[.slice p G.length c, .slice q H.length d], .int .i64 gi] w fun e w' => ∃ z : Pz, Held z.N z.p (flat enc1 (plc G f (H[gi.toNat]!).seg (H[gi.toNat]!).off (xs O) O.length)) ∧ e = .returned (.slice z.p (plc G f (H[gi.toNat]!).seg (H[gi.toNat]!).off (xs O) O.length).length z.c) ∧ Env w w' z.N := by
  have h := Rou.places_any gi G H p q c d s0 f (xs O) ps cs w hS hG hH hM hX (by rw [flat_rti]; exact hR) ⟨by omega, h1⟩
  rw [xs_len] at h
  refine h.mono ?_
  rintro e w' ⟨z, ⟨hz, hh⟩, rfl, hE⟩
  rw [if_pos h0] at hz
  rw [hz] at hh ⊢
  exact ⟨⟨z.p, z.c, z.N⟩, hh, rfl, hE⟩
theorem places_out (gi : Int) (G : List Sg) (H : List Gp) (p q : Option Addr) (c d : Nat) (s0 f : Int) (O : List Ix) (ps : Option Addr) (cs : Nat) (w : World) (hS : Reads w p (flat sg G)) (hG : OkS w G) (hH : Reads w q (flat gp H)) (hM : TrackMay G H) (hX : SetOk G s0 f (xs O)) (hR : Reads w ps (flat rti O)) (h0 : ¬ (0 ≤ gi ∧ gi < H.length)) (h1 : -9223372036854775808 ≤ gi ∧ gi ≤ 9223372036854775807) :
    Calls Try.prog 13 #[.agg #[.int .i64 f, .slice ps O.length cs], .agg #[.slice p G.length c, .slice q H.length d], .int .i64 gi] w fun e w' => ∃ z : Pz, Held z.N z.p (flat enc1 []) ∧ e = .returned (.slice z.p 0 z.c) ∧ Env w w' z.N := by
  have h := Rou.places_any gi G H p q c d s0 f (xs O) ps cs w hS hG hH hM hX (by rw [flat_rti]; exact hR) h1
  rw [xs_len] at h
  refine h.mono ?_
  rintro e w' ⟨z, ⟨hz, hh⟩, rfl, hE⟩
  rw [if_neg h0] at hz
  rw [hz] at hh ⊢
  exact ⟨⟨z.p, z.c, z.N⟩, hh, rfl, hE⟩
theorem places_ref (gi : Int) (G : List Sg) (H : List Gp) (p q : Option Addr) (c d : Nat) (K : List Sg) (s0 f : Int) (O : List Ix) (ps : Option Addr) (cs : Nat) (w : World) (hS : Reads w p (flat sg K)) (hG : OkS w K) (hH : Reads w q (flat gp H)) (hM : TrackMay G H) (hs : Same G K) (hX : SetOk G s0 f (xs O)) (hT : Reads w ps (flat ix O)) (hO : OkI w O) (h0 : 0 ≤ gi ∧ gi < H.length) :
    Calls Try.prog 14 #[.agg #[.slice p K.length c, .slice q H.length d], .agg #[.int .i64 f, .slice ps O.length cs], .int .i64 gi] w fun e w' => ∃ z : Pz, Held z.N z.p (flat enc1 (plc G f (H[gi.toNat]!).seg (H[gi.toNat]!).off (xs O) O.length)) ∧ e = .returned (.slice z.p (plc G f (H[gi.toNat]!).seg (H[gi.toNat]!).off (xs O) O.length).length z.c) ∧ Env w w' z.N := by
  obtain ⟨n, rfl⟩ := Int.eq_ofNat_of_zero_le h0.1
  obtain ⟨z1, z2, z3⟩ := hM.sizes
  have h := Rtplc.places_any f O ps cs n K H p q c d w hS hG hH (by rw [hs.length]; omega) (by omega) (may_same hs hM) ⟨hX.frm.1, by have := (hM.segs s0.toNat (by have := hX.seg0; omega)).high; have := hX.frm.2; omega⟩ hT hO (fun x hx => rtok_same hs (set_rt hX x hx)) (by have := hX.few; rwa [xs_len] at this) (by omega)
  refine h.mono ?_
  rintro e w' ⟨s, hh, rfl, hE⟩
  rw [plc_same hs] at hh ⊢
  exact ⟨⟨s.ptr, s.cap, s.rows 2⟩, held_own hh, rfl, hE⟩
theorem grades_prog (lo hi : Int) (G : List Sg) (H : List Gp) (p q : Option Addr) (c d : Nat) (s0 f : Int) (O : List Ix) (ps : Option Addr) (cs : Nat) (w : World) (hS : Reads w p (flat sg G)) (hG : OkS w G) (hH : Reads w q (flat gp H)) (hM : TrackMay G H) (hX : SetOk G s0 f (xs O)) (hR : Reads w ps (flat rti O)) (hlo : -9223372036854775808 ≤ lo ∧ lo ≤ 9223372036854775807) (hhi : -9223372036854775808 ≤ hi ∧ hi ≤ 9223372036854775807) :
    Calls Try.prog 15 #[.agg #[.int .i64 f, .slice ps O.length cs], .agg #[.slice p G.length c, .slice q H.length d], .agg #[.int .i64 lo, .int .i64 hi]] w fun e w' => e = .returned (.tuple #[.agg #[.int .i64 (gra G f lo hi (xs O) O.length).1, .int .i64 (gra G f lo hi (xs O) O.length).2.1], .bool (gra G f lo hi (xs O) O.length).2.2]) ∧ Below w.heap.size w w' := by
  have h := Rou.grades_any lo hi G H p q c d s0 f (xs O) ps cs w hS hG hH hM hX (by rw [flat_rti]; exact hR) hlo hhi
  rwa [xs_len] at h
theorem grades_ref (lo hi : Int) (G : List Sg) (H : List Gp) (p q : Option Addr) (c d : Nat) (K : List Sg) (s0 f : Int) (O : List Ix) (ps : Option Addr) (cs : Nat) (w : World) (hS : Reads w p (flat sg K)) (hG : OkS w K) (hH : Reads w q (flat gp H)) (hM : TrackMay G H) (hs : Same G K) (hX : SetOk G s0 f (xs O)) (hT : Reads w ps (flat ix O)) (hO : OkI w O) (hlo : -9223372036854775808 ≤ lo ∧ lo ≤ 9223372036854775807) (hhi : -9223372036854775808 ≤ hi ∧ hi ≤ 9223372036854775807) :
    Calls Try.prog 16 #[.agg #[.slice p K.length c, .slice q H.length d], .agg #[.int .i64 f, .slice ps O.length cs], .int .i64 lo, .int .i64 hi] w fun e w' => e = .returned (.tuple #[.int .i64 (gra G f lo hi (xs O) O.length).1, .int .i64 (gra G f lo hi (xs O) O.length).2.1, .bool (gra G f lo hi (xs O) O.length).2.2]) ∧ Below w.heap.size w w' := by
  obtain ⟨z1, z2, z3⟩ := hM.sizes
  have h := Rtplc.grades_any f O ps cs lo hi K H p q c d w hS hG hH (by rw [hs.length]; omega) (by omega) (may_same hs hM) ⟨hX.frm.1, by have := (hM.segs s0.toNat (by have := hX.seg0; omega)).high; have := hX.frm.2; omega⟩ hT hO (fun x hx => rtok_same hs (set_rt hX x hx)) (by have := hX.few; rwa [xs_len] at this) hlo hhi
  rwa [gra_same hs] at h
theorem gra_none {G : List Sg} {f lo hi : Int} {X : List Ro} : ∀ i, (gra G f lo hi X i).2.2 = false → gra G f lo hi X i = (0, 0, false) := by
  have step : ∀ r s k, ((grr G f lo hi r s k).2.2 = false → grr G f lo hi r s k = s ∧ s.2.2 = false) := by
    intro r s k
    induction k with
    | zero => intro h; exact ⟨rfl, h⟩
    | succ k ih =>
      intro h
      unfold grr gstep at h ⊢
      split at h
      · cases h
      · rename_i hn
        rw [if_neg hn]
        exact ih h
  intro i
  induction i with
  | zero => intro _; rfl
  | succ i ih =>
    intro h
    unfold gra at h ⊢
    obtain ⟨h1, h2⟩ := step _ _ _ h
    rw [h1]
    exact ih h2
theorem arr_same (e1 e2 e3 e4 e5 e6 e7 e8 e9 e10 e11 e12 : Int) (w : World) : (Op.equalIn 9999 37 (.agg #[.int .i64 e1, .int .i64 e2, .int .i64 e3, .int .i64 e4, .int .i64 e5, .int .i64 e6, .int .i64 e7, .int .i64 e8, .int .i64 e9, .int .i64 e10, .int .i64 e11, .int .i64 e12]) (.agg #[.int .i64 e1, .int .i64 e2, .int .i64 e3, .int .i64 e4, .int .i64 e5, .int .i64 e6, .int .i64 e7, .int .i64 e8, .int .i64 e9, .int .i64 e10, .int .i64 e11, .int .i64 e12])).run Try.prog w = .ok true w := by
  have h := run_equalIn_gen (P := Try.prog) (Value.int .i64) 9997 37 3 [e1, e2, e3, e4, e5, e6, e7, e8, e9, e10, e11, e12] [e1, e2, e3, e4, e5, e6, e7, e8, e9, e10, e11, e12] rfl w Try.underlying37 (by kernel_rfl) Try.isAgg3 (fun p q w => Sw.run_equalIn_int (d := 9997) Try.underlying3 p q w)
  simpa using h
theorem rt_ne {o : Oper} {a : Act} {x y : Operand} {e0 e1 e2 e3 e4 e5 e6 e7 e8 e9 e10 e11 e12 : Int} (ho : o.op = .binOp .neq 39 x y 39) (hx : a.eval x = .agg #[.int .i64 e0, .int .i64 e1, .int .i64 e2, .int .i64 e3, .int .i64 e4, .int .i64 e5, .int .i64 e6, .int .i64 e7, .int .i64 e8, .int .i64 e9, .int .i64 e10, .int .i64 e11, .int .i64 e12]) (hy : a.eval y = .agg #[.int .i64 e0, .int .i64 e1, .int .i64 e2, .int .i64 e3, .int .i64 e4, .int .i64 e5, .int .i64 e6, .int .i64 e7, .int .i64 e8, .int .i64 e9, .int .i64 e10, .int .i64 e11, .int .i64 e12]) (w : World) : (execOp a.eval o).run Try.prog w = .ok (.value (.bool false)) w := by
  unfold execOp
  simp only [ho, hx, hy]
  have key := arr_same e1 e2 e3 e4 e5 e6 e7 e8 e9 e10 e11 e12
  go_simp
theorem has_true (G : List Sg) (s0 f F : Int) (X : List Ro) (ps : Option Addr) (cs : Nat) (P : List Int) (n : Nat) (a : Option Addr) (ca : Nat) (w : World) (hF : F = f) (hX : SetOk G s0 f X) (hR : Reads w ps (flat rt X)) (hl : P.length = n) (hP : Reads w a (flat enc1 P)) (hh : HasR X P) (hn : n ≤ 12) (hca : n ≤ ca) :
    Calls Try.prog 19 #[.agg #[.int .i64 F, .slice ps X.length cs], .slice a n ca] w fun e w' => e = .returned (.bool true) ∧ Below w.heap.size w w' := by
  subst hF
  subst hl
  have h := Rou.has_any G s0 F X ps cs P a ca w hX hR hP (by omega) hca
  rwa [hasB_yes hh] at h
theorem end_lenr (f : Int) (X : List Int) (a1 : Option Addr) (c1 : Nat) (K : List Sg) (H : List Gp) (p q : Option Addr) (c d n : Nat) (w : World) (hS : Reads w p (flat sg K)) (hG : OkS w K) (hH : Reads w q (flat gp H)) (hn : K.length ≤ 140737488355328) (hm : H.length ≤ 140737488355328) (hM : Segs K) (hf : 0 ≤ f ∧ f ≤ 1099511627776) (hX : Reads w a1 (flat enc1 X)) (hr : RtOk K X) (hl : X.length = n) {G : List Sg} (he : endR K f = endR G f) :
    Calls Try.prog 11 #[.agg #[.slice p K.length c, .slice q H.length d], .int .i64 f, .slice a1 n c1] w fun e w' => e = .returned (.int .i64 (endR G f X)) ∧ Below w.heap.size w w' := by
  subst hl
  have h := Rtref.end_any f X a1 c1 K H p q c d w hS hG hH hn hm hM hf hX hr
  rwa [he] at h
theorem wc_perm {P : Program} {cd : Code} {Q : Exit → Act → World → Prop} {a : Act} {w0 : World} {R R' : List Rw} (hp : R.Perm R') (h : Wc P cd Q a w0 R') : Wc P cd Q a w0 R := ⟨fun w hE => h.run w (Env.perm hE hp)⟩
theorem eq_spn {o : Oper} {a : Act} {x y : Operand} {p0 q0 : Int} {p1 q1 : Int} (ho : o.op = .binOp .eql 53 x y 53) (hx : a.eval x = .agg #[.int .i64 p0, .int .i64 p1])
    (hy : a.eval y = .agg #[.int .i64 q0, .int .i64 q1]) (w : World) : (execOp a.eval o).run Try.prog w = .ok (.value (.bool (p0 == q0 && p1 == q1))) w := by
  unfold execOp
  simp only [ho, hx, hy]
  by_cases h0 : p0 = q0 <;> by_cases h1 : p1 = q1 <;> simp [go_sem, *]
end Go.Proofs.Ytkbaponpebkpiaa.Rtlc
