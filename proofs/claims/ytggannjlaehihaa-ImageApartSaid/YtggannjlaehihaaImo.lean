/-
  Images of tracks, without a program: what any bytes are, and what the image of a track that may be is; each way back.
-/
import Derived.Test.YtggannjlaehihaaImp
namespace Go.Proofs.Ytggannjlaehihaa.Imo
open Go.ChangeShapes Go.WideShapes Go.ChangeAt Go.RowKit
open Arr Steady Sx Sw Sl Sb Sc Sh Cr Fr Vs Gr Tk Tkh Tkl Img Imp
set_option linter.unusedVariables false
set_option linter.unusedSimpArgs false

def dat (s : Sg) : Sd := ⟨s.len, s.P, s.X⟩
def toSg (d : Sd) : Sg := ⟨d.len, none, d.P, 0, none, d.X, 0⟩
abbrev hdr : List UInt8 := [79, 68, 79, 49]
def rest (D : List Sd) (H : List Gp) : List UInt8 := pb (D.length : Nat) 2 ++ (D.flatMap segL ++ (pb (H.length : Nat) 2 ++ H.flatMap grpL))
def bodyI (D : List Sd) (H : List Gp) : List UInt8 := hdr ++ rest D H
def img (D : List Sd) (H : List Gp) : List UInt8 := seal_ (bodyI D H)
/-! ### What is read of bytes -/
def p1 (L : List UInt8) : Pt := cntS L (4, false) 2 200
def n1 (L : List UInt8) : Nat := cntV L (4, false) 2 200
def p2 (L : List UInt8) : Pt := manyS (segmt L) (p1 L) (n1 L)
def D1 (L : List UInt8) : List Sd := manyV (segmt L) (p1 L) (n1 L)
def p3 (L : List UInt8) : Pt := cntS L (p2 L) 2 400
def n3 (L : List UInt8) : Nat := cntV L (p2 L) 2 400
def p4 (L : List UInt8) : Pt := manyS (group L) (p3 L) (n3 L)
def H1 (L : List UInt8) : List Gp := manyV (group L) (p3 L) (n3 L)
def headB (b : List UInt8) : Bool := decide (6 ≤ b.length) && (bt b 0 == 79) && (bt b 1 == 68) && (bt b 2 == 79) && (bt b 3 == 49)
noncomputable def opnE (b : List UInt8) : Nat :=
  if 1048576 < b.length then 15 else if headB b = false then 11 else if opens b = false then 31
  else if (p4 (b.take (b.length - 2))).2 = true ∨ (p4 (b.take (b.length - 2))).1 ≠ b.length - 2 then 14
  else if (chk ((D1 (b.take (b.length - 2))).map toSg) (H1 (b.take (b.length - 2)))).1 ≠ 0 then 51 else 0
theorem opnE_zero {b : List UInt8} (h : opnE b = 0) : b.length ≤ 1048576 ∧ headB b = true ∧ opens b = true ∧ p4 (b.take (b.length - 2)) = (b.length - 2, false) ∧ (chk ((D1 (b.take (b.length - 2))).map toSg) (H1 (b.take (b.length - 2)))).1 = 0 := by
  unfold opnE at h
  by_cases a1 : 1048576 < b.length
  · rw [if_pos a1] at h; cases h
  · rw [if_neg a1] at h
    by_cases a2 : headB b = false
    · rw [if_pos a2] at h; cases h
    · rw [if_neg a2] at h
      by_cases a3 : opens b = false
      · rw [if_pos a3] at h; cases h
      · rw [if_neg a3] at h
        by_cases a4 : (p4 (b.take (b.length - 2))).2 = true ∨ (p4 (b.take (b.length - 2))).1 ≠ b.length - 2
        · rw [if_pos a4] at h; cases h
        · rw [if_neg a4] at h
          by_cases a5 : (chk ((D1 (b.take (b.length - 2))).map toSg) (H1 (b.take (b.length - 2)))).1 ≠ 0
          · rw [if_pos a5] at h; cases h
          · simp only [not_or, Bool.not_eq_true, Classical.not_not] at a4
            exact ⟨by omega, by simpa using a2, by simpa using a3, Prod.ext a4.2 a4.1, by simpa using a5⟩
/-! ### The numbers of a track that may be -/
theorem rng8 {v : Int} (h : -9223372036854775808 ≤ v) (k : v ≤ 9223372036854775807) : Rng true 8 v := by
  unfold Rng
  rw [if_pos rfl]
  have e : (256 : Int) ^ (8 - 1) = 72057594037927936 := by decide
  rw [e]
  omega
theorem rng4 {v : Int} (h : -2147483648 ≤ v) (k : v ≤ 2147483647) : Rng true 4 v := by
  unfold Rng
  rw [if_pos rfl]
  have e : (256 : Int) ^ (4 - 1) = 16777216 := by decide
  rw [e]
  omega
theorem rngu {n : Nat} {v m : Int} (he : (256 : Int) ^ n = m) (h : 0 ≤ v) (k : v < m) : Rng false n v := by
  unfold Rng
  rw [if_neg (by decide), he]
  exact ⟨h, k⟩
theorem seg_in {s : Sg} {m : Int} (h : SegMay s m) (hm : m ≤ 200) : SegIn (dat s) := by
  have h1 := h.low
  have h2 := h.high
  have hp := h.may
  refine ⟨rng8 (by show _ ≤ s.len; omega) (by show s.len ≤ _; omega), hp.few, fun x hx => ?_, h.two, fun v hv => ?_⟩
  · obtain ⟨i, hi, rfl⟩ := List.mem_iff_getElem.1 hx
    have hi' : i < s.P.length := hi
    have q := hp.each i hi'
    rw [show (dat s).P[i] = s.P[i]! from (getElem!_pos s.P i hi').symm]
    have q1 := q.low
    have q2 := q.high
    have q3 := q.within
    have q4 : 0 ≤ (s.P[i]!).1 := by
      by_cases e : i = 0
      · subst e; rw [hp.first]; exact Int.le_refl _
      · have := up_all hp (show 0 < i by omega) hi'
        have := hp.first
        omega
    exact ⟨rng8 (by omega) (by omega), rng4 (by omega) (by omega)⟩
  · obtain ⟨i, hi, rfl⟩ := List.mem_iff_getElem.1 hv
    have hi' : i < s.X.length := hi
    have q := h.each i hi'
    rw [show (dat s).X[i] = s.X[i]! from (getElem!_pos s.X i hi').symm]
    exact rngu (m := 256) (by decide) q.1 (by omega)
theorem last_pos {G : List Sg} {H : List Gp} (h : ∀ j, j < H.length → GrpMay G H j) : ∀ i, i ≤ H.length → 0 ≤ lastId H i
  | 0, _ => Int.le_refl _
  | i + 1, hi => by
    have := last_pos h i (by omega)
    have := (h i (by omega)).up
    show 0 ≤ (H[i]!).id
    omega
theorem grp_in {G : List Sg} {H : List Gp} (hs : Sizes G H) (hg : ∀ j, j < G.length → SegMay (G[j]!) G.length) (h : ∀ j, j < H.length → GrpMay G H j) : ∀ g ∈ H, GrpIn g := by
  intro g hgm
  obtain ⟨i, hi, rfl⟩ := List.mem_iff_getElem.1 hgm
  have q := h i hi
  have e : H[i] = H[i]! := (getElem!_pos H i hi).symm
  rw [e]
  have l := last_pos h i (by omega)
  have u := q.up
  have k1 := q.high
  have k2 := q.seg0
  have k3 := q.segn
  have k4 := hs.2.1
  have k5 := q.off0
  have k6 := q.offn
  have k7 := (hg (H[i]!).seg.toNat (by omega)).high
  exact ⟨rngu (m := 65536) (by decide) (by omega) (by omega), rngu (m := 256) (by decide) k2 (by omega), rng8 (by omega) (by omega), rngu (m := 4294967296) (by decide) q.acc0 (by have := q.accn; omega), rngu (m := 4294967296) (by decide) q.sl0 (by have := q.sln; omega)⟩
theorem dat_toSg (d : Sd) : dat (toSg d) = d := rfl
theorem map_get {D : List Sd} {j : Nat} (hj : j < D.length) : (D.map toSg)[j]! = toSg (D[j]!) := by
  rw [getElem!_pos _ j (by simpa using hj), getElem!_pos D j hj, List.getElem_map]
theorem segs_in {D : List Sd} {H : List Gp} (h : TrackMay (D.map toSg) H) : ∀ d ∈ D, SegIn d := by
  intro d hd
  obtain ⟨i, hi, rfl⟩ := List.mem_iff_getElem.1 hd
  have q := h.segs i (by simpa using hi)
  rw [map_get hi] at q
  have := seg_in q (by have := h.sizes.2.1; omega)
  rw [dat_toSg, getElem!_pos D i hi] at this
  exact this
/-! ### How long an image is -/
theorem flat_le {α : Type} (f : α → List UInt8) (m : Nat) : ∀ (M : List α), (∀ x ∈ M, (f x).length ≤ m) → (M.flatMap f).length ≤ M.length * m
  | [], _ => by simp
  | x :: r, h => by
    rw [List.flatMap_cons, List.length_append, List.length_cons, Nat.add_mul]
    have := flat_le f m r (fun y hy => h y (List.mem_cons_of_mem _ hy))
    have := h x (List.mem_cons_self ..)
    omega
theorem segL_le {d : Sd} (h : SegIn d) : (segL d).length ≤ 780 := by
  unfold segL
  simp only [List.length_append, pb_len]
  have a := flat_le pieceB 12 d.P (fun x _ => by unfold pieceB; simp only [List.length_append, pb_len]; omega)
  have b := flat_le nextB 1 d.X (fun x _ => by unfold nextB; rw [pb_len]; omega)
  have := h.few
  have := h.two
  omega
theorem grpL_len (g : Gp) : (grpL g).length = 19 := by unfold grpL; simp only [List.length_append, pb_len]
theorem rest_le {D : List Sd} {H : List Gp} (h : TrackMay (D.map toSg) H) : (rest D H).length ≤ 200000 := by
  unfold rest
  simp only [List.length_append, pb_len]
  have a := flat_le segL 780 D (fun d hd => segL_le (segs_in h d hd))
  have b := flat_le grpL 19 H (fun g _ => by rw [grpL_len]; omega)
  have c := h.sizes
  unfold Sizes at c
  rw [List.length_map] at c
  omega
theorem img_length (D : List Sd) (H : List Gp) : (img D H).length = (rest D H).length + 6 := by unfold img bodyI; rw [seal_length, List.length_append]; simp; omega
theorem img_take (D : List Sd) (H : List Gp) : (img D H).take ((img D H).length - 2) = bodyI D H := by
  have : (img D H).length - 2 = (bodyI D H).length := by unfold img; rw [seal_length]; omega
  rw [this]
  unfold img seal_
  rw [List.take_left]
theorem stands_sub {L X Y : List UInt8} (h : L = X ++ Y) : Stands L X.length Y := ⟨by rw [h, List.length_append]; omega, fun i hi => by rw [h, get_right hi]⟩
theorem bt_hdr (D : List Sd) (H : List Gp) : headB (img D H) = true := by
  have e : ∀ i, i < 4 → (img D H)[i]! = hdr[i]! := fun i hi => by
    have h : img D H = hdr ++ (rest D H ++ [hib (crc 65535#16 (bodyI D H)), lob (crc 65535#16 (bodyI D H))]) := by unfold img seal_ bodyI; rw [List.append_assoc]
    rw [h, get_left (by simpa using hi)]
  unfold headB bt
  rw [e 0 (by decide), e 1 (by decide), e 2 (by decide), e 3 (by decide), decide_eq_true (by rw [img_length]; omega)]
  decide
/-- The image of a track that may be is that track. -/
theorem opn_img {D : List Sd} {H : List Gp} (h : TrackMay (D.map toSg) H) : opnE (img D H) = 0 ∧ D1 (bodyI D H) = D ∧ H1 (bodyI D H) = H := by
  have hl := rest_le h
  have hs := h.sizes
  unfold Sizes at hs
  rw [List.length_map] at hs
  have k0 : Stands (bodyI D H) 4 (rest D H) := stands_sub (X := hdr) rfl
  have k1 := stands_right k0
  have k2 := stands_right k1
  have k3 := stands_right k2
  rw [pb_len] at k1 k2 k3
  rw [pb_len] at k3
  have a := cnt_of (L := bodyI D H) (s := (4, false)) (n := 2) (most := 200) (m := D.length) rfl (by decide) (rng_small (by decide) (by omega)) (by omega) (stands_left k0)
  have b := many_of (f := segmt (bodyI D H)) segmt_of (s := (4 + 2, false)) rfl D (segs_in h) (stands_left k1)
  have c := cnt_of (L := bodyI D H) (s := (4 + 2 + (D.flatMap segL).length, false)) (n := 2) (most := 400) (m := H.length) rfl (by decide) (rngu (m := 65536) (by decide) (by omega) (by omega)) (by omega) (stands_left k2)
  have d := many_of (f := group (bodyI D H)) group_of (s := (4 + 2 + (D.flatMap segL).length + 2, false)) rfl H (grp_in h.sizes h.segs h.grps) k3
  have q1 : p1 (bodyI D H) = (4 + 2, false) := a.1
  have m1 : n1 (bodyI D H) = D.length := a.2
  have q2 : p2 (bodyI D H) = (4 + 2 + (D.flatMap segL).length, false) := by unfold p2; rw [q1, m1]; exact b.1
  have d1 : D1 (bodyI D H) = D := by unfold D1; rw [q1, m1]; exact b.2
  have q3 : p3 (bodyI D H) = (4 + 2 + (D.flatMap segL).length + 2, false) := by unfold p3; rw [q2]; exact c.1
  have m3 : n3 (bodyI D H) = H.length := by unfold n3; rw [q2]; exact c.2
  have q4 : p4 (bodyI D H) = (4 + 2 + (D.flatMap segL).length + 2 + (H.flatMap grpL).length, false) := by unfold p4; rw [q3, m3]; exact d.1
  have d2 : H1 (bodyI D H) = H := by unfold H1; rw [q3, m3]; exact d.2
  refine ⟨?_, d1, d2⟩
  unfold opnE
  rw [img_take, q4, d1, d2, chk_may h, bt_hdr, img_length]
  have ho : opens (img D H) = true := opens_seal _
  rw [ho, if_neg (by omega), if_neg (by decide), if_neg (by decide), if_neg, if_neg (by simp)]
  simp only [Bool.false_eq_true, false_or, Classical.not_not]
  unfold rest
  simp only [List.length_append, pb_len]
  omega
/-- Bytes that are a track are its image. -/
theorem img_opn {b : List UInt8} (h : opnE b = 0) : img (D1 (b.take (b.length - 2))) (H1 (b.take (b.length - 2))) = b ∧ TrackMay ((D1 (b.take (b.length - 2))).map toSg) (H1 (b.take (b.length - 2))) := by
  obtain ⟨h1, h2, h3, h4, h5⟩ := opnE_zero h
  refine ⟨?_, may_of_chk h5⟩
  have h6 : 6 ≤ b.length := by unfold headB at h2; simp at h2; omega
  obtain ⟨L, hL⟩ : ∃ L, b.take (b.length - 2) = L := ⟨_, rfl⟩
  have hll : L.length = b.length - 2 := by rw [← hL, List.length_take]; omega
  have hg : ∀ i, i < b.length - 2 → L[i]! = b[i]! := fun i hi => by rw [← hL, getElem!_pos _ i (by rw [List.length_take]; omega), getElem!_pos b i (by omega), List.getElem_take]
  rw [hL] at h4 ⊢
  have z4 : (p4 L).2 = false := by rw [h4]
  have z3 : (p3 L).2 = false := by
    have key : ∀ k, (manyS (group L) (p3 L) k).2 = false → (p3 L).2 = false := by
      intro k
      induction k with
      | zero => exact id
      | succ k ih => intro hk; exact ih ((group_good L).back _ hk).good
    exact key _ z4
  obtain ⟨c1, _⟩ := cnt_good z3
  have z1 : (p1 L).2 = false := by
    have key : ∀ k, (manyS (segmt L) (p1 L) k).2 = false → (p1 L).2 = false := by
      intro k
      induction k with
      | zero => exact id
      | succ k ih => intro hk; exact ih ((segmt_good L).back _ hk).good
    exact key _ c1.good
  obtain ⟨a1, _⟩ := cnt_good z1
  have b1 := many_good (segmt_good L) (rd_le a1).2 _ c1.good
  have d1 := many_good (group_good L) (rd_le c1).2 _ z4
  have all : Rd L (4, false) (p4 L) (rest (D1 L) (H1 L)) := by
    unfold rest
    rw [show (D1 L).length = n1 L from manyV_len _ _ _, show (H1 L).length = n3 L from manyV_len _ _ _]
    exact rd_append a1 (rd_append b1 (rd_append c1 d1))
  have hto := all.to
  rw [h4] at hto
  have hlen : b.length - 2 = 4 + (rest (D1 L) (H1 L)).length := by simpa using congrArg Prod.fst hto
  have hb := h2
  unfold headB at hb
  simp only [Bool.and_eq_true, beq_iff_eq, decide_eq_true_eq] at hb
  have byte : ∀ (i : Nat) (x : UInt8), bt b i = (x.toNat : Int) → b[i]! = x := fun i x hx => by
    unfold bt at hx
    exact UInt8.toNat_inj.1 (by omega)
  have st : Stands L 0 (hdr ++ rest (D1 L) (H1 L)) := by
    refine stands_append ⟨by simp; omega, fun i hi => ?_⟩ all.stands
    rw [Nat.zero_add, hg i (by simp at hi; omega)]
    rcases (show i = 0 ∨ i = 1 ∨ i = 2 ∨ i = 3 by simp at hi; omega) with rfl | rfl | rfl | rfl
    · exact byte 0 79 hb.1.1.1.2
    · exact byte 1 68 hb.1.1.2
    · exact byte 2 79 hb.1.2
    · exact byte 3 49 hb.2
  have e : L = bodyI (D1 L) (H1 L) := stands_all st (by rw [hll]; unfold bodyI; rw [List.length_append]; simp; omega)
  have s := seal_of_opens h3
  rw [hL] at s
  unfold img
  rw [← e]
  exact s.symm
/-- Unlike tracks that may be have unlike images. -/
theorem img_inj {D D' : List Sd} {H H' : List Gp} (h : TrackMay (D.map toSg) H) (k : TrackMay (D'.map toSg) H') (e : img D H = img D' H') : D = D' ∧ H = H' := by
  obtain ⟨_, a1, a2⟩ := opn_img h
  obtain ⟨_, b1, b2⟩ := opn_img k
  have e2 : bodyI D H = bodyI D' H' := by rw [← img_take D H, ← img_take D' H', e]
  rw [e2] at a1 a2
  exact ⟨a1.symm.trans b1, a2.symm.trans b2⟩
end Go.Proofs.Ytggannjlaehihaa.Imo
