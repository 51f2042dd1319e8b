/-
  Images of tracks, without a program: what is read, piece by piece; what is laid; each way back.
-/
import Derived.Test.YtggannjlaehihaaImg
namespace Go.Proofs.Ytggannjlaehihaa.Imp
open Go.ChangeShapes Go.WideShapes Go.ChangeAt Go.RowKit
open Arr Steady Sx Sw Sl Sb Sc Sh Cr Fr Vs Gr Tk Tkh Tkl Img
set_option linter.unusedVariables false
set_option linter.unusedSimpArgs false

/-- A place in bytes, and whether it went beyond. -/
abbrev Pt := Nat × Bool
def bad (L : List UInt8) (s : Pt) (n : Nat) : Bool := s.2 || decide (L.length < s.1 + n)
def numS (L : List UInt8) (s : Pt) (n : Nat) : Pt := if bad L s n = true then (s.1, true) else (s.1 + n, false)
def numV (L : List UInt8) (s : Pt) (n : Nat) (sign : Bool) : Int := if bad L s n = true then 0 else vl L s.1 sign n
def cntS (L : List UInt8) (s : Pt) (n : Nat) (most : Int) : Pt := if most < numV L s n false then ((numS L s n).1, true) else numS L s n
def cntV (L : List UInt8) (s : Pt) (n : Nat) (most : Int) : Nat := if most < numV L s n false then 0 else (numV L s n false).toNat
/-- A segment's own say. -/
structure Sd where
  len : Int
  P : Spans
  X : List Int
instance : Inhabited Sd := ⟨⟨0, [], []⟩⟩
def pieceS (L : List UInt8) (s : Pt) : Pt := numS L (numS L s 8) 4
def pieceV (L : List UInt8) (s : Pt) : Int × Int := (numV L s 8 true, numV L (numS L s 8) 4 true)
/-- So many of a kind, one behind the other. -/
def manyS {α : Type} (f : Pt → Pt × α) (s : Pt) : Nat → Pt
  | 0 => s
  | k + 1 => (f (manyS f s k)).1
def manyV {α : Type} (f : Pt → Pt × α) (s : Pt) : Nat → List α
  | 0 => []
  | k + 1 => manyV f s k ++ [(f (manyS f s k)).2]
theorem manyV_len {α : Type} (f : Pt → Pt × α) (s : Pt) : ∀ k, (manyV f s k).length = k
  | 0 => rfl
  | k + 1 => by unfold manyV; rw [List.length_append, manyV_len f s k]; rfl
def piece (L : List UInt8) (s : Pt) : Pt × (Int × Int) := (pieceS L s, pieceV L s)
def next (L : List UInt8) (s : Pt) : Pt × Int := (numS L s 1, numV L s 1 false)
def segA (L : List UInt8) (s : Pt) : Pt := cntS L (numS L s 8) 1 64
def segN (L : List UInt8) (s : Pt) : Nat := cntV L (numS L s 8) 1 64
def segB' (L : List UInt8) (s : Pt) : Pt := manyS (piece L) (segA L s) (segN L s)
def segC (L : List UInt8) (s : Pt) : Pt := cntS L (segB' L s) 1 2
def segM (L : List UInt8) (s : Pt) : Nat := cntV L (segB' L s) 1 2
def segmt (L : List UInt8) (s : Pt) : Pt × Sd := (manyS (next L) (segC L s) (segM L s), ⟨numV L s 8 true, manyV (piece L) (segA L s) (segN L s), manyV (next L) (segC L s) (segM L s)⟩)
def group (L : List UInt8) (s : Pt) : Pt × Gp :=
  (numS L (numS L (numS L (numS L (numS L s 2) 1) 8) 4) 4, ⟨numV L s 2 false, numV L (numS L s 2) 1 false, numV L (numS L (numS L s 2) 1) 8 true, numV L (numS L (numS L (numS L s 2) 1) 8) 4 false, numV L (numS L (numS L (numS L (numS L s 2) 1) 8) 4) 4 false⟩)

/-! ### What is laid -/
def pieceB (x : Int × Int) : List UInt8 := pb x.1 8 ++ pb x.2 4
def nextB (v : Int) : List UInt8 := pb v 1
def segL (d : Sd) : List UInt8 := pb d.len 8 ++ (pb d.P.length 1 ++ (d.P.flatMap pieceB ++ (pb d.X.length 1 ++ d.X.flatMap nextB)))
def grpL (g : Gp) : List UInt8 := pb g.id 2 ++ (pb g.seg 1 ++ (pb g.off 8 ++ (pb g.acc 4 ++ pb g.slack 4)))
/-- From one place to another one stands X. -/
structure Rd (L : List UInt8) (s t : Pt) (X : List UInt8) : Prop where
  good : s.2 = false
  to : t = (s.1 + X.length, false)
  stands : Stands L s.1 X
theorem rd_nil {L : List UInt8} {s : Pt} (h : s.2 = false) (hl : s.1 ≤ L.length) : Rd L s s [] := ⟨h, by rw [← h]; rfl, stands_nil hl⟩
theorem rd_append {L X Y : List UInt8} {s t u : Pt} (h : Rd L s t X) (k : Rd L t u Y) : Rd L s u (X ++ Y) := by
  have e := h.to
  subst e
  exact ⟨h.good, by rw [k.to, List.length_append]; simp [Nat.add_assoc], stands_append h.stands k.stands⟩
/-- What is read, if it doesn't go beyond. -/
theorem num_good {L : List UInt8} {s : Pt} {n : Nat} (sign : Bool) (h : (numS L s n).2 = false) : Rd L s (numS L s n) (pb (numV L s n sign) n) := by
  unfold numS at h
  by_cases hb : bad L s n = true
  · rw [if_pos hb] at h; cases h
  · unfold numS numV
    rw [if_neg hb, if_neg hb]
    unfold bad at hb
    simp only [Bool.or_eq_true, decide_eq_true_eq, not_or] at hb
    exact ⟨by simpa using hb.1, by rw [pb_len], pb_vl n (by omega)⟩
theorem num_of {L : List UInt8} {s : Pt} {n : Nat} {sign : Bool} {v : Int} (hs : s.2 = false) (hn : 1 ≤ n) (hr : Rng sign n v) (h : Stands L s.1 (pb v n)) : numS L s n = (s.1 + n, false) ∧ numV L s n sign = v := by
  have hf := h.fits
  rw [pb_len] at hf
  have hb : ¬ bad L s n = true := by unfold bad; rw [hs]; simp; omega
  unfold numS numV
  rw [if_neg hb, if_neg hb]
  exact ⟨rfl, vl_pb n v hn hr h⟩
theorem numV_uns (L : List UInt8) (s : Pt) (n : Nat) : 0 ≤ numV L s n false := by unfold numV; split; exact Int.le_refl _; exact vl_uns L _ n
theorem cnt_good {L : List UInt8} {s : Pt} {n : Nat} {most : Int} (h : (cntS L s n most).2 = false) : Rd L s (cntS L s n most) (pb (cntV L s n most : Nat) n) ∧ ((cntV L s n most : Nat) : Int) ≤ most := by
  unfold cntS at h ⊢
  by_cases hm : most < numV L s n false
  · rw [if_pos hm] at h; cases h
  · rw [if_neg hm] at h ⊢
    have h0 := numV_uns L s n
    have e : ((cntV L s n most : Nat) : Int) = numV L s n false := by unfold cntV; rw [if_neg hm]; omega
    rw [e]
    exact ⟨num_good false h, by omega⟩
theorem cnt_of {L : List UInt8} {s : Pt} {n : Nat} {most : Int} {m : Nat} (hs : s.2 = false) (hn : 1 ≤ n) (hr : Rng false n (m : Int)) (hm : (m : Int) ≤ most) (h : Stands L s.1 (pb (m : Int) n)) : cntS L s n most = (s.1 + n, false) ∧ cntV L s n most = m := by
  obtain ⟨h1, h2⟩ := num_of (sign := false) hs hn hr h
  unfold cntS cntV
  rw [h2, if_neg (by omega), if_neg (by omega), h1]
  exact ⟨rfl, by omega⟩
/-- A kind of which what is read is what was laid. -/
structure Good {α : Type} (L : List UInt8) (f : Pt → Pt × α) (g : α → List UInt8) : Prop where
  back : ∀ s, (f s).1.2 = false → Rd L s (f s).1 (g (f s).2)
theorem many_good {α : Type} {L : List UInt8} {f : Pt → Pt × α} {g : α → List UInt8} (hf : Good L f g) {s : Pt} (hl : s.1 ≤ L.length) : ∀ k, (manyS f s k).2 = false → Rd L s (manyS f s k) ((manyV f s k).flatMap g)
  | 0, h => rd_nil h hl
  | k + 1, h => by
    have h1 := hf.back _ h
    have h2 := many_good hf hl k h1.good
    have h3 := rd_append h2 h1
    show Rd L s _ ((manyV f s k ++ [(f (manyS f s k)).2]).flatMap g)
    rw [List.flatMap_append, List.flatMap_singleton]
    exact h3
/-- .. and what was laid is read. -/
theorem many_of {α : Type} {L : List UInt8} {f : Pt → Pt × α} {g : α → List UInt8} {ok : α → Prop} (hf : ∀ (s : Pt) x, ok x → s.2 = false → Stands L s.1 (g x) → f s = ((s.1 + (g x).length, false), x)) {s : Pt} (hs : s.2 = false) (M : List α) (hM : ∀ x ∈ M, ok x) (h : Stands L s.1 (M.flatMap g)) :
    manyS f s M.length = (s.1 + (M.flatMap g).length, false) ∧ manyV f s M.length = M := by
  have key : ∀ k, k ≤ M.length → manyS f s k = (s.1 + ((M.take k).flatMap g).length, false) ∧ manyV f s k = M.take k := by
    intro k
    induction k with
    | zero => intro _; exact ⟨by rw [List.take_zero]; show s = _; rw [← hs]; rfl, rfl⟩
    | succ k ih =>
      intro hk
      obtain ⟨h1, h2⟩ := ih (by omega)
      have hk' : k < M.length := by omega
      have e : M.take (k + 1) = M.take k ++ [M[k]] := by rw [List.take_add_one, List.getElem?_eq_getElem hk']; rfl
      have e2 : M = M.take k ++ ([M[k]] ++ M.drop (k + 1)) := by
        rw [← List.append_assoc, ← e, List.take_append_drop]
      have h3 : Stands L s.1 ((M.take k).flatMap g ++ (g M[k] ++ (M.drop (k + 1)).flatMap g)) := by
        have : M.flatMap g = (M.take k).flatMap g ++ (g M[k] ++ (M.drop (k + 1)).flatMap g) := by
          conv => lhs; rw [e2]
          rw [List.flatMap_append, List.flatMap_append, List.flatMap_singleton]
        rwa [this] at h
      have h4 := hf (manyS f s k) M[k] (hM _ (List.getElem_mem hk')) (by rw [h1]) (by rw [h1]; exact stands_left (stands_right h3))
      unfold manyS manyV
      rw [h4, h2, h1, e, List.flatMap_append, List.flatMap_singleton, List.length_append]
      exact ⟨by simp [Nat.add_assoc], rfl⟩
  have := key M.length (Nat.le_refl _)
  rwa [List.take_length] at this
theorem rd_le {L X : List UInt8} {s t : Pt} (h : Rd L s t X) : s.1 ≤ L.length ∧ t.1 ≤ L.length := by
  have := h.stands.fits
  rw [h.to]
  exact ⟨by omega, this⟩
theorem piece_good (L : List UInt8) : Good L (piece L) pieceB := ⟨fun s h => by
  have h2 := num_good true (show (numS L (numS L s 8) 4).2 = false from h)
  have h1 := num_good (n := 8) true h2.good
  exact rd_append h1 h2⟩
theorem next_good (L : List UInt8) : Good L (next L) nextB := ⟨fun s h => num_good false h⟩
theorem segmt_good (L : List UInt8) : Good L (segmt L) segL := ⟨fun s h => by
  have g1 : (segC L s).2 = false := by
    have key : ∀ k, (manyS (next L) (segC L s) k).2 = false → (segC L s).2 = false := by
      intro k
      induction k with
      | zero => exact id
      | succ k ih => intro hk; exact ih ((next_good L).back _ hk).good
    exact key _ h
  obtain ⟨c1, c2⟩ := cnt_good g1
  have g2 : (segA L s).2 = false := by
    have key : ∀ k, (manyS (piece L) (segA L s) k).2 = false → (segA L s).2 = false := by
      intro k
      induction k with
      | zero => exact id
      | succ k ih => intro hk; exact ih ((piece_good L).back _ hk).good
    exact key _ c1.good
  obtain ⟨d1, d2⟩ := cnt_good g2
  have n1 := num_good (n := 8) true d1.good
  have m1 := many_good (piece_good L) (rd_le d1).2 _ c1.good
  have m2 := many_good (next_good L) (rd_le c1).2 _ h
  show Rd L s _ (pb _ 8 ++ (pb ((manyV (piece L) (segA L s) (segN L s)).length : Nat) 1 ++ ((manyV (piece L) (segA L s) (segN L s)).flatMap pieceB ++ (pb ((manyV (next L) (segC L s) (segM L s)).length : Nat) 1 ++ (manyV (next L) (segC L s) (segM L s)).flatMap nextB))))
  rw [manyV_len, manyV_len]
  exact rd_append n1 (rd_append d1 (rd_append m1 (rd_append c1 m2)))⟩
theorem group_good (L : List UInt8) : Good L (group L) grpL := ⟨fun s h => by
  have h5 := num_good false (show (numS L _ 4).2 = false from h)
  have h4 := num_good (n := 4) false h5.good
  have h3 := num_good (n := 8) true h4.good
  have h2 := num_good (n := 1) false h3.good
  have h1 := num_good (n := 2) false h2.good
  exact rd_append h1 (rd_append h2 (rd_append h3 (rd_append h4 h5)))⟩
/-- The numbers of a piece, a segment, a group that their bytes hold. -/
def PieceIn (x : Int × Int) : Prop := Rng true 8 x.1 ∧ Rng true 4 x.2
def NextIn (v : Int) : Prop := Rng false 1 v
structure SegIn (d : Sd) : Prop where
  len : Rng true 8 d.len
  few : d.P.length ≤ 64
  P : ∀ x ∈ d.P, PieceIn x
  two : d.X.length ≤ 2
  X : ∀ v ∈ d.X, NextIn v
structure GrpIn (g : Gp) : Prop where
  id : Rng false 2 g.id
  seg : Rng false 1 g.seg
  off : Rng true 8 g.off
  acc : Rng false 4 g.acc
  slack : Rng false 4 g.slack
theorem piece_of {L : List UInt8} (s : Pt) (x : Int × Int) (hx : PieceIn x) (hs : s.2 = false) (h : Stands L s.1 (pieceB x)) : piece L s = ((s.1 + (pieceB x).length, false), x) := by
  obtain ⟨a1, a2⟩ := num_of hs (by decide) hx.1 (stands_left h)
  have h2 := stands_right h
  rw [pb_len] at h2
  obtain ⟨b1, b2⟩ := num_of (s := (s.1 + 8, false)) rfl (by decide) hx.2 h2
  unfold piece pieceS pieceV pieceB
  rw [a2, a1, b1, b2, List.length_append, pb_len, pb_len]
theorem next_of {L : List UInt8} (s : Pt) (v : Int) (hx : NextIn v) (hs : s.2 = false) (h : Stands L s.1 (nextB v)) : next L s = ((s.1 + (nextB v).length, false), v) := by
  obtain ⟨a1, a2⟩ := num_of hs (by decide) hx h
  unfold next nextB
  rw [a1, a2, pb_len]
theorem rng_small {m n : Nat} (hn : 1 ≤ n) (h : m < 256) : Rng false n (m : Int) := by
  have e : (256 : Int) ^ n = 256 * 256 ^ (n - 1) := by
    obtain ⟨k, rfl⟩ : ∃ k, n = k + 1 := ⟨n - 1, by omega⟩
    rw [Int.pow_succ, Int.mul_comm, Nat.add_sub_cancel]
  have p : (0 : Int) < 256 ^ (n - 1) := Int.pow_pos (by decide)
  unfold Rng
  rw [if_neg (by decide), e]
  omega
theorem segmt_of {L : List UInt8} (s : Pt) (d : Sd) (hd : SegIn d) (hs : s.2 = false) (h : Stands L s.1 (segL d)) : segmt L s = ((s.1 + (segL d).length, false), d) := by
  unfold segL at h
  have k1 := stands_right h
  have k2 := stands_right k1
  have k3 := stands_right k2
  have k4 := stands_right k3
  rw [pb_len] at k1 k2 k3 k4
  rw [pb_len] at k2 k3 k4
  rw [pb_len] at k4
  obtain ⟨a1, a2⟩ := num_of hs (by decide) hd.len (stands_left h)
  obtain ⟨b1, b2⟩ := cnt_of (s := (s.1 + 8, false)) (most := 64) rfl (by decide) (rng_small (by decide) (by have := hd.few; omega)) (by have := hd.few; omega) (stands_left k1)
  obtain ⟨c1, c2⟩ := many_of (f := piece L) piece_of (s := (s.1 + 8 + 1, false)) rfl d.P hd.P (stands_left k2)
  obtain ⟨d1, d2⟩ := cnt_of (s := (s.1 + 8 + 1 + (d.P.flatMap pieceB).length, false)) (most := 2) rfl (by decide) (rng_small (by decide) (by have := hd.two; omega)) (by have := hd.two; omega) (stands_left k3)
  obtain ⟨e1, e2⟩ := many_of (f := next L) next_of (s := (s.1 + 8 + 1 + (d.P.flatMap pieceB).length + 1, false)) rfl d.X hd.X k4
  have sA : segA L s = (s.1 + 8 + 1, false) := by unfold segA; rw [a1]; exact b1
  have sN : segN L s = d.P.length := by unfold segN; rw [a1]; exact b2
  have sB : segB' L s = (s.1 + 8 + 1 + (d.P.flatMap pieceB).length, false) := by unfold segB'; rw [sA, sN]; exact c1
  have sC : segC L s = (s.1 + 8 + 1 + (d.P.flatMap pieceB).length + 1, false) := by unfold segC; rw [sB]; exact d1
  have sM : segM L s = d.X.length := by unfold segM; rw [sB]; exact d2
  unfold segmt
  rw [sC, sM, sA, sN, a2, c2, e1, e2]
  refine Prod.ext (Prod.ext ?_ rfl) rfl
  show s.1 + 8 + 1 + (d.P.flatMap pieceB).length + 1 + (d.X.flatMap nextB).length = s.1 + (segL d).length
  unfold segL
  simp only [List.length_append, pb_len]
  omega
theorem group_of {L : List UInt8} (s : Pt) (g : Gp) (hg : GrpIn g) (hs : s.2 = false) (h : Stands L s.1 (grpL g)) : group L s = ((s.1 + (grpL g).length, false), g) := by
  unfold grpL at h
  have k1 := stands_right h
  have k2 := stands_right k1
  have k3 := stands_right k2
  have k4 := stands_right k3
  rw [pb_len] at k1 k2 k3 k4
  rw [pb_len] at k2 k3 k4
  rw [pb_len] at k3 k4
  rw [pb_len] at k4
  obtain ⟨a1, a2⟩ := num_of hs (by decide) hg.id (stands_left h)
  obtain ⟨b1, b2⟩ := num_of (s := (s.1 + 2, false)) rfl (by decide) hg.seg (stands_left k1)
  obtain ⟨c1, c2⟩ := num_of (s := (s.1 + 2 + 1, false)) rfl (by decide) hg.off (stands_left k2)
  obtain ⟨d1, d2⟩ := num_of (s := (s.1 + 2 + 1 + 8, false)) rfl (by decide) hg.acc (stands_left k3)
  obtain ⟨e1, e2⟩ := num_of (s := (s.1 + 2 + 1 + 8 + 4, false)) rfl (by decide) hg.slack k4
  unfold group
  rw [a1, b1, c1, d1, a2, b2, c2, d2, e1, e2]
  refine Prod.ext (Prod.ext ?_ rfl) rfl
  unfold grpL
  simp only [List.length_append, pb_len]
end Go.Proofs.Ytggannjlaehihaa.Imp
