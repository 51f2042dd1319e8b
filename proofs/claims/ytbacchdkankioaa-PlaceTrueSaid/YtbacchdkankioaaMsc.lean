/-
  More steps for the walks of Sx: loops whose rounds are known, shifts of numbers with a sign, bytes joined to a number. No condition.
  A region that draws its order, by an invariant of what is done already: for stores to several places, appends and literals within one. Conditions: the check of the region's edges and slots (a Bool, by the kernel), and each operation's own.
  The sum of 16 bits by 1021, without a program: bit by bit, as the document has it; as what is left of a division; that it goes over from texts to their exclusive or. No condition.
  Frames, without a program: the bytes of a frame, the frame of bytes, their errors; one is the other's way back; what a changed byte does. No condition.
  The mail of a cycle, without a program: texts in memory, what is taken of them and what is counted; what comes behind frames of all kinds, or is none, changes nothing that was taken. No condition.
  More steps: arrays that are compared with themselves, numbers of 16 bits, literals and appends of texts whose place isn't written out. No condition.
  THE ENGINE, further: results of one row and two plain values; the lower 16 bits; the other sign; rows of small numbers and of bools. No program.
-/
import Derived.Test.YtbacchdkankioaaSb
import Derived.LoopN
namespace Go.Proofs.Ytbacchdkankioaa.Sc
open Go.ChangeShapes Go.WideShapes Go.ChangeAt Go.RowKit
open Arr Steady Sx Sw Sl Sb
set_option linter.unusedVariables false
set_option linter.unusedSimpArgs false

section
variable {P : Program} {Q : Exit → Act → World → Prop} {o : Oper} {a : Act} {w0 : World} {R : List Rw} {c : Code} {n : Nat} {x y : Operand} {t t' : TypeId}
/-- A loop that is unrolled: at most n rounds more. -/
structure Wr (P : Program) (c : Code) (Q : Exit → Act → World → Prop) (n : Nat) (a : Act) (w0 : World) (R : List Rw) : Prop where
  run : ∀ w, Env w0 w R → Code.rounds P c Q n a w
theorem has_cap {s : Own} {size n : Nat} {xs : List Value} (h : s.Has size n xs) : n ≤ s.cap := by
  cases s with
  | none => exact Nat.le_of_eq h.2
  | row g cap cur => exact h.2.1
end
end Go.Proofs.Ytbacchdkankioaa.Sc
namespace Go.Proofs.Ytbacchdkankioaa.Si
open Go.ChangeShapes Go.WideShapes Go.ChangeAt Go.RowKit
open Arr Steady Sx Sw Sl Sb Sc
set_option linter.unusedVariables false
set_option linter.unusedSimpArgs false

section
variable {P : Program} {ops : Array Oper}
abbrev late : Nat → Kind := fun _ => .late
/-- One more is done. -/
def one (L : Nat → Bool) (i : Nat) : Nat → Bool := fun k => if k = i then true else L k
theorem st_vals {val val' : Nat → Value} {L : Nat → Bool} {a0 a : Act} (h : St ops val L a0 a) (hv : ∀ k, L k = true → val' k = val k) : St ops val' L a0 a :=
  ⟨h.defers, h.size, fun k t hk hl => by rw [hv k hl]; exact h.done k t hk hl, h.rest⟩
/-- What is known at operation i, whatever came up before. -/
structure Rd (ops : Array Oper) (sz : Nat) (val : Nat → Value) (L : Nat → Bool) (a0 a : Act) (i : Nat) (o : Oper) : Prop where
  check : checkB ops late none sz = true
  size : a0.tmps.size = sz
  op : ops[i]? = some o
  st : St ops val L a0 a
  closed : Closed ops L
  off : L i = false
  ready : ∀ e ∈ o.after, Region.binds .any e = true → L e.on = true
  within : ∀ k, L k = true → k < ops.size
section
variable {sz : Nat} {val : Nat → Value} {L : Nat → Bool} {a0 a : Act} {i : Nat} {o : Oper}
theorem Rd.dep (h : Rd ops sz val L a0 a i o) {k : Nat} (hd : depB ops i k = true) : L k = true := by
  obtain ⟨o', ho, e, he, hb, rfl⟩ := dep_of hd
  obtain rfl : o = o' := Option.some.inj (h.op.symm.trans ho)
  exact h.ready e he hb
theorem Rd.dep2 (h : Rd ops sz val L a0 a i o) {k : Nat} (j : Nat) (hj : L j = true) (hd : depB ops j k = true) : L k = true := closed_dep h.closed hd hj
theorem Rd.non (h : Rd ops sz val L a0 a i o) {k : Nat} (hd : depB ops k i = true) : L k = false := by
  cases e : L k with
  | false => rfl
  | true => have := closed_dep h.closed hd e; rw [h.off] at this; cases this
theorem Rd.non2 (h : Rd ops sz val L a0 a i o) {k : Nat} (j : Nat) (hj : L j = false) (hd : depB ops k j = true) : L k = false := by
  cases e : L k with
  | false => rfl
  | true => have := closed_dep h.closed hd e; rw [hj] at this; cases this
theorem Rd.tmp (h : Rd ops sz val L a0 a i o) (k : Nat) {t : Tmp} (hk : dstOf ops k = some t) (hl : L k = true) : a.eval (.tmp t) = val k := h.st.done k t hk hl
theorem Rd.out (h : Rd ops sz val L a0 a i o) {t : Tmp} {v : Value} (hk : ((List.range ops.size).all fun k => dstOf ops k != some t) = true) (hv : a0.tmps.getD t undef = v) : a.eval (.tmp t) = v := by
  rw [eval_tmp, h.st.rest t (fun k hk' => ?_), hv]
  have h1 := List.all_eq_true.1 hk k (by simpa using lt_of_dst hk')
  rw [hk'] at h1
  simp at h1
theorem Rd.go {w : World} {Q : Exit → Act → World → Prop} {K : Act → World → Prop} (h : Rd ops sz val L a0 a i o) (hg : o.guard = none) (hu : o.upon P a K Q ((execOp a.eval o).run P w)) : wpOp P ops Q i K a w := by
  unfold wpOp
  simp only [h.op]
  rw [if_pos (by simp [Region.wanted, hg])]
  exact .inl hu
theorem Rd.give {w : World} {Q : Exit → Act → World → Prop} {K : Act → World → Prop} (h : Rd ops sz val L a0 a i o) (hg : o.guard = none) (v : Value) (hr : (execOp a.eval o).run P w = .ok (.value v) w) (hK : K (a.put o.dst v) w) : wpOp P ops Q i K a w := by
  refine h.go hg ?_
  rw [hr]
  exact hK
end
theorem wpAny_inv {Γ : Type} {sz : Nat} {val : Γ → Nat → Value} {Inv : (Nat → Bool) → Γ → World → Prop} {a0 : Act} {Q : Exit → Act → World → Prop} (hB : checkB ops late none sz = true) (hz : a0.tmps.size = sz)
    (step : ∀ i o L γ a w, Rd ops sz (val γ) L a0 a i o → Inv L γ w → ∀ K : Act → World → Prop, (∀ γ' w', (∀ k, L k = true → val γ' k = val γ k) → Inv (one L i) γ' w' → K (a.put o.dst (val γ' i)) w') → wpOp P ops Q i K a w)
    (hfin : ∀ γ a w, St ops (val γ) (fun k => decide (k < ops.size)) a0 a → Inv (fun k => decide (k < ops.size)) γ w → Q .normal a w) :
    ∀ (fuel : Nat) (x : Array Bool) (γ : Γ) (a : Act) (w : World), x.size = ops.size → (List.range ops.size).countP (fun i => !x.getD i false) ≤ fuel →
      St ops (val γ) (fun k => x.getD k false) a0 a → Inv (fun k => x.getD k false) γ w → Closed ops (fun k => x.getD k false) → wpAny P .any ops Q fuel x a w := by
  have done : ∀ (x : Array Bool) (γ : Γ) (a : Act) (w : World), x.size = ops.size → St ops (val γ) (fun k => x.getD k false) a0 a → Inv (fun k => x.getD k false) γ w → (∀ i, i < ops.size → x.getD i false = true) → Q .normal a w := by
    intro x γ a w hs hst hinv hall
    have e : (fun k => x.getD k false) = fun k => decide (k < ops.size) := by
      funext k
      by_cases hk : k < ops.size
      · rw [hall k hk]; simpa using hk
      · have : x.getD k false = false := by simp [Array.getElem?_eq_none (show x.size ≤ k by omega)]
        rw [this]; simpa using hk
    rw [e] at hst hinv
    exact hfin γ a w hst hinv
  intro fuel
  induction fuel with
  | zero =>
    intro x γ a w hs hc hst hinv hcl
    have hall : ∀ i, i < ops.size → x.getD i false = true := fun i hi => by
      have h0 : (List.range ops.size).countP (fun i => !x.getD i false) = 0 := by omega
      have := List.countP_eq_zero.1 h0 i (by simpa using hi)
      simpa using this
    refine ⟨?_, done x γ a w hs hst hinv hall⟩
    cases hr : Region.ready .any ops x with
    | nil => rfl
    | cons i r =>
      have hi : i ∈ Region.ready .any ops x := by rw [hr]; exact List.mem_cons_self
      obtain ⟨h1, o, ho, _⟩ := mem_ready.1 hi
      have hlt := (Array.getElem?_eq_some_iff.1 ho).1
      rw [getD_tf (by omega), hall i hlt] at h1
      cases h1
  | succ fuel ih =>
    intro x γ a w hs hc hst hinv hcl
    refine ⟨fun hr => done x γ a w hs hst hinv (all_listed hB hs hr), fun i hi => ?_⟩
    obtain ⟨h1, o, ho, hall⟩ := mem_ready.1 hi
    have hlt := (Array.getElem?_eq_some_iff.1 ho).1
    rw [getD_tf (by omega)] at h1
    have hrd : Rd ops sz (val γ) (fun k => x.getD k false) a0 a i o := ⟨hB, hz, ho, hst, hcl, h1, hall, fun k hk => by
      rcases Nat.lt_or_ge k ops.size with h | h
      · exact h
      · simp [Array.getElem?_eq_none (show x.size ≤ k by omega)] at hk⟩
    refine step i o _ γ a w hrd hinv _ fun γ' w' hv hinv' => ?_
    have e : (fun k => (x.setIfInBounds i true).getD k false) = one (fun k => x.getD k false) i := by
      funext k
      exact getD_set' x i k (by omega)
    refine ih (x.setIfInBounds i true) γ' (a.put o.dst (val γ' i)) w' (by simpa using hs) ?_ ?_ ?_ ?_
    · have e' : ∀ k, (x.setIfInBounds i true).getD k false = if k = i then true else x.getD k false := fun k => getD_set' x i k (by omega)
      have := countP_drop (p := fun k => !x.getD k false) (q := fun k => !(x.setIfInBounds i true).getD k false) (i := i) (by simp only [h1]; rfl) (by simp only [e' i, if_pos]; rfl) (fun k hk => by simp only [e' k, if_neg hk]) (List.range ops.size) (by simpa using hlt)
      omega
    · rw [e]
      have := (st_vals hst hv).step (val' := val γ') i h1 (uniq hB ho) (small hB hz ho) (fun _ _ => rfl)
      rw [dst_of ho] at this
      exact this
    · rw [e]; exact hinv'
    · rw [e]
      intro j o' ho' hj e' he' hb'
      simp only [one] at hj ⊢
      by_cases hji : j = i
      · subst hji
        obtain rfl : o = o' := Option.some.inj (ho.symm.trans ho')
        have := hall e' he' hb'
        by_cases hk : e'.on = j
        · rw [if_pos hk]
        · rw [if_neg hk]; exact this
      · rw [if_neg hji] at hj
        have := hcl j o' ho' hj e' he' hb'
        by_cases hk : e'.on = i
        · rw [if_pos hk]
        · rw [if_neg hk]; exact this
theorem fr_of_st {sz : Nat} {val : Nat → Value} {a0 a : Act} (hB : checkB ops late none sz = true) (hz : a0.tmps.size = sz) (h : St ops val (fun k => decide (k < ops.size)) a0 a) : a = fr ops val a0 ops.size := by
  have hu : ∀ i k t, dstOf ops i = some t → dstOf ops k = some t → k = i := fun i k t h1 h2 => uniq hB (Array.getElem?_eq_getElem (lt_of_dst h1)) k t h1 h2
  have hsm : ∀ i t, dstOf ops i = some t → t < a0.tmps.size := fun i t h1 => small hB hz (Array.getElem?_eq_getElem (lt_of_dst h1)) t h1
  have hf := St.fr (val := val) (a0 := a0) hu hsm ops.size
  have hd : a.defers = (fr ops val a0 ops.size).defers := by rw [h.defers, hf.defers]
  have hs : a.tmps.size = (fr ops val a0 ops.size).tmps.size := by rw [h.size, fr_size]
  have ht : a.tmps = (fr ops val a0 ops.size).tmps := by
    apply Array.ext_getElem?
    intro t
    refine getElem_of_getD hs ?_
    by_cases hk : ∃ k, dstOf ops k = some t
    · obtain ⟨k, hk⟩ := hk
      rw [h.done k t hk (by simpa using lt_of_dst hk), hf.done k t hk (by simpa using lt_of_dst hk)]
    · rw [h.rest t (fun k hk' => absurd ⟨k, hk'⟩ hk), hf.rest t (fun k hk' => absurd ⟨k, hk'⟩ hk)]
  cases a
  cases hfr : fr ops val a0 ops.size
  rw [hfr] at hd ht
  simp only at hd ht
  rw [hd, ht]

/-- What is asked of one operation. -/
structure Sp (P : Program) (ops : Array Oper) (sz : Nat) (Q : Exit → Act → World → Prop) {Γ : Type} (val : Γ → Nat → Value) (rows : (Nat → Bool) → Γ → List Rw) (Fc : (Nat → Bool) → Γ → Prop) (a0 : Act) (w0 : World) (i : Nat) (o : Oper) : Prop where
  run : ∀ L γ a w, Rd ops sz (val γ) L a0 a i o → Fc L γ → Env w0 w (rows L γ) → ∀ K : Act → World → Prop, (∀ γ' w', (∀ k, L k = true → val γ' k = val γ k) → Fc (one L i) γ' → Env w0 w' (rows (one L i) γ') → K (a.put o.dst (val γ' i)) w') → wpOp P ops Q i K a w
/-- .. of all from the i-th on. -/
structure Sps (P : Program) (ops : Array Oper) (sz : Nat) (Q : Exit → Act → World → Prop) {Γ : Type} (val : Γ → Nat → Value) (rows : (Nat → Bool) → Γ → List Rw) (Fc : (Nat → Bool) → Γ → Prop) (a0 : Act) (w0 : World) (l : List Oper) (i : Nat) : Prop where
  run : ∀ j o, l[j]? = some o → Sp P ops sz Q val rows Fc a0 w0 (i + j) o
section
variable {Γ : Type} {sz : Nat} {Q : Exit → Act → World → Prop} {val : Γ → Nat → Value} {rows : (Nat → Bool) → Γ → List Rw} {Fc : (Nat → Bool) → Γ → Prop} {a0 : Act} {w0 : World} {i : Nat} {o : Oper} {r : List Oper}
theorem sps_nil : Sps P ops sz Q val rows Fc a0 w0 [] i := ⟨fun j o h => by simp at h⟩
theorem sps_cons (h : Sp P ops sz Q val rows Fc a0 w0 i o) (hr : Sps P ops sz Q val rows Fc a0 w0 r (i + 1)) : Sps P ops sz Q val rows Fc a0 w0 (o :: r) i := ⟨fun j o' hj => by
  cases j with
  | zero =>
    obtain rfl : o = o' := by simpa using hj
    exact h
  | succ j =>
    have := hr.run j o' (by simpa using hj)
    rwa [show i + 1 + j = i + (j + 1) by omega] at this⟩
/-- An operation that makes nothing and hands on a value. -/
theorem sp_val (v : Value) (hg : o.guard = none) (hv : ∀ γ, val γ i = v) (hF : ∀ L γ, Fc L γ → Fc (one L i) γ) (hR : ∀ L γ, rows (one L i) γ = rows L γ)
    (hr : ∀ L γ a w, Rd ops sz (val γ) L a0 a i o → Env w0 w (rows L γ) → (execOp a.eval o).run P w = .ok (.value v) w) : Sp P ops sz Q val rows Fc a0 w0 i o :=
  ⟨fun L γ a w h hF' hE K hK => h.give hg v (hr L γ a w h hE) (by
    have := hK γ w (fun _ _ => rfl) (hF L γ hF') (by rw [hR]; exact hE)
    rwa [hv γ] at this)⟩
end
theorem wc_draw_inv {Γ : Type} {id : Nat} {l : List Oper} {Q : Exit → Act → World → Prop} {a : Act} {w0 : World} {R : List Rw} (val : Γ → Nat → Value) (rows : (Nat → Bool) → Γ → List Rw) (Fc : (Nat → Bool) → Γ → Prop) (γ0 : Γ) (sz : Nat)
    (hm : P.follows .mixedOrders = true) (hz : a.tmps.size = sz) (hB : checkB l.toArray late none sz = true) (h0 : rows (fun _ => false) γ0 = R) (hF : Fc (fun _ => false) γ0)
    (step : Sps P l.toArray sz Q val rows Fc a w0 l 0)
    (hfin : ∀ γ, Fc (fun k => decide (k < l.length)) γ → We Q .normal (fr l.toArray (val γ) a l.length) w0 (rows (fun k => decide (k < l.length)) γ)) : Wc P (.region id l.toArray true) Q a w0 R := by
  subst h0
  refine ⟨fun w hE => wp_region_any hm (wpAny_inv (sz := sz) (val := val) (Inv := fun L γ w => Fc L γ ∧ Env w0 w (rows L γ)) (a0 := a) hB hz ?_ ?_ _ _ γ0 a w.drew (by simp) ?_ ?_ ?_ ?_)⟩
  · rintro i o L γ a' w' h ⟨h1, h2⟩ K hK
    have hs := (step.run i o (by simpa using h.op)).run
    rw [Nat.zero_add] at hs
    exact hs L γ a' w' h h1 h2 K (fun γ' w'' hv hF' hE' => hK γ' w'' hv ⟨hF', hE'⟩)
  · rintro γ a' w' hst ⟨h1, h2⟩
    rw [fr_of_st hB hz hst]
    have e : l.toArray.size = l.length := by simp
    rw [e] at h1 h2 ⊢
    exact (hfin γ h1).run w' h2
  · have : ∀ n, (List.range n).countP (fun i => !(Array.replicate l.toArray.size false).getD i false) ≤ n := fun n => by
      have := List.countP_le_length (p := fun i => !(Array.replicate l.toArray.size false).getD i false) (l := List.range n)
      simpa using this
    exact this _
  · exact (St.start _ a).congr (fun k => rep_getD _ k)
  · have e : (fun k => (Array.replicate l.toArray.size false).getD k false) = fun _ => false := funext (rep_getD _)
    rw [e]
    exact ⟨hF, hE.drew⟩
  · intro j o _ hj
    have e : ∀ k, (Array.replicate l.toArray.size false).getD k false = false := fun k => rep_getD _ k
    simp only [e j] at hj
    cases hj
/-- .. with the frame and the rows behind it. -/
theorem wc_draw_fin {Γ : Type} {id : Nat} {l : List Oper} {Q : Exit → Act → World → Prop} {a : Act} {w0 : World} {R : List Rw} (val : Γ → Nat → Value) (rows : (Nat → Bool) → Γ → List Rw) (Fc : (Nat → Bool) → Γ → Prop) (γ0 : Γ) (sz : Nat) (F : Γ → Act) (Rf : Γ → List Rw)
    (hm : P.follows .mixedOrders = true) (hz : a.tmps.size = sz) (hB : checkB l.toArray late none sz = true) (h0 : rows (fun _ => false) γ0 = R) (hF : Fc (fun _ => false) γ0)
    (ha : ∀ γ, fr l.toArray (val γ) a l.length = F γ) (hR : ∀ γ, rows (fun k => decide (k < l.length)) γ = Rf γ)
    (step : Sps P l.toArray sz Q val rows Fc a w0 l 0)
    (hfin : ∀ γ, Fc (fun k => decide (k < l.length)) γ → We Q .normal (F γ) w0 (Rf γ)) : Wc P (.region id l.toArray true) Q a w0 R :=
  wc_draw_inv val rows Fc γ0 sz hm hz hB h0 hF step (fun γ h => by rw [ha γ, hR γ]; exact hfin γ h)
end

/-! ### More operations -/
section
variable {P : Program} {o : Oper} {a : Act} {x y : Operand} {t t' : TypeId}
theorem run_fieldAddr {x : Operand} {g off f d : Nat} {fs : Array Field} {fl : Field} {z : Nat} (ho : o.op = .fieldAddr t x f) (hx : a.eval x = .pointer (some ⟨g, off, none⟩)) (hu : P.underlying t = some (.struct fs)) (hf : fs[f]? = some fl) (hd : off + fl.offset = d)
    (hs : (P.info? fl.type).map (·.size) = some (z + 1)) (w : World) : (execOp a.eval o).run P w = .ok (.value (.pointer (some ⟨g, d, none⟩))) w := by
  subst hd
  cases hq : P.info? fl.type with
  | none => simp [hq] at hs
  | some i =>
    have hz : i.size = z + 1 := by simpa [hq] using hs
    have hadd : (⟨g, off, none⟩ : Addr).add fl.offset = ⟨g, off + fl.offset, none⟩ := by unfold Addr.add; split <;> simp_all
    unfold execOp
    simp only [ho, hx]
    simp [Instr.fieldAt, Instr.sureAddr, fieldPlace, run_underlying hu, sizeOf, typeInfo, hq, hz, hf, hadd]
theorem run_max2 {t0 t1 : TypeId} {k : IntKind} {X Y Z : Int} (ho : o.op = .call { callee := .builtin .max, args := #[x, y], argTypes := #[t0, t1] }) (hx : a.eval x = .int k X) (hy : a.eval y = .int k Y) (hz : max X Y = Z) (w : World) :
    (execOp a.eval o).run P w = .ok (.value (.int k Z)) w := by
  subst hz
  have key : (Builtin.max_ #[t0, t1] o.type #[.int k X, .int k Y]).run P w = .ok (.int k (max X Y)) w := by
    simp only [Builtin.max_, List.foldlM_cons, List.foldlM_nil, Sem.run_bind, Result.andThen_ok, Sem.run_pure, Builtin.max2]
    congr 2
    split <;> omega
  unfold execOp
  simp only [ho, resolve, invoke, builtin, Sem.run_bind, Sem.run_pure, Result.andThen_ok, List.map_toArray, List.map_cons, List.map_nil, hx, hy, key]
/-- The rest of a division with the sign of what is divided. -/
theorem run_tmod {k : IntKind} {X Y : Int} (h : Y ≠ 0) (ho : o.op = .binOp .rem t x y t') (hx : a.eval x = .int k X) (hy : a.eval y = .int k Y) (w : World) : (execOp a.eval o).run P w = .ok (.value (.int k (X.tmod Y))) w := by
  refine exec_bin ho hx hy (by simp [eqGuard]) ?_
  simp only [binOp, ne_eq, not_true_eq_false, if_false, Op.intDiv, if_neg h, Sem.run_pure]
end
end Go.Proofs.Ytbacchdkankioaa.Si
namespace Go.Proofs.Ytbacchdkankioaa.Cr
set_option linter.unusedVariables false
set_option linter.unusedSimpArgs false

/-- One bit. -/
def stp (s : BitVec 16) : BitVec 16 := s <<< 1 ^^^ (s >>> 15) * 4129#16
/-- Some bits. -/
def itr : Nat → BitVec 16 → BitVec 16
  | 0, s => s
  | n + 1, s => stp (itr n s)
/-- A byte, put in. -/
def ent (s : BitVec 16) (x : UInt8) : BitVec 16 := s ^^^ x.toBitVec.setWidth 16 <<< 8
def byt (s : BitVec 16) (x : UInt8) : BitVec 16 := itr 8 (ent s x)
def crc (s : BitVec 16) (L : List UInt8) : BitVec 16 := L.foldl byt s
/-- The sum that the last two bytes tell. -/
def told (x y : UInt8) : BitVec 16 := x.toBitVec.setWidth 16 <<< 8 ||| y.toBitVec.setWidth 16
/-- Whether some bytes are a seal. -/
def opens (L : List UInt8) : Bool := decide (2 ≤ L.length) && told (L[L.length - 2]!) (L[L.length - 1]!) == crc 65535#16 (L.take (L.length - 2))

/-! ### Linear -/
/-! ### Seals -/
/-! ### As what is left of a division -/
end Go.Proofs.Ytbacchdkankioaa.Cr
namespace Go.Proofs.Ytbacchdkankioaa.Fr
open Sb Cr
set_option linter.unusedVariables false
set_option linter.unusedSimpArgs false

/-! ### Bytes -/
/-! ### Frames -/
def ksize (k : Int) : Nat := if k = 1 ∨ k = 2 ∨ k = 5 then 2 else if k = 3 ∨ k = 4 then 4 else 0
def lift (v : Int) : Int := if v < 0 then v + 4294967296 else v
def body (k s v : Int) : List UInt8 := [by8 k, by8 s, by8 (ksize k : Int)] ++ (if ksize k = 4 then [by8 (lift v / 16777216), by8 (lift v / 65536 % 256)] else []) ++ [by8 (lift v / 256 % 256), by8 (lift v % 256)]
/-- The number of some bytes, the highest one first. -/
def num (L : List UInt8) : Nat := L.foldl (fun v x => 256 * v + x.toNat) 0
def low (n : Nat) (v : Nat) : Int := if n = 4 ∧ 2147483648 ≤ v then (v : Int) - 4294967296 else v
def hd (L : List UInt8) : Int := ((L[0]!).toNat : Int)
def getE (L : List UInt8) : Nat :=
  if L.length < 5 then 14 else if ksize (hd L) = 0 then 30 else if (L[2]!).toNat ≠ ksize (hd L) ∨ L.length ≠ 5 + ksize (hd L) then 11 else if opens L then 0 else 31
def getV (L : List UInt8) : Int := low (ksize (hd L)) (num ((L.drop 3).take (ksize (hd L))))
def getF (L : List UInt8) : Int × Int × Int := if getE L = 0 then (hd L, ((L[1]!).toNat : Int), getV L) else (0, 0, 0)
theorem small {z : Int} (h0 : 0 ≤ z) (h : z < 256) : ((by8 z).toNat : Int) = z := by
  rw [by8_toNat]
  omega
/-! ### A changed byte -/
end Go.Proofs.Ytbacchdkankioaa.Fr
namespace Go.Proofs.Ytbacchdkankioaa.Ml
open Go.ChangeShapes Go.WideShapes Go.ChangeAt Go.RowKit
open Arr Steady Sx Sw Sl Sb Sc Cr Fr
set_option linter.unusedVariables false
set_option linter.unusedSimpArgs false

/-! ### Texts in memory -/
/-- A text: where it begins, its bytes, its capacity. -/
structure Tx where
  p : Option Addr
  L : List UInt8
  c : Nat
instance : Inhabited Tx := ⟨⟨none, [], 0⟩⟩
section
variable {P : Program} {w0 w : World} {R : List Rw} {p : Option Addr} {e : TypeId}
end

/-! ### What was taken -/
structure Ml where
  has : Nat → Bool
  val : Nat → Int
  bad : Nat
  stale : Nat
  twice : Nat
def upd {α : Type} (f : Nat → α) (k : Nat) (v : α) : Nat → α := fun j => if j = k then v else f j
def addBad (m : Ml) : Ml := ⟨m.has, m.val, m.bad + 1, m.stale, m.twice⟩
def addStale (m : Ml) : Ml := ⟨m.has, m.val, m.bad, m.stale + 1, m.twice⟩
def addTwice (m : Ml) : Ml := ⟨m.has, m.val, m.bad, m.stale, m.twice + 1⟩
def accept (m : Ml) (k : Nat) (v : Int) : Ml := ⟨upd m.has k true, upd m.val k v, m.bad, m.stale, m.twice⟩
def m0 : Ml := ⟨fun _ => false, fun _ => 0, 0, 0, 0⟩
/-- The place of a frame's kind. -/
def kn (L : List UInt8) : Nat := (getF L).1.toNat
def mstep (s : Int) (m : Ml) (L : List UInt8) : Ml :=
  if getE L ≠ 0 then addBad m else if (getF L).2.1 ≠ s then addStale m else if m.has (kn L) = true then addTwice m else accept m (kn L) (getF L).2.2
def run (s : Int) (m : Ml) (X : List (List UInt8)) : Ml := X.foldl (mstep s) m
theorem run_append (s : Int) (m : Ml) (X Y : List (List UInt8)) : run s m (X ++ Y) = run s (run s m X) Y := by unfold run; rw [List.foldl_append]
/-- How many kinds below k were taken. -/
def cnt (h : Nat → Bool) : Nat → Nat
  | 0 => 0
  | k + 1 => cnt h k + (if h k then 1 else 0)
/-- Two mails of which the same was taken. -/
structure Same (d : Nat) (a b : Ml) : Prop where
  has : a.has = b.has
  val : a.val = b.val
  twice : a.twice = b.twice
  wrong : b.bad + b.stale = a.bad + a.stale + d
end Go.Proofs.Ytbacchdkankioaa.Ml
namespace Go.Proofs.Ytbacchdkankioaa.Sj
open Go.ChangeShapes Go.WideShapes Go.ChangeAt Go.RowKit
open Arr Steady Sx Sw Sl Sb Sc Si Ml
set_option linter.unusedVariables false
set_option linter.unusedSimpArgs false

section
variable {P : Program} {o : Oper} {a : Act}
/-! ### Numbers of 16 bits -/
end
/-! ### Literals and appends -/
section
variable {P : Program} {o : Oper} {a : Act} {Q : Exit → Act → World → Prop} {K : Act → World → Prop} {w w0 : World} {A B : List Rw} {e t : TypeId} {s : Own} {size n : Nat} {xs : List Value}
end
end Go.Proofs.Ytbacchdkankioaa.Sj
namespace Go.Proofs.Ytbacchdkankioaa.Sk
open Go.ChangeShapes Go.WideShapes Go.ChangeAt Go.RowKit
open Arr Steady Sx Sw Sl Sb Sc Si Sj
set_option linter.unusedVariables false
set_option linter.unusedSimpArgs false
set_option maxRecDepth 100000
section
variable {P : Program} {a : Act} {w0 : World} {R : List Rw}
end
section
variable {P : Program} {o : Oper} {a : Act} {t t' : TypeId} {x y : Operand}
/-- The other sign. -/
theorem run_neg {k : IntKind} {X Y : Int} (ho : o.op = .unOp .neg t x) (hx : a.eval x = .int k X) (hu : P.underlying t = some (.int k)) (hY : k.wrap (-X) = Y) (w : World) :
    (execOp a.eval o).run P w = .ok (.value (.int k Y)) w := by
  subst hY
  unfold execOp
  simp only [ho, hx]
  simp [go_sem]
end
def encb (x : Bool) : List Value := [.bool x]
end Go.Proofs.Ytbacchdkankioaa.Sk
