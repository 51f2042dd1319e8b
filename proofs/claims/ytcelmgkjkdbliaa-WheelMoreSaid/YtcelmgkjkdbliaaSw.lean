/-
  Steps for a region that draws its order, without naming a world; and what single operations yield. No condition.
-/
import Derived.Test.YtcelmgkjkdbliaaSx
namespace Go.Proofs.Ytcelmgkjkdbliaa.Sw
open Go.ChangeShapes Go.WideShapes Go.ChangeAt Go.RowKit
open Arr Steady Sx
set_option linter.unusedVariables false

section
variable {P : Program} {ops : Array Oper} {ks : Nat → Kind} {ov : Option Over} {mk : List (Nat × Tmp)} {n : Nat} {Q : Exit → Act → World → Prop} {r : List Oper} {o : Oper} {i : Nat} {a : Act} {w0 : World} {R : List Rw}
/-- What is asked of the rest of a region that draws its order. -/
structure Ws (P : Program) (ops : Array Oper) (ks : Nat → Kind) (ov : Option Over) (mk : List (Nat × Tmp)) (n : Nat) (Q : Exit → Act → World → Prop) (l : List Oper) (i : Nat) (a : Act) (w0 : World) (R : List Rw) : Prop where
  run : ∀ w, Env w0 w R → Wk P ops w.drew ks ov (fun a' => ∀ ps w', Wd ks ov w.drew ps (fun k => decide (k < n)) w' → Q .normal (fin ps mk a') w') l i a
/-- What was made in the region: the operation's place, the cells, the type. -/
def Made (ks : Nat → Kind) (n : Nat) : List (Nat × Array Value × TypeId) → Prop
  | [] => True
  | (k, cs, t) :: r => (k < n ∧ ∃ zs s cs', ks k = .make t zs s cs' ∧ ((s < n ∧ cs' = cs) ∨ (n ≤ s ∧ zs = cs))) ∧ Made ks n r
def rowOf (ps : Nat → Nat) (m : Nat × Array Value × TypeId) : Rw := ⟨ps m.1, m.2.1, m.2.2⟩
theorem Env.add {w : World} (h : Env w0 w R) {g : Nat} {cs : Array Value} {t : TypeId} (hg : w0.heap.size ≤ g) (hr : w.heap[g]? = some (.cells cs t (0, 0))) (ha : ∀ r ∈ R, g ≠ r.g) : Env w0 w (⟨g, cs, t⟩ :: R) := by
  refine ⟨h.below, fun r hr' => ?_, fun r hr' => ?_, List.Pairwise.cons (fun r hr' => ha r hr') h.apart⟩
  · rcases List.mem_cons.1 hr' with rfl | hr'
    · exact hg
    · exact h.own r hr'
  · rcases List.mem_cons.1 hr' with rfl | hr'
    · exact hr
    · exact h.row r hr'
theorem Env.of_wd {w w' w1 : World} {ps : Nat → Nat} (h : Env w0 w' R) (hlt : ∀ r ∈ R, r.g < w1.heap.size) (hsz : w0.heap.size ≤ w1.heap.size) (hw : Wd ks ov w1 ps (fun k => decide (k < n)) w') :
    ∀ ms, Made ks n ms → ms.Pairwise (fun a b => a.1 ≠ b.1) → Env w0 w' (ms.map (rowOf ps) ++ R)
  | [], _, _ => h
  | (k, cs, t) :: r, ⟨⟨hk, zs, s, cs', hks, hs⟩, hr⟩, hp => by
    have ih := Env.of_wd (w := w) h hlt hsz hw r hr (List.Pairwise.of_cons hp)
    have hrow := hw.rows k t zs s cs' hks (decide_eq_true hk)
    have hcs : (if decide (s < n) = true then cs' else zs) = cs := by
      rcases hs with ⟨h1, h2⟩ | ⟨h1, h2⟩
      · rw [if_pos (decide_eq_true h1)]; exact h2
      · rw [if_neg (by simp; omega)]; exact h2
    rw [hcs] at hrow
    refine Env.add ih (Nat.le_trans hsz hrow.1) hrow.2 (fun x hx => ?_)
    rcases List.mem_append.1 hx with hx | hx
    · obtain ⟨m, hm, rfl⟩ := List.mem_map.1 hx
      have hne : k ≠ m.1 := List.rel_of_pairwise_cons hp hm
      have hmk : ∀ ms, Made ks n ms → ∀ m ∈ ms, m.1 < n ∧ isMake (ks m.1) = true := by
        intro ms
        induction ms with
        | nil => intro _ m hm; cases hm
        | cons x r ih' =>
          intro hM m hm
          obtain ⟨⟨h1, zs, s, cs', h2, _⟩, h3⟩ := hM
          rcases List.mem_cons.1 hm with rfl | hm
          · exact ⟨h1, by rw [h2]; rfl⟩
          · exact ih' h3 m hm
      have h4 := hmk r hr m hm
      exact hw.apart k m.1 (by rw [hks]; rfl) h4.2 (decide_eq_true hk) (decide_eq_true h4.1) hne
    · have h1 := hlt x hx
      have h2 := hrow.1
      show ps k ≠ x.g
      omega
theorem Env.lt {w : World} (h : Env w0 w R) : ∀ r ∈ R, r.g < w.heap.size := fun r hr => lt_of_row (h.row r hr)
end

/-! ### What single operations yield -/
section
variable {P : Program} {o : Oper} {a : Act}
def arithOf (op : BinOp) (k : IntKind) (p q : Int) : Option Int := match op with | .add => some (k.wrap (p + q)) | .sub => some (k.wrap (p - q)) | .mul => some (k.wrap (p * q)) | _ => none
def cmpOf (op : BinOp) (p q : Int) : Option Bool := match op with | .eql => some (p == q) | .neq => some (p != q) | .lss => some (decide (p < q)) | .leq => some (decide (p ≤ q)) | .gtr => some (decide (q < p)) | .geq => some (decide (q ≤ p)) | _ => none
theorem run_cmp {op : BinOp} {t : TypeId} {x y : Operand} {t' : TypeId} {k : IntKind} {p q : Int} {b : Bool} (ho : o.op = .binOp op t x y t') (hx : a.eval x = .int k p) (hy : a.eval y = .int k q) (hu : P.underlying t = some (.int k))
    (hb : cmpOf op p q = some b) (w : World) :
    (execOp a.eval o).run P w = .ok (.value (.bool b)) w := by
  unfold execOp
  simp only [ho, hx, hy]
  cases op <;> first | (cases hb; done) | (obtain rfl := Option.some.inj hb; simp [go_sem])
theorem run_arith {op : BinOp} {t : TypeId} {x y : Operand} {t' : TypeId} {k : IntKind} {p q r : Int} (ho : o.op = .binOp op t x y t') (hx : a.eval x = .int k p) (hy : a.eval y = .int k q) (hu : P.underlying t = some (.int k))
    (hb : arithOf op k p q = some r) (w : World) :
    (execOp a.eval o).run P w = .ok (.value (.int k r)) w := by
  unfold execOp
  simp only [ho, hx, hy]
  cases op <;> first | (cases hb; done) | (obtain rfl := Option.some.inj hb; simp [go_sem])
theorem i64_in {n : Int} (h : -9223372036854775808 ≤ n) (h' : n ≤ 9223372036854775807) : IntKind.i64.wrap n = n := by
  simp only [IntKind.wrap, IntKind.bits, IntKind.signed]; simp; omega
theorem run_equal_bool {t : TypeId} (p q : Bool) (hu : P.underlying t = some .bool) (w : World) : (Op.equal t (.bool p) (.bool q)).run P w = .ok (p == q) w := by
  show (Op.equalIn (9999 + 1) t (.bool p) (.bool q)).run P w = _
  rw [Op.equalIn, Sem.run_bind, run_underlying hu]
  rfl
theorem run_beq {t : TypeId} {x y : Operand} {t' : TypeId} {p q b : Bool} (ho : o.op = .binOp .eql t x y t') (hx : a.eval x = .bool p) (hy : a.eval y = .bool q) (hu : P.underlying t = some .bool) (hb : (p == q) = b) (w : World) : (execOp a.eval o).run P w = .ok (.value (.bool b)) w := by
  subst hb
  unfold execOp
  simp only [ho, hx, hy]
  simp [go_sem, binOp, run_equal_bool p q hu]
end
end Go.Proofs.Ytcelmgkjkdbliaa.Sw
