/-
  Steps for a region that draws its order, without naming a world; and what single operations yield. No condition.
-/
import Derived.Test.YtbacchdkankioaaSx
namespace Go.Proofs.Ytbacchdkankioaa.Sw
open Go.ChangeShapes Go.WideShapes Go.ChangeAt Go.RowKit
open Arr Steady Sx
set_option linter.unusedVariables false

section
variable {P : Program} {ops : Array Oper} {ks : Nat → Kind} {ov : Option Over} {mk : List (Nat × Tmp)} {n : Nat} {Q : Exit → Act → World → Prop} {r : List Oper} {o : Oper} {i : Nat} {a : Act} {w0 : World} {R : List Rw}
/-- What is asked of the rest of a region that draws its order. -/
structure Ws (P : Program) (ops : Array Oper) (ks : Nat → Kind) (ov : Option Over) (mk : List (Nat × Tmp)) (n : Nat) (Q : Exit → Act → World → Prop) (l : List Oper) (i : Nat) (a : Act) (w0 : World) (R : List Rw) : Prop where
  run : ∀ w, Env w0 w R → Wk P ops w.drew ks ov (fun a' => ∀ ps w', Wd ks ov w.drew ps (fun k => decide (k < n)) w' → Q .normal (fin ps mk a') w') l i a
theorem wc_draw {id : Nat} {l : List Oper} (kl : List Kind) (ov : Option Over) (mk : List (Nat × Tmp)) (sz : Nat) (hm : P.follows .mixedOrders = true) (hz : a.tmps.size = sz)
    (hB : checkB l.toArray (fun i => kl.getD i .plain) (ov.map (·.s)) sz = true) (hM : mkB l.toArray (fun i => kl.getD i .plain) mk = true)
    (h : Ws P l.toArray (fun i => kl.getD i .plain) ov mk l.length Q l 0 a w0 R) : Wc P (.region id l.toArray true) Q a w0 R := ⟨fun w hE => wp_region_steady kl ov mk sz hm hz hB hM (h.run w hE)⟩
theorem ws_late (v : Value) (hk : ks i = .late) (hw : Region.wanted o (yielded ops a.tmps) = true) (h1 : ∀ w, (execOp a.eval o).run P w = .ok (.value v) w) (h : Ws P ops ks ov mk n Q r (i + 1) (a.put o.dst v) w0 R) : Ws P ops ks ov mk n Q (o :: r) i a w0 R :=
  ⟨fun w hE => st_late v hk hw h1 (h.run w hE)⟩
theorem ws_skip (hk : ks i = .plain) (hw : Region.wanted o (yielded ops a.tmps) = false) (h : Ws P ops ks ov mk n Q r (i + 1) (a.put o.dst undef) w0 R) : Ws P ops ks ov mk n Q (o :: r) i a w0 R :=
  ⟨fun w hE => st_skip hk hw (h.run w hE)⟩
theorem ws_skip_late (hk : ks i = .late) (hw : Region.wanted o (yielded ops a.tmps) = false) (h : Ws P ops ks ov mk n Q r (i + 1) (a.put o.dst undef) w0 R) : Ws P ops ks ov mk n Q (o :: r) i a w0 R :=
  ⟨fun w hE => ⟨by
    unfold wpSt
    simp only [hk]
    rw [if_neg (by rw [hw]; simp)]
    exact (h.run w hE).run⟩⟩
theorem ws_call (f : FuncId) (args : Array Value) (v : Value) (hk : ks i = .plain) (hw : Region.wanted o (yielded ops a.tmps) = true) (hr : ∀ w, (execOp a.eval o).run P w = .ok (.enter f args) w)
    (hc : ∀ w, Calls P f args w fun e w' => e = .returned v ∧ Below w.heap.size w w') (h : Ws P ops ks ov mk n Q r (i + 1) (a.put o.dst v) w0 R) : Ws P ops ks ov mk n Q (o :: r) i a w0 R :=
  ⟨fun w hE => st_call f args v hk hw hr hc (h.run w hE)⟩
theorem ws_load (ty : TypeId) (x : Operand) {g : Nat} {t : TypeId} {cs : Array Value} {fr : Nat × Nat} {d : TypeDesc} (hrow : RowAt w0 R g cs t fr) (hk : ks i = .plain) (hw : Region.wanted o (yielded ops a.tmps) = true) (ho : o.op = .load ty x) (hx : a.eval x = .pointer (some ⟨g, 0, none⟩))
    (hu : P.underlying ty = some d) (hd : (match d with | .struct _ | .array _ _ => true | _ => false) = true) (hi : (P.info? ty).map (·.size) = some cs.size) (h : Ws P ops ks ov mk n Q r (i + 1) (a.put o.dst (.agg cs)) w0 R) : Ws P ops ks ov mk n Q (o :: r) i a w0 R :=
  ⟨fun w hE => st_load ty x g t cs fr d hk hw ho hx (hrow w hE) hu hd hi (h.run w hE)⟩
theorem ws_cell (ty : TypeId) (x : Operand) {g off : Nat} (v : Value) {t : TypeId} {cs : Array Value} {fr : Nat × Nat} (hrow : RowAt w0 R g cs t fr) (hk : ks i = .plain) (hw : Region.wanted o (yielded ops a.tmps) = true) (ho : o.op = .load ty x) (hx : a.eval x = .pointer (some ⟨g, off, none⟩))
    (hp : cs[off]? = some v) (hd : ∀ w, (isAgg ty).run P w = .ok false w) (h : Ws P ops ks ov mk n Q r (i + 1) (a.put o.dst v) w0 R) : Ws P ops ks ov mk n Q (o :: r) i a w0 R :=
  ⟨fun w hE => st_cell ty x g off v t cs fr hk hw ho hx (hrow w hE) hp hd (h.run w hE)⟩
theorem ws_make (t : TypeId) (zs : Array Value) (s : Nat) (cs : Array Value) (hk : ks i = .make t zs s cs) (hg : o.guard = none) (ho : o.op = .alloc t) (hz : ∀ w, (zeroValue t).run P w = .ok (.agg zs) w) (h : Ws P ops ks ov mk n Q r (i + 1) (a.put o.dst undef) w0 R) : Ws P ops ks ov mk n Q (o :: r) i a w0 R :=
  ⟨fun w hE => st_make t zs s cs hk hg ho hz (h.run w hE)⟩
theorem ws_put (k : Nat) (ty : TypeId) (d : Tmp) (y : Operand) (t : TypeId) (zs cs : Array Value) (hk : ks i = .put k) (hg : o.guard = none) (hd : o.dst = none) (ho : o.op = .store ty (.tmp d) y) (hy : y ≠ .tmp d) (hkd : dstOf ops k = some d) (hkm : ks k = .make t zs i cs) (he : a.eval y = .agg cs)
    (hi : (P.info? ty).map (·.size) = some cs.size) (hz : zs.size = cs.size) (h1 : cs.all (·.oneCell') = true) (h : Ws P ops ks ov mk n Q r (i + 1) a w0 R) : Ws P ops ks ov mk n Q (o :: r) i a w0 R :=
  ⟨fun w hE => st_put k ty d y t zs cs hk hg hd ho hy hkd hkm he hi hz h1 (h.run w hE)⟩
/-- What was made in the region: the operation's place, the cells, the type. -/
def Made (ks : Nat → Kind) (n : Nat) : List (Nat × Array Value × TypeId) → Prop
  | [] => True
  | (k, cs, t) :: r => (k < n ∧ ∃ zs s cs', ks k = .make t zs s cs' ∧ ((s < n ∧ cs' = cs) ∨ (n ≤ s ∧ zs = cs))) ∧ Made ks n r
def rowOf (ps : Nat → Nat) (m : Nat × Array Value × TypeId) : Rw := ⟨ps m.1, m.2.1, m.2.2⟩
theorem Env.add {w : World} (h : Env w0 w R) {g : Nat} {cs : Array Value} {t : TypeId} (hg : w0.heap.size ≤ g) (hr : w.heap[g]? = some (.cells cs t (0, 0))) (ha : ∀ r ∈ R, g ≠ r.g) : Env w0 w (⟨g, cs, t⟩ :: R) := by
  refine ⟨h.below, fun r hr' => ?_, fun r hr' => ?_, List.Pairwise.cons (fun r hr' => ha r hr') h.apart⟩
  · rcases List.mem_cons.1 hr' with rfl | hr'
    · exact hg
    · exact h.own r hr'
  · rcases List.mem_cons.1 hr' with rfl | hr'
    · exact hr
    · exact h.row r hr'
theorem Env.of_wd {w w' w1 : World} {ps : Nat → Nat} (h : Env w0 w' R) (hlt : ∀ r ∈ R, r.g < w1.heap.size) (hsz : w0.heap.size ≤ w1.heap.size) (hw : Wd ks ov w1 ps (fun k => decide (k < n)) w') :
    ∀ ms, Made ks n ms → ms.Pairwise (fun a b => a.1 ≠ b.1) → Env w0 w' (ms.map (rowOf ps) ++ R)
  | [], _, _ => h
  | (k, cs, t) :: r, ⟨⟨hk, zs, s, cs', hks, hs⟩, hr⟩, hp => by
    have ih := Env.of_wd (w := w) h hlt hsz hw r hr (List.Pairwise.of_cons hp)
    have hrow := hw.rows k t zs s cs' hks (decide_eq_true hk)
    have hcs : (if decide (s < n) = true then cs' else zs) = cs := by
      rcases hs with ⟨h1, h2⟩ | ⟨h1, h2⟩
      · rw [if_pos (decide_eq_true h1)]; exact h2
      · rw [if_neg (by simp; omega)]; exact h2
    rw [hcs] at hrow
    refine Env.add ih (Nat.le_trans hsz hrow.1) hrow.2 (fun x hx => ?_)
    rcases List.mem_append.1 hx with hx | hx
    · obtain ⟨m, hm, rfl⟩ := List.mem_map.1 hx
      have hne : k ≠ m.1 := List.rel_of_pairwise_cons hp hm
      have hmk : ∀ ms, Made ks n ms → ∀ m ∈ ms, m.1 < n ∧ isMake (ks m.1) = true := by
        intro ms
        induction ms with
        | nil => intro _ m hm; cases hm
        | cons x r ih' =>
          intro hM m hm
          obtain ⟨⟨h1, zs, s, cs', h2, _⟩, h3⟩ := hM
          rcases List.mem_cons.1 hm with rfl | hm
          · exact ⟨h1, by rw [h2]; rfl⟩
          · exact ih' h3 m hm
      have h4 := hmk r hr m hm
      exact hw.apart k m.1 (by rw [hks]; rfl) h4.2 (decide_eq_true hk) (decide_eq_true h4.1) hne
    · have h1 := hlt x hx
      have h2 := hrow.1
      show ps k ≠ x.g
      omega
theorem Env.lt {w : World} (h : Env w0 w R) : ∀ r ∈ R, r.g < w.heap.size := fun r hr => lt_of_row (h.row r hr)
theorem ws_nil (ms : List (Nat × Array Value × TypeId)) (hms : Made ks n ms) (hp : ms.Pairwise (fun a b => a.1 ≠ b.1)) (h : ∀ ps : Nat → Nat, We Q .normal (fin ps mk a) w0 (ms.map (rowOf ps) ++ R)) : Ws P ops ks none mk n Q [] i a w0 R :=
  ⟨fun w hE => st_nil (fun ps w' hwd => (h ps).run w' (Env.of_wd (w := w) (hE.drew.call hwd.below) (Env.lt hE.drew) hE.drew.below.size hwd ms hms hp))⟩
end

/-! ### What single operations yield -/
section
variable {P : Program} {o : Oper} {a : Act}
def arithOf (op : BinOp) (k : IntKind) (p q : Int) : Option Int := match op with | .add => some (k.wrap (p + q)) | .sub => some (k.wrap (p - q)) | .mul => some (k.wrap (p * q)) | _ => none
def cmpOf (op : BinOp) (p q : Int) : Option Bool := match op with | .eql => some (p == q) | .neq => some (p != q) | .lss => some (decide (p < q)) | .leq => some (decide (p ≤ q)) | .gtr => some (decide (q < p)) | .geq => some (decide (q ≤ p)) | _ => none
theorem run_cmp {op : BinOp} {t : TypeId} {x y : Operand} {t' : TypeId} {k : IntKind} {p q : Int} {b : Bool} (ho : o.op = .binOp op t x y t') (hx : a.eval x = .int k p) (hy : a.eval y = .int k q) (hu : P.underlying t = some (.int k))
    (hb : cmpOf op p q = some b) (w : World) :
    (execOp a.eval o).run P w = .ok (.value (.bool b)) w := by
  unfold execOp
  simp only [ho, hx, hy]
  cases op <;> first | (cases hb; done) | (obtain rfl := Option.some.inj hb; simp [go_sem])
theorem run_arith {op : BinOp} {t : TypeId} {x y : Operand} {t' : TypeId} {k : IntKind} {p q r : Int} (ho : o.op = .binOp op t x y t') (hx : a.eval x = .int k p) (hy : a.eval y = .int k q) (hu : P.underlying t = some (.int k))
    (hb : arithOf op k p q = some r) (w : World) :
    (execOp a.eval o).run P w = .ok (.value (.int k r)) w := by
  unfold execOp
  simp only [ho, hx, hy]
  cases op <;> first | (cases hb; done) | (obtain rfl := Option.some.inj hb; simp [go_sem])
/-- Division and rest of numbers that aren't below 0. -/
theorem run_quo {t : TypeId} {x y : Operand} {t' : TypeId} {k : IntKind} {p q : Int} (ho : o.op = .binOp .quo t x y t') (hx : a.eval x = .int k p) (hy : a.eval y = .int k q) (hu : P.underlying t = some (.int k))
    (hp : 0 ≤ p) (hq : 0 < q) (hk : k.wrap (p / q) = p / q) (w : World) : (execOp a.eval o).run P w = .ok (.value (.int k (p / q))) w := by
  have h0 : ¬ q = 0 := by omega
  have e : p.tdiv q = p / q := Int.tdiv_eq_ediv_of_nonneg hp
  unfold execOp
  simp only [ho, hx, hy]
  simp [go_sem, h0, e, hk]
theorem i64_in {n : Int} (h : -9223372036854775808 ≤ n) (h' : n ≤ 9223372036854775807) : IntKind.i64.wrap n = n := by
  simp only [IntKind.wrap, IntKind.bits, IntKind.signed]; simp; omega
theorem run_equal_bool {t : TypeId} (p q : Bool) (hu : P.underlying t = some .bool) (w : World) : (Op.equal t (.bool p) (.bool q)).run P w = .ok (p == q) w := by
  show (Op.equalIn (9999 + 1) t (.bool p) (.bool q)).run P w = _
  rw [Op.equalIn, Sem.run_bind, run_underlying hu]
  rfl
theorem run_bne {t : TypeId} {x y : Operand} {t' : TypeId} {p q b : Bool} (ho : o.op = .binOp .neq t x y t') (hx : a.eval x = .bool p) (hy : a.eval y = .bool q) (hu : P.underlying t = some .bool) (hb : (p != q) = b) (w : World) : (execOp a.eval o).run P w = .ok (.value (.bool b)) w := by
  subst hb
  unfold execOp
  simp only [ho, hx, hy]
  simp [go_sem, binOp, run_equal_bool p q hu]
  cases p <;> cases q <;> rfl
end
end Go.Proofs.Ytbacchdkankioaa.Sw
