/-
  More steps: arrays that are compared with themselves, numbers of 16 bits, literals and appends of texts whose place isn't written out. No condition.
-/
import Derived.Test.YtdkahonmblnlgaaSi
import Derived.Test.YtdkahonmblnlgaaMl
namespace Go.Proofs.Ytdkahonmblnlgaa.Sj
open Go.ChangeShapes Go.WideShapes Go.ChangeAt Go.RowKit
open Arr Steady Sx Sw Sl Sb Sc Si Ml
set_option linter.unusedVariables false
set_option linter.unusedSimpArgs false

section
variable {P : Program} {o : Oper} {a : Act}
/-- Arrays, cell by cell. -/
theorem run_equalIn_gen {α : Type} [BEq α] [LawfulBEq α] (f : α → Value) (d : Nat) (t e : TypeId) (xs ys : List α) (hl : xs.length = ys.length) (w : World) (hu : P.underlying t = some (.array xs.length e)) (hs : (P.info? e).map (·.size) = some 1) (hag : ∀ w : World, (isAgg e).run P w = .ok false w)
    (heq : ∀ (p q : α) (w : World), (Op.equalIn (d + 1) e (f p) (f q)).run P w = .ok (p == q) w) :
    (Op.equalIn (d + 2) t (.agg (xs.map f).toArray) (.agg (ys.map f).toArray)).run P w = .ok (xs == ys) w := by
  have hsz : ∀ w : World, (sizeOf e).run P w = .ok 1 w := by
    intro w
    cases hq : P.info? e with
    | none => simp [hq] at hs
    | some i => simp [hq] at hs; simp [sizeOf, typeInfo, hq, hs]
  have hp : ∀ (zs : List α) (i : Nat) (v : α) (w : World), zs[i]? = some v → (part e ((zs.map f).toArray) (i * 1)).run P w = .ok (f v) w := by
    intro zs i v w hi
    simp [part, Sem.run_bind, hag, hi]
  have hloop : ∀ (n s : Nat) (us vs : List α) (w : World), us.length = n → vs.length = n → xs.drop s = us → ys.drop s = vs → (forIn (m := Sem) (List.range' s n) ((none, ()) : Option Bool × Unit) (fun i r => do
      if (!(← Op.equalIn (d + 1) e (← part e ((xs.map f).toArray) (i * 1)) (← part e ((ys.map f).toArray) (i * 1)))) = true then pure (ForInStep.done (some false, ())) else pure (ForInStep.yield (none, ())))).run P w = .ok (if (us == vs) then (none, ()) else (some false, ())) w := by
    intro n
    induction n with
    | zero =>
      intro s us vs w h1 h2 _ _
      obtain rfl := List.length_eq_zero_iff.1 h1
      obtain rfl := List.length_eq_zero_iff.1 h2
      simp
    | succ n ih =>
      intro s us vs w h1 h2 h3 h4
      cases us with
      | nil => simp at h1
      | cons p us =>
        cases vs with
        | nil => simp at h2
        | cons q vs =>
          have e1 : xs[s]? = some p := by rw [← List.head?_drop, h3]; rfl
          have e2 : ys[s]? = some q := by rw [← List.head?_drop, h4]; rfl
          have e3 : xs.drop (s + 1) = us := by rw [← List.tail_drop, h3]; rfl
          have e4 : ys.drop (s + 1) = vs := by rw [← List.tail_drop, h4]; rfl
          rw [List.range'_succ, List.forIn_cons]
          simp only [Sem.run_bind, hp xs s p w e1, hp ys s q w e2, heq, Result.andThen_ok]
          by_cases hpq : p = q
          · subst hpq
            simp only [beq_self_eq_true, Bool.not_true, Bool.false_eq_true, if_false, Sem.run_pure, Result.andThen_ok]
            rw [ih (s + 1) us vs w (by simpa using h1) (by simpa using h2) e3 e4]
            have hb : ((p :: us) == (p :: vs)) = (us == vs) := by
              rw [Bool.eq_iff_iff]
              simp
            rw [hb]
          · have hb : (p == q) = false := by simpa using hpq
            simp [hb]
  rw [Op.equalIn]
  simp only [Sem.run_bind, run_underlying hu, Result.andThen_ok, hsz]
  rw [Std.Legacy.Range.forIn_eq_forIn_range']
  have hn : ([:xs.length] : Std.Legacy.Range).size = xs.length := by simp [Std.Legacy.Range.size]
  rw [hn]
  show Result.andThen (Sem.run P (forIn (List.range' 0 xs.length) _ _) w) _ = _
  rw [hloop xs.length 0 xs ys w rfl hl.symm (by simp) (by simp)]
  by_cases h : xs = ys
  · simp [h]
  · simp [h]
theorem run_same {α : Type} [BEq α] [LawfulBEq α] {f : α → Value} {xs : List α} {t t' e : TypeId} {x y : Operand} (ho : o.op = .binOp .eql t x y t') (hx : a.eval x = .agg (xs.map f).toArray) (hy : a.eval y = .agg (xs.map f).toArray) (hu : P.underlying t = some (.array xs.length e)) (hs : (P.info? e).map (·.size) = some 1)
    (hag : ∀ w : World, (isAgg e).run P w = .ok false w) (heq : ∀ (p q : α) (w : World), (Op.equalIn 9999 e (f p) (f q)).run P w = .ok (p == q) w) (hg : ∀ X Y (w : World), (eqGuard .eql t x y (.agg X) (.agg Y)).run P w = .ok () w) (w : World) : (execOp a.eval o).run P w = .ok (.value (.bool true)) w :=
  run_eqR ho hx hy (hg _ _) (fun w => by
    have := run_equalIn_gen (P := P) f 9998 t e xs xs rfl w hu hs hag heq
    simpa using this) w
theorem eq_bool {e : TypeId} (he : P.underlying e = some .bool) (p q : Bool) (w : World) : (Op.equalIn 9999 e (.bool p) (.bool q)).run P w = .ok (p == q) w := by
  show (Op.equalIn (9998 + 1) e (.bool p) (.bool q)).run P w = _
  rw [Op.equalIn, Sem.run_bind, run_underlying he]
  rfl
theorem eq_int {e : TypeId} {k : IntKind} (he : P.underlying e = some (.int k)) (p q : Int) (w : World) : (Op.equalIn 9999 e (.int k p) (.int k q)).run P w = .ok (p == q) w := Sw.run_equalIn_int (d := 9998) he p q w
theorem run_index {x y : Operand} {t e : TypeId} {n k : Nat} {kk : IntKind} {E : Int} {cs : Array Value} {v : Value} (ho : o.op = .index t x y) (hx : a.eval x = .agg cs) (hy : a.eval y = .int kk E) (he : E = (k : Int)) (hn : k < n) (hu : P.underlying t = some (.array n e))
    (hd : ∀ w, (isAgg e).run P w = .ok false w) (hs : (P.info? e).map (·.size) = some 1) (hv : cs[k]? = some v) (w : World) : (execOp a.eval o).run P w = .ok (.value v) w := by
  subst he
  cases hq : P.info? e with
  | none => simp [hq] at hs
  | some i =>
    have hz : i.size = 1 := by simpa [hq] using hs
    unfold execOp
    simp only [ho, hx, hy]
    simp [Instr.index, asIntOf, run_underlying hu, sizeOf, typeInfo, hq, hz, hn, part, hd, hv]
/-! ### Numbers of 16 bits -/
theorem u16_mod (z : Int) : IntKind.u16.wrap z = z % 65536 := wrap_mod rfl z
theorem i16_in {z : Int} (h : -32768 ≤ z ∧ z ≤ 32767) : IntKind.i16.wrap z = z := by
  simp only [IntKind.wrap, IntKind.bits, IntKind.signed]; simp; omega
theorem i16_back {z : Int} (h : -32768 ≤ z ∧ z ≤ 32767) : IntKind.i16.wrap (z % 65536) = z := by
  simp only [IntKind.wrap, IntKind.bits, IntKind.signed]; simp; omega
theorem i16_of_wf {z : Int} (h : (Lit.int .i16 z).wf = true) : -32768 ≤ z ∧ z ≤ 32767 := by
  simpa [Lit.wf, IntKind.min, IntKind.max, IntKind.bits, IntKind.signed] using h
end
/-! ### Literals and appends -/
section
variable {P : Program} {o : Oper} {a : Act} {Q : Exit → Act → World → Prop} {K : Act → World → Prop} {w w0 : World} {A B : List Rw} {e t : TypeId} {s : Own} {size n : Nat} {xs : List Value}
theorem upon_append {p : Option Addr} {x y : Operand} {m c bytes : Nat} {ys : List Value} (hE : Env w0 w (A ++ (s.rows e ++ B))) (hs : s.Has size n xs) (hS : Reads w p ys) (hl : ys.length = m * size) (h1 : ∀ u ∈ ys, u.oneCell' = true)
    (ho : o.op = .call { callee := .builtin .append, args := #[x, y], argTypes := #[t, t] }) (hx : a.eval x = s.val n) (hy : a.eval y = .slice p m c) (ht : P.underlying t = some (.slice e)) (hi : Elem P e size bytes) (h0 : 0 < size)
    (h63 : n + m ≤ maxLen) (hfit : (n + m) * bytes ≤ 140737488355328) (h : ∀ (s' : Own) (w' : World), s'.Has size (n + m) (xs ++ ys) → Env w0 w' (A ++ (s'.rows e ++ B)) → K (a.put o.dst (s'.val (n + m))) w') : o.upon P a K Q ((execOp a.eval o).run P w) := by
  cases hq : P.info? e with
  | none => simp [Elem, hq] at hi
  | some i =>
    cases hzq : i.zero with
    | none => simp [Elem, hq, hzq] at hi
    | some z =>
      have hh : i.size = size ∧ i.bytes = bytes ∧ z.cells.size = size := by simpa [Elem, hq, hzq] using hi
      obtain ⟨s', w', hr, h2, h3⟩ := run_append (P := P) (ty := o.type) (c := c) hE hs hS hl h1 ht hq hzq hh.1 hh.2.1 hh.2.2 h0 h63 hfit
      unfold execOp
      simp only [ho, resolve, invoke, builtin, Sem.run_bind, Sem.run_pure, Result.andThen_ok, List.map_toArray, List.map_cons, List.map_nil, hx, hy, hr]
      exact h s' w' h2 h3
/-- A slice's literal without elements. -/
theorem run_lit0 (ho : o.op = .buildSlice t 0 #[]) (ht : P.underlying t = some (.slice e)) (hs : (P.info? e).map (·.size) = some size) (w : World) :
    (execOp a.eval o).run P w = .ok (.value (.slice (some ⟨w.heap.size, 0, Option.none⟩) 0 0)) (w.alloc (.cells #[] e)) := by
  cases hq : P.info? e with
  | none => simp [hq] at hs
  | some i =>
    unfold execOp
    simp [ho, Instr.buildSlice, run_underlying ht, sizeOf, typeInfo, hq, newRow, Instr.fill]
    refine congrArg (fun c => w.alloc (.cells c e)) ?_
    apply Array.ext
    · simp
    · intro j h1 h2
      simp at h2
/-- .. with one element, of one cell. -/
theorem run_lit1 {x : Operand} {v z : Value} (ho : o.op = .buildSlice t 1 #[(0, x)]) (hx : a.eval x = v) (hv : v.cells = #[v]) (ht : P.underlying t = some (.slice e)) (hs : (P.info? e).map (fun i => (i.size, i.zero)) = some (1, some z)) (hz : z.cells.size = 1) (w : World) :
    (execOp a.eval o).run P w = .ok (.value (.slice (some ⟨w.heap.size, 0, Option.none⟩) 1 1)) (w.alloc (.cells #[v] e)) := by
  cases hq : P.info? e with
  | none => simp [hq] at hs
  | some i =>
    have h1 : i.size = 1 ∧ i.zero = some z := by simpa [hq] using hs
    unfold execOp
    simp [ho, hx, hv, hz, Instr.buildSlice, run_underlying ht, sizeOf, typeInfo, zeroValue, hq, h1.1, h1.2, newRow, Instr.fill]
    refine congrArg (fun c => w.alloc (.cells c e)) ?_
    apply Array.ext
    · simp
    · intro j h1 h2
      have hj : j = 0 := by simpa using h2
      subst hj
      simp
end
end Go.Proofs.Ytdkahonmblnlgaa.Sj
