/-
  THE ENGINE, further: functions that turn rows of their caller's (by a pointer, or by appending to a slice that came in), told over all rows that the caller has; bytes of a constant that a call reads; numbers of 64 bits that are put together from bytes. No program.
-/
import Derived.Test.YtggannjlaehihaaSh
import Derived.Test.YtggannjlaehihaaFns
namespace Go.Proofs.Ytggannjlaehihaa.Rdr
open Go.ChangeShapes Go.WideShapes Go.ChangeAt Go.RowKit
open Arr Steady Sx Sw Sl Sb Sc Sh Fns
set_option linter.unusedVariables false
set_option linter.unusedSimpArgs false
set_option maxRecDepth 100000

section
variable {P : Program} {ops : Array Oper} {Q : Exit → Act → World → Prop} {rest : List Oper} {o : Oper} {a : Act} {w0 : World} {R : List Rw} {e : TypeId}
/-- A walk that begins with rows that the caller made. -/
theorem calls_in {f : FuncId} {fn : Func} {c : Code} {args : Array Value} {w : World} {Rp : Ending → World → Prop} (hE : Env w0 w R) (hf : P.funcs[f]? = some fn) (hb : fn.body = some c)
    (h : Wc P c (bodyPost P fn Rp) { tmps := args ++ Array.replicate (fn.ntmps - args.size) undef, defers := [] } w0 R) : Calls P f args w Rp := calls_of_wp hf hb (h.run w hE)
theorem sl_sub {A B : List Rw} {p : Option Addr} {xs : List Value} (h : SlAt w0 A p xs) (hs : A.Sublist B) : SlAt w0 B p xs := fun W hE => h W (hE.sub hs)
theorem sub_nil {A B : List Rw} (h : A.Sublist B) : (A ++ []).Sublist B := by rw [List.append_nil]; exact h
theorem Env.assoc {w : World} {A B C : List Rw} {r : Rw} (h : Env w0 w (r :: (A ++ (B ++ C)))) : Env w0 w (r :: ((A ++ B) ++ C)) := by rw [List.append_assoc]; exact h
theorem Env.rebase {w W w' : World} {R : List Rw} (hb : Below w.heap.size w W) (h : Env W w' R) : Env w w' R :=
  ⟨hb.trans (h.below.mono hb.size), fun r hr => Nat.le_trans hb.size (h.own r hr), h.row, h.apart⟩
/-- A call that turns a slice that the function holds; what it hands back is told by what it made. -/
theorem wl_call_turnv {ι : Type} (A B : List Rw) (s : Own) (f : FuncId) (args : Array Value) (v : ι → Value) (T : ι → Own) (φ : ι → Prop) (hR : R = A ++ (s.rows e ++ B)) (hw : Region.wanted o (yielded ops a.tmps) = true) (hr : ∀ w, (execOp a.eval o).run P w = .ok (.enter f args) w)
    (hc : ∀ w, Env w0 w (s.rows e ++ (A ++ B)) → Calls P f args w fun k w' => ∃ j, φ j ∧ k = .returned (v j) ∧ Env w0 w' ((T j).rows e ++ (A ++ B))) (h : ∀ j, φ j → Wl P ops Q rest (a.put o.dst (v j)) w0 (A ++ ((T j).rows e ++ B))) : Wl P ops Q (o :: rest) a w0 R := by
  subst hR
  refine wl_upon hw (fun w hE => ?_)
  rw [hr w]
  refine (hc w (Env.perm hE (List.perm_append_comm_assoc _ _ _))).mono ?_
  rintro k w' ⟨j, hj, rfl, hE'⟩
  exact (h j hj).run w' (Env.perm hE' (List.perm_append_comm_assoc _ _ _))
theorem perm_in (r : Rw) (N A C D : List Rw) : (r :: (N ++ (A ++ (C ++ D)))).Perm (A ++ r :: (C ++ (N ++ D))) := by
  have h1 : (N ++ (A ++ (C ++ D))).Perm (A ++ (C ++ (N ++ D))) := by
    refine (List.perm_append_comm_assoc N A (C ++ D)).trans (List.Perm.append_left A ?_)
    exact List.perm_append_comm_assoc N C D
  exact (List.Perm.cons r h1).trans List.perm_middle.symm
theorem perm_inl (r : Rw) (N A C D : List Rw) : (r :: (N ++ (A ++ (C ++ D)))).Perm (A ++ r :: (C ++ (D ++ N))) := by
  refine (perm_in r N A C D).trans (List.Perm.append_left A (List.Perm.cons r (List.Perm.append_left C List.perm_append_comm)))
/-- A call that turns one of the function's rows, and makes others. B: all but that row. -/
theorem wl_call_row {ι : Type} (A C D B : List Rw) (r : Rw) (f : FuncId) (args : Array Value) (v : ι → Value) (r' : ι → Rw) (N R' : ι → List Rw) (φ : ι → Prop) (hR : R = A ++ r :: (C ++ D)) (hB : B = A ++ (C ++ D)) (hR' : ∀ j, R' j = A ++ r' j :: (C ++ (N j ++ D))) (hw : Region.wanted o (yielded ops a.tmps) = true) (hr : ∀ w, (execOp a.eval o).run P w = .ok (.enter f args) w)
    (hc : ∀ w, Env w0 w (r :: B) → Calls P f args w fun k w' => ∃ j, φ j ∧ k = .returned (v j) ∧ Env w0 w' (r' j :: (N j ++ B))) (h : ∀ j, φ j → Wl P ops Q rest (a.put o.dst (v j)) w0 (R' j)) : Wl P ops Q (o :: rest) a w0 R := by
  subst hR
  subst hB
  refine wl_upon hw (fun w hE => ?_)
  rw [hr w]
  refine (hc w (Env.perm hE List.perm_middle)).mono ?_
  rintro k w' ⟨j, hj, rfl, hE'⟩
  refine (h j hj).run w' ?_
  rw [hR' j]
  exact Env.perm hE' (perm_in _ _ _ _ _)
theorem wl_call_rowl {ι : Type} (A C D B : List Rw) (r : Rw) (f : FuncId) (args : Array Value) (v : ι → Value) (r' : ι → Rw) (N R' : ι → List Rw) (φ : ι → Prop) (hR : R = A ++ r :: (C ++ D)) (hB : B = A ++ (C ++ D)) (hR' : ∀ j, R' j = A ++ r' j :: (C ++ (D ++ N j))) (hw : Region.wanted o (yielded ops a.tmps) = true) (hr : ∀ w, (execOp a.eval o).run P w = .ok (.enter f args) w)
    (hc : ∀ w, Env w0 w (r :: B) → Calls P f args w fun k w' => ∃ j, φ j ∧ k = .returned (v j) ∧ Env w0 w' (r' j :: (N j ++ B))) (h : ∀ j, φ j → Wl P ops Q rest (a.put o.dst (v j)) w0 (R' j)) : Wl P ops Q (o :: rest) a w0 R := by
  subst hR
  subst hB
  refine wl_upon hw (fun w hE => ?_)
  rw [hr w]
  refine (hc w (Env.perm hE List.perm_middle)).mono ?_
  rintro k w' ⟨j, hj, rfl, hE'⟩
  refine (h j hj).run w' ?_
  rw [hR' j]
  exact Env.perm hE' (perm_inl _ _ _ _ _)

/-! ### Bytes of a constant -/
/-- What is known of the world where a constant's row has got its mark. -/
theorem const_mark {w : World} {i g : Nat} {cs : Array Value} {L : List UInt8} (hE : Env w0 w R) (hi : R[i]? = some ⟨g, cs, e⟩) (hL : cs.toList = flat ub L) :
    Below w0.heap.size w0 (w.freeze ⟨g, cs.size, none⟩ 1) ∧ Reads (w.freeze ⟨g, cs.size, none⟩ 1) (some ⟨g, 0, none⟩) (flat ub L) ∧ ∀ r ∈ R, r.g ≠ g → (w.freeze ⟨g, cs.size, none⟩ 1).heap[r.g]? = some (.cells r.cs r.t (0, 0)) := by
  have hrow := hE.rowAt hi
  have hg : w0.heap.size ≤ g := hE.own _ (List.mem_of_getElem? hi)
  have hr : (w.freeze ⟨g, cs.size, none⟩ 1).heap[g]? = some (.cells cs e (cs.size, cs.size + 1)) := by
    unfold World.freeze
    rw [if_neg (by decide)]
    simp [Array.getElem?_modify, hrow]
  refine ⟨?_, ?_, ?_⟩
  · refine hE.below.trans ?_
    unfold World.freeze
    rw [if_neg (by decide)]
    exact ⟨rfl, rfl, rfl, by simp, fun k hk => by simp only [Array.getElem?_modify]; rw [if_neg (by omega)]⟩
  · intro j u hj
    refine ⟨_, rfl, ?_⟩
    have hadd : (⟨g, 0, none⟩ : Addr).add j = ⟨g, j, none⟩ := by unfold Addr.add; split <;> simp_all
    rw [hadd, cell_of_row _ g j cs e _ hr]
    rw [← hL] at hj
    simpa using hj
  · intro r hr' hne
    have h1 := hE.row r hr'
    unfold World.freeze
    rw [if_neg (by decide)]
    simp only [Array.getElem?_modify]
    rw [if_neg (fun e => hne e.symm)]
    exact h1
theorem const_run {w : World} {t : TypeId} {x : Operand} {g m mc : Nat} {cs : Array Value} (hrow : w.heap[g]? = some (.cells cs e (0, 0))) (ho : o.op = .convert t t x) (hx : a.eval x = .slice (some ⟨g, 0, none⟩) m mc) (ht : P.underlying t = some (.slice e)) (he : P.underlying e = some (.int .u8)) :
    (execOp a.eval o).run P w = .ok (.value (.slice (some ⟨g, 0, none⟩) m mc)) (w.freeze ⟨g, cs.size, none⟩ 1) := by
  have hsh : w.shape? g = some (e, cs.size) := by unfold World.shape?; rw [hrow]
  have key : (convert t t (.slice (some ⟨g, 0, none⟩) m mc)).run P w = .ok (.slice (some ⟨g, 0, none⟩) m mc) (w.freeze ⟨g, cs.size, none⟩ 1) := by
    simp [convert, run_underlying ht, run_underlying he, markStringish, hsh]
  unfold execOp
  simp only [ho, hx, Sem.run_bind, key, Result.andThen_ok, Sem.run_pure]
/-- From here on the world of that place is the old one; the other rows lie in it. -/
theorem wl_const_keep (i : Nat) {t : TypeId} {x : Operand} {g m mc : Nat} {cs : Array Value} {L : List UInt8} (hi : R[i]? = some ⟨g, cs, e⟩) (hL : cs.toList = flat ub L) (hw : Region.wanted o (yielded ops a.tmps) = true) (ho : o.op = .convert t t x) (hx : a.eval x = .slice (some ⟨g, 0, none⟩) m mc)
    (ht : P.underlying t = some (.slice e)) (he : P.underlying e = some (.int .u8))
    (h : ∀ w1, Below w0.heap.size w0 w1 → Reads w1 (some ⟨g, 0, none⟩) (flat ub L) → (∀ r ∈ R, r.g ≠ g → w1.heap[r.g]? = some (.cells r.cs r.t (0, 0))) → (∀ (j : Nat) (r : Rw), R[j]? = some r → j ≠ i → r.g ≠ g) → Wl P ops Q rest (a.put o.dst (.slice (some ⟨g, 0, none⟩) m mc)) w1 []) : Wl P ops Q (o :: rest) a w0 R :=
  wl_upon hw (fun w hE => by
    obtain ⟨h1, h2, h3⟩ := const_mark hE hi hL
    rw [const_run (hE.rowAt hi) ho hx ht he]
    refine (h _ h1 h2 h3 (fun j r hj hne => ?_)).run _ (Env.nil _)
    have hap := List.pairwise_iff_getElem.1 hE.apart
    obtain ⟨hjl, hjr⟩ := List.getElem?_eq_some_iff.1 hj
    obtain ⟨hil, hir⟩ := List.getElem?_eq_some_iff.1 hi
    rcases Nat.lt_or_gt_of_ne hne with k | k
    · have := hap j i hjl hil k
      rw [hjr, hir] at this
      exact this
    · have := hap i j hil hjl k
      rw [hjr, hir] at this
      exact fun e => this e.symm)
/-- A constant's bytes that are made for one call, which makes nothing. -/
theorem wl_const_call {o1 o2 o3 : Oper} {t : TypeId} {x : Operand} (cs : Array Value) (m : Nat) (L : List UInt8) (f : FuncId) (args : Nat → Array Value) (v : Value) (hL : cs.toList = flat ub L)
    (hw1 : Region.wanted o1 (yielded ops a.tmps) = true) (hr1 : ∀ w, (execOp a.eval o1).run P w = .ok (.value (.slice (some ⟨w.heap.size, 0, none⟩) m m)) (w.alloc (.cells cs e)))
    (hw2 : ∀ g, Region.wanted o2 (yielded ops (a.put o1.dst (.slice (some ⟨g, 0, none⟩) m m)).tmps) = true) (ho2 : o2.op = .convert t t x) (hx2 : ∀ g, (a.put o1.dst (.slice (some ⟨g, 0, none⟩) m m)).eval x = .slice (some ⟨g, 0, none⟩) m m)
    (ht : P.underlying t = some (.slice e)) (he : P.underlying e = some (.int .u8))
    (hw3 : ∀ g, Region.wanted o3 (yielded ops ((a.put o1.dst (.slice (some ⟨g, 0, none⟩) m m)).put o2.dst (.slice (some ⟨g, 0, none⟩) m m)).tmps) = true)
    (hr3 : ∀ g w, (execOp ((a.put o1.dst (.slice (some ⟨g, 0, none⟩) m m)).put o2.dst (.slice (some ⟨g, 0, none⟩) m m)).eval o3).run P w = .ok (.enter f (args g)) w)
    (hc : ∀ g w1, Below w0.heap.size w0 w1 → Reads w1 (some ⟨g, 0, none⟩) (flat ub L) → Calls P f (args g) w1 fun k w' => k = .returned v ∧ Below w1.heap.size w1 w')
    (h : ∀ g, Wl P ops Q rest (((a.put o1.dst (.slice (some ⟨g, 0, none⟩) m m)).put o2.dst (.slice (some ⟨g, 0, none⟩) m m)).put o3.dst v) w0 R) : Wl P ops Q (o1 :: o2 :: o3 :: rest) a w0 R :=
  wl_upon hw1 (fun w hE => by
    rw [hr1 w]
    have hE1 : Env w0 (w.alloc (.cells cs e)) (⟨w.heap.size, cs, e⟩ :: R) := hE.alloc cs e
    obtain ⟨h1, h2, h3⟩ := const_mark (L := L) hE1 (i := 0) rfl hL
    have hb : Below w.heap.size w ((w.alloc (.cells cs e)).freeze ⟨w.heap.size, cs.size, none⟩ 1) := (const_mark (L := L) ((Env.nil w).alloc cs e) (i := 0) rfl hL).1
    show wpList P ops Q (o2 :: o3 :: rest) (a.put o1.dst (.slice (some ⟨w.heap.size, 0, none⟩) m m)) (w.alloc (.cells cs e))
    unfold wpList
    rw [if_pos (hw2 _)]
    refine .inl ?_
    show o2.upon P _ (wpList P ops Q (o3 :: rest)) Q ((execOp (a.put o1.dst (.slice (some ⟨w.heap.size, 0, none⟩) m m)).eval o2).run P _)
    rw [const_run (hE1.rowAt (i := 0) rfl) ho2 (hx2 _) ht he]
    show wpList P ops Q (o3 :: rest) ((a.put o1.dst (.slice (some ⟨w.heap.size, 0, none⟩) m m)).put o2.dst (.slice (some ⟨w.heap.size, 0, none⟩) m m)) _
    unfold wpList
    rw [if_pos (hw3 _)]
    refine .inl ?_
    show o3.upon P _ (wpList P ops Q rest) Q ((execOp ((a.put o1.dst (.slice (some ⟨w.heap.size, 0, none⟩) m m)).put o2.dst (.slice (some ⟨w.heap.size, 0, none⟩) m m)).eval o3).run P _)
    rw [hr3]
    refine (hc _ _ h1 h2).mono ?_
    rintro k w' ⟨rfl, hb'⟩
    exact (h w.heap.size).run w' (hE.call (hb.trans (hb'.mono hb.size))))
end

/-! ### Appending to a slice that came in and has no room -/
section
variable {P : Program} {ops : Array Oper} {Q : Exit → Act → World → Prop} {rest : List Oper} {o : Oper} {a : Act} {w0 w : World} {R A B : List Rw} {e : TypeId} {size n : Nat} {xs : List Value}
theorem run_append_full {p p0 : Option Addr} {t ty : TypeId} {i : TypeInfo} {z : Value} {m c c0 bytes : Nat} {ys : List Value} (hE : Env w0 w (A ++ (Own.none.rows e ++ B))) (hS0 : Reads w p0 xs) (hx : xs.length = n * size) (hn0 : 0 < n) (hroom : c0 < n + m) (hS : Reads w p ys) (hl : ys.length = m * size) (hm : 0 < m)
    (ht : P.underlying t = some (.slice e)) (hi : P.info? e = some i) (hz : i.zero = some z) (hsz : i.size = size) (hby : i.bytes = bytes) (hzs : z.cells.size = size) (h0 : 0 < size) (h63 : n + m ≤ maxLen) (hc0 : c0 ≤ n + m) (hfit : (n + m) * bytes ≤ 140737488355328) :
    ∃ s' w', (Builtin.append_ #[t, t] ty #[.slice p0 n c0, .slice p m c]).run P w = .ok (s'.val (n + m)) w' ∧ Own.Has s' size (n + m) (xs ++ ys) ∧ Env w0 w' (A ++ (s'.rows e ++ B)) := by
  subst hsz
  subst hby
  have hsm : n + m ≤ 9223372036854775807 := by simp only [maxLen] at h63; omega
  have hlen : (xs ++ ys).length = (n + m) * i.size := by rw [List.length_append, hx, hl, Nat.add_mul]
  have hm0 : 0 < ys.length := by rw [hl]; exact Nat.mul_pos hm h0
  have hx0 : 0 < xs.length := by rw [hx]; exact Nat.mul_pos hn0 h0
  obtain ⟨b, rfl, _⟩ := hS 0 ys[0] (List.getElem?_eq_getElem hm0)
  obtain ⟨b0, rfl, _⟩ := hS0 0 xs[0] (List.getElem?_eq_getElem hx0)
  have hnews : ∀ j u, ys[j]? = some u → w.cell? (b.add j) = some u := by
    intro j u hj
    obtain ⟨b', hb', hc⟩ := hS j u hj
    cases hb'
    exact hc
  have holds : ∀ j u, xs[j]? = some u → w.cell? (b0.add j) = some u := by
    intro j u hj
    obtain ⟨b', hb', hc⟩ := hS0 j u hj
    cases hb'
    exact hc
  have hge := grownCap_ge w (n + m) c0 e
  have hr := run_append_grow (P := P) w t ty e i z ht hi hz b0 n c0 xs hx holds b m c ys hl hnews hroom (by omega) (growslice_fits (by omega) hfit)
  refine ⟨.row w.heap.size (grownCap w (n + m) c0 e) (xs.toArray ++ ys.toArray ++ Builtin.zeroCells z.cells (grownCap w (n + m) c0 e - (n + m))), _, hr, ⟨hlen, hge, grownCap_le_maxLen w (n + m) c0 e h63, ?_, ?_⟩, Env.own_step (s := .none) hE ⟨rfl, rfl, rfl, by simp, fun k hk _ => row_keep w.drew _ hk⟩ (fun g cap cur hh => ?_)⟩
  · simp only [Array.size_append, List.size_toArray, size_zeroCells, hzs, hx, hl, ← Nat.add_mul]
    congr 1
    omega
  · simp only [Array.toList_append]
    rw [← hlen]
    exact List.take_left
  · cases hh
    exact ⟨heap_alloc_new w.drew _, .inr (Nat.le_refl _)⟩
theorem wl_append_full (A B : List Rw) {p p0 : Option Addr} {x y : Operand} {t : TypeId} {m c c0 bytes : Nat} {ys : List Value} (hR : R = A ++ B) (hS0 : SlAt w0 R p0 xs) (hx0 : xs.length = n * size) (hn0 : 0 < n) (hroom : c0 < n + m) (hS : SlAt w0 R p ys) (hl : ys.length = m * size) (hm : 0 < m)
    (hw : Region.wanted o (yielded ops a.tmps) = true) (ho : o.op = .call { callee := .builtin .append, args := #[x, y], argTypes := #[t, t] }) (hx : a.eval x = .slice p0 n c0) (hy : a.eval y = .slice p m c) (ht : P.underlying t = some (.slice e)) (hi : Elem P e size bytes) (h0 : 0 < size)
    (h63 : n + m ≤ maxLen) (hfit : (n + m) * bytes ≤ 140737488355328) (h : ∀ s' : Own, s'.Has size (n + m) (xs ++ ys) → Wl P ops Q rest (a.put o.dst (s'.val (n + m))) w0 (A ++ (s'.rows e ++ B))) : Wl P ops Q (o :: rest) a w0 R :=
  wl_upon hw (fun w hE => by
    cases hq : P.info? e with
    | none => simp [Elem, hq] at hi
    | some i =>
      cases hzq : i.zero with
      | none => simp [Elem, hq, hzq] at hi
      | some z =>
        have hh : i.size = size ∧ i.bytes = bytes ∧ z.cells.size = size := by simpa [Elem, hq, hzq] using hi
        have h1 := hS0 w hE
        have h2 := hS w hE
        subst hR
        obtain ⟨s', w', hr, h3, h4⟩ := run_append_full (P := P) (A := A) (B := B) (ty := o.type) (c := c) hE h1 hx0 hn0 hroom h2 hl hm ht hq hzq hh.1 hh.2.1 hh.2.2 h0 h63 (by omega) hfit
        unfold execOp
        simp only [ho, resolve, invoke, builtin, Sem.run_bind, Sem.run_pure, Result.andThen_ok, List.map_toArray, List.map_cons, List.map_nil, hx, hy, hr]
        exact (h s' h3).run w' h4)
end

/-! ### Numbers of 64 bits with their sign, out of bytes -/
section
variable {P : Program} {o : Oper} {a : Act} {x y : Operand} {t t' : TypeId}
theorem run_nilCheck {p : Addr} (ho : o.op = .nilCheck x) (hx : a.eval x = .pointer (some p)) (w : World) : (execOp a.eval o).run P w = .ok (.value (.pointer (some p))) w := by
  unfold execOp
  simp [ho, hx]
/-- A call of a function value that holds nothing. -/
theorem er_value0 {F : FuncId} {v : Value} {ts : Array TypeId} (eg : Enters P F) (ho : o.op = .call { callee := .value x, args := #[y], argTypes := ts }) (hx : a.eval x = .func (.func F) #[] #[]) (hy : a.eval y = v) :
    ∀ w, (execOp a.eval o).run P w = .ok (.enter F #[v]) w := by
  intro w
  have := er_value eg ho hx hy w
  simpa using this
theorem wrap64_mod (X : Int) : IntKind.i64.wrap X % 18446744073709551616 = X % 18446744073709551616 := by
  simp only [IntKind.wrap, IntKind.bits, IntKind.signed]
  simp
  split <;> omega
theorem wrap64_eq {X Y : Int} (h : X % 18446744073709551616 = Y % 18446744073709551616) : IntKind.i64.wrap X = IntKind.i64.wrap Y := by
  simp only [IntKind.wrap, IntKind.bits, IntKind.signed]
  simp
  rw [h]
/-- A shift by 8 to the left, of a number that wraps. -/
theorem run_shlw {yk : IntKind} {X : Int} (ho : o.op = .binOp .shl t x y t') (hx : a.eval x = .int .i64 (IntKind.i64.wrap X)) (hy : a.eval y = .int yk 8) (w : World) :
    (execOp a.eval o).run P w = .ok (.value (.int .i64 (IntKind.i64.wrap (X * 256)))) w := by
  have e1 : IntKind.i64.wrap (IntKind.i64.wrap X * 2 ^ (min 8 64)) = IntKind.i64.wrap (X * 256) := by
    refine wrap64_eq ?_
    have := wrap64_mod X
    show (IntKind.i64.wrap X * 256) % _ = _
    omega
  refine exec_bin ho hx hy (by simp [eqGuard]) ?_
  show (Op.shift .shl .i64 (IntKind.i64.wrap X) yk 8).run P w = _
  simp only [Op.shift]
  rw [if_neg (by decide), show Int.toNat 8 = 8 from rfl, show IntKind.bits .i64 = 64 from rfl, e1, Sem.run_pure]
theorem ofInt_wrap64 (X : Int) : BitVec.ofInt 64 (IntKind.i64.wrap X) = BitVec.ofInt 64 X := by
  apply BitVec.eq_of_toNat_eq
  rw [BitVec.toNat_ofInt, BitVec.toNat_ofInt]
  have := wrap64_mod X
  congr 1
/-- A byte laid into the lowest bits. -/
theorem run_orw {X Y : Nat} (hX : X * 256 + Y < 18446744073709551616) (hY : Y < 256) (ho : o.op = .binOp .or t x y t') (hx : a.eval x = .int .i64 (IntKind.i64.wrap ((X : Int) * 256))) (hy : a.eval y = .int .i64 (Y : Int)) (w : World) :
    (execOp a.eval o).run P w = .ok (.value (.int .i64 (IntKind.i64.wrap ((X * 256 + Y : Nat) : Int)))) w := by
  have e1 : (BitVec.ofInt IntKind.i64.bits (IntKind.i64.wrap ((X : Int) * 256)) ||| BitVec.ofInt IntKind.i64.bits (Y : Int)).toNat = X * 256 + Y := by
    rw [show IntKind.bits .i64 = 64 from rfl, ofInt_wrap64, show (X : Int) * 256 = ((X * 256 : Nat) : Int) by push_cast; rfl, BitVec.ofInt_natCast, BitVec.ofInt_natCast, BitVec.toNat_or, BitVec.toNat_ofNat, BitVec.toNat_ofNat]
    rw [Nat.mod_eq_of_lt (by omega), Nat.mod_eq_of_lt (by omega)]
    exact or_byte X Y hY
  refine exec_bin ho hx hy (by simp [eqGuard]) ?_
  show (Op.intBits .or .i64 (IntKind.i64.wrap ((X : Int) * 256)) (Y : Int)).run P w = _
  simp only [Op.intBits, e1, Sem.run_pure]
end
end Go.Proofs.Ytggannjlaehihaa.Rdr
