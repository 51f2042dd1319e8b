/-
  More steps for the walks of Sx: loops whose rounds are known, shifts of numbers with a sign, bytes joined to a number. No condition.
-/
import Derived.Test.YtggannjlaehihaaSb
import Derived.LoopN
namespace Go.Proofs.Ytggannjlaehihaa.Sc
open Go.ChangeShapes Go.WideShapes Go.ChangeAt Go.RowKit
open Arr Steady Sx Sw Sl Sb
set_option linter.unusedVariables false
set_option linter.unusedSimpArgs false

section
variable {P : Program} {Q : Exit → Act → World → Prop} {o : Oper} {a : Act} {w0 : World} {R : List Rw} {c : Code} {n : Nat} {x y : Operand} {t t' : TypeId}
/-- A loop that is unrolled: at most n rounds more. -/
structure Wr (P : Program) (c : Code) (Q : Exit → Act → World → Prop) (n : Nat) (a : Act) (w0 : World) (R : List Rw) : Prop where
  run : ∀ w, Env w0 w R → Code.rounds P c Q n a w
theorem wr_start (n : Nat) (h : Wr P c Q n a w0 R) : Wc P (.loop c) Q a w0 R := ⟨fun w hE => wp_loop_rounds n (h.run w hE)⟩
theorem wr_round (h : Wc P c (Exit.then (Code.rounds P c Q n) Q) a w0 R) : Wr P c Q (n + 1) a w0 R := ⟨fun w hE => h.run w hE⟩
theorem we_round (h : Wr P c Q n a w0 R) : We (Exit.then (Code.rounds P c Q n) Q) .normal a w0 R := ⟨fun w hE => h.run w hE⟩
/-- A shift of a number with its sign to the right. -/
theorem run_sar {k yk : IntKind} {p : Int} (m d : Nat) (hm : m ≤ k.bits) (hd : d = 2 ^ m) (ho : o.op = .binOp .shr t x y t') (hx : a.eval x = .int k p) (hy : a.eval y = .int yk (m : Int)) (w : World) :
    (execOp a.eval o).run P w = .ok (.value (.int k (p / (d : Int)))) w := by
  have e1 : Int.fdiv p (2 ^ (min m k.bits)) = p / (d : Int) := by
    rw [Nat.min_eq_left hm, hd]
    push_cast
    exact Int.fdiv_eq_ediv_of_nonneg _ (Int.pow_nonneg (by decide))
  refine exec_bin ho hx hy (by simp [eqGuard]) ?_
  have h0 : ¬ ((m : Int) < 0) := by omega
  simp only [binOp, Op.shift, if_neg h0, Int.toNat_natCast, e1, Sem.run_pure]
theorem or_byte (X Y : Nat) (h : Y < 256) : X * 256 ||| Y = X * 256 + Y := by
  have := Nat.two_pow_add_eq_or_of_lt (i := 8) (b := Y) (by omega) X
  rw [show 2 ^ 8 * X = X * 256 by omega] at this
  exact this.symm
theorem has_cap {s : Own} {size n : Nat} {xs : List Value} (h : s.Has size n xs) : n ≤ s.cap := by
  cases s with
  | none => exact Nat.le_of_eq h.2
  | row g cap cur => exact h.2.1
/-- A byte is stored in a slice that the function appended to. -/
theorem wl_set_own (A B : List Rw) (s : Own) (k : Nat) {ops : Array Oper} {rest : List Oper} {e : TypeId} {L : List UInt8} (z : UInt8) (hR : R = A ++ (s.rows e ++ B)) (hs : s.Has 1 n (flat ub L)) (hk : k < n) (hw : Region.wanted o (yielded ops a.tmps) = true) (ho : o.op = .store t x y)
    (hx : a.eval x = eaddr s.ptr (k * 1)) (hy : a.eval y = .int .u8 (z.toNat : Int)) (hz : (P.info? t).map (·.size) = some 1)
    (h : ∀ s' : Own, s'.ptr = s.ptr → s'.cap = s.cap → s'.Has 1 n (flat ub (L.set k z)) → Wl P ops Q rest (a.put o.dst undef) w0 (A ++ (s'.rows e ++ B))) : Wl P ops Q (o :: rest) a w0 R := by
  cases s with
  | none =>
    have : n = 0 := hs.2
    omega
  | row g cap cur =>
    obtain ⟨hl, hn, hm, hc, ht⟩ := hs
    have hL : L.length = n := by rw [ub_len] at hl; omega
    have hp : cur[k]? = some (.int .u8 ((L[k]!).toNat : Int)) := by
      have h1 := ub_get L k (by omega)
      rw [← ht, List.getElem?_take, if_pos (by omega)] at h1
      simpa using h1
    have hat : R[A.length]? = some ⟨g, cur, e⟩ := by rw [hR]; simp [Own.rows]
    have ha : eaddr (some ⟨g, 0, Option.none⟩) (k * 1) = .pointer (some ⟨g, k, Option.none⟩) := by
      unfold eaddr Addr.add
      rw [Nat.mul_one]
      split <;> simp_all
    refine wl_store_cell A.length t x y _ _ hat hw ho (hx.trans ha) hy hp hz rfl ?_
    have hset : R.set A.length ⟨g, cur.setIfInBounds k (.int .u8 (z.toNat : Int)), e⟩ = A ++ ((Own.row g cap (cur.setIfInBounds k (.int .u8 (z.toNat : Int)))).rows e ++ B) := by
      rw [hR]
      simp [Own.rows]
    rw [hset]
    refine h _ rfl rfl ⟨?_, hn, hm, ?_, ?_⟩
    · rw [ub_len, List.length_set]; omega
    · rw [Array.size_setIfInBounds]; exact hc
    · have h2 := ub_set L k z
      have h3 : (flat ub L).set k (.int .u8 (z.toNat : Int)) = flat ub (L.set k z) := by simpa using congrArg Array.toList h2
      rw [← h3, ← ht, Array.toList_setIfInBounds, List.take_set]
end
end Go.Proofs.Ytggannjlaehihaa.Sc
