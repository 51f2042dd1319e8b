/-
  Bits of natural numbers: plain mathematics. No condition beyond each lemma's own.
-/
import Derived.Test.YtcelmgkjkdbliaaArr
import Derived.Lib.BitFns
namespace Go.Proofs.Ytcelmgkjkdbliaa.Bt
open Go.ChangeShapes Go.WideShapes Go.ChangeAt Go.RowKit
open Arr
set_option linter.unusedVariables false

/-- What goes over from the lowest k places. -/
def cy (n m k : Nat) : Nat := (n % 2 ^ k + m % 2 ^ k) / 2 ^ k
/-- The numbers of 128 bits. -/
def W128 (n : Nat) : Prop := n < 340282366920938463463374607431768211456
/-- The length: the least l with n < 2^l. -/
def IsLen (n l : Nat) : Prop := n < 2 ^ l ∧ (0 < l → 2 ^ (l - 1) ≤ n)
theorem isLen_zero : IsLen 0 0 := ⟨by simp, by omega⟩
theorem bitLen_isLen {x : Nat} (h : x < 18446744073709551616) : IsLen x (Lib.bitLen x) := by
  have aux : ∀ (f x : Nat), x < 2 ^ f → IsLen x (Lib.bitLenAux f x) := by
    intro f
    induction f with
    | zero => intro x hx; have : x = 0 := by simpa using hx
              subst this; exact isLen_zero
    | succ f ih =>
      intro x hx
      unfold Lib.bitLenAux
      by_cases h0 : x = 0
      · rw [if_pos h0]; subst h0; exact isLen_zero
      · rw [if_neg h0]
        have hlt : x / 2 < 2 ^ f := by rw [Nat.pow_succ] at hx; omega
        obtain ⟨h1, h2⟩ := ih (x / 2) hlt
        refine ⟨?_, fun _ => ?_⟩
        · rw [Nat.add_comm, Nat.pow_succ]; omega
        · rw [Nat.add_sub_cancel_left]
          rcases Nat.eq_zero_or_pos (Lib.bitLenAux f (x / 2)) with hz | hp
          · rw [hz]; simp; omega
          · have := h2 hp
            have e : Lib.bitLenAux f (x / 2) = (Lib.bitLenAux f (x / 2) - 1) + 1 := by omega
            rw [e, Nat.pow_succ]; omega
  exact aux 64 x h
end Go.Proofs.Ytcelmgkjkdbliaa.Bt
