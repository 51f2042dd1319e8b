/-
  THE ENGINE, further: regions that draw their order whose effects are a chain, each by the ordinary law of a walk. No program.
-/
import Derived.Test.YtbacchdkankioaaMsf
namespace Go.Proofs.Ytbacchdkankioaa.Ch
open Go.ChangeShapes Go.WideShapes Go.ChangeAt Go.RowKit
open Arr Steady Sx Sw Sl Sb Sc Si Sj Sfn
set_option linter.unusedVariables false
set_option linter.unusedSimpArgs false

section
variable {P : Program} {ops : Array Oper} {sz : Nat} {val : Nat → Value} {L : Nat → Bool} {a0 a : Act} {i : Nat} {o : Oper} {Q : Exit → Act → World → Prop} {K : Act → World → Prop} {w0 w : World} {R : List Rw}
/-- A walk of one operation alone: what comes behind it is K. -/
def Qk (K : Act → World → Prop) (Q : Exit → Act → World → Prop) : Exit → Act → World → Prop
  | .normal, a, w => K a w
  | e, a, w => Q e a w
theorem upon_qk {r : Result Next} (h : o.upon P a K (Qk K Q) r) : o.upon P a K Q r := by
  unfold Oper.upon at h ⊢
  exact h
/-- A slot that is set later on. -/
theorem Rd.old (h : Rd ops sz val L a0 a i o) (k0 : Nat) {t : Tmp} {v : Value} (hk : ((List.range ops.size).all fun k => dstOf ops k != some t || k == k0) = true) (hL : L k0 = false) (hv : a0.tmps.getD t undef = v) : a.eval (.tmp t) = v := by
  rw [eval_tmp, h.st.rest t (fun k hk' => ?_), hv]
  have h1 := List.all_eq_true.1 hk k (by simpa using lt_of_dst hk')
  rw [hk'] at h1
  simp at h1
  rw [h1]; exact hL
theorem Rd.wl (hd : Rd ops sz val L a0 a i o) (hg : o.guard = none) (hE : Env w0 w R) (h : Wl P ops (Qk K Q) [o] a w0 R) : wpOp P ops Q i K a w := by
  have k := h.run w hE
  unfold wpList at k
  unfold wpOp
  simp only [hd.op]
  rw [if_pos (by simp [Region.wanted, hg])] at k ⊢
  rcases k with k | ⟨k, l⟩
  · exact .inl (upon_qk k)
  · exact .inr ⟨k, l⟩
end
end Go.Proofs.Ytbacchdkankioaa.Ch
