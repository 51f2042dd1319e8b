/-
  Cycles of layer 19 as arguments: a slice of them.
-/
import Derived.Test.YtjpkcpoamkameaaOpn
import Derived.Test.YtjpkcpoamkameaaRlm
namespace Go.Proofs.Ytjpkcpoamkameaa.Rlop
open Go.ChangeShapes Go.WideShapes Go.RowKit
open Sl Sb Vs Gr Rlm Opn
set_option linter.unusedVariables false
set_option linter.unusedSimpArgs false
set_option maxRecDepth 100000
section
variable {H : Type} {eh : TypeId × Value → H} {W : World}
theorem op_span : Opens eh Try.prog W 29 enc2 (fun x => (Lit.int .i64 x.1).wf = true ∧ (Lit.int .i64 x.2).wf = true) :=
  opens_as id (opens_struct Try.underlying29 rfl (by kernel_rfl) (opensF_cons (m := 1) (z := 1) rfl (by kernel_rfl) (opens_int Try.underlying2) (opensF_one rfl (by kernel_rfl) (opens_int Try.underlying2)))) (fun _ h => ⟨rfl, h⟩)
theorem op_cycle : Opens eh Try.prog W 33 cy9 (fun _ => True) :=
  opens_as (fun y => ⟨y.1.1, y.1.2, y.2.1, y.2.2.1, y.2.2.2⟩)
    (opens_struct Try.underlying33 rfl (by kernel_rfl) (opensF_cons (m := 2) (z := 3) rfl (by kernel_rfl) op_span (opensF_cons (m := 1) (z := 2) rfl (by kernel_rfl) (opens_int Try.underlying2) (opensF_cons (m := 1) (z := 1) rfl (by kernel_rfl) (opens_bool Try.underlying4) (opensF_one rfl (by kernel_rfl) (opens_bool Try.underlying4))))))
    (fun _ h => ⟨rfl, trivial⟩)
theorem op_cycles : Opens eh Try.prog W 24 (fun s : SlV Cy9 => [.slice s.p s.L.length s.c]) (SlOk W cy9 (fun _ => True) 32) :=
  opens_slice (z := 5) (b := 32) Try.underlying24 (by kernel_rfl) (by kernel_rfl) (fun _ => rfl) op_cycle
structure OkCs (W : World) (s : SlV Cy9) : Prop where
  reads : Reads W s.p (flat cy9 s.L)
  few : s.L.length ≤ 140737488355328
/-- A slice of cycles as an argument. -/
theorem open_cycles {v : Value} {d : DataW H} {p : List MemPlace} {r : Reach} {b0 : Nat} (hv : Value.okWide Try.prog W r b0 24 v) (h : DataW.Trod eh Try.prog W 0 (fun _ => true) true 24 v d p) (hl : Light Try.prog 24 d) :
    ∃ s : SlV Cy9, v = .slice s.p s.L.length s.c ∧ OkCs W s := by
  obtain ⟨s, e, hs⟩ := open_slice Try.underlying24 hv h hl op_cycles
  exact ⟨s, e, hs.reads, by have := hs.small; unfold reachBytes at this; omega⟩
end
end Go.Proofs.Ytjpkcpoamkameaa.Rlop
