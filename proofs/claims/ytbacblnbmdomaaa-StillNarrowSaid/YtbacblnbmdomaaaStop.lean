/-
  Cycles of layer 18 as arguments: one, and a slice of them.
-/
import Derived.Test.YtbacblnbmdomaaaOpn
import Derived.Test.YtbacblnbmdomaaaStm
namespace Go.Proofs.Ytbacblnbmdomaaa.Stop
open Go.ChangeShapes Go.WideShapes Go.RowKit
open Sl Sb Vs Gr Stm Opn
set_option linter.unusedVariables false
set_option linter.unusedSimpArgs false
set_option maxRecDepth 100000
section
variable {H : Type} {eh : TypeId × Value → H} {W : World}
theorem op_span : Opens eh Try.prog W 31 enc2 (fun x => (Lit.int .i64 x.1).wf = true ∧ (Lit.int .i64 x.2).wf = true) :=
  opens_as id (opens_struct Try.underlying31 rfl (by kernel_rfl) (opensF_cons (m := 1) (z := 1) rfl (by kernel_rfl) (opens_int Try.underlying2) (opensF_one rfl (by kernel_rfl) (opens_int Try.underlying2)))) (fun _ h => ⟨rfl, h⟩)
structure OkCy (x : Cy) : Prop where
  lo : (Lit.int .i64 x.lo).wf = true
  hi : (Lit.int .i64 x.hi).wf = true
  fit : (Lit.int .i64 x.fit).wf = true
theorem op_cycle : Opens eh Try.prog W 33 cy OkCy :=
  opens_as (fun y => ⟨y.1.1, y.1.2, y.2⟩)
    (opens_struct Try.underlying33 rfl (by kernel_rfl) (opensF_cons (m := 2) (z := 1) rfl (by kernel_rfl) op_span (opensF_one rfl (by kernel_rfl) (opens_int Try.underlying3))))
    (fun _ h => ⟨rfl, h.1.1, h.1.2, h.2⟩)
theorem op_cycles : Opens eh Try.prog W 24 (fun s : SlV Cy => [.slice s.p s.L.length s.c]) (SlOk W cy OkCy 24) :=
  opens_slice (z := 3) (b := 24) Try.underlying24 (by kernel_rfl) (by kernel_rfl) (fun _ => rfl) op_cycle
/-- A cycle as an argument. -/
theorem open_cycle {v : Value} {d : DataW H} {p : List MemPlace} {r : Reach} {b0 : Nat} (hv : Value.okWide Try.prog W r b0 33 v) (h : DataW.Trod eh Try.prog W 0 (fun _ => true) true 33 v d p) (hl : Light Try.prog 33 d) :
    ∃ z : Cy, v = .agg #[.int .i64 z.lo, .int .i64 z.hi, .int .i64 z.fit] ∧ OkCy z := open_agg Try.underlying33 hv h hl op_cycle
structure OkCs (W : World) (s : SlV Cy) : Prop where
  reads : Reads W s.p (flat cy s.L)
  few : s.L.length ≤ 140737488355328
/-- A slice of cycles as an argument. -/
theorem open_cycles {v : Value} {d : DataW H} {p : List MemPlace} {r : Reach} {b0 : Nat} (hv : Value.okWide Try.prog W r b0 24 v) (h : DataW.Trod eh Try.prog W 0 (fun _ => true) true 24 v d p) (hl : Light Try.prog 24 d) :
    ∃ s : SlV Cy, v = .slice s.p s.L.length s.c ∧ OkCs W s := by
  obtain ⟨s, e, hs⟩ := open_slice Try.underlying24 hv h hl op_cycles
  exact ⟨s, e, hs.reads, by have := hs.small; unfold reachBytes at this; omega⟩
end
end Go.Proofs.Ytbacblnbmdomaaa.Stop
