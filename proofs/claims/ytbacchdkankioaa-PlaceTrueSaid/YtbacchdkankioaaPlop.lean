/-
  Spans, and cycles of layer 21, as arguments.
-/
import Derived.Test.YtbacchdkankioaaOpn
import Derived.Test.YtbacchdkankioaaPlm
import Derived.Test.YtbacchdkankioaaVs2
namespace Go.Proofs.Ytbacchdkankioaa.Plop
open Go.ChangeShapes Go.WideShapes Go.RowKit
open Sl Sb Vs Gr Plm Opn
set_option linter.unusedVariables false
set_option linter.unusedSimpArgs false
set_option maxRecDepth 100000
section
variable {H : Type} {eh : TypeId × Value → H} {W : World}
theorem op_span : Opens eh Try.prog W 32 enc2 (fun x => (Lit.int .i64 x.1).wf = true ∧ (Lit.int .i64 x.2).wf = true) :=
  opens_as id (opens_struct Try.underlying32 rfl (by kernel_rfl) (opensF_cons (m := 1) (z := 1) rfl (by kernel_rfl) (opens_int Try.underlying2) (opensF_one rfl (by kernel_rfl) (opens_int Try.underlying2)))) (fun _ h => ⟨rfl, h⟩)
theorem op_spans : Opens eh Try.prog W 28 (fun s : SlV (Int × Int) => [.slice s.p s.L.length s.c]) (SlOk W enc2 (fun x => (Lit.int .i64 x.1).wf = true ∧ (Lit.int .i64 x.2).wf = true) 16) :=
  opens_slice (z := 2) (b := 16) Try.underlying28 (by kernel_rfl) (by kernel_rfl) (fun _ => rfl) op_span
structure OkSp (W : World) (s : SlV (Int × Int)) : Prop where
  reads : Reads W s.p (flat enc2 s.L)
  fit : FitL s.L
  cap : s.L.length ≤ s.c
  few : s.L.length ≤ 140737488355328
/-- A slice of spans as an argument. -/
theorem open_spans {v : Value} {d : DataW H} {p : List MemPlace} {r : Reach} {b0 : Nat} (hv : Value.okWide Try.prog W r b0 28 v) (h : DataW.Trod eh Try.prog W 0 (fun _ => true) true 28 v d p) (hl : Light Try.prog 28 d) :
    ∃ s : SlV (Int × Int), v = .slice s.p s.L.length s.c ∧ OkSp W s := by
  obtain ⟨s, e, hs⟩ := open_slice Try.underlying28 hv h hl op_spans
  exact ⟨s, e, hs.reads, fun x hx => by obtain ⟨a1, a2⟩ := hs.each x hx; simp [Lit.wf, IntKind.min, IntKind.max, IntKind.bits, IntKind.signed] at a1 a2; exact ⟨a1, a2⟩, hs.cap, by have := hs.small; unfold reachBytes at this; omega⟩
theorem op_ride : Opens eh Try.prog W 71 rd3 (fun _ => True) :=
  opens_as (fun y => (y.1.1, y.1.2, y.2)) (opens_struct Try.underlying71 rfl (by kernel_rfl) (opensF_cons (m := 2) (z := 1) rfl (by kernel_rfl) op_span (opensF_one rfl (by kernel_rfl) (opens_int Try.underlying2)))) (fun _ _ => ⟨rfl, trivial⟩)
theorem op_rides : Opens eh Try.prog W 59 (fun s : SlV Rd3 => [.slice s.p s.L.length s.c]) (SlOk W rd3 (fun _ => True) 24) :=
  opens_slice (z := 3) (b := 24) Try.underlying59 (by kernel_rfl) (by kernel_rfl) (fun _ => rfl) op_ride
structure OkRd (W : World) (s : SlV Rd3) : Prop where
  reads : Reads W s.p (flat rd3 s.L)
  few : s.L.length ≤ 140737488355328
/-- A slice of cycles as an argument. -/
theorem open_rides {v : Value} {d : DataW H} {p : List MemPlace} {r : Reach} {b0 : Nat} (hv : Value.okWide Try.prog W r b0 59 v) (h : DataW.Trod eh Try.prog W 0 (fun _ => true) true 59 v d p) (hl : Light Try.prog 59 d) :
    ∃ s : SlV Rd3, v = .slice s.p s.L.length s.c ∧ OkRd W s := by
  obtain ⟨s, e, hs⟩ := open_slice Try.underlying59 hv h hl op_rides
  exact ⟨s, e, hs.reads, by have := hs.small; unfold reachBytes at this; omega⟩
end
end Go.Proofs.Ytbacchdkankioaa.Plop
