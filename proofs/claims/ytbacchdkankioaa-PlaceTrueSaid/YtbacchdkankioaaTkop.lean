/-
  A track as an argument: what it holds.
-/
import Derived.Test.YtbacchdkankioaaOpn
import Derived.Test.YtbacchdkankioaaMtk
namespace Go.Proofs.Ytbacchdkankioaa.Tkop
open Go.ChangeShapes Go.WideShapes Go.RowKit
open Sl Sb Vs Gr Tk Opn
set_option linter.unusedVariables false
set_option linter.unusedSimpArgs false
set_option maxRecDepth 100000
section
variable {H : Type} {eh : TypeId × Value → H} {W : World}
theorem op_piece : Opens eh Try.prog W 74 enc2 (fun _ => True) :=
  opens_as id (opens_struct Try.underlying74 rfl (by kernel_rfl) (opensF_cons (m := 1) (z := 1) rfl (by kernel_rfl) (opens_int Try.underlying2) (opensF_one rfl (by kernel_rfl) (opens_int Try.underlying2)))) (fun _ _ => ⟨rfl, trivial⟩)
theorem op_next : Opens eh Try.prog W 3 enc1 (fun _ => True) := opens_as id (opens_int Try.underlying3) (fun _ _ => ⟨rfl, trivial⟩)
theorem op_seg : Opens eh Try.prog W 66 sg (fun s => OkSg W s ∧ s.X.length ≤ s.nc) :=
  opens_as (fun y => ⟨y.1, y.2.1.p, y.2.1.L, y.2.1.c, y.2.2.p, y.2.2.L, y.2.2.c⟩)
    (opens_struct Try.underlying66 rfl (by kernel_rfl) (opensF_cons (m := 1) (z := 2) rfl (by kernel_rfl) (opens_int Try.underlying2)
      (opensF_cons (m := 1) (z := 1) rfl (by kernel_rfl) (opens_slice (z := 2) (b := 16) Try.underlying64 (by kernel_rfl) (by kernel_rfl) (fun _ => rfl) op_piece)
        (opensF_one rfl (by kernel_rfl) (opens_slice (z := 1) (b := 8) Try.underlying63 (by kernel_rfl) (by kernel_rfl) (fun _ => rfl) op_next)))))
    (fun y h => ⟨rfl, ⟨h.2.1.reads, h.2.2.reads, by have := h.2.1.small; unfold reachBytes at this; dsimp only; omega, by have := h.2.2.small; unfold reachBytes at this; dsimp only; omega⟩, h.2.2.cap⟩)
theorem op_grp : Opens eh Try.prog W 62 gp (fun _ => True) :=
  opens_as (fun y => ⟨y.1, y.2.1, y.2.2.1, y.2.2.2.1, y.2.2.2.2⟩)
    (opens_struct Try.underlying62 rfl (by kernel_rfl) (opensF_cons (m := 1) (z := 4) rfl (by kernel_rfl) (opens_int Try.underlying3) (opensF_cons (m := 1) (z := 3) rfl (by kernel_rfl) (opens_int Try.underlying3)
      (opensF_cons (m := 1) (z := 2) rfl (by kernel_rfl) (opens_int Try.underlying2) (opensF_cons (m := 1) (z := 1) rfl (by kernel_rfl) (opens_int Try.underlying2) (opensF_one rfl (by kernel_rfl) (opens_int Try.underlying2)))))))
    (fun _ _ => ⟨rfl, trivial⟩)
/-- A track: its segments and its groups. -/
structure TkV where
  G : List Sg
  H : List Gp
  p : Option Addr
  q : Option Addr
  c : Nat
  d : Nat
def tk (z : TkV) : List Value := [.slice z.p z.G.length z.c, .slice z.q z.H.length z.d]
structure OkTk (W : World) (z : TkV) : Prop where
  segs : Reads W z.p (flat sg z.G)
  ok : OkS W z.G
  grps : Reads W z.q (flat gp z.H)
  fewG : z.G.length ≤ 140737488355328
  fewH : z.H.length ≤ 140737488355328
  capG : z.G.length ≤ z.c
  capH : z.H.length ≤ z.d
  capX : ∀ s ∈ z.G, s.X.length ≤ s.nc
theorem op_track : Opens eh Try.prog W 27 tk (OkTk W) :=
  opens_as (fun y => ⟨y.1.L, y.2.L, y.1.p, y.2.p, y.1.c, y.2.c⟩)
    (opens_struct Try.underlying27 rfl (by kernel_rfl) (opensF_cons (m := 1) (z := 1) rfl (by kernel_rfl) (opens_slice (z := 3) (b := 56) Try.underlying24 (by kernel_rfl) (by kernel_rfl) (fun _ => rfl) op_seg)
      (opensF_one rfl (by kernel_rfl) (opens_slice (z := 5) (b := 40) Try.underlying25 (by kernel_rfl) (by kernel_rfl) (fun _ => rfl) op_grp))))
    (fun y h => ⟨rfl, h.1.reads, fun s hs => (h.1.each s hs).1, h.2.reads, by have := h.1.small; unfold reachBytes at this; dsimp only; omega, by have := h.2.small; unfold reachBytes at this; dsimp only; omega, h.1.cap, h.2.cap, fun s hs => (h.1.each s hs).2⟩)
/-- A track as an argument. -/
theorem open_track {v : Value} {d : DataW H} {p : List MemPlace} {r : Reach} {b0 : Nat} (hv : Value.okWide Try.prog W r b0 27 v) (h : DataW.Trod eh Try.prog W 0 (fun _ => true) true 27 v d p) (hl : Light Try.prog 27 d) :
    ∃ z : TkV, v = .agg #[.slice z.p z.G.length z.c, .slice z.q z.H.length z.d] ∧ OkTk W z := open_agg Try.underlying27 hv h hl op_track
end
end Go.Proofs.Ytbacchdkankioaa.Tkop
