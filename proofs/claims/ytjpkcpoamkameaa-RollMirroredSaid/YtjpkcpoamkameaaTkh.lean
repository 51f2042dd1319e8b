/-
  Tracks copied: one track that says the same as another one; an open number of rows that hold its pieces. No program.
-/
import Derived.Test.YtjpkcpoamkameaaTk
import Derived.Test.YtjpkcpoamkameaaSh
namespace Go.Proofs.Ytjpkcpoamkameaa.Tkh
open Go.ChangeShapes Go.WideShapes Go.ChangeAt Go.RowKit
open Arr Steady Sx Sw Sl Sb Sc Sh Vs Gr Tk
set_option linter.unusedVariables false
set_option linter.unusedSimpArgs false

/-- A segment's copy: its pieces are in rows of their own. -/
structure Copy (N : List Rw) (s z : Sg) : Prop where
  len : z.len = s.len
  P : z.P = s.P
  X : z.X = s.X
  np : z.np = s.np
  held : Held N z.pp (flat enc2 z.P)
theorem Copy.mono {N R : List Rw} {s z : Sg} (h : Copy N s z) (hs : N.Sublist R) : Copy R s z := ⟨h.len, h.P, h.X, h.np, h.held.mono hs⟩
/-! ### Tracks that say the same -/
def sgEq (s z : Sg) : Prop := z.len = s.len ∧ z.P = s.P ∧ z.X = s.X
structure Same (G K : List Sg) : Prop where
  length : K.length = G.length
  each : ∀ j, j < G.length → sgEq (G[j]!) (K[j]!)
theorem Same.symm {G K : List Sg} (h : Same G K) : Same K G := ⟨h.length.symm, fun j hj => by
  have k := h.each j (by rw [← h.length]; exact hj)
  exact ⟨k.1.symm, k.2.1.symm, k.2.2.symm⟩⟩
/-! ### Too great to be asked -/
end Go.Proofs.Ytjpkcpoamkameaa.Tkh
