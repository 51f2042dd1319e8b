/-
  THE ENGINE, further: a region that draws its order, with stores into several older rows (or into parts of them) and calls that make nothing: laws for single operations. No program.
-/
import Derived.Test.YtbacblnbmdomaaaSfn
import Derived.Deep.MidRow
namespace Go.Proofs.Ytbacblnbmdomaaa.Smu
open Go.ChangeShapes Go.WideShapes Go.ChangeAt Go.RowKit
open Arr Steady Sx Sw Sl Sb Sc Si Sj Sk Sh Sfn
set_option linter.unusedVariables false
set_option linter.unusedSimpArgs false

section
variable {P : Program} {o : Oper} {a : Act} {x y : Operand} {t t' : TypeId}
end
section
variable {P : Program} {o : Oper} {a : Act} {x y z : Operand}
end
section
variable {P : Program} {o : Oper} {a : Act}
end
section
variable {P : Program} {o : Oper} {a : Act} {x y : Operand}
theorem run_minn2 {t0 t1 : TypeId} {k : IntKind} {X Y Z : Int} (ho : o.op = .call { callee := .builtin .min, args := #[x, y], argTypes := #[t0, t1] }) (hx : a.eval x = .int k X) (hy : a.eval y = .int k Y) (hz : min X Y = Z) (w : World) :
    (execOp a.eval o).run P w = .ok (.value (.int k Z)) w := by
  subst hz
  have key : (Builtin.min_ #[t0, t1] o.type #[.int k X, .int k Y]).run P w = .ok (.int k (min X Y)) w := by
    simp only [Builtin.min_, List.foldlM_cons, List.foldlM_nil, Sem.run_bind, Result.andThen_ok, Sem.run_pure, Builtin.min2]
    congr 2
    split <;> omega
  unfold execOp
  simp only [ho, resolve, invoke, builtin, Sem.run_bind, Sem.run_pure, Result.andThen_ok, List.map_toArray, List.map_cons, List.map_nil, hx, hy, key]
end
/-! ### A part of a row is stored -/
section
variable {P : Program} {Q : Exit → Act → World → Prop}
end
section
variable {P : Program} {ops : Array Oper} {Γ : Type} {sz : Nat} {Q : Exit → Act → World → Prop} {val : Γ → Nat → Value} {rows : (Nat → Bool) → Γ → List Rw} {Fc : (Nat → Bool) → Γ → Prop} {a0 : Act} {w0 : World} {i : Nat} {o : Oper}
/-- A call that makes nothing. -/
theorem sp_call (f : FuncId) (v : Value) (hg : o.guard = none) (hv : ∀ γ, val γ i = v) (hF : ∀ L γ, Fc L γ → Fc (one L i) γ) (hR : ∀ L γ, rows (one L i) γ = rows L γ)
    (h : ∀ L γ a w, Rd ops sz (val γ) L a0 a i o → Fc L γ → Env w0 w (rows L γ) → ∃ args, (execOp a.eval o).run P w = .ok (.enter f args) w ∧ Calls P f args w fun e w' => e = .returned v ∧ Below w.heap.size w w') : Sp P ops sz Q val rows Fc a0 w0 i o :=
  ⟨fun L γ a w hd hFc hE K hK => hd.go hg (by
    obtain ⟨args, h1, h2⟩ := h L γ a w hd hFc hE
    rw [h1]
    refine h2.mono ?_
    rintro e w' ⟨rfl, hb⟩
    have := hK γ w' (fun _ _ => rfl) (hF L γ hFc) (by rw [hR]; exact hE.call hb)
    rwa [hv γ] at this)⟩
/-- The store of a whole row into an older one. -/
theorem sp_row (ty : TypeId) (x y : Operand) (k : Nat) (hg : o.guard = none) (ho : o.op = .store ty x y) (hv : ∀ γ, val γ i = undef) (hF : ∀ L γ, Fc L γ → Fc (one L i) γ)
    (h : ∀ L γ a, Rd ops sz (val γ) L a0 a i o → Fc L γ → ∃ (g : Nat) (cs old : Array Value) (t : TypeId), a.eval x = .pointer (some ⟨g, 0, none⟩) ∧ a.eval y = .agg cs ∧ (P.info? ty).map (·.size) = some cs.size ∧ (rows L γ)[k]? = some ⟨g, old, t⟩ ∧ old.size = cs.size ∧ cs.all (·.oneCell') = true ∧
      (rows L γ).set k ⟨g, cs, t⟩ = rows (one L i) γ) : Sp P ops sz Q val rows Fc a0 w0 i o :=
  ⟨fun L γ a w hd hFc hE K hK => hd.go hg (by
    obtain ⟨g, cs, old, t, h1, h2, h3, h4, h5, h6, h7⟩ := h L γ a hd hFc
    refine wp_store_row ty x y ho g cs h1 h2 t old (hE.rowAt h4) h3 h5 h6 ?_
    have hE3 := hE.setRow h4 cs
    rw [h7] at hE3
    have := hK γ _ (fun _ _ => rfl) (hF L γ hFc) hE3
    rwa [hv γ] at this)⟩
end
end Go.Proofs.Ytbacblnbmdomaaa.Smu
