/-
  THE ENGINE, further: a region that draws its order and holds two calls that hand back rows of their own, the second one behind the first. No program.
  THE ENGINE, further: a region that draws its order, with calls that hand back rows of their own and rows that it makes: laws for single operations. No program.
-/
import Derived.Test.YtbacchdkankioaaSh
import Derived.Shelf.Abstract
import Derived.Laws.Tables
namespace Go.Proofs.Ytbacchdkankioaa.Shh
open Go.ChangeShapes Go.WideShapes Go.ChangeAt Go.RowKit
open Arr Steady Sx Sw Sl Sb Sc Si Sj Sk Sh
set_option linter.unusedVariables false
set_option linter.unusedSimpArgs false
set_option maxRecDepth 100000

def z1 {Γ0 Γ1 : Type} (V1 : Γ0 → Nat → Value) : Option (Γ0 × Option Γ1) → Nat → Value
  | none, _ => undef
  | some (g, _), k => V1 g k
def z2 {Γ0 Γ1 : Type} (V2 : Γ0 → Γ1 → Nat → Value) : Option (Γ0 × Option Γ1) → Nat → Value
  | some (g, some h), k => V2 g h k
  | _, _ => undef
end Go.Proofs.Ytbacchdkankioaa.Shh
namespace Go.Proofs.Ytbacchdkankioaa.Sfn
open Go.ChangeShapes Go.WideShapes Go.ChangeAt Go.RowKit
open Arr Steady Sx Sw Sl Sb Sc Si Sj Sk Sh
set_option linter.unusedVariables false
set_option linter.unusedSimpArgs false

section
variable {P : Program} {ops : Array Oper} {Γ : Type} {sz : Nat} {Q : Exit → Act → World → Prop} {val : Γ → Nat → Value} {rows : (Nat → Bool) → Γ → List Rw} {Fc : (Nat → Bool) → Γ → Prop} {a0 : Act} {w0 : World} {i : Nat} {o : Oper} {r : List Oper}
/-- An operation that makes nothing and hands on a value, told by what was made. -/
theorem sp_valg (v : Γ → Value) (hg : o.guard = none) (hv : ∀ γ, val γ i = v γ) (hF : ∀ L γ, Fc L γ → Fc (one L i) γ) (hR : ∀ L γ, rows (one L i) γ = rows L γ)
    (hr : ∀ L γ a w, Rd ops sz (val γ) L a0 a i o → Fc L γ → Env w0 w (rows L γ) → (execOp a.eval o).run P w = .ok (.value (v γ)) w) : Sp P ops sz Q val rows Fc a0 w0 i o :=
  ⟨fun L γ a w h hF' hE K hK => h.give hg (v γ) (hr L γ a w h hF' hE) (by
    have := hK γ w (fun _ _ => rfl) (hF L γ hF') (by rw [hR]; exact hE)
    rwa [hv γ] at this)⟩
/-- One that makes a row. -/
theorem sp_alloc (cs : Array Value) (t : TypeId) (hg : o.guard = none) (hr : ∀ (a : Act) (w : World), (execOp a.eval o).run P w = .ok (.value (.pointer (some ⟨w.heap.size, 0, none⟩))) (w.alloc (.cells cs t)))
    (h : ∀ L γ a (n : Nat), Rd ops sz (val γ) L a0 a i o → Fc L γ → ∃ γ', val γ' i = .pointer (some ⟨n, 0, none⟩) ∧ (∀ k, L k = true → val γ' k = val γ k) ∧ Fc (one L i) γ' ∧ (⟨n, cs, t⟩ :: rows L γ).Perm (rows (one L i) γ')) : Sp P ops sz Q val rows Fc a0 w0 i o :=
  ⟨fun L γ a w hd hF hE K hK => hd.go hg (by
    obtain ⟨γ', h1, h2, h3, h4⟩ := h L γ a w.heap.size hd hF
    rw [hr a w]
    show K (a.put o.dst _) _
    rw [← h1]
    exact hK γ' _ h2 h3 (Env.perm (hE.alloc cs t) h4))⟩
/-- A call that hands back rows of its own. -/
theorem sp_open {ι : Type} (f : FuncId) (V : ι → Value) (N : ι → List Rw) (φ : ι → Prop) (hg : o.guard = none)
    (h : ∀ L γ a w, Rd ops sz (val γ) L a0 a i o → Fc L γ → Env w0 w (rows L γ) → ∃ args, (execOp a.eval o).run P w = .ok (.enter f args) w ∧ (Calls P f args w fun e w' => ∃ z, φ z ∧ e = .returned (V z) ∧ Env w w' (N z)) ∧
      ∀ z, φ z → ∃ γ', val γ' i = V z ∧ (∀ k, L k = true → val γ' k = val γ k) ∧ Fc (one L i) γ' ∧ (N z ++ rows L γ).Perm (rows (one L i) γ')) : Sp P ops sz Q val rows Fc a0 w0 i o :=
  ⟨fun L γ a w hd hF hE K hK => hd.go hg (by
    obtain ⟨args, h1, h2, h3⟩ := h L γ a w hd hF hE
    rw [h1]
    refine h2.mono ?_
    rintro e w' ⟨z, hz, rfl, hE'⟩
    obtain ⟨γ', k1, k2, k3, k4⟩ := h3 z hz
    show K (a.put o.dst _) _
    rw [← k1]
    exact hK γ' _ k2 k3 (Env.perm (Env.join hE hE') k4))⟩
/-- A call that makes nothing, told by what was made. -/
theorem sp_callg (f : FuncId) (v : Γ → Value) (hg : o.guard = none) (hv : ∀ γ, val γ i = v γ) (hF : ∀ L γ, Fc L γ → Fc (one L i) γ) (hR : ∀ L γ, rows (one L i) γ = rows L γ)
    (h : ∀ L γ a w, Rd ops sz (val γ) L a0 a i o → Fc L γ → Env w0 w (rows L γ) → ∃ args, (execOp a.eval o).run P w = .ok (.enter f args) w ∧ (Calls P f args w fun e w' => e = .returned (v γ) ∧ Below w.heap.size w w')) : Sp P ops sz Q val rows Fc a0 w0 i o :=
  ⟨fun L γ a w hd hF' hE K hK => hd.go hg (by
    obtain ⟨args, h1, h2⟩ := h L γ a w hd hF' hE
    rw [h1]
    refine h2.mono ?_
    rintro e w' ⟨rfl, hb⟩
    show K (a.put o.dst _) _
    rw [← hv γ]
    exact hK γ _ (fun _ _ => rfl) (hF L γ hF') (by rw [hR]; exact hE.call hb))⟩
/-- The store of a whole row into one that was made. -/
theorem sp_put (ty : TypeId) (x y : Operand) (hg : o.guard = none) (ho : o.op = .store ty x y)
    (h : ∀ L γ a, Rd ops sz (val γ) L a0 a i o → Fc L γ → ∃ (g : Nat) (cs old : Array Value) (t : TypeId) (rest : List Rw), a.eval x = .pointer (some ⟨g, 0, none⟩) ∧ a.eval y = .agg cs ∧ (P.info? ty).map (·.size) = some cs.size ∧ old.size = cs.size ∧ cs.all (·.oneCell') = true ∧
      (rows L γ).Perm (⟨g, old, t⟩ :: rest) ∧ val γ i = undef ∧ Fc (one L i) γ ∧ (⟨g, cs, t⟩ :: rest).Perm (rows (one L i) γ)) : Sp P ops sz Q val rows Fc a0 w0 i o :=
  ⟨fun L γ a w hd hF hE K hK => hd.go hg (by
    obtain ⟨g, cs, old, t, rest, h1, h2, h3, h4, h5, h6, h7, h8, h9⟩ := h L γ a hd hF
    have hE2 := Env.perm hE h6
    refine wp_store_row ty x y ho g cs h1 h2 t old (hE2.rowAt (i := 0) rfl) h3 h4 h5 ?_
    have hE3 := Env.perm (hE2.setRow (i := 0) rfl cs) h9
    have := hK γ _ (fun _ _ => rfl) h8 hE3
    rwa [h7] at this)⟩
theorem pf1 (A N R : List Rw) : (A ++ (N ++ R)).Perm (A ++ (R ++ N)) := List.Perm.append_left _ List.perm_append_comm
theorem pf2 (A N2 N1 R : List Rw) : (A ++ (N2 ++ (N1 ++ R))).Perm (A ++ (R ++ (N1 ++ N2))) := List.Perm.append_left _ (List.perm_append_comm.trans (by rw [← List.append_assoc]; exact List.perm_append_comm.append_right N2))
theorem pin0 (N A : List Rw) : (N ++ A).Perm (N ++ A) := List.Perm.refl _
theorem pin1 (N A B : List Rw) : (N ++ (A ++ B)).Perm (A ++ (N ++ B)) := by
  rw [← List.append_assoc, ← List.append_assoc]
  exact List.perm_append_comm.append_right B
theorem run_buildg {w : World} {o : Oper} {a : Act} {t : TypeId} {ps : Array (Nat × Operand)} {vs : Array (Nat × Value)} {cells : Array Value} (ho : o.op = .build t ps) (he : ps.map (fun p => (p.1, a.eval p.2)) = vs) (hb : P.built t vs.toList = some cells) : (execOp a.eval o).run P w = .ok (.value (.agg cells)) w := by
  have h := run_build (P := P) w t vs cells hb
  subst he
  unfold execOp
  simp only [ho, Sem.run_bind]
  simp [h]
theorem run_moveg {w : World} {o : Oper} {a : Act} {x : Operand} {v : Value} (ho : o.op = .move x) (hx : a.eval x = v) : (execOp a.eval o).run P w = .ok (.value v) w := by
  unfold execOp
  simp [ho, hx]
theorem run_assigng {w : World} {o : Oper} {a : Act} {x : Operand} {v : Value} (ho : o.op = .assign x) (hx : a.eval x = v) : (execOp a.eval o).run P w = .ok (.value v) w := by
  unfold execOp
  simp [ho, hx]
theorem run_extractg {w : World} {o : Oper} {a : Act} {x : Operand} {k : Nat} {vs : Array Value} {v : Value} (ho : o.op = .extract x k) (hx : a.eval x = .tuple vs) (hk : vs[k]? = some v) : (execOp a.eval o).run P w = .ok (.value v) w := by
  unfold execOp
  simp only [ho, hx]
  simp [Instr.extract, hk]
theorem er_callg {o : Oper} {a : Act} {F : FuncId} {xs : Array Operand} {vs : Array Value} {ts : Array TypeId} (eg : Enters P F) (ho : o.op = .call { callee := .value (.func F), args := xs, argTypes := ts }) (hx : xs.map a.eval = vs) (w : World) :
    (execOp a.eval o).run P w = .ok (.enter F vs) w := by
  unfold execOp
  simp only [ho]
  have := eg vs w
  simp [resolve, Deferred.ofValue, Act.eval, invoke]
  have hx' : Array.map (fun x => a.eval x) xs = vs := hx
  simpa [hx'] using this
theorem we_perm {Q : Exit → Act → World → Prop} {e : Exit} {a : Act} {w0 : World} {R R' : List Rw} (hp : R.Perm R') (h : We Q e a w0 R') : We Q e a w0 R := ⟨fun w hE => h.run w (Env.perm hE hp)⟩
end
section
variable {P : Program} {a : Act} {w0 : World} {R : List Rw}
end
section
variable {P : Program} {o : Oper} {a : Act} {x y : Operand} {t ty : TypeId} {p : Option Addr} {xs : List Value} {w0 : World} {R : List Rw} {n : Nat}
end
end Go.Proofs.Ytbacchdkankioaa.Sfn
