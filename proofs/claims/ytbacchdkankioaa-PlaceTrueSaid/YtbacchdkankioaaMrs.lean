/-
  Package route: the order of two routes, with the world told exactly. No condition.
  slices.Sort and slices.Compact at []int64, slices.SortFunc at []route.Route under the program's order: what they leave. Condition: at most a million.
-/
import Derived.Test.YtbacchdkankioaaMra
import Derived.Sort.Grow
import Derived.Lib.Walk
import Derived.Deep.LoopGhost
import Derived.Deep.Draws
import Derived.Deep.DeepCutAuto
import Derived.Shelf.SlGeneric
import Derived.Shelf.SlSortCmp.NoneTotal
import Derived.Shelf.SortM.Plain
import Derived.Shelf.SortM.SortNone
import Derived.Shelf.SlicesE.Compact
import Derived.Test.YtbacchdkankioaaMrt
namespace Go.Proofs.Ytbacchdkankioaa.Rcx
open Go.Shelf Go.RowKit Go.Lib Go.Sort
open Go.ChangeShapes Go.WideShapes Go.ChangeAt
open Arr Steady Sx Sw Sl Si Smu Sfn Re Vs Gr Tk Rt Rtm Rtk Rts Roua Roub
set_option linter.unusedVariables false
set_option linter.unusedSimpArgs false
set_option maxRecDepth 100000

set_option maxHeartbeats 2000000 in
theorem compare_exact (L M : List Int) (b1 o1 c1 b2 o2 c2 n : Nat) (w : World) (hn : n ≤ 140737488355328) (lx : L.length = n) (ly : M.length = n) (hc1 : ∀ k, k < n → w.cell? ⟨b1, o1 + k, none⟩ = some (.int .i64 L[k]!)) (hc2 : ∀ k, k < n → w.cell? ⟨b2, o2 + k, none⟩ = some (.int .i64 M[k]!)) :
    Calls Try.prog 57 #[.slice (some ⟨b1, o1, none⟩) n c1, .slice (some ⟨b2, o2, none⟩) n c2] w fun e w' => e = .returned (.int .i64 (cmpL L M)) ∧ w' = w := by
  go_enter Try.func57, Try.ntmps57
  go_wp2
  go_loopg [11] n (fun g s11 wr => ∃ k : Nat, k ≤ n ∧ n - k ≤ g ∧ s11 = .int .i64 k ∧ wr = w ∧ Aside (∀ j, j < k → L[j]! = M[j]!))
  case atStart => exact ⟨0, Nat.zero_le _, by omega, rfl, rfl, fun j hj => absurd hj (Nat.not_lt_zero _)⟩
  case round =>
    obtain ⟨k, hk, hg, rfl, rfl, A⟩ := hrel
    by_cases hlt : k < n
    · have g1 : wr.cell? ⟨b1, o1 + k, none⟩ = some (.int .i64 L[k]!) := hc1 k (by omega)
      have g2 : wr.cell? ⟨b2, o2 + k, none⟩ = some (.int .i64 M[k]!) := hc2 k (by omega)
      clear hc1 hc2
      generalize hxk : L[k]! = x at g1
      generalize hyk : M[k]! = y at g2
      have B : Aside (L[k]! = x ∧ M[k]! = y) := ⟨hxk, hyk⟩
      clear hxk hyk
      have hcon := fun W' => cmp_any x y W'
      obtain ⟨z, hz⟩ : ∃ z, z = cmpZ x y := ⟨_, rfl⟩
      have C : Aside (z = cmpZ x y) := hz
      rw [← hz] at hcon
      clear hz
      by_cases h0 : z = 0
      · subst h0
        go_wp2_with (go_at_call 58; refine (hcon _).mono ?_; rintro e w' ⟨rfl, rfl⟩)
        go_roundg (n - (k + 1))
        case measure => omega
        case rel =>
          refine ⟨k + 1, by omega, by omega, by go_num, (by first | rfl | trivial | go_num), (show Aside _ from fun j hj => ?_)⟩
          by_cases e : j = k
          · subst e
            rw [B.out.1, B.out.2]; exact cmpZ_zero.1 C.out.symm
          · exact A.out j (by omega)
      · go_wp2_with (go_at_call 58; refine (hcon _).mono ?_; rintro e w' ⟨rfl, rfl⟩)
        go_ret
        have e0 := cmpL_at (i := k) (by omega) (by omega) A.out (by rw [B.out.1, B.out.2, ← C.out]; exact h0)
        rw [B.out.1, B.out.2, ← C.out] at e0
        refine ⟨?_, rfl⟩
        rw [e0]
        rfl
    · have : k = n := by omega
      subst this
      clear hc1 hc2
      go_wp2
      go_ret
      refine ⟨?_, rfl⟩
      rw [cmpL_same (by omega) (fun j hj => A.out j (by omega))]
      rfl
set_option maxHeartbeats 2000000 in
theorem or_exact (x y : Int) (b c : Nat) (w : World) (h1 : w.cell? ⟨b, 0, none⟩ = some (.int .i64 x)) (h2 : w.cell? ⟨b, 1, none⟩ = some (.int .i64 y)) :
    Calls Try.prog 56 #[.slice (some ⟨b, 0, none⟩) 2 c] w fun e w' => e = .returned (.int .i64 (Roua.orZ x y)) ∧ w' = w := by
  go_enter Try.func56, Try.ntmps56
  go_wp2
  go_loopg [8] 2 (fun g s8 wr => ∃ k : Nat, k ≤ 2 ∧ 2 - k ≤ g ∧ s8 = .int .i64 k ∧ wr = w ∧ Aside ((0 < k → x = 0) ∧ (1 < k → y = 0)))
  case atStart => exact ⟨0, by omega, by omega, rfl, rfl, ⟨fun h => absurd h (by omega), fun h => absurd h (by omega)⟩⟩
  case round =>
    obtain ⟨k, hk, hg, rfl, rfl, A⟩ := hrel
    rcases (show k = 0 ∨ k = 1 ∨ k = 2 by omega) with rfl | rfl | rfl
    · by_cases hx : x = 0
      · subst hx
        go_wp2
        go_roundg 1
        case measure => omega
        case rel => exact ⟨1, by omega, by omega, (by first | rfl | trivial | go_num), (by first | rfl | trivial | go_num), ⟨fun _ => (by first | rfl | trivial), fun h => absurd h (by omega)⟩⟩
      · go_wp2
        go_ret
        refine ⟨?_, rfl⟩
        unfold Roua.orZ
        rw [if_pos hx]
        rfl
    · have hx := A.out.1 (by omega)
      subst hx
      by_cases hy : y = 0
      · subst hy
        go_wp2
        go_roundg 0
        case measure => omega
        case rel => exact ⟨2, by omega, by omega, (by first | rfl | trivial | go_num), (by first | rfl | trivial | go_num), ⟨fun _ => (by first | rfl | trivial), fun _ => (by first | rfl | trivial)⟩⟩
      · go_wp2
        go_ret
        exact ⟨rfl, rfl⟩
    · have hx := A.out.1 (by omega)
      have hy := A.out.2 (by omega)
      subst hx hy
      go_wp2
      go_ret
      exact ⟨rfl, rfl⟩
/-! ### A region that draws its order, which makes one row; the world told exactly -/
theorem wp_exact {P : Program} {Q : Exit → Act → World → Prop} {id : Nat} {l : List Oper} {a : Act} {W : World} (val : Nat → Value) (m : Nat) (lit : Obj) (sz : Nat) (F : Act)
    (hm : P.follows .mixedOrders = true) (hz : a.tmps.size = sz) (hB : checkB l.toArray late none sz = true) (hml : m < l.length) (ha : fr l.toArray val a l.length = F)
    (step : ∀ i o, l[i]? = some o → i ≠ m → ∀ L a' w', Rd l.toArray sz val L a a' i o → w' = (if L m = true then W.drew.alloc lit else W.drew) → o.guard = none ∧ ((execOp a'.eval o).run P w' = .ok (.value (val i)) w' ∨ ∃ f args, (execOp a'.eval o).run P w' = .ok (.enter f args) w' ∧ Calls P f args w' fun e w'' => e = .returned (val i) ∧ w'' = w'))
    (make : ∀ o, l[m]? = some o → ∀ L a', Rd l.toArray sz val L a a' m o → o.guard = none ∧ (execOp a'.eval o).run P W.drew = .ok (.value (val m)) (W.drew.alloc lit))
    (hfin : Q .normal F (W.drew.alloc lit)) : (Code.region id l.toArray true).wp P Q a W := by
  refine wp_region_any hm (wpAny_inv (Γ := Unit) (sz := sz) (val := fun _ => val) (Inv := fun L _ w => w = if L m = true then W.drew.alloc lit else W.drew) (a0 := a) hB hz ?_ ?_ _ _ () a W.drew (by simp) ?_ ?_ ?_ ?_)
  · rintro i o L ⟨⟩ a' w' h hI K hK
    by_cases hi : i = m
    · subst hi
      have hoff : L i = false := h.off
      simp only [hoff, Bool.false_eq_true, if_false] at hI
      subst hI
      obtain ⟨hg, hr⟩ := make o (by simpa using h.op) L a' h
      refine h.go hg ?_
      rw [hr]
      exact hK () _ (fun _ _ => rfl) (by simp only [Si.one, if_true])
    · obtain ⟨hg, hs⟩ := step i o (by simpa using h.op) hi L a' w' h hI
      have e : Si.one L i m = L m := by simp only [Si.one]; rw [if_neg (fun e => hi e.symm)]
      refine h.go hg ?_
      rcases hs with hs | ⟨f, args, hs, hc⟩
      · rw [hs]
        exact hK () _ (fun _ _ => rfl) (by rw [e]; exact hI)
      · rw [hs]
        refine hc.mono ?_
        rintro k w'' ⟨rfl, rfl⟩
        exact hK () _ (fun _ _ => rfl) (by rw [e]; exact hI)
  · rintro ⟨⟩ a' w' hst hI
    rw [fr_of_st hB hz hst]
    have e : l.toArray.size = l.length := by simp
    rw [e] at hI ⊢
    have e2 : decide (m < l.length) = true := decide_eq_true hml
    simp only [e2, if_true] at hI
    rw [ha, hI]
    exact hfin
  · have : ∀ n, (List.range n).countP (fun i => !(Array.replicate l.toArray.size false).getD i false) ≤ n := fun n => by
      have := List.countP_le_length (p := fun i => !(Array.replicate l.toArray.size false).getD i false) (l := List.range n)
      simpa using this
    exact this _
  · exact (St.start _ a).congr (fun k => rep_getD _ k)
  · have e : (fun k => (Array.replicate l.toArray.size false).getD k false) = fun _ => false := funext (rep_getD _)
    rw [e]
    simp only [Bool.false_eq_true, if_false]
  · intro j o _ hj
    have e : ∀ k, (Array.replicate l.toArray.size false).getD k false = false := fun k => rep_getD _ k
    simp only [e j] at hj
    cases hj
theorem cells_pads {w : World} {g : Nat} {r : Ro} {t : TypeId} {fr : Nat × Nat} (h : w.heap[g]? = some (.cells #[.int .i64 (r.length : Int), .int .i64 (pad r 0), .int .i64 (pad r 1), .int .i64 (pad r 2), .int .i64 (pad r 3), .int .i64 (pad r 4), .int .i64 (pad r 5), .int .i64 (pad r 6), .int .i64 (pad r 7), .int .i64 (pad r 8), .int .i64 (pad r 9), .int .i64 (pad r 10), .int .i64 (pad r 11)] t fr)) : ∀ k, k < 12 → w.cell? ⟨g, 1 + k, none⟩ = some (.int .i64 ([pad r 0, pad r 1, pad r 2, pad r 3, pad r 4, pad r 5, pad r 6, pad r 7, pad r 8, pad r 9, pad r 10, pad r 11])[k]!) := by
  intro k hk
  rw [cell_of_row w g (1 + k) _ _ _ h]
  rcases (show k = 0 ∨ k = 1 ∨ k = 2 ∨ k = 3 ∨ k = 4 ∨ k = 5 ∨ k = 6 ∨ k = 7 ∨ k = 8 ∨ k = 9 ∨ k = 10 ∨ k = 11 by omega) with rfl | rfl | rfl | rfl | rfl | rfl | rfl | rfl | rfl | rfl | rfl | rfl <;> rfl
set_option maxHeartbeats 4000000 in
theorem compare_grown (r s : Ro) (w : World) :
    Calls Try.prog 45 #[.agg #[.int .i64 (r.length : Int), .int .i64 (pad r 0), .int .i64 (pad r 1), .int .i64 (pad r 2), .int .i64 (pad r 3), .int .i64 (pad r 4), .int .i64 (pad r 5), .int .i64 (pad r 6), .int .i64 (pad r 7), .int .i64 (pad r 8), .int .i64 (pad r 9), .int .i64 (pad r 10), .int .i64 (pad r 11)], .agg #[.int .i64 (s.length : Int), .int .i64 (pad s 0), .int .i64 (pad s 1), .int .i64 (pad s 2), .int .i64 (pad s 3), .int .i64 (pad s 4), .int .i64 (pad s 5), .int .i64 (pad s 6), .int .i64 (pad s 7), .int .i64 (pad s 8), .int .i64 (pad s 9), .int .i64 (pad s 10), .int .i64 (pad s 11)]] w fun e w' => e = .returned (.int .i64 (cfR r s)) ∧ ∃ q os', w' = grow (w.drewN q) os' := by
  go_enter Try.func45, Try.ntmps45
  go_upto_region 1 with (fail)
  obtain ⟨W, hW⟩ : ∃ W, W = (w.alloc (Obj.cells #[.int .i64 (r.length : Int), .int .i64 (pad r 0), .int .i64 (pad r 1), .int .i64 (pad r 2), .int .i64 (pad r 3), .int .i64 (pad r 4), .int .i64 (pad r 5), .int .i64 (pad r 6), .int .i64 (pad r 7), .int .i64 (pad r 8), .int .i64 (pad r 9), .int .i64 (pad r 10), .int .i64 (pad r 11)] 92)).alloc (Obj.cells #[.int .i64 (s.length : Int), .int .i64 (pad s 0), .int .i64 (pad s 1), .int .i64 (pad s 2), .int .i64 (pad s 3), .int .i64 (pad s 4), .int .i64 (pad s 5), .int .i64 (pad s 6), .int .i64 (pad s 7), .int .i64 (pad s 8), .int .i64 (pad s 9), .int .i64 (pad s 10), .int .i64 (pad s 11)] 92) := ⟨_, rfl⟩
  rw [← hW]
  have h2 : W.heap[w.heap.size]? = some (.cells #[.int .i64 (r.length : Int), .int .i64 (pad r 0), .int .i64 (pad r 1), .int .i64 (pad r 2), .int .i64 (pad r 3), .int .i64 (pad r 4), .int .i64 (pad r 5), .int .i64 (pad r 6), .int .i64 (pad r 7), .int .i64 (pad r 8), .int .i64 (pad r 9), .int .i64 (pad r 10), .int .i64 (pad r 11)] 92 (0, 0)) := by rw [hW]; exact row_alloc (heap_alloc_new w _) _
  have h3 : W.heap[w.heap.size + 1]? = some (.cells #[.int .i64 (s.length : Int), .int .i64 (pad s 0), .int .i64 (pad s 1), .int .i64 (pad s 2), .int .i64 (pad s 3), .int .i64 (pad s 4), .int .i64 (pad s 5), .int .i64 (pad s 6), .int .i64 (pad s 7), .int .i64 (pad s 8), .int .i64 (pad s 9), .int .i64 (pad s 10), .int .i64 (pad s 11)] 92 (0, 0)) := by
    rw [hW]
    have := heap_alloc_new (w.alloc (Obj.cells #[.int .i64 (r.length : Int), .int .i64 (pad r 0), .int .i64 (pad r 1), .int .i64 (pad r 2), .int .i64 (pad r 3), .int .i64 (pad r 4), .int .i64 (pad r 5), .int .i64 (pad r 6), .int .i64 (pad r 7), .int .i64 (pad r 8), .int .i64 (pad r 9), .int .i64 (pad r 10), .int .i64 (pad r 11)] 92)) (Obj.cells #[.int .i64 (s.length : Int), .int .i64 (pad s 0), .int .i64 (pad s 1), .int .i64 (pad s 2), .int .i64 (pad s 3), .int .i64 (pad s 4), .int .i64 (pad s 5), .int .i64 (pad s 6), .int .i64 (pad s 7), .int .i64 (pad s 8), .int .i64 (pad s 9), .int .i64 (pad s 10), .int .i64 (pad s 11)] 92)
    simpa using this
  have hG : ∃ q os', W.drew = grow (w.drewN q) os' := ⟨1, _, by rw [hW, alloc_eq_grow, alloc_eq_grow, grow_grow]; rfl⟩
  generalize w.heap.size + 1 = g3 at h3 ⊢
  generalize w.heap.size = g2 at h2 ⊢
  clear hW
  obtain ⟨g4, h4⟩ : ∃ g, g = W.heap.size := ⟨_, rfl⟩
  refine wp_exact (fun j9 => [.pointer (some ⟨g2, 1, none⟩), .slice (some ⟨g2, 1, none⟩) 12 12, .pointer (some ⟨g3, 1, none⟩), .slice (some ⟨g3, 1, none⟩) 12 12, .int .i64 (cmpL [pad r 0, pad r 1, pad r 2, pad r 3, pad r 4, pad r 5, pad r 6, pad r 7, pad r 8, pad r 9, pad r 10, pad r 11] [pad s 0, pad s 1, pad s 2, pad s 3, pad s 4, pad s 5, pad s 6, pad s 7, pad s 8, pad s 9, pad s 10, pad s 11]), .pointer (some ⟨g2, 0, none⟩), .int .i64 (r.length : Int), .pointer (some ⟨g3, 0, none⟩), .int .i64 (s.length : Int), .int .i64 (cmpZ (r.length : Int) (s.length : Int)), .slice (some ⟨g4, 0, none⟩) 2 2, .int .i64 (cfR r s), .int .i64 (cfR r s)].getD j9 undef) 10 (.cells #[.int .i64 (cmpL [pad r 0, pad r 1, pad r 2, pad r 3, pad r 4, pad r 5, pad r 6, pad r 7, pad r 8, pad r 9, pad r 10, pad r 11] [pad s 0, pad s 1, pad s 2, pad s 3, pad s 4, pad s 5, pad s 6, pad s 7, pad s 8, pad s 9, pad s 10, pad s 11]), .int .i64 (cmpZ (r.length : Int) (s.length : Int))] 3) 17 ({ tmps := #[.agg #[.int .i64 (r.length : Int), .int .i64 (pad r 0), .int .i64 (pad r 1), .int .i64 (pad r 2), .int .i64 (pad r 3), .int .i64 (pad r 4), .int .i64 (pad r 5), .int .i64 (pad r 6), .int .i64 (pad r 7), .int .i64 (pad r 8), .int .i64 (pad r 9), .int .i64 (pad r 10), .int .i64 (pad r 11)], .agg #[.int .i64 (s.length : Int), .int .i64 (pad s 0), .int .i64 (pad s 1), .int .i64 (pad s 2), .int .i64 (pad s 3), .int .i64 (pad s 4), .int .i64 (pad s 5), .int .i64 (pad s 6), .int .i64 (pad s 7), .int .i64 (pad s 8), .int .i64 (pad s 9), .int .i64 (pad s 10), .int .i64 (pad s 11)], .pointer (some ⟨g2, 0, none⟩), .pointer (some ⟨g3, 0, none⟩), .int .i64 (cfR r s), .pointer (some ⟨g2, 1, none⟩), .slice (some ⟨g2, 1, none⟩) 12 12, .pointer (some ⟨g3, 1, none⟩), .slice (some ⟨g3, 1, none⟩) 12 12, .int .i64 (cmpL [pad r 0, pad r 1, pad r 2, pad r 3, pad r 4, pad r 5, pad r 6, pad r 7, pad r 8, pad r 9, pad r 10, pad r 11] [pad s 0, pad s 1, pad s 2, pad s 3, pad s 4, pad s 5, pad s 6, pad s 7, pad s 8, pad s 9, pad s 10, pad s 11]), .pointer (some ⟨g2, 0, none⟩), .int .i64 (r.length : Int), .pointer (some ⟨g3, 0, none⟩), .int .i64 (s.length : Int), .int .i64 (cmpZ (r.length : Int) (s.length : Int)), .slice (some ⟨g4, 0, none⟩) 2 2, .int .i64 (cfR r s)], defers := [] } : Act) (by kernel_rfl) rfl (by kernel_rfl) (by decide) (by kernel_rfl) ?_ ?_ ?_
  · intro i o ho hne L a9 w9 h9 hw
    have hr2 : w9.heap[g2]? = some (.cells #[.int .i64 (r.length : Int), .int .i64 (pad r 0), .int .i64 (pad r 1), .int .i64 (pad r 2), .int .i64 (pad r 3), .int .i64 (pad r 4), .int .i64 (pad r 5), .int .i64 (pad r 6), .int .i64 (pad r 7), .int .i64 (pad r 8), .int .i64 (pad r 9), .int .i64 (pad r 10), .int .i64 (pad r 11)] 92 (0, 0)) := by
      rw [hw]; split
      · exact row_alloc h2 _
      · exact h2
    have hr3 : w9.heap[g3]? = some (.cells #[.int .i64 (s.length : Int), .int .i64 (pad s 0), .int .i64 (pad s 1), .int .i64 (pad s 2), .int .i64 (pad s 3), .int .i64 (pad s 4), .int .i64 (pad s 5), .int .i64 (pad s 6), .int .i64 (pad s 7), .int .i64 (pad s 8), .int .i64 (pad s 9), .int .i64 (pad s 10), .int .i64 (pad s 11)] 92 (0, 0)) := by
      rw [hw]; split
      · exact row_alloc h3 _
      · exact h3
    have hr4 : L 10 = true → w9.heap[g4]? = some (.cells #[.int .i64 (cmpL [pad r 0, pad r 1, pad r 2, pad r 3, pad r 4, pad r 5, pad r 6, pad r 7, pad r 8, pad r 9, pad r 10, pad r 11] [pad s 0, pad s 1, pad s 2, pad s 3, pad s 4, pad s 5, pad s 6, pad s 7, pad s 8, pad s 9, pad s 10, pad s 11]), .int .i64 (cmpZ (r.length : Int) (s.length : Int))] 3) := fun hl => by
      rw [hw, if_pos hl, h4]
      exact heap_alloc_new W.drew _
    have hi : i < 13 := (List.getElem?_eq_some_iff.1 ho).1
    rcases (show i = 0 ∨ i = 1 ∨ i = 2 ∨ i = 3 ∨ i = 4 ∨ i = 5 ∨ i = 6 ∨ i = 7 ∨ i = 8 ∨ i = 9 ∨ i = 10 ∨ i = 11 ∨ i = 12 by omega) with rfl | rfl | rfl | rfl | rfl | rfl | rfl | rfl | rfl | rfl | rfl | rfl | rfl
    · obtain rfl := Option.some.inj ho
      exact ⟨rfl, .inl (run_fieldAddr (f := 1) (off := 0) (d := 1) (z := 11) rfl (h9.out (by kernel_rfl) rfl) Try.underlying92 rfl rfl (by kernel_rfl) w9)⟩
    · obtain rfl := Option.some.inj ho
      exact ⟨rfl, .inl (er_arrall (z := 1) rfl (h9.tmp 0 rfl (h9.dep (by kernel_rfl))) Try.underlying90 (by kernel_rfl) w9)⟩
    · obtain rfl := Option.some.inj ho
      exact ⟨rfl, .inl (run_fieldAddr (f := 1) (off := 0) (d := 1) (z := 11) rfl (h9.out (by kernel_rfl) rfl) Try.underlying92 rfl rfl (by kernel_rfl) w9)⟩
    · obtain rfl := Option.some.inj ho
      exact ⟨rfl, .inl (er_arrall (z := 1) rfl (h9.tmp 2 rfl (h9.dep (by kernel_rfl))) Try.underlying90 (by kernel_rfl) w9)⟩
    · obtain rfl := Option.some.inj ho
      have e0 : a9.eval (.tmp 6) = .slice (some ⟨g2, 1, none⟩) 12 12 := (h9.tmp 1 rfl (h9.dep (by kernel_rfl)))
      have e1 : a9.eval (.tmp 8) = .slice (some ⟨g3, 1, none⟩) 12 12 := (h9.tmp 3 rfl (h9.dep (by kernel_rfl)))
      exact ⟨rfl, .inr ⟨57, #[.slice (some ⟨g2, 1, none⟩) 12 12, .slice (some ⟨g3, 1, none⟩) 12 12], er_callg (enters_of Try.func57 (by kernel_rfl) rfl) rfl (by simp only [List.map_toArray, List.map_cons, List.map_nil, e0, e1]) w9, compare_exact [pad r 0, pad r 1, pad r 2, pad r 3, pad r 4, pad r 5, pad r 6, pad r 7, pad r 8, pad r 9, pad r 10, pad r 11] [pad s 0, pad s 1, pad s 2, pad s 3, pad s 4, pad s 5, pad s 6, pad s 7, pad s 8, pad s 9, pad s 10, pad s 11] g2 1 12 g3 1 12 12 w9 (by decide) rfl rfl (cells_pads hr2) (cells_pads hr3)⟩⟩
    · obtain rfl := Option.some.inj ho
      exact ⟨rfl, .inl (run_fieldAddr (f := 0) (off := 0) (d := 0) (z := 0) rfl (h9.out (by kernel_rfl) rfl) Try.underlying92 rfl rfl (by kernel_rfl) w9)⟩
    · obtain rfl := Option.some.inj ho
      exact ⟨rfl, .inl (load_cell hr2 rfl rfl (h9.tmp 5 rfl (h9.dep (by kernel_rfl))) Try.isAgg3)⟩
    · obtain rfl := Option.some.inj ho
      exact ⟨rfl, .inl (run_fieldAddr (f := 0) (off := 0) (d := 0) (z := 0) rfl (h9.out (by kernel_rfl) rfl) Try.underlying92 rfl rfl (by kernel_rfl) w9)⟩
    · obtain rfl := Option.some.inj ho
      exact ⟨rfl, .inl (load_cell hr3 rfl rfl (h9.tmp 7 rfl (h9.dep (by kernel_rfl))) Try.isAgg3)⟩
    · obtain rfl := Option.some.inj ho
      have e0 : a9.eval (.tmp 11) = .int .i64 (r.length : Int) := (h9.tmp 6 rfl (h9.dep (by kernel_rfl)))
      have e1 : a9.eval (.tmp 13) = .int .i64 (s.length : Int) := (h9.tmp 8 rfl (h9.dep (by kernel_rfl)))
      exact ⟨rfl, .inr ⟨58, #[.int .i64 (r.length : Int), .int .i64 (s.length : Int)], er_callg (enters_of Try.func58 (by kernel_rfl) rfl) rfl (by simp only [List.map_toArray, List.map_cons, List.map_nil, e0, e1]) w9, cmp_any _ _ w9⟩⟩
    · exact absurd rfl hne
    · obtain rfl := Option.some.inj ho
      have dl10 : L 10 = true := h9.dep (by kernel_rfl)
      have hr := hr4 dl10
      have e0 : a9.eval (.tmp 15) = .slice (some ⟨g4, 0, none⟩) 2 2 := (h9.tmp 10 rfl (h9.dep (by kernel_rfl)))
      exact ⟨rfl, .inr ⟨56, #[.slice (some ⟨g4, 0, none⟩) 2 2], er_callg (enters_of Try.func56 (by kernel_rfl) rfl) rfl (by simp only [List.map_toArray, List.map_cons, List.map_nil, e0]) w9, or_exact (cmpL [pad r 0, pad r 1, pad r 2, pad r 3, pad r 4, pad r 5, pad r 6, pad r 7, pad r 8, pad r 9, pad r 10, pad r 11] [pad s 0, pad s 1, pad s 2, pad s 3, pad s 4, pad s 5, pad s 6, pad s 7, pad s 8, pad s 9, pad s 10, pad s 11]) (cmpZ (r.length : Int) (s.length : Int)) g4 2 w9 ((cell_of_row w9 g4 0 _ _ _ hr).trans rfl) ((cell_of_row w9 g4 1 _ _ _ hr).trans rfl)⟩⟩
    · obtain rfl := Option.some.inj ho
      exact ⟨rfl, .inl (run_assigng (by rfl) (h9.tmp 11 rfl (h9.dep (by kernel_rfl))))⟩
  · intro o ho L a9 h9
    obtain rfl := Option.some.inj ho
    refine ⟨rfl, ?_⟩
    have e9 : W.drew.heap.size = g4 := h4.symm
    refine (run_lit2 (u := .int .i64 (cmpL [pad r 0, pad r 1, pad r 2, pad r 3, pad r 4, pad r 5, pad r 6, pad r 7, pad r 8, pad r 9, pad r 10, pad r 11] [pad s 0, pad s 1, pad s 2, pad s 3, pad s 4, pad s 5, pad s 6, pad s 7, pad s 8, pad s 9, pad s 10, pad s 11])) (v := .int .i64 (cmpZ (r.length : Int) (s.length : Int))) (z := .int .i64 0) rfl (h9.tmp 4 rfl (h9.dep (by kernel_rfl))) (h9.tmp 9 rfl (h9.dep (by kernel_rfl))) rfl rfl Try.underlying63 (by kernel_rfl) rfl W.drew).trans ?_
    rw [e9]
    rfl
  · go_wp2
    go_ret
    obtain ⟨q, os', hq⟩ := hG
    exact ⟨rfl, q, _, by rw [hq, alloc_eq_grow, grow_grow]⟩
end Go.Proofs.Ytbacchdkankioaa.Rcx
namespace Go.Proofs.Ytbacchdkankioaa.Rsrt
open Go.Shelf Go.RowKit Go.Lib Go.Sort
open Arr Steady Sx Sw Sl Vs Tk Rt Rtm Rtp Rtk Rts Roua Roub Rcx
set_option linter.unusedVariables false
set_option linter.unusedSimpArgs false
set_option maxRecDepth 100000

def sortR_ren : Go.Shelf.Ren := ⟨fun | 6 => 44 | 15 => 55 | 14 => 54 | 28 => 68 | 29 => 69 | 20 => 60 | 21 => 61 | 22 => 62 | 23 => 63 | 24 => 64 | 25 => 65 | 26 => 66 | 27 => 67 | 46 => 71 | 47 => 72 | 48 => 73 | 49 => 74 | 50 => 75 | 57 => 76 | n => n, fun | 22 => 34 | 24 => 92 | 25 => 113 | 3 => 3 | 39 => 118 | 0 => 0 | 53 => 138 | 55 => 140 | 4 => 4 | 46 => 131 | 45 => 130 | 50 => 135 | 5 => 5 | 9 => 9 | 66 => 142 | 70 => 146 | 76 => 148 | 77 => 76 | n => n, fun | n => n⟩
theorem sortR : Go.Proofs.SlLaysF0.n6 Try.prog sortR_ren := {
  mixed := by kernel_rfl
  f6 := ⟨Try.f44.name, by decide, Try.func44.trans (congrArg some (by kernel_rfl))⟩
  f14 := ⟨Try.f54.name, by decide, Try.func54.trans (congrArg some (by kernel_rfl))⟩
  f15 := Try.func55.trans (congrArg some (by kernel_rfl))
  f20 := ⟨Try.f60.name, by decide, Try.func60.trans (congrArg some (by kernel_rfl))⟩
  f21 := ⟨Try.f61.name, by decide, Try.func61.trans (congrArg some (by kernel_rfl))⟩
  f22 := ⟨Try.f62.name, by decide, Try.func62.trans (congrArg some (by kernel_rfl))⟩
  f23 := ⟨Try.f63.name, by decide, Try.func63.trans (congrArg some (by kernel_rfl))⟩
  f24 := ⟨Try.f64.name, by decide, Try.func64.trans (congrArg some (by kernel_rfl))⟩
  f25 := ⟨Try.f65.name, by decide, Try.func65.trans (congrArg some (by kernel_rfl))⟩
  f26 := ⟨Try.f66.name, by decide, Try.func66.trans (congrArg some (by kernel_rfl))⟩
  f27 := ⟨Try.f67.name, by decide, Try.func67.trans (congrArg some (by kernel_rfl))⟩
  f28 := Try.func68.trans (congrArg some (by kernel_rfl))
  f29 := Try.func69.trans (congrArg some (by kernel_rfl))
  f46 := ⟨Try.f71.name, by decide, Try.func71.trans (congrArg some (by kernel_rfl))⟩
  f47 := Try.func72.trans (congrArg some (by kernel_rfl))
  f48 := Try.func73.trans (congrArg some (by kernel_rfl))
  f49 := ⟨Try.f74.name, by decide, Try.func74.trans (congrArg some (by kernel_rfl))⟩
  f50 := ⟨Try.f75.name, by decide, Try.func75.trans (congrArg some (by kernel_rfl))⟩
  f57 := ⟨Try.f76.name, by decide, Try.func76.trans (congrArg some (by kernel_rfl))⟩
  t0 := Try.underlying0
  a0 := Try.isAgg0
  z0 := Try.sizeOf0
  v0 := Try.zeroValue0
  t3 := Try.underlying3
  a3 := Try.isAgg3
  z3 := Try.sizeOf3
  v3 := Try.zeroValue3
  t4 := Try.underlying4
  a4 := Try.isAgg4
  z4 := Try.sizeOf4
  v4 := Try.zeroValue4
  t5 := Try.underlying5
  a5 := Try.isAgg5
  z5 := Try.sizeOf5
  v5 := Try.zeroValue5
  t9 := Try.underlying9
  a9 := Try.isAgg9
  z9 := Try.sizeOf9
  v9 := Try.zeroValue9
  t22 := Try.underlying34
  a22 := Try.isAgg34
  z22 := Try.sizeOf34
  v22 := Try.zeroValue34
  t25 := Try.underlying113
  a25 := Try.isAgg113
  z25 := Try.sizeOf113
  v25 := Try.zeroValue113
  t39 := Try.underlying118
  a39 := Try.isAgg118
  z39 := Try.sizeOf118
  v39 := Try.zeroValue118
  t45 := Try.underlying130
  a45 := Try.isAgg130
  z45 := Try.sizeOf130
  v45 := Try.zeroValue130
  t46 := Try.underlying131
  a46 := Try.isAgg131
  z46 := Try.sizeOf131
  v46 := Try.zeroValue131
  t50 := Try.underlying135
  a50 := Try.isAgg135
  z50 := Try.sizeOf135
  v50 := Try.zeroValue135
  t53 := Try.underlying138
  a53 := Try.isAgg138
  z53 := Try.sizeOf138
  v53 := Try.zeroValue138
  t55 := Try.underlying140
  a55 := Try.isAgg140
  z55 := Try.sizeOf140
  v55 := Try.zeroValue140
  t66 := Try.underlying142
  a66 := Try.isAgg142
  z66 := Try.sizeOf142
  v66 := Try.zeroValue142
  t70 := Try.underlying146
  a70 := Try.isAgg146
  z70 := Try.sizeOf146
  v70 := Try.zeroValue146
  t76 := Try.underlying148
  a76 := Try.isAgg148
  z76 := Try.sizeOf148
  v76 := Try.zeroValue148
  t77 := Try.underlying76
  a77 := Try.isAgg76
  z77 := Try.sizeOf76
  v77 := Try.zeroValue76 }

/-! ### A row put anew -/
section
variable {w0 w : World} {B : List Rw} {e : TypeId}
theorem put_row {g cap n k : Nat} {cur F : Array Value} {xs : List Value} (hE : Env w0 w ((Own.row g cap cur).rows e ++ B)) (hs : (Own.row g cap cur).Has k n xs) (hF : F.size = n * k) (m : Nat) (os : Array Obj) :
    (Own.row g cap (putCells id 0 F cur)).Has k n F.toList ∧ Env w0 (grow (mapBlock (Sort.ahead w m) g (putCells id 0 F)) os) ((Own.row g cap (putCells id 0 F cur)).rows e ++ B) := by
  obtain ⟨hl, hn, hc, hz, ht⟩ := hs
  have hrow := Own.at (A := []) hE rfl (s := .row g cap cur) rfl
  have hlt := lt_of_row hrow
  have hsz : (putCells id 0 F cur).size = cur.size := by simp [putCells]
  have hle : n * k ≤ cap * k := Nat.mul_le_mul_right k hn
  refine ⟨⟨by rw [Array.length_toList, hF], hn, hc, by rw [hsz, hz], ?_⟩, (Env.own_step (A := []) (s := .row g cap cur) (s' := .row g cap (putCells id 0 F cur)) (w' := grow (mapBlock (Sort.ahead w m) g (putCells id 0 F)) os) hE ⟨rfl, rfl, rfl, ?_, fun k hk hne => ?_⟩ (fun g' c' k' hh => ?_))⟩
  · apply List.ext_getElem?
    intro t
    rw [List.getElem?_take]
    split
    · rename_i htl
      rw [Array.getElem?_toList, Array.getElem?_toList]
      have h1 : t < F.size := by rw [hF]; exact htl
      simp only [putCells, Array.getElem?_mapIdx]
      rw [Array.getElem?_eq_getElem (show t < cur.size by omega), Option.map_some, if_pos ⟨by omega, by omega⟩, Array.getElem?_eq_getElem h1, Nat.sub_zero, getElem!_pos _ t h1]
      rfl
    · rename_i htl
      rw [List.getElem?_eq_none (by rw [Array.length_toList, hF]; omega)]
  · show w.heap.size ≤ ((((Sort.ahead w m).heap.modify g _) ++ os)).size
    simp only [Array.size_append, Array.size_modify]
    exact Nat.le_add_right _ _
  · have hgk : g ≠ k := fun e => hne (by rw [e]; rfl)
    show (((Sort.ahead w m).heap.modify g _) ++ os)[k]? = _
    rw [Array.getElem?_append_left (by simpa using hk), Array.getElem?_modify, if_neg hgk]
    rfl
  · cases hh
    refine ⟨?_, .inl ⟨_, _, rfl⟩⟩
    show (((Sort.ahead w m).heap.modify g _) ++ os)[g]? = _
    rw [Array.getElem?_append_left (by simpa using hlt), Array.getElem?_modify, if_pos rfl]
    show Option.map _ (w.heap[g]?) = _
    rw [hrow]
    rfl
theorem own_cell {g cap n k : Nat} {cur : Array Value} {xs : List Value} (hE : Env w0 w ((Own.row g cap cur).rows e ++ B)) (hs : (Own.row g cap cur).Has k n xs) {j : Nat} {u : Value} (hj : xs[j]? = some u) : w.cell? ⟨g, j, Option.none⟩ = some u ∧ w.frozen? ⟨g, j, Option.none⟩ = false := by
  have hrow := Own.at (A := []) hE rfl (s := .row g cap cur) rfl
  obtain ⟨b, hb, hcell⟩ := sl_own [] B hs (R := (Own.row g cap cur).rows e ++ B) rfl w hE j u hj
  cases hb
  have hadd : (⟨g, 0, Option.none⟩ : Addr).add j = ⟨g, j, Option.none⟩ := by unfold Addr.add; split <;> simp_all
  rw [hadd] at hcell
  exact ⟨hcell, frozen_of_row w g j cur e hrow⟩
end
/-! ### Sorted, each once: no program -/
/-! ### Routes in order -/
theorem l12_key {r : Ro} {i : Nat} (h : i < 12) : ([pad r 0, pad r 1, pad r 2, pad r 3, pad r 4, pad r 5, pad r 6, pad r 7, pad r 8, pad r 9, pad r 10, pad r 11] : List Int)[i]! = key r i := by
  unfold key
  rw [if_pos h]
  rcases (show i = 0 ∨ i = 1 ∨ i = 2 ∨ i = 3 ∨ i = 4 ∨ i = 5 ∨ i = 6 ∨ i = 7 ∨ i = 8 ∨ i = 9 ∨ i = 10 ∨ i = 11 by omega) with rfl | rfl | rfl | rfl | rfl | rfl | rfl | rfl | rfl | rfl | rfl | rfl <;> rfl
theorem cf_at {a b : Ro} {i : Nat} (hi : i < 13) (h : ∀ j, j < i → key a j = key b j) (hne : key a i ≠ key b i) : cfR a b = cmpZ (key a i) (key b i) := by
  unfold cfR
  by_cases h12 : i < 12
  · have hz : cmpZ (key a i) (key b i) ≠ 0 := fun k => hne (cmpZ_zero.1 k)
    rw [cmpL_at (i := i) (by simpa using h12) (by simpa using h12) (fun j hj => by rw [l12_key (by omega), l12_key (by omega)]; exact h j hj) (by rw [l12_key h12, l12_key h12]; exact hz), l12_key h12, l12_key h12]
    unfold Roua.orZ
    rw [if_pos hz]
  · obtain rfl : i = 12 := by omega
    rw [cmpL_same (L := [pad a 0, pad a 1, pad a 2, pad a 3, pad a 4, pad a 5, pad a 6, pad a 7, pad a 8, pad a 9, pad a 10, pad a 11]) (M := [pad b 0, pad b 1, pad b 2, pad b 3, pad b 4, pad b 5, pad b 6, pad b 7, pad b 8, pad b 9, pad b 10, pad b 11]) rfl (fun j hj => by have hj' : j < 12 := (by simpa using hj); rw [l12_key hj', l12_key hj']; exact h j hj')]
    rfl
theorem cf_same {a b : Ro} (h : ∀ i, i < 13 → key a i = key b i) : cfR a b = 0 := by
  unfold cfR
  rw [cmpL_same (L := [pad a 0, pad a 1, pad a 2, pad a 3, pad a 4, pad a 5, pad a 6, pad a 7, pad a 8, pad a 9, pad a 10, pad a 11]) (M := [pad b 0, pad b 1, pad b 2, pad b 3, pad b 4, pad b 5, pad b 6, pad b 7, pad b 8, pad b 9, pad b 10, pad b 11]) rfl (fun j hj => by have hj' : j < 12 := (by simpa using hj); rw [l12_key hj', l12_key hj']; exact h j (by omega))]
  have := h 12 (by omega)
  unfold key at this
  simp only [Nat.lt_irrefl, if_false] at this
  unfold Roua.orZ
  rw [if_neg (by simp), this]
  exact cmpZ_zero.2 rfl
theorem cf_lt {a b : Ro} : cfR a b < 0 ↔ Lt a b := by
  constructor
  · intro h
    rcases lt_tri a b with k | k | k
    · exact k
    · obtain ⟨i, h1, h2, h3⟩ := k
      rw [cf_at h1 (fun j hj => (h2 j hj).symm) (by omega), cmpZ_neg] at h
      omega
    · rw [cf_same k] at h; omega
  · rintro ⟨i, h1, h2, h3⟩
    rw [cf_at h1 h2 (by omega), cmpZ_neg]
    exact h3
theorem lt_cf (a b : Ro) : ltOf cfR a b = true ↔ Lt a b := by unfold ltOf; rw [decide_eq_true_iff]; exact cf_lt
theorem lt_key {a b c : Ro} (h : ∀ i, i < 13 → key a i = key b i) (k : Lt a c) : Lt b c := by
  obtain ⟨i, h1, h2, h3⟩ := k
  exact ⟨i, h1, fun j hj => (h j (by omega)).symm.trans (h2 j hj), by rw [← h i h1]; exact h3⟩
theorem swoR : SWO (ltOf cfR) where
  irrefl x := by
    cases h : ltOf cfR x x with
    | false => rfl
    | true => exact absurd ((lt_cf x x).1 h) (lt_irrefl x)
  trans x y z h1 h2 := (lt_cf x z).2 (lt_trans ((lt_cf x y).1 h1) ((lt_cf y z).1 h2))
  ntrans x y z h1 h2 := by
    cases h : ltOf cfR x z with
    | false => rfl
    | true =>
      have hxz := (lt_cf x z).1 h
      have hxy : ¬ Lt x y := fun k => by rw [(lt_cf x y).2 k] at h1; cases h1
      have hyz : ¬ Lt y z := fun k => by rw [(lt_cf y z).2 k] at h2; cases h2
      rcases lt_tri x y with k | k | k
      · exact absurd k hxy
      · exact absurd (lt_trans k hxz) hyz
      · exact absurd (lt_key k hxz) hyz
theorem cmpLays (blk off size : Nat) (w : World) : CmpLays Try.prog 45 #[] rt 13 cfR blk off size w := fun _ _ _ _ x y => compare_grown x y _
theorem flatR_toList (L : List Ro) : (flatK rt 13 L.toArray).toList = flat rt L := by
  apply List.ext_getElem?
  intro t
  by_cases ht : t < L.length * 13
  · have e : t = t / 13 * 13 + t % 13 := by rw [Nat.mul_comm]; exact (Nat.div_add_mod t 13).symm
    have hd : t / 13 < L.length := by omega
    have hm : t % 13 < 13 := Nat.mod_lt _ (by decide)
    have h1 : (flatK rt 13 L.toArray).toList[t]? = some ((rt L[t / 13]!)[t % 13]!) := by
      have := get_flatK rt 13 L.toArray t (by simpa using ht)
      have hs : t < (flatK rt 13 L.toArray).size := by simpa using ht
      rw [Array.getElem?_toList, Array.getElem?_eq_getElem hs]
      rw [getElem!_pos _ t hs] at this
      rw [this]
      simp
    rw [h1]
    conv => rhs; rw [e]
    rw [flat_cell (enc := rt) (fun _ => rfl) L (t / 13) (t % 13) hd hm]
    have hl : t % 13 < (rt L[t / 13]!).length := by show _ < 13; exact hm
    rw [List.getElem?_eq_getElem hl, getElem!_pos _ (t % 13) hl]
  · rw [List.getElem?_eq_none (by simpa using ht), List.getElem?_eq_none (by rw [flat_length (enc := rt) (size := 13) (fun _ => rfl)]; omega)]
section
variable {w0 w : World} {B : List Rw} {e : TypeId}
theorem sort_routes (o : Own) (L : List Ro) (hE : Env w0 w (o.rows e ++ B)) (hs : o.Has 13 L.length (flat rt L)) (hn : L.length ≤ 1000000) (h12 : ∀ r ∈ L, r.length ≤ 12) (hnd : L.Nodup) :
    Calls Try.prog 44 #[o.val L.length, .func (.func 45) #[] #[]] w fun k w' => ∃ z : Own × List Ro, (z.1.ptr = o.ptr ∧ z.1.cap = o.cap ∧ Asc z.2 ∧ (∀ r, r ∈ z.2 ↔ r ∈ L) ∧ z.2.length = L.length ∧ z.1.Has 13 L.length (flat rt z.2)) ∧ k = .returned (.tuple #[]) ∧ Env w0 w' (z.1.rows e ++ B) := by
  cases o with
  | none =>
    have h0 : L.length = 0 := hs.2
    have hL : L = [] := List.eq_nil_of_length_eq_zero h0
    subst hL
    have hcon := Go.Proofs.AnyF.slices_SortFunc_none sortR Option.none 0 (.func (.func 45) #[] #[]) w
    change Calls Try.prog 44 _ _ _ at hcon
    refine hcon.mono ?_
    rintro k w' ⟨rfl, rfl⟩
    exact ⟨(.none, []), ⟨rfl, rfl, List.Pairwise.nil, fun r => Iff.rfl, rfl, Own.has_none 13⟩, rfl, hE⟩
  | row g cap cur =>
    have eg : ∀ args w, (callFunc 45 args).run Try.prog w = .ok (.enter 45 args) w := enters_of Try.func45 (by kernel_rfl) rfl
    have hrow := Own.at (A := []) hE rfl (s := .row g cap cur) rfl
    have hH : HoldsK rt 13 w g 0 L.toArray := by
      intro j hj
      have hj' : j < L.length * 13 := by simpa using hj
      rw [Nat.zero_add]
      refine own_cell hE hs ?_
      rw [← flatR_toList L, Array.getElem?_toList, Array.getElem?_eq_getElem hj, getElem!_pos _ j hj]
      rfl
    have hcon := Go.Proofs.AnyQ.slices_SortFunc sortR 13 Try.isAgg92 Try.sizeOf92 rt (fun _ => rfl) rt_one cfR swoR 45 #[] g 0 cap L.toArray w eg (cmpLays g 0 L.toArray.size w) hH (lt_of_row hrow) (by simp; omega)
    change Calls Try.prog 44 _ _ _ at hcon
    rw [List.size_toArray] at hcon
    refine hcon.mono ?_
    rintro k w' ⟨rfl, d', m, os, hp, ho, rfl⟩
    have hsz : d'.size = L.length := by simpa using hp.1
    have hlen : d'.toList.length = L.length := by rw [Array.length_toList, hsz]
    have h := put_row (F := flatK rt 13 d') hE hs (by rw [size_flatK, hsz]) m os
    have ef : (flatK rt 13 d').toList = flat rt d'.toList := by rw [← flatR_toList d'.toList]
    rw [ef] at h
    have hperm : d'.toList.Perm L := by
      have h3 := hp.2.2
      rw [← hsz] at h3
      simp only [Array.extract_size] at h3
      rw [hsz] at h3
      simpa using h3
    have hmem : ∀ r, r ∈ d'.toList ↔ r ∈ L := fun r => hperm.mem_iff
    have hnd' : d'.toList.Nodup := hperm.nodup_iff.2 hnd
    refine ⟨(.row g cap (putCells id 0 (flatK rt 13 d') cur), d'.toList), ⟨rfl, rfl, ?_, hmem, hlen, h.1⟩, rfl, h.2⟩
    refine List.pairwise_iff_getElem.2 (fun i j hi hj hij => ?_)
    have h4 := ho i j (Nat.zero_le _) hij (by rw [← hlen]; exact hj)
    have e1 : d'.toList[i] = d'[i]! := by rw [getElem!_pos _ i (by simpa using hi)]; exact Array.getElem_toList _
    have e2 : d'.toList[j] = d'[j]! := by rw [getElem!_pos _ j (by simpa using hj)]; exact Array.getElem_toList _
    rw [← e1, ← e2] at h4
    have h5 : ¬ Lt d'.toList[j] d'.toList[i] := fun k => by rw [(lt_cf _ _).2 k] at h4; cases h4
    by_cases h6 : Lt d'.toList[i] d'.toList[j]
    · exact h6
    · have h7 := lt_tot (h12 _ ((hmem _).1 (List.getElem_mem hi))) (h12 _ ((hmem _).1 (List.getElem_mem hj))) h6 h5
      exact absurd h7 (fun k => by have := List.pairwise_iff_getElem.1 hnd' i j hi hj hij; exact this k)
end
end Go.Proofs.Ytbacchdkankioaa.Rsrt
