/-
  Package route: the order of two routes, with the world told exactly. No condition.
  slices.Sort and slices.Compact at []int64, slices.SortFunc at []route.Route under the program's order: what they leave. Condition: at most a million.
-/
import Derived.Test.YtjbhlcklgmgdpaaMra
import Derived.Sort.Grow
import Derived.Lib.Walk
import Derived.Deep.LoopGhost
import Derived.Deep.Draws
import Derived.Deep.DeepCutAuto
import Derived.Shelf.SlGeneric
import Derived.Shelf.SlSortCmp.NoneTotal
import Derived.Shelf.SortM.Plain
import Derived.Shelf.SortM.SortNone
import Derived.Shelf.SlicesE.Compact
import Derived.Test.YtjbhlcklgmgdpaaMrt
namespace Go.Proofs.Ytjbhlcklgmgdpaa.Rcx
open Go.Shelf Go.RowKit Go.Lib Go.Sort
open Go.ChangeShapes Go.WideShapes Go.ChangeAt
open Arr Steady Sx Sw Sl Si Smu Sfn Re Vs Gr Tk Rt Rtm Rtk Rts Roua Roub
set_option linter.unusedVariables false
set_option linter.unusedSimpArgs false
set_option maxRecDepth 100000

set_option maxHeartbeats 2000000 in
theorem compare_exact (L M : List Int) (b1 o1 c1 b2 o2 c2 n : Nat) (w : World) (hn : n ≤ 140737488355328) (lx : L.length = n) (ly : M.length = n) (hc1 : ∀ k, k < n → w.cell? ⟨b1, o1 + k, none⟩ = some (.int .i64 L[k]!)) (hc2 : ∀ k, k < n → w.cell? ⟨b2, o2 + k, none⟩ = some (.int .i64 M[k]!)) :
    Calls Try.prog 44 #[.slice (some ⟨b1, o1, none⟩) n c1, .slice (some ⟨b2, o2, none⟩) n c2] w fun e w' => e = .returned (.int .i64 (cmpL L M)) ∧ w' = w := by
  go_enter Try.func44, Try.ntmps44
  go_wp2
  go_loopg [11] n (fun g s11 wr => ∃ k : Nat, k ≤ n ∧ n - k ≤ g ∧ s11 = .int .i64 k ∧ wr = w ∧ Aside (∀ j, j < k → L[j]! = M[j]!))
  case atStart => exact ⟨0, Nat.zero_le _, by omega, rfl, rfl, fun j hj => absurd hj (Nat.not_lt_zero _)⟩
  case round =>
    obtain ⟨k, hk, hg, rfl, rfl, A⟩ := hrel
    by_cases hlt : k < n
    · have g1 : wr.cell? ⟨b1, o1 + k, none⟩ = some (.int .i64 L[k]!) := hc1 k (by omega)
      have g2 : wr.cell? ⟨b2, o2 + k, none⟩ = some (.int .i64 M[k]!) := hc2 k (by omega)
      clear hc1 hc2
      generalize hxk : L[k]! = x at g1
      generalize hyk : M[k]! = y at g2
      have B : Aside (L[k]! = x ∧ M[k]! = y) := ⟨hxk, hyk⟩
      clear hxk hyk
      have hcon := fun W' => cmp_any x y W'
      obtain ⟨z, hz⟩ : ∃ z, z = cmpZ x y := ⟨_, rfl⟩
      have C : Aside (z = cmpZ x y) := hz
      rw [← hz] at hcon
      clear hz
      by_cases h0 : z = 0
      · subst h0
        go_wp2_with (go_at_call 45; refine (hcon _).mono ?_; rintro e w' ⟨rfl, rfl⟩)
        go_roundg (n - (k + 1))
        case measure => omega
        case rel =>
          refine ⟨k + 1, by omega, by omega, by go_num, (by first | rfl | trivial | go_num), (show Aside _ from fun j hj => ?_)⟩
          by_cases e : j = k
          · subst e
            rw [B.out.1, B.out.2]; exact cmpZ_zero.1 C.out.symm
          · exact A.out j (by omega)
      · go_wp2_with (go_at_call 45; refine (hcon _).mono ?_; rintro e w' ⟨rfl, rfl⟩)
        go_ret
        have e0 := cmpL_at (i := k) (by omega) (by omega) A.out (by rw [B.out.1, B.out.2, ← C.out]; exact h0)
        rw [B.out.1, B.out.2, ← C.out] at e0
        refine ⟨?_, rfl⟩
        rw [e0]
        rfl
    · have : k = n := by omega
      subst this
      clear hc1 hc2
      go_wp2
      go_ret
      refine ⟨?_, rfl⟩
      rw [cmpL_same (by omega) (fun j hj => A.out j (by omega))]
      rfl
set_option maxHeartbeats 2000000 in
theorem or_exact (x y : Int) (b c : Nat) (w : World) (h1 : w.cell? ⟨b, 0, none⟩ = some (.int .i64 x)) (h2 : w.cell? ⟨b, 1, none⟩ = some (.int .i64 y)) :
    Calls Try.prog 43 #[.slice (some ⟨b, 0, none⟩) 2 c] w fun e w' => e = .returned (.int .i64 (Roua.orZ x y)) ∧ w' = w := by
  go_enter Try.func43, Try.ntmps43
  go_wp2
  go_loopg [8] 2 (fun g s8 wr => ∃ k : Nat, k ≤ 2 ∧ 2 - k ≤ g ∧ s8 = .int .i64 k ∧ wr = w ∧ Aside ((0 < k → x = 0) ∧ (1 < k → y = 0)))
  case atStart => exact ⟨0, by omega, by omega, rfl, rfl, ⟨fun h => absurd h (by omega), fun h => absurd h (by omega)⟩⟩
  case round =>
    obtain ⟨k, hk, hg, rfl, rfl, A⟩ := hrel
    rcases (show k = 0 ∨ k = 1 ∨ k = 2 by omega) with rfl | rfl | rfl
    · by_cases hx : x = 0
      · subst hx
        go_wp2
        go_roundg 1
        case measure => omega
        case rel => exact ⟨1, by omega, by omega, (by first | rfl | trivial | go_num), (by first | rfl | trivial | go_num), ⟨fun _ => (by first | rfl | trivial), fun h => absurd h (by omega)⟩⟩
      · go_wp2
        go_ret
        refine ⟨?_, rfl⟩
        unfold Roua.orZ
        rw [if_pos hx]
        rfl
    · have hx := A.out.1 (by omega)
      subst hx
      by_cases hy : y = 0
      · subst hy
        go_wp2
        go_roundg 0
        case measure => omega
        case rel => exact ⟨2, by omega, by omega, (by first | rfl | trivial | go_num), (by first | rfl | trivial | go_num), ⟨fun _ => (by first | rfl | trivial), fun _ => (by first | rfl | trivial)⟩⟩
      · go_wp2
        go_ret
        exact ⟨rfl, rfl⟩
    · have hx := A.out.1 (by omega)
      have hy := A.out.2 (by omega)
      subst hx hy
      go_wp2
      go_ret
      exact ⟨rfl, rfl⟩
/-! ### A region that draws its order, which makes one row; the world told exactly -/
theorem wp_exact {P : Program} {Q : Exit → Act → World → Prop} {id : Nat} {l : List Oper} {a : Act} {W : World} (val : Nat → Value) (m : Nat) (lit : Obj) (sz : Nat) (F : Act)
    (hm : P.follows .mixedOrders = true) (hz : a.tmps.size = sz) (hB : checkB l.toArray late none sz = true) (hml : m < l.length) (ha : fr l.toArray val a l.length = F)
    (step : ∀ i o, l[i]? = some o → i ≠ m → ∀ L a' w', Rd l.toArray sz val L a a' i o → w' = (if L m = true then W.drew.alloc lit else W.drew) → o.guard = none ∧ ((execOp a'.eval o).run P w' = .ok (.value (val i)) w' ∨ ∃ f args, (execOp a'.eval o).run P w' = .ok (.enter f args) w' ∧ Calls P f args w' fun e w'' => e = .returned (val i) ∧ w'' = w'))
    (make : ∀ o, l[m]? = some o → ∀ L a', Rd l.toArray sz val L a a' m o → o.guard = none ∧ (execOp a'.eval o).run P W.drew = .ok (.value (val m)) (W.drew.alloc lit))
    (hfin : Q .normal F (W.drew.alloc lit)) : (Code.region id l.toArray true).wp P Q a W := by
  refine wp_region_any hm (wpAny_inv (Γ := Unit) (sz := sz) (val := fun _ => val) (Inv := fun L _ w => w = if L m = true then W.drew.alloc lit else W.drew) (a0 := a) hB hz ?_ ?_ _ _ () a W.drew (by simp) ?_ ?_ ?_ ?_)
  · rintro i o L ⟨⟩ a' w' h hI K hK
    by_cases hi : i = m
    · subst hi
      have hoff : L i = false := h.off
      simp only [hoff, Bool.false_eq_true, if_false] at hI
      subst hI
      obtain ⟨hg, hr⟩ := make o (by simpa using h.op) L a' h
      refine h.go hg ?_
      rw [hr]
      exact hK () _ (fun _ _ => rfl) (by simp only [Si.one, if_true])
    · obtain ⟨hg, hs⟩ := step i o (by simpa using h.op) hi L a' w' h hI
      have e : Si.one L i m = L m := by simp only [Si.one]; rw [if_neg (fun e => hi e.symm)]
      refine h.go hg ?_
      rcases hs with hs | ⟨f, args, hs, hc⟩
      · rw [hs]
        exact hK () _ (fun _ _ => rfl) (by rw [e]; exact hI)
      · rw [hs]
        refine hc.mono ?_
        rintro k w'' ⟨rfl, rfl⟩
        exact hK () _ (fun _ _ => rfl) (by rw [e]; exact hI)
  · rintro ⟨⟩ a' w' hst hI
    rw [fr_of_st hB hz hst]
    have e : l.toArray.size = l.length := by simp
    rw [e] at hI ⊢
    have e2 : decide (m < l.length) = true := decide_eq_true hml
    simp only [e2, if_true] at hI
    rw [ha, hI]
    exact hfin
  · have : ∀ n, (List.range n).countP (fun i => !(Array.replicate l.toArray.size false).getD i false) ≤ n := fun n => by
      have := List.countP_le_length (p := fun i => !(Array.replicate l.toArray.size false).getD i false) (l := List.range n)
      simpa using this
    exact this _
  · exact (St.start _ a).congr (fun k => rep_getD _ k)
  · have e : (fun k => (Array.replicate l.toArray.size false).getD k false) = fun _ => false := funext (rep_getD _)
    rw [e]
    simp only [Bool.false_eq_true, if_false]
  · intro j o _ hj
    have e : ∀ k, (Array.replicate l.toArray.size false).getD k false = false := fun k => rep_getD _ k
    simp only [e j] at hj
    cases hj
theorem cells_pads {w : World} {g : Nat} {r : Ro} {t : TypeId} {fr : Nat × Nat} (h : w.heap[g]? = some (.cells #[.int .i64 (r.length : Int), .int .i64 (pad r 0), .int .i64 (pad r 1), .int .i64 (pad r 2), .int .i64 (pad r 3), .int .i64 (pad r 4), .int .i64 (pad r 5), .int .i64 (pad r 6), .int .i64 (pad r 7), .int .i64 (pad r 8), .int .i64 (pad r 9), .int .i64 (pad r 10), .int .i64 (pad r 11)] t fr)) : ∀ k, k < 12 → w.cell? ⟨g, 1 + k, none⟩ = some (.int .i64 ([pad r 0, pad r 1, pad r 2, pad r 3, pad r 4, pad r 5, pad r 6, pad r 7, pad r 8, pad r 9, pad r 10, pad r 11])[k]!) := by
  intro k hk
  rw [cell_of_row w g (1 + k) _ _ _ h]
  rcases (show k = 0 ∨ k = 1 ∨ k = 2 ∨ k = 3 ∨ k = 4 ∨ k = 5 ∨ k = 6 ∨ k = 7 ∨ k = 8 ∨ k = 9 ∨ k = 10 ∨ k = 11 by omega) with rfl | rfl | rfl | rfl | rfl | rfl | rfl | rfl | rfl | rfl | rfl | rfl <;> rfl
set_option maxHeartbeats 4000000 in
theorem compare_grown (r s : Ro) (w : World) :
    Calls Try.prog 28 #[.agg #[.int .i64 (r.length : Int), .int .i64 (pad r 0), .int .i64 (pad r 1), .int .i64 (pad r 2), .int .i64 (pad r 3), .int .i64 (pad r 4), .int .i64 (pad r 5), .int .i64 (pad r 6), .int .i64 (pad r 7), .int .i64 (pad r 8), .int .i64 (pad r 9), .int .i64 (pad r 10), .int .i64 (pad r 11)], .agg #[.int .i64 (s.length : Int), .int .i64 (pad s 0), .int .i64 (pad s 1), .int .i64 (pad s 2), .int .i64 (pad s 3), .int .i64 (pad s 4), .int .i64 (pad s 5), .int .i64 (pad s 6), .int .i64 (pad s 7), .int .i64 (pad s 8), .int .i64 (pad s 9), .int .i64 (pad s 10), .int .i64 (pad s 11)]] w fun e w' => e = .returned (.int .i64 (cfR r s)) ∧ ∃ q os', w' = grow (w.drewN q) os' := by
  go_enter Try.func28, Try.ntmps28
  go_upto_region 1 with (fail)
  obtain ⟨W, hW⟩ : ∃ W, W = (w.alloc (Obj.cells #[.int .i64 (r.length : Int), .int .i64 (pad r 0), .int .i64 (pad r 1), .int .i64 (pad r 2), .int .i64 (pad r 3), .int .i64 (pad r 4), .int .i64 (pad r 5), .int .i64 (pad r 6), .int .i64 (pad r 7), .int .i64 (pad r 8), .int .i64 (pad r 9), .int .i64 (pad r 10), .int .i64 (pad r 11)] 78)).alloc (Obj.cells #[.int .i64 (s.length : Int), .int .i64 (pad s 0), .int .i64 (pad s 1), .int .i64 (pad s 2), .int .i64 (pad s 3), .int .i64 (pad s 4), .int .i64 (pad s 5), .int .i64 (pad s 6), .int .i64 (pad s 7), .int .i64 (pad s 8), .int .i64 (pad s 9), .int .i64 (pad s 10), .int .i64 (pad s 11)] 78) := ⟨_, rfl⟩
  rw [← hW]
  have h2 : W.heap[w.heap.size]? = some (.cells #[.int .i64 (r.length : Int), .int .i64 (pad r 0), .int .i64 (pad r 1), .int .i64 (pad r 2), .int .i64 (pad r 3), .int .i64 (pad r 4), .int .i64 (pad r 5), .int .i64 (pad r 6), .int .i64 (pad r 7), .int .i64 (pad r 8), .int .i64 (pad r 9), .int .i64 (pad r 10), .int .i64 (pad r 11)] 78 (0, 0)) := by rw [hW]; exact row_alloc (heap_alloc_new w _) _
  have h3 : W.heap[w.heap.size + 1]? = some (.cells #[.int .i64 (s.length : Int), .int .i64 (pad s 0), .int .i64 (pad s 1), .int .i64 (pad s 2), .int .i64 (pad s 3), .int .i64 (pad s 4), .int .i64 (pad s 5), .int .i64 (pad s 6), .int .i64 (pad s 7), .int .i64 (pad s 8), .int .i64 (pad s 9), .int .i64 (pad s 10), .int .i64 (pad s 11)] 78 (0, 0)) := by
    rw [hW]
    have := heap_alloc_new (w.alloc (Obj.cells #[.int .i64 (r.length : Int), .int .i64 (pad r 0), .int .i64 (pad r 1), .int .i64 (pad r 2), .int .i64 (pad r 3), .int .i64 (pad r 4), .int .i64 (pad r 5), .int .i64 (pad r 6), .int .i64 (pad r 7), .int .i64 (pad r 8), .int .i64 (pad r 9), .int .i64 (pad r 10), .int .i64 (pad r 11)] 78)) (Obj.cells #[.int .i64 (s.length : Int), .int .i64 (pad s 0), .int .i64 (pad s 1), .int .i64 (pad s 2), .int .i64 (pad s 3), .int .i64 (pad s 4), .int .i64 (pad s 5), .int .i64 (pad s 6), .int .i64 (pad s 7), .int .i64 (pad s 8), .int .i64 (pad s 9), .int .i64 (pad s 10), .int .i64 (pad s 11)] 78)
    simpa using this
  have hG : ∃ q os', W.drew = grow (w.drewN q) os' := ⟨1, _, by rw [hW, alloc_eq_grow, alloc_eq_grow, grow_grow]; rfl⟩
  generalize w.heap.size + 1 = g3 at h3 ⊢
  generalize w.heap.size = g2 at h2 ⊢
  clear hW
  obtain ⟨g4, h4⟩ : ∃ g, g = W.heap.size := ⟨_, rfl⟩
  refine wp_exact (fun j9 => [.pointer (some ⟨g2, 1, none⟩), .slice (some ⟨g2, 1, none⟩) 12 12, .pointer (some ⟨g3, 1, none⟩), .slice (some ⟨g3, 1, none⟩) 12 12, .int .i64 (cmpL [pad r 0, pad r 1, pad r 2, pad r 3, pad r 4, pad r 5, pad r 6, pad r 7, pad r 8, pad r 9, pad r 10, pad r 11] [pad s 0, pad s 1, pad s 2, pad s 3, pad s 4, pad s 5, pad s 6, pad s 7, pad s 8, pad s 9, pad s 10, pad s 11]), .pointer (some ⟨g2, 0, none⟩), .int .i64 (r.length : Int), .pointer (some ⟨g3, 0, none⟩), .int .i64 (s.length : Int), .int .i64 (cmpZ (r.length : Int) (s.length : Int)), .slice (some ⟨g4, 0, none⟩) 2 2, .int .i64 (cfR r s), .int .i64 (cfR r s)].getD j9 undef) 10 (.cells #[.int .i64 (cmpL [pad r 0, pad r 1, pad r 2, pad r 3, pad r 4, pad r 5, pad r 6, pad r 7, pad r 8, pad r 9, pad r 10, pad r 11] [pad s 0, pad s 1, pad s 2, pad s 3, pad s 4, pad s 5, pad s 6, pad s 7, pad s 8, pad s 9, pad s 10, pad s 11]), .int .i64 (cmpZ (r.length : Int) (s.length : Int))] 3) 17 ({ tmps := #[.agg #[.int .i64 (r.length : Int), .int .i64 (pad r 0), .int .i64 (pad r 1), .int .i64 (pad r 2), .int .i64 (pad r 3), .int .i64 (pad r 4), .int .i64 (pad r 5), .int .i64 (pad r 6), .int .i64 (pad r 7), .int .i64 (pad r 8), .int .i64 (pad r 9), .int .i64 (pad r 10), .int .i64 (pad r 11)], .agg #[.int .i64 (s.length : Int), .int .i64 (pad s 0), .int .i64 (pad s 1), .int .i64 (pad s 2), .int .i64 (pad s 3), .int .i64 (pad s 4), .int .i64 (pad s 5), .int .i64 (pad s 6), .int .i64 (pad s 7), .int .i64 (pad s 8), .int .i64 (pad s 9), .int .i64 (pad s 10), .int .i64 (pad s 11)], .pointer (some ⟨g2, 0, none⟩), .pointer (some ⟨g3, 0, none⟩), .int .i64 (cfR r s), .pointer (some ⟨g2, 1, none⟩), .slice (some ⟨g2, 1, none⟩) 12 12, .pointer (some ⟨g3, 1, none⟩), .slice (some ⟨g3, 1, none⟩) 12 12, .int .i64 (cmpL [pad r 0, pad r 1, pad r 2, pad r 3, pad r 4, pad r 5, pad r 6, pad r 7, pad r 8, pad r 9, pad r 10, pad r 11] [pad s 0, pad s 1, pad s 2, pad s 3, pad s 4, pad s 5, pad s 6, pad s 7, pad s 8, pad s 9, pad s 10, pad s 11]), .pointer (some ⟨g2, 0, none⟩), .int .i64 (r.length : Int), .pointer (some ⟨g3, 0, none⟩), .int .i64 (s.length : Int), .int .i64 (cmpZ (r.length : Int) (s.length : Int)), .slice (some ⟨g4, 0, none⟩) 2 2, .int .i64 (cfR r s)], defers := [] } : Act) (by kernel_rfl) rfl (by kernel_rfl) (by decide) (by kernel_rfl) ?_ ?_ ?_
  · intro i o ho hne L a9 w9 h9 hw
    have hr2 : w9.heap[g2]? = some (.cells #[.int .i64 (r.length : Int), .int .i64 (pad r 0), .int .i64 (pad r 1), .int .i64 (pad r 2), .int .i64 (pad r 3), .int .i64 (pad r 4), .int .i64 (pad r 5), .int .i64 (pad r 6), .int .i64 (pad r 7), .int .i64 (pad r 8), .int .i64 (pad r 9), .int .i64 (pad r 10), .int .i64 (pad r 11)] 78 (0, 0)) := by
      rw [hw]; split
      · exact row_alloc h2 _
      · exact h2
    have hr3 : w9.heap[g3]? = some (.cells #[.int .i64 (s.length : Int), .int .i64 (pad s 0), .int .i64 (pad s 1), .int .i64 (pad s 2), .int .i64 (pad s 3), .int .i64 (pad s 4), .int .i64 (pad s 5), .int .i64 (pad s 6), .int .i64 (pad s 7), .int .i64 (pad s 8), .int .i64 (pad s 9), .int .i64 (pad s 10), .int .i64 (pad s 11)] 78 (0, 0)) := by
      rw [hw]; split
      · exact row_alloc h3 _
      · exact h3
    have hr4 : L 10 = true → w9.heap[g4]? = some (.cells #[.int .i64 (cmpL [pad r 0, pad r 1, pad r 2, pad r 3, pad r 4, pad r 5, pad r 6, pad r 7, pad r 8, pad r 9, pad r 10, pad r 11] [pad s 0, pad s 1, pad s 2, pad s 3, pad s 4, pad s 5, pad s 6, pad s 7, pad s 8, pad s 9, pad s 10, pad s 11]), .int .i64 (cmpZ (r.length : Int) (s.length : Int))] 3) := fun hl => by
      rw [hw, if_pos hl, h4]
      exact heap_alloc_new W.drew _
    have hi : i < 13 := (List.getElem?_eq_some_iff.1 ho).1
    rcases (show i = 0 ∨ i = 1 ∨ i = 2 ∨ i = 3 ∨ i = 4 ∨ i = 5 ∨ i = 6 ∨ i = 7 ∨ i = 8 ∨ i = 9 ∨ i = 10 ∨ i = 11 ∨ i = 12 by omega) with rfl | rfl | rfl | rfl | rfl | rfl | rfl | rfl | rfl | rfl | rfl | rfl | rfl
    · obtain rfl := Option.some.inj ho
      exact ⟨rfl, .inl (run_fieldAddr (f := 1) (off := 0) (d := 1) (z := 11) rfl (h9.out (by kernel_rfl) rfl) Try.underlying78 rfl rfl (by kernel_rfl) w9)⟩
    · obtain rfl := Option.some.inj ho
      exact ⟨rfl, .inl (er_arrall (z := 1) rfl (h9.tmp 0 rfl (h9.dep (by kernel_rfl))) Try.underlying76 (by kernel_rfl) w9)⟩
    · obtain rfl := Option.some.inj ho
      exact ⟨rfl, .inl (run_fieldAddr (f := 1) (off := 0) (d := 1) (z := 11) rfl (h9.out (by kernel_rfl) rfl) Try.underlying78 rfl rfl (by kernel_rfl) w9)⟩
    · obtain rfl := Option.some.inj ho
      exact ⟨rfl, .inl (er_arrall (z := 1) rfl (h9.tmp 2 rfl (h9.dep (by kernel_rfl))) Try.underlying76 (by kernel_rfl) w9)⟩
    · obtain rfl := Option.some.inj ho
      have e0 : a9.eval (.tmp 6) = .slice (some ⟨g2, 1, none⟩) 12 12 := (h9.tmp 1 rfl (h9.dep (by kernel_rfl)))
      have e1 : a9.eval (.tmp 8) = .slice (some ⟨g3, 1, none⟩) 12 12 := (h9.tmp 3 rfl (h9.dep (by kernel_rfl)))
      exact ⟨rfl, .inr ⟨44, #[.slice (some ⟨g2, 1, none⟩) 12 12, .slice (some ⟨g3, 1, none⟩) 12 12], er_callg (enters_of Try.func44 (by kernel_rfl) rfl) rfl (by simp only [List.map_toArray, List.map_cons, List.map_nil, e0, e1]) w9, compare_exact [pad r 0, pad r 1, pad r 2, pad r 3, pad r 4, pad r 5, pad r 6, pad r 7, pad r 8, pad r 9, pad r 10, pad r 11] [pad s 0, pad s 1, pad s 2, pad s 3, pad s 4, pad s 5, pad s 6, pad s 7, pad s 8, pad s 9, pad s 10, pad s 11] g2 1 12 g3 1 12 12 w9 (by decide) rfl rfl (cells_pads hr2) (cells_pads hr3)⟩⟩
    · obtain rfl := Option.some.inj ho
      exact ⟨rfl, .inl (run_fieldAddr (f := 0) (off := 0) (d := 0) (z := 0) rfl (h9.out (by kernel_rfl) rfl) Try.underlying78 rfl rfl (by kernel_rfl) w9)⟩
    · obtain rfl := Option.some.inj ho
      exact ⟨rfl, .inl (load_cell hr2 rfl rfl (h9.tmp 5 rfl (h9.dep (by kernel_rfl))) Try.isAgg3)⟩
    · obtain rfl := Option.some.inj ho
      exact ⟨rfl, .inl (run_fieldAddr (f := 0) (off := 0) (d := 0) (z := 0) rfl (h9.out (by kernel_rfl) rfl) Try.underlying78 rfl rfl (by kernel_rfl) w9)⟩
    · obtain rfl := Option.some.inj ho
      exact ⟨rfl, .inl (load_cell hr3 rfl rfl (h9.tmp 7 rfl (h9.dep (by kernel_rfl))) Try.isAgg3)⟩
    · obtain rfl := Option.some.inj ho
      have e0 : a9.eval (.tmp 11) = .int .i64 (r.length : Int) := (h9.tmp 6 rfl (h9.dep (by kernel_rfl)))
      have e1 : a9.eval (.tmp 13) = .int .i64 (s.length : Int) := (h9.tmp 8 rfl (h9.dep (by kernel_rfl)))
      exact ⟨rfl, .inr ⟨45, #[.int .i64 (r.length : Int), .int .i64 (s.length : Int)], er_callg (enters_of Try.func45 (by kernel_rfl) rfl) rfl (by simp only [List.map_toArray, List.map_cons, List.map_nil, e0, e1]) w9, cmp_any _ _ w9⟩⟩
    · exact absurd rfl hne
    · obtain rfl := Option.some.inj ho
      have dl10 : L 10 = true := h9.dep (by kernel_rfl)
      have hr := hr4 dl10
      have e0 : a9.eval (.tmp 15) = .slice (some ⟨g4, 0, none⟩) 2 2 := (h9.tmp 10 rfl (h9.dep (by kernel_rfl)))
      exact ⟨rfl, .inr ⟨43, #[.slice (some ⟨g4, 0, none⟩) 2 2], er_callg (enters_of Try.func43 (by kernel_rfl) rfl) rfl (by simp only [List.map_toArray, List.map_cons, List.map_nil, e0]) w9, or_exact (cmpL [pad r 0, pad r 1, pad r 2, pad r 3, pad r 4, pad r 5, pad r 6, pad r 7, pad r 8, pad r 9, pad r 10, pad r 11] [pad s 0, pad s 1, pad s 2, pad s 3, pad s 4, pad s 5, pad s 6, pad s 7, pad s 8, pad s 9, pad s 10, pad s 11]) (cmpZ (r.length : Int) (s.length : Int)) g4 2 w9 ((cell_of_row w9 g4 0 _ _ _ hr).trans rfl) ((cell_of_row w9 g4 1 _ _ _ hr).trans rfl)⟩⟩
    · obtain rfl := Option.some.inj ho
      exact ⟨rfl, .inl (run_assigng (by rfl) (h9.tmp 11 rfl (h9.dep (by kernel_rfl))))⟩
  · intro o ho L a9 h9
    obtain rfl := Option.some.inj ho
    refine ⟨rfl, ?_⟩
    have e9 : W.drew.heap.size = g4 := h4.symm
    refine (run_lit2 (u := .int .i64 (cmpL [pad r 0, pad r 1, pad r 2, pad r 3, pad r 4, pad r 5, pad r 6, pad r 7, pad r 8, pad r 9, pad r 10, pad r 11] [pad s 0, pad s 1, pad s 2, pad s 3, pad s 4, pad s 5, pad s 6, pad s 7, pad s 8, pad s 9, pad s 10, pad s 11])) (v := .int .i64 (cmpZ (r.length : Int) (s.length : Int))) (z := .int .i64 0) rfl (h9.tmp 4 rfl (h9.dep (by kernel_rfl))) (h9.tmp 9 rfl (h9.dep (by kernel_rfl))) rfl rfl Try.underlying58 (by kernel_rfl) rfl W.drew).trans ?_
    rw [e9]
    rfl
  · go_wp2
    go_ret
    obtain ⟨q, os', hq⟩ := hG
    exact ⟨rfl, q, _, by rw [hq, alloc_eq_grow, grow_grow]⟩
end Go.Proofs.Ytjbhlcklgmgdpaa.Rcx
namespace Go.Proofs.Ytjbhlcklgmgdpaa.Rsrt
open Go.Shelf Go.RowKit Go.Lib Go.Sort
open Arr Steady Sx Sw Sl Vs Tk Rt Rtm Rtp Rtk Rts Roua Roub Rcx
set_option linter.unusedVariables false
set_option linter.unusedSimpArgs false
set_option maxRecDepth 100000

def sortI_ren : Go.Shelf.Ren := ⟨fun | 5 => 48 | 8 => 42 | 7 => 65 | 19 => 62 | 20 => 63 | 10 => 73 | 11 => 74 | 12 => 75 | 13 => 76 | 14 => 77 | 15 => 78 | 16 => 79 | 17 => 80 | 18 => 81 | 30 => 83 | 31 => 69 | 32 => 70 | 33 => 84 | 34 => 85 | 35 => 86 | 40 => 87 | n => n, fun | 23 => 46 | 25 => 2 | 3 => 3 | 32 => 106 | 22 => 46 | 0 => 0 | 44 => 128 | 46 => 114 | 4 => 4 | 36 => 121 | 35 => 120 | 41 => 125 | 5 => 5 | 9 => 9 | 53 => 134 | 57 => 137 | 63 => 145 | 64 => 74 | n => n, fun | n => n⟩
theorem sortI : Go.Proofs.SlLaysM.n5 Try.prog sortI_ren := {
 mixed := by kernel_rfl
 f5 := ⟨Try.f48.name, by decide, Try.func48.trans (congrArg some (by kernel_rfl))⟩
 f7 := ⟨Try.f65.name, by decide, Try.func65.trans (congrArg some (by kernel_rfl))⟩
 f8 := Try.func42.trans (congrArg some (by kernel_rfl))
 f10 := ⟨Try.f73.name, by decide, Try.func73.trans (congrArg some (by kernel_rfl))⟩
 f11 := ⟨Try.f74.name, by decide, Try.func74.trans (congrArg some (by kernel_rfl))⟩
 f12 := ⟨Try.f75.name, by decide, Try.func75.trans (congrArg some (by kernel_rfl))⟩
 f13 := ⟨Try.f76.name, by decide, Try.func76.trans (congrArg some (by kernel_rfl))⟩
 f14 := ⟨Try.f77.name, by decide, Try.func77.trans (congrArg some (by kernel_rfl))⟩
 f15 := ⟨Try.f78.name, by decide, Try.func78.trans (congrArg some (by kernel_rfl))⟩
 f16 := ⟨Try.f79.name, by decide, Try.func79.trans (congrArg some (by kernel_rfl))⟩
 f17 := ⟨Try.f80.name, by decide, Try.func80.trans (congrArg some (by kernel_rfl))⟩
 f18 := ⟨Try.f81.name, by decide, Try.func81.trans (congrArg some (by kernel_rfl))⟩
 f19 := Try.func62.trans (congrArg some (by kernel_rfl))
 f20 := Try.func63.trans (congrArg some (by kernel_rfl))
 f30 := ⟨Try.f83.name, by decide, Try.func83.trans (congrArg some (by kernel_rfl))⟩
 f31 := Try.func69.trans (congrArg some (by kernel_rfl))
 f32 := Try.func70.trans (congrArg some (by kernel_rfl))
 f33 := ⟨Try.f84.name, by decide, Try.func84.trans (congrArg some (by kernel_rfl))⟩
 f34 := ⟨Try.f85.name, by decide, Try.func85.trans (congrArg some (by kernel_rfl))⟩
 f35 := ⟨Try.f86.name, by decide, Try.func86.trans (congrArg some (by kernel_rfl))⟩
 f40 := ⟨Try.f87.name, by decide, Try.func87.trans (congrArg some (by kernel_rfl))⟩
 t0 := Try.underlying0
 a0 := Try.isAgg0
 z0 := Try.sizeOf0
 v0 := Try.zeroValue0
 t3 := Try.underlying3
 a3 := Try.isAgg3
 z3 := Try.sizeOf3
 v3 := Try.zeroValue3
 t4 := Try.underlying4
 a4 := Try.isAgg4
 z4 := Try.sizeOf4
 v4 := Try.zeroValue4
 t5 := Try.underlying5
 a5 := Try.isAgg5
 z5 := Try.sizeOf5
 v5 := Try.zeroValue5
 t9 := Try.underlying9
 a9 := Try.isAgg9
 z9 := Try.sizeOf9
 v9 := Try.zeroValue9
 t22 := Try.underlying46
 a22 := Try.isAgg46
 z22 := Try.sizeOf46
 v22 := Try.zeroValue46
 t23 := Try.underlying46
 a23 := Try.isAgg46
 z23 := Try.sizeOf46
 v23 := Try.zeroValue46
 t25 := Try.underlying2
 a25 := Try.isAgg2
 z25 := Try.sizeOf2
 v25 := Try.zeroValue2
 t32 := Try.underlying106
 a32 := Try.isAgg106
 z32 := Try.sizeOf106
 v32 := Try.zeroValue106
 t35 := Try.underlying120
 a35 := Try.isAgg120
 z35 := Try.sizeOf120
 v35 := Try.zeroValue120
 t36 := Try.underlying121
 a36 := Try.isAgg121
 z36 := Try.sizeOf121
 v36 := Try.zeroValue121
 t41 := Try.underlying125
 a41 := Try.isAgg125
 z41 := Try.sizeOf125
 v41 := Try.zeroValue125
 t44 := Try.underlying128
 a44 := Try.isAgg128
 z44 := Try.sizeOf128
 v44 := Try.zeroValue128
 t46 := Try.underlying114
 a46 := Try.isAgg114
 z46 := Try.sizeOf114
 v46 := Try.zeroValue114
 t53 := Try.underlying134
 a53 := Try.isAgg134
 z53 := Try.sizeOf134
 v53 := Try.zeroValue134
 t57 := Try.underlying137
 a57 := Try.isAgg137
 z57 := Try.sizeOf137
 v57 := Try.zeroValue137
 t63 := Try.underlying145
 a63 := Try.isAgg145
 z63 := Try.sizeOf145
 v63 := Try.zeroValue145
 t64 := Try.underlying74
 a64 := Try.isAgg74
 z64 := Try.sizeOf74
 v64 := Try.zeroValue74 }
def compactI_ren : Go.Shelf.Ren := ⟨fun | 43 => 49 | n => n, fun | 22 => 46 | 23 => 2 | 3 => 3 | 4 => 4 | 0 => 0 | n => n, fun | n => n⟩
theorem compactI : Go.Proofs.SlLaysE.n43 Try.prog compactI_ren := {
 mixed := by kernel_rfl
 f43 := ⟨Try.f49.name, by decide, Try.func49.trans (congrArg some (by kernel_rfl))⟩
 t0 := Try.underlying0
 a0 := Try.isAgg0
 z0 := Try.sizeOf0
 v0 := Try.zeroValue0
 t3 := Try.underlying3
 a3 := Try.isAgg3
 z3 := Try.sizeOf3
 v3 := Try.zeroValue3
 t4 := Try.underlying4
 a4 := Try.isAgg4
 z4 := Try.sizeOf4
 v4 := Try.zeroValue4
 t22 := Try.underlying46
 a22 := Try.isAgg46
 z22 := Try.sizeOf46
 v22 := Try.zeroValue46
 a23 := Try.isAgg2
 z23 := Try.sizeOf2 }
def sortR_ren : Go.Shelf.Ren := ⟨fun | 6 => 27 | 15 => 42 | 14 => 41 | 28 => 62 | 29 => 63 | 20 => 54 | 21 => 55 | 22 => 56 | 23 => 57 | 24 => 58 | 25 => 59 | 26 => 60 | 27 => 61 | 46 => 68 | 47 => 69 | 48 => 70 | 49 => 71 | 50 => 72 | 57 => 82 | n => n, fun | 22 => 39 | 24 => 78 | 25 => 84 | 3 => 3 | 39 => 106 | 0 => 0 | 53 => 128 | 55 => 114 | 4 => 4 | 46 => 121 | 45 => 120 | 50 => 125 | 5 => 5 | 9 => 9 | 66 => 134 | 70 => 137 | 76 => 145 | 77 => 74 | n => n, fun | n => n⟩
theorem sortR : Go.Proofs.SlLaysF0.n6 Try.prog sortR_ren := {
 mixed := by kernel_rfl
 f6 := ⟨Try.f27.name, by decide, Try.func27.trans (congrArg some (by kernel_rfl))⟩
 f14 := ⟨Try.f41.name, by decide, Try.func41.trans (congrArg some (by kernel_rfl))⟩
 f15 := Try.func42.trans (congrArg some (by kernel_rfl))
 f20 := ⟨Try.f54.name, by decide, Try.func54.trans (congrArg some (by kernel_rfl))⟩
 f21 := ⟨Try.f55.name, by decide, Try.func55.trans (congrArg some (by kernel_rfl))⟩
 f22 := ⟨Try.f56.name, by decide, Try.func56.trans (congrArg some (by kernel_rfl))⟩
 f23 := ⟨Try.f57.name, by decide, Try.func57.trans (congrArg some (by kernel_rfl))⟩
 f24 := ⟨Try.f58.name, by decide, Try.func58.trans (congrArg some (by kernel_rfl))⟩
 f25 := ⟨Try.f59.name, by decide, Try.func59.trans (congrArg some (by kernel_rfl))⟩
 f26 := ⟨Try.f60.name, by decide, Try.func60.trans (congrArg some (by kernel_rfl))⟩
 f27 := ⟨Try.f61.name, by decide, Try.func61.trans (congrArg some (by kernel_rfl))⟩
 f28 := Try.func62.trans (congrArg some (by kernel_rfl))
 f29 := Try.func63.trans (congrArg some (by kernel_rfl))
 f46 := ⟨Try.f68.name, by decide, Try.func68.trans (congrArg some (by kernel_rfl))⟩
 f47 := Try.func69.trans (congrArg some (by kernel_rfl))
 f48 := Try.func70.trans (congrArg some (by kernel_rfl))
 f49 := ⟨Try.f71.name, by decide, Try.func71.trans (congrArg some (by kernel_rfl))⟩
 f50 := ⟨Try.f72.name, by decide, Try.func72.trans (congrArg some (by kernel_rfl))⟩
 f57 := ⟨Try.f82.name, by decide, Try.func82.trans (congrArg some (by kernel_rfl))⟩
 t0 := Try.underlying0
 a0 := Try.isAgg0
 z0 := Try.sizeOf0
 v0 := Try.zeroValue0
 t3 := Try.underlying3
 a3 := Try.isAgg3
 z3 := Try.sizeOf3
 v3 := Try.zeroValue3
 t4 := Try.underlying4
 a4 := Try.isAgg4
 z4 := Try.sizeOf4
 v4 := Try.zeroValue4
 t5 := Try.underlying5
 a5 := Try.isAgg5
 z5 := Try.sizeOf5
 v5 := Try.zeroValue5
 t9 := Try.underlying9
 a9 := Try.isAgg9
 z9 := Try.sizeOf9
 v9 := Try.zeroValue9
 t22 := Try.underlying39
 a22 := Try.isAgg39
 z22 := Try.sizeOf39
 v22 := Try.zeroValue39
 t25 := Try.underlying84
 a25 := Try.isAgg84
 z25 := Try.sizeOf84
 v25 := Try.zeroValue84
 t39 := Try.underlying106
 a39 := Try.isAgg106
 z39 := Try.sizeOf106
 v39 := Try.zeroValue106
 t45 := Try.underlying120
 a45 := Try.isAgg120
 z45 := Try.sizeOf120
 v45 := Try.zeroValue120
 t46 := Try.underlying121
 a46 := Try.isAgg121
 z46 := Try.sizeOf121
 v46 := Try.zeroValue121
 t50 := Try.underlying125
 a50 := Try.isAgg125
 z50 := Try.sizeOf125
 v50 := Try.zeroValue125
 t53 := Try.underlying128
 a53 := Try.isAgg128
 z53 := Try.sizeOf128
 v53 := Try.zeroValue128
 t55 := Try.underlying114
 a55 := Try.isAgg114
 z55 := Try.sizeOf114
 v55 := Try.zeroValue114
 t66 := Try.underlying134
 a66 := Try.isAgg134
 z66 := Try.sizeOf134
 v66 := Try.zeroValue134
 t70 := Try.underlying137
 a70 := Try.isAgg137
 z70 := Try.sizeOf137
 v70 := Try.zeroValue137
 t76 := Try.underlying145
 a76 := Try.isAgg145
 z76 := Try.sizeOf145
 v76 := Try.zeroValue145
 t77 := Try.underlying74
 a77 := Try.isAgg74
 z77 := Try.sizeOf74
 v77 := Try.zeroValue74 }

/-! ### A row put anew -/
theorem putCells_map {α : Type} [Inhabited α] (enc : α → Value) (d : Array α) : putCells enc 0 d = putCells id 0 (d.map enc) := by
 funext c
 unfold putCells
 refine congrArg (fun F => c.mapIdx F) ?_
 funext k x
 rw [Array.size_map]
 split
 ·
  rename_i h
  rw [getElem!_pos d (k - 0) (by omega), getElem!_pos (d.map enc) (k - 0) (by rw [Array.size_map]; omega)]
  simp
 ·
  rfl
theorem ints_list (L : List Int) : (L.toArray.map (Value.int .i64)).toList = flat enc1 L := by rw [flat1]; simp
section
variable {w0 w : World} {B : List Rw} {e : TypeId}
theorem put_row {g cap n k : Nat} {cur F : Array Value} {xs : List Value} (hE : Env w0 w ((Own.row g cap cur).rows e ++ B)) (hs : (Own.row g cap cur).Has k n xs) (hF : F.size = n * k) (m : Nat) (os : Array Obj) :
  (Own.row g cap (putCells id 0 F cur)).Has k n F.toList ∧ Env w0 (grow (mapBlock (Sort.ahead w m) g (putCells id 0 F)) os) ((Own.row g cap (putCells id 0 F cur)).rows e ++ B) := by
 obtain ⟨hl, hn, hc, hz, ht⟩ := hs
 have hrow := Own.at (A := []) hE rfl (s := .row g cap cur) rfl
 have hlt := lt_of_row hrow
 have hsz : (putCells id 0 F cur).size = cur.size := by simp [putCells]
 have hle : n * k ≤ cap * k := Nat.mul_le_mul_right k hn
 refine ⟨⟨by rw [Array.length_toList, hF], hn, hc, by rw [hsz, hz], ?_⟩, (Env.own_step (A := []) (s := .row g cap cur) (s' := .row g cap (putCells id 0 F cur)) (w' := grow (mapBlock (Sort.ahead w m) g (putCells id 0 F)) os) hE ⟨rfl, rfl, rfl, ?_, fun k hk hne => ?_⟩ (fun g' c' k' hh => ?_))⟩
 ·
  apply List.ext_getElem?
  intro t
  rw [List.getElem?_take]
  split
  ·
   rename_i htl
   rw [Array.getElem?_toList, Array.getElem?_toList]
   have h1 : t < F.size := by rw [hF]; exact htl
   simp only [putCells, Array.getElem?_mapIdx]
   rw [Array.getElem?_eq_getElem (show t < cur.size by omega), Option.map_some, if_pos ⟨by omega, by omega⟩, Array.getElem?_eq_getElem h1, Nat.sub_zero, getElem!_pos _ t h1]
   rfl
  ·
   rename_i htl
   rw [List.getElem?_eq_none (by rw [Array.length_toList, hF]; omega)]
 ·
  show w.heap.size ≤ ((((Sort.ahead w m).heap.modify g _) ++ os)).size
  simp only [Array.size_append, Array.size_modify]
  exact Nat.le_add_right _ _
 ·
  have hgk : g ≠ k := fun e => hne (by rw [e]; rfl)
  show (((Sort.ahead w m).heap.modify g _) ++ os)[k]? = _
  rw [Array.getElem?_append_left (by simpa using hk), Array.getElem?_modify, if_neg hgk]
  rfl
 ·
  cases hh
  refine ⟨?_, .inl ⟨_, _, rfl⟩⟩
  show (((Sort.ahead w m).heap.modify g _) ++ os)[g]? = _
  rw [Array.getElem?_append_left (by simpa using hlt), Array.getElem?_modify, if_pos rfl]
  show Option.map _ (w.heap[g]?) = _
  rw [hrow]
  rfl
theorem own_cell {g cap n k : Nat} {cur : Array Value} {xs : List Value} (hE : Env w0 w ((Own.row g cap cur).rows e ++ B)) (hs : (Own.row g cap cur).Has k n xs) {j : Nat} {u : Value} (hj : xs[j]? = some u) : w.cell? ⟨g, j, Option.none⟩ = some u ∧ w.frozen? ⟨g, j, Option.none⟩ = false := by
 have hrow := Own.at (A := []) hE rfl (s := .row g cap cur) rfl
 obtain ⟨b, hb, hcell⟩ := sl_own [] B hs (R := (Own.row g cap cur).rows e ++ B) rfl w hE j u hj
 cases hb
 have hadd : (⟨g, 0, Option.none⟩ : Addr).add j = ⟨g, j, Option.none⟩ := by unfold Addr.add; split <;> simp_all
 rw [hadd] at hcell
 exact ⟨hcell, frozen_of_row w g j cur e hrow⟩
theorem own_ints {g cap : Nat} {cur : Array Value} {L : List Int} (hE : Env w0 w ((Own.row g cap cur).rows e ++ B)) (hs : (Own.row g cap cur).Has 1 L.length (flat enc1 L)) : Holds (Value.int .i64) w g 0 L.toArray := by
 intro j hj
 have hj' : j < L.length := by simpa using hj
 rw [Nat.zero_add]
 refine own_cell hE hs ?_
 rw [flat1, List.getElem?_map, List.getElem?_eq_getElem hj', getElem!_pos L.toArray j hj]
 rfl
/-- In order. -/
abbrev srt (L : List Int) : List Int := L.mergeSort fun x y => decide (x ≤ y)
theorem sort_ints (o : Own) (L : List Int) (hE : Env w0 w (o.rows e ++ B)) (hs : o.Has 1 L.length (flat enc1 L)) (hn : L.length ≤ 1000000) :
  Calls Try.prog 48 #[o.val L.length] w fun k w' => ∃ z : Own, (z.ptr = o.ptr ∧ z.cap = o.cap ∧ z.Has 1 L.length (flat enc1 (srt L))) ∧ k = .returned (.tuple #[]) ∧ Env w0 w' (z.rows e ++ B) := by
 cases o with
 | none =>
  have h0 : L.length = 0 := hs.2
  have hL : L = [] := List.eq_nil_of_length_eq_zero h0
  subst hL
  have hcon := Go.Proofs.AnyM.slices_Sort_int_none sortI Option.none 0 w
  change Calls Try.prog 48 _ _ _ at hcon
  refine hcon.mono ?_
  rintro k w' ⟨rfl, rfl⟩
  exact ⟨.none, ⟨rfl, rfl, by simpa [srt, flat] using Own.has_none 1⟩, rfl, hE⟩
 | row g cap cur =>
  have hrow := Own.at (A := []) hE rfl (s := .row g cap cur) rfl
  have hcon := Go.Proofs.AnyM.slices_Sort_int sortI g 0 cap L w (own_ints hE hs) (lt_of_row hrow) (by omega)
  change Calls Try.prog 48 _ _ _ at hcon
  refine hcon.mono ?_
  rintro k w' ⟨rfl, m, os, rfl⟩
  have hlen : (srt L).length = L.length := List.length_mergeSort L
  have h := put_row (F := (srt L).toArray.map (Value.int .i64)) hE hs (by simp) m os
  rw [ints_list] at h
  refine ⟨.row g cap (putCells id 0 ((srt L).toArray.map (Value.int .i64)) cur), ⟨rfl, rfl, h.1⟩, rfl, ?_⟩
  show Env w0 (grow (mapBlock (Sort.ahead w m) g (putCells (Value.int .i64) 0 (srt L).toArray)) os) _
  rw [putCells_map]
  exact h.2
/-- .. each once, where it is in order. -/
def cmpct (L : List Int) : List Int := compactUpTo L.toArray L.length
theorem compact_nil (c : Nat) (w : World) : Calls Try.prog 49 #[.slice none 0 c] w fun e w' => e = .returned (.slice none 0 c) ∧ w' = w := by
 go_enter Try.func49, Try.ntmps49
 go_wp2
 go_ret
 exact ⟨rfl, rfl⟩
theorem has_take {o : Own} {L : List Int} {n : Nat} (h : o.Has 1 n (flat enc1 L)) {m : Nat} (hm : m ≤ n) : o.Has 1 m (flat enc1 (L.take m)) := by
 have hlen : L.length = n := by have := h.1; rw [flat_length (enc := enc1) (size := 1) (fun _ => rfl)] at this; omega
 have e : flat enc1 (L.take m) = (flat enc1 L).take m := by rw [flat1, flat1, List.map_take]
 refine ⟨by rw [flat_length (enc := enc1) (size := 1) (fun _ => rfl), List.length_take]; omega, ?_⟩
 cases o with
 | none => have := h.2; show m = 0; have h0 : n = 0 := this; omega
 | row g cap cur =>
  obtain ⟨_, h1, h2, h3, h4⟩ := h
  refine ⟨by omega, h2, h3, ?_⟩
  rw [e, ← h4, List.take_take]
  congr 1
  omega
theorem compact_ints (o : Own) (L : List Int) (hE : Env w0 w (o.rows e ++ B)) (hs : o.Has 1 L.length (flat enc1 L)) (hn : L.length ≤ 1000000) :
  Calls Try.prog 49 #[o.val L.length] w fun k w' => ∃ z : Own, z.Has 1 (cmpct L).length (flat enc1 (cmpct L)) ∧ k = .returned (z.val (cmpct L).length) ∧ Env w0 w' (z.rows e ++ B) := by
 cases o with
 | none =>
  have h0 : L.length = 0 := hs.2
  have hL : L = [] := List.eq_nil_of_length_eq_zero h0
  subst hL
  refine (compact_nil 0 w).mono ?_
  rintro k w' ⟨rfl, rfl⟩
  exact ⟨.none, Own.has_none 1, rfl, hE⟩
 | row g cap cur =>
  have hcap : L.length ≤ cap := hs.2.1
  have hcon := Go.Proofs.AnyE.slices_Compact compactI (Value.int .i64) (fun _ => rfl) (.intD _ _ _) (.intD _ _ _) 0 Try.zeroValue2 g 0 cap L.toArray w (own_ints hE hs) (by simp; omega) (by simpa using hcap)
  change Calls Try.prog 49 _ _ _ at hcon
  rw [List.size_toArray] at hcon
  refine hcon.mono ?_
  rintro k w' ⟨rfl, m, rfl⟩
  have hle : (cmpct L).length ≤ L.length := by unfold cmpct compactUpTo; rw [List.length_map]; exact Nat.le_trans (List.length_filter_le _ _) (by simp)
  obtain ⟨M, hM⟩ : ∃ M, M = cmpct L ++ List.replicate (L.length - (cmpct L).length) 0 := ⟨_, rfl⟩
  have hlen : M.length = L.length := by rw [hM]; simp; omega
  have h := put_row (F := M.toArray.map (Value.int .i64)) hE hs (by simp [hlen]) m #[]
  rw [ints_list] at h
  have h1 := has_take h.1 hle
  rw [show M.take (cmpct L).length = cmpct L by rw [hM]; simp] at h1
  refine ⟨.row g cap (putCells id 0 (M.toArray.map (Value.int .i64)) cur), h1, rfl, ?_⟩
  have h2 := h.2
  rw [grow_empty] at h2
  show Env w0 (mapBlock (Sort.ahead w m) g (putCells (Value.int .i64) 0 (cmpct L ++ List.replicate (L.length - (cmpct L).length) 0).toArray)) _
  rw [putCells_map, ← hM]
  exact h2
end
/-! ### Sorted, each once: no program -/
theorem cmpct_asc {L : List Int} (h : L.Pairwise (· ≤ ·)) : (cmpct L).Pairwise (· < ·) ∧ ∀ x, x ∈ cmpct L ↔ x ∈ L := by
 have hd : ∀ j, j < L.length → L.toArray[j]! = L[j]! := fun j hj => by rw [getElem!_pos L j hj, getElem!_pos L.toArray j (by simpa using hj)]; simp
 have hle : ∀ i j, i ≤ j → j < L.length → L[i]! ≤ L[j]! := fun i j hij hj => by
  rcases Nat.lt_or_eq_of_le hij with k | k
  ·
   rw [getElem!_pos L i (by omega), getElem!_pos L j hj]
   exact List.pairwise_iff_getElem.1 h i j (by omega) hj k
  ·
   subst k; exact Int.le_refl _
 constructor
 ·
  unfold cmpct compactUpTo
  rw [List.pairwise_map]
  refine List.Pairwise.imp_of_mem ?_ (List.Pairwise.filter _ List.pairwise_lt_range)
  intro i j hi hj hij
  obtain ⟨j1, j2⟩ := List.mem_filter.1 hj
  have hjl : j < L.length := List.mem_range.1 j1
  have hne : L.toArray[j]! ≠ L.toArray[j - 1]! := fun k => by rw [keeps_neg (by omega) k] at j2; cases j2
  rw [hd j hjl, hd (j - 1) (by omega)] at hne
  rw [hd i (by omega), hd j hjl]
  have h1 := hle i (j - 1) (by omega) (by omega)
  have h2 := hle (j - 1) j (by omega) hjl
  omega
 ·
  intro x
  have key : ∀ j, j < L.length → L[j]! ∈ cmpct L := by
   intro j
   induction j with
   | zero =>
    intro hj
    unfold cmpct compactUpTo
    exact List.mem_map.2 ⟨0, List.mem_filter.2 ⟨List.mem_range.2 hj, keeps_lt_one _ 0 (by omega)⟩, hd 0 hj⟩
   | succ j ih =>
    intro hj
    by_cases k : L.toArray[j + 1]! = L.toArray[j + 1 - 1]!
    ·
     rw [hd (j + 1) hj, hd _ (by omega), Nat.add_sub_cancel] at k
     rw [k]
     exact ih (by omega)
    ·
     unfold cmpct compactUpTo
     exact List.mem_map.2 ⟨j + 1, List.mem_filter.2 ⟨List.mem_range.2 hj, keeps_pos k⟩, hd (j + 1) hj⟩
  constructor
  ·
   intro hx
   unfold cmpct compactUpTo at hx
   obtain ⟨j, hj, rfl⟩ := List.mem_map.1 hx
   have hjl : j < L.length := List.mem_range.1 (List.mem_filter.1 hj).1
   rw [hd j hjl, getElem!_pos L j hjl]
   exact List.getElem_mem hjl
  ·
   intro hx
   obtain ⟨j, hj, rfl⟩ := List.mem_iff_getElem.1 hx
   have := key j hj
   rwa [getElem!_pos L j hj] at this
theorem ascZ_eq : ∀ {L K : List Int}, L.Pairwise (· < ·) → K.Pairwise (· < ·) → (∀ r, r ∈ L ↔ r ∈ K) → L = K := by
 intro L
 induction L with
 | nil =>
  intro K _ _ h
  cases K with
  | nil => rfl
  | cons y K => exact absurd ((h y).2 List.mem_cons_self) (by simp)
 | cons x L ih =>
  intro K hL hK h
  cases K with
  | nil => exact absurd ((h x).1 List.mem_cons_self) (by simp)
  | cons y K =>
   obtain ⟨l1, l2⟩ := List.pairwise_cons.1 hL
   obtain ⟨k1, k2⟩ := List.pairwise_cons.1 hK
   have e : x = y := by
    rcases List.mem_cons.1 ((h x).1 List.mem_cons_self) with a | a
    ·
     exact a
    ·
     rcases List.mem_cons.1 ((h y).2 List.mem_cons_self) with b | b
     ·
      exact b.symm
     ·
      have := l1 y b; have := k1 x a; omega
   subst e
   rw [ih l2 k2 (fun r => ?_)]
   constructor
   ·
    intro hr
    rcases List.mem_cons.1 ((h r).1 (List.mem_cons_of_mem _ hr)) with a | a
    ·
     subst a; have := l1 r hr; omega
    ·
     exact a
   ·
    intro hr
    rcases List.mem_cons.1 ((h r).2 (List.mem_cons_of_mem _ hr)) with a | a
    ·
     subst a; have := k1 r hr; omega
    ·
     exact a
theorem srt_le (L : List Int) : (srt L).Pairwise (· ≤ ·) := by
 have h := List.pairwise_mergeSort (le := fun x y : Int => decide (x ≤ y)) (fun a b c h1 h2 => by simp at *; omega) (fun a b => by simp; omega) L
 exact h.imp (fun h => by simpa using h)
theorem ascZ_ins {x : Int} : ∀ {L : List Int}, L.Pairwise (· < ·) → (ins ltZ x L).Pairwise (· < ·) ∧ x ∈ ins ltZ x L := by
 intro L
 induction L with
 | nil => intro _; exact ⟨List.pairwise_singleton _ _, List.mem_singleton.2 rfl⟩
 | cons y L ih =>
  intro h
  obtain ⟨h1, h2⟩ := List.pairwise_cons.1 h
  obtain ⟨i1, i2⟩ := ih h2
  unfold ins
  split
  ·
   rename_i hy
   refine ⟨List.pairwise_cons.2 ⟨fun z hz => ?_, i1⟩, List.mem_cons_of_mem _ i2⟩
   rcases ins_sub ltZ x L z hz with h3 | h3
   ·
    rw [h3]; simpa using hy
   ·
    exact h1 z h3
  ·
   rename_i hy
   split
   ·
    rename_i hxy
    have hxy' : x < y := by simpa using hxy
    refine ⟨List.pairwise_cons.2 ⟨fun z hz => ?_, h⟩, List.mem_cons_self⟩
    rcases List.mem_cons.1 hz with h3 | h3
    ·
     rw [h3]; exact hxy'
    ·
     have := h1 z h3; omega
   ·
    rename_i hxy
    have e : x = y := by simp at hy hxy; omega
    exact ⟨h, by rw [e]; exact List.mem_cons_self⟩
/-- The places, as they come. -/
def rawr (G : List Sg) (f sg off : Int) (r : Ro) : Nat → List Int
 | 0 => []
 | k + 1 => if r[k]! = sg then rawr G f sg off r k ++ [endR G f (r.take k) + off] else rawr G f sg off r k
def raws (G : List Sg) (f sg off : Int) (X : List Ro) : Nat → List Int
 | 0 => []
 | i + 1 => raws G f sg off X i ++ rawr G f sg off (X[i]!) (X[i]!).length
theorem rawr_len (G : List Sg) (f sg off : Int) (r : Ro) : ∀ k, (rawr G f sg off r k).length ≤ k
 | 0 => Nat.le_refl _
 | k + 1 => by
  have := rawr_len G f sg off r k
  unfold rawr
  split
  ·
   rw [List.length_append, List.length_singleton]; omega
  ·
   omega
theorem raws_len (G : List Sg) (f sg off : Int) (X : List Ro) (h : ∀ i, i < X.length → (X[i]!).length ≤ 12) : ∀ i, i ≤ X.length → (raws G f sg off X i).length ≤ 12 * i
 | 0, _ => Nat.le_refl _
 | i + 1, hi => by
  have h1 := raws_len G f sg off X h i (by omega)
  have h2 := rawr_len G f sg off (X[i]!) (X[i]!).length
  have h3 := h i (by omega)
  unfold raws
  rw [List.length_append]
  omega
theorem plr_raw {G : List Sg} {f sg off : Int} {r : Ro} {Q : List Int} (hQ : Q.Pairwise (· < ·)) : ∀ k, (plr G f sg off r Q k).Pairwise (· < ·) ∧ ∀ x, x ∈ plr G f sg off r Q k ↔ x ∈ Q ∨ x ∈ rawr G f sg off r k
 | 0 => ⟨hQ, fun x => by simp [plr, rawr]⟩
 | k + 1 => by
  obtain ⟨h1, h2⟩ := plr_raw (G := G) (f := f) (sg := sg) (off := off) (r := r) hQ k
  unfold plr rawr
  split
  ·
   obtain ⟨a1, a2⟩ := ascZ_ins (x := endR G f (r.take k) + off) h1
   refine ⟨a1, fun x => ⟨fun hx => ?_, fun hx => ?_⟩⟩
   ·
    rcases ins_sub ltZ _ _ x hx with e | e
    ·
     exact .inr (List.mem_append_right _ (by rw [e]; exact List.mem_singleton.2 rfl))
    ·
     exact ((h2 x).1 e).imp id (fun e => List.mem_append_left _ e)
   ·
    rcases hx with e | e
    ·
     exact ins_keep ltZ _ _ x ((h2 x).2 (.inl e))
    ·
     rcases List.mem_append.1 e with e | e
     ·
      exact ins_keep ltZ _ _ x ((h2 x).2 (.inr e))
     ·
      obtain rfl := List.mem_singleton.1 e; exact a2
  ·
   exact ⟨h1, h2⟩
theorem plc_raw {G : List Sg} {f sg off : Int} {X : List Ro} : ∀ i, (plc G f sg off X i).Pairwise (· < ·) ∧ ∀ x, x ∈ plc G f sg off X i ↔ x ∈ raws G f sg off X i
 | 0 => ⟨List.Pairwise.nil, fun x => Iff.rfl⟩
 | i + 1 => by
  obtain ⟨h1, h2⟩ := plc_raw (G := G) (f := f) (sg := sg) (off := off) (X := X) i
  obtain ⟨h3, h4⟩ := plr_raw (G := G) (f := f) (sg := sg) (off := off) (r := X[i]!) h1 (X[i]!).length
  refine ⟨h3, fun x => ?_⟩
  show x ∈ plr G f sg off (X[i]!) (plc G f sg off X i) (X[i]!).length ↔ x ∈ raws G f sg off X i ++ _
  rw [h4, h2, List.mem_append]
theorem plc_is {G : List Sg} {f sg off : Int} {X : List Ro} (i : Nat) : cmpct (srt (raws G f sg off X i)) = plc G f sg off X i := by
 obtain ⟨h1, h2⟩ := cmpct_asc (srt_le (raws G f sg off X i))
 obtain ⟨h3, h4⟩ := plc_raw (G := G) (f := f) (sg := sg) (off := off) (X := X) i
 exact ascZ_eq h1 h3 (fun x => by rw [h2, h4, List.mem_mergeSort])
/-! ### Routes in order -/
theorem l12_key {r : Ro} {i : Nat} (h : i < 12) : ([pad r 0, pad r 1, pad r 2, pad r 3, pad r 4, pad r 5, pad r 6, pad r 7, pad r 8, pad r 9, pad r 10, pad r 11] : List Int)[i]! = key r i := by
 unfold key
 rw [if_pos h]
 rcases (show i = 0 ∨ i = 1 ∨ i = 2 ∨ i = 3 ∨ i = 4 ∨ i = 5 ∨ i = 6 ∨ i = 7 ∨ i = 8 ∨ i = 9 ∨ i = 10 ∨ i = 11 by omega) with rfl | rfl | rfl | rfl | rfl | rfl | rfl | rfl | rfl | rfl | rfl | rfl <;> rfl
theorem cf_at {a b : Ro} {i : Nat} (hi : i < 13) (h : ∀ j, j < i → key a j = key b j) (hne : key a i ≠ key b i) : cfR a b = cmpZ (key a i) (key b i) := by
 unfold cfR
 by_cases h12 : i < 12
 ·
  have hz : cmpZ (key a i) (key b i) ≠ 0 := fun k => hne (cmpZ_zero.1 k)
  rw [cmpL_at (i := i) (by simpa using h12) (by simpa using h12) (fun j hj => by rw [l12_key (by omega), l12_key (by omega)]; exact h j hj) (by rw [l12_key h12, l12_key h12]; exact hz), l12_key h12, l12_key h12]
  unfold Roua.orZ
  rw [if_pos hz]
 ·
  obtain rfl : i = 12 := by omega
  rw [cmpL_same (L := [pad a 0, pad a 1, pad a 2, pad a 3, pad a 4, pad a 5, pad a 6, pad a 7, pad a 8, pad a 9, pad a 10, pad a 11]) (M := [pad b 0, pad b 1, pad b 2, pad b 3, pad b 4, pad b 5, pad b 6, pad b 7, pad b 8, pad b 9, pad b 10, pad b 11]) rfl (fun j hj => by have hj' : j < 12 := (by simpa using hj); rw [l12_key hj', l12_key hj']; exact h j hj')]
  rfl
theorem cf_same {a b : Ro} (h : ∀ i, i < 13 → key a i = key b i) : cfR a b = 0 := by
 unfold cfR
 rw [cmpL_same (L := [pad a 0, pad a 1, pad a 2, pad a 3, pad a 4, pad a 5, pad a 6, pad a 7, pad a 8, pad a 9, pad a 10, pad a 11]) (M := [pad b 0, pad b 1, pad b 2, pad b 3, pad b 4, pad b 5, pad b 6, pad b 7, pad b 8, pad b 9, pad b 10, pad b 11]) rfl (fun j hj => by have hj' : j < 12 := (by simpa using hj); rw [l12_key hj', l12_key hj']; exact h j (by omega))]
 have := h 12 (by omega)
 unfold key at this
 simp only [Nat.lt_irrefl, if_false] at this
 unfold Roua.orZ
 rw [if_neg (by simp), this]
 exact cmpZ_zero.2 rfl
theorem cf_lt {a b : Ro} : cfR a b < 0 ↔ Lt a b := by
 constructor
 ·
  intro h
  rcases lt_tri a b with k | k | k
  ·
   exact k
  ·
   obtain ⟨i, h1, h2, h3⟩ := k
   rw [cf_at h1 (fun j hj => (h2 j hj).symm) (by omega), cmpZ_neg] at h
   omega
  ·
   rw [cf_same k] at h; omega
 ·
  rintro ⟨i, h1, h2, h3⟩
  rw [cf_at h1 h2 (by omega), cmpZ_neg]
  exact h3
theorem lt_cf (a b : Ro) : ltOf cfR a b = true ↔ Lt a b := by unfold ltOf; rw [decide_eq_true_iff]; exact cf_lt
theorem lt_key {a b c : Ro} (h : ∀ i, i < 13 → key a i = key b i) (k : Lt a c) : Lt b c := by
 obtain ⟨i, h1, h2, h3⟩ := k
 exact ⟨i, h1, fun j hj => (h j (by omega)).symm.trans (h2 j hj), by rw [← h i h1]; exact h3⟩
theorem swoR : SWO (ltOf cfR) where
 irrefl x := by
  cases h : ltOf cfR x x with
  | false => rfl
  | true => exact absurd ((lt_cf x x).1 h) (lt_irrefl x)
 trans x y z h1 h2 := (lt_cf x z).2 (lt_trans ((lt_cf x y).1 h1) ((lt_cf y z).1 h2))
 ntrans x y z h1 h2 := by
  cases h : ltOf cfR x z with
  | false => rfl
  | true =>
   have hxz := (lt_cf x z).1 h
   have hxy : ¬ Lt x y := fun k => by rw [(lt_cf x y).2 k] at h1; cases h1
   have hyz : ¬ Lt y z := fun k => by rw [(lt_cf y z).2 k] at h2; cases h2
   rcases lt_tri x y with k | k | k
   ·
    exact absurd k hxy
   ·
    exact absurd (lt_trans k hxz) hyz
   ·
    exact absurd (lt_key k hxz) hyz
theorem cmpLays (blk off size : Nat) (w : World) : CmpLays Try.prog 28 #[] rt 13 cfR blk off size w := fun _ _ _ _ x y => compare_grown x y _
theorem flatR_toList (L : List Ro) : (flatK rt 13 L.toArray).toList = flat rt L := by
 apply List.ext_getElem?
 intro t
 by_cases ht : t < L.length * 13
 ·
  have e : t = t / 13 * 13 + t % 13 := by rw [Nat.mul_comm]; exact (Nat.div_add_mod t 13).symm
  have hd : t / 13 < L.length := by omega
  have hm : t % 13 < 13 := Nat.mod_lt _ (by decide)
  have h1 : (flatK rt 13 L.toArray).toList[t]? = some ((rt L[t / 13]!)[t % 13]!) := by
   have := get_flatK rt 13 L.toArray t (by simpa using ht)
   have hs : t < (flatK rt 13 L.toArray).size := by simpa using ht
   rw [Array.getElem?_toList, Array.getElem?_eq_getElem hs]
   rw [getElem!_pos _ t hs] at this
   rw [this]
   simp
  rw [h1]
  conv => rhs; rw [e]
  rw [flat_cell (enc := rt) (fun _ => rfl) L (t / 13) (t % 13) hd hm]
  have hl : t % 13 < (rt L[t / 13]!).length := by show _ < 13; exact hm
  rw [List.getElem?_eq_getElem hl, getElem!_pos _ (t % 13) hl]
 ·
  rw [List.getElem?_eq_none (by simpa using ht), List.getElem?_eq_none (by rw [flat_length (enc := rt) (size := 13) (fun _ => rfl)]; omega)]
section
variable {w0 w : World} {B : List Rw} {e : TypeId}
theorem sort_routes (o : Own) (L : List Ro) (hE : Env w0 w (o.rows e ++ B)) (hs : o.Has 13 L.length (flat rt L)) (hn : L.length ≤ 1000000) (h12 : ∀ r ∈ L, r.length ≤ 12) (hnd : L.Nodup) :
  Calls Try.prog 27 #[o.val L.length, .func (.func 28) #[] #[]] w fun k w' => ∃ z : Own × List Ro, (z.1.ptr = o.ptr ∧ z.1.cap = o.cap ∧ Asc z.2 ∧ (∀ r, r ∈ z.2 ↔ r ∈ L) ∧ z.2.length = L.length ∧ z.1.Has 13 L.length (flat rt z.2)) ∧ k = .returned (.tuple #[]) ∧ Env w0 w' (z.1.rows e ++ B) := by
 cases o with
 | none =>
  have h0 : L.length = 0 := hs.2
  have hL : L = [] := List.eq_nil_of_length_eq_zero h0
  subst hL
  have hcon := Go.Proofs.AnyF.slices_SortFunc_none sortR Option.none 0 (.func (.func 28) #[] #[]) w
  change Calls Try.prog 27 _ _ _ at hcon
  refine hcon.mono ?_
  rintro k w' ⟨rfl, rfl⟩
  exact ⟨(.none, []), ⟨rfl, rfl, List.Pairwise.nil, fun r => Iff.rfl, rfl, Own.has_none 13⟩, rfl, hE⟩
 | row g cap cur =>
  have eg : ∀ args w, (callFunc 28 args).run Try.prog w = .ok (.enter 28 args) w := enters_of Try.func28 (by kernel_rfl) rfl
  have hrow := Own.at (A := []) hE rfl (s := .row g cap cur) rfl
  have hH : HoldsK rt 13 w g 0 L.toArray := by
   intro j hj
   have hj' : j < L.length * 13 := by simpa using hj
   rw [Nat.zero_add]
   refine own_cell hE hs ?_
   rw [← flatR_toList L, Array.getElem?_toList, Array.getElem?_eq_getElem hj, getElem!_pos _ j hj]
   rfl
  have hcon := Go.Proofs.AnyQ.slices_SortFunc sortR 13 Try.isAgg78 Try.sizeOf78 rt (fun _ => rfl) rt_one cfR swoR 28 #[] g 0 cap L.toArray w eg (cmpLays g 0 L.toArray.size w) hH (lt_of_row hrow) (by simp; omega)
  change Calls Try.prog 27 _ _ _ at hcon
  rw [List.size_toArray] at hcon
  refine hcon.mono ?_
  rintro k w' ⟨rfl, d', m, os, hp, ho, rfl⟩
  have hsz : d'.size = L.length := by simpa using hp.1
  have hlen : d'.toList.length = L.length := by rw [Array.length_toList, hsz]
  have h := put_row (F := flatK rt 13 d') hE hs (by rw [size_flatK, hsz]) m os
  have ef : (flatK rt 13 d').toList = flat rt d'.toList := by rw [← flatR_toList d'.toList]
  rw [ef] at h
  have hperm : d'.toList.Perm L := by
   have h3 := hp.2.2
   rw [← hsz] at h3
   simp only [Array.extract_size] at h3
   rw [hsz] at h3
   simpa using h3
  have hmem : ∀ r, r ∈ d'.toList ↔ r ∈ L := fun r => hperm.mem_iff
  have hnd' : d'.toList.Nodup := hperm.nodup_iff.2 hnd
  refine ⟨(.row g cap (putCells id 0 (flatK rt 13 d') cur), d'.toList), ⟨rfl, rfl, ?_, hmem, hlen, h.1⟩, rfl, h.2⟩
  refine List.pairwise_iff_getElem.2 (fun i j hi hj hij => ?_)
  have h4 := ho i j (Nat.zero_le _) hij (by rw [← hlen]; exact hj)
  have e1 : d'.toList[i] = d'[i]! := by rw [getElem!_pos _ i (by simpa using hi)]; exact Array.getElem_toList _
  have e2 : d'.toList[j] = d'[j]! := by rw [getElem!_pos _ j (by simpa using hj)]; exact Array.getElem_toList _
  rw [← e1, ← e2] at h4
  have h5 : ¬ Lt d'.toList[j] d'.toList[i] := fun k => by rw [(lt_cf _ _).2 k] at h4; cases h4
  by_cases h6 : Lt d'.toList[i] d'.toList[j]
  ·
   exact h6
  ·
   have h7 := lt_tot (h12 _ ((hmem _).1 (List.getElem_mem hi))) (h12 _ ((hmem _).1 (List.getElem_mem hj))) h6 h5
   exact absurd h7 (fun k => by have := List.pairwise_iff_getElem.1 hnd' i j hi hj hij; exact this k)
end
end Go.Proofs.Ytjbhlcklgmgdpaa.Rsrt
