/-
  slices.SortFunc at []span.Span under the order by Lo: what it leaves is a permutation, in order. Condition: fewer than 2^62 spans.
-/
import Derived.Shelf.SlGeneric
import Derived.Shelf.SlSortCmp.NoneTotal
import Derived.Test.YtlfienfjdjfcoaaSpn
import Derived.Test.YtlfienfjdjfcoaaVs2
namespace Go.Proofs.Ytlfienfjdjfcoaa.Srt
open Go.Shelf Go.RowKit Go.Lib Go.Sort
open Arr Steady Sx Sw Sl Vs
set_option linter.unusedVariables false
set_option maxRecDepth 100000

def sortSpans_ren : Go.Shelf.Ren := ⟨fun | 6 => 36 | 15 => 41 | 14 => 40 | 28 => 52 | 29 => 53 | 20 => 44 | 21 => 45 | 22 => 46 | 23 => 47 | 24 => 48 | 25 => 49 | 26 => 50 | 27 => 51 | 46 => 54 | 47 => 55 | 48 => 56 | 49 => 57 | 50 => 58 | 57 => 59 | n => n, fun | 22 => 48 | 24 => 23 | 25 => 71 | 3 => 3 | 39 => 75 | 0 => 0 | 53 => 85 | 55 => 45 | 4 => 4 | 46 => 78 | 45 => 77 | 50 => 82 | 5 => 5 | 9 => 9 | 66 => 87 | 70 => 90 | 76 => 92 | 77 => 93 | n => n, fun | n => n⟩
theorem sortSpans : Go.Proofs.SlLaysF0.n6 Try.prog sortSpans_ren := {
  mixed := by kernel_rfl
  f6 := ⟨Try.f36.name, by decide, Try.func36.trans (congrArg some (by kernel_rfl))⟩
  f14 := ⟨Try.f40.name, by decide, Try.func40.trans (congrArg some (by kernel_rfl))⟩
  f15 := Try.func41.trans (congrArg some (by kernel_rfl))
  f20 := ⟨Try.f44.name, by decide, Try.func44.trans (congrArg some (by kernel_rfl))⟩
  f21 := ⟨Try.f45.name, by decide, Try.func45.trans (congrArg some (by kernel_rfl))⟩
  f22 := ⟨Try.f46.name, by decide, Try.func46.trans (congrArg some (by kernel_rfl))⟩
  f23 := ⟨Try.f47.name, by decide, Try.func47.trans (congrArg some (by kernel_rfl))⟩
  f24 := ⟨Try.f48.name, by decide, Try.func48.trans (congrArg some (by kernel_rfl))⟩
  f25 := ⟨Try.f49.name, by decide, Try.func49.trans (congrArg some (by kernel_rfl))⟩
  f26 := ⟨Try.f50.name, by decide, Try.func50.trans (congrArg some (by kernel_rfl))⟩
  f27 := ⟨Try.f51.name, by decide, Try.func51.trans (congrArg some (by kernel_rfl))⟩
  f28 := Try.func52.trans (congrArg some (by kernel_rfl))
  f29 := Try.func53.trans (congrArg some (by kernel_rfl))
  f46 := ⟨Try.f54.name, by decide, Try.func54.trans (congrArg some (by kernel_rfl))⟩
  f47 := Try.func55.trans (congrArg some (by kernel_rfl))
  f48 := Try.func56.trans (congrArg some (by kernel_rfl))
  f49 := ⟨Try.f57.name, by decide, Try.func57.trans (congrArg some (by kernel_rfl))⟩
  f50 := ⟨Try.f58.name, by decide, Try.func58.trans (congrArg some (by kernel_rfl))⟩
  f57 := ⟨Try.f59.name, by decide, Try.func59.trans (congrArg some (by kernel_rfl))⟩
  t0 := Try.underlying0
  a0 := Try.isAgg0
  z0 := Try.sizeOf0
  v0 := Try.zeroValue0
  t3 := Try.underlying3
  a3 := Try.isAgg3
  z3 := Try.sizeOf3
  v3 := Try.zeroValue3
  t4 := Try.underlying4
  a4 := Try.isAgg4
  z4 := Try.sizeOf4
  v4 := Try.zeroValue4
  t5 := Try.underlying5
  a5 := Try.isAgg5
  z5 := Try.sizeOf5
  v5 := Try.zeroValue5
  t9 := Try.underlying9
  a9 := Try.isAgg9
  z9 := Try.sizeOf9
  v9 := Try.zeroValue9
  t22 := Try.underlying48
  a22 := Try.isAgg48
  z22 := Try.sizeOf48
  v22 := Try.zeroValue48
  t25 := Try.underlying71
  a25 := Try.isAgg71
  z25 := Try.sizeOf71
  v25 := Try.zeroValue71
  t39 := Try.underlying75
  a39 := Try.isAgg75
  z39 := Try.sizeOf75
  v39 := Try.zeroValue75
  t45 := Try.underlying77
  a45 := Try.isAgg77
  z45 := Try.sizeOf77
  v45 := Try.zeroValue77
  t46 := Try.underlying78
  a46 := Try.isAgg78
  z46 := Try.sizeOf78
  v46 := Try.zeroValue78
  t50 := Try.underlying82
  a50 := Try.isAgg82
  z50 := Try.sizeOf82
  v50 := Try.zeroValue82
  t53 := Try.underlying85
  a53 := Try.isAgg85
  z53 := Try.sizeOf85
  v53 := Try.zeroValue85
  t55 := Try.underlying45
  a55 := Try.isAgg45
  z55 := Try.sizeOf45
  v55 := Try.zeroValue45
  t66 := Try.underlying87
  a66 := Try.isAgg87
  z66 := Try.sizeOf87
  v66 := Try.zeroValue87
  t70 := Try.underlying90
  a70 := Try.isAgg90
  z70 := Try.sizeOf90
  v70 := Try.zeroValue90
  t76 := Try.underlying92
  a76 := Try.isAgg92
  z76 := Try.sizeOf92
  v76 := Try.zeroValue92
  t77 := Try.underlying93
  a77 := Try.isAgg93
  z77 := Try.sizeOf93
  v77 := Try.zeroValue93 }

theorem nan_any (x : Int) (w : World) : Calls Try.prog 42 #[.int .i64 x] w fun e w' => e = .returned (.bool false) ∧ w' = w := by
  go_enter Try.func42, Try.ntmps42
  go_wp2
  go_ret
  exact ⟨by simp, rfl⟩
set_option maxHeartbeats 1000000 in
theorem compare_any (x y : Int) (w : World) : Calls Try.prog 38 #[.int .i64 x, .int .i64 y] w fun e w' => e = .returned (.int .i64 (Lib.compareInt x y)) ∧ w' = w := by
  go_enter Try.func38, Try.ntmps38
  go_wp2_with (go_at_call 42; refine (nan_any _ _).mono ?_; rintro e w' ⟨rfl, hw⟩; rw [hw])
  all_goals (go_ret; refine ⟨?_, rfl⟩; unfold Lib.compareInt; (repeat' split) <;> first | rfl | (exfalso; omega))
set_option maxHeartbeats 1000000 in
theorem closure_any (x y : Int × Int) (W : World) : Calls Try.prog 37 #[.agg #[.int .i64 x.1, .int .i64 x.2], .agg #[.int .i64 y.1, .int .i64 y.2]] W fun e w' => e = .returned (.int .i64 (Lib.compareInt x.1 y.1)) ∧ ∃ q os', w' = grow (W.drewN q) os' := by
  have hcon := fun W' => compare_any x.1 y.1 W'
  generalize Lib.compareInt x.1 y.1 = r at hcon ⊢
  go_enter Try.func37, Try.ntmps37
  go_wp2_with (go_at_call 38; refine (hcon _).mono ?_; rintro e w' ⟨rfl, rfl⟩)
  go_ret
  exact ⟨rfl, 0, _, by rw [alloc_eq_grow, alloc_eq_grow, grow_grow]; rfl⟩
theorem cmpLays (blk off size : Nat) (w : World) : CmpLays Try.prog 37 #[] enc2 2 (fun x y => Lib.compareInt x.1 y.1) blk off size w := fun _ _ _ _ x y => closure_any x y _
theorem ltLo (x y : Int × Int) : ltOf (fun x y : Int × Int => Lib.compareInt x.1 y.1) x y = decide (x.1 < y.1) := by
  unfold ltOf Lib.compareInt
  by_cases h1 : x.1 < y.1
  · simp [h1]
  · by_cases h2 : y.1 < x.1 <;> simp [h1, h2]
theorem swoLo : SWO (ltOf fun x y : Int × Int => Lib.compareInt x.1 y.1) where
  irrefl x := by rw [ltLo]; simp
  trans x y z h1 h2 := by rw [ltLo] at *; simp at *; omega
  ntrans x y z h1 h2 := by rw [ltLo] at *; simp at *; omega
/-- The row, its cells turned. -/
def turn (s : Own) (c : Array Value) : Own := match s with | .none => .none | .row g cap _ => .row g cap c
theorem turn_val (s : Own) (c : Array Value) (n : Nat) : (turn s c).val n = s.val n := by cases s <;> rfl
theorem flatK_toList {α : Type} [Inhabited α] {enc : α → List Value} {k : Nat} (hk : ∀ x, (enc x).length = k) (h0 : 0 < k) (L : List α) : (flatK enc k L.toArray).toList = flat enc L := by
  apply List.ext_getElem?
  intro t
  by_cases ht : t < L.length * k
  · have e : t = t / k * k + t % k := by rw [Nat.mul_comm]; exact (Nat.div_add_mod t k).symm
    have hd : t / k < L.length := (Nat.div_lt_iff_lt_mul h0).2 ht
    have hm : t % k < k := Nat.mod_lt _ h0
    have h1 : (flatK enc k L.toArray).toList[t]? = some ((enc L[t / k]!)[t % k]!) := by
      have := get_flatK enc k L.toArray t (by simpa using ht)
      have hs : t < (flatK enc k L.toArray).size := by simpa using ht
      rw [Array.getElem?_toList, Array.getElem?_eq_getElem hs]
      rw [getElem!_pos _ t hs] at this
      rw [this]
      simp
    rw [h1]
    conv => rhs; rw [e]
    rw [flat_cell hk L (t / k) (t % k) hd hm]
    have hl : t % k < (enc L[t / k]!).length := by rw [hk]; exact hm
    rw [List.getElem?_eq_getElem hl, getElem!_pos _ (t % k) hl]
  · rw [List.getElem?_eq_none (by simpa using ht), List.getElem?_eq_none (by rw [flat_length hk]; omega)]
section
variable {w0 w : World} {A B : List Rw} {e : TypeId}
theorem sorted_row {g cap : Nat} {cur : Array Value} {L M : Spans} (hE : Env w0 w (A ++ ((Own.row g cap cur).rows e ++ B))) (hs : (Own.row g cap cur).Has 2 L.length (flat enc2 L)) (hM : M.length = L.length) (m : Nat) (os : Array Obj) :
    (turn (.row g cap cur) (putCells id 0 (flatK enc2 2 M.toArray) cur)).Has 2 L.length (flat enc2 M) ∧ Env w0 (sortWorldK enc2 2 w g 0 m M.toArray os) (A ++ ((turn (.row g cap cur) (putCells id 0 (flatK enc2 2 M.toArray) cur)).rows e ++ B)) := by
  obtain ⟨hl, hn, hc, hz, ht⟩ := hs
  have hrow := Own.at hE rfl (s := .row g cap cur) rfl
  have hlt := lt_of_row hrow
  have hsz : (putCells id 0 (flatK enc2 2 M.toArray) cur).size = cur.size := by simp [putCells]
  have hle : L.length * 2 ≤ cap * 2 := Nat.mul_le_mul_right 2 hn
  refine ⟨⟨by rw [flat_length (enc := enc2) (size := 2) (fun _ => rfl), hM], hn, hc, by rw [hsz, hz], ?_⟩, Env.own_step (s := .row g cap cur) hE ⟨rfl, rfl, rfl, ?_, fun k hk hne => ?_⟩ (fun g' c' k' hh => ?_)⟩
  · rw [← flatK_toList (enc := enc2) (k := 2) (fun _ => rfl) (by decide) M]
    apply List.ext_getElem?
    intro t
    rw [List.getElem?_take]
    split
    · rename_i htl
      rw [Array.getElem?_toList, Array.getElem?_toList]
      have h1 : t < (flatK enc2 2 M.toArray).size := by rw [size_flatK]; simpa [hM] using htl
      simp only [putCells, Array.getElem?_mapIdx]
      rw [Array.getElem?_eq_getElem (show t < cur.size by omega), Option.map_some, if_pos ⟨by omega, by omega⟩, Array.getElem?_eq_getElem h1, Nat.sub_zero, getElem!_pos _ t h1]
      rfl
    · rename_i htl
      rw [List.getElem?_eq_none (by rw [Array.length_toList, size_flatK]; simp [hM]; omega)]
  · show w.heap.size ≤ (sortWorldK enc2 2 w g 0 m M.toArray os).heap.size
    unfold sortWorldK
    rw [size_grow, size_putRowK]
    exact Nat.le_add_right _ _
  · have hgk : g ≠ k := fun e => hne (by rw [e]; rfl)
    show (((Sort.ahead w m).heap.modify g _) ++ os)[k]? = _
    rw [Array.getElem?_append_left (by simpa using hk), Array.getElem?_modify, if_neg hgk]
    rfl
  · cases hh
    refine ⟨?_, .inl ⟨_, _, rfl⟩⟩
    show (((Sort.ahead w m).heap.modify g _) ++ os)[g]? = _
    rw [Array.getElem?_append_left (by simpa using hlt), Array.getElem?_modify, if_pos rfl]
    show Option.map _ (w.heap[g]?) = _
    rw [hrow]
    rfl
theorem sort_any (s : Own) (L : Spans) (hE : Env w0 w (A ++ (s.rows e ++ B))) (hs : s.Has 2 L.length (flat enc2 L)) (hn : L.length ≤ 1000000) :
    Calls Try.prog 36 #[s.val L.length, .func (.func 37) #[] #[]] w fun k w' => ∃ j : Spans × Array Value, (j.1.Perm L ∧ Ordered j.1 ∧ (turn s j.2).Has 2 L.length (flat enc2 j.1)) ∧ k = .returned (.tuple #[]) ∧ Env w0 w' (A ++ ((turn s j.2).rows e ++ B)) := by
  cases s with
  | none =>
    have h0 : L.length = 0 := hs.2
    have hL : L = [] := List.eq_nil_of_length_eq_zero h0
    subst hL
    have hcon := Go.Proofs.AnyF.slices_SortFunc_none sortSpans Option.none 0 (.func (.func 37) #[] #[]) w
    change Calls Try.prog 36 _ _ _ at hcon
    refine hcon.mono ?_
    rintro k w' ⟨rfl, rfl⟩
    exact ⟨([], #[]), ⟨List.Perm.refl _, fun i j _ hj => by simp at hj, hs⟩, rfl, hE⟩
  | row g cap cur =>
    have eg : ∀ args w, (callFunc 37 args).run Try.prog w = .ok (.enter 37 args) w := enters_of Try.func37 (by kernel_rfl) rfl
    have hrow := Own.at hE rfl (s := .row g cap cur) rfl
    have hS := sl_own A B hs (R := A ++ ((Own.row g cap cur).rows e ++ B)) rfl w hE
    have hH : HoldsK enc2 2 w g 0 L.toArray := by
      intro j hj
      have hj' : j < L.length * 2 := by simpa using hj
      refine ⟨?_, by rw [Nat.zero_add]; exact frozen_of_row w g j cur e hrow⟩
      have hc : (flat enc2 L)[j]? = some ((flatK enc2 2 L.toArray)[j]!) := by
        rw [← flatK_toList (enc := enc2) (k := 2) (fun _ => rfl) (by decide) L, Array.getElem?_toList, Array.getElem?_eq_getElem hj, getElem!_pos _ j hj]
      obtain ⟨b, hb, hcell⟩ := hS j _ hc
      cases hb
      have hadd : (⟨g, 0, Option.none⟩ : Addr).add j = ⟨g, j, Option.none⟩ := by unfold Addr.add; split <;> simp_all
      rw [hadd] at hcell
      rw [Nat.zero_add]
      exact hcell
    have hcon := Go.Proofs.AnyQ.slices_SortFunc sortSpans 2 Try.isAgg23 Try.sizeOf23 enc2 (fun _ => rfl) enc2_one (fun x y => Lib.compareInt x.1 y.1) swoLo 37 #[] g 0 cap L.toArray w eg (cmpLays g 0 L.toArray.size w) hH (lt_of_row hrow) (by simp; omega)
    change Calls Try.prog 36 _ _ _ at hcon
    rw [List.size_toArray] at hcon
    refine hcon.mono ?_
    rintro k w' ⟨rfl, d', m, os, hp, ho, rfl⟩
    have hsz : d'.size = L.length := by simpa using hp.1
    have hlen : d'.toList.length = L.length := by rw [Array.length_toList, hsz]
    have h := sorted_row (M := d'.toList) hE hs hlen m os
    refine ⟨(d'.toList, putCells id 0 (flatK enc2 2 d') cur), ⟨?_, ?_, h.1⟩, rfl, h.2⟩
    · have h3 := hp.2.2
      rw [← hsz] at h3
      simp only [Array.extract_size] at h3
      rw [hsz] at h3
      simpa using h3
    · intro i j hij hj
      have hj' : j < L.length := by rw [← hlen]; exact hj
      have := ho i j (Nat.zero_le _) hij hj'
      rw [ltLo] at this
      have h4 := of_decide_eq_false this
      have e1 : d'.toList[i]! = d'[i]! := by rw [getElem!_pos _ i (by omega), getElem!_pos _ i (by omega)]; exact Array.getElem_toList _
      have e2 : d'.toList[j]! = d'[j]! := by rw [getElem!_pos _ j (by omega), getElem!_pos _ j (by omega)]; exact Array.getElem_toList _
      show (d'.toList[i]!).1 ≤ (d'.toList[j]!).1
      rw [e1, e2]
      omega
end
end Go.Proofs.Ytlfienfjdjfcoaa.Srt
