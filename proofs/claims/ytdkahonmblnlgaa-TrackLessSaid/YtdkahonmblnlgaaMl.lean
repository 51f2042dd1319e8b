/-
  The mail of a cycle, without a program: texts in memory, what is taken of them and what is counted; what comes behind frames of all kinds, or is none, changes nothing that was taken. No condition.
-/
import Derived.Test.YtdkahonmblnlgaaFr
import Derived.Test.YtdkahonmblnlgaaSc
namespace Go.Proofs.Ytdkahonmblnlgaa.Ml
open Go.ChangeShapes Go.WideShapes Go.ChangeAt Go.RowKit
open Arr Steady Sx Sw Sl Sb Sc Cr Fr
set_option linter.unusedVariables false
set_option linter.unusedSimpArgs false

/-! ### Texts in memory -/
/-- A text: where it begins, its bytes, its capacity. -/
structure Tx where
  p : Option Addr
  L : List UInt8
  c : Nat
instance : Inhabited Tx := ⟨⟨none, [], 0⟩⟩
def tx (t : Tx) : List Value := [.slice t.p t.L.length t.c]
theorem tx_one : ∀ x, ∀ u ∈ tx x, u.oneCell' = true := by
  intro x u hu
  simp only [tx, List.mem_singleton] at hu
  subst hu
  rfl
theorem tx_len (T : List Tx) : (flat tx T).length = T.length := by simpa using flat_length (enc := tx) (size := 1) (fun _ => rfl) T
theorem tx_len1 {T : List Tx} {n : Nat} (h : T.length = n) : (flat tx T).length = n * 1 := by rw [tx_len, h, Nat.mul_one]
theorem tx_map (T : List Tx) : flat tx T = T.map (fun t => Value.slice t.p t.L.length t.c) := by
  induction T with
  | nil => rfl
  | cons x r ih => simp only [flat, List.flatMap_cons, List.map_cons] at *; rw [ih]; rfl
theorem tx_take (T : List Tx) (k : Nat) : flat tx (T.take k) = (flat tx T).take k := by rw [tx_map, tx_map, List.map_take]
theorem tx_drop (T : List Tx) (k : Nat) : flat tx (T.drop k) = (flat tx T).drop k := by rw [tx_map, tx_map, List.map_drop]
theorem tx_take_len {T : List Tx} {n k : Nat} (h : T.length = n) (hk : k ≤ n) : (T.take k).length = k := by rw [List.length_take, h]; omega
theorem tx_drop_len {T : List Tx} {n k : Nat} (h : T.length = n) : (T.drop k).length = n - k := by rw [List.length_drop, h]
theorem tapp_len {T U : List Tx} {m n : Nat} (h : T.length = m) (h' : U.length = n) : (T ++ U).length = m + n := by rw [List.length_append, h, h']
/-- Each text reads as its bytes. -/
def OkT (w : World) (T : List Tx) : Prop := ∀ t ∈ T, Reads w t.p (flat ub t.L) ∧ t.L.length ≤ t.c ∧ t.c ≤ maxLen
theorem mem_at {T : List Tx} {i : Nat} (h : i < T.length) : T[i]! ∈ T := by rw [getElem!_pos T i h]; exact List.getElem_mem h
theorem ok_reads {w : World} {T : List Tx} (hT : OkT w T) {i : Nat} (h : i < T.length) : Reads w (T[i]!).p (flat ub (T[i]!).L) := (hT _ (mem_at h)).1
theorem ok_cap {w : World} {T : List Tx} (hT : OkT w T) {i : Nat} (h : i < T.length) : (T[i]!).L.length ≤ (T[i]!).c := (hT _ (mem_at h)).2.1
theorem ok_max {w : World} {T : List Tx} (hT : OkT w T) {i : Nat} (h : i < T.length) : (T[i]!).c ≤ maxLen := (hT _ (mem_at h)).2.2
theorem ok_nil (w : World) : OkT w [] := fun t ht => by cases ht
theorem ok_cons {w : World} {t : Tx} {T : List Tx} (h1 : Reads w t.p (flat ub t.L)) (h2 : t.L.length ≤ t.c) (h3 : t.c ≤ maxLen) (h : OkT w T) : OkT w (t :: T) := by
  intro x hx
  rcases List.mem_cons.1 hx with rfl | hx
  · exact ⟨h1, h2, h3⟩
  · exact h x hx
theorem ok_append {w : World} {T U : List Tx} (h : OkT w T) (h' : OkT w U) : OkT w (T ++ U) := by
  intro x hx
  rcases List.mem_append.1 hx with hx | hx
  · exact h x hx
  · exact h' x hx
theorem ok_take {w : World} {T : List Tx} (k : Nat) (h : OkT w T) : OkT w (T.take k) := fun t ht => h t (List.mem_of_mem_take ht)
theorem ok_drop {w : World} {T : List Tx} (k : Nat) (h : OkT w T) : OkT w (T.drop k) := fun t ht => h t (List.mem_of_mem_drop ht)
theorem ok_below {w w' : World} {T : List Tx} (h : OkT w T) (hb : Below w.heap.size w w') : OkT w' T := fun t ht => ⟨reads_below (h t ht).1 hb, (h t ht).2⟩
def Short (T : List Tx) : Prop := ∀ t ∈ T, t.L.length ≤ 300
theorem short_at {T : List Tx} (h : Short T) {i : Nat} (hi : i < T.length) : (T[i]!).L.length ≤ 300 := h _ (mem_at hi)
theorem short_take {T : List Tx} (k : Nat) (h : Short T) : Short (T.take k) := fun t ht => h t (List.mem_of_mem_take ht)
theorem short_drop {T : List Tx} (k : Nat) (h : Short T) : Short (T.drop k) := fun t ht => h t (List.mem_of_mem_drop ht)
theorem short_nil : Short [] := fun t ht => by cases ht
theorem short_cons {t : Tx} {T : List Tx} (h1 : t.L.length ≤ 300) (h : Short T) : Short (t :: T) := by
  intro x hx
  rcases List.mem_cons.1 hx with rfl | hx
  · exact h1
  · exact h x hx
theorem short_append {T U : List Tx} (h : Short T) (h' : Short U) : Short (T ++ U) := by
  intro x hx
  rcases List.mem_append.1 hx with hx | hx
  · exact h x hx
  · exact h' x hx
theorem tx_append (T U : List Tx) : flat tx T ++ flat tx U = flat tx (T ++ U) := (flat_append tx T U).symm
def ls (T : List Tx) : List (List UInt8) := T.map Tx.L
theorem ls_len (T : List Tx) : (ls T).length = T.length := by simp [ls]
theorem ls_append (T U : List Tx) : ls (T ++ U) = ls T ++ ls U := by simp [ls]
theorem ls_take (T : List Tx) (k : Nat) : ls (T.take k) = (ls T).take k := by simp [ls, List.map_take]
theorem ls_drop (T : List Tx) (k : Nat) : ls (T.drop k) = (ls T).drop k := by simp [ls, List.map_drop]
section
variable {P : Program} {w0 w : World} {R : List Rw} {p : Option Addr} {e : TypeId}
theorem sl_tx_take {T : List Tx} (k : Nat) (h : SlAt w0 R p (flat tx T)) : SlAt w0 R p (flat tx (T.take k)) := by
  intro w hE j u hj
  rw [tx_take, List.getElem?_take] at hj
  split at hj
  · exact h w hE j u hj
  · cases hj
theorem sl_tx_take_eq {T U : List Tx} (k : Nat) (he : T.take k = U) (h : SlAt w0 R p (flat tx T)) : SlAt w0 R p (flat tx U) := by
  rw [← he]
  exact sl_tx_take k h
theorem sl_tx_drop {T : List Tx} (k c : Nat) (hc : T.length ≤ c) (h : SlAt w0 R p (flat tx T)) : SlAt w0 R (subp p k c) (flat tx (T.drop k)) := by
  intro w hE j u hj
  rw [tx_drop, List.getElem?_drop] at hj
  have hlt : k + j < T.length := by
    have := (List.getElem?_eq_some_iff.1 hj).1
    rwa [tx_len] at this
  obtain ⟨b, rfl, hcell⟩ := h w hE _ _ hj
  unfold subp
  rw [if_neg (by omega)]
  exact ⟨b.add k, rfl, by rw [Go.Deep.add_add]; exact hcell⟩
theorem sl_txlit (i : Nat) {g : Nat} {cs : Array Value} {T : List Tx} (hi : R[i]? = some ⟨g, cs, e⟩) (hL : cs.toList = flat tx T) : SlAt w0 R (some ⟨g, 0, Option.none⟩) (flat tx T) := by
  rw [← hL]
  exact sl_row i hi
end

/-! ### What was taken -/
structure Ml where
  has : Nat → Bool
  val : Nat → Int
  bad : Nat
  stale : Nat
  twice : Nat
def upd {α : Type} (f : Nat → α) (k : Nat) (v : α) : Nat → α := fun j => if j = k then v else f j
/-- The row of a mail: six marks, six values, four counts. -/
def mrow (h : Nat → Bool) (v : Nat → Int) (b s t y : Int) : List Value :=
  [.bool (h 0), .bool (h 1), .bool (h 2), .bool (h 3), .bool (h 4), .bool (h 5), .int .i64 (v 0), .int .i64 (v 1), .int .i64 (v 2), .int .i64 (v 3), .int .i64 (v 4), .int .i64 (v 5), .int .i64 b, .int .i64 s, .int .i64 t, .int .i64 y]
abbrev mcells (m : Ml) (y : Nat) : List Value := mrow m.has m.val m.bad m.stale m.twice y
def b2i (b : Bool) : Int := if b then 1 else 0
/-- The row of the reference: the marks are numbers. -/
def rcells (m : Ml) (y : Nat) : List Value :=
  [.int .i64 (b2i (m.has 0)), .int .i64 (b2i (m.has 1)), .int .i64 (b2i (m.has 2)), .int .i64 (b2i (m.has 3)), .int .i64 (b2i (m.has 4)), .int .i64 (b2i (m.has 5)), .int .i64 (m.val 0), .int .i64 (m.val 1), .int .i64 (m.val 2), .int .i64 (m.val 3), .int .i64 (m.val 4), .int .i64 (m.val 5), .int .i64 (m.bad : Int), .int .i64 (m.stale : Int), .int .i64 (m.twice : Int), .int .i64 (y : Int)]
theorem six {k : Nat} (h : k < 6) : k = 0 ∨ k = 1 ∨ k = 2 ∨ k = 3 ∨ k = 4 ∨ k = 5 := by omega
theorem mrow_has (h : Nat → Bool) (v : Nat → Int) (b s t y : Int) {k : Nat} (hk : k < 6) : (mrow h v b s t y).toArray[k]? = some (.bool (h k)) := by
  rcases six hk with rfl | rfl | rfl | rfl | rfl | rfl <;> rfl
theorem mrow_val (h : Nat → Bool) (v : Nat → Int) (b s t y : Int) {k : Nat} (hk : k < 6) : (mrow h v b s t y).toArray[6 + k]? = some (.int .i64 (v k)) := by
  rcases six hk with rfl | rfl | rfl | rfl | rfl | rfl <;> rfl
theorem mrow_set_has (h : Nat → Bool) (v : Nat → Int) (b s t y : Int) {k : Nat} (hk : k < 6) (z : Bool) : (mrow h v b s t y).toArray.setIfInBounds k (.bool z) = (mrow (upd h k z) v b s t y).toArray := by
  rcases six hk with rfl | rfl | rfl | rfl | rfl | rfl <;> rfl
theorem mrow_set_val (h : Nat → Bool) (v : Nat → Int) (b s t y : Int) {k : Nat} (hk : k < 6) (z : Int) : (mrow h v b s t y).toArray.setIfInBounds (6 + k) (.int .i64 z) = (mrow h (upd v k z) b s t y).toArray := by
  rcases six hk with rfl | rfl | rfl | rfl | rfl | rfl <;> rfl
theorem rcells_has (m : Ml) (y : Nat) {k : Nat} (hk : k < 6) : (rcells m y).toArray[k]? = some (.int .i64 (b2i (m.has k))) := by
  rcases six hk with rfl | rfl | rfl | rfl | rfl | rfl <;> rfl
theorem rcells_val (m : Ml) (y : Nat) {k : Nat} (hk : k < 6) : (rcells m y).toArray[6 + k]? = some (.int .i64 (m.val k)) := by
  rcases six hk with rfl | rfl | rfl | rfl | rfl | rfl <;> rfl
theorem rcells_set_has (m : Ml) (y : Nat) {k : Nat} (hk : k < 6) : (rcells m y).toArray.setIfInBounds k (.int .i64 1) = (rcells { m with has := upd m.has k true } y).toArray := by
  rcases six hk with rfl | rfl | rfl | rfl | rfl | rfl <;> rfl
theorem rcells_set_val (m : Ml) (y : Nat) {k : Nat} (hk : k < 6) (z : Int) : (rcells m y).toArray.setIfInBounds (6 + k) (.int .i64 z) = (rcells { m with val := upd m.val k z } y).toArray := by
  rcases six hk with rfl | rfl | rfl | rfl | rfl | rfl <;> rfl
theorem mrow_one (h : Nat → Bool) (v : Nat → Int) (b s t y : Int) : (mrow h v b s t y).toArray.all (·.oneCell') = true := by simp [mrow, Value.oneCell']
theorem rcells_one (m : Ml) (y : Nat) : (rcells m y).toArray.all (·.oneCell') = true := by simp [rcells, Value.oneCell']
theorem b2i_one (b : Bool) : (b2i b == 1) = b := by cases b <;> rfl

def addBad (m : Ml) : Ml := ⟨m.has, m.val, m.bad + 1, m.stale, m.twice⟩
def addStale (m : Ml) : Ml := ⟨m.has, m.val, m.bad, m.stale + 1, m.twice⟩
def addTwice (m : Ml) : Ml := ⟨m.has, m.val, m.bad, m.stale, m.twice + 1⟩
def accept (m : Ml) (k : Nat) (v : Int) : Ml := ⟨upd m.has k true, upd m.val k v, m.bad, m.stale, m.twice⟩
def m0 : Ml := ⟨fun _ => false, fun _ => 0, 0, 0, 0⟩
/-- The place of a frame's kind. -/
def kn (L : List UInt8) : Nat := (getF L).1.toNat
theorem kn_cast (L : List UInt8) : (getF L).1 = (kn L : Int) := by
  unfold kn getF
  split
  · show hd L = ((hd L).toNat : Int)
    unfold hd
    omega
  · rfl
theorem kn_lt (L : List UInt8) : kn L < 6 := by
  unfold kn getF
  split
  · rename_i h
    have := ksize_pos (getE_zero h).2.1
    show (hd L).toNat < 6
    omega
  · decide
theorem kn_pos {L : List UInt8} (h : getE L = 0) : 1 ≤ kn L := by
  have := ksize_pos (getE_zero h).2.1
  unfold kn getF
  rw [if_pos h]
  show 1 ≤ (hd L).toNat
  omega
def mstep (s : Int) (m : Ml) (L : List UInt8) : Ml :=
  if getE L ≠ 0 then addBad m else if (getF L).2.1 ≠ s then addStale m else if m.has (kn L) = true then addTwice m else accept m (kn L) (getF L).2.2
theorem step_bad {s : Int} {m : Ml} {L : List UInt8} (h : getE L ≠ 0) : mstep s m L = addBad m := by unfold mstep; rw [if_pos h]
theorem step_stale {s : Int} {m : Ml} {L : List UInt8} (h : getE L = 0) (h1 : (getF L).2.1 ≠ s) : mstep s m L = addStale m := by unfold mstep; rw [if_neg (by omega), if_pos h1]
theorem step_twice {s : Int} {m : Ml} {L : List UInt8} (h : getE L = 0) (h1 : (getF L).2.1 = s) (h2 : m.has (kn L) = true) : mstep s m L = addTwice m := by unfold mstep; rw [if_neg (by omega), if_neg (by omega), if_pos h2]
theorem step_take {s : Int} {m : Ml} {L : List UInt8} (h : getE L = 0) (h1 : (getF L).2.1 = s) (h2 : m.has (kn L) = false) : mstep s m L = accept m (kn L) (getF L).2.2 := by unfold mstep; rw [if_neg (by omega), if_neg (by omega), if_neg (by rw [h2]; decide)]
def run (s : Int) (m : Ml) (X : List (List UInt8)) : Ml := X.foldl (mstep s) m
def sort (s : Int) (X : List (List UInt8)) : Ml := run s m0 (X.take 32)
theorem run_append (s : Int) (m : Ml) (X Y : List (List UInt8)) : run s m (X ++ Y) = run s (run s m X) Y := by unfold run; rw [List.foldl_append]
theorem run_snoc (s : Int) (T : List Tx) (i : Nat) (h : i < T.length) {m m' : Ml} (hm : m = run s m0 (ls (T.take i))) (h' : mstep s m (T[i]!).L = m') : m' = run s m0 (ls (T.take (i + 1))) := by
  rw [take_snoc T i h, ls_append, run_append, ← hm, ← h']
  rfl
theorem run_snoc2 (s : Int) (T : List Tx) (i : Nat) (h : i < T.length) (h32 : i < 32) {m m' : Ml} (hm : m = run s m0 (ls ((T.take 32).take i))) (h' : mstep s m (T[i]!).L = m') : m' = run s m0 (ls ((T.take 32).take (i + 1))) := by
  have hl : i < (T.take 32).length := by rw [List.length_take]; omega
  refine run_snoc s (T.take 32) i hl hm ?_
  have e : (T.take 32)[i]! = T[i]! := by rw [getElem!_pos _ i hl, getElem!_pos T i h, List.getElem_take]
  rw [e]
  exact h'
theorem run_high (s : Int) (T : List Tx) (i : Nat) (h32 : 32 ≤ i) {m : Ml} (hm : m = run s m0 (ls ((T.take 32).take i))) : m = run s m0 (ls ((T.take 32).take (i + 1))) := by
  rw [List.take_of_length_le (by rw [List.length_take]; omega)] at hm ⊢
  exact hm
theorem run_end (s : Int) (T : List Tx) (i : Nat) (h : T.length ≤ i) {m : Ml} (hm : m = run s m0 (ls ((T.take 32).take i))) : m = sort s (ls T) := by
  rw [List.take_of_length_le (by rw [List.length_take]; omega), ls_take] at hm
  exact hm
theorem run_end1 (s : Int) (T U : List Tx) (i n : Nat) (hn : T.length = n) (hU : T.take (n - (n - 32)) = U) (h : U.length ≤ i) {m : Ml} (hm : m = run s m0 (ls (U.take i))) : m = sort s (ls T) := by
  rw [List.take_of_length_le h, ← hU, ls_take] at hm
  rw [hm]
  unfold sort
  congr 1
  by_cases h32 : n ≤ 32
  · rw [List.take_of_length_le (by rw [ls_len]; omega), List.take_of_length_le (by rw [ls_len]; omega)]
  · congr 1
    omega
/-- What is told apart of a step. -/
theorem mstep_cases (s : Int) (m : Ml) (L : List UInt8) : mstep s m L = addBad m ∨ mstep s m L = addStale m ∨ (mstep s m L = addTwice m ∧ m.has (kn L) = true) ∨ (mstep s m L = accept m (kn L) (getF L).2.2 ∧ m.has (kn L) = false ∧ getE L = 0) := by
  unfold mstep
  split
  · exact .inl rfl
  · split
    · exact .inr (.inl rfl)
    · split
      · rename_i h
        exact .inr (.inr (.inl ⟨rfl, h⟩))
      · rename_i h0 _ h
        exact .inr (.inr (.inr ⟨rfl, by simpa using h, by omega⟩))
/-- How many kinds below k were taken. -/
def cnt (h : Nat → Bool) : Nat → Nat
  | 0 => 0
  | k + 1 => cnt h k + (if h k then 1 else 0)
theorem cnt_upd_high (h : Nat → Bool) (k j : Nat) (hj : j ≤ k) : cnt (upd h k true) j = cnt h j := by
  induction j with
  | zero => rfl
  | succ j ih =>
    show cnt (upd h k true) j + (if upd h k true j then 1 else 0) = cnt h j + (if h j then 1 else 0)
    have : upd h k true j = h j := by unfold upd; rw [if_neg (by omega)]
    rw [ih (by omega), this]
theorem cnt_upd (h : Nat → Bool) (k j : Nat) (hj : k < j) (hk : h k = false) : cnt (upd h k true) j = cnt h j + 1 := by
  induction j with
  | zero => omega
  | succ j ih =>
    show cnt (upd h k true) j + (if upd h k true j then 1 else 0) = cnt h j + (if h j then 1 else 0) + 1
    by_cases e : k = j
    · subst e
      rw [cnt_upd_high h k k (Nat.le_refl _), hk]
      unfold upd
      rw [if_pos rfl]
      simp
    · rw [ih (by omega)]
      have : upd h k true j = h j := by unfold upd; rw [if_neg (by omega)]
      rw [this]
      omega
def total (m : Ml) : Nat := m.bad + m.stale + m.twice + cnt m.has 6
theorem total_step (s : Int) (m : Ml) (L : List UInt8) : total (mstep s m L) = total m + 1 := by
  rcases mstep_cases s m L with h | h | ⟨h, _⟩ | ⟨h, h2, _⟩ <;> rw [h] <;> unfold total
  · show m.bad + 1 + m.stale + m.twice + cnt m.has 6 = _
    omega
  · show m.bad + (m.stale + 1) + m.twice + cnt m.has 6 = _
    omega
  · show m.bad + m.stale + (m.twice + 1) + cnt m.has 6 = _
    omega
  · show m.bad + m.stale + m.twice + cnt (upd m.has (kn L) true) 6 = _
    rw [cnt_upd m.has (kn L) 6 (kn_lt L) h2]
    omega
theorem total_run (s : Int) (X : List (List UInt8)) : ∀ m, total (run s m X) = total m + X.length := by
  induction X with
  | nil => intro m; rfl
  | cons L X ih =>
    intro m
    show total (run s (mstep s m L) X) = _
    rw [ih, total_step, List.length_cons]
    omega
theorem total_sort (s : Int) (X : List (List UInt8)) : total (sort s X) + (X.length - 32) = X.length := by
  unfold sort
  rw [total_run, List.length_take]
  show 0 + _ + _ = _
  omega
/-- Frames of all kinds were taken: what comes behind takes nothing more. -/
def Full (m : Ml) : Prop := ∀ k, 1 ≤ k → k < 6 → m.has k = true
theorem full_step {s : Int} {m : Ml} (h : Full m) (L : List UInt8) : Full (mstep s m L) ∧ (mstep s m L).has = m.has ∧ (mstep s m L).val = m.val := by
  rcases mstep_cases s m L with e | e | ⟨e, _⟩ | ⟨e, h2, h0⟩
  · rw [e]; exact ⟨h, rfl, rfl⟩
  · rw [e]; exact ⟨h, rfl, rfl⟩
  · rw [e]; exact ⟨h, rfl, rfl⟩
  · rw [h _ (kn_pos h0) (kn_lt L)] at h2; cases h2
theorem full_run {s : Int} (X : List (List UInt8)) : ∀ {m : Ml}, Full m → (run s m X).has = m.has ∧ (run s m X).val = m.val := by
  induction X with
  | nil => intro m _; exact ⟨rfl, rfl⟩
  | cons L X ih =>
    intro m h
    obtain ⟨h1, h2, h3⟩ := full_step (s := s) h L
    obtain ⟨i1, i2⟩ := ih h1
    exact ⟨i1.trans h2, i2.trans h3⟩
/-- Two mails of which the same was taken. -/
structure Same (d : Nat) (a b : Ml) : Prop where
  has : a.has = b.has
  val : a.val = b.val
  twice : a.twice = b.twice
  wrong : b.bad + b.stale = a.bad + a.stale + d
theorem same_step {d : Nat} {a b : Ml} (h : Same d a b) (s : Int) (L : List UInt8) : Same d (mstep s a L) (mstep s b L) := by
  obtain ⟨h1, h2, h3, h4⟩ := h
  unfold mstep
  rw [h1]
  split
  · exact ⟨h1, h2, h3, by show b.bad + 1 + b.stale = a.bad + 1 + a.stale + d; omega⟩
  · split
    · exact ⟨h1, h2, h3, by show b.bad + (b.stale + 1) = a.bad + (a.stale + 1) + d; omega⟩
    · split
      · exact ⟨h1, h2, by show a.twice + 1 = b.twice + 1; omega, h4⟩
      · exact ⟨by show upd a.has _ true = upd b.has _ true; rw [h1], by show upd a.val _ _ = upd b.val _ _; rw [h2], h3, h4⟩
theorem same_run {d : Nat} (s : Int) (X : List (List UInt8)) : ∀ {a b : Ml}, Same d a b → Same d (run s a X) (run s b X) := by
  induction X with
  | nil => intro a b h; exact h
  | cons L X ih => intro a b h; exact ih (same_step h s L)
theorem same_junk {s : Int} {J : List UInt8} (h : getE J ≠ 0 ∨ (getF J).2.1 ≠ s) (m : Ml) : Same 1 m (mstep s m J) := by
  unfold mstep
  split
  · exact ⟨rfl, rfl, rfl, by show m.bad + 1 + m.stale = m.bad + m.stale + 1; omega⟩
  · rw [if_pos (by omega)]
    exact ⟨rfl, rfl, rfl, by show m.bad + (m.stale + 1) = m.bad + m.stale + 1; omega⟩
theorem same_sort {s : Int} {J : List UInt8} (h : getE J ≠ 0 ∨ (getF J).2.1 ≠ s) (X Y : List (List UInt8)) (hl : X.length + Y.length ≤ 31) : Same 1 (sort s (X ++ Y)) (sort s (X ++ [J] ++ Y)) := by
  unfold sort
  rw [List.take_of_length_le (by simp; omega), List.take_of_length_le (by simp; omega), run_append, run_append, run_append]
  exact same_run s Y (same_junk h _)
theorem counts_run (s : Int) (X : List (List UInt8)) : (run s m0 X).bad ≤ X.length ∧ (run s m0 X).stale ≤ X.length ∧ (run s m0 X).twice ≤ X.length := by
  have h := total_run s X m0
  have h0 : total m0 = 0 := rfl
  rw [h0, Nat.zero_add] at h
  unfold total at h
  omega
theorem counts_sort (s : Int) (X : List (List UInt8)) : (sort s X).bad ≤ 32 ∧ (sort s X).stale ≤ 32 ∧ (sort s X).twice ≤ 32 := by
  have h := counts_run s (X.take 32)
  rw [List.length_take] at h
  unfold sort
  omega
/-- Frames of which one came of each kind. -/
theorem kn_put {k s v : Int} (h : putE k s v = 0) : kn (putL k s v) = k.toNat := by unfold kn; rw [(get_put h).2]
theorem step_put {k s v : Int} {m : Ml} (h : putE k s v = 0) (h2 : m.has k.toNat = false) : mstep s m (putL k s v) = accept m k.toNat v := by
  have h3 := (get_put h).2
  rw [step_take (get_put h).1 (by rw [h3]) (by rw [kn_put h]; exact h2), kn_put h, h3]
def five (v1 v2 v3 v4 v5 : Int) : Ml := accept (accept (accept (accept (accept m0 1 v1) 2 v2) 3 v3) 4 v4) 5 v5
theorem run_five {s v1 v2 v3 v4 v5 : Int} (h1 : putE 1 s v1 = 0) (h2 : putE 2 s v2 = 0) (h3 : putE 3 s v3 = 0) (h4 : putE 4 s v4 = 0) (h5 : putE 5 s v5 = 0) :
    run s m0 [putL 1 s v1, putL 2 s v2, putL 3 s v3, putL 4 s v4, putL 5 s v5] = five v1 v2 v3 v4 v5 := by
  show mstep s (mstep s (mstep s (mstep s (mstep s m0 _) _) _) _) _ = _
  rw [step_put h1 rfl, step_put h2 rfl, step_put h3 rfl, step_put h4 rfl, step_put h5 rfl]
  rfl
theorem full_five (v1 v2 v3 v4 v5 : Int) : Full (five v1 v2 v3 v4 v5) := by
  intro k h1 h2
  rcases six h2 with rfl | rfl | rfl | rfl | rfl | rfl
  · omega
  all_goals rfl
theorem sort_five {s v1 v2 v3 v4 v5 : Int} (h1 : putE 1 s v1 = 0) (h2 : putE 2 s v2 = 0) (h3 : putE 3 s v3 = 0) (h4 : putE 4 s v4 = 0) (h5 : putE 5 s v5 = 0) (X : List (List UInt8)) :
    (sort s ([putL 1 s v1, putL 2 s v2, putL 3 s v3, putL 4 s v4, putL 5 s v5] ++ X)).has = (five v1 v2 v3 v4 v5).has ∧ (sort s ([putL 1 s v1, putL 2 s v2, putL 3 s v3, putL 4 s v4, putL 5 s v5] ++ X)).val = (five v1 v2 v3 v4 v5).val := by
  unfold sort
  have e : ([putL 1 s v1, putL 2 s v2, putL 3 s v3, putL 4 s v4, putL 5 s v5] ++ X).take 32 = [putL 1 s v1, putL 2 s v2, putL 3 s v3, putL 4 s v4, putL 5 s v5] ++ X.take 27 := by
    rw [List.take_append]
    rfl
  rw [e, run_append, run_five h1 h2 h3 h4 h5]
  exact full_run _ (full_five v1 v2 v3 v4 v5)
end Go.Proofs.Ytdkahonmblnlgaa.Ml
