/-
  Frames: what a call of Put or Get hands back, told for one call; the document's example. Condition: at most a million bytes.
-/
import Derived.Test.YtggdmchhnnjfiaaFref
import Derived.Test.YtggdmchhnnjfiaaFrm
namespace Go.Proofs.Ytggdmchhnnjfiaa.Flaw
open Go.ChangeShapes Go.WideShapes Go.ChangeAt Go.RowKit
open Arr Steady Sx Sw Sl Sb Sc Cr Crc Cref Fr Fref Frm
set_option linter.unusedVariables false
set_option linter.unusedSimpArgs false
set_option maxRecDepth 100000

theorem i64_of_wf {a : Int} (h : (Lit.int .i64 a).wf = true) : -9223372036854775808 ≤ a ∧ a ≤ 9223372036854775807 := by
  simpa [Lit.wf, IntKind.min, IntKind.max, IntKind.bits, IntKind.signed] using h
theorem kind_in {k s v : Int} (h : putE k s v = 0) : -9223372036854775808 ≤ k ∧ k ≤ 9223372036854775807 := by
  have := ksize_pos (putE_zero h).1
  omega
theorem put_yes {k s v : Int} (h : putE k s v = 0) {n : Nat} (hn : (putL k s v).length = n) (w : World) :
    Calls Try.prog 15 #[.agg #[.int .i64 k, .int .i64 s, .int .i64 v]] w fun e w' => ∃ g : Nat, True ∧ e = .returned (.tuple #[.slice (some ⟨g, 0, none⟩) n n, .int .i64 0]) ∧ Env w w' [⟨g, (flat ub (putL k s v)).toArray, 5⟩] := by
  subst hn
  refine (put_any k s v w (kind_in h)).mono ?_
  rintro e w' (⟨g, _, h1, h2⟩ | ⟨h1, _⟩)
  · exact ⟨g, trivial, h1, h2⟩
  · exact absurd h h1
theorem put_no {k s v : Int} (hk : -9223372036854775808 ≤ k ∧ k ≤ 9223372036854775807) (h : putE k s v ≠ 0) (w : World) :
    Calls Try.prog 15 #[.agg #[.int .i64 k, .int .i64 s, .int .i64 v]] w fun e w' => e = .returned (.tuple #[.slice none 0 0, .int .i64 ((putE k s v : Nat) : Int)]) ∧ Below w.heap.size w w' := by
  refine (put_any k s v w hk).mono ?_
  rintro e w' (⟨g, h1, _⟩ | ⟨_, h1, h2⟩)
  · exact absurd h1 h
  · exact ⟨h1, h2⟩
theorem get_back {k s v : Int} (h : putE k s v = 0) (p : Option Addr) (n c : Nat) (w : World) (hl : (putL k s v).length = n) (hL : Reads w p (flat ub (putL k s v))) (hn : n ≤ 1000000) (hc : n ≤ c) :
    Calls Try.prog 16 #[.slice p n c] w fun e w' => e = .returned (.tuple #[.agg #[.int .i64 k, .int .i64 s, .int .i64 v], .int .i64 0]) ∧ Below w.heap.size w w' := by
  have h1 := Frm.get_at _ p n c w hl hL hn hc
  rw [(get_put h).1, (get_put h).2] at h1
  exact h1
theorem put_back {L : List UInt8} (h : getE L = 0) (w : World) :
    Calls Try.prog 15 #[.agg #[.int .i64 (getF L).1, .int .i64 (getF L).2.1, .int .i64 (getF L).2.2]] w fun e w' => ∃ g : Nat, True ∧ e = .returned (.tuple #[.slice (some ⟨g, 0, none⟩) L.length L.length, .int .i64 0]) ∧ Env w w' [⟨g, (flat ub L).toArray, 5⟩] := by
  obtain ⟨h1, h2⟩ := put_get h
  rw [Frm.getF_yes h]
  have h3 := put_yes h1 (n := L.length) (by rw [h2]) w
  rw [h2] at h3
  exact h3
theorem putL_bounds (k s v : Int) : 7 ≤ (putL k s v).length ∧ (putL k s v).length ≤ 9 := by
  rw [putL_length]
  split <;> omega
theorem a_len : (putL 1 7 258).length = 7 := putL_size (k := 1) (s := 7) (v := 258) (by decide)
theorem a_take : (putL 1 7 258).take 5 = [1, 7, 2, 1, 2] := by
  rw [putL_two (by decide)]
  rfl
end Go.Proofs.Ytggdmchhnnjfiaa.Flaw
