/-
  What package vote is to answer, as functions on lists of pairs, and why they agree. No program.
-/
import Derived.Test.YtggannjlaehihaaSl
namespace Go.Proofs.Ytggannjlaehihaa.Vs
open Sl

def enc2 (x : Int × Int) : List Value := [.int .i64 x.1, .int .i64 x.2]
def enc1 (x : Int) : List Value := [.int .i64 x]
abbrev Spans := List (Int × Int)
/-- Does a span have a number? -/
def hasB (s : Int × Int) (x : Int) : Bool := decide (s.1 ≤ x) && decide (x ≤ s.2)
/-- How many spans have a number. -/
def cnt (L : Spans) (x : Int) : Nat := L.countP fun s => hasB s x
theorem cnt_append (L M : Spans) (x : Int) : cnt (L ++ M) x = cnt L x + cnt M x := List.countP_append
theorem cnt_step (L : Spans) (x : Int) (i : Nat) (h : i < L.length) : cnt (L.take (i + 1)) x = cnt (L.take i) x + (if hasB (L[i]!) x = true then 1 else 0) := by
  rw [take_snoc L i h, cnt_append]
  congr 1
  unfold cnt
  rw [List.countP_cons, List.countP_nil, Nat.zero_add]
theorem cnt_yes {L : Spans} {x : Int} {i m : Nat} (h : i < L.length) (hm : m = cnt (L.take i) x) (hb : hasB (L[i]!) x = true) : m + 1 = cnt (L.take (i + 1)) x := by rw [cnt_step L x i h, if_pos hb, hm]
theorem cnt_no {L : Spans} {x : Int} {i m : Nat} (h : i < L.length) (hm : m = cnt (L.take i) x) (hb : hasB (L[i]!) x = false) : m = cnt (L.take (i + 1)) x := by rw [cnt_step L x i h, if_neg (by rw [hb]; decide), hm, Nat.add_zero]
theorem cnt_le (L : Spans) (x : Int) : cnt L x ≤ L.length := List.countP_le_length
end Go.Proofs.Ytggannjlaehihaa.Vs
