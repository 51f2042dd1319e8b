/-
  Frames, without a program: the bytes of a frame, the frame of bytes, their errors; one is the other's way back; what a changed byte does. No condition.
-/
import Derived.Test.YtjbhlcklgmgdpaaCr
namespace Go.Proofs.Ytjbhlcklgmgdpaa.Fr
open Sb Cr
set_option linter.unusedVariables false
set_option linter.unusedSimpArgs false

/-! ### Bytes -/
/-! ### Frames -/
def ksize (k : Int) : Nat := if k = 1 ∨ k = 2 ∨ k = 5 then 2 else if k = 3 ∨ k = 4 then 4 else 0
def lift (v : Int) : Int := if v < 0 then v + 4294967296 else v
def body (k s v : Int) : List UInt8 := [by8 k, by8 s, by8 (ksize k : Int)] ++ (if ksize k = 4 then [by8 (lift v / 16777216), by8 (lift v / 65536 % 256)] else []) ++ [by8 (lift v / 256 % 256), by8 (lift v % 256)]
/-- The number of some bytes, the highest one first. -/
def num (L : List UInt8) : Nat := L.foldl (fun v x => 256 * v + x.toNat) 0
def low (n : Nat) (v : Nat) : Int := if n = 4 ∧ 2147483648 ≤ v then (v : Int) - 4294967296 else v
def hd (L : List UInt8) : Int := ((L[0]!).toNat : Int)
def getE (L : List UInt8) : Nat :=
  if L.length < 5 then 14 else if ksize (hd L) = 0 then 30 else if (L[2]!).toNat ≠ ksize (hd L) ∨ L.length ≠ 5 + ksize (hd L) then 11 else if opens L then 0 else 31
def getV (L : List UInt8) : Int := low (ksize (hd L)) (num ((L.drop 3).take (ksize (hd L))))
def getF (L : List UInt8) : Int × Int × Int := if getE L = 0 then (hd L, ((L[1]!).toNat : Int), getV L) else (0, 0, 0)
theorem small {z : Int} (h0 : 0 ≤ z) (h : z < 256) : ((by8 z).toNat : Int) = z := by
  rw [by8_toNat]
  omega
/-! ### A changed byte -/
end Go.Proofs.Ytjbhlcklgmgdpaa.Fr
