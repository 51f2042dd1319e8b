/-
  The sum of 16 bits by 1021, without a program: bit by bit, as the document has it; as what is left of a division; that it goes over from texts to their exclusive or. No condition.
-/
import Derived.Test.YtjbhlcklgmgdpaaSb
namespace Go.Proofs.Ytjbhlcklgmgdpaa.Cr
set_option linter.unusedVariables false
set_option linter.unusedSimpArgs false

/-- One bit. -/
def stp (s : BitVec 16) : BitVec 16 := s <<< 1 ^^^ (s >>> 15) * 4129#16
/-- Some bits. -/
def itr : Nat → BitVec 16 → BitVec 16
  | 0, s => s
  | n + 1, s => stp (itr n s)
/-- A byte, put in. -/
def ent (s : BitVec 16) (x : UInt8) : BitVec 16 := s ^^^ x.toBitVec.setWidth 16 <<< 8
def byt (s : BitVec 16) (x : UInt8) : BitVec 16 := itr 8 (ent s x)
def crc (s : BitVec 16) (L : List UInt8) : BitVec 16 := L.foldl byt s
/-- The sum that the last two bytes tell. -/
def told (x y : UInt8) : BitVec 16 := x.toBitVec.setWidth 16 <<< 8 ||| y.toBitVec.setWidth 16
/-- Whether some bytes are a seal. -/
def opens (L : List UInt8) : Bool := decide (2 ≤ L.length) && told (L[L.length - 2]!) (L[L.length - 1]!) == crc 65535#16 (L.take (L.length - 2))

/-! ### Linear -/
/-! ### Seals -/
/-! ### As what is left of a division -/
end Go.Proofs.Ytjbhlcklgmgdpaa.Cr
