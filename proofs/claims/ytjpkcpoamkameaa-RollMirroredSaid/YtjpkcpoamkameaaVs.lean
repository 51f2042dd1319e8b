/-
  What package vote is to answer, as functions on lists of pairs, and why they agree. No program.
-/
import Derived.Test.YtjpkcpoamkameaaSl
namespace Go.Proofs.Ytjpkcpoamkameaa.Vs
open Sl

def enc2 (x : Int × Int) : List Value := [.int .i64 x.1, .int .i64 x.2]
def enc1 (x : Int) : List Value := [.int .i64 x]
abbrev Spans := List (Int × Int)
end Go.Proofs.Ytjpkcpoamkameaa.Vs
