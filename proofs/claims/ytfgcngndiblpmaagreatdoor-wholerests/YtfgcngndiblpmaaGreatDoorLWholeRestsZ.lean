/- The walk of the law WholeRests. -/
import Derived.Test.YtfgcngndiblpmaaGreatDoorLWRaZ
import Derived.Test.YtfgcngndiblpmaaGreatDoorLWRbZ
namespace Go.Proofs.YtfgcngndiblpmaaGreatDoor
open Go.RowKit
open Lm

theorem wholeRests_walk (b0 : Bool) (v0 : Value) (z0 : List Nat) (b1 : Bool) (v1 : Value) (z1 : List Nat) (w : World) (hT : Tab w) (A0 : Arg w v0 z0) (s0 : z0.length ≤ 17592186043904) (A1 : Arg w v1 z1) (s1 : z1.length ≤ 17592186043904) :
    Calls Tryz.prog 4 #[.agg #[.bool b0, v0], .agg #[.bool b1, v1]] w fun e w' => e = .returned (.bool true) ∧ Below w.heap.size w w' := by
  by_cases h : val z1 = 0 ∨ 67108864 ≤ blen (val z0) ∨ 67108864 ≤ blen (val z1)
  · exact wholeRests_dull b0 v0 z0 b1 v1 z1 w hT A0 s0 A1 s1 h
  · exact wholeRests_main b0 v0 z0 b1 v1 z1 w hT A0 s0 A1 s1 (by omega) (by omega) (by omega)

end Go.Proofs.YtfgcngndiblpmaaGreatDoor
