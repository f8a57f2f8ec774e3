/- The walk of the law WholeQuos. -/
import Derived.Test.YtfgcngndiblpmaaGreatDoorLWQbZ
import Derived.Test.YtfgcngndiblpmaaGreatDoorLWQcZ
namespace Go.Proofs.YtfgcngndiblpmaaGreatDoor
open Go.RowKit
open Lm

theorem wholeQuos_walk (b0 : Bool) (v0 : Value) (z0 : List Nat) (b1 : Bool) (v1 : Value) (z1 : List Nat) (w : World) (hT : Tab w) (A0 : Arg w v0 z0) (s0 : z0.length ≤ 17592186043904) (A1 : Arg w v1 z1) (s1 : z1.length ≤ 17592186043904) :
    Calls Tryz.prog 3 #[.agg #[.bool b0, v0], .agg #[.bool b1, v1]] w fun e w' => e = .returned (.bool true) ∧ Below w.heap.size w w' := by
  rcases Nat.eq_zero_or_pos (val z1) with h | h
  · exact wholeQuos_z b0 v0 z0 b1 v1 z1 w hT A0 s0 A1 s1 h
  · exact wholeQuos_nz b0 v0 z0 b1 v1 z1 w hT A0 s0 A1 s1 h

end Go.Proofs.YtfgcngndiblpmaaGreatDoor
