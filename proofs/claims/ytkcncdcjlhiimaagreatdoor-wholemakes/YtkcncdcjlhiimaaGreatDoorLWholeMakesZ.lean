/- The walk of the law WholeMakes. -/
import Derived.Test.YtkcncdcjlhiimaaGreatDoorLWMbZ
import Derived.Test.YtkcncdcjlhiimaaGreatDoorLWMcZ
namespace Go.Proofs.YtkcncdcjlhiimaaGreatDoor
open Go.RowKit
open Lm

theorem wholeMakes_walk (b0 : Bool) (v0 : Value) (z0 : List Nat) (b1 : Bool) (v1 : Value) (z1 : List Nat) (n : Int) (w : World) (hT : Tab w) (A0 : Arg w v0 z0) (s0 : z0.length ≤ 17592186043904) (A1 : Arg w v1 z1) (s1 : z1.length ≤ 17592186043904) (hn1 : -9223372036854775808 ≤ n) (hn2 : n ≤ 9223372036854775807) :
    Calls Tryz.prog 3 #[.agg #[.bool b0, v0], .agg #[.bool b1, v1], .int .i64 n] w fun e w' => e = .returned (.bool true) ∧ Below w.heap.size w w' := by
  by_cases h : FitsInt (zz b0 (val z0))
  · exact wholeMakes_yes b0 v0 z0 b1 v1 z1 n w hT A0 s0 A1 s1 hn1 hn2 h
  · exact wholeMakes_no b0 v0 z0 b1 v1 z1 n w hT A0 s0 A1 s1 hn1 hn2 h

end Go.Proofs.YtkcncdcjlhiimaaGreatDoor
