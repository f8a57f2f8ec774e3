/- The law DyadicOwn. -/
import Derived.Test.YtegbjdjpeblkoabGreatDoorLDOaZ
import Derived.Test.YtegbjdjpeblkoabGreatDoorLDObZ
namespace Go.Proofs.YtegbjdjpeblkoabGreatDoor
open Go.RowKit
open Lm

theorem dyadicOwn_walk (b0 : Bool) (v0 : Value) (z0 : List Nat) (p0 : Int) (b1 : Bool) (v1 : Value) (z1 : List Nat) (p1 : Int) (pos : Int) (w : World) (hT : Tab w) (A0 : Arg w v0 z0) (s0 : z0.length ≤ 1048576) (lo0 : -9223372036854775808 ≤ p0) (hi0 : p0 ≤ 9223372036854775807) (A1 : Arg w v1 z1) (s1 : z1.length ≤ 1048576) (lo1 : -9223372036854775808 ≤ p1) (hi1 : p1 ≤ 9223372036854775807) (lo2 : -9223372036854775808 ≤ pos) (hi2 : pos ≤ 9223372036854775807) :
    Calls Tryz.prog 3 #[.agg #[.bool b0, v0, .int .i64 p0], .agg #[.bool b1, v1, .int .i64 p1], .int .i64 pos] w fun e w' => e = .returned (.bool true) ∧ Below w.heap.size w w' := by
  cases h3 : fitE p0
  · cases h4 : fitE p1
    · exact own8_ff b0 v0 z0 p0 b1 v1 z1 p1 pos w hT A0 s0 lo0 hi0 A1 s1 lo1 hi1 lo2 hi2 h3 h4
    · exact own8_ft b0 v0 z0 p0 b1 v1 z1 p1 pos w hT A0 s0 lo0 hi0 A1 s1 lo1 hi1 lo2 hi2 h3 h4
  · cases h4 : fitE p1
    · exact own8_tf b0 v0 z0 p0 b1 v1 z1 p1 pos w hT A0 s0 lo0 hi0 A1 s1 lo1 hi1 lo2 hi2 h3 h4
    · cases h5 : fitE pos
      · exact own8_no b0 v0 z0 p0 b1 v1 z1 p1 pos w hT A0 s0 lo0 hi0 A1 s1 lo1 hi1 lo2 hi2 h3 h4 h5
      · exact own8_yes b0 v0 z0 p0 b1 v1 z1 p1 pos w hT A0 s0 lo0 hi0 A1 s1 lo1 hi1 lo2 hi2 h3 h4 h5

end Go.Proofs.YtegbjdjpeblkoabGreatDoor
