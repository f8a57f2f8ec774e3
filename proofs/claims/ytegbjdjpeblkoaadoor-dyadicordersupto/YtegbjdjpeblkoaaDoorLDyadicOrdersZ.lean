/- The law DyadicOrders. -/
import Derived.Test.YtegbjdjpeblkoaaDoorLDRaZ
import Derived.Test.YtegbjdjpeblkoaaDoorLDRbZ
import Derived.Test.YtegbjdjpeblkoaaDoorLDRcZ
namespace Go.Proofs.YtegbjdjpeblkoaaDoor
open Go.RowKit
open Lm

theorem dyadicOrders_walk (b0 : Bool) (v0 : Value) (z0 : List Nat) (p0 : Int) (b1 : Bool) (v1 : Value) (z1 : List Nat) (p1 : Int) (w : World) (hT : Tab w) (A0 : Arg w v0 z0) (s0 : z0.length ≤ 1048576) (lo0 : -9223372036854775808 ≤ p0) (hi0 : p0 ≤ 9223372036854775807) (A1 : Arg w v1 z1) (s1 : z1.length ≤ 1048576) (lo1 : -9223372036854775808 ≤ p1) (hi1 : p1 ≤ 9223372036854775807) :
    Calls Tryd.prog 3 #[.agg #[.bool b0, v0, .int .i64 p0], .agg #[.bool b1, v1, .int .i64 p1]] w fun e w' => e = .returned (.bool true) ∧ Below w.heap.size w w' := by
  cases h3 : fitE p0
  · cases h4 : fitE p1
    · exact orders8_ff b0 v0 z0 p0 b1 v1 z1 p1 w hT A0 s0 lo0 hi0 A1 s1 lo1 hi1 h3 h4
    · exact orders8_ft b0 v0 z0 p0 b1 v1 z1 p1 w hT A0 s0 lo0 hi0 A1 s1 lo1 hi1 h3 h4
  · cases h4 : fitE p1
    · exact orders8_tf b0 v0 z0 p0 b1 v1 z1 p1 w hT A0 s0 lo0 hi0 A1 s1 lo1 hi1 h3 h4
    · obtain ⟨L, hL⟩ : ∃ L : Nat, L = 9223372036854775808 := ⟨_, rfl⟩
      by_cases hk : 0 < cmpZ (omz (zz b0 (val z0)) * 2 ^ (oe (zz b0 (val z0)) p0 + L).toNat) (omz (zz b1 (val z1)) * 2 ^ (oe (zz b1 (val z1)) p1 + L).toNat)
      · exact orders8_gt b0 v0 z0 p0 b1 v1 z1 p1 w hT A0 s0 lo0 hi0 A1 s1 lo1 hi1 h3 h4 L hL hk
      · exact orders8_le b0 v0 z0 p0 b1 v1 z1 p1 w hT A0 s0 lo0 hi0 A1 s1 lo1 hi1 h3 h4 L hL (by omega)

end Go.Proofs.YtegbjdjpeblkoaaDoor
