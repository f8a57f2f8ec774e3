/- The walk of the law SpanAsks. -/
import Derived.Test.YtppkhhbhnhijpaaGreatDoorLSAAZ
import Derived.Test.YtppkhhbhnhijpaaGreatDoorLSABZ
import Derived.Test.YtppkhhbhnhijpaaGreatDoorLSACZ
import Derived.Test.YtppkhhbhnhijpaaGreatDoorLSADZ
import Derived.Test.YtppkhhbhnhijpaaGreatDoorLSAEZ
namespace Go.Proofs.YtppkhhbhnhijpaaGreatDoor
open Go.RowKit
open Lm

theorem spanAsks_walk (b0 : Bool) (u0 : Value) (z0 : List Nat) (e0 : Int) (b1 : Bool) (u1 : Value) (z1 : List Nat) (e1 : Int) (b2 : Bool) (u2 : Value) (z2 : List Nat) (e2 : Int) (b3 : Bool) (u3 : Value) (z3 : List Nat) (e3 : Int) (b4 : Bool) (u4 : Value) (z4 : List Nat) (e4 : Int) (w : World) (hT : Tab w) (A0 : Arg w u0 z0) (s0 : z0.length ≤ 17592186043904) (_ : -9223372036854775808 ≤ e0) (_ : e0 ≤ 9223372036854775807) (A1 : Arg w u1 z1) (s1 : z1.length ≤ 17592186043904) (_ : -9223372036854775808 ≤ e1) (_ : e1 ≤ 9223372036854775807) (A2 : Arg w u2 z2) (s2 : z2.length ≤ 17592186043904) (_ : -9223372036854775808 ≤ e2) (_ : e2 ≤ 9223372036854775807) (A3 : Arg w u3 z3) (s3 : z3.length ≤ 17592186043904) (_ : -9223372036854775808 ≤ e3) (_ : e3 ≤ 9223372036854775807) (A4 : Arg w u4 z4) (s4 : z4.length ≤ 17592186043904) (_ : -9223372036854775808 ≤ e4) (_ : e4 ≤ 9223372036854775807) :
    Calls Tryz.prog 5 #[.agg #[.bool b0, u0, .int .i64 e0, .bool b1, u1, .int .i64 e1], .agg #[.bool b2, u2, .int .i64 e2, .bool b3, u3, .int .i64 e3], .agg #[.bool b4, u4, .int .i64 e4]] w fun e w' => e = .returned (.bool true) ∧ Below w.heap.size w w' := by
  obtain ⟨L, hL⟩ : ∃ L : Nat, 4611686018427387904 ≤ L := ⟨4611686018427387904, Nat.le_refl _⟩
  by_cases hF : flt e0 e1 (vof b0 z0 e0 L) (vof b1 z1 e1 L) = 0
  · cases hE4 : fitE e4
    · by_cases hG : flt e2 e3 (vof b2 z2 e2 L) (vof b3 z3 e3 L) = 0
      · exact asks10_C b0 u0 z0 e0 b1 u1 z1 e1 b2 u2 z2 e2 b3 u3 z3 e3 b4 u4 z4 e4 L w hT A0 s0 (by assumption) (by assumption) A1 s1 (by assumption) (by assumption) A2 s2 (by assumption) (by assumption) A3 s3 (by assumption) (by assumption) A4 s4 (by assumption) (by assumption) hL hF hG hE4
      · exact asks10_B b0 u0 z0 e0 b1 u1 z1 e1 b2 u2 z2 e2 b3 u3 z3 e3 b4 u4 z4 e4 L _ w hT A0 s0 (by assumption) (by assumption) A1 s1 (by assumption) (by assumption) A2 s2 (by assumption) (by assumption) A3 s3 (by assumption) (by assumption) A4 s4 (by assumption) (by assumption) hL hF rfl hG hE4
    · by_cases hG : flt e2 e3 (vof b2 z2 e2 L) (vof b3 z3 e3 L) = 0
      · exact asks10_E b0 u0 z0 e0 b1 u1 z1 e1 b2 u2 z2 e2 b3 u3 z3 e3 b4 u4 z4 e4 L w hT A0 s0 (by assumption) (by assumption) A1 s1 (by assumption) (by assumption) A2 s2 (by assumption) (by assumption) A3 s3 (by assumption) (by assumption) A4 s4 (by assumption) (by assumption) hL hF hG hE4
      · exact asks10_D b0 u0 z0 e0 b1 u1 z1 e1 b2 u2 z2 e2 b3 u3 z3 e3 b4 u4 z4 e4 L _ w hT A0 s0 (by assumption) (by assumption) A1 s1 (by assumption) (by assumption) A2 s2 (by assumption) (by assumption) A3 s3 (by assumption) (by assumption) A4 s4 (by assumption) (by assumption) hL hF rfl hG hE4
  · exact asks10_A b0 u0 z0 e0 b1 u1 z1 e1 b2 u2 z2 e2 b3 u3 z3 e3 b4 u4 z4 e4 L _ _ w hT A0 s0 (by assumption) (by assumption) A1 s1 (by assumption) (by assumption) A2 s2 (by assumption) (by assumption) A3 s3 (by assumption) (by assumption) A4 s4 (by assumption) (by assumption) hL rfl rfl hF

end Go.Proofs.YtppkhhbhnhijpaaGreatDoor
