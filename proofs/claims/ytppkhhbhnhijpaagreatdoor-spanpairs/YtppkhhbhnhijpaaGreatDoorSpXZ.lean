/- Package span: Min, Max, Hull, Meet, whatever is handed in. -/
import Derived.Test.YtppkhhbhnhijpaaGreatDoorSpWZ
namespace Go.Proofs.YtppkhhbhnhijpaaGreatDoor
open Go.RowKit
open Lm

theorem smin_any (b1 : Bool) (a1 : Option Addr) (n1 k1 : Nat) (ex1 : Int) (b2 : Bool) (a2 : Option Addr) (n2 k2 : Nat) (ex2 : Int) (b3 : Bool) (a3 : Option Addr) (n3 k3 : Nat) (ex3 : Int) (b4 : Bool) (a4 : Option Addr) (n4 k4 : Nat) (ex4 : Int) (F : Int) (L : Nat) (V1 V2 V3 V4 : Int) (w : World) (hF : FltOf2 w b1 a1 n1 k1 ex1 b2 a2 n2 k2 ex2 b3 a3 n3 k3 ex3 b4 a4 n4 k4 ex4 F) (hn : F = 0 → (N8 w b1 a1 n1 k1 ex1 L V1 ∧ N8 w b2 a2 n2 k2 ex2 L V2 ∧ N8 w b3 a3 n3 k3 ex3 L V3 ∧ N8 w b4 a4 n4 k4 ex4 L V4) ∧ V1 ≤ V2 ∧ V3 ≤ V4) (hT : Tab w) (hL : 4611686018427387904 ≤ L) :
    Calls Tryz.prog 18 #[.agg #[.bool b1, .slice a1 n1 k1, .int .i64 ex1, .bool b2, .slice a2 n2 k2, .int .i64 ex2], .agg #[.bool b3, .slice a3 n3 k3, .int .i64 ex3, .bool b4, .slice a4 n4 k4, .int .i64 ex4]] w fun e w' => SAns w e w' F L (min V1 V3) (min V2 V4) := by
  by_cases h0 : F = 0
  · obtain ⟨⟨h1, h2, h3, h4⟩, o1, o2⟩ := hn h0
    subst h0
    exact smin_ok b1 a1 n1 k1 ex1 b2 a2 n2 k2 ex2 b3 a3 n3 k3 ex3 b4 a4 n4 k4 ex4 L V1 V2 V3 V4 w hF h1 h2 h3 h4 hT hL o1 o2
  · skip
    exact smin_bad b1 a1 n1 k1 ex1 b2 a2 n2 k2 ex2 b3 a3 n3 k3 ex3 b4 a4 n4 k4 ex4 F L _ _ w hF h0

theorem smax_any (b1 : Bool) (a1 : Option Addr) (n1 k1 : Nat) (ex1 : Int) (b2 : Bool) (a2 : Option Addr) (n2 k2 : Nat) (ex2 : Int) (b3 : Bool) (a3 : Option Addr) (n3 k3 : Nat) (ex3 : Int) (b4 : Bool) (a4 : Option Addr) (n4 k4 : Nat) (ex4 : Int) (F : Int) (L : Nat) (V1 V2 V3 V4 : Int) (w : World) (hF : FltOf2 w b1 a1 n1 k1 ex1 b2 a2 n2 k2 ex2 b3 a3 n3 k3 ex3 b4 a4 n4 k4 ex4 F) (hn : F = 0 → (N8 w b1 a1 n1 k1 ex1 L V1 ∧ N8 w b2 a2 n2 k2 ex2 L V2 ∧ N8 w b3 a3 n3 k3 ex3 L V3 ∧ N8 w b4 a4 n4 k4 ex4 L V4) ∧ V1 ≤ V2 ∧ V3 ≤ V4) (hT : Tab w) (hL : 4611686018427387904 ≤ L) :
    Calls Tryz.prog 19 #[.agg #[.bool b1, .slice a1 n1 k1, .int .i64 ex1, .bool b2, .slice a2 n2 k2, .int .i64 ex2], .agg #[.bool b3, .slice a3 n3 k3, .int .i64 ex3, .bool b4, .slice a4 n4 k4, .int .i64 ex4]] w fun e w' => SAns w e w' F L (max V1 V3) (max V2 V4) := by
  by_cases h0 : F = 0
  · obtain ⟨⟨h1, h2, h3, h4⟩, o1, o2⟩ := hn h0
    subst h0
    exact smax_ok b1 a1 n1 k1 ex1 b2 a2 n2 k2 ex2 b3 a3 n3 k3 ex3 b4 a4 n4 k4 ex4 L V1 V2 V3 V4 w hF h1 h2 h3 h4 hT hL o1 o2
  · skip
    exact smax_bad b1 a1 n1 k1 ex1 b2 a2 n2 k2 ex2 b3 a3 n3 k3 ex3 b4 a4 n4 k4 ex4 F L _ _ w hF h0

theorem shull_any (b1 : Bool) (a1 : Option Addr) (n1 k1 : Nat) (ex1 : Int) (b2 : Bool) (a2 : Option Addr) (n2 k2 : Nat) (ex2 : Int) (b3 : Bool) (a3 : Option Addr) (n3 k3 : Nat) (ex3 : Int) (b4 : Bool) (a4 : Option Addr) (n4 k4 : Nat) (ex4 : Int) (F : Int) (L : Nat) (V1 V2 V3 V4 : Int) (w : World) (hF : FltOf2 w b1 a1 n1 k1 ex1 b2 a2 n2 k2 ex2 b3 a3 n3 k3 ex3 b4 a4 n4 k4 ex4 F) (hn : F = 0 → (N8 w b1 a1 n1 k1 ex1 L V1 ∧ N8 w b2 a2 n2 k2 ex2 L V2 ∧ N8 w b3 a3 n3 k3 ex3 L V3 ∧ N8 w b4 a4 n4 k4 ex4 L V4) ∧ V1 ≤ V2 ∧ V3 ≤ V4) (hT : Tab w) (hL : 4611686018427387904 ≤ L) :
    Calls Tryz.prog 20 #[.agg #[.bool b1, .slice a1 n1 k1, .int .i64 ex1, .bool b2, .slice a2 n2 k2, .int .i64 ex2], .agg #[.bool b3, .slice a3 n3 k3, .int .i64 ex3, .bool b4, .slice a4 n4 k4, .int .i64 ex4]] w fun e w' => SAns w e w' F L (min V1 V3) (max V2 V4) := by
  by_cases h0 : F = 0
  · obtain ⟨⟨h1, h2, h3, h4⟩, o1, o2⟩ := hn h0
    subst h0
    exact shull_ok b1 a1 n1 k1 ex1 b2 a2 n2 k2 ex2 b3 a3 n3 k3 ex3 b4 a4 n4 k4 ex4 L V1 V2 V3 V4 w hF h1 h2 h3 h4 hT hL o1 o2
  · skip
    exact shull_bad b1 a1 n1 k1 ex1 b2 a2 n2 k2 ex2 b3 a3 n3 k3 ex3 b4 a4 n4 k4 ex4 F L _ _ w hF h0

theorem smeet_any (b1 : Bool) (a1 : Option Addr) (n1 k1 : Nat) (ex1 : Int) (b2 : Bool) (a2 : Option Addr) (n2 k2 : Nat) (ex2 : Int) (b3 : Bool) (a3 : Option Addr) (n3 k3 : Nat) (ex3 : Int) (b4 : Bool) (a4 : Option Addr) (n4 k4 : Nat) (ex4 : Int) (F : Int) (L : Nat) (V1 V2 V3 V4 : Int) (w : World) (hF : FltOf2 w b1 a1 n1 k1 ex1 b2 a2 n2 k2 ex2 b3 a3 n3 k3 ex3 b4 a4 n4 k4 ex4 F) (hn : F = 0 → (N8 w b1 a1 n1 k1 ex1 L V1 ∧ N8 w b2 a2 n2 k2 ex2 L V2 ∧ N8 w b3 a3 n3 k3 ex3 L V3 ∧ N8 w b4 a4 n4 k4 ex4 L V4) ∧ V1 ≤ V2 ∧ V3 ≤ V4) (hT : Tab w) (hL : 4611686018427387904 ≤ L) :
    Calls Tryz.prog 21 #[.agg #[.bool b1, .slice a1 n1 k1, .int .i64 ex1, .bool b2, .slice a2 n2 k2, .int .i64 ex2], .agg #[.bool b3, .slice a3 n3 k3, .int .i64 ex3, .bool b4, .slice a4 n4 k4, .int .i64 ex4]] w fun e w' => SAns w e w' (if F = 0 then (if min V2 V4 < max V1 V3 then 103 else 0) else F) L (max V1 V3) (min V2 V4) := by
  by_cases h0 : F = 0
  · obtain ⟨⟨h1, h2, h3, h4⟩, o1, o2⟩ := hn h0
    subst h0
    exact smeet_ok b1 a1 n1 k1 ex1 b2 a2 n2 k2 ex2 b3 a3 n3 k3 ex3 b4 a4 n4 k4 ex4 L V1 V2 V3 V4 w hF h1 h2 h3 h4 hT hL o1 o2
  · rw [if_neg h0]
    exact smeet_bad b1 a1 n1 k1 ex1 b2 a2 n2 k2 ex2 b3 a3 n3 k3 ex3 b4 a4 n4 k4 ex4 F L _ _ w hF h0

end Go.Proofs.YtppkhhbhnhijpaaGreatDoor
