/- Package span: refusal, fault, faultAt where nothing is refused; the sums' closure. -/
import Derived.Test.YtgkbjoobgaldnaaDoorSpAZ
import Derived.Test.YtgkbjoobgaldnaaDoorDyAllZ
namespace Go.Proofs.YtgkbjoobgaldnaaDoor
open Go.RowKit
open Lm
attribute [local go_sem ↓] Go.wp_at_zero Go.wp_at_succ

set_option maxRecDepth 20000 in
set_option maxHeartbeats 1000000 in
theorem refusal_ok (g : Nat) (w : World) (hL : w.heap[g]? = some (.cells #[.int .i64 0, .int .i64 0] 23)) :
    Calls Tryd.prog 30 #[.slice (some ⟨g, 0, none⟩) 2 2] w fun e w' => e = .returned (.int .i64 0) ∧ w' = w := by
  have HL := hide hL
  obtain ⟨c0, c1⟩ := duo hL
  clear hL
  go_enter Tryd.func30, Tryd.ntmps30
  go_wp2
  go_loop [3, 8] (fun t i => ∃ k : Nat, k ≤ 2 ∧ t = .int .i64 0 ∧ i = .int .i64 k) (fun _ i => 2 - (intOf i).toNat)
  case atStart => exact ⟨0, by omega, rfl, rfl⟩
  case round =>
    obtain ⟨k, hk, rfl, rfl⟩ := hrel
    by_cases hkl : k < 2
    · have hck : w.cell? ⟨g, k, none⟩ = some (.int .i64 0) := by
        rcases (show k = 0 ∨ k = 1 by omega) with rfl | rfl
        · exact c0
        · exact c1
      clear c0 c1
      go_wp2
      go_round
      case rel => exact ⟨k + 1, by omega, rfl, by go_num⟩
      case measure => simp [intOf]; omega
    · go_wp2
      go_ret
      exact ⟨rfl, rfl⟩

theorem sisPos_any (n : Int) (w : World) (h : fitE n = true) : Calls Tryd.prog 28 #[.int .i64 n] w fun e w' => e = .returned (.bool true) ∧ w' = w := by
  have hr := (fitE_iff n).1 h
  have h1 : decide (-1099511627776 ≤ n) = true := decide_eq_true hr.1
  have h2 : decide (n ≤ 1099511627776) = true := decide_eq_true hr.2
  go_enter Tryd.func28, Tryd.ntmps28
  go_wp2
  go_ret
  exact ⟨rfl, rfl⟩

set_option maxRecDepth 20000 in
set_option maxHeartbeats 1000000 in
/-- The closure of sums. -/
theorem sumsF (b1 : Bool) (a1 : Option Addr) (n1 k1 : Nat) (ex1 : Int) (b2 : Bool) (a2 : Option Addr) (n2 k2 : Nat) (ex2 : Int) (md : Int) (L : Nat) (V1 V2 : Int) (w : World) (hT : Tab w) (h1 : I8 w b1 a1 n1 k1 ex1 L V1) (h2 : I8 w b2 a2 n2 k2 ex2 L V2) (hE1 : fitE ex1 = true) (hE2 : fitE ex2 = true) (ho : Ok8 L (V1 + V2)) :
    Calls Tryd.prog 18 #[.agg #[.bool b1, .slice a1 n1 k1, .int .i64 ex1, .bool b2, .slice a2 n2 k2, .int .i64 ex2], .int .i64 md] w fun e w' => S8 w e w' L (V1 + V2) := by
  obtain ⟨w0, hw0, hb0, q0, q1⟩ := enter2 w (.cells #[.bool b1, .slice a1 n1 k1, .int .i64 ex1, .bool b2, .slice a2 n2 k2, .int .i64 ex2] 53) (.cells #[.bool false, .slice none 0 0, .int .i64 0] 30)
  obtain ⟨k0, k1', k2', k3', k4', k5'⟩ := hexa q0
  have C := yadd8s b1 a1 n1 k1 ex1 b2 a2 n2 k2 ex2 L V1 V2 w0 (hT.below hb0) (h1.below hb0) (h2.below hb0) hE1 hE2 ho
  have HC := hide q1
  have HB := hide hb0
  generalize V1 + V2 = V at *
  clear q0 q1 hb0 hT h1 h2 ho
  go_enter Tryd.func18, Tryd.ntmps18
  go_wp2_with fail
  refine C.mono ?_
  rintro e t1 ⟨⟨b6, a6, n6, c6, e6, rfl, hg⟩, g1⟩
  have HC1 := hide (block_upW g1 HC.out)
  have HG := hide (bl_trans8 HB.out g1)
  have HDR := hide hg
  have hf1 := tri8f HC1.out
  obtain ⟨m0, m1, m2⟩ := tri8 HC1.out
  clear g1 hg C
  go_wp2
  have T3 := tri8_all HC1.out (.bool b6) (.slice a6 n6 c6) (.int .i64 e6)
  have T4 := below_tri8 HG.out (show w.heap.size ≤ w.heap.size + 1 by omega) (.bool b6) (.slice a6 n6 c6) (.int .i64 e6)
  have T5 := HDR.out.tri9 HC1.out b6 a6 n6 c6 e6
  obtain ⟨p0, p1, p2⟩ := tri8 T3
  have HE := hide (And.intro T5 T4)
  clear T3 T4 T5
  generalize ((t1.setCell ⟨w.heap.size + 1, 0, none⟩ (.bool b6)).setCell ⟨w.heap.size + 1, 1, none⟩ (.slice a6 n6 c6)).setCell ⟨w.heap.size + 1, 2, none⟩ (.int .i64 e6) = w5 at *
  refine bodyPost_ret (v := .tuple #[.agg #[.bool b6, .slice a6 n6 c6, .int .i64 e6], .int .i64 0]) (by simp [results, Tryd.results18, go_sem, p0, p1, p2]) rfl ?_
  exact ⟨⟨_, _, _, _, _, rfl, HE.out.1⟩, HE.out.2⟩

set_option maxRecDepth 20000 in
set_option maxHeartbeats 1000000 in
/-- The closure of outward. -/
theorem outF (gp : Nat) (pos : Int) (b1 : Bool) (a1 : Option Addr) (n1 k1 : Nat) (ex1 : Int) (md : Int) (L : Nat) (V1 : Int) (w : World) (hp : w.heap[gp]? = some (.cells #[.int .i64 pos] 3)) (hT : Tab w) (h1 : G8 w b1 a1 n1 k1 ex1 L V1) (hL : 4611686018427387904 ≤ L) (hK : fitE pos = true) (hM : isM md = true) (ho : Ok8 L (rv md V1 (2 ^ (pos + L).toNat))) :
    Calls Tryd.prog 40 #[.agg #[.bool b1, .slice a1 n1 k1, .int .i64 ex1], .int .i64 md, .pointer (some ⟨gp, 0, none⟩)] w fun e w' => S8 w e w' L (rv md V1 (2 ^ (pos + L).toNat)) := by
  obtain ⟨w0, hw0, hb0, q0, q1⟩ := enter2 w (.cells #[.bool b1, .slice a1 n1 k1, .int .i64 ex1] 30) (.cells #[.bool false, .slice none 0 0, .int .i64 0] 30)
  obtain ⟨k0, k1', k2'⟩ := tri8 q0
  have kp : w0.cell? ⟨gp, 0, none⟩ = some (.int .i64 pos) := by have := block_upW hb0 hp; simp [World.cell?, this]
  have C := yround8s b1 a1 n1 k1 ex1 L V1 pos md w0 (hT.below hb0) (h1.below hb0) hL hK hM ho
  have HC := hide q1
  have HB := hide hb0
  generalize rv md V1 (2 ^ (pos + L).toNat) = V at *
  clear q0 q1 hb0 hT h1 ho hp
  go_enter Tryd.func40, Tryd.ntmps40
  go_wp2_with fail
  refine C.mono ?_
  rintro e t1 ⟨⟨b6, a6, n6, c6, e6, rfl, hg⟩, g1⟩
  have HC1 := hide (block_upW g1 HC.out)
  have HG := hide (bl_trans8 HB.out g1)
  have HDR := hide hg
  have hf1 := tri8f HC1.out
  obtain ⟨m0, m1, m2⟩ := tri8 HC1.out
  clear g1 hg C
  go_wp2
  have T3 := tri8_all HC1.out (.bool b6) (.slice a6 n6 c6) (.int .i64 e6)
  have T4 := below_tri8 HG.out (show w.heap.size ≤ w.heap.size + 1 by omega) (.bool b6) (.slice a6 n6 c6) (.int .i64 e6)
  have T5 := HDR.out.tri9 HC1.out b6 a6 n6 c6 e6
  obtain ⟨p0, p1, p2⟩ := tri8 T3
  have HE := hide (And.intro T5 T4)
  clear T3 T4 T5
  generalize ((t1.setCell ⟨w.heap.size + 1, 0, none⟩ (.bool b6)).setCell ⟨w.heap.size + 1, 1, none⟩ (.slice a6 n6 c6)).setCell ⟨w.heap.size + 1, 2, none⟩ (.int .i64 e6) = w5 at *
  refine bodyPost_ret (v := .tuple #[.agg #[.bool b6, .slice a6 n6 c6, .int .i64 e6], .int .i64 0]) (by simp [results, Tryd.results40, go_sem, p0, p1, p2]) rfl ?_
  exact ⟨⟨_, _, _, _, _, rfl, HE.out.1⟩, HE.out.2⟩

/-- A span that was answered. -/
def SS8 (w : World) (e : Ending) (w' : World) (L : Nat) (V1 V2 : Int) : Prop :=
  (∃ b1 a1 n1 k1 e1 b2 a2 n2 k2 e2, e = .returned (.tuple #[.agg #[.bool b1, .slice a1 n1 k1, .int .i64 e1, .bool b2, .slice a2 n2 k2, .int .i64 e2], .int .i64 0]) ∧ G8 w' b1 a1 n1 k1 e1 L V1 ∧ G8 w' b2 a2 n2 k2 e2 L V2) ∧ Below w.heap.size w w'

end Go.Proofs.YtgkbjoobgaldnaaDoor
