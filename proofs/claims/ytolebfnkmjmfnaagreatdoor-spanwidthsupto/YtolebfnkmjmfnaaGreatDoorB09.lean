/- Package span: answered, Make, Point, with what they refuse. -/
import Derived.Test.YtolebfnkmjmfnaaGreatDoorB08
import Derived.Test.YtolebfnkmjmfnaaGreatDoorB02
import Derived.Test.YtolebfnkmjmfnaaGreatDoorB06
import Derived.Deep.RegionHeld3
import Derived.Test.YtolebfnkmjmfnaaGreatDoorB03
import Derived.Test.YtolebfnkmjmfnaaGreatDoorB05
namespace Go.Proofs.YtolebfnkmjmfnaaGreatDoor
open Go.RowKit
open Lm
attribute [local go_sem ↓] Go.wp_at_zero Go.wp_at_succ

/-- What Compare answers of a span's two ends, wherever nothing of w has turned. -/
def CmpOf (w : World) (b1 : Bool) (a1 : Option Addr) (n1 k1 : Nat) (ex1 : Int) (b2 : Bool) (a2 : Option Addr) (n2 k2 : Nat) (ex2 o c : Int) : Prop :=
  ∀ W, Below w.heap.size w W → Calls Tryz.prog 57 #[.agg #[.bool b1, .slice a1 n1 k1, .int .i64 ex1], .agg #[.bool b2, .slice a2 n2 k2, .int .i64 ex2]] W fun e w' => e = .returned (.tuple #[.int .i64 o, .int .i64 c]) ∧ Below W.heap.size W w'

theorem CmpOf.below {w w' : World} {b1 : Bool} {a1 : Option Addr} {n1 k1 : Nat} {ex1 : Int} {b2 : Bool} {a2 : Option Addr} {n2 k2 : Nat} {ex2 o c : Int} (h : CmpOf w b1 a1 n1 k1 ex1 b2 a2 n2 k2 ex2 o c) (hb : Below w.heap.size w w') : CmpOf w' b1 a1 n1 k1 ex1 b2 a2 n2 k2 ex2 o c :=
  fun W hg => h W (bl_trans8 hb hg)

set_option maxRecDepth 20000 in
set_option maxHeartbeats 2000000 in
theorem answered_no (b1 : Bool) (a1 : Option Addr) (n1 k1 : Nat) (ex1 : Int) (b2 : Bool) (a2 : Option Addr) (n2 k2 : Nat) (ex2 o c : Int) (w : World) (hc : CmpOf w b1 a1 n1 k1 ex1 b2 a2 n2 k2 ex2 o c) (hf : fltC o c ≠ 0) :
    Calls Tryz.prog 64 #[.agg #[.bool b1, .slice a1 n1 k1, .int .i64 ex1, .bool b2, .slice a2 n2 k2, .int .i64 ex2]] w fun e w' => SErr w (fltC o c) e w' := by
  obtain ⟨w0, hw0, hb0, q0, q9⟩ := enter2 w (.cells #[.bool b1, .slice a1 n1 k1, .int .i64 ex1, .bool b2, .slice a2 n2 k2, .int .i64 ex2] 33) (.cells #[.bool false, .slice none 0 0, .int .i64 0, .bool false, .slice none 0 0, .int .i64 0] 33)
  obtain ⟨w1, hw1, hb1, q2⟩ := enter1 w0 (.cells #[.bool b1, .slice a1 n1 k1, .int .i64 ex1, .bool b2, .slice a2 n2 k2, .int .i64 ex2] 33)
  obtain ⟨y0, y1, y2, y3, y4, y5⟩ := hexa q0
  have gb := bl_trans8 hb0 hb1
  have C := fault1_any w0.heap.size b1 a1 n1 k1 ex1 b2 a2 n2 k2 ex2 o c w1 q2 (hc.below gb)
  generalize fltC o c = R at *
  have i9 : (R != 0) = true := by simpa using hf
  have HU0 := hide gb
  have HR0 := hide (block_upW hb1 q9)
  clear q0 q2 q9 hb0 hb1 gb hc hf
  go_enter Tryz.func64, Tryz.ntmps64
  go_wp2_with fail
  refine C.mono ?_
  rintro e t1 ⟨rfl, g1⟩
  have HC1 := hide (block_upW g1 HR0.out)
  have HG := hide (bl_trans8 HU0.out g1)
  have hf1 := hexaf HC1.out
  obtain ⟨m0, m1, m2, m3, m4, m5⟩ := hexa HC1.out
  clear g1 C
  go_wp2
  have T3 := hexa_all HC1.out (.bool false) (.slice none 0 0) (.int .i64 0) (.bool false) (.slice none 0 0) (.int .i64 0)
  have T4 := below_hexa HG.out (show w.heap.size ≤ w.heap.size+1 by omega) (.bool false) (.slice none 0 0) (.int .i64 0) (.bool false) (.slice none 0 0) (.int .i64 0)
  obtain ⟨p0, p1, p2, p3, p4, p5⟩ := hexa T3
  have HE := hide T4
  clear T3 T4
  generalize (((((t1.setCell ⟨w.heap.size+1, 0, none⟩ (.bool false)).setCell ⟨w.heap.size+1, 1, none⟩ (.slice none 0 0)).setCell ⟨w.heap.size+1, 2, none⟩ (.int .i64 0)).setCell ⟨w.heap.size+1, 3, none⟩ (.bool false)).setCell ⟨w.heap.size+1, 4, none⟩ (.slice none 0 0)).setCell ⟨w.heap.size+1, 5, none⟩ (.int .i64 0) = w5 at *
  refine bodyPost_ret (v := .tuple #[.agg #[.bool false, .slice none 0 0, .int .i64 0, .bool false, .slice none 0 0, .int .i64 0], .int .i64 R]) (by simp [results, Tryz.results64, go_sem, p0, p1, p2, p3, p4, p5]) rfl ?_
  exact ⟨rfl, HE.out⟩

set_option maxRecDepth 20000 in
set_option maxHeartbeats 2000000 in
theorem answered_ok (b1 : Bool) (a1 : Option Addr) (k1 : Nat) (X : List Nat) (ex1 : Int) (b2 : Bool) (a2 : Option Addr) (k2 : Nat) (Y : List Nat) (ex2 o : Int) (w : World) (hc : CmpOf w b1 a1 X.length k1 ex1 b2 a2 Y.length k2 ex2 o 0) (ho : o ≤ 0) (hT : Tab w) (hA : Arg w (.slice a1 X.length k1) X) (hB : Arg w (.slice a2 Y.length k2) Y) (f1 : X.length ≤ 17592186044416) (f2 : Y.length ≤ 17592186044416) (hE1 : fitE ex1 = true) (hE2 : fitE ex2 = true) :
    Calls Tryz.prog 64 #[.agg #[.bool b1, .slice a1 X.length k1, .int .i64 ex1, .bool b2, .slice a2 Y.length k2, .int .i64 ex2]] w fun e w' => SRes w e w' (omz (zz b1 (val X))) (oe (zz b1 (val X)) ex1) (omz (zz b2 (val Y))) (oe (zz b2 (val Y)) ex2) := by
  obtain ⟨w0, hw0, hb0, q0, q9⟩ := enter2 w (.cells #[.bool b1, .slice a1 X.length k1, .int .i64 ex1, .bool b2, .slice a2 Y.length k2, .int .i64 ex2] 33) (.cells #[.bool false, .slice none 0 0, .int .i64 0, .bool false, .slice none 0 0, .int .i64 0] 33)
  obtain ⟨w1, hw1, hb1, q2⟩ := enter1 w0 (.cells #[.bool b1, .slice a1 X.length k1, .int .i64 ex1, .bool b2, .slice a2 Y.length k2, .int .i64 ex2] 33)
  obtain ⟨y0, y1, y2, y3, y4, y5⟩ := hexa q0
  have gb := bl_trans8 hb0 hb1
  have CF := fault1_any w0.heap.size b1 a1 X.length k1 ex1 b2 a2 Y.length k2 ex2 o 0 w1 q2 (hc.below gb)
  rw [show fltC o 0 = 0 by unfold fltC; rw [if_pos rfl, if_neg (by omega)]] at CF
  have CB := hide (fun (W : World) (hg : Below w.heap.size w W) => byM b1 a1 k1 X ex1 b2 a2 k2 Y ex2 W (hT.below hg) (hA.below hg) (hB.below hg) f1 f2 hE1 hE2)
  have HU1 := hide gb
  have HQ0 := hide (block_upW hb1 q0)
  have HR1 := hide (block_upW hb1 q9)
  generalize omz (zz b1 (val X)) = M1 at *
  generalize oe (zz b1 (val X)) ex1 = E1 at *
  generalize omz (zz b2 (val Y)) = M2 at *
  generalize oe (zz b2 (val Y)) ex2 = E2 at *
  clear q0 q2 q9 hb0 hb1 gb hc ho hT hA hB
  go_enter Tryz.func64, Tryz.ntmps64
  go_wp2_with fail
  refine CF.mono ?_
  rintro e t2 ⟨rfl, g2⟩
  have HU0 := hide (bl_trans8 HU1.out g2)
  have HR0 := hide (block_upW g2 HR1.out)
  have C := CB.out t2 HU0.out
  clear y0 y1 y2 y3 y4 y5 CF hw0 hw1
  obtain ⟨y0, y1, y2, y3, y4, y5⟩ := hexa (block_upW g2 HQ0.out)
  clear g2
  go_wp2_with fail
  refine C.mono ?_
  rintro e t1 ⟨⟨b6, a6, n6, c6, e6, b7, a7, n7, c7, e7, d7, rfl, hg1⟩, g1⟩
  have HC1 := hide (block_upW g1 HR0.out)
  have HG := hide (bl_trans8 HU0.out g1)
  have HSR := hide (hg1.base HU0.out.size)
  have hf1 := hexaf HC1.out
  obtain ⟨m0, m1, m2, m3, m4, m5⟩ := hexa HC1.out
  clear g1 hg1 C
  go_wp2
  have T3 := hexa_all HC1.out (.bool b6) (.slice a6 n6 c6) (.int .i64 e6) (.bool b7) (.slice a7 n7 c7) (.int .i64 e7)
  have T4 := below_hexa HG.out (show w.heap.size ≤ w.heap.size+1 by omega) (.bool b6) (.slice a6 n6 c6) (.int .i64 e6) (.bool b7) (.slice a7 n7 c7) (.int .i64 e7)
  have T5 := HSR.out.hexa HC1.out (by decide) (.bool b6) (.slice a6 n6 c6) (.int .i64 e6) (.bool b7) (.slice a7 n7 c7) (.int .i64 e7)
  obtain ⟨p0, p1, p2, p3, p4, p5⟩ := hexa T3
  have HE := hide (And.intro T5 T4)
  clear T3 T4 T5
  generalize (((((t1.setCell ⟨w.heap.size+1, 0, none⟩ (.bool b6)).setCell ⟨w.heap.size+1, 1, none⟩ (.slice a6 n6 c6)).setCell ⟨w.heap.size+1, 2, none⟩ (.int .i64 e6)).setCell ⟨w.heap.size+1, 3, none⟩ (.bool b7)).setCell ⟨w.heap.size+1, 4, none⟩ (.slice a7 n7 c7)).setCell ⟨w.heap.size+1, 5, none⟩ (.int .i64 e7) = w5 at *
  refine bodyPost_ret (v := .tuple #[.agg #[.bool b6, .slice a6 n6 c6, .int .i64 e6, .bool b7, .slice a7 n7 c7, .int .i64 e7], .int .i64 d7]) (by simp [results, Tryz.results64, go_sem, p0, p1, p2, p3, p4, p5]) rfl ?_
  exact ⟨⟨_, _, _, _, _, _, _, _, _, _, _, rfl, HE.out.1⟩, HE.out.2⟩

set_option maxRecDepth 20000 in
set_option maxHeartbeats 2000000 in
theorem smake_no (b1 : Bool) (a1 : Option Addr) (n1 k1 : Nat) (ex1 : Int) (b2 : Bool) (a2 : Option Addr) (n2 k2 : Nat) (ex2 o c : Int) (w : World) (hc : CmpOf w b1 a1 n1 k1 ex1 b2 a2 n2 k2 ex2 o c) (hf : fltC o c ≠ 0) :
    Calls Tryz.prog 30 #[.agg #[.bool b1, .slice a1 n1 k1, .int .i64 ex1], .agg #[.bool b2, .slice a2 n2 k2, .int .i64 ex2]] w fun e w' => SErr w (fltC o c) e w' := by
  obtain ⟨w0, hw0, hb0, q0, q1, q9⟩ := enter3 w (.cells #[.bool b1, .slice a1 n1 k1, .int .i64 ex1] 31) (.cells #[.bool b2, .slice a2 n2 k2, .int .i64 ex2] 31) (.cells #[.bool false, .slice none 0 0, .int .i64 0, .bool false, .slice none 0 0, .int .i64 0] 33)
  obtain ⟨y0, y1, y2⟩ := tri8 q0
  obtain ⟨z0, z1, z2⟩ := tri8 q1
  have C := answered_no b1 a1 n1 k1 ex1 b2 a2 n2 k2 ex2 o c w0 (hc.below hb0) hf
  generalize fltC o c = R at *
  have HU0 := hide hb0
  have HR0 : Hid (w0.heap[w.heap.size + 1 + 1]? = some (.cells #[.bool false, .slice none 0 0, .int .i64 0, .bool false, .slice none 0 0, .int .i64 0] 33)) := hide q9
  clear q0 q1 q9 hb0 hc hf
  go_enter Tryz.func30, Tryz.ntmps30
  go_wp2_with fail
  refine C.mono ?_
  rintro e t1 ⟨rfl, g1⟩
  have HC1 := hide (block_upW g1 HR0.out)
  have HG := hide (bl_trans8 HU0.out g1)
  have hf1 := hexaf HC1.out
  obtain ⟨m0, m1, m2, m3, m4, m5⟩ := hexa HC1.out
  clear g1 C
  go_wp2
  have T3 := hexa_all HC1.out (.bool false) (.slice none 0 0) (.int .i64 0) (.bool false) (.slice none 0 0) (.int .i64 0)
  have T4 := below_hexa HG.out (show w.heap.size ≤ w.heap.size+1+1 by omega) (.bool false) (.slice none 0 0) (.int .i64 0) (.bool false) (.slice none 0 0) (.int .i64 0)
  obtain ⟨p0, p1, p2, p3, p4, p5⟩ := hexa T3
  have HE := hide T4
  clear T3 T4
  generalize (((((t1.setCell ⟨w.heap.size+1+1, 0, none⟩ (.bool false)).setCell ⟨w.heap.size+1+1, 1, none⟩ (.slice none 0 0)).setCell ⟨w.heap.size+1+1, 2, none⟩ (.int .i64 0)).setCell ⟨w.heap.size+1+1, 3, none⟩ (.bool false)).setCell ⟨w.heap.size+1+1, 4, none⟩ (.slice none 0 0)).setCell ⟨w.heap.size+1+1, 5, none⟩ (.int .i64 0) = w5 at *
  refine bodyPost_ret (v := .tuple #[.agg #[.bool false, .slice none 0 0, .int .i64 0, .bool false, .slice none 0 0, .int .i64 0], .int .i64 R]) (by simp [results, Tryz.results30, go_sem, p0, p1, p2, p3, p4, p5]) rfl ?_
  exact ⟨rfl, HE.out⟩

set_option maxRecDepth 20000 in
set_option maxHeartbeats 2000000 in
theorem smake_ok (b1 : Bool) (a1 : Option Addr) (k1 : Nat) (X : List Nat) (ex1 : Int) (b2 : Bool) (a2 : Option Addr) (k2 : Nat) (Y : List Nat) (ex2 o : Int) (w : World) (hc : CmpOf w b1 a1 X.length k1 ex1 b2 a2 Y.length k2 ex2 o 0) (ho : o ≤ 0) (hT : Tab w) (hA : Arg w (.slice a1 X.length k1) X) (hB : Arg w (.slice a2 Y.length k2) Y) (f1 : X.length ≤ 17592186044416) (f2 : Y.length ≤ 17592186044416) (hE1 : fitE ex1 = true) (hE2 : fitE ex2 = true) :
    Calls Tryz.prog 30 #[.agg #[.bool b1, .slice a1 X.length k1, .int .i64 ex1], .agg #[.bool b2, .slice a2 Y.length k2, .int .i64 ex2]] w fun e w' => SRes w e w' (omz (zz b1 (val X))) (oe (zz b1 (val X)) ex1) (omz (zz b2 (val Y))) (oe (zz b2 (val Y)) ex2) := by
  obtain ⟨w0, hw0, hb0, q0, q1, q9⟩ := enter3 w (.cells #[.bool b1, .slice a1 X.length k1, .int .i64 ex1] 31) (.cells #[.bool b2, .slice a2 Y.length k2, .int .i64 ex2] 31) (.cells #[.bool false, .slice none 0 0, .int .i64 0, .bool false, .slice none 0 0, .int .i64 0] 33)
  obtain ⟨y0, y1, y2⟩ := tri8 q0
  obtain ⟨z0, z1, z2⟩ := tri8 q1
  have C := answered_ok b1 a1 k1 X ex1 b2 a2 k2 Y ex2 o w0 (hc.below hb0) ho (hT.below hb0) (hA.below hb0) (hB.below hb0) f1 f2 hE1 hE2
  have HU0 := hide hb0
  have HR0 : Hid (w0.heap[w.heap.size + 1 + 1]? = some (.cells #[.bool false, .slice none 0 0, .int .i64 0, .bool false, .slice none 0 0, .int .i64 0] 33)) := hide q9
  generalize omz (zz b1 (val X)) = M1 at *
  generalize oe (zz b1 (val X)) ex1 = E1 at *
  generalize omz (zz b2 (val Y)) = M2 at *
  generalize oe (zz b2 (val Y)) ex2 = E2 at *
  clear q0 q1 q9 hb0 hc ho hT hA hB
  go_enter Tryz.func30, Tryz.ntmps30
  go_wp2_with fail
  refine C.mono ?_
  rintro e t1 ⟨⟨b6, a6, n6, c6, e6, b7, a7, n7, c7, e7, d7, rfl, hg1⟩, g1⟩
  have HC1 := hide (block_upW g1 HR0.out)
  have HG := hide (bl_trans8 HU0.out g1)
  have HSR := hide (hg1.base HU0.out.size)
  have hf1 := hexaf HC1.out
  obtain ⟨m0, m1, m2, m3, m4, m5⟩ := hexa HC1.out
  clear g1 hg1 C
  go_wp2
  have T3 := hexa_all HC1.out (.bool b6) (.slice a6 n6 c6) (.int .i64 e6) (.bool b7) (.slice a7 n7 c7) (.int .i64 e7)
  have T4 := below_hexa HG.out (show w.heap.size ≤ w.heap.size+1+1 by omega) (.bool b6) (.slice a6 n6 c6) (.int .i64 e6) (.bool b7) (.slice a7 n7 c7) (.int .i64 e7)
  have T5 := HSR.out.hexa HC1.out (by decide) (.bool b6) (.slice a6 n6 c6) (.int .i64 e6) (.bool b7) (.slice a7 n7 c7) (.int .i64 e7)
  obtain ⟨p0, p1, p2, p3, p4, p5⟩ := hexa T3
  have HE := hide (And.intro T5 T4)
  clear T3 T4 T5
  generalize (((((t1.setCell ⟨w.heap.size+1+1, 0, none⟩ (.bool b6)).setCell ⟨w.heap.size+1+1, 1, none⟩ (.slice a6 n6 c6)).setCell ⟨w.heap.size+1+1, 2, none⟩ (.int .i64 e6)).setCell ⟨w.heap.size+1+1, 3, none⟩ (.bool b7)).setCell ⟨w.heap.size+1+1, 4, none⟩ (.slice a7 n7 c7)).setCell ⟨w.heap.size+1+1, 5, none⟩ (.int .i64 e7) = w5 at *
  refine bodyPost_ret (v := .tuple #[.agg #[.bool b6, .slice a6 n6 c6, .int .i64 e6, .bool b7, .slice a7 n7 c7, .int .i64 e7], .int .i64 d7]) (by simp [results, Tryz.results30, go_sem, p0, p1, p2, p3, p4, p5]) rfl ?_
  exact ⟨⟨_, _, _, _, _, _, _, _, _, _, _, rfl, HE.out.1⟩, HE.out.2⟩

end Go.Proofs.YtolebfnkmjmfnaaGreatDoor

namespace Go.Proofs.YtolebfnkmjmfnaaGreatDoor
open Go.RowKit
open Lm
attribute [local go_sem ↓] Go.wp_at_zero Go.wp_at_succ

/-- Nothing below base has turned, and no box. -/
structure BK (base : Nat) (w w' : World) : Prop where
  below : Below base w w'
  box : ∀ (g : Nat) (cs : Array Value) (t : TypeId), t ≠ 101 → t ≠ 22 → w.heap[g]? = some (.cells cs t) → w'.heap[g]? = some (.cells cs t)

theorem BK.refl (base : Nat) (w : World) : BK base w w := ⟨Below.refl _ _, fun _ _ _ _ _ h => h⟩

theorem BK.store {base : Nat} {w wr : World} {g n cap : Nat} {zs : List Nat} (h : BK base w wr) (ha : Ans wr base (.slice (some ⟨g, 0, none⟩) n cap) zs) (j : Nat) (u : Value) : BK base w (wr.setCell ⟨g, j, none⟩ u) := by
  obtain ⟨_, h2⟩ := ha.own
  rcases h2 with ⟨e, _⟩ | ⟨g', cap', cur, e, hge, hh, _⟩
  · cases e
  · simp only [Value.slice.injEq, Option.some.injEq, Addr.mk.injEq] at e
    obtain ⟨⟨rfl, _⟩, _⟩ := e
    refine ⟨h.below.setCell (p := ⟨g, j, none⟩) hge u, fun g2 cs t ht ht2 hc => ?_⟩
    have h1 := h.box g2 cs t ht ht2 hc
    rw [Below.heap_setCell _ _ _ _ ?_]
    · exact h1
    · rintro rfl
      rw [hh] at h1
      simp only [Option.some.injEq, Obj.cells.injEq] at h1
      exact ht h1.2.1.symm

theorem BK.grew {base : Nat} {w wr w2 : World} {v : Value} {zs : List Nat} {L : Nat} {vs : Array Value} {o : Obj} (h : BK base w wr) (hrow : Ans wr base v zs) (hL : wr.heap[L]? = some (.cells vs 22 (0, 0))) (hb : base ≤ L) (hg : (wr.alloc o).grownBy w2 v.ownBlock) (k : Nat) (u : Value) :
    BK base w (w2.setCell ⟨L, k, none⟩ u) := by
  have hLs := lt_of_block hL
  refine ⟨((h.below.alloc (by omega) _).grown hg (by simp; omega) (fun g hg => (hrow.own.lt g hg).1)).setCell hb _, fun g2 cs t ht ht2 hc => ?_⟩
  have h1 := h.box g2 cs t ht ht2 hc
  have h1s := lt_of_block h1
  have hsz : (wr.alloc o).heap.size = wr.heap.size + 1 := by simp
  rw [Below.heap_setCell _ _ _ _ ?_]
  · have e1 : (wr.alloc o).heap[g2]? = wr.heap[g2]? := Below.heap_alloc wr o g2 h1s
    rw [hg.block g2 (by omega) ?_, e1]
    · exact h1
    · intro e
      obtain ⟨_, h2⟩ := hrow.own
      rcases h2 with ⟨rfl, _⟩ | ⟨g', cap', cur, rfl, hge, hh, _⟩
      · simp [Value.ownBlock] at e
      · simp [Value.ownBlock] at e
        subst e
        rw [hh] at h1
        simp only [Option.some.injEq, Obj.cells.injEq] at h1
        exact ht h1.2.1.symm
  · rintro rfl
    rw [hL] at h1
    simp only [Option.some.injEq, Obj.cells.injEq] at h1
    exact ht2 h1.2.1.symm

/-- Answers that lie apart. -/
structure Aparts (w : World) (base : Nat) (vs : List Value) (rss : List (List Nat)) : Prop where
  len : vs.length = rss.length
  row : ∀ i, i < vs.length → Ans w base (vs.getD i nilV) (rss.getD i [])
  apart : ∀ i j, i < vs.length → j < vs.length → i ≠ j → (vs.getD i nilV).ownBlock = none ∨ (vs.getD i nilV).ownBlock ≠ (vs.getD j nilV).ownBlock

theorem Aparts.below {w w' : World} {base : Nat} {vs : List Value} {rss : List (List Nat)} (h : Aparts w base vs rss) (hb : Below w.heap.size w w') : Aparts w' base vs rss := ⟨h.len, fun i hi => (h.row i hi).below hb, h.apart⟩

end Go.Proofs.YtolebfnkmjmfnaaGreatDoor

namespace Go.Proofs.YtolebfnkmjmfnaaGreatDoor
open Go.RowKit
open Lm
attribute [local go_sem ↓] Go.wp_at_zero Go.wp_at_succ

theorem rfits_any (n : Int) (w : World) : Calls Tryz.prog 23 #[.int .i64 n] w fun e w' => e = .returned (.bool (fitE n)) ∧ w' = w := by
  by_cases h1 : -1099511627776 ≤ n
  · have h1' : decide (-1099511627776 ≤ n) = true := decide_eq_true h1
    by_cases h2 : n ≤ 1099511627776
    · have h2' : decide (n ≤ 1099511627776) = true := decide_eq_true h2
      rw [(fitE_iff n).2 ⟨h1, h2⟩]
      go_enter Tryz.func23, Tryz.ntmps23
      go_wp2
      go_ret
      exact ⟨rfl, rfl⟩
    · have h2' : decide (n ≤ 1099511627776) = false := decide_eq_false h2
      have e : fitE n = false := by rw [← Bool.not_eq_true, fitE_iff]; omega
      rw [e]
      go_enter Tryz.func23, Tryz.ntmps23
      go_wp2
      go_ret
      exact ⟨rfl, rfl⟩
  · have h1' : decide (-1099511627776 ≤ n) = false := decide_eq_false h1
    have e : fitE n = false := by rw [← Bool.not_eq_true, fitE_iff]; omega
    rw [e]
    go_enter Tryz.func23, Tryz.ntmps23
    go_wp2
    go_ret
    exact ⟨rfl, rfl⟩

/-- What Told answers. -/
def ToldR (w' : World) (b : Bool) (v : Value) (M E : Int) (b' : Bool) (v' : Value) (E' f : Int) : Prop :=
  (f = 0 ∧ b' = b ∧ v' = v ∧ E' = E ∧ blen M.natAbs ≤ 67108864 ∧ fitE E = true ∧ Dn w' b v M) ∨ (f = 3 ∧ 67108864 < blen M.natAbs) ∨ (f = 80 ∧ blen M.natAbs ≤ 67108864 ∧ fitE E = false)

set_option maxRecDepth 20000 in
set_option maxHeartbeats 1000000 in
theorem rtold_any (b : Bool) (a : Option Addr) (n c : Nat) (M E : Int) (w : World) (h : Dn w b (.slice a n c) M) :
    Calls Tryz.prog 32 #[.agg #[.bool b, .slice a n c, .int .i64 E]] w fun e w' => (∃ b' a' n' c' E' f, e = .returned (.tuple #[.agg #[.bool b', .slice a' n' c', .int .i64 E'], .int .i64 f]) ∧ ToldR w' b (.slice a n c) M E b' (.slice a' n' c') E' f) ∧ Below w.heap.size w w' := by
  obtain ⟨w0, hw0, hb0, h0, h1⟩ := enter2 w (.cells #[.bool b, .slice a n c, .int .i64 E] 41) (.cells #[.bool false, .slice none 0 0, .int .i64 0] 41)
  obtain ⟨k0, k1, k2⟩ := tri8 h0
  have hf := tri8f h1
  obtain ⟨m0, m1, m2⟩ := tri8 h1
  have HL := len_any _ M.natAbs w0 (h.2.below hb0)
  have HFI := rfits_any E w0
  have HC1 := hide h1
  have HG := hide hb0
  have HDN := hide (h.below hb0)
  clear h0 h1 hb0 h
  by_cases hb : blen M.natAbs ≤ 67108864
  · have i1 : ¬ (67108864 : Int) < ((blen M.natAbs : Nat) : Int) := by omega
    have HBL := hide hb
    by_cases hfit : fitE E = true
    · have HFE := hide hfit
      rw [hfit] at HFI
      clear hfit hb
      generalize hbl : blen M.natAbs = l at *
      go_enter Tryz.func32, Tryz.ntmps32
      go_wp2_with fail
      refine HL.mono ?_
      rintro e wn ⟨rfl, hw⟩; rw [hw]; clear hw wn HL
      go_wp2_with fail
      refine HFI.mono ?_
      rintro e wn ⟨rfl, hw⟩; rw [hw]; clear hw wn HFI
      go_wp2
      have T3 := tri8_all HC1.out (.bool b) (.slice a n c) (.int .i64 E)
      have T4 := below_tri8 HG.out (show w.heap.size ≤ w.heap.size + 1 by omega) (.bool b) (.slice a n c) (.int .i64 E)
      have T5 := HDN.out.tri8 HC1.out b a n c (.int .i64 E)
      obtain ⟨p0, p1, p2⟩ := tri8 T3
      have HE := hide (And.intro T5 T4)
      clear T3 T4 T5
      generalize ((w0.setCell ⟨w.heap.size + 1, 0, none⟩ (.bool b)).setCell ⟨w.heap.size + 1, 1, none⟩ (.slice a n c)).setCell ⟨w.heap.size + 1, 2, none⟩ (.int .i64 E) = w5 at *
      refine bodyPost_ret (v := .tuple #[.agg #[.bool b, .slice a n c, .int .i64 E], .int .i64 0]) (by simp [results, Tryz.results32, go_sem, p0, p1, p2]) rfl ?_
      exact ⟨⟨_, _, _, _, _, _, rfl, .inl ⟨rfl, rfl, rfl, rfl, by rw [hbl]; exact HBL.out, HFE.out, HE.out.1⟩⟩, HE.out.2⟩
    · have hfit2 : fitE E = false := by simpa using hfit
      have HFE := hide hfit2
      rw [hfit2] at HFI
      clear hfit hfit2 hb
      generalize hbl : blen M.natAbs = l at *
      go_enter Tryz.func32, Tryz.ntmps32
      go_wp2_with fail
      refine HL.mono ?_
      rintro e wn ⟨rfl, hw⟩; rw [hw]; clear hw wn HL
      go_wp2_with fail
      refine HFI.mono ?_
      rintro e wn ⟨rfl, hw⟩; rw [hw]; clear hw wn HFI
      go_wp2
      have T3 := tri8_all HC1.out (.bool false) (.slice none 0 0) (.int .i64 0)
      have T4 := below_tri8 HG.out (show w.heap.size ≤ w.heap.size + 1 by omega) (.bool false) (.slice none 0 0) (.int .i64 0)
      have T5 := HDN.out.tri8 HC1.out false none 0 0 (.int .i64 0)
      obtain ⟨p0, p1, p2⟩ := tri8 T3
      have HE := hide (And.intro T5 T4)
      clear T3 T4 T5
      generalize ((w0.setCell ⟨w.heap.size + 1, 0, none⟩ (.bool false)).setCell ⟨w.heap.size + 1, 1, none⟩ (.slice none 0 0)).setCell ⟨w.heap.size + 1, 2, none⟩ (.int .i64 0) = w5 at *
      refine bodyPost_ret (v := .tuple #[.agg #[.bool false, .slice none 0 0, .int .i64 0], .int .i64 80]) (by simp [results, Tryz.results32, go_sem, p0, p1, p2]) rfl ?_
      exact ⟨⟨_, _, _, _, _, _, rfl, .inr (.inr ⟨rfl, by rw [hbl]; exact HBL.out, HFE.out⟩)⟩, HE.out.2⟩
  · have i1 : (67108864 : Int) < ((blen M.natAbs : Nat) : Int) := by omega
    have HBL := hide (Nat.lt_of_not_le hb)
    clear hb HFI
    generalize hbl : blen M.natAbs = l at *
    go_enter Tryz.func32, Tryz.ntmps32
    go_wp2_with fail
    refine HL.mono ?_
    rintro e wn ⟨rfl, hw⟩; rw [hw]; clear hw wn HL
    go_wp2
    have T3 := tri8_all HC1.out (.bool false) (.slice none 0 0) (.int .i64 0)
    have T4 := below_tri8 HG.out (show w.heap.size ≤ w.heap.size + 1 by omega) (.bool false) (.slice none 0 0) (.int .i64 0)
    have T5 := HDN.out.tri8 HC1.out false none 0 0 (.int .i64 0)
    obtain ⟨p0, p1, p2⟩ := tri8 T3
    have HE := hide (And.intro T5 T4)
    clear T3 T4 T5
    generalize ((w0.setCell ⟨w.heap.size + 1, 0, none⟩ (.bool false)).setCell ⟨w.heap.size + 1, 1, none⟩ (.slice none 0 0)).setCell ⟨w.heap.size + 1, 2, none⟩ (.int .i64 0) = w5 at *
    refine bodyPost_ret (v := .tuple #[.agg #[.bool false, .slice none 0 0, .int .i64 0], .int .i64 3]) (by simp [results, Tryz.results32, go_sem, p0, p1, p2]) rfl ?_
    exact ⟨⟨_, _, _, _, _, _, rfl, .inr (.inl ⟨rfl, by rw [hbl]; exact HBL.out⟩)⟩, HE.out.2⟩

end Go.Proofs.YtolebfnkmjmfnaaGreatDoor

namespace Go.Proofs.YtolebfnkmjmfnaaGreatDoor
open Go.RowKit
open Lm
attribute [local go_sem ↓] Go.wp_at_zero Go.wp_at_succ

/-- A code of a dyadic's. -/
def IsCode (c : Int) : Prop := c = 0 ∨ c = 3 ∨ c = 80

theorem isCode (M E : Int) : IsCode (dcode M E) := by
  unfold dcode IsCode
  split
  · exact .inr (.inl rfl)
  · split
    · exact .inl rfl
    · exact .inr (.inr rfl)

set_option maxRecDepth 20000 in
theorem worst10_any (c1 c2 : Int) (w : World) (h1 : IsCode c1) (h2 : IsCode c2) :
    Calls Tryz.prog 54 #[.int .i64 c1, .int .i64 c2] w fun e w' => e = .returned (.int .i64 (refC c1 c2)) ∧ w' = w := by
  rcases h1 with rfl | rfl | rfl <;> rcases h2 with rfl | rfl | rfl <;>
    (go_enter Tryz.func54, Tryz.ntmps54
     go_wp2
     go_ret
     exact ⟨rfl, rfl⟩)

set_option maxRecDepth 20000 in
set_option maxHeartbeats 1000000 in
theorem lent10_any (b : Bool) (a : Option Addr) (c : Nat) (X : List Nat) (ex : Int) (w : World) (hA : Arg w (.slice a X.length c) X) (hf : X.length ≤ 35184372088000) :
    Calls Tryz.prog 22 #[.agg #[.bool b, .slice a X.length c, .int .i64 ex]] w fun e w' => (∃ aw mw nw a' c', e = .returned (.tuple #[.slice aw mw nw, .agg #[.bool b, .slice a' X.length c', .int .i64 ex]]) ∧ Lent w' (.slice aw mw nw) X ∧ Arg w' (.slice a' X.length c') X) ∧ Below w.heap.size w w' := by
  obtain ⟨w0, hw0, hb0, h0, hx0⟩ := enter2 w (.cells #[.bool b, .slice a X.length c, .int .i64 ex] 24) (.cells #[.bool false, .slice none 0 0, .int .i64 0] 31)
  obtain ⟨k0, k1, k2⟩ := tri8 h0
  have HM := lend_ok _ X w0 (hA.below hb0) hf
  have HB0 := hide hb0
  have HX0 := hide hx0
  have HK0 := hide h0
  clear hA hb0 h0 hx0
  go_enter Tryz.func22, Tryz.ntmps22
  go_wp2_with fail
  refine HM.mono ?_
  rintro e w1 ⟨⟨vw, vp, rfl, hL, hP⟩, hb1⟩
  obtain ⟨gw, rfl, hgw⟩ := hL
  obtain ⟨a1, n1, rfl, _, _, _⟩ := hP.form
  have hbx := block_upW hb1 HX0.out
  have hf1 := tri8f hbx
  obtain ⟨l0, l1, l2⟩ := tri8 hbx
  obtain ⟨j0, j1, j2⟩ := tri8 (block_upW hb1 HK0.out)
  have HBX := hide hbx
  have HBE := hide (HB0.out.trans (hb1.mono HB0.out.size))
  have HP := hide hP
  have HG := hide hgw
  clear hbx hb1 HM hw0 k0 k1 k2 hP hgw
  go_wp2
  go_region
  have R5 := tri8_all HBX.out (.bool b) (.slice a1 X.length n1) (.int .i64 ex)
  have HD := hide (And.intro (HP.out.tri8 HBX.out b a1 X.length n1 (.int .i64 ex)) (below_tri8 HBE.out (show w.heap.size ≤ w.heap.size + 1 by omega) (.bool b) (.slice a1 X.length n1) (.int .i64 ex)))
  have hgl : gw ≠ w.heap.size + 1 := by
    rintro rfl
    have h := HG.out
    unfold Blk at h
    rw [HBX.out] at h
    simp at h
  have HLT : Hid (Blk (((w1.setCell ⟨w.heap.size + 1, 0, none⟩ (.bool b)).setCell ⟨w.heap.size + 1, 1, none⟩ (.slice a1 X.length n1)).setCell ⟨w.heap.size + 1, 2, none⟩ (.int .i64 ex)) gw (lent X)) := hide (by
    have h := HG.out
    unfold Blk at h ⊢
    rw [Below.heap_setCell _ _ _ _ hgl, Below.heap_setCell _ _ _ _ hgl, Below.heap_setCell _ _ _ _ hgl]
    exact h)
  generalize ((w1.setCell ⟨w.heap.size + 1, 0, none⟩ (.bool b)).setCell ⟨w.heap.size + 1, 1, none⟩ (.slice a1 X.length n1)).setCell ⟨w.heap.size + 1, 2, none⟩ (.int .i64 ex) = w5 at *
  obtain ⟨q0, q1, q2⟩ := tri8 (show w5.drew.heap[w.heap.size + 1]? = _ from R5)
  go_wp2
  refine bodyPost_ret (v := .tuple #[.slice (some ⟨gw, 0, none⟩) (X.length + 4) (X.length + 4), .agg #[.bool b, .slice a1 X.length n1, .int .i64 ex]]) (by simp [results, Tryz.results22, go_sem, q0, q1, q2]) rfl ?_
  exact ⟨⟨_, _, _, _, _, rfl, ⟨gw, rfl, HLT.out⟩, HD.out.1.below (Below.refl _ _).drew⟩, HD.out.2.drew⟩

set_option maxRecDepth 20000 in
set_option maxHeartbeats 2000000 in
theorem dyad10_any (b : Bool) (a : Option Addr) (c : Nat) (X : List Nat) (ex : Int) (w : World) (hA : Arg w (.slice a X.length c) X) (hf : X.length ≤ 17592186043904) (hE : fitE ex = true) :
    Calls Tryz.prog 24 #[.agg #[.bool b, .slice a X.length c, .int .i64 ex]] w fun e w' => (∃ b' a' n' c', e = .returned (.agg #[.bool b', .slice a' n' c', .int .i64 (oe (zz b (val X)) ex)]) ∧ Dn w' b' (.slice a' n' c') (omz (zz b (val X)))) ∧ Below w.heap.size w w' := by
  obtain ⟨w0, hw0, hb0, h0, h1⟩ := enter2 w (.cells #[.bool b, .slice a X.length c, .int .i64 ex] 24) (.cells #[.bool false, .slice none 0 0, .int .i64 0] 41)
  obtain ⟨k0, k1, k2⟩ := tri8 h0
  have hEr := (fitE_iff ex).1 hE
  have gd : Below w.heap.size w w0.drew := hb0.drew
  have g0 : Below w0.drew.heap.size w0.drew w0.drew := Below.refl _ _
  have HO := rzof_any b _ X w0.drew (hA.below gd) (by omega)
  have hbl : blen (zz b (val X)).natAbs ≤ 1125899906840000 := by
    rw [zz_abs]; have := blen_len8 hA.limbs; omega
  have HD := hide (fun (W : World) (b1 : Bool) (a1 : Option Addr) (n1 c1 : Nat) (hz : Zn W (.agg #[.bool b1, .slice a1 n1 c1]) (zz b (val X))) => rdOf_any b1 a1 n1 c1 (zz b (val X)) ex W hz hbl (by omega) (by omega))
  have KS := hide (fun (W : World) (hg : Below w0.drew.heap.size w0.drew W) => show W.cell? ⟨w.heap.size, 0, none⟩ = some (.bool b) ∧ W.cell? ⟨w.heap.size, 1, none⟩ = some (.slice a X.length c) ∧ W.cell? ⟨w.heap.size, 2, none⟩ = some (.int .i64 ex) from tri8 (block_upW hg (show w0.drew.heap[w.heap.size]? = some (.cells #[.bool b, .slice a X.length c, .int .i64 ex] 24) from h0)))
  have so : ∀ (W : World) (k : Nat) (u : Value) (k' : Nat), (W.setCell ⟨w.heap.size + 1, k, none⟩ u).cell? ⟨w.heap.size, k', none⟩ = W.cell? ⟨w.heap.size, k', none⟩ := fun W k u k' => cell_other8 (by omega)
  have H1 := hide (show w0.drew.heap[w.heap.size + 1]? = some (.cells #[.bool false, .slice none 0 0, .int .i64 0] 41) from h1)
  have HB := hide gd
  clear h0 h1 hb0 gd hE hA hbl
  generalize omz (zz b (val X)) = M at *
  generalize oe (zz b (val X)) ex = E at *
  generalize zz b (val X) = z at *
  go_enter Tryz.func24, Tryz.ntmps24
  go_wp2
  go_region_held3 (fun w' => w'.cell? ⟨w.heap.size, 0, none⟩ = some (.bool b) ∧ w'.cell? ⟨w.heap.size, 1, none⟩ = some (.slice a X.length c) ∧ w'.cell? ⟨w.heap.size, 2, none⟩ = some (.int .i64 ex)) (first | with_reducible exact KS.out _ g2 | with_reducible exact KS.out _ g1 | with_reducible exact KS.out _ g0 | (refine ⟨?_, ?_, ?_⟩ <;> (rw [so, so, so]; first | exact (KS.out _ g2).1 | exact (KS.out _ g2).2.1 | exact (KS.out _ g2).2.2))) (first
    | (go_at_call 56; refine HO.mono ?_; rintro e' t1 ⟨⟨b1, a1, n1, c1, rfl, z1⟩, g1⟩)
    | (go_at_call 50; refine (HD.out t1 b1 a1 n1 c1 z1).mono ?_; rintro e' t2 ⟨⟨b2, a2, n2, c2, rfl, d2⟩, hb2⟩; have g2 := bl_trans8 g1 hb2; have hz := block_upW g2 H1.out; have hf := tri8f hz; obtain ⟨m0, m1, m2⟩ := tri8 hz))
  have T3 := tri8_all hz (.bool b2) (.slice a2 n2 c2) (.int .i64 E)
  have T4 := below_tri8 (bl_trans8 HB.out g2) (show w.heap.size ≤ w.heap.size + 1 by omega) (.bool b2) (.slice a2 n2 c2) (.int .i64 E)
  have T5 := d2.tri8 hz b2 a2 n2 c2 (.int .i64 E)
  obtain ⟨p0, p1, p2⟩ := tri8 T3
  have HE := hide (And.intro T5 T4)
  clear T3 T4 T5 so m0 m1 m2 hf KS g0 g1 g2 hb2 HO hz d2 z1 HD k0 k1 k2
  generalize ((t2.setCell ⟨w.heap.size + 1, 0, none⟩ (.bool b2)).setCell ⟨w.heap.size + 1, 1, none⟩ (.slice a2 n2 c2)).setCell ⟨w.heap.size + 1, 2, none⟩ (.int .i64 E) = w5 at *
  go_wp2
  refine bodyPost_ret (v := .agg #[.bool b2, .slice a2 n2 c2, .int .i64 E]) (by simp [results, Tryz.results24, go_sem, p0, p1, p2]) rfl ?_
  exact ⟨⟨_, _, _, _, rfl, HE.out.1⟩, HE.out.2⟩

end Go.Proofs.YtolebfnkmjmfnaaGreatDoor

namespace Go.Proofs.YtolebfnkmjmfnaaGreatDoor
open Go.RowKit
open Lm
attribute [local go_sem ↓] Go.wp_at_zero Go.wp_at_succ

theorem octa {w : World} {g : Nat} {a b c d e f x y : Value} {t : TypeId} (h : w.heap[g]? = some (.cells #[a, b, c, d, e, f, x, y] t)) : w.cell? ⟨g, 0, none⟩ = some a ∧ w.cell? ⟨g, 1, none⟩ = some b ∧ w.cell? ⟨g, 2, none⟩ = some c ∧ w.cell? ⟨g, 3, none⟩ = some d ∧ w.cell? ⟨g, 4, none⟩ = some e ∧ w.cell? ⟨g, 5, none⟩ = some f ∧ w.cell? ⟨g, 6, none⟩ = some x ∧ w.cell? ⟨g, 7, none⟩ = some y := by
  simp [World.cell?, h]

theorem octaf {w : World} {g : Nat} {a b c d e f x y : Value} {t : TypeId} (h : w.heap[g]? = some (.cells #[a, b, c, d, e, f, x, y] t)) : ∀ k, w.frozen? ⟨g, k, none⟩ = false := fun k => by simp [World.frozen?, h]

/-- Eight cells written. -/
def set8 (w : World) (g : Nat) (u0 u1 u2 u3 u4 u5 u6 u7 : Value) : World :=
  (((((((w.setCell ⟨g, 0, none⟩ u0).setCell ⟨g, 1, none⟩ u1).setCell ⟨g, 2, none⟩ u2).setCell ⟨g, 3, none⟩ u3).setCell ⟨g, 4, none⟩ u4).setCell ⟨g, 5, none⟩ u5).setCell ⟨g, 6, none⟩ u6).setCell ⟨g, 7, none⟩ u7

theorem octa_all {w : World} {g : Nat} {a b c d e f x y : Value} {t : TypeId} (h : w.heap[g]? = some (.cells #[a, b, c, d, e, f, x, y] t)) (u0 u1 u2 u3 u4 u5 u6 u7 : Value) : (set8 w g u0 u1 u2 u3 u4 u5 u6 u7).heap[g]? = some (.cells #[u0, u1, u2, u3, u4, u5, u6, u7] t) := by
  have l0 : (w.setCell ⟨g, 0, none⟩ u0).heap[g]? = some (.cells #[u0, b, c, d, e, f, x, y] t) := box_modify (k := 0) h u0
  have l1 : ((w.setCell ⟨g, 0, none⟩ u0).setCell ⟨g, 1, none⟩ u1).heap[g]? = some (.cells #[u0, u1, c, d, e, f, x, y] t) := box_modify (k := 1) l0 u1
  have l2 : (((w.setCell ⟨g, 0, none⟩ u0).setCell ⟨g, 1, none⟩ u1).setCell ⟨g, 2, none⟩ u2).heap[g]? = some (.cells #[u0, u1, u2, d, e, f, x, y] t) := box_modify (k := 2) l1 u2
  have l3 : ((((w.setCell ⟨g, 0, none⟩ u0).setCell ⟨g, 1, none⟩ u1).setCell ⟨g, 2, none⟩ u2).setCell ⟨g, 3, none⟩ u3).heap[g]? = some (.cells #[u0, u1, u2, u3, e, f, x, y] t) := box_modify (k := 3) l2 u3
  have l4 : (((((w.setCell ⟨g, 0, none⟩ u0).setCell ⟨g, 1, none⟩ u1).setCell ⟨g, 2, none⟩ u2).setCell ⟨g, 3, none⟩ u3).setCell ⟨g, 4, none⟩ u4).heap[g]? = some (.cells #[u0, u1, u2, u3, u4, f, x, y] t) := box_modify (k := 4) l3 u4
  have l5 : ((((((w.setCell ⟨g, 0, none⟩ u0).setCell ⟨g, 1, none⟩ u1).setCell ⟨g, 2, none⟩ u2).setCell ⟨g, 3, none⟩ u3).setCell ⟨g, 4, none⟩ u4).setCell ⟨g, 5, none⟩ u5).heap[g]? = some (.cells #[u0, u1, u2, u3, u4, u5, x, y] t) := box_modify (k := 5) l4 u5
  have l6 : (((((((w.setCell ⟨g, 0, none⟩ u0).setCell ⟨g, 1, none⟩ u1).setCell ⟨g, 2, none⟩ u2).setCell ⟨g, 3, none⟩ u3).setCell ⟨g, 4, none⟩ u4).setCell ⟨g, 5, none⟩ u5).setCell ⟨g, 6, none⟩ u6).heap[g]? = some (.cells #[u0, u1, u2, u3, u4, u5, u6, y] t) := box_modify (k := 6) l5 u6
  have l7 : ((((((((w.setCell ⟨g, 0, none⟩ u0).setCell ⟨g, 1, none⟩ u1).setCell ⟨g, 2, none⟩ u2).setCell ⟨g, 3, none⟩ u3).setCell ⟨g, 4, none⟩ u4).setCell ⟨g, 5, none⟩ u5).setCell ⟨g, 6, none⟩ u6).setCell ⟨g, 7, none⟩ u7).heap[g]? = some (.cells #[u0, u1, u2, u3, u4, u5, u6, u7] t) := box_modify (k := 7) l6 u7
  exact l7

theorem below_octa {B : Nat} {w0 w : World} {g : Nat} (h : Below B w0 w) (hg : B ≤ g) (u0 u1 u2 u3 u4 u5 u6 u7 : Value) : Below B w0 (set8 w g u0 u1 u2 u3 u4 u5 u6 u7) :=
  (((((((h.setCell (p := ⟨g, 0, none⟩) hg u0).setCell (p := ⟨g, 1, none⟩) hg u1).setCell (p := ⟨g, 2, none⟩) hg u2).setCell (p := ⟨g, 3, none⟩) hg u3).setCell (p := ⟨g, 4, none⟩) hg u4).setCell (p := ⟨g, 5, none⟩) hg u5).setCell (p := ⟨g, 6, none⟩) hg u6).setCell (p := ⟨g, 7, none⟩) hg u7

/-- A block other than the one that is written. -/
theorem octa_other {w : World} {g h : Nat} (hn : h ≠ g) (u0 u1 u2 u3 u4 u5 u6 u7 : Value) : (set8 w g u0 u1 u2 u3 u4 u5 u6 u7).heap[h]? = w.heap[h]? := by
  unfold set8
  rw [Below.heap_setCell _ _ _ _ hn, Below.heap_setCell _ _ _ _ hn, Below.heap_setCell _ _ _ _ hn, Below.heap_setCell _ _ _ _ hn, Below.heap_setCell _ _ _ _ hn, Below.heap_setCell _ _ _ _ hn, Below.heap_setCell _ _ _ _ hn, Below.heap_setCell _ _ _ _ hn]

theorem Lies.octa {w : World} {ao : Option Addr} {zs : List Nat} {g : Nat} {a1 a2 a3 a4 : Option Addr} {n1 n2 n3 n4 c1 c2 c3 c4 : Nat} {p q : Bool} {e1 e2 : Int} {t : TypeId} (h : Lies w ao zs) (hl : w.heap[g]? = some (.cells #[.slice a1 n1 c1, .slice a2 n2 c2, .bool p, .slice a3 n3 c3, .int .i64 e1, .bool q, .slice a4 n4 c4, .int .i64 e2] t)) (u0 u1 u2 u3 u4 u5 u6 u7 : Value) : Lies (set8 w g u0 u1 u2 u3 u4 u5 u6 u7) ao zs := by
  rcases h with h | ⟨b, off, rfl, hc⟩
  · exact .inl h
  · rcases Nat.eq_zero_or_pos zs.length with h0 | h0
    · exact .inl (List.eq_nil_of_length_eq_zero h0)
    · have hn : b ≠ g := by
        rintro rfl
        have h1 := hc 0 h0
        rw [Nat.add_zero] at h1
        simp only [World.cell?, hl] at h1
        match off, h1 with
        | 0, h1 => simp at h1
        | 1, h1 => simp at h1
        | 2, h1 => simp at h1
        | 3, h1 => simp at h1
        | 4, h1 => simp at h1
        | 5, h1 => simp at h1
        | 6, h1 => simp at h1
        | 7, h1 => simp at h1
        | k + 8, h1 => simp at h1
      refine .inr ⟨b, off, rfl, fun k hk => ?_⟩
      have h2 := hc k hk
      simp only [World.cell?] at h2 ⊢
      rw [octa_other hn]
      exact h2

theorem Arg.octa {w : World} {v : Value} {zs : List Nat} {g : Nat} {a1 a2 a3 a4 : Option Addr} {n1 n2 n3 n4 c1 c2 c3 c4 : Nat} {p q : Bool} {e1 e2 : Int} {t : TypeId} (h : Arg w v zs) (hl : w.heap[g]? = some (.cells #[.slice a1 n1 c1, .slice a2 n2 c2, .bool p, .slice a3 n3 c3, .int .i64 e1, .bool q, .slice a4 n4 c4, .int .i64 e2] t)) (u0 u1 u2 u3 u4 u5 u6 u7 : Value) : Arg (set8 w g u0 u1 u2 u3 u4 u5 u6 u7) v zs := by
  obtain ⟨ao, cap, h1, h2, h3, h4⟩ := h.form
  exact ⟨⟨ao, cap, h1, h2, h3, h4.octa hl u0 u1 u2 u3 u4 u5 u6 u7⟩, h.limbs, h.few, h.nz⟩

theorem Lent.octa {w : World} {v : Value} {zs : List Nat} {g : Nat} {b c d e f x y : Value} {a1 : Option Addr} {n1 c1 : Nat} {t : TypeId} (h : Lent w v zs) (hl : w.heap[g]? = some (.cells #[.slice a1 n1 c1, b, c, d, e, f, x, y] t)) (u0 u1 u2 u3 u4 u5 u6 u7 : Value) : Lent (set8 w g u0 u1 u2 u3 u4 u5 u6 u7) v zs := by
  obtain ⟨k, h1, h2⟩ := h
  refine ⟨k, h1, ?_⟩
  unfold Blk at h2 ⊢
  rw [octa_other]
  · exact h2
  · rintro rfl
    rw [hl] at h2
    have h3 := congrArg (fun o : Option Obj => match o with | some (.cells cs _) => cs[0]? | _ => none) h2
    simp [lent, lv] at h3

set_option maxRecDepth 20000 in
set_option maxHeartbeats 2000000 in
theorem lend10_any (b1 : Bool) (a1 : Option Addr) (k1 : Nat) (X : List Nat) (ex1 : Int) (b2 : Bool) (a2 : Option Addr) (k2 : Nat) (Y : List Nat) (ex2 : Int) (w : World) (hA : Arg w (.slice a1 X.length k1) X) (hB : Arg w (.slice a2 Y.length k2) Y) (f1 : X.length ≤ 35184372088000) (f2 : Y.length ≤ 35184372088000) :
    Calls Tryz.prog 4 #[.agg #[.bool b1, .slice a1 X.length k1, .int .i64 ex1, .bool b2, .slice a2 Y.length k2, .int .i64 ex2]] w fun e w' => (∃ au mu nu av mv nv a' c' a'' c'', e = .returned (.agg #[.slice au mu nu, .slice av mv nv, .bool b1, .slice a' X.length c', .int .i64 ex1, .bool b2, .slice a'' Y.length c'', .int .i64 ex2]) ∧ Lent w' (.slice au mu nu) X ∧ Lent w' (.slice av mv nv) Y ∧ Arg w' (.slice a' X.length c') X ∧ Arg w' (.slice a'' Y.length c'') Y) ∧ Below w.heap.size w w' := by
  obtain ⟨w0, hw0, hb0, q0, q9⟩ := enter2 w (.cells #[.bool b1, .slice a1 X.length k1, .int .i64 ex1, .bool b2, .slice a2 Y.length k2, .int .i64 ex2] 26) (.cells #[.slice none 0 0, .slice none 0 0, .bool false, .slice none 0 0, .int .i64 0, .bool false, .slice none 0 0, .int .i64 0] 35)
  obtain ⟨y0, y1, y2, y3, y4, y5⟩ := hexa q0
  have HU0 := hide hb0
  have HQ0 := hide q0
  have HR0 := hide q9
  have C1 := hide (fun (W : World) (hg : Below w.heap.size w W) => lent10_any b1 a1 k1 X ex1 W (hA.below hg) f1)
  have C2 := hide (fun (W : World) (hg : Below w.heap.size w W) => lent10_any b2 a2 k2 Y ex2 W (hB.below hg) f2)
  clear q0 q9 hb0 hA hB
  go_enter Tryz.func4, Tryz.ntmps4
  go_wp2_with fail
  refine (C1.out w0 HU0.out).mono ?_
  rintro e t1 ⟨⟨au, mu, nu, a3, c3, rfl, hl1, hx1⟩, g1⟩
  obtain ⟨w2, hw2, hb2, q2⟩ := enter1 t1 (.cells #[.bool b1, .slice a3 X.length c3, .int .i64 ex1] 31)
  have s2 := bl_trans8 g1 hb2
  have HU2 := hide (bl_trans8 HU0.out s2)
  have HX2 := hide q2
  have HL1 := hide (And.intro (hl1.below hb2) (hx1.below hb2))
  have HQ1 := hide (block_upW s2 HQ0.out)
  have HR1 := hide (block_upW s2 HR0.out)
  clear g1 hl1 hx1 hb2 q2 s2 y0 y1 y2 y3 y4 y5 hw0
  obtain ⟨z0, z1, z2, z3, z4, z5⟩ := hexa HQ1.out
  go_wp2_with fail
  refine (C2.out w2 HU2.out).mono ?_
  rintro e t3 ⟨⟨av, mv, nv, a4, c4, rfl, hl2, hx2⟩, g1⟩
  obtain ⟨w4, hw4, hb4, q4⟩ := enter1 t3 (.cells #[.bool b2, .slice a4 Y.length c4, .int .i64 ex2] 31)
  have s4 := bl_trans8 g1 hb4
  have HG := hide (bl_trans8 HU2.out s4)
  have HL2 := hide (And.intro (hl2.below hb4) (hx2.below hb4))
  have HL3 := hide (And.intro (HL1.out.1.below s4) (HL1.out.2.below s4))
  have HX4 := hide (block_upW s4 HX2.out)
  have HX5 := hide q4
  have HC1 := hide (block_upW s4 HR1.out)
  clear g1 hl2 hx2 hb4 q4 s4 z0 z1 z2 z3 z4 z5 hw2 HL1
  obtain ⟨x0, x1, x2⟩ := tri8 HX4.out
  obtain ⟨x3, x4, x5⟩ := tri8 HX5.out
  have hf1 := octaf HC1.out
  obtain ⟨m0, m1, m2, m3, m4, m5, m6, m7⟩ := octa HC1.out
  go_wp2
  have T3 := octa_all HC1.out (.slice au mu nu) (.slice av mv nv) (.bool b1) (.slice a3 X.length c3) (.int .i64 ex1) (.bool b2) (.slice a4 Y.length c4) (.int .i64 ex2)
  have T4 := below_octa HG.out (show w.heap.size ≤ w.heap.size + 1 by omega) (.slice au mu nu) (.slice av mv nv) (.bool b1) (.slice a3 X.length c3) (.int .i64 ex1) (.bool b2) (.slice a4 Y.length c4) (.int .i64 ex2)
  have T5 := HL3.out.1.octa HC1.out (.slice au mu nu) (.slice av mv nv) (.bool b1) (.slice a3 X.length c3) (.int .i64 ex1) (.bool b2) (.slice a4 Y.length c4) (.int .i64 ex2)
  have T6 := HL2.out.1.octa HC1.out (.slice au mu nu) (.slice av mv nv) (.bool b1) (.slice a3 X.length c3) (.int .i64 ex1) (.bool b2) (.slice a4 Y.length c4) (.int .i64 ex2)
  have T7 := HL3.out.2.octa HC1.out (.slice au mu nu) (.slice av mv nv) (.bool b1) (.slice a3 X.length c3) (.int .i64 ex1) (.bool b2) (.slice a4 Y.length c4) (.int .i64 ex2)
  have T8 := HL2.out.2.octa HC1.out (.slice au mu nu) (.slice av mv nv) (.bool b1) (.slice a3 X.length c3) (.int .i64 ex1) (.bool b2) (.slice a4 Y.length c4) (.int .i64 ex2)
  unfold set8 at T3 T4 T5 T6 T7 T8
  obtain ⟨p0, p1, p2, p3, p4, p5, p6, p7⟩ := octa T3
  have HE := hide (And.intro T5 (And.intro T6 (And.intro T7 (And.intro T8 T4))))
  clear T3 T4 T5 T6 T7 T8
  generalize (((((((w4.setCell ⟨w.heap.size + 1, 0, none⟩ (.slice au mu nu)).setCell ⟨w.heap.size + 1, 1, none⟩ (.slice av mv nv)).setCell ⟨w.heap.size + 1, 2, none⟩ (.bool b1)).setCell ⟨w.heap.size + 1, 3, none⟩ (.slice a3 X.length c3)).setCell ⟨w.heap.size + 1, 4, none⟩ (.int .i64 ex1)).setCell ⟨w.heap.size + 1, 5, none⟩ (.bool b2)).setCell ⟨w.heap.size + 1, 6, none⟩ (.slice a4 Y.length c4)).setCell ⟨w.heap.size + 1, 7, none⟩ (.int .i64 ex2) = w5 at *
  refine bodyPost_ret (v := .agg #[.slice au mu nu, .slice av mv nv, .bool b1, .slice a3 X.length c3, .int .i64 ex1, .bool b2, .slice a4 Y.length c4, .int .i64 ex2]) (by simp [results, Tryz.results4, go_sem, p0, p1, p2, p3, p4, p5, p6, p7]) rfl ?_
  exact ⟨⟨_, _, _, _, _, _, _, _, _, _, rfl, HE.out.1, HE.out.2.1, HE.out.2.2.1, HE.out.2.2.2.1⟩, HE.out.2.2.2.2⟩

set_option maxRecDepth 20000 in
set_option maxHeartbeats 2000000 in
theorem kept10_any (au : Option Addr) (mu nu : Nat) (av : Option Addr) (mv nv : Nat) (p : Bool) (al : Option Addr) (nl cl : Nat) (el : Int) (q : Bool) (ar : Option Addr) (nr cr : Nat) (er : Int) (b1 : Bool) (a1 : Option Addr) (k1 : Nat) (X : List Nat) (ex1 : Int) (b2 : Bool) (a2 : Option Addr) (k2 : Nat) (Y : List Nat) (ex2 : Int) (w : World) (h1 : Lent w (.slice au mu nu) X) (h2 : Lent w (.slice av mv nv) Y) (hA : Arg w (.slice a1 X.length k1) X) (hB : Arg w (.slice a2 Y.length k2) Y) (f1 : X.length ≤ 35184372088000) (f2 : Y.length ≤ 35184372088000) :
    Calls Tryz.prog 16 #[.agg #[.slice au mu nu, .slice av mv nv, .bool p, .slice al nl cl, .int .i64 el, .bool q, .slice ar nr cr, .int .i64 er], .agg #[.bool b1, .slice a1 X.length k1, .int .i64 ex1, .bool b2, .slice a2 Y.length k2, .int .i64 ex2]] w fun e w' => e = .returned (.bool true) ∧ Below w.heap.size w w' := by
  obtain ⟨w0, hw0, hb0, q0, q9⟩ := enter2 w (.cells #[.slice au mu nu, .slice av mv nv, .bool p, .slice al nl cl, .int .i64 el, .bool q, .slice ar nr cr, .int .i64 er] 35) (.cells #[.bool b1, .slice a1 X.length k1, .int .i64 ex1, .bool b2, .slice a2 Y.length k2, .int .i64 ex2] 26)
  obtain ⟨y0, y1, y2, y3, y4, y5⟩ := hexa q9
  obtain ⟨m0, m1, m2, m3, m4, m5, m6, m7⟩ := octa q0
  have HU0 := hide hb0
  have C1 := kept_ok _ _ X w0 (h1.below hb0) (hA.below hb0) f1
  have C2 := kept_ok _ _ Y w0 (h2.below hb0) (hB.below hb0) f2
  clear q0 q9 hb0 hA hB h1 h2
  go_enter Tryz.func16, Tryz.ntmps16
  go_wp2_with fail
  refine C1.mono ?_
  rintro e wn ⟨rfl, hw⟩; rw [hw]; clear hw wn C1
  go_wp2_with fail
  refine C2.mono ?_
  rintro e wn ⟨rfl, hw⟩; rw [hw]; clear hw wn C2
  go_wp2
  go_ret
  exact ⟨rfl, HU0.out⟩

end Go.Proofs.YtolebfnkmjmfnaaGreatDoor

namespace Go.Proofs.YtolebfnkmjmfnaaGreatDoor
open Go.RowKit
open Lm
attribute [local go_sem ↓] Go.wp_at_zero Go.wp_at_succ

theorem ToldR.code {w : World} {b : Bool} {v : Value} {M E : Int} {b' : Bool} {v' : Value} {E' f : Int} (h : ToldR w b v M E b' v' E' f) : f = dcode M E := by
  unfold dcode
  rcases h with ⟨rfl, _, _, _, h1, h2, _⟩ | ⟨rfl, h1⟩ | ⟨rfl, h1, h2⟩
  · rw [if_neg (by omega), if_pos h2]
  · rw [if_pos h1]
  · rw [if_neg (by omega), if_neg (by rw [h2]; decide)]

/-- A span as the document tells it: itself, or a code. -/
def ToldS (w : World) (e : Ending) (w' : World) (b1 : Bool) (a1 : Option Addr) (n1 k1 : Nat) (E1 : Int) (b2 : Bool) (a2 : Option Addr) (n2 k2 : Nat) (E2 R : Int) : Prop :=
  (∃ p a n k x p' a' n' k' x', e = .returned (.tuple #[.agg #[.bool p, .slice a n k, .int .i64 x, .bool p', .slice a' n' k', .int .i64 x'], .int .i64 R]) ∧ (R = 0 → p = b1 ∧ a = a1 ∧ n = n1 ∧ k = k1 ∧ x = E1 ∧ p' = b2 ∧ a' = a2 ∧ n' = n2 ∧ k' = k2 ∧ x' = E2)) ∧ Below w.heap.size w w'

set_option maxRecDepth 20000 in
set_option maxHeartbeats 2000000 in
theorem told10_any (b1 : Bool) (a1 : Option Addr) (n1 k1 : Nat) (M1 E1 : Int) (b2 : Bool) (a2 : Option Addr) (n2 k2 : Nat) (M2 E2 : Int) (w : World) (h1 : Dn w b1 (.slice a1 n1 k1) M1) (h2 : Dn w b2 (.slice a2 n2 k2) M2) :
    Calls Tryz.prog 35 #[.agg #[.bool b1, .slice a1 n1 k1, .int .i64 E1, .bool b2, .slice a2 n2 k2, .int .i64 E2]] w fun e w' => ToldS w e w' b1 a1 n1 k1 E1 b2 a2 n2 k2 E2 (refC (dcode M1 E1) (dcode M2 E2)) := by
  obtain ⟨w0, hw0, hb0, q0, q9⟩ := enter2 w (.cells #[.bool b1, .slice a1 n1 k1, .int .i64 E1, .bool b2, .slice a2 n2 k2, .int .i64 E2] 43) (.cells #[.bool false, .slice none 0 0, .int .i64 0, .bool false, .slice none 0 0, .int .i64 0] 43)
  obtain ⟨y0, y1, y2, y3, y4, y5⟩ := hexa q0
  have HU0 := hide hb0
  have HQ0 := hide q0
  have HR0 := hide q9
  have C1 := hide (fun (W : World) (hg : Below w.heap.size w W) => rtold_any b1 a1 n1 k1 M1 E1 W (h1.below hg))
  have C2 := hide (fun (W : World) (hg : Below w.heap.size w W) => rtold_any b2 a2 n2 k2 M2 E2 W (h2.below hg))
  have WO := hide (fun (W : World) => worst10_any (dcode M1 E1) (dcode M2 E2) W (isCode _ _) (isCode _ _))
  obtain ⟨R, hRR⟩ : ∃ R, refC (dcode M1 E1) (dcode M2 E2) = R := ⟨_, rfl⟩
  rw [hRR] at WO ⊢
  clear q0 q9 hb0 h1 h2 hRR
  go_enter Tryz.func35, Tryz.ntmps35
  go_wp2_with fail
  refine (C1.out w0 HU0.out).mono ?_
  rintro e t1 ⟨⟨b6, a6, n6, c6, e6, d6, rfl, hg⟩, g1⟩
  have hc := hg.code
  subst hc
  obtain ⟨w2, hw2, hb2, q2⟩ := enter1 t1 (.cells #[.bool b6, .slice a6 n6 c6, .int .i64 e6] 41)
  have s2 := bl_trans8 g1 hb2
  have HU2 := hide (bl_trans8 HU0.out s2)
  have HQ1 := hide (block_upW s2 HQ0.out)
  have HR1 := hide (block_upW s2 HR0.out)
  clear g1 hg hb2 q2 s2 y0 y1 y2 y3 y4 y5 hw0
  obtain ⟨z0, z1, z2, z3, z4, z5⟩ := hexa HQ1.out
  go_wp2_with fail
  refine (C2.out w2 HU2.out).mono ?_
  rintro e t3 ⟨⟨b7, a7, n7, c7, e7, d7, rfl, hg⟩, g1⟩
  have hc := hg.code
  subst hc
  obtain ⟨w4, hw4, hb4, q4⟩ := enter1 t3 (.cells #[.bool b7, .slice a7 n7 c7, .int .i64 e7] 41)
  have s4 := bl_trans8 g1 hb4
  have HG := hide (bl_trans8 HU2.out s4)
  have HC1 := hide (block_upW s4 HR1.out)
  clear z0 z1 z2 z3 z4 z5
  obtain ⟨z0, z1, z2, z3, z4, z5⟩ := hexa (block_upW s4 HQ1.out)
  clear g1 hg hb4 q4 s4 hw2
  have W1 := WO.out w4
  have W2 := WO.out w4
  generalize dcode M1 E1 = D1 at *
  generalize dcode M2 E2 = D2 at *
  have hf1 := hexaf HC1.out
  obtain ⟨m0, m1, m2, m3, m4, m5⟩ := hexa HC1.out
  clear WO
  by_cases hR : R = 0
  · subst hR
    go_wp2_with fail
    refine W1.mono ?_
    rintro e wn ⟨rfl, hw⟩; rw [hw]; clear hw wn W1 W2
    go_wp2
    have T3 := hexa_all HC1.out (.bool b1) (.slice a1 n1 k1) (.int .i64 E1) (.bool b2) (.slice a2 n2 k2) (.int .i64 E2)
    have T4 := below_hexa HG.out (show w.heap.size ≤ w.heap.size + 1 by omega) (.bool b1) (.slice a1 n1 k1) (.int .i64 E1) (.bool b2) (.slice a2 n2 k2) (.int .i64 E2)
    obtain ⟨p0, p1, p2, p3, p4, p5⟩ := hexa T3
    have HE := hide T4
    clear T3 T4
    generalize (((((w4.setCell ⟨w.heap.size + 1, 0, none⟩ (.bool b1)).setCell ⟨w.heap.size + 1, 1, none⟩ (.slice a1 n1 k1)).setCell ⟨w.heap.size + 1, 2, none⟩ (.int .i64 E1)).setCell ⟨w.heap.size + 1, 3, none⟩ (.bool b2)).setCell ⟨w.heap.size + 1, 4, none⟩ (.slice a2 n2 k2)).setCell ⟨w.heap.size + 1, 5, none⟩ (.int .i64 E2) = w5 at *
    refine bodyPost_ret (v := .tuple #[.agg #[.bool b1, .slice a1 n1 k1, .int .i64 E1, .bool b2, .slice a2 n2 k2, .int .i64 E2], .int .i64 0]) (by simp [results, Tryz.results35, go_sem, p0, p1, p2, p3, p4, p5]) rfl ?_
    exact ⟨⟨_, _, _, _, _, _, _, _, _, _, rfl, fun _ => ⟨rfl, rfl, rfl, rfl, rfl, rfl, rfl, rfl, rfl, rfl⟩⟩, HE.out⟩
  · have i9 : (R != 0) = true := by simpa using hR
    go_wp2_with fail
    refine W1.mono ?_
    rintro e wn ⟨rfl, hw⟩; rw [hw]; clear hw wn W1
    go_wp2_with fail
    refine W2.mono ?_
    rintro e wn ⟨rfl, hw⟩; rw [hw]; clear hw wn W2
    go_wp2
    have T3 := hexa_all HC1.out (.bool false) (.slice none 0 0) (.int .i64 0) (.bool false) (.slice none 0 0) (.int .i64 0)
    have T4 := below_hexa HG.out (show w.heap.size ≤ w.heap.size + 1 by omega) (.bool false) (.slice none 0 0) (.int .i64 0) (.bool false) (.slice none 0 0) (.int .i64 0)
    obtain ⟨p0, p1, p2, p3, p4, p5⟩ := hexa T3
    have HE := hide T4
    clear T3 T4
    generalize (((((w4.setCell ⟨w.heap.size + 1, 0, none⟩ (.bool false)).setCell ⟨w.heap.size + 1, 1, none⟩ (.slice none 0 0)).setCell ⟨w.heap.size + 1, 2, none⟩ (.int .i64 0)).setCell ⟨w.heap.size + 1, 3, none⟩ (.bool false)).setCell ⟨w.heap.size + 1, 4, none⟩ (.slice none 0 0)).setCell ⟨w.heap.size + 1, 5, none⟩ (.int .i64 0) = w5 at *
    refine bodyPost_ret (v := .tuple #[.agg #[.bool false, .slice none 0 0, .int .i64 0, .bool false, .slice none 0 0, .int .i64 0], .int .i64 R]) (by simp [results, Tryz.results35, go_sem, p0, p1, p2, p3, p4, p5]) rfl ?_
    exact ⟨⟨_, _, _, _, _, _, _, _, _, _, rfl, fun h => absurd h hR⟩, HE.out⟩

end Go.Proofs.YtolebfnkmjmfnaaGreatDoor

namespace Go.Proofs.YtolebfnkmjmfnaaGreatDoor
open Go.RowKit
open Lm
attribute [local go_sem ↓] Go.wp_at_zero Go.wp_at_succ

set_option maxRecDepth 20000 in
set_option maxHeartbeats 1000000 in
theorem faultAt_ok (v : Value) (pos : Int) (w : World) (hK : fitE pos = true) (hf : Calls Tryz.prog 25 #[v] w fun e w' => e = .returned (.int .i64 0) ∧ Below w.heap.size w w') :
    Calls Tryz.prog 28 #[.int .i64 pos, v] w fun e w' => e = .returned (.int .i64 0) ∧ Below w.heap.size w w' := by
  go_enter Tryz.func28, Tryz.ntmps28
  go_wp2_with fail
  refine hf.mono ?_
  rintro e t1 ⟨rfl, g1⟩
  have C := sisPos_any pos t1 hK
  have HB := hide g1
  clear g1
  go_wp2_with fail
  refine C.mono ?_
  rintro e wn ⟨rfl, hw⟩; rw [hw]; clear hw wn C
  go_wp2
  go_ret
  exact ⟨rfl, HB.out⟩

set_option maxRecDepth 20000 in
set_option maxHeartbeats 4000000 in
theorem joined_ok (b1 : Bool) (a1 : Option Addr) (n1 k1 : Nat) (ex1 : Int) (b2 : Bool) (a2 : Option Addr) (n2 k2 : Nat) (ex2 : Int) (b3 : Bool) (a3 : Option Addr) (n3 k3 : Nat) (ex3 : Int) (b4 : Bool) (a4 : Option Addr) (n4 k4 : Nat) (ex4 : Int) (pos : Int) (L : Nat) (V1 V2 V3 V4 : Int) (w : World) (hT : Tab w) (hL : 4611686018427387904 ≤ L) (hK : fitE pos = true) (h1 : I8 w b1 a1 n1 k1 ex1 L V1) (h2 : I8 w b2 a2 n2 k2 ex2 L V2) (h3 : I8 w b3 a3 n3 k3 ex3 L V3) (h4 : I8 w b4 a4 n4 k4 ex4 L V4) (hE1 : fitE ex1 = true) (hE2 : fitE ex2 = true) (hE3 : fitE ex3 = true) (hE4 : fitE ex4 = true) (hv1 : V1 ≤ V2) (hv2 : V3 ≤ V4) (ho : Ok8 L (V1 + V3)) (ho2 : Ok8 L (V2 + V4)) (ho3 : Ok8 L (rv 0 (V1 + V3) (2 ^ (pos + L).toNat))) (ho4 : Ok8 L (rv 1 (V2 + V4) (2 ^ (pos + L).toNat))) :
    Calls Tryz.prog 66 #[.agg #[.bool b1, .slice a1 n1 k1, .int .i64 ex1, .bool b2, .slice a2 n2 k2, .int .i64 ex2], .agg #[.bool b3, .slice a3 n3 k3, .int .i64 ex3, .bool b4, .slice a4 n4 k4, .int .i64 ex4], .int .i64 pos, .func (.func 67) #[] #[]] w fun e w' => SS8 w e w' L (rv 0 (V1 + V3) (2 ^ (pos + L).toNat)) (rv 1 (V2 + V4) (2 ^ (pos + L).toNat)) := by
  obtain ⟨w0, hw0, hb0, q0, q1, q9⟩ := enter3 w (.cells #[.bool b1, .slice a1 n1 k1, .int .i64 ex1, .bool b2, .slice a2 n2 k2, .int .i64 ex2] 33) (.cells #[.bool b3, .slice a3 n3 k3, .int .i64 ex3, .bool b4, .slice a4 n4 k4, .int .i64 ex4] 33) (.cells #[.bool false, .slice none 0 0, .int .i64 0, .bool false, .slice none 0 0, .int .i64 0] 33)
  obtain ⟨w1, hw1, hb1, q2⟩ := enter1 w0 (.cells #[.bool b1, .slice a1 n1 k1, .int .i64 ex1, .bool b2, .slice a2 n2 k2, .int .i64 ex2, .bool b3, .slice a3 n3 k3, .int .i64 ex3, .bool b4, .slice a4 n4 k4, .int .i64 ex4] 33)
  obtain ⟨y0, y1, y2, y3, y4, y5⟩ := hexa q0
  obtain ⟨z0, z1, z2, z3, z4, z5⟩ := hexa q1
  have gb := bl_trans8 hb0 hb1
  have CF := faultAt_ok (.slice (some ⟨w0.heap.size, 0, none⟩) 2 2) pos w1 hK (fault2_ok w0.heap.size b1 a1 n1 k1 ex1 b2 a2 n2 k2 ex2 b3 a3 n3 k3 ex3 b4 a4 n4 k4 ex4 L V1 V2 V3 V4 w1 q2 hL (h1.below gb) (h2.below gb) (h3.below gb) (h4.below gb) hE1 hE2 hE3 hE4 hv1 hv2)
  have CS := hide (fun (W : World) (hg : Below w.heap.size w W) => sums_ok b1 a1 n1 k1 ex1 b2 a2 n2 k2 ex2 b3 a3 n3 k3 ex3 b4 a4 n4 k4 ex4 L V1 V2 V3 V4 W (hT.below hg) (h1.below hg) (h2.below hg) (h3.below hg) (h4.below hg) hE1 hE2 hE3 hE4 ho ho2)
  have CO := hide (fun (W : World) (hg : Below w.heap.size w W) (b1 : Bool) (a1 : Option Addr) (n1 k1 : Nat) (ex1 : Int) (b3 : Bool) (a3 : Option Addr) (n3 k3 : Nat) (ex3 : Int) (h1 : G8 W b1 a1 n1 k1 ex1 L (V1 + V3)) (h3 : G8 W b3 a3 n3 k3 ex3 L (V2 + V4)) => outwardOf_ok b1 a1 n1 k1 ex1 b3 a3 n3 k3 ex3 pos L (V1 + V3) (V2 + V4) W (hT.below hg) h1 h3 hL hK ho3 ho4)
  have HU1 := hide gb
  have HQ0 := hide (block_upW hb1 q0)
  have HQ1 := hide (block_upW hb1 q1)
  have HR1 : Hid (w1.heap[w.heap.size + 1 + 1]? = some (.cells #[.bool false, .slice none 0 0, .int .i64 0, .bool false, .slice none 0 0, .int .i64 0] 33)) := hide (block_upW hb1 q9)
  generalize rv 0 (V1 + V3) (2 ^ (pos + L).toNat) = VC at *
  generalize rv 1 (V2 + V4) (2 ^ (pos + L).toNat) = VD at *
  generalize V1 + V3 = VA at *
  generalize V2 + V4 = VB at *
  clear q0 q1 q2 q9 hb0 hb1 gb hT h1 h2 h3 h4 ho ho2 ho3 ho4 hv1 hv2
  go_enter Tryz.func66, Tryz.ntmps66
  go_wp2_with fail
  refine CF.mono ?_
  rintro e t2 ⟨rfl, g2⟩
  have HU2 := hide (bl_trans8 HU1.out g2)
  have HR2 := hide (block_upW g2 HR1.out)
  have C := CS.out t2 HU2.out
  clear y0 y1 y2 y3 y4 y5 z0 z1 z2 z3 z4 z5 CF hw0 hw1
  obtain ⟨y0, y1, y2, y3, y4, y5⟩ := hexa (block_upW g2 HQ0.out)
  obtain ⟨z0, z1, z2, z3, z4, z5⟩ := hexa (block_upW g2 HQ1.out)
  clear g2
  go_wp2_with fail
  refine C.mono ?_
  rintro e t3 ⟨⟨b8, a8, n8, c8, e8, b9, a9, n9, c9, e9, rfl, hg1, hg2⟩, g3⟩
  obtain ⟨w4, hw4, hb4, q4⟩ := enter1 t3 (.cells #[.bool b8, .slice a8 n8 c8, .int .i64 e8, .bool b9, .slice a9 n9 c9, .int .i64 e9] 33)
  have s4 := bl_trans8 g3 hb4
  have HU0 := hide (bl_trans8 HU2.out s4)
  have HR0 := hide (block_upW s4 HR2.out)
  have C4 := CO.out w4 HU0.out b8 a8 n8 c8 e8 b9 a9 n9 c9 e9 (hg1.below hb4) (hg2.below hb4)
  clear y0 y1 y2 y3 y4 y5 z0 z1 z2 z3 z4 z5 C g3 hg1 hg2 hb4 s4
  obtain ⟨x0, x1, x2, x3, x4, x5⟩ := hexa q4
  clear q4
  have C := C4
  clear C4
  go_wp2_with fail
  refine C.mono ?_
  rintro e t1 ⟨⟨b6, a6, n6, c6, e6, b7, a7, n7, c7, e7, rfl, hg1, hg2⟩, g1⟩
  have HC1 := hide (block_upW g1 HR0.out)
  have HG := hide (bl_trans8 HU0.out g1)
  have HD1 := hide hg1
  have HD2 := hide hg2
  have hf1 := hexaf HC1.out
  obtain ⟨m0, m1, m2, m3, m4, m5⟩ := hexa HC1.out
  clear g1 hg1 hg2 C
  go_wp2
  have T3 := hexa_all HC1.out (.bool b6) (.slice a6 n6 c6) (.int .i64 e6) (.bool b7) (.slice a7 n7 c7) (.int .i64 e7)
  have T4 := below_hexa HG.out (show w.heap.size ≤ w.heap.size+1+1 by omega) (.bool b6) (.slice a6 n6 c6) (.int .i64 e6) (.bool b7) (.slice a7 n7 c7) (.int .i64 e7)
  have T5 := HD1.out.hexa HC1.out b6 a6 n6 c6 e6 b7 a7 n7 c7 e7
  have T6 := HD2.out.hexa HC1.out b6 a6 n6 c6 e6 b7 a7 n7 c7 e7
  obtain ⟨p0, p1, p2, p3, p4, p5⟩ := hexa T3
  have HE := hide (And.intro T5 (And.intro T6 T4))
  clear T3 T4 T5 T6
  generalize (((((t1.setCell ⟨w.heap.size+1+1, 0, none⟩ (.bool b6)).setCell ⟨w.heap.size+1+1, 1, none⟩ (.slice a6 n6 c6)).setCell ⟨w.heap.size+1+1, 2, none⟩ (.int .i64 e6)).setCell ⟨w.heap.size+1+1, 3, none⟩ (.bool b7)).setCell ⟨w.heap.size+1+1, 4, none⟩ (.slice a7 n7 c7)).setCell ⟨w.heap.size+1+1, 5, none⟩ (.int .i64 e7) = w5 at *
  refine bodyPost_ret (v := .tuple #[.agg #[.bool b6, .slice a6 n6 c6, .int .i64 e6, .bool b7, .slice a7 n7 c7, .int .i64 e7], .int .i64 0]) (by simp [results, Tryz.results66, go_sem, p0, p1, p2, p3, p4, p5]) rfl ?_
  exact ⟨⟨_, _, _, _, _, _, _, _, _, _, rfl, HE.out.1, HE.out.2.1⟩, HE.out.2.2⟩

set_option maxRecDepth 20000 in
set_option maxHeartbeats 2000000 in
theorem sadd_ok (b1 : Bool) (a1 : Option Addr) (n1 k1 : Nat) (ex1 : Int) (b2 : Bool) (a2 : Option Addr) (n2 k2 : Nat) (ex2 : Int) (b3 : Bool) (a3 : Option Addr) (n3 k3 : Nat) (ex3 : Int) (b4 : Bool) (a4 : Option Addr) (n4 k4 : Nat) (ex4 : Int) (pos : Int) (L : Nat) (V1 V2 V3 V4 : Int) (w : World) (hT : Tab w) (hL : 4611686018427387904 ≤ L) (hK : fitE pos = true) (h1 : I8 w b1 a1 n1 k1 ex1 L V1) (h2 : I8 w b2 a2 n2 k2 ex2 L V2) (h3 : I8 w b3 a3 n3 k3 ex3 L V3) (h4 : I8 w b4 a4 n4 k4 ex4 L V4) (hE1 : fitE ex1 = true) (hE2 : fitE ex2 = true) (hE3 : fitE ex3 = true) (hE4 : fitE ex4 = true) (hv1 : V1 ≤ V2) (hv2 : V3 ≤ V4) (ho : Ok8 L (V1 + V3)) (ho2 : Ok8 L (V2 + V4)) (ho3 : Ok8 L (rv 0 (V1 + V3) (2 ^ (pos + L).toNat))) (ho4 : Ok8 L (rv 1 (V2 + V4) (2 ^ (pos + L).toNat))) :
    Calls Tryz.prog 36 #[.agg #[.bool b1, .slice a1 n1 k1, .int .i64 ex1, .bool b2, .slice a2 n2 k2, .int .i64 ex2], .agg #[.bool b3, .slice a3 n3 k3, .int .i64 ex3, .bool b4, .slice a4 n4 k4, .int .i64 ex4], .int .i64 pos] w fun e w' => SS8 w e w' L (rv 0 (V1 + V3) (2 ^ (pos + L).toNat)) (rv 1 (V2 + V4) (2 ^ (pos + L).toNat)) := by
  obtain ⟨w0, hw0, hb0, q0, q1, q9⟩ := enter3 w (.cells #[.bool b1, .slice a1 n1 k1, .int .i64 ex1, .bool b2, .slice a2 n2 k2, .int .i64 ex2] 33) (.cells #[.bool b3, .slice a3 n3 k3, .int .i64 ex3, .bool b4, .slice a4 n4 k4, .int .i64 ex4] 33) (.cells #[.bool false, .slice none 0 0, .int .i64 0, .bool false, .slice none 0 0, .int .i64 0] 33)
  obtain ⟨y0, y1, y2, y3, y4, y5⟩ := hexa q0
  obtain ⟨z0, z1, z2, z3, z4, z5⟩ := hexa q1
  have C := joined_ok b1 a1 n1 k1 ex1 b2 a2 n2 k2 ex2 b3 a3 n3 k3 ex3 b4 a4 n4 k4 ex4 pos L V1 V2 V3 V4 w0 (hT.below hb0) hL hK (h1.below hb0) (h2.below hb0) (h3.below hb0) (h4.below hb0) hE1 hE2 hE3 hE4 hv1 hv2 ho ho2 ho3 ho4
  have HU0 := hide hb0
  have HR0 : Hid (w0.heap[w.heap.size + 1 + 1]? = some (.cells #[.bool false, .slice none 0 0, .int .i64 0, .bool false, .slice none 0 0, .int .i64 0] 33)) := hide q9
  generalize rv 0 (V1 + V3) (2 ^ (pos + L).toNat) = VC at *
  generalize rv 1 (V2 + V4) (2 ^ (pos + L).toNat) = VD at *
  clear q0 q1 q9 hb0 hT h1 h2 h3 h4 ho ho2 ho3 ho4 hv1 hv2
  go_enter Tryz.func36, Tryz.ntmps36
  go_wp2_with fail
  refine C.mono ?_
  rintro e t1 ⟨⟨b6, a6, n6, c6, e6, b7, a7, n7, c7, e7, rfl, hg1, hg2⟩, g1⟩
  have HC1 := hide (block_upW g1 HR0.out)
  have HG := hide (bl_trans8 HU0.out g1)
  have HD1 := hide hg1
  have HD2 := hide hg2
  have hf1 := hexaf HC1.out
  obtain ⟨m0, m1, m2, m3, m4, m5⟩ := hexa HC1.out
  clear g1 hg1 hg2 C
  go_wp2
  have T3 := hexa_all HC1.out (.bool b6) (.slice a6 n6 c6) (.int .i64 e6) (.bool b7) (.slice a7 n7 c7) (.int .i64 e7)
  have T4 := below_hexa HG.out (show w.heap.size ≤ w.heap.size+1+1 by omega) (.bool b6) (.slice a6 n6 c6) (.int .i64 e6) (.bool b7) (.slice a7 n7 c7) (.int .i64 e7)
  have T5 := HD1.out.hexa HC1.out b6 a6 n6 c6 e6 b7 a7 n7 c7 e7
  have T6 := HD2.out.hexa HC1.out b6 a6 n6 c6 e6 b7 a7 n7 c7 e7
  obtain ⟨p0, p1, p2, p3, p4, p5⟩ := hexa T3
  have HE := hide (And.intro T5 (And.intro T6 T4))
  clear T3 T4 T5 T6
  generalize (((((t1.setCell ⟨w.heap.size+1+1, 0, none⟩ (.bool b6)).setCell ⟨w.heap.size+1+1, 1, none⟩ (.slice a6 n6 c6)).setCell ⟨w.heap.size+1+1, 2, none⟩ (.int .i64 e6)).setCell ⟨w.heap.size+1+1, 3, none⟩ (.bool b7)).setCell ⟨w.heap.size+1+1, 4, none⟩ (.slice a7 n7 c7)).setCell ⟨w.heap.size+1+1, 5, none⟩ (.int .i64 e7) = w5 at *
  refine bodyPost_ret (v := .tuple #[.agg #[.bool b6, .slice a6 n6 c6, .int .i64 e6, .bool b7, .slice a7 n7 c7, .int .i64 e7], .int .i64 0]) (by simp [results, Tryz.results36, go_sem, p0, p1, p2, p3, p4, p5]) rfl ?_
  exact ⟨⟨_, _, _, _, _, _, _, _, _, _, rfl, HE.out.1, HE.out.2.1⟩, HE.out.2.2⟩

/-- A small whole number may be answered. -/
theorem ok_small (k L : Nat) (h : k < 9223372036854775808) : Ok8 L ((k : Int) * 2 ^ L) := by
  have hr : Rp L (k : Int) 0 ((k : Int) * 2 ^ L) := ⟨by omega, by rw [show ((0 : Int) + (L : Int)).toNat = L by omega]⟩
  have hb : blen (k : Int).natAbs ≤ 64 := (blen_le_iff _ _).2 (by rw [Int.natAbs_natCast]; omega)
  have ht := tl_le (k : Int).natAbs
  refine ⟨omz k, oe k 0, hr.norm, nr8_of _ _, ?_, ?_⟩
  · have := blen_mono (od_le (k : Int).natAbs)
    rw [omz_abs]; omega
  · rw [fitE_iff]; unfold oe; split <;> omega

theorem rv_small (m : Int) (k L : Nat) : rv m ((k : Int) * 2 ^ L) (2 ^ ((0 : Int) + (L : Int)).toNat) = (k : Int) * 2 ^ L := by
  rw [show ((0 : Int) + (L : Int)).toNat = L by omega]
  refine rv_mult (Nat.two_pow_pos _) ?_
  rw [Int.natCast_pow]
  exact Int.mul_emod_left _ _

end Go.Proofs.YtolebfnkmjmfnaaGreatDoor

namespace Go.Proofs.YtolebfnkmjmfnaaGreatDoor
open Go.RowKit
open Lm
attribute [local go_sem ↓] Go.wp_at_zero Go.wp_at_succ

theorem num10_any (c : Int) (w : World) : Calls Tryz.prog 33 #[.int .i64 c] w fun e w' => e = .returned (.int .i64 c) ∧ w' = w := by
  go_enter Tryz.func33, Tryz.ntmps33
  go_wp2
  go_ret
  exact ⟨rfl, rfl⟩

/-- An answer that is k, held against the document's k. -/
theorem G8.is10 {w0 : World} {b6 : Bool} {a6 : Option Addr} {n6 c6 : Nat} {e6 : Int} {L k : Nat} (hk : k < 9223372036854775808) (h : G8 w0 b6 a6 n6 c6 e6 L ((k : Int) * 2 ^ L)) :
    e6 = oe k 0 ∧ ∀ (W : World) (b : Bool) (a : Option Addr) (n c : Nat), Below w0.heap.size w0 W → Dn W b (.slice a n c) (omz k) → Calls Tryz.prog 34 #[.agg #[.bool b, .slice a n c, .int .i64 (oe k 0)], .bool b6, .slice a6 n6 c6, .int .i64 (oe k 0)] W fun e w' => e = .returned (.bool true) ∧ Below W.heap.size W w' := by
  obtain ⟨rs, rfl, hA, hl, hr, ht, hb, hn, hf⟩ := h
  have hr2 : Rp L (k : Int) 0 ((k : Int) * 2 ^ L) := ⟨by omega, by rw [show ((0 : Int) + (L : Int)).toNat = L by omega]⟩
  obtain ⟨e1, e2⟩ := Rp.one hr hr2.norm hn (nr8_of _ _)
  refine ⟨e2, fun W b a n c hg hd => ?_⟩
  have hbb : b = b6 := by rw [hd.1, hb, e1]
  subst hbb
  refine rdIs_any b a n c (omz k) (oe k 0) (.slice a6 rs.length c6) rs W hd (hA.below hg) ht (by rw [← e1, zz_abs]) ?_
  have h5 := blen_mono (od_le (k : Int).natAbs)
  have h6 : blen (k : Int).natAbs ≤ 64 := (blen_le_iff _ _).2 (by rw [Int.natAbs_natCast]; omega)
  rw [omz_abs]; omega

set_option maxRecDepth 20000 in
set_option maxHeartbeats 4000000 in
theorem awake10_any (w : World) (hT : Tab w) : Calls Tryz.prog 12 #[] w fun e w' => e = .returned (.bool true) ∧ Below w.heap.size w w' := by
  obtain ⟨L, hL⟩ : ∃ L : Nat, 4611686018427387904 ≤ L := ⟨_, Nat.le_refl _⟩
  have HL := hide hL
  have HT := hide hT
  have e1 : ((1 : Nat) : Int) * 2 ^ L + ((3 : Nat) : Int) * 2 ^ L = ((4 : Nat) : Int) * 2 ^ L := by rw [← Int.add_mul]; rfl
  have e2 : ((2 : Nat) : Int) * 2 ^ L + ((5 : Nat) : Int) * 2 ^ L = ((7 : Nat) : Int) * 2 ^ L := by rw [← Int.add_mul]; rfl
  have hp : (0 : Int) < 2 ^ L := Int.pow_pos (by decide)
  have l1 : ((1 : Nat) : Int) * 2 ^ L ≤ ((2 : Nat) : Int) * 2 ^ L := Int.mul_le_mul_of_nonneg_right (by omega) (by omega)
  have l2 : ((3 : Nat) : Int) * 2 ^ L ≤ ((5 : Nat) : Int) * 2 ^ L := Int.mul_le_mul_of_nonneg_right (by omega) (by omega)
  have ADD := hide (fun (W : World) (hg : Below w.heap.size w W) (a1 : Option Addr) (n1 k1 : Nat) (a2 : Option Addr) (n2 k2 : Nat) (a3 : Option Addr) (n3 k3 : Nat) (a4 : Option Addr) (n4 k4 : Nat) (h1 : I8 W false a1 n1 k1 0 L (((1 : Nat) : Int) * 2 ^ L)) (h2 : I8 W false a2 n2 k2 0 L (((2 : Nat) : Int) * 2 ^ L)) (h3 : I8 W false a3 n3 k3 0 L (((3 : Nat) : Int) * 2 ^ L)) (h4 : I8 W false a4 n4 k4 0 L (((5 : Nat) : Int) * 2 ^ L)) => (by
    have h := sadd_ok false a1 n1 k1 0 false a2 n2 k2 0 false a3 n3 k3 0 false a4 n4 k4 0 0 L _ _ _ _ W (hT.below hg) hL (by decide) h1 h2 h3 h4 (by decide) (by decide) (by decide) (by decide) l1 l2 (by rw [e1]; exact ok_small 4 L (by decide)) (by rw [e2]; exact ok_small 7 L (by decide)) (by rw [e1, rv_small]; exact ok_small 4 L (by decide)) (by rw [e2, rv_small]; exact ok_small 7 L (by decide))
    rw [e1, e2, rv_small, rv_small] at h
    exact h : Calls Tryz.prog 36 #[.agg #[.bool false, .slice a1 n1 k1, .int .i64 0, .bool false, .slice a2 n2 k2, .int .i64 0], .agg #[.bool false, .slice a3 n3 k3, .int .i64 0, .bool false, .slice a4 n4 k4, .int .i64 0], .int .i64 0] W fun e w' => SS8 W e w' L (((4 : Nat) : Int) * 2 ^ L) (((7 : Nat) : Int) * 2 ^ L)))
  have S1 := hide (fun (W : World) => show Calls Tryz.prog 37 #[.int .i64 1] W _ from small_any 1 L W (by decide))
  have S2 := hide (fun (W : World) => show Calls Tryz.prog 37 #[.int .i64 2] W _ from small_any 2 L W (by decide))
  have S3 := hide (fun (W : World) => show Calls Tryz.prog 37 #[.int .i64 3] W _ from small_any 3 L W (by decide))
  have S5 := hide (fun (W : World) => show Calls Tryz.prog 37 #[.int .i64 5] W _ from small_any 5 L W (by decide))
  clear hL hT e1 e2 hp l1 l2
  go_enter Tryz.func12, Tryz.ntmps12
  go_wp2_with fail
  refine (S1.out w).mono ?_
  rintro e t1 ⟨⟨a1, n1, k1, rfl, i1⟩, g1⟩
  have HI1 := hide i1
  have HG1 := hide g1
  clear i1 g1
  go_wp2_with fail
  refine (S2.out t1).mono ?_
  rintro e t2 ⟨⟨a2, n2, k2, rfl, i2⟩, g2⟩
  have HI2 := hide i2
  have HG2 := hide g2
  clear i2 g2
  go_wp2_with fail
  refine (S3.out t2).mono ?_
  rintro e t3 ⟨⟨a3, n3, k3, rfl, i3⟩, g3⟩
  have HI3 := hide i3
  have HG3 := hide g3
  clear i3 g3
  go_wp2_with fail
  refine (S5.out t3).mono ?_
  rintro e t4 ⟨⟨a4, n4, k4, rfl, i4⟩, g4⟩
  have G := bl_trans8 (bl_trans8 (bl_trans8 HG1.out HG2.out) HG3.out) g4
  have C := ADD.out t4 G a1 n1 k1 a2 n2 k2 a3 n3 k3 a4 n4 k4 (((HI1.out.below HG2.out).below HG3.out).below g4) ((HI2.out.below HG3.out).below g4) (HI3.out.below g4) i4
  have HG4 := hide G
  clear i4 g4 G S1 S2 S3 S5 ADD HI1 HI2 HI3 HG1 HG2 HG3
  go_wp2_with fail
  refine C.mono ?_
  rintro e t5 ⟨⟨b6, a6, n6, c6, e6, b7, a7, n7, c7, e7, rfl, hg1, hg2⟩, g5⟩
  obtain ⟨w6, hw6, hb6, q6⟩ := enter1 t5 (.cells #[.bool b6, .slice a6 n6 c6, .int .i64 e6, .bool b7, .slice a7 n7 c7, .int .i64 e7] 33)
  have gd : Below t5.heap.size t5 w6.drew := hb6.drew
  obtain ⟨he6, IS6⟩ := G8.is10 (k := 4) (by decide) (hg1.below gd)
  obtain ⟨he7, IS7⟩ := G8.is10 (k := 7) (by decide) (hg2.below gd)
  rw [← he6] at IS6
  rw [← he7] at IS7
  have HIS6 := hide IS6
  have HIS7 := hide IS7
  have HG5 := hide (bl_trans8 HG4.out g5)
  have HGD := hide (bl_trans8 HG5.out gd)
  have g0 : Below w6.drew.heap.size w6.drew w6.drew := Below.refl _ _
  have I4 := rdInt_any 4 0 w6.drew (by omega) (by omega) (by omega) (by omega)
  have I7 := hide (fun (W : World) => rdInt_any 7 0 W (by omega) (by omega) (by omega) (by omega))
  have HN := num10_any 0 w6.drew
  obtain ⟨M4, hM4⟩ : ∃ x, omz ((4 : Nat) : Int) = x := ⟨_, rfl⟩
  obtain ⟨M7, hM7⟩ : ∃ x, omz ((7 : Nat) : Int) = x := ⟨_, rfl⟩
  rw [show omz 4 = M4 from hM4, show oe 4 0 = e6 from he6.symm] at I4
  rw [show omz 7 = M7 from hM7, show oe 7 0 = e7 from he7.symm] at I7
  rw [hM4] at HIS6
  rw [hM7] at HIS7
  have KS := hide (fun (W : World) (hg : Below w6.drew.heap.size w6.drew W) => show W.cell? ⟨t5.heap.size, 0, none⟩ = some (.bool b6) ∧ W.cell? ⟨t5.heap.size, 1, none⟩ = some (.slice a6 n6 c6) ∧ W.cell? ⟨t5.heap.size, 2, none⟩ = some (.int .i64 e6) ∧ W.cell? ⟨t5.heap.size, 3, none⟩ = some (.bool b7) ∧ W.cell? ⟨t5.heap.size, 4, none⟩ = some (.slice a7 n7 c7) ∧ W.cell? ⟨t5.heap.size, 5, none⟩ = some (.int .i64 e7) from hexa (block_upW hg (show w6.drew.heap[t5.heap.size]? = some (.cells #[.bool b6, .slice a6 n6 c6, .int .i64 e6, .bool b7, .slice a7 n7 c7, .int .i64 e7] 33) from q6)))
  clear hg1 hg2 g5 hb6 q6 gd IS6 IS7 C hM4 hM7 he6 he7
  go_wp2_with fail
  go_region_held3 (fun w' => w'.cell? ⟨t5.heap.size, 0, none⟩ = some (.bool b6) ∧ w'.cell? ⟨t5.heap.size, 1, none⟩ = some (.slice a6 n6 c6) ∧ w'.cell? ⟨t5.heap.size, 2, none⟩ = some (.int .i64 e6) ∧ w'.cell? ⟨t5.heap.size, 3, none⟩ = some (.bool b7) ∧ w'.cell? ⟨t5.heap.size, 4, none⟩ = some (.slice a7 n7 c7) ∧ w'.cell? ⟨t5.heap.size, 5, none⟩ = some (.int .i64 e7)) (first | with_reducible exact KS.out _ h4 | with_reducible exact KS.out _ h3 | with_reducible exact KS.out _ h2 | with_reducible exact KS.out _ h1 | with_reducible exact KS.out _ g0) (first
    | (go_at_call 33; refine HN.mono ?_; rintro e' wn ⟨rfl, hw⟩; rw [hw]; clear hw wn)
    | (go_at_call_of 34 a7; refine (HIS7.out u3 b9 a9 n9 c9 h3 d9).mono ?_; rintro e' u4 ⟨rfl, hb4⟩; have h4 := bl_trans8 h3 hb4)
    | (go_at_call_of 34 a6; refine (HIS6.out u1 b8 a8 n8 c8 h1 d8).mono ?_; rintro e' u2 ⟨rfl, hb2⟩; have h2 := bl_trans8 h1 hb2)
    | (go_at_call_of 38 (Value.int .i64 4); refine I4.mono ?_; rintro e' u1 ⟨⟨b8, a8, n8, c8, rfl, d8⟩, h1⟩)
    | (go_at_call 38; refine (I7.out u2).mono ?_; rintro e' u3 ⟨⟨b9, a9, n9, c9, rfl, d9⟩, hb3⟩; have h3 := bl_trans8 h2 hb3))
  have HFIN := hide (bl_trans8 HGD.out h4)
  clear g0 h1 h2 h3 h4 hb2 hb3 hb4 KS I4 I7 HN d8 d9
  go_wp2
  go_ret
  exact ⟨rfl, HFIN.out⟩

end Go.Proofs.YtolebfnkmjmfnaaGreatDoor

namespace Go.Proofs.YtolebfnkmjmfnaaGreatDoor
open Go.RowKit
open Lm
attribute [local go_sem ↓] Go.wp_at_zero Go.wp_at_succ

set_option maxRecDepth 20000 in
set_option maxHeartbeats 2000000 in
theorem alike10_bad (f : Int) (b1 : Bool) (a1 : Option Addr) (n1 k1 : Nat) (E1 : Int) (b2 : Bool) (a2 : Option Addr) (n2 k2 : Nat) (E2 : Int) (w : World) (hf : f ≠ 0) :
    Calls Tryz.prog 11 #[.agg #[.bool false, .slice none 0 0, .int .i64 0, .bool false, .slice none 0 0, .int .i64 0], .int .i64 f, .agg #[.bool b1, .slice a1 n1 k1, .int .i64 E1, .bool b2, .slice a2 n2 k2, .int .i64 E2], .int .i64 f] w fun e w' => e = .returned (.bool true) ∧ Below w.heap.size w w' := by
  obtain ⟨w0, hw0, hb0, q0, q1⟩ := enter2 w (.cells #[.bool false, .slice none 0 0, .int .i64 0, .bool false, .slice none 0 0, .int .i64 0] 33) (.cells #[.bool b1, .slice a1 n1 k1, .int .i64 E1, .bool b2, .slice a2 n2 k2, .int .i64 E2] 43)
  obtain ⟨y0, y1, y2, y3, y4, y5⟩ := hexa q0
  have HN := num10_any f w0
  have f1 : ((f : Int) == 0) = false := by rw [beq_eq_false_iff_ne]; exact hf
  have f2 : ((f : Int) != 0) = true := by rw [bne, f1]; rfl
  have f3 : ((f : Int) == f) = true := by simp
  have HB := hide hb0
  clear q0 q1 hb0 hf
  go_enter Tryz.func11, Tryz.ntmps11
  go_wp2_with fail
  refine HN.mono ?_
  rintro e wn ⟨rfl, hw⟩; rw [hw]; clear hw wn HN
  go_wp2
  go_ret
  exact ⟨rfl, HB.out⟩

theorem hexa_other {w : World} {g h : Nat} (hn : h ≠ g) (u0 u1 u2 u3 u4 u5 : Value) : ((((((w.setCell ⟨g, 0, none⟩ u0).setCell ⟨g, 1, none⟩ u1).setCell ⟨g, 2, none⟩ u2).setCell ⟨g, 3, none⟩ u3).setCell ⟨g, 4, none⟩ u4).setCell ⟨g, 5, none⟩ u5).heap[h]? = w.heap[h]? := by
  rw [Below.heap_setCell _ _ _ _ hn, Below.heap_setCell _ _ _ _ hn, Below.heap_setCell _ _ _ _ hn, Below.heap_setCell _ _ _ _ hn, Below.heap_setCell _ _ _ _ hn, Below.heap_setCell _ _ _ _ hn]

/-- What Is answers of an answer that is the document's number. -/
theorem DR.is {w : World} {base : Nat} {b : Bool} {a : Option Addr} {n c : Nat} {ex M E : Int} (h : DR w base b (.slice a n c) ex 0 M E) : ex = E ∧ ∀ (W : World) (b' : Bool) (a' : Option Addr) (n' c' : Nat), Below w.heap.size w W → Dn W b' (.slice a' n' c') M → Calls Tryz.prog 34 #[.agg #[.bool b', .slice a' n' c', .int .i64 E], .bool b, .slice a n c, .int .i64 ex] W fun e w' => e = .returned (.bool true) ∧ Below W.heap.size W w' := by
  obtain ⟨rs, A1, H2⟩ := h
  rcases H2 with ⟨_, q2, q3, q4, q5, q6, q7⟩ | ⟨q1, _⟩ | ⟨q1, _⟩
  · subst q5
    refine ⟨rfl, fun W b' a' n' c' hg hd => ?_⟩
    have eb : b' = b := by rw [hd.1, q2]
    subst eb
    have hl : rs.length ≤ 1048576 := few_ofW q4 q3 (by omega)
    exact rdIs_any b' a' n' c' M ex (.slice a n c) rs W hd ((A1.below hg).arg (by omega)) q4 q3 (by omega)
  · omega
  · omega

set_option maxRecDepth 20000 in
set_option maxHeartbeats 4000000 in
theorem alike10_ok (b : Bool) (a : Option Addr) (n k : Nat) (ex : Int) (b' : Bool) (a' : Option Addr) (n' k' : Nat) (ex' r : Int) (b1 : Bool) (a1 : Option Addr) (n1 k1 : Nat) (M1 E1 : Int) (b2 : Bool) (a2 : Option Addr) (n2 k2 : Nat) (M2 E2 : Int) (base : Nat) (w : World) (hS : SR w base b (.slice a n k) ex b' (.slice a' n' k') ex' r M1 E1 M2 E2) (h1 : Dn w b1 (.slice a1 n1 k1) M1) (h2 : Dn w b2 (.slice a2 n2 k2) M2) :
    Calls Tryz.prog 11 #[.agg #[.bool b, .slice a n k, .int .i64 ex, .bool b', .slice a' n' k', .int .i64 ex'], .int .i64 r, .agg #[.bool b1, .slice a1 n1 k1, .int .i64 E1, .bool b2, .slice a2 n2 k2, .int .i64 E2], .int .i64 0] w fun e w' => e = .returned (.bool true) ∧ Below w.heap.size w w' := by
  obtain ⟨w0, hw0, hb0, q0, q1⟩ := enter2 w (.cells #[.bool b, .slice a n k, .int .i64 ex, .bool b', .slice a' n' k', .int .i64 ex'] 33) (.cells #[.bool b1, .slice a1 n1 k1, .int .i64 E1, .bool b2, .slice a2 n2 k2, .int .i64 E2] 43)
  obtain ⟨m0, m1, m2, m3, m4, m5⟩ := hexa q1
  have HTD := told10_any b1 a1 n1 k1 M1 E1 b2 a2 n2 k2 M2 E2 w0 (h1.below hb0) (h2.below hb0)
  have hr := hS.1
  rw [← hr] at HTD
  have H0 := hide q0
  have H1 := hide q1
  have HB := hide hb0
  have HS := hide hS
  have HD := hide (And.intro h1 h2)
  clear q0 q1 hb0 h1 h2 hS hr
  by_cases hR : r = 0
  · subst hR
    obtain ⟨s1, s2, _⟩ := HS.out.2.1 rfl
    obtain ⟨x1, I1⟩ := s1.is
    obtain ⟨x2, I2⟩ := s2.is
    subst x1 x2
    have J1 := hide I1
    have J2 := hide I2
    clear s1 s2 I1 I2 HS
    go_enter Tryz.func11, Tryz.ntmps11
    go_wp2_with fail
    refine HTD.mono ?_
    rintro e t1 ⟨⟨b6, a6, n6, c6, e6, b7, a7, n7, c7, e7, rfl, hz⟩, g1⟩
    obtain ⟨rfl, rfl, rfl, rfl, rfl, rfl, rfl, rfl, rfl, rfl⟩ := hz rfl
    have G1 := bl_trans8 HB.out g1
    have c1 := block_upW g1 H1.out
    have d0 := (hexa_other (show w.heap.size ≠ w.heap.size + 1 by omega) (.bool b6) (.slice a6 n6 c6) (.int .i64 e6) (.bool b7) (.slice a7 n7 c7) (.int .i64 e7)).trans (block_upW g1 H0.out)
    have d1 := hexa_all c1 (.bool b6) (.slice a6 n6 c6) (.int .i64 e6) (.bool b7) (.slice a7 n7 c7) (.int .i64 e7)
    have G2 := below_hexa G1 (show w.heap.size ≤ w.heap.size + 1 by omega) (.bool b6) (.slice a6 n6 c6) (.int .i64 e6) (.bool b7) (.slice a7 n7 c7) (.int .i64 e7)
    have hf1 := hexaf c1
    obtain ⟨m0, m1, m2, m3, m4, m5⟩ := hexa c1
    have HN := num10_any 0 ((((((t1.setCell ⟨w.heap.size + 1, 0, none⟩ (.bool b6)).setCell ⟨w.heap.size + 1, 1, none⟩ (.slice a6 n6 c6)).setCell ⟨w.heap.size + 1, 2, none⟩ (.int .i64 e6)).setCell ⟨w.heap.size + 1, 3, none⟩ (.bool b7)).setCell ⟨w.heap.size + 1, 4, none⟩ (.slice a7 n7 c7)).setCell ⟨w.heap.size + 1, 5, none⟩ (.int .i64 e7))
    obtain ⟨y0, y1, y2, y3, y4, y5⟩ := hexa d0
    obtain ⟨z0, z1, z2, z3, z4, z5⟩ := hexa d1
    have K1 := J1.out _ b6 a6 n6 c6 G2 (HD.out.1.below G2)
    have HG := hide G2
    have HD0 := hide d0
    have HD1 := hide d1
    clear G1 G2 c1 d0 d1 g1 HTD J1
    go_wp2_with fail
    refine HN.mono ?_
    rintro e wn ⟨rfl, hw⟩; rw [hw]; clear hw wn HN
    go_wp2_with fail
    refine K1.mono ?_
    rintro e t2 ⟨rfl, g2⟩
    have GG := bl_trans8 HG.out g2
    have K2 := J2.out t2 b7 a7 n7 c7 GG (HD.out.2.below GG)
    have HGG := hide GG
    clear y0 y1 y2 y3 y4 y5 z0 z1 z2 z3 z4 z5 K1 J2
    obtain ⟨y0, y1, y2, y3, y4, y5⟩ := hexa (block_upW g2 HD0.out)
    obtain ⟨z0, z1, z2, z3, z4, z5⟩ := hexa (block_upW g2 HD1.out)
    clear g2 GG HD0 HD1 m0 m1 m2 m3 m4 m5 hf1
    go_wp2_with fail
    refine K2.mono ?_
    rintro e t3 ⟨rfl, g3⟩
    have HE := hide (bl_trans8 HGG.out g3)
    clear g3 K2
    go_wp2
    go_ret
    exact ⟨rfl, HE.out⟩
  · obtain ⟨x1, x2, x3, x4, x5, x6⟩ := HS.out.2.2 hR
    subst x1 x3 x4 x6
    cases x2
    cases x5
    have f1 : ((r : Int) == 0) = false := by rw [beq_eq_false_iff_ne]; exact hR
    have f2 : ((r : Int) != 0) = true := by rw [bne, f1]; rfl
    have f3 : ((r : Int) == r) = true := by simp
    clear HS
    go_enter Tryz.func11, Tryz.ntmps11
    go_wp2_with fail
    refine HTD.mono ?_
    rintro e t1 ⟨⟨b6, a6, n6, c6, e6, b7, a7, n7, c7, e7, rfl, hz⟩, g1⟩
    have G1 := bl_trans8 HB.out g1
    have c1 := block_upW g1 H1.out
    have d0 := (hexa_other (show w.heap.size ≠ w.heap.size + 1 by omega) (.bool b6) (.slice a6 n6 c6) (.int .i64 e6) (.bool b7) (.slice a7 n7 c7) (.int .i64 e7)).trans (block_upW g1 H0.out)
    have G2 := below_hexa G1 (show w.heap.size ≤ w.heap.size + 1 by omega) (.bool b6) (.slice a6 n6 c6) (.int .i64 e6) (.bool b7) (.slice a7 n7 c7) (.int .i64 e7)
    have hf1 := hexaf c1
    obtain ⟨m0, m1, m2, m3, m4, m5⟩ := hexa c1
    have HN := num10_any r ((((((t1.setCell ⟨w.heap.size + 1, 0, none⟩ (.bool b6)).setCell ⟨w.heap.size + 1, 1, none⟩ (.slice a6 n6 c6)).setCell ⟨w.heap.size + 1, 2, none⟩ (.int .i64 e6)).setCell ⟨w.heap.size + 1, 3, none⟩ (.bool b7)).setCell ⟨w.heap.size + 1, 4, none⟩ (.slice a7 n7 c7)).setCell ⟨w.heap.size + 1, 5, none⟩ (.int .i64 e7))
    obtain ⟨y0, y1, y2, y3, y4, y5⟩ := hexa d0
    have HG := hide G2
    clear G1 G2 c1 d0 g1 HTD hz
    go_wp2_with fail
    refine HN.mono ?_
    rintro e wn ⟨rfl, hw⟩; rw [hw]; clear hw wn HN
    go_wp2
    go_ret
    exact ⟨rfl, HG.out⟩

end Go.Proofs.YtolebfnkmjmfnaaGreatDoor

namespace Go.Proofs.YtolebfnkmjmfnaaGreatDoor
open Go.RowKit
open Lm

theorem Dn.zn {w : World} {b : Bool} {v : Value} {M : Int} (h : Dn w b v M) : Zn w (.agg #[.bool b, v]) M := ⟨v, by rw [h.1], h.2⟩

end Go.Proofs.YtolebfnkmjmfnaaGreatDoor

namespace Go.Proofs.YtolebfnkmjmfnaaGreatDoor
open Go.RowKit
open Lm
attribute [local go_sem ↓] Go.wp_at_zero Go.wp_at_succ

end Go.Proofs.YtolebfnkmjmfnaaGreatDoor

namespace Go.Proofs.YtolebfnkmjmfnaaGreatDoor
open Go.RowKit
open Lm
attribute [local go_sem ↓] Go.wp_at_zero Go.wp_at_succ

/-- A number that was answered. -/
def ZA (w : World) (base : Nat) (b : Bool) (u : Value) (z : Int) : Prop := ∃ rs, Ans w base u rs ∧ b = decide (z < 0) ∧ val rs = z.natAbs ∧ tr rs = rs

theorem ZA.below {w w' : World} {base : Nat} {b : Bool} {u : Value} {z : Int} (h : ZA w base b u z) (hb : Below w.heap.size w w') : ZA w' base b u z := by
  obtain ⟨rs, h1, h2⟩ := h
  exact ⟨rs, h1.below hb, h2⟩

end Go.Proofs.YtolebfnkmjmfnaaGreatDoor

namespace Go.Proofs.YtolebfnkmjmfnaaGreatDoor
open Go.RowKit
open Lm
attribute [local go_sem ↓] Go.wp_at_zero Go.wp_at_succ

end Go.Proofs.YtolebfnkmjmfnaaGreatDoor

namespace Go.Proofs.YtolebfnkmjmfnaaGreatDoor
open Go.RowKit
open Lm
attribute [local go_sem ↓] Go.wp_at_zero Go.wp_at_succ

set_option maxRecDepth 20000 in
set_option maxHeartbeats 1000000 in
theorem rdTop_any (b : Bool) (a : Option Addr) (n c : Nat) (M E : Int) (w : World) (h : Dn w b (.slice a n c) M) (hbl : blen M.natAbs ≤ 2251799813685248) (h1 : -2305843009213693952 ≤ E) (h2 : E ≤ 2305843009213693952) :
    Calls Tryz.prog 51 #[.agg #[.bool b, .slice a n c, .int .i64 E]] w fun e w' => e = .returned (.int .i64 (((blen M.natAbs : Nat) : Int) - 1 + E)) ∧ Below w.heap.size w w' := by
  obtain ⟨w0, hw0, hb0, h0⟩ := enter1 w (.cells #[.bool b, .slice a n c, .int .i64 E] 41)
  have gd : Below w.heap.size w w0.drew := hb0.drew
  have g0 : Below w0.drew.heap.size w0.drew w0.drew := Below.refl _ _
  have KS := hide (fun (W : World) (hg : Below w0.drew.heap.size w0.drew W) => show W.cell? ⟨w.heap.size, 0, none⟩ = some (.bool b) ∧ W.cell? ⟨w.heap.size, 1, none⟩ = some (.slice a n c) ∧ W.cell? ⟨w.heap.size, 2, none⟩ = some (.int .i64 E) from tri8 (block_upW hg (show w0.drew.heap[w.heap.size]? = some (.cells #[.bool b, .slice a n c, .int .i64 E] 41) from h0)))
  have HL := len_any _ M.natAbs w0.drew (h.2.below gd)
  have w1 : IntKind.i64.wrap (((blen M.natAbs : Nat) : Int) - 1) = ((blen M.natAbs : Nat) : Int) - 1 := by rw [IntKind.wrap_i64]; omega
  have w2 : IntKind.i64.wrap (((blen M.natAbs : Nat) : Int) - 1 + E) = ((blen M.natAbs : Nat) : Int) - 1 + E := by rw [IntKind.wrap_i64]; omega
  generalize blen M.natAbs = l at *
  have HB := hide gd
  obtain ⟨x0, x1, x2⟩ := KS.out _ g0
  clear h0 hb0 gd h
  generalize hs1 : (l : Int) - 1 = s1 at *
  have hs2 : (l : Int) - 1 = s1 := hs1
  clear hs1
  go_enter Tryz.func51, Tryz.ntmps51
  go_wp2
  go_region_held3 (fun w' => w'.cell? ⟨w.heap.size, 0, none⟩ = some (.bool b) ∧ w'.cell? ⟨w.heap.size, 1, none⟩ = some (.slice a n c) ∧ w'.cell? ⟨w.heap.size, 2, none⟩ = some (.int .i64 E)) (first | with_reducible exact KS.out _ g0) (first
    | (go_at_call 44; refine HL.mono ?_; rintro e' wn ⟨rfl, hw⟩; rw [hw]; clear hw wn))
  have HE := hide HB.out
  clear g0 KS HL
  go_wp2
  go_ret
  exact ⟨rfl, HE.out⟩

end Go.Proofs.YtolebfnkmjmfnaaGreatDoor

namespace Go.Proofs.YtolebfnkmjmfnaaGreatDoor
open Go.RowKit
open Lm
attribute [local go_sem ↓] Go.wp_at_zero Go.wp_at_succ

theorem zz_shift (b : Bool) (x n : Nat) : zz b (x * 2 ^ n) = zz b x * 2 ^ n := by cases b <;> simp [zz, Int.neg_mul]

set_option maxRecDepth 20000 in
set_option maxHeartbeats 1000000 in
theorem rzshift_any (b : Bool) (a : Option Addr) (m c : Nat) (z : Int) (n : Nat) (w : World) (hZ : Zn w (.agg #[.bool b, .slice a m c]) z) (hf : blen z.natAbs + n ≤ 1125899906840000) :
    Calls Tryz.prog 53 #[.agg #[.bool b, .slice a m c], .int .i64 n] w (ZnDone w (z * 2 ^ n)) := by
  obtain ⟨u, e1, hnum⟩ := hZ
  have e2 : b = decide (z < 0) ∧ .slice a m c = u := by
    have := congrArg Value.cells e1
    simp [Value.cells] at this
    exact this
  obtain ⟨hbz, rfl⟩ := e2
  obtain ⟨w0, hw0, hb0, h0, h1⟩ := enter2 w (.cells #[.bool b, .slice a m c] 39) (.cells #[.bool false, .slice none 0 0] 39)
  have gd : Below w.heap.size w w0.drew := hb0.drew
  have g0 : Below w0.drew.heap.size w0.drew w0.drew := Below.refl _ _
  have HR := rshl_any (.slice a m c) z.natAbs n w0.drew (hnum.below gd) hf
  have hzz : zz b (z.natAbs * 2 ^ n) = z * 2 ^ n := by rw [zz_shift, hbz, zz_self]
  have HMK := hide (fun (W : World) (v : Value) (h : Num W v (z.natAbs * 2 ^ n)) => show Calls Tryz.prog 70 #[.bool b, v] W (ZnDone W (z * 2 ^ n)) by have := rmake1_ok b v _ W h; rw [hzz] at this; exact this)
  have KS := hide (fun (W : World) (hg : Below w0.drew.heap.size w0.drew W) => show W.cell? ⟨w.heap.size, 0, none⟩ = some (.bool b) ∧ W.cell? ⟨w.heap.size, 1, none⟩ = some (.slice a m c) from duo (block_upW hg (show w0.drew.heap[w.heap.size]? = some (.cells #[.bool b, .slice a m c] 39) from h0)))
  have so : ∀ (W : World) (k : Nat) (u : Value) (k' : Nat), (W.setCell ⟨w.heap.size + 1, k, none⟩ u).cell? ⟨w.heap.size, k', none⟩ = W.cell? ⟨w.heap.size, k', none⟩ := fun W k u k' => cell_other8 (by omega)
  have HC1 := hide h1
  have HD := hide gd
  have hn0 : (0 : Int) ≤ (n : Int) := by omega
  clear gd h0 h1 hb0 hnum e1 hzz hbz
  generalize z * 2 ^ n = zs at *
  generalize z.natAbs * 2 ^ n = xs at *
  go_enter Tryz.func53, Tryz.ntmps53
  go_wp2
  go_region_held3 (fun w' => w'.cell? ⟨w.heap.size, 0, none⟩ = some (.bool b) ∧ w'.cell? ⟨w.heap.size, 1, none⟩ = some (.slice a m c)) (first | with_reducible exact KS.out _ g2 | with_reducible exact KS.out _ g1 | with_reducible exact KS.out _ g0 | (refine ⟨?_, ?_⟩ <;> (rw [so, so]; first | exact (KS.out _ g2).1 | exact (KS.out _ g2).2))) (first
    | (go_at_call 45; refine HR.mono ?_; rintro e' t1 ⟨⟨v1, rfl, N1⟩, g1⟩; obtain ⟨a1, n1, c1, rfl⟩ := N1.sl)
    | (go_at_call 70; refine (HMK.out t1 _ N1).mono ?_; rintro e' t2 ⟨⟨b2, a2, n2, c2, rfl, Z2⟩, hb2⟩; have g2 := bl_trans8 g1 hb2; have hz := block_upW g2 (show w0.drew.heap[w.heap.size + 1]? = some (.cells #[.bool false, .slice none 0 0] 39) from HC1.out); have hf2 := duof hz; obtain ⟨m0, m1⟩ := duo hz))
  have T3 := duo_all hz (a' := .bool b2) (b' := .slice a2 n2 c2)
  have T4 := below_duo (bl_trans8 HD.out g2) (g := w.heap.size + 1) (u0 := .bool b2) (u1 := .slice a2 n2 c2) (by omega)
  have T5 := Z2.duo (p1 := b2) (r1 := .slice a2 n2 c2) hz
  obtain ⟨p0, p1⟩ := duo T3
  have HE := hide (And.intro T5 T4)
  clear T3 T4 T5 so m0 m1 hf2 KS g0 g1 g2 hb2 HR hz N1 Z2 HMK
  generalize (t2.setCell ⟨w.heap.size + 1, 0, none⟩ (.bool b2)).setCell ⟨w.heap.size + 1, 1, none⟩ (.slice a2 n2 c2) = w5 at *
  go_wp2
  refine bodyPost_ret (v := .agg #[.bool b2, .slice a2 n2 c2]) (by simp [results, Tryz.results53, go_sem, p0, p1]) rfl ?_
  exact ⟨⟨_, _, _, _, rfl, HE.out.1⟩, HE.out.2⟩

end Go.Proofs.YtolebfnkmjmfnaaGreatDoor
