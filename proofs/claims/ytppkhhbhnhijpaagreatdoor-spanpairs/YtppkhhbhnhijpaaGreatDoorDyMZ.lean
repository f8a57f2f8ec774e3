/- Package dyadic: isMode, goesAway, rounded. -/
import Derived.Test.YtppkhhbhnhijpaaGreatDoorDyLZ
import Derived.Test.YtppkhhbhnhijpaaGreatDoorQJ
namespace Go.Proofs.YtppkhhbhnhijpaaGreatDoor
open Go.RowKit
open Lm
attribute [local go_sem ↓] Go.wp_at_zero Go.wp_at_succ

/-- Is what is rounded the next one away from 0? -/
def ga (b : Bool) (x d : Nat) (m : Int) : Bool := if m = 0 then b else if m = 1 then !b else if d = 1 then decide (x / 2 ^ 1 % 2 = 1) else decide (x / 2 ^ (d - 1) % 2 = 1)

/-- The size of what is rounded, in steps. -/
def rq (b : Bool) (x d : Nat) (m : Int) : Nat := x / 2 ^ d + if ga b x d m then 1 else 0

def isM (m : Int) : Bool := decide (0 ≤ m) && decide (m ≤ 2)

theorem isM_iff (m : Int) : isM m = true ↔ m = 0 ∨ m = 1 ∨ m = 2 := by simp [isM]; omega

theorem yisMode_any (m : Int) (w : World) : Calls Tryz.prog 142 #[.int .i64 m] w fun e w' => e = .returned (.bool (isM m)) ∧ w' = w := by
  by_cases h1 : 0 ≤ m
  · have h1' : decide (0 ≤ m) = true := decide_eq_true h1
    by_cases h2 : m ≤ 2
    · have h2' : decide (m ≤ 2) = true := decide_eq_true h2
      rw [show isM m = true by rw [isM, h1', h2']; rfl]
      go_enter Tryz.func142, Tryz.ntmps142
      go_wp2
      go_ret
      exact ⟨rfl, rfl⟩
    · have h2' : decide (m ≤ 2) = false := decide_eq_false h2
      rw [show isM m = false by rw [isM, h1', h2']; rfl]
      go_enter Tryz.func142, Tryz.ntmps142
      go_wp2
      go_ret
      exact ⟨rfl, rfl⟩
  · have h1' : decide (0 ≤ m) = false := decide_eq_false h1
    rw [show isM m = false by rw [isM, h1']; rfl]
    go_enter Tryz.func142, Tryz.ntmps142
    go_wp2
    go_ret
    exact ⟨rfl, rfl⟩

theorem bit_eq_one (y : Nat) : (((y % 2 : Nat) : Int) == 1) = decide (y % 2 = 1) := by
  by_cases h : y % 2 = 1
  · rw [h]; rfl
  · have : y % 2 = 0 := by omega
    rw [this]; rfl

set_option maxRecDepth 20000 in
set_option maxHeartbeats 1000000 in
theorem ygoes_any (b : Bool) (a : Option Addr) (c : Nat) (X : List Nat) (ex : Int) (d : Nat) (m : Int) (w : World) (hA : Arg w (.slice a X.length c) X) (hd0 : 0 < d) (hd : d ≤ 4611686018427387904) (hm : m = 0 ∨ m = 1 ∨ m = 2) :
    Calls Tryz.prog 157 #[.agg #[.bool b, .slice a X.length c, .int .i64 ex], .int .i64 (d : Int), .int .i64 m] w fun e w' => e = .returned (.bool (ga b (val X) d m)) ∧ Below w.heap.size w w' := by
  obtain ⟨w0, hw0, hb0, h0⟩ := enter1 w (.cells #[.bool b, .slice a X.length c, .int .i64 ex] 153)
  obtain ⟨k0, k1, k2⟩ := tri8 h0
  have HB := hide hb0
  have HA := hide (hA.below hb0)
  clear h0 hb0 hA
  rcases hm with rfl | rfl | rfl
  · rw [show ga b (val X) d 0 = b by rw [ga, if_pos rfl]]
    go_enter Tryz.func157, Tryz.ntmps157
    go_wp2
    go_ret
    exact ⟨rfl, HB.out⟩
  · rw [show ga b (val X) d 1 = !b by rw [ga, if_neg (by decide), if_pos rfl]]
    go_enter Tryz.func157, Tryz.ntmps157
    go_wp2
    go_ret
    exact ⟨rfl, HB.out⟩
  · by_cases hd1 : d = 1
    · have HN := nbit_any _ X 1 w0 HA.out (by omega) (by omega)
      have eb : bitI (val X) 1 = val X / 2 ^ 1 % 2 := rfl
      rw [eb] at HN
      rw [show ga b (val X) d 2 = decide (val X / 2 ^ 1 % 2 = 1) by rw [ga, if_neg (by decide), if_neg (by decide), if_pos hd1], ← bit_eq_one]
      have e1 : ((d : Int) == 1) = true := by rw [beq_iff_eq]; omega
      generalize val X / 2 ^ 1 % 2 = y at *
      clear hd1 eb
      go_enter Tryz.func157, Tryz.ntmps157
      go_wp2_with fail
      refine HN.mono ?_
      rintro e wn ⟨rfl, hw⟩; rw [hw]; clear hw wn HN
      go_wp2
      go_ret
      exact ⟨rfl, HB.out⟩
    · have HN := nbit_any _ X ((d - 1 : Nat) : Int) w0 HA.out (by omega) (by omega)
      have eb : bitI (val X) ((d - 1 : Nat) : Int) = val X / 2 ^ (d - 1) % 2 := by
        unfold bitI; rw [if_neg (by omega)]; rfl
      rw [eb] at HN
      rw [show ga b (val X) d 2 = decide (val X / 2 ^ (d - 1) % 2 = 1) by rw [ga, if_neg (by decide), if_neg (by decide), if_neg hd1], ← bit_eq_one]
      have e1 : ((d : Int) == 1) = false := by rw [beq_eq_false_iff_ne]; omega
      have w1 : IntKind.i64.wrap ((d : Int) - 1) = (d : Int) - 1 := by rw [IntKind.wrap_i64]; omega
      generalize val X / 2 ^ (d - 1) % 2 = y at *
      have e2 : (d : Int) - 1 = ((d - 1 : Nat) : Int) := by omega
      generalize d - 1 = p at *
      have w2 : IntKind.i64.wrap (p : Int) = (p : Int) := by rw [← e2]; exact w1
      clear hd1 eb w1
      go_enter Tryz.func157, Tryz.ntmps157
      go_wp2_with fail
      refine HN.mono ?_
      rintro e wn ⟨rfl, hw⟩; rw [hw]; clear hw wn HN
      go_wp2
      go_ret
      exact ⟨rfl, HB.out⟩

/-- A number of the program's. -/
def YNum (w : World) (z ex : Int) (e : Ending) (w' : World) : Prop :=
  (∃ b a n k X, e = .returned (.agg #[.bool b, .slice a n k, .int .i64 ex]) ∧ n = X.length ∧ Nm w' b (.slice a n k) X z) ∧ Below w.heap.size w w'

set_option maxRecDepth 20000 in
set_option maxHeartbeats 1000000 in
/-- What is at the position already stays. -/
theorem yrounded_same (b : Bool) (a : Option Addr) (c : Nat) (X : List Nat) (M E pos m : Int) (w : World) (hN : Nm w b (.slice a X.length c) X M) (he1 : -1152921504606846976 ≤ E) (he2 : E ≤ 1152921504606846976) (hp1 : -1152921504606846976 ≤ pos) (hp2 : pos ≤ 1152921504606846976) (hs : M = 0 ∨ pos ≤ E) :
    Calls Tryz.prog 143 #[.agg #[.bool b, .slice a X.length c, .int .i64 E], .int .i64 pos, .int .i64 m] w (YNum w M E) := by
  obtain ⟨w0, hw0, hb0, h0, h1'⟩ := enter2 w (.cells #[.bool b, .slice a X.length c, .int .i64 E] 153) (.cells #[.bool false, .slice none 0 0, .int .i64 0] 153)
  obtain ⟨k0, k1, k2⟩ := tri8 h0
  have HP := yisZero_any b a X.length c w0
  have wd : IntKind.i64.wrap (pos - E) = pos - E := by rw [IntKind.wrap_i64]; omega
  have H0 := hide h0
  have H1 := hide h1'
  have HB := hide hb0
  have HN := hide hN
  by_cases hX : X.length = 0
  · rw [decide_eq_true hX] at HP
    clear h0 h1' hb0 hN hs hX
    go_enter Tryz.func143, Tryz.ntmps143
    go_wp2_with fail
    refine HP.mono ?_
    rintro e t1 ⟨rfl, g1⟩
    have HC1 := hide (block_upW g1 H1.out)
    have HG := hide (bl_trans8 HB.out g1)
    have HNM := hide (HN.out.below HG.out)
    have hf1 := tri8f HC1.out
    obtain ⟨m0, m1, m2⟩ := tri8 HC1.out
    obtain ⟨l0, l1, l2⟩ := tri8 (block_upW g1 H0.out)
    clear g1 HP
    go_wp2
    have T3 := tri8_all HC1.out (.bool b) (.slice a X.length c) (.int .i64 E)
    have T4 := below_tri8 HG.out (show w.heap.size ≤ w.heap.size + 1 by omega) (.bool b) (.slice a X.length c) (.int .i64 E)
    have T5 := HNM.out.tri8 HC1.out b a X.length c (.int .i64 E)
    obtain ⟨p0, p1, p2⟩ := tri8 T3
    have HE := hide (And.intro T5 T4)
    clear T3 T4 T5
    generalize ((t1.setCell ⟨w.heap.size + 1, 0, none⟩ (.bool b)).setCell ⟨w.heap.size + 1, 1, none⟩ (.slice a X.length c)).setCell ⟨w.heap.size + 1, 2, none⟩ (.int .i64 E) = w5 at *
    refine bodyPost_ret (v := .agg #[.bool b, .slice a X.length c, .int .i64 E]) (by simp [results, Tryz.results143, go_sem, p0, p1, p2]) rfl ?_
    exact ⟨⟨_, _, _, _, X, rfl, rfl, HE.out.1⟩, HE.out.2⟩
  · rw [decide_eq_false hX] at HP
    have hpe : pos ≤ E := by
      rcases hs with hs | hs
      · exfalso
        apply hX
        have := hN.abs
        rw [hs] at this
        have := val_zero hN.norm this
        rw [this]; rfl
      · exact hs
    have hd : pos - E ≤ 0 := by omega
    clear h0 h1' hb0 hN hs
    go_enter Tryz.func143, Tryz.ntmps143
    go_wp2_with fail
    refine HP.mono ?_
    rintro e t1 ⟨rfl, g1⟩
    have HC1 := hide (block_upW g1 H1.out)
    have HG := hide (bl_trans8 HB.out g1)
    have HNM := hide (HN.out.below HG.out)
    have hf1 := tri8f HC1.out
    obtain ⟨m0, m1, m2⟩ := tri8 HC1.out
    obtain ⟨l0, l1, l2⟩ := tri8 (block_upW g1 H0.out)
    clear g1 HP
    go_wp2
    have T3 := tri8_all HC1.out (.bool b) (.slice a X.length c) (.int .i64 E)
    have T4 := below_tri8 HG.out (show w.heap.size ≤ w.heap.size + 1 by omega) (.bool b) (.slice a X.length c) (.int .i64 E)
    have T5 := HNM.out.tri8 HC1.out b a X.length c (.int .i64 E)
    obtain ⟨p0, p1, p2⟩ := tri8 T3
    have HE := hide (And.intro T5 T4)
    clear T3 T4 T5
    generalize ((t1.setCell ⟨w.heap.size + 1, 0, none⟩ (.bool b)).setCell ⟨w.heap.size + 1, 1, none⟩ (.slice a X.length c)).setCell ⟨w.heap.size + 1, 2, none⟩ (.int .i64 E) = w5 at *
    refine bodyPost_ret (v := .agg #[.bool b, .slice a X.length c, .int .i64 E]) (by simp [results, Tryz.results143, go_sem, p0, p1, p2]) rfl ?_
    exact ⟨⟨_, _, _, _, X, rfl, rfl, HE.out.1⟩, HE.out.2⟩

set_option maxRecDepth 20000 in
set_option maxHeartbeats 2000000 in
theorem yrounded_any (b : Bool) (a : Option Addr) (c : Nat) (X : List Nat) (M E pos m : Int) (d : Nat) (w : World) (hN : Nm w b (.slice a X.length c) X M) (hM : M ≠ 0) (hd : pos - E = (d : Int)) (hd0 : 0 < d) (he1 : -1152921504606846976 ≤ E) (he2 : E ≤ 1152921504606846976) (hp1 : -1152921504606846976 ≤ pos) (hp2 : pos ≤ 1152921504606846976) (hm : m = 0 ∨ m = 1 ∨ m = 2) (hf : X.length ≤ 17592186044416) :
    Calls Tryz.prog 143 #[.agg #[.bool b, .slice a X.length c, .int .i64 E], .int .i64 pos, .int .i64 m] w (YNum w (zz b (rq b M.natAbs d m)) pos) := by
  obtain ⟨w0, hw0, hb0, h0, h1'⟩ := enter2 w (.cells #[.bool b, .slice a X.length c, .int .i64 E] 153) (.cells #[.bool false, .slice none 0 0, .int .i64 0] 153)
  obtain ⟨k0, k1, k2⟩ := tri8 h0
  have hx : val X ≠ 0 := by rw [hN.abs]; omega
  have hX : ¬ X.length = 0 := by
    intro h
    rw [List.eq_nil_of_length_eq_zero h] at hx; exact hx rfl
  have HP := yisZero_any b a X.length c w0
  rw [decide_eq_false hX] at HP
  have wd : IntKind.i64.wrap (d : Int) = (d : Int) := by rw [IntKind.wrap_i64]; omega
  have wn : IntKind.i64.wrap (-(d : Int)) = -(d : Int) := by rw [IntKind.wrap_i64]; omega
  have hd2 : ¬ (d : Int) ≤ 0 := by omega
  have hd3 : d ≤ 4611686018427387904 := by omega
  have hbx : blen (val X) ≤ 64 * X.length := by rw [blen_le_iff, Nat.mul_comm, ← W_pow]; exact val_lt hN.arg.limbs
  have HSH := hide (fun (W : World) (hg : Below w.heap.size w W) => yshifted_any _ X (-(d : Int)) W (hN.arg.below hg) (by omega) (by omega) (by omega) hx)
  rw [fl_down] at HSH
  have HGO := hide (fun (W : World) (hg : Below w.heap.size w W) => ygoes_any b a c X E d m W (hN.arg.below hg) hd0 hd3 hm)
  have hrq : rq b M.natAbs d m = val X / 2 ^ d + if ga b (val X) d m then 1 else 0 := by rw [← hN.abs]; rfl
  rw [hrq]
  have hlen : (val X / 2 ^ d) ≤ val X := Nat.div_le_self _ _
  have hbq := blen_mono hlen
  have HBQ := hide (show blen (val X / 2 ^ d) ≤ X.length * 64 by omega)
  generalize val X / 2 ^ d = Q at *
  generalize ga b (val X) d m = g at *
  have H0 := hide h0
  have H1 := hide h1'
  have HB := hide hb0
  clear h0 h1' hb0 hN hM hrq hx hlen hbq hbx
  generalize hmd : -(d : Int) = md at *
  have hmd2 : -(d : Int) = md := hmd
  clear hmd
  cases g
  · skip
    go_enter Tryz.func143, Tryz.ntmps143
    go_wp2_with fail
    refine HP.mono ?_
    rintro e t1 ⟨rfl, g1⟩
    have G1 := bl_trans8 HB.out g1
    have HS := HSH.out t1 G1
    have HC0 := hide (block_upW g1 H0.out)
    have HC := hide (block_upW g1 H1.out)
    have HG1 := hide G1
    obtain ⟨l0, l1, l2⟩ := tri8 HC0.out
    clear HP g1 G1 HSH H0 H1 HB
    go_wp2_with fail
    refine HS.mono ?_
    rintro e t2 ⟨⟨a2, n2, c2, rs, rfl, A2, hn2, v2, r2⟩, g2⟩
    have G2 := bl_trans8 HG1.out g2
    have HGG := HGO.out t2 G2
    have HC3 := hide (block_upW g2 HC0.out)
    have HC4 := hide (block_upW g2 HC.out)
    have HG2 := hide G2
    have hrl : rs.length ≤ X.length := few_ofW r2 v2 HBQ.out
    have HA2 := hide (And.intro A2 (And.intro hn2 (And.intro v2 r2)))
    obtain ⟨l0, l1, l2⟩ := tri8 HC3.out
    clear HS g2 G2 HGO A2 hn2 v2 r2 HC0 HC
    go_wp2_with fail
    refine HGG.mono ?_
    rintro e t3 ⟨rfl, g3⟩
    have HC5 := hide (block_upW g3 HC3.out)
    have HC6 := hide (block_upW g3 HC4.out)
    have HG3 := hide (bl_trans8 HG2.out g3)
    obtain ⟨A2, hn2, v2, r2⟩ := HA2.out
    have A3 := A2.below g3
    clear HGG g3 HC3 HC4
    have HNM := hide (show Nm t3 b (.slice a2 n2 c2) rs (zz b Q) from ⟨A3.arg (by omega), r2, by rw [v2]⟩)
    have HC1 := hide HC6.out
    have HG := hide HG3.out
    obtain ⟨l0, l1, l2⟩ := tri8 HC5.out
    have hf1 := tri8f HC1.out
    obtain ⟨m0, m1, m2⟩ := tri8 HC1.out
    have HN2 := hide hn2
    clear A2 A3 v2 r2 hn2
    go_wp2
    have T3 := tri8_all HC1.out (.bool b) (.slice a2 n2 c2) (.int .i64 pos)
    have T4 := below_tri8 HG.out (show w.heap.size ≤ w.heap.size + 1 by omega) (.bool b) (.slice a2 n2 c2) (.int .i64 pos)
    have T5 := HNM.out.tri8 HC1.out b a2 n2 c2 (.int .i64 pos)
    obtain ⟨p0, p1, p2⟩ := tri8 T3
    have HE := hide (And.intro T5 T4)
    clear T3 T4 T5
    generalize ((t3.setCell ⟨w.heap.size + 1, 0, none⟩ (.bool b)).setCell ⟨w.heap.size + 1, 1, none⟩ (.slice a2 n2 c2)).setCell ⟨w.heap.size + 1, 2, none⟩ (.int .i64 pos) = w5 at *
    refine bodyPost_ret (v := .agg #[.bool b, .slice a2 n2 c2, .int .i64 pos]) (by simp [results, Tryz.results143, go_sem, p0, p1, p2]) rfl ?_
    exact ⟨⟨_, _, _, _, rs, rfl, HN2.out, HE.out.1⟩, HE.out.2⟩
  · skip
    go_enter Tryz.func143, Tryz.ntmps143
    go_wp2_with fail
    refine HP.mono ?_
    rintro e t1 ⟨rfl, g1⟩
    have G1 := bl_trans8 HB.out g1
    have HS := HSH.out t1 G1
    have HC0 := hide (block_upW g1 H0.out)
    have HC := hide (block_upW g1 H1.out)
    have HG1 := hide G1
    obtain ⟨l0, l1, l2⟩ := tri8 HC0.out
    clear HP g1 G1 HSH H0 H1 HB
    go_wp2_with fail
    refine HS.mono ?_
    rintro e t2 ⟨⟨a2, n2, c2, rs, rfl, A2, hn2, v2, r2⟩, g2⟩
    have G2 := bl_trans8 HG1.out g2
    have HGG := HGO.out t2 G2
    have HC3 := hide (block_upW g2 HC0.out)
    have HC4 := hide (block_upW g2 HC.out)
    have HG2 := hide G2
    have hrl : rs.length ≤ X.length := few_ofW r2 v2 HBQ.out
    have HA2 := hide (And.intro A2 (And.intro hn2 (And.intro v2 r2)))
    obtain ⟨l0, l1, l2⟩ := tri8 HC3.out
    clear HS g2 G2 HGO A2 hn2 v2 r2 HC0 HC
    go_wp2_with fail
    refine HGG.mono ?_
    rintro e t3 ⟨rfl, g3⟩
    have HC5 := hide (block_upW g3 HC3.out)
    have HC6 := hide (block_upW g3 HC4.out)
    have HG3 := hide (bl_trans8 HG2.out g3)
    obtain ⟨A2, hn2, v2, r2⟩ := HA2.out
    have A3 := A2.below g3
    clear HGG g3 HC3 HC4
    have HF := from_any 1 t3 (by omega)
    have HA3 := hide A3
    have HV := hide (And.intro hn2 (And.intro v2 r2))
    clear A2 A3 v2 r2 hn2
    go_wp2_with fail
    refine HF.mono ?_
    rintro e t4 ⟨⟨v4, rfl, A4⟩, g4⟩
    obtain ⟨a4, c4, rfl⟩ := A4.shape
    have HU := ysum_any (.slice a2 n2 c2) _ rs (tr [1]) t4 ((HA3.out.below g4).arg (by omega)) (A4.arg (by simp [tr])) (by omega) (by simp [tr])
    rw [show val (tr [1]) = 1 by rw [val_tr]; rfl, HV.out.2.1] at HU
    have HC7 := hide (block_upW g4 HC5.out)
    have HC8 := hide (block_upW g4 HC6.out)
    have HG4 := hide (bl_trans8 HG3.out g4)
    clear HF g4 A4 HC5 HC6
    go_wp2_with fail
    refine HU.mono ?_
    rintro e t5 ⟨⟨a5, n5, c5, r5, rfl, A5, hn5, v5, q5⟩, g5⟩
    have HC1 := hide (block_upW g5 HC8.out)
    have HG := hide (bl_trans8 HG4.out g5)
    have hl5 : r5.length ≤ X.length + 1 := by
      refine few_ofW q5 v5 ?_
      have h6 := (blen_le_iff Q (X.length * 64)).1 HBQ.out
      refine (blen_le_iff _ _).2 ?_
      rw [Nat.add_mul, Nat.pow_add]
      have := Nat.two_pow_pos (X.length * 64)
      omega
    have HNM := hide (show Nm t5 b (.slice a5 n5 c5) r5 (zz b (Q + 1)) from ⟨A5.arg (by omega), q5, by rw [v5]⟩)
    have HN5 := hide hn5
    obtain ⟨l0, l1, l2⟩ := tri8 (block_upW g5 HC7.out)
    have hf1 := tri8f HC1.out
    obtain ⟨m0, m1, m2⟩ := tri8 HC1.out
    clear HU g5 A5 v5 q5 hn5 HC7 HC8
    go_wp2
    have T3 := tri8_all HC1.out (.bool b) (.slice a5 n5 c5) (.int .i64 pos)
    have T4 := below_tri8 HG.out (show w.heap.size ≤ w.heap.size + 1 by omega) (.bool b) (.slice a5 n5 c5) (.int .i64 pos)
    have T5 := HNM.out.tri8 HC1.out b a5 n5 c5 (.int .i64 pos)
    obtain ⟨p0, p1, p2⟩ := tri8 T3
    have HE := hide (And.intro T5 T4)
    clear T3 T4 T5
    generalize ((t5.setCell ⟨w.heap.size + 1, 0, none⟩ (.bool b)).setCell ⟨w.heap.size + 1, 1, none⟩ (.slice a5 n5 c5)).setCell ⟨w.heap.size + 1, 2, none⟩ (.int .i64 pos) = w5 at *
    refine bodyPost_ret (v := .agg #[.bool b, .slice a5 n5 c5, .int .i64 pos]) (by simp [results, Tryz.results143, go_sem, p0, p1, p2]) rfl ?_
    exact ⟨⟨_, _, _, _, r5, rfl, HN5.out, HE.out.1⟩, HE.out.2⟩

end Go.Proofs.YtppkhhbhnhijpaaGreatDoor
