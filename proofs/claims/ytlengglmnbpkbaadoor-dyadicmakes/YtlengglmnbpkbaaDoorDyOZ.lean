/- Package dyadic: Of, Sign, Top, Length; the document's Top. -/
import Derived.Test.YtlengglmnbpkbaaDoorDyTZ
import Derived.Test.YtlengglmnbpkbaaDoorQ2
namespace Go.Proofs.YtlengglmnbpkbaaDoor
open Go.RowKit
open Lm
attribute [local go_sem ↓] Go.wp_at_zero Go.wp_at_succ

theorem blen_int8 {n : Int} (h1 : -9223372036854775808 ≤ n) (h2 : n ≤ 9223372036854775807) : blen n.natAbs ≤ 64 := by
  have hxa : n.natAbs ≤ 9223372036854775808 := by omega
  exact (blen_le_iff _ _).2 (Nat.lt_of_le_of_lt hxa (by decide))

/-- dyadic.Of of an int. -/
def YOf (w : World) (M E : Int) (e : Ending) (w' : World) : Prop :=
  (∃ b a n k rs, e = .returned (.agg #[.bool b, .slice a n k, .int .i64 E]) ∧ b = decide (M < 0) ∧ Ans w' w.heap.size (.slice a n k) rs ∧ val rs = M.natAbs ∧ tr rs = rs ∧ rs.length ≤ 1) ∧ Below w.heap.size w w'

set_option maxRecDepth 20000 in
set_option maxHeartbeats 1000000 in
theorem yof_any (x : Int) (w : World) (hT : Tab w) (h1 : -9223372036854775808 ≤ x) (h2 : x ≤ 9223372036854775807) :
    Calls Tryd.prog 17 #[.int .i64 x] w (YOf w (omz x) (oe x 0)) := by
  obtain ⟨w0, hw0, hb0, h0⟩ := enter1 w (.cells #[.bool false, .slice none 0 0, .int .i64 0] 33)
  have HW := wof_any x w0 h1 h2
  have hbl := blen_int8 h1 h2
  have hbo : blen (omz x).natAbs ≤ 64 := by
    rw [omz_abs]; have := blen_mono (od_le x.natAbs); omega
  have htl := tl_le x.natAbs
  have hfe : fitE (oe x 0) = true := by
    rw [fitE_iff]; unfold oe; split <;> omega
  have H0 := hide h0
  have HB := hide hb0
  have HT := hide hT
  clear h0 hb0 hT htl
  go_enter Tryd.func17, Tryd.ntmps17
  go_wp2_with fail
  refine HW.mono ?_
  rintro e t1 ⟨⟨b1, a1, n1, k1, rfl, rs1, A1, hb1, v1, q1⟩, g1⟩
  have hn1 : n1 = rs1.length := by obtain ⟨aa, cc, ee⟩ := A1.shape; cases ee; rfl
  subst hn1
  have hl1 : rs1.length ≤ 1 := few_ofW q1 v1 (by omega)
  have hz1 : zz b1 (val rs1) = x := by rw [v1, hb1, zz_self]
  have HG1 := hide (bl_trans8 HB.out g1)
  have HM := ymake_ok b1 a1 k1 rs1 0 t1 (A1.arg (by omega)) (HT.out.below HG1.out) (by omega) (by decide)
  rw [hz1] at HM
  have HC1 := hide (block_upW g1 H0.out)
  clear HW g1 A1 hb1 v1 q1 hz1 hl1 H0 HB
  go_wp2_with fail
  refine HM.mono ?_
  rintro e t2 ⟨⟨b3, a3, n3, c3, e3, r3, rfl, hdr⟩, g3⟩
  obtain ⟨hr, hb, he, rs, hans, hv, ht⟩ := hdr.fine (by omega) hfe
  subst hr he
  obtain ⟨w4, hw4, hb4, h4⟩ := enter1 t2 (.cells #[.bool b3, .slice a3 n3 c3, .int .i64 (oe x 0)] 33)
  have HC := hide (block_upW hb4 (block_upW g3 HC1.out))
  have HG := hide (bl_trans8 (bl_trans8 HG1.out g3) hb4)
  have HA := hide ((hans.base HG1.out.size).below hb4)
  have HV := hide (And.intro hb (And.intro hv ht))
  have hf1 := tri8f HC.out
  obtain ⟨m0, m1, m2⟩ := tri8 HC.out
  obtain ⟨l0, l1, l2⟩ := tri8 h4
  clear g3 hb4 h4 HM hdr hans hb hv ht HC1 HG1
  generalize oe x 0 = E at *
  generalize omz x = M at *
  go_wp2
  have T3 := tri8_all HC.out (.bool b3) (.slice a3 n3 c3) (.int .i64 E)
  have T4 := below_tri8 HG.out (Nat.le_refl w.heap.size) (.bool b3) (.slice a3 n3 c3) (.int .i64 E)
  have T5 := HA.out.tri8 HC.out (by decide) (.bool b3) (.slice a3 n3 c3) (.int .i64 E)
  obtain ⟨p0, p1, p2⟩ := tri8 T3
  have HE := hide (And.intro T5 T4)
  clear T3 T4 T5
  generalize ((w4.setCell ⟨w.heap.size, 0, none⟩ (.bool b3)).setCell ⟨w.heap.size, 1, none⟩ (.slice a3 n3 c3)).setCell ⟨w.heap.size, 2, none⟩ (.int .i64 E) = w5 at *
  refine bodyPost_ret (v := .agg #[.bool b3, .slice a3 n3 c3, .int .i64 E]) (by simp [results, Tryd.results17, go_sem, p0, p1, p2]) rfl ?_
  exact ⟨⟨_, _, _, _, rs, rfl, HV.out.1, HE.out.1, HV.out.2.1, HV.out.2.2, few_ofW HV.out.2.2 HV.out.2.1 (by omega)⟩, HE.out.2⟩

theorem ysign_any (b : Bool) (a : Option Addr) (c : Nat) (X : List Nat) (ex : Int) (w : World) (hA : Arg w (.slice a X.length c) X) :
    Calls Tryd.prog 21 #[.agg #[.bool b, .slice a X.length c, .int .i64 ex]] w fun e w' => e = .returned (.int .i64 (zz b (val X)).sign) ∧ Below w.heap.size w w' := by
  obtain ⟨w0, hw0, hb0, h0⟩ := enter1 w (.cells #[.bool b, .slice a X.length c, .int .i64 ex] 33)
  obtain ⟨k0, k1, k2⟩ := tri8 h0
  have HS := wsign_any b _ X w0 (hA.below hb0)
  rw [sg_sign] at HS
  have HB := hide hb0
  generalize (zz b (val X)).sign = s at *
  clear h0 hb0 hA
  go_enter Tryd.func21, Tryd.ntmps21
  go_wp2_with fail
  refine HS.mono ?_
  rintro e t1 ⟨rfl, g1⟩
  have HG := hide (bl_trans8 HB.out g1)
  clear g1 HS
  go_wp2
  go_ret
  exact ⟨rfl, HG.out⟩

theorem ylen_any (b : Bool) (a : Option Addr) (c : Nat) (X : List Nat) (w : World) (hA : Arg w (.slice a X.length c) X) :
    Calls Tryd.prog 46 #[.agg #[.bool b, .slice a X.length c]] w fun e w' => e = .returned (.int .i64 ((blen (val X) : Nat) : Int)) ∧ Below w.heap.size w w' := by
  obtain ⟨w0, hw0, hb0, h0⟩ := enter1 w (.cells #[.bool b, .slice a X.length c] 67)
  obtain ⟨k0, k1⟩ := duo h0
  have HL := length_val _ X w0 (hA.below hb0)
  have HB := hide hb0
  clear h0 hb0 hA
  go_enter Tryd.func46, Tryd.ntmps46
  go_wp2_with fail
  refine HL.mono ?_
  rintro e wn ⟨rfl, hw⟩; rw [hw]; clear hw wn HL
  go_wp2
  go_ret
  exact ⟨rfl, HB.out⟩

set_option maxRecDepth 20000 in
set_option maxHeartbeats 1000000 in
theorem ytopN_any (b : Bool) (a : Option Addr) (c : Nat) (X : List Nat) (ex : Int) (w : World) (hA : Arg w (.slice a X.length c) X) (h1 : -2305843009213693952 ≤ ex) (h2 : ex ≤ 2305843009213693952) :
    Calls Tryd.prog 45 #[.agg #[.bool b, .slice a X.length c, .int .i64 ex]] w fun e w' => e = .returned (.int .i64 (ex + ((blen (val X) : Nat) : Int) - 1)) ∧ Below w.heap.size w w' := by
  obtain ⟨w0, hw0, hb0, h0⟩ := enter1 w (.cells #[.bool b, .slice a X.length c, .int .i64 ex] 69)
  have gd : Below w.heap.size w w0.drew := hb0.drew
  have g0 : Below w0.drew.heap.size w0.drew w0.drew := Below.refl _ _
  have KS := hide (fun (W : World) (hg : Below w0.drew.heap.size w0.drew W) => show W.cell? ⟨w.heap.size, 0, none⟩ = some (.bool b) ∧ W.cell? ⟨w.heap.size, 1, none⟩ = some (.slice a X.length c) ∧ W.cell? ⟨w.heap.size, 2, none⟩ = some (.int .i64 ex) from tri8 (block_upW hg (show w0.drew.heap[w.heap.size]? = some (.cells #[.bool b, .slice a X.length c, .int .i64 ex] 69) from h0)))
  have HL := ylen_any b a c X w0.drew (hA.below gd)
  have hbl := blen_len8 hA.limbs
  have hfw := hA.few
  have w1 : IntKind.i64.wrap (ex + ((blen (val X) : Nat) : Int)) = ex + ((blen (val X) : Nat) : Int) := by rw [IntKind.wrap_i64]; omega
  have w2 : IntKind.i64.wrap (ex + ((blen (val X) : Nat) : Int) - 1) = ex + ((blen (val X) : Nat) : Int) - 1 := by rw [IntKind.wrap_i64]; omega
  generalize blen (val X) = l at *
  have HB := hide gd
  obtain ⟨x0, x1, x2⟩ := KS.out _ g0
  clear h0 hb0 gd hA hbl hfw
  generalize hs1 : ex + (l : Int) = s1 at *
  have hs2 : ex + (l : Int) = s1 := hs1
  clear hs1
  go_enter Tryd.func45, Tryd.ntmps45
  go_wp2
  go_region_held3 (fun w' => w'.cell? ⟨w.heap.size, 0, none⟩ = some (.bool b) ∧ w'.cell? ⟨w.heap.size, 1, none⟩ = some (.slice a X.length c) ∧ w'.cell? ⟨w.heap.size, 2, none⟩ = some (.int .i64 ex)) (first | with_reducible exact KS.out _ g1 | with_reducible exact KS.out _ g0) (first
    | (go_at_call 46; refine HL.mono ?_; rintro e' t1 ⟨rfl, g1⟩))
  have HE := hide (bl_trans8 HB.out g1)
  clear g1 g0 KS HL
  go_wp2
  go_ret
  exact ⟨rfl, HE.out⟩

/-- What Top answers. -/
noncomputable def topV (z ex : Int) : Int := if fitE ex then (if z = 0 then 0 else ex + ((blen z.natAbs : Nat) : Int) - 1) else 0
noncomputable def topC (z ex : Int) : Int := if fitE ex then (if z = 0 then 1 else 0) else 80

set_option maxRecDepth 20000 in
set_option maxHeartbeats 1000000 in
theorem yTop_any (b : Bool) (a : Option Addr) (c : Nat) (X : List Nat) (ex : Int) (w : World) (hA : Arg w (.slice a X.length c) X) :
    Calls Tryd.prog 18 #[.agg #[.bool b, .slice a X.length c, .int .i64 ex]] w fun e w' => e = .returned (.tuple #[.int .i64 (topV (zz b (val X)) ex), .int .i64 (topC (zz b (val X)) ex)]) ∧ Below w.heap.size w w' := by
  obtain ⟨w0, hw0, hb0, h0⟩ := enter1 w (.cells #[.bool b, .slice a X.length c, .int .i64 ex] 33)
  obtain ⟨k0, k1, k2⟩ := tri8 h0
  have HB := hide hb0
  by_cases hE : fitE ex = true
  · have HP := yseen_ok b a c X ex w0 (hA.below hb0) hE
    have hEr := (fitE_iff ex).1 hE
    have hAT : Arg w (.slice a (tr X).length c) (tr X) := hA.trim
    have HZ := hide (fun (W : World) => yisZero_any b a (tr X).length c W)
    by_cases hz : val X = 0
    · have ht : (tr X).length = 0 := by
        have := val_zero (tr_tr X) (by rw [val_tr]; exact hz)
        rw [this]; rfl
      rw [show topV (zz b (val X)) ex = 0 by unfold topV; rw [if_pos hE, if_pos ((zz_eq_zero b _).2 hz)], show topC (zz b (val X)) ex = 1 by unfold topC; rw [if_pos hE, if_pos ((zz_eq_zero b _).2 hz)]]
      rw [decide_eq_true ht] at HZ
      clear h0 hb0 hA hAT hE hz ht
      go_enter Tryd.func18, Tryd.ntmps18
      go_wp2_with fail
      refine HP.mono ?_
      rintro e t1 ⟨rfl, g1⟩
      obtain ⟨w4, hw4, hb4, h4⟩ := enter1 t1 (.cells #[.bool b, .slice a (tr X).length c, .int .i64 ex] 69)
      have HG1 := hide (bl_trans8 (bl_trans8 HB.out g1) hb4)
      obtain ⟨l0, l1, l2⟩ := tri8 h4
      have HZZ := HZ.out w4
      clear g1 hb4 h4 HP HZ
      go_wp2_with fail
      refine HZZ.mono ?_
      rintro e t5 ⟨rfl, g5⟩
      have HG := hide (bl_trans8 HG1.out g5)
      clear g5 HZZ
      go_wp2
      go_ret2
      exact ⟨rfl, HG.out⟩
    · have ht : ¬ (tr X).length = 0 := fun h => hz (by rw [← val_tr, List.eq_nil_of_length_eq_zero h]; rfl)
      have hzz : ¬ zz b (val X) = 0 := fun h => hz ((zz_eq_zero b _).1 h)
      rw [show topV (zz b (val X)) ex = ex + ((blen (val (tr X)) : Nat) : Int) - 1 by unfold topV; rw [if_pos hE, if_neg hzz, zz_abs, val_tr], show topC (zz b (val X)) ex = 0 by unfold topC; rw [if_pos hE, if_neg hzz]]
      rw [decide_eq_false ht] at HZ
      have HTN := hide (fun (W : World) (hg : Below w.heap.size w W) => ytopN_any b a c (tr X) ex W (hAT.below hg) (by omega) (by omega))
      generalize ex + ((blen (val (tr X)) : Nat) : Int) - 1 = tp at *
      clear h0 hb0 hA hAT hE hz ht hzz
      go_enter Tryd.func18, Tryd.ntmps18
      go_wp2_with fail
      refine HP.mono ?_
      rintro e t1 ⟨rfl, g1⟩
      obtain ⟨w4, hw4, hb4, h4⟩ := enter1 t1 (.cells #[.bool b, .slice a (tr X).length c, .int .i64 ex] 69)
      have HG1 := hide (bl_trans8 (bl_trans8 HB.out g1) hb4)
      have HH4 := hide h4
      obtain ⟨l0, l1, l2⟩ := tri8 h4
      have HZZ := HZ.out w4
      clear g1 hb4 h4 HP HZ
      go_wp2_with fail
      refine HZZ.mono ?_
      rintro e t5 ⟨rfl, g5⟩
      have HG5 := hide (bl_trans8 HG1.out g5)
      obtain ⟨l0, l1, l2⟩ := tri8 (block_upW g5 HH4.out)
      have HTT := HTN.out t5 HG5.out
      clear g5 HZZ HTN
      go_wp2_with fail
      refine HTT.mono ?_
      rintro e t6 ⟨rfl, g6⟩
      have HG := hide (bl_trans8 HG5.out g6)
      clear g6 HTT
      go_wp2
      go_ret2
      exact ⟨rfl, HG.out⟩
  · have hE2 : fitE ex = false := by simpa using hE
    have HP := yseen_no b a X.length c ex w0 hE2
    rw [show topV (zz b (val X)) ex = 0 by unfold topV; rw [if_neg hE], show topC (zz b (val X)) ex = 80 by unfold topC; rw [if_neg hE]]
    clear h0 hb0 hA hE hE2
    go_enter Tryd.func18, Tryd.ntmps18
    go_wp2_with fail
    refine HP.mono ?_
    rintro e t1 ⟨he, g1⟩
    obtain ⟨fb, fa, fn, fc, fe, rfl⟩ : ∃ fb fa fn fc fe, e = .returned (.tuple #[.agg #[.bool fb, .slice fa fn fc, .int .i64 fe], .int .i64 80]) := ⟨_, _, _, _, _, he⟩
    clear he
    obtain ⟨w4, hw4, hb4, h4⟩ := enter1 t1 (.cells #[.bool fb, .slice fa fn fc, .int .i64 fe] 69)
    have HG := hide (bl_trans8 (bl_trans8 HB.out g1) hb4)
    clear g1 hb4 h4 HP
    go_wp2
    go_ret2
    exact ⟨rfl, HG.out⟩

end Go.Proofs.YtlengglmnbpkbaaDoor
