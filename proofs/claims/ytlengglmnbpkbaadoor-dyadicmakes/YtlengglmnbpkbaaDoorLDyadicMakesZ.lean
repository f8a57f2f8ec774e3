/- The walk of the law DyadicMakes. -/
import Derived.Test.YtlengglmnbpkbaaDoorDyM1Z
namespace Go.Proofs.YtlengglmnbpkbaaDoor
open Go.RowKit
open Lm
attribute [local go_sem ↓] Go.wp_at_zero Go.wp_at_succ

theorem DR.own9 {w : World} {base : Nat} {b : Bool} {va : Value} {ex c M E : Int} (h : DR w base b va ex c M E) : ∃ rs, Ans w base va rs ∧ rs.length ≤ 1048576 := by
  obtain ⟨rs, h1, h2 | h2 | h2⟩ := h
  · exact ⟨rs, h1, few_ofW h2.2.2.2.1 h2.2.2.1 (by have := h2.2.2.2.2.2.1; omega)⟩
  · exact ⟨rs, h1, by rw [h2.2.2.2.2.1]; simp⟩
  · exact ⟨rs, h1, by rw [h2.2.2.2.2.1]; simp⟩

/-- A new box of a dyadic that is 0, and 0 put into it. -/
theorem zero_box9 (w : World) (t : TypeId) : ∃ w1 w2, w.alloc (.cells #[.bool false, .slice none 0 0, .int .i64 0] t) = w1 ∧ ((w1.setCell ⟨w.heap.size, 0, none⟩ (.bool false)).setCell ⟨w.heap.size, 1, none⟩ (.slice none 0 0)).setCell ⟨w.heap.size, 2, none⟩ (.int .i64 0) = w2 ∧ w1.heap[w.heap.size]? = some (.cells #[.bool false, .slice none 0 0, .int .i64 0] t) ∧ w2.heap[w.heap.size]? = some (.cells #[.bool false, .slice none 0 0, .int .i64 0] t) ∧ Below w.heap.size w w2 := by
  obtain ⟨w1, e1, b1, c1⟩ := enter1 w (.cells #[.bool false, .slice none 0 0, .int .i64 0] t)
  exact ⟨w1, _, e1, rfl, c1, tri8_all c1 _ _ _, below_tri8 b1 (Nat.le_refl _) _ _ _⟩

set_option maxRecDepth 20000 in
set_option maxHeartbeats 8000000 in
theorem dyadicMakes_no (b : Bool) (u : Value) (X : List Nat) (ex n : Int) (w : World) (hT : Tab w) (hA : Arg w u X) (hf : X.length ≤ 17592186043904) (hn1 : -9223372036854775808 ≤ n) (hn2 : n ≤ 9223372036854775807) (hE : fitE ex = false) :
    Calls Tryd.prog 5 #[.agg #[.bool b, u, .int .i64 ex], .int .i64 n] w fun e w' => e = .returned (.bool true) ∧ Below w.heap.size w w' := by
  obtain ⟨a, c, rfl, _, _, _⟩ := hA.form
  obtain ⟨w0, hw0, hb0, h0⟩ := enter1 w (.cells #[.bool b, .slice a X.length c, .int .i64 ex] 27)
  obtain ⟨k0, k1, k2⟩ := tri8 h0
  have hbz : blen (zz b (val X)).natAbs ≤ 64 * X.length := by rw [zz_abs]; exact blen_len8 hA.limbs
  have hbM : blen (omz (zz b (val X))).natAbs ≤ 1125899906809900 := by
    have h5 := blen_mono (od_le (zz b (val X)).natAbs)
    rw [omz_abs]; omega
  have HLN := lent8_any b a c X ex w0 (hA.below hb0) (by omega)
  have HB := hide hb0
  have HK0 := hide h0
  have HT := hide hT
  have HA := hide hA
  have HFU := hide (fun (W : World) => fit8_any ex W)
  have HZO := hide (fun (W : World) (hg : Below w.heap.size w W) => rzof_new b (.slice a X.length c) X W (HA.out.below hg) (by omega))
  have HTP := hide (fun (W : World) (a1 : Option Addr) (c1 : Nat) (h : Arg W (.slice a1 X.length c1) X) => yTop_any b a1 c1 X ex W h)
  have HLG := hide (fun (W : World) (a1 : Option Addr) (c1 : Nat) (h : Arg W (.slice a1 X.length c1) X) (ht : Tab W) => yLength_any b a1 c1 X ex W ht h)
  have HSG := hide (fun (W : World) (a1 : Option Addr) (c1 : Nat) (h : Arg W (.slice a1 X.length c1) X) => ysign_any b a1 c1 X ex W h)
  have HOF := hide (fun (W : World) (ht : Tab W) => yof_any n W ht hn1 hn2)
  have HIN := hide (fun (W : World) => rdInt_any n 0 W hn1 hn2 (by omega) (by omega))
  have hbn : blen (omz n).natAbs ≤ 64 := by
    have h5 := blen_mono (od_le n.natAbs)
    have h6 := blen_int8 hn1 hn2
    rw [omz_abs]; omega
  have HBN := hide hbn
  clear hbn
  have HMK := hide (fun (W : World) (a1 : Option Addr) (c1 : Nat) => ymake_no b a1 X.length c1 ex W hE)
  have hTV : topV (zz b (val X)) ex = 0 := by unfold topV; rw [hE]; rfl
  have hTC : topC (zz b (val X)) ex = 80 := by unfold topC; rw [hE]; rfl
  have hLV : lenV (zz b (val X)) ex = 0 := by unfold lenV; rw [hE]; rfl
  have hLC : lenC ex = 80 := by unfold lenC; rw [hE]; rfl
  rw [hTV, hTC] at HTP
  rw [hLV, hLC] at HLG
  rw [hE] at HFU
  clear hTV hTC hLV hLC
  clear h0 hb0 hT hA hE hbz
  generalize topV (zz b (val X)) ex = TV at *
  generalize topC (zz b (val X)) ex = TC at *
  generalize lenV (zz b (val X)) ex = LV at *
  generalize oe (zz b (val X)) ex = E at *
  generalize omz (zz b (val X)) = M at *
  generalize zz b (val X) = z at *
  generalize oe n 0 = EN at *
  generalize omz n = MN at *
  go_enter Tryd.func5, Tryd.ntmps5
  go_wp2_with fail
  refine HLN.mono ?_
  rintro e t1 ⟨⟨aw, mw, nw, a1, c1, rfl, L1, A1⟩, g1⟩
  obtain ⟨w2, hw2, hb2, h2⟩ := enter1 t1 (.cells #[.bool b, .slice a1 X.length c1, .int .i64 ex] 33)
  have HG2 := hide (bl_trans8 (bl_trans8 HB.out g1) hb2)
  have HLE2 := hide (L1.below hb2)
  have HX2 := hide (A1.below hb2)
  have HK2 := hide (block_upW (bl_trans8 g1 hb2) HK0.out)
  have HB6 := hide h2
  obtain ⟨k0, k1, k2⟩ := tri8 HK2.out
  obtain ⟨x0, x1, x2⟩ := tri8 h2
  clear g1 hb2 h2 L1 A1 HLN HK0
  have CM := HMK.out w2 a1 c1
  clear HMK
  go_wp2_with fail
  refine CM.mono ?_
  rintro e t3 ⟨he5, g3⟩
  obtain ⟨b5, a5, n5, c5, e5, r5, rfl, heq⟩ : ∃ b5 a5 n5 c5 e5 r5, e = .returned (.tuple #[.agg #[.bool b5, .slice a5 n5 c5, .int .i64 e5], .int .i64 r5]) ∧ (b5 = false ∧ a5 = none ∧ n5 = 0 ∧ c5 = 0 ∧ e5 = 0 ∧ r5 = 1) := ⟨_, _, _, _, _, _, he5, rfl, rfl, rfl, rfl, rfl, rfl⟩
  have HEQ := hide heq
  clear he5 heq
  obtain ⟨rs, hrs⟩ : ∃ rs : List Nat, rs = [] := ⟨_, rfl⟩
  have hrl : rs.length ≤ 1048576 := by rw [hrs]; simp
  have hans : Ans t3 w2.heap.size (.slice a5 n5 c5) rs := by obtain ⟨_, q2, q3, q4, _⟩ := HEQ.out; rw [q2, q3, q4, hrs]; exact Ans.nil _ _
  clear hrs
  obtain ⟨w4, hw4, hb4, h4⟩ := enter1 t3 (.cells #[.bool b5, .slice a5 n5 c5, .int .i64 e5] 33)
  have g4 := bl_trans8 g3 hb4
  have HG4 := hide (bl_trans8 HG2.out g4)
  have HW24 := hide g4
  have HK4 := hide (block_upW g4 HK2.out)
  have HB64 := hide (block_upW g4 HB6.out)
  have HB74 := hide h4
  have HAN4 := hide (hans.below hb4)
  obtain ⟨k0, k1, k2⟩ := tri8 HK4.out
  have CZ := HZO.out w4 HG4.out
  clear g3 hb4 h4 g4 hans CM HZO HK2 HB6 x0 x1 x2
  go_wp2_with fail
  refine CZ.mono ?_
  rintro e t5 ⟨⟨b6, a6, n6, c6, rfl, Z5, NW5⟩, g5⟩
  obtain ⟨w6, hw6, hb6, h6⟩ := enter1 t5 (.cells #[.bool b6, .slice a6 n6 c6] 44)
  have g6 := bl_trans8 g5 hb6
  have HW46 := hide g6
  have HG6 := hide (bl_trans8 HG4.out g6)
  have HK6 := hide (block_upW g6 HK4.out)
  have HB66 := hide (block_upW g6 HB64.out)
  have HB76 := hide (block_upW g6 HB74.out)
  have HB96 := hide h6
  have HZ6 := hide (Z5.below hb6)
  have HNZ := hide NW5
  obtain ⟨k0, k1, k2⟩ := tri8 HK6.out
  clear g5 hb6 h6 g6 CZ Z5 NW5 HK4 HB64 HB74
  have CF := HFU.out w6
  clear HFU
  go_wp2_with fail
  refine CF.mono ?_
  rintro e wn ⟨rfl, hw⟩; rw [hw]; clear hw wn CF
  obtain ⟨w7, w8, hw7, hw8, h7, h8, hb8⟩ := zero_box9 w6 47
  have hf7 := tri8f h7
  obtain ⟨z0, z1, z2⟩ := tri8 h7
  obtain ⟨b9, a9, n9, c9, e9, hq9⟩ : ∃ (b9 : Bool) (a9 : Option Addr) (n9 c9 : Nat) (e9 : Int), (false = b9 ∧ (none : Option Addr) = a9 ∧ 0 = n9 ∧ 0 = c9 ∧ (0 : Int) = e9) := ⟨_, _, _, _, _, rfl, rfl, rfl, rfl, rfl⟩
  have HB1110 : Hid (w8.heap[w6.heap.size]? = some (.cells #[.bool b9, .slice a9 n9 c9, .int .i64 e9] 47)) := hide (by obtain ⟨q1, q2, q3, q4, q5⟩ := hq9; subst q1 q2 q3 q4 q5; exact h8)
  have HW610 := hide hb8
  clear h7 h8 hb8 hq9
  have HG10 := hide (bl_trans8 HG6.out HW610.out)
  have CO := HOF.out w8 (HT.out.below HG10.out)
  clear HOF
  go_wp2_with fail
  refine CO.mono ?_
  rintro e ta ⟨⟨bo, ao, no, co, ro, rfl, hbo, Oa, hvo, hto, hlo⟩, ga⟩
  obtain ⟨w12, hw12, hb12, h12⟩ := enter1 ta (.cells #[.bool bo, .slice ao no co, .int .i64 EN] 33)
  have g12 := bl_trans8 ga hb12
  have HW1012 := hide g12
  have HB1212 := hide h12
  have HO12 := hide (Oa.below hb12)
  have HOB := hide hbo
  have HVO := hide (And.intro hvo hto)
  have hg612 := bl_trans8 HW610.out g12
  have HX12 := hide ((HX2.out.below HW24.out).below (bl_trans8 HW46.out hg612))
  have HT12 := hide (HT.out.below (bl_trans8 HG10.out g12))
  obtain ⟨x0, x1, x2⟩ := tri8 (block_upW hg612 HB66.out)
  have CT := HTP.out w12 a1 c1 HX12.out
  clear ga hb12 h12 g12 Oa hbo hvo hto CO hg612 HTP
  go_wp2_with fail
  refine CT.mono ?_
  rintro e tb ⟨rfl, gb⟩
  have CL := HLG.out tb a1 c1 (HX12.out.below gb) (HT12.out.below gb)
  obtain ⟨x0, x1, x2⟩ := tri8 (block_upW (bl_trans8 (bl_trans8 HW610.out HW1012.out) gb) HB66.out)
  have HW12b := hide gb
  clear gb CT HLG
  go_wp2_with fail
  refine CL.mono ?_
  rintro e tc ⟨rfl, gc⟩
  have hd12 : Below w12.heap.size w12 tc.drew := bl_trans8 (bl_trans8 HW12b.out gc) (Below.refl _ _).drew
  have hd10 := bl_trans8 HW1012.out hd12
  have hd6 := bl_trans8 HW610.out hd10
  have HD10 := hide hd10
  have HD6 := hide hd6
  have HX := hide (HX12.out.below hd12)
  have HO := hide (HO12.out.below hd12)
  have HZ := hide (HZ6.out.below hd6)
  have S0 : Six w.heap.size t1.heap.size t3.heap.size t5.heap.size w6.heap.size ta.heap.size (.cells #[.bool b, .slice a X.length c, .int .i64 ex] 27) (.cells #[.bool b, .slice a1 X.length c1, .int .i64 ex] 33) (.cells #[.bool b5, .slice a5 n5 c5, .int .i64 e5] 33) (.cells #[.bool b6, .slice a6 n6 c6] 44) (.cells #[.bool b9, .slice a9 n9 c9, .int .i64 e9] 47) (.cells #[.bool bo, .slice ao no co, .int .i64 EN] 33) tc.drew :=
    ⟨block_upW hd6 HK6.out, block_upW hd6 HB66.out, block_upW hd6 HB76.out, block_upW hd6 HB96.out, block_upW hd10 HB1110.out, block_upW hd12 HB1212.out⟩
  have HAP := hide (hd12 |> fun h => h)
  have HG := hide (bl_trans8 HG10.out hd10)
  have HW2d := hide (bl_trans8 (bl_trans8 HW24.out HW46.out) hd6)
  clear gc CL x0 x1 x2 k0 k1 k2 hd6 HAP
  have KS := hide (fun (W : World) (h : Six w.heap.size t1.heap.size t3.heap.size t5.heap.size w6.heap.size ta.heap.size (.cells #[.bool b, .slice a X.length c, .int .i64 ex] 27) (.cells #[.bool b, .slice a1 X.length c1, .int .i64 ex] 33) (.cells #[.bool b5, .slice a5 n5 c5, .int .i64 e5] 33) (.cells #[.bool b6, .slice a6 n6 c6] 44) (.cells #[.bool b9, .slice a9 n9 c9, .int .i64 e9] 47) (.cells #[.bool bo, .slice ao no co, .int .i64 EN] 33) W) => show W.cell? ⟨w.heap.size, 0, none⟩ = some (.bool b) ∧ W.cell? ⟨w.heap.size, 1, none⟩ = some (.slice a X.length c) ∧ W.cell? ⟨w.heap.size, 2, none⟩ = some (.int .i64 ex) ∧ W.cell? ⟨t1.heap.size, 0, none⟩ = some (.bool b) ∧ W.cell? ⟨t1.heap.size, 1, none⟩ = some (.slice a1 X.length c1) ∧ W.cell? ⟨t1.heap.size, 2, none⟩ = some (.int .i64 ex) ∧ W.cell? ⟨t3.heap.size, 0, none⟩ = some (.bool b5) ∧ W.cell? ⟨t3.heap.size, 1, none⟩ = some (.slice a5 n5 c5) ∧ W.cell? ⟨t3.heap.size, 2, none⟩ = some (.int .i64 e5) ∧ W.cell? ⟨t5.heap.size, 0, none⟩ = some (.bool b6) ∧ W.cell? ⟨t5.heap.size, 1, none⟩ = some (.slice a6 n6 c6) ∧ W.cell? ⟨w6.heap.size, 0, none⟩ = some (.bool b9) ∧ W.cell? ⟨w6.heap.size, 1, none⟩ = some (.slice a9 n9 c9) ∧ W.cell? ⟨w6.heap.size, 2, none⟩ = some (.int .i64 e9) ∧ W.cell? ⟨ta.heap.size, 0, none⟩ = some (.bool bo) ∧ W.cell? ⟨ta.heap.size, 1, none⟩ = some (.slice ao no co) ∧ W.cell? ⟨ta.heap.size, 2, none⟩ = some (.int .i64 EN) from ⟨(tri8 h.b1).1, (tri8 h.b1).2.1, (tri8 h.b1).2.2, (tri8 h.b2).1, (tri8 h.b2).2.1, (tri8 h.b2).2.2, (tri8 h.b3).1, (tri8 h.b3).2.1, (tri8 h.b3).2.2, (duo h.b4).1, (duo h.b4).2, (tri8 h.b5).1, (tri8 h.b5).2.1, (tri8 h.b5).2.2, (tri8 h.b6).1, (tri8 h.b6).2.1, (tri8 h.b6).2.2⟩)
  have g0 : Below tc.drew.heap.size tc.drew tc.drew := Below.refl _ _
  have HAL : Calls Tryd.prog 20 #[.agg #[.bool b5, .slice a5 n5 c5, .int .i64 e5], .int .i64 r5, .agg #[.bool b9, .slice a9 n9 c9, .int .i64 e9], .int .i64 1] tc.drew (fun e w' => e = .returned (.bool true) ∧ Below tc.drew.heap.size tc.drew w') := by
    obtain ⟨q1, q2, q3, q4, q5, q6⟩ := HEQ.out
    rw [q1, q2, q3, q4, q5, q6]
    exact alike8_bad 1 b9 a9 n9 c9 e9 tc.drew (by decide)
  have HSX := hide (fun (W : World) (hg : Below tc.drew.heap.size tc.drew W) => HSG.out W a1 c1 (HX.out.below hg))
  have HSZ := hide (fun (W : World) (hg : Below tc.drew.heap.size tc.drew W) => rzsign_any (.agg #[.bool b6, .slice a6 n6 c6]) z W (HZ.out.below hg))
  have HIS := hide (fun (W : World) (a4 : Option Addr) (n4 k4 : Nat) (h : Dn W bo (.slice a4 n4 k4) MN) (hg : Below tc.drew.heap.size tc.drew W) => rdIs_any bo a4 n4 k4 MN EN (.slice ao no co) ro W h ((HO.out.arg (by omega)).below hg) HVO.out.2 HVO.out.1 (Nat.le_trans HBN.out (by omega)))
  have HCH := hide (fun (W : World) (hg : Below tc.drew.heap.size tc.drew W) => (Chain.snoc (bl_trans8 HD10.out hg) ((HO.out.below hg).base (Nat.le_refl w8.heap.size)) (Chain.one (HAN4.out.below (bl_trans8 HW46.out HW610.out)) (Nat.le_trans HW24.out.size (Nat.le_trans HW46.out.size HW610.out.size))) (Nat.le_trans HW24.out.size (Nat.le_trans HW46.out.size HW610.out.size))).aparts)
  have hsz : w2.heap.size ≤ tc.drew.heap.size := HW2d.out.size
  have HOW := hide (fun (W : World) (hg : Below tc.drew.heap.size tc.drew W) => own_apartsW w2.heap.size [.slice a5 n5 c5, .slice ao no co] [rs, ro] W (HCH.out W hg) (by simp) (by simp; omega) (Nat.le_trans hsz hg.size))
  have HKP := hide (fun (W : World) (hg : Below w2.heap.size w2 W) => kept_ok (.slice aw mw nw) (.slice a X.length c) X W (HLE2.out.below hg) ((HA.out.below HG2.out).below hg) (by omega))
  generalize hzs : z.sign = sz at *
  have HZS := hide hzs
  have hss : (sz != sz) = false := by simp
  have hss2 : decide (sz = sz) = true := by simp
  clear hzs hd10 hd12 hsz HSG
  go_wp2
  have s0 := S0
  clear S0
  go_region_held3 (fun w' => w'.cell? ⟨w.heap.size, 0, none⟩ = some (.bool b) ∧ w'.cell? ⟨w.heap.size, 1, none⟩ = some (.slice a X.length c) ∧ w'.cell? ⟨w.heap.size, 2, none⟩ = some (.int .i64 ex) ∧ w'.cell? ⟨t1.heap.size, 0, none⟩ = some (.bool b) ∧ w'.cell? ⟨t1.heap.size, 1, none⟩ = some (.slice a1 X.length c1) ∧ w'.cell? ⟨t1.heap.size, 2, none⟩ = some (.int .i64 ex) ∧ w'.cell? ⟨t3.heap.size, 0, none⟩ = some (.bool b5) ∧ w'.cell? ⟨t3.heap.size, 1, none⟩ = some (.slice a5 n5 c5) ∧ w'.cell? ⟨t3.heap.size, 2, none⟩ = some (.int .i64 e5) ∧ w'.cell? ⟨t5.heap.size, 0, none⟩ = some (.bool b6) ∧ w'.cell? ⟨t5.heap.size, 1, none⟩ = some (.slice a6 n6 c6) ∧ w'.cell? ⟨w6.heap.size, 0, none⟩ = some (.bool b9) ∧ w'.cell? ⟨w6.heap.size, 1, none⟩ = some (.slice a9 n9 c9) ∧ w'.cell? ⟨w6.heap.size, 2, none⟩ = some (.int .i64 e9) ∧ w'.cell? ⟨ta.heap.size, 0, none⟩ = some (.bool bo) ∧ w'.cell? ⟨ta.heap.size, 1, none⟩ = some (.slice ao no co) ∧ w'.cell? ⟨ta.heap.size, 2, none⟩ = some (.int .i64 EN)) (first | with_reducible exact KS.out _ s6 | with_reducible exact KS.out _ s5 | with_reducible exact KS.out _ s4 | with_reducible exact KS.out _ s3 | with_reducible exact KS.out _ s2 | with_reducible exact KS.out _ s1 | with_reducible exact KS.out _ s0 | with_reducible exact KS.out _ (Six.alloc s5 _)) (first
    | (go_at_call 26; refine (HKP.out t26 G26).mono ?_; rintro e' wn ⟨rfl, hw⟩; rw [hw]; clear hw wn)
    | (go_at_call 25; refine (HOW.out t25 g5).mono ?_; rintro e' t26 ⟨rfl, hk⟩; have s6 : Six w.heap.size t1.heap.size t3.heap.size t5.heap.size w6.heap.size ta.heap.size (.cells #[.bool b, .slice a X.length c, .int .i64 ex] 27) (.cells #[.bool b, .slice a1 X.length c1, .int .i64 ex] 33) (.cells #[.bool b5, .slice a5 n5 c5, .int .i64 e5] 33) (.cells #[.bool b6, .slice a6 n6 c6] 44) (.cells #[.bool b9, .slice a9 n9 c9, .int .i64 e9] 47) (.cells #[.bool bo, .slice ao no co, .int .i64 EN] 33) t26 := ⟨hk.boxes (HCH.out t25 g5) _ _ _ (by decide) s5.b1, hk.boxes (HCH.out t25 g5) _ _ _ (by decide) s5.b2, hk.boxes (HCH.out t25 g5) _ _ _ (by decide) s5.b3, hk.boxes (HCH.out t25 g5) _ _ _ (by decide) s5.b4, hk.boxes (HCH.out t25 g5) _ _ _ (by decide) s5.b5, hk.boxes (HCH.out t25 g5) _ _ _ (by decide) s5.b6⟩; have G26 : Below w2.heap.size w2 t26 := (bl_trans8 HW2d.out g5).trans hk.below)
    | (go_at_call 24; refine (HIS.out t24 a4 n4 k4 y4 g4).mono ?_; rintro e' t25 ⟨rfl, hb5⟩; have g5 := bl_trans8 g4 hb5; have s5 := s4.up hb5)
    | (go_at_call 23; refine (HIN.out t23).mono ?_; rintro e' t24 ⟨⟨b4, a4, n4, k4, rfl, y4⟩, hb4⟩; have hbb : bo = b4 := HOB.out.trans y4.1.symm; subst hbb; have g4 := bl_trans8 g3 hb4; have s4 := s3.up hb4)
    | (go_at_call 22; refine (HSZ.out t22 g2).mono ?_; rintro e' t23 ⟨rfl, hb3⟩; have g3 := bl_trans8 g2 hb3; have s3 := s2.up hb3)
    | (go_at_call 21; refine (HSX.out t21 g1).mono ?_; rintro e' t22 ⟨rfl, hb2⟩; have g2 := bl_trans8 g1 hb2; have s2 := s1.up hb2)
    | (go_at_call 20; refine (HAL).mono ?_; rintro e' t21 ⟨rfl, hb1⟩; have g1 := bl_trans8 g0 hb1; have s1 := s0.up hb1))
  have HGE := hide (HG2.out.trans (G26.mono HG2.out.size))
  have HS6 := hide s6
  clear s0 s1 s2 s3 s4 s5 s6 g0 g1 g2 g3 g4 g5 hb1 hb2 hb3 hb4 hb5 hk G26 KS HAL
  have CN := num8_any 80 t26
  go_wp2_with fail
  refine CN.mono ?_
  rintro e wn ⟨rfl, hw⟩; rw [hw]; clear hw wn CN
  have CN := num8_any 80 t26
  go_wp2_with fail
  refine CN.mono ?_
  rintro e wn ⟨rfl, hw⟩; rw [hw]; clear hw wn CN
  have AW := awake8_any t26 (HT.out.below HGE.out)
  go_wp2_with fail
  refine AW.mono ?_
  rintro e tz ⟨rfl, hbz⟩
  have HFIN := hide (bl_trans8 HGE.out hbz)
  clear hbz AW
  go_wp2
  go_ret
  exact ⟨rfl, HFIN.out⟩

set_option maxRecDepth 20000 in
set_option maxHeartbeats 8000000 in
theorem dyadicMakes_ok (b : Bool) (u : Value) (X : List Nat) (ex n : Int) (w : World) (hT : Tab w) (hA : Arg w u X) (hf : X.length ≤ 17592186043904) (hn1 : -9223372036854775808 ≤ n) (hn2 : n ≤ 9223372036854775807) (hE : fitE ex = true) :
    Calls Tryd.prog 5 #[.agg #[.bool b, u, .int .i64 ex], .int .i64 n] w fun e w' => e = .returned (.bool true) ∧ Below w.heap.size w w' := by
  obtain ⟨a, c, rfl, _, _, _⟩ := hA.form
  obtain ⟨w0, hw0, hb0, h0⟩ := enter1 w (.cells #[.bool b, .slice a X.length c, .int .i64 ex] 27)
  obtain ⟨k0, k1, k2⟩ := tri8 h0
  have hbz : blen (zz b (val X)).natAbs ≤ 64 * X.length := by rw [zz_abs]; exact blen_len8 hA.limbs
  have hbM : blen (omz (zz b (val X))).natAbs ≤ 1125899906809900 := by
    have h5 := blen_mono (od_le (zz b (val X)).natAbs)
    rw [omz_abs]; omega
  have HLN := lent8_any b a c X ex w0 (hA.below hb0) (by omega)
  have HB := hide hb0
  have HK0 := hide h0
  have HT := hide hT
  have HA := hide hA
  have HFU := hide (fun (W : World) => fit8_any ex W)
  have HZO := hide (fun (W : World) (hg : Below w.heap.size w W) => rzof_new b (.slice a X.length c) X W (HA.out.below hg) (by omega))
  have HTP := hide (fun (W : World) (a1 : Option Addr) (c1 : Nat) (h : Arg W (.slice a1 X.length c1) X) => yTop_any b a1 c1 X ex W h)
  have HLG := hide (fun (W : World) (a1 : Option Addr) (c1 : Nat) (h : Arg W (.slice a1 X.length c1) X) (ht : Tab W) => yLength_any b a1 c1 X ex W ht h)
  have HSG := hide (fun (W : World) (a1 : Option Addr) (c1 : Nat) (h : Arg W (.slice a1 X.length c1) X) => ysign_any b a1 c1 X ex W h)
  have HOF := hide (fun (W : World) (ht : Tab W) => yof_any n W ht hn1 hn2)
  have HIN := hide (fun (W : World) => rdInt_any n 0 W hn1 hn2 (by omega) (by omega))
  have hbn : blen (omz n).natAbs ≤ 64 := by
    have h5 := blen_mono (od_le n.natAbs)
    have h6 := blen_int8 hn1 hn2
    rw [omz_abs]; omega
  have HBN := hide hbn
  clear hbn
  have hEr := (fitE_iff ex).1 hE
  have hOE := oe_range (zz b (val X)) ex (by omega)
  have HMK := hide (fun (W : World) (a1 : Option Addr) (c1 : Nat) (h : Arg W (.slice a1 X.length c1) X) (ht : Tab W) => ymake_ok b a1 c1 X ex W h ht (by omega) hE)
  have HRO := hide (fun (W : World) (b6 : Bool) (a6 : Option Addr) (n6 c6 : Nat) (h : Zn W (.agg #[.bool b6, .slice a6 n6 c6]) (zz b (val X))) => rdOf_new b6 a6 n6 c6 (zz b (val X)) ex W h (by omega) (by omega) (by omega))
  have hTV : topV (zz b (val X)) ex = if zz b (val X) = 0 then 0 else ex + ((blen (zz b (val X)).natAbs : Nat) : Int) - 1 := by unfold topV; rw [if_pos hE]
  have hTC : topC (zz b (val X)) ex = if zz b (val X) = 0 then 1 else 0 := by unfold topC; rw [if_pos hE]
  have hLV : lenV (zz b (val X)) ex = ((blen (omz (zz b (val X))).natAbs : Nat) : Int) := by unfold lenV; rw [if_pos hE, omz_abs]
  have hLC : lenC ex = 0 := by unfold lenC; rw [if_pos hE]
  have hts := top_same (z := zz b (val X)) (ex := ex)
  have HTS := hide (And.intro hTV (And.intro hTC (And.intro hLV hts)))
  rw [hLC] at HLG
  rw [hE] at HFU
  clear hTV hTC hLV hLC hts
  have HM0 := hide (show zz b (val X) = 0 → (omz (zz b (val X))).natAbs = 0 from fun h => by rw [h, omz_zero]; rfl)
  clear h0 hb0 hT hA hE hbz
  generalize topV (zz b (val X)) ex = TV at *
  generalize topC (zz b (val X)) ex = TC at *
  generalize lenV (zz b (val X)) ex = LV at *
  generalize oe (zz b (val X)) ex = E at *
  generalize omz (zz b (val X)) = M at *
  generalize zz b (val X) = z at *
  generalize oe n 0 = EN at *
  generalize omz n = MN at *
  go_enter Tryd.func5, Tryd.ntmps5
  go_wp2_with fail
  refine HLN.mono ?_
  rintro e t1 ⟨⟨aw, mw, nw, a1, c1, rfl, L1, A1⟩, g1⟩
  obtain ⟨w2, hw2, hb2, h2⟩ := enter1 t1 (.cells #[.bool b, .slice a1 X.length c1, .int .i64 ex] 33)
  have HG2 := hide (bl_trans8 (bl_trans8 HB.out g1) hb2)
  have HLE2 := hide (L1.below hb2)
  have HX2 := hide (A1.below hb2)
  have HK2 := hide (block_upW (bl_trans8 g1 hb2) HK0.out)
  have HB6 := hide h2
  obtain ⟨k0, k1, k2⟩ := tri8 HK2.out
  obtain ⟨x0, x1, x2⟩ := tri8 h2
  clear g1 hb2 h2 L1 A1 HLN HK0
  have CM := HMK.out w2 a1 c1 HX2.out (HT.out.below HG2.out)
  clear HMK
  go_wp2_with fail
  refine CM.mono ?_
  rintro e t3 ⟨⟨b5, a5, n5, c5, e5, r5, rfl, D5⟩, g3⟩
  obtain ⟨rs, hans, hrl⟩ := D5.own9
  obtain ⟨w4, hw4, hb4, h4⟩ := enter1 t3 (.cells #[.bool b5, .slice a5 n5 c5, .int .i64 e5] 33)
  have g4 := bl_trans8 g3 hb4
  have HG4 := hide (bl_trans8 HG2.out g4)
  have HW24 := hide g4
  have HK4 := hide (block_upW g4 HK2.out)
  have HB64 := hide (block_upW g4 HB6.out)
  have HB74 := hide h4
  have HAN4 := hide (hans.below hb4)
  have HD4 := hide (D5.below hb4)
  obtain ⟨k0, k1, k2⟩ := tri8 HK4.out
  have CZ := HZO.out w4 HG4.out
  clear g3 hb4 h4 g4 hans CM HZO HK2 HB6 x0 x1 x2 D5
  go_wp2_with fail
  refine CZ.mono ?_
  rintro e t5 ⟨⟨b6, a6, n6, c6, rfl, Z5, NW5⟩, g5⟩
  obtain ⟨w6, hw6, hb6, h6⟩ := enter1 t5 (.cells #[.bool b6, .slice a6 n6 c6] 44)
  have g6 := bl_trans8 g5 hb6
  have HW46 := hide g6
  have HG6 := hide (bl_trans8 HG4.out g6)
  have HK6 := hide (block_upW g6 HK4.out)
  have HB66 := hide (block_upW g6 HB64.out)
  have HB76 := hide (block_upW g6 HB74.out)
  have HB96 := hide h6
  have HZ6 := hide (Z5.below hb6)
  have HNZ := hide NW5
  obtain ⟨k0, k1, k2⟩ := tri8 HK6.out
  clear g5 hb6 h6 g6 CZ Z5 NW5 HK4 HB64 HB74
  have CF := HFU.out w6
  clear HFU
  go_wp2_with fail
  refine CF.mono ?_
  rintro e wn ⟨rfl, hw⟩; rw [hw]; clear hw wn CF
  obtain ⟨w7, w8, hw7, hw8, h7, h8, hb8⟩ := zero_box9 w6 47
  have hf7 := tri8f h7
  obtain ⟨z0, z1, z2⟩ := tri8 h7
  have HB118 := hide h8
  have HW68 := hide hb8
  obtain ⟨k0, k1, k2⟩ := tri8 (block_upW hb8 HK6.out)
  obtain ⟨y0, y1⟩ := duo (block_upW hb8 HB96.out)
  have CR := HRO.out w8 b6 a6 n6 c6 (HZ6.out.below hb8)
  clear h7 h8 hb8 HRO
  go_wp2_with fail
  refine CR.mono ?_
  rintro e t9 ⟨⟨b9, a9, n9, c9, rfl, D9, NW9⟩, g9⟩
  have HC9 := hide (block_upW g9 HB118.out)
  have hf9 := tri8f HC9.out
  obtain ⟨m0, m1, m2⟩ := tri8 HC9.out
  obtain ⟨w10, hw10⟩ : ∃ w10, ((t9.setCell ⟨w6.heap.size, 0, none⟩ (.bool b9)).setCell ⟨w6.heap.size, 1, none⟩ (.slice a9 n9 c9)).setCell ⟨w6.heap.size, 2, none⟩ (.int .i64 E) = w10 := ⟨_, rfl⟩
  have HB1110 := hide (hw10 ▸ tri8_all HC9.out (.bool b9) (.slice a9 n9 c9) (.int .i64 E))
  have HDN10 : Hid (Dn w10 b9 (.slice a9 n9 c9) M) := hide (hw10 ▸ D9.tri8 HC9.out b9 a9 n9 c9 (.int .i64 E))
  have HW610 : Hid (Below w6.heap.size w6 w10) := hide (hw10 ▸ below_tri8 (bl_trans8 HW68.out g9) (Nat.le_refl _) (.bool b9) (.slice a9 n9 c9) (.int .i64 E))
  have HNV := hide (NW9.mono (show w4.heap.size ≤ w8.heap.size from Nat.le_trans HW46.out.size HW68.out.size))
  clear D9 NW9 g9 CR y0 y1 HC9
  have HG10 := hide (bl_trans8 HG6.out HW610.out)
  have CO := HOF.out w10 (HT.out.below HG10.out)
  clear HOF
  go_wp2_with fail
  refine CO.mono ?_
  rintro e ta ⟨⟨bo, ao, no, co, ro, rfl, hbo, Oa, hvo, hto, hlo⟩, ga⟩
  obtain ⟨w12, hw12, hb12, h12⟩ := enter1 ta (.cells #[.bool bo, .slice ao no co, .int .i64 EN] 33)
  have g12 := bl_trans8 ga hb12
  have HW1012 := hide g12
  have HB1212 := hide h12
  have HO12 := hide (Oa.below hb12)
  have HOB := hide hbo
  have HVO := hide (And.intro hvo hto)
  have hg612 := bl_trans8 HW610.out g12
  have HX12 := hide ((HX2.out.below HW24.out).below (bl_trans8 HW46.out hg612))
  have HT12 := hide (HT.out.below (bl_trans8 HG10.out g12))
  obtain ⟨x0, x1, x2⟩ := tri8 (block_upW hg612 HB66.out)
  have CT := HTP.out w12 a1 c1 HX12.out
  clear ga hb12 h12 g12 Oa hbo hvo hto CO hg612 HTP
  go_wp2_with fail
  refine CT.mono ?_
  rintro e tb ⟨rfl, gb⟩
  have CL := HLG.out tb a1 c1 (HX12.out.below gb) (HT12.out.below gb)
  obtain ⟨x0, x1, x2⟩ := tri8 (block_upW (bl_trans8 (bl_trans8 HW610.out HW1012.out) gb) HB66.out)
  have HW12b := hide gb
  clear gb CT HLG
  go_wp2_with fail
  refine CL.mono ?_
  rintro e tc ⟨rfl, gc⟩
  have hd12 : Below w12.heap.size w12 tc.drew := bl_trans8 (bl_trans8 HW12b.out gc) (Below.refl _ _).drew
  have hd10 := bl_trans8 HW1012.out hd12
  have hd6 := bl_trans8 HW610.out hd10
  have HD10 := hide hd10
  have HD6 := hide hd6
  have HX := hide (HX12.out.below hd12)
  have HO := hide (HO12.out.below hd12)
  have HZ := hide (HZ6.out.below hd6)
  have S0 : Six w.heap.size t1.heap.size t3.heap.size t5.heap.size w6.heap.size ta.heap.size (.cells #[.bool b, .slice a X.length c, .int .i64 ex] 27) (.cells #[.bool b, .slice a1 X.length c1, .int .i64 ex] 33) (.cells #[.bool b5, .slice a5 n5 c5, .int .i64 e5] 33) (.cells #[.bool b6, .slice a6 n6 c6] 44) (.cells #[.bool b9, .slice a9 n9 c9, .int .i64 E] 47) (.cells #[.bool bo, .slice ao no co, .int .i64 EN] 33) tc.drew :=
    ⟨block_upW hd6 HK6.out, block_upW hd6 HB66.out, block_upW hd6 HB76.out, block_upW hd6 HB96.out, block_upW hd10 HB1110.out, block_upW hd12 HB1212.out⟩
  have HAP := hide (hd12 |> fun h => h)
  have HG := hide (bl_trans8 HG10.out hd10)
  have HW2d := hide (bl_trans8 (bl_trans8 HW24.out HW46.out) hd6)
  clear gc CL x0 x1 x2 k0 k1 k2 hd6 HAP
  have KS := hide (fun (W : World) (h : Six w.heap.size t1.heap.size t3.heap.size t5.heap.size w6.heap.size ta.heap.size (.cells #[.bool b, .slice a X.length c, .int .i64 ex] 27) (.cells #[.bool b, .slice a1 X.length c1, .int .i64 ex] 33) (.cells #[.bool b5, .slice a5 n5 c5, .int .i64 e5] 33) (.cells #[.bool b6, .slice a6 n6 c6] 44) (.cells #[.bool b9, .slice a9 n9 c9, .int .i64 E] 47) (.cells #[.bool bo, .slice ao no co, .int .i64 EN] 33) W) => show W.cell? ⟨w.heap.size, 0, none⟩ = some (.bool b) ∧ W.cell? ⟨w.heap.size, 1, none⟩ = some (.slice a X.length c) ∧ W.cell? ⟨w.heap.size, 2, none⟩ = some (.int .i64 ex) ∧ W.cell? ⟨t1.heap.size, 0, none⟩ = some (.bool b) ∧ W.cell? ⟨t1.heap.size, 1, none⟩ = some (.slice a1 X.length c1) ∧ W.cell? ⟨t1.heap.size, 2, none⟩ = some (.int .i64 ex) ∧ W.cell? ⟨t3.heap.size, 0, none⟩ = some (.bool b5) ∧ W.cell? ⟨t3.heap.size, 1, none⟩ = some (.slice a5 n5 c5) ∧ W.cell? ⟨t3.heap.size, 2, none⟩ = some (.int .i64 e5) ∧ W.cell? ⟨t5.heap.size, 0, none⟩ = some (.bool b6) ∧ W.cell? ⟨t5.heap.size, 1, none⟩ = some (.slice a6 n6 c6) ∧ W.cell? ⟨w6.heap.size, 0, none⟩ = some (.bool b9) ∧ W.cell? ⟨w6.heap.size, 1, none⟩ = some (.slice a9 n9 c9) ∧ W.cell? ⟨w6.heap.size, 2, none⟩ = some (.int .i64 E) ∧ W.cell? ⟨ta.heap.size, 0, none⟩ = some (.bool bo) ∧ W.cell? ⟨ta.heap.size, 1, none⟩ = some (.slice ao no co) ∧ W.cell? ⟨ta.heap.size, 2, none⟩ = some (.int .i64 EN) from ⟨(tri8 h.b1).1, (tri8 h.b1).2.1, (tri8 h.b1).2.2, (tri8 h.b2).1, (tri8 h.b2).2.1, (tri8 h.b2).2.2, (tri8 h.b3).1, (tri8 h.b3).2.1, (tri8 h.b3).2.2, (duo h.b4).1, (duo h.b4).2, (tri8 h.b5).1, (tri8 h.b5).2.1, (tri8 h.b5).2.2, (tri8 h.b6).1, (tri8 h.b6).2.1, (tri8 h.b6).2.2⟩)
  have g0 : Below tc.drew.heap.size tc.drew tc.drew := Below.refl _ _
  have HAL := alike8_ok b5 a5 n5 c5 e5 r5 b9 a9 n9 c9 M E _ tc.drew (HD4.out.below (bl_trans8 HW46.out HD6.out)) (HDN10.out.below hd10)
  have HSX := hide (fun (W : World) (hg : Below tc.drew.heap.size tc.drew W) => HSG.out W a1 c1 (HX.out.below hg))
  have HSZ := hide (fun (W : World) (hg : Below tc.drew.heap.size tc.drew W) => rzsign_any (.agg #[.bool b6, .slice a6 n6 c6]) z W (HZ.out.below hg))
  have HIS := hide (fun (W : World) (a4 : Option Addr) (n4 k4 : Nat) (h : Dn W bo (.slice a4 n4 k4) MN) (hg : Below tc.drew.heap.size tc.drew W) => rdIs_any bo a4 n4 k4 MN EN (.slice ao no co) ro W h ((HO.out.arg (by omega)).below hg) HVO.out.2 HVO.out.1 (Nat.le_trans HBN.out (by omega)))
  have HCH := hide (fun (W : World) (hg : Below tc.drew.heap.size tc.drew W) => (Chain.snoc (bl_trans8 HD10.out hg) ((HO.out.below hg).base (Nat.le_refl w10.heap.size)) (Chain.one (HAN4.out.below (bl_trans8 HW46.out HW610.out)) (Nat.le_trans HW24.out.size (Nat.le_trans HW46.out.size HW610.out.size))) (Nat.le_trans HW24.out.size (Nat.le_trans HW46.out.size HW610.out.size))).aparts)
  have hsz : w2.heap.size ≤ tc.drew.heap.size := HW2d.out.size
  have HOW := hide (fun (W : World) (hg : Below tc.drew.heap.size tc.drew W) => own_apartsW w2.heap.size [.slice a5 n5 c5, .slice ao no co] [rs, ro] W (HCH.out W hg) (by simp) (by simp; omega) (Nat.le_trans hsz hg.size))
  have HKP := hide (fun (W : World) (hg : Below w2.heap.size w2 W) => kept_ok (.slice aw mw nw) (.slice a X.length c) X W (HLE2.out.below hg) ((HA.out.below HG2.out).below hg) (by omega))
  generalize hzs : z.sign = sz at *
  have HZS := hide hzs
  have hss : (sz != sz) = false := by simp
  have hss2 : decide (sz = sz) = true := by simp
  clear hzs hd10 hd12 hsz HSG
  go_wp2
  have s0 := S0
  clear S0
  go_region_held3 (fun w' => w'.cell? ⟨w.heap.size, 0, none⟩ = some (.bool b) ∧ w'.cell? ⟨w.heap.size, 1, none⟩ = some (.slice a X.length c) ∧ w'.cell? ⟨w.heap.size, 2, none⟩ = some (.int .i64 ex) ∧ w'.cell? ⟨t1.heap.size, 0, none⟩ = some (.bool b) ∧ w'.cell? ⟨t1.heap.size, 1, none⟩ = some (.slice a1 X.length c1) ∧ w'.cell? ⟨t1.heap.size, 2, none⟩ = some (.int .i64 ex) ∧ w'.cell? ⟨t3.heap.size, 0, none⟩ = some (.bool b5) ∧ w'.cell? ⟨t3.heap.size, 1, none⟩ = some (.slice a5 n5 c5) ∧ w'.cell? ⟨t3.heap.size, 2, none⟩ = some (.int .i64 e5) ∧ w'.cell? ⟨t5.heap.size, 0, none⟩ = some (.bool b6) ∧ w'.cell? ⟨t5.heap.size, 1, none⟩ = some (.slice a6 n6 c6) ∧ w'.cell? ⟨w6.heap.size, 0, none⟩ = some (.bool b9) ∧ w'.cell? ⟨w6.heap.size, 1, none⟩ = some (.slice a9 n9 c9) ∧ w'.cell? ⟨w6.heap.size, 2, none⟩ = some (.int .i64 E) ∧ w'.cell? ⟨ta.heap.size, 0, none⟩ = some (.bool bo) ∧ w'.cell? ⟨ta.heap.size, 1, none⟩ = some (.slice ao no co) ∧ w'.cell? ⟨ta.heap.size, 2, none⟩ = some (.int .i64 EN)) (first | with_reducible exact KS.out _ s6 | with_reducible exact KS.out _ s5 | with_reducible exact KS.out _ s4 | with_reducible exact KS.out _ s3 | with_reducible exact KS.out _ s2 | with_reducible exact KS.out _ s1 | with_reducible exact KS.out _ s0 | with_reducible exact KS.out _ (Six.alloc s5 _)) (first
    | (go_at_call 26; refine (HKP.out t26 G26).mono ?_; rintro e' wn ⟨rfl, hw⟩; rw [hw]; clear hw wn)
    | (go_at_call 25; refine (HOW.out t25 g5).mono ?_; rintro e' t26 ⟨rfl, hk⟩; have s6 : Six w.heap.size t1.heap.size t3.heap.size t5.heap.size w6.heap.size ta.heap.size (.cells #[.bool b, .slice a X.length c, .int .i64 ex] 27) (.cells #[.bool b, .slice a1 X.length c1, .int .i64 ex] 33) (.cells #[.bool b5, .slice a5 n5 c5, .int .i64 e5] 33) (.cells #[.bool b6, .slice a6 n6 c6] 44) (.cells #[.bool b9, .slice a9 n9 c9, .int .i64 E] 47) (.cells #[.bool bo, .slice ao no co, .int .i64 EN] 33) t26 := ⟨hk.boxes (HCH.out t25 g5) _ _ _ (by decide) s5.b1, hk.boxes (HCH.out t25 g5) _ _ _ (by decide) s5.b2, hk.boxes (HCH.out t25 g5) _ _ _ (by decide) s5.b3, hk.boxes (HCH.out t25 g5) _ _ _ (by decide) s5.b4, hk.boxes (HCH.out t25 g5) _ _ _ (by decide) s5.b5, hk.boxes (HCH.out t25 g5) _ _ _ (by decide) s5.b6⟩; have G26 : Below w2.heap.size w2 t26 := (bl_trans8 HW2d.out g5).trans hk.below)
    | (go_at_call 24; refine (HIS.out t24 a4 n4 k4 y4 g4).mono ?_; rintro e' t25 ⟨rfl, hb5⟩; have g5 := bl_trans8 g4 hb5; have s5 := s4.up hb5)
    | (go_at_call 23; refine (HIN.out t23).mono ?_; rintro e' t24 ⟨⟨b4, a4, n4, k4, rfl, y4⟩, hb4⟩; have hbb : bo = b4 := HOB.out.trans y4.1.symm; subst hbb; have g4 := bl_trans8 g3 hb4; have s4 := s3.up hb4)
    | (go_at_call 22; refine (HSZ.out t22 g2).mono ?_; rintro e' t23 ⟨rfl, hb3⟩; have g3 := bl_trans8 g2 hb3; have s3 := s2.up hb3)
    | (go_at_call 21; refine (HSX.out t21 g1).mono ?_; rintro e' t22 ⟨rfl, hb2⟩; have g2 := bl_trans8 g1 hb2; have s2 := s1.up hb2)
    | (go_at_call 20; refine (HAL).mono ?_; rintro e' t21 ⟨rfl, hb1⟩; have g1 := bl_trans8 g0 hb1; have s1 := s0.up hb1))
  have ZN : Zn t26 (.agg #[.bool b6, .slice a6 n6 c6]) z := by
    obtain ⟨u6, e6, hn6⟩ := HZ6.out.below HW610.out
    have e2 : .slice a6 n6 c6 = u6 := by
      have := congrArg Value.cells e6
      simp [Value.cells] at this
      exact this.2
    subst e2
    exact ⟨_, e6, hn6.over (bl_trans8 HD10.out g5) hk (turns_off HAN4.out (HO.out.below g5) HNZ.out (Nat.le_trans HD10.out.size g5.size))⟩
  have DN : Dn t26 b9 (.slice a9 n9 c9) M := ⟨HDN10.out.1, HDN10.out.2.over (bl_trans8 HD10.out g5) hk (turns_off HAN4.out (HO.out.below g5) HNV.out (Nat.le_trans HD10.out.size g5.size))⟩
  have HGE := hide (HG2.out.trans (G26.mono HG2.out.size))
  have HS6 := hide s6
  have HZE := hide ZN
  have HDE := hide DN
  clear s0 s1 s2 s3 s4 s5 s6 g0 g1 g2 g3 g4 g5 hb1 hb2 hb3 hb4 hb5 hk G26 KS HAL ZN DN
  obtain ⟨x0, x1⟩ := duo HS6.out.b4
  have CS := rzsign_any (.agg #[.bool b6, .slice a6 n6 c6]) z t26 HZE.out
  rw [HZS.out] at CS
  go_wp2_with fail
  refine CS.mono ?_
  rintro e tk ⟨rfl, gk⟩
  have HGK := hide (bl_trans8 HGE.out gk)
  have HDK := hide (HDE.out.below gk)
  have HB11 := hide (block_upW gk HS6.out.b5)
  clear CS gk x0 x1 HGE HDE
  obtain ⟨tv, tc', lv, htt⟩ := HTS.out
  by_cases hz : z = 0
  · have hs0 : (sz == 0) = true := by rw [← HZS.out, hz]; rfl
    rw [if_pos hz] at tv tc'
    have hl0 : LV = 0 := by
      rw [lv]
      have hM0 : M.natAbs = 0 := HM0.out hz
      rw [hM0]; decide
    subst tv tc' hl0
    clear htt lv
    have CN := num8_any 1 tk
    go_wp2_with fail
    refine CN.mono ?_
    rintro e wn ⟨rfl, hw⟩; rw [hw]; clear hw wn CN
    have CN := num8_any 0 tk
    go_wp2_with fail
    refine CN.mono ?_
    rintro e wn ⟨rfl, hw⟩; rw [hw]; clear hw wn CN
    have AW := awake8_any tk (HT.out.below HGK.out)
    go_wp2_with fail
    refine AW.mono ?_
    rintro e tz ⟨rfl, hbz⟩
    have HFIN := hide (bl_trans8 HGK.out hbz)
    clear hbz AW
    go_wp2
    go_ret
    exact ⟨rfl, HFIN.out⟩
  · have hs0 : (sz == 0) = false := by
      rw [beq_eq_false_iff_ne, ← HZS.out]
      exact fun h => hz (Int.sign_eq_zero_iff_zero.1 h)
    rw [if_neg hz] at tv tc'
    rw [← htt hz] at tv
    subst tc' tv lv
    clear htt
    generalize hTT : ((blen M.natAbs : Nat) : Int) - 1 + E = TT at *
    have htq : (TT == TT) = true := by simp
    have CN := num8_any 0 tk
    go_wp2_with fail
    refine CN.mono ?_
    rintro e wn ⟨rfl, hw⟩; rw [hw]; clear hw wn CN
    obtain ⟨x0, x1, x2⟩ := tri8 HB11.out
    have CT := rdTop_any b9 a9 n9 c9 M E tk HDK.out (by omega) (by omega) (by omega)
    rw [hTT] at CT
    go_wp2_with fail
    refine CT.mono ?_
    rintro e tm ⟨rfl, gm⟩
    have HGM := hide (bl_trans8 HGK.out gm)
    obtain ⟨x3, x4, x5⟩ := tri8 (block_upW gm HB11.out)
    have CL := len_any (.slice a9 n9 c9) M.natAbs tm (HDK.out.2.below gm)
    generalize ((blen M.natAbs : Nat) : Int) = BM at *
    have hbq : (BM == BM) = true := by simp
    clear CT gm x0 x1 x2
    have CN := num8_any 0 tm
    go_wp2_with fail
    refine CN.mono ?_
    rintro e wn ⟨rfl, hw⟩; rw [hw]; clear hw wn CN
    go_wp2_with fail
    refine CL.mono ?_
    rintro e wn ⟨rfl, hw⟩; rw [hw]; clear hw wn CL
    have AW := awake8_any tm (HT.out.below HGM.out)
    go_wp2_with fail
    refine AW.mono ?_
    rintro e tz ⟨rfl, hbz⟩
    have HFIN := hide (bl_trans8 HGM.out hbz)
    clear hbz AW
    go_wp2
    go_ret
    exact ⟨rfl, HFIN.out⟩

theorem dyadicMakes_walk (b : Bool) (u : Value) (X : List Nat) (ex n : Int) (w : World) (hT : Tab w) (hA : Arg w u X) (hf : X.length ≤ 17592186043904) (_ : -9223372036854775808 ≤ ex) (_ : ex ≤ 9223372036854775807) (hn1 : -9223372036854775808 ≤ n) (hn2 : n ≤ 9223372036854775807) :
    Calls Tryd.prog 5 #[.agg #[.bool b, u, .int .i64 ex], .int .i64 n] w fun e w' => e = .returned (.bool true) ∧ Below w.heap.size w w' := by
  cases hE : fitE ex
  · exact dyadicMakes_no b u X ex n w hT hA hf hn1 hn2 hE
  · exact dyadicMakes_ok b u X ex n w hT hA hf hn1 hn2 hE

end Go.Proofs.YtlengglmnbpkbaaDoor
