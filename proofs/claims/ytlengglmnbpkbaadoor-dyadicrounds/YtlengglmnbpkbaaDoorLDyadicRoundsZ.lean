/- The walk of the law DyadicRounds. -/
import Derived.Test.YtlengglmnbpkbaaDoorDySZ
import Derived.Test.YtlengglmnbpkbaaDoorDyTZ
namespace Go.Proofs.YtlengglmnbpkbaaDoor
open Go.RowKit
open Lm
attribute [local go_sem ↓] Go.wp_at_zero Go.wp_at_succ

theorem DR.own8 {w : World} {base : Nat} {b : Bool} {va : Value} {ex c M E : Int} (h : DR w base b va ex c M E) : ∃ rs, Ans w base va rs ∧ rs.length ≤ 1048576 := by
  obtain ⟨rs, h1, h2 | h2 | h2⟩ := h
  · exact ⟨rs, h1, few_ofW h2.2.2.2.1 h2.2.2.1 (by have := h2.2.2.2.2.2.1; omega)⟩
  · exact ⟨rs, h1, by rw [h2.2.2.2.2.1]; simp⟩
  · exact ⟨rs, h1, by rw [h2.2.2.2.2.1]; simp⟩

/-- A new box of a dyadic that is 0, and 0 put into it. -/
theorem zero_box8 (w : World) (t : TypeId) : ∃ w1 w2, w.alloc (.cells #[.bool false, .slice none 0 0, .int .i64 0] t) = w1 ∧ ((w1.setCell ⟨w.heap.size, 0, none⟩ (.bool false)).setCell ⟨w.heap.size, 1, none⟩ (.slice none 0 0)).setCell ⟨w.heap.size, 2, none⟩ (.int .i64 0) = w2 ∧ w1.heap[w.heap.size]? = some (.cells #[.bool false, .slice none 0 0, .int .i64 0] t) ∧ w2.heap[w.heap.size]? = some (.cells #[.bool false, .slice none 0 0, .int .i64 0] t) ∧ Below w.heap.size w w2 := by
  obtain ⟨w1, e1, b1, c1⟩ := enter1 w (.cells #[.bool false, .slice none 0 0, .int .i64 0] t)
  exact ⟨w1, _, e1, rfl, c1, tri8_all c1 _ _ _, below_tri8 b1 (Nat.le_refl _) _ _ _⟩

set_option maxRecDepth 20000 in
set_option maxHeartbeats 4000000 in
theorem dyadicRounds_walk (b : Bool) (u : Value) (X : List Nat) (ex pos m : Int) (w : World) (hT : Tab w) (hA : Arg w u X) (hf : X.length ≤ 17592186043904) (_ : -9223372036854775808 ≤ ex) (_ : ex ≤ 9223372036854775807) (_ : -9223372036854775808 ≤ pos) (_ : pos ≤ 9223372036854775807) (_ : -9223372036854775808 ≤ m) (_ : m ≤ 9223372036854775807) :
    Calls Tryd.prog 6 #[.agg #[.bool b, u, .int .i64 ex], .int .i64 pos, .int .i64 m] w fun e w' => e = .returned (.bool true) ∧ Below w.heap.size w w' := by
  obtain ⟨a, c, rfl, _, _, _⟩ := hA.form
  obtain ⟨w0, hw0, hb0, h0⟩ := enter1 w (.cells #[.bool b, .slice a X.length c, .int .i64 ex] 27)
  obtain ⟨k0, k1, k2⟩ := tri8 h0
  have HLN := lent8_any b a c X ex w0 (hA.below hb0) (by omega)
  have HB := hide hb0
  have HW0 := hide h0
  have HT := hide hT
  have HA := hide hA
  have HFU := hide (fun (W : World) => fit8_any pos W)
  have HMU := hide (fun (W : World) => mode8_any m W)
  by_cases hfe : fitE ex = true
  · have HOF := hide (fun (W : World) (hg : Below w.heap.size w W) => of8_ok b a c X ex W (HA.out.below hg) hf hfe)
    have hEr := (fitE_iff ex).1 hfe
    have hbz : blen (zz b (val X)).natAbs ≤ 64 * X.length := by rw [zz_abs]; exact blen_len8 hA.limbs
    have hOE := oe_range (zz b (val X)) ex (by omega)
    have hbo : blen (omz (zz b (val X))).natAbs ≤ 1125899906809900 := by
      have h5 := blen_mono (od_le (zz b (val X)).natAbs)
      rw [omz_abs]; omega
    have hno := norm8_of (zz b (val X)) ex
    have HRA := hide (fun (W : World) (a1 : Option Addr) (c1 : Nat) (h : Arg W (.slice a1 X.length c1) X) (ht : Tab W) (hk : fitE pos = false) => yround_arg b a1 c1 X ex pos m W h ht (by omega) hfe hk)
    have HRM := hide (fun (W : World) (a1 : Option Addr) (c1 : Nat) (h : Arg W (.slice a1 X.length c1) X) (ht : Tab W) (hk : fitE pos = true) (hm : isM m = false) => yround_mode b a1 c1 X ex pos m W h ht (by omega) hfe hk hm)
    have HRO := hide (fun (W : World) (a1 : Option Addr) (c1 : Nat) (h : Arg W (.slice a1 X.length c1) X) (ht : Tab W) (hk : fitE pos = true) (hm : isM m = true) => yround_ok b a1 c1 X ex pos m W h ht (by omega) hfe hk hm)
    clear h0 hb0 hT hA hfe hbz
    generalize oe (zz b (val X)) ex = E at *
    generalize omz (zz b (val X)) = M at *
    by_cases hfp : fitE pos = true
    · by_cases hfm : isM m = true
      · have hPr := (fitE_iff pos).1 hfp
        have hmm := (isM_iff m).1 hfm
        go_enter Tryd.func6, Tryd.ntmps6
        go_wp2_with fail
        refine HLN.mono ?_
        rintro e t1 ⟨⟨aw, mw, nw, a1, c1, rfl, L1, A1⟩, g1⟩
        obtain ⟨w2, hw2, hb2, h2⟩ := enter1 t1 (.cells #[.bool b, .slice a1 X.length c1, .int .i64 ex] 33)
        have HG2 := hide (bl_trans8 (bl_trans8 HB.out g1) hb2)
        have HLE := hide L1
        have HW1 := hide (block_upW g1 HW0.out)
        have HA1 := hide (A1.below hb2)
        have HT2 := hide hb2
        have HB2 := hide h2
        obtain ⟨k0, k1, k2⟩ := tri8 (block_upW (bl_trans8 g1 hb2) HW0.out)
        clear g1 hb2 h2 L1 A1 HLN
        have HOO := HOF.out w2 HG2.out
        clear HOF
        go_wp2_with fail
        refine HOO.mono ?_
        rintro e t3 ⟨⟨b3, a3, n3, c3, rfl, D3⟩, g3⟩
        obtain ⟨w4, hw4, hb4, h4⟩ := enter1 t3 (.cells #[.bool b3, .slice a3 n3 c3, .int .i64 E] 47)
        have g4 := bl_trans8 g3 hb4
        have HG4 := hide (bl_trans8 HG2.out g4)
        have HT4 := hide (bl_trans8 HT2.out g4)
        have HD4 := hide (D3.below hb4)
        have HV4 := hide h4
        obtain ⟨l0, l1, l2⟩ := tri8 (block_upW g4 HB2.out)
        have HSW := hide HG4.out.size
        have HST := hide HT4.out.size
        have HRR := HRO.out w4 a1 c1 (HA1.out.below g4) (HT.out.below HG4.out) hfp hfm
        clear g3 hb4 h4 D3 g4 HOO
        go_wp2_with fail
        refine HRR.mono ?_
        rintro e t5 ⟨⟨b5, a5, n5, c5, e5, r5, rfl, D5⟩, g5⟩
        obtain ⟨rs, hans, hrl⟩ := D5.own8
        have HAN0 := hide hans
        have HD5 := hide D5
        clear D5 hans
        obtain ⟨w6, hw6, hb6, h6⟩ := enter1 t5 (.cells #[.bool b5, .slice a5 n5 c5, .int .i64 e5] 33)
        obtain ⟨w7, w8, hw7, hw8, h7, h8, hb8⟩ := zero_box8 w6 47
        have hf7 := tri8f h7
        obtain ⟨z0, z1, z2⟩ := tri8 h7
        obtain ⟨y0, y1, y2⟩ := tri8 h8
        have g8 := bl_trans8 (bl_trans8 g5 hb6) hb8
        have HBP := hide (block_upW hb8 h6)
        obtain ⟨x0, x1, x2⟩ := tri8 HBP.out
        have HG8 := hide (bl_trans8 HG4.out g8)
        have HT8 := hide (HT4.out.trans (g8.mono HT4.out.size))
        have HS8 := hide (show w4.heap.size ≤ w8.heap.size from g8.size)
        have HAN := hide ((HAN0.out.below hb6).below hb8)
        have HS6 := hide (show w4.heap.size ≤ w6.heap.size from Nat.le_trans g5.size hb6.size)
        have HDN8 := hide ((HD4.out.below g5).below (bl_trans8 hb6 hb8))
        have HDR8 := hide ((HD5.out.below hb6).below hb8)
        obtain ⟨v0, v1, v2⟩ := tri8 (block_upW g8 HV4.out)
        have HWN := hide h8
        clear g5 hb6 h6 h7 h8 hb8 g8 HRR HAN0
        have HF := HFU.out w8
        rw [hfp] at HF
        go_wp2_with fail
        refine HF.mono ?_
        rintro e wn ⟨rfl, hw⟩; rw [hw]; clear hw wn HF
        have HM := HMU.out w8
        rw [hfm] at HM
        go_wp2_with fail
        refine HM.mono ?_
        rintro e wn ⟨rfl, hw⟩; rw [hw]; clear hw wn HM
        have HRD := rdRound_any b3 a3 n3 c3 M E pos m w8 HDN8.out hno hbo (by omega) (by omega) (by omega) (by omega) hmm
        generalize rndE M E pos = RE at *
        generalize rndM M E pos m = RM at *
        go_wp2_with fail
        refine HRD.mono ?_
        rintro e ta ⟨⟨ba, aa, na, ca, rfl, da⟩, ga'⟩
        have HWA := block_upW ga' HWN.out
        have hfa := tri8f HWA
        obtain ⟨i0, i1, i2⟩ := tri8 HWA
        have HPA := block_upW ga' HBP.out
        have hne : w6.heap.size ≠ t5.heap.size := by
          have h9 : w6.heap.size = t5.heap.size + 1 := by rw [← hw6, World.size_alloc]
          omega
        have dp : (((ta.setCell ⟨w6.heap.size, 0, none⟩ (.bool ba)).setCell ⟨w6.heap.size, 1, none⟩ (.slice aa na ca)).setCell ⟨w6.heap.size, 2, none⟩ (.int .i64 (oe RM RE))).heap[t5.heap.size]? = some (.cells #[.bool b5, .slice a5 n5 c5, .int .i64 e5] 33) := by
          rw [Below.heap_setCell _ _ _ _ hne.symm, Below.heap_setCell _ _ _ _ hne.symm, Below.heap_setCell _ _ _ _ hne.symm]; exact HPA
        have dw := tri8_all HWA (.bool ba) (.slice aa na ca) (.int .i64 (oe RM RE))
        have hw68 : w4.heap.size ≤ w6.heap.size := HS6.out
        have gA : Below w.heap.size w (((ta.setCell ⟨w6.heap.size, 0, none⟩ (.bool ba)).setCell ⟨w6.heap.size, 1, none⟩ (.slice aa na ca)).setCell ⟨w6.heap.size, 2, none⟩ (.int .i64 (oe RM RE))) := below_tri8 (bl_trans8 HG8.out ga') (Nat.le_trans HSW.out hw68) _ _ _
        have gT : Below t1.heap.size t1 (((ta.setCell ⟨w6.heap.size, 0, none⟩ (.bool ba)).setCell ⟨w6.heap.size, 1, none⟩ (.slice aa na ca)).setCell ⟨w6.heap.size, 2, none⟩ (.int .i64 (oe RM RE))) := below_tri8 (HT8.out.trans (ga'.mono HT8.out.size)) (Nat.le_trans HST.out hw68) _ _ _
        have dr := (HDR8.out.below ga').tri8 HWA (by decide) (.bool ba) (.slice aa na ca) (.int .i64 (oe RM RE))
        have dn := da.tri8 HWA ba aa na ca (.int .i64 (oe RM RE))
        have an := (HAN.out.below ga').tri8 HWA (by decide) (.bool ba) (.slice aa na ca) (.int .i64 (oe RM RE))
        have HALX := alike8_ok b5 a5 n5 c5 e5 r5 ba aa na ca (omz RM) (oe RM RE) _ _ dr dn
        have hsA : w4.heap.size ≤ (((ta.setCell ⟨w6.heap.size, 0, none⟩ (.bool ba)).setCell ⟨w6.heap.size, 1, none⟩ (.slice aa na ca)).setCell ⟨w6.heap.size, 2, none⟩ (.int .i64 (oe RM RE))).heap.size := by
          have h9 := Nat.le_trans HS8.out ga'.size
          simpa [World.setCell] using h9
        obtain ⟨i3, i4, i5⟩ := tri8 dw
        obtain ⟨i6, i7, i8⟩ := tri8 dp
        clear HWA HPA hne hw68 da HRD HBP HG8 HT8 HS8 HAN HWN HDR8 HDN8 x0 x1 x2 y0 y1 y2 HD5 HD4
        go_wp2_with fail
        generalize ((ta.setCell ⟨w6.heap.size, 0, none⟩ (.bool ba)).setCell ⟨w6.heap.size, 1, none⟩ (.slice aa na ca)).setCell ⟨w6.heap.size, 2, none⟩ (.int .i64 (oe RM RE)) = wA at *
        have HBP := hide dp
        have HG8 := hide gA
        have HT8 := hide gT
        have HS8 := hide hsA
        have HAN := hide an
        have HAL := HALX
        clear dp dw gA gT dr dn an hsA HALX ga'
        refine HAL.mono ?_
        rintro e t9 ⟨rfl, g9⟩
        have HG9 := hide (bl_trans8 HG8.out g9)
        have HT9 := hide (HT8.out.trans (g9.mono HT8.out.size))
        have hans9 := (HAN.out.below g9)
        have HOW := own_aparts w4.heap.size [.slice a5 n5 c5] [rs] t9 (Chain.one hans9 (Nat.le_trans HS8.out g9.size)).aparts (by simp) (by simp; omega) (Nat.le_trans HS8.out g9.size)
        obtain ⟨o0, o1, o2⟩ := tri8 (block_upW g9 HBP.out)
        have HP9 := hide (block_upW g9 HBP.out)
        clear g9 hans9 HAL
        go_wp2_with fail
        refine HOW.mono ?_
        rintro e t10 ⟨rfl, hk⟩
        have G10 : Below w.heap.size w t10 := HG9.out.trans (hk.below.mono HSW.out)
        have GT10 : Below t1.heap.size t1 t10 := HT9.out.trans (hk.below.mono HST.out)
        have HKE := kept_ok (.slice aw mw nw) (.slice a X.length c) X t10 (HLE.out.below GT10) (HA.out.below G10) (by omega)
        obtain ⟨k0, k1, k2⟩ := tri8 (show t10.heap[w.heap.size]? = some (.cells #[.bool b, .slice a X.length c, .int .i64 ex] 27) from hk.box _ _ _ (by decide) (by decide) (block_upW HT9.out HW1.out))
        have HAW := awake8_any t10 (HT.out.below G10)
        have HG10 := hide G10
        clear hk HOW GT10 G10
        go_wp2_with fail
        refine HKE.mono ?_
        rintro e wn ⟨rfl, hw⟩; rw [hw]; clear hw wn HKE
        go_wp2_with fail
        refine HAW.mono ?_
        rintro e wz ⟨rfl, hbz⟩
        have HZ := hide (bl_trans8 HG10.out hbz)
        clear hbz HAW
        go_wp2
        go_ret
        exact ⟨rfl, HZ.out⟩
      · have hfm' : isM m = false := by simpa using hfm
        clear hfm
        go_enter Tryd.func6, Tryd.ntmps6
        go_wp2_with fail
        refine HLN.mono ?_
        rintro e t1 ⟨⟨aw, mw, nw, a1, c1, rfl, L1, A1⟩, g1⟩
        obtain ⟨w2, hw2, hb2, h2⟩ := enter1 t1 (.cells #[.bool b, .slice a1 X.length c1, .int .i64 ex] 33)
        have HG2 := hide (bl_trans8 (bl_trans8 HB.out g1) hb2)
        have HLE := hide L1
        have HW1 := hide (block_upW g1 HW0.out)
        have HA1 := hide (A1.below hb2)
        have HT2 := hide hb2
        have HB2 := hide h2
        obtain ⟨k0, k1, k2⟩ := tri8 (block_upW (bl_trans8 g1 hb2) HW0.out)
        clear g1 hb2 h2 L1 A1 HLN
        have HOO := HOF.out w2 HG2.out
        clear HOF
        go_wp2_with fail
        refine HOO.mono ?_
        rintro e t3 ⟨⟨b3, a3, n3, c3, rfl, D3⟩, g3⟩
        obtain ⟨w4, hw4, hb4, h4⟩ := enter1 t3 (.cells #[.bool b3, .slice a3 n3 c3, .int .i64 E] 47)
        have g4 := bl_trans8 g3 hb4
        have HG4 := hide (bl_trans8 HG2.out g4)
        have HT4 := hide (bl_trans8 HT2.out g4)
        have HD4 := hide (D3.below hb4)
        have HV4 := hide h4
        obtain ⟨l0, l1, l2⟩ := tri8 (block_upW g4 HB2.out)
        have HSW := hide HG4.out.size
        have HST := hide HT4.out.size
        have HRR := HRM.out w4 a1 c1 (HA1.out.below g4) (HT.out.below HG4.out) hfp hfm'
        clear g3 hb4 h4 D3 g4 HOO
        go_wp2_with fail
        refine HRR.mono ?_
        rintro e t5 ⟨he5, g5⟩
        obtain ⟨b5, a5, n5, c5, e5, rfl, heq⟩ : ∃ b5 a5 n5 c5 e5, e = .returned (.tuple #[.agg #[.bool b5, .slice a5 n5 c5, .int .i64 e5], .int .i64 81]) ∧ (b5 = false ∧ a5 = none ∧ n5 = 0 ∧ c5 = 0 ∧ e5 = 0) := ⟨_, _, _, _, _, he5, rfl, rfl, rfl, rfl, rfl⟩
        have HEQ := hide heq
        clear he5 heq
        have HAN0 : Hid (Ans t5 w4.heap.size (.slice a5 n5 c5) []) := hide (by obtain ⟨_, q2, q3, q4, _⟩ := HEQ.out; rw [q2, q3, q4]; exact Ans.nil _ _)
        obtain ⟨rs, hrs⟩ : ∃ rs : List Nat, rs = [] := ⟨_, rfl⟩
        rw [← hrs] at HAN0
        have hrl : rs.length ≤ 1048576 := by rw [hrs]; simp
        clear hrs
        obtain ⟨w6, hw6, hb6, h6⟩ := enter1 t5 (.cells #[.bool b5, .slice a5 n5 c5, .int .i64 e5] 33)
        obtain ⟨w7, w8, hw7, hw8, h7, h8, hb8⟩ := zero_box8 w6 47
        have hf7 := tri8f h7
        obtain ⟨z0, z1, z2⟩ := tri8 h7
        obtain ⟨y0, y1, y2⟩ := tri8 h8
        have g8 := bl_trans8 (bl_trans8 g5 hb6) hb8
        have HBP := hide (block_upW hb8 h6)
        obtain ⟨x0, x1, x2⟩ := tri8 HBP.out
        have HG8 := hide (bl_trans8 HG4.out g8)
        have HT8 := hide (HT4.out.trans (g8.mono HT4.out.size))
        have HS8 := hide (show w4.heap.size ≤ w8.heap.size from g8.size)
        have HAN := hide ((HAN0.out.below hb6).below hb8)
        clear g5 hb6 h6 h7 h8 hb8 g8 HRR HAN0
        have HF := HFU.out w8
        rw [hfp] at HF
        go_wp2_with fail
        refine HF.mono ?_
        rintro e wn ⟨rfl, hw⟩; rw [hw]; clear hw wn HF
        have HM := HMU.out w8
        rw [hfm'] at HM
        go_wp2_with fail
        refine HM.mono ?_
        rintro e wn ⟨rfl, hw⟩; rw [hw]; clear hw wn HM
        have HAL : Calls Tryd.prog 20 #[.agg #[.bool b5, .slice a5 n5 c5, .int .i64 e5], .int .i64 81, .agg #[.bool false, .slice none 0 0, .int .i64 0], .int .i64 81] w8 (fun e w' => e = .returned (.bool true) ∧ Below w8.heap.size w8 w') := by
          obtain ⟨q1, q2, q3, q4, q5⟩ := HEQ.out
          rw [q1, q2, q3, q4, q5]
          exact alike8_bad 81 false none 0 0 0 w8 (by decide)
        go_wp2_with fail
        refine HAL.mono ?_
        rintro e t9 ⟨rfl, g9⟩
        have HG9 := hide (bl_trans8 HG8.out g9)
        have HT9 := hide (HT8.out.trans (g9.mono HT8.out.size))
        have hans9 := (HAN.out.below g9)
        have HOW := own_aparts w4.heap.size [.slice a5 n5 c5] [rs] t9 (Chain.one hans9 (Nat.le_trans HS8.out g9.size)).aparts (by simp) (by simp; omega) (Nat.le_trans HS8.out g9.size)
        obtain ⟨o0, o1, o2⟩ := tri8 (block_upW g9 HBP.out)
        have HP9 := hide (block_upW g9 HBP.out)
        clear g9 hans9 HAL
        go_wp2_with fail
        refine HOW.mono ?_
        rintro e t10 ⟨rfl, hk⟩
        have G10 : Below w.heap.size w t10 := HG9.out.trans (hk.below.mono HSW.out)
        have GT10 : Below t1.heap.size t1 t10 := HT9.out.trans (hk.below.mono HST.out)
        have HKE := kept_ok (.slice aw mw nw) (.slice a X.length c) X t10 (HLE.out.below GT10) (HA.out.below G10) (by omega)
        obtain ⟨k0, k1, k2⟩ := tri8 (show t10.heap[w.heap.size]? = some (.cells #[.bool b, .slice a X.length c, .int .i64 ex] 27) from hk.box _ _ _ (by decide) (by decide) (block_upW HT9.out HW1.out))
        have HAW := awake8_any t10 (HT.out.below G10)
        have HG10 := hide G10
        clear hk HOW GT10 G10
        go_wp2_with fail
        refine HKE.mono ?_
        rintro e wn ⟨rfl, hw⟩; rw [hw]; clear hw wn HKE
        go_wp2_with fail
        refine HAW.mono ?_
        rintro e wz ⟨rfl, hbz⟩
        have HZ := hide (bl_trans8 HG10.out hbz)
        clear hbz HAW
        go_wp2
        go_ret
        exact ⟨rfl, HZ.out⟩
    · have hfp' : fitE pos = false := by simpa using hfp
      clear hfp
      go_enter Tryd.func6, Tryd.ntmps6
      go_wp2_with fail
      refine HLN.mono ?_
      rintro e t1 ⟨⟨aw, mw, nw, a1, c1, rfl, L1, A1⟩, g1⟩
      obtain ⟨w2, hw2, hb2, h2⟩ := enter1 t1 (.cells #[.bool b, .slice a1 X.length c1, .int .i64 ex] 33)
      have HG2 := hide (bl_trans8 (bl_trans8 HB.out g1) hb2)
      have HLE := hide L1
      have HW1 := hide (block_upW g1 HW0.out)
      have HA1 := hide (A1.below hb2)
      have HT2 := hide hb2
      have HB2 := hide h2
      obtain ⟨k0, k1, k2⟩ := tri8 (block_upW (bl_trans8 g1 hb2) HW0.out)
      clear g1 hb2 h2 L1 A1 HLN
      have HOO := HOF.out w2 HG2.out
      clear HOF
      go_wp2_with fail
      refine HOO.mono ?_
      rintro e t3 ⟨⟨b3, a3, n3, c3, rfl, D3⟩, g3⟩
      obtain ⟨w4, hw4, hb4, h4⟩ := enter1 t3 (.cells #[.bool b3, .slice a3 n3 c3, .int .i64 E] 47)
      have g4 := bl_trans8 g3 hb4
      have HG4 := hide (bl_trans8 HG2.out g4)
      have HT4 := hide (bl_trans8 HT2.out g4)
      have HD4 := hide (D3.below hb4)
      have HV4 := hide h4
      obtain ⟨l0, l1, l2⟩ := tri8 (block_upW g4 HB2.out)
      have HSW := hide HG4.out.size
      have HST := hide HT4.out.size
      have HRR := HRA.out w4 a1 c1 (HA1.out.below g4) (HT.out.below HG4.out) hfp'
      clear g3 hb4 h4 D3 g4 HOO
      go_wp2_with fail
      refine HRR.mono ?_
      rintro e t5 ⟨he5, g5⟩
      obtain ⟨b5, a5, n5, c5, e5, rfl, heq⟩ : ∃ b5 a5 n5 c5 e5, e = .returned (.tuple #[.agg #[.bool b5, .slice a5 n5 c5, .int .i64 e5], .int .i64 1]) ∧ (b5 = false ∧ a5 = none ∧ n5 = 0 ∧ c5 = 0 ∧ e5 = 0) := ⟨_, _, _, _, _, he5, rfl, rfl, rfl, rfl, rfl⟩
      have HEQ := hide heq
      clear he5 heq
      have HAN0 : Hid (Ans t5 w4.heap.size (.slice a5 n5 c5) []) := hide (by obtain ⟨_, q2, q3, q4, _⟩ := HEQ.out; rw [q2, q3, q4]; exact Ans.nil _ _)
      obtain ⟨rs, hrs⟩ : ∃ rs : List Nat, rs = [] := ⟨_, rfl⟩
      rw [← hrs] at HAN0
      have hrl : rs.length ≤ 1048576 := by rw [hrs]; simp
      clear hrs
      obtain ⟨w6, hw6, hb6, h6⟩ := enter1 t5 (.cells #[.bool b5, .slice a5 n5 c5, .int .i64 e5] 33)
      obtain ⟨w7, w8, hw7, hw8, h7, h8, hb8⟩ := zero_box8 w6 47
      have hf7 := tri8f h7
      obtain ⟨z0, z1, z2⟩ := tri8 h7
      obtain ⟨y0, y1, y2⟩ := tri8 h8
      have g8 := bl_trans8 (bl_trans8 g5 hb6) hb8
      have HBP := hide (block_upW hb8 h6)
      obtain ⟨x0, x1, x2⟩ := tri8 HBP.out
      have HG8 := hide (bl_trans8 HG4.out g8)
      have HT8 := hide (HT4.out.trans (g8.mono HT4.out.size))
      have HS8 := hide (show w4.heap.size ≤ w8.heap.size from g8.size)
      have HAN := hide ((HAN0.out.below hb6).below hb8)
      clear g5 hb6 h6 h7 h8 hb8 g8 HRR HAN0
      have HF := HFU.out w8
      rw [hfp'] at HF
      go_wp2_with fail
      refine HF.mono ?_
      rintro e wn ⟨rfl, hw⟩; rw [hw]; clear hw wn HF
      have HAL : Calls Tryd.prog 20 #[.agg #[.bool b5, .slice a5 n5 c5, .int .i64 e5], .int .i64 1, .agg #[.bool false, .slice none 0 0, .int .i64 0], .int .i64 1] w8 (fun e w' => e = .returned (.bool true) ∧ Below w8.heap.size w8 w') := by
        obtain ⟨q1, q2, q3, q4, q5⟩ := HEQ.out
        rw [q1, q2, q3, q4, q5]
        exact alike8_bad 1 false none 0 0 0 w8 (by decide)
      go_wp2_with fail
      refine HAL.mono ?_
      rintro e t9 ⟨rfl, g9⟩
      have HG9 := hide (bl_trans8 HG8.out g9)
      have HT9 := hide (HT8.out.trans (g9.mono HT8.out.size))
      have hans9 := (HAN.out.below g9)
      have HOW := own_aparts w4.heap.size [.slice a5 n5 c5] [rs] t9 (Chain.one hans9 (Nat.le_trans HS8.out g9.size)).aparts (by simp) (by simp; omega) (Nat.le_trans HS8.out g9.size)
      obtain ⟨o0, o1, o2⟩ := tri8 (block_upW g9 HBP.out)
      have HP9 := hide (block_upW g9 HBP.out)
      clear g9 hans9 HAL
      go_wp2_with fail
      refine HOW.mono ?_
      rintro e t10 ⟨rfl, hk⟩
      have G10 : Below w.heap.size w t10 := HG9.out.trans (hk.below.mono HSW.out)
      have GT10 : Below t1.heap.size t1 t10 := HT9.out.trans (hk.below.mono HST.out)
      have HKE := kept_ok (.slice aw mw nw) (.slice a X.length c) X t10 (HLE.out.below GT10) (HA.out.below G10) (by omega)
      obtain ⟨k0, k1, k2⟩ := tri8 (show t10.heap[w.heap.size]? = some (.cells #[.bool b, .slice a X.length c, .int .i64 ex] 27) from hk.box _ _ _ (by decide) (by decide) (block_upW HT9.out HW1.out))
      have HAW := awake8_any t10 (HT.out.below G10)
      have HG10 := hide G10
      clear hk HOW GT10 G10
      go_wp2_with fail
      refine HKE.mono ?_
      rintro e wn ⟨rfl, hw⟩; rw [hw]; clear hw wn HKE
      go_wp2_with fail
      refine HAW.mono ?_
      rintro e wz ⟨rfl, hbz⟩
      have HZ := hide (bl_trans8 HG10.out hbz)
      clear hbz HAW
      go_wp2
      go_ret
      exact ⟨rfl, HZ.out⟩
  · have hfe' : fitE ex = false := by simpa using hfe
    have HOF := hide (fun (W : World) (_ : Below w.heap.size w W) => of8_no b a X.length c ex W hfe')
    clear h0 hb0 hT hA hfe
    go_enter Tryd.func6, Tryd.ntmps6
    go_wp2_with fail
    refine HLN.mono ?_
    rintro e t1 ⟨⟨aw, mw, nw, a1, c1, rfl, L1, A1⟩, g1⟩
    obtain ⟨w2, hw2, hb2, h2⟩ := enter1 t1 (.cells #[.bool b, .slice a1 X.length c1, .int .i64 ex] 33)
    have HG2 := hide (bl_trans8 (bl_trans8 HB.out g1) hb2)
    have HLE := hide L1
    have HW1 := hide (block_upW g1 HW0.out)
    have HA1 := hide (A1.below hb2)
    have HT2 := hide hb2
    have HB2 := hide h2
    obtain ⟨k0, k1, k2⟩ := tri8 (block_upW (bl_trans8 g1 hb2) HW0.out)
    clear g1 hb2 h2 L1 A1 HLN
    have HOO := HOF.out w2 HG2.out
    clear HOF
    go_wp2_with fail
    refine HOO.mono ?_
    rintro e t3 ⟨he3, g3⟩
    obtain ⟨b3, a3, n3, c3, E3, rfl⟩ : ∃ b3 a3 n3 c3 E3, e = .returned (.tuple #[.agg #[.bool b3, .slice a3 n3 c3, .int .i64 E3], .bool false]) := ⟨_, _, _, _, _, he3⟩
    obtain ⟨w4, hw4, hb4, h4⟩ := enter1 t3 (.cells #[.bool b3, .slice a3 n3 c3, .int .i64 E3] 47)
    have g4 := bl_trans8 g3 hb4
    have HG4 := hide (bl_trans8 HG2.out g4)
    have HT4 := hide (bl_trans8 HT2.out g4)
    have HV4 := hide h4
    obtain ⟨l0, l1, l2⟩ := tri8 (block_upW g4 HB2.out)
    have HSW := hide HG4.out.size
    have HST := hide HT4.out.size
    have HRR := yround_no b a1 X.length c1 ex pos m w4 hfe'
    clear g3 hb4 h4 g4 HOO he3
    go_wp2_with fail
    refine HRR.mono ?_
    rintro e t5 ⟨he5, g5⟩
    obtain ⟨b5, a5, n5, c5, e5, rfl, heq⟩ : ∃ b5 a5 n5 c5 e5, e = .returned (.tuple #[.agg #[.bool b5, .slice a5 n5 c5, .int .i64 e5], .int .i64 80]) ∧ (b5 = false ∧ a5 = none ∧ n5 = 0 ∧ c5 = 0 ∧ e5 = 0) := ⟨_, _, _, _, _, he5, rfl, rfl, rfl, rfl, rfl⟩
    have HEQ := hide heq
    clear he5 heq
    have HAN0 : Hid (Ans t5 w4.heap.size (.slice a5 n5 c5) []) := hide (by obtain ⟨_, q2, q3, q4, _⟩ := HEQ.out; rw [q2, q3, q4]; exact Ans.nil _ _)
    obtain ⟨rs, hrs⟩ : ∃ rs : List Nat, rs = [] := ⟨_, rfl⟩
    rw [← hrs] at HAN0
    have hrl : rs.length ≤ 1048576 := by rw [hrs]; simp
    clear hrs
    obtain ⟨w6, hw6, hb6, h6⟩ := enter1 t5 (.cells #[.bool b5, .slice a5 n5 c5, .int .i64 e5] 33)
    obtain ⟨w7, w8, hw7, hw8, h7, h8, hb8⟩ := zero_box8 w6 47
    have hf7 := tri8f h7
    obtain ⟨z0, z1, z2⟩ := tri8 h7
    obtain ⟨y0, y1, y2⟩ := tri8 h8
    have g8 := bl_trans8 (bl_trans8 g5 hb6) hb8
    have HBP := hide (block_upW hb8 h6)
    obtain ⟨x0, x1, x2⟩ := tri8 HBP.out
    have HG8 := hide (bl_trans8 HG4.out g8)
    have HT8 := hide (HT4.out.trans (g8.mono HT4.out.size))
    have HS8 := hide (show w4.heap.size ≤ w8.heap.size from g8.size)
    have HAN := hide ((HAN0.out.below hb6).below hb8)
    clear g5 hb6 h6 h7 h8 hb8 g8 HRR HAN0
    have HAL : Calls Tryd.prog 20 #[.agg #[.bool b5, .slice a5 n5 c5, .int .i64 e5], .int .i64 80, .agg #[.bool false, .slice none 0 0, .int .i64 0], .int .i64 80] w8 (fun e w' => e = .returned (.bool true) ∧ Below w8.heap.size w8 w') := by
      obtain ⟨q1, q2, q3, q4, q5⟩ := HEQ.out
      rw [q1, q2, q3, q4, q5]
      exact alike8_bad 80 false none 0 0 0 w8 (by decide)
    go_wp2_with fail
    refine HAL.mono ?_
    rintro e t9 ⟨rfl, g9⟩
    have HG9 := hide (bl_trans8 HG8.out g9)
    have HT9 := hide (HT8.out.trans (g9.mono HT8.out.size))
    have hans9 := (HAN.out.below g9)
    have HOW := own_aparts w4.heap.size [.slice a5 n5 c5] [rs] t9 (Chain.one hans9 (Nat.le_trans HS8.out g9.size)).aparts (by simp) (by simp; omega) (Nat.le_trans HS8.out g9.size)
    obtain ⟨o0, o1, o2⟩ := tri8 (block_upW g9 HBP.out)
    have HP9 := hide (block_upW g9 HBP.out)
    clear g9 hans9 HAL
    go_wp2_with fail
    refine HOW.mono ?_
    rintro e t10 ⟨rfl, hk⟩
    have G10 : Below w.heap.size w t10 := HG9.out.trans (hk.below.mono HSW.out)
    have GT10 : Below t1.heap.size t1 t10 := HT9.out.trans (hk.below.mono HST.out)
    have HKE := kept_ok (.slice aw mw nw) (.slice a X.length c) X t10 (HLE.out.below GT10) (HA.out.below G10) (by omega)
    obtain ⟨k0, k1, k2⟩ := tri8 (show t10.heap[w.heap.size]? = some (.cells #[.bool b, .slice a X.length c, .int .i64 ex] 27) from hk.box _ _ _ (by decide) (by decide) (block_upW HT9.out HW1.out))
    have HAW := awake8_any t10 (HT.out.below G10)
    have HG10 := hide G10
    clear hk HOW GT10 G10
    go_wp2_with fail
    refine HKE.mono ?_
    rintro e wn ⟨rfl, hw⟩; rw [hw]; clear hw wn HKE
    go_wp2_with fail
    refine HAW.mono ?_
    rintro e wz ⟨rfl, hbz⟩
    have HZ := hide (bl_trans8 HG10.out hbz)
    clear hbz HAW
    go_wp2
    go_ret
    exact ⟨rfl, HZ.out⟩

end Go.Proofs.YtlengglmnbpkbaaDoor
