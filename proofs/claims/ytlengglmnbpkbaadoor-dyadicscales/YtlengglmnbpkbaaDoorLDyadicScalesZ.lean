/- The walk of the law DyadicScales. -/
import Derived.Test.YtlengglmnbpkbaaDoorDyJZ
namespace Go.Proofs.YtlengglmnbpkbaaDoor
open Go.RowKit
open Lm
attribute [local go_sem ↓] Go.wp_at_zero Go.wp_at_succ

theorem scale_twice (z ex j k : Int) : omz (omz z) = omz z ∧ oe (omz z) (oe z (ex + j) + k) = oe z (ex + (j + k)) := by
  refine ⟨(omz_twice z 0).1, ?_⟩
  rw [(omz_twice z _).2]
  unfold oe
  by_cases h : z = 0
  · rw [if_pos h, if_pos h]
  · rw [if_neg h, if_neg h, if_neg h]; omega

set_option maxRecDepth 20000 in
set_option maxHeartbeats 4000000 in
theorem dyadicScales_walk (b : Bool) (u : Value) (X : List Nat) (ex j k : Int) (w : World) (hT : Tab w) (hA : Arg w u X) (hf : X.length ≤ 17592186043904) (_ : -9223372036854775808 ≤ ex) (_ : ex ≤ 9223372036854775807) (hj1 : -9223372036854775808 ≤ j) (hj2 : j ≤ 9223372036854775807) (hk1 : -9223372036854775808 ≤ k) (hk2 : k ≤ 9223372036854775807) :
    Calls Tryd.prog 4 #[.agg #[.bool b, u, .int .i64 ex], .int .i64 j, .int .i64 k] w fun e w' => e = .returned (.bool true) ∧ Below w.heap.size w w' := by
  obtain ⟨a, c, rfl, _, _, _⟩ := hA.form
  obtain ⟨w0, hw0, hb0, h0⟩ := enter1 w (.cells #[.bool b, .slice a X.length c, .int .i64 ex] 27)
  obtain ⟨k0, k1, k2⟩ := tri8 h0
  have HFJ := fit8_any j w0
  have HFK := fit8_any k w0
  have HFS := fit8_any (j + k) w0
  by_cases hfj : fitE j = true
  · by_cases hfk : fitE k = true
    · have hj := (fitE_iff j).1 hfj
      have hk := (fitE_iff k).1 hfk
      have wjk : IntKind.i64.wrap (j + k) = j + k := by rw [IntKind.wrap_i64]; omega
      rw [hfj] at HFJ
      rw [hfk] at HFK
      by_cases hfs : fitE (j + k) = true
      · rw [hfs] at HFS
        have HIN := in8_any b a X.length c ex w0
        have H0 := hide h0
        have HB := hide hb0
        have HT := hide hT
        have HA := hide hA
        by_cases hfe : fitE ex = true
        · -- all that is handed in means something
          obtain ⟨sM, sE⟩ := scale_twice (zz b (val X)) ex j k
          have HSC1 := hide (fun (W : World) (hg : Below w.heap.size w W) => yscale_ok b a c X ex j W (HA.out.below hg) (HT.out.below hg) (by omega) hfe hfj)
          have HSC3 := hide (fun (W : World) (hg : Below w.heap.size w W) => yscale_ok b a c X ex (j + k) W (HA.out.below hg) (HT.out.below hg) (by omega) hfe hfs)
          have HEQ := hide (And.intro sM sE)
          clear h0 hb0 hT hA sM sE
          generalize oe (zz b (val X)) (ex + (j + k)) = E2 at *
          generalize oe (zz b (val X)) (ex + j) = E1 at *
          generalize omz (zz b (val X)) = M at *
          generalize hs : j + k = s at *
          have hs2 : j + k = s := hs
          clear hs
          go_enter Tryd.func4, Tryd.ntmps4
          go_wp2_with fail
          refine HFJ.mono ?_
          rintro e wn ⟨rfl, hw⟩; rw [hw]; clear hw wn HFJ
          go_wp2_with fail
          refine HFK.mono ?_
          rintro e wn ⟨rfl, hw⟩; rw [hw]; clear hw wn HFK
          go_wp2_with fail
          refine HFS.mono ?_
          rintro e wn ⟨rfl, hw⟩; rw [hw]; clear hw wn HFS
          go_wp2_with fail
          refine HIN.mono ?_
          rintro e t1 ⟨rfl, g1⟩
          have HS1 := HSC1.out t1 (bl_trans8 HB.out g1)
          have HG1 := hide (bl_trans8 HB.out g1)
          have HC1 := hide (block_upW g1 H0.out)
          clear g1 HIN HSC1 H0 HB
          go_wp2_with fail
          refine HS1.mono ?_
          rintro e t2 ⟨⟨b2, a2, n2, c2, e2, r2, rfl, D2⟩, g2⟩
          obtain ⟨w3, hw3, hb3, h3⟩ := enter1 t2 (.cells #[.bool b2, .slice a2 n2 c2, .int .i64 e2] 33)
          have HN := num8_any r2 w3
          have HG := hide (bl_trans8 (bl_trans8 HG1.out g2) hb3)
          have HC := hide (block_upW hb3 (block_upW g2 HC1.out))
          have HAW := awake8_any w3 (HT.out.below HG.out)
          have D3 := D2.below hb3
          obtain ⟨l0, l1, l2⟩ := tri8 h3
          obtain ⟨k0, k1, k2⟩ := tri8 HC.out
          have HH3 := hide h3
          clear g2 hb3 h3 D2 HS1 HC1 HG1
          go_wp2_with fail
          refine HN.mono ?_
          rintro e wn ⟨rfl, hw⟩; rw [hw]; clear hw wn HN
          by_cases hr : r2 = 0
          · subst hr
            obtain ⟨rs, A3, hcase⟩ := D3
            rcases hcase with ⟨_, q2, q3, q4, q5, q6, q7⟩ | ⟨q1, _⟩ | ⟨q1, _⟩
            · subst q5
              have hn2 : n2 = rs.length := by obtain ⟨aa, cc, ee⟩ := A3.shape; cases ee; rfl
              subst hn2
              have hl3 : rs.length ≤ 1048576 := few_ofW q4 q3 (by omega)
              have hzz : zz b2 (val rs) = M := by rw [q3, q2, zz_self]
              have HS2 := yscale_ok b2 a2 c2 rs e2 k w3 (A3.arg (by omega)) (HT.out.below HG.out) (by omega) q7 hfk
              rw [hzz, HEQ.out.1, HEQ.out.2] at HS2
              clear A3 q2 q3 q4 q6 q7 hzz HAW
              go_wp2_with fail
              refine HS2.mono ?_
              rintro e t4 ⟨⟨b4, a4, n4, c4, e4, r4, rfl, D4⟩, g4⟩
              obtain ⟨w5, hw5, hb5, h5⟩ := enter1 t4 (.cells #[.bool b4, .slice a4 n4 c4, .int .i64 e4] 33)
              have HG5 := hide (bl_trans8 (bl_trans8 HG.out g4) hb5)
              have HC5 := hide (block_upW hb5 (block_upW g4 HC.out))
              have HD5 := hide (D4.below hb5)
              have HH5 := hide h5
              obtain ⟨k0, k1, k2⟩ := tri8 HC5.out
              have HIN := in8_any b a X.length c ex w5
              clear g4 hb5 h5 D4 HS2 HC HG
              go_wp2_with fail
              refine HIN.mono ?_
              rintro e t6 ⟨rfl, g6⟩
              have HS3 := HSC3.out t6 (bl_trans8 HG5.out g6)
              have HG6 := hide (bl_trans8 HG5.out g6)
              have HH6 := hide (block_upW g6 HH5.out)
              have HD6 := hide (HD5.out.below g6)
              clear g6 HIN HSC3 HC5 HG5 HD5 HH5
              go_wp2_with fail
              refine HS3.mono ?_
              rintro e t7 ⟨⟨b7, a7, n7, c7, e7, r7, rfl, D7⟩, g7⟩
              obtain ⟨w8, hw8, hb8, h8⟩ := enter1 t7 (.cells #[.bool b7, .slice a7 n7 c7, .int .i64 e7] 33)
              have HG := hide (bl_trans8 (bl_trans8 HG6.out g7) hb8)
              obtain ⟨x1, x2, x3, XX, YY, y1, y2, y3, y4, y5, y6, y7, y8⟩ := ((HD6.out.below g7).below hb8).alike8 (D7.below hb8)
              subst x1 x2 x3 y1 y2
              have HSM := same8_any b4 e4 a4 c4 XX a7 c7 YY w8 y3 y4 y5 y6 y7 y8
              obtain ⟨m0, m1, m2⟩ := tri8 (block_upW hb8 (block_upW g7 HH6.out))
              obtain ⟨o0, o1, o2⟩ := tri8 h8
              have HN := num8_any r4 w8
              have hee : ((r4 : Int) == r4) = true := by simp
              clear g7 hb8 h8 D7 HD6 HH6 HS3 y3 y4 y5 y6 y7 y8 HG6
              go_wp2_with fail
              refine HN.mono ?_
              rintro e wn ⟨rfl, hw⟩; rw [hw]; clear hw wn
              go_wp2_with fail
              refine HN.mono ?_
              rintro e wn ⟨rfl, hw⟩; rw [hw]; clear hw wn HN
              go_wp2_with fail
              refine HSM.mono ?_
              rintro e t9 ⟨rfl, g9⟩
              have HG := hide (bl_trans8 HG.out g9)
              have HAW := awake8_any t9 (HT.out.below HG.out)
              clear g9 HSM
              go_wp2_with fail
              refine HAW.mono ?_
              rintro e wz ⟨rfl, hbz⟩
              have HZ := hide (bl_trans8 HG.out hbz)
              clear hbz HAW
              go_wp2
              go_ret
              exact ⟨rfl, HZ.out⟩
            · omega
            · omega
          · have hr2 : ((r2 : Int) == 0) = false := by rw [beq_eq_false_iff_ne]; exact hr
            have hr3 : ((r2 : Int) != 0) = true := by rw [bne, hr2]; rfl
            clear D3
            go_wp2_with fail
            refine HAW.mono ?_
            rintro e wz ⟨rfl, hbz⟩
            have HZ := hide (bl_trans8 HG.out hbz)
            clear hbz HAW
            go_wp2
            go_ret
            exact ⟨rfl, HZ.out⟩
        · have hfe2 : fitE ex = false := by simpa using hfe
          have HS1 := hide (fun (W : World) => yscale_no b a X.length c ex j W hfe2)
          clear h0 hb0 hT hA hfe hfe2
          go_enter Tryd.func4, Tryd.ntmps4
          go_wp2_with fail
          refine HFJ.mono ?_
          rintro e wn ⟨rfl, hw⟩; rw [hw]; clear hw wn HFJ
          go_wp2_with fail
          refine HFK.mono ?_
          rintro e wn ⟨rfl, hw⟩; rw [hw]; clear hw wn HFK
          go_wp2_with fail
          refine HFS.mono ?_
          rintro e wn ⟨rfl, hw⟩; rw [hw]; clear hw wn HFS
          go_wp2_with fail
          refine HIN.mono ?_
          rintro e t1 ⟨rfl, g1⟩
          have HG1 := hide (bl_trans8 HB.out g1)
          have HS1 := HS1.out t1
          clear g1 HIN
          go_wp2_with fail
          refine HS1.mono ?_
          rintro e t2 ⟨he, g2⟩
          obtain ⟨fb, fa, fn, fc, fe, rfl⟩ : ∃ fb fa fn fc fe, e = .returned (.tuple #[.agg #[.bool fb, .slice fa fn fc, .int .i64 fe], .int .i64 80]) := ⟨_, _, _, _, _, he⟩
          obtain ⟨w3, hw3, hb3, h3⟩ := enter1 t2 (.cells #[.bool fb, .slice fa fn fc, .int .i64 fe] 33)
          have HN := num8_any 80 w3
          have HG := hide (bl_trans8 (bl_trans8 HG1.out g2) hb3)
          have HAW := awake8_any w3 (HT.out.below HG.out)
          clear g2 hb3 h3 he HS1 HG1
          go_wp2_with fail
          refine HN.mono ?_
          rintro e wn ⟨rfl, hw⟩; rw [hw]; clear hw wn HN
          go_wp2_with fail
          refine HAW.mono ?_
          rintro e wz ⟨rfl, hbz⟩
          have HZ := hide (bl_trans8 HG.out hbz)
          clear hbz HAW
          go_wp2
          go_ret
          exact ⟨rfl, HZ.out⟩
      · have hfs2 : fitE (j + k) = false := by simpa using hfs
        rw [hfs2] at HFS
        have HAW := awake8_any w0 (hT.below hb0)
        have HG := hide hb0
        clear h0 hb0 hT hA hfs hfs2
        generalize hs : j + k = s at *
        have hs2 : j + k = s := hs
        clear hs
        go_enter Tryd.func4, Tryd.ntmps4
        go_wp2_with fail
        refine HFJ.mono ?_
        rintro e wn ⟨rfl, hw⟩; rw [hw]; clear hw wn HFJ
        go_wp2_with fail
        refine HFK.mono ?_
        rintro e wn ⟨rfl, hw⟩; rw [hw]; clear hw wn HFK
        go_wp2_with fail
        refine HFS.mono ?_
        rintro e wn ⟨rfl, hw⟩; rw [hw]; clear hw wn HFS
        go_wp2_with fail
        refine HAW.mono ?_
        rintro e wz ⟨rfl, hbz⟩
        have HZ := hide (bl_trans8 HG.out hbz)
        clear hbz HAW
        go_wp2
        go_ret
        exact ⟨rfl, HZ.out⟩
    · have hfk2 : fitE k = false := by simpa using hfk
      rw [hfj] at HFJ
      rw [hfk2] at HFK
      have HAW := awake8_any w0 (hT.below hb0)
      have HG := hide hb0
      clear h0 hb0 hT hA hfk hfk2 HFS
      go_enter Tryd.func4, Tryd.ntmps4
      go_wp2_with fail
      refine HFJ.mono ?_
      rintro e wn ⟨rfl, hw⟩; rw [hw]; clear hw wn HFJ
      go_wp2_with fail
      refine HFK.mono ?_
      rintro e wn ⟨rfl, hw⟩; rw [hw]; clear hw wn HFK
      go_wp2_with fail
      refine HAW.mono ?_
      rintro e wz ⟨rfl, hbz⟩
      have HZ := hide (bl_trans8 HG.out hbz)
      clear hbz HAW
      go_wp2
      go_ret
      exact ⟨rfl, HZ.out⟩
  · have hfj2 : fitE j = false := by simpa using hfj
    rw [hfj2] at HFJ
    have HAW := awake8_any w0 (hT.below hb0)
    have HG := hide hb0
    clear h0 hb0 hT hA hfj hfj2 HFS HFK
    go_enter Tryd.func4, Tryd.ntmps4
    go_wp2_with fail
    refine HFJ.mono ?_
    rintro e wn ⟨rfl, hw⟩; rw [hw]; clear hw wn HFJ
    go_wp2_with fail
    refine HAW.mono ?_
    rintro e wz ⟨rfl, hbz⟩
    have HZ := hide (bl_trans8 HG.out hbz)
    clear hbz HAW
    go_wp2
    go_ret
    exact ⟨rfl, HZ.out⟩

end Go.Proofs.YtlengglmnbpkbaaDoor
