/- The walk of the law WholeMakes, where the number is an int. -/
import Derived.Test.YtkcncdcjlhiimaaGreatDoorLWMaZ
namespace Go.Proofs.YtkcncdcjlhiimaaGreatDoor
open Go.RowKit
open Lm
attribute [local go_sem ↓] Go.wp_at_zero Go.wp_at_succ

set_option maxRecDepth 20000 in
set_option maxHeartbeats 8000000 in
theorem wholeMakes_yes (b0 : Bool) (v0 : Value) (z0 : List Nat) (b1 : Bool) (v1 : Value) (z1 : List Nat) (n : Int) (w : World) (hT : Tab w) (A0 : Arg w v0 z0) (s0 : z0.length ≤ 17592186043904) (A1 : Arg w v1 z1) (s1 : z1.length ≤ 17592186043904) (hn1 : -9223372036854775808 ≤ n) (hn2 : n ≤ 9223372036854775807) (hwhich : FitsInt (zz b0 (val z0))) :
    Calls Tryz.prog 3 #[.agg #[.bool b0, v0], .agg #[.bool b1, v1], .int .i64 n] w fun e w' => e = .returned (.bool true) ∧ Below w.heap.size w w' := by
  obtain ⟨a0, n0, rfl, _, _, _⟩ := A0.form
  obtain ⟨a1, n1, rfl, _, _, _⟩ := A1.form
  obtain ⟨w0, hw0, hb0, h0, h1⟩ := enter2 w (.cells #[.bool b0, .slice a0 z0.length n0] 24) (.cells #[.bool b1, .slice a1 z1.length n1] 24)
  have HA := hide h0
  have HBb := hide h1
  have HA0 := hide (A0.below hb0)
  have HA1 := hide (A1.below hb0)
  have HT := hide (hT.below hb0)
  have HW := hide hb0
  have hbl0 := blen_val_le z0 A0.limbs
  clear A0 A1 hT hb0 h0 h1
  obtain ⟨ca0, cb0⟩ := duo HA.out
  go_enter Tryz.func3, Tryz.ntmps3
  have C1 := wlent_any b0 _ z0 w0 HA0.out (by omega)
  go_wp2_with fail
  refine C1.mono ?_
  rintro e w1 ⟨⟨aw, mw, nw, ax, mx, nx, rfl, hL, hP⟩, hb⟩
  clear ca0 cb0
  replace HA := hide (block_upW hb HA.out)
  replace HBb := hide (block_upW hb HBb.out)
  replace HA0 := hide (HA0.out.below hb)
  replace HA1 := hide (HA1.out.below hb)
  replace HT := hide (HT.out.below hb)
  replace HW := hid_below HW hb
  have HLa := hide hL
  have HPx := hide hP
  clear hb hL hP C1 hw0
  obtain ⟨u1, hu1, hbu1, hxu1⟩ := enter1 w1 (.cells #[.bool b0, .slice ax mx nx] 27)
  replace HA := hide (block_upW hbu1 HA.out)
  replace HBb := hide (block_upW hbu1 HBb.out)
  replace HA0 := hide (HA0.out.below hbu1)
  replace HA1 := hide (HA1.out.below hbu1)
  replace HT := hide (HT.out.below hbu1)
  replace HLa := hide (HLa.out.below hbu1)
  replace HPx := hide (HPx.out.below hbu1)
  replace HW := hid_below HW hbu1
  have HX := hide hxu1
  clear hbu1 hxu1
  obtain ⟨ca1, cb1⟩ := duo HBb.out
  have C2 := wlent_any b1 _ z1 u1 HA1.out (by omega)
  go_wp2_with fail
  refine C2.mono ?_
  rintro e w2 ⟨⟨bw, mv, nv, ay, my, ny, rfl, hL, hP⟩, hb⟩
  clear ca1 cb1
  replace HA := hide (block_upW hb HA.out)
  replace HBb := hide (block_upW hb HBb.out)
  replace HA0 := hide (HA0.out.below hb)
  replace HA1 := hide (HA1.out.below hb)
  replace HT := hide (HT.out.below hb)
  replace HLa := hide (HLa.out.below hb)
  replace HPx := hide (HPx.out.below hb)
  replace HX := hide (block_upW hb HX.out)
  replace HW := hid_below HW hb
  have HLb := hide hL
  have HPy := hide hP
  clear hb hL hP C2
  obtain ⟨u2, hu2, hbu2, hxu2⟩ := enter1 w2 (.cells #[.bool b1, .slice ay my ny] 27)
  replace HA := hide (block_upW hbu2 HA.out)
  replace HBb := hide (block_upW hbu2 HBb.out)
  replace HA0 := hide (HA0.out.below hbu2)
  replace HA1 := hide (HA1.out.below hbu2)
  replace HT := hide (HT.out.below hbu2)
  replace HLa := hide (HLa.out.below hbu2)
  replace HPx := hide (HPx.out.below hbu2)
  replace HX := hide (block_upW hbu2 HX.out)
  replace HLb := hide (HLb.out.below hbu2)
  replace HPy := hide (HPy.out.below hbu2)
  replace HW := hid_below HW hbu2
  have HY := hide hxu2
  clear hbu2 hxu2
  clear hu1
  obtain ⟨ca2, cb2⟩ := duo HA.out
  have C3 := wlawOf_any b0 _ z0 u2 HA0.out (by omega)
  go_wp2_with fail
  refine C3.mono ?_
  rintro e w3 ⟨⟨bv, av, lv, kv, rfl, hz⟩, hb⟩
  clear ca2 cb2
  replace HA := hide (block_upW hb HA.out)
  replace HBb := hide (block_upW hb HBb.out)
  replace HA0 := hide (HA0.out.below hb)
  replace HA1 := hide (HA1.out.below hb)
  replace HT := hide (HT.out.below hb)
  replace HLa := hide (HLa.out.below hb)
  replace HPx := hide (HPx.out.below hb)
  replace HX := hide (block_upW hb HX.out)
  replace HLb := hide (HLb.out.below hb)
  replace HPy := hide (HPy.out.below hb)
  replace HY := hide (block_upW hb HY.out)
  replace HW := hid_below HW hb
  have HZ := hide hz
  clear hb hz C3 hu2
  obtain ⟨u3, hu3, hbu3, hxu3⟩ := enter1 w3 (.cells #[.bool bv, .slice av lv kv] 32)
  replace HA := hide (block_upW hbu3 HA.out)
  replace HBb := hide (block_upW hbu3 HBb.out)
  replace HA0 := hide (HA0.out.below hbu3)
  replace HA1 := hide (HA1.out.below hbu3)
  replace HT := hide (HT.out.below hbu3)
  replace HLa := hide (HLa.out.below hbu3)
  replace HPx := hide (HPx.out.below hbu3)
  replace HX := hide (block_upW hbu3 HX.out)
  replace HLb := hide (HLb.out.below hbu3)
  replace HPy := hide (HPy.out.below hbu3)
  replace HY := hide (block_upW hbu3 HY.out)
  replace HZ := hide (HZ.out.below hbu3)
  replace HW := hid_below HW hbu3
  have HV := hide hxu3
  clear hbu3 hxu3
  have HBB : Hid (Below u3.heap.size u3 u3) := hide (Below.refl _ _)
  have HLaB := HLa
  have HLbB := HLb
  have HA0B := HA0
  have HA1B := HA1
  have HWB := HW
  have HTB := HT
  have HWH := hide hwhich
  clear hwhich
  generalize hzA : zz b0 (val z0) = zA at *
  generalize hzB : zz b1 (val z1) = zB at *
  obtain ⟨ca3, cb3⟩ := duo HX.out
  have C4 := wint_any b0 _ z0 u3 HPx.out
  go_wp2_with fail
  refine C4.mono ?_
  rintro e w4 ⟨⟨i4, c4, rfl, hi4⟩, hb⟩
  clear ca3 cb3
  replace HA := hide (block_upW hb HA.out)
  replace HBb := hide (block_upW hb HBb.out)
  replace HA0 := hide (HA0.out.below hb)
  replace HA1 := hide (HA1.out.below hb)
  replace HT := hide (HT.out.below hb)
  replace HLa := hide (HLa.out.below hb)
  replace HPx := hide (HPx.out.below hb)
  replace HX := hide (block_upW hb HX.out)
  replace HLb := hide (HLb.out.below hb)
  replace HPy := hide (HPy.out.below hb)
  replace HY := hide (block_upW hb HY.out)
  replace HZ := hide (HZ.out.below hb)
  replace HV := hide (block_upW hb HV.out)
  replace HW := hid_below HW hb
  replace HBB := hid_below HBB hb
  rw [hzA] at hi4
  have HI4 := hide hi4
  clear hb hi4 C4 hu3
  obtain ⟨ca4, cb4⟩ := duo HA.out
  obtain ⟨ca5, cb5⟩ := duo HX.out
  have C5 := wmake_any b0 _ z0 w4 HPx.out (by omega)
  go_wp2_with fail
  refine C5.mono ?_
  rintro e w5 ⟨⟨bp, ap, lp, kp, cp, rfl, hzr⟩, hb⟩
  clear ca4 cb4 ca5 cb5
  rw [hzA] at hzr
  obtain ⟨rp, hAp, hcp⟩ := hzr
  have hlp := ZR.few hcp
  have Ch : Chain w5 u3.heap.size [.slice ap lp kp] [rp] := Chain.one (hAp.base HBB.out.size) (Nat.le_trans HBB.out.size hb.size)
  replace HA := hide (block_upW hb HA.out)
  replace HBb := hide (block_upW hb HBb.out)
  replace HA0 := hide (HA0.out.below hb)
  replace HA1 := hide (HA1.out.below hb)
  replace HT := hide (HT.out.below hb)
  replace HLa := hide (HLa.out.below hb)
  replace HPx := hide (HPx.out.below hb)
  replace HX := hide (block_upW hb HX.out)
  replace HLb := hide (HLb.out.below hb)
  replace HPy := hide (HPy.out.below hb)
  replace HY := hide (block_upW hb HY.out)
  replace HZ := hide (HZ.out.below hb)
  replace HV := hide (block_upW hb HV.out)
  replace HW := hid_below HW hb
  replace HBB := hid_below HBB hb
  have HP := hide (show ZR w5 w4.heap.size bp (.slice ap lp kp) cp zA from ⟨rp, hAp, hcp⟩)
  clear hb hAp hcp C5
  obtain ⟨u5, hu5, hbu5, hxu5⟩ := enter1 w5 (.cells #[.bool bp, .slice ap lp kp] 27)
  replace HA := hide (block_upW hbu5 HA.out)
  replace HBb := hide (block_upW hbu5 HBb.out)
  replace HA0 := hide (HA0.out.below hbu5)
  replace HA1 := hide (HA1.out.below hbu5)
  replace HT := hide (HT.out.below hbu5)
  replace HLa := hide (HLa.out.below hbu5)
  replace HPx := hide (HPx.out.below hbu5)
  replace HX := hide (block_upW hbu5 HX.out)
  replace HLb := hide (HLb.out.below hbu5)
  replace HPy := hide (HPy.out.below hbu5)
  replace HY := hide (block_upW hbu5 HY.out)
  replace HZ := hide (HZ.out.below hbu5)
  replace HV := hide (block_upW hbu5 HV.out)
  replace HP := hide (HP.out.below hbu5)
  replace HW := hid_below HW hbu5
  replace HBB := hid_below HBB hbu5
  have HBp := hide hxu5
  clear hbu5 hxu5
  replace Ch := Ch.below (show Below w5.heap.size w5 u5 by rw [← hu5]; exact below_one6 _ _)
  obtain ⟨ca6, cb6⟩ := duo HX.out
  have C6 := wneg_any b0 _ z0 u5 HPx.out (by omega)
  go_wp2_with fail
  refine C6.mono ?_
  rintro e w6 ⟨⟨bq, aq, lq, kq, cq, rfl, hzr⟩, hb⟩
  clear ca6 cb6
  rw [hzA] at hzr
  obtain ⟨rq, hAq, hcq⟩ := hzr
  have hlq := ZR.few hcq
  replace Ch := Ch.snoc hb hAq HBB.out.size
  replace HA := hide (block_upW hb HA.out)
  replace HBb := hide (block_upW hb HBb.out)
  replace HA0 := hide (HA0.out.below hb)
  replace HA1 := hide (HA1.out.below hb)
  replace HT := hide (HT.out.below hb)
  replace HLa := hide (HLa.out.below hb)
  replace HPx := hide (HPx.out.below hb)
  replace HX := hide (block_upW hb HX.out)
  replace HLb := hide (HLb.out.below hb)
  replace HPy := hide (HPy.out.below hb)
  replace HY := hide (block_upW hb HY.out)
  replace HZ := hide (HZ.out.below hb)
  replace HV := hide (block_upW hb HV.out)
  replace HP := hide (HP.out.below hb)
  replace HBp := hide (block_upW hb HBp.out)
  replace HW := hid_below HW hb
  replace HBB := hid_below HBB hb
  have HQ := hide (show ZR w6 u5.heap.size bq (.slice aq lq kq) cq (-zA) from ⟨rq, hAq, hcq⟩)
  clear hb hAq hcq C6 hu5
  obtain ⟨u6, hu6, hbu6, hxu6⟩ := enter1 w6 (.cells #[.bool bq, .slice aq lq kq] 27)
  replace HA := hide (block_upW hbu6 HA.out)
  replace HBb := hide (block_upW hbu6 HBb.out)
  replace HA0 := hide (HA0.out.below hbu6)
  replace HA1 := hide (HA1.out.below hbu6)
  replace HT := hide (HT.out.below hbu6)
  replace HLa := hide (HLa.out.below hbu6)
  replace HPx := hide (HPx.out.below hbu6)
  replace HX := hide (block_upW hbu6 HX.out)
  replace HLb := hide (HLb.out.below hbu6)
  replace HPy := hide (HPy.out.below hbu6)
  replace HY := hide (block_upW hbu6 HY.out)
  replace HZ := hide (HZ.out.below hbu6)
  replace HV := hide (block_upW hbu6 HV.out)
  replace HP := hide (HP.out.below hbu6)
  replace HBp := hide (block_upW hbu6 HBp.out)
  replace HQ := hide (HQ.out.below hbu6)
  replace HW := hid_below HW hbu6
  replace HBB := hid_below HBB hbu6
  have HBq := hide hxu6
  clear hbu6 hxu6
  replace Ch := Ch.below (show Below w6.heap.size w6 u6 by rw [← hu6]; exact below_one6 _ _)
  obtain ⟨ca7, cb7⟩ := duo HX.out
  have C7 := wabs_any b0 _ z0 u6 HPx.out (by omega)
  go_wp2_with fail
  refine C7.mono ?_
  rintro e w7 ⟨⟨br, ar, lr, kr, cr, rfl, hzr⟩, hb⟩
  clear ca7 cb7
  rw [show zz false (val z0) = ((zA.natAbs : Nat) : Int) by rw [← hzA, zz_abs]; simp [zz]] at hzr
  obtain ⟨rr, hAr, hcr⟩ := hzr
  have hlr := ZR.few hcr
  replace Ch := Ch.snoc hb hAr HBB.out.size
  replace HA := hide (block_upW hb HA.out)
  replace HBb := hide (block_upW hb HBb.out)
  replace HA0 := hide (HA0.out.below hb)
  replace HA1 := hide (HA1.out.below hb)
  replace HT := hide (HT.out.below hb)
  replace HLa := hide (HLa.out.below hb)
  replace HPx := hide (HPx.out.below hb)
  replace HX := hide (block_upW hb HX.out)
  replace HLb := hide (HLb.out.below hb)
  replace HPy := hide (HPy.out.below hb)
  replace HY := hide (block_upW hb HY.out)
  replace HZ := hide (HZ.out.below hb)
  replace HV := hide (block_upW hb HV.out)
  replace HP := hide (HP.out.below hb)
  replace HBp := hide (block_upW hb HBp.out)
  replace HQ := hide (HQ.out.below hb)
  replace HBq := hide (block_upW hb HBq.out)
  replace HW := hid_below HW hb
  replace HBB := hid_below HBB hb
  have HR := hide (show ZR w7 u6.heap.size br (.slice ar lr kr) cr ((zA.natAbs : Int)) from ⟨rr, hAr, hcr⟩)
  clear hb hAr hcr C7 hu6
  obtain ⟨u7, hu7, hbu7, hxu7⟩ := enter1 w7 (.cells #[.bool br, .slice ar lr kr] 27)
  replace HA := hide (block_upW hbu7 HA.out)
  replace HBb := hide (block_upW hbu7 HBb.out)
  replace HA0 := hide (HA0.out.below hbu7)
  replace HA1 := hide (HA1.out.below hbu7)
  replace HT := hide (HT.out.below hbu7)
  replace HLa := hide (HLa.out.below hbu7)
  replace HPx := hide (HPx.out.below hbu7)
  replace HX := hide (block_upW hbu7 HX.out)
  replace HLb := hide (HLb.out.below hbu7)
  replace HPy := hide (HPy.out.below hbu7)
  replace HY := hide (block_upW hbu7 HY.out)
  replace HZ := hide (HZ.out.below hbu7)
  replace HV := hide (block_upW hbu7 HV.out)
  replace HP := hide (HP.out.below hbu7)
  replace HBp := hide (block_upW hbu7 HBp.out)
  replace HQ := hide (HQ.out.below hbu7)
  replace HBq := hide (block_upW hbu7 HBq.out)
  replace HR := hide (HR.out.below hbu7)
  replace HW := hid_below HW hbu7
  replace HBB := hid_below HBB hbu7
  have HBr := hide hxu7
  clear hbu7 hxu7
  replace Ch := Ch.below (show Below w7.heap.size w7 u7 by rw [← hu7]; exact below_one6 _ _)
  have C8 := wof_any n u7 hn1 hn2
  go_wp2_with fail
  refine C8.mono ?_
  rintro e w8 ⟨⟨bo, ao, lo, ko, rfl, hza⟩, hb⟩
  obtain ⟨ro, hAo, hbo, hvo, hto⟩ := hza
  have hlo : ro.length ≤ 1 := few_ofW hto hvo (int_few hn1 hn2)
  replace Ch := Ch.snoc hb hAo HBB.out.size
  replace HA := hide (block_upW hb HA.out)
  replace HBb := hide (block_upW hb HBb.out)
  replace HA0 := hide (HA0.out.below hb)
  replace HA1 := hide (HA1.out.below hb)
  replace HT := hide (HT.out.below hb)
  replace HLa := hide (HLa.out.below hb)
  replace HPx := hide (HPx.out.below hb)
  replace HX := hide (block_upW hb HX.out)
  replace HLb := hide (HLb.out.below hb)
  replace HPy := hide (HPy.out.below hb)
  replace HY := hide (block_upW hb HY.out)
  replace HZ := hide (HZ.out.below hb)
  replace HV := hide (block_upW hb HV.out)
  replace HP := hide (HP.out.below hb)
  replace HBp := hide (block_upW hb HBp.out)
  replace HQ := hide (HQ.out.below hb)
  replace HBq := hide (block_upW hb HBq.out)
  replace HR := hide (HR.out.below hb)
  replace HBr := hide (block_upW hb HBr.out)
  replace HW := hid_below HW hb
  replace HBB := hid_below HBB hb
  have HO := hide (show ZA w8 u7.heap.size bo (.slice ao lo ko) n from ⟨ro, hAo, hbo, hvo, hto⟩)
  have HPo := hide (show Arg w8 (.slice ao lo ko) ro from hAo.arg (by omega))
  have hzo : zz bo (val ro) = n := by rw [hbo, hvo]; exact zz_self n
  clear hb hAo hbo hvo hto C8 hu7
  obtain ⟨u8, hu8, hbu8, hxu8⟩ := enter1 w8 (.cells #[.bool bo, .slice ao lo ko] 27)
  replace HA := hide (block_upW hbu8 HA.out)
  replace HBb := hide (block_upW hbu8 HBb.out)
  replace HA0 := hide (HA0.out.below hbu8)
  replace HA1 := hide (HA1.out.below hbu8)
  replace HT := hide (HT.out.below hbu8)
  replace HLa := hide (HLa.out.below hbu8)
  replace HPx := hide (HPx.out.below hbu8)
  replace HX := hide (block_upW hbu8 HX.out)
  replace HLb := hide (HLb.out.below hbu8)
  replace HPy := hide (HPy.out.below hbu8)
  replace HY := hide (block_upW hbu8 HY.out)
  replace HZ := hide (HZ.out.below hbu8)
  replace HV := hide (block_upW hbu8 HV.out)
  replace HP := hide (HP.out.below hbu8)
  replace HBp := hide (block_upW hbu8 HBp.out)
  replace HQ := hide (HQ.out.below hbu8)
  replace HBq := hide (block_upW hbu8 HBq.out)
  replace HR := hide (HR.out.below hbu8)
  replace HBr := hide (block_upW hbu8 HBr.out)
  replace HO := hide (HO.out.below hbu8)
  replace HPo := hide (HPo.out.below hbu8)
  replace HW := hid_below HW hbu8
  replace HBB := hid_below HBB hbu8
  have HBo := hide hxu8
  clear hbu8 hxu8
  replace Ch := Ch.below (show Below w8.heap.size w8 u8 by rw [← hu8]; exact below_one6 _ _)
  obtain ⟨ca8, cb8⟩ := duo HBo.out
  have C9 := wint_any bo _ ro u8 HPo.out
  go_wp2_with fail
  refine C9.mono ?_
  rintro e w9 ⟨⟨i9, c9, rfl, hi9⟩, hb⟩
  clear ca8 cb8
  replace Ch := Ch.below hb
  replace HA := hide (block_upW hb HA.out)
  replace HBb := hide (block_upW hb HBb.out)
  replace HA0 := hide (HA0.out.below hb)
  replace HA1 := hide (HA1.out.below hb)
  replace HT := hide (HT.out.below hb)
  replace HLa := hide (HLa.out.below hb)
  replace HPx := hide (HPx.out.below hb)
  replace HX := hide (block_upW hb HX.out)
  replace HLb := hide (HLb.out.below hb)
  replace HPy := hide (HPy.out.below hb)
  replace HY := hide (block_upW hb HY.out)
  replace HZ := hide (HZ.out.below hb)
  replace HV := hide (block_upW hb HV.out)
  replace HP := hide (HP.out.below hb)
  replace HBp := hide (block_upW hb HBp.out)
  replace HQ := hide (HQ.out.below hb)
  replace HBq := hide (block_upW hb HBq.out)
  replace HR := hide (HR.out.below hb)
  replace HBr := hide (block_upW hb HBr.out)
  replace HO := hide (HO.out.below hb)
  replace HPo := hide (HPo.out.below hb)
  replace HBo := hide (block_upW hb HBo.out)
  replace HW := hid_below HW hb
  replace HBB := hid_below HBB hb
  rw [hzo] at hi9
  obtain ⟨rfl, rfl⟩ : i9 = n ∧ c9 = 0 := by
    rcases hi9 with ⟨_, h1, h2⟩ | ⟨h, _⟩
    · exact ⟨h1, h2⟩
    · exact absurd ⟨hn1, hn2⟩ h
  clear hb hi9 C9 hu8
  obtain ⟨bzA, hbzA, hnumA, hselfA⟩ : ∃ t : Nat, ((zA.natAbs = 0 ∧ t = 0) ∨ IsTail zA.natAbs t) ∧ True ∧ True := by
    rcases Nat.eq_zero_or_pos zA.natAbs with h | h
    · exact ⟨0, .inl ⟨h, rfl⟩, trivial, trivial⟩
    · obtain ⟨t, ht⟩ := tail_is zA.natAbs (by omega)
      exact ⟨t, .inr ht, trivial, trivial⟩
  have hfs := fits_small hbzA
  obtain ⟨fi, hfi⟩ : ∃ f : Bool, (f = true ↔ FitsInt zA) := by
    by_cases h : FitsInt zA
    · exact ⟨true, by simp [h]⟩
    · exact ⟨false, by simp [h]⟩
  obtain ⟨hbv, hnv⟩ := HZ.out.inv
  have HLEN := len_any _ zA.natAbs w9 hnv
  have HTL := rtail_any _ zA.natAbs bzA w9 hnv hbzA
  have HNV := hide hnv
  have HBV := hide hbv
  have HFI := hide hfi
  have hblA : blen zA.natAbs ≤ 1125899906809856 := by rw [← hzA, zz_abs]; omega
  clear hnv hbzA hnumA hselfA hbv
  obtain ⟨ca9, cb9⟩ := duo HV.out
  go_upto_region 10 with fail
  go_cut [23] from 66 to 86 (fun s wx => s = .bool fi ∧ wx = w9)
  case first =>
    generalize blen zA.natAbs = L at *
    by_cases hL : L < 64
    · have i1 : (L : Int) < 64 := by omega
      have ef : fi = true := hfi.2 (hfs.2 (.inl hL))
      clear hfs hfi
      go_wp2_with fail
      refine HLEN.mono ?_
      rintro e wn ⟨rfl, hw⟩; rw [hw]; clear hw wn
      go_wp2
      go_meet
      exact ⟨by rw [ef], rfl⟩
    · have i1 : ¬ (L : Int) < 64 := by omega
      have i1d : decide ((L : Int) < 64) = false := decide_eq_false i1
      cases bv
      · have hz : ¬ zA < 0 := of_decide_eq_false HBV.out.symm
        have ef : fi = false := by
          cases fi
          · rfl
          · have h := hfs.1 (hfi.1 rfl)
            omega
        clear hfs hfi
        go_wp2_with fail
        refine HLEN.mono ?_
        rintro e wn ⟨rfl, hw⟩; rw [hw]; clear hw wn
        go_wp2
        go_meet
        exact ⟨by rw [ef], rfl⟩
      · have hz : zA < 0 := of_decide_eq_true HBV.out.symm
        by_cases hL2 : L = 64
        · have i2 : ((L : Int) == 64) = true := by rw [beq_iff_eq]; omega
          by_cases ht : bzA = 63
          · have i3 : ((bzA : Int) == 63) = true := by rw [beq_iff_eq]; omega
            have ef : fi = true := hfi.2 (hfs.2 (.inr ⟨hz, hL2, ht⟩))
            clear hfs hfi hL2 ht
            go_wp2_with fail
            refine HLEN.mono ?_
            rintro e wn ⟨rfl, hw⟩; rw [hw]; clear hw wn
            go_wp2_with fail
            refine HLEN.mono ?_
            rintro e wn ⟨rfl, hw⟩; rw [hw]; clear hw wn
            go_wp2_with fail
            refine HTL.mono ?_
            rintro e wn ⟨rfl, hw⟩; rw [hw]; clear hw wn
            go_wp2
            go_meet
            exact ⟨by rw [ef], rfl⟩
          · have i3 : ((bzA : Int) == 63) = false := by rw [beq_eq_false_iff_ne]; omega
            have ef : fi = false := by
              cases fi
              · rfl
              · have h := hfs.1 (hfi.1 rfl)
                omega
            clear hfs hfi hL2 ht
            go_wp2_with fail
            refine HLEN.mono ?_
            rintro e wn ⟨rfl, hw⟩; rw [hw]; clear hw wn
            go_wp2_with fail
            refine HLEN.mono ?_
            rintro e wn ⟨rfl, hw⟩; rw [hw]; clear hw wn
            go_wp2_with fail
            refine HTL.mono ?_
            rintro e wn ⟨rfl, hw⟩; rw [hw]; clear hw wn
            go_wp2
            go_meet
            exact ⟨by rw [ef], rfl⟩
        · have i2 : ((L : Int) == 64) = false := by rw [beq_eq_false_iff_ne]; omega
          have ef : fi = false := by
            cases fi
            · rfl
            · have h := hfs.1 (hfi.1 rfl)
              omega
          clear hfs hfi
          go_wp2_with fail
          refine HLEN.mono ?_
          rintro e wn ⟨rfl, hw⟩; rw [hw]; clear hw wn
          go_wp2_with fail
          refine HLEN.mono ?_
          rintro e wn ⟨rfl, hw⟩; rw [hw]; clear hw wn
          go_wp2
          go_meet
          exact ⟨by rw [ef], rfl⟩
  case rest =>
    obtain ⟨rfl, rfl⟩ := hcut
    clear HLEN HTL hfs hfi
    obtain rfl : fi = true := HFI.out.2 HWH.out
    obtain ⟨h4, rfl⟩ : zA = i4 ∧ c4 = 0 := by
      rcases HI4.out with ⟨_, h1, h2⟩ | ⟨h, _⟩
      · exact ⟨h1.symm, h2⟩
      · exact absurd HWH.out h
    subst h4
    have hfit := HWH.out
    have hbd : Below wc.heap.size wc wc.drew := (Below.refl _ _).drew
    obtain ⟨xd0, xd1⟩ := duo (block_upW hbd HV.out)
    have N0 := num6_any 0 wc.drew
    have I0 := rzint_any zA wc.drew hfit.1 hfit.2
    have LM := hide (fun (W : World) (hg : Below wc.drew.heap.size wc.drew W) => rlimbs6 (.slice av lv kv) zA.natAbs W ((HNV.out.below hbd).below hg) hblA)
    have IS0 := hide (fun (W : World) (v u : Value) (rs : List Nat) (hz : Zn W v zA) (ha : Arg W u rs) (hv : val rs = zA.natAbs) (ht : tr rs = rs) => show Calls Tryz.prog 19 #[v, .bool bv, u] W (fun e w' => e = .returned (.bool true) ∧ Below W.heap.size W w') by
        have h := rzis_any v zA u rs W hz ha ht hv (by omega)
        rw [← HBV.out] at h
        exact h)
    clear hfit
    go_wp2
    go_region_held3 (fun w' => w'.cell? ⟨w3.heap.size, 0, none⟩ = some (.bool bv) ∧ w'.cell? ⟨w3.heap.size, 1, none⟩ = some (.slice av lv kv)) (go_keep) (first
      | (go_at_call 17; refine N0.mono ?_; rintro e' wn ⟨rfl, hw⟩; rw [hw]; clear hw wn)
      | (go_at_call 18; refine I0.mono ?_; rintro e' q1 ⟨⟨b51, a51, n51, k51, rfl, y51⟩, hq1⟩; have xe0 := cell_up6 hq1 xd0; have xe1 := cell_up6 hq1 xd1)
      | (go_at_call 20; refine (LM.out q1 hq1).mono ?_; rintro e' q2 ⟨⟨a52, n52, k52, r52, rfl, y52, v52, t52⟩, hq2⟩; have xf0 := cell_up6 hq2 xe0; have xf1 := cell_up6 hq2 xe1)
      | (go_at_call 19; refine (IS0.out q2 _ _ r52 (y51.below hq2) y52 v52 t52).mono ?_; rintro e' q3 ⟨rfl, hq3⟩; have xg0 := cell_up6 hq3 xf0; have xg1 := cell_up6 hq3 xf1))
    have hq := below_undrew6 (hq1.trans ((hq2.trans (hq3.mono hq2.size)).mono hq1.size))
    replace Ch := Ch.below hq
    replace HA := hide (block_upW hq HA.out)
    replace HBb := hide (block_upW hq HBb.out)
    replace HA0 := hide (HA0.out.below hq)
    replace HA1 := hide (HA1.out.below hq)
    replace HT := hide (HT.out.below hq)
    replace HLa := hide (HLa.out.below hq)
    replace HPx := hide (HPx.out.below hq)
    replace HX := hide (block_upW hq HX.out)
    replace HLb := hide (HLb.out.below hq)
    replace HPy := hide (HPy.out.below hq)
    replace HY := hide (block_upW hq HY.out)
    replace HZ := hide (HZ.out.below hq)
    replace HV := hide (block_upW hq HV.out)
    replace HP := hide (HP.out.below hq)
    replace HBp := hide (block_upW hq HBp.out)
    replace HQ := hide (HQ.out.below hq)
    replace HBq := hide (block_upW hq HBq.out)
    replace HR := hide (HR.out.below hq)
    replace HBr := hide (block_upW hq HBr.out)
    replace HO := hide (HO.out.below hq)
    replace HPo := hide (HPo.out.below hq)
    replace HBo := hide (block_upW hq HBo.out)
    replace HW := hid_below HW hq
    replace HBB := hid_below HBB hq
    clear hq hq1 hq2 hq3 hbd xd0 xd1 xe0 xe1 xf0 xf1 xg0 xg1 y51 y52 v52 t52 LM IS0 I0 N0
    have hbd : Below q3.heap.size q3 q3.drew := (Below.refl _ _).drew
    replace Ch := Ch.below hbd
    replace HA := hide (block_upW hbd HA.out)
    replace HBb := hide (block_upW hbd HBb.out)
    replace HA0 := hide (HA0.out.below hbd)
    replace HA1 := hide (HA1.out.below hbd)
    replace HT := hide (HT.out.below hbd)
    replace HLa := hide (HLa.out.below hbd)
    replace HPx := hide (HPx.out.below hbd)
    replace HX := hide (block_upW hbd HX.out)
    replace HLb := hide (HLb.out.below hbd)
    replace HPy := hide (HPy.out.below hbd)
    replace HY := hide (block_upW hbd HY.out)
    replace HZ := hide (HZ.out.below hbd)
    replace HV := hide (block_upW hbd HV.out)
    replace HP := hide (HP.out.below hbd)
    replace HBp := hide (block_upW hbd HBp.out)
    replace HQ := hide (HQ.out.below hbd)
    replace HBq := hide (block_upW hbd HBq.out)
    replace HR := hide (HR.out.below hbd)
    replace HBr := hide (block_upW hbd HBr.out)
    replace HO := hide (HO.out.below hbd)
    replace HPo := hide (HPo.out.below hbd)
    replace HBo := hide (block_upW hbd HBo.out)
    replace HW := hid_below HW hbd
    replace HBB := hid_below HBB hbd
    obtain ⟨td, htd⟩ : ∃ td, q3.drew = td := ⟨_, rfl⟩
    rw [htd] at Ch HW HBB HA HBb HA0 HA1 HT HLa HPx HX HLb HPy HY HZ HV HP HBp HQ HBq HR HBr HO HPo HBo
    clear hbd
    obtain ⟨xV00, xV01⟩ := duo HV.out
    obtain ⟨xP00, xP01⟩ := duo HBp.out
    obtain ⟨xQ00, xQ01⟩ := duo HBq.out
    obtain ⟨xR00, xR01⟩ := duo HBr.out
    obtain ⟨xO00, xO01⟩ := duo HBo.out
    obtain ⟨xX00, xX01⟩ := duo HX.out
    obtain ⟨xY00, xY01⟩ := duo HY.out
    obtain ⟨xB00, xB01⟩ := duo HBb.out
    obtain ⟨xA00, xA01⟩ := duo HA.out
    have hself : zz bo (val ro) = i9 := hzo
    have hsx : sg b0 (val z0) = zA.sign := by rw [sg_sign, hzA]
    obtain ⟨ro2, hAo2, hbo2, hvo2, hto2⟩ := HO.out
    have HQ1 := hide (fun (W : World) (v : Value) (hz : Zn W v i9) (hg : Below td.heap.size td W) => show Calls Tryz.prog 19 #[v, .bool bo, .slice ao lo ko] W (fun e w' => e = .returned (.bool true) ∧ Below W.heap.size W w') by
        have h := rzis_any v i9 (.slice ao lo ko) ro2 W hz ((hAo2.arg (by have := few_ofW (n := 1) hto2 hvo2 (int_few hn1 hn2); omega)).below hg) hto2 hvo2 (Nat.le_trans (int_few hn1 hn2) (by omega))
        rw [← hbo2] at h
        exact h)
    clear hAo2 hbo2 hvo2 hto2
    have HX1 := hide (fun (W : World) (hg : Below td.heap.size td W) => show Calls Tryz.prog 24 #[.agg #[.bool b0, .slice ax mx nx]] W (fun e w' => e = .returned (.int .i64 zA.sign) ∧ Below W.heap.size W w') by
        have h := wsign_any b0 _ z0 W (HPx.out.below hg)
        rw [hsx] at h
        exact h)
    have HX2 := hide (fun (W : World) (hg : Below td.heap.size td W) => show Calls Tryz.prog 26 #[.agg #[.bool b0, .slice ax mx nx], .agg #[.bool b1, .slice ay my ny]] W (fun e w' => e = .returned (.int .i64 (cmpZ zA zB)) ∧ Below W.heap.size W w') by
        have h := wcompare_any b0 _ z0 b1 _ z1 W (HPx.out.below hg) (HPy.out.below hg)
        rw [hzA, hzB] at h
        exact h)
    have HX3 := hide (fun (W : World) (hg : Below td.heap.size td W) => show Calls Tryz.prog 9 #[.agg #[.bool b1, .slice a1 z1.length n1]] W (ZnDone W zB) by
        have h := wlawOf_any b1 _ z1 W (HA1.out.below hg) (by omega)
        rw [hzB] at h
        exact h)
    have HX4 := hide (fun (W : World) (hg : Below td.heap.size td W) => rzsign_any (.agg #[.bool bv, .slice av lv kv]) zA W (HZ.out.below hg))
    have HX5 := hide (fun (W : World) (v : Value) (hv : Zn W v zB) (hg : Below td.heap.size td W) => rzcmp_any (.agg #[.bool bv, .slice av lv kv]) v zA zB W (HZ.out.below hg) hv)
    generalize zA.sign = sA at *
    generalize cmpZ zA zB = cAB at *
    go_wp2
    dsimp only [List.append]
    go_region_held3 (fun w' => w'.cell? ⟨w3.heap.size, 0, none⟩ = some (.bool bv) ∧ w'.cell? ⟨w3.heap.size, 1, none⟩ = some (.slice av lv kv) ∧ w'.cell? ⟨w5.heap.size, 0, none⟩ = some (.bool bp) ∧ w'.cell? ⟨w5.heap.size, 1, none⟩ = some (.slice ap lp kp) ∧ w'.cell? ⟨w6.heap.size, 0, none⟩ = some (.bool bq) ∧ w'.cell? ⟨w6.heap.size, 1, none⟩ = some (.slice aq lq kq) ∧ w'.cell? ⟨w7.heap.size, 0, none⟩ = some (.bool br) ∧ w'.cell? ⟨w7.heap.size, 1, none⟩ = some (.slice ar lr kr) ∧ w'.cell? ⟨w8.heap.size, 0, none⟩ = some (.bool bo) ∧ w'.cell? ⟨w8.heap.size, 1, none⟩ = some (.slice ao lo ko) ∧ w'.cell? ⟨w1.heap.size, 0, none⟩ = some (.bool b0) ∧ w'.cell? ⟨w1.heap.size, 1, none⟩ = some (.slice ax mx nx) ∧ w'.cell? ⟨w2.heap.size, 0, none⟩ = some (.bool b1) ∧ w'.cell? ⟨w2.heap.size, 1, none⟩ = some (.slice ay my ny) ∧ w'.cell? ⟨w.heap.size + 1, 0, none⟩ = some (.bool b1) ∧ w'.cell? ⟨w.heap.size + 1, 1, none⟩ = some (.slice a1 z1.length n1) ∧ w'.cell? ⟨w.heap.size, 0, none⟩ = some (.bool b0) ∧ w'.cell? ⟨w.heap.size, 1, none⟩ = some (.slice a0 z0.length n0)) (go_keep) (first
      | (go_at_call_of 21 ap; refine (walike_ok bp ap lp kp cp _ zA _ td HP.out HZ.out).mono ?_; rintro e' t1 ⟨rfl, hb1⟩; have g1 := hb1; have xV10 := cell_up6 hb1 xV00; have xV11 := cell_up6 hb1 xV01; have xP10 := cell_up6 hb1 xP00; have xP11 := cell_up6 hb1 xP01; have xQ10 := cell_up6 hb1 xQ00; have xQ11 := cell_up6 hb1 xQ01; have xR10 := cell_up6 hb1 xR00; have xR11 := cell_up6 hb1 xR01; have xO10 := cell_up6 hb1 xO00; have xO11 := cell_up6 hb1 xO01; have xX10 := cell_up6 hb1 xX00; have xX11 := cell_up6 hb1 xX01; have xY10 := cell_up6 hb1 xY00; have xY11 := cell_up6 hb1 xY01; have xB10 := cell_up6 hb1 xB00; have xB11 := cell_up6 hb1 xB01; have xA10 := cell_up6 hb1 xA00; have xA11 := cell_up6 hb1 xA01; clear xV00 xV01 xP00 xP01 xQ00 xQ01 xR00 xR01 xO00 xO01 xX00 xX01 xY00 xY01 xB00 xB01 xA00 xA01)
      | (go_at_call 22; refine (rzneg_any _ zA t1 (HZ.out.below g1)).mono ?_; rintro e' t2 ⟨⟨b22, a22, n22, k22, rfl, y2⟩, hb2⟩; have g2 := g1.trans (hb2.mono g1.size); have xV20 := cell_up6 hb2 xV10; have xV21 := cell_up6 hb2 xV11; have xP20 := cell_up6 hb2 xP10; have xP21 := cell_up6 hb2 xP11; have xQ20 := cell_up6 hb2 xQ10; have xQ21 := cell_up6 hb2 xQ11; have xR20 := cell_up6 hb2 xR10; have xR21 := cell_up6 hb2 xR11; have xO20 := cell_up6 hb2 xO10; have xO21 := cell_up6 hb2 xO11; have xX20 := cell_up6 hb2 xX10; have xX21 := cell_up6 hb2 xX11; have xY20 := cell_up6 hb2 xY10; have xY21 := cell_up6 hb2 xY11; have xB20 := cell_up6 hb2 xB10; have xB21 := cell_up6 hb2 xB11; have xA20 := cell_up6 hb2 xA10; have xA21 := cell_up6 hb2 xA11; clear xV10 xV11 xP10 xP11 xQ10 xQ11 xR10 xR11 xO10 xO11 xX10 xX11 xY10 xY11 xB10 xB11 xA10 xA11)
      | (go_at_call_of 21 aq; refine (walike_ok bq aq lq kq cq _ (-zA) _ t2 (HQ.out.below g2) y2).mono ?_; rintro e' t3 ⟨rfl, hb3⟩; have g3 := g2.trans (hb3.mono g2.size); have xV30 := cell_up6 hb3 xV20; have xV31 := cell_up6 hb3 xV21; have xP30 := cell_up6 hb3 xP20; have xP31 := cell_up6 hb3 xP21; have xQ30 := cell_up6 hb3 xQ20; have xQ31 := cell_up6 hb3 xQ21; have xR30 := cell_up6 hb3 xR20; have xR31 := cell_up6 hb3 xR21; have xO30 := cell_up6 hb3 xO20; have xO31 := cell_up6 hb3 xO21; have xX30 := cell_up6 hb3 xX20; have xX31 := cell_up6 hb3 xX21; have xY30 := cell_up6 hb3 xY20; have xY31 := cell_up6 hb3 xY21; have xB30 := cell_up6 hb3 xB20; have xB31 := cell_up6 hb3 xB21; have xA30 := cell_up6 hb3 xA20; have xA31 := cell_up6 hb3 xA21; clear xV20 xV21 xP20 xP21 xQ20 xQ21 xR20 xR21 xO20 xO21 xX20 xX21 xY20 xY21 xB20 xB21 xA20 xA21)
      | (go_at_call 23; refine (rzabs_any _ zA t3 (HZ.out.below g3)).mono ?_; rintro e' t4 ⟨⟨b44, a44, n44, k44, rfl, y4⟩, hb4⟩; have g4 := g3.trans (hb4.mono g3.size); have xV40 := cell_up6 hb4 xV30; have xV41 := cell_up6 hb4 xV31; have xP40 := cell_up6 hb4 xP30; have xP41 := cell_up6 hb4 xP31; have xQ40 := cell_up6 hb4 xQ30; have xQ41 := cell_up6 hb4 xQ31; have xR40 := cell_up6 hb4 xR30; have xR41 := cell_up6 hb4 xR31; have xO40 := cell_up6 hb4 xO30; have xO41 := cell_up6 hb4 xO31; have xX40 := cell_up6 hb4 xX30; have xX41 := cell_up6 hb4 xX31; have xY40 := cell_up6 hb4 xY30; have xY41 := cell_up6 hb4 xY31; have xB40 := cell_up6 hb4 xB30; have xB41 := cell_up6 hb4 xB31; have xA40 := cell_up6 hb4 xA30; have xA41 := cell_up6 hb4 xA31; clear xV30 xV31 xP30 xP31 xQ30 xQ31 xR30 xR31 xO30 xO31 xX30 xX31 xY30 xY31 xB30 xB31 xA30 xA31)
      | (go_at_call_of 21 ar; refine (walike_ok br ar lr kr cr _ (zA.natAbs : Int) _ t4 (HR.out.below g4) y4).mono ?_; rintro e' t5 ⟨rfl, hb5⟩; have g5 := g4.trans (hb5.mono g4.size); have xV50 := cell_up6 hb5 xV40; have xV51 := cell_up6 hb5 xV41; have xP50 := cell_up6 hb5 xP40; have xP51 := cell_up6 hb5 xP41; have xQ50 := cell_up6 hb5 xQ40; have xQ51 := cell_up6 hb5 xQ41; have xR50 := cell_up6 hb5 xR40; have xR51 := cell_up6 hb5 xR41; have xO50 := cell_up6 hb5 xO40; have xO51 := cell_up6 hb5 xO41; have xX50 := cell_up6 hb5 xX40; have xX51 := cell_up6 hb5 xX41; have xY50 := cell_up6 hb5 xY40; have xY51 := cell_up6 hb5 xY41; have xB50 := cell_up6 hb5 xB40; have xB51 := cell_up6 hb5 xB41; have xA50 := cell_up6 hb5 xA40; have xA51 := cell_up6 hb5 xA41; clear xV40 xV41 xP40 xP41 xQ40 xQ41 xR40 xR41 xO40 xO41 xX40 xX41 xY40 xY41 xB40 xB41 xA40 xA41)
      | (go_at_call 18; refine (rzint_any i9 t5 hn1 hn2).mono ?_; rintro e' t6 ⟨⟨b66, a66, n66, k66, rfl, y6⟩, hb6⟩; have g6 := g5.trans (hb6.mono g5.size); have xV60 := cell_up6 hb6 xV50; have xV61 := cell_up6 hb6 xV51; have xP60 := cell_up6 hb6 xP50; have xP61 := cell_up6 hb6 xP51; have xQ60 := cell_up6 hb6 xQ50; have xQ61 := cell_up6 hb6 xQ51; have xR60 := cell_up6 hb6 xR50; have xR61 := cell_up6 hb6 xR51; have xO60 := cell_up6 hb6 xO50; have xO61 := cell_up6 hb6 xO51; have xX60 := cell_up6 hb6 xX50; have xX61 := cell_up6 hb6 xX51; have xY60 := cell_up6 hb6 xY50; have xY61 := cell_up6 hb6 xY51; have xB60 := cell_up6 hb6 xB50; have xB61 := cell_up6 hb6 xB51; have xA60 := cell_up6 hb6 xA50; have xA61 := cell_up6 hb6 xA51; clear xV50 xV51 xP50 xP51 xQ50 xQ51 xR50 xR51 xO50 xO51 xX50 xX51 xY50 xY51 xB50 xB51 xA50 xA51)
      | (go_at_call 19; refine (HQ1.out t6 _ y6 g6).mono ?_; rintro e' t7 ⟨rfl, hb7⟩; have g7 := g6.trans (hb7.mono g6.size); have xV70 := cell_up6 hb7 xV60; have xV71 := cell_up6 hb7 xV61; have xP70 := cell_up6 hb7 xP60; have xP71 := cell_up6 hb7 xP61; have xQ70 := cell_up6 hb7 xQ60; have xQ71 := cell_up6 hb7 xQ61; have xR70 := cell_up6 hb7 xR60; have xR71 := cell_up6 hb7 xR61; have xO70 := cell_up6 hb7 xO60; have xO71 := cell_up6 hb7 xO61; have xX70 := cell_up6 hb7 xX60; have xX71 := cell_up6 hb7 xX61; have xY70 := cell_up6 hb7 xY60; have xY71 := cell_up6 hb7 xY61; have xB70 := cell_up6 hb7 xB60; have xB71 := cell_up6 hb7 xB61; have xA70 := cell_up6 hb7 xA60; have xA71 := cell_up6 hb7 xA61; clear xV60 xV61 xP60 xP61 xQ60 xQ61 xR60 xR61 xO60 xO61 xX60 xX61 xY60 xY61 xB60 xB61 xA60 xA61)
      | (go_at_call 17; refine (num6_any 0 t7).mono ?_; rintro e' wn ⟨rfl, hw⟩; rw [hw]; clear hw wn)
      | (go_at_call 24; refine (HX1.out t7 g7).mono ?_; rintro e' t8 ⟨rfl, hb8⟩; have g8 := g7.trans (hb8.mono g7.size); have xV80 := cell_up6 hb8 xV70; have xV81 := cell_up6 hb8 xV71; have xP80 := cell_up6 hb8 xP70; have xP81 := cell_up6 hb8 xP71; have xQ80 := cell_up6 hb8 xQ70; have xQ81 := cell_up6 hb8 xQ71; have xR80 := cell_up6 hb8 xR70; have xR81 := cell_up6 hb8 xR71; have xO80 := cell_up6 hb8 xO70; have xO81 := cell_up6 hb8 xO71; have xX80 := cell_up6 hb8 xX70; have xX81 := cell_up6 hb8 xX71; have xY80 := cell_up6 hb8 xY70; have xY81 := cell_up6 hb8 xY71; have xB80 := cell_up6 hb8 xB70; have xB81 := cell_up6 hb8 xB71; have xA80 := cell_up6 hb8 xA70; have xA81 := cell_up6 hb8 xA71; clear xV70 xV71 xP70 xP71 xQ70 xQ71 xR70 xR71 xO70 xO71 xX70 xX71 xY70 xY71 xB70 xB71 xA70 xA71)
      | (go_at_call 25; refine (HX4.out t8 g8).mono ?_; rintro e' t9 ⟨rfl, hb9⟩; have g9 := g8.trans (hb9.mono g8.size); have xV90 := cell_up6 hb9 xV80; have xV91 := cell_up6 hb9 xV81; have xP90 := cell_up6 hb9 xP80; have xP91 := cell_up6 hb9 xP81; have xQ90 := cell_up6 hb9 xQ80; have xQ91 := cell_up6 hb9 xQ81; have xR90 := cell_up6 hb9 xR80; have xR91 := cell_up6 hb9 xR81; have xO90 := cell_up6 hb9 xO80; have xO91 := cell_up6 hb9 xO81; have xX90 := cell_up6 hb9 xX80; have xX91 := cell_up6 hb9 xX81; have xY90 := cell_up6 hb9 xY80; have xY91 := cell_up6 hb9 xY81; have xB90 := cell_up6 hb9 xB80; have xB91 := cell_up6 hb9 xB81; have xA90 := cell_up6 hb9 xA80; have xA91 := cell_up6 hb9 xA81; clear xV80 xV81 xP80 xP81 xQ80 xQ81 xR80 xR81 xO80 xO81 xX80 xX81 xY80 xY81 xB80 xB81 xA80 xA81)
      | (go_at_call 26; refine (HX2.out t9 g9).mono ?_; rintro e' t10 ⟨rfl, hb10⟩; have g10 := g9.trans (hb10.mono g9.size); have xV100 := cell_up6 hb10 xV90; have xV101 := cell_up6 hb10 xV91; have xP100 := cell_up6 hb10 xP90; have xP101 := cell_up6 hb10 xP91; have xQ100 := cell_up6 hb10 xQ90; have xQ101 := cell_up6 hb10 xQ91; have xR100 := cell_up6 hb10 xR90; have xR101 := cell_up6 hb10 xR91; have xO100 := cell_up6 hb10 xO90; have xO101 := cell_up6 hb10 xO91; have xX100 := cell_up6 hb10 xX90; have xX101 := cell_up6 hb10 xX91; have xY100 := cell_up6 hb10 xY90; have xY101 := cell_up6 hb10 xY91; have xB100 := cell_up6 hb10 xB90; have xB101 := cell_up6 hb10 xB91; have xA100 := cell_up6 hb10 xA90; have xA101 := cell_up6 hb10 xA91; clear xV90 xV91 xP90 xP91 xQ90 xQ91 xR90 xR91 xO90 xO91 xX90 xX91 xY90 xY91 xB90 xB91 xA90 xA91)
      | (go_at_call 9; refine (HX3.out t10 g10).mono ?_; rintro e' t11 ⟨⟨b11, a11, n11, k11, rfl, y11⟩, hb11⟩; have g11 := g10.trans (hb11.mono g10.size); have xV110 := cell_up6 hb11 xV100; have xV111 := cell_up6 hb11 xV101; have xP110 := cell_up6 hb11 xP100; have xP111 := cell_up6 hb11 xP101; have xQ110 := cell_up6 hb11 xQ100; have xQ111 := cell_up6 hb11 xQ101; have xR110 := cell_up6 hb11 xR100; have xR111 := cell_up6 hb11 xR101; have xO110 := cell_up6 hb11 xO100; have xO111 := cell_up6 hb11 xO101; have xX110 := cell_up6 hb11 xX100; have xX111 := cell_up6 hb11 xX101; have xY110 := cell_up6 hb11 xY100; have xY111 := cell_up6 hb11 xY101; have xB110 := cell_up6 hb11 xB100; have xB111 := cell_up6 hb11 xB101; have xA110 := cell_up6 hb11 xA100; have xA111 := cell_up6 hb11 xA101; clear xV100 xV101 xP100 xP101 xQ100 xQ101 xR100 xR101 xO100 xO101 xX100 xX101 xY100 xY101 xB100 xB101 xA100 xA101)
      | (go_at_call 27; refine (HX5.out t11 _ y11 g11).mono ?_; rintro e' t12 ⟨rfl, hb12⟩; have g12 := g11.trans (hb12.mono g11.size); have xV120 := cell_up6 hb12 xV110; have xV121 := cell_up6 hb12 xV111; have xP120 := cell_up6 hb12 xP110; have xP121 := cell_up6 hb12 xP111; have xQ120 := cell_up6 hb12 xQ110; have xQ121 := cell_up6 hb12 xQ111; have xR120 := cell_up6 hb12 xR110; have xR121 := cell_up6 hb12 xR111; have xO120 := cell_up6 hb12 xO110; have xO121 := cell_up6 hb12 xO111; have xX120 := cell_up6 hb12 xX110; have xX121 := cell_up6 hb12 xX111; have xY120 := cell_up6 hb12 xY110; have xY121 := cell_up6 hb12 xY111; have xB120 := cell_up6 hb12 xB110; have xB121 := cell_up6 hb12 xB111; have xA120 := cell_up6 hb12 xA110; have xA121 := cell_up6 hb12 xA111; clear xV110 xV111 xP110 xP111 xQ110 xQ111 xR110 xR111 xO110 xO111 xX110 xX111 xY110 xY111 xB110 xB111 xA110 xA111)
      | (go_at_call 28; refine (own_aparts u3.heap.size [.slice ap lp kp, .slice aq lq kq, .slice ar lr kr, .slice ao lo ko] [rp, rq, rr, ro] t12 ((Ch.below g12).aparts) (by simp) (by simp; omega) (Nat.le_trans HBB.out.size g12.size)).mono ?_; rintro e' t13 ⟨rfl, hk13⟩; obtain ⟨xV130, xV131⟩ := duo (hk13.box _ _ _ (by decide) (by decide) (block_upW g12 HV.out)); obtain ⟨xP130, xP131⟩ := duo (hk13.box _ _ _ (by decide) (by decide) (block_upW g12 HBp.out)); obtain ⟨xQ130, xQ131⟩ := duo (hk13.box _ _ _ (by decide) (by decide) (block_upW g12 HBq.out)); obtain ⟨xR130, xR131⟩ := duo (hk13.box _ _ _ (by decide) (by decide) (block_upW g12 HBr.out)); obtain ⟨xO130, xO131⟩ := duo (hk13.box _ _ _ (by decide) (by decide) (block_upW g12 HBo.out)); obtain ⟨xX130, xX131⟩ := duo (hk13.box _ _ _ (by decide) (by decide) (block_upW g12 HX.out)); obtain ⟨xY130, xY131⟩ := duo (hk13.box _ _ _ (by decide) (by decide) (block_upW g12 HY.out)); obtain ⟨xB130, xB131⟩ := duo (hk13.box _ _ _ (by decide) (by decide) (block_upW g12 HBb.out)); obtain ⟨xA130, xA131⟩ := duo (hk13.box _ _ _ (by decide) (by decide) (block_upW g12 HA.out)); clear xV120 xV121 xP120 xP121 xQ120 xQ121 xR120 xR121 xO120 xO121 xX120 xX121 xY120 xY121 xB120 xB121 xA120 xA121)
      | (go_at_call_of 29 aw; refine (kept_ok _ _ z0 t13 (HLaB.out.below ((HBB.out.trans (g12.mono HBB.out.size)).trans hk13.below)) (HA0B.out.below ((HBB.out.trans (g12.mono HBB.out.size)).trans hk13.below)) (by omega)).mono ?_; rintro e' wn ⟨rfl, hw⟩; rw [hw]; clear hw wn)
      | (go_at_call_of 29 bw; refine (kept_ok _ _ z1 t13 (HLbB.out.below ((HBB.out.trans (g12.mono HBB.out.size)).trans hk13.below)) (HA1B.out.below ((HBB.out.trans (g12.mono HBB.out.size)).trans hk13.below)) (by omega)).mono ?_; rintro e' wn ⟨rfl, hw⟩; rw [hw]; clear hw wn)
      | (go_at_call 30; refine (awake6_any t13 (HTB.out.below ((HBB.out.trans (g12.mono HBB.out.size)).trans hk13.below))).mono ?_; rintro e' t14 ⟨rfl, hb14⟩; have xV140 := cell_up6 hb14 xV130; have xV141 := cell_up6 hb14 xV131; have xP140 := cell_up6 hb14 xP130; have xP141 := cell_up6 hb14 xP131; have xQ140 := cell_up6 hb14 xQ130; have xQ141 := cell_up6 hb14 xQ131; have xR140 := cell_up6 hb14 xR130; have xR141 := cell_up6 hb14 xR131; have xO140 := cell_up6 hb14 xO130; have xO141 := cell_up6 hb14 xO131; have xX140 := cell_up6 hb14 xX130; have xX141 := cell_up6 hb14 xX131; have xY140 := cell_up6 hb14 xY130; have xY141 := cell_up6 hb14 xY131; have xB140 := cell_up6 hb14 xB130; have xB141 := cell_up6 hb14 xB131; have xA140 := cell_up6 hb14 xA130; have xA141 := cell_up6 hb14 xA131; clear xV130 xV131 xP130 xP131 xQ130 xQ131 xR130 xR131 xO130 xO131 xX130 xX131 xY130 xY131 xB130 xB131 xA130 xA131))
    have HFIN := hide (HWB.out.trans ((((HBB.out.trans (g12.mono HBB.out.size)).trans hk13.below).trans (hb14.mono (Nat.le_trans (Nat.le_trans HBB.out.size g12.size) hk13.below.size))).mono HWB.out.size))
    clear hb1 hb2 hb3 hb4 hb5 hb6 hb7 hb8 hb9 hb10 hb11 hb12 hb14 hk13
    go_wp2
    go_ret
    exact ⟨rfl, HFIN.out⟩

end Go.Proofs.YtkcncdcjlhiimaaGreatDoor
