/- The walk of the law WholeBits. -/
import Derived.Test.YtcbpdngogkbndaaGreatDoorB11
import Derived.Test.YtcbpdngogkbndaaGreatDoorB13
namespace Go.Proofs.YtcbpdngogkbndaaGreatDoor
open Go.RowKit
open Lm
attribute [local go_sem ↓] Go.wp_at_zero Go.wp_at_succ

set_option maxRecDepth 20000 in
set_option maxHeartbeats 16000000 in
theorem nT (b0:Bool)(v0:Value)(z0:List Nat)(b1:Bool)(v1:Value)(z1:List Nat)(p2:Int)(w:World)(hT:Tab w)(A0:Arg w v0 z0)(s0:z0.length≤17592186043904)(A1:Arg w v1 z1)(s1:z1.length≤17592186043904)(hl2:-9223372036854775808≤p2)(hh2:p2≤9223372036854775807) :
  Calls Tryz.prog 3 #[.agg #[.bool b0,v0],.agg #[.bool b1,v1],.int .i64 p2] w fun e w'=>e=.returned (.bool true)∧Below w.heap.size w w':=by
 obtain⟨a0,n0,rfl,_,_,_⟩:=A0.form
 obtain⟨a1,n1,rfl,_,_,_⟩:=A1.form
 obtain⟨w0,hw0,hb0,h0,h1⟩:=cu w (.cells #[.bool b0,.slice a0 z0.length n0] 24) (.cells #[.bool b1,.slice a1 z1.length n1] 24)
 have HA:=aa h0
 have HBb:=aa h1
 have HA0:=aa (A0.below hb0)
 have HA1:=aa (A1.below hb0)
 have HT:=aa (hT.below hb0)
 have HW:=aa hb0
 have hbl0:=ij A0.limbs
 have hbl1:=ij A1.limbs
 have HP2:=aa (And.intro hl2 hh2)
 clear A0 A1 hT hb0 h0 h1 hl2 hh2
 obtain⟨ca0,cb0⟩:=duo HA.out
 go_enter Tryz.func3,Tryz.ntmps3
 have C1:=fz b0 _ z0 w0 HA0.out (by omega)
 go_wp2_with fail
 refine C1.mono ?_
 rintro e w1 ⟨⟨aw,mw,nw,ax,mx,nx,rfl,hL,hP⟩,hb⟩
 clear ca0 cb0
 replace HA:=aa (ab hb HA.out)
 replace HBb:=aa (ab hb HBb.out)
 replace HA0:=aa (HA0.out.below hb)
 replace HA1:=aa (HA1.out.below hb)
 replace HT:=aa (HT.out.below hb)
 replace HW:=aE HW hb
 have HLa:=aa hL
 have HPx:=aa hP
 clear hb hL hP C1 hw0
 obtain⟨u1,hu1,hbu1,hxu1⟩:=aB w1 (.cells #[.bool b0,.slice ax mx nx] 27)
 replace HA:=aa (ab hbu1 HA.out)
 replace HBb:=aa (ab hbu1 HBb.out)
 replace HA0:=aa (HA0.out.below hbu1)
 replace HA1:=aa (HA1.out.below hbu1)
 replace HT:=aa (HT.out.below hbu1)
 replace HLa:=aa (HLa.out.below hbu1)
 replace HPx:=aa (HPx.out.below hbu1)
 replace HW:=aE HW hbu1
 have HX:=aa hxu1
 clear hbu1 hxu1
 obtain⟨ca1,cb1⟩:=duo HBb.out
 have C2:=fz b1 _ z1 u1 HA1.out (by omega)
 go_wp2_with fail
 refine C2.mono ?_
 rintro e w2 ⟨⟨bw,mv,nv,ay,my,ny,rfl,hL,hP⟩,hb⟩
 clear ca1 cb1
 replace HA:=aa (ab hb HA.out)
 replace HBb:=aa (ab hb HBb.out)
 replace HA0:=aa (HA0.out.below hb)
 replace HA1:=aa (HA1.out.below hb)
 replace HT:=aa (HT.out.below hb)
 replace HLa:=aa (HLa.out.below hb)
 replace HPx:=aa (HPx.out.below hb)
 replace HX:=aa (ab hb HX.out)
 replace HW:=aE HW hb
 have HLb:=aa hL
 have HPy:=aa hP
 clear hb hL hP C2
 obtain⟨u2,hu2,hbu2,hxu2⟩:=aB w2 (.cells #[.bool b1,.slice ay my ny] 27)
 replace HA:=aa (ab hbu2 HA.out)
 replace HBb:=aa (ab hbu2 HBb.out)
 replace HA0:=aa (HA0.out.below hbu2)
 replace HA1:=aa (HA1.out.below hbu2)
 replace HT:=aa (HT.out.below hbu2)
 replace HLa:=aa (HLa.out.below hbu2)
 replace HPx:=aa (HPx.out.below hbu2)
 replace HX:=aa (ab hbu2 HX.out)
 replace HLb:=aa (HLb.out.below hbu2)
 replace HPy:=aa (HPy.out.below hbu2)
 replace HW:=aE HW hbu2
 have HY:=aa hxu2
 clear hbu2 hxu2
 clear hu1
 generalize hzA:zz b0 (val z0)=zA at *
 generalize hzB:zz b1 (val z1)=zB at *
 have hbA:blen zA.natAbs≤1125899906830000:=by rw [←hzA,aD];omega
 have hbB:blen zB.natAbs≤1125899906830000:=by rw [←hzB,aD];omega
 have OF0:=aa (fun (W:World) (hg:Below u2.heap.size u2 W)=>show Calls Tryz.prog 6 #[.agg #[.bool b0,.slice a0 z0.length n0]] W (bf W zA) by
   have h:=fO b0 _ z0 W (HA0.out.below hg) (by omega)
   rw [hzA] at h
   exact h)
 have OF1:=aa (fun (W:World) (hg:Below u2.heap.size u2 W)=>show Calls Tryz.prog 6 #[.agg #[.bool b1,.slice a1 z1.length n1]] W (bf W zB) by
   have h:=fO b1 _ z1 W (HA1.out.below hg) (by omega)
   rw [hzB] at h
   exact h)
 obtain⟨da0,da1⟩:=duo HA.out
 obtain⟨db0,db1⟩:=duo HBb.out
 go_upto_region 3 with fail
 go_cut [11,12] from 36 to 40 (fun s t wx=>cW u2 zA zB s t wx)
 case first=>
  have hlt5:w.heap.size+1<u2.heap.size:=lt_of_block HBb.out
  go_region_held3 (fun w'=>w'.cell? ⟨w.heap.size,0,none⟩=some (.bool b0)∧w'.cell? ⟨w.heap.size,1,none⟩=some (.slice a0 z0.length n0)∧w'.cell? ⟨w.heap.size+1,0,none⟩=some (.bool b1)∧w'.cell? ⟨w.heap.size+1,1,none⟩=some (.slice a1 z1.length n1)) (first | (refine⟨?_,?_,?_,?_⟩ <;> (repeat' (first|with_reducible assumption|with_reducible apply aL|with_reducible apply dt|with_reducible apply iN|omega))) | go_keep) (first
   | (go_at_call_of 6 a0;refine (OF0.out _ (by repeat (first|with_reducible exact Below.refl _ _|with_reducible apply bH|with_reducible apply fS))).mono ?_;rintro e' tm ⟨⟨bm,am,nm,km,rfl,ym⟩,hbm⟩;have gm:Below u2.heap.size u2 tm:=fb (by repeat (first|with_reducible exact Below.refl _ _|with_reducible apply bH|with_reducible apply fS)) hbm;have xa0:=ac hbm (by repeat (first|with_reducible exact da0|with_reducible apply aL|with_reducible apply dt));have xa1:=ac hbm (by repeat (first|with_reducible exact da1|with_reducible apply aL|with_reducible apply dt));have xb0:=ac hbm (by repeat (first|with_reducible exact db0|with_reducible apply aL|with_reducible apply dt));have xb1:=ac hbm (by repeat (first|with_reducible exact db1|with_reducible apply aL|with_reducible apply dt));have hltm:=gR xb0;(first | (with_reducible have hpB:=iJ hbm;with_reducible have hpA:=ks hbm) | (with_reducible have hpA:=nc hbm) | skip))
   | (go_at_call_of 6 a1;refine (OF1.out _ (by repeat (first|with_reducible exact gm|with_reducible apply bH))).mono ?_;rintro e' tn ⟨⟨bn,an,nn,kn,rfl,yn⟩,hbn⟩;have ya0:=ac hbn (by repeat (first|with_reducible exact xa0|with_reducible apply aL));have ya1:=ac hbn (by repeat (first|with_reducible exact xa1|with_reducible apply aL));have yb0:=ac hbn (by repeat (first|with_reducible exact xb0|with_reducible apply aL));have yb1:=ac hbn (by repeat (first|with_reducible exact xb1|with_reducible apply aL));have hltn:=gR yb0;have gtm:Below tm.heap.size tm tn:=fb (by repeat (first|with_reducible exact Below.refl _ _|with_reducible apply bH)) hbn;have ym2:=ym.below gtm;have gn:=fb gm gtm;(first | (with_reducible have hqD:=nl hbn;with_reducible have hqC:=nk hbn;obtain⟨zC0,zC1⟩:=duo hqC;have zCf:=af hqC;have zCc:=fun (o:Obj)=>aL zC0 o;have zCd:=fun (o:Obj)=>aL zC1 o;have zCg:=fun (o:Obj)=>cZ hqC o;have hlC:=lt_of_block hqC;obtain⟨zD0,zD1⟩:=duo hqD;have zDf:=af hqD;have zDc:=fun (o:Obj)=>aL zD0 o;have zDd:=fun (o:Obj)=>aL zD1 o;have zDg:=fun (o:Obj)=>cZ hqD o;have hlD:=lt_of_block hqD;have sDC:=fun (W:World) (k:Nat) (u:Value) (k':Nat)=>aN (w:=W) (g:=tm.heap.size+1) (k:=k) (g':=tm.heap.size) (k':=k') (u:=u) (Nat.ne_of_gt (Nat.lt_succ_self _));have sCD:=fun (W:World) (k:Nat) (u:Value) (k':Nat)=>aN (w:=W) (g:=tm.heap.size) (k:=k) (g':=tm.heap.size+1) (k':=k') (u:=u) (Nat.ne_of_lt (Nat.lt_succ_self _))) | (with_reducible have hqC:=lm hbn;obtain⟨zC0,zC1⟩:=duo hqC;have zCf:=af hqC;have zCc:=fun (o:Obj)=>aL zC0 o;have zCd:=fun (o:Obj)=>aL zC1 o;have zCg:=fun (o:Obj)=>cZ hqC o;have hlC:=lt_of_block hqC;have sCn:=fun (W:World) (k:Nat) (u:Value) (k':Nat)=>aN (w:=W) (g:=tm.heap.size) (k:=k) (g':=tn.heap.size) (k':=k') (u:=u) (Nat.ne_of_lt hlC)) | skip);(first | (with_reducible have hqA:=up0 hbn hpA;obtain⟨zA0,zA1⟩:=duo hqA;have zAf:=af hqA;have zAc:=fun (o:Obj)=>aL zA0 o;have zAd:=fun (o:Obj)=>aL zA1 o;have zAg:=fun (o:Obj)=>cZ hqA o;have hlA:=lt_of_block hqA;have sAn:=fun (W:World) (k:Nat) (u:Value) (k':Nat)=>aN (w:=W) (g:=u2.heap.size) (k:=k) (g':=tn.heap.size) (k':=k') (u:=u) (Nat.ne_of_lt hlA);have sAC:=fun (W:World) (k:Nat) (u:Value) (k':Nat)=>aN (w:=W) (g:=u2.heap.size) (k:=k) (g':=tm.heap.size) (k':=k') (u:=u) (Nat.ne_of_lt (lt_of_block hpA));have sBA:=fun (W:World) (k:Nat) (u:Value) (k':Nat)=>aN (w:=W) (g:=u2.heap.size+1) (k:=k) (g':=u2.heap.size) (k':=k') (u:=u) (Nat.ne_of_gt (Nat.lt_succ_self _));have sCA:=fun (W:World) (k:Nat) (u:Value) (k':Nat)=>aN (w:=W) (g:=tm.heap.size) (k:=k) (g':=u2.heap.size) (k':=k') (u:=u) (Nat.ne_of_gt (lt_of_block hpA));have sAB:=fun (W:World) (k:Nat) (u:Value) (k':Nat)=>aN (w:=W) (g:=u2.heap.size) (k:=k) (g':=u2.heap.size+1) (k':=k') (u:=u) (Nat.ne_of_lt (Nat.lt_succ_self _))) | (with_reducible have hqA:=up1 hbn hpA;obtain⟨zA0,zA1⟩:=duo hqA;have zAf:=af hqA;have zAc:=fun (o:Obj)=>aL zA0 o;have zAd:=fun (o:Obj)=>aL zA1 o;have zAg:=fun (o:Obj)=>cZ hqA o;have hlA:=lt_of_block hqA;have sAn:=fun (W:World) (k:Nat) (u:Value) (k':Nat)=>aN (w:=W) (g:=u2.heap.size) (k:=k) (g':=tn.heap.size) (k':=k') (u:=u) (Nat.ne_of_lt hlA);have sAC:=fun (W:World) (k:Nat) (u:Value) (k':Nat)=>aN (w:=W) (g:=u2.heap.size) (k:=k) (g':=tm.heap.size) (k':=k') (u:=u) (Nat.ne_of_lt (lt_of_block hpA));have sBA:=fun (W:World) (k:Nat) (u:Value) (k':Nat)=>aN (w:=W) (g:=u2.heap.size+1) (k:=k) (g':=u2.heap.size) (k':=k') (u:=u) (Nat.ne_of_gt (Nat.lt_succ_self _));have sCA:=fun (W:World) (k:Nat) (u:Value) (k':Nat)=>aN (w:=W) (g:=tm.heap.size) (k:=k) (g':=u2.heap.size) (k':=k') (u:=u) (Nat.ne_of_gt (lt_of_block hpA));have sAB:=fun (W:World) (k:Nat) (u:Value) (k':Nat)=>aN (w:=W) (g:=u2.heap.size) (k:=k) (g':=u2.heap.size+1) (k':=k') (u:=u) (Nat.ne_of_lt (Nat.lt_succ_self _))) | skip);(first | (with_reducible have hqB:=up0 hbn hpB;obtain⟨zB0,zB1⟩:=duo hqB;have zBf:=af hqB;have zBc:=fun (o:Obj)=>aL zB0 o;have zBd:=fun (o:Obj)=>aL zB1 o;have zBg:=fun (o:Obj)=>cZ hqB o;have hlB:=lt_of_block hqB) | skip)))
  all_goals (go_wp2_with fail;go_meet;first
   | with_reducible exact lB ym2 yn gn
   | with_reducible exact kg ym2 yn gn
   | with_reducible exact fy hqC ym2 yn gn gm.size
   | with_reducible exact fy hqA ym2 yn gn (Nat.le_refl _)
   | with_reducible exact gi hqC ym2 yn gn gm.size
   | with_reducible exact gi hqA ym2 yn gn (Nat.le_refl _)
   | with_reducible exact cG hqC hqD ym2 yn gn gm.size (Nat.le_succ_of_le gm.size) (Nat.ne_of_lt (Nat.lt_succ_self _))
   | with_reducible exact cG hqD hqC ym2 yn gn (Nat.le_succ_of_le gm.size) gm.size (Nat.ne_of_gt (Nat.lt_succ_self _))
   | with_reducible exact cG hqA hqC ym2 yn gn (Nat.le_refl _) gm.size (Nat.ne_of_lt (lt_of_block hpA))
   | with_reducible exact cG hqC hqA ym2 yn gn gm.size (Nat.le_refl _) (Nat.ne_of_gt (lt_of_block hpA))
   | with_reducible exact cG hqA hqB ym2 yn gn (Nat.le_refl _) (Nat.le_succ _) (Nat.ne_of_lt (Nat.lt_succ_self _))
   | with_reducible exact cG hqB hqA ym2 yn gn (Nat.le_succ _) (Nat.le_refl _) (Nat.ne_of_gt (Nat.lt_succ_self _)))
 case rest=>
  obtain⟨gm1,gn1,bm,am,nm,km,bn,an,nn,kn,rfl,rfl,hG,hH,ym,yn,hbx⟩:=hcut
  have HM:=aa hG
  have HN:=aa hH
  have HZm:=aa ym
  have HZn:=aa yn
  replace HA:=aa (ab hbx HA.out)
  replace HBb:=aa (ab hbx HBb.out)
  replace HA0:=aa (HA0.out.below hbx)
  replace HA1:=aa (HA1.out.below hbx)
  replace HT:=aa (HT.out.below hbx)
  replace HLa:=aa (HLa.out.below hbx)
  replace HPx:=aa (HPx.out.below hbx)
  replace HX:=aa (ab hbx HX.out)
  replace HLb:=aa (HLb.out.below hbx)
  replace HPy:=aa (HPy.out.below hbx)
  replace HY:=aa (ab hbx HY.out)
  replace HW:=aE HW hbx
  clear hG hH ym yn hbx OF0 OF1 da0 da1 db0 db1 hu2
  generalize wc=ub at *
  have HBB:Hid (Below ub.heap.size ub ub):=aa (Below.refl _ _)
  have HLaB:=HLa
  have HLbB:=HLb
  have HA0B:=HA0
  have HA1B:=HA1
  have HWB:=HW
  have HTB:=HT
  obtain⟨ca0,cb0⟩:=duo HX.out
  obtain⟨ca1,cb1⟩:=duo HY.out
  have C:=nD b0 b1 _ _ z0 z1 ub HPx.out HPy.out (by omega) (by omega)
  rw [hzA,hzB] at C
  go_wp2_with fail
  refine C.mono ?_
  rintro e V1 ⟨⟨bp,ap,lp,kp,cp,rfl,hzr⟩,hb⟩
  clear ca0 cb0 ca1 cb1 C
  obtain⟨rp,hAp,hcp⟩:=hzr
  have hlp:=ZR.few hcp
  have Ch:aJ V1 ub.heap.size [.slice ap lp kp] [rp]:=aJ.one hAp hb.size
  replace HA:=aa (ab hb HA.out)
  replace HBb:=aa (ab hb HBb.out)
  replace HA0:=aa (HA0.out.below hb)
  replace HA1:=aa (HA1.out.below hb)
  replace HT:=aa (HT.out.below hb)
  replace HLa:=aa (HLa.out.below hb)
  replace HPx:=aa (HPx.out.below hb)
  replace HX:=aa (ab hb HX.out)
  replace HLb:=aa (HLb.out.below hb)
  replace HPy:=aa (HPy.out.below hb)
  replace HY:=aa (ab hb HY.out)
  replace HM:=aa (ab hb HM.out)
  replace HN:=aa (ab hb HN.out)
  replace HZm:=aa (HZm.out.below hb)
  replace HZn:=aa (HZn.out.below hb)
  replace HW:=aE HW hb
  replace HBB:=aE HBB hb
  have HZp:=aa (show ZR V1 ub.heap.size bp (.slice ap lp kp) cp (bg zA zB) from ⟨rp,hAp,hcp⟩)
  clear hb hAp hcp
  obtain⟨U1,hU1,hbU,hxU⟩:=aB V1 (.cells #[.bool bp,.slice ap lp kp] 27)
  replace HA:=aa (ab hbU HA.out)
  replace HBb:=aa (ab hbU HBb.out)
  replace HA0:=aa (HA0.out.below hbU)
  replace HA1:=aa (HA1.out.below hbU)
  replace HT:=aa (HT.out.below hbU)
  replace HLa:=aa (HLa.out.below hbU)
  replace HPx:=aa (HPx.out.below hbU)
  replace HX:=aa (ab hbU HX.out)
  replace HLb:=aa (HLb.out.below hbU)
  replace HPy:=aa (HPy.out.below hbU)
  replace HY:=aa (ab hbU HY.out)
  replace HM:=aa (ab hbU HM.out)
  replace HN:=aa (ab hbU HN.out)
  replace HZm:=aa (HZm.out.below hbU)
  replace HZn:=aa (HZn.out.below hbU)
  replace HZp:=aa (HZp.out.below hbU)
  replace HW:=aE HW hbU
  replace HBB:=aE HBB hbU
  have HBp:=aa hxU
  replace Ch:=Ch.below hbU
  clear hbU hxU
  obtain⟨ca0,cb0⟩:=duo HX.out
  obtain⟨ca1,cb1⟩:=duo HY.out
  have C:=jN b0 b1 _ _ z0 z1 U1 HPx.out HPy.out (by omega) (by omega)
  rw [hzA,hzB] at C
  go_wp2_with fail
  refine C.mono ?_
  rintro e V2 ⟨⟨bq,aq,lq,kq,cq,rfl,hzr⟩,hb⟩
  clear ca0 cb0 ca1 cb1 C
  obtain⟨rq,hAq,hcq⟩:=hzr
  have hlq:=ZR.few hcq
  replace Ch:=Ch.snoc hb hAq HBB.out.size
  replace HA:=aa (ab hb HA.out)
  replace HBb:=aa (ab hb HBb.out)
  replace HA0:=aa (HA0.out.below hb)
  replace HA1:=aa (HA1.out.below hb)
  replace HT:=aa (HT.out.below hb)
  replace HLa:=aa (HLa.out.below hb)
  replace HPx:=aa (HPx.out.below hb)
  replace HX:=aa (ab hb HX.out)
  replace HLb:=aa (HLb.out.below hb)
  replace HPy:=aa (HPy.out.below hb)
  replace HY:=aa (ab hb HY.out)
  replace HM:=aa (ab hb HM.out)
  replace HN:=aa (ab hb HN.out)
  replace HZm:=aa (HZm.out.below hb)
  replace HZn:=aa (HZn.out.below hb)
  replace HZp:=aa (HZp.out.below hb)
  replace HBp:=aa (ab hb HBp.out)
  replace HW:=aE HW hb
  replace HBB:=aE HBB hb
  have HZq:=aa (show ZR V2 U1.heap.size bq (.slice aq lq kq) cq (zor zA zB) from ⟨rq,hAq,hcq⟩)
  clear hb hAq hcq
  obtain⟨U2,hU2,hbU,hxU⟩:=aB V2 (.cells #[.bool bq,.slice aq lq kq] 27)
  replace HA:=aa (ab hbU HA.out)
  replace HBb:=aa (ab hbU HBb.out)
  replace HA0:=aa (HA0.out.below hbU)
  replace HA1:=aa (HA1.out.below hbU)
  replace HT:=aa (HT.out.below hbU)
  replace HLa:=aa (HLa.out.below hbU)
  replace HPx:=aa (HPx.out.below hbU)
  replace HX:=aa (ab hbU HX.out)
  replace HLb:=aa (HLb.out.below hbU)
  replace HPy:=aa (HPy.out.below hbU)
  replace HY:=aa (ab hbU HY.out)
  replace HM:=aa (ab hbU HM.out)
  replace HN:=aa (ab hbU HN.out)
  replace HZm:=aa (HZm.out.below hbU)
  replace HZn:=aa (HZn.out.below hbU)
  replace HZp:=aa (HZp.out.below hbU)
  replace HBp:=aa (ab hbU HBp.out)
  replace HZq:=aa (HZq.out.below hbU)
  replace HW:=aE HW hbU
  replace HBB:=aE HBB hbU
  have HBq:=aa hxU
  replace Ch:=Ch.below hbU
  clear hbU hxU hU1
  obtain⟨ca0,cb0⟩:=duo HX.out
  obtain⟨ca1,cb1⟩:=duo HY.out
  have C:=jx b0 b1 _ _ z0 z1 U2 HPx.out HPy.out (by omega) (by omega)
  rw [hzA,hzB] at C
  go_wp2_with fail
  refine C.mono ?_
  rintro e V3 ⟨⟨br,ar,lr,kr,cr,rfl,hzr⟩,hb⟩
  clear ca0 cb0 ca1 cb1 C
  obtain⟨rr,hAr,hcr⟩:=hzr
  have hlr:=ZR.few hcr
  replace Ch:=Ch.snoc hb hAr HBB.out.size
  replace HA:=aa (ab hb HA.out)
  replace HBb:=aa (ab hb HBb.out)
  replace HA0:=aa (HA0.out.below hb)
  replace HA1:=aa (HA1.out.below hb)
  replace HT:=aa (HT.out.below hb)
  replace HLa:=aa (HLa.out.below hb)
  replace HPx:=aa (HPx.out.below hb)
  replace HX:=aa (ab hb HX.out)
  replace HLb:=aa (HLb.out.below hb)
  replace HPy:=aa (HPy.out.below hb)
  replace HY:=aa (ab hb HY.out)
  replace HM:=aa (ab hb HM.out)
  replace HN:=aa (ab hb HN.out)
  replace HZm:=aa (HZm.out.below hb)
  replace HZn:=aa (HZn.out.below hb)
  replace HZp:=aa (HZp.out.below hb)
  replace HBp:=aa (ab hb HBp.out)
  replace HZq:=aa (HZq.out.below hb)
  replace HBq:=aa (ab hb HBq.out)
  replace HW:=aE HW hb
  replace HBB:=aE HBB hb
  have HZr:=aa (show ZR V3 U2.heap.size br (.slice ar lr kr) cr (bi zA zB) from ⟨rr,hAr,hcr⟩)
  clear hb hAr hcr
  obtain⟨U3,hU3,hbU,hxU⟩:=aB V3 (.cells #[.bool br,.slice ar lr kr] 27)
  replace HA:=aa (ab hbU HA.out)
  replace HBb:=aa (ab hbU HBb.out)
  replace HA0:=aa (HA0.out.below hbU)
  replace HA1:=aa (HA1.out.below hbU)
  replace HT:=aa (HT.out.below hbU)
  replace HLa:=aa (HLa.out.below hbU)
  replace HPx:=aa (HPx.out.below hbU)
  replace HX:=aa (ab hbU HX.out)
  replace HLb:=aa (HLb.out.below hbU)
  replace HPy:=aa (HPy.out.below hbU)
  replace HY:=aa (ab hbU HY.out)
  replace HM:=aa (ab hbU HM.out)
  replace HN:=aa (ab hbU HN.out)
  replace HZm:=aa (HZm.out.below hbU)
  replace HZn:=aa (HZn.out.below hbU)
  replace HZp:=aa (HZp.out.below hbU)
  replace HBp:=aa (ab hbU HBp.out)
  replace HZq:=aa (HZq.out.below hbU)
  replace HBq:=aa (ab hbU HBq.out)
  replace HZr:=aa (HZr.out.below hbU)
  replace HW:=aE HW hbU
  replace HBB:=aE HBB hbU
  have HBr:=aa hxU
  replace Ch:=Ch.below hbU
  clear hbU hxU hU2
  obtain⟨ca0,cb0⟩:=duo HX.out
  have C:=mW b0 _ z0 U3 HPx.out (by omega)
  rw [hzA] at C
  go_wp2_with fail
  refine C.mono ?_
  rintro e V4 ⟨⟨bo,ao,lo,ko,co,rfl,hzr⟩,hb⟩
  clear ca0 cb0 C
  obtain⟨ro,hAo,hco⟩:=hzr
  have hlo:=ZR.few hco
  replace Ch:=Ch.snoc hb hAo HBB.out.size
  replace HA:=aa (ab hb HA.out)
  replace HBb:=aa (ab hb HBb.out)
  replace HA0:=aa (HA0.out.below hb)
  replace HA1:=aa (HA1.out.below hb)
  replace HT:=aa (HT.out.below hb)
  replace HLa:=aa (HLa.out.below hb)
  replace HPx:=aa (HPx.out.below hb)
  replace HX:=aa (ab hb HX.out)
  replace HLb:=aa (HLb.out.below hb)
  replace HPy:=aa (HPy.out.below hb)
  replace HY:=aa (ab hb HY.out)
  replace HM:=aa (ab hb HM.out)
  replace HN:=aa (ab hb HN.out)
  replace HZm:=aa (HZm.out.below hb)
  replace HZn:=aa (HZn.out.below hb)
  replace HZp:=aa (HZp.out.below hb)
  replace HBp:=aa (ab hb HBp.out)
  replace HZq:=aa (HZq.out.below hb)
  replace HBq:=aa (ab hb HBq.out)
  replace HZr:=aa (HZr.out.below hb)
  replace HBr:=aa (ab hb HBr.out)
  replace HW:=aE HW hb
  replace HBB:=aE HBB hb
  have HZo:=aa (show ZR V4 U3.heap.size bo (.slice ao lo ko) co (-1 - zA) from ⟨ro,hAo,hco⟩)
  clear hb hAo hco
  obtain⟨U4,hU4,hbU,hxU⟩:=aB V4 (.cells #[.bool bo,.slice ao lo ko] 27)
  replace HA:=aa (ab hbU HA.out)
  replace HBb:=aa (ab hbU HBb.out)
  replace HA0:=aa (HA0.out.below hbU)
  replace HA1:=aa (HA1.out.below hbU)
  replace HT:=aa (HT.out.below hbU)
  replace HLa:=aa (HLa.out.below hbU)
  replace HPx:=aa (HPx.out.below hbU)
  replace HX:=aa (ab hbU HX.out)
  replace HLb:=aa (HLb.out.below hbU)
  replace HPy:=aa (HPy.out.below hbU)
  replace HY:=aa (ab hbU HY.out)
  replace HM:=aa (ab hbU HM.out)
  replace HN:=aa (ab hbU HN.out)
  replace HZm:=aa (HZm.out.below hbU)
  replace HZn:=aa (HZn.out.below hbU)
  replace HZp:=aa (HZp.out.below hbU)
  replace HBp:=aa (ab hbU HBp.out)
  replace HZq:=aa (HZq.out.below hbU)
  replace HBq:=aa (ab hbU HBq.out)
  replace HZr:=aa (HZr.out.below hbU)
  replace HBr:=aa (ab hbU HBr.out)
  replace HZo:=aa (HZo.out.below hbU)
  replace HW:=aE HW hbU
  replace HBB:=aE HBB hbU
  have HBo:=aa hxU
  replace Ch:=Ch.below hbU
  clear hbU hxU hU3
  obtain⟨tb,kb,hbt0,hbt1,hbc⟩:∃tb kb:Int,(p2<0→tb=0∧kb=1)∧(¬p2<0→tb=aW zA p2.toNat∧kb=0)∧(Calls Tryz.prog 11 #[.agg #[.bool b0,.slice ax mx nx],.int .i64 p2] U4 fun e w'=>e=.returned (.tuple #[.int .i64 tb,.int .i64 kb])∧Below U4.heap.size U4 w'):=by
   by_cases hi:p2<0
   ·exact⟨0,1,fun _=>⟨rfl,rfl⟩,fun h=>absurd hi h,l8 b0 _ z0 p2 U4 HPx.out hi⟩
   ·refine⟨aW zA p2.toNat,0,fun h=>absurd h hi,fun _=>⟨rfl,rfl⟩,?_⟩
    have h:=iL b0 _ z0 p2.toNat U4 HPx.out HT.out (by have:=HP2.out;omega)
    rw [hzA,show ((p2.toNat:Nat):Int)=p2 by omega] at h
    exact h
  obtain⟨cx0,cx1⟩:=duo HX.out
  have HBT:=aa (And.intro hbt0 hbt1)
  clear hbt0 hbt1
  go_wp2_with fail
  refine hbc.mono ?_
  rintro e S1 ⟨rfl,hb⟩
  clear hbc cx0 cx1
  replace HA:=aa (ab hb HA.out)
  replace HBb:=aa (ab hb HBb.out)
  replace HA0:=aa (HA0.out.below hb)
  replace HA1:=aa (HA1.out.below hb)
  replace HT:=aa (HT.out.below hb)
  replace HLa:=aa (HLa.out.below hb)
  replace HPx:=aa (HPx.out.below hb)
  replace HX:=aa (ab hb HX.out)
  replace HLb:=aa (HLb.out.below hb)
  replace HPy:=aa (HPy.out.below hb)
  replace HY:=aa (ab hb HY.out)
  replace HM:=aa (ab hb HM.out)
  replace HN:=aa (ab hb HN.out)
  replace HZm:=aa (HZm.out.below hb)
  replace HZn:=aa (HZn.out.below hb)
  replace HZp:=aa (HZp.out.below hb)
  replace HBp:=aa (ab hb HBp.out)
  replace HZq:=aa (HZq.out.below hb)
  replace HBq:=aa (ab hb HBq.out)
  replace HZr:=aa (HZr.out.below hb)
  replace HBr:=aa (ab hb HBr.out)
  replace HZo:=aa (HZo.out.below hb)
  replace HBo:=aa (ab hb HBo.out)
  replace HW:=aE HW hb
  replace HBB:=aE HBB hb
  replace Ch:=Ch.below hb
  clear hb
  obtain⟨tl,htl0,htl1,htc⟩:∃tl:Int,(zA=0→tl=-1)∧(zA≠0→∃t:Nat,tl=(t:Int)∧aS zA.natAbs t)∧(Calls Tryz.prog 12 #[.agg #[.bool b0,.slice ax mx nx]] S1 fun e w'=>e=.returned (.tuple #[.int .i64 tl,.int .i64 0])∧Below S1.heap.size S1 w'):=by
   have hz9:=aD b0 (val z0)
   rw [hzA] at hz9
   by_cases hzz:zA=0
   ·exact⟨-1,fun _=>rfl,fun h=>absurd hzz h,kc b0 _ z0 S1 HPx.out (by omega)⟩
   ·obtain⟨t,ht⟩:=iB zA.natAbs (by omega)
    exact⟨(t:Int),fun h=>absurd h hzz,fun _=>⟨t,rfl,ht⟩,kJ b0 _ z0 t S1 HPx.out HT.out (by omega) (by rw [←hz9];exact ht)⟩
  obtain⟨cx0,cx1⟩:=duo HX.out
  have HTL:=aa (And.intro htl0 htl1)
  clear htl0 htl1
  go_wp2_with fail
  refine htc.mono ?_
  rintro e S2 ⟨rfl,hb⟩
  clear htc cx0 cx1
  replace HA:=aa (ab hb HA.out)
  replace HBb:=aa (ab hb HBb.out)
  replace HA0:=aa (HA0.out.below hb)
  replace HA1:=aa (HA1.out.below hb)
  replace HT:=aa (HT.out.below hb)
  replace HLa:=aa (HLa.out.below hb)
  replace HPx:=aa (HPx.out.below hb)
  replace HX:=aa (ab hb HX.out)
  replace HLb:=aa (HLb.out.below hb)
  replace HPy:=aa (HPy.out.below hb)
  replace HY:=aa (ab hb HY.out)
  replace HM:=aa (ab hb HM.out)
  replace HN:=aa (ab hb HN.out)
  replace HZm:=aa (HZm.out.below hb)
  replace HZn:=aa (HZn.out.below hb)
  replace HZp:=aa (HZp.out.below hb)
  replace HBp:=aa (ab hb HBp.out)
  replace HZq:=aa (HZq.out.below hb)
  replace HBq:=aa (ab hb HBq.out)
  replace HZr:=aa (HZr.out.below hb)
  replace HBr:=aa (ab hb HBr.out)
  replace HZo:=aa (HZo.out.below hb)
  replace HBo:=aa (ab hb HBo.out)
  replace HW:=aE HW hb
  replace HBB:=aE HBB hb
  replace Ch:=Ch.below hb
  clear hb
  go_upto_if 75 with fail
  go_cut [21,22] from 63 to 93 (fun _ _ wx=>Below S2.heap.size S2 wx)
  case first=>
   by_cases hi:p2<0
   ·obtain⟨e1,e2⟩:=HBT.out.1 (by omega)
    have C:=df 1 S2
    go_wp2_with fail
    refine C.mono ?_
    rintro e wn ⟨rfl,hw⟩;rw [hw];clear hw wn C
    go_wp2_with fail
    go_meet
    exact Below.refl _ _
   ·obtain⟨e1,e2⟩:=HBT.out.2 (by omega)
    have hi8:p2.toNat≤9223372036854775807:=by have:=HP2.out;omega
    have B:=eQ _ zA p2.toNat S2 HZm.out hi8 (by omega)
    rw [show ((p2.toNat:Nat):Int)=p2 by omega,←e1] at B
    have C:=df 0 S2
    obtain⟨cm0,cm1⟩:=duo HM.out
    have hbb:(tb == tb)=true:=by simp
    clear e1
    go_wp2_with fail
    refine C.mono ?_
    rintro e wn ⟨rfl,hw⟩;rw [hw];clear hw wn C
    go_wp2_with fail
    refine B.mono ?_
    rintro e t1 ⟨rfl,hb1⟩
    have HB1:=aa hb1
    clear B hb1
    go_wp2_with fail
    go_meet
    exact HB1.out
  case rest=>
   have hb:=hcut
   generalize wc=S3 at *
   replace HA:=aa (ab hb HA.out)
   replace HBb:=aa (ab hb HBb.out)
   replace HA0:=aa (HA0.out.below hb)
   replace HA1:=aa (HA1.out.below hb)
   replace HT:=aa (HT.out.below hb)
   replace HLa:=aa (HLa.out.below hb)
   replace HPx:=aa (HPx.out.below hb)
   replace HX:=aa (ab hb HX.out)
   replace HLb:=aa (HLb.out.below hb)
   replace HPy:=aa (HPy.out.below hb)
   replace HY:=aa (ab hb HY.out)
   replace HM:=aa (ab hb HM.out)
   replace HN:=aa (ab hb HN.out)
   replace HZm:=aa (HZm.out.below hb)
   replace HZn:=aa (HZn.out.below hb)
   replace HZp:=aa (HZp.out.below hb)
   replace HBp:=aa (ab hb HBp.out)
   replace HZq:=aa (HZq.out.below hb)
   replace HBq:=aa (ab hb HBq.out)
   replace HZr:=aa (HZr.out.below hb)
   replace HBr:=aa (ab hb HBr.out)
   replace HZo:=aa (HZo.out.below hb)
   replace HBo:=aa (ab hb HBo.out)
   replace HW:=aE HW hb
   replace HBB:=aE HBB hb
   replace Ch:=Ch.below hb
   clear hb
   clear hcut HBT
   obtain⟨cm0,cm1⟩:=duo HM.out
   have C:=lk _ zA S3 HZm.out
   go_wp2_with fail
   refine C.mono ?_
   rintro e S4 ⟨rfl,hb⟩
   clear C cm0 cm1
   replace HA:=aa (ab hb HA.out)
   replace HBb:=aa (ab hb HBb.out)
   replace HA0:=aa (HA0.out.below hb)
   replace HA1:=aa (HA1.out.below hb)
   replace HT:=aa (HT.out.below hb)
   replace HLa:=aa (HLa.out.below hb)
   replace HPx:=aa (HPx.out.below hb)
   replace HX:=aa (ab hb HX.out)
   replace HLb:=aa (HLb.out.below hb)
   replace HPy:=aa (HPy.out.below hb)
   replace HY:=aa (ab hb HY.out)
   replace HM:=aa (ab hb HM.out)
   replace HN:=aa (ab hb HN.out)
   replace HZm:=aa (HZm.out.below hb)
   replace HZn:=aa (HZn.out.below hb)
   replace HZp:=aa (HZp.out.below hb)
   replace HBp:=aa (ab hb HBp.out)
   replace HZq:=aa (HZq.out.below hb)
   replace HBq:=aa (ab hb HBq.out)
   replace HZr:=aa (HZr.out.below hb)
   replace HBr:=aa (ab hb HBr.out)
   replace HZo:=aa (HZo.out.below hb)
   replace HBo:=aa (ab hb HBo.out)
   replace HW:=aE HW hb
   replace HBB:=aE HBB hb
   replace Ch:=Ch.below hb
   clear hb
   go_upto_if 95 with fail
   go_cut [25] from 93 to 99 (fun s wx=>s=.int .i64 tl∧wx=S4)
   case first=>
    by_cases hzz:zA=0
    ·have hsn:zA.sign=0:=by rw [hzz];rfl
     have HE:=aa (HTL.out.1 hzz)
     clear hzz
     go_wp2_with fail
     go_meet
     exact⟨by rw [HE.out],rfl⟩
    ·have hsn:¬zA.sign=0:=fun h=>hzz (Int.sign_eq_zero_iff_zero.1 h)
     obtain⟨t,e1,ht⟩:=HTL.out.2 hzz
     obtain⟨cm0,cm1⟩:=duo HM.out
     have HNM:Num S4 (.slice am nm km) zA.natAbs:=by obtain⟨u9,h1,h2⟩:=HZm.out;cases h1;exact h2
     have C:=jc _ zA.natAbs t S4 HNM (Or.inr ht)
     have HE:=aa e1
     clear ht e1
     go_wp2_with fail
     refine C.mono ?_
     rintro e wn ⟨rfl,hw⟩;rw [hw];clear hw wn C HNM
     go_wp2_with fail
     go_meet
     exact⟨by rw [HE.out],rfl⟩
   case rest=>
    obtain⟨rfl,hwc⟩:=hcut
    rw [hwc]
    clear hwc HTL
    have hbd:Below S4.heap.size S4 S4.drew:=(Below.refl _ _).drew
    replace HA:=aa (ab hbd HA.out)
    replace HBb:=aa (ab hbd HBb.out)
    replace HA0:=aa (HA0.out.below hbd)
    replace HA1:=aa (HA1.out.below hbd)
    replace HT:=aa (HT.out.below hbd)
    replace HLa:=aa (HLa.out.below hbd)
    replace HPx:=aa (HPx.out.below hbd)
    replace HX:=aa (ab hbd HX.out)
    replace HLb:=aa (HLb.out.below hbd)
    replace HPy:=aa (HPy.out.below hbd)
    replace HY:=aa (ab hbd HY.out)
    replace HM:=aa (ab hbd HM.out)
    replace HN:=aa (ab hbd HN.out)
    replace HZm:=aa (HZm.out.below hbd)
    replace HZn:=aa (HZn.out.below hbd)
    replace HZp:=aa (HZp.out.below hbd)
    replace HBp:=aa (ab hbd HBp.out)
    replace HZq:=aa (HZq.out.below hbd)
    replace HBq:=aa (ab hbd HBq.out)
    replace HZr:=aa (HZr.out.below hbd)
    replace HBr:=aa (ab hbd HBr.out)
    replace HZo:=aa (HZo.out.below hbd)
    replace HBo:=aa (ab hbd HBo.out)
    replace HW:=aE HW hbd
    replace HBB:=aE HBB hbd
    replace Ch:=Ch.below hbd
    clear hbd
    have KS:=aa (fun (W:World) (hg:Below S4.drew.heap.size S4.drew W)=>show (fun w'=>w'.cell? ⟨gm1,0,none⟩=some (.bool bm)∧w'.cell? ⟨gm1,1,none⟩=some (.slice am nm km)∧w'.cell? ⟨gn1,0,none⟩=some (.bool bn)∧w'.cell? ⟨gn1,1,none⟩=some (.slice an nn kn)∧w'.cell? ⟨V1.heap.size,0,none⟩=some (.bool bp)∧w'.cell? ⟨V1.heap.size,1,none⟩=some (.slice ap lp kp)∧w'.cell? ⟨V2.heap.size,0,none⟩=some (.bool bq)∧w'.cell? ⟨V2.heap.size,1,none⟩=some (.slice aq lq kq)∧w'.cell? ⟨V3.heap.size,0,none⟩=some (.bool br)∧w'.cell? ⟨V3.heap.size,1,none⟩=some (.slice ar lr kr)∧w'.cell? ⟨V4.heap.size,0,none⟩=some (.bool bo)∧w'.cell? ⟨V4.heap.size,1,none⟩=some (.slice ao lo ko)∧w'.cell? ⟨w.heap.size+1,0,none⟩=some (.bool b1)∧w'.cell? ⟨w.heap.size+1,1,none⟩=some (.slice a1 z1.length n1)∧w'.cell? ⟨w.heap.size,0,none⟩=some (.bool b0)∧w'.cell? ⟨w.heap.size,1,none⟩=some (.slice a0 z0.length n0)) W from ⟨(duo (ab hg HM.out)).1,(duo (ab hg HM.out)).2 ,(duo (ab hg HN.out)).1,(duo (ab hg HN.out)).2 ,(duo (ab hg HBp.out)).1,(duo (ab hg HBp.out)).2 ,(duo (ab hg HBq.out)).1,(duo (ab hg HBq.out)).2 ,(duo (ab hg HBr.out)).1,(duo (ab hg HBr.out)).2 ,(duo (ab hg HBo.out)).1,(duo (ab hg HBo.out)).2 ,(duo (ab hg HBb.out)).1,(duo (ab hg HBb.out)).2 ,(duo (ab hg HA.out)).1,(duo (ab hg HA.out)).2⟩)
    have KS7:=aa (fun (W W7:World) (hg:Below S4.drew.heap.size S4.drew W) (hk:BK ub.heap.size W W7)=>show (fun w'=>w'.cell? ⟨gm1,0,none⟩=some (.bool bm)∧w'.cell? ⟨gm1,1,none⟩=some (.slice am nm km)∧w'.cell? ⟨gn1,0,none⟩=some (.bool bn)∧w'.cell? ⟨gn1,1,none⟩=some (.slice an nn kn)∧w'.cell? ⟨V1.heap.size,0,none⟩=some (.bool bp)∧w'.cell? ⟨V1.heap.size,1,none⟩=some (.slice ap lp kp)∧w'.cell? ⟨V2.heap.size,0,none⟩=some (.bool bq)∧w'.cell? ⟨V2.heap.size,1,none⟩=some (.slice aq lq kq)∧w'.cell? ⟨V3.heap.size,0,none⟩=some (.bool br)∧w'.cell? ⟨V3.heap.size,1,none⟩=some (.slice ar lr kr)∧w'.cell? ⟨V4.heap.size,0,none⟩=some (.bool bo)∧w'.cell? ⟨V4.heap.size,1,none⟩=some (.slice ao lo ko)∧w'.cell? ⟨w.heap.size+1,0,none⟩=some (.bool b1)∧w'.cell? ⟨w.heap.size+1,1,none⟩=some (.slice a1 z1.length n1)∧w'.cell? ⟨w.heap.size,0,none⟩=some (.bool b0)∧w'.cell? ⟨w.heap.size,1,none⟩=some (.slice a0 z0.length n0)) W7 from ⟨(duo (hk.box _ _ _ (by decide) (by decide) (ab hg HM.out))).1,(duo (hk.box _ _ _ (by decide) (by decide) (ab hg HM.out))).2 ,(duo (hk.box _ _ _ (by decide) (by decide) (ab hg HN.out))).1,(duo (hk.box _ _ _ (by decide) (by decide) (ab hg HN.out))).2 ,(duo (hk.box _ _ _ (by decide) (by decide) (ab hg HBp.out))).1,(duo (hk.box _ _ _ (by decide) (by decide) (ab hg HBp.out))).2 ,(duo (hk.box _ _ _ (by decide) (by decide) (ab hg HBq.out))).1,(duo (hk.box _ _ _ (by decide) (by decide) (ab hg HBq.out))).2 ,(duo (hk.box _ _ _ (by decide) (by decide) (ab hg HBr.out))).1,(duo (hk.box _ _ _ (by decide) (by decide) (ab hg HBr.out))).2 ,(duo (hk.box _ _ _ (by decide) (by decide) (ab hg HBo.out))).1,(duo (hk.box _ _ _ (by decide) (by decide) (ab hg HBo.out))).2 ,(duo (hk.box _ _ _ (by decide) (by decide) (ab hg HBb.out))).1,(duo (hk.box _ _ _ (by decide) (by decide) (ab hg HBb.out))).2 ,(duo (hk.box _ _ _ (by decide) (by decide) (ab hg HA.out))).1,(duo (hk.box _ _ _ (by decide) (by decide) (ab hg HA.out))).2⟩)
    have KS8:=aa (fun (W W7 W8:World) (hg:Below S4.drew.heap.size S4.drew W) (hk:BK ub.heap.size W W7) (hb:Below W7.heap.size W7 W8)=>show (fun w'=>w'.cell? ⟨gm1,0,none⟩=some (.bool bm)∧w'.cell? ⟨gm1,1,none⟩=some (.slice am nm km)∧w'.cell? ⟨gn1,0,none⟩=some (.bool bn)∧w'.cell? ⟨gn1,1,none⟩=some (.slice an nn kn)∧w'.cell? ⟨V1.heap.size,0,none⟩=some (.bool bp)∧w'.cell? ⟨V1.heap.size,1,none⟩=some (.slice ap lp kp)∧w'.cell? ⟨V2.heap.size,0,none⟩=some (.bool bq)∧w'.cell? ⟨V2.heap.size,1,none⟩=some (.slice aq lq kq)∧w'.cell? ⟨V3.heap.size,0,none⟩=some (.bool br)∧w'.cell? ⟨V3.heap.size,1,none⟩=some (.slice ar lr kr)∧w'.cell? ⟨V4.heap.size,0,none⟩=some (.bool bo)∧w'.cell? ⟨V4.heap.size,1,none⟩=some (.slice ao lo ko)∧w'.cell? ⟨w.heap.size+1,0,none⟩=some (.bool b1)∧w'.cell? ⟨w.heap.size+1,1,none⟩=some (.slice a1 z1.length n1)∧w'.cell? ⟨w.heap.size,0,none⟩=some (.bool b0)∧w'.cell? ⟨w.heap.size,1,none⟩=some (.slice a0 z0.length n0)) W8 from ⟨(duo (ab hb (hk.box _ _ _ (by decide) (by decide) (ab hg HM.out)))).1,(duo (ab hb (hk.box _ _ _ (by decide) (by decide) (ab hg HM.out)))).2 ,(duo (ab hb (hk.box _ _ _ (by decide) (by decide) (ab hg HN.out)))).1,(duo (ab hb (hk.box _ _ _ (by decide) (by decide) (ab hg HN.out)))).2 ,(duo (ab hb (hk.box _ _ _ (by decide) (by decide) (ab hg HBp.out)))).1,(duo (ab hb (hk.box _ _ _ (by decide) (by decide) (ab hg HBp.out)))).2 ,(duo (ab hb (hk.box _ _ _ (by decide) (by decide) (ab hg HBq.out)))).1,(duo (ab hb (hk.box _ _ _ (by decide) (by decide) (ab hg HBq.out)))).2 ,(duo (ab hb (hk.box _ _ _ (by decide) (by decide) (ab hg HBr.out)))).1,(duo (ab hb (hk.box _ _ _ (by decide) (by decide) (ab hg HBr.out)))).2 ,(duo (ab hb (hk.box _ _ _ (by decide) (by decide) (ab hg HBo.out)))).1,(duo (ab hb (hk.box _ _ _ (by decide) (by decide) (ab hg HBo.out)))).2 ,(duo (ab hb (hk.box _ _ _ (by decide) (by decide) (ab hg HBb.out)))).1,(duo (ab hb (hk.box _ _ _ (by decide) (by decide) (ab hg HBb.out)))).2 ,(duo (ab hb (hk.box _ _ _ (by decide) (by decide) (ab hg HA.out)))).1,(duo (ab hb (hk.box _ _ _ (by decide) (by decide) (ab hg HA.out)))).2⟩)
    clear HX HY HPx HPy HLa HLb
    have g0:Below S4.drew.heap.size S4.drew S4.drew:=Below.refl _ _
    have K1:=aa (fun (W:World) (hg:Below S4.drew.heap.size S4.drew W)=>show Calls Tryz.prog 18 #[.agg #[.bool bm,.slice am nm km],.agg #[.bool bn,.slice an nn kn],.int .i64 8] W (bf W (bg zA zB)) from eA 8 _ _ zA zB (bg zA zB) W (HZm.out.below hg) (HZn.out.below hg) hbA hbB (fun i=>mi zA zB i) (nF zA zB) (fun _=>kT))
    have K3:=aa (fun (W:World) (hg:Below S4.drew.heap.size S4.drew W)=>show Calls Tryz.prog 18 #[.agg #[.bool bm,.slice am nm km],.agg #[.bool bn,.slice an nn kn],.int .i64 14] W (bf W (zor zA zB)) from eA 14 _ _ zA zB (zor zA zB) W (HZm.out.below hg) (HZn.out.below hg) hbA hbB (fun i=>iM zA zB i) (lZ zA zB) (fun _=>jA))
    have K5:=aa (fun (W:World) (hg:Below S4.drew.heap.size S4.drew W)=>show Calls Tryz.prog 18 #[.agg #[.bool bm,.slice am nm km],.agg #[.bool bn,.slice an nn kn],.int .i64 6] W (bf W (bi zA zB)) from eA 6 _ _ zA zB (bi zA zB) W (HZm.out.below hg) (HZn.out.below hg) hbA hbB (fun i=>jl zA zB i) (jW zA zB) (fun _=>kI))
    have K8:=aa (fun (W:World) (v:Value) (hg:Below S4.drew.heap.size S4.drew W) (hv:Zn W v (-1))=>ji v (.agg #[.bool bm,.slice am nm km]) (-1) zA W hv (HZm.out.below hg) (by decide) (by omega))
    have htt:((tl:Int) == (tl:Int))=true:=by simp
    go_wp2
    try dsimp only [List.append]
    go_region_held3 (fun w'=>w'.cell? ⟨gm1,0,none⟩=some (.bool bm)∧w'.cell? ⟨gm1,1,none⟩=some (.slice am nm km)∧w'.cell? ⟨gn1,0,none⟩=some (.bool bn)∧w'.cell? ⟨gn1,1,none⟩=some (.slice an nn kn)∧w'.cell? ⟨V1.heap.size,0,none⟩=some (.bool bp)∧w'.cell? ⟨V1.heap.size,1,none⟩=some (.slice ap lp kp)∧w'.cell? ⟨V2.heap.size,0,none⟩=some (.bool bq)∧w'.cell? ⟨V2.heap.size,1,none⟩=some (.slice aq lq kq)∧w'.cell? ⟨V3.heap.size,0,none⟩=some (.bool br)∧w'.cell? ⟨V3.heap.size,1,none⟩=some (.slice ar lr kr)∧w'.cell? ⟨V4.heap.size,0,none⟩=some (.bool bo)∧w'.cell? ⟨V4.heap.size,1,none⟩=some (.slice ao lo ko)∧w'.cell? ⟨w.heap.size+1,0,none⟩=some (.bool b1)∧w'.cell? ⟨w.heap.size+1,1,none⟩=some (.slice a1 z1.length n1)∧w'.cell? ⟨w.heap.size,0,none⟩=some (.bool b0)∧w'.cell? ⟨w.heap.size,1,none⟩=some (.slice a0 z0.length n0)) (first|with_reducible exact KS8.out _ _ _ g9 hk7 hb10|with_reducible exact KS7.out _ _ g9 hk7|with_reducible exact KS.out _ (bH g9 _) | with_reducible exact KS.out _ g9|with_reducible exact KS.out _ g8|with_reducible exact KS.out _ g7|with_reducible exact KS.out _ g6|with_reducible exact KS.out _ g5|with_reducible exact KS.out _ g4|with_reducible exact KS.out _ g3|with_reducible exact KS.out _ g2|with_reducible exact KS.out _ g1|with_reducible exact KS.out _ g0) (first
     | (go_at_call 23;refine (kO s7 (HTB.out.below ((HBB.out.trans (g9.mono HBB.out.size)).trans hk7.below))).mono ?_;rintro e' s8 ⟨rfl,hb10⟩)
     | (go_at_call_of 22 bw;refine (fE _ _ z1 s7 (HLbB.out.below ((HBB.out.trans (g9.mono HBB.out.size)).trans hk7.below)) (HA1B.out.below ((HBB.out.trans (g9.mono HBB.out.size)).trans hk7.below)) (by omega)).mono ?_;rintro e' wn ⟨rfl,hw⟩;rw [hw];clear hw wn)
     | (go_at_call_of 22 aw;refine (fE _ _ z0 s7 (HLaB.out.below ((HBB.out.trans (g9.mono HBB.out.size)).trans hk7.below)) (HA0B.out.below ((HBB.out.trans (g9.mono HBB.out.size)).trans hk7.below)) (by omega)).mono ?_;rintro e' wn ⟨rfl,hw⟩;rw [hw];clear hw wn)
     | (go_at_call 21;refine (jr ub.heap.size [.slice ap lp kp,.slice aq lq kq,.slice ar lr kr,.slice ao lo ko] [rp,rq,rr,ro] t9 ((Ch.below g9).aparts) (by simp) (by simp;omega) (Nat.le_trans HBB.out.size g9.size)).mono ?_;rintro e' s7 ⟨rfl,hk7⟩)
     | (go_at_call 13;refine (df 0 t9).mono ?_;rintro e' wn ⟨rfl,hw⟩;rw [hw];clear hw wn)
     | (go_at_call_of 17 ao;refine (d4 bo ao lo ko co _ (-1 - zA) _ t8 (HZo.out.below g8) y8).mono ?_;rintro e' t9 ⟨rfl,hb9⟩;have g9:=g8.trans (hb9.mono g8.size))
     | (go_at_call 19;refine (K8.out t7 _ g7 y7).mono ?_;rintro e' t8 ⟨⟨b28,a28,n28,k28,rfl,y8⟩,hb8⟩;have g8:=g7.trans (hb8.mono g7.size))
     | (go_at_call 20;refine (eC (-1) t6 (by omega) (by omega)).mono ?_;rintro e' t7 ⟨⟨b27,a27,n27,k27,rfl,y7⟩,hb7⟩;have g7:=g6.trans (hb7.mono g6.size))
     | (go_at_call_of 17 ar;refine (d4 br ar lr kr cr _ (bi zA zB) _ t5 (HZr.out.below g5) y5).mono ?_;rintro e' t6 ⟨rfl,hb6⟩;have g6:=g5.trans (hb6.mono g5.size))
     | (go_at_call 18;refine (K5.out t4 g4).mono ?_;rintro e' t5 ⟨⟨b25,a25,n25,k25,rfl,y5⟩,hb5⟩;have g5:=g4.trans (hb5.mono g4.size))
     | (go_at_call_of 17 aq;refine (d4 bq aq lq kq cq _ (zor zA zB) _ t3 (HZq.out.below g3) y3).mono ?_;rintro e' t4 ⟨rfl,hb4⟩;have g4:=g3.trans (hb4.mono g3.size))
     | (go_at_call 18;refine (K3.out t2 g2).mono ?_;rintro e' t3 ⟨⟨b23,a23,n23,k23,rfl,y3⟩,hb3⟩;have g3:=g2.trans (hb3.mono g2.size))
     | (go_at_call_of 17 ap;refine (d4 bp ap lp kp cp _ (bg zA zB) _ t1 (HZp.out.below g1) y1).mono ?_;rintro e' t2 ⟨rfl,hb2⟩;have g2:=g1.trans (hb2.mono g1.size))
     | (go_at_call 18;refine (K1.out _ g0).mono ?_;rintro e' t1 ⟨⟨b21,a21,n21,k21,rfl,y1⟩,hb1⟩;have g1:=g0.trans (hb1.mono g0.size)))
    have HFIN:=aa (HWB.out.trans ((((HBB.out.trans (g9.mono HBB.out.size)).trans hk7.below).trans (hb10.mono (Nat.le_trans (Nat.le_trans HBB.out.size g9.size) hk7.below.size))).mono HWB.out.size))
    clear hb1 hb2 hb3 hb4 hb5 hb6 hb7 hb8 hb9 hb10 hk7
    go_wp2
    go_ret
    exact⟨rfl,HFIN.out⟩

end Go.Proofs.YtcbpdngogkbndaaGreatDoor
