/- Package whole: divide, downwards. -/
import Derived.Test.YtcbpdngogkbndaaGreatDoorB09
import Derived.Test.YtcbpdngogkbndaaGreatDoorB02
import Derived.Deep.RegionHeld3
import Derived.Test.YtcbpdngogkbndaaGreatDoorB01
import Derived.Test.YtcbpdngogkbndaaGreatDoorB05
set_option maxRecDepth 20000
set_option maxHeartbeats 4000000
namespace Go.Proofs.YtcbpdngogkbndaaGreatDoor
open Go.RowKit
open Lm
attribute [local go_sem ↓] Go.wp_at_zero Go.wp_at_succ

theorem kQ {x y n:Nat}(hy:0<y)(h:n+blen y<blen x):n<blen (x / y):=by
 refine Nat.lt_of_not_le fun hle=>?_
 have h1:=(blen_le_iff (x / y) n).1 hle
 have h2:=(blen_le_iff y _).1 (Nat.le_refl _)
 have h3:x<2 ^ (n+blen y):=by
  rw [Nat.pow_add]
  have h4:=Nat.div_add_mod x y
  have h5:=Nat.mod_lt x hy
  have h6:y*(x / y+1)≤2 ^ blen y*2 ^ n:=Nat.mul_le_mul (Nat.le_of_lt h2) h1
  rw [Nat.mul_add,Nat.mul_one] at h6
  rw [Nat.mul_comm (2 ^ n)]
  omega
 have h7:=(blen_le_iff x _).2 h3
 omega

attribute [local go_sem] jF il in
theorem wdivide_2 (b1:Bool)(v:Value)(X:List Nat)(b2:Bool)(u:Value)(Y:List Nat)(ap fu:Bool)(qz rz:Int)(w:World)(hA:Arg w v X)(hB:Arg w u Y)(hT:Tab w)(hx:X.length≤17592186043904)(hy:Y.length≤17592186043904)(hy0:0<val Y)
  (hap:(b1 != b2)=ap) (hfu:ap=fu)
  (hqz:qz=zz ap (val X / val Y+if fu && decide (0<val X % val Y) then 1 else 0)) (hrz:rz=zz (if fu && decide (0<val X % val Y) then !b1 else b1) (if fu && decide (0<val X % val Y) then val Y - val X % val Y else val X % val Y)) :
  Calls Tryz.prog 80 #[.int .i64 1,.agg #[.bool b1,v],.agg #[.bool b2,u]] w (fD w qz rz):=by
 have hap2:(!(b1 == b2))=ap:=hap
 have HFU:=aa hfu
 clear hfu
 obtain⟨a,n,rfl,hn1,hn2,_⟩:=hA.form
 obtain⟨a9,n9,rfl,hn3,hn4,_⟩:=hB.form
 obtain⟨w0,hw0,hb0,h0,h1,h2,h3⟩:=fN w (.cells #[.bool b1,.slice a X.length n] 27) (.cells #[.bool b2,.slice a9 Y.length n9] 27) (.cells #[.bool false,.slice none 0 0] 27) (.cells #[.bool false,.slice none 0 0] 27)
 obtain⟨k0,k1⟩:=duo h0
 obtain⟨k2,k3⟩:=duo h1
 have hbx:blen (val X)≤64*X.length:=fK X hA.limbs
 have hby:blen (val Y)≤64*Y.length:=fK Y hB.limbs
 have HZ:=dR _ Y w0 (hB.below hb0)
 rw [decide_eq_false (by omega)] at HZ
 obtain⟨wd,hwd⟩:∃wd,w0.drew=wd:=⟨_,rfl⟩
 have hbd:Below w0.heap.size w0 wd:=by rw [←hwd];exact (Below.refl _ _).drew
 have hbwd:=hb0.trans (hbd.mono hb0.size)
 have L1:=aF _ X wd (hA.below hbwd)
 have L2:=aF _ Y wd (hB.below hbwd)
 have g0:=ab hbd h0
 have g1:=ab hbd h1
 obtain⟨d0,d1⟩:=duo g0
 obtain⟨d2,d3⟩:=duo g1
 have HG0:=aa g0
 have HG1:=aa g1
 have HG2:=aa (ab hbd h2)
 have HG3:=aa (ab hbd h3)
 have HWD:=aa hbwd
 obtain⟨dd,hdd⟩:∃dd:Int,((blen (val X):Nat):Int) - ((blen (val Y):Nat):Int)=dd:=⟨_,rfl⟩
 have wdd:IntKind.i64.wrap dd=dd:=by rw [IntKind.wrap_i64];omega
 have wdd2:IntKind.i64.wrap (((blen (val X):Nat):Int) - ((blen (val Y):Nat):Int))=dd:=by rw [IntKind.wrap_i64];omega
 have HQZ:=aa hqz
 have HRZ:=aa hrz
 have HA:=aa (hA.below hbwd)
 have HB:=aa (hB.below hbwd)
 have HT:=aa (hT.below hbwd)
 by_cases hbig:67108864+blen (val Y)<blen (val X)
 ·have i1:(67108864:Int)<dd:=by omega
  have HBQ:Hid (67108864<blen qz.natAbs):=by
   refine aa ?_
   rw [hqz,az]
   refine Nat.lt_of_lt_of_le ?_ (blen_mono (Nat.le_add_right _ _))
   exact kQ (by omega) hbig
  generalize blen (val X)=lx at *
  generalize blen (val Y)=ly at *
  clear hA hB hT hb0 h0 h1 h2 h3 hbd hbwd g0 g1 HQZ HRZ hqz hrz hbig
  go_enter Tryz.func80,Tryz.ntmps80
  go_wp2_with fail
  refine HZ.mono ?_
  rintro e wn ⟨rfl,hw⟩;rw [hw];clear hw wn HZ
  go_wp2
  go_region_held3 (fun w'=>w'.cell? ⟨w.heap.size,1,none⟩=some (.slice a X.length n)∧w'.cell? ⟨w.heap.size+1,1,none⟩=some (.slice a9 Y.length n9)) (go_keep) (first
   | (go_at_call_of 74 a;(try rw [hwd]);refine L1.mono ?_;rintro e' wn ⟨rfl,hw⟩;rw [hw];clear hw wn)
   | (go_at_call_of 74 a9;(try rw [hwd]);refine L2.mono ?_;rintro e' wn ⟨rfl,hw⟩;rw [hw];clear hw wn))

  have HR2:=HG2
  have HR3:=HG3
  have HBE:=HWD
  have hf2:=ae HR2.out
  have hf3:=ae HR3.out
  obtain⟨m0,m1⟩:=duo HR2.out
  obtain⟨m2,m3⟩:=duo HR3.out
  go_wp2
  have hq4:=bT (base:=w.heap.size) (u0:=.bool false) (u1:=(.slice none 0 0)) (u2:=.bool false) (u3:=(.slice none 0 0)) HR2.out HR3.out
  have HD:=aa (And.intro hq4.2.2 (bR HBE.out (g:=w.heap.size+2) (u0:=.bool false) (u1:=(.slice none 0 0)) (u2:=.bool false) (u3:=(.slice none 0 0)) (by omega)))
  obtain⟨R5,R6,_⟩:=hq4
  generalize (((wd.setCell ⟨w.heap.size+2,0,none⟩ (.bool false)).setCell ⟨w.heap.size+2,1,none⟩ ((.slice none 0 0))).setCell ⟨w.heap.size+2+1,0,none⟩ (.bool false)).setCell ⟨w.heap.size+2+1,1,none⟩ ((.slice none 0 0))=w5 at *
  obtain⟨q0,q1⟩:=duo R5
  obtain⟨q2,q3⟩:=duo R6
  refine bodyPost_ret (v:=.tuple #[.agg #[.bool false,(.slice none 0 0)],.agg #[.bool false,(.slice none 0 0)],.int .i64 3]) (by simp [results,Tryz.results80,go_sem,q0,q1,q2,q3]) rfl ?_
  exact⟨⟨_,_,_,_,_,_,_,_,3,rfl,[],[],Ans.nil _ _,Ans.nil _ _,.inl rfl,.inr ⟨rfl,rfl,rfl,rfl,rfl,rfl,rfl,.inl HBQ.out⟩⟩,HD.out.2⟩
 ·have i1:¬(67108864:Int)<dd:=by omega
  have HBO:=wboth_any (blen (val X)) X Y _ _ wd (by omega) HA.out HB.out HT.out (by omega) (by omega) hy0
  generalize blen (val X)=lx at *
  generalize blen (val Y)=ly at *
  clear hA hB hT hb0 h0 h1 h2 h3 hbd hbwd g0 g1 hqz hrz hbig
  go_enter Tryz.func80,Tryz.ntmps80
  go_wp2_with fail
  refine HZ.mono ?_
  rintro e wn ⟨rfl,hw⟩;rw [hw];clear hw wn HZ
  go_wp2
  go_region_held3 (fun w'=>w'.cell? ⟨w.heap.size,1,none⟩=some (.slice a X.length n)∧w'.cell? ⟨w.heap.size+1,1,none⟩=some (.slice a9 Y.length n9)) (go_keep) (first
   | (go_at_call_of 74 a;(try rw [hwd]);refine L1.mono ?_;rintro e' wn ⟨rfl,hw⟩;rw [hw];clear hw wn)
   | (go_at_call_of 74 a9;(try rw [hwd]);refine L2.mono ?_;rintro e' wn ⟨rfl,hw⟩;rw [hw];clear hw wn))

  go_wp2_with fail
  refine HBO.mono ?_
  rintro e w1 ⟨⟨v1,v2,rq,rr,rfl,A1,A2,e1,t1,e2,t2,hapt⟩,hb1⟩
  obtain⟨aq,kq,rfl⟩:=A1.shape
  obtain⟨ar,kr,rfl⟩:=A2.shape
  have hlq:rq.length≤X.length:=by
   rw [←t1];refine aB rq _ ?_
   rw [e1];exact Nat.lt_of_le_of_lt (Nat.div_le_self _ _) (val_lt HA.out.limbs)
  have hlr:rr.length≤Y.length:=by
   rw [←t2];refine aB rr _ ?_
   rw [e2];exact Nat.lt_trans (Nat.mod_lt _ hy0) (val_lt HB.out.limbs)
  have hnz:=fp t2
  rw [e2] at hnz
  have HWB:=aa (HWD.out.trans (hb1.mono HWD.out.size))
  have HK0:=aa (ab hb1 HG0.out)
  have HK1:=aa (ab hb1 HG1.out)
  have HR2:=aa (ab hb1 HG2.out)
  have HR3:=aa (ab hb1 HG3.out)
  have HB1:=aa (HB.out.below hb1)
  have HT1:=aa (HT.out.below hb1)
  have HQA:=aa (And.intro (A1.base HWD.out.size) (And.intro e1 t1))
  have HRA:=aa (And.intro (A2.base HWD.out.size) (And.intro e2 t2))
  have HAP:=aa hapt
  have HLQ:=aa (And.intro (show rq.length≤1125899906842624 by omega) (show rr.length≤1125899906842624 by omega))
  obtain⟨f0,f1⟩:=duo HK0.out
  obtain⟨f2,f3⟩:=duo HK1.out
  obtain⟨lq,hnq⟩:∃lq,rq.length=lq:=⟨_,rfl⟩
  obtain⟨lr,hnr⟩:∃lr,rr.length=lr:=⟨_,rfl⟩
  rw [hnq] at HQA HAP ⊢
  rw [hnr] at HRA HAP ⊢
  have HLN:=aa (And.intro hlq (And.intro hlr (And.intro hnq hnr)))
  rw [hnr] at hnz
  clear A1 A2 e1 e2 t1 t2 hapt hb1 HBO k0 k1 k2 k3 d0 d1 d2 d3 hlq hlr hnq hnr HG0 HG1 HG2 HG3 HA HB HT L1 L2
  go_wp2
  go_quiet (fail)
  obtain⟨wq,hwq⟩:∃wq,wq=w1.drewN nq:=⟨_,rfl⟩
  have hbq:Below w1.heap.size w1 wq:=by rw [hwq];exact ((aw.refl w1).drewN nq).below _
  rw [←hwq]
  have HWB2:=aa (HWB.out.trans (hbq.mono HWB.out.size))
  have HK12:=aa (ab hbq HK1.out)
  have HR22:=aa (ab hbq HR2.out)
  have HR32:=aa (ab hbq HR3.out)
  have HB12:=aa (HB1.out.below hbq)
  have HQA2:=aa (And.intro (HQA.out.1.below hbq) HQA.out.2)
  have HRA2:=aa (And.intro (HRA.out.1.below hbq) HRA.out.2)
  clear HWB HK0 HK1 HR2 HR3 HB1 HQA HRA f0 f1 f2 f3 hwq hbq HT1
  have HWB:=HWB2
  have HR2:=HR22
  have HR3:=HR32
  obtain⟨f2,f3⟩:=duo HK12.out
  clear HWB2 HR22 HR32
  by_cases hr:0<lr
  ·have i3:(0:Int)<(lr:Int):=by omega
   have hr0:0<val X % val Y:=by omega
   have hml:=Nat.mod_lt (val X) hy0
   clear hnz
   have HLS:=f9 _ (.slice ar lr kr) Y rr wq HB12.out (HRA2.out.1.arg HLQ.out.2) (by omega) (by rw [HRA2.out.2.1];omega)
   rw [HRA2.out.2.1] at HLS
   go_wp2_with fail
   refine HLS.mono ?_
   rintro e w3 ⟨⟨v3,r3,rfl,A3,e3,t3⟩,hb3⟩
   obtain⟨a3,k3,rfl⟩:=A3.shape
   have hl3:r3.length≤Y.length:=by
    rw [←t3];refine aB r3 _ ?_
    rw [e3];exact Nat.lt_of_le_of_lt (Nat.sub_le _ _) (val_lt HB12.out.limbs)
   obtain⟨l3,hl3e⟩:∃l3,r3.length=l3:=⟨_,rfl⟩
   rw [hl3e] at A3 ⊢
   have hDV:=wdivs_any w3
   have HB3:=aa hb3
   have HA3:=aa (And.intro A3 (And.intro e3 (And.intro t3 (show r3.length≤1125899906842624 by omega))))
   clear A3 e3 t3 hb3 hl3 hl3e HLS f2 f3 HK12 HB12
   go_wp2_with fail
   refine hDV.mono ?_
   rintro e w4 ⟨rfl,hb4⟩
   have HB4:=aa (HB3.out.trans (hb4.mono HB3.out.size))
   have HA4:=aa (HA3.out.1.below hb4)
   have hFU:Calls Tryz.prog 99 #[dZ (.slice aq lq kq) (.slice ar lr kr) (.slice a3 l3 k3) b1 ap] w4 (fun e w'=>e=.returned (.bool fu)∧Below w4.heap.size w4 w'):=(km aq ar a3 lq kq lr kr l3 k3 b1 ap w4).mono (fun e w' h=>⟨h.1.trans (by rw [HFU.out]),h.2⟩)
   clear hb4 hDV HB3
   go_wp2_with fail
   refine hFU.mono ?_
   rintro e w5 ⟨rfl,hb5⟩
   have hb45:=HB4.out.trans (hb5.mono HB4.out.size)
   have HR2':=aa (ab hb45 HR2.out)
   have HR3':=aa (ab hb45 HR3.out)
   have HQ5:=aa (And.intro (HQA2.out.1.below hb45) HQA2.out.2)
   have HR5:=aa (And.intro (HRA2.out.1.below hb45) HRA2.out.2)
   have HL5:=aa (And.intro ((HA4.out.below hb5).base (Nat.le_trans HWB.out.size (Nat.le_refl _))) (And.intro HA3.out.2.1 HA3.out.2.2.1))
   have HWB5:=aa (HWB.out.trans (hb45.mono HWB.out.size))
   have HLN3:=aa HA3.out.2.2.2
   clear hb5 hb45 hFU HA4 HB4 HA3 HR2 HR3 HWB HQA2 HRA2
   have HR2:=HR2'
   have HR3:=HR3'
   clear HR2' HR3'
   cases fu
   ·have HQ:=HQ5
    have HR:=HR5
    have HWB:=HWB5
    have hq9:=HQZ.out
    have hr9:=HRZ.out
    simp only [Bool.false_and,Bool.false_eq_true,if_false,Nat.add_zero] at hq9 hr9
    clear HQZ HRZ
    have HQZ:=aa hq9
    have HRZ:=aa hr9
    clear hq9 hr9 HQ5 HR5 HL5 HWB5
    obtain⟨wv,hwv,hbv,hxv⟩:=ay w5 (.cells #[.slice aq lq kq,.slice ar lr kr] 25)
    have hAB:=dH w5.heap.size (.slice aq lq kq) (.slice ar lr kr) rq rr wv hxv ((HQ.out.1.arg HLQ.out.1).below hbv) ((HR.out.1.arg HLQ.out.2).below hbv)
    have HR2v:=aa (ab hbv HR2.out)
    have HR3v:=aa (ab hbv HR3.out)
    have HBV:=aa (HWB.out.trans (hbv.mono HWB.out.size))
    have HQv:=aa (HQ.out.1.below hbv)
    have HRv:=aa (HR.out.1.below hbv)
    clear hbv hxv HR2 HR3
    by_cases hbig:67108864<blen (val rq)∨67108864<blen (val rr)
    ·rw [decide_eq_true hbig] at hAB
     have HBIG:=aa hbig
     clear hbig
     go_wp2_with fail
     refine hAB.mono ?_
     rintro e wn ⟨rfl,hw⟩;rw [hw];clear hw wn hAB
     have HR2:=HR2v
     have HR3:=HR3v
     have HBE:=HBV
     have hf2:=ae HR2.out
     have hf3:=ae HR3.out
     obtain⟨m0,m1⟩:=duo HR2.out
     obtain⟨m2,m3⟩:=duo HR3.out
     go_wp2
     have hq4:=bT (base:=w.heap.size) (u0:=.bool false) (u1:=(.slice none 0 0)) (u2:=.bool false) (u3:=(.slice none 0 0)) HR2.out HR3.out
     have HD:=aa (And.intro hq4.2.2 (bR HBE.out (g:=w.heap.size+2) (u0:=.bool false) (u1:=(.slice none 0 0)) (u2:=.bool false) (u3:=(.slice none 0 0)) (by omega)))
     obtain⟨R5,R6,_⟩:=hq4
     generalize (((wv.setCell ⟨w.heap.size+2,0,none⟩ (.bool false)).setCell ⟨w.heap.size+2,1,none⟩ ((.slice none 0 0))).setCell ⟨w.heap.size+2+1,0,none⟩ (.bool false)).setCell ⟨w.heap.size+2+1,1,none⟩ ((.slice none 0 0))=w5 at *
     obtain⟨q0,q1⟩:=duo R5
     obtain⟨q2,q3⟩:=duo R6
     refine bodyPost_ret (v:=.tuple #[.agg #[.bool false,(.slice none 0 0)],.agg #[.bool false,(.slice none 0 0)],.int .i64 3]) (by simp [results,Tryz.results80,go_sem,q0,q1,q2,q3]) rfl ?_
     refine⟨⟨_,_,_,_,_,_,_,_,3,rfl,[],[],Ans.nil _ _,Ans.nil _ _,.inl rfl,.inr ⟨rfl,rfl,rfl,rfl,rfl,rfl,rfl,?_⟩⟩,HD.out.2⟩
     rw [HQZ.out,HRZ.out,az,az,←HQ.out.2.1,←HR.out.2.1]
     exact HBIG.out
    ·rw [decide_eq_false hbig] at hAB
     have HBIG:=aa hbig
     clear hbig
     go_wp2_with fail
     refine hAB.mono ?_
     rintro e wn ⟨rfl,hw⟩;rw [hw];clear hw wn hAB
     have hS1:=bH ap (.slice aq lq kq) rq _ wv HQv.out
     rw [bE ap HQ.out.2.2 HQ.out.2.1,←HQZ.out] at hS1
     go_wp2_with fail
     refine hS1.mono ?_
     rintro e ws ⟨rfl,hbs⟩
     have hS2:=bH b1 (.slice ar lr kr) rr _ ws (HRv.out.below hbs)
     rw [bE b1 HR.out.2.2 HR.out.2.1,←HRZ.out] at hS2
     have HBS:=aa hbs
     clear hbs hS1
     go_wp2_with fail
     refine hS2.mono ?_
     rintro e wt ⟨rfl,hbt⟩
     have hbst:=HBS.out.trans (hbt.mono HBS.out.size)
     have HR2:=aa (ab hbst HR2v.out)
     have HR3:=aa (ab hbst HR3v.out)
     have HBE:=aa (HBV.out.trans (hbst.mono HBV.out.size))
     have HQt:=aa (HQv.out.below hbst)
     have HRt:=aa (HRv.out.below hbst)
     have hf2:=ae HR2.out
     have hf3:=ae HR3.out
     obtain⟨m0,m1⟩:=duo HR2.out
     obtain⟨m2,m3⟩:=duo HR3.out
     clear hbt hbst hS2 HR2v HR3v hwv
     obtain⟨uq,huq⟩:∃ub,decide (qz<0)=ub:=⟨_,rfl⟩
     obtain⟨ur,hur⟩:∃ub,decide (rz<0)=ub:=⟨_,rfl⟩
     rw [huq,hur]
     go_wp2
     have hq4:=bT (base:=w.heap.size) (u0:=.bool uq) (u1:=(.slice aq lq kq)) (u2:=.bool ur) (u3:=(.slice ar lr kr)) HR2.out HR3.out
     have HD:=aa (And.intro hq4.2.2 (bR HBE.out (g:=w.heap.size+2) (u0:=.bool uq) (u1:=(.slice aq lq kq)) (u2:=.bool ur) (u3:=(.slice ar lr kr)) (by omega)))
     obtain⟨R5,R6,_⟩:=hq4
     generalize (((wt.setCell ⟨w.heap.size+2,0,none⟩ (.bool uq)).setCell ⟨w.heap.size+2,1,none⟩ ((.slice aq lq kq))).setCell ⟨w.heap.size+2+1,0,none⟩ (.bool ur)).setCell ⟨w.heap.size+2+1,1,none⟩ ((.slice ar lr kr))=w5 at *
     obtain⟨q0,q1⟩:=duo R5
     obtain⟨q2,q3⟩:=duo R6
     refine bodyPost_ret (v:=.tuple #[.agg #[.bool uq,(.slice aq lq kq)],.agg #[.bool ur,(.slice ar lr kr)],.int .i64 0]) (by simp [results,Tryz.results80,go_sem,q0,q1,q2,q3]) rfl ?_
     refine⟨⟨_,_,_,_,_,_,_,_,0,rfl,rq,rr,HD.out.1 _ _ HQt.out,HD.out.1 _ _ HRt.out,HAP.out,.inl ⟨rfl,huq.symm,?_,HQ.out.2.2,hur.symm,?_,HR.out.2.2,?_,?_⟩⟩,HD.out.2⟩
     ·rw [HQZ.out,az];exact HQ.out.2.1
     ·rw [HRZ.out,az];exact HR.out.2.1
     ·rw [HQZ.out,az,←HQ.out.2.1];have:=HBIG.out;omega
     ·rw [HRZ.out,az,←HR.out.2.1];have:=HBIG.out;omega
   ·obtain⟨w6,hw6,hb6,hx6⟩:=ay w5 (.cells #[.int .u64 1] 60)
    have hblk:Blk w6 w5.heap.size [1]:=hx6
    have A6:=Ans.of_blk (base:=w5.heap.size) (zs:=[1]) (Nat.le_refl _) hblk (by simp) (by simp) (by simp) (by intro z hz;simp at hz;omega)
    have hSM:=kV (.slice aq lq kq) (.slice (some ⟨w5.heap.size,0,none⟩) 1 1) rq [1] w6 ((HQ5.out.1.arg HLQ.out.1).below hb6) (A6.arg (by simp)) (by have:=HLN.out.1;omega) (by simp)
    rw [HQ5.out.2.1,show val [1]=1 from by simp [val]] at hSM
    have HB6:=aa hb6
    clear hb6 hx6 hblk A6
    go_wp2_with fail
    refine hSM.mono ?_
    rintro e w7 ⟨⟨v7,r7,rfl,A7,e7,t7⟩,hb7⟩
    obtain⟨a7,k7,rfl⟩:=A7.shape
    have hb67:=HB6.out.trans (hb7.mono HB6.out.size)
    have HR2':=aa (ab hb67 HR2.out)
    have HR3':=aa (ab hb67 HR3.out)
    have HWB:=aa (HWB5.out.trans (hb67.mono HWB5.out.size))
    have hl7:r7.length≤rq.length+1:=by
     rw [←t7];refine aB r7 _ ?_
     rw [e7]
     have h1:=val_lt HQ5.out.1.limbs
     rw [HQ5.out.2.1] at h1
     rw [Nat.pow_succ]
     have h0:=W_pos rq.length
     generalize 18446744073709551616 ^ rq.length=P9 at *
     omega
    have hlqx:=HLN.out.1
    obtain⟨l7,hl7e⟩:∃l7,r7.length=l7:=⟨_,rfl⟩
    rw [hl7e] at A7 ⊢
    have hAP7:=apart_of2 (v2:=.slice a3 l3 k3) (fun g hg=>Nat.lt_of_lt_of_le (HL5.out.1.own.lt g hg).2 HB6.out.size) A7
    have hs57:w.heap.size≤w6.heap.size:=Nat.le_trans HWB5.out.size HB6.out.size
    have HQ:=aa (And.intro (A7.base hs57) (And.intro e7 t7))
    have HR:=aa (And.intro (HL5.out.1.below hb67) HL5.out.2)
    have hq9:=HQZ.out
    have hr9:=HRZ.out
    rw [decide_eq_true hr0] at hq9 hr9
    simp only [Bool.true_and,if_true] at hq9 hr9
    clear HQ5 HR5 HAP HLQ HR2 HR3 HWB5 HQZ HRZ
    have HAP:=aa hAP7
    have HLQ:=aa (And.intro (show r7.length≤1125899906842624 by omega) HLN3.out)
    have HR2:=HR2'
    have HR3:=HR3'
    have HQZ:=aa hq9
    have HRZ:=aa hr9
    clear hq9 hr9 HL5 hb7 hb67 A7 e7 t7 hSM HB6 hs57 HR2' HR3' hw6
    obtain⟨wv,hwv,hbv,hxv⟩:=ay w7 (.cells #[.slice a7 l7 k7,.slice a3 l3 k3] 25)
    have hAB:=dH w7.heap.size (.slice a7 l7 k7) (.slice a3 l3 k3) r7 r3 wv hxv ((HQ.out.1.arg HLQ.out.1).below hbv) ((HR.out.1.arg HLQ.out.2).below hbv)
    have HR2v:=aa (ab hbv HR2.out)
    have HR3v:=aa (ab hbv HR3.out)
    have HBV:=aa (HWB.out.trans (hbv.mono HWB.out.size))
    have HQv:=aa (HQ.out.1.below hbv)
    have HRv:=aa (HR.out.1.below hbv)
    clear hbv hxv HR2 HR3
    by_cases hbig:67108864<blen (val r7)∨67108864<blen (val r3)
    ·rw [decide_eq_true hbig] at hAB
     have HBIG:=aa hbig
     clear hbig
     go_wp2_with fail
     refine hAB.mono ?_
     rintro e wn ⟨rfl,hw⟩;rw [hw];clear hw wn hAB
     have HR2:=HR2v
     have HR3:=HR3v
     have HBE:=HBV
     have hf2:=ae HR2.out
     have hf3:=ae HR3.out
     obtain⟨m0,m1⟩:=duo HR2.out
     obtain⟨m2,m3⟩:=duo HR3.out
     go_wp2
     have hq4:=bT (base:=w.heap.size) (u0:=.bool false) (u1:=(.slice none 0 0)) (u2:=.bool false) (u3:=(.slice none 0 0)) HR2.out HR3.out
     have HD:=aa (And.intro hq4.2.2 (bR HBE.out (g:=w.heap.size+2) (u0:=.bool false) (u1:=(.slice none 0 0)) (u2:=.bool false) (u3:=(.slice none 0 0)) (by omega)))
     obtain⟨R5,R6,_⟩:=hq4
     generalize (((wv.setCell ⟨w.heap.size+2,0,none⟩ (.bool false)).setCell ⟨w.heap.size+2,1,none⟩ ((.slice none 0 0))).setCell ⟨w.heap.size+2+1,0,none⟩ (.bool false)).setCell ⟨w.heap.size+2+1,1,none⟩ ((.slice none 0 0))=w5 at *
     obtain⟨q0,q1⟩:=duo R5
     obtain⟨q2,q3⟩:=duo R6
     refine bodyPost_ret (v:=.tuple #[.agg #[.bool false,(.slice none 0 0)],.agg #[.bool false,(.slice none 0 0)],.int .i64 3]) (by simp [results,Tryz.results80,go_sem,q0,q1,q2,q3]) rfl ?_
     refine⟨⟨_,_,_,_,_,_,_,_,3,rfl,[],[],Ans.nil _ _,Ans.nil _ _,.inl rfl,.inr ⟨rfl,rfl,rfl,rfl,rfl,rfl,rfl,?_⟩⟩,HD.out.2⟩
     rw [HQZ.out,HRZ.out,az,az,←HQ.out.2.1,←HR.out.2.1]
     exact HBIG.out
    ·rw [decide_eq_false hbig] at hAB
     have HBIG:=aa hbig
     clear hbig
     go_wp2_with fail
     refine hAB.mono ?_
     rintro e wn ⟨rfl,hw⟩;rw [hw];clear hw wn hAB
     have hS1:=bH ap (.slice a7 l7 k7) r7 _ wv HQv.out
     rw [bE ap HQ.out.2.2 HQ.out.2.1,←HQZ.out] at hS1
     go_wp2_with fail
     refine hS1.mono ?_
     rintro e ws ⟨rfl,hbs⟩
     have hS2:=bH (!b1) (.slice a3 l3 k3) r3 _ ws (HRv.out.below hbs)
     rw [bE (!b1) HR.out.2.2 HR.out.2.1,←HRZ.out] at hS2
     have HBS:=aa hbs
     clear hbs hS1
     go_wp2_with fail
     refine hS2.mono ?_
     rintro e wt ⟨rfl,hbt⟩
     have hbst:=HBS.out.trans (hbt.mono HBS.out.size)
     have HR2:=aa (ab hbst HR2v.out)
     have HR3:=aa (ab hbst HR3v.out)
     have HBE:=aa (HBV.out.trans (hbst.mono HBV.out.size))
     have HQt:=aa (HQv.out.below hbst)
     have HRt:=aa (HRv.out.below hbst)
     have hf2:=ae HR2.out
     have hf3:=ae HR3.out
     obtain⟨m0,m1⟩:=duo HR2.out
     obtain⟨m2,m3⟩:=duo HR3.out
     clear hbt hbst hS2 HR2v HR3v hwv
     obtain⟨uq,huq⟩:∃ub,decide (qz<0)=ub:=⟨_,rfl⟩
     obtain⟨ur,hur⟩:∃ub,decide (rz<0)=ub:=⟨_,rfl⟩
     rw [huq,hur]
     go_wp2
     have hq4:=bT (base:=w.heap.size) (u0:=.bool uq) (u1:=(.slice a7 l7 k7)) (u2:=.bool ur) (u3:=(.slice a3 l3 k3)) HR2.out HR3.out
     have HD:=aa (And.intro hq4.2.2 (bR HBE.out (g:=w.heap.size+2) (u0:=.bool uq) (u1:=(.slice a7 l7 k7)) (u2:=.bool ur) (u3:=(.slice a3 l3 k3)) (by omega)))
     obtain⟨R5,R6,_⟩:=hq4
     generalize (((wt.setCell ⟨w.heap.size+2,0,none⟩ (.bool uq)).setCell ⟨w.heap.size+2,1,none⟩ ((.slice a7 l7 k7))).setCell ⟨w.heap.size+2+1,0,none⟩ (.bool ur)).setCell ⟨w.heap.size+2+1,1,none⟩ ((.slice a3 l3 k3))=w5 at *
     obtain⟨q0,q1⟩:=duo R5
     obtain⟨q2,q3⟩:=duo R6
     refine bodyPost_ret (v:=.tuple #[.agg #[.bool uq,(.slice a7 l7 k7)],.agg #[.bool ur,(.slice a3 l3 k3)],.int .i64 0]) (by simp [results,Tryz.results80,go_sem,q0,q1,q2,q3]) rfl ?_
     refine⟨⟨_,_,_,_,_,_,_,_,0,rfl,r7,r3,HD.out.1 _ _ HQt.out,HD.out.1 _ _ HRt.out,HAP.out,.inl ⟨rfl,huq.symm,?_,HQ.out.2.2,hur.symm,?_,HR.out.2.2,?_,?_⟩⟩,HD.out.2⟩
     ·rw [HQZ.out,az];exact HQ.out.2.1
     ·rw [HRZ.out,az];exact HR.out.2.1
     ·rw [HQZ.out,az,←HQ.out.2.1];have:=HBIG.out;omega
     ·rw [HRZ.out,az,←HR.out.2.1];have:=HBIG.out;omega
  ·have i3:¬(0:Int)<(lr:Int):=by omega
   have hr0:val X % val Y=0:=by omega
   have HQ:=HQA2
   have HR:=HRA2
   have hfz:(fu && decide (0<val X % val Y))=false:=by rw [hr0];simp
   have hq9:=HQZ.out
   have hr9:=HRZ.out
   rw [hfz] at hq9 hr9
   simp only [Bool.false_eq_true,if_false,Nat.add_zero] at hq9 hr9
   clear HQZ HRZ
   have HQZ:=aa hq9
   have HRZ:=aa hr9
   clear hq9 hr9 hfz HQA2 HRA2 hnz f2 f3 HK12 HB12
   obtain⟨wv,hwv,hbv,hxv⟩:=ay wq (.cells #[.slice aq lq kq,.slice ar lr kr] 25)
   have hAB:=dH wq.heap.size (.slice aq lq kq) (.slice ar lr kr) rq rr wv hxv ((HQ.out.1.arg HLQ.out.1).below hbv) ((HR.out.1.arg HLQ.out.2).below hbv)
   have HR2v:=aa (ab hbv HR2.out)
   have HR3v:=aa (ab hbv HR3.out)
   have HBV:=aa (HWB.out.trans (hbv.mono HWB.out.size))
   have HQv:=aa (HQ.out.1.below hbv)
   have HRv:=aa (HR.out.1.below hbv)
   clear hbv hxv HR2 HR3
   by_cases hbig:67108864<blen (val rq)∨67108864<blen (val rr)
   ·rw [decide_eq_true hbig] at hAB
    have HBIG:=aa hbig
    clear hbig
    go_wp2_with fail
    refine hAB.mono ?_
    rintro e wn ⟨rfl,hw⟩;rw [hw];clear hw wn hAB
    have HR2:=HR2v
    have HR3:=HR3v
    have HBE:=HBV
    have hf2:=ae HR2.out
    have hf3:=ae HR3.out
    obtain⟨m0,m1⟩:=duo HR2.out
    obtain⟨m2,m3⟩:=duo HR3.out
    go_wp2
    have hq4:=bT (base:=w.heap.size) (u0:=.bool false) (u1:=(.slice none 0 0)) (u2:=.bool false) (u3:=(.slice none 0 0)) HR2.out HR3.out
    have HD:=aa (And.intro hq4.2.2 (bR HBE.out (g:=w.heap.size+2) (u0:=.bool false) (u1:=(.slice none 0 0)) (u2:=.bool false) (u3:=(.slice none 0 0)) (by omega)))
    obtain⟨R5,R6,_⟩:=hq4
    generalize (((wv.setCell ⟨w.heap.size+2,0,none⟩ (.bool false)).setCell ⟨w.heap.size+2,1,none⟩ ((.slice none 0 0))).setCell ⟨w.heap.size+2+1,0,none⟩ (.bool false)).setCell ⟨w.heap.size+2+1,1,none⟩ ((.slice none 0 0))=w5 at *
    obtain⟨q0,q1⟩:=duo R5
    obtain⟨q2,q3⟩:=duo R6
    refine bodyPost_ret (v:=.tuple #[.agg #[.bool false,(.slice none 0 0)],.agg #[.bool false,(.slice none 0 0)],.int .i64 3]) (by simp [results,Tryz.results80,go_sem,q0,q1,q2,q3]) rfl ?_
    refine⟨⟨_,_,_,_,_,_,_,_,3,rfl,[],[],Ans.nil _ _,Ans.nil _ _,.inl rfl,.inr ⟨rfl,rfl,rfl,rfl,rfl,rfl,rfl,?_⟩⟩,HD.out.2⟩
    rw [HQZ.out,HRZ.out,az,az,←HQ.out.2.1,←HR.out.2.1]
    exact HBIG.out
   ·rw [decide_eq_false hbig] at hAB
    have HBIG:=aa hbig
    clear hbig
    go_wp2_with fail
    refine hAB.mono ?_
    rintro e wn ⟨rfl,hw⟩;rw [hw];clear hw wn hAB
    have hS1:=bH ap (.slice aq lq kq) rq _ wv HQv.out
    rw [bE ap HQ.out.2.2 HQ.out.2.1,←HQZ.out] at hS1
    go_wp2_with fail
    refine hS1.mono ?_
    rintro e ws ⟨rfl,hbs⟩
    have hS2:=bH b1 (.slice ar lr kr) rr _ ws (HRv.out.below hbs)
    rw [bE b1 HR.out.2.2 HR.out.2.1,←HRZ.out] at hS2
    have HBS:=aa hbs
    clear hbs hS1
    go_wp2_with fail
    refine hS2.mono ?_
    rintro e wt ⟨rfl,hbt⟩
    have hbst:=HBS.out.trans (hbt.mono HBS.out.size)
    have HR2:=aa (ab hbst HR2v.out)
    have HR3:=aa (ab hbst HR3v.out)
    have HBE:=aa (HBV.out.trans (hbst.mono HBV.out.size))
    have HQt:=aa (HQv.out.below hbst)
    have HRt:=aa (HRv.out.below hbst)
    have hf2:=ae HR2.out
    have hf3:=ae HR3.out
    obtain⟨m0,m1⟩:=duo HR2.out
    obtain⟨m2,m3⟩:=duo HR3.out
    clear hbt hbst hS2 HR2v HR3v hwv
    obtain⟨uq,huq⟩:∃ub,decide (qz<0)=ub:=⟨_,rfl⟩
    obtain⟨ur,hur⟩:∃ub,decide (rz<0)=ub:=⟨_,rfl⟩
    rw [huq,hur]
    go_wp2
    have hq4:=bT (base:=w.heap.size) (u0:=.bool uq) (u1:=(.slice aq lq kq)) (u2:=.bool ur) (u3:=(.slice ar lr kr)) HR2.out HR3.out
    have HD:=aa (And.intro hq4.2.2 (bR HBE.out (g:=w.heap.size+2) (u0:=.bool uq) (u1:=(.slice aq lq kq)) (u2:=.bool ur) (u3:=(.slice ar lr kr)) (by omega)))
    obtain⟨R5,R6,_⟩:=hq4
    generalize (((wt.setCell ⟨w.heap.size+2,0,none⟩ (.bool uq)).setCell ⟨w.heap.size+2,1,none⟩ ((.slice aq lq kq))).setCell ⟨w.heap.size+2+1,0,none⟩ (.bool ur)).setCell ⟨w.heap.size+2+1,1,none⟩ ((.slice ar lr kr))=w5 at *
    obtain⟨q0,q1⟩:=duo R5
    obtain⟨q2,q3⟩:=duo R6
    refine bodyPost_ret (v:=.tuple #[.agg #[.bool uq,(.slice aq lq kq)],.agg #[.bool ur,(.slice ar lr kr)],.int .i64 0]) (by simp [results,Tryz.results80,go_sem,q0,q1,q2,q3]) rfl ?_
    refine⟨⟨_,_,_,_,_,_,_,_,0,rfl,rq,rr,HD.out.1 _ _ HQt.out,HD.out.1 _ _ HRt.out,HAP.out,.inl ⟨rfl,huq.symm,?_,HQ.out.2.2,hur.symm,?_,HR.out.2.2,?_,?_⟩⟩,HD.out.2⟩
    ·rw [HQZ.out,az];exact HQ.out.2.1
    ·rw [HRZ.out,az];exact HR.out.2.1
    ·rw [HQZ.out,az,←HQ.out.2.1];have:=HBIG.out;omega
    ·rw [HRZ.out,az,←HR.out.2.1];have:=HBIG.out;omega
end Go.Proofs.YtcbpdngogkbndaaGreatDoor
namespace Go.Proofs.YtcbpdngogkbndaaGreatDoor
open Go.RowKit
open Lm
attribute [local go_sem ↓] Go.wp_at_zero Go.wp_at_succ

theorem kA (b1:Bool)(v:Value)(X:List Nat)(b2:Bool)(u:Value)(Y:List Nat)(ap fu:Bool)(qz rz:Int)(w:World)(hA:Arg w v X)(hB:Arg w u Y)(hT:Tab w)(hx:X.length≤17592186043904)(hy:Y.length≤17592186043904)(hy0:0<val Y)
  (hap:(b1 != b2)=ap) (hfu:ap=fu)
  (hqz:qz=zz ap (val X / val Y+if fu && decide (0<val X % val Y) then 1 else 0)) (hrz:rz=zz (if fu && decide (0<val X % val Y) then !b1 else b1) (if fu && decide (0<val X % val Y) then val Y - val X % val Y else val X % val Y)) :
  Calls Tryz.prog 55 #[.agg #[.bool b1,v],.agg #[.bool b2,u]] w (fD w qz rz):=by
 obtain⟨a,n,rfl,_,_,_⟩:=hA.form
 obtain⟨a9,n9,rfl,_,_,_⟩:=hB.form
 obtain⟨w0,hw0,hb0,h0,h1,h2,h3⟩:=fN w (.cells #[.bool b1,.slice a X.length n] 27) (.cells #[.bool b2,.slice a9 Y.length n9] 27) (.cells #[.bool false,.slice none 0 0] 27) (.cells #[.bool false,.slice none 0 0] 27)
 obtain⟨k0,k1⟩:=duo h0
 obtain⟨k2,k3⟩:=duo h1
 have HM:=wdivide_2 b1 _ X b2 _ Y ap fu qz rz w0 (hA.below hb0) (hB.below hb0) (hT.below hb0) hx hy hy0 hap hfu hqz hrz
 have HB0:=aa hb0
 have H2:=aa h2
 have H3:=aa h3
 clear hA hB hT hb0 h0 h1 h2 h3 hqz hrz hap hfu
 go_enter Tryz.func55,Tryz.ntmps55
 go_wp2_with fail
 refine HM.mono ?_
 rintro e w1 ⟨⟨b3,a3,n3,m3,b4,a4,n4,m4,c,rfl,rs1,rs2,A1,A2,hap,hcase⟩,hb1⟩
 have HR2:=aa (ab hb1 H2.out)
 have HR3:=aa (ab hb1 H3.out)
 have HBE:=aa (HB0.out.trans (hb1.mono HB0.out.size))
 have HC:=aa (And.intro (A1.base HB0.out.size) (And.intro (A2.base HB0.out.size) (And.intro hap hcase)))
 have hf2:=ae HR2.out
 have hf3:=ae HR3.out
 obtain⟨m0,m1⟩:=duo HR2.out
 obtain⟨m2,m3'⟩:=duo HR3.out
 clear A1 A2 hap hcase hb1 HM hw0 k0 k1 k2 k3 H2 H3
 go_wp2
 have hq4:=bT (base:=w.heap.size) (u0:=.bool b3) (u1:=.slice a3 n3 m3) (u2:=.bool b4) (u3:=.slice a4 n4 m4) HR2.out HR3.out
 have HD:=aa (And.intro hq4.2.2 (bR HBE.out (g:=w.heap.size+2) (u0:=.bool b3) (u1:=.slice a3 n3 m3) (u2:=.bool b4) (u3:=.slice a4 n4 m4) (by omega)))
 obtain⟨R5,R6,_⟩:=hq4
 generalize (((w1.setCell ⟨w.heap.size+2,0,none⟩ (.bool b3)).setCell ⟨w.heap.size+2,1,none⟩ (.slice a3 n3 m3)).setCell ⟨w.heap.size+2+1,0,none⟩ (.bool b4)).setCell ⟨w.heap.size+2+1,1,none⟩ (.slice a4 n4 m4)=w5 at *
 obtain⟨q0,q1⟩:=duo R5
 obtain⟨q2,q3⟩:=duo R6
 refine bodyPost_ret (v:=.tuple #[.agg #[.bool b3,.slice a3 n3 m3],.agg #[.bool b4,.slice a4 n4 m4],.int .i64 c]) (by simp [results,Tryz.results55,go_sem,q0,q1,q2,q3]) rfl ?_
 exact⟨⟨_,_,_,_,_,_,_,_,_,rfl,rs1,rs2,HD.out.1 _ _ HC.out.1,HD.out.1 _ _ HC.out.2.1,HC.out.2.2⟩,HD.out.2⟩
end Go.Proofs.YtcbpdngogkbndaaGreatDoor
namespace Go.Proofs.YtcbpdngogkbndaaGreatDoor
open Lm
end Go.Proofs.YtcbpdngogkbndaaGreatDoor
namespace Go.Proofs.YtcbpdngogkbndaaGreatDoor
open Go.RowKit
open Lm
attribute [local go_sem ↓] Go.wp_at_zero Go.wp_at_succ

theorem Zn.parts {w:World}{v:Value}{z:Int}(h:Zn w v z):∃b a n k,v=.agg #[.bool b,.slice a n k]∧b=decide (z<0)∧Num w (.slice a n k) z.natAbs∧z=zz b z.natAbs:=by
 obtain⟨u,h1,h2⟩:=h
 obtain⟨a,n,k,rfl⟩:=h2.sl
 exact⟨_,a,n,k,h1,rfl,h2,(cY z).symm⟩

theorem cm {w w':World}(h:Below w.drew.heap.size w.drew w'):Below w.heap.size w w':=(Below.refl w.heap.size w).drew.trans h

theorem ax {w w':World}{g o:Nat}{v:Value}(hb:Below w.heap.size w w')(h:w.cell? ⟨g,o,none⟩=some v):w'.cell? ⟨g,o,none⟩=some v:=by
 rw [hb.cell (p:=⟨g,o,none⟩) ?_]
 ·exact h
 ·show g<w.heap.size
  rcases Nat.lt_or_ge g w.heap.size with h' | h'
  ·exact h'
  ·simp [World.cell?,Array.getElem?_eq_none h'] at h

theorem lc {w:World}{v u:Value}{x:Nat}{rs:List Nat}(hn:Num w v x)(ha:Arg w u rs)(ht:tr rs=rs)(hv:val rs=x)(hf:blen x≤1125899906842624) :
  Calls Tryz.prog 77 #[v,u] w fun e w'=>e=.returned (.bool true)∧Below w.heap.size w w':=ka v u x rs w hn ha ht hv hf

theorem eC (v:Value)(z:Int)(u:Value)(rs:List Nat)(w:World)(h:Zn w v z)(ha:Arg w u rs)(ht:tr rs=rs)(hv:val rs=z.natAbs)(hf:blen z.natAbs≤1125899906842624) :
  Calls Tryz.prog 48 #[v,.bool (decide (z<0)),u] w fun e w'=>e=.returned (.bool true)∧Below w.heap.size w w':=by
 obtain⟨b,a,n,k,rfl,hb,hn,hz⟩:=h.parts
 rw [←hb]
 obtain⟨w0,hw0,hb0,h0⟩:=ay w (.cells #[.bool b,.slice a n k] 32)
 obtain⟨k0,k1⟩:=duo h0
 obtain⟨a2,k2,rfl,_,_,_⟩:=ha.form
 have HI:=lc (hn.below hb0) (ha.below hb0) ht hv hf
 have HB0:=aa hb0
 clear h hn hz hb0 h0 ha hb hv hf ht
 have hbb:(b == b)=true:=by simp
 go_enter Tryz.func48,Tryz.ntmps48
 go_wp2_with fail
 refine HI.mono ?_
 rintro e w1 ⟨rfl,hb1⟩
 have HB1:=aa (HB0.out.trans (hb1.mono HB0.out.size))
 clear hb1 HI
 go_wp2
 go_ret
 exact⟨rfl,HB1.out⟩

def aL (y z:Int):Int:=if y<z then -1 else if z<y then 1 else 0

theorem gY (c:Nat)(w:World)(hc:c<9223372036854775808):Calls Tryz.prog 45 #[.int .i64 c] w fun e w'=>(∃v,e=.returned v∧Num w' v c)∧Below w.heap.size w w':=by
 have hA:=Arg.lits w [c] #[.int .u64 (c:Int)] 1 rfl rfl (by intro z hz;simp at hz;omega) (by simp)
 have hb:Below w.heap.size w (w.alloc (.cells #[.int .u64 (c:Int)] 60)):=(Below.refl _ _).alloc (Nat.le_refl _) _
 have HO:=ga _ [c] _ hA (by simp)
 rw [show val [c]=c by simp [val]] at HO
 have HB:=aa hb
 clear hA hb
 go_enter Tryz.func45,Tryz.ntmps45
 go_wp2_with fail
 refine HO.mono ?_
 rintro e w2 ⟨⟨v,rfl,N⟩,hb2⟩
 have HX:=aa (And.intro N (HB.out.trans (hb2.mono HB.out.size)))
 clear N hb2 HO
 go_wp2
 go_ret
 exact⟨⟨v,rfl,HX.out.1⟩,HX.out.2⟩

theorem dg (c:Int)(w:World):Calls Tryz.prog 13 #[.int .i64 c] w fun e w'=>e=.returned (.int .i64 c)∧w'=w:=by
 go_enter Tryz.func13,Tryz.ntmps13
 go_wp2
 go_ret
 exact⟨rfl,rfl⟩

theorem fz (n:Int)(w:World)(h1:-9223372036854775808≤n)(h2:n≤9223372036854775807) :
  Calls Tryz.prog 20 #[.int .i64 n] w (fx w n):=by
 obtain⟨w0,hw0,hb0,hx0⟩:=ay w (.cells #[.bool false,.slice none 0 0] 32)
 have HB0:=aa hb0
 have HX0:=aa hx0
 by_cases hn:n<0
 ·obtain⟨x,hx,hx2⟩:∃x:Nat,n=-(x:Int)∧x<18446744073709551616:=⟨n.natAbs,by omega,by omega⟩
  have q1:IntKind.i64.wrap (n+1)=n+1:=by rw [IntKind.wrap_i64];omega
  have q2:IntKind.i64.wrap (-(n+1))=-(n+1):=by rw [IntKind.wrap_i64];omega
  have q3:IntKind.u64.wrap (-(n+1))=-(n+1):=by rw [IntKind.wrap_u64];omega
  have q4:IntKind.u64.wrap (-(n+1)+1)=(x:Int):=by rw [IntKind.wrap_u64];omega
  obtain⟨w6,hw6,hb6,hx6⟩:=ay w0 (.cells #[.int .u64 x] 60)
  have hblk:Blk w6 w0.heap.size [x]:=hx6
  have A6:=Ans.of_blk (base:=w0.heap.size) (zs:=[x]) (Nat.le_refl _) hblk (by simp) (by simp) (by simp) (by intro z hz;simp at hz;omega)
  have HO:=ga (.slice (some ⟨w0.heap.size,0,none⟩) 1 1) [x] w6 (A6.arg (by simp)) (by simp)
  rw [show val [x]=x from by simp [val]] at HO
  have HB6:=aa hb6
  have ez:zz true x=n:=by simp [zz];omega
  have HEZ:=aa ez
  clear hb0 hx0 hb6 hx6 hblk A6 hx ez
  go_enter Tryz.func20,Tryz.ntmps20
  go_wp2_with fail
  refine HO.mono ?_
  rintro e w1 ⟨⟨v1,rfl,hn1⟩,hb1⟩
  have HM:=eT true v1 x w1 hn1
  rw [HEZ.out] at HM
  have HW1:=aa (HB6.out.trans (hb1.mono HB6.out.size))
  obtain⟨a2,n2,k2,rfl⟩:=hn1.sl
  clear hn1 hb1 HO
  go_wp2_with fail
  refine HM.mono ?_
  rintro e w2 ⟨⟨b1,a1,n1,k1,rfl,hzn⟩,hb2⟩
  have HZN:=aa hzn
  have HW:=aa (HW1.out.trans (hb2.mono HW1.out.size))
  clear hzn hb2 HM hw0 hw6
  have hbx:=ab HW.out HX0.out
  have hf1:=ae hbx
  obtain⟨l0,l1⟩:=duo hbx
  have HBX:=aa hbx
  have HBE:=aa (HB0.out.trans (HW.out.mono HB0.out.size))
  clear hbx
  go_wp2
  have R5:=ak HBX.out (a':=.bool b1) (b':=.slice a1 n1 k1)
  have HD:=aa (And.intro (HZN.out.duo (p1:=b1) (r1:=.slice a1 n1 k1) HBX.out) (ai HBE.out (g:=w.heap.size) (u0:=.bool b1) (u1:=.slice a1 n1 k1) (by omega)))
  generalize (w2.setCell ⟨w.heap.size,0,none⟩ (.bool b1)).setCell ⟨w.heap.size,1,none⟩ (.slice a1 n1 k1)=w5 at *
  obtain⟨q0,q1⟩:=duo R5
  refine bodyPost_ret (v:=.agg #[.bool b1,.slice a1 n1 k1]) (by simp [results,Tryz.results20,go_sem,q0,q1]) rfl ?_
  exact⟨⟨_,_,_,_,rfl,HD.out.1⟩,HD.out.2⟩
 ·obtain⟨x,hx,hx2⟩:∃x:Nat,n=(x:Int)∧x<9223372036854775808:=⟨n.natAbs,by omega,by omega⟩
  subst hx
  have HO:=gY x w0 hx2
  have ez:zz false x=(x:Int):=by simp [zz]
  have HEZ:=aa ez
  clear hb0 hx0 ez
  go_enter Tryz.func20,Tryz.ntmps20
  go_wp2_with fail
  refine HO.mono ?_
  rintro e w1 ⟨⟨v1,rfl,hn1⟩,hb1⟩
  have HM:=eT false v1 x w1 hn1
  rw [HEZ.out] at HM
  have HW1:=aa hb1
  obtain⟨a2,n2,k2,rfl⟩:=hn1.sl
  clear hn1 hb1 HO
  go_wp2_with fail
  refine HM.mono ?_
  rintro e w2 ⟨⟨b1,a1,n1,k1,rfl,hzn⟩,hb2⟩
  have HZN:=aa hzn
  have HW:=aa (HW1.out.trans (hb2.mono HW1.out.size))
  clear hzn hb2 HM hw0
  have hbx:=ab HW.out HX0.out
  have hf1:=ae hbx
  obtain⟨l0,l1⟩:=duo hbx
  have HBX:=aa hbx
  have HBE:=aa (HB0.out.trans (HW.out.mono HB0.out.size))
  clear hbx
  go_wp2
  have R5:=ak HBX.out (a':=.bool b1) (b':=.slice a1 n1 k1)
  have HD:=aa (And.intro (HZN.out.duo (p1:=b1) (r1:=.slice a1 n1 k1) HBX.out) (ai HBE.out (g:=w.heap.size) (u0:=.bool b1) (u1:=.slice a1 n1 k1) (by omega)))
  generalize (w2.setCell ⟨w.heap.size,0,none⟩ (.bool b1)).setCell ⟨w.heap.size,1,none⟩ (.slice a1 n1 k1)=w5 at *
  obtain⟨q0,q1⟩:=duo R5
  refine bodyPost_ret (v:=.agg #[.bool b1,.slice a1 n1 k1]) (by simp [results,Tryz.results20,go_sem,q0,q1]) rfl ?_
  exact⟨⟨_,_,_,_,rfl,HD.out.1⟩,HD.out.2⟩

theorem gH (b:Bool)(a:Option Addr)(m n:Nat)(w:World) :
  Calls Tryz.prog 24 #[.agg #[.bool b,.slice a m n]] w fun e w'=>e=.returned (.agg #[.bool b,.slice a m n])∧Below w.heap.size w w':=by
 obtain⟨w0,hw0,hb0,h0,hx0⟩:=aQ w (.cells #[.bool b,.slice a m n] 24) (.cells #[.bool false,.slice none 0 0] 27)
 obtain⟨k0,k1⟩:=duo h0
 have HB0:=aa hb0
 have HX0:=aa hx0
 have HW:Hid (Below w0.heap.size w0 w0):=aa (Below.refl _ _)
 clear hb0 h0 hx0
 have hbx:=ab HW.out HX0.out
 have hf1:=ae hbx
 obtain⟨l0,l1⟩:=duo hbx
 have HBX:=aa hbx
 have HBE:=aa (HB0.out.trans (HW.out.mono HB0.out.size))
 clear hbx
 go_enter Tryz.func24,Tryz.ntmps24
 go_wp2
 have R5:=ak HBX.out (a':=.bool b) (b':=.slice a m n)
 have HD:=aa (ai HBE.out (g:=w.heap.size+1) (u0:=.bool b) (u1:=.slice a m n) (by omega))
 generalize (w0.setCell ⟨w.heap.size+1,0,none⟩ (.bool b)).setCell ⟨w.heap.size+1,1,none⟩ (.slice a m n)=w5 at *
 obtain⟨q0,q1⟩:=duo R5
 refine bodyPost_ret (v:=.agg #[.bool b,.slice a m n]) (by simp [results,Tryz.results24,go_sem,q0,q1]) rfl ?_
 exact⟨rfl,HD.out⟩

theorem dv (w:World)(hT:Tab w):Calls Tryz.prog 23 #[] w fun e w'=>e=.returned (.bool true)∧Below w.heap.size w w':=by
 have H1:=dE (-7) w (by omega) (by omega)
 have HT:=aa hT
 clear hT
 go_enter Tryz.func23,Tryz.ntmps23
 go_wp2_with fail
 refine H1.mono ?_
 rintro e w1 ⟨⟨b1,a1,l1,k1,rfl,rs1,A1,hb1,v1,t1⟩,hw1⟩
 have H2:=dE 2 w1 (by omega) (by omega)
 have HW1:=aa hw1
 have HA1:=aa A1
 have HV1:=aa (And.intro hb1 (And.intro v1 t1))
 clear H1 hw1 A1 hb1 v1 t1
 go_wp2_with fail
 refine H2.mono ?_
 rintro e w2 ⟨⟨b2,a2,l2,k2,rfl,rs2,A2,hb2,v2,t2⟩,hw2⟩
 have HW2:=aa (HW1.out.trans (hw2.mono HW1.out.size))
 obtain⟨hb1,v1,t1⟩:=HV1.out
 have e1:b1=true:=hb1
 have e2:b2=false:=hb2
 subst e1
 subst e2
 have x1:val rs1=7:=v1
 have x2:val rs2=2:=v2
 have f1:rs1.length≤1:=cj t1 x1 (by decide)
 have f2:rs2.length≤1:=cj t2 x2 (by decide)
 have H3:=kA true _ rs1 false _ rs2 true true (-4) 1 w2 ((HA1.out.arg (by omega)).below hw2) (A2.arg (by omega)) (HT.out.below HW2.out) (by omega) (by omega) (by omega) rfl rfl (by rw [x1,x2];decide) (by rw [x1,x2];decide)
 clear H2 hw2 A2 hb2 v2 t2 HA1 HV1 HW1 hb1 v1 t1 x1 x2 f1 f2
 go_wp2_with fail
 refine H3.mono ?_
 rintro e w3 ⟨⟨b3,a3,n3,m3,b4,a4,n4,m4,c,rfl,rs3,rs4,A3,A4,hap,hcase⟩,hw3⟩
 rcases hcase with ⟨rfl,hb3,v3,t3,hb4,v4,t4,_,_⟩|⟨_,_,_,_,_,_,_,hbig⟩
 ·have e3:b3=true:=hb3
  have e4:b4=false:=hb4
  subst e3
  subst e4
  have HW3:=aa (HW2.out.trans (hw3.mono HW2.out.size))
  have HA3:=aa (And.intro A3 (And.intro v3 t3))
  have HA4:=aa (And.intro A4 (And.intro v4 t4))
  clear H3 hw3 A3 A4 hap hb3 hb4 v3 v4 t3 t4 HW2 HT
  obtain⟨w4,hw4,hb4,h40,h41⟩:=aQ w3 (.cells #[.bool true,.slice a3 n3 m3] 27) (.cells #[.bool false,.slice a4 n4 m4] 27)
  obtain⟨d0,d1⟩:=duo (show w4.drew.heap[w3.heap.size]?=some (.cells #[.bool true,.slice a3 n3 m3] 27) from h40)
  obtain⟨d2,d3⟩:=duo (show w4.drew.heap[w3.heap.size+1]?=some (.cells #[.bool false,.slice a4 n4 m4] 27) from h41)
  have hf3:rs3.length≤1:=cj HA3.out.2.2 HA3.out.2.1 (by decide)
  have hf4:rs4.length≤1:=cj HA4.out.2.2 HA4.out.2.1 (by decide)
  have hq4:blen (Int.natAbs (-4))≤64:=by decide
  have hq1:blen (Int.natAbs 1)≤64:=by decide
  have HIS1:=aa (fun (W:World) (v:Value) (hz:Zn W v (-4)) (hb:Below w4.drew.heap.size w4.drew W)=>
   show Calls Tryz.prog 48 #[v,.bool true,.slice a3 n3 m3] W (fun e w'=>e=.returned (.bool true)∧Below W.heap.size W w') by
    have h:=eC v (-4) (.slice a3 n3 m3) rs3 W hz ((((HA3.out.1.arg (by omega)).below hb4).drew).below hb) HA3.out.2.2 HA3.out.2.1 (Nat.le_trans hq4 (by omega))
    rw [show decide ((-4:Int)<0)=true by decide] at h
    exact h)
  have HIS2:=aa (fun (W:World) (v:Value) (hz:Zn W v 1) (hb:Below w4.drew.heap.size w4.drew W)=>
   show Calls Tryz.prog 48 #[v,.bool false,.slice a4 n4 m4] W (fun e w'=>e=.returned (.bool true)∧Below W.heap.size W w') by
    have h:=eC v 1 (.slice a4 n4 m4) rs4 W hz ((((HA4.out.1.arg (by omega)).below hb4).drew).below hb) HA4.out.2.2 HA4.out.2.1 (Nat.le_trans hq1 (by omega))
    rw [show decide ((1:Int)<0)=false by decide] at h
    exact h)
  have HN:=dg 0 w4.drew
  have HI1:=fz (-4) w4.drew (by omega) (by omega)
  have HI2:=aa (fun (W:World)=>fz 1 W (by omega) (by omega))
  have HW4:=aa (HW3.out.trans (hb4.mono HW3.out.size))
  clear hb4 h40 h41 hf3 hf4 HA3 HA4 hq4 hq1
  go_wp2
  go_region_held3 (fun w'=>w'.cell? ⟨w3.heap.size,0,none⟩=some (.bool true)∧w'.cell? ⟨w3.heap.size,1,none⟩=some (.slice a3 n3 m3)∧w'.cell? ⟨w3.heap.size+1,0,none⟩=some (.bool false)∧w'.cell? ⟨w3.heap.size+1,1,none⟩=some (.slice a4 n4 m4)) (go_keep) (first
   | (go_at_call 13;refine HN.mono ?_;rintro e' wn ⟨rfl,hw⟩;rw [hw];clear hw wn)
   | (go_at_call_of 20 (Value.int IntKind.i64 1);refine (HI2.out w6).mono ?_;rintro e' w7 ⟨⟨b7,a7,n7,k7,rfl,z7⟩,hb7⟩;have u0:=ax hb7 y0;have u1:=ax hb7 y1;have u2:=ax hb7 y2;have u3:=ax hb7 y3)
   | (go_at_call 20;refine HI1.mono ?_;rintro e' w5 ⟨⟨b5,a5,n5,k5,rfl,z5⟩,hb5⟩;have x0:=ax hb5 d0;have x1:=ax hb5 d1;have x2:=ax hb5 d2;have x3:=ax hb5 d3)
   | (go_at_call_of 48 a3;refine (HIS1.out w5 _ z5 hb5).mono ?_;rintro e' w6 ⟨rfl,hb6⟩;have y0:=ax hb6 x0;have y1:=ax hb6 x1;have y2:=ax hb6 x2;have y3:=ax hb6 x3)
   | (go_at_call_of 48 a4;refine (HIS2.out w7 _ z7 (hb5.trans ((hb6.trans (hb7.mono hb6.size)).mono hb5.size))).mono ?_;rintro e' w8 ⟨rfl,hb8⟩;have t0:=ax hb8 u0;have t1:=ax hb8 u1;have t2:=ax hb8 u2;have t3:=ax hb8 u3))
  have HB8:=aa (HW4.out.trans ((cm (hb5.trans ((hb6.trans ((hb7.trans (hb8.mono hb7.size)).mono hb6.size)).mono hb5.size))).mono HW4.out.size))
  clear hb5 hb6 hb7 hb8 z5 z7
  go_wp2
  go_ret
  exact⟨rfl,HB8.out⟩
 ·exfalso
  revert hbig
  decide

theorem j4 (x y:Int)(w:World):Calls Tryz.prog 82 #[.int .i64 x,.int .i64 y] w fun e w'=>e=.returned (.int .i64 (aL x y))∧w'=w:=by
 unfold aL
 by_cases h1:x<y
 ·rw [if_pos h1]
  go_enter Tryz.func82,Tryz.ntmps82
  go_wp2
  go_ret
  exact⟨rfl,rfl⟩
 ·rw [if_neg h1]
  by_cases h2:y<x
  ·rw [if_pos h2]
   go_enter Tryz.func82,Tryz.ntmps82
   go_wp2
   go_ret
   exact⟨rfl,rfl⟩
  ·rw [if_neg h2]
   go_enter Tryz.func82,Tryz.ntmps82
   go_wp2
   go_ret
   exact⟨rfl,rfl⟩

theorem kl (x:Int):aL x x=0:=by unfold aL;rw [if_neg (by omega),if_neg (by omega)]

theorem iZ {x y:Int}:aL x y=0 ↔ x=y:=by
 unfold aL
 constructor
 ·intro h
  split at h
  ·cases h
  ·split at h
   ·cases h
   ·omega
 ·rintro rfl
  rw [if_neg (by omega),if_neg (by omega)]

theorem je (x y:Int)(h:aL x.sign y.sign≠0):aL x.sign y.sign=aL x y:=by
 rcases Int.lt_trichotomy x 0 with hx|hx|hx <;> rcases Int.lt_trichotomy y 0 with hy|hy|hy
 all_goals (try rw [Int.sign_eq_neg_one_of_neg hx] at h ⊢) <;> (try rw [Int.sign_eq_one_of_pos hx] at h ⊢) <;> (try rw [Int.sign_eq_neg_one_of_neg hy] at h ⊢) <;> (try rw [Int.sign_eq_one_of_pos hy] at h ⊢)
 all_goals (try subst hx) <;> (try subst hy)
 all_goals (try rw [Int.sign_zero] at h ⊢) <;> unfold aL at h ⊢
 all_goals (repeat (first|rw [if_pos (by omega)] | rw [if_neg (by omega)]))
 all_goals (try rfl)
 all_goals (exfalso;revert h;decide)

theorem ie {x y:Int}(h:aL x.sign y.sign=0):(x<0∧y<0)∨(0≤x∧0≤y):=by
 have e:=iZ.1 h
 rcases Int.lt_trichotomy x 0 with hx|hx|hx
 ·rw [Int.sign_eq_neg_one_of_neg hx] at e
  exact .inl ⟨hx,Int.sign_neg_iff.1 (by omega)⟩
 ·subst hx
  rw [Int.sign_zero] at e
  have:=Int.sign_eq_zero_iff_zero.1 e.symm
  exact .inr ⟨by omega,by omega⟩
 ·rw [Int.sign_eq_one_of_pos hx] at e
  have:=Int.sign_pos_iff.1 (show 0<y.sign by omega)
  exact .inr ⟨by omega,by omega⟩

theorem ik {b1 b2:Bool}{x y:Nat}(h1:zz b1 x<0)(h2:zz b2 y<0):aL (zz b1 x) (zz b2 y)=cmpN y x:=by
 cases b1 <;> cases b2 <;> simp only [zz,Bool.false_eq_true,if_false,if_true] at h1 h2 ⊢ <;> try omega
 unfold aL cmpN
 split <;> split <;> (try split) <;> (try split) <;> omega

theorem j5 {b1 b2:Bool}{x y:Nat}(h1:0≤zz b1 x)(h2:0≤zz b2 y):aL (zz b1 x) (zz b2 y)=cmpN x y:=by
 have e1:zz b1 x=(x:Int):=by cases b1 <;> simp only [zz,Bool.false_eq_true,if_false,if_true] at h1 ⊢ <;> omega
 have e2:zz b2 y=(y:Int):=by cases b2 <;> simp only [zz,Bool.false_eq_true,if_false,if_true] at h2 ⊢ <;> omega
 rw [e1,e2]
 unfold aL cmpN
 split <;> split <;> (try split) <;> (try split) <;> omega

theorem kb (b1:Bool)(v:Value)(X:List Nat)(b2:Bool)(u:Value)(Y:List Nat)(w:World)(hA:Arg w v X)(hB:Arg w u Y) :
  Calls Tryz.prog 58 #[.agg #[.bool b1,v],.agg #[.bool b2,u]] w fun e w'=>e=.returned (.int .i64 (aL (zz b1 (val X)) (zz b2 (val Y))))∧Below w.heap.size w w':=by
 obtain⟨a,n,rfl,_,_,_⟩:=hA.form
 obtain⟨a9,n9,rfl,_,_,_⟩:=hB.form
 obtain⟨w0,hw0,hb0,h0,h1⟩:=aQ w (.cells #[.bool b1,.slice a X.length n] 27) (.cells #[.bool b2,.slice a9 Y.length n9] 27)
 obtain⟨d0,d1⟩:=duo (show w0.drew.heap[w.heap.size]?=some (.cells #[.bool b1,.slice a X.length n] 27) from h0)
 obtain⟨d2,d3⟩:=duo (show w0.drew.heap[w.heap.size+1]?=some (.cells #[.bool b2,.slice a9 Y.length n9] 27) from h1)
 have S1:=dO b1 _ X w0.drew ((hA.below hb0).below (Below.refl _ _).drew)
 have S2:=aa (fun (w1:World) (hb1:Below w0.drew.heap.size w0.drew w1)=>dO b2 _ Y w1 (((hB.below hb0).below (Below.refl _ _).drew).below hb1))
 have HB0:=aa hb0
 have HA:=aa ((hA.below hb0).below (Below.refl _ _).drew)
 have HB:=aa ((hB.below hb0).below (Below.refl _ _).drew)
 rw [d4] at S1
 have S3:Hid (∀(w1:World),Below w0.drew.heap.size w0.drew w1→Calls Tryz.prog 66 #[.agg #[.bool b2,.slice a9 Y.length n9]] w1 fun e w'=>e=.returned (.int .i64 (zz b2 (val Y)).sign)∧Below w1.heap.size w1 w'):=aa (fun w1 hb1=>by have h:=S2.out w1 hb1;rw [d4] at h;exact h)
 have HK0:=aa (show w0.drew.heap[w.heap.size]?=some (.cells #[.bool b1,.slice a X.length n] 27) from h0)
 have HK1:=aa (show w0.drew.heap[w.heap.size+1]?=some (.cells #[.bool b2,.slice a9 Y.length n9] 27) from h1)
 have hsg:=je (zz b1 (val X)) (zz b2 (val Y))
 have hse:=ie (x:=zz b1 (val X)) (y:=zz b2 (val Y))
 have hcn:=ik (b1:=b1) (b2:=b2) (x:=val X) (y:=val Y)
 have hcp:=j5 (b1:=b1) (b2:=b2) (x:=val X) (y:=val Y)
 have HNG:=aa (fun (w1:World) (hb1:Below w0.drew.heap.size w0.drew w1)=>cM b1 _ X w1 (HA.out.below hb1))
 clear hA hB hb0 h0 h1 S2
 generalize hzx:zz b1 (val X)=zx at *
 generalize hzy:zz b2 (val Y)=zy at *
 obtain⟨cc,hcc⟩:∃cc,aL zx.sign zy.sign=cc:=⟨_,rfl⟩
 have CC:=aa (fun (w1:World)=>j4 zx.sign zy.sign w1)
 rw [hcc] at hsg hse
 by_cases hc0:cc=0
 ·subst hc0
  have hcs:=hse rfl
  clear hsg hse
  by_cases hneg:zx<0
  ·rw [hcn hneg (by omega)]
   have HD1:=aa (decide_eq_true hneg)
   clear hcn hcp hcs hneg
   go_enter Tryz.func58,Tryz.ntmps58
   go_wp2
   go_region_held3 (fun w'=>w'.cell? ⟨w.heap.size,0,none⟩=some (.bool b1)∧w'.cell? ⟨w.heap.size,1,none⟩=some (.slice a X.length n)∧w'.cell? ⟨w.heap.size+1,0,none⟩=some (.bool b2)∧w'.cell? ⟨w.heap.size+1,1,none⟩=some (.slice a9 Y.length n9)) (go_keep) (first
    | (go_at_call_of 66 a;refine S1.mono ?_;rintro e' t1 ⟨rfl,hb1⟩;have x0:=ax hb1 d0;have x1:=ax hb1 d1;have x2:=ax hb1 d2;have x3:=ax hb1 d3)
    | (go_at_call_of 66 a9;refine (S3.out t1 hb1).mono ?_;rintro e' t2 ⟨rfl,hb2⟩;have y0:=ax hb2 x0;have y1:=ax hb2 x1;have y2:=ax hb2 x2;have y3:=ax hb2 x3)
    | (go_at_call 82;refine (CC.out t2).mono ?_;rintro e' t3 ⟨rfl,hw3⟩;rw [hw3];clear hw3 t3))
   have gg2:=hb1.trans (hb2.mono hb1.size)
   have HBE:=aa (HB0.out.trans ((cm gg2).mono HB0.out.size))
   have hng:=HNG.out t2 gg2
   rw [HD1.out] at hng
   clear HBE
   go_wp2_with fail
   refine hng.mono ?_
   rintro e t4 ⟨rfl,hb4⟩
   have gg4:=gg2.trans (hb4.mono gg2.size)
   obtain⟨j0,j1⟩:=duo (ab gg4 HK0.out)
   obtain⟨j2,j3⟩:=duo (ab gg4 HK1.out)
   have HG4:=aa gg4
   clear hng hb4 hb1 hb2 x0 x1 x2 x3 y0 y1 y2 y3
   have hcf:=cl _ _ Y X t4 (HB.out.below gg4) (HA.out.below gg4)
   go_wp2_with fail
   refine hcf.mono ?_
   rintro e t5 ⟨rfl,hs⟩
   have hb5:Below t4.heap.size t4 t5:=hs.below _
   have gg5:=HG4.out.trans (hb5.mono HG4.out.size)
   have HBE:=aa (HB0.out.trans ((cm gg5).mono HB0.out.size))
   clear hs hb5 gg5 gg4 gg2 hcf
   go_wp2
   go_ret
   exact⟨rfl,HBE.out⟩
  ·rw [hcp (by omega) (by omega)]
   have HD1:=aa (decide_eq_false hneg)
   clear hcn hcp hcs hneg
   go_enter Tryz.func58,Tryz.ntmps58
   go_wp2
   go_region_held3 (fun w'=>w'.cell? ⟨w.heap.size,0,none⟩=some (.bool b1)∧w'.cell? ⟨w.heap.size,1,none⟩=some (.slice a X.length n)∧w'.cell? ⟨w.heap.size+1,0,none⟩=some (.bool b2)∧w'.cell? ⟨w.heap.size+1,1,none⟩=some (.slice a9 Y.length n9)) (go_keep) (first
    | (go_at_call_of 66 a;refine S1.mono ?_;rintro e' t1 ⟨rfl,hb1⟩;have x0:=ax hb1 d0;have x1:=ax hb1 d1;have x2:=ax hb1 d2;have x3:=ax hb1 d3)
    | (go_at_call_of 66 a9;refine (S3.out t1 hb1).mono ?_;rintro e' t2 ⟨rfl,hb2⟩;have y0:=ax hb2 x0;have y1:=ax hb2 x1;have y2:=ax hb2 x2;have y3:=ax hb2 x3)
    | (go_at_call 82;refine (CC.out t2).mono ?_;rintro e' t3 ⟨rfl,hw3⟩;rw [hw3];clear hw3 t3))
   have gg2:=hb1.trans (hb2.mono hb1.size)
   have HBE:=aa (HB0.out.trans ((cm gg2).mono HB0.out.size))
   have hng:=HNG.out t2 gg2
   rw [HD1.out] at hng
   clear HBE
   go_wp2_with fail
   refine hng.mono ?_
   rintro e t4 ⟨rfl,hb4⟩
   have gg4:=gg2.trans (hb4.mono gg2.size)
   obtain⟨j0,j1⟩:=duo (ab gg4 HK0.out)
   obtain⟨j2,j3⟩:=duo (ab gg4 HK1.out)
   have HG4:=aa gg4
   clear hng hb4 hb1 hb2 x0 x1 x2 x3 y0 y1 y2 y3
   have hcf:=cl _ _ X Y t4 (HA.out.below gg4) (HB.out.below gg4)
   go_wp2_with fail
   refine hcf.mono ?_
   rintro e t5 ⟨rfl,hs⟩
   have hb5:Below t4.heap.size t4 t5:=hs.below _
   have gg5:=HG4.out.trans (hb5.mono HG4.out.size)
   have HBE:=aa (HB0.out.trans ((cm gg5).mono HB0.out.size))
   clear hs hb5 gg5 gg4 gg2 hcf
   go_wp2
   go_ret
   exact⟨rfl,HBE.out⟩
 ·rw [←hsg hc0]
  have hne:(cc == 0)=false:=by simpa using hc0
  clear hsg hse hcn hcp
  go_enter Tryz.func58,Tryz.ntmps58
  go_wp2
  go_region_held3 (fun w'=>w'.cell? ⟨w.heap.size,0,none⟩=some (.bool b1)∧w'.cell? ⟨w.heap.size,1,none⟩=some (.slice a X.length n)∧w'.cell? ⟨w.heap.size+1,0,none⟩=some (.bool b2)∧w'.cell? ⟨w.heap.size+1,1,none⟩=some (.slice a9 Y.length n9)) (go_keep) (first
   | (go_at_call_of 66 a;refine S1.mono ?_;rintro e' t1 ⟨rfl,hb1⟩;have x0:=ax hb1 d0;have x1:=ax hb1 d1;have x2:=ax hb1 d2;have x3:=ax hb1 d3)
   | (go_at_call_of 66 a9;refine (S3.out t1 hb1).mono ?_;rintro e' t2 ⟨rfl,hb2⟩;have y0:=ax hb2 x0;have y1:=ax hb2 x1;have y2:=ax hb2 x2;have y3:=ax hb2 x3)
   | (go_at_call 82;refine (CC.out t2).mono ?_;rintro e' t3 ⟨rfl,hw3⟩;rw [hw3];clear hw3 t3))
  have gg2:=hb1.trans (hb2.mono hb1.size)
  have HBE:=aa (HB0.out.trans ((cm gg2).mono HB0.out.size))
  clear hb1 hb2 x0 x1 x2 x3 y0 y1 y2 y3 gg2
  go_wp2
  go_ret
  exact⟨rfl,HBE.out⟩

theorem dr (b1:Bool)(v:Value)(X:List Nat)(b2:Bool)(u:Value)(Y:List Nat)(w:World)(hA:Arg w v X)(hB:Arg w u Y)(he:zz b1 (val X)=zz b2 (val Y)) :
  Calls Tryz.prog 28 #[.agg #[.bool b1,v],.agg #[.bool b2,u]] w fun e w'=>e=.returned (.bool true)∧Below w.heap.size w w':=by
 obtain⟨a,n,rfl,_,_,_⟩:=hA.form
 obtain⟨a9,n9,rfl,_,_,_⟩:=hB.form
 obtain⟨w0,hw0,hb0,h0,h1⟩:=aQ w (.cells #[.bool b1,.slice a X.length n] 27) (.cells #[.bool b2,.slice a9 Y.length n9] 27)
 obtain⟨d0,d1⟩:=duo h0
 obtain⟨d2,d3⟩:=duo h1
 have HC:=kb b1 _ X b2 _ Y w0 (hA.below hb0) (hB.below hb0)
 rw [he,kl] at HC
 have HB0:=aa hb0
 clear hA hB hb0 h0 h1
 go_enter Tryz.func28,Tryz.ntmps28
 go_wp2_with fail
 refine HC.mono ?_
 rintro e w1 ⟨rfl,hb1⟩
 have HB1:=aa (HB0.out.trans (hb1.mono HB0.out.size))
 clear hb1 HC
 go_wp2
 go_ret
 exact⟨rfl,HB1.out⟩

def dV (cs:List Int):Array Value:=(cs.map (Value.int .i64)).toArray

theorem kC {w:World}{L:Nat}{cs:List Int}{t:TypeId}(h:w.heap[L]?=some (.cells (dV cs) t))(k:Nat)(hk:k<cs.length):w.cell? ⟨L,k,none⟩=some (.int .i64 (cs.getD k 0)):=by
 simp [World.cell?,h,dV,List.getD,hk]

theorem ia {cs:List Int}{k:Nat}(hk:k<cs.length)(h:(cs.take k).all (· == 0)=true)(h0:cs.getD k 0=0):(cs.take (k+1)).all (· == 0)=true:=by
 have e:cs.getD k 0=cs[k]:=by simp [List.getD,hk]
 rw [List.take_succ_eq_append_getElem hk,List.all_append,h]
 simp only [Bool.true_and,List.all_cons,List.all_nil,Bool.and_true,beq_iff_eq]
 rw [←e];exact h0

theorem e8 (L n:Nat)(cs:List Int)(w:World)(hn:cs.length=n)(hn2:n≤1000)(hL:w.heap[L]?=some (.cells (dV cs) 34)) :
  Calls Tryz.prog 26 #[.slice (some ⟨L,0,none⟩) n n] w fun e w'=>e=.returned (.bool (cs.all (· == 0)))∧w'=w:=by
 have HL:=aa hL
 have HN:=aa hn
 clear hL
 go_enter Tryz.func26,Tryz.ntmps26
 go_wp2
 go_loop [7] (fun i=>∃k:Nat,k≤n∧i=.int .i64 k∧(cs.take k).all (· == 0)=true) (fun i=>n - (intOf i).toNat)
 case atStart=>exact⟨0,Nat.zero_le _,rfl,by simp⟩
 case round=>
  obtain⟨k,hk,rfl,hall⟩:=hrel
  have HALL:=aa hall
  clear hall
  by_cases hkn:k<n
  ·have hck:=kC HL.out k (by omega)
   have HM:=dg (cs.getD k 0) w
   by_cases h0:cs.getD k 0=0
   ·have HS:=aa (ia (by omega) HALL.out h0)
    rw [h0] at hck HM
    clear h0
    go_wp2_with fail
    refine HM.mono ?_
    rintro e wn ⟨rfl,hw⟩;rw [hw];clear hw wn HM
    go_wp2
    go_round
    case rel=>exact⟨k+1,by omega,by go_num,HS.out⟩
    case measure=>simp [intOf];omega
   ·have HF:Hid (cs.all (· == 0)=false):=by
     refine aa ?_
     rw [List.all_eq_false]
     have e:cs.getD k 0=cs[k]:=by simp [List.getD,show k<cs.length by omega]
     exact⟨cs[k],List.getElem_mem _,by rw [←e];simpa using h0⟩
    generalize cs.getD k 0=c at *
    have hne:(c != 0)=true:=by simpa using h0
    have hne2:(c == 0)=false:=by simpa using h0
    go_wp2_with fail
    refine HM.mono ?_
    rintro e wn ⟨rfl,hw⟩;rw [hw];clear hw wn HM
    go_wp2
    go_ret
    rw [HF.out]
    exact⟨rfl,rfl⟩
  ·have ek:k=n:=by omega
   subst ek
   have HF:Hid (cs.all (· == 0)=true):=aa (by have h:=HALL.out;rw [←HN.out,List.take_length] at h;exact h)
   go_wp2
   go_ret
   rw [HF.out]
   exact⟨rfl,rfl⟩







theorem ZR.few {rs:List Nat}{b:Bool}{va:Value}{c z:Int}(h:(c=0∧b=decide (z<0)∧val rs=z.natAbs∧tr rs=rs∧blen z.natAbs≤67108864)∨(c=3∧b=false∧va=.slice none 0 0∧rs=[]∧67108864<blen z.natAbs)):rs.length≤1048576:=by
 rcases h with ⟨_,_,h3,h4,h5⟩|⟨_,_,_,h4,_⟩
 ·exact cj h4 h3 (by omega)
 ·rw [h4];simp

theorem jP {W0 W t:World}(h:Below W0.heap.size W0 W)(h2:Below W.heap.size W t):Below W0.heap.size W0 t:=h.trans (h2.mono h.size)
end Go.Proofs.YtcbpdngogkbndaaGreatDoor
namespace Go.Proofs.YtcbpdngogkbndaaGreatDoor
open Go.RowKit
open Lm

theorem fI {W W':World}{u:Nat}{y:Value}{x:Obj}(hb:Below W.heap.size W W')(h:∃g,y=.pointer (some ⟨g,0,none⟩)∧u≤g∧W.heap[g]?=some x):∃g,y=.pointer (some ⟨g,0,none⟩)∧u≤g∧W'.heap[g]?=some x:=by
 obtain⟨g,h1,h2,h3⟩:=h
 exact⟨g,h1,h2,ab hb h3⟩

theorem ev {W:World}{u:Nat}{y:Value}{x:Obj}(h:∃g,y=.pointer (some ⟨g,0,none⟩)∧u≤g∧W.heap[g]?=some x):y≠.pointer (some ⟨W.heap.size,0,none⟩):=by
 obtain⟨g,rfl,_,h3⟩:=h
 intro e
 simp only [Value.pointer.injEq,Option.some.injEq,Addr.mk.injEq,and_true] at e
 have:=lt_of_block h3
 omega

structure JW (u:World)(v1 v2:Value)(c1 c2 k1 k2:Bool)(x1 x2 y1 y2:Value)(W:World):Prop where
 up:Below u.heap.size u W
 ch:c2=true→c1=true
 q1:c1=true→x1=v1
 q2:c2=true→x2=v2
 r1:k1=true→∃g,y1=.pointer (some ⟨g,0,none⟩)∧u.heap.size≤g∧W.heap[g]?=some (.cells #[.bool false,.slice none 0 0] 27)
 r2:k2=true→∃g,y2=.pointer (some ⟨g,0,none⟩)∧u.heap.size≤g∧W.heap[g]?=some (.cells #[.bool false,.slice none 0 0] 27)
 d12:k1=true→k2=true→y1≠y2

theorem JW.below {u:World}{v1 v2:Value}{c1 c2 k1 k2:Bool}{x1 x2 y1 y2:Value}{W W':World}(h:JW u v1 v2 c1 c2 k1 k2 x1 x2 y1 y2 W)(hb:Below W.heap.size W W'):JW u v1 v2 c1 c2 k1 k2 x1 x2 y1 y2 W':=
 ⟨jP h.up hb,h.ch,h.q1,h.q2,fun e=>fI hb (h.r1 e),fun e=>fI hb (h.r2 e),h.d12⟩

theorem JW.call1 {u:World}{v1 v2:Value}{c1 c2 k1 k2:Bool}{x1 x2 y1 y2:Value}{W W':World}(h:JW u v1 v2 c1 c2 k1 k2 x1 x2 y1 y2 W)(hb:Below W.heap.size W W'):JW u v1 v2 true c2 k1 k2 v1 x2 y1 y2 W':=
 have j:=h.below hb
 ⟨j.up,fun _=>rfl,fun _=>rfl,j.q2,j.r1,j.r2,j.d12⟩

theorem JW.call2 {u:World}{v1 v2:Value}{c2 k1 k2:Bool}{x1 x2 y1 y2:Value}{W W':World}(h:JW u v1 v2 true c2 k1 k2 x1 x2 y1 y2 W)(hb:Below W.heap.size W W'):JW u v1 v2 true true k1 k2 x1 v2 y1 y2 W':=
 have j:=h.below hb
 ⟨j.up,fun _=>rfl,j.q1,fun _=>rfl,j.r1,j.r2,j.d12⟩

theorem JW.make1 {u:World}{v1 v2:Value}{c1 c2 k1 k2:Bool}{x1 x2 y1 y2:Value}{W:World}(h:JW u v1 v2 c1 c2 k1 k2 x1 x2 y1 y2 W) :
  JW u v1 v2 c1 c2 true k2 x1 x2 (.pointer (some ⟨W.heap.size,0,none⟩)) y2 (W.alloc (.cells #[.bool false,.slice none 0 0] 27)):=
 have j:=h.below (bk W (.cells #[.bool false,.slice none 0 0] 27))
 ⟨j.up,j.ch,j.q1,j.q2,fun _=>⟨_,rfl,h.up.size,heap_alloc_new _ _⟩,j.r2,fun _ e=>(ev (h.r2 e)).symm⟩

theorem JW.make2 {u:World}{v1 v2:Value}{c1 c2 k1 k2:Bool}{x1 x2 y1 y2:Value}{W:World}(h:JW u v1 v2 c1 c2 k1 k2 x1 x2 y1 y2 W) :
  JW u v1 v2 c1 c2 k1 true x1 x2 y1 (.pointer (some ⟨W.heap.size,0,none⟩)) (W.alloc (.cells #[.bool false,.slice none 0 0] 27)):=
 have j:=h.below (bk W (.cells #[.bool false,.slice none 0 0] 27))
 ⟨j.up,j.ch,j.q1,j.q2,j.r1,fun _=>⟨_,rfl,h.up.size,heap_alloc_new _ _⟩,fun e _=>ev (h.r1 e)⟩

theorem JW.start {u:World}(v1 v2 x1 x2 y1 y2:Value){W:World}(h:Below u.heap.size u W):JW u v1 v2 false false false false x1 x2 y1 y2 W:=
 ⟨h,nofun,nofun,nofun,nofun,nofun,nofun⟩

def aD (c1 c2 k1 k2:Bool):Nat:=2+(!c1).toNat+(!c2).toNat+(!k1).toNat+(!k2).toNat

theorem ip {P:Program}{md:Region.Mode}{ops:Array Oper}{Q:Exit→Act→World→Prop}{S:World→Prop}(u:World)(v1 v2:Value)(s1 s2 t1 t2:Nat)(LST:Bool→Bool→Bool→Bool→Array Bool){W:World}{n:Nat}{listed:Array Bool}{a:Act}(hn:n=6)(hl:listed=LST false false false false)(ha:a=(((a.put (some s1) undef).put (some s2) undef).put (some t1) undef).put (some t2) undef)(hu:Below u.heap.size u W)
  (h:∀(n:Nat) (c1 c2 k1 k2:Bool) (x1 x2 y1 y2:Value) (W:World),n=aD c1 c2 k1 k2→JW u v1 v2 c1 c2 k1 k2 x1 x2 y1 y2 W→wpAnyH P md ops Q S n (LST c1 c2 k1 k2) ((((a.put (some s1) x1).put (some s2) x2).put (some t1) y1).put (some t2) y2) W) :
  wpAnyH P md ops Q S n listed a W:=by
 subst hn hl
 rw [ha]
 exact h 6 _ _ _ _ _ _ _ _ W rfl (JW.start v1 v2 _ _ _ _ hu)

def fM (u:World)(b0 b1:Bool)(v0 v1:Value)(s t:Value)(wx:World):Prop:=
 ∃g h:Nat,s=.pointer (some ⟨g,0,none⟩)∧t=.pointer (some ⟨h,0,none⟩) ∧
  wx.heap[g]?=some (.cells #[.bool b0,v0] 27)∧wx.heap[h]?=some (.cells #[.bool b1,v1] 27)∧Below u.heap.size u wx

theorem lA {u W:World}{b0 b1:Bool}{v0 v1:Value}{g h:Nat}(h1:W.heap[g]?=some (.cells #[.bool false,.slice none 0 0] 27))(h2:W.heap[h]?=some (.cells #[.bool false,.slice none 0 0] 27))(l1:u.heap.size≤g)(l2:u.heap.size≤h)(d12:g≠h)(hu:Below u.heap.size u W) :
  fM u b0 b1 v0 v1 (.pointer (some ⟨g,0,none⟩)) (.pointer (some ⟨h,0,none⟩)) ((((W.setCell ⟨g,0,none⟩ (.bool b0)).setCell ⟨g,1,none⟩ v0).setCell ⟨h,0,none⟩ (.bool b1)).setCell ⟨h,1,none⟩ v1):=by
 have e2:=cJ (u0:=.bool b0) (u1:=v0) h2 (Ne.symm d12)
 exact⟨g,h,rfl,rfl,cJ (ak h1) d12,ak e2,ai (ai hu l1) l2⟩
end Go.Proofs.YtcbpdngogkbndaaGreatDoor
namespace Go.Proofs.YtcbpdngogkbndaaGreatDoor

theorem fB {x y:Nat}:(x &&& y) % 2=(x % 2 &&& y % 2):=Nat.and_mod_two_pow (n:=1)

theorem gC {x y:Nat}:(x ||| y) % 2=(x % 2 ||| y % 2):=Nat.or_mod_two_pow (n:=1)

theorem ke {x y:Nat}:(x ^^^ y) % 2=(x % 2 ^^^ y % 2):=Nat.xor_mod_two_pow (n:=1)

theorem dL:∀(x y:Nat),(x &&& y)+(x ||| y)=x+y:=by
 intro x
 induction x using Nat.strongRecOn with
 | _ x ih=>
  intro y
  by_cases h:x=0
  ·subst h;simp
  ·have i:=ih (x / 2) (by omega) (y / 2)
   have a1:(x &&& y) / 2=x / 2 &&& y / 2:=Nat.and_div_two
   have a2:(x ||| y) / 2=x / 2 ||| y / 2:=Nat.or_div_two
   have b1:(x &&& y) % 2+(x ||| y) % 2=x % 2+y % 2:=by
    rw [fB,gC]
    rcases Nat.mod_two_eq_zero_or_one x with h1|h1 <;> rcases Nat.mod_two_eq_zero_or_one y with h2|h2 <;> rw [h1,h2] <;> rfl
   omega

theorem fl:∀(x y:Nat),(x ^^^ y)+(x &&& y)=x ||| y:=by
 intro x
 induction x using Nat.strongRecOn with
 | _ x ih=>
  intro y
  by_cases h:x=0
  ·subst h;simp
  ·have i:=ih (x / 2) (by omega) (y / 2)
   have a1:(x &&& y) / 2=x / 2 &&& y / 2:=Nat.and_div_two
   have a2:(x ||| y) / 2=x / 2 ||| y / 2:=Nat.or_div_two
   have a3:(x ^^^ y) / 2=x / 2 ^^^ y / 2:=Nat.xor_div_two
   have b1:(x ^^^ y) % 2+(x &&& y) % 2=(x ||| y) % 2:=by
    rw [fB,gC,ke]
    rcases Nat.mod_two_eq_zero_or_one x with h1|h1 <;> rcases Nat.mod_two_eq_zero_or_one y with h2|h2 <;> rw [h1,h2] <;> rfl
   omega

theorem fR {k b i:Nat}(hb:b<2 ^ k):(2 ^ k - 1 - b).testBit i=(decide (i<k) && !b.testBit i):=by
 have h:=Nat.testBit_two_pow_sub_succ hb i
 rw [show 2 ^ k - 1 - b=2 ^ k - (b+1) by omega]
 exact h

theorem cT {k a i:Nat}(ha:a<2 ^ k)(h:¬i<k):a.testBit i=false:=Nat.testBit_lt_two_pow (Nat.lt_of_lt_of_le ha (Nat.pow_le_pow_right (by omega) (by omega)))

theorem eD (a b i:Nat):(a - (a &&& b)).testBit i=(a.testBit i && !b.testBit i):=by
 have e:a - (a &&& b)=a ^^^ (a &&& b):=by
  have h:=fl a (a &&& b)
  have h1:a &&& (a &&& b)=a &&& b:=by apply Nat.eq_of_testBit_eq;intro i;simp [Nat.testBit_and]
  have h2:a ||| (a &&& b)=a:=by apply Nat.eq_of_testBit_eq;intro i;simp [Nat.testBit_and,Nat.testBit_or];cases a.testBit i <;> simp
  rw [h1,h2] at h
  omega
 rw [e]
 simp [Nat.testBit_xor,Nat.testBit_and]
 cases a.testBit i <;> cases b.testBit i <;> rfl

def tcv (k:Nat)(s:Bool)(m:Nat):Nat:=if s then 2 ^ k - 1 - m else m

theorem bP {k:Nat}{s:Bool}{m:Nat}(hm:m<2 ^ k)(i:Nat):(tcv k s m).testBit i=(decide (i<k) && (s != m.testBit i)):=by
 unfold tcv
 by_cases hi:i<k
 ·cases s
  ·simp [hi]
  ·simp [hi,fR hm]
 ·cases s
  ·simp [hi,cT hm hi]
  ·simp [hi,fR hm]

def bf (s t:Bool)(x y:Nat):Nat:=if s then (if t then x ||| y else y - (y &&& x)) else (if t then x - (x &&& y) else x &&& y)

def bm (s t:Bool)(x y:Nat):Nat:=if s then (if t then x &&& y else x - (x &&& y)) else (if t then y - (y &&& x) else x ||| y)

theorem gw {k a:Nat}(h:∀i,k≤i→a.testBit i=false):a<2 ^ k:=Nat.lt_pow_two_of_testBit a h

theorem eZ (s t:Bool)(x y i:Nat):(bf s t x y).testBit i=((s && t) != ((s != x.testBit i) && (t != y.testBit i))):=by
 unfold bf
 cases s <;> cases t <;> simp [Nat.testBit_and,Nat.testBit_or,eD] <;> cases x.testBit i <;> cases y.testBit i <;> rfl

theorem gb (s t:Bool)(x y i:Nat):(bm s t x y).testBit i=((s || t) != ((s != x.testBit i) || (t != y.testBit i))):=by
 unfold bm
 cases s <;> cases t <;> simp [Nat.testBit_and,Nat.testBit_or,eD] <;> cases x.testBit i <;> cases y.testBit i <;> rfl

theorem gd {k x y:Nat}(s t:Bool)(hx:x<2 ^ k)(hy:y<2 ^ k):bf s t x y<2 ^ k:=
 gw fun i hi=>by rw [eZ,cT hx (by omega),cT hy (by omega)];cases s <;> cases t <;> rfl

theorem ew {k x y:Nat}(s t:Bool)(hx:x<2 ^ k)(hy:y<2 ^ k):bm s t x y<2 ^ k:=
 gw fun i hi=>by rw [gb,cT hx (by omega),cT hy (by omega)];cases s <;> cases t <;> rfl

theorem iU {k:Nat}{s t:Bool}{x y:Nat}(hx:x<2 ^ k)(hy:y<2 ^ k):tcv k s x &&& tcv k t y=tcv k (s && t) (bf s t x y):=by
 apply Nat.eq_of_testBit_eq
 intro i
 rw [Nat.testBit_and,bP hx,bP hy,bP (gd s t hx hy),eZ]
 cases decide (i<k) <;> cases s <;> cases t <;> cases x.testBit i <;> cases y.testBit i <;> rfl

theorem ky {k:Nat}{s t:Bool}{x y:Nat}(hx:x<2 ^ k)(hy:y<2 ^ k):tcv k s x ||| tcv k t y=tcv k (s || t) (bm s t x y):=by
 apply Nat.eq_of_testBit_eq
 intro i
 rw [Nat.testBit_or,bP hx,bP hy,bP (ew s t hx hy),gb]
 cases decide (i<k) <;> cases s <;> cases t <;> cases x.testBit i <;> cases y.testBit i <;> rfl

theorem gL {k:Nat}{s t:Bool}{x y:Nat}(hx:x<2 ^ k)(hy:y<2 ^ k):tcv k s x ^^^ tcv k t y=tcv k (s != t) (x ^^^ y):=by
 apply Nat.eq_of_testBit_eq
 intro i
 rw [Nat.testBit_xor,bP hx,bP hy,bP (Nat.xor_lt_two_pow hx hy),Nat.testBit_xor]
 cases decide (i<k) <;> cases s <;> cases t <;> cases x.testBit i <;> cases y.testBit i <;> rfl

def enc (s:Bool)(m:Nat):Int:=if s then -((m:Int)+1) else (m:Int)

def zsg (z:Int):Bool:=decide (z<0)

def zmg (z:Int):Nat:=if z<0 then z.natAbs - 1 else z.natAbs

theorem cV (z:Int):enc (zsg z) (zmg z)=z:=by
 unfold enc zsg zmg
 by_cases h:z<0 <;> simp [h] <;> omega

def bn (x y:Int):Int:=enc (zsg x && zsg y) (bf (zsg x) (zsg y) (zmg x) (zmg y))

def zor (x y:Int):Int:=enc (zsg x || zsg y) (bm (zsg x) (zsg y) (zmg x) (zmg y))

def cC (x y:Int):Int:=enc (zsg x != zsg y) (zmg x ^^^ zmg y)

theorem cE (x y:Nat):x &&& y≤x:=Nat.and_le_left

theorem kP (x y:Int):bn x y+zor x y=x+y:=by
 have h1:=cV x
 have h2:=cV y
 unfold bn zor
 generalize zsg x=s at *
 generalize zsg y=t at *
 generalize zmg x=a at *
 generalize zmg y=b at *
 rw [←h1,←h2]
 have k1:=dL a b
 have k2:=cE a b
 have k3:=cE b a
 have k4:=Nat.and_comm a b
 unfold enc bf bm
 cases s <;> cases t <;> simp <;> omega

theorem jH (x y:Int):cC x y=zor x y - bn x y:=by
 unfold bn zor cC
 generalize zsg x=s at *
 generalize zsg y=t at *
 generalize zmg x=a at *
 generalize zmg y=b at *
 have k1:=dL a b
 have k0:=fl a b
 have k2:=cE a b
 have k3:=cE b a
 have k4:=Nat.and_comm a b
 unfold enc bf bm
 cases s <;> cases t <;> simp <;> omega

theorem kg (x y:Int):bn x (-1 - y)=x - bn x y:=by
 have h1:=cV x
 have h2:=cV y
 have e1:zsg (-1 - y)=!zsg y:=by unfold zsg;by_cases h:y<0 <;> simp [h] <;> omega
 have e2:zmg (-1 - y)=zmg y:=by unfold zmg;by_cases h:y<0 <;> (first|rw [if_pos h] | rw [if_neg h]) <;> split <;> omega
 unfold bn
 rw [e1,e2]
 generalize zsg x=s at *
 generalize zsg y=t at *
 generalize zmg x=a at *
 generalize zmg y=b at *
 rw [←h1]
 have k1:=dL a b
 have k2:=cE a b
 have k3:=cE b a
 have k4:=Nat.and_comm a b
 unfold enc bf
 cases s <;> cases t <;> simp <;> omega

theorem fe (m p:Nat)(hp:0<p):(-((m:Int)+1)) / (p:Int)=-((m / p:Nat):Int) - 1:=by
 have h1:=Nat.div_add_mod m p
 have h2:=Nat.mod_lt m hp
 have h3:(m:Int)=(p:Int)*((m / p:Nat):Int)+((m % p:Nat):Int):=by
  rw [←Int.natCast_mul]
  omega
 generalize ((m / p:Nat):Int)=q at *
 refine ((Int.ediv_emod_unique (r:=(p:Int) - ((m % p:Nat):Int) - 1) (q:=-q - 1) (by omega)).2 ⟨?_,by omega,by omega⟩).1
 have h4:(p:Int)*(-q - 1)=-((p:Int)*q) - (p:Int):=by grind
 omega

theorem fH {x p:Nat}(hx:0<x)(hp:0<p):(x - 1) / p=if x % p=0 then x / p - 1 else x / p:=by
 have h1:=Nat.div_add_mod x p
 have h2:=Nat.mod_lt x hp
 split
 ·rename_i h
  rw [h,Nat.add_zero] at h1
  have hq:0<x / p:=by
   rcases Nat.eq_zero_or_pos (x / p) with e|e
   ·rw [e,Nat.mul_zero] at h1;omega
   ·exact e
  obtain⟨q,hq2⟩:∃q,x / p=q+1:=⟨x / p - 1,by omega⟩
  rw [hq2] at h1 ⊢
  have h3:p*(q+1)=p*q+p:=Nat.mul_succ p q
  have e:x - 1=p - 1+p*q:=by omega
  rw [e,Nat.add_mul_div_left _ _ hp,Nat.div_eq_of_lt (by omega)]
  omega
 ·rename_i h
  have e:x - 1=(x % p - 1)+p*(x / p):=by omega
  rw [e,Nat.add_mul_div_left _ _ hp,Nat.div_eq_of_lt (by omega)]
  omega

theorem dG {t k i:Nat}:(2 ^ t*(2*k+1)) % 2 ^ i=0 ↔ i≤t:=by
 constructor
 ·intro h
  rcases Nat.lt_or_ge t i with h1|h1
  ·exfalso
   obtain⟨d,rfl⟩:∃d,i=t+1+d:=⟨i - t - 1,by omega⟩
   have h2:2 ^ t*2 ∣ 2 ^ t*(2*k+1):=by
    refine Nat.dvd_trans ⟨2 ^ d,?_⟩ (Nat.dvd_of_mod_eq_zero h)
    rw [Nat.pow_add,Nat.pow_succ]
   have h3:=Nat.dvd_of_mul_dvd_mul_left (Nat.pow_pos (by omega)) h2
   omega
  ·exact h1
 ·intro h
  obtain⟨d,rfl⟩:∃d,t=i+d:=⟨t - i,by omega⟩
  rw [Nat.pow_add,Nat.mul_assoc]
  exact Nat.mul_mod_right _ _

def bj (z:Int)(i:Nat):Int:=z / ((2 ^ i:Nat):Int) % 2

theorem gU (x i:Nat):bj (x:Int) i=((x / 2 ^ i % 2:Nat):Int):=by
 unfold bj
 rw [←Int.natCast_ediv]
 omega

theorem jj {x t k:Nat}(hx:x=2 ^ t*(2*k+1))(i:Nat):bj (-(x:Int)) i=if t<i then 1 - ((x / 2 ^ i % 2:Nat):Int) else ((x / 2 ^ i % 2:Nat):Int):=by
 have hp:0<2 ^ i:=Nat.pow_pos (by omega)
 have hx0:0<x:=by rw [hx];exact Nat.mul_pos (Nat.pow_pos (by omega)) (by omega)
 have e:-(x:Int)=-(((x - 1:Nat):Int)+1):=by omega
 unfold bj
 rw [e,fe _ _ hp,fH hx0 hp]
 have ht:=dG (t:=t) (k:=k) (i:=i)
 rw [←hx] at ht
 generalize 2 ^ i=p at *
 by_cases h:t<i
 ·rw [if_pos h,if_neg (fun h2=>by have:=ht.1 h2;omega)]
  omega
 ·rw [if_neg h,if_pos (ht.2 (by omega))]
  have h1:=Nat.div_add_mod x p
  have h2:=ht.2 (by omega)
  have hq:0<x / p:=by
   rcases Nat.eq_zero_or_pos (x / p) with e|e
   ·rw [e,Nat.mul_zero] at h1;omega
   ·exact e
  omega

theorem jO (z:Int)(n i:Nat):bj (z / ((2 ^ n:Nat):Int)) i=bj z (i+n):=by
 unfold bj
 rw [Int.ediv_ediv_of_nonneg (Int.natCast_nonneg _),←Int.natCast_mul,←Nat.pow_add,Nat.add_comm n i]

theorem iF {x t k:Nat}(hx:x=2 ^ t*(2*k+1))(n:Nat):(-(x:Int)) / ((2 ^ n:Nat):Int)=if t<n then -((x / 2 ^ n+1:Nat):Int) else -((x / 2 ^ n:Nat):Int):=by
 have hp:0<2 ^ n:=Nat.pow_pos (by omega)
 have hx0:0<x:=by rw [hx];exact Nat.mul_pos (Nat.pow_pos (by omega)) (by omega)
 have e:-(x:Int)=-(((x - 1:Nat):Int)+1):=by omega
 rw [e,fe _ _ hp,fH hx0 hp]
 have ht:=dG (t:=t) (k:=k) (i:=n)
 rw [←hx] at ht
 generalize 2 ^ n=p at *
 by_cases h:t<n
 ·rw [if_pos h,if_neg (fun h2=>by have:=ht.1 h2;omega)]
  omega
 ·rw [if_neg h,if_pos (ht.2 (by omega))]
  have h1:=Nat.div_add_mod x p
  have h2:=ht.2 (by omega)
  have hq:0<x / p:=by
   rcases Nat.eq_zero_or_pos (x / p) with e|e
   ·rw [e,Nat.mul_zero] at h1;omega
   ·exact e
  omega
end Go.Proofs.YtcbpdngogkbndaaGreatDoor

