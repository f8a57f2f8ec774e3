/- Package whole: divide, downwards. -/
import Derived.Test.YtemgogeokkeipaaGreatDoorB09
import Derived.Test.YtemgogeokkeipaaGreatDoorB01
import Derived.Test.YtemgogeokkeipaaGreatDoorB02
set_option maxRecDepth 20000
set_option maxHeartbeats 4000000
namespace Go.Proofs.YtemgogeokkeipaaGreatDoor
open Go.RowKit
open Lm
attribute [local go_sem ↓] Go.wp_at_zero Go.wp_at_succ

theorem fA {x y n:Nat}(hy:0<y)(h:n+blen y<blen x):n<blen (x / y):=by
 refine Nat.lt_of_not_le fun hle=>?_
 have h1:=(blen_le_iff (x / y) n).1 hle
 have h2:=(blen_le_iff y _).1 (Nat.le_refl _)
 have h3:x<2 ^ (n+blen y):=by
  rw [Nat.pow_add]
  have h4:=Nat.div_add_mod x y
  have h5:=Nat.mod_lt x hy
  have h6:y*(x / y+1)≤2 ^ blen y*2 ^ n:=Nat.mul_le_mul (Nat.le_of_lt h2) h1
  rw [Nat.mul_add,Nat.mul_one] at h6
  rw [Nat.mul_comm (2 ^ n)]
  omega
 have h7:=(blen_le_iff x _).2 h3
 omega

attribute [local go_sem] g8 ga in
theorem wdivide_2 (b1:Bool)(v:Value)(X:List Nat)(b2:Bool)(u:Value)(Y:List Nat)(ap fu:Bool)(qz rz:Int)(w:World)(hA:Arg w v X)(hB:Arg w u Y)(hT:Tab w)(hx:X.length≤17592186043904)(hy:Y.length≤17592186043904)(hy0:0<val Y)
  (hap:(b1 != b2)=ap) (hfu:ap=fu)
  (hqz:qz=zz ap (val X / val Y+if fu && decide (0<val X % val Y) then 1 else 0)) (hrz:rz=zz (if fu && decide (0<val X % val Y) then !b1 else b1) (if fu && decide (0<val X % val Y) then val Y - val X % val Y else val X % val Y)) :
  Calls Tryz.prog 55 #[.int .i64 1,.agg #[.bool b1,v],.agg #[.bool b2,u]] w (cN w qz rz):=by
 have hap2:(!(b1 == b2))=ap:=hap
 have HFU:=ac hfu
 clear hfu
 obtain⟨a,n,rfl,hn1,hn2,_⟩:=hA.form
 obtain⟨a9,n9,rfl,hn3,hn4,_⟩:=hB.form
 obtain⟨w0,hw0,hb0,h0,h1,h2,h3⟩:=cP w (.cells #[.bool b1,.slice a X.length n] 28) (.cells #[.bool b2,.slice a9 Y.length n9] 28) (.cells #[.bool false,.slice none 0 0] 28) (.cells #[.bool false,.slice none 0 0] 28)
 obtain⟨k0,k1⟩:=duo h0
 obtain⟨k2,k3⟩:=duo h1
 have hbx:blen (val X)≤64*X.length:=cq X hA.limbs
 have hby:blen (val Y)≤64*Y.length:=cq Y hB.limbs
 have HZ:=cV _ Y w0 (hB.below hb0)
 rw [decide_eq_false (by omega)] at HZ
 obtain⟨wd,hwd⟩:∃wd,w0.drew=wd:=⟨_,rfl⟩
 have hbd:Below w0.heap.size w0 wd:=by rw [←hwd];exact (Below.refl _ _).drew
 have hbwd:=hb0.trans (hbd.mono hb0.size)
 have L1:=aE _ X wd (hA.below hbwd)
 have L2:=aE _ Y wd (hB.below hbwd)
 have g0:=ae hbd h0
 have g1:=ae hbd h1
 obtain⟨d0,d1⟩:=duo g0
 obtain⟨d2,d3⟩:=duo g1
 have HG0:=ac g0
 have HG1:=ac g1
 have HG2:=ac (ae hbd h2)
 have HG3:=ac (ae hbd h3)
 have HWD:=ac hbwd
 obtain⟨dd,hdd⟩:∃dd:Int,((blen (val X):Nat):Int) - ((blen (val Y):Nat):Int)=dd:=⟨_,rfl⟩
 have wdd:IntKind.i64.wrap dd=dd:=by rw [IntKind.wrap_i64];omega
 have wdd2:IntKind.i64.wrap (((blen (val X):Nat):Int) - ((blen (val Y):Nat):Int))=dd:=by rw [IntKind.wrap_i64];omega
 have HQZ:=ac hqz
 have HRZ:=ac hrz
 have HA:=ac (hA.below hbwd)
 have HB:=ac (hB.below hbwd)
 have HT:=ac (hT.below hbwd)
 by_cases hbig:67108864+blen (val Y)<blen (val X)
 ·have i1:(67108864:Int)<dd:=by omega
  have HBQ:Hid (67108864<blen qz.natAbs):=by
   refine ac ?_
   rw [hqz,au]
   refine Nat.lt_of_lt_of_le ?_ (blen_mono (Nat.le_add_right _ _))
   exact fA (by omega) hbig
  generalize blen (val X)=lx at *
  generalize blen (val Y)=ly at *
  clear hA hB hT hb0 h0 h1 h2 h3 hbd hbwd g0 g1 HQZ HRZ hqz hrz hbig
  go_enter Tryz.func55,Tryz.ntmps55
  go_wp2_with fail
  refine HZ.mono ?_
  rintro e wn ⟨rfl,hw⟩;rw [hw];clear hw wn HZ
  go_wp2
  go_region_held3 (fun w'=>w'.cell? ⟨w.heap.size,1,none⟩=some (.slice a X.length n)∧w'.cell? ⟨w.heap.size+1,1,none⟩=some (.slice a9 Y.length n9)) (go_keep) (first
   | (go_at_call_of 92 a;(try rw [hwd]);refine L1.mono ?_;rintro e' wn ⟨rfl,hw⟩;rw [hw];clear hw wn)
   | (go_at_call_of 92 a9;(try rw [hwd]);refine L2.mono ?_;rintro e' wn ⟨rfl,hw⟩;rw [hw];clear hw wn))

  have HR2:=HG2
  have HR3:=HG3
  have HBE:=HWD
  have hf2:=ag HR2.out
  have hf3:=ag HR3.out
  obtain⟨m0,m1⟩:=duo HR2.out
  obtain⟨m2,m3⟩:=duo HR3.out
  go_wp2
  have hq4:=aK (base:=w.heap.size) (u0:=.bool false) (u1:=(.slice none 0 0)) (u2:=.bool false) (u3:=(.slice none 0 0)) HR2.out HR3.out
  have HD:=ac (And.intro hq4.2.2 (aO HBE.out (g:=w.heap.size+2) (u0:=.bool false) (u1:=(.slice none 0 0)) (u2:=.bool false) (u3:=(.slice none 0 0)) (by omega)))
  obtain⟨R5,R6,_⟩:=hq4
  generalize (((wd.setCell ⟨w.heap.size+2,0,none⟩ (.bool false)).setCell ⟨w.heap.size+2,1,none⟩ ((.slice none 0 0))).setCell ⟨w.heap.size+2+1,0,none⟩ (.bool false)).setCell ⟨w.heap.size+2+1,1,none⟩ ((.slice none 0 0))=w5 at *
  obtain⟨q0,q1⟩:=duo R5
  obtain⟨q2,q3⟩:=duo R6
  refine bodyPost_ret (v:=.tuple #[.agg #[.bool false,(.slice none 0 0)],.agg #[.bool false,(.slice none 0 0)],.int .i64 3]) (by simp [results,Tryz.results55,go_sem,q0,q1,q2,q3]) rfl ?_
  exact⟨⟨_,_,_,_,_,_,_,_,3,rfl,[],[],Ans.nil _ _,Ans.nil _ _,.inl rfl,.inr ⟨rfl,rfl,rfl,rfl,rfl,rfl,rfl,.inl HBQ.out⟩⟩,HD.out.2⟩
 ·have i1:¬(67108864:Int)<dd:=by omega
  have HBO:=wboth_any (blen (val X)) X Y _ _ wd (by omega) HA.out HB.out HT.out (by omega) (by omega) hy0
  generalize blen (val X)=lx at *
  generalize blen (val Y)=ly at *
  clear hA hB hT hb0 h0 h1 h2 h3 hbd hbwd g0 g1 hqz hrz hbig
  go_enter Tryz.func55,Tryz.ntmps55
  go_wp2_with fail
  refine HZ.mono ?_
  rintro e wn ⟨rfl,hw⟩;rw [hw];clear hw wn HZ
  go_wp2
  go_region_held3 (fun w'=>w'.cell? ⟨w.heap.size,1,none⟩=some (.slice a X.length n)∧w'.cell? ⟨w.heap.size+1,1,none⟩=some (.slice a9 Y.length n9)) (go_keep) (first
   | (go_at_call_of 92 a;(try rw [hwd]);refine L1.mono ?_;rintro e' wn ⟨rfl,hw⟩;rw [hw];clear hw wn)
   | (go_at_call_of 92 a9;(try rw [hwd]);refine L2.mono ?_;rintro e' wn ⟨rfl,hw⟩;rw [hw];clear hw wn))

  go_wp2_with fail
  refine HBO.mono ?_
  rintro e w1 ⟨⟨v1,v2,rq,rr,rfl,A1,A2,e1,t1,e2,t2,hapt⟩,hb1⟩
  obtain⟨aq,kq,rfl⟩:=A1.shape
  obtain⟨ar,kr,rfl⟩:=A2.shape
  have hlq:rq.length≤X.length:=by
   rw [←t1];refine aw rq _ ?_
   rw [e1];exact Nat.lt_of_le_of_lt (Nat.div_le_self _ _) (val_lt HA.out.limbs)
  have hlr:rr.length≤Y.length:=by
   rw [←t2];refine aw rr _ ?_
   rw [e2];exact Nat.lt_trans (Nat.mod_lt _ hy0) (val_lt HB.out.limbs)
  have hnz:=cS t2
  rw [e2] at hnz
  have HWB:=ac (HWD.out.trans (hb1.mono HWD.out.size))
  have HK0:=ac (ae hb1 HG0.out)
  have HK1:=ac (ae hb1 HG1.out)
  have HR2:=ac (ae hb1 HG2.out)
  have HR3:=ac (ae hb1 HG3.out)
  have HB1:=ac (HB.out.below hb1)
  have HT1:=ac (HT.out.below hb1)
  have HQA:=ac (And.intro (A1.base HWD.out.size) (And.intro e1 t1))
  have HRA:=ac (And.intro (A2.base HWD.out.size) (And.intro e2 t2))
  have HAP:=ac hapt
  have HLQ:=ac (And.intro (show rq.length≤1125899906842624 by omega) (show rr.length≤1125899906842624 by omega))
  obtain⟨f0,f1⟩:=duo HK0.out
  obtain⟨f2,f3⟩:=duo HK1.out
  obtain⟨lq,hnq⟩:∃lq,rq.length=lq:=⟨_,rfl⟩
  obtain⟨lr,hnr⟩:∃lr,rr.length=lr:=⟨_,rfl⟩
  rw [hnq] at HQA HAP ⊢
  rw [hnr] at HRA HAP ⊢
  have HLN:=ac (And.intro hlq (And.intro hlr (And.intro hnq hnr)))
  rw [hnr] at hnz
  clear A1 A2 e1 e2 t1 t2 hapt hb1 HBO k0 k1 k2 k3 d0 d1 d2 d3 hlq hlr hnq hnr HG0 HG1 HG2 HG3 HA HB HT L1 L2
  go_wp2
  go_quiet (fail)
  obtain⟨wq,hwq⟩:∃wq,wq=w1.drewN nq:=⟨_,rfl⟩
  have hbq:Below w1.heap.size w1 wq:=by rw [hwq];exact ((ak.refl w1).drewN nq).below _
  rw [←hwq]
  have HWB2:=ac (HWB.out.trans (hbq.mono HWB.out.size))
  have HK12:=ac (ae hbq HK1.out)
  have HR22:=ac (ae hbq HR2.out)
  have HR32:=ac (ae hbq HR3.out)
  have HB12:=ac (HB1.out.below hbq)
  have HQA2:=ac (And.intro (HQA.out.1.below hbq) HQA.out.2)
  have HRA2:=ac (And.intro (HRA.out.1.below hbq) HRA.out.2)
  clear HWB HK0 HK1 HR2 HR3 HB1 HQA HRA f0 f1 f2 f3 hwq hbq HT1
  have HWB:=HWB2
  have HR2:=HR22
  have HR3:=HR32
  obtain⟨f2,f3⟩:=duo HK12.out
  clear HWB2 HR22 HR32
  by_cases hr:0<lr
  ·have i3:(0:Int)<(lr:Int):=by omega
   have hr0:0<val X % val Y:=by omega
   have hml:=Nat.mod_lt (val X) hy0
   clear hnz
   have HLS:=cv _ (.slice ar lr kr) Y rr wq HB12.out (HRA2.out.1.arg HLQ.out.2) (by omega) (by rw [HRA2.out.2.1];omega)
   rw [HRA2.out.2.1] at HLS
   go_wp2_with fail
   refine HLS.mono ?_
   rintro e w3 ⟨⟨v3,r3,rfl,A3,e3,t3⟩,hb3⟩
   obtain⟨a3,k3,rfl⟩:=A3.shape
   have hl3:r3.length≤Y.length:=by
    rw [←t3];refine aw r3 _ ?_
    rw [e3];exact Nat.lt_of_le_of_lt (Nat.sub_le _ _) (val_lt HB12.out.limbs)
   obtain⟨l3,hl3e⟩:∃l3,r3.length=l3:=⟨_,rfl⟩
   rw [hl3e] at A3 ⊢
   have hDV:=wdivs_any w3
   have HB3:=ac hb3
   have HA3:=ac (And.intro A3 (And.intro e3 (And.intro t3 (show r3.length≤1125899906842624 by omega))))
   clear A3 e3 t3 hb3 hl3 hl3e HLS f2 f3 HK12 HB12
   go_wp2_with fail
   refine hDV.mono ?_
   rintro e w4 ⟨rfl,hb4⟩
   have HB4:=ac (HB3.out.trans (hb4.mono HB3.out.size))
   have HA4:=ac (HA3.out.1.below hb4)
   have hFU:Calls Tryz.prog 140 #[bU (.slice aq lq kq) (.slice ar lr kr) (.slice a3 l3 k3) b1 ap] w4 (fun e w'=>e=.returned (.bool fu)∧Below w4.heap.size w4 w'):=(jn aq ar a3 lq kq lr kr l3 k3 b1 ap w4).mono (fun e w' h=>⟨h.1.trans (by rw [HFU.out]),h.2⟩)
   clear hb4 hDV HB3
   go_wp2_with fail
   refine hFU.mono ?_
   rintro e w5 ⟨rfl,hb5⟩
   have hb45:=HB4.out.trans (hb5.mono HB4.out.size)
   have HR2':=ac (ae hb45 HR2.out)
   have HR3':=ac (ae hb45 HR3.out)
   have HQ5:=ac (And.intro (HQA2.out.1.below hb45) HQA2.out.2)
   have HR5:=ac (And.intro (HRA2.out.1.below hb45) HRA2.out.2)
   have HL5:=ac (And.intro ((HA4.out.below hb5).base (Nat.le_trans HWB.out.size (Nat.le_refl _))) (And.intro HA3.out.2.1 HA3.out.2.2.1))
   have HWB5:=ac (HWB.out.trans (hb45.mono HWB.out.size))
   have HLN3:=ac HA3.out.2.2.2
   clear hb5 hb45 hFU HA4 HB4 HA3 HR2 HR3 HWB HQA2 HRA2
   have HR2:=HR2'
   have HR3:=HR3'
   clear HR2' HR3'
   cases fu
   ·have HQ:=HQ5
    have HR:=HR5
    have HWB:=HWB5
    have hq9:=HQZ.out
    have hr9:=HRZ.out
    simp only [Bool.false_and,Bool.false_eq_true,if_false,Nat.add_zero] at hq9 hr9
    clear HQZ HRZ
    have HQZ:=ac hq9
    have HRZ:=ac hr9
    clear hq9 hr9 HQ5 HR5 HL5 HWB5
    obtain⟨wv,hwv,hbv,hxv⟩:=aC w5 (.cells #[.slice aq lq kq,.slice ar lr kr] 26)
    have hAB:=cb w5.heap.size (.slice aq lq kq) (.slice ar lr kr) rq rr wv hxv ((HQ.out.1.arg HLQ.out.1).below hbv) ((HR.out.1.arg HLQ.out.2).below hbv)
    have HR2v:=ac (ae hbv HR2.out)
    have HR3v:=ac (ae hbv HR3.out)
    have HBV:=ac (HWB.out.trans (hbv.mono HWB.out.size))
    have HQv:=ac (HQ.out.1.below hbv)
    have HRv:=ac (HR.out.1.below hbv)
    clear hbv hxv HR2 HR3
    by_cases hbig:67108864<blen (val rq)∨67108864<blen (val rr)
    ·rw [decide_eq_true hbig] at hAB
     have HBIG:=ac hbig
     clear hbig
     go_wp2_with fail
     refine hAB.mono ?_
     rintro e wn ⟨rfl,hw⟩;rw [hw];clear hw wn hAB
     have HR2:=HR2v
     have HR3:=HR3v
     have HBE:=HBV
     have hf2:=ag HR2.out
     have hf3:=ag HR3.out
     obtain⟨m0,m1⟩:=duo HR2.out
     obtain⟨m2,m3⟩:=duo HR3.out
     go_wp2
     have hq4:=aK (base:=w.heap.size) (u0:=.bool false) (u1:=(.slice none 0 0)) (u2:=.bool false) (u3:=(.slice none 0 0)) HR2.out HR3.out
     have HD:=ac (And.intro hq4.2.2 (aO HBE.out (g:=w.heap.size+2) (u0:=.bool false) (u1:=(.slice none 0 0)) (u2:=.bool false) (u3:=(.slice none 0 0)) (by omega)))
     obtain⟨R5,R6,_⟩:=hq4
     generalize (((wv.setCell ⟨w.heap.size+2,0,none⟩ (.bool false)).setCell ⟨w.heap.size+2,1,none⟩ ((.slice none 0 0))).setCell ⟨w.heap.size+2+1,0,none⟩ (.bool false)).setCell ⟨w.heap.size+2+1,1,none⟩ ((.slice none 0 0))=w5 at *
     obtain⟨q0,q1⟩:=duo R5
     obtain⟨q2,q3⟩:=duo R6
     refine bodyPost_ret (v:=.tuple #[.agg #[.bool false,(.slice none 0 0)],.agg #[.bool false,(.slice none 0 0)],.int .i64 3]) (by simp [results,Tryz.results55,go_sem,q0,q1,q2,q3]) rfl ?_
     refine⟨⟨_,_,_,_,_,_,_,_,3,rfl,[],[],Ans.nil _ _,Ans.nil _ _,.inl rfl,.inr ⟨rfl,rfl,rfl,rfl,rfl,rfl,rfl,?_⟩⟩,HD.out.2⟩
     rw [HQZ.out,HRZ.out,au,au,←HQ.out.2.1,←HR.out.2.1]
     exact HBIG.out
    ·rw [decide_eq_false hbig] at hAB
     have HBIG:=ac hbig
     clear hbig
     go_wp2_with fail
     refine hAB.mono ?_
     rintro e wn ⟨rfl,hw⟩;rw [hw];clear hw wn hAB
     have hS1:=aP ap (.slice aq lq kq) rq _ wv HQv.out
     rw [aR ap HQ.out.2.2 HQ.out.2.1,←HQZ.out] at hS1
     go_wp2_with fail
     refine hS1.mono ?_
     rintro e ws ⟨rfl,hbs⟩
     have hS2:=aP b1 (.slice ar lr kr) rr _ ws (HRv.out.below hbs)
     rw [aR b1 HR.out.2.2 HR.out.2.1,←HRZ.out] at hS2
     have HBS:=ac hbs
     clear hbs hS1
     go_wp2_with fail
     refine hS2.mono ?_
     rintro e wt ⟨rfl,hbt⟩
     have hbst:=HBS.out.trans (hbt.mono HBS.out.size)
     have HR2:=ac (ae hbst HR2v.out)
     have HR3:=ac (ae hbst HR3v.out)
     have HBE:=ac (HBV.out.trans (hbst.mono HBV.out.size))
     have HQt:=ac (HQv.out.below hbst)
     have HRt:=ac (HRv.out.below hbst)
     have hf2:=ag HR2.out
     have hf3:=ag HR3.out
     obtain⟨m0,m1⟩:=duo HR2.out
     obtain⟨m2,m3⟩:=duo HR3.out
     clear hbt hbst hS2 HR2v HR3v hwv
     obtain⟨uq,huq⟩:∃ub,decide (qz<0)=ub:=⟨_,rfl⟩
     obtain⟨ur,hur⟩:∃ub,decide (rz<0)=ub:=⟨_,rfl⟩
     rw [huq,hur]
     go_wp2
     have hq4:=aK (base:=w.heap.size) (u0:=.bool uq) (u1:=(.slice aq lq kq)) (u2:=.bool ur) (u3:=(.slice ar lr kr)) HR2.out HR3.out
     have HD:=ac (And.intro hq4.2.2 (aO HBE.out (g:=w.heap.size+2) (u0:=.bool uq) (u1:=(.slice aq lq kq)) (u2:=.bool ur) (u3:=(.slice ar lr kr)) (by omega)))
     obtain⟨R5,R6,_⟩:=hq4
     generalize (((wt.setCell ⟨w.heap.size+2,0,none⟩ (.bool uq)).setCell ⟨w.heap.size+2,1,none⟩ ((.slice aq lq kq))).setCell ⟨w.heap.size+2+1,0,none⟩ (.bool ur)).setCell ⟨w.heap.size+2+1,1,none⟩ ((.slice ar lr kr))=w5 at *
     obtain⟨q0,q1⟩:=duo R5
     obtain⟨q2,q3⟩:=duo R6
     refine bodyPost_ret (v:=.tuple #[.agg #[.bool uq,(.slice aq lq kq)],.agg #[.bool ur,(.slice ar lr kr)],.int .i64 0]) (by simp [results,Tryz.results55,go_sem,q0,q1,q2,q3]) rfl ?_
     refine⟨⟨_,_,_,_,_,_,_,_,0,rfl,rq,rr,HD.out.1 _ _ HQt.out,HD.out.1 _ _ HRt.out,HAP.out,.inl ⟨rfl,huq.symm,?_,HQ.out.2.2,hur.symm,?_,HR.out.2.2,?_,?_⟩⟩,HD.out.2⟩
     ·rw [HQZ.out,au];exact HQ.out.2.1
     ·rw [HRZ.out,au];exact HR.out.2.1
     ·rw [HQZ.out,au,←HQ.out.2.1];have:=HBIG.out;omega
     ·rw [HRZ.out,au,←HR.out.2.1];have:=HBIG.out;omega
   ·obtain⟨w6,hw6,hb6,hx6⟩:=aC w5 (.cells #[.int .u64 1] 34)
    have hblk:Blk w6 w5.heap.size [1]:=hx6
    have A6:=Ans.of_blk (base:=w5.heap.size) (zs:=[1]) (Nat.le_refl _) hblk (by simp) (by simp) (by simp) (by intro z hz;simp at hz;omega)
    have hSM:=dY (.slice aq lq kq) (.slice (some ⟨w5.heap.size,0,none⟩) 1 1) rq [1] w6 ((HQ5.out.1.arg HLQ.out.1).below hb6) (A6.arg (by simp)) (by have:=HLN.out.1;omega) (by simp)
    rw [HQ5.out.2.1,show val [1]=1 from by simp [val]] at hSM
    have HB6:=ac hb6
    clear hb6 hx6 hblk A6
    go_wp2_with fail
    refine hSM.mono ?_
    rintro e w7 ⟨⟨v7,r7,rfl,A7,e7,t7⟩,hb7⟩
    obtain⟨a7,k7,rfl⟩:=A7.shape
    have hb67:=HB6.out.trans (hb7.mono HB6.out.size)
    have HR2':=ac (ae hb67 HR2.out)
    have HR3':=ac (ae hb67 HR3.out)
    have HWB:=ac (HWB5.out.trans (hb67.mono HWB5.out.size))
    have hl7:r7.length≤rq.length+1:=by
     rw [←t7];refine aw r7 _ ?_
     rw [e7]
     have h1:=val_lt HQ5.out.1.limbs
     rw [HQ5.out.2.1] at h1
     rw [Nat.pow_succ]
     have h0:=W_pos rq.length
     generalize 18446744073709551616 ^ rq.length=P9 at *
     omega
    have hlqx:=HLN.out.1
    obtain⟨l7,hl7e⟩:∃l7,r7.length=l7:=⟨_,rfl⟩
    rw [hl7e] at A7 ⊢
    have hAP7:=apart_of2 (v2:=.slice a3 l3 k3) (fun g hg=>Nat.lt_of_lt_of_le (HL5.out.1.own.lt g hg).2 HB6.out.size) A7
    have hs57:w.heap.size≤w6.heap.size:=Nat.le_trans HWB5.out.size HB6.out.size
    have HQ:=ac (And.intro (A7.base hs57) (And.intro e7 t7))
    have HR:=ac (And.intro (HL5.out.1.below hb67) HL5.out.2)
    have hq9:=HQZ.out
    have hr9:=HRZ.out
    rw [decide_eq_true hr0] at hq9 hr9
    simp only [Bool.true_and,if_true] at hq9 hr9
    clear HQ5 HR5 HAP HLQ HR2 HR3 HWB5 HQZ HRZ
    have HAP:=ac hAP7
    have HLQ:=ac (And.intro (show r7.length≤1125899906842624 by omega) HLN3.out)
    have HR2:=HR2'
    have HR3:=HR3'
    have HQZ:=ac hq9
    have HRZ:=ac hr9
    clear hq9 hr9 HL5 hb7 hb67 A7 e7 t7 hSM HB6 hs57 HR2' HR3' hw6
    obtain⟨wv,hwv,hbv,hxv⟩:=aC w7 (.cells #[.slice a7 l7 k7,.slice a3 l3 k3] 26)
    have hAB:=cb w7.heap.size (.slice a7 l7 k7) (.slice a3 l3 k3) r7 r3 wv hxv ((HQ.out.1.arg HLQ.out.1).below hbv) ((HR.out.1.arg HLQ.out.2).below hbv)
    have HR2v:=ac (ae hbv HR2.out)
    have HR3v:=ac (ae hbv HR3.out)
    have HBV:=ac (HWB.out.trans (hbv.mono HWB.out.size))
    have HQv:=ac (HQ.out.1.below hbv)
    have HRv:=ac (HR.out.1.below hbv)
    clear hbv hxv HR2 HR3
    by_cases hbig:67108864<blen (val r7)∨67108864<blen (val r3)
    ·rw [decide_eq_true hbig] at hAB
     have HBIG:=ac hbig
     clear hbig
     go_wp2_with fail
     refine hAB.mono ?_
     rintro e wn ⟨rfl,hw⟩;rw [hw];clear hw wn hAB
     have HR2:=HR2v
     have HR3:=HR3v
     have HBE:=HBV
     have hf2:=ag HR2.out
     have hf3:=ag HR3.out
     obtain⟨m0,m1⟩:=duo HR2.out
     obtain⟨m2,m3⟩:=duo HR3.out
     go_wp2
     have hq4:=aK (base:=w.heap.size) (u0:=.bool false) (u1:=(.slice none 0 0)) (u2:=.bool false) (u3:=(.slice none 0 0)) HR2.out HR3.out
     have HD:=ac (And.intro hq4.2.2 (aO HBE.out (g:=w.heap.size+2) (u0:=.bool false) (u1:=(.slice none 0 0)) (u2:=.bool false) (u3:=(.slice none 0 0)) (by omega)))
     obtain⟨R5,R6,_⟩:=hq4
     generalize (((wv.setCell ⟨w.heap.size+2,0,none⟩ (.bool false)).setCell ⟨w.heap.size+2,1,none⟩ ((.slice none 0 0))).setCell ⟨w.heap.size+2+1,0,none⟩ (.bool false)).setCell ⟨w.heap.size+2+1,1,none⟩ ((.slice none 0 0))=w5 at *
     obtain⟨q0,q1⟩:=duo R5
     obtain⟨q2,q3⟩:=duo R6
     refine bodyPost_ret (v:=.tuple #[.agg #[.bool false,(.slice none 0 0)],.agg #[.bool false,(.slice none 0 0)],.int .i64 3]) (by simp [results,Tryz.results55,go_sem,q0,q1,q2,q3]) rfl ?_
     refine⟨⟨_,_,_,_,_,_,_,_,3,rfl,[],[],Ans.nil _ _,Ans.nil _ _,.inl rfl,.inr ⟨rfl,rfl,rfl,rfl,rfl,rfl,rfl,?_⟩⟩,HD.out.2⟩
     rw [HQZ.out,HRZ.out,au,au,←HQ.out.2.1,←HR.out.2.1]
     exact HBIG.out
    ·rw [decide_eq_false hbig] at hAB
     have HBIG:=ac hbig
     clear hbig
     go_wp2_with fail
     refine hAB.mono ?_
     rintro e wn ⟨rfl,hw⟩;rw [hw];clear hw wn hAB
     have hS1:=aP ap (.slice a7 l7 k7) r7 _ wv HQv.out
     rw [aR ap HQ.out.2.2 HQ.out.2.1,←HQZ.out] at hS1
     go_wp2_with fail
     refine hS1.mono ?_
     rintro e ws ⟨rfl,hbs⟩
     have hS2:=aP (!b1) (.slice a3 l3 k3) r3 _ ws (HRv.out.below hbs)
     rw [aR (!b1) HR.out.2.2 HR.out.2.1,←HRZ.out] at hS2
     have HBS:=ac hbs
     clear hbs hS1
     go_wp2_with fail
     refine hS2.mono ?_
     rintro e wt ⟨rfl,hbt⟩
     have hbst:=HBS.out.trans (hbt.mono HBS.out.size)
     have HR2:=ac (ae hbst HR2v.out)
     have HR3:=ac (ae hbst HR3v.out)
     have HBE:=ac (HBV.out.trans (hbst.mono HBV.out.size))
     have HQt:=ac (HQv.out.below hbst)
     have HRt:=ac (HRv.out.below hbst)
     have hf2:=ag HR2.out
     have hf3:=ag HR3.out
     obtain⟨m0,m1⟩:=duo HR2.out
     obtain⟨m2,m3⟩:=duo HR3.out
     clear hbt hbst hS2 HR2v HR3v hwv
     obtain⟨uq,huq⟩:∃ub,decide (qz<0)=ub:=⟨_,rfl⟩
     obtain⟨ur,hur⟩:∃ub,decide (rz<0)=ub:=⟨_,rfl⟩
     rw [huq,hur]
     go_wp2
     have hq4:=aK (base:=w.heap.size) (u0:=.bool uq) (u1:=(.slice a7 l7 k7)) (u2:=.bool ur) (u3:=(.slice a3 l3 k3)) HR2.out HR3.out
     have HD:=ac (And.intro hq4.2.2 (aO HBE.out (g:=w.heap.size+2) (u0:=.bool uq) (u1:=(.slice a7 l7 k7)) (u2:=.bool ur) (u3:=(.slice a3 l3 k3)) (by omega)))
     obtain⟨R5,R6,_⟩:=hq4
     generalize (((wt.setCell ⟨w.heap.size+2,0,none⟩ (.bool uq)).setCell ⟨w.heap.size+2,1,none⟩ ((.slice a7 l7 k7))).setCell ⟨w.heap.size+2+1,0,none⟩ (.bool ur)).setCell ⟨w.heap.size+2+1,1,none⟩ ((.slice a3 l3 k3))=w5 at *
     obtain⟨q0,q1⟩:=duo R5
     obtain⟨q2,q3⟩:=duo R6
     refine bodyPost_ret (v:=.tuple #[.agg #[.bool uq,(.slice a7 l7 k7)],.agg #[.bool ur,(.slice a3 l3 k3)],.int .i64 0]) (by simp [results,Tryz.results55,go_sem,q0,q1,q2,q3]) rfl ?_
     refine⟨⟨_,_,_,_,_,_,_,_,0,rfl,r7,r3,HD.out.1 _ _ HQt.out,HD.out.1 _ _ HRt.out,HAP.out,.inl ⟨rfl,huq.symm,?_,HQ.out.2.2,hur.symm,?_,HR.out.2.2,?_,?_⟩⟩,HD.out.2⟩
     ·rw [HQZ.out,au];exact HQ.out.2.1
     ·rw [HRZ.out,au];exact HR.out.2.1
     ·rw [HQZ.out,au,←HQ.out.2.1];have:=HBIG.out;omega
     ·rw [HRZ.out,au,←HR.out.2.1];have:=HBIG.out;omega
  ·have i3:¬(0:Int)<(lr:Int):=by omega
   have hr0:val X % val Y=0:=by omega
   have HQ:=HQA2
   have HR:=HRA2
   have hfz:(fu && decide (0<val X % val Y))=false:=by rw [hr0];simp
   have hq9:=HQZ.out
   have hr9:=HRZ.out
   rw [hfz] at hq9 hr9
   simp only [Bool.false_eq_true,if_false,Nat.add_zero] at hq9 hr9
   clear HQZ HRZ
   have HQZ:=ac hq9
   have HRZ:=ac hr9
   clear hq9 hr9 hfz HQA2 HRA2 hnz f2 f3 HK12 HB12
   obtain⟨wv,hwv,hbv,hxv⟩:=aC wq (.cells #[.slice aq lq kq,.slice ar lr kr] 26)
   have hAB:=cb wq.heap.size (.slice aq lq kq) (.slice ar lr kr) rq rr wv hxv ((HQ.out.1.arg HLQ.out.1).below hbv) ((HR.out.1.arg HLQ.out.2).below hbv)
   have HR2v:=ac (ae hbv HR2.out)
   have HR3v:=ac (ae hbv HR3.out)
   have HBV:=ac (HWB.out.trans (hbv.mono HWB.out.size))
   have HQv:=ac (HQ.out.1.below hbv)
   have HRv:=ac (HR.out.1.below hbv)
   clear hbv hxv HR2 HR3
   by_cases hbig:67108864<blen (val rq)∨67108864<blen (val rr)
   ·rw [decide_eq_true hbig] at hAB
    have HBIG:=ac hbig
    clear hbig
    go_wp2_with fail
    refine hAB.mono ?_
    rintro e wn ⟨rfl,hw⟩;rw [hw];clear hw wn hAB
    have HR2:=HR2v
    have HR3:=HR3v
    have HBE:=HBV
    have hf2:=ag HR2.out
    have hf3:=ag HR3.out
    obtain⟨m0,m1⟩:=duo HR2.out
    obtain⟨m2,m3⟩:=duo HR3.out
    go_wp2
    have hq4:=aK (base:=w.heap.size) (u0:=.bool false) (u1:=(.slice none 0 0)) (u2:=.bool false) (u3:=(.slice none 0 0)) HR2.out HR3.out
    have HD:=ac (And.intro hq4.2.2 (aO HBE.out (g:=w.heap.size+2) (u0:=.bool false) (u1:=(.slice none 0 0)) (u2:=.bool false) (u3:=(.slice none 0 0)) (by omega)))
    obtain⟨R5,R6,_⟩:=hq4
    generalize (((wv.setCell ⟨w.heap.size+2,0,none⟩ (.bool false)).setCell ⟨w.heap.size+2,1,none⟩ ((.slice none 0 0))).setCell ⟨w.heap.size+2+1,0,none⟩ (.bool false)).setCell ⟨w.heap.size+2+1,1,none⟩ ((.slice none 0 0))=w5 at *
    obtain⟨q0,q1⟩:=duo R5
    obtain⟨q2,q3⟩:=duo R6
    refine bodyPost_ret (v:=.tuple #[.agg #[.bool false,(.slice none 0 0)],.agg #[.bool false,(.slice none 0 0)],.int .i64 3]) (by simp [results,Tryz.results55,go_sem,q0,q1,q2,q3]) rfl ?_
    refine⟨⟨_,_,_,_,_,_,_,_,3,rfl,[],[],Ans.nil _ _,Ans.nil _ _,.inl rfl,.inr ⟨rfl,rfl,rfl,rfl,rfl,rfl,rfl,?_⟩⟩,HD.out.2⟩
    rw [HQZ.out,HRZ.out,au,au,←HQ.out.2.1,←HR.out.2.1]
    exact HBIG.out
   ·rw [decide_eq_false hbig] at hAB
    have HBIG:=ac hbig
    clear hbig
    go_wp2_with fail
    refine hAB.mono ?_
    rintro e wn ⟨rfl,hw⟩;rw [hw];clear hw wn hAB
    have hS1:=aP ap (.slice aq lq kq) rq _ wv HQv.out
    rw [aR ap HQ.out.2.2 HQ.out.2.1,←HQZ.out] at hS1
    go_wp2_with fail
    refine hS1.mono ?_
    rintro e ws ⟨rfl,hbs⟩
    have hS2:=aP b1 (.slice ar lr kr) rr _ ws (HRv.out.below hbs)
    rw [aR b1 HR.out.2.2 HR.out.2.1,←HRZ.out] at hS2
    have HBS:=ac hbs
    clear hbs hS1
    go_wp2_with fail
    refine hS2.mono ?_
    rintro e wt ⟨rfl,hbt⟩
    have hbst:=HBS.out.trans (hbt.mono HBS.out.size)
    have HR2:=ac (ae hbst HR2v.out)
    have HR3:=ac (ae hbst HR3v.out)
    have HBE:=ac (HBV.out.trans (hbst.mono HBV.out.size))
    have HQt:=ac (HQv.out.below hbst)
    have HRt:=ac (HRv.out.below hbst)
    have hf2:=ag HR2.out
    have hf3:=ag HR3.out
    obtain⟨m0,m1⟩:=duo HR2.out
    obtain⟨m2,m3⟩:=duo HR3.out
    clear hbt hbst hS2 HR2v HR3v hwv
    obtain⟨uq,huq⟩:∃ub,decide (qz<0)=ub:=⟨_,rfl⟩
    obtain⟨ur,hur⟩:∃ub,decide (rz<0)=ub:=⟨_,rfl⟩
    rw [huq,hur]
    go_wp2
    have hq4:=aK (base:=w.heap.size) (u0:=.bool uq) (u1:=(.slice aq lq kq)) (u2:=.bool ur) (u3:=(.slice ar lr kr)) HR2.out HR3.out
    have HD:=ac (And.intro hq4.2.2 (aO HBE.out (g:=w.heap.size+2) (u0:=.bool uq) (u1:=(.slice aq lq kq)) (u2:=.bool ur) (u3:=(.slice ar lr kr)) (by omega)))
    obtain⟨R5,R6,_⟩:=hq4
    generalize (((wt.setCell ⟨w.heap.size+2,0,none⟩ (.bool uq)).setCell ⟨w.heap.size+2,1,none⟩ ((.slice aq lq kq))).setCell ⟨w.heap.size+2+1,0,none⟩ (.bool ur)).setCell ⟨w.heap.size+2+1,1,none⟩ ((.slice ar lr kr))=w5 at *
    obtain⟨q0,q1⟩:=duo R5
    obtain⟨q2,q3⟩:=duo R6
    refine bodyPost_ret (v:=.tuple #[.agg #[.bool uq,(.slice aq lq kq)],.agg #[.bool ur,(.slice ar lr kr)],.int .i64 0]) (by simp [results,Tryz.results55,go_sem,q0,q1,q2,q3]) rfl ?_
    refine⟨⟨_,_,_,_,_,_,_,_,0,rfl,rq,rr,HD.out.1 _ _ HQt.out,HD.out.1 _ _ HRt.out,HAP.out,.inl ⟨rfl,huq.symm,?_,HQ.out.2.2,hur.symm,?_,HR.out.2.2,?_,?_⟩⟩,HD.out.2⟩
    ·rw [HQZ.out,au];exact HQ.out.2.1
    ·rw [HRZ.out,au];exact HR.out.2.1
    ·rw [HQZ.out,au,←HQ.out.2.1];have:=HBIG.out;omega
    ·rw [HRZ.out,au,←HR.out.2.1];have:=HBIG.out;omega
end Go.Proofs.YtemgogeokkeipaaGreatDoor
namespace Go.Proofs.YtemgogeokkeipaaGreatDoor
open Go.RowKit
open Lm
attribute [local go_sem ↓] Go.wp_at_zero Go.wp_at_succ

attribute [local go_sem] fN i8 in
theorem wdivide_5 (b1:Bool)(v:Value)(X:List Nat)(b2:Bool)(u:Value)(Y:List Nat)(ap fu:Bool)(qz rz:Int)(w:World)(hA:Arg w v X)(hB:Arg w u Y)(hT:Tab w)(hx:X.length≤17592186043904)(hy:Y.length≤17592186043904)(hy0:0<val Y)
  (hap:(b1 != b2)=ap) (hfu:b1=fu)
  (hqz:qz=zz ap (val X / val Y+if fu && decide (0<val X % val Y) then 1 else 0)) (hrz:rz=zz (if fu && decide (0<val X % val Y) then !b1 else b1) (if fu && decide (0<val X % val Y) then val Y - val X % val Y else val X % val Y)) :
  Calls Tryz.prog 55 #[.int .i64 4,.agg #[.bool b1,v],.agg #[.bool b2,u]] w (cN w qz rz):=by
 have hap2:(!(b1 == b2))=ap:=hap
 have HFU:=ac hfu
 clear hfu
 obtain⟨a,n,rfl,hn1,hn2,_⟩:=hA.form
 obtain⟨a9,n9,rfl,hn3,hn4,_⟩:=hB.form
 obtain⟨w0,hw0,hb0,h0,h1,h2,h3⟩:=cP w (.cells #[.bool b1,.slice a X.length n] 28) (.cells #[.bool b2,.slice a9 Y.length n9] 28) (.cells #[.bool false,.slice none 0 0] 28) (.cells #[.bool false,.slice none 0 0] 28)
 obtain⟨k0,k1⟩:=duo h0
 obtain⟨k2,k3⟩:=duo h1
 have hbx:blen (val X)≤64*X.length:=cq X hA.limbs
 have hby:blen (val Y)≤64*Y.length:=cq Y hB.limbs
 have HZ:=cV _ Y w0 (hB.below hb0)
 rw [decide_eq_false (by omega)] at HZ
 obtain⟨wd,hwd⟩:∃wd,w0.drew=wd:=⟨_,rfl⟩
 have hbd:Below w0.heap.size w0 wd:=by rw [←hwd];exact (Below.refl _ _).drew
 have hbwd:=hb0.trans (hbd.mono hb0.size)
 have L1:=aE _ X wd (hA.below hbwd)
 have L2:=aE _ Y wd (hB.below hbwd)
 have g0:=ae hbd h0
 have g1:=ae hbd h1
 obtain⟨d0,d1⟩:=duo g0
 obtain⟨d2,d3⟩:=duo g1
 have HG0:=ac g0
 have HG1:=ac g1
 have HG2:=ac (ae hbd h2)
 have HG3:=ac (ae hbd h3)
 have HWD:=ac hbwd
 obtain⟨dd,hdd⟩:∃dd:Int,((blen (val X):Nat):Int) - ((blen (val Y):Nat):Int)=dd:=⟨_,rfl⟩
 have wdd:IntKind.i64.wrap dd=dd:=by rw [IntKind.wrap_i64];omega
 have wdd2:IntKind.i64.wrap (((blen (val X):Nat):Int) - ((blen (val Y):Nat):Int))=dd:=by rw [IntKind.wrap_i64];omega
 have HQZ:=ac hqz
 have HRZ:=ac hrz
 have HA:=ac (hA.below hbwd)
 have HB:=ac (hB.below hbwd)
 have HT:=ac (hT.below hbwd)
 by_cases hbig:67108864+blen (val Y)<blen (val X)
 ·have i1:(67108864:Int)<dd:=by omega
  have HBQ:Hid (67108864<blen qz.natAbs):=by
   refine ac ?_
   rw [hqz,au]
   refine Nat.lt_of_lt_of_le ?_ (blen_mono (Nat.le_add_right _ _))
   exact fA (by omega) hbig
  generalize blen (val X)=lx at *
  generalize blen (val Y)=ly at *
  clear hA hB hT hb0 h0 h1 h2 h3 hbd hbwd g0 g1 HQZ HRZ hqz hrz hbig
  go_enter Tryz.func55,Tryz.ntmps55
  go_wp2_with fail
  refine HZ.mono ?_
  rintro e wn ⟨rfl,hw⟩;rw [hw];clear hw wn HZ
  go_wp2
  go_region_held3 (fun w'=>w'.cell? ⟨w.heap.size,1,none⟩=some (.slice a X.length n)∧w'.cell? ⟨w.heap.size+1,1,none⟩=some (.slice a9 Y.length n9)) (go_keep) (first
   | (go_at_call_of 92 a;(try rw [hwd]);refine L1.mono ?_;rintro e' wn ⟨rfl,hw⟩;rw [hw];clear hw wn)
   | (go_at_call_of 92 a9;(try rw [hwd]);refine L2.mono ?_;rintro e' wn ⟨rfl,hw⟩;rw [hw];clear hw wn))

  have HR2:=HG2
  have HR3:=HG3
  have HBE:=HWD
  have hf2:=ag HR2.out
  have hf3:=ag HR3.out
  obtain⟨m0,m1⟩:=duo HR2.out
  obtain⟨m2,m3⟩:=duo HR3.out
  go_wp2
  have hq4:=aK (base:=w.heap.size) (u0:=.bool false) (u1:=(.slice none 0 0)) (u2:=.bool false) (u3:=(.slice none 0 0)) HR2.out HR3.out
  have HD:=ac (And.intro hq4.2.2 (aO HBE.out (g:=w.heap.size+2) (u0:=.bool false) (u1:=(.slice none 0 0)) (u2:=.bool false) (u3:=(.slice none 0 0)) (by omega)))
  obtain⟨R5,R6,_⟩:=hq4
  generalize (((wd.setCell ⟨w.heap.size+2,0,none⟩ (.bool false)).setCell ⟨w.heap.size+2,1,none⟩ ((.slice none 0 0))).setCell ⟨w.heap.size+2+1,0,none⟩ (.bool false)).setCell ⟨w.heap.size+2+1,1,none⟩ ((.slice none 0 0))=w5 at *
  obtain⟨q0,q1⟩:=duo R5
  obtain⟨q2,q3⟩:=duo R6
  refine bodyPost_ret (v:=.tuple #[.agg #[.bool false,(.slice none 0 0)],.agg #[.bool false,(.slice none 0 0)],.int .i64 3]) (by simp [results,Tryz.results55,go_sem,q0,q1,q2,q3]) rfl ?_
  exact⟨⟨_,_,_,_,_,_,_,_,3,rfl,[],[],Ans.nil _ _,Ans.nil _ _,.inl rfl,.inr ⟨rfl,rfl,rfl,rfl,rfl,rfl,rfl,.inl HBQ.out⟩⟩,HD.out.2⟩
 ·have i1:¬(67108864:Int)<dd:=by omega
  have HBO:=wboth_any (blen (val X)) X Y _ _ wd (by omega) HA.out HB.out HT.out (by omega) (by omega) hy0
  generalize blen (val X)=lx at *
  generalize blen (val Y)=ly at *
  clear hA hB hT hb0 h0 h1 h2 h3 hbd hbwd g0 g1 hqz hrz hbig
  go_enter Tryz.func55,Tryz.ntmps55
  go_wp2_with fail
  refine HZ.mono ?_
  rintro e wn ⟨rfl,hw⟩;rw [hw];clear hw wn HZ
  go_wp2
  go_region_held3 (fun w'=>w'.cell? ⟨w.heap.size,1,none⟩=some (.slice a X.length n)∧w'.cell? ⟨w.heap.size+1,1,none⟩=some (.slice a9 Y.length n9)) (go_keep) (first
   | (go_at_call_of 92 a;(try rw [hwd]);refine L1.mono ?_;rintro e' wn ⟨rfl,hw⟩;rw [hw];clear hw wn)
   | (go_at_call_of 92 a9;(try rw [hwd]);refine L2.mono ?_;rintro e' wn ⟨rfl,hw⟩;rw [hw];clear hw wn))

  go_wp2_with fail
  refine HBO.mono ?_
  rintro e w1 ⟨⟨v1,v2,rq,rr,rfl,A1,A2,e1,t1,e2,t2,hapt⟩,hb1⟩
  obtain⟨aq,kq,rfl⟩:=A1.shape
  obtain⟨ar,kr,rfl⟩:=A2.shape
  have hlq:rq.length≤X.length:=by
   rw [←t1];refine aw rq _ ?_
   rw [e1];exact Nat.lt_of_le_of_lt (Nat.div_le_self _ _) (val_lt HA.out.limbs)
  have hlr:rr.length≤Y.length:=by
   rw [←t2];refine aw rr _ ?_
   rw [e2];exact Nat.lt_trans (Nat.mod_lt _ hy0) (val_lt HB.out.limbs)
  have hnz:=cS t2
  rw [e2] at hnz
  have HWB:=ac (HWD.out.trans (hb1.mono HWD.out.size))
  have HK0:=ac (ae hb1 HG0.out)
  have HK1:=ac (ae hb1 HG1.out)
  have HR2:=ac (ae hb1 HG2.out)
  have HR3:=ac (ae hb1 HG3.out)
  have HB1:=ac (HB.out.below hb1)
  have HT1:=ac (HT.out.below hb1)
  have HQA:=ac (And.intro (A1.base HWD.out.size) (And.intro e1 t1))
  have HRA:=ac (And.intro (A2.base HWD.out.size) (And.intro e2 t2))
  have HAP:=ac hapt
  have HLQ:=ac (And.intro (show rq.length≤1125899906842624 by omega) (show rr.length≤1125899906842624 by omega))
  obtain⟨f0,f1⟩:=duo HK0.out
  obtain⟨f2,f3⟩:=duo HK1.out
  obtain⟨lq,hnq⟩:∃lq,rq.length=lq:=⟨_,rfl⟩
  obtain⟨lr,hnr⟩:∃lr,rr.length=lr:=⟨_,rfl⟩
  rw [hnq] at HQA HAP ⊢
  rw [hnr] at HRA HAP ⊢
  have HLN:=ac (And.intro hlq (And.intro hlr (And.intro hnq hnr)))
  rw [hnr] at hnz
  clear A1 A2 e1 e2 t1 t2 hapt hb1 HBO k0 k1 k2 k3 d0 d1 d2 d3 hlq hlr hnq hnr HG0 HG1 HG2 HG3 HA HB HT L1 L2
  go_wp2
  go_quiet (fail)
  obtain⟨wq,hwq⟩:∃wq,wq=w1.drewN nq:=⟨_,rfl⟩
  have hbq:Below w1.heap.size w1 wq:=by rw [hwq];exact ((ak.refl w1).drewN nq).below _
  rw [←hwq]
  have HWB2:=ac (HWB.out.trans (hbq.mono HWB.out.size))
  have HK12:=ac (ae hbq HK1.out)
  have HR22:=ac (ae hbq HR2.out)
  have HR32:=ac (ae hbq HR3.out)
  have HB12:=ac (HB1.out.below hbq)
  have HQA2:=ac (And.intro (HQA.out.1.below hbq) HQA.out.2)
  have HRA2:=ac (And.intro (HRA.out.1.below hbq) HRA.out.2)
  clear HWB HK0 HK1 HR2 HR3 HB1 HQA HRA f0 f1 f2 f3 hwq hbq HT1
  have HWB:=HWB2
  have HR2:=HR22
  have HR3:=HR32
  obtain⟨f2,f3⟩:=duo HK12.out
  clear HWB2 HR22 HR32
  by_cases hr:0<lr
  ·have i3:(0:Int)<(lr:Int):=by omega
   have hr0:0<val X % val Y:=by omega
   have hml:=Nat.mod_lt (val X) hy0
   clear hnz
   have HLS:=cv _ (.slice ar lr kr) Y rr wq HB12.out (HRA2.out.1.arg HLQ.out.2) (by omega) (by rw [HRA2.out.2.1];omega)
   rw [HRA2.out.2.1] at HLS
   go_wp2_with fail
   refine HLS.mono ?_
   rintro e w3 ⟨⟨v3,r3,rfl,A3,e3,t3⟩,hb3⟩
   obtain⟨a3,k3,rfl⟩:=A3.shape
   have hl3:r3.length≤Y.length:=by
    rw [←t3];refine aw r3 _ ?_
    rw [e3];exact Nat.lt_of_le_of_lt (Nat.sub_le _ _) (val_lt HB12.out.limbs)
   obtain⟨l3,hl3e⟩:∃l3,r3.length=l3:=⟨_,rfl⟩
   rw [hl3e] at A3 ⊢
   have hDV:=wdivs_any w3
   have HB3:=ac hb3
   have HA3:=ac (And.intro A3 (And.intro e3 (And.intro t3 (show r3.length≤1125899906842624 by omega))))
   clear A3 e3 t3 hb3 hl3 hl3e HLS f2 f3 HK12 HB12
   go_wp2_with fail
   refine hDV.mono ?_
   rintro e w4 ⟨rfl,hb4⟩
   have HB4:=ac (HB3.out.trans (hb4.mono HB3.out.size))
   have HA4:=ac (HA3.out.1.below hb4)
   have hFU:Calls Tryz.prog 143 #[bU (.slice aq lq kq) (.slice ar lr kr) (.slice a3 l3 k3) b1 ap] w4 (fun e w'=>e=.returned (.bool fu)∧Below w4.heap.size w4 w'):=(i9 aq ar a3 lq kq lr kr l3 k3 b1 ap w4).mono (fun e w' h=>⟨h.1.trans (by rw [HFU.out]),h.2⟩)
   clear hb4 hDV HB3
   go_wp2_with fail
   refine hFU.mono ?_
   rintro e w5 ⟨rfl,hb5⟩
   have hb45:=HB4.out.trans (hb5.mono HB4.out.size)
   have HR2':=ac (ae hb45 HR2.out)
   have HR3':=ac (ae hb45 HR3.out)
   have HQ5:=ac (And.intro (HQA2.out.1.below hb45) HQA2.out.2)
   have HR5:=ac (And.intro (HRA2.out.1.below hb45) HRA2.out.2)
   have HL5:=ac (And.intro ((HA4.out.below hb5).base (Nat.le_trans HWB.out.size (Nat.le_refl _))) (And.intro HA3.out.2.1 HA3.out.2.2.1))
   have HWB5:=ac (HWB.out.trans (hb45.mono HWB.out.size))
   have HLN3:=ac HA3.out.2.2.2
   clear hb5 hb45 hFU HA4 HB4 HA3 HR2 HR3 HWB HQA2 HRA2
   have HR2:=HR2'
   have HR3:=HR3'
   clear HR2' HR3'
   cases fu
   ·have HQ:=HQ5
    have HR:=HR5
    have HWB:=HWB5
    have hq9:=HQZ.out
    have hr9:=HRZ.out
    simp only [Bool.false_and,Bool.false_eq_true,if_false,Nat.add_zero] at hq9 hr9
    clear HQZ HRZ
    have HQZ:=ac hq9
    have HRZ:=ac hr9
    clear hq9 hr9 HQ5 HR5 HL5 HWB5
    obtain⟨wv,hwv,hbv,hxv⟩:=aC w5 (.cells #[.slice aq lq kq,.slice ar lr kr] 26)
    have hAB:=cb w5.heap.size (.slice aq lq kq) (.slice ar lr kr) rq rr wv hxv ((HQ.out.1.arg HLQ.out.1).below hbv) ((HR.out.1.arg HLQ.out.2).below hbv)
    have HR2v:=ac (ae hbv HR2.out)
    have HR3v:=ac (ae hbv HR3.out)
    have HBV:=ac (HWB.out.trans (hbv.mono HWB.out.size))
    have HQv:=ac (HQ.out.1.below hbv)
    have HRv:=ac (HR.out.1.below hbv)
    clear hbv hxv HR2 HR3
    by_cases hbig:67108864<blen (val rq)∨67108864<blen (val rr)
    ·rw [decide_eq_true hbig] at hAB
     have HBIG:=ac hbig
     clear hbig
     go_wp2_with fail
     refine hAB.mono ?_
     rintro e wn ⟨rfl,hw⟩;rw [hw];clear hw wn hAB
     have HR2:=HR2v
     have HR3:=HR3v
     have HBE:=HBV
     have hf2:=ag HR2.out
     have hf3:=ag HR3.out
     obtain⟨m0,m1⟩:=duo HR2.out
     obtain⟨m2,m3⟩:=duo HR3.out
     go_wp2
     have hq4:=aK (base:=w.heap.size) (u0:=.bool false) (u1:=(.slice none 0 0)) (u2:=.bool false) (u3:=(.slice none 0 0)) HR2.out HR3.out
     have HD:=ac (And.intro hq4.2.2 (aO HBE.out (g:=w.heap.size+2) (u0:=.bool false) (u1:=(.slice none 0 0)) (u2:=.bool false) (u3:=(.slice none 0 0)) (by omega)))
     obtain⟨R5,R6,_⟩:=hq4
     generalize (((wv.setCell ⟨w.heap.size+2,0,none⟩ (.bool false)).setCell ⟨w.heap.size+2,1,none⟩ ((.slice none 0 0))).setCell ⟨w.heap.size+2+1,0,none⟩ (.bool false)).setCell ⟨w.heap.size+2+1,1,none⟩ ((.slice none 0 0))=w5 at *
     obtain⟨q0,q1⟩:=duo R5
     obtain⟨q2,q3⟩:=duo R6
     refine bodyPost_ret (v:=.tuple #[.agg #[.bool false,(.slice none 0 0)],.agg #[.bool false,(.slice none 0 0)],.int .i64 3]) (by simp [results,Tryz.results55,go_sem,q0,q1,q2,q3]) rfl ?_
     refine⟨⟨_,_,_,_,_,_,_,_,3,rfl,[],[],Ans.nil _ _,Ans.nil _ _,.inl rfl,.inr ⟨rfl,rfl,rfl,rfl,rfl,rfl,rfl,?_⟩⟩,HD.out.2⟩
     rw [HQZ.out,HRZ.out,au,au,←HQ.out.2.1,←HR.out.2.1]
     exact HBIG.out
    ·rw [decide_eq_false hbig] at hAB
     have HBIG:=ac hbig
     clear hbig
     go_wp2_with fail
     refine hAB.mono ?_
     rintro e wn ⟨rfl,hw⟩;rw [hw];clear hw wn hAB
     have hS1:=aP ap (.slice aq lq kq) rq _ wv HQv.out
     rw [aR ap HQ.out.2.2 HQ.out.2.1,←HQZ.out] at hS1
     go_wp2_with fail
     refine hS1.mono ?_
     rintro e ws ⟨rfl,hbs⟩
     have hS2:=aP b1 (.slice ar lr kr) rr _ ws (HRv.out.below hbs)
     rw [aR b1 HR.out.2.2 HR.out.2.1,←HRZ.out] at hS2
     have HBS:=ac hbs
     clear hbs hS1
     go_wp2_with fail
     refine hS2.mono ?_
     rintro e wt ⟨rfl,hbt⟩
     have hbst:=HBS.out.trans (hbt.mono HBS.out.size)
     have HR2:=ac (ae hbst HR2v.out)
     have HR3:=ac (ae hbst HR3v.out)
     have HBE:=ac (HBV.out.trans (hbst.mono HBV.out.size))
     have HQt:=ac (HQv.out.below hbst)
     have HRt:=ac (HRv.out.below hbst)
     have hf2:=ag HR2.out
     have hf3:=ag HR3.out
     obtain⟨m0,m1⟩:=duo HR2.out
     obtain⟨m2,m3⟩:=duo HR3.out
     clear hbt hbst hS2 HR2v HR3v hwv
     obtain⟨uq,huq⟩:∃ub,decide (qz<0)=ub:=⟨_,rfl⟩
     obtain⟨ur,hur⟩:∃ub,decide (rz<0)=ub:=⟨_,rfl⟩
     rw [huq,hur]
     go_wp2
     have hq4:=aK (base:=w.heap.size) (u0:=.bool uq) (u1:=(.slice aq lq kq)) (u2:=.bool ur) (u3:=(.slice ar lr kr)) HR2.out HR3.out
     have HD:=ac (And.intro hq4.2.2 (aO HBE.out (g:=w.heap.size+2) (u0:=.bool uq) (u1:=(.slice aq lq kq)) (u2:=.bool ur) (u3:=(.slice ar lr kr)) (by omega)))
     obtain⟨R5,R6,_⟩:=hq4
     generalize (((wt.setCell ⟨w.heap.size+2,0,none⟩ (.bool uq)).setCell ⟨w.heap.size+2,1,none⟩ ((.slice aq lq kq))).setCell ⟨w.heap.size+2+1,0,none⟩ (.bool ur)).setCell ⟨w.heap.size+2+1,1,none⟩ ((.slice ar lr kr))=w5 at *
     obtain⟨q0,q1⟩:=duo R5
     obtain⟨q2,q3⟩:=duo R6
     refine bodyPost_ret (v:=.tuple #[.agg #[.bool uq,(.slice aq lq kq)],.agg #[.bool ur,(.slice ar lr kr)],.int .i64 0]) (by simp [results,Tryz.results55,go_sem,q0,q1,q2,q3]) rfl ?_
     refine⟨⟨_,_,_,_,_,_,_,_,0,rfl,rq,rr,HD.out.1 _ _ HQt.out,HD.out.1 _ _ HRt.out,HAP.out,.inl ⟨rfl,huq.symm,?_,HQ.out.2.2,hur.symm,?_,HR.out.2.2,?_,?_⟩⟩,HD.out.2⟩
     ·rw [HQZ.out,au];exact HQ.out.2.1
     ·rw [HRZ.out,au];exact HR.out.2.1
     ·rw [HQZ.out,au,←HQ.out.2.1];have:=HBIG.out;omega
     ·rw [HRZ.out,au,←HR.out.2.1];have:=HBIG.out;omega
   ·obtain⟨w6,hw6,hb6,hx6⟩:=aC w5 (.cells #[.int .u64 1] 34)
    have hblk:Blk w6 w5.heap.size [1]:=hx6
    have A6:=Ans.of_blk (base:=w5.heap.size) (zs:=[1]) (Nat.le_refl _) hblk (by simp) (by simp) (by simp) (by intro z hz;simp at hz;omega)
    have hSM:=dY (.slice aq lq kq) (.slice (some ⟨w5.heap.size,0,none⟩) 1 1) rq [1] w6 ((HQ5.out.1.arg HLQ.out.1).below hb6) (A6.arg (by simp)) (by have:=HLN.out.1;omega) (by simp)
    rw [HQ5.out.2.1,show val [1]=1 from by simp [val]] at hSM
    have HB6:=ac hb6
    clear hb6 hx6 hblk A6
    go_wp2_with fail
    refine hSM.mono ?_
    rintro e w7 ⟨⟨v7,r7,rfl,A7,e7,t7⟩,hb7⟩
    obtain⟨a7,k7,rfl⟩:=A7.shape
    have hb67:=HB6.out.trans (hb7.mono HB6.out.size)
    have HR2':=ac (ae hb67 HR2.out)
    have HR3':=ac (ae hb67 HR3.out)
    have HWB:=ac (HWB5.out.trans (hb67.mono HWB5.out.size))
    have hl7:r7.length≤rq.length+1:=by
     rw [←t7];refine aw r7 _ ?_
     rw [e7]
     have h1:=val_lt HQ5.out.1.limbs
     rw [HQ5.out.2.1] at h1
     rw [Nat.pow_succ]
     have h0:=W_pos rq.length
     generalize 18446744073709551616 ^ rq.length=P9 at *
     omega
    have hlqx:=HLN.out.1
    obtain⟨l7,hl7e⟩:∃l7,r7.length=l7:=⟨_,rfl⟩
    rw [hl7e] at A7 ⊢
    have hAP7:=apart_of2 (v2:=.slice a3 l3 k3) (fun g hg=>Nat.lt_of_lt_of_le (HL5.out.1.own.lt g hg).2 HB6.out.size) A7
    have hs57:w.heap.size≤w6.heap.size:=Nat.le_trans HWB5.out.size HB6.out.size
    have HQ:=ac (And.intro (A7.base hs57) (And.intro e7 t7))
    have HR:=ac (And.intro (HL5.out.1.below hb67) HL5.out.2)
    have hq9:=HQZ.out
    have hr9:=HRZ.out
    rw [decide_eq_true hr0] at hq9 hr9
    simp only [Bool.true_and,if_true] at hq9 hr9
    clear HQ5 HR5 HAP HLQ HR2 HR3 HWB5 HQZ HRZ
    have HAP:=ac hAP7
    have HLQ:=ac (And.intro (show r7.length≤1125899906842624 by omega) HLN3.out)
    have HR2:=HR2'
    have HR3:=HR3'
    have HQZ:=ac hq9
    have HRZ:=ac hr9
    clear hq9 hr9 HL5 hb7 hb67 A7 e7 t7 hSM HB6 hs57 HR2' HR3' hw6
    obtain⟨wv,hwv,hbv,hxv⟩:=aC w7 (.cells #[.slice a7 l7 k7,.slice a3 l3 k3] 26)
    have hAB:=cb w7.heap.size (.slice a7 l7 k7) (.slice a3 l3 k3) r7 r3 wv hxv ((HQ.out.1.arg HLQ.out.1).below hbv) ((HR.out.1.arg HLQ.out.2).below hbv)
    have HR2v:=ac (ae hbv HR2.out)
    have HR3v:=ac (ae hbv HR3.out)
    have HBV:=ac (HWB.out.trans (hbv.mono HWB.out.size))
    have HQv:=ac (HQ.out.1.below hbv)
    have HRv:=ac (HR.out.1.below hbv)
    clear hbv hxv HR2 HR3
    by_cases hbig:67108864<blen (val r7)∨67108864<blen (val r3)
    ·rw [decide_eq_true hbig] at hAB
     have HBIG:=ac hbig
     clear hbig
     go_wp2_with fail
     refine hAB.mono ?_
     rintro e wn ⟨rfl,hw⟩;rw [hw];clear hw wn hAB
     have HR2:=HR2v
     have HR3:=HR3v
     have HBE:=HBV
     have hf2:=ag HR2.out
     have hf3:=ag HR3.out
     obtain⟨m0,m1⟩:=duo HR2.out
     obtain⟨m2,m3⟩:=duo HR3.out
     go_wp2
     have hq4:=aK (base:=w.heap.size) (u0:=.bool false) (u1:=(.slice none 0 0)) (u2:=.bool false) (u3:=(.slice none 0 0)) HR2.out HR3.out
     have HD:=ac (And.intro hq4.2.2 (aO HBE.out (g:=w.heap.size+2) (u0:=.bool false) (u1:=(.slice none 0 0)) (u2:=.bool false) (u3:=(.slice none 0 0)) (by omega)))
     obtain⟨R5,R6,_⟩:=hq4
     generalize (((wv.setCell ⟨w.heap.size+2,0,none⟩ (.bool false)).setCell ⟨w.heap.size+2,1,none⟩ ((.slice none 0 0))).setCell ⟨w.heap.size+2+1,0,none⟩ (.bool false)).setCell ⟨w.heap.size+2+1,1,none⟩ ((.slice none 0 0))=w5 at *
     obtain⟨q0,q1⟩:=duo R5
     obtain⟨q2,q3⟩:=duo R6
     refine bodyPost_ret (v:=.tuple #[.agg #[.bool false,(.slice none 0 0)],.agg #[.bool false,(.slice none 0 0)],.int .i64 3]) (by simp [results,Tryz.results55,go_sem,q0,q1,q2,q3]) rfl ?_
     refine⟨⟨_,_,_,_,_,_,_,_,3,rfl,[],[],Ans.nil _ _,Ans.nil _ _,.inl rfl,.inr ⟨rfl,rfl,rfl,rfl,rfl,rfl,rfl,?_⟩⟩,HD.out.2⟩
     rw [HQZ.out,HRZ.out,au,au,←HQ.out.2.1,←HR.out.2.1]
     exact HBIG.out
    ·rw [decide_eq_false hbig] at hAB
     have HBIG:=ac hbig
     clear hbig
     go_wp2_with fail
     refine hAB.mono ?_
     rintro e wn ⟨rfl,hw⟩;rw [hw];clear hw wn hAB
     have hS1:=aP ap (.slice a7 l7 k7) r7 _ wv HQv.out
     rw [aR ap HQ.out.2.2 HQ.out.2.1,←HQZ.out] at hS1
     go_wp2_with fail
     refine hS1.mono ?_
     rintro e ws ⟨rfl,hbs⟩
     have hS2:=aP (!b1) (.slice a3 l3 k3) r3 _ ws (HRv.out.below hbs)
     rw [aR (!b1) HR.out.2.2 HR.out.2.1,←HRZ.out] at hS2
     have HBS:=ac hbs
     clear hbs hS1
     go_wp2_with fail
     refine hS2.mono ?_
     rintro e wt ⟨rfl,hbt⟩
     have hbst:=HBS.out.trans (hbt.mono HBS.out.size)
     have HR2:=ac (ae hbst HR2v.out)
     have HR3:=ac (ae hbst HR3v.out)
     have HBE:=ac (HBV.out.trans (hbst.mono HBV.out.size))
     have HQt:=ac (HQv.out.below hbst)
     have HRt:=ac (HRv.out.below hbst)
     have hf2:=ag HR2.out
     have hf3:=ag HR3.out
     obtain⟨m0,m1⟩:=duo HR2.out
     obtain⟨m2,m3⟩:=duo HR3.out
     clear hbt hbst hS2 HR2v HR3v hwv
     obtain⟨uq,huq⟩:∃ub,decide (qz<0)=ub:=⟨_,rfl⟩
     obtain⟨ur,hur⟩:∃ub,decide (rz<0)=ub:=⟨_,rfl⟩
     rw [huq,hur]
     go_wp2
     have hq4:=aK (base:=w.heap.size) (u0:=.bool uq) (u1:=(.slice a7 l7 k7)) (u2:=.bool ur) (u3:=(.slice a3 l3 k3)) HR2.out HR3.out
     have HD:=ac (And.intro hq4.2.2 (aO HBE.out (g:=w.heap.size+2) (u0:=.bool uq) (u1:=(.slice a7 l7 k7)) (u2:=.bool ur) (u3:=(.slice a3 l3 k3)) (by omega)))
     obtain⟨R5,R6,_⟩:=hq4
     generalize (((wt.setCell ⟨w.heap.size+2,0,none⟩ (.bool uq)).setCell ⟨w.heap.size+2,1,none⟩ ((.slice a7 l7 k7))).setCell ⟨w.heap.size+2+1,0,none⟩ (.bool ur)).setCell ⟨w.heap.size+2+1,1,none⟩ ((.slice a3 l3 k3))=w5 at *
     obtain⟨q0,q1⟩:=duo R5
     obtain⟨q2,q3⟩:=duo R6
     refine bodyPost_ret (v:=.tuple #[.agg #[.bool uq,(.slice a7 l7 k7)],.agg #[.bool ur,(.slice a3 l3 k3)],.int .i64 0]) (by simp [results,Tryz.results55,go_sem,q0,q1,q2,q3]) rfl ?_
     refine⟨⟨_,_,_,_,_,_,_,_,0,rfl,r7,r3,HD.out.1 _ _ HQt.out,HD.out.1 _ _ HRt.out,HAP.out,.inl ⟨rfl,huq.symm,?_,HQ.out.2.2,hur.symm,?_,HR.out.2.2,?_,?_⟩⟩,HD.out.2⟩
     ·rw [HQZ.out,au];exact HQ.out.2.1
     ·rw [HRZ.out,au];exact HR.out.2.1
     ·rw [HQZ.out,au,←HQ.out.2.1];have:=HBIG.out;omega
     ·rw [HRZ.out,au,←HR.out.2.1];have:=HBIG.out;omega
  ·have i3:¬(0:Int)<(lr:Int):=by omega
   have hr0:val X % val Y=0:=by omega
   have HQ:=HQA2
   have HR:=HRA2
   have hfz:(fu && decide (0<val X % val Y))=false:=by rw [hr0];simp
   have hq9:=HQZ.out
   have hr9:=HRZ.out
   rw [hfz] at hq9 hr9
   simp only [Bool.false_eq_true,if_false,Nat.add_zero] at hq9 hr9
   clear HQZ HRZ
   have HQZ:=ac hq9
   have HRZ:=ac hr9
   clear hq9 hr9 hfz HQA2 HRA2 hnz f2 f3 HK12 HB12
   obtain⟨wv,hwv,hbv,hxv⟩:=aC wq (.cells #[.slice aq lq kq,.slice ar lr kr] 26)
   have hAB:=cb wq.heap.size (.slice aq lq kq) (.slice ar lr kr) rq rr wv hxv ((HQ.out.1.arg HLQ.out.1).below hbv) ((HR.out.1.arg HLQ.out.2).below hbv)
   have HR2v:=ac (ae hbv HR2.out)
   have HR3v:=ac (ae hbv HR3.out)
   have HBV:=ac (HWB.out.trans (hbv.mono HWB.out.size))
   have HQv:=ac (HQ.out.1.below hbv)
   have HRv:=ac (HR.out.1.below hbv)
   clear hbv hxv HR2 HR3
   by_cases hbig:67108864<blen (val rq)∨67108864<blen (val rr)
   ·rw [decide_eq_true hbig] at hAB
    have HBIG:=ac hbig
    clear hbig
    go_wp2_with fail
    refine hAB.mono ?_
    rintro e wn ⟨rfl,hw⟩;rw [hw];clear hw wn hAB
    have HR2:=HR2v
    have HR3:=HR3v
    have HBE:=HBV
    have hf2:=ag HR2.out
    have hf3:=ag HR3.out
    obtain⟨m0,m1⟩:=duo HR2.out
    obtain⟨m2,m3⟩:=duo HR3.out
    go_wp2
    have hq4:=aK (base:=w.heap.size) (u0:=.bool false) (u1:=(.slice none 0 0)) (u2:=.bool false) (u3:=(.slice none 0 0)) HR2.out HR3.out
    have HD:=ac (And.intro hq4.2.2 (aO HBE.out (g:=w.heap.size+2) (u0:=.bool false) (u1:=(.slice none 0 0)) (u2:=.bool false) (u3:=(.slice none 0 0)) (by omega)))
    obtain⟨R5,R6,_⟩:=hq4
    generalize (((wv.setCell ⟨w.heap.size+2,0,none⟩ (.bool false)).setCell ⟨w.heap.size+2,1,none⟩ ((.slice none 0 0))).setCell ⟨w.heap.size+2+1,0,none⟩ (.bool false)).setCell ⟨w.heap.size+2+1,1,none⟩ ((.slice none 0 0))=w5 at *
    obtain⟨q0,q1⟩:=duo R5
    obtain⟨q2,q3⟩:=duo R6
    refine bodyPost_ret (v:=.tuple #[.agg #[.bool false,(.slice none 0 0)],.agg #[.bool false,(.slice none 0 0)],.int .i64 3]) (by simp [results,Tryz.results55,go_sem,q0,q1,q2,q3]) rfl ?_
    refine⟨⟨_,_,_,_,_,_,_,_,3,rfl,[],[],Ans.nil _ _,Ans.nil _ _,.inl rfl,.inr ⟨rfl,rfl,rfl,rfl,rfl,rfl,rfl,?_⟩⟩,HD.out.2⟩
    rw [HQZ.out,HRZ.out,au,au,←HQ.out.2.1,←HR.out.2.1]
    exact HBIG.out
   ·rw [decide_eq_false hbig] at hAB
    have HBIG:=ac hbig
    clear hbig
    go_wp2_with fail
    refine hAB.mono ?_
    rintro e wn ⟨rfl,hw⟩;rw [hw];clear hw wn hAB
    have hS1:=aP ap (.slice aq lq kq) rq _ wv HQv.out
    rw [aR ap HQ.out.2.2 HQ.out.2.1,←HQZ.out] at hS1
    go_wp2_with fail
    refine hS1.mono ?_
    rintro e ws ⟨rfl,hbs⟩
    have hS2:=aP b1 (.slice ar lr kr) rr _ ws (HRv.out.below hbs)
    rw [aR b1 HR.out.2.2 HR.out.2.1,←HRZ.out] at hS2
    have HBS:=ac hbs
    clear hbs hS1
    go_wp2_with fail
    refine hS2.mono ?_
    rintro e wt ⟨rfl,hbt⟩
    have hbst:=HBS.out.trans (hbt.mono HBS.out.size)
    have HR2:=ac (ae hbst HR2v.out)
    have HR3:=ac (ae hbst HR3v.out)
    have HBE:=ac (HBV.out.trans (hbst.mono HBV.out.size))
    have HQt:=ac (HQv.out.below hbst)
    have HRt:=ac (HRv.out.below hbst)
    have hf2:=ag HR2.out
    have hf3:=ag HR3.out
    obtain⟨m0,m1⟩:=duo HR2.out
    obtain⟨m2,m3⟩:=duo HR3.out
    clear hbt hbst hS2 HR2v HR3v hwv
    obtain⟨uq,huq⟩:∃ub,decide (qz<0)=ub:=⟨_,rfl⟩
    obtain⟨ur,hur⟩:∃ub,decide (rz<0)=ub:=⟨_,rfl⟩
    rw [huq,hur]
    go_wp2
    have hq4:=aK (base:=w.heap.size) (u0:=.bool uq) (u1:=(.slice aq lq kq)) (u2:=.bool ur) (u3:=(.slice ar lr kr)) HR2.out HR3.out
    have HD:=ac (And.intro hq4.2.2 (aO HBE.out (g:=w.heap.size+2) (u0:=.bool uq) (u1:=(.slice aq lq kq)) (u2:=.bool ur) (u3:=(.slice ar lr kr)) (by omega)))
    obtain⟨R5,R6,_⟩:=hq4
    generalize (((wt.setCell ⟨w.heap.size+2,0,none⟩ (.bool uq)).setCell ⟨w.heap.size+2,1,none⟩ ((.slice aq lq kq))).setCell ⟨w.heap.size+2+1,0,none⟩ (.bool ur)).setCell ⟨w.heap.size+2+1,1,none⟩ ((.slice ar lr kr))=w5 at *
    obtain⟨q0,q1⟩:=duo R5
    obtain⟨q2,q3⟩:=duo R6
    refine bodyPost_ret (v:=.tuple #[.agg #[.bool uq,(.slice aq lq kq)],.agg #[.bool ur,(.slice ar lr kr)],.int .i64 0]) (by simp [results,Tryz.results55,go_sem,q0,q1,q2,q3]) rfl ?_
    refine⟨⟨_,_,_,_,_,_,_,_,0,rfl,rq,rr,HD.out.1 _ _ HQt.out,HD.out.1 _ _ HRt.out,HAP.out,.inl ⟨rfl,huq.symm,?_,HQ.out.2.2,hur.symm,?_,HR.out.2.2,?_,?_⟩⟩,HD.out.2⟩
    ·rw [HQZ.out,au];exact HQ.out.2.1
    ·rw [HRZ.out,au];exact HR.out.2.1
    ·rw [HQZ.out,au,←HQ.out.2.1];have:=HBIG.out;omega
    ·rw [HRZ.out,au,←HR.out.2.1];have:=HBIG.out;omega
end Go.Proofs.YtemgogeokkeipaaGreatDoor
namespace Go.Proofs.YtemgogeokkeipaaGreatDoor
open Go.RowKit
open Lm
attribute [local go_sem ↓] Go.wp_at_zero Go.wp_at_succ

theorem gk (b1:Bool)(v:Value)(X:List Nat)(b2:Bool)(u:Value)(Y:List Nat)(ap fu:Bool)(qz rz:Int)(w:World)(hA:Arg w v X)(hB:Arg w u Y)(hT:Tab w)(hx:X.length≤17592186043904)(hy:Y.length≤17592186043904)(hy0:0<val Y)
  (hap:(b1 != b2)=ap) (hfu:b1=fu)
  (hqz:qz=zz ap (val X / val Y+if fu && decide (0<val X % val Y) then 1 else 0)) (hrz:rz=zz (if fu && decide (0<val X % val Y) then !b1 else b1) (if fu && decide (0<val X % val Y) then val Y - val X % val Y else val X % val Y)) :
  Calls Tryz.prog 12 #[.agg #[.bool b1,v],.agg #[.bool b2,u]] w (cN w qz rz):=by
 obtain⟨a,n,rfl,_,_,_⟩:=hA.form
 obtain⟨a9,n9,rfl,_,_,_⟩:=hB.form
 obtain⟨w0,hw0,hb0,h0,h1,h2,h3⟩:=cP w (.cells #[.bool b1,.slice a X.length n] 28) (.cells #[.bool b2,.slice a9 Y.length n9] 28) (.cells #[.bool false,.slice none 0 0] 28) (.cells #[.bool false,.slice none 0 0] 28)
 obtain⟨k0,k1⟩:=duo h0
 obtain⟨k2,k3⟩:=duo h1
 have HM:=wdivide_5 b1 _ X b2 _ Y ap fu qz rz w0 (hA.below hb0) (hB.below hb0) (hT.below hb0) hx hy hy0 hap hfu hqz hrz
 have HB0:=ac hb0
 have H2:=ac h2
 have H3:=ac h3
 clear hA hB hT hb0 h0 h1 h2 h3 hqz hrz hap hfu
 go_enter Tryz.func12,Tryz.ntmps12
 go_wp2_with fail
 refine HM.mono ?_
 rintro e w1 ⟨⟨b3,a3,n3,m3,b4,a4,n4,m4,c,rfl,rs1,rs2,A1,A2,hap,hcase⟩,hb1⟩
 have HR2:=ac (ae hb1 H2.out)
 have HR3:=ac (ae hb1 H3.out)
 have HBE:=ac (HB0.out.trans (hb1.mono HB0.out.size))
 have HC:=ac (And.intro (A1.base HB0.out.size) (And.intro (A2.base HB0.out.size) (And.intro hap hcase)))
 have hf2:=ag HR2.out
 have hf3:=ag HR3.out
 obtain⟨m0,m1⟩:=duo HR2.out
 obtain⟨m2,m3'⟩:=duo HR3.out
 clear A1 A2 hap hcase hb1 HM hw0 k0 k1 k2 k3 H2 H3
 go_wp2
 have hq4:=aK (base:=w.heap.size) (u0:=.bool b3) (u1:=.slice a3 n3 m3) (u2:=.bool b4) (u3:=.slice a4 n4 m4) HR2.out HR3.out
 have HD:=ac (And.intro hq4.2.2 (aO HBE.out (g:=w.heap.size+2) (u0:=.bool b3) (u1:=.slice a3 n3 m3) (u2:=.bool b4) (u3:=.slice a4 n4 m4) (by omega)))
 obtain⟨R5,R6,_⟩:=hq4
 generalize (((w1.setCell ⟨w.heap.size+2,0,none⟩ (.bool b3)).setCell ⟨w.heap.size+2,1,none⟩ (.slice a3 n3 m3)).setCell ⟨w.heap.size+2+1,0,none⟩ (.bool b4)).setCell ⟨w.heap.size+2+1,1,none⟩ (.slice a4 n4 m4)=w5 at *
 obtain⟨q0,q1⟩:=duo R5
 obtain⟨q2,q3⟩:=duo R6
 refine bodyPost_ret (v:=.tuple #[.agg #[.bool b3,.slice a3 n3 m3],.agg #[.bool b4,.slice a4 n4 m4],.int .i64 c]) (by simp [results,Tryz.results12,go_sem,q0,q1,q2,q3]) rfl ?_
 exact⟨⟨_,_,_,_,_,_,_,_,_,rfl,rs1,rs2,HD.out.1 _ _ HC.out.1,HD.out.1 _ _ HC.out.2.1,HC.out.2.2⟩,HD.out.2⟩

theorem jb (b1:Bool)(v:Value)(X:List Nat)(b2:Bool)(u:Value)(Y:List Nat)(ap fu:Bool)(qz rz:Int)(w:World)(hA:Arg w v X)(hB:Arg w u Y)(hT:Tab w)(hx:X.length≤17592186043904)(hy:Y.length≤17592186043904)(hy0:0<val Y)
  (hap:(b1 != b2)=ap) (hfu:ap=fu)
  (hqz:qz=zz ap (val X / val Y+if fu && decide (0<val X % val Y) then 1 else 0)) (hrz:rz=zz (if fu && decide (0<val X % val Y) then !b1 else b1) (if fu && decide (0<val X % val Y) then val Y - val X % val Y else val X % val Y)) :
  Calls Tryz.prog 47 #[.agg #[.bool b1,v],.agg #[.bool b2,u]] w (cN w qz rz):=by
 obtain⟨a,n,rfl,_,_,_⟩:=hA.form
 obtain⟨a9,n9,rfl,_,_,_⟩:=hB.form
 obtain⟨w0,hw0,hb0,h0,h1,h2,h3⟩:=cP w (.cells #[.bool b1,.slice a X.length n] 28) (.cells #[.bool b2,.slice a9 Y.length n9] 28) (.cells #[.bool false,.slice none 0 0] 28) (.cells #[.bool false,.slice none 0 0] 28)
 obtain⟨k0,k1⟩:=duo h0
 obtain⟨k2,k3⟩:=duo h1
 have HM:=wdivide_2 b1 _ X b2 _ Y ap fu qz rz w0 (hA.below hb0) (hB.below hb0) (hT.below hb0) hx hy hy0 hap hfu hqz hrz
 have HB0:=ac hb0
 have H2:=ac h2
 have H3:=ac h3
 clear hA hB hT hb0 h0 h1 h2 h3 hqz hrz hap hfu
 go_enter Tryz.func47,Tryz.ntmps47
 go_wp2_with fail
 refine HM.mono ?_
 rintro e w1 ⟨⟨b3,a3,n3,m3,b4,a4,n4,m4,c,rfl,rs1,rs2,A1,A2,hap,hcase⟩,hb1⟩
 have HR2:=ac (ae hb1 H2.out)
 have HR3:=ac (ae hb1 H3.out)
 have HBE:=ac (HB0.out.trans (hb1.mono HB0.out.size))
 have HC:=ac (And.intro (A1.base HB0.out.size) (And.intro (A2.base HB0.out.size) (And.intro hap hcase)))
 have hf2:=ag HR2.out
 have hf3:=ag HR3.out
 obtain⟨m0,m1⟩:=duo HR2.out
 obtain⟨m2,m3'⟩:=duo HR3.out
 clear A1 A2 hap hcase hb1 HM hw0 k0 k1 k2 k3 H2 H3
 go_wp2
 have hq4:=aK (base:=w.heap.size) (u0:=.bool b3) (u1:=.slice a3 n3 m3) (u2:=.bool b4) (u3:=.slice a4 n4 m4) HR2.out HR3.out
 have HD:=ac (And.intro hq4.2.2 (aO HBE.out (g:=w.heap.size+2) (u0:=.bool b3) (u1:=.slice a3 n3 m3) (u2:=.bool b4) (u3:=.slice a4 n4 m4) (by omega)))
 obtain⟨R5,R6,_⟩:=hq4
 generalize (((w1.setCell ⟨w.heap.size+2,0,none⟩ (.bool b3)).setCell ⟨w.heap.size+2,1,none⟩ (.slice a3 n3 m3)).setCell ⟨w.heap.size+2+1,0,none⟩ (.bool b4)).setCell ⟨w.heap.size+2+1,1,none⟩ (.slice a4 n4 m4)=w5 at *
 obtain⟨q0,q1⟩:=duo R5
 obtain⟨q2,q3⟩:=duo R6
 refine bodyPost_ret (v:=.tuple #[.agg #[.bool b3,.slice a3 n3 m3],.agg #[.bool b4,.slice a4 n4 m4],.int .i64 c]) (by simp [results,Tryz.results47,go_sem,q0,q1,q2,q3]) rfl ?_
 exact⟨⟨_,_,_,_,_,_,_,_,_,rfl,rs1,rs2,HD.out.1 _ _ HC.out.1,HD.out.1 _ _ HC.out.2.1,HC.out.2.2⟩,HD.out.2⟩

theorem cO (w:World)(hT:Tab w):Calls Tryz.prog 8 #[] w fun e w'=>e=.returned (.bool true)∧Below w.heap.size w w':=by
 have H1:=dS (-7) w (by omega) (by omega)
 have HT:=ac hT
 clear hT
 go_enter Tryz.func8,Tryz.ntmps8
 go_wp2_with fail
 refine H1.mono ?_
 rintro e w1 ⟨⟨b1,a1,l1,k1,rfl,rs1,A1,hb1,v1,t1⟩,hw1⟩
 have H2:=dS 2 w1 (by omega) (by omega)
 have HW1:=ac hw1
 have HA1:=ac A1
 have HV1:=ac (And.intro hb1 (And.intro v1 t1))
 clear H1 hw1 A1 hb1 v1 t1
 go_wp2_with fail
 refine H2.mono ?_
 rintro e w2 ⟨⟨b2,a2,l2,k2,rfl,rs2,A2,hb2,v2,t2⟩,hw2⟩
 have HW2:=ac (HW1.out.trans (hw2.mono HW1.out.size))
 obtain⟨hb1,v1,t1⟩:=HV1.out
 have e1:b1=true:=hb1
 have e2:b2=false:=hb2
 subst e1
 subst e2
 have x1:val rs1=7:=v1
 have x2:val rs2=2:=v2
 have f1:rs1.length≤1:=bH t1 x1 (by decide)
 have f2:rs2.length≤1:=bH t2 x2 (by decide)
 have H3:=jb true _ rs1 false _ rs2 true true (-4) 1 w2 ((HA1.out.arg (by omega)).below hw2) (A2.arg (by omega)) (HT.out.below HW2.out) (by omega) (by omega) (by omega) rfl rfl (by rw [x1,x2];decide) (by rw [x1,x2];decide)
 clear H2 hw2 A2 hb2 v2 t2 HA1 HV1 HW1 hb1 v1 t1 x1 x2 f1 f2
 go_wp2_with fail
 refine H3.mono ?_
 rintro e w3 ⟨⟨b3,a3,n3,m3,b4,a4,n4,m4,c,rfl,rs3,rs4,A3,A4,hap,hcase⟩,hw3⟩
 rcases hcase with ⟨rfl,hb3,v3,t3,hb4,v4,t4,_,_⟩|⟨_,_,_,_,_,_,_,hbig⟩
 ·have e3:b3=true:=hb3
  have e4:b4=false:=hb4
  subst e3
  subst e4
  have HW3:=ac (HW2.out.trans (hw3.mono HW2.out.size))
  have HA3:=ac (And.intro A3 (And.intro v3 t3))
  have HA4:=ac (And.intro A4 (And.intro v4 t4))
  clear H3 hw3 A3 A4 hap hb3 hb4 v3 v4 t3 t4 HW2 HT
  obtain⟨w4,hw4,hb4,h40,h41⟩:=bW w3 (.cells #[.bool true,.slice a3 n3 m3] 28) (.cells #[.bool false,.slice a4 n4 m4] 28)
  obtain⟨d0,d1⟩:=duo (show w4.drew.heap[w3.heap.size]?=some (.cells #[.bool true,.slice a3 n3 m3] 28) from h40)
  obtain⟨d2,d3⟩:=duo (show w4.drew.heap[w3.heap.size+1]?=some (.cells #[.bool false,.slice a4 n4 m4] 28) from h41)
  have hf3:rs3.length≤1:=bH HA3.out.2.2 HA3.out.2.1 (by decide)
  have hf4:rs4.length≤1:=bH HA4.out.2.2 HA4.out.2.1 (by decide)
  have hq4:blen (Int.natAbs (-4))≤64:=by decide
  have hq1:blen (Int.natAbs 1)≤64:=by decide
  have HIS1:=ac (fun (W:World) (v:Value) (hz:Zn W v (-4)) (hb:Below w4.drew.heap.size w4.drew W)=>
   show Calls Tryz.prog 48 #[v,.bool true,.slice a3 n3 m3] W (fun e w'=>e=.returned (.bool true)∧Below W.heap.size W w') by
    have h:=eC v (-4) (.slice a3 n3 m3) rs3 W hz ((((HA3.out.1.arg (by omega)).below hb4).drew).below hb) HA3.out.2.2 HA3.out.2.1 (Nat.le_trans hq4 (by omega))
    rw [show decide ((-4:Int)<0)=true by decide] at h
    exact h)
  have HIS2:=ac (fun (W:World) (v:Value) (hz:Zn W v 1) (hb:Below w4.drew.heap.size w4.drew W)=>
   show Calls Tryz.prog 48 #[v,.bool false,.slice a4 n4 m4] W (fun e w'=>e=.returned (.bool true)∧Below W.heap.size W w') by
    have h:=eC v 1 (.slice a4 n4 m4) rs4 W hz ((((HA4.out.1.arg (by omega)).below hb4).drew).below hb) HA4.out.2.2 HA4.out.2.1 (Nat.le_trans hq1 (by omega))
    rw [show decide ((1:Int)<0)=false by decide] at h
    exact h)
  have HN:=dI 0 w4.drew
  have HI1:=fD (-4) w4.drew (by omega) (by omega)
  have HI2:=ac (fun (W:World)=>fD 1 W (by omega) (by omega))
  have HW4:=ac (HW3.out.trans (hb4.mono HW3.out.size))
  clear hb4 h40 h41 hf3 hf4 HA3 HA4 hq4 hq1
  go_wp2
  go_region_held3 (fun w'=>w'.cell? ⟨w3.heap.size,0,none⟩=some (.bool true)∧w'.cell? ⟨w3.heap.size,1,none⟩=some (.slice a3 n3 m3)∧w'.cell? ⟨w3.heap.size+1,0,none⟩=some (.bool false)∧w'.cell? ⟨w3.heap.size+1,1,none⟩=some (.slice a4 n4 m4)) (go_keep) (first
   | (go_at_call 13;refine HN.mono ?_;rintro e' wn ⟨rfl,hw⟩;rw [hw];clear hw wn)
   | (go_at_call_of 33 (Value.int IntKind.i64 1);refine (HI2.out w6).mono ?_;rintro e' w7 ⟨⟨b7,a7,n7,k7,rfl,z7⟩,hb7⟩;have u0:=av hb7 y0;have u1:=av hb7 y1;have u2:=av hb7 y2;have u3:=av hb7 y3)
   | (go_at_call 33;refine HI1.mono ?_;rintro e' w5 ⟨⟨b5,a5,n5,k5,rfl,z5⟩,hb5⟩;have x0:=av hb5 d0;have x1:=av hb5 d1;have x2:=av hb5 d2;have x3:=av hb5 d3)
   | (go_at_call_of 48 a3;refine (HIS1.out w5 _ z5 hb5).mono ?_;rintro e' w6 ⟨rfl,hb6⟩;have y0:=av hb6 x0;have y1:=av hb6 x1;have y2:=av hb6 x2;have y3:=av hb6 x3)
   | (go_at_call_of 48 a4;refine (HIS2.out w7 _ z7 (hb5.trans ((hb6.trans (hb7.mono hb6.size)).mono hb5.size))).mono ?_;rintro e' w8 ⟨rfl,hb8⟩;have t0:=av hb8 u0;have t1:=av hb8 u1;have t2:=av hb8 u2;have t3:=av hb8 u3))
  have HB8:=ac (HW4.out.trans ((bY (hb5.trans ((hb6.trans ((hb7.trans (hb8.mono hb7.size)).mono hb6.size)).mono hb5.size))).mono HW4.out.size))
  clear hb5 hb6 hb7 hb8 z5 z7
  go_wp2
  go_ret
  exact⟨rfl,HB8.out⟩
 ·exfalso
  revert hbig
  decide

theorem il (x:Int):aI x x=0:=by unfold aI;rw [if_neg (by omega),if_neg (by omega)]

theorem jl {x y:Int}:aI x y=0 ↔ x=y:=by
 unfold aI
 constructor
 ·intro h
  split at h
  ·cases h
  ·split at h
   ·cases h
   ·omega
 ·rintro rfl
  rw [if_neg (by omega),if_neg (by omega)]

theorem gn (x y:Int)(h:aI x.sign y.sign≠0):aI x.sign y.sign=aI x y:=by
 rcases Int.lt_trichotomy x 0 with hx|hx|hx <;> rcases Int.lt_trichotomy y 0 with hy|hy|hy
 all_goals (try rw [Int.sign_eq_neg_one_of_neg hx] at h ⊢) <;> (try rw [Int.sign_eq_one_of_pos hx] at h ⊢) <;> (try rw [Int.sign_eq_neg_one_of_neg hy] at h ⊢) <;> (try rw [Int.sign_eq_one_of_pos hy] at h ⊢)
 all_goals (try subst hx) <;> (try subst hy)
 all_goals (try rw [Int.sign_zero] at h ⊢) <;> unfold aI at h ⊢
 all_goals (repeat (first|rw [if_pos (by omega)] | rw [if_neg (by omega)]))
 all_goals (try rfl)
 all_goals (exfalso;revert h;decide)

theorem jM {x y:Int}(h:aI x.sign y.sign=0):(x<0∧y<0)∨(0≤x∧0≤y):=by
 have e:=jl.1 h
 rcases Int.lt_trichotomy x 0 with hx|hx|hx
 ·rw [Int.sign_eq_neg_one_of_neg hx] at e
  exact .inl ⟨hx,Int.sign_neg_iff.1 (by omega)⟩
 ·subst hx
  rw [Int.sign_zero] at e
  have:=Int.sign_eq_zero_iff_zero.1 e.symm
  exact .inr ⟨by omega,by omega⟩
 ·rw [Int.sign_eq_one_of_pos hx] at e
  have:=Int.sign_pos_iff.1 (show 0<y.sign by omega)
  exact .inr ⟨by omega,by omega⟩

theorem jA {b1 b2:Bool}{x y:Nat}(h1:zz b1 x<0)(h2:zz b2 y<0):aI (zz b1 x) (zz b2 y)=cmpN y x:=by
 cases b1 <;> cases b2 <;> simp only [zz,Bool.false_eq_true,if_false,if_true] at h1 h2 ⊢ <;> try omega
 unfold aI cmpN
 split <;> split <;> (try split) <;> (try split) <;> omega

theorem iB {b1 b2:Bool}{x y:Nat}(h1:0≤zz b1 x)(h2:0≤zz b2 y):aI (zz b1 x) (zz b2 y)=cmpN x y:=by
 have e1:zz b1 x=(x:Int):=by cases b1 <;> simp only [zz,Bool.false_eq_true,if_false,if_true] at h1 ⊢ <;> omega
 have e2:zz b2 y=(y:Int):=by cases b2 <;> simp only [zz,Bool.false_eq_true,if_false,if_true] at h2 ⊢ <;> omega
 rw [e1,e2]
 unfold aI cmpN
 split <;> split <;> (try split) <;> (try split) <;> omega

theorem iZ (b1:Bool)(v:Value)(X:List Nat)(b2:Bool)(u:Value)(Y:List Nat)(w:World)(hA:Arg w v X)(hB:Arg w u Y) :
  Calls Tryz.prog 56 #[.agg #[.bool b1,v],.agg #[.bool b2,u]] w fun e w'=>e=.returned (.int .i64 (aI (zz b1 (val X)) (zz b2 (val Y))))∧Below w.heap.size w w':=by
 obtain⟨a,n,rfl,_,_,_⟩:=hA.form
 obtain⟨a9,n9,rfl,_,_,_⟩:=hB.form
 obtain⟨w0,hw0,hb0,h0,h1⟩:=bW w (.cells #[.bool b1,.slice a X.length n] 28) (.cells #[.bool b2,.slice a9 Y.length n9] 28)
 obtain⟨d0,d1⟩:=duo (show w0.drew.heap[w.heap.size]?=some (.cells #[.bool b1,.slice a X.length n] 28) from h0)
 obtain⟨d2,d3⟩:=duo (show w0.drew.heap[w.heap.size+1]?=some (.cells #[.bool b2,.slice a9 Y.length n9] 28) from h1)
 have S1:=du b1 _ X w0.drew ((hA.below hb0).below (Below.refl _ _).drew)
 have S2:=ac (fun (w1:World) (hb1:Below w0.drew.heap.size w0.drew w1)=>du b2 _ Y w1 (((hB.below hb0).below (Below.refl _ _).drew).below hb1))
 have HB0:=ac hb0
 have HA:=ac ((hA.below hb0).below (Below.refl _ _).drew)
 have HB:=ac ((hB.below hb0).below (Below.refl _ _).drew)
 rw [dh] at S1
 have S3:Hid (∀(w1:World),Below w0.drew.heap.size w0.drew w1→Calls Tryz.prog 60 #[.agg #[.bool b2,.slice a9 Y.length n9]] w1 fun e w'=>e=.returned (.int .i64 (zz b2 (val Y)).sign)∧Below w1.heap.size w1 w'):=ac (fun w1 hb1=>by have h:=S2.out w1 hb1;rw [dh] at h;exact h)
 have HK0:=ac (show w0.drew.heap[w.heap.size]?=some (.cells #[.bool b1,.slice a X.length n] 28) from h0)
 have HK1:=ac (show w0.drew.heap[w.heap.size+1]?=some (.cells #[.bool b2,.slice a9 Y.length n9] 28) from h1)
 have hsg:=gn (zz b1 (val X)) (zz b2 (val Y))
 have hse:=jM (x:=zz b1 (val X)) (y:=zz b2 (val Y))
 have hcn:=jA (b1:=b1) (b2:=b2) (x:=val X) (y:=val Y)
 have hcp:=iB (b1:=b1) (b2:=b2) (x:=val X) (y:=val Y)
 have HNG:=ac (fun (w1:World) (hb1:Below w0.drew.heap.size w0.drew w1)=>ik b1 _ X w1 (HA.out.below hb1))
 clear hA hB hb0 h0 h1 S2
 generalize hzx:zz b1 (val X)=zx at *
 generalize hzy:zz b2 (val Y)=zy at *
 obtain⟨cc,hcc⟩:∃cc,aI zx.sign zy.sign=cc:=⟨_,rfl⟩
 have CC:=ac (fun (w1:World)=>fL zx.sign zy.sign w1)
 rw [hcc] at hsg hse
 by_cases hc0:cc=0
 ·subst hc0
  have hcs:=hse rfl
  clear hsg hse
  by_cases hneg:zx<0
  ·rw [hcn hneg (by omega)]
   have HD1:=ac (decide_eq_true hneg)
   clear hcn hcp hcs hneg
   go_enter Tryz.func56,Tryz.ntmps56
   go_wp2
   go_region_held3 (fun w'=>w'.cell? ⟨w.heap.size,0,none⟩=some (.bool b1)∧w'.cell? ⟨w.heap.size,1,none⟩=some (.slice a X.length n)∧w'.cell? ⟨w.heap.size+1,0,none⟩=some (.bool b2)∧w'.cell? ⟨w.heap.size+1,1,none⟩=some (.slice a9 Y.length n9)) (go_keep) (first
    | (go_at_call_of 60 a;refine S1.mono ?_;rintro e' t1 ⟨rfl,hb1⟩;have x0:=av hb1 d0;have x1:=av hb1 d1;have x2:=av hb1 d2;have x3:=av hb1 d3)
    | (go_at_call_of 60 a9;refine (S3.out t1 hb1).mono ?_;rintro e' t2 ⟨rfl,hb2⟩;have y0:=av hb2 x0;have y1:=av hb2 x1;have y2:=av hb2 x2;have y3:=av hb2 x3)
    | (go_at_call 105;refine (CC.out t2).mono ?_;rintro e' t3 ⟨rfl,hw3⟩;rw [hw3];clear hw3 t3))
   have gg2:=hb1.trans (hb2.mono hb1.size)
   have HBE:=ac (HB0.out.trans ((bY gg2).mono HB0.out.size))
   have hng:=HNG.out t2 gg2
   rw [HD1.out] at hng
   clear HBE
   go_wp2_with fail
   refine hng.mono ?_
   rintro e t4 ⟨rfl,hb4⟩
   have gg4:=gg2.trans (hb4.mono gg2.size)
   obtain⟨j0,j1⟩:=duo (ae gg4 HK0.out)
   obtain⟨j2,j3⟩:=duo (ae gg4 HK1.out)
   have HG4:=ac gg4
   clear hng hb4 hb1 hb2 x0 x1 x2 x3 y0 y1 y2 y3
   have hcf:=dU _ _ Y X t4 (HB.out.below gg4) (HA.out.below gg4)
   go_wp2_with fail
   refine hcf.mono ?_
   rintro e t5 ⟨rfl,hs⟩
   have hb5:Below t4.heap.size t4 t5:=hs.below _
   have gg5:=HG4.out.trans (hb5.mono HG4.out.size)
   have HBE:=ac (HB0.out.trans ((bY gg5).mono HB0.out.size))
   clear hs hb5 gg5 gg4 gg2 hcf
   go_wp2
   go_ret
   exact⟨rfl,HBE.out⟩
  ·rw [hcp (by omega) (by omega)]
   have HD1:=ac (decide_eq_false hneg)
   clear hcn hcp hcs hneg
   go_enter Tryz.func56,Tryz.ntmps56
   go_wp2
   go_region_held3 (fun w'=>w'.cell? ⟨w.heap.size,0,none⟩=some (.bool b1)∧w'.cell? ⟨w.heap.size,1,none⟩=some (.slice a X.length n)∧w'.cell? ⟨w.heap.size+1,0,none⟩=some (.bool b2)∧w'.cell? ⟨w.heap.size+1,1,none⟩=some (.slice a9 Y.length n9)) (go_keep) (first
    | (go_at_call_of 60 a;refine S1.mono ?_;rintro e' t1 ⟨rfl,hb1⟩;have x0:=av hb1 d0;have x1:=av hb1 d1;have x2:=av hb1 d2;have x3:=av hb1 d3)
    | (go_at_call_of 60 a9;refine (S3.out t1 hb1).mono ?_;rintro e' t2 ⟨rfl,hb2⟩;have y0:=av hb2 x0;have y1:=av hb2 x1;have y2:=av hb2 x2;have y3:=av hb2 x3)
    | (go_at_call 105;refine (CC.out t2).mono ?_;rintro e' t3 ⟨rfl,hw3⟩;rw [hw3];clear hw3 t3))
   have gg2:=hb1.trans (hb2.mono hb1.size)
   have HBE:=ac (HB0.out.trans ((bY gg2).mono HB0.out.size))
   have hng:=HNG.out t2 gg2
   rw [HD1.out] at hng
   clear HBE
   go_wp2_with fail
   refine hng.mono ?_
   rintro e t4 ⟨rfl,hb4⟩
   have gg4:=gg2.trans (hb4.mono gg2.size)
   obtain⟨j0,j1⟩:=duo (ae gg4 HK0.out)
   obtain⟨j2,j3⟩:=duo (ae gg4 HK1.out)
   have HG4:=ac gg4
   clear hng hb4 hb1 hb2 x0 x1 x2 x3 y0 y1 y2 y3
   have hcf:=dU _ _ X Y t4 (HA.out.below gg4) (HB.out.below gg4)
   go_wp2_with fail
   refine hcf.mono ?_
   rintro e t5 ⟨rfl,hs⟩
   have hb5:Below t4.heap.size t4 t5:=hs.below _
   have gg5:=HG4.out.trans (hb5.mono HG4.out.size)
   have HBE:=ac (HB0.out.trans ((bY gg5).mono HB0.out.size))
   clear hs hb5 gg5 gg4 gg2 hcf
   go_wp2
   go_ret
   exact⟨rfl,HBE.out⟩
 ·rw [←hsg hc0]
  have hne:(cc == 0)=false:=by simpa using hc0
  clear hsg hse hcn hcp
  go_enter Tryz.func56,Tryz.ntmps56
  go_wp2
  go_region_held3 (fun w'=>w'.cell? ⟨w.heap.size,0,none⟩=some (.bool b1)∧w'.cell? ⟨w.heap.size,1,none⟩=some (.slice a X.length n)∧w'.cell? ⟨w.heap.size+1,0,none⟩=some (.bool b2)∧w'.cell? ⟨w.heap.size+1,1,none⟩=some (.slice a9 Y.length n9)) (go_keep) (first
   | (go_at_call_of 60 a;refine S1.mono ?_;rintro e' t1 ⟨rfl,hb1⟩;have x0:=av hb1 d0;have x1:=av hb1 d1;have x2:=av hb1 d2;have x3:=av hb1 d3)
   | (go_at_call_of 60 a9;refine (S3.out t1 hb1).mono ?_;rintro e' t2 ⟨rfl,hb2⟩;have y0:=av hb2 x0;have y1:=av hb2 x1;have y2:=av hb2 x2;have y3:=av hb2 x3)
   | (go_at_call 105;refine (CC.out t2).mono ?_;rintro e' t3 ⟨rfl,hw3⟩;rw [hw3];clear hw3 t3))
  have gg2:=hb1.trans (hb2.mono hb1.size)
  have HBE:=ac (HB0.out.trans ((bY gg2).mono HB0.out.size))
  clear hb1 hb2 x0 x1 x2 x3 y0 y1 y2 y3 gg2
  go_wp2
  go_ret
  exact⟨rfl,HBE.out⟩

theorem jr (b1:Bool)(v:Value)(X:List Nat)(b2:Bool)(u:Value)(Y:List Nat)(w:World)(hA:Arg w v X)(hB:Arg w u Y)(he:zz b1 (val X)=zz b2 (val Y)) :
  Calls Tryz.prog 16 #[.agg #[.bool b1,v],.agg #[.bool b2,u]] w fun e w'=>e=.returned (.bool true)∧Below w.heap.size w w':=by
 obtain⟨a,n,rfl,_,_,_⟩:=hA.form
 obtain⟨a9,n9,rfl,_,_,_⟩:=hB.form
 obtain⟨w0,hw0,hb0,h0,h1⟩:=bW w (.cells #[.bool b1,.slice a X.length n] 28) (.cells #[.bool b2,.slice a9 Y.length n9] 28)
 obtain⟨d0,d1⟩:=duo h0
 obtain⟨d2,d3⟩:=duo h1
 have HC:=iZ b1 _ X b2 _ Y w0 (hA.below hb0) (hB.below hb0)
 rw [he,il] at HC
 have HB0:=ac hb0
 clear hA hB hb0 h0 h1
 go_enter Tryz.func16,Tryz.ntmps16
 go_wp2_with fail
 refine HC.mono ?_
 rintro e w1 ⟨rfl,hb1⟩
 have HB1:=ac (HB0.out.trans (hb1.mono HB0.out.size))
 clear hb1 HC
 go_wp2
 go_ret
 exact⟨rfl,HB1.out⟩







theorem ZR.few {rs:List Nat}{b:Bool}{va:Value}{c z:Int}(h:(c=0∧b=decide (z<0)∧val rs=z.natAbs∧tr rs=rs∧blen z.natAbs≤67108864)∨(c=3∧b=false∧va=.slice none 0 0∧rs=[]∧67108864<blen z.natAbs)):rs.length≤1048576:=by
 rcases h with ⟨_,_,h3,h4,h5⟩|⟨_,_,_,h4,_⟩
 ·exact bH h4 h3 (by omega)
 ·rw [h4];simp
end Go.Proofs.YtemgogeokkeipaaGreatDoor

