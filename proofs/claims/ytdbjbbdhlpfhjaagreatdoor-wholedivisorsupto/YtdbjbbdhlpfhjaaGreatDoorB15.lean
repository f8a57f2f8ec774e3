/- Package whole: divide, downwards. -/
import Derived.Test.YtdbjbbdhlpfhjaaGreatDoorB12
import Derived.Test.YtdbjbbdhlpfhjaaGreatDoorB02
import Derived.Test.YtdbjbbdhlpfhjaaGreatDoorB01
import Derived.Test.YtdbjbbdhlpfhjaaGreatDoorB14
import Derived.Test.YtdbjbbdhlpfhjaaGreatDoorB11
import Derived.Handy
import Derived.Test.YtdbjbbdhlpfhjaaGreatDoorB13
set_option maxRecDepth 20000
set_option maxHeartbeats 4000000
namespace Go.Proofs.YtdbjbbdhlpfhjaaGreatDoor
open Go.RowKit
open Lm
attribute [local go_sem ↓] Go.wp_at_zero Go.wp_at_succ

theorem kS {x y n:Nat}(hy:0<y)(h:n+blen y<blen x):n<blen (x / y):=by
 refine Nat.lt_of_not_le fun hle=>?_
 have h1:=(blen_le_iff (x / y) n).1 hle
 have h2:=(blen_le_iff y _).1 (Nat.le_refl _)
 have h3:x<2 ^ (n+blen y):=by
  rw [Nat.pow_add]
  have h4:=Nat.div_add_mod x y
  have h5:=Nat.mod_lt x hy
  have h6:y*(x / y+1)≤2 ^ blen y*2 ^ n:=Nat.mul_le_mul (Nat.le_of_lt h2) h1
  rw [Nat.mul_add,Nat.mul_one] at h6
  rw [Nat.mul_comm (2 ^ n)]
  omega
 have h7:=(blen_le_iff x _).2 h3
 omega

attribute [local go_sem] ow nQ in
theorem wdivide_2 (b1:Bool)(v:Value)(X:List Nat)(b2:Bool)(u:Value)(Y:List Nat)(ap fu:Bool)(qz rz:Int)(w:World)(hA:Arg w v X)(hB:Arg w u Y)(hT:Tab w)(hx:X.length≤17592186043904)(hy:Y.length≤17592186043904)(hy0:0<val Y)
  (hap:(b1 != b2)=ap) (hfu:ap=fu)
  (hqz:qz=zz ap (val X / val Y+if fu && decide (0<val X % val Y) then 1 else 0)) (hrz:rz=zz (if fu && decide (0<val X % val Y) then !b1 else b1) (if fu && decide (0<val X % val Y) then val Y - val X % val Y else val X % val Y)) :
  Calls Tryz.prog 90 #[.int .i64 1,.agg #[.bool b1,v],.agg #[.bool b2,u]] w (gR w qz rz):=by
 have hap2:(!(b1 == b2))=ap:=hap
 have HFU:=ac hfu
 clear hfu
 obtain⟨a,n,rfl,hn1,hn2,_⟩:=hA.form
 obtain⟨a9,n9,rfl,hn3,hn4,_⟩:=hB.form
 obtain⟨w0,hw0,hb0,h0,h1,h2,h3⟩:=dj w (.cells #[.bool b1,.slice a X.length n] 27) (.cells #[.bool b2,.slice a9 Y.length n9] 27) (.cells #[.bool false,.slice none 0 0] 27) (.cells #[.bool false,.slice none 0 0] 27)
 obtain⟨k0,k1⟩:=duo h0
 obtain⟨k2,k3⟩:=duo h1
 have hbx:blen (val X)≤64*X.length:=dw X hA.limbs
 have hby:blen (val Y)≤64*Y.length:=dw Y hB.limbs
 have HZ:=dC _ Y w0 (hB.below hb0)
 rw [decide_eq_false (by omega)] at HZ
 obtain⟨wd,hwd⟩:∃wd,w0.drew=wd:=⟨_,rfl⟩
 have hbd:Below w0.heap.size w0 wd:=by rw [←hwd];exact (Below.refl _ _).drew
 have hbwd:=hb0.trans (hbd.mono hb0.size)
 have L1:=bB _ X wd (hA.below hbwd)
 have L2:=bB _ Y wd (hB.below hbwd)
 have g0:=ae hbd h0
 have g1:=ae hbd h1
 obtain⟨d0,d1⟩:=duo g0
 obtain⟨d2,d3⟩:=duo g1
 have HG0:=ac g0
 have HG1:=ac g1
 have HG2:=ac (ae hbd h2)
 have HG3:=ac (ae hbd h3)
 have HWD:=ac hbwd
 obtain⟨dd,hdd⟩:∃dd:Int,((blen (val X):Nat):Int) - ((blen (val Y):Nat):Int)=dd:=⟨_,rfl⟩
 have wdd:IntKind.i64.wrap dd=dd:=by rw [IntKind.wrap_i64];omega
 have wdd2:IntKind.i64.wrap (((blen (val X):Nat):Int) - ((blen (val Y):Nat):Int))=dd:=by rw [IntKind.wrap_i64];omega
 have HQZ:=ac hqz
 have HRZ:=ac hrz
 have HA:=ac (hA.below hbwd)
 have HB:=ac (hB.below hbwd)
 have HT:=ac (hT.below hbwd)
 by_cases hbig:67108864+blen (val Y)<blen (val X)
 ·have i1:(67108864:Int)<dd:=by omega
  have HBQ:Hid (67108864<blen qz.natAbs):=by
   refine ac ?_
   rw [hqz,aB]
   refine Nat.lt_of_lt_of_le ?_ (d9 (Nat.le_add_right _ _))
   exact kS (by omega) hbig
  generalize blen (val X)=lx at *
  generalize blen (val Y)=ly at *
  clear hA hB hT hb0 h0 h1 h2 h3 hbd hbwd g0 g1 HQZ HRZ hqz hrz hbig
  go_enter Tryz.func90,Tryz.ntmps90
  go_wp2_with fail
  refine HZ.mono ?_
  rintro e wn ⟨rfl,hw⟩;rw [hw];clear hw wn HZ
  go_wp2
  go_region_held3 (fun w'=>w'.cell? ⟨w.heap.size,1,none⟩=some (.slice a X.length n)∧w'.cell? ⟨w.heap.size+1,1,none⟩=some (.slice a9 Y.length n9)) (go_keep) (first
   | (go_at_call_of 80 a;(try rw [hwd]);refine L1.mono ?_;rintro e' wn ⟨rfl,hw⟩;rw [hw];clear hw wn)
   | (go_at_call_of 80 a9;(try rw [hwd]);refine L2.mono ?_;rintro e' wn ⟨rfl,hw⟩;rw [hw];clear hw wn))

  have HR2:=HG2
  have HR3:=HG3
  have HBE:=HWD
  have hf2:=av HR2.out
  have hf3:=av HR3.out
  obtain⟨m0,m1⟩:=duo HR2.out
  obtain⟨m2,m3⟩:=duo HR3.out
  go_wp2
  have hq4:=bG (base:=w.heap.size) (u0:=.bool false) (u1:=(.slice none 0 0)) (u2:=.bool false) (u3:=(.slice none 0 0)) HR2.out HR3.out
  have HD:=ac (And.intro hq4.2.2 (bj HBE.out (g:=w.heap.size+2) (u0:=.bool false) (u1:=(.slice none 0 0)) (u2:=.bool false) (u3:=(.slice none 0 0)) (by omega)))
  obtain⟨R5,R6,_⟩:=hq4
  generalize (((wd.setCell ⟨w.heap.size+2,0,none⟩ (.bool false)).setCell ⟨w.heap.size+2,1,none⟩ ((.slice none 0 0))).setCell ⟨w.heap.size+2+1,0,none⟩ (.bool false)).setCell ⟨w.heap.size+2+1,1,none⟩ ((.slice none 0 0))=w5 at *
  obtain⟨q0,q1⟩:=duo R5
  obtain⟨q2,q3⟩:=duo R6
  refine bodyPost_ret (v:=.tuple #[.agg #[.bool false,(.slice none 0 0)],.agg #[.bool false,(.slice none 0 0)],.int .i64 3]) (by simp [results,Tryz.results90,go_sem,q0,q1,q2,q3]) rfl ?_
  exact⟨⟨_,_,_,_,_,_,_,_,3,rfl,[],[],Ans.nil _ _,Ans.nil _ _,.inl rfl,.inr ⟨rfl,rfl,rfl,rfl,rfl,rfl,rfl,.inl HBQ.out⟩⟩,HD.out.2⟩
 ·have i1:¬(67108864:Int)<dd:=by omega
  have HBO:=wboth_any (blen (val X)) X Y _ _ wd (by omega) HA.out HB.out HT.out (by omega) (by omega) hy0
  generalize blen (val X)=lx at *
  generalize blen (val Y)=ly at *
  clear hA hB hT hb0 h0 h1 h2 h3 hbd hbwd g0 g1 hqz hrz hbig
  go_enter Tryz.func90,Tryz.ntmps90
  go_wp2_with fail
  refine HZ.mono ?_
  rintro e wn ⟨rfl,hw⟩;rw [hw];clear hw wn HZ
  go_wp2
  go_region_held3 (fun w'=>w'.cell? ⟨w.heap.size,1,none⟩=some (.slice a X.length n)∧w'.cell? ⟨w.heap.size+1,1,none⟩=some (.slice a9 Y.length n9)) (go_keep) (first
   | (go_at_call_of 80 a;(try rw [hwd]);refine L1.mono ?_;rintro e' wn ⟨rfl,hw⟩;rw [hw];clear hw wn)
   | (go_at_call_of 80 a9;(try rw [hwd]);refine L2.mono ?_;rintro e' wn ⟨rfl,hw⟩;rw [hw];clear hw wn))

  go_wp2_with fail
  refine HBO.mono ?_
  rintro e w1 ⟨⟨v1,v2,rq,rr,rfl,A1,A2,e1,t1,e2,t2,hapt⟩,hb1⟩
  obtain⟨aq,kq,rfl⟩:=A1.shape
  obtain⟨ar,kr,rfl⟩:=A2.shape
  have hlq:rq.length≤X.length:=by
   rw [←t1];refine aQ rq _ ?_
   rw [e1];exact Nat.lt_of_le_of_lt (Nat.div_le_self _ _) (val_lt HA.out.limbs)
  have hlr:rr.length≤Y.length:=by
   rw [←t2];refine aQ rr _ ?_
   rw [e2];exact Nat.lt_trans (Nat.mod_lt _ hy0) (val_lt HB.out.limbs)
  have hnz:=fC t2
  rw [e2] at hnz
  have HWB:=ac (HWD.out.trans (hb1.mono HWD.out.size))
  have HK0:=ac (ae hb1 HG0.out)
  have HK1:=ac (ae hb1 HG1.out)
  have HR2:=ac (ae hb1 HG2.out)
  have HR3:=ac (ae hb1 HG3.out)
  have HB1:=ac (HB.out.below hb1)
  have HT1:=ac (HT.out.below hb1)
  have HQA:=ac (And.intro (A1.base HWD.out.size) (And.intro e1 t1))
  have HRA:=ac (And.intro (A2.base HWD.out.size) (And.intro e2 t2))
  have HAP:=ac hapt
  have HLQ:=ac (And.intro (show rq.length≤1125899906842624 by omega) (show rr.length≤1125899906842624 by omega))
  obtain⟨f0,f1⟩:=duo HK0.out
  obtain⟨f2,f3⟩:=duo HK1.out
  obtain⟨lq,hnq⟩:∃lq,rq.length=lq:=⟨_,rfl⟩
  obtain⟨lr,hnr⟩:∃lr,rr.length=lr:=⟨_,rfl⟩
  rw [hnq] at HQA HAP ⊢
  rw [hnr] at HRA HAP ⊢
  have HLN:=ac (And.intro hlq (And.intro hlr (And.intro hnq hnr)))
  rw [hnr] at hnz
  clear A1 A2 e1 e2 t1 t2 hapt hb1 HBO k0 k1 k2 k3 d0 d1 d2 d3 hlq hlr hnq hnr HG0 HG1 HG2 HG3 HA HB HT L1 L2
  go_wp2
  go_quiet (fail)
  obtain⟨wq,hwq⟩:∃wq,wq=w1.drewN nq:=⟨_,rfl⟩
  have hbq:Below w1.heap.size w1 wq:=by rw [hwq];exact ((aD.refl w1).drewN nq).below _
  rw [←hwq]
  have HWB2:=ac (HWB.out.trans (hbq.mono HWB.out.size))
  have HK12:=ac (ae hbq HK1.out)
  have HR22:=ac (ae hbq HR2.out)
  have HR32:=ac (ae hbq HR3.out)
  have HB12:=ac (HB1.out.below hbq)
  have HQA2:=ac (And.intro (HQA.out.1.below hbq) HQA.out.2)
  have HRA2:=ac (And.intro (HRA.out.1.below hbq) HRA.out.2)
  clear HWB HK0 HK1 HR2 HR3 HB1 HQA HRA f0 f1 f2 f3 hwq hbq HT1
  have HWB:=HWB2
  have HR2:=HR22
  have HR3:=HR32
  obtain⟨f2,f3⟩:=duo HK12.out
  clear HWB2 HR22 HR32
  by_cases hr:0<lr
  ·have i3:(0:Int)<(lr:Int):=by omega
   have hr0:0<val X % val Y:=by omega
   have hml:=Nat.mod_lt (val X) hy0
   clear hnz
   have HLS:=dq _ (.slice ar lr kr) Y rr wq HB12.out (HRA2.out.1.arg HLQ.out.2) (by omega) (by rw [HRA2.out.2.1];omega)
   rw [HRA2.out.2.1] at HLS
   go_wp2_with fail
   refine HLS.mono ?_
   rintro e w3 ⟨⟨v3,r3,rfl,A3,e3,t3⟩,hb3⟩
   obtain⟨a3,k3,rfl⟩:=A3.shape
   have hl3:r3.length≤Y.length:=by
    rw [←t3];refine aQ r3 _ ?_
    rw [e3];exact Nat.lt_of_le_of_lt (Nat.sub_le _ _) (val_lt HB12.out.limbs)
   obtain⟨l3,hl3e⟩:∃l3,r3.length=l3:=⟨_,rfl⟩
   rw [hl3e] at A3 ⊢
   have hDV:=wdivs_any w3
   have HB3:=ac hb3
   have HA3:=ac (And.intro A3 (And.intro e3 (And.intro t3 (show r3.length≤1125899906842624 by omega))))
   clear A3 e3 t3 hb3 hl3 hl3e HLS f2 f3 HK12 HB12
   go_wp2_with fail
   refine hDV.mono ?_
   rintro e w4 ⟨rfl,hb4⟩
   have HB4:=ac (HB3.out.trans (hb4.mono HB3.out.size))
   have HA4:=ac (HA3.out.1.below hb4)
   have hFU:Calls Tryz.prog 169 #[dX (.slice aq lq kq) (.slice ar lr kr) (.slice a3 l3 k3) b1 ap] w4 (fun e w'=>e=.returned (.bool fu)∧Below w4.heap.size w4 w'):=(rD aq ar a3 lq kq lr kr l3 k3 b1 ap w4).mono (fun e w' h=>⟨h.1.trans (by rw [HFU.out]),h.2⟩)
   clear hb4 hDV HB3
   go_wp2_with fail
   refine hFU.mono ?_
   rintro e w5 ⟨rfl,hb5⟩
   have hb45:=HB4.out.trans (hb5.mono HB4.out.size)
   have HR2':=ac (ae hb45 HR2.out)
   have HR3':=ac (ae hb45 HR3.out)
   have HQ5:=ac (And.intro (HQA2.out.1.below hb45) HQA2.out.2)
   have HR5:=ac (And.intro (HRA2.out.1.below hb45) HRA2.out.2)
   have HL5:=ac (And.intro ((HA4.out.below hb5).base (Nat.le_trans HWB.out.size (Nat.le_refl _))) (And.intro HA3.out.2.1 HA3.out.2.2.1))
   have HWB5:=ac (HWB.out.trans (hb45.mono HWB.out.size))
   have HLN3:=ac HA3.out.2.2.2
   clear hb5 hb45 hFU HA4 HB4 HA3 HR2 HR3 HWB HQA2 HRA2
   have HR2:=HR2'
   have HR3:=HR3'
   clear HR2' HR3'
   cases fu
   ·have HQ:=HQ5
    have HR:=HR5
    have HWB:=HWB5
    have hq9:=HQZ.out
    have hr9:=HRZ.out
    simp only [Bool.false_and,Bool.false_eq_true,if_false,Nat.add_zero] at hq9 hr9
    clear HQZ HRZ
    have HQZ:=ac hq9
    have HRZ:=ac hr9
    clear hq9 hr9 HQ5 HR5 HL5 HWB5
    obtain⟨wv,hwv,hbv,hxv⟩:=aL w5 (.cells #[.slice aq lq kq,.slice ar lr kr] 25)
    have hAB:=dr w5.heap.size (.slice aq lq kq) (.slice ar lr kr) rq rr wv hxv ((HQ.out.1.arg HLQ.out.1).below hbv) ((HR.out.1.arg HLQ.out.2).below hbv)
    have HR2v:=ac (ae hbv HR2.out)
    have HR3v:=ac (ae hbv HR3.out)
    have HBV:=ac (HWB.out.trans (hbv.mono HWB.out.size))
    have HQv:=ac (HQ.out.1.below hbv)
    have HRv:=ac (HR.out.1.below hbv)
    clear hbv hxv HR2 HR3
    by_cases hbig:67108864<blen (val rq)∨67108864<blen (val rr)
    ·rw [decide_eq_true hbig] at hAB
     have HBIG:=ac hbig
     clear hbig
     go_wp2_with fail
     refine hAB.mono ?_
     rintro e wn ⟨rfl,hw⟩;rw [hw];clear hw wn hAB
     have HR2:=HR2v
     have HR3:=HR3v
     have HBE:=HBV
     have hf2:=av HR2.out
     have hf3:=av HR3.out
     obtain⟨m0,m1⟩:=duo HR2.out
     obtain⟨m2,m3⟩:=duo HR3.out
     go_wp2
     have hq4:=bG (base:=w.heap.size) (u0:=.bool false) (u1:=(.slice none 0 0)) (u2:=.bool false) (u3:=(.slice none 0 0)) HR2.out HR3.out
     have HD:=ac (And.intro hq4.2.2 (bj HBE.out (g:=w.heap.size+2) (u0:=.bool false) (u1:=(.slice none 0 0)) (u2:=.bool false) (u3:=(.slice none 0 0)) (by omega)))
     obtain⟨R5,R6,_⟩:=hq4
     generalize (((wv.setCell ⟨w.heap.size+2,0,none⟩ (.bool false)).setCell ⟨w.heap.size+2,1,none⟩ ((.slice none 0 0))).setCell ⟨w.heap.size+2+1,0,none⟩ (.bool false)).setCell ⟨w.heap.size+2+1,1,none⟩ ((.slice none 0 0))=w5 at *
     obtain⟨q0,q1⟩:=duo R5
     obtain⟨q2,q3⟩:=duo R6
     refine bodyPost_ret (v:=.tuple #[.agg #[.bool false,(.slice none 0 0)],.agg #[.bool false,(.slice none 0 0)],.int .i64 3]) (by simp [results,Tryz.results90,go_sem,q0,q1,q2,q3]) rfl ?_
     refine⟨⟨_,_,_,_,_,_,_,_,3,rfl,[],[],Ans.nil _ _,Ans.nil _ _,.inl rfl,.inr ⟨rfl,rfl,rfl,rfl,rfl,rfl,rfl,?_⟩⟩,HD.out.2⟩
     rw [HQZ.out,HRZ.out,aB,aB,←HQ.out.2.1,←HR.out.2.1]
     exact HBIG.out
    ·rw [decide_eq_false hbig] at hAB
     have HBIG:=ac hbig
     clear hbig
     go_wp2_with fail
     refine hAB.mono ?_
     rintro e wn ⟨rfl,hw⟩;rw [hw];clear hw wn hAB
     have hS1:=bI ap (.slice aq lq kq) rq _ wv HQv.out
     rw [bN ap HQ.out.2.2 HQ.out.2.1,←HQZ.out] at hS1
     go_wp2_with fail
     refine hS1.mono ?_
     rintro e ws ⟨rfl,hbs⟩
     have hS2:=bI b1 (.slice ar lr kr) rr _ ws (HRv.out.below hbs)
     rw [bN b1 HR.out.2.2 HR.out.2.1,←HRZ.out] at hS2
     have HBS:=ac hbs
     clear hbs hS1
     go_wp2_with fail
     refine hS2.mono ?_
     rintro e wt ⟨rfl,hbt⟩
     have hbst:=HBS.out.trans (hbt.mono HBS.out.size)
     have HR2:=ac (ae hbst HR2v.out)
     have HR3:=ac (ae hbst HR3v.out)
     have HBE:=ac (HBV.out.trans (hbst.mono HBV.out.size))
     have HQt:=ac (HQv.out.below hbst)
     have HRt:=ac (HRv.out.below hbst)
     have hf2:=av HR2.out
     have hf3:=av HR3.out
     obtain⟨m0,m1⟩:=duo HR2.out
     obtain⟨m2,m3⟩:=duo HR3.out
     clear hbt hbst hS2 HR2v HR3v hwv
     obtain⟨uq,huq⟩:∃ub,decide (qz<0)=ub:=⟨_,rfl⟩
     obtain⟨ur,hur⟩:∃ub,decide (rz<0)=ub:=⟨_,rfl⟩
     rw [huq,hur]
     go_wp2
     have hq4:=bG (base:=w.heap.size) (u0:=.bool uq) (u1:=(.slice aq lq kq)) (u2:=.bool ur) (u3:=(.slice ar lr kr)) HR2.out HR3.out
     have HD:=ac (And.intro hq4.2.2 (bj HBE.out (g:=w.heap.size+2) (u0:=.bool uq) (u1:=(.slice aq lq kq)) (u2:=.bool ur) (u3:=(.slice ar lr kr)) (by omega)))
     obtain⟨R5,R6,_⟩:=hq4
     generalize (((wt.setCell ⟨w.heap.size+2,0,none⟩ (.bool uq)).setCell ⟨w.heap.size+2,1,none⟩ ((.slice aq lq kq))).setCell ⟨w.heap.size+2+1,0,none⟩ (.bool ur)).setCell ⟨w.heap.size+2+1,1,none⟩ ((.slice ar lr kr))=w5 at *
     obtain⟨q0,q1⟩:=duo R5
     obtain⟨q2,q3⟩:=duo R6
     refine bodyPost_ret (v:=.tuple #[.agg #[.bool uq,(.slice aq lq kq)],.agg #[.bool ur,(.slice ar lr kr)],.int .i64 0]) (by simp [results,Tryz.results90,go_sem,q0,q1,q2,q3]) rfl ?_
     refine⟨⟨_,_,_,_,_,_,_,_,0,rfl,rq,rr,HD.out.1 _ _ HQt.out,HD.out.1 _ _ HRt.out,HAP.out,.inl ⟨rfl,huq.symm,?_,HQ.out.2.2,hur.symm,?_,HR.out.2.2,?_,?_⟩⟩,HD.out.2⟩
     ·rw [HQZ.out,aB];exact HQ.out.2.1
     ·rw [HRZ.out,aB];exact HR.out.2.1
     ·rw [HQZ.out,aB,←HQ.out.2.1];have:=HBIG.out;omega
     ·rw [HRZ.out,aB,←HR.out.2.1];have:=HBIG.out;omega
   ·obtain⟨w6,hw6,hb6,hx6⟩:=aL w5 (.cells #[.int .u64 1] 61)
    have hblk:Blk w6 w5.heap.size [1]:=hx6
    have A6:=Ans.of_blk (base:=w5.heap.size) (zs:=[1]) (Nat.le_refl _) hblk (by simp) (by simp) (by simp) (by intro z hz;simp at hz;omega)
    have hSM:=gC (.slice aq lq kq) (.slice (some ⟨w5.heap.size,0,none⟩) 1 1) rq [1] w6 ((HQ5.out.1.arg HLQ.out.1).below hb6) (A6.arg (by simp)) (by have:=HLN.out.1;omega) (by simp)
    rw [HQ5.out.2.1,show val [1]=1 from by simp [val]] at hSM
    have HB6:=ac hb6
    clear hb6 hx6 hblk A6
    go_wp2_with fail
    refine hSM.mono ?_
    rintro e w7 ⟨⟨v7,r7,rfl,A7,e7,t7⟩,hb7⟩
    obtain⟨a7,k7,rfl⟩:=A7.shape
    have hb67:=HB6.out.trans (hb7.mono HB6.out.size)
    have HR2':=ac (ae hb67 HR2.out)
    have HR3':=ac (ae hb67 HR3.out)
    have HWB:=ac (HWB5.out.trans (hb67.mono HWB5.out.size))
    have hl7:r7.length≤rq.length+1:=by
     rw [←t7];refine aQ r7 _ ?_
     rw [e7]
     have h1:=val_lt HQ5.out.1.limbs
     rw [HQ5.out.2.1] at h1
     rw [Nat.pow_succ]
     have h0:=W_pos rq.length
     generalize 18446744073709551616 ^ rq.length=P9 at *
     omega
    have hlqx:=HLN.out.1
    obtain⟨l7,hl7e⟩:∃l7,r7.length=l7:=⟨_,rfl⟩
    rw [hl7e] at A7 ⊢
    have hAP7:=apart_of2 (v2:=.slice a3 l3 k3) (fun g hg=>Nat.lt_of_lt_of_le (HL5.out.1.own.lt g hg).2 HB6.out.size) A7
    have hs57:w.heap.size≤w6.heap.size:=Nat.le_trans HWB5.out.size HB6.out.size
    have HQ:=ac (And.intro (A7.base hs57) (And.intro e7 t7))
    have HR:=ac (And.intro (HL5.out.1.below hb67) HL5.out.2)
    have hq9:=HQZ.out
    have hr9:=HRZ.out
    rw [decide_eq_true hr0] at hq9 hr9
    simp only [Bool.true_and,if_true] at hq9 hr9
    clear HQ5 HR5 HAP HLQ HR2 HR3 HWB5 HQZ HRZ
    have HAP:=ac hAP7
    have HLQ:=ac (And.intro (show r7.length≤1125899906842624 by omega) HLN3.out)
    have HR2:=HR2'
    have HR3:=HR3'
    have HQZ:=ac hq9
    have HRZ:=ac hr9
    clear hq9 hr9 HL5 hb7 hb67 A7 e7 t7 hSM HB6 hs57 HR2' HR3' hw6
    obtain⟨wv,hwv,hbv,hxv⟩:=aL w7 (.cells #[.slice a7 l7 k7,.slice a3 l3 k3] 25)
    have hAB:=dr w7.heap.size (.slice a7 l7 k7) (.slice a3 l3 k3) r7 r3 wv hxv ((HQ.out.1.arg HLQ.out.1).below hbv) ((HR.out.1.arg HLQ.out.2).below hbv)
    have HR2v:=ac (ae hbv HR2.out)
    have HR3v:=ac (ae hbv HR3.out)
    have HBV:=ac (HWB.out.trans (hbv.mono HWB.out.size))
    have HQv:=ac (HQ.out.1.below hbv)
    have HRv:=ac (HR.out.1.below hbv)
    clear hbv hxv HR2 HR3
    by_cases hbig:67108864<blen (val r7)∨67108864<blen (val r3)
    ·rw [decide_eq_true hbig] at hAB
     have HBIG:=ac hbig
     clear hbig
     go_wp2_with fail
     refine hAB.mono ?_
     rintro e wn ⟨rfl,hw⟩;rw [hw];clear hw wn hAB
     have HR2:=HR2v
     have HR3:=HR3v
     have HBE:=HBV
     have hf2:=av HR2.out
     have hf3:=av HR3.out
     obtain⟨m0,m1⟩:=duo HR2.out
     obtain⟨m2,m3⟩:=duo HR3.out
     go_wp2
     have hq4:=bG (base:=w.heap.size) (u0:=.bool false) (u1:=(.slice none 0 0)) (u2:=.bool false) (u3:=(.slice none 0 0)) HR2.out HR3.out
     have HD:=ac (And.intro hq4.2.2 (bj HBE.out (g:=w.heap.size+2) (u0:=.bool false) (u1:=(.slice none 0 0)) (u2:=.bool false) (u3:=(.slice none 0 0)) (by omega)))
     obtain⟨R5,R6,_⟩:=hq4
     generalize (((wv.setCell ⟨w.heap.size+2,0,none⟩ (.bool false)).setCell ⟨w.heap.size+2,1,none⟩ ((.slice none 0 0))).setCell ⟨w.heap.size+2+1,0,none⟩ (.bool false)).setCell ⟨w.heap.size+2+1,1,none⟩ ((.slice none 0 0))=w5 at *
     obtain⟨q0,q1⟩:=duo R5
     obtain⟨q2,q3⟩:=duo R6
     refine bodyPost_ret (v:=.tuple #[.agg #[.bool false,(.slice none 0 0)],.agg #[.bool false,(.slice none 0 0)],.int .i64 3]) (by simp [results,Tryz.results90,go_sem,q0,q1,q2,q3]) rfl ?_
     refine⟨⟨_,_,_,_,_,_,_,_,3,rfl,[],[],Ans.nil _ _,Ans.nil _ _,.inl rfl,.inr ⟨rfl,rfl,rfl,rfl,rfl,rfl,rfl,?_⟩⟩,HD.out.2⟩
     rw [HQZ.out,HRZ.out,aB,aB,←HQ.out.2.1,←HR.out.2.1]
     exact HBIG.out
    ·rw [decide_eq_false hbig] at hAB
     have HBIG:=ac hbig
     clear hbig
     go_wp2_with fail
     refine hAB.mono ?_
     rintro e wn ⟨rfl,hw⟩;rw [hw];clear hw wn hAB
     have hS1:=bI ap (.slice a7 l7 k7) r7 _ wv HQv.out
     rw [bN ap HQ.out.2.2 HQ.out.2.1,←HQZ.out] at hS1
     go_wp2_with fail
     refine hS1.mono ?_
     rintro e ws ⟨rfl,hbs⟩
     have hS2:=bI (!b1) (.slice a3 l3 k3) r3 _ ws (HRv.out.below hbs)
     rw [bN (!b1) HR.out.2.2 HR.out.2.1,←HRZ.out] at hS2
     have HBS:=ac hbs
     clear hbs hS1
     go_wp2_with fail
     refine hS2.mono ?_
     rintro e wt ⟨rfl,hbt⟩
     have hbst:=HBS.out.trans (hbt.mono HBS.out.size)
     have HR2:=ac (ae hbst HR2v.out)
     have HR3:=ac (ae hbst HR3v.out)
     have HBE:=ac (HBV.out.trans (hbst.mono HBV.out.size))
     have HQt:=ac (HQv.out.below hbst)
     have HRt:=ac (HRv.out.below hbst)
     have hf2:=av HR2.out
     have hf3:=av HR3.out
     obtain⟨m0,m1⟩:=duo HR2.out
     obtain⟨m2,m3⟩:=duo HR3.out
     clear hbt hbst hS2 HR2v HR3v hwv
     obtain⟨uq,huq⟩:∃ub,decide (qz<0)=ub:=⟨_,rfl⟩
     obtain⟨ur,hur⟩:∃ub,decide (rz<0)=ub:=⟨_,rfl⟩
     rw [huq,hur]
     go_wp2
     have hq4:=bG (base:=w.heap.size) (u0:=.bool uq) (u1:=(.slice a7 l7 k7)) (u2:=.bool ur) (u3:=(.slice a3 l3 k3)) HR2.out HR3.out
     have HD:=ac (And.intro hq4.2.2 (bj HBE.out (g:=w.heap.size+2) (u0:=.bool uq) (u1:=(.slice a7 l7 k7)) (u2:=.bool ur) (u3:=(.slice a3 l3 k3)) (by omega)))
     obtain⟨R5,R6,_⟩:=hq4
     generalize (((wt.setCell ⟨w.heap.size+2,0,none⟩ (.bool uq)).setCell ⟨w.heap.size+2,1,none⟩ ((.slice a7 l7 k7))).setCell ⟨w.heap.size+2+1,0,none⟩ (.bool ur)).setCell ⟨w.heap.size+2+1,1,none⟩ ((.slice a3 l3 k3))=w5 at *
     obtain⟨q0,q1⟩:=duo R5
     obtain⟨q2,q3⟩:=duo R6
     refine bodyPost_ret (v:=.tuple #[.agg #[.bool uq,(.slice a7 l7 k7)],.agg #[.bool ur,(.slice a3 l3 k3)],.int .i64 0]) (by simp [results,Tryz.results90,go_sem,q0,q1,q2,q3]) rfl ?_
     refine⟨⟨_,_,_,_,_,_,_,_,0,rfl,r7,r3,HD.out.1 _ _ HQt.out,HD.out.1 _ _ HRt.out,HAP.out,.inl ⟨rfl,huq.symm,?_,HQ.out.2.2,hur.symm,?_,HR.out.2.2,?_,?_⟩⟩,HD.out.2⟩
     ·rw [HQZ.out,aB];exact HQ.out.2.1
     ·rw [HRZ.out,aB];exact HR.out.2.1
     ·rw [HQZ.out,aB,←HQ.out.2.1];have:=HBIG.out;omega
     ·rw [HRZ.out,aB,←HR.out.2.1];have:=HBIG.out;omega
  ·have i3:¬(0:Int)<(lr:Int):=by omega
   have hr0:val X % val Y=0:=by omega
   have HQ:=HQA2
   have HR:=HRA2
   have hfz:(fu && decide (0<val X % val Y))=false:=by rw [hr0];simp
   have hq9:=HQZ.out
   have hr9:=HRZ.out
   rw [hfz] at hq9 hr9
   simp only [Bool.false_eq_true,if_false,Nat.add_zero] at hq9 hr9
   clear HQZ HRZ
   have HQZ:=ac hq9
   have HRZ:=ac hr9
   clear hq9 hr9 hfz HQA2 HRA2 hnz f2 f3 HK12 HB12
   obtain⟨wv,hwv,hbv,hxv⟩:=aL wq (.cells #[.slice aq lq kq,.slice ar lr kr] 25)
   have hAB:=dr wq.heap.size (.slice aq lq kq) (.slice ar lr kr) rq rr wv hxv ((HQ.out.1.arg HLQ.out.1).below hbv) ((HR.out.1.arg HLQ.out.2).below hbv)
   have HR2v:=ac (ae hbv HR2.out)
   have HR3v:=ac (ae hbv HR3.out)
   have HBV:=ac (HWB.out.trans (hbv.mono HWB.out.size))
   have HQv:=ac (HQ.out.1.below hbv)
   have HRv:=ac (HR.out.1.below hbv)
   clear hbv hxv HR2 HR3
   by_cases hbig:67108864<blen (val rq)∨67108864<blen (val rr)
   ·rw [decide_eq_true hbig] at hAB
    have HBIG:=ac hbig
    clear hbig
    go_wp2_with fail
    refine hAB.mono ?_
    rintro e wn ⟨rfl,hw⟩;rw [hw];clear hw wn hAB
    have HR2:=HR2v
    have HR3:=HR3v
    have HBE:=HBV
    have hf2:=av HR2.out
    have hf3:=av HR3.out
    obtain⟨m0,m1⟩:=duo HR2.out
    obtain⟨m2,m3⟩:=duo HR3.out
    go_wp2
    have hq4:=bG (base:=w.heap.size) (u0:=.bool false) (u1:=(.slice none 0 0)) (u2:=.bool false) (u3:=(.slice none 0 0)) HR2.out HR3.out
    have HD:=ac (And.intro hq4.2.2 (bj HBE.out (g:=w.heap.size+2) (u0:=.bool false) (u1:=(.slice none 0 0)) (u2:=.bool false) (u3:=(.slice none 0 0)) (by omega)))
    obtain⟨R5,R6,_⟩:=hq4
    generalize (((wv.setCell ⟨w.heap.size+2,0,none⟩ (.bool false)).setCell ⟨w.heap.size+2,1,none⟩ ((.slice none 0 0))).setCell ⟨w.heap.size+2+1,0,none⟩ (.bool false)).setCell ⟨w.heap.size+2+1,1,none⟩ ((.slice none 0 0))=w5 at *
    obtain⟨q0,q1⟩:=duo R5
    obtain⟨q2,q3⟩:=duo R6
    refine bodyPost_ret (v:=.tuple #[.agg #[.bool false,(.slice none 0 0)],.agg #[.bool false,(.slice none 0 0)],.int .i64 3]) (by simp [results,Tryz.results90,go_sem,q0,q1,q2,q3]) rfl ?_
    refine⟨⟨_,_,_,_,_,_,_,_,3,rfl,[],[],Ans.nil _ _,Ans.nil _ _,.inl rfl,.inr ⟨rfl,rfl,rfl,rfl,rfl,rfl,rfl,?_⟩⟩,HD.out.2⟩
    rw [HQZ.out,HRZ.out,aB,aB,←HQ.out.2.1,←HR.out.2.1]
    exact HBIG.out
   ·rw [decide_eq_false hbig] at hAB
    have HBIG:=ac hbig
    clear hbig
    go_wp2_with fail
    refine hAB.mono ?_
    rintro e wn ⟨rfl,hw⟩;rw [hw];clear hw wn hAB
    have hS1:=bI ap (.slice aq lq kq) rq _ wv HQv.out
    rw [bN ap HQ.out.2.2 HQ.out.2.1,←HQZ.out] at hS1
    go_wp2_with fail
    refine hS1.mono ?_
    rintro e ws ⟨rfl,hbs⟩
    have hS2:=bI b1 (.slice ar lr kr) rr _ ws (HRv.out.below hbs)
    rw [bN b1 HR.out.2.2 HR.out.2.1,←HRZ.out] at hS2
    have HBS:=ac hbs
    clear hbs hS1
    go_wp2_with fail
    refine hS2.mono ?_
    rintro e wt ⟨rfl,hbt⟩
    have hbst:=HBS.out.trans (hbt.mono HBS.out.size)
    have HR2:=ac (ae hbst HR2v.out)
    have HR3:=ac (ae hbst HR3v.out)
    have HBE:=ac (HBV.out.trans (hbst.mono HBV.out.size))
    have HQt:=ac (HQv.out.below hbst)
    have HRt:=ac (HRv.out.below hbst)
    have hf2:=av HR2.out
    have hf3:=av HR3.out
    obtain⟨m0,m1⟩:=duo HR2.out
    obtain⟨m2,m3⟩:=duo HR3.out
    clear hbt hbst hS2 HR2v HR3v hwv
    obtain⟨uq,huq⟩:∃ub,decide (qz<0)=ub:=⟨_,rfl⟩
    obtain⟨ur,hur⟩:∃ub,decide (rz<0)=ub:=⟨_,rfl⟩
    rw [huq,hur]
    go_wp2
    have hq4:=bG (base:=w.heap.size) (u0:=.bool uq) (u1:=(.slice aq lq kq)) (u2:=.bool ur) (u3:=(.slice ar lr kr)) HR2.out HR3.out
    have HD:=ac (And.intro hq4.2.2 (bj HBE.out (g:=w.heap.size+2) (u0:=.bool uq) (u1:=(.slice aq lq kq)) (u2:=.bool ur) (u3:=(.slice ar lr kr)) (by omega)))
    obtain⟨R5,R6,_⟩:=hq4
    generalize (((wt.setCell ⟨w.heap.size+2,0,none⟩ (.bool uq)).setCell ⟨w.heap.size+2,1,none⟩ ((.slice aq lq kq))).setCell ⟨w.heap.size+2+1,0,none⟩ (.bool ur)).setCell ⟨w.heap.size+2+1,1,none⟩ ((.slice ar lr kr))=w5 at *
    obtain⟨q0,q1⟩:=duo R5
    obtain⟨q2,q3⟩:=duo R6
    refine bodyPost_ret (v:=.tuple #[.agg #[.bool uq,(.slice aq lq kq)],.agg #[.bool ur,(.slice ar lr kr)],.int .i64 0]) (by simp [results,Tryz.results90,go_sem,q0,q1,q2,q3]) rfl ?_
    refine⟨⟨_,_,_,_,_,_,_,_,0,rfl,rq,rr,HD.out.1 _ _ HQt.out,HD.out.1 _ _ HRt.out,HAP.out,.inl ⟨rfl,huq.symm,?_,HQ.out.2.2,hur.symm,?_,HR.out.2.2,?_,?_⟩⟩,HD.out.2⟩
    ·rw [HQZ.out,aB];exact HQ.out.2.1
    ·rw [HRZ.out,aB];exact HR.out.2.1
    ·rw [HQZ.out,aB,←HQ.out.2.1];have:=HBIG.out;omega
    ·rw [HRZ.out,aB,←HR.out.2.1];have:=HBIG.out;omega
end Go.Proofs.YtdbjbbdhlpfhjaaGreatDoor
namespace Go.Proofs.YtdbjbbdhlpfhjaaGreatDoor
open Go.RowKit
open Lm
attribute [local go_sem ↓] Go.wp_at_zero Go.wp_at_succ

theorem rF (x:Nat):dE x 0=x % 2:=by simp [dE]

def g7 (q r l:Nat):Bool:=decide (l<r) || (decide (r=l) && decide (q % 2=1))

theorem rB (vq vr vl:Value)(Q R L:List Nat)(bl ap:Bool)(w:World)(hq:Arg w vq Q)(hr:Arg w vr R)(hl:Arg w vl L) :
  Calls Tryz.prog 171 #[dX vq vr vl bl ap] w fun e w'=>e=.returned (.bool (g7 (val Q) (val R) (val L)))∧Below w.heap.size w w':=by
 obtain⟨a1,k1,rfl,_,_,_⟩:=hq.form
 obtain⟨a2,k2,rfl,_,_,_⟩:=hr.form
 obtain⟨a3,k3,rfl,_,_,_⟩:=hl.form
 obtain⟨w0,hw0,hb0,hx0⟩:=aL w (.cells #[.slice a1 Q.length k1,.slice a2 R.length k2,.slice a3 L.length k3,.bool bl,.bool ap] 154)
 have c0:w0.cell? ⟨w.heap.size,0,none⟩=some (.slice a1 Q.length k1):=by simp [World.cell?,hx0]
 have c1:w0.cell? ⟨w.heap.size,1,none⟩=some (.slice a2 R.length k2):=by simp [World.cell?,hx0]
 have c2:w0.cell? ⟨w.heap.size,2,none⟩=some (.slice a3 L.length k3):=by simp [World.cell?,hx0]
 have HC:=gv _ _ R L w0 (hr.below hb0) (hl.below hb0)
 have HB0:=ac hb0
 have HX0:=ac hx0
 have HQ:=ac (hq.below hb0)
 unfold g7 dX
 clear hq hr hl hb0 hx0
 by_cases h1:val L<val R
 ·rw [show cmpN (val R) (val L)=1 by unfold cmpN;rw [if_neg (by omega),if_pos h1]] at HC
  rw [decide_eq_true h1,Bool.true_or]
  go_enter Tryz.func171,Tryz.ntmps171
  go_wp2_with fail
  refine HC.mono ?_
  rintro e w1 ⟨rfl,hs⟩
  have HB1:=ac (HB0.out.trans ((hs.below _:Below w0.heap.size w0 w1).mono HB0.out.size))
  clear hs HC
  go_wp2
  go_ret
  exact⟨rfl,HB1.out⟩
 ·rw [decide_eq_false h1,Bool.false_or]
  by_cases h2:val R=val L
  ·rw [show cmpN (val R) (val L)=0 by unfold cmpN;rw [if_neg (by omega),if_neg h1]] at HC
   rw [decide_eq_true h2,Bool.true_and]
   obtain⟨bt,hbt,hbt2⟩:∃bt:Nat,val Q % 2=bt∧bt<2:=⟨_,rfl,by omega⟩
   rw [hbt]
   have hd:decide (bt=1)=((bt:Int) == 1):=by
    rcases (show bt=0∨bt=1 by omega) with h|h <;> subst h <;> rfl
   rw [hd]
   clear hd
   go_enter Tryz.func171,Tryz.ntmps171
   go_wp2_with fail
   refine HC.mono ?_
   rintro e w1 ⟨rfl,hs⟩
   have hb1:Below w0.heap.size w0 w1:=hs.below _
   have d0:w1.cell? ⟨w.heap.size,0,none⟩=some (.slice a1 Q.length k1):=by simp [World.cell?,ae hb1 HX0.out]
   have HBT:=rU _ Q 0 w1 (HQ.out.below hb1) (by omega) (by omega)
   rw [rF,hbt] at HBT
   have HB1:=ac (HB0.out.trans (hb1.mono HB0.out.size))
   clear hs HC hb1 c0 c1 c2
   go_wp2_with fail
   refine HBT.mono ?_
   rintro e wn ⟨rfl,hw⟩;rw [hw];clear hw wn HBT
   go_wp2
   go_ret
   exact⟨rfl,HB1.out⟩
  ·rw [show cmpN (val R) (val L)=-1 from cmpN_lt (by omega)] at HC
   rw [decide_eq_false h2,Bool.false_and]
   go_enter Tryz.func171,Tryz.ntmps171
   go_wp2_with fail
   refine HC.mono ?_
   rintro e w1 ⟨rfl,hs⟩
   have HB1:=ac (HB0.out.trans ((hs.below _:Below w0.heap.size w0 w1).mono HB0.out.size))
   clear hs HC
   go_wp2
   go_ret
   exact⟨rfl,HB1.out⟩

attribute [local go_sem] oc nR in
theorem wdivide_4 (b1:Bool)(v:Value)(X:List Nat)(b2:Bool)(u:Value)(Y:List Nat)(ap fu:Bool)(qz rz:Int)(w:World)(hA:Arg w v X)(hB:Arg w u Y)(hT:Tab w)(hx:X.length≤17592186043904)(hy:Y.length≤17592186043904)(hy0:0<val Y)
  (hap:(b1 != b2)=ap) (hfu:g7 (val X / val Y) (val X % val Y) (val Y - val X % val Y)=fu)
  (hqz:qz=zz ap (val X / val Y+if fu && decide (0<val X % val Y) then 1 else 0)) (hrz:rz=zz (if fu && decide (0<val X % val Y) then !b1 else b1) (if fu && decide (0<val X % val Y) then val Y - val X % val Y else val X % val Y)) :
  Calls Tryz.prog 90 #[.int .i64 3,.agg #[.bool b1,v],.agg #[.bool b2,u]] w (gR w qz rz):=by
 have hap2:(!(b1 == b2))=ap:=hap
 have HFU:=ac hfu
 clear hfu
 obtain⟨a,n,rfl,hn1,hn2,_⟩:=hA.form
 obtain⟨a9,n9,rfl,hn3,hn4,_⟩:=hB.form
 obtain⟨w0,hw0,hb0,h0,h1,h2,h3⟩:=dj w (.cells #[.bool b1,.slice a X.length n] 27) (.cells #[.bool b2,.slice a9 Y.length n9] 27) (.cells #[.bool false,.slice none 0 0] 27) (.cells #[.bool false,.slice none 0 0] 27)
 obtain⟨k0,k1⟩:=duo h0
 obtain⟨k2,k3⟩:=duo h1
 have hbx:blen (val X)≤64*X.length:=dw X hA.limbs
 have hby:blen (val Y)≤64*Y.length:=dw Y hB.limbs
 have HZ:=dC _ Y w0 (hB.below hb0)
 rw [decide_eq_false (by omega)] at HZ
 obtain⟨wd,hwd⟩:∃wd,w0.drew=wd:=⟨_,rfl⟩
 have hbd:Below w0.heap.size w0 wd:=by rw [←hwd];exact (Below.refl _ _).drew
 have hbwd:=hb0.trans (hbd.mono hb0.size)
 have L1:=bB _ X wd (hA.below hbwd)
 have L2:=bB _ Y wd (hB.below hbwd)
 have g0:=ae hbd h0
 have g1:=ae hbd h1
 obtain⟨d0,d1⟩:=duo g0
 obtain⟨d2,d3⟩:=duo g1
 have HG0:=ac g0
 have HG1:=ac g1
 have HG2:=ac (ae hbd h2)
 have HG3:=ac (ae hbd h3)
 have HWD:=ac hbwd
 obtain⟨dd,hdd⟩:∃dd:Int,((blen (val X):Nat):Int) - ((blen (val Y):Nat):Int)=dd:=⟨_,rfl⟩
 have wdd:IntKind.i64.wrap dd=dd:=by rw [IntKind.wrap_i64];omega
 have wdd2:IntKind.i64.wrap (((blen (val X):Nat):Int) - ((blen (val Y):Nat):Int))=dd:=by rw [IntKind.wrap_i64];omega
 have HQZ:=ac hqz
 have HRZ:=ac hrz
 have HA:=ac (hA.below hbwd)
 have HB:=ac (hB.below hbwd)
 have HT:=ac (hT.below hbwd)
 by_cases hbig:67108864+blen (val Y)<blen (val X)
 ·have i1:(67108864:Int)<dd:=by omega
  have HBQ:Hid (67108864<blen qz.natAbs):=by
   refine ac ?_
   rw [hqz,aB]
   refine Nat.lt_of_lt_of_le ?_ (d9 (Nat.le_add_right _ _))
   exact kS (by omega) hbig
  generalize blen (val X)=lx at *
  generalize blen (val Y)=ly at *
  clear hA hB hT hb0 h0 h1 h2 h3 hbd hbwd g0 g1 HQZ HRZ hqz hrz hbig
  go_enter Tryz.func90,Tryz.ntmps90
  go_wp2_with fail
  refine HZ.mono ?_
  rintro e wn ⟨rfl,hw⟩;rw [hw];clear hw wn HZ
  go_wp2
  go_region_held3 (fun w'=>w'.cell? ⟨w.heap.size,1,none⟩=some (.slice a X.length n)∧w'.cell? ⟨w.heap.size+1,1,none⟩=some (.slice a9 Y.length n9)) (go_keep) (first
   | (go_at_call_of 80 a;(try rw [hwd]);refine L1.mono ?_;rintro e' wn ⟨rfl,hw⟩;rw [hw];clear hw wn)
   | (go_at_call_of 80 a9;(try rw [hwd]);refine L2.mono ?_;rintro e' wn ⟨rfl,hw⟩;rw [hw];clear hw wn))

  have HR2:=HG2
  have HR3:=HG3
  have HBE:=HWD
  have hf2:=av HR2.out
  have hf3:=av HR3.out
  obtain⟨m0,m1⟩:=duo HR2.out
  obtain⟨m2,m3⟩:=duo HR3.out
  go_wp2
  have hq4:=bG (base:=w.heap.size) (u0:=.bool false) (u1:=(.slice none 0 0)) (u2:=.bool false) (u3:=(.slice none 0 0)) HR2.out HR3.out
  have HD:=ac (And.intro hq4.2.2 (bj HBE.out (g:=w.heap.size+2) (u0:=.bool false) (u1:=(.slice none 0 0)) (u2:=.bool false) (u3:=(.slice none 0 0)) (by omega)))
  obtain⟨R5,R6,_⟩:=hq4
  generalize (((wd.setCell ⟨w.heap.size+2,0,none⟩ (.bool false)).setCell ⟨w.heap.size+2,1,none⟩ ((.slice none 0 0))).setCell ⟨w.heap.size+2+1,0,none⟩ (.bool false)).setCell ⟨w.heap.size+2+1,1,none⟩ ((.slice none 0 0))=w5 at *
  obtain⟨q0,q1⟩:=duo R5
  obtain⟨q2,q3⟩:=duo R6
  refine bodyPost_ret (v:=.tuple #[.agg #[.bool false,(.slice none 0 0)],.agg #[.bool false,(.slice none 0 0)],.int .i64 3]) (by simp [results,Tryz.results90,go_sem,q0,q1,q2,q3]) rfl ?_
  exact⟨⟨_,_,_,_,_,_,_,_,3,rfl,[],[],Ans.nil _ _,Ans.nil _ _,.inl rfl,.inr ⟨rfl,rfl,rfl,rfl,rfl,rfl,rfl,.inl HBQ.out⟩⟩,HD.out.2⟩
 ·have i1:¬(67108864:Int)<dd:=by omega
  have HBO:=wboth_any (blen (val X)) X Y _ _ wd (by omega) HA.out HB.out HT.out (by omega) (by omega) hy0
  generalize blen (val X)=lx at *
  generalize blen (val Y)=ly at *
  clear hA hB hT hb0 h0 h1 h2 h3 hbd hbwd g0 g1 hqz hrz hbig
  go_enter Tryz.func90,Tryz.ntmps90
  go_wp2_with fail
  refine HZ.mono ?_
  rintro e wn ⟨rfl,hw⟩;rw [hw];clear hw wn HZ
  go_wp2
  go_region_held3 (fun w'=>w'.cell? ⟨w.heap.size,1,none⟩=some (.slice a X.length n)∧w'.cell? ⟨w.heap.size+1,1,none⟩=some (.slice a9 Y.length n9)) (go_keep) (first
   | (go_at_call_of 80 a;(try rw [hwd]);refine L1.mono ?_;rintro e' wn ⟨rfl,hw⟩;rw [hw];clear hw wn)
   | (go_at_call_of 80 a9;(try rw [hwd]);refine L2.mono ?_;rintro e' wn ⟨rfl,hw⟩;rw [hw];clear hw wn))

  go_wp2_with fail
  refine HBO.mono ?_
  rintro e w1 ⟨⟨v1,v2,rq,rr,rfl,A1,A2,e1,t1,e2,t2,hapt⟩,hb1⟩
  obtain⟨aq,kq,rfl⟩:=A1.shape
  obtain⟨ar,kr,rfl⟩:=A2.shape
  have hlq:rq.length≤X.length:=by
   rw [←t1];refine aQ rq _ ?_
   rw [e1];exact Nat.lt_of_le_of_lt (Nat.div_le_self _ _) (val_lt HA.out.limbs)
  have hlr:rr.length≤Y.length:=by
   rw [←t2];refine aQ rr _ ?_
   rw [e2];exact Nat.lt_trans (Nat.mod_lt _ hy0) (val_lt HB.out.limbs)
  have hnz:=fC t2
  rw [e2] at hnz
  have HWB:=ac (HWD.out.trans (hb1.mono HWD.out.size))
  have HK0:=ac (ae hb1 HG0.out)
  have HK1:=ac (ae hb1 HG1.out)
  have HR2:=ac (ae hb1 HG2.out)
  have HR3:=ac (ae hb1 HG3.out)
  have HB1:=ac (HB.out.below hb1)
  have HT1:=ac (HT.out.below hb1)
  have HQA:=ac (And.intro (A1.base HWD.out.size) (And.intro e1 t1))
  have HRA:=ac (And.intro (A2.base HWD.out.size) (And.intro e2 t2))
  have HAP:=ac hapt
  have HLQ:=ac (And.intro (show rq.length≤1125899906842624 by omega) (show rr.length≤1125899906842624 by omega))
  obtain⟨f0,f1⟩:=duo HK0.out
  obtain⟨f2,f3⟩:=duo HK1.out
  obtain⟨lq,hnq⟩:∃lq,rq.length=lq:=⟨_,rfl⟩
  obtain⟨lr,hnr⟩:∃lr,rr.length=lr:=⟨_,rfl⟩
  rw [hnq] at HQA HAP ⊢
  rw [hnr] at HRA HAP ⊢
  have HLN:=ac (And.intro hlq (And.intro hlr (And.intro hnq hnr)))
  rw [hnr] at hnz
  clear A1 A2 e1 e2 t1 t2 hapt hb1 HBO k0 k1 k2 k3 d0 d1 d2 d3 hlq hlr hnq hnr HG0 HG1 HG2 HG3 HA HB HT L1 L2
  go_wp2
  go_quiet (fail)
  obtain⟨wq,hwq⟩:∃wq,wq=w1.drewN nq:=⟨_,rfl⟩
  have hbq:Below w1.heap.size w1 wq:=by rw [hwq];exact ((aD.refl w1).drewN nq).below _
  rw [←hwq]
  have HWB2:=ac (HWB.out.trans (hbq.mono HWB.out.size))
  have HK12:=ac (ae hbq HK1.out)
  have HR22:=ac (ae hbq HR2.out)
  have HR32:=ac (ae hbq HR3.out)
  have HB12:=ac (HB1.out.below hbq)
  have HQA2:=ac (And.intro (HQA.out.1.below hbq) HQA.out.2)
  have HRA2:=ac (And.intro (HRA.out.1.below hbq) HRA.out.2)
  clear HWB HK0 HK1 HR2 HR3 HB1 HQA HRA f0 f1 f2 f3 hwq hbq HT1
  have HWB:=HWB2
  have HR2:=HR22
  have HR3:=HR32
  obtain⟨f2,f3⟩:=duo HK12.out
  clear HWB2 HR22 HR32
  by_cases hr:0<lr
  ·have i3:(0:Int)<(lr:Int):=by omega
   have hr0:0<val X % val Y:=by omega
   have hml:=Nat.mod_lt (val X) hy0
   clear hnz
   have HLS:=dq _ (.slice ar lr kr) Y rr wq HB12.out (HRA2.out.1.arg HLQ.out.2) (by omega) (by rw [HRA2.out.2.1];omega)
   rw [HRA2.out.2.1] at HLS
   go_wp2_with fail
   refine HLS.mono ?_
   rintro e w3 ⟨⟨v3,r3,rfl,A3,e3,t3⟩,hb3⟩
   obtain⟨a3,k3,rfl⟩:=A3.shape
   have hl3:r3.length≤Y.length:=by
    rw [←t3];refine aQ r3 _ ?_
    rw [e3];exact Nat.lt_of_le_of_lt (Nat.sub_le _ _) (val_lt HB12.out.limbs)
   obtain⟨l3,hl3e⟩:∃l3,r3.length=l3:=⟨_,rfl⟩
   rw [hl3e] at A3 ⊢
   have hDV:=wdivs_any w3
   have HB3:=ac hb3
   have HA3:=ac (And.intro A3 (And.intro e3 (And.intro t3 (show r3.length≤1125899906842624 by omega))))
   clear A3 e3 t3 hb3 hl3 hl3e HLS f2 f3 HK12 HB12
   go_wp2_with fail
   refine hDV.mono ?_
   rintro e w4 ⟨rfl,hb4⟩
   have HB4:=ac (HB3.out.trans (hb4.mono HB3.out.size))
   have HA4:=ac (HA3.out.1.below hb4)
   have hFU:Calls Tryz.prog 171 #[dX (.slice aq lq kq) (.slice ar lr kr) (.slice a3 l3 k3) b1 ap] w4 (fun e w'=>e=.returned (.bool fu)∧Below w4.heap.size w4 w'):=(rB _ _ _ rq rr r3 b1 ap w4 ((HQA2.out.1.arg HLQ.out.1).below HB4.out) ((HRA2.out.1.arg HLQ.out.2).below HB4.out) (HA4.out.arg HA3.out.2.2.2)).mono (fun e w' h=>⟨h.1.trans (by rw [HQA2.out.2.1,HRA2.out.2.1,HA3.out.2.1,HFU.out]),h.2⟩)
   clear hb4 hDV HB3
   go_wp2_with fail
   refine hFU.mono ?_
   rintro e w5 ⟨rfl,hb5⟩
   have hb45:=HB4.out.trans (hb5.mono HB4.out.size)
   have HR2':=ac (ae hb45 HR2.out)
   have HR3':=ac (ae hb45 HR3.out)
   have HQ5:=ac (And.intro (HQA2.out.1.below hb45) HQA2.out.2)
   have HR5:=ac (And.intro (HRA2.out.1.below hb45) HRA2.out.2)
   have HL5:=ac (And.intro ((HA4.out.below hb5).base (Nat.le_trans HWB.out.size (Nat.le_refl _))) (And.intro HA3.out.2.1 HA3.out.2.2.1))
   have HWB5:=ac (HWB.out.trans (hb45.mono HWB.out.size))
   have HLN3:=ac HA3.out.2.2.2
   clear hb5 hb45 hFU HA4 HB4 HA3 HR2 HR3 HWB HQA2 HRA2
   have HR2:=HR2'
   have HR3:=HR3'
   clear HR2' HR3'
   cases fu
   ·have HQ:=HQ5
    have HR:=HR5
    have HWB:=HWB5
    have hq9:=HQZ.out
    have hr9:=HRZ.out
    simp only [Bool.false_and,Bool.false_eq_true,if_false,Nat.add_zero] at hq9 hr9
    clear HQZ HRZ
    have HQZ:=ac hq9
    have HRZ:=ac hr9
    clear hq9 hr9 HQ5 HR5 HL5 HWB5
    obtain⟨wv,hwv,hbv,hxv⟩:=aL w5 (.cells #[.slice aq lq kq,.slice ar lr kr] 25)
    have hAB:=dr w5.heap.size (.slice aq lq kq) (.slice ar lr kr) rq rr wv hxv ((HQ.out.1.arg HLQ.out.1).below hbv) ((HR.out.1.arg HLQ.out.2).below hbv)
    have HR2v:=ac (ae hbv HR2.out)
    have HR3v:=ac (ae hbv HR3.out)
    have HBV:=ac (HWB.out.trans (hbv.mono HWB.out.size))
    have HQv:=ac (HQ.out.1.below hbv)
    have HRv:=ac (HR.out.1.below hbv)
    clear hbv hxv HR2 HR3
    by_cases hbig:67108864<blen (val rq)∨67108864<blen (val rr)
    ·rw [decide_eq_true hbig] at hAB
     have HBIG:=ac hbig
     clear hbig
     go_wp2_with fail
     refine hAB.mono ?_
     rintro e wn ⟨rfl,hw⟩;rw [hw];clear hw wn hAB
     have HR2:=HR2v
     have HR3:=HR3v
     have HBE:=HBV
     have hf2:=av HR2.out
     have hf3:=av HR3.out
     obtain⟨m0,m1⟩:=duo HR2.out
     obtain⟨m2,m3⟩:=duo HR3.out
     go_wp2
     have hq4:=bG (base:=w.heap.size) (u0:=.bool false) (u1:=(.slice none 0 0)) (u2:=.bool false) (u3:=(.slice none 0 0)) HR2.out HR3.out
     have HD:=ac (And.intro hq4.2.2 (bj HBE.out (g:=w.heap.size+2) (u0:=.bool false) (u1:=(.slice none 0 0)) (u2:=.bool false) (u3:=(.slice none 0 0)) (by omega)))
     obtain⟨R5,R6,_⟩:=hq4
     generalize (((wv.setCell ⟨w.heap.size+2,0,none⟩ (.bool false)).setCell ⟨w.heap.size+2,1,none⟩ ((.slice none 0 0))).setCell ⟨w.heap.size+2+1,0,none⟩ (.bool false)).setCell ⟨w.heap.size+2+1,1,none⟩ ((.slice none 0 0))=w5 at *
     obtain⟨q0,q1⟩:=duo R5
     obtain⟨q2,q3⟩:=duo R6
     refine bodyPost_ret (v:=.tuple #[.agg #[.bool false,(.slice none 0 0)],.agg #[.bool false,(.slice none 0 0)],.int .i64 3]) (by simp [results,Tryz.results90,go_sem,q0,q1,q2,q3]) rfl ?_
     refine⟨⟨_,_,_,_,_,_,_,_,3,rfl,[],[],Ans.nil _ _,Ans.nil _ _,.inl rfl,.inr ⟨rfl,rfl,rfl,rfl,rfl,rfl,rfl,?_⟩⟩,HD.out.2⟩
     rw [HQZ.out,HRZ.out,aB,aB,←HQ.out.2.1,←HR.out.2.1]
     exact HBIG.out
    ·rw [decide_eq_false hbig] at hAB
     have HBIG:=ac hbig
     clear hbig
     go_wp2_with fail
     refine hAB.mono ?_
     rintro e wn ⟨rfl,hw⟩;rw [hw];clear hw wn hAB
     have hS1:=bI ap (.slice aq lq kq) rq _ wv HQv.out
     rw [bN ap HQ.out.2.2 HQ.out.2.1,←HQZ.out] at hS1
     go_wp2_with fail
     refine hS1.mono ?_
     rintro e ws ⟨rfl,hbs⟩
     have hS2:=bI b1 (.slice ar lr kr) rr _ ws (HRv.out.below hbs)
     rw [bN b1 HR.out.2.2 HR.out.2.1,←HRZ.out] at hS2
     have HBS:=ac hbs
     clear hbs hS1
     go_wp2_with fail
     refine hS2.mono ?_
     rintro e wt ⟨rfl,hbt⟩
     have hbst:=HBS.out.trans (hbt.mono HBS.out.size)
     have HR2:=ac (ae hbst HR2v.out)
     have HR3:=ac (ae hbst HR3v.out)
     have HBE:=ac (HBV.out.trans (hbst.mono HBV.out.size))
     have HQt:=ac (HQv.out.below hbst)
     have HRt:=ac (HRv.out.below hbst)
     have hf2:=av HR2.out
     have hf3:=av HR3.out
     obtain⟨m0,m1⟩:=duo HR2.out
     obtain⟨m2,m3⟩:=duo HR3.out
     clear hbt hbst hS2 HR2v HR3v hwv
     obtain⟨uq,huq⟩:∃ub,decide (qz<0)=ub:=⟨_,rfl⟩
     obtain⟨ur,hur⟩:∃ub,decide (rz<0)=ub:=⟨_,rfl⟩
     rw [huq,hur]
     go_wp2
     have hq4:=bG (base:=w.heap.size) (u0:=.bool uq) (u1:=(.slice aq lq kq)) (u2:=.bool ur) (u3:=(.slice ar lr kr)) HR2.out HR3.out
     have HD:=ac (And.intro hq4.2.2 (bj HBE.out (g:=w.heap.size+2) (u0:=.bool uq) (u1:=(.slice aq lq kq)) (u2:=.bool ur) (u3:=(.slice ar lr kr)) (by omega)))
     obtain⟨R5,R6,_⟩:=hq4
     generalize (((wt.setCell ⟨w.heap.size+2,0,none⟩ (.bool uq)).setCell ⟨w.heap.size+2,1,none⟩ ((.slice aq lq kq))).setCell ⟨w.heap.size+2+1,0,none⟩ (.bool ur)).setCell ⟨w.heap.size+2+1,1,none⟩ ((.slice ar lr kr))=w5 at *
     obtain⟨q0,q1⟩:=duo R5
     obtain⟨q2,q3⟩:=duo R6
     refine bodyPost_ret (v:=.tuple #[.agg #[.bool uq,(.slice aq lq kq)],.agg #[.bool ur,(.slice ar lr kr)],.int .i64 0]) (by simp [results,Tryz.results90,go_sem,q0,q1,q2,q3]) rfl ?_
     refine⟨⟨_,_,_,_,_,_,_,_,0,rfl,rq,rr,HD.out.1 _ _ HQt.out,HD.out.1 _ _ HRt.out,HAP.out,.inl ⟨rfl,huq.symm,?_,HQ.out.2.2,hur.symm,?_,HR.out.2.2,?_,?_⟩⟩,HD.out.2⟩
     ·rw [HQZ.out,aB];exact HQ.out.2.1
     ·rw [HRZ.out,aB];exact HR.out.2.1
     ·rw [HQZ.out,aB,←HQ.out.2.1];have:=HBIG.out;omega
     ·rw [HRZ.out,aB,←HR.out.2.1];have:=HBIG.out;omega
   ·obtain⟨w6,hw6,hb6,hx6⟩:=aL w5 (.cells #[.int .u64 1] 61)
    have hblk:Blk w6 w5.heap.size [1]:=hx6
    have A6:=Ans.of_blk (base:=w5.heap.size) (zs:=[1]) (Nat.le_refl _) hblk (by simp) (by simp) (by simp) (by intro z hz;simp at hz;omega)
    have hSM:=gC (.slice aq lq kq) (.slice (some ⟨w5.heap.size,0,none⟩) 1 1) rq [1] w6 ((HQ5.out.1.arg HLQ.out.1).below hb6) (A6.arg (by simp)) (by have:=HLN.out.1;omega) (by simp)
    rw [HQ5.out.2.1,show val [1]=1 from by simp [val]] at hSM
    have HB6:=ac hb6
    clear hb6 hx6 hblk A6
    go_wp2_with fail
    refine hSM.mono ?_
    rintro e w7 ⟨⟨v7,r7,rfl,A7,e7,t7⟩,hb7⟩
    obtain⟨a7,k7,rfl⟩:=A7.shape
    have hb67:=HB6.out.trans (hb7.mono HB6.out.size)
    have HR2':=ac (ae hb67 HR2.out)
    have HR3':=ac (ae hb67 HR3.out)
    have HWB:=ac (HWB5.out.trans (hb67.mono HWB5.out.size))
    have hl7:r7.length≤rq.length+1:=by
     rw [←t7];refine aQ r7 _ ?_
     rw [e7]
     have h1:=val_lt HQ5.out.1.limbs
     rw [HQ5.out.2.1] at h1
     rw [Nat.pow_succ]
     have h0:=W_pos rq.length
     generalize 18446744073709551616 ^ rq.length=P9 at *
     omega
    have hlqx:=HLN.out.1
    obtain⟨l7,hl7e⟩:∃l7,r7.length=l7:=⟨_,rfl⟩
    rw [hl7e] at A7 ⊢
    have hAP7:=apart_of2 (v2:=.slice a3 l3 k3) (fun g hg=>Nat.lt_of_lt_of_le (HL5.out.1.own.lt g hg).2 HB6.out.size) A7
    have hs57:w.heap.size≤w6.heap.size:=Nat.le_trans HWB5.out.size HB6.out.size
    have HQ:=ac (And.intro (A7.base hs57) (And.intro e7 t7))
    have HR:=ac (And.intro (HL5.out.1.below hb67) HL5.out.2)
    have hq9:=HQZ.out
    have hr9:=HRZ.out
    rw [decide_eq_true hr0] at hq9 hr9
    simp only [Bool.true_and,if_true] at hq9 hr9
    clear HQ5 HR5 HAP HLQ HR2 HR3 HWB5 HQZ HRZ
    have HAP:=ac hAP7
    have HLQ:=ac (And.intro (show r7.length≤1125899906842624 by omega) HLN3.out)
    have HR2:=HR2'
    have HR3:=HR3'
    have HQZ:=ac hq9
    have HRZ:=ac hr9
    clear hq9 hr9 HL5 hb7 hb67 A7 e7 t7 hSM HB6 hs57 HR2' HR3' hw6
    obtain⟨wv,hwv,hbv,hxv⟩:=aL w7 (.cells #[.slice a7 l7 k7,.slice a3 l3 k3] 25)
    have hAB:=dr w7.heap.size (.slice a7 l7 k7) (.slice a3 l3 k3) r7 r3 wv hxv ((HQ.out.1.arg HLQ.out.1).below hbv) ((HR.out.1.arg HLQ.out.2).below hbv)
    have HR2v:=ac (ae hbv HR2.out)
    have HR3v:=ac (ae hbv HR3.out)
    have HBV:=ac (HWB.out.trans (hbv.mono HWB.out.size))
    have HQv:=ac (HQ.out.1.below hbv)
    have HRv:=ac (HR.out.1.below hbv)
    clear hbv hxv HR2 HR3
    by_cases hbig:67108864<blen (val r7)∨67108864<blen (val r3)
    ·rw [decide_eq_true hbig] at hAB
     have HBIG:=ac hbig
     clear hbig
     go_wp2_with fail
     refine hAB.mono ?_
     rintro e wn ⟨rfl,hw⟩;rw [hw];clear hw wn hAB
     have HR2:=HR2v
     have HR3:=HR3v
     have HBE:=HBV
     have hf2:=av HR2.out
     have hf3:=av HR3.out
     obtain⟨m0,m1⟩:=duo HR2.out
     obtain⟨m2,m3⟩:=duo HR3.out
     go_wp2
     have hq4:=bG (base:=w.heap.size) (u0:=.bool false) (u1:=(.slice none 0 0)) (u2:=.bool false) (u3:=(.slice none 0 0)) HR2.out HR3.out
     have HD:=ac (And.intro hq4.2.2 (bj HBE.out (g:=w.heap.size+2) (u0:=.bool false) (u1:=(.slice none 0 0)) (u2:=.bool false) (u3:=(.slice none 0 0)) (by omega)))
     obtain⟨R5,R6,_⟩:=hq4
     generalize (((wv.setCell ⟨w.heap.size+2,0,none⟩ (.bool false)).setCell ⟨w.heap.size+2,1,none⟩ ((.slice none 0 0))).setCell ⟨w.heap.size+2+1,0,none⟩ (.bool false)).setCell ⟨w.heap.size+2+1,1,none⟩ ((.slice none 0 0))=w5 at *
     obtain⟨q0,q1⟩:=duo R5
     obtain⟨q2,q3⟩:=duo R6
     refine bodyPost_ret (v:=.tuple #[.agg #[.bool false,(.slice none 0 0)],.agg #[.bool false,(.slice none 0 0)],.int .i64 3]) (by simp [results,Tryz.results90,go_sem,q0,q1,q2,q3]) rfl ?_
     refine⟨⟨_,_,_,_,_,_,_,_,3,rfl,[],[],Ans.nil _ _,Ans.nil _ _,.inl rfl,.inr ⟨rfl,rfl,rfl,rfl,rfl,rfl,rfl,?_⟩⟩,HD.out.2⟩
     rw [HQZ.out,HRZ.out,aB,aB,←HQ.out.2.1,←HR.out.2.1]
     exact HBIG.out
    ·rw [decide_eq_false hbig] at hAB
     have HBIG:=ac hbig
     clear hbig
     go_wp2_with fail
     refine hAB.mono ?_
     rintro e wn ⟨rfl,hw⟩;rw [hw];clear hw wn hAB
     have hS1:=bI ap (.slice a7 l7 k7) r7 _ wv HQv.out
     rw [bN ap HQ.out.2.2 HQ.out.2.1,←HQZ.out] at hS1
     go_wp2_with fail
     refine hS1.mono ?_
     rintro e ws ⟨rfl,hbs⟩
     have hS2:=bI (!b1) (.slice a3 l3 k3) r3 _ ws (HRv.out.below hbs)
     rw [bN (!b1) HR.out.2.2 HR.out.2.1,←HRZ.out] at hS2
     have HBS:=ac hbs
     clear hbs hS1
     go_wp2_with fail
     refine hS2.mono ?_
     rintro e wt ⟨rfl,hbt⟩
     have hbst:=HBS.out.trans (hbt.mono HBS.out.size)
     have HR2:=ac (ae hbst HR2v.out)
     have HR3:=ac (ae hbst HR3v.out)
     have HBE:=ac (HBV.out.trans (hbst.mono HBV.out.size))
     have HQt:=ac (HQv.out.below hbst)
     have HRt:=ac (HRv.out.below hbst)
     have hf2:=av HR2.out
     have hf3:=av HR3.out
     obtain⟨m0,m1⟩:=duo HR2.out
     obtain⟨m2,m3⟩:=duo HR3.out
     clear hbt hbst hS2 HR2v HR3v hwv
     obtain⟨uq,huq⟩:∃ub,decide (qz<0)=ub:=⟨_,rfl⟩
     obtain⟨ur,hur⟩:∃ub,decide (rz<0)=ub:=⟨_,rfl⟩
     rw [huq,hur]
     go_wp2
     have hq4:=bG (base:=w.heap.size) (u0:=.bool uq) (u1:=(.slice a7 l7 k7)) (u2:=.bool ur) (u3:=(.slice a3 l3 k3)) HR2.out HR3.out
     have HD:=ac (And.intro hq4.2.2 (bj HBE.out (g:=w.heap.size+2) (u0:=.bool uq) (u1:=(.slice a7 l7 k7)) (u2:=.bool ur) (u3:=(.slice a3 l3 k3)) (by omega)))
     obtain⟨R5,R6,_⟩:=hq4
     generalize (((wt.setCell ⟨w.heap.size+2,0,none⟩ (.bool uq)).setCell ⟨w.heap.size+2,1,none⟩ ((.slice a7 l7 k7))).setCell ⟨w.heap.size+2+1,0,none⟩ (.bool ur)).setCell ⟨w.heap.size+2+1,1,none⟩ ((.slice a3 l3 k3))=w5 at *
     obtain⟨q0,q1⟩:=duo R5
     obtain⟨q2,q3⟩:=duo R6
     refine bodyPost_ret (v:=.tuple #[.agg #[.bool uq,(.slice a7 l7 k7)],.agg #[.bool ur,(.slice a3 l3 k3)],.int .i64 0]) (by simp [results,Tryz.results90,go_sem,q0,q1,q2,q3]) rfl ?_
     refine⟨⟨_,_,_,_,_,_,_,_,0,rfl,r7,r3,HD.out.1 _ _ HQt.out,HD.out.1 _ _ HRt.out,HAP.out,.inl ⟨rfl,huq.symm,?_,HQ.out.2.2,hur.symm,?_,HR.out.2.2,?_,?_⟩⟩,HD.out.2⟩
     ·rw [HQZ.out,aB];exact HQ.out.2.1
     ·rw [HRZ.out,aB];exact HR.out.2.1
     ·rw [HQZ.out,aB,←HQ.out.2.1];have:=HBIG.out;omega
     ·rw [HRZ.out,aB,←HR.out.2.1];have:=HBIG.out;omega
  ·have i3:¬(0:Int)<(lr:Int):=by omega
   have hr0:val X % val Y=0:=by omega
   have HQ:=HQA2
   have HR:=HRA2
   have hfz:(fu && decide (0<val X % val Y))=false:=by rw [hr0];simp
   have hq9:=HQZ.out
   have hr9:=HRZ.out
   rw [hfz] at hq9 hr9
   simp only [Bool.false_eq_true,if_false,Nat.add_zero] at hq9 hr9
   clear HQZ HRZ
   have HQZ:=ac hq9
   have HRZ:=ac hr9
   clear hq9 hr9 hfz HQA2 HRA2 hnz f2 f3 HK12 HB12
   obtain⟨wv,hwv,hbv,hxv⟩:=aL wq (.cells #[.slice aq lq kq,.slice ar lr kr] 25)
   have hAB:=dr wq.heap.size (.slice aq lq kq) (.slice ar lr kr) rq rr wv hxv ((HQ.out.1.arg HLQ.out.1).below hbv) ((HR.out.1.arg HLQ.out.2).below hbv)
   have HR2v:=ac (ae hbv HR2.out)
   have HR3v:=ac (ae hbv HR3.out)
   have HBV:=ac (HWB.out.trans (hbv.mono HWB.out.size))
   have HQv:=ac (HQ.out.1.below hbv)
   have HRv:=ac (HR.out.1.below hbv)
   clear hbv hxv HR2 HR3
   by_cases hbig:67108864<blen (val rq)∨67108864<blen (val rr)
   ·rw [decide_eq_true hbig] at hAB
    have HBIG:=ac hbig
    clear hbig
    go_wp2_with fail
    refine hAB.mono ?_
    rintro e wn ⟨rfl,hw⟩;rw [hw];clear hw wn hAB
    have HR2:=HR2v
    have HR3:=HR3v
    have HBE:=HBV
    have hf2:=av HR2.out
    have hf3:=av HR3.out
    obtain⟨m0,m1⟩:=duo HR2.out
    obtain⟨m2,m3⟩:=duo HR3.out
    go_wp2
    have hq4:=bG (base:=w.heap.size) (u0:=.bool false) (u1:=(.slice none 0 0)) (u2:=.bool false) (u3:=(.slice none 0 0)) HR2.out HR3.out
    have HD:=ac (And.intro hq4.2.2 (bj HBE.out (g:=w.heap.size+2) (u0:=.bool false) (u1:=(.slice none 0 0)) (u2:=.bool false) (u3:=(.slice none 0 0)) (by omega)))
    obtain⟨R5,R6,_⟩:=hq4
    generalize (((wv.setCell ⟨w.heap.size+2,0,none⟩ (.bool false)).setCell ⟨w.heap.size+2,1,none⟩ ((.slice none 0 0))).setCell ⟨w.heap.size+2+1,0,none⟩ (.bool false)).setCell ⟨w.heap.size+2+1,1,none⟩ ((.slice none 0 0))=w5 at *
    obtain⟨q0,q1⟩:=duo R5
    obtain⟨q2,q3⟩:=duo R6
    refine bodyPost_ret (v:=.tuple #[.agg #[.bool false,(.slice none 0 0)],.agg #[.bool false,(.slice none 0 0)],.int .i64 3]) (by simp [results,Tryz.results90,go_sem,q0,q1,q2,q3]) rfl ?_
    refine⟨⟨_,_,_,_,_,_,_,_,3,rfl,[],[],Ans.nil _ _,Ans.nil _ _,.inl rfl,.inr ⟨rfl,rfl,rfl,rfl,rfl,rfl,rfl,?_⟩⟩,HD.out.2⟩
    rw [HQZ.out,HRZ.out,aB,aB,←HQ.out.2.1,←HR.out.2.1]
    exact HBIG.out
   ·rw [decide_eq_false hbig] at hAB
    have HBIG:=ac hbig
    clear hbig
    go_wp2_with fail
    refine hAB.mono ?_
    rintro e wn ⟨rfl,hw⟩;rw [hw];clear hw wn hAB
    have hS1:=bI ap (.slice aq lq kq) rq _ wv HQv.out
    rw [bN ap HQ.out.2.2 HQ.out.2.1,←HQZ.out] at hS1
    go_wp2_with fail
    refine hS1.mono ?_
    rintro e ws ⟨rfl,hbs⟩
    have hS2:=bI b1 (.slice ar lr kr) rr _ ws (HRv.out.below hbs)
    rw [bN b1 HR.out.2.2 HR.out.2.1,←HRZ.out] at hS2
    have HBS:=ac hbs
    clear hbs hS1
    go_wp2_with fail
    refine hS2.mono ?_
    rintro e wt ⟨rfl,hbt⟩
    have hbst:=HBS.out.trans (hbt.mono HBS.out.size)
    have HR2:=ac (ae hbst HR2v.out)
    have HR3:=ac (ae hbst HR3v.out)
    have HBE:=ac (HBV.out.trans (hbst.mono HBV.out.size))
    have HQt:=ac (HQv.out.below hbst)
    have HRt:=ac (HRv.out.below hbst)
    have hf2:=av HR2.out
    have hf3:=av HR3.out
    obtain⟨m0,m1⟩:=duo HR2.out
    obtain⟨m2,m3⟩:=duo HR3.out
    clear hbt hbst hS2 HR2v HR3v hwv
    obtain⟨uq,huq⟩:∃ub,decide (qz<0)=ub:=⟨_,rfl⟩
    obtain⟨ur,hur⟩:∃ub,decide (rz<0)=ub:=⟨_,rfl⟩
    rw [huq,hur]
    go_wp2
    have hq4:=bG (base:=w.heap.size) (u0:=.bool uq) (u1:=(.slice aq lq kq)) (u2:=.bool ur) (u3:=(.slice ar lr kr)) HR2.out HR3.out
    have HD:=ac (And.intro hq4.2.2 (bj HBE.out (g:=w.heap.size+2) (u0:=.bool uq) (u1:=(.slice aq lq kq)) (u2:=.bool ur) (u3:=(.slice ar lr kr)) (by omega)))
    obtain⟨R5,R6,_⟩:=hq4
    generalize (((wt.setCell ⟨w.heap.size+2,0,none⟩ (.bool uq)).setCell ⟨w.heap.size+2,1,none⟩ ((.slice aq lq kq))).setCell ⟨w.heap.size+2+1,0,none⟩ (.bool ur)).setCell ⟨w.heap.size+2+1,1,none⟩ ((.slice ar lr kr))=w5 at *
    obtain⟨q0,q1⟩:=duo R5
    obtain⟨q2,q3⟩:=duo R6
    refine bodyPost_ret (v:=.tuple #[.agg #[.bool uq,(.slice aq lq kq)],.agg #[.bool ur,(.slice ar lr kr)],.int .i64 0]) (by simp [results,Tryz.results90,go_sem,q0,q1,q2,q3]) rfl ?_
    refine⟨⟨_,_,_,_,_,_,_,_,0,rfl,rq,rr,HD.out.1 _ _ HQt.out,HD.out.1 _ _ HRt.out,HAP.out,.inl ⟨rfl,huq.symm,?_,HQ.out.2.2,hur.symm,?_,HR.out.2.2,?_,?_⟩⟩,HD.out.2⟩
    ·rw [HQZ.out,aB];exact HQ.out.2.1
    ·rw [HRZ.out,aB];exact HR.out.2.1
    ·rw [HQZ.out,aB,←HQ.out.2.1];have:=HBIG.out;omega
    ·rw [HRZ.out,aB,←HR.out.2.1];have:=HBIG.out;omega
end Go.Proofs.YtdbjbbdhlpfhjaaGreatDoor
namespace Go.Proofs.YtdbjbbdhlpfhjaaGreatDoor
open Go.RowKit
open Lm

theorem hC (b:Bool){y:Nat}(hy:0<y):decide (zz b y<0)=b:=by
 cases b
 ·simp [zz]
 ·simp only [zz,if_true]
  exact decide_eq_true (by omega)

theorem jt (b1 b2 f:Bool)(x y:Nat)(hy:0<y):zz b1 x - zz (b1 != b2) (x / y+if f then 1 else 0)*zz b2 y=zz (if f then !b1 else b1) (if f then y - x % y else x % y):=by
 have h1:=Nat.div_add_mod x y
 have h2:=Nat.mod_lt x hy
 generalize x / y=q at *
 generalize x % y=r at *
 have h3:(x:Int)=(y:Int)*(q:Int)+(r:Int):=by rw [←h1];push_cast;rfl
 have h4:((y - r:Nat):Int)=(y:Int) - (r:Int):=by omega
 cases b1 <;> cases b2 <;> cases f <;> simp only [zz,Bool.false_eq_true,if_false,if_true,bne_self_eq_false,Bool.not_true,Bool.not_false,Nat.add_zero,Bool.true_bne,Bool.false_bne,h4,h3] <;> push_cast <;> grind

theorem fD (b1 b2:Bool)(x y:Nat)(hy:0<y):flq (zz b1 x) (zz b2 y)=zz (b1 != b2) (x / y+if (b1 != b2) && decide (0<x % y) then 1 else 0):=by
 unfold flq
 rw [aB,aB,hC b2 hy]
 rcases Nat.eq_zero_or_pos x with hx|hx
 ·subst hx
  simp only [Nat.zero_div,Nat.zero_mod,eC,Nat.lt_irrefl,decide_false,Bool.and_false,Bool.false_eq_true,if_false,Nat.add_zero,ne_eq,not_true,Bool.false_and,Int.sub_zero]
 ·rw [hC b1 hx]
  generalize x / y=q
  generalize x % y=r
  rcases Nat.eq_zero_or_pos r with hr|hr
  ·subst hr
   simp
  ·have e1:decide (r≠0)=true:=decide_eq_true (by omega)
   have e2:decide (0<r)=true:=decide_eq_true hr
   rw [e1,e2]
   cases b1 <;> cases b2 <;> simp [zz] <;> omega

theorem nU {b:Bool}{x:Nat}:zz b x=0 ↔ x=0:=by cases b <;> simp [zz]

theorem i7 (b1 b2:Bool)(x y:Nat)(hy:0<y):(zz b1 x - flq (zz b1 x) (zz b2 y)*zz b2 y=0) ↔ x % y=0:=by
 have h2:=Nat.mod_lt x hy
 rw [fD b1 b2 x y hy,jt b1 b2 _ x y hy,nU]
 generalize x % y=r at *
 by_cases hr:r=0
 ·subst hr
  simp
 ·split <;> omega

theorem nO (b1 b2:Bool)(x y:Nat)(hy:0<y):ceq (zz b1 x) (zz b2 y)=zz (b1 != b2) (x / y+if (!(b1 != b2)) && decide (0<x % y) then 1 else 0):=by
 unfold ceq
 by_cases hr:x % y=0
 ·rw [if_pos ((i7 b1 b2 x y hy).2 hr),fD b1 b2 x y hy,hr]
  simp
 ·rw [if_neg (fun h=>hr ((i7 b1 b2 x y hy).1 h)),fD b1 b2 x y hy]
  have e2:decide (0<x % y)=true:=decide_eq_true (by omega)
  rw [e2]
  generalize x / y=q
  cases b1 <;> cases b2 <;> simp [zz] <;> omega

theorem pS (b1 b2:Bool)(x y:Nat)(hy:0<y):euq (zz b1 x) (zz b2 y)=zz (b1 != b2) (x / y+if b1 && decide (0<x % y) then 1 else 0):=by
 unfold euq
 rw [fD b1 b2 x y hy,nO b1 b2 x y hy]
 have h:=hC b2 hy
 cases b2
 ·rw [if_neg (of_decide_eq_false h)]
  cases b1 <;> simp
 ·rw [if_pos (of_decide_eq_true h)]
  cases b1 <;> simp

theorem fU (a b:Nat)(hb:0<b):flq (a:Int) (b:Int)=((a / b:Nat):Int)∧(a:Int) - flq (a:Int) (b:Int)*(b:Int)=((a % b:Nat):Int):=by
 have h1:¬((a:Int)<0):=by omega
 have h2:¬((b:Int)<0):=by omega
 have e:flq (a:Int) (b:Int)=((a / b:Nat):Int):=by
  unfold flq
  simp only [h1,h2,decide_false,bne_self_eq_false,Bool.and_false,Bool.false_eq_true,if_false,Int.sub_zero,Int.natAbs_natCast]
  rfl
 refine⟨e,?_⟩
 rw [e]
 have h3:=Nat.div_add_mod a b
 have h4:(a:Int)=(b:Int)*((a / b:Nat):Int)+((a % b:Nat):Int):=by rw [←Int.natCast_mul,←Int.natCast_add,h3]
 rw [Int.mul_comm]
 omega

def sx (o:Bool)(fx:Nat):Int:=-(fsg o)*(fx:Int)

def sy (o:Bool)(fy:Nat):Int:=fsg o*(fy:Int)

theorem j8 (o:Bool)(fx fy q:Nat):sy o fy=sx (!o) fy∧sx o fx - (q:Int)*sy o fy=sy (!o) (fx+q*fy):=by
 unfold sx sy
 rw [fsg_not,Int.natCast_add,Int.natCast_mul]
 generalize fsg o=s
 constructor <;> grind

theorem kM {m a g x y:Nat}(hm:0<m)(hg:g=Nat.gcd m a)(hx:IsInv m a g x)(hy:IsInv m a g y):x=y:=by
 have hg0:0<g:=by rw [hg];exact Nat.gcd_pos_of_pos_left a hm
 obtain⟨m1,hm1⟩:g ∣ m:=by rw [hg];exact Nat.gcd_dvd_left m a
 obtain⟨a1,ha1⟩:g ∣ a:=by rw [hg];exact Nat.gcd_dvd_right m a
 have lt:∀z,IsInv m a g z→z<m1:=by
  intro z hz
  rcases hz.lt with h|⟨h,h2⟩
  ·rw [hm1,Nat.mul_comm] at h
   exact Nat.lt_of_mul_lt_mul_left h
  ·rw [h]
   refine Nat.pos_of_ne_zero fun e=>?_
   rw [e,Nat.mul_zero] at hm1
   omega
 have hcop:Nat.gcd m1 a1=1:=by
  have h:=hg
  rw [hm1,ha1,Nat.gcd_mul_left] at h
  have h2:g*1=g*Nat.gcd m1 a1:=by rw [Nat.mul_one];exact h
  exact (Nat.eq_of_mul_eq_mul_left hg0 h2).symm
 obtain⟨k,hk⟩:=hx.eq
 obtain⟨l,hl⟩:=hy.eq
 have hdv:(m1:Int) ∣ (a1:Int)*((x:Int) - (y:Int)):=by
  refine⟨k - l,?_⟩
  have h1:(a:Int)*((x:Int) - (y:Int))=(m:Int)*(k - l):=by grind
  rw [ha1,hm1,Int.natCast_mul,Int.natCast_mul,Int.mul_assoc,Int.mul_assoc] at h1
  exact Int.eq_of_mul_eq_mul_left (by omega) h1
 have hdv2:m1 ∣ ((x:Int) - (y:Int)).natAbs:=by
  have h1:m1 ∣ a1*((x:Int) - (y:Int)).natAbs:=by
   have h2:=Int.natAbs_dvd_natAbs.2 hdv
   rw [Int.natAbs_mul,Int.natAbs_natCast,Int.natAbs_natCast] at h2
   exact h2
  exact (Nat.Coprime.dvd_of_dvd_mul_left (show Nat.Coprime m1 a1 from hcop) h1)
 have h1:=lt x hx
 have h2:=lt y hy
 rcases Nat.eq_zero_or_pos ((x:Int) - (y:Int)).natAbs with h|h
 ·omega
 ·have:=Nat.le_of_dvd h hdv2
  omega

theorem jN (b:Bool)(x y:Nat)(hy:0<y):zz b x - euq (zz b x) (y:Int)*(y:Int)=((er b x y:Nat):Int):=by
 have h:=pS b false x y hy
 have e:zz false y=(y:Int):=rfl
 rw [e] at h
 have h2:=jt b false (b && decide (0<x % y)) x y hy
 rw [e] at h2
 rw [h,h2]
 unfold er
 cases b
 ·simp [zz]
 ·by_cases h3:0<x % y
  ·simp [h3,zz]
  ·have h4:x % y=0:=by omega
   simp [h4,zz]

theorem oj (o:Bool)(fx:Nat):sx o fx=zz (!o) fx:=by
 cases o <;> simp [sx,fsg,zz]

theorem pY {m a g fx fy:Nat}{o:Bool}(h:Fac m a g 0 fx fy o)(hm:0<m)(ham:a<m):0<m / g∧∃x:Nat,sx o fx - euq (sx o fx) ((m / g:Nat):Int)*((m / g:Nat):Int)=(x:Int)∧IsInv m a (Nat.gcd m a) x:=by
 obtain⟨h1,h2,h3⟩:=h.ended hm ham
 have hg:0<g:=by rw [h1];exact Nat.gcd_pos_of_pos_left a hm
 have e:m / g=fy:=by rw [←h2,Nat.mul_div_cancel _ hg]
 have hfy:0<fy:=Nat.pos_of_ne_zero fun e=>by rw [e,Nat.zero_mul] at h2;omega
 have hle:=h.le
 rw [e]
 refine⟨hfy,er (!o) fx fy,by rw [oj];exact jN _ _ _ hfy,?_⟩
 rw [←h1]
 by_cases ho:o=true∨fx=0
 ·rw [if_pos ho] at h3
  have hfx:fx<fy:=by
   rcases h3.lt with h4|⟨h4,_⟩
   ·rw [←h2] at h4
    exact Nat.lt_of_mul_lt_mul_right h4
   ·omega
  have e2:er (!o) fx fy=fx:=by
   unfold er
   rw [Nat.mod_eq_of_lt hfx]
   rcases ho with rfl|rfl
   ·simp
   ·simp
  rw [e2];exact h3
 ·rw [if_neg ho] at h3
  have h5:o=false:=by cases o;rfl;exact absurd (.inl rfl) ho
  have h6:0<fx:=Nat.pos_of_ne_zero fun e=>ho (.inr e)
  have e2:er (!o) fx fy=fy - fx:=by
   unfold er
   rw [Nat.mod_eq_of_lt h3.1,h5]
   simp [h6]
  rw [e2];exact h3.2


end Go.Proofs.YtdbjbbdhlpfhjaaGreatDoor
namespace Go.Proofs.YtdbjbbdhlpfhjaaGreatDoor
open Go.RowKit
open Lm
attribute [local go_sem ↓] Go.wp_at_zero Go.wp_at_succ

def rdD (w:World):Value→Nat
 | .slice (some a) n _=>vb 4294967296 ((List.range n).map fun k=>match w.cell? ⟨a.block,a.off+k,none⟩ with
  | some v=>(intOf v).toNat
  | none=>0)
 | _=>0

theorem iy {w:World}{v:Value}{x:Nat}(h:Num w v x):rdD w v=x:=by
 obtain⟨ds,hA,_,_,rfl,_⟩:=h
 obtain⟨ao,cap,rfl,_,_,hl⟩:=hA.form
 rcases hl with rfl|⟨b,off,rfl,hc⟩
 ·cases ao with
  | none=>rfl
  | some a=>rfl
 ·show vb 4294967296 _=vb 4294967296 ds
  congr 1
  apply List.ext_getElem
  ·simp
  ·intro i h1 h2
   simp only [List.getElem_map,List.getElem_range]
   rw [hc i h2]
   simp [intOf,List.getD,h2]

theorem lc {x y:Nat}(hy:y≠0):blen (x % y)≤blen y:=(blen_le_iff _ _).2 (Nat.lt_of_lt_of_le (Nat.mod_lt _ (Nat.pos_of_ne_zero hy)) (Nat.le_of_lt ((blen_le_iff y _).1 (Nat.le_refl _))))

theorem oJ (v1 v2:Value)(x y:Nat)(w:World)(h1:Num w v1 x)(h2:Num w v2 y)(f1:blen x≤1125899906809856)(f2:blen y≤1125899906809856) :
  Calls Tryz.prog 79 #[v1,v2] w fun e w'=>(∃v,e=.returned v∧Num w' v (Nat.gcd x y))∧Below w.heap.size w w':=by
 obtain⟨G,hG⟩:∃G,Nat.gcd x y=G:=⟨_,rfl⟩
 rw [hG]
 have ST:=ac (And.intro h1 (And.intro h2 (And.intro f1 (And.intro f2 hG))))
 clear h1 h2 f1 f2 hG
 go_enter Tryz.func79,Tryz.ntmps79
 go_wp2
 go_loopw [0,1] (fun va vb wr=>∃a b,Num wr va a∧Num wr vb b∧blen a≤1125899906809856∧blen b≤1125899906809856∧Nat.gcd a b=G∧Below w.heap.size w wr) (fun _ vb wr=>rdD wr vb)
 case atStart=>exact⟨x,y,ST.out.1,ST.out.2.1,ST.out.2.2.1,ST.out.2.2.2.1,ST.out.2.2.2.2,Below.refl _ _⟩
 case round=>
  obtain⟨a,b,n1,n2,b1,b2,hg,hb⟩:=hrel
  have HN1:=ac n1
  have HN2:=ac n2
  have HG:=ac hg
  have HB:=ac hb
  have HZ:=gz _ b wr n2
  clear n1 n2 hg hb ST
  by_cases h0:b=0
  ·rw [show (b == 0)=true by rw [h0];rfl] at HZ
   go_wp2_with fail
   refine HZ.mono ?_
   rintro e wn ⟨rfl,hw⟩;rw [hw];clear hw wn HZ
   have HE:Hid (a=G):=by
    have:=HG.out
    rw [h0,Nat.gcd_zero_right] at this
    exact ac this
   clear h0
   go_wp2
   go_ret
   exact⟨⟨_,rfl,by rw [←HE.out];exact HN1.out⟩,HB.out⟩
  ·rw [show (b == 0)=false by rw [beq_eq_false_iff_ne];exact h0] at HZ
   have HD:=jg _ _ a b wr HN1.out HN2.out h0 (by omega) (by omega)
   have HH0:=ac h0
   clear h0
   go_wp2_with fail
   refine HZ.mono ?_
   rintro e wn ⟨rfl,hw⟩;rw [hw];clear hw wn HZ
   go_wp2_with fail
   refine HD.mono ?_
   rintro e w2 ⟨⟨vq,vr,rfl,_,Nr⟩,hb2⟩
   have HNEW:=ac (And.intro (HN2.out.below hb2) (And.intro Nr (HB.out.trans (hb2.mono HB.out.size))))
   clear HD Nr hb2
   go_wp2
   go_roundw
   case rel=>
    refine⟨b,a % b,HNEW.out.1,HNEW.out.2.1,b2,Nat.le_trans (lc HH0.out) b2,?_,HNEW.out.2.2⟩
    rw [←HG.out,Nat.gcd_comm a b,Nat.gcd_rec b a,Nat.gcd_comm]
   case measure=>
    rw [iy HNEW.out.2.1,iy HN2.out]
    exact Nat.mod_lt _ (Nat.pos_of_ne_zero HH0.out)

theorem pG {w:World}{u:Value}{n:Nat}(h:Num w u n):Zn w (.agg #[.bool false,u]) (n:Int):=by
 refine⟨u,?_,by rw [Int.natAbs_natCast];exact h⟩
 rw [decide_eq_false (by omega)]

theorem kH {w:World}{b:Bool}{u:Value}{n:Nat}(h:Zn w (.agg #[.bool b,u]) (n:Int)):b=false∧Num w u n:=by
 obtain⟨u',h1,h2⟩:=h
 simp only [Value.agg.injEq,Array.mk.injEq,List.cons.injEq,Value.bool.injEq,and_true] at h1
 obtain⟨rfl,rfl⟩:=h1
 rw [Int.natAbs_natCast] at h2
 exact⟨decide_eq_false (by omega),h2⟩

def ZB (w:World)(g:Nat)(z:Int):Prop:=∃(b:Bool) (a:Option Addr) (n k:Nat),w.heap[g]?=some (.cells #[.bool b,.slice a n k] 32)∧Zn w (.agg #[.bool b,.slice a n k]) z

theorem ZB.below {w w':World}{g:Nat}{z:Int}(h:ZB w g z)(hb:Below w.heap.size w w'):ZB w' g z:=by
 obtain⟨b,a,n,k,h1,h2⟩:=h
 exact⟨b,a,n,k,ae hb h1,h2.below hb⟩

theorem ZB.set {w:World}{g:Nat}{z z':Int}{b':Bool}{a':Option Addr}{n' k':Nat}(h:ZB w g z)(hz:Zn w (.agg #[.bool b',.slice a' n' k']) z'):ZB ((w.setCell ⟨g,0,none⟩ (.bool b')).setCell ⟨g,1,none⟩ (.slice a' n' k')) g z':=by
 obtain⟨b,a,n,k,h1,h2⟩:=h
 exact⟨b',a',n',k',aH h1,hz.duo h1⟩

theorem ZB.other {w:World}{g g2:Nat}{z z2:Int}{b':Bool}{r':Value}(h:ZB w g z)(h2:ZB w g2 z2)(hne:g≠g2):ZB ((w.setCell ⟨g2,0,none⟩ (.bool b')).setCell ⟨g2,1,none⟩ r') g z:=by
 obtain⟨b,a,n,k,h1,h3⟩:=h
 obtain⟨b2,a2,n2,k2,h4,_⟩:=h2
 exact⟨b,a,n,k,bJ h1 hne,h3.duo h4⟩

theorem ZB.zn {w:World}{g2:Nat}{z2:Int}{b':Bool}{r':Value}{v:Value}{z:Int}(h:Zn w v z)(h2:ZB w g2 z2):Zn ((w.setCell ⟨g2,0,none⟩ (.bool b')).setCell ⟨g2,1,none⟩ r') v z:=by
 obtain⟨b2,a2,n2,k2,h4,_⟩:=h2
 exact h.duo h4

def zof (w:World)(g:Nat):Nat:=rdD w ((w.cell? ⟨g,1,none⟩).getD (.slice none 0 0))

theorem ZB.zof {w:World}{g:Nat}{z:Int}(h:ZB w g z):zof w g=z.natAbs:=by
 obtain⟨b,a,n,k,h1,u,h3,h4⟩:=h
 simp only [Value.agg.injEq,Array.mk.injEq,List.cons.injEq,Value.bool.injEq,and_true] at h3
 obtain⟨_,rfl⟩:=h3
 unfold Go.Proofs.YtdbjbbdhlpfhjaaGreatDoor.zof
 rw [(duo h1).2]
 exact iy h4

theorem rK (v1 v2:Value)(y z:Int)(w:World)(h1:Zn w v1 y)(h2:Zn w v2 z)(f1:blen y.natAbs≤1125899906800000)(f2:blen z.natAbs≤1125899906800000) :
  Calls Tryz.prog 38 #[v1,v2] w (bE w ((Nat.gcd y.natAbs z.natAbs:Nat):Int)):=by
 obtain⟨b,a,n,k,rfl,e1,hn,e2⟩:=h1.parts
 obtain⟨b2,a2,n2,k2,rfl,e3,hn2,e4⟩:=h2.parts
 obtain⟨w0,hw0,hb0,hx0,hx1,hx2⟩:=cO w (.cells #[.bool b,.slice a n k] 32) (.cells #[.bool b2,.slice a2 n2 k2] 32) (.cells #[.bool false,.slice none 0 0] 32)
 have C:=oJ _ _ _ _ w0 (hn.below hb0) (hn2.below hb0) (by omega) (by omega)
 obtain⟨k0,k1⟩:=duo hx0
 obtain⟨k2',k3⟩:=duo hx1
 have HX2:=ac hx2
 have HB0:=ac hb0
 obtain⟨G,hG⟩:∃G,Nat.gcd y.natAbs z.natAbs=G:=⟨_,rfl⟩
 rw [hG] at C ⊢
 clear hG h1 h2 e1 e2 e3 e4 hn hn2 hb0 hx0 hx1 hx2
 go_enter Tryz.func38,Tryz.ntmps38
 go_wp2_with fail
 refine C.mono ?_
 rintro e t1 ⟨⟨v,rfl,hv⟩,hb⟩
 obtain⟨a3,n3,c3,rfl⟩:=hv.sl
 have hbx:=ae hb HX2.out
 have hf:=av hbx
 obtain⟨l0,l1⟩:=duo hbx
 have HBX:=ac hbx
 have HBE:=ac (HB0.out.trans (hb.mono HB0.out.size))
 have HV:=ac (pG hv)
 clear hbx hb hv C k0 k1 k2' k3 hw0
 go_wp2
 have R5:=aH HBX.out (a':=.bool false) (b':=.slice a3 n3 c3)
 have HD:=ac (And.intro (HV.out.duo (p1:=false) (r1:=.slice a3 n3 c3) HBX.out) (aC HBE.out (g:=w.heap.size+2) (u0:=.bool false) (u1:=.slice a3 n3 c3) (by omega)))
 generalize (t1.setCell ⟨w.heap.size+2,0,none⟩ (.bool false)).setCell ⟨w.heap.size+2,1,none⟩ (.slice a3 n3 c3)=w5 at *
 obtain⟨q0,q1⟩:=duo R5
 refine bodyPost_ret (v:=.agg #[.bool false,.slice a3 n3 c3]) (by simp [results,Tryz.results38,go_sem,q0,q1]) rfl ?_
 exact⟨⟨_,_,_,_,rfl,HD.out.1⟩,HD.out.2⟩
end Go.Proofs.YtdbjbbdhlpfhjaaGreatDoor
namespace Go.Proofs.YtdbjbbdhlpfhjaaGreatDoor
open Go.RowKit
open Lm

def di (wx:World)(s:Value)(z:Int)(B:Nat):Prop:=∃(g:Nat) (b:Bool) (a:Option Addr) (n k:Nat),s=.pointer (some ⟨g,0,none⟩)∧B≤g∧wx.heap[g]?=some (.cells #[.bool b,.slice a n k] 32)∧Zn wx (.agg #[.bool b,.slice a n k]) z

theorem eT {W:World}{B g:Nat}{p:Bool}{a:Option Addr}{n k:Nat}{b':Bool}{a':Option Addr}{n' k':Nat}{z:Int}(e:W.heap[g]?=some (.cells #[.bool p,.slice a n k] 32))(hz:Zn W (.agg #[.bool b',.slice a' n' k']) z)(hB:B≤g) :
  di ((W.setCell ⟨g,0,none⟩ (.bool b')).setCell ⟨g,1,none⟩ (.slice a' n' k')) (.pointer (some ⟨g,0,none⟩)) z B:=
 ⟨g,b',a',n',k',rfl,hB,aH e,hz.duo e⟩

theorem di.other {W:World}{s:Value}{z:Int}{B g:Nat}{p:Bool}{a:Option Addr}{n k:Nat}{b':Bool}{r':Value}(h:di W s z B)(e:W.heap[g]?=some (.cells #[.bool p,.slice a n k] 32))(hne:s≠.pointer (some ⟨g,0,none⟩)) :
  di ((W.setCell ⟨g,0,none⟩ (.bool b')).setCell ⟨g,1,none⟩ r') s z B:=by
 obtain⟨g',b,a9,n9,k9,rfl,h2,h3,h4⟩:=h
 exact⟨g',b,a9,n9,k9,rfl,h2,bJ h3 (fun e9=>hne (by rw [e9])),h4.duo e⟩

def aV (z:Int)(W:World)(x:Value):Prop:=∃(b:Bool) (a:Option Addr) (n k:Nat),x=.agg #[.bool b,.slice a n k]∧Zn W (.agg #[.bool b,.slice a n k]) z

theorem aV.up (z:Int):∀(W W':World) (x:Value),Below W.heap.size W W'→aV z W x→aV z W' x:=by
 rintro W W' x hb ⟨b,a,n,k,h1,h2⟩
 exact⟨b,a,n,k,h1,h2.below hb⟩

theorem aV.zn {z:Int}{W:World}{x:Value}(h:aV z W x):Zn W x z:=by
 obtain⟨b,a,n,k,rfl,h2⟩:=h
 exact h2

def fb (y z:Int)(W:World)(x e1 e2 e3:Value):Prop:=e1=x∧x=.tuple #[e2,e3]∧aV y W e2∧aV z W e3

theorem fb.up (y z:Int):∀(W W':World) (x z1 z2 z3:Value),Below W.heap.size W W'→fb y z W x z1 z2 z3→fb y z W' x z1 z2 z3:=by
 rintro W W' x z1 z2 z3 hb ⟨h1,h2,h3,h4⟩
 exact⟨h1,h2,aV.up _ _ _ _ hb h3,aV.up _ _ _ _ hb h4⟩

theorem fg {W W':World}{u:Nat}{y:Value}{x:Obj}(hb:Below W.heap.size W W')(h:∃g,y=.pointer (some ⟨g,0,none⟩)∧u≤g∧W.heap[g]?=some x):∃g,y=.pointer (some ⟨g,0,none⟩)∧u≤g∧W'.heap[g]?=some x:=by
 obtain⟨g,h1,h2,h3⟩:=h
 exact⟨g,h1,h2,ae hb h3⟩

theorem fv {W:World}{u:Nat}{y:Value}{x:Obj}(h:∃g,y=.pointer (some ⟨g,0,none⟩)∧u≤g∧W.heap[g]?=some x):y≠.pointer (some ⟨W.heap.size,0,none⟩):=by
 obtain⟨g,rfl,_,h3⟩:=h
 intro e
 simp only [Value.pointer.injEq,Option.some.injEq,Addr.mk.injEq,and_true] at e
 have:=lt_of_block h3
 omega

theorem dQ (a:Act)(s:Nat):a.put (some s) (a.tmps.getD s undef)=a:=by
 cases a with
 | mk tmps defers=>
  simp only [Act.put]
  congr 1
  apply Array.ext
  ·simp
  ·intro i h1 h2
   by_cases h:s=i
   ·subst h
    simp [Array.getD,h2]
   ·rw [Array.getElem_setIfInBounds_ne _ h]

structure K42 (u0:World)(V1 V2 V3 V4:Value)(Q1:World→Value→Prop)(Q2:World→Value→Prop)(l1 l2 l3 l4 c1 c2:Bool)(u1 u2 u3 u4 x1 x2:Value)(W:World):Prop where
 up:Below u0.heap.size u0 W
 m1:∀(W W':World) (x:Value),Below W.heap.size W W'→Q1 W x→Q1 W' x
 m2:∀(W W':World) (x:Value),Below W.heap.size W W'→Q2 W x→Q2 W' x
 p1:l1=true→u1=V1
 p2:l2=true→u2=V2
 p3:l3=true→u3=V3
 p4:l4=true→u4=V4
 h2:c2=true→c1=true
 e1_3:c1=true→l3=true
 e1_4:c1=true→l4=true
 e2_2:c2=true→l2=true
 q1:c1=true→Q1 W x1
 q2:c2=true→Q2 W x2

theorem K42.below {u0:World}{V1 V2 V3 V4:Value}{Q1:World→Value→Prop}{Q2:World→Value→Prop}{l1 l2 l3 l4 c1 c2:Bool}{u1 u2 u3 u4 x1 x2:Value}{W W':World}(h:K42 u0 V1 V2 V3 V4 Q1 Q2 l1 l2 l3 l4 c1 c2 u1 u2 u3 u4 x1 x2 W)(hb:Below W.heap.size W W'):K42 u0 V1 V2 V3 V4 Q1 Q2 l1 l2 l3 l4 c1 c2 u1 u2 u3 u4 x1 x2 W':=
 ⟨h.up.trans (hb.mono h.up.size),h.m1,h.m2,h.p1,h.p2,h.p3,h.p4,h.h2,h.e1_3,h.e1_4,h.e2_2,fun e=>h.m1 _ _ _ hb (h.q1 e),fun e=>h.m2 _ _ _ hb (h.q2 e)⟩

theorem K42.load1 {u0:World}{V1 V2 V3 V4:Value}{Q1:World→Value→Prop}{Q2:World→Value→Prop}{l1 l2 l3 l4 c1 c2:Bool}{u1 u2 u3 u4 x1 x2:Value}{W:World}(h:K42 u0 V1 V2 V3 V4 Q1 Q2 l1 l2 l3 l4 c1 c2 u1 u2 u3 u4 x1 x2 W):K42 u0 V1 V2 V3 V4 Q1 Q2 true l2 l3 l4 c1 c2 V1 u2 u3 u4 x1 x2 W:=
 ⟨h.up,h.m1,h.m2,fun _=>rfl,h.p2,h.p3,h.p4,h.h2,h.e1_3,h.e1_4,h.e2_2,h.q1,h.q2⟩

theorem K42.load2 {u0:World}{V1 V2 V3 V4:Value}{Q1:World→Value→Prop}{Q2:World→Value→Prop}{l1 l2 l3 l4 c1 c2:Bool}{u1 u2 u3 u4 x1 x2:Value}{W:World}(h:K42 u0 V1 V2 V3 V4 Q1 Q2 l1 l2 l3 l4 c1 c2 u1 u2 u3 u4 x1 x2 W):K42 u0 V1 V2 V3 V4 Q1 Q2 l1 true l3 l4 c1 c2 u1 V2 u3 u4 x1 x2 W:=
 ⟨h.up,h.m1,h.m2,h.p1,fun _=>rfl,h.p3,h.p4,h.h2,h.e1_3,h.e1_4,fun _=>rfl,h.q1,h.q2⟩

theorem K42.load3 {u0:World}{V1 V2 V3 V4:Value}{Q1:World→Value→Prop}{Q2:World→Value→Prop}{l1 l2 l3 l4 c1 c2:Bool}{u1 u2 u3 u4 x1 x2:Value}{W:World}(h:K42 u0 V1 V2 V3 V4 Q1 Q2 l1 l2 l3 l4 c1 c2 u1 u2 u3 u4 x1 x2 W):K42 u0 V1 V2 V3 V4 Q1 Q2 l1 l2 true l4 c1 c2 u1 u2 V3 u4 x1 x2 W:=
 ⟨h.up,h.m1,h.m2,h.p1,h.p2,fun _=>rfl,h.p4,h.h2,fun _=>rfl,h.e1_4,h.e2_2,h.q1,h.q2⟩

theorem K42.load4 {u0:World}{V1 V2 V3 V4:Value}{Q1:World→Value→Prop}{Q2:World→Value→Prop}{l1 l2 l3 l4 c1 c2:Bool}{u1 u2 u3 u4 x1 x2:Value}{W:World}(h:K42 u0 V1 V2 V3 V4 Q1 Q2 l1 l2 l3 l4 c1 c2 u1 u2 u3 u4 x1 x2 W):K42 u0 V1 V2 V3 V4 Q1 Q2 l1 l2 l3 true c1 c2 u1 u2 u3 V4 x1 x2 W:=
 ⟨h.up,h.m1,h.m2,h.p1,h.p2,h.p3,fun _=>rfl,h.h2,h.e1_3,fun _=>rfl,h.e2_2,h.q1,h.q2⟩

theorem K42.call1 {u0:World}{V1 V2 V3 V4:Value}{Q1:World→Value→Prop}{Q2:World→Value→Prop}{l1 l2 c1 c2:Bool}{u1 u2 u3 u4 x1 x2 v:Value}{W W':World}(h:K42 u0 V1 V2 V3 V4 Q1 Q2 l1 l2 true true c1 c2 u1 u2 u3 u4 x1 x2 W)(hb:Below W.heap.size W W')(hv:Q1 W' v):K42 u0 V1 V2 V3 V4 Q1 Q2 l1 l2 true true true c2 u1 u2 u3 u4 v x2 W':=
 have j:=h.below hb
 ⟨j.up,j.m1,j.m2,j.p1,j.p2,j.p3,j.p4,fun _=>rfl,fun _=>rfl,fun _=>rfl,j.e2_2,fun _=>hv,j.q2⟩

theorem K42.call2 {u0:World}{V1 V2 V3 V4:Value}{Q1:World→Value→Prop}{Q2:World→Value→Prop}{l1 c2:Bool}{u1 u2 u3 u4 x1 x2 v:Value}{W W':World}(h:K42 u0 V1 V2 V3 V4 Q1 Q2 l1 true true true true c2 u1 u2 u3 u4 x1 x2 W)(hb:Below W.heap.size W W')(hv:Q2 W' v):K42 u0 V1 V2 V3 V4 Q1 Q2 l1 true true true true true u1 u2 u3 u4 x1 v W':=
 have j:=h.below hb
 ⟨j.up,j.m1,j.m2,j.p1,j.p2,j.p3,j.p4,fun _=>rfl,j.e1_3,j.e1_4,fun _=>rfl,j.q1,fun _=>hv⟩

theorem K42.start {u0:World}{V1 V2 V3 V4:Value}{Q1:World→Value→Prop}{Q2:World→Value→Prop}(m1:∀(W W':World) (x:Value),Below W.heap.size W W'→Q1 W x→Q1 W' x)(m2:∀(W W':World) (x:Value),Below W.heap.size W W'→Q2 W x→Q2 W' x)(u1 u2 u3 u4 x1 x2:Value){W:World}(h:Below u0.heap.size u0 W):K42 u0 V1 V2 V3 V4 Q1 Q2 false false false false false false u1 u2 u3 u4 x1 x2 W:=
 ⟨h,m1,m2,nofun,nofun,nofun,nofun,nofun,nofun,nofun,nofun,nofun,nofun⟩

def aJ (l1 l2 l3 l4 c1 c2:Bool):Nat:=(!l1).toNat+(!l2).toNat+(!l3).toNat+(!l4).toNat+(!c1).toNat+(!c2).toNat

theorem oN (l1 l2 l3 l4 c1 c2:Bool)(h:0=aJ l1 l2 l3 l4 c1 c2):l1=true∧l2=true∧l3=true∧l4=true∧c1=true∧c2=true:=by
 unfold aJ at h
 cases l1 <;> cases l2 <;> cases l3 <;> cases l4 <;> cases c1 <;> cases c2 <;> simp at h ⊢

theorem mN {P:Program}{md:Region.Mode}{ops:Array Oper}{Q:Exit→Act→World→Prop}{S:World→Prop}(u0:World)(V1 V2 V3 V4:Value)(Q1:World→Value→Prop)(Q2:World→Value→Prop)(m1:∀(W W':World) (x:Value),Below W.heap.size W W'→Q1 W x→Q1 W' x)(m2:∀(W W':World) (x:Value),Below W.heap.size W W'→Q2 W x→Q2 W' x)(s1 s2 s3 s4 t1 t2 base:Nat)(LST:Bool→Bool→Bool→Bool→Bool→Bool→Array Bool){W:World}{n:Nat}{listed:Array Bool}{a:Act}(hn:n=6+base)(hl:listed=LST false false false false false false)(hu:Below u0.heap.size u0 W)
  (h:∀(n:Nat) (l1 l2 l3 l4 c1 c2:Bool) (u1 u2 u3 u4 x1 x2:Value) (W:World),n=aJ l1 l2 l3 l4 c1 c2→K42 u0 V1 V2 V3 V4 Q1 Q2 l1 l2 l3 l4 c1 c2 u1 u2 u3 u4 x1 x2 W→wpAnyH P md ops Q S (n+base) (LST l1 l2 l3 l4 c1 c2) ((((((a.put (some s1) u1).put (some s2) u2).put (some s3) u3).put (some s4) u4).put (some t1) x1).put (some t2) x2) W) :
  wpAnyH P md ops Q S n listed a W:=by
 subst hn hl
 have h9:=h 6 _ _ _ _ _ _ (a.tmps.getD s1 undef) (a.tmps.getD s2 undef) (a.tmps.getD s3 undef) (a.tmps.getD s4 undef) (a.tmps.getD t1 undef) (a.tmps.getD t2 undef) W rfl (K42.start m1 m2 _ _ _ _ _ _ hu)
 rw [dQ,dQ,dQ,dQ,dQ,dQ] at h9
 exact h9
end Go.Proofs.YtdbjbbdhlpfhjaaGreatDoor

