/- Package whole: commonDivisor, with the factors as its witness. -/
import Derived.Test.YtdbjbbdhlpfhjaaGreatDoorB11
import Derived.Test.YtdbjbbdhlpfhjaaGreatDoorB10
import Derived.Test.YtdbjbbdhlpfhjaaGreatDoorB02
import Derived.Test.YtdbjbbdhlpfhjaaGreatDoorB01
import Derived.Test.YtdbjbbdhlpfhjaaGreatDoorB09
import Derived.Deep.RegionHeld3
import Derived.Test.YtdbjbbdhlpfhjaaGreatDoorB04
import Derived.Test.YtdbjbbdhlpfhjaaGreatDoorB03
set_option maxRecDepth 20000
set_option maxHeartbeats 4000000
namespace Go.Proofs.YtdbjbbdhlpfhjaaGreatDoor
open Go.RowKit
open Lm
attribute [local go_sem ↓] Go.wp_at_zero Go.wp_at_succ

theorem kj (w:World):(Instr.makeSlice 22 (.int .i64 0) (.int .i64 128)).run Tryz.prog w=.ok (.slice (some ⟨w.heap.size,0,none⟩) 0 128) (w.alloc (.cells (Array.replicate 128 (lv 0)) 61)):=by
 obtain⟨i0,hi,hz0,hz1,hz2⟩:=info_parts Tryz.infoU
 rw [run_make w 22 61 i0 (.int .u64 0) Tryz.underlying22 hi hz0 .i64 .i64 0 128 (by omega) (by omega) (by rw [hz2];omega) (by omega)]
 have e:(madeCells (Value.int .u64 0).cells ((128:Int).toNat*i0.size))=Array.replicate 128 (lv 0):=by
  apply Array.toList_inj.1
  rw [hz1,Nat.mul_one]
  show (madeCells #[Value.int .u64 0] _).toList=_
  rw [toList_madeCells_one,Array.toList_replicate];rfl
 rw [e];rfl

theorem mo (w:World):aJ (w.alloc (.cells (Array.replicate 128 (lv 0)) 61)) w.heap.size:=by
 refine⟨List.replicate 128 0,?_,by simp⟩
 unfold Blk
 rw [heap_alloc_new,List.map_replicate,List.toArray_replicate]

def fK (m a g bF:Nat)(f0x f0y:Value)(w:World)(e:Ending)(w':World):Prop:=
 ∃(v:Value) (rs:List Nat) (vfx vfy:Value) (fx fy:Nat) (o:Bool),e=.returned v∧Ans w' w.heap.size v rs∧tr rs=rs∧Fac m a (val rs) 0 fx fy o∧aL w' g bF vfx vfy fx fy o∧Nx w.heap.size f0x f0y vfx∧Nx w.heap.size f0x f0y vfy∧FrP (Pk g f0x f0y) w w'∧(∀k,v.ownBlock=some k→Pk g vfx vfy k)∧Tab w'

theorem aV.start {w w1 w2:World}{g bF:Nat}{f0x f0y:Value}{fx fy:Nat}{o:Bool}{v1 v2:Value}{X Y:List Nat}(hF:aL w g bF f0x f0y fx fy o)(hbF:bF≤w.heap.size)(hT:Tab w)(tg:0<bF∧0≠g)(h1:Below w.heap.size w w1)(h2:Below w1.heap.size w1 w2)(hX:Ans w1 w.heap.size v1 X)(hY:Ans w2 w1.heap.size v2 Y)(tx:tr X=X)(ty:tr Y=Y) :
  aV w (w2.alloc (.cells (Array.replicate 128 (lv 0)) 61)) g bF w2.heap.size v1 v2 X Y f0x f0y f0x f0y fx fy o:=by
 have b3:Below w2.heap.size w2 (w2.alloc (.cells (Array.replicate 128 (lv 0)) 61)):=(Below.refl _ _).alloc (Nat.le_refl _) _
 have b2:Below w.heap.size w w2:=h1.trans (h2.mono h1.size)
 have bb:Below w.heap.size w (w2.alloc (.cells (Array.replicate 128 (lv 0)) 61)):=b2.trans (b3.mono b2.size)
 have s1:=h1.size
 have s2:=h2.size
 refine⟨(hX.below h2).below b3,(hY.below b3).base s1,tx,ty,fun k e e2=>?_,hF.below bb,mo w2,fun k e=>⟨hF.high (hX.own.lt k e).1,fun e2=>?_⟩,fun k e=>⟨hF.high (by have:=(hY.own.lt k e).1;omega),fun e2=>?_⟩,hF.high (by omega),by omega,fun k e=>.inl e,fun k e=>.inr (.inl e),FrP.of_below bb,hT.below bb,tg,hbF,bC hF.box⟩
 ·have:=(hX.own.lt k e).2
  have:=(hY.own.lt k e2).1
  omega
 ·have:=(hX.own.lt k e).2
  omega
 ·have:=(hY.own.lt k e).2
  omega

structure fv (m a K:Nat)(X Y:List Nat)(fx fy:Nat)(o:Bool):Prop where
 fac:Fac m a (val X) (val Y) fx fy o
 le:val Y≤val X
 pos:0<val X
 lx:X.length≤K

theorem mJ (g bF K:Nat)(va vb f0x f0y:Value)(M B:List Nat)(w:World)(hA:Arg w va M)(hB:Arg w vb B)(hT:Tab w)(hF:aL w g bF f0x f0y 0 1 false)(hbF:bF≤w.heap.size)(tg:0<bF∧0≠g)(hlt:val B<val M)(hK:K≤17592186043904)(lM:M.length≤K)(lB:B.length≤K) :
  Calls Tryz.prog 83 #[va,vb,.iface 109 (.pointer (some ⟨g,0,none⟩))] w (fK (val M) (val B) g bF f0x f0y w):=by
 have MO:=mH g
 have MM:=pp g
 have MK:=kj
 have N1:=ff va M w hA (by omega)
 have N2:=aa (fun (w1:World) (hb:Below w.heap.size w w1)=>ff vb B w1 (hB.below hb) (by omega))
 have HS:=aa (fun (w1 w2:World) (v1 v2:Value) (h1:Below w.heap.size w w1) (h2:Below w1.heap.size w1 w2) (hX:Ans w1 w.heap.size v1 (tr M)) (hY:Ans w2 w1.heap.size v2 (tr B))=>aV.start hF hbF hT tg h1 h2 hX hY (tr_tr M) (tr_tr B))
 obtain⟨m,hm⟩:∃m,val M=m:=⟨_,rfl⟩
 obtain⟨a,ha⟩:∃a,val B=a:=⟨_,rfl⟩
 have lX:=tr_length_le M
 have HP0:Hid (fv m a K (tr M) (tr B) 0 1 false):=aa ⟨by rw [val_tr,val_tr,hm,ha];exact Fac.start m a,by rw [val_tr,val_tr];omega,by rw [val_tr];omega,by omega⟩
 rw [hm,ha]
 have hm0:0<m:=by omega
 have HMK:Hid (m<18446744073709551616 ^ K):=aa (by rw [←hm];exact Nat.lt_of_lt_of_le (val_lt hA.limbs) (Nat.pow_le_pow_right (by omega) lM))
 clear hm ha hA hB hF hT hbF hlt lX lM lB
 go_enter Tryz.func83,Tryz.ntmps83
 go_wp2_with fail
 refine N1.mono ?_
 rintro e w1 ⟨⟨v1,rfl,hX⟩,h1⟩
 have C2:=N2.out w1 h1
 clear N1
 go_wp2_with fail
 refine C2.mono ?_
 rintro e w2 ⟨⟨v2,rfl,hY⟩,h2⟩
 have HM0:=aa (HS.out w1 w2 v1 v2 h1 h2 hX hY)
 have hRw:w.heap.size≤w2.heap.size:=by have:=h1.size;have:=h2.size;omega
 clear C2 N2 HS h1 h2 hX hY
 obtain⟨R,hR⟩:∃R,w2.heap.size=R:=⟨_,rfl⟩
 obtain⟨w3,hw3⟩:∃w3,w2.alloc (.cells (Array.replicate 128 (lv 0)) 61)=w3:=⟨_,rfl⟩
 rw [hR,hw3] at HM0
 go_wp2
 clear hw3 hR hRw MK
 go_loopw [0,1] (fun vx vy wr=>∃(X Y:List Nat) (vfx vfy:Value) (fx fy:Nat) (o:Bool),aV w wr g bF R vx vy X Y f0x f0y vfx vfy fx fy o∧fv m a K X Y fx fy o) (fun _ vy wr=>rdN wr vy)
 case atStart=>exact⟨_,_,_,_,_,_,_,HM0.out,HP0.out⟩
 case round=>
  obtain⟨X,Y,vfx,vfy,fx,fy,o,hmem,hpure⟩:=hrel
  have HM:=aa hmem
  have HP:=aa hpure
  have hxl:=hpure.lx
  have hyl:Y.length≤X.length:=bO hmem.ty (Nat.lt_of_le_of_lt hpure.le (val_lt hmem.ax.limbs))
  have hx1:=fl hpure.pos
  clear HM0 HP0
  rcases hmem.ax.form with ⟨_,h0⟩|⟨gx,cx,rfl,hgx,_,hcx,hcx2,fx',cellx⟩
  ·rw [h0] at hx1;simp at hx1
  ·by_cases hy0:Y.length=0
   ·have hY:Y=[]:=List.length_eq_zero_iff.1 hy0
    subst hY
    obtain⟨ay,cy,rfl,_,_,_⟩:=(hmem.ay.arg (by simp)).form
    have HE:Hid (fK m a g bF f0x f0y w (.returned (.slice (some ⟨gx,0,none⟩) X.length cx)) wr):=by
     have hfac:=hpure.fac
     exact aa ⟨_,X,vfx,vfy,fx,fy,o,rfl,hmem.ax,hmem.tx,hfac,hmem.fa,hmem.nx,hmem.ny,hmem.fr,fun k e=>(hmem.px k e).1,hmem.tab⟩
    clear hmem hpure fx' cellx hy0 hyl HM HP
    by_cases hx2:2≤X.length
    ·have i1:(1:Int)<(X.length:Int):=by omega
     go_wp2
     go_ret
     exact HE.out
    ·have i1:¬(1:Int)<(X.length:Int):=by omega
     go_wp2
     go_ret
     exact HE.out
   ·rcases hmem.ay.form with ⟨_,h0⟩|⟨gy,cy,rfl,hgy,_,hcy,hcy2,fy',celly⟩
    ·rw [h0] at hy0;simp at hy0
    ·have hy1:1≤Y.length:=by omega
     have i0:(0:Int)<(Y.length:Int):=by omega
     have hvy:0<val Y:=by
      refine Nat.pos_of_ne_zero fun e=>?_
      have:=bO hmem.ty (n:=0) (by rw [e];simp)
      omega
     by_cases hx2:2≤X.length
     ·have i1:(1:Int)<(X.length:Int):=by omega
      have hne:gx≠gy:=fun e=>hmem.apart gx rfl (by rw [e];rfl)
      have HHB:=mB gx 0 cx (some ⟨gy,0,none⟩) cy X Y wr (.inr ⟨gx,0,rfl,fun k hk=>by rw [Nat.zero_add];exact cellx k hk⟩) (.inr ⟨gy,0,rfl,fun k hk=>by rw [Nat.zero_add];exact celly k hk⟩) hmem.ax.limbs hmem.ay.limbs (by omega) hmem.tx hx2 hpure.le hyl
      clear hmem hpure fx' fy' cellx celly
      go_wp2_with fail
      refine HHB.mono ?_
      rintro e u2 ⟨⟨xh,yh,xl,yl,Pw,rfl,f1,f2,f3,f4,f5,f6,f7⟩,hb2⟩
      have HM2:=aa (HM.out.below hb2)
      have HSO:=lW xh yh R u2 f5 f6 f7 HM2.out.room
      have HF:=aa (And.intro f1 (And.intro f2 (And.intro f3 f4)))
      clear HHB f1 f2 f3 f4 f5 f6 f7 hb2
      go_wp2_with fail
      refine HSO.mono ?_
      rintro e u3 ⟨⟨sa,sb,sc,sd,sn,sx,sy,rfl,hst,hn128,hd32⟩,hR3,hF3⟩
      have HM3:=aa (HM2.out.keep hF3 hR3)
      have HST:=aa hst
      have HD:=aa hd32
      obtain⟨u4,hu4,hb4,h4⟩:=aO u3 (.cells #[.int .u64 sa,.int .u64 sb,.int .u64 sc,.int .u64 sd,.slice (some ⟨R,0,none⟩) sn 128] 139)
      have HM4:=aa (HM3.out.below hb4)
      have hU:=HM3.out.fa.high (Nat.le_refl _)
      obtain⟨G,hG⟩:∃G,u3.heap.size=G:=⟨_,rfl⟩
      rw [hG] at h4 hU
      have HU:=aa hU
      clear hU
      have NO:=pP sa sb sc sd (some ⟨R,0,none⟩) sn 128 u4
      obtain⟨s0,s1,s2,s3,s4⟩:=aH h4
      have H4:=aa h4
      unfold stw at NO ⊢
      clear HSO hst hd32 hR3 hF3 hb4 h4
      go_wp2_with fail
      clear hu4 hG
      by_cases hn0:sn=0
      ·rw [decide_eq_true hn0] at NO
       clear hn0
       refine NO.mono ?_
       rintro e u5 ⟨rfl,hb5⟩
       have HM5:=aa (HM4.out.below hb5)
       have BO:=wboth_any (blen (val X)) X Y _ _ u5 (by omega) (HM5.out.ax.arg (by omega)) (HM5.out.ay.arg (by omega)) HM5.out.tab (by omega) (by omega) hvy
       clear NO hb5 s0 s1 s2 s3 s4 H4
       go_wp2_with fail
       refine BO.mono ?_
       rintro e u6 ⟨⟨q1,q2,r1,r2,rfl,hA1,hA2,e1,t1,e2,t2,_⟩,hb6⟩
       have HM6:=aa (HM5.out.shift hb6 hA2 t2)
       have hfac:=HP.out.fac
       have hq0:0<val X / val Y:=(Nat.le_div_iff_mul_le hvy).2 (by have:=HP.out.le;omega)
       have hnew:=hfac.one hvy hq0
       have hle2:=gC hnew hvy
       have hmK:=HMK.out
       have hl1:r1.length≤K:=Nat.le_trans (bO t1 (by rw [e1];exact Nat.lt_of_le_of_lt (Nat.div_le_self _ _) (val_lt HM5.out.ax.limbs))) hxl
       have C1:=HM6.out.fa.one (by have:=HM6.out.bw;have:=HM6.out.size;omega) K hK hfac.le (ga hfac hm0) (hA1.arg (by omega)) t1 HM6.out.tab (by rw [e1];exact hq0) (by rw [e1];omega)
       have HP6:Hid (fv m a K Y r2 fy (fx+val X / val Y*fy) (!o)∧val r2<val Y):=aa ⟨⟨by rw [e2];exact hnew,by rw [e2];exact Nat.le_of_lt (Nat.mod_lt _ hvy),hvy,by omega⟩,by rw [e2];exact Nat.mod_lt _ hvy⟩
       rw [e1] at C1
       clear BO hb6 hA1 hA2 e1 t1 e2 t2 hfac hq0 hnew hle2 hmK
       go_wp2_with fail
       refine C1.mono ?_
       rintro e u7 ⟨rfl,vfx',vfy',hFa,n1,n2,hfr⟩
       have HM7:=aa (HM6.out.step hFa n1 n2 hfr)
       clear C1 hFa n1 n2 hfr
       go_wp2
       go_roundw
       case rel=>exact⟨_,_,_,_,_,_,_,HM7.out,HP6.out.1⟩
       case measure=>
        rw [eD (HM7.out.ay.arg (by have:=bO HM7.out.ty (Nat.lt_trans HP6.out.2 (val_lt HM7.out.ax.limbs));omega)),eD (HM.out.ay.arg (by omega))]
        exact HP6.out.2
      ·rw [decide_eq_false hn0] at NO
       have hn1:1≤sn:=by omega
       refine NO.mono ?_
       rintro e u5 ⟨rfl,hb5⟩
       have HM5:=aa (HM4.out.below hb5)
       have hfac:=HP.out.fac
       have h5:=ac hb5 H4.out
       have H5:=aa h5
       obtain⟨hla,hac⟩:=HST.out.acc hn1
       have b1:=hla.bd
       have b2:=hla.cd
       have b3:=hla.ab
       have b4:=hla.c1
       have b6:=hla.b1
       have b5:=HD.out hn1
       obtain⟨V,W,hLT,hMany,hEv,hOd⟩:=HST.out.many hn1 HF.out.1 HF.out.2.1 HF.out.2.2.1 HF.out.2.2.2
       have hnew:=hfac.many hMany hvy
       have hmK:=HMK.out
       have hle2:=gC hfac HP.out.pos
       have C1:=HM5.out.fa.many (by have:=HM5.out.bw;have:=HM5.out.size;omega) K (by omega) hfac.le (ga hfac hm0) (by omega) sa sb sc sd R sn (by omega) (by omega) (by omega) (by omega) (by omega) (by omega) (by omega) (by omega)
       have HSG:=aa (ow (o:=aU sn) hEv hOd)
       have HN:=aa (And.intro hLT hnew)
       have hG5:G<u5.heap.size:=bC h5
       obtain⟨r0,r1,r2,r3,r4⟩:=aH h5
       unfold stw at C1
       clear NO hb5 s0 s1 s2 s3 s4 H4 h5 hla hac hLT hMany hEv hOd hnew hmK hle2 hfac b1 b2 b3 b4 b6 hn0
       go_wp2_with fail
       refine C1.mono ?_
       rintro e u6 ⟨rfl,vfx',vfy',hFa,n1,n2,hfr⟩
       have HM6:=aa (HM5.out.step hFa n1 n2 hfr)
       have h6:=(hfr.block G hG5 HU.out).trans H5.out
       obtain⟨r0,r1,r2,r3,r4⟩:=aH h6
       obtain⟨hla,hac⟩:=HST.out.acc hn1
       have b1:=hla.bd
       have b2:=hla.cd
       have b3:=hla.ab
       have hbs6:w.heap.size≤u6.heap.size:=HM6.out.size
       have HTK:Calls Tryz.prog 121 #[stw sa sb sc sd (some ⟨R,0,none⟩) sn 128,.slice (some ⟨gx,0,none⟩) X.length cx,.slice (some ⟨gy,0,none⟩) Y.length cy] u6 fun e w'=>gB w.heap.size gx cx gy cy X Y (sgL (aU sn) sa) (sgL (aU sn) sb) (sgL (aU sn) sd) (sgL (aU sn) sc) u6 e w'∧FrP (fun k=>k≠gx∧k≠gy) u6 w':=by
        cases ho:aU sn with
        | false=>exact mP w.heap.size gx cx gy cy sa sb sc sd X Y u6 HM6.out.ax HM6.out.ay hne hyl hgx hgy hbs6 (by omega) (by omega) (by omega) b5 _ _ _ (by unfold aU at ho;simpa using ho) _ (fun h=>h.1 rfl) (fun h=>h.2 rfl)
        | true=>exact j9 w.heap.size gx cx gy cy sa sb sc sd X Y u6 HM6.out.ax HM6.out.ay hne hyl hgx hgy hbs6 (by omega) (by omega) (by omega) b5 _ _ _ (by unfold aU at ho;simpa using ho) _ (fun h=>h.1 rfl) (fun h=>h.2 rfl)
       unfold stw at HTK
       clear C1 hFa n1 n2 hfr h6 hla hac b1 b2 b3 H5
       go_wp2_with fail
       refine HTK.mono ?_
       rintro e u7 ⟨⟨rfl,X',Y',ov,un,htk⟩,hfp⟩
       have hlx':=htk.lx
       have hly':=htk.ly
       have HM7:=aa (HM6.out.took htk.ax htk.ay (by omega) hfp)
       obtain⟨vX,vY⟩:=og htk HM6.out.ay.limbs hyl HN.out.1 HSG.out.1 HSG.out.2
       have lt':(X'.take Y.length).length=Y.length:=by simp;omega
       have af:=htk.ax.front Y.length (by omega)
       have afa:=af.arg (by omega)
       obtain⟨ao1,cp1,e1,g1,g2,g3⟩:=afa.form
       rw [lt'] at e1
       cases e1
       have T1:=cL _ _ (X'.take Y.length) u7 g1 g2 g3
       rw [lt'] at T1
       obtain⟨ao2,cp2,e2,g4,g5,g6⟩:=(htk.ay.arg (by omega)).form
       cases e2
       have T2:=cL _ _ Y' u7 g4 g5 g6
       rw [hly'] at T2
       have k1:(Y.length:Int)≤(cx:Int):=by omega
       have k0:(0:Int)≤(Y.length:Int):=by omega
       have HP7:Hid (fv m a K (tr (X'.take Y.length)) (tr Y') (sa*fx+sb*fy) (sc*fx+sd*fy) (o != aU sn)∧val Y'<val Y):=by
        have q1:=HN.out.1.lt
        have q2:=HN.out.1.le
        refine aa ⟨⟨by rw [val_tr,val_tr,vX,vY];exact HN.out.2,by rw [val_tr,val_tr,vX,vY];omega,by rw [val_tr,vX];omega,by have:=tr_length_le (X'.take Y.length);omega⟩,by rw [vY];omega⟩
       have HLY:=aa hly'
       clear htk hfp af afa g1 g2 g3 g4 g5 g6 r0 r1 r2 r3 r4 HTK vX vY hlx' hly' lt'
       go_wp2_with fail
       refine T1.mono ?_
       rintro e wn ⟨rfl,hw⟩;rw [hw];clear hw wn T1
       go_wp2_with fail
       refine T2.mono ?_
       rintro e wn ⟨rfl,hw⟩;rw [hw];clear hw wn T2
       go_wp2
       go_roundw
       case rel=>exact⟨_,_,_,_,_,_,_,HM7.out,HP7.out.1⟩
       case measure=>
        rw [eD (HM7.out.ay.arg (by have:=tr_length_le Y';have:=HLY.out;omega)),eD (HM.out.ay.arg (by omega)),val_tr]
        exact HP7.out.2
     ·have i1:¬(1:Int)<(X.length:Int):=by omega
      have eX:X.length=1:=by omega
      have eY:Y.length=1:=by omega
      have i2:(0:Int)<(X.length:Int):=by omega
      have hvl:val X<18446744073709551616:=by
       have:=val_lt hmem.ax.limbs
       rw [eX] at this
       omega
      have hyle:=hpure.le
      have cx0:=cellx 0 (by omega)
      have cy0:=celly 0 (by omega)
      rw [iJ hvl (by omega)] at cx0
      rw [iJ (show val Y<18446744073709551616 by omega) (by omega)] at cy0
      have HP0:=aa (And.intro hpure.fac (And.intro hyle (And.intro hpure.pos hvl)))
      clear hmem hpure HP eX eY hyle hvl hvy fx' fy' cellx celly hx2
      obtain⟨xv,hxv⟩:∃xv,val X=xv:=⟨_,rfl⟩
      obtain⟨yv,hyv⟩:∃yv,val Y=yv:=⟨_,rfl⟩
      rw [hxv] at cx0 HP0
      rw [hyv] at cy0 HP0
      clear hxv hyv
      go_wp2
      go_quiet (fail)
      go_wp2
      clear cx0 cy0
      rename World=>wo
      go_loopw [13,14] (fun v r wr=>∃(x y:Nat) (vfx vfy:Value) (fx fy:Nat) (o:Bool),v=.int .u64 (x:Int)∧r=.int .u64 (y:Int)∧Fac m a x y fx fy o∧y≤x∧0<x∧x<18446744073709551616∧aV w wr g bF R (.slice (some ⟨gx,0,none⟩) X.length cx) (.slice (some ⟨gy,0,none⟩) Y.length cy) X Y f0x f0y vfx vfy fx fy o) (fun _ r _=>(intOf r).toNat)
      case atStart=>exact⟨xv,yv,_,_,_,_,_,rfl,rfl,HP0.out.1,HP0.out.2.1,HP0.out.2.2.1,HP0.out.2.2.2,HM.out.below (((aA.refl _).drewN _).below _)⟩
      case round=>
       obtain⟨x,y,vfx2,vfy2,fx2,fy2,o2,rfl,rfl,hfac,hyx,hx0,hxl,hm⟩:=hrel
       have HN:=aa hm
       have HFC:=aa hfac
       clear HP0 HM hm
       by_cases hy0:y=0
       ·subst hy0
        have HE:Hid (fK m a g bF f0x f0y w (.returned (.slice (some ⟨wr.heap.size,0,none⟩) 1 1)) (wr.alloc (.cells #[.int .u64 (x:Int)] 61))):=by
         have hb:Below wr.heap.size wr (wr.alloc (.cells #[.int .u64 (x:Int)] 61)):=(Below.refl _ _).alloc (Nat.le_refl _) _
         have hbk:Blk (wr.alloc (.cells #[.int .u64 (x:Int)] 61)) wr.heap.size [x]:=heap_alloc_new ..
         have AN:=Ans.of_blk (base:=w.heap.size) (zs:=[x]) HN.out.size hbk (by simp) (by simp) (by simp) (by intro z hz;simp at hz;omega)
         have HB:=HN.out.below hb
         have hv:val [x]=x:=by simp [val]
         refine aa ⟨_,[x],vfx2,vfy2,fx2,fy2,o2,rfl,AN,?_,?_,HB.fa,HB.nx,HB.ny,HB.fr,fun k e=>?_,HB.tab⟩
         ·have:x≠0:=by omega
          simp [tr,this]
         ·rw [hv];exact HFC.out
         ·have e2:k=wr.heap.size:=(Option.some.inj e).symm
          rw [e2]
          exact HN.out.fa.high (Nat.le_refl _)
        go_wp2
        go_ret
        exact HE.out
       ·have i3:(0:Int)<(y:Int):=by omega
        obtain⟨u1,hu1,hb1,h1⟩:=aO wr (.cells #[.int .u64 0,.int .u64 0,.int .u64 0,.int .u64 0,.slice none 0 0] 139)
        have HM1:=aa (HN.out.below hb1)
        have LS:=pC x y R u1 hxl hyx hx0 HM1.out.room
        have hRl:=HN.out.room.lt
        have H1:=aa h1
        have HF1:=aa (Fr.of_below (bz:=R) hb1)
        have hSl:=bC h1
        clear hb1 h1
        go_wp2_with fail
        clear hu1
        refine LS.mono ?_
        rintro e u2 ⟨⟨sa,sb,sc,sd,sn,x',y',rfl,hlt,hx',hn128,hn1⟩,hR2,hF2⟩
        have hn:=hn1 (by omega)
        have h2:=(hF2.block wr.heap.size hSl (by omega)).trans H1.out
        obtain⟨s0,s1,s2,s3,s4⟩:=aH h2
        have sf:=cf h2
        have R5:=cD h2 (a':=.int .u64 sa) (b':=.int .u64 sb) (c':=.int .u64 sc) (d':=.int .u64 sd) (f':=.slice (some ⟨R,0,none⟩) sn 128)
        have HRB:R≠wr.heap.size:=by omega
        have W5:=aa (And.intro (((((hR2.set HRB).set HRB).set HRB).set HRB).set HRB:aJ (((((u2.setCell ⟨wr.heap.size,0,none⟩ (.int .u64 sa)).setCell ⟨wr.heap.size,1,none⟩ (.int .u64 sb)).setCell ⟨wr.heap.size,2,none⟩ (.int .u64 sc)).setCell ⟨wr.heap.size,3,none⟩ (.int .u64 sd)).setCell ⟨wr.heap.size,4,none⟩ (.slice (some ⟨R,0,none⟩) sn 128)) R) (cE (g:=wr.heap.size) (u0:=.int .u64 sa) (u1:=.int .u64 sb) (u2:=.int .u64 sc) (u3:=.int .u64 sd) (u4:=.slice (some ⟨R,0,none⟩) sn 128) (HF1.out.trans hF2) (Nat.le_refl _)))
        have HLT:=aa hlt
        unfold stw
        clear LS hR2 hF2 h2 hn1 H1 HF1 HM1
        go_wp2_with fail
        have HM3:=aa (HN.out.keep W5.out.2 W5.out.1)
        generalize ((((u2.setCell ⟨wr.heap.size,0,none⟩ (.int .u64 sa)).setCell ⟨wr.heap.size,1,none⟩ (.int .u64 sb)).setCell ⟨wr.heap.size,2,none⟩ (.int .u64 sc)).setCell ⟨wr.heap.size,3,none⟩ (.int .u64 sd)).setCell ⟨wr.heap.size,4,none⟩ (.slice (some ⟨R,0,none⟩) sn 128)=u3 at *
        obtain⟨hmany,hyl⟩:=hlt.many hn
        obtain⟨p1,p2,p3,p4,p5,p6,p7⟩:=hlt.pos hn
        have hle2:=gC hfac hx0
        have hmK:=HMK.out
        have C1:=HM3.out.fa.many (by have:=HM3.out.bw;have:=HM3.out.size;omega) K (by omega) hfac.le (ga hfac hm0) (by omega) sa sb sc sd R sn (by omega) (by omega) (by omega) (by omega) (by omega) (by omega) (by omega) (by omega)
        have hxl2:x'<18446744073709551616:=by
         have h1:=hmany.hx
         have h2:x'≤sd*x':=Nat.le_mul_of_pos_left _ (by omega)
         omega
        have HNF:=aa (hfac.many hmany (by omega))
        have hyx2:=hlt.yx
        unfold stw at C1
        clear hfac hmany p1 p2 p3 p4 p5 p6 p7 hle2 hmK HLT W5 R5 s0 s1 s2 s3 s4 sf hlt HFC HN
        refine C1.mono ?_
        rintro e u4 ⟨rfl,vfx',vfy',hFa,n1,n2,hfr⟩
        have HM6:=aa (HM3.out.step hFa n1 n2 hfr)
        clear C1 hFa n1 n2 hfr
        go_wp2
        go_roundw
        case rel=>exact⟨x',y',vfx',vfy',_,_,_,rfl,rfl,HNF.out,hyx2,hx',hxl2,HM6.out⟩
        case measure=>simp [intOf];omega

def oth (ba bb:Bool)(A B g x:Nat):Int:=if ba then zz bb ((g+A*x) / B) else if A*x<g then zz bb ((g - A*x) / B) else zz (!bb) ((A*x - g) / B)

def m7 (z:Int)(w:World)(e:Ending)(w':World):Prop:=
 (∃b a n k rs,e=.returned (.agg #[.bool b,.slice a n k])∧b=decide (z<0)∧Ans w' w.heap.size (.slice a n k) rs∧val rs=z.natAbs∧tr rs=rs)∧Below w.heap.size w w'

theorem dz (b:Bool)(v:Value)(rs:List Nat)(base:Nat)(w:World)(x:Nat)(z:Int)(hz:zz b x=z)(hA:Ans w base v rs)(hv:val rs=x)(ht:tr rs=rs) :
  Calls Tryz.prog 47 #[.bool b,v] w fun e w'=>e=.returned (.agg #[.bool (decide (z<0)),v])∧Below w.heap.size w w':=by
 have C:=ct b v rs base w hA
 rw [cA b ht hv,hz] at C
 exact C

theorem iO {Q R:List Nat}(m:Nat)(h1:Limbs Q)(h3:Q.length≤m)(hv:val R≤val Q)(ht:tr R=R):R.length≤m:=by
 have e1:=val_lt h1
 have e3:val R<2 ^ (Q.length*64):=by
  rw [←W_pow]
  exact Nat.lt_of_le_of_lt hv e1
 have e5:=few_limbs R Q.length ((blen_le_iff _ _).2 e3)
 rw [ht] at e5
 omega

theorem oO (ba bb:Bool)(va vb vg vx:Value)(X Y G Z:List Nat)(w:World)(hA:Arg w va X)(hB:Arg w vb Y)(hG:Arg w vg G)(hZ:Arg w vx Z)(hT:Tab w)(hy:0<val Y)(lA:X.length≤17592186043904)(lZ:Z.length≤17592186043904)(hpn:∀r:List Nat,val r=val X*val Z→tr r=r→r.length≤17592186043000)(lG:G.length≤17592186043000)(lY:Y.length≤17592186043904) :
  Calls Tryz.prog 46 #[.agg #[.bool ba,va],.agg #[.bool bb,vb],vg,vx] w (m7 (oth ba bb (val X) (val Y) (val G) (val Z)) w):=by
 obtain⟨a1,c1,rfl,_,_,_⟩:=hA.form
 obtain⟨a2,c2,rfl,_,_,_⟩:=hB.form
 obtain⟨a3,c3,rfl,_,_,_⟩:=hG.form
 obtain⟨a4,c4,rfl,_,_,_⟩:=hZ.form
 obtain⟨w0,hw0,hb0,h0,h1,h2⟩:=dh w (.cells #[.bool ba,.slice a1 X.length c1] 27) (.cells #[.bool bb,.slice a2 Y.length c2] 27) (.cells #[.bool false,.slice none 0 0] 27)
 obtain⟨k0,k1⟩:=duo h0
 have PR:=fH (X.length+Z.length+1) X Z _ _ w0 (by omega) (by omega) (hA.below hb0) (hZ.below hb0) (hT.below hb0)
 have HB:=aa (hB.below hb0)
 have HG:=aa (hG.below hb0)
 have HT:=aa (hT.below hb0)
 have HL:=aa (And.intro (And.intro hA.limbs (And.intro hZ.limbs (And.intro lA lZ))) (And.intro hG.limbs (And.intro lG lY)))
 have HPN:=aa hpn
 have HY0:=aa hy
 have H0:=aa h0
 have H1:=aa h1
 have H2:=aa h2
 have HB0:=aa hb0
 clear hA hB hG hZ hT hb0 h0 h1 h2 hy lA lZ hpn lG lY
 cases ba
 ·obtain⟨p,hp⟩:∃p,val X*val Z=p:=⟨_,rfl⟩
  have HPP:=aa hp
  unfold oth
  rw [if_neg (by decide),hp]
  clear hp
  by_cases hlt:p<val G
  ·rw [if_pos hlt]
   obtain⟨P,hP⟩:∃P,val G - p=P:=⟨_,rfl⟩
   rw [hP]
   have HP:=aa hP
   have HLT:=aa hlt
   clear hP hlt
   go_enter Tryz.func46,Tryz.ntmps46
   go_wp2_with fail
   refine PR.mono ?_
   rintro e t1 ⟨⟨v5,r5,rfl,hA5,hv5,ht5⟩,hb1⟩
   have L5:r5.length≤17592186043000:=HPN.out r5 hv5 ht5
   have N5:=hA5.arg (by omega)
   obtain⟨a5,c5,rfl,_,_,_⟩:=N5.form
   obtain⟨m0,m1⟩:=duo (ac hb1 H0.out)
   have CM:=gA _ _ r5 G t1 N5 (HG.out.below hb1)
   rw [hv5,HPP.out,cmpN_lt HLT.out] at CM
   have LS:=fun W hg=>dp _ _ G r5 W (HG.out.below (bc hb1 hg)) (N5.below hg) (by have:=HL.out.2.2.1;omega) (by rw [hv5,HPP.out];have:=HLT.out;omega)
   have HB1:=aa hb1
   have HL5:=aa (And.intro N5.limbs (And.intro L5 hv5))
   clear PR k0 k1 hA5 hv5 ht5 hb1 N5 L5
   go_wp2_with fail
   refine CM.mono ?_
   rintro e t3 ⟨rfl,hsm⟩
   have hb3:=hsm.below t1.heap.size
   have SM:=LS t3 hb3
   rw [HL5.out.2.2,HPP.out,HP.out] at SM
   obtain⟨m0',m1'⟩:=duo (ac (bc HB1.out hb3) H0.out)
   have HB3:=aa (bc HB1.out hb3)
   clear CM LS m0 m1 hsm hb3
   go_wp2_with fail
   refine SM.mono ?_
   rintro e tp ⟨⟨vp,rp,rfl,hAp,hvp,htp⟩,hb2⟩
   have HBP:=aa (bc HB3.out hb2)
   have lrp:rp.length≤17592186043001:=by
    have:=iO 17592186043000 HL.out.2.1 HL.out.2.2.1 (show val rp≤val G by rw [hvp,←HP.out];omega) htp
    omega
   clear SM hb2 m0' m1'
   have NP:=hAp.arg (by omega)
   obtain⟨ap,cp,rfl,_,_,_⟩:=NP.form
   have BO:=wboth_any (blen (val rp)) rp Y _ _ tp (by omega) NP (HB.out.below HBP.out) (HT.out.below HBP.out) (by omega) (by have:=HL.out.2.2.2;omega) HY0.out
   rw [hvp] at BO
   obtain⟨mb0,mb1⟩:=duo (ac HBP.out H1.out)
   go_wp2_with fail
   refine BO.mono ?_
   rintro e t7 ⟨⟨v7,v8,r7,r8,rfl,hA7,hA8,hv7,ht7,_,_,_⟩,hb7⟩
   obtain⟨a7,c7,rfl⟩:=hA7.shape
   have HBQ:=HBP
   have SG:=dz bb _ r7 _ t7 (P / val Y) (zz bb (P / val Y)) rfl hA7 hv7 ht7
   have HB7:=aa (bc HBP.out hb7)
   obtain⟨nb0,nb1⟩:=duo (ac HB7.out H1.out)
   have HA7:=aa hA7
   have HV7:=aa (And.intro hv7 ht7)
   clear BO mb0 mb1 hb7 hA7 hA8 hv7 ht7 NP hAp hvp htp
   go_wp2_with fail
   refine SG.mono ?_
   rintro e t8 ⟨rfl,hb8⟩
   have HB8:=aa (bc HB7.out hb8)
   have hx8:=ac HB8.out H2.out
   obtain⟨y0,y1⟩:=duo hx8
   have hy8:=av hx8
   have R5:=aI (a':=.bool (decide (zz bb (P / val Y)<0))) (b':=.slice a7 r7.length c7) hx8
   have HE:=aa (And.intro ((HA7.out.below hb8).duo (u0:=.bool (decide (zz bb (P / val Y)<0))) (u1:=.slice a7 r7.length c7) hx8) (aC (u0:=.bool (decide (zz bb (P / val Y)<0))) (u1:=.slice a7 r7.length c7) (bc HB0.out HB8.out) (show w.heap.size≤w.heap.size+2 by omega)))
   obtain⟨q0,q1⟩:=duo R5
   clear SG nb0 nb1 hb8 hx8 R5
   go_wp2
   clear y0 y1 hy8
   generalize (t8.setCell ⟨w.heap.size+2,0,none⟩ (.bool (decide (zz bb (P / val Y)<0)))).setCell ⟨w.heap.size+2,1,none⟩ (.slice a7 r7.length c7)=w9 at *
   refine bodyPost_ret (v:=.agg #[.bool (decide (zz bb (P / val Y)<0)),.slice a7 r7.length c7]) (by simp [results,Tryz.results46,go_sem,q0,q1]) rfl ?_
   exact⟨⟨_,_,_,_,r7,rfl,rfl,HE.out.1.base (Nat.le_trans HB0.out.size HBQ.out.size),by rw [HV7.out.1,aF],HV7.out.2⟩,HE.out.2⟩
  ·rw [if_neg hlt]
   obtain⟨P,hP⟩:∃P,p - val G=P:=⟨_,rfl⟩
   rw [hP]
   have HP:=aa hP
   have HLT:=aa hlt
   clear hP hlt
   go_enter Tryz.func46,Tryz.ntmps46
   go_wp2_with fail
   refine PR.mono ?_
   rintro e t1 ⟨⟨v5,r5,rfl,hA5,hv5,ht5⟩,hb1⟩
   have L5:r5.length≤17592186043000:=HPN.out r5 hv5 ht5
   have N5:=hA5.arg (by omega)
   obtain⟨a5,c5,rfl,_,_,_⟩:=N5.form
   obtain⟨m0,m1⟩:=duo (ac hb1 H0.out)
   have CM:=gA _ _ r5 G t1 N5 (HG.out.below hb1)
   rw [hv5,HPP.out] at CM
   obtain⟨cc,hcc,hc0⟩:∃cc:Int,cmpN p (val G)=cc∧¬cc<0:=⟨_,rfl,by unfold cmpN;rw [if_neg HLT.out];split <;> omega⟩
   rw [hcc] at CM
   have LS:=fun W hg=>dp _ _ r5 G W (N5.below hg) (HG.out.below (bc hb1 hg)) (by omega) (by rw [hv5,HPP.out];have:=HLT.out;omega)
   clear hcc
   have HB1:=aa hb1
   have HL5:=aa (And.intro N5.limbs (And.intro L5 hv5))
   clear PR k0 k1 hA5 hv5 ht5 hb1 N5 L5
   go_wp2_with fail
   refine CM.mono ?_
   rintro e t3 ⟨rfl,hsm⟩
   have hb3:=hsm.below t1.heap.size
   have SM:=LS t3 hb3
   rw [HL5.out.2.2,HPP.out,HP.out] at SM
   have HB3:=aa (bc HB1.out hb3)
   clear CM LS m0 m1 hsm hb3
   go_wp2_with fail
   refine SM.mono ?_
   rintro e tp ⟨⟨vp,rp,rfl,hAp,hvp,htp⟩,hb2⟩
   have HBP:=aa (bc HB3.out hb2)
   have lrp:rp.length≤17592186043001:=by
    have:=iO 17592186043000 HL5.out.1 HL5.out.2.1 (show val rp≤val r5 by rw [hvp,←HP.out,HL5.out.2.2,HPP.out];omega) htp
    omega
   clear SM hb2
   have NP:=hAp.arg (by omega)
   obtain⟨ap,cp,rfl,_,_,_⟩:=NP.form
   have BO:=wboth_any (blen (val rp)) rp Y _ _ tp (by omega) NP (HB.out.below HBP.out) (HT.out.below HBP.out) (by omega) (by have:=HL.out.2.2.2;omega) HY0.out
   rw [hvp] at BO
   obtain⟨mb0,mb1⟩:=duo (ac HBP.out H1.out)
   go_wp2_with fail
   refine BO.mono ?_
   rintro e t7 ⟨⟨v7,v8,r7,r8,rfl,hA7,hA8,hv7,ht7,_,_,_⟩,hb7⟩
   obtain⟨a7,c7,rfl⟩:=hA7.shape
   have HBQ:=HBP
   have SG:=dz (!bb) _ r7 _ t7 (P / val Y) (zz (!bb) (P / val Y)) rfl hA7 hv7 ht7
   have HB7:=aa (bc HBP.out hb7)
   obtain⟨nb0,nb1⟩:=duo (ac HB7.out H1.out)
   have HA7:=aa hA7
   have HV7:=aa (And.intro hv7 ht7)
   clear BO mb0 mb1 hb7 hA7 hA8 hv7 ht7 NP hAp hvp htp
   go_wp2_with fail
   refine SG.mono ?_
   rintro e t8 ⟨rfl,hb8⟩
   have HB8:=aa (bc HB7.out hb8)
   have hx8:=ac HB8.out H2.out
   obtain⟨y0,y1⟩:=duo hx8
   have hy8:=av hx8
   have R5:=aI (a':=.bool (decide (zz (!bb) (P / val Y)<0))) (b':=.slice a7 r7.length c7) hx8
   have HE:=aa (And.intro ((HA7.out.below hb8).duo (u0:=.bool (decide (zz (!bb) (P / val Y)<0))) (u1:=.slice a7 r7.length c7) hx8) (aC (u0:=.bool (decide (zz (!bb) (P / val Y)<0))) (u1:=.slice a7 r7.length c7) (bc HB0.out HB8.out) (show w.heap.size≤w.heap.size+2 by omega)))
   obtain⟨q0,q1⟩:=duo R5
   clear SG nb0 nb1 hb8 hx8 R5
   go_wp2
   clear y0 y1 hy8
   generalize (t8.setCell ⟨w.heap.size+2,0,none⟩ (.bool (decide (zz (!bb) (P / val Y)<0)))).setCell ⟨w.heap.size+2,1,none⟩ (.slice a7 r7.length c7)=w9 at *
   refine bodyPost_ret (v:=.agg #[.bool (decide (zz (!bb) (P / val Y)<0)),.slice a7 r7.length c7]) (by simp [results,Tryz.results46,go_sem,q0,q1]) rfl ?_
   exact⟨⟨_,_,_,_,r7,rfl,rfl,HE.out.1.base (Nat.le_trans HB0.out.size HBQ.out.size),by rw [HV7.out.1,aF],HV7.out.2⟩,HE.out.2⟩
 ·have eo:oth true bb (val X) (val Y) (val G) (val Z)=zz bb ((val G+val X*val Z) / val Y):=rfl
  rw [eo]
  clear eo
  obtain⟨P,hP⟩:∃P,val G+val X*val Z=P:=⟨_,rfl⟩
  rw [hP]
  have HP:=aa hP
  clear hP
  go_enter Tryz.func46,Tryz.ntmps46
  go_wp2_with fail
  refine PR.mono ?_
  rintro e t1 ⟨⟨v5,r5,rfl,hA5,hv5,ht5⟩,hb1⟩
  have L5:r5.length≤17592186043000:=HPN.out r5 hv5 ht5
  have N5:=hA5.arg (by omega)
  obtain⟨a5,c5,rfl,_,_,_⟩:=N5.form
  obtain⟨m0,m1⟩:=duo (ac hb1 H0.out)
  have SM:=fW _ _ G r5 t1 (HG.out.below hb1) N5 (by have:=HL.out.2.2.1;omega) (by omega)
  rw [hv5,HP.out] at SM
  have HB1:=aa hb1
  have HL5:=aa (And.intro N5.limbs (And.intro L5 hv5))
  clear PR k0 k1 hA5 hv5 ht5 hb1 N5 L5
  go_wp2_with fail
  refine SM.mono ?_
  rintro e tp ⟨⟨vp,rp,rfl,hAp,hvp,htp⟩,hb2⟩
  have HBP:=aa (bc HB1.out hb2)
  have lrp:rp.length≤17592186043001:=gS 17592186043000 HL.out.2.1 HL.out.2.2.1 HL5.out.1 HL5.out.2.1 (by rw [hvp,←HP.out,HL5.out.2.2]) htp
  clear SM hb2 m0 m1
  have NP:=hAp.arg (by omega)
  obtain⟨ap,cp,rfl,_,_,_⟩:=NP.form
  have BO:=wboth_any (blen (val rp)) rp Y _ _ tp (by omega) NP (HB.out.below HBP.out) (HT.out.below HBP.out) (by omega) (by have:=HL.out.2.2.2;omega) HY0.out
  rw [hvp] at BO
  obtain⟨mb0,mb1⟩:=duo (ac HBP.out H1.out)
  go_wp2_with fail
  refine BO.mono ?_
  rintro e t7 ⟨⟨v7,v8,r7,r8,rfl,hA7,hA8,hv7,ht7,_,_,_⟩,hb7⟩
  obtain⟨a7,c7,rfl⟩:=hA7.shape
  have HBQ:=HBP
  have SG:=dz bb _ r7 _ t7 (P / val Y) (zz bb (P / val Y)) rfl hA7 hv7 ht7
  have HB7:=aa (bc HBP.out hb7)
  obtain⟨nb0,nb1⟩:=duo (ac HB7.out H1.out)
  have HA7:=aa hA7
  have HV7:=aa (And.intro hv7 ht7)
  clear BO mb0 mb1 hb7 hA7 hA8 hv7 ht7 NP hAp hvp htp
  go_wp2_with fail
  refine SG.mono ?_
  rintro e t8 ⟨rfl,hb8⟩
  have HB8:=aa (bc HB7.out hb8)
  have hx8:=ac HB8.out H2.out
  obtain⟨y0,y1⟩:=duo hx8
  have hy8:=av hx8
  have R5:=aI (a':=.bool (decide (zz bb (P / val Y)<0))) (b':=.slice a7 r7.length c7) hx8
  have HE:=aa (And.intro ((HA7.out.below hb8).duo (u0:=.bool (decide (zz bb (P / val Y)<0))) (u1:=.slice a7 r7.length c7) hx8) (aC (u0:=.bool (decide (zz bb (P / val Y)<0))) (u1:=.slice a7 r7.length c7) (bc HB0.out HB8.out) (show w.heap.size≤w.heap.size+2 by omega)))
  obtain⟨q0,q1⟩:=duo R5
  clear SG nb0 nb1 hb8 hx8 R5
  go_wp2
  clear y0 y1 hy8
  generalize (t8.setCell ⟨w.heap.size+2,0,none⟩ (.bool (decide (zz bb (P / val Y)<0)))).setCell ⟨w.heap.size+2,1,none⟩ (.slice a7 r7.length c7)=w9 at *
  refine bodyPost_ret (v:=.agg #[.bool (decide (zz bb (P / val Y)<0)),.slice a7 r7.length c7]) (by simp [results,Tryz.results46,go_sem,q0,q1]) rfl ?_
  exact⟨⟨_,_,_,_,r7,rfl,rfl,HE.out.1.base (Nat.le_trans HB0.out.size HBQ.out.size),by rw [HV7.out.1,aF],HV7.out.2⟩,HE.out.2⟩

def cT (m a:Nat)(w:World)(e:Ending)(w':World):Prop:=
 (∃v1 v2 r1 r2,e=.returned (.tuple #[v1,v2])∧Ans w' w.heap.size v1 r1∧Ans w' w.heap.size v2 r2∧val r1=Nat.gcd m a∧tr r1=r1∧IsInv m a (Nat.gcd m a) (val r2)∧tr r2=r2∧(∀k,v1.ownBlock=some k→v2.ownBlock≠some k))∧Below w.heap.size w w'

theorem cT.below {m a:Nat}{w w1 w2:World}{e:Ending}(h:cT m a w e w1)(hb:Below w1.heap.size w1 w2):cT m a w e w2:=by
 obtain⟨⟨v1,v2,r1,r2,h1,h2,h3,h4⟩,h5⟩:=h
 exact⟨⟨v1,v2,r1,r2,h1,h2.below hb,h3.below hb,h4⟩,h5.trans (hb.mono h5.size)⟩

theorem pb {w w0:World}{a b c:Value}(hb0:Below w.heap.size w w0)(h0:w0.heap[w.heap.size]?=some (.cells #[.int .u64 1] 61))(h1:w0.heap[w.heap.size+1]?=some (.cells #[a,b,c] 107)) :
  aL (((w0.setCell ⟨w.heap.size+1,0,none⟩ (.slice none 0 0)).setCell ⟨w.heap.size+1,1,none⟩ (.slice (some ⟨w.heap.size,0,none⟩) 1 1)).setCell ⟨w.heap.size+1,2,none⟩ (.bool false)) (w.heap.size+1) w.heap.size (.slice none 0 0) (.slice (some ⟨w.heap.size,0,none⟩) 1 1) 0 1 false ∧
  Below w.heap.size w (((w0.setCell ⟨w.heap.size+1,0,none⟩ (.slice none 0 0)).setCell ⟨w.heap.size+1,1,none⟩ (.slice (some ⟨w.heap.size,0,none⟩) 1 1)).setCell ⟨w.heap.size+1,2,none⟩ (.bool false)):=by
 have hne:w.heap.size≠w.heap.size+1:=by omega
 have hblk:Blk (((w0.setCell ⟨w.heap.size+1,0,none⟩ (.slice none 0 0)).setCell ⟨w.heap.size+1,1,none⟩ (.slice (some ⟨w.heap.size,0,none⟩) 1 1)).setCell ⟨w.heap.size+1,2,none⟩ (.bool false)) w.heap.size [1]:=aN (aN (aN h0 hne) hne) hne
 have A1:=Ans.of_blk (base:=w.heap.size) (zs:=[1]) (Nat.le_refl _) hblk (by simp) (by simp) (by simp) (by intro z hz;simp at hz;omega)
 refine⟨⟨aT (aT (aT h1 _) _) _,⟨by simp [Value.ownBlock],fun e=>?_⟩,⟨[],[1],Ans.nil _ _,A1,rfl,by simp [val],rfl,by simp [tr]⟩,fun k e=>by simp [Value.ownBlock] at e⟩,?_⟩
 ·have h9:w.heap.size=w.heap.size+1:=Option.some.inj e
  omega
 ·exact ((hb0.setCell (p:=⟨w.heap.size+1,0,none⟩) (by simp) _).setCell (p:=⟨w.heap.size+1,1,none⟩) (by simp) _).setCell (p:=⟨w.heap.size+1,2,none⟩) (by simp) _

theorem oC {w w1 w2:World}(h1:Below w.heap.size w w1)(hf:FrP (Pk (w.heap.size+1) (.slice none 0 0) (.slice (some ⟨w.heap.size,0,none⟩) 1 1)) w1 w2):Below w.heap.size w w2:=by
 refine⟨hf.os.trans h1.os,hf.tape.trans h1.tape,hf.output.trans h1.output,Nat.le_trans h1.size hf.size,fun k hk=>?_⟩
 have hs:=h1.size
 rw [hf.block k (by omega) ⟨by omega,by simp [Value.ownBlock],fun e=>?_⟩]
 ·exact h1.block k hk
 ·have h9:w.heap.size=k:=Option.some.inj e
  omega

theorem lS {m a g fx fy:Nat}{o:Bool}(h:Fac m a g 0 fx fy o)(hm:0<m)(ham:a<m)(ho:o=true∨fx=0):g=Nat.gcd m a∧IsInv m a (Nat.gcd m a) fx:=by
 obtain⟨h1,h2,h3⟩:=h.ended hm ham
 rw [if_pos ho] at h3
 exact⟨h1,by rw [←h1];exact h3⟩

theorem m8 {m a g fx fy:Nat}(h:Fac m a g 0 fx fy false)(hm:0<m)(ham:a<m)(ho:0<fx):g=Nat.gcd m a∧0<g∧fx≤m / g∧IsInv m a (Nat.gcd m a) (m / g - fx):=by
 obtain⟨h1,h2,h3⟩:=h.ended hm ham
 rw [if_neg (by rintro (e|e);exact absurd e (by decide);omega)] at h3
 have hg:0<g:=by rw [h1];exact Nat.gcd_pos_of_pos_left a hm
 have e:m / g=fy:=by rw [←h2,Nat.mul_div_cancel _ hg]
 refine⟨h1,hg,by rw [e];omega,?_⟩
 rw [e,←h1];exact h3.2

theorem gY (va vm:Value)(A M:List Nat)(w:World)(hA:Arg w va A)(hM:Arg w vm M)(hT:Tab w)(hlt:val A<val M)(lA:A.length≤17592186043904)(lM:M.length≤17592186043904) :
  Calls Tryz.prog 43 #[va,vm] w (cT (val M) (val A) w):=by
 obtain⟨a1,c1,rfl,_,_,_⟩:=hA.form
 obtain⟨a2,c2,rfl,_,_,_⟩:=hM.form
 obtain⟨w0,hw0,hb0,h0,h1⟩:=bR w (.cells #[.int .u64 1] 61) (.cells #[.slice none 0 0,.slice none 0 0,.bool false] 107)
 obtain⟨hF,hB⟩:=pb hb0 h0 h1
 obtain⟨k0,k1,k2⟩:=ck h1
 have kf:=dF h1
 have tg:0<w.heap.size∧0≠w.heap.size+1:=⟨hT.1,by have:=hT.1;omega⟩
 obtain⟨w1,hw1⟩:∃w1,((w0.setCell ⟨w.heap.size+1,0,none⟩ (.slice none 0 0)).setCell ⟨w.heap.size+1,1,none⟩ (.slice (some ⟨w.heap.size,0,none⟩) 1 1)).setCell ⟨w.heap.size+1,2,none⟩ (.bool false)=w1:=⟨_,rfl⟩
 rw [hw1] at hF hB
 have C:=mJ (w.heap.size+1) w.heap.size 17592186043904 _ _ _ _ M A w1 (hM.below hB) (hA.below hB) (hT.below hB) hF hB.size tg hlt (by omega) lM lA
 have HB:=aa hB
 have HM:=aa hM
 have HLT:=aa hlt
 clear hA hM hT hF hB hb0 h0 h1 tg
 go_enter Tryz.func43,Tryz.ntmps43
 go_wp2_with fail
 refine C.mono ?_
 rintro e w2 ⟨v,rs,vfx,vfy,fx,fy,o,rfl,hG,tG,hfac,hfa,hnx,hny,hfr,hpk,htab⟩
 have HB2:=aa (oC HB.out hfr)
 have HG:=aa (hG.base HB.out.size)
 obtain⟨X,Y,hX,hY,hvx,hvy,tX,tY⟩:=hfa.at2
 have HX:=aa (hX.below (Below.refl _ _))
 have hxl:X.length=0 ↔ fx=0:=by rw [←hvx];exact⟨fun e=>by rw [List.length_eq_zero_iff.1 e];rfl,fun e=>by have:=bO (X:=X) (n:=0) tX (by rw [e];simp);omega⟩
 obtain⟨a3,c3,rfl⟩:=hG.shape
 obtain⟨a4,c4,rfl⟩:=hX.shape
 obtain⟨q0,q1,q2⟩:=ck hfa.box
 have HV:=aa (And.intro hvx (And.intro tX (And.intro tG hpk)))
 clear hw0 hw1 k0 k1 k2 kf C
 by_cases hc:o=true∨fx=0
 ·obtain⟨e1,e2⟩:=lS hfac (by have:=HLT.out;omega) HLT.out hc
  have HE:Hid (cT (val M) (val A) w (.returned (.tuple #[.slice a3 rs.length c3,.slice a4 X.length c4])) w2):=by
   refine aa ⟨⟨_,_,rs,X,rfl,HG.out,HX.out,e1,HV.out.2.2.1,by rw [HV.out.1];exact e2,HV.out.2.1,fun k e=>(HV.out.2.2.2 k e).2.1⟩,HB2.out⟩
  clear e1 e2 hfac hfa hX hY hG hnx hny hfr htab hvx hvy tX tY tG hpk
  have hcs:o=true∨(o=false∧X.length=0):=by
   rcases hc with h|h
   ·exact .inl h
   ·cases o
    ·exact .inr ⟨rfl,hxl.2 h⟩
    ·exact .inl rfl
  clear hc hxl
  rcases hcs with rfl|⟨rfl,hx0⟩
  ·go_wp2
   go_quiet (fail)
   go_wp2
   go_returns
   exact HE.out.below (((aA.refl _).drewN _).below _)
  ·obtain⟨n,hn⟩:∃n,X.length=n:=⟨_,rfl⟩
   rw [hn] at q0 hx0 HE
   subst hx0
   go_wp2
   go_quiet (fail)
   go_wp2
   go_returns
   exact HE.out.below (((aA.refl _).drewN _).below _)
 ·have ho:o=false:=by cases o;rfl;exact absurd (.inl rfl) hc
  subst ho
  have hfx:0<fx:=Nat.pos_of_ne_zero fun e=>hc (.inr e)
  obtain⟨e1,eg,e2,e3⟩:=m8 hfac (by have:=HLT.out;omega) HLT.out hfx
  have hx1:(0:Int)<(X.length:Int):=by
   have:X.length≠0:=fun e=>by have:=hxl.1 e;omega
   omega
  have hx2:¬(X.length:Int)=0:=by omega
  have lrs:rs.length≤17592186043904:=by
   refine Nat.le_trans (bO tG ?_) lM
   have:val rs≤val M:=by rw [e1];exact Nat.gcd_le_left _ (by have:=HLT.out;omega)
   exact Nat.lt_of_le_of_lt this (val_lt HM.out.limbs)
  have C:=wboth_any (blen (val M)) M rs _ _ w2 (by omega) (HM.out.below HB2.out) (hG.arg (by omega)) htab (by omega) (by omega) eg
  have HE:=aa (And.intro e1 (And.intro e2 e3))
  have HF:=aa hfa.box
  have HL:=aa (And.intro lM (val_lt HM.out.limbs))
  clear e1 eg e2 e3 hfac hfa hX hY hG hnx hny hfr htab hvx hvy tX tY tG hpk hxl hc hfx
  go_wp2_with fail
  refine C.mono ?_
  rintro e w3 ⟨⟨v5,v6,r5,r6,rfl,hA5,hA6,hv5,ht5,_,_,_⟩,hb3⟩
  obtain⟨a5,c5,rfl⟩:=hA5.shape
  obtain⟨a6,c6,rfl⟩:=hA6.shape
  have l5:r5.length≤17592186043904:=by
   refine Nat.le_trans (bO ht5 ?_) HL.out.1
   rw [hv5]
   exact Nat.lt_of_le_of_lt (Nat.div_le_self _ _) HL.out.2
  have hle:val X≤val r5:=by rw [hv5,HV.out.1];exact HE.out.2.1
  have l4:X.length≤17592186043904:=Nat.le_trans (bO HV.out.2.1 (Nat.lt_of_le_of_lt hle (val_lt hA5.limbs))) l5
  have LS:=dp _ _ r5 X w3 (hA5.arg (by omega)) ((HX.out.below hb3).arg (by omega)) (by omega) hle
  rw [hv5,HV.out.1] at LS
  obtain⟨p0,p1,p2⟩:=ck (ac hb3 HF.out)
  have HG3:=aa (HG.out.below hb3)
  have HB3:=aa (ak HB2.out hb3)
  clear C q0 q1 q2 hb3 hA5 hA6 hv5 ht5 l5 hle l4
  go_wp2_with fail
  refine LS.mono ?_
  rintro e w4 ⟨⟨v7,r7,rfl,hA7,hv7,ht7⟩,hb4⟩
  have HZ:Hid (cT (val M) (val A) w (.returned (.tuple #[.slice a3 rs.length c3,v7])) w4):=by
   refine aa ⟨⟨_,_,rs,r7,rfl,HG3.out.below hb4,hA7.base HB3.out.size,HE.out.1,HV.out.2.2.1,by rw [hv7];exact HE.out.2.2,ht7,fun k e e2=>?_⟩,ak HB3.out hb4⟩
   have h1:=(HG3.out.own.lt k e).2
   have h2:=(hA7.own.lt k e2).1
   omega
  clear LS hA7 hv7 ht7 hb4 p0 p1 p2
  go_wp2
  go_returns
  exact HZ.out
end Go.Proofs.YtdbjbbdhlpfhjaaGreatDoor
namespace Go.Proofs.YtdbjbbdhlpfhjaaGreatDoor
open Go.RowKit
open Lm

def er (b:Bool)(x m:Nat):Nat:=if b=true∧0<x % m then m - x % m else x % m

theorem ii (b:Bool)(x m:Nat)(hm:0<m):er b x m<m:=by
 have:=Nat.mod_lt x hm
 unfold er
 split <;> omega

theorem mW (b:Bool)(x m:Nat)(hm:0<m):((er b x m:Nat):Int)=zz b x % (m:Int):=by
 have hlt:=Nat.mod_lt x hm
 have hd:=Nat.div_add_mod x m
 cases b
 ·simp [er,zz]
 ·obtain⟨q,hq⟩:∃q,x / m=q:=⟨_,rfl⟩
  obtain⟨r,hr⟩:∃r,x % m=r:=⟨_,rfl⟩
  rw [hq,hr] at hd
  rw [hr] at hlt
  have hx:(x:Int)=(m:Int)*(q:Int)+(r:Int):=by rw [←hd];push_cast;rfl
  simp only [er,zz,true_and,if_true,hr]
  by_cases h0:0<r
  ·rw [if_pos h0]
   have e:-(x:Int)=((m - r:Nat):Int)+(m:Int)*(-(q:Int) - 1):=by
    rw [hx,Int.mul_sub,Int.mul_neg,Int.mul_one]
    omega
   rw [e,Int.add_mul_emod_self_left,Int.emod_eq_of_lt (by omega) (by omega)]
  ·rw [if_neg h0]
   have e:-(x:Int)=((r:Nat):Int)+(m:Int)*(-(q:Int)):=by
    rw [hx,Int.mul_neg]
    omega
   rw [e,Int.add_mul_emod_self_left,Int.emod_eq_of_lt (by omega) (by omega)]

theorem gk (ba:Bool)(A B:Nat)(hB:0<B):∃l:Int,zz ba A=(er ba A B:Int)+l*(B:Int):=by
 refine⟨zz ba A / (B:Int),?_⟩
 rw [mW ba A B hB,Int.emod_def]
 grind

theorem iY (b:Bool)(d A:Nat):(d:Int) ∣ zz b A ↔ d ∣ A:=by
 cases b
 ·simp only [zz,Bool.false_eq_true,if_false]
  exact Int.natCast_dvd_natCast
 ·simp only [zz,if_true]
  rw [Int.dvd_neg]
  exact Int.natCast_dvd_natCast

theorem iq (ba:Bool)(A B:Nat)(hB:0<B):Nat.gcd B (er ba A B)=Nat.gcd A B:=by
 obtain⟨l,hl⟩:=gk ba A B hB
 have key:∀d:Nat,d ∣ B→(d ∣ er ba A B ↔ d ∣ A):=by
  intro d hd
  have h1:(d:Int) ∣ l*(B:Int):=Int.dvd_trans (Int.natCast_dvd_natCast.2 hd) (Int.dvd_mul_left _ _)
  constructor
  ·intro h
   rw [←iY ba d A,hl]
   exact Int.dvd_add (Int.natCast_dvd_natCast.2 h) h1
  ·intro h
   rw [←iY ba d A,hl] at h
   exact Int.natCast_dvd_natCast.1 ((Int.dvd_add_left h1).1 h)
 refine Nat.dvd_antisymm (Nat.dvd_gcd ?_ (Nat.gcd_dvd_left _ _)) (Nat.dvd_gcd (Nat.gcd_dvd_right _ _) ?_)
 ·exact (key _ (Nat.gcd_dvd_left _ _)).1 (Nat.gcd_dvd_right _ _)
 ·exact (key _ (Nat.gcd_dvd_right _ _)).2 (Nat.gcd_dvd_left _ _)

theorem ir (b:Bool)(B n:Nat):zz b B*zz b n=(B:Int)*(n:Int):=by
 cases b <;> simp [zz,Int.neg_mul,Int.mul_neg]

theorem o8 (b:Bool)(B n:Nat):zz b B*zz (!b) n=-((B:Int)*(n:Int)):=by
 cases b <;> simp [zz,Int.neg_mul,Int.mul_neg]

theorem fc {m a g x:Nat}(h:IsInv m a g x)(hm:0<m)(hg:0<g):x<m:=by
 rcases h.lt with h1|⟨h1,_⟩
 ·exact Nat.lt_of_le_of_lt (Nat.le_mul_of_pos_right x hg) h1
 ·omega

theorem oM (ba bb:Bool)(A B g x:Nat)(hB:0<B)(hg:g=Nat.gcd A B)(hi:IsInv B (er ba A B) g x) :
  zz ba A*(x:Int)+zz bb B*oth ba bb A B g x=(g:Int)∧((oth ba bb A B g x).natAbs≤A∨(oth ba bb A B g x).natAbs≤1):=by
 obtain⟨l,hl⟩:=gk ba A B hB
 obtain⟨k,hk⟩:=hi.eq
 have hgB:g≤B:=by rw [hg];exact Nat.gcd_le_right A hB
 have hg0:0<g:=by rw [hg];exact Nat.gcd_pos_of_pos_right A hB
 have hx:=fc hi hB hg0
 obtain⟨t,ht⟩:∃t:Int,zz ba A*(x:Int)=(g:Int)+t*(B:Int):=⟨k+l*x,by rw [hl];grind⟩
 have hAB:A*x≤A*B:=Nat.mul_le_mul_left _ (Nat.le_of_lt hx)
 cases ba
 ·have ht2:((A*x:Nat):Int)=(g:Int)+t*(B:Int):=by rw [Int.natCast_mul];exact ht
  unfold oth
  rw [if_neg (by decide)]
  by_cases hlt:A*x<g
  ·rw [if_pos hlt]
   obtain⟨n,hn⟩:B ∣ g - A*x:=by
    apply Int.natCast_dvd_natCast.1
    rw [Int.natCast_sub (Nat.le_of_lt hlt),ht2]
    exact⟨-t,by grind⟩
   have hne:((g - A*x:Nat):Int)=((B*n:Nat):Int):=by rw [hn]
   rw [Int.natCast_sub (Nat.le_of_lt hlt),ht2,Int.natCast_mul] at hne
   rw [hn,Nat.mul_div_cancel_left _ hB,ir,ht,aF]
   refine⟨by omega,.inr ?_⟩
   have:B*n≤B*1:=by omega
   exact Nat.le_of_mul_le_mul_left this hB
  ·rw [if_neg hlt]
   obtain⟨n,hn⟩:B ∣ A*x - g:=by
    apply Int.natCast_dvd_natCast.1
    rw [Int.natCast_sub (by omega),ht2]
    exact⟨t,by grind⟩
   have hne:((A*x - g:Nat):Int)=((B*n:Nat):Int):=by rw [hn]
   rw [Int.natCast_sub (by omega),ht2,Int.natCast_mul] at hne
   rw [hn,Nat.mul_div_cancel_left _ hB,o8,ht,aF]
   refine⟨by omega,.inl ?_⟩
   have:B*n≤B*A:=by rw [Nat.mul_comm B A];omega
   exact Nat.le_of_mul_le_mul_left this hB
 ·have ht2:-((A*x:Nat):Int)=(g:Int)+t*(B:Int):=by
   rw [←ht,Int.natCast_mul]
   simp [zz,Int.neg_mul]
  unfold oth
  rw [if_pos rfl]
  obtain⟨n,hn⟩:B ∣ g+A*x:=by
   apply Int.natCast_dvd_natCast.1
   rw [Int.natCast_add]
   exact⟨-t,by grind⟩
  have hne:((g+A*x:Nat):Int)=((B*n:Nat):Int):=by rw [hn]
  rw [Int.natCast_add,Int.natCast_mul B n] at hne
  rw [hn,Nat.mul_div_cancel_left _ hB,ir,ht,aF]
  refine⟨by omega,?_⟩
  rcases Nat.eq_zero_or_pos A with h0|h0
  ·refine .inr ?_
   subst h0
   have:B*n≤B*1:=by omega
   exact Nat.le_of_mul_le_mul_left this hB
  ·refine .inl ?_
   have hgA:g≤A:=by rw [hg];exact Nat.gcd_le_left B h0
   have h2:A+A*x≤A*B:=by
    have:A*(x+1)≤A*B:=Nat.mul_le_mul_left _ hx
    rw [Nat.mul_add,Nat.mul_one] at this
    omega
   have:B*n≤B*A:=by rw [Nat.mul_comm B A];omega
   exact Nat.le_of_mul_le_mul_left this hB
end Go.Proofs.YtdbjbbdhlpfhjaaGreatDoor
namespace Go.Proofs.YtdbjbbdhlpfhjaaGreatDoor
open Go.RowKit
open Lm
attribute [local go_sem ↓] Go.wp_at_zero Go.wp_at_succ

def ZA (w:World)(base:Nat)(b:Bool)(u:Value)(z:Int):Prop:=∃rs,Ans w base u rs∧b=decide (z<0)∧val rs=z.natAbs∧tr rs=rs

theorem fJ (n:Int)(w:World)(h1:-9223372036854775808≤n)(h2:n≤9223372036854775807) :
  Calls Tryz.prog 41 #[.int .i64 n] w fun e w'=>(∃b a l k,e=.returned (.agg #[.bool b,.slice a l k])∧ZA w' w.heap.size b (.slice a l k) n)∧Below w.heap.size w w':=by
 obtain⟨w0,hw0,hb0,hx0⟩:=aO w (.cells #[.bool false,.slice none 0 0] 27)
 by_cases hn:n<0
 ·obtain⟨m,hm⟩:∃m,IntKind.i64.wrap (-n)=m:=⟨_,rfl⟩
  have hm2:IntKind.u64.wrap m=((n.natAbs:Nat):Int):=by rw [←hm,IntKind.wrap_i64,IntKind.wrap_u64];omega
  have hm3:IntKind.u64.wrap ((n.natAbs:Nat):Int)=((n.natAbs:Nat):Int):=by rw [IntKind.wrap_u64];omega
  have HM:=jx n.natAbs w0 (by omega)
  have HB0:=aa hb0
  have HX0:=aa hx0
  clear hb0 hx0
  go_enter Tryz.func41,Tryz.ntmps41
  go_wp2_with fail
  refine HM.mono ?_
  rintro e w1 ⟨⟨v1,rfl,A1⟩,hb1⟩
  have HS:=ct true v1 _ _ w1 A1
  rw [cA true (tr_tr _) (val_tr _)] at HS
  have e1:zz true (val [n.natAbs])=n:=by simp [zz,val];omega
  rw [e1] at HS
  have hv:val (tr [n.natAbs])=n.natAbs:=by rw [val_tr];simp [val]
  have ht:=tr_tr [n.natAbs]
  generalize tr [n.natAbs]=rs at *
  obtain⟨a1,k1,rfl⟩:=A1.shape
  have HA1:=aa A1
  have HW1:=aa hb1
  have HV:=aa (And.intro hv ht)
  clear A1 hb1 HM e1 hv ht
  go_wp2_with fail
  refine HS.mono ?_
  rintro e w2 ⟨rfl,hb2⟩
  have HW:=aa (HW1.out.trans (hb2.mono HW1.out.size))
  have HAN:=aa ((HA1.out.below hb2).base HB0.out.size)
  have hbx:=ac HW.out HX0.out
  have hf1:=av hbx
  obtain⟨l0,l1⟩:=duo hbx
  have HBX:=aa hbx
  have HBE:=aa (HB0.out.trans (HW.out.mono HB0.out.size))
  clear hbx hb2 HS hw0
  obtain⟨ub,hub⟩:∃ub,decide (n<0)=ub:=⟨_,rfl⟩
  rw [hub]
  go_wp2
  have R5:=aI HBX.out (a':=.bool ub) (b':=.slice a1 rs.length k1)
  have HD:=aa (And.intro (HAN.out.duo (u0:=.bool ub) (u1:=.slice a1 rs.length k1) HBX.out) (aC HBE.out (g:=w.heap.size) (u0:=.bool ub) (u1:=.slice a1 rs.length k1) (Nat.le_refl _)))
  generalize (w2.setCell ⟨w.heap.size,0,none⟩ (.bool ub)).setCell ⟨w.heap.size,1,none⟩ (.slice a1 rs.length k1)=w5 at *
  obtain⟨q0,q1⟩:=duo R5
  refine bodyPost_ret (v:=.agg #[.bool ub,.slice a1 rs.length k1]) (by simp [results,Tryz.results41,go_sem,q0,q1]) rfl ?_
  exact⟨⟨_,_,_,_,rfl,rs,HD.out.1,hub.symm,HV.out⟩,HD.out.2⟩
 ·have hm2:IntKind.u64.wrap n=((n.natAbs:Nat):Int):=by rw [IntKind.wrap_u64];omega
  have hm3:IntKind.u64.wrap ((n.natAbs:Nat):Int)=((n.natAbs:Nat):Int):=by rw [IntKind.wrap_u64];omega
  have HM:=jx n.natAbs w0 (by omega)
  have HB0:=aa hb0
  have HX0:=aa hx0
  clear hb0 hx0
  go_enter Tryz.func41,Tryz.ntmps41
  go_wp2_with fail
  refine HM.mono ?_
  rintro e w1 ⟨⟨v1,rfl,A1⟩,hb1⟩
  have HS:=ct false v1 _ _ w1 A1
  rw [cA false (tr_tr _) (val_tr _)] at HS
  have e1:zz false (val [n.natAbs])=n:=by simp [zz,val];omega
  rw [e1] at HS
  have hv:val (tr [n.natAbs])=n.natAbs:=by rw [val_tr];simp [val]
  have ht:=tr_tr [n.natAbs]
  generalize tr [n.natAbs]=rs at *
  obtain⟨a1,k1,rfl⟩:=A1.shape
  have HA1:=aa A1
  have HW1:=aa hb1
  have HV:=aa (And.intro hv ht)
  clear A1 hb1 HM e1 hv ht
  go_wp2_with fail
  refine HS.mono ?_
  rintro e w2 ⟨rfl,hb2⟩
  have HW:=aa (HW1.out.trans (hb2.mono HW1.out.size))
  have HAN:=aa ((HA1.out.below hb2).base HB0.out.size)
  have hbx:=ac HW.out HX0.out
  have hf1:=av hbx
  obtain⟨l0,l1⟩:=duo hbx
  have HBX:=aa hbx
  have HBE:=aa (HB0.out.trans (HW.out.mono HB0.out.size))
  clear hbx hb2 HS hw0
  obtain⟨ub,hub⟩:∃ub,decide (n<0)=ub:=⟨_,rfl⟩
  rw [hub]
  go_wp2
  have R5:=aI HBX.out (a':=.bool ub) (b':=.slice a1 rs.length k1)
  have HD:=aa (And.intro (HAN.out.duo (u0:=.bool ub) (u1:=.slice a1 rs.length k1) HBX.out) (aC HBE.out (g:=w.heap.size) (u0:=.bool ub) (u1:=.slice a1 rs.length k1) (Nat.le_refl _)))
  generalize (w2.setCell ⟨w.heap.size,0,none⟩ (.bool ub)).setCell ⟨w.heap.size,1,none⟩ (.slice a1 rs.length k1)=w5 at *
  obtain⟨q0,q1⟩:=duo R5
  refine bodyPost_ret (v:=.agg #[.bool ub,.slice a1 rs.length k1]) (by simp [results,Tryz.results41,go_sem,q0,q1]) rfl ?_
  exact⟨⟨_,_,_,_,rfl,rs,HD.out.1,hub.symm,HV.out⟩,HD.out.2⟩

theorem fq (L:Nat)(v1 v2:Value)(X Y:List Nat)(w:World)(hL:w.heap[L]?=some (.cells #[v1,v2] 25))(hA:Arg w v1 X)(hB:Arg w v2 Y) :
  Calls Tryz.prog 45 #[.slice (some ⟨L,0,none⟩) 2 2] w fun e w'=>e=.returned (.bool (decide (67108864<blen (val X)∨67108864<blen (val Y))))∧w'=w:=by
 obtain⟨c0,c1⟩:=duo hL
 have L1:=bf v1 X w hA
 have L2:=bf v2 Y w hB
 obtain⟨a1,n1,rfl,_,_,_⟩:=hA.form
 obtain⟨a2,n2,rfl,_,_,_⟩:=hB.form
 clear hA hB hL
 generalize blen (val X)=lx at *
 generalize blen (val Y)=ly at *
 by_cases h1:67108864<lx
 ·have i1:(67108864:Int)<(lx:Int):=by omega
  rw [decide_eq_true (.inl h1)]
  go_enter Tryz.func45,Tryz.ntmps45
  go_wp2
  refine wp_loop_rounds 1 ?_
  rw [rounds_succ]
  go_wp2_with fail
  refine L1.mono ?_
  rintro e wn ⟨rfl,hw⟩;rw [hw];clear hw wn L1
  go_wp2
  go_ret
  exact⟨rfl,rfl⟩
 ·have i1:¬(67108864:Int)<(lx:Int):=by omega
  by_cases h2:67108864<ly
  ·have i2:(67108864:Int)<(ly:Int):=by omega
   rw [decide_eq_true (.inr h2)]
   go_enter Tryz.func45,Tryz.ntmps45
   go_wp2
   refine wp_loop_rounds 2 ?_
   rw [rounds_succ]
   go_wp2_with fail
   refine L1.mono ?_
   rintro e wn ⟨rfl,hw⟩;rw [hw];clear hw wn L1
   go_wp2
   rw [rounds_succ]
   go_wp2_with fail
   refine L2.mono ?_
   rintro e wn ⟨rfl,hw⟩;rw [hw];clear hw wn L2
   go_wp2
   go_ret
   exact⟨rfl,rfl⟩
  ·have i2:¬(67108864:Int)<(ly:Int):=by omega
   rw [decide_eq_false (by omega)]
   go_enter Tryz.func45,Tryz.ntmps45
   go_wp2
   refine wp_loop_rounds 3 ?_
   rw [rounds_succ]
   go_wp2_with fail
   refine L1.mono ?_
   rintro e wn ⟨rfl,hw⟩;rw [hw];clear hw wn L1
   go_wp2
   rw [rounds_succ]
   go_wp2_with fail
   refine L2.mono ?_
   rintro e wn ⟨rfl,hw⟩;rw [hw];clear hw wn L2
   go_wp2
   rw [rounds_succ]
   go_wp2
   go_ret
   exact⟨rfl,rfl⟩

def iz:Value:=.agg #[.func (.func 168) #[] #[],.func (.func 169) #[] #[],.func (.func 170) #[] #[],.func (.func 171) #[] #[],.func (.func 173) #[] #[]]

theorem mZ {P:Program}(w:World)(a:Addr)(m:Mode)(f:Fn)(x y:Array Value):(store a (.func f x y) m).run P w=stored P w a (.func f x y) m:=run_store P w a _ m rfl

attribute [local go_sem] mZ in
theorem wdivs_any (w:World):Calls Tryz.prog 130 #[] w fun e w'=>e=.returned iz∧Below w.heap.size w w':=by
 have HB:=aa (bo w (.cells #[.func (.func 168) #[] #[],.func (.func 169) #[] #[],.func (.func 170) #[] #[],.func (.func 171) #[] #[],.func (.func 173) #[] #[]] 151))
 go_enter Tryz.func130,Tryz.ntmps130
 go_wp2
 go_returns
 exact⟨rfl,HB.out⟩

def f9 (q r l:Value)(bl ap:Bool):Value:=.agg #[q,r,l,.bool bl,.bool ap]

theorem pu (a1 a2 a3:Option Addr)(n1 k1 n2 k2 n3 k3:Nat)(bl ap:Bool)(w:World):Calls Tryz.prog 169 #[f9 (.slice a1 n1 k1) (.slice a2 n2 k2) (.slice a3 n3 k3) bl ap] w fun e w'=>e=.returned (.bool ap)∧Below w.heap.size w w':=by
 obtain⟨w0,hw0,hb0,hx0⟩:=aO w (.cells #[.slice a1 n1 k1,.slice a2 n2 k2,.slice a3 n3 k3,.bool bl,.bool ap] 154)
 have c3:w0.cell? ⟨w.heap.size,3,none⟩=some (.bool bl):=by simp [World.cell?,hx0]
 have c4:w0.cell? ⟨w.heap.size,4,none⟩=some (.bool ap):=by simp [World.cell?,hx0]
 have HB0:=aa hb0
 clear hb0 hx0
 unfold f9
 go_enter Tryz.func169,Tryz.ntmps169
 go_wp2
 go_ret
 exact⟨rfl,HB0.out⟩

theorem mM (w:World):(Instr.index 151 iz (.int .i64 1)).run Tryz.prog w=.ok (.agg #[.func (.func 169) #[] #[]]) w:=by kernel_rfl

theorem kI (w:World):(Instr.field 150 (.agg #[.func (.func 169) #[] #[]]) 0).run Tryz.prog w=.ok (.func (.func 169) #[] #[]) w:=by kernel_rfl
end Go.Proofs.YtdbjbbdhlpfhjaaGreatDoor
namespace Go.Proofs.YtdbjbbdhlpfhjaaGreatDoor
open Go.RowKit
open Lm

theorem fp (w:World)(o1 o2 o3 o4:Obj):∃w0,(((w.alloc o1).alloc o2).alloc o3).alloc o4=w0∧Below w.heap.size w w0∧w0.heap[w.heap.size]?=some o1∧w0.heap[w.heap.size+1]?=some o2∧w0.heap[w.heap.size+2]?=some o3∧w0.heap[w.heap.size+3]?=some o4:=by
 obtain⟨w1,h1,b1,c1,c2,c3⟩:=dh w o1 o2 o3
 obtain⟨w2,h2,b2,c4⟩:=aO w1 o4
 have hs:w1.heap.size=w.heap.size+3:=by rw [←h1,World.size_alloc,World.size_alloc,World.size_alloc]
 refine⟨w2,by rw [h1];exact h2,b1.trans (b2.mono b1.size),?_,?_,?_,by rw [←hs];exact c4⟩
 ·rw [b2.block _ (lt_of_block c1)];exact c1
 ·rw [b2.block _ (lt_of_block c2)];exact c2
 ·rw [b2.block _ (lt_of_block c3)];exact c3

theorem cb {B:Nat}{w0 w:World}{g:Nat}{u0 u1 u2 u3:Value}(h:Below B w0 w)(hg:B≤g):Below B w0 ((((w.setCell ⟨g,0,none⟩ u0).setCell ⟨g,1,none⟩ u1).setCell ⟨g+1,0,none⟩ u2).setCell ⟨g+1,1,none⟩ u3):=
 aC (aC h hg) (by omega)

def nw (w:World)(base:Nat)(b1:Bool)(v1:Value)(b2:Bool)(v2:Value)(c qz rz:Int):Prop:=
 ∃rs1 rs2,Ans w base v1 rs1∧Ans w base v2 rs2∧(v1.ownBlock=none∨v1.ownBlock≠v2.ownBlock) ∧
  ((c=0∧b1=decide (qz<0)∧val rs1=qz.natAbs∧tr rs1=rs1∧b2=decide (rz<0)∧val rs2=rz.natAbs∧tr rs2=rs2∧blen qz.natAbs≤67108864∧blen rz.natAbs≤67108864) ∨
   (c=3∧b1=false∧v1=.slice none 0 0∧b2=false∧v2=.slice none 0 0∧rs1=[]∧rs2=[]∧(67108864<blen qz.natAbs∨67108864<blen rz.natAbs)))

def i8 (w:World)(qz rz:Int)(e:Ending)(w':World):Prop:=
 (∃b1 a1 n1 k1 b2 a2 n2 k2 c,e=.returned (.tuple #[.agg #[.bool b1,.slice a1 n1 k1],.agg #[.bool b2,.slice a2 n2 k2],.int .i64 c])∧nw w' w.heap.size b1 (.slice a1 n1 k1) b2 (.slice a2 n2 k2) c qz rz)∧Below w.heap.size w w'

theorem cH {w:World}{base g:Nat}{a b a' b' u0 u1 u2 u3:Value}(h2:w.heap[g]?=some (.cells #[a,b] 27))(h3:w.heap[g+1]?=some (.cells #[a',b'] 27)) :
  ((((w.setCell ⟨g,0,none⟩ u0).setCell ⟨g,1,none⟩ u1).setCell ⟨g+1,0,none⟩ u2).setCell ⟨g+1,1,none⟩ u3).heap[g]?=some (.cells #[u0,u1] 27) ∧
  ((((w.setCell ⟨g,0,none⟩ u0).setCell ⟨g,1,none⟩ u1).setCell ⟨g+1,0,none⟩ u2).setCell ⟨g+1,1,none⟩ u3).heap[g+1]?=some (.cells #[u2,u3] 27) ∧
  (∀v zs,Ans w base v zs→Ans ((((w.setCell ⟨g,0,none⟩ u0).setCell ⟨g,1,none⟩ u1).setCell ⟨g+1,0,none⟩ u2).setCell ⟨g+1,1,none⟩ u3) base v zs):=by
 have h4:=bA (u0:=u0) (u1:=u1) h3 (show g+1≠g by omega)
 refine⟨bA (aI h2) (by omega),aI h4,fun v zs hA=>?_⟩
 exact (hA.duo h2).duo h4
end Go.Proofs.YtdbjbbdhlpfhjaaGreatDoor
namespace Go.Proofs.YtdbjbbdhlpfhjaaGreatDoor
open Go.RowKit
open Lm
attribute [local go_sem ↓] Go.wp_at_zero Go.wp_at_succ



theorem bt6 {a b c:World}(h:Below a.heap.size a b)(k:Below b.heap.size b c):Below a.heap.size a c:=h.trans (k.mono h.size)

theorem cX {w w':World}(h:Below w.drew.heap.size w.drew w'):Below w.heap.size w w':=(Below.refl w.heap.size w).drew.trans h

theorem pz {b:Bool}{x m:Nat}(h:b=true∧0<x % m):er b x m=m - x % m:=if_pos h

theorem pi {b:Bool}{x m:Nat}(h:¬(b=true∧0<x % m)):er b x m=x % m:=if_neg h

theorem jq (b:Bool)(v:Value)(X:List Nat)(vm:Value)(M:List Nat)(w:World)(hA:Arg w v X)(hM:Arg w vm M)(hT:Tab w)(hx:X.length≤17592186044000)(hm:M.length≤17592186044000)(hm0:0<val M) :
  Calls Tryz.prog 44 #[.agg #[.bool b,v],vm] w (bE w (er b (val X) (val M))):=by
 obtain⟨a,c,rfl,_,_,_⟩:=hA.form
 obtain⟨a9,c9,rfl,_,_,_⟩:=hM.form
 obtain⟨w0,hw0,hb0,h0⟩:=aO w (.cells #[.bool b,.slice a X.length c] 27)
 obtain⟨k0,k1⟩:=duo h0
 have C:=wboth_any (blen (val X)) X M _ _ w0 (by omega) (hA.below hb0) (hM.below hb0) (hT.below hb0) hx hm hm0
 have HB0:=aa hb0
 have HX0:=aa h0
 have HM:=aa (hM.below hb0)
 clear hA hM hT hb0 h0
 go_enter Tryz.func44,Tryz.ntmps44
 go_wp2_with fail
 refine C.mono ?_
 rintro e w1 ⟨⟨v1,v2,r1,r2,rfl,A1,A2,_,_,e2,t2,_⟩,hb1⟩
 have hx1:=ac hb1 HX0.out
 obtain⟨k0,k1⟩:=duo hx1
 have HB1:=aa (bt6 HB0.out hb1)
 have hnz:=gc t2
 have hlt:=Nat.mod_lt (val X) hm0
 have hl2:r2.length≤17592186044000:=by
  rw [←t2]
  exact Nat.le_trans (aQ r2 M.length (by rw [e2];exact Nat.lt_trans hlt (val_lt HM.out.limbs))) hm
 obtain⟨a2,c2,rfl⟩:=A2.shape
 obtain⟨n,hn⟩:∃n,r2.length=n:=⟨_,rfl⟩
 rw [hn] at hnz hl2
 rw [hn]
 by_cases hp:b=true∧0<n
 ·obtain⟨rfl,hn0⟩:=hp
  have C2:=dp _ (.slice a2 r2.length c2) M r2 w1 (HM.out.below hb1) (A2.arg (by omega)) (by omega) (by rw [e2];omega)
  rw [e2,←pz (b:=true) ⟨rfl,by have:=hnz.1 hn0;omega⟩,hn] at C2
  have hni:(0:Int)<(n:Int):=by omega
  clear C A1 A2 e2 t2 hnz hlt hb1 hx1 hn0 hn
  go_wp2_with fail
  refine C2.mono ?_
  rintro e w2 ⟨⟨v3,r3,rfl,A3,e3,t3⟩,hb2⟩
  have HF:=aa (And.intro (A3.base HB1.out.size) (And.intro e3 (And.intro t3 (bt6 HB1.out hb2))))
  clear C2 A3 e3 t3 hb2
  go_wp2
  go_ret
  exact⟨⟨_,r3,rfl,HF.out.1,HF.out.2.1,HF.out.2.2.1⟩,HF.out.2.2.2⟩
 ·have he:val r2=er b (val X) (val M):=by
   rw [pi (fun h=>hp ⟨h.1,hnz.2 (by rw [e2];omega)⟩)]
   exact e2
  have HF:=aa (And.intro (A2.base HB0.out.size) (And.intro he (And.intro t2 HB1.out)))
  have hcs:b=false∨(b=true∧¬((0:Int)<(n:Int))):=by
   cases b
   ·exact .inl rfl
   ·exact .inr ⟨rfl,fun h=>hp ⟨rfl,by omega⟩⟩
  clear C A1 A2 e2 t2 hnz hlt hb1 hx1 hp he
  subst hn
  rcases hcs with rfl|⟨rfl,hni⟩
  all_goals
   go_wp2
   go_ret
   exact⟨⟨_,r2,rfl,HF.out.1,HF.out.2.1,HF.out.2.2.1⟩,HF.out.2.2.2⟩

theorem pM (b:Bool)(v:Value)(X:List Nat)(w:World)(hA:Arg w v X)(hf:X.length≤17592186044416) :
  Calls Tryz.prog 81 #[.bool b,v] w fun e w'=>jr w' w.heap.size e (zz b (val X))∧Below w.heap.size w w':=by
 obtain⟨w0,hw0,hb0,h0⟩:=aO w (.cells #[.bool false,.slice none 0 0] 27)
 have hf0:=av h0
 obtain⟨k0,k1⟩:=duo h0
 have L:=bf v X w0 (hA.below hb0)
 have HB0:=aa hb0
 have HX0:=aa h0
 have HA:=aa hA
 obtain⟨a,n,rfl,_,_,_⟩:=hA.form
 clear hA hb0 h0
 by_cases hbl:blen (val X)≤67108864
 ·have i1:¬(67108864:Int)<((blen (val X):Nat):Int):=by omega
  have HN:=ff _ X w0 (HA.out.below HB0.out) hf
  have HL:=aa hbl
  generalize hl:blen (val X)=l at *
  clear hbl
  go_enter Tryz.func81,Tryz.ntmps81
  go_wp2_with fail
  refine L.mono ?_
  rintro e wn ⟨rfl,hw⟩;rw [hw];clear hw wn L
  go_wp2_with fail
  refine HN.mono ?_
  rintro e w1 ⟨⟨v1,rfl,A1⟩,hb1⟩
  have HS:=ct b v1 (tr X) _ w1 A1
  have hsg:=cA b (tr_tr X) (val_tr X)
  rw [hsg] at HS
  have hsh:=A1.shape
  obtain⟨a1,n1,rfl⟩:=hsh
  have HA1:=aa A1
  have HB1:=aa hb1
  clear A1 hb1 HN k0 k1 hf0 hsg
  go_wp2_with fail
  refine HS.mono ?_
  rintro e w2 ⟨rfl,hb2⟩
  have HW:Hid (Below w0.heap.size w0 w2):=aa (HB1.out.trans (hb2.mono HB1.out.size))
  have HAN:=aa (HA1.out.below hb2)
  have hbx:=ac HW.out HX0.out
  have hf1:=av hbx
  obtain⟨l0,l1⟩:=duo hbx
  have HBX:=aa hbx
  have HBE:=aa (HB0.out.trans (HW.out.mono HB0.out.size))
  clear hbx
  clear hb2 HS HA1
  go_wp2
  have R5:=aI HBX.out (a':=.bool (decide (zz b (val X)<0))) (b':=.slice a1 (tr X).length n1)
  have HD:=aa (And.intro (HAN.out.duo (u0:=.bool (decide (zz b (val X)<0))) (u1:=.slice a1 (tr X).length n1) HBX.out) (aC HBE.out (g:=w.heap.size) (u0:=.bool (decide (zz b (val X)<0))) (u1:=.slice a1 (tr X).length n1) (Nat.le_refl _)))
  generalize (w2.setCell ⟨w.heap.size,0,none⟩ (.bool (decide (zz b (val X)<0)))).setCell ⟨w.heap.size,1,none⟩ (.slice a1 (tr X).length n1)=w5 at *
  obtain⟨q0,q1⟩:=duo R5
  refine bodyPost_ret (v:=.tuple #[.agg #[.bool (decide (zz b (val X)<0)),.slice a1 (tr X).length n1],.int .i64 0]) (by simp [results,Tryz.results81,go_sem,q0,q1]) rfl ?_
  exact⟨⟨_,_,_,_,0,rfl,tr X,HD.out.1.base HB0.out.size,.inl ⟨rfl,rfl,by rw [aF,val_tr],tr_tr X,by rw [aF,hl];exact HL.out⟩⟩,HD.out.2⟩
 ·have i1:(67108864:Int)<((blen (val X):Nat):Int):=by omega
  have HL:=aa hbl
  generalize hl:blen (val X)=l at *
  clear hbl
  go_enter Tryz.func81,Tryz.ntmps81
  go_wp2_with fail
  refine L.mono ?_
  rintro e wn ⟨rfl,hw⟩;rw [hw];clear hw wn L
  go_wp2
  have R5:=aI HX0.out (a':=.bool false) (b':=.slice none 0 0)
  have HD:=aa (aC HB0.out (g:=w.heap.size) (u0:=.bool false) (u1:=.slice none 0 0) (Nat.le_refl _))
  generalize (w0.setCell ⟨w.heap.size,0,none⟩ (.bool false)).setCell ⟨w.heap.size,1,none⟩ (.slice none 0 0)=w5 at *
  obtain⟨q0,q1⟩:=duo R5
  refine bodyPost_ret (v:=.tuple #[.agg #[.bool false,.slice none 0 0],.int .i64 3]) (by simp [results,Tryz.results81,go_sem,q0,q1]) rfl ?_
  exact⟨⟨_,_,_,_,3,rfl,[],Ans.nil _ _,.inr ⟨rfl,rfl,rfl,rfl,by rw [aF,hl];have:=HL.out;omega⟩⟩,HD.out⟩

theorem kz (b:Bool)(v:Value)(X:List Nat)(w:World)(hA:Arg w v X)(hf:X.length≤17592186044416) :
  Calls Tryz.prog 40 #[.agg #[.bool b,v]] w fun e w'=>jr w' w.heap.size e (zz false (val X))∧Below w.heap.size w w':=by
 obtain⟨a,n,rfl,_,_,_⟩:=hA.form
 obtain⟨w0,hw0,hb0,h0,hx0⟩:=bR w (.cells #[.bool b,.slice a X.length n] 27) (.cells #[.bool false,.slice none 0 0] 27)
 obtain⟨k0,k1⟩:=duo h0
 have HM:=pM false _ X w0 (hA.below hb0) hf
 have HB0:=aa hb0
 have HX0:=aa hx0
 generalize zz false (val X)=z at *
 clear hA hb0 h0 hx0
 go_enter Tryz.func40,Tryz.ntmps40
 go_wp2_with fail
 refine HM.mono ?_
 rintro e w1 ⟨⟨b1,a1,n1,k1,c1,rfl,hzr⟩,hb1⟩
 have HZR:=aa (hzr.base HB0.out.size)
 have HW:=aa hb1
 clear hzr hb1 HM hw0 k0
 have hbx:=ac HW.out HX0.out
 have hf1:=av hbx
 obtain⟨l0,l1⟩:=duo hbx
 have HBX:=aa hbx
 have HBE:=aa (HB0.out.trans (HW.out.mono HB0.out.size))
 clear hbx
 go_wp2
 have R5:=aI HBX.out (a':=.bool b1) (b':=.slice a1 n1 k1)
 have HD:=aa (And.intro (HZR.out.duo (u0:=.bool b1) (u1:=.slice a1 n1 k1) HBX.out) (aC HBE.out (g:=w.heap.size+1) (u0:=.bool b1) (u1:=.slice a1 n1 k1) (by omega)))
 generalize (w1.setCell ⟨w.heap.size+1,0,none⟩ (.bool b1)).setCell ⟨w.heap.size+1,1,none⟩ (.slice a1 n1 k1)=w5 at *
 obtain⟨q0,q1⟩:=duo R5
 refine bodyPost_ret (v:=.tuple #[.agg #[.bool b1,.slice a1 n1 k1],.int .i64 c1]) (by simp [results,Tryz.results40,go_sem,q0,q1]) rfl ?_
 exact⟨⟨_,_,_,_,_,rfl,HD.out.1⟩,HD.out.2⟩

theorem iE (w:World)(o1 o2 o3 o4 o5:Obj):∃w0,((((w.alloc o1).alloc o2).alloc o3).alloc o4).alloc o5=w0∧Below w.heap.size w w0∧w0.heap[w.heap.size]?=some o1∧w0.heap[w.heap.size+1]?=some o2∧w0.heap[w.heap.size+1+1]?=some o3∧w0.heap[w.heap.size+1+1+1]?=some o4∧w0.heap[w.heap.size+1+1+1+1]?=some o5:=by
 obtain⟨w1,h1,b1,c1,c2,c3,c4⟩:=fp w o1 o2 o3 o4
 obtain⟨w2,h2,b2,c5⟩:=aO w1 o5
 have hs:w1.heap.size=w.heap.size+4:=by rw [←h1,World.size_alloc,World.size_alloc,World.size_alloc,World.size_alloc]
 refine⟨w2,by rw [h1];exact h2,b1.trans (b2.mono b1.size),ac b2 c1,ac b2 c2,ac b2 c3,ac b2 c4,?_⟩
 have e:w.heap.size+1+1+1+1=w1.heap.size:=by omega
 rw [e];exact c5

theorem fO {w:World}{g:Nat}{a b a' b' a2 b2 u0 u1 u2 u3 u4 u5:Value}(h2:w.heap[g]?=some (.cells #[a,b] 27))(h3:w.heap[g+1]?=some (.cells #[a',b'] 27))(h4:w.heap[g+1+1]?=some (.cells #[a2,b2] 27)) :
  ((((((w.setCell ⟨g,0,none⟩ u0).setCell ⟨g,1,none⟩ u1).setCell ⟨g+1,0,none⟩ u2).setCell ⟨g+1,1,none⟩ u3).setCell ⟨g+1+1,0,none⟩ u4).setCell ⟨g+1+1,1,none⟩ u5).heap[g]?=some (.cells #[u0,u1] 27) ∧
  ((((((w.setCell ⟨g,0,none⟩ u0).setCell ⟨g,1,none⟩ u1).setCell ⟨g+1,0,none⟩ u2).setCell ⟨g+1,1,none⟩ u3).setCell ⟨g+1+1,0,none⟩ u4).setCell ⟨g+1+1,1,none⟩ u5).heap[g+1]?=some (.cells #[u2,u3] 27) ∧
  ((((((w.setCell ⟨g,0,none⟩ u0).setCell ⟨g,1,none⟩ u1).setCell ⟨g+1,0,none⟩ u2).setCell ⟨g+1,1,none⟩ u3).setCell ⟨g+1+1,0,none⟩ u4).setCell ⟨g+1+1,1,none⟩ u5).heap[g+1+1]?=some (.cells #[u4,u5] 27) ∧
  (∀base v zs,Ans w base v zs→Ans ((((((w.setCell ⟨g,0,none⟩ u0).setCell ⟨g,1,none⟩ u1).setCell ⟨g+1,0,none⟩ u2).setCell ⟨g+1,1,none⟩ u3).setCell ⟨g+1+1,0,none⟩ u4).setCell ⟨g+1+1,1,none⟩ u5) base v zs) ∧
  (∀B w0,B≤g→Below B w0 w→Below B w0 ((((((w.setCell ⟨g,0,none⟩ u0).setCell ⟨g,1,none⟩ u1).setCell ⟨g+1,0,none⟩ u2).setCell ⟨g+1,1,none⟩ u3).setCell ⟨g+1+1,0,none⟩ u4).setCell ⟨g+1+1,1,none⟩ u5)):=by
 have q:=fun base=>cH (base:=base) (u0:=u0) (u1:=u1) (u2:=u2) (u3:=u3) h2 h3
 have h5:=bA (u0:=u2) (u1:=u3) (bA (u0:=u0) (u1:=u1) h4 (show g+1+1≠g by omega)) (show g+1+1≠g+1 by omega)
 refine⟨bA (q 0).1 (by omega),bA (q 0).2.1 (by omega),aI h5,fun base v zs hA=>((q base).2.2 v zs hA).duo h5,fun B w0 hB hb=>?_⟩
 exact aC (aC (aC hb hB) (by omega)) (by omega)

theorem gU (L:Nat)(v1:Value)(X:List Nat)(w:World)(hL:w.heap[L]?=some (.cells #[v1] 25))(hA:Arg w v1 X) :
  Calls Tryz.prog 45 #[.slice (some ⟨L,0,none⟩) 1 1] w fun e w'=>e=.returned (.bool (decide (67108864<blen (val X))))∧w'=w:=by
 have c0:w.cell? ⟨L,0,none⟩=some v1:=by simp [World.cell?,hL]
 have L1:=bf v1 X w hA
 obtain⟨a1,n1,rfl,_,_,_⟩:=hA.form
 clear hA hL
 generalize blen (val X)=lx at *
 by_cases h1:67108864<lx
 ·have i1:(67108864:Int)<(lx:Int):=by omega
  rw [decide_eq_true h1]
  go_enter Tryz.func45,Tryz.ntmps45
  go_wp2
  refine wp_loop_rounds 1 ?_
  rw [rounds_succ]
  go_wp2_with fail
  refine L1.mono ?_
  rintro e wn ⟨rfl,hw⟩;rw [hw];clear hw wn L1
  go_wp2
  go_ret
  exact⟨rfl,rfl⟩
 ·have i1:¬(67108864:Int)<(lx:Int):=by omega
  rw [decide_eq_false h1]
  go_enter Tryz.func45,Tryz.ntmps45
  go_wp2
  refine wp_loop_rounds 2 ?_
  rw [rounds_succ]
  go_wp2_with fail
  refine L1.mono ?_
  rintro e wn ⟨rfl,hw⟩;rw [hw];clear hw wn L1
  go_wp2
  rw [rounds_succ]
  go_wp2
  go_ret
  exact⟨rfl,rfl⟩

theorem oE {X:List Nat}(ht:tr X=X):val X=1 ↔ X=[1]:=by
 constructor
 ·intro h
  have hl:X.length≤1:=bO ht (n:=1) (by rw [h];decide)
  have h1:1≤X.length:=fl (by omega)
  obtain⟨z,hz⟩:=List.length_eq_one_iff.1 (show X.length=1 by omega)
  subst hz
  simp [val] at h
  rw [h]
 ·intro h
  rw [h];simp [val]

theorem oH (v:Value)(X:List Nat)(w:World)(hA:Arg w v X)(ht:tr X=X) :
  Calls Tryz.prog 51 #[v] w fun e w'=>e=.returned (.bool (decide (val X=1)))∧Below w.heap.size w w':=by
 obtain⟨a,c,rfl,_,_,hl⟩:=hA.form
 have h1:=oE ht
 by_cases hx:X.length=1
 ·obtain⟨z,hz⟩:=List.length_eq_one_iff.1 hx
  subst hz
  obtain⟨g,o,rfl,hc⟩:∃g o,a=some ⟨g,o,none⟩∧∀k,k<[z].length→w.cell? ⟨g,o+k,none⟩=some (lv ([z].getD k 0)):=by
   rcases hl with h|⟨g,o,h,hc⟩
   ·simp at h
   ·exact⟨g,o,h,hc⟩
  have c0:w.cell? ⟨g,o,none⟩=some (.int .u64 (z:Int)):=by
   have h9:w.cell? ⟨g,o,none⟩=some (lv z):=by simpa using hc 0 (by simp)
   exact h9
  have HB:Hid (Below w.heap.size w w):=aa (Below.refl _ _)
  have hz1:([z]=[1]) ↔ z=1:=by simp
  rw [hz1] at h1
  clear hA hl hc
  by_cases h:z=1
  ·rw [decide_eq_true (h1.2 h)]
   subst h
   clear h1 hz1
   go_enter Tryz.func51,Tryz.ntmps51
   go_wp2
   go_ret
   exact⟨rfl,Below.refl _ _⟩
  ·rw [decide_eq_false (fun e=>h (h1.1 e))]
   have hb:((z:Int) == 1)=false:=by rw [beq_eq_false_iff_ne];omega
   have hb2:¬(z:Int)=1:=by omega
   clear h1 hz1
   go_enter Tryz.func51,Tryz.ntmps51
   go_wp2
   go_ret
   exact⟨rfl,Below.refl _ _⟩
 ·rw [decide_eq_false (fun e=>hx (by rw [h1.1 e];rfl))]
  have i1:¬(X.length:Int)=1:=by omega
  have i2:((X.length:Int) == 1)=false:=by rw [beq_eq_false_iff_ne];omega
  clear h1 hA hl hx
  go_enter Tryz.func51,Tryz.ntmps51
  go_wp2
  go_ret
  exact⟨rfl,Below.refl _ _⟩

structure dX (az bz:Int)(g:Nat)(x y:Int):Prop where
 eq:az*x+bz*y=(g:Int)
 gcd:g=Nat.gcd az.natAbs bz.natAbs
 none:bz=0→x=az.sign∧y=0
 some:bz≠0→0≤x∧x.natAbs*g<bz.natAbs
 ly:y.natAbs≤az.natAbs∨y.natAbs≤1

theorem kC (ba bb:Bool)(A B x:Nat)(hB:0<B)(hi:IsInv B (er ba A B) (Nat.gcd B (er ba A B)) x) :
  dX (zz ba A) (zz bb B) (Nat.gcd B (er ba A B)) (x:Int) (oth ba bb A B (Nat.gcd B (er ba A B)) x):=by
 have hg:=iq ba A B hB
 obtain⟨h1,h2⟩:=oM ba bb A B (Nat.gcd B (er ba A B)) x hB hg hi
 have hz:zz bb B≠0:=fun e=>by have:=aF bb B;rw [e] at this;simp at this;omega
 have hg0:0<Nat.gcd B (er ba A B):=Nat.gcd_pos_of_pos_left _ hB
 refine⟨h1,by rw [aF,aF];exact hg,fun e=>absurd e hz,fun _=>⟨Int.natCast_nonneg _,?_⟩,by rw [aF];exact h2⟩
 rw [aF,Int.natAbs_natCast]
 rcases hi.lt with h|⟨h,_⟩
 ·exact h
 ·rw [h,Nat.zero_mul];exact hB

theorem o7 (ba bb:Bool)(A:Nat):dX (zz ba A) (zz bb 0) A (zz ba A).sign 0:=by
 refine⟨?_,by rw [aF,fD];simp,fun _=>⟨rfl,rfl⟩,fun h=>absurd (fD bb) h,.inr (by simp)⟩
 rw [Int.mul_zero,Int.add_zero,Int.mul_sign_self,aF]
end Go.Proofs.YtdbjbbdhlpfhjaaGreatDoor

