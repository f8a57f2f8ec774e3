/- The document's Inverse. -/
import Derived.Test.YtdbjbbdhlpfhjaaGreatDoorB15
import Derived.Test.YtdbjbbdhlpfhjaaGreatDoorB12
import Derived.Deep.CutBlock
import Derived.Deep.DeepCutAuto
namespace Go.Proofs.YtdbjbbdhlpfhjaaGreatDoor
open Go.RowKit
open Lm
attribute [local go_sem ↓] Go.wp_at_zero Go.wp_at_succ

theorem gT (w:World):Zn w (.agg #[.bool false,.slice none 0 0]) 0:=⟨_,rfl,Num.nil w⟩

theorem jh {m a x y fx fy:Nat}{o:Bool}(h:Fac m a x y fx fy o)(hx:0<x)(hm:0<m)(hya:a<m):x≤m∧y≤m∧fx≤m∧fy≤m:=by
 have h1:=h.sum
 have h2:=fN h hm
 have h3:=fO h hx
 have h4:x≤x*fy:=Nat.le_mul_of_pos_right _ h2
 have h5:=h.le
 have h6:=h.yle
 exact⟨by omega,by omega,by omega,h3⟩

theorem jE (o:Bool)(n:Nat):(sx o n).natAbs=n:=by cases o <;> simp [sx,fsg]

theorem jZ (o:Bool)(n:Nat):(sy o n).natAbs=n:=by cases o <;> simp [sy,fsg]

set_option maxRecDepth 20000 in
set_option maxHeartbeats 8000000 in
theorem iA (ba:Bool)(A m g:Nat)(va vm vg:Value)(w:World)(h1:Zn w va (zz ba A))(h2:Zn w vm (m:Int))(h3:Zn w vg (g:Int))(hm:0<m)(hg:g=Nat.gcd m (er ba A m))(fA:blen A≤67108864)(fm:blen m≤67108864) :
  Calls Tryz.prog 13 #[va,vm,vg] w fun e w'=>∃x:Nat,IsInv m (er ba A m) (Nat.gcd m (er ba A m)) x∧bE w (x:Int) e w':=by
 obtain⟨b1,a1,n1,k1,rfl,e1,hn1,e2⟩:=h1.parts
 obtain⟨b2,a2,n2,k2,rfl,e3,hn2,e4⟩:=h2.parts
 obtain⟨b3,a3,n3,k3,rfl,e5,hn3,e6⟩:=h3.parts
 clear e1 e2 e3 e4 e5 e6 hn1 hn2 hn3
 obtain⟨rfl,_⟩:=kH h2
 obtain⟨rfl,_⟩:=kH h3
 obtain⟨a,ha⟩:∃a,er ba A m=a:=⟨_,rfl⟩
 have hlt:=gL ba A m hm
 rw [ha] at hg hlt ⊢
 obtain⟨w0,hw0,hb0,hx0,hx1,hx2,hx3⟩:=dj w (.cells #[.bool b1,.slice a1 n1 k1] 32) (.cells #[.bool false,.slice a2 n2 k2] 32) (.cells #[.bool false,.slice a3 n3 k3] 32) (.cells #[.bool false,.slice none 0 0] 32)
 obtain⟨k0,k1'⟩:=duo hx0
 obtain⟨k2',k3'⟩:=duo hx1
 have HX0:=ac hx0
 have HX1:=ac hx1
 have HX2:=ac hx2
 have HX3:=ac hx3
 have HB0:=ac hb0
 have HZ1:=ac (h1.below hb0)
 have HZ2:=ac (h2.below hb0)
 have HZ3:=ac (h3.below hb0)
 have HN:=ac (And.intro hm (And.intro hlt (And.intro hg (And.intro fA (And.intro fm ha)))))
 clear h1 h2 h3 hb0 hx0 hx1 hx2 hx3 hm hlt hg fA fm ha
 obtain⟨p1,hp1,hbz,hz0,hz1⟩:=bD w0 (.cells #[.bool false,.slice none 0 0] 32) (.cells #[.bool false,.slice none 0 0] 32)
 obtain⟨za,zb⟩:=duo hz0
 obtain⟨zc,zd⟩:=duo hz1
 have zf1:=av hz0
 have zf2:=av hz1
 obtain⟨R1,R2,q4⟩:=cb (b1:=false) (u1:=.slice a2 n2 k2) (b2:=false) (u2:=.slice none 0 0) hz0 hz1
 have hbn:Below w0.heap.size w0 ((((p1.setCell ⟨w0.heap.size,0,none⟩ (.bool false)).setCell ⟨w0.heap.size,1,none⟩ (.slice a2 n2 k2)).setCell ⟨w0.heap.size+1,0,none⟩ (.bool false)).setCell ⟨w0.heap.size+1,1,none⟩ (.slice none 0 0)):=aC (aC hbz (Nat.le_refl _)) (by omega)
 obtain⟨p2,hp2⟩:∃p2,(((p1.setCell ⟨w0.heap.size,0,none⟩ (.bool false)).setCell ⟨w0.heap.size,1,none⟩ (.slice a2 n2 k2)).setCell ⟨w0.heap.size+1,0,none⟩ (.bool false)).setCell ⟨w0.heap.size+1,1,none⟩ (.slice none 0 0)=p2:=⟨_,rfl⟩
 have Q4:∀v z,Zn w0 v z→Zn p2 v z:=fun v z hz=>by rw [←hp2];exact q4 v z (hz.below hbz)
 rw [hp2] at R1 R2 hbn
 clear q4 hbz hz0 hz1
 have B7:=ac (show ZB p2 w0.heap.size (m:Int) from ⟨_,_,_,_,R1,Q4 _ _ HZ2.out⟩)
 have B8:=ac (show ZB p2 (w0.heap.size+1) 0 from ⟨_,_,_,_,R2,gT p2⟩)
 have HP:=ac hbn
 clear R1 R2 Q4 hbn
 have C:=jT (.agg #[.bool b1,.slice a1 n1 k1]) (.agg #[.bool false,.slice a2 n2 k2]) (zz ba A) (m:Int) p2 (HZ1.out.below HP.out) (HZ2.out.below HP.out) (by have:=HN.out.1;omega) (by rw [aB];have:=HN.out.2.2.2.1;omega) (by rw [Int.natAbs_natCast];have:=HN.out.2.2.2.2.1;omega)
 rw [jN ba A m HN.out.1,HN.out.2.2.2.2.2] at C
 obtain⟨k4,k5⟩:=duo (ae HP.out HX0.out)
 obtain⟨k6,k7⟩:=duo (ae HP.out HX1.out)
 go_enter Tryz.func13,Tryz.ntmps13
 go_wp2_with fail
 clear hw0 k0 k1' k2' k3' k4 k5 k6 k7
 clear hp1 hp2 za zb zc zd zf1 zf2
 refine C.mono ?_
 rintro e t2 ⟨⟨b5,a5,n5,k5,b6,a6,n6,k6,rfl,Z5,Z6⟩,hb2⟩
 obtain⟨r1,hr1,hbz,hz0,hz1⟩:=bD t2 (.cells #[.bool false,.slice none 0 0] 32) (.cells #[.bool false,.slice none 0 0] 32)
 obtain⟨za,zb⟩:=duo hz0
 obtain⟨zc,zd⟩:=duo hz1
 have zf1:=av hz0
 have zf2:=av hz1
 obtain⟨R1,R2,q4⟩:=cb (b1:=b5) (u1:=.slice a5 n5 k5) (b2:=b6) (u2:=.slice a6 n6 k6) hz0 hz1
 have hbn:Below t2.heap.size t2 ((((r1.setCell ⟨t2.heap.size,0,none⟩ (.bool b5)).setCell ⟨t2.heap.size,1,none⟩ (.slice a5 n5 k5)).setCell ⟨t2.heap.size+1,0,none⟩ (.bool b6)).setCell ⟨t2.heap.size+1,1,none⟩ (.slice a6 n6 k6)):=aC (aC hbz (Nat.le_refl _)) (by omega)
 obtain⟨r2,hr2⟩:∃r2,(((r1.setCell ⟨t2.heap.size,0,none⟩ (.bool b5)).setCell ⟨t2.heap.size,1,none⟩ (.slice a5 n5 k5)).setCell ⟨t2.heap.size+1,0,none⟩ (.bool b6)).setCell ⟨t2.heap.size+1,1,none⟩ (.slice a6 n6 k6)=r2:=⟨_,rfl⟩
 have Q4:∀v z,Zn t2 v z→Zn r2 v z:=fun v z hz=>by rw [←hr2];exact q4 v z (hz.below hbz)
 rw [hr2] at R1 R2 hbn
 clear q4 hbz hz0 hz1
 have B10:=ac (show ZB r2 (t2.heap.size+1) (a:Int) from ⟨_,_,_,_,R2,Q4 _ _ Z6⟩)
 have HG2:=ac (show w0.heap.size+2≤t2.heap.size by
  obtain⟨_,_,_,_,h4,_⟩:=B8.out
  have:=bh h4
  have:=hb2.size
  omega)
 have hb:=aA hb2 hbn
 replace B7:=ac (B7.out.below hb)
 replace B8:=ac (B8.out.below hb)
 replace HP:=ac (aA HP.out hb)
 clear R1 R2 Q4 hbn hb hb2 Z5 Z6 C
 have C:=dO 1 r2 (by omega) (by omega)
 go_wp2_with fail
 clear hr1 hr2 za zb zc zd zf1 zf2
 refine C.mono ?_
 rintro e t5 ⟨⟨b7,a7,n7,k7,rfl,Z7⟩,hb5⟩
 obtain⟨t6,ht6,hb6,hx6⟩:=aL t5 (.cells #[.bool false,.slice none 0 0] 32)
 obtain⟨za,zb⟩:=duo hx6
 have zf:=av hx6
 have RX:=aH (a':=.bool b7) (b':=.slice a7 n7 k7) hx6
 have hb7:Below t5.heap.size t5 ((t6.setCell ⟨t5.heap.size,0,none⟩ (.bool b7)).setCell ⟨t5.heap.size,1,none⟩ (.slice a7 n7 k7)):=aC hb6 (Nat.le_refl _)
 have Z8:=(Z7.below hb6).duo (p1:=b7) (r1:=.slice a7 n7 k7) hx6
 obtain⟨t7,ht7⟩:∃t7,(t6.setCell ⟨t5.heap.size,0,none⟩ (.bool b7)).setCell ⟨t5.heap.size,1,none⟩ (.slice a7 n7 k7)=t7:=⟨_,rfl⟩
 rw [ht7] at RX hb7 Z8
 have B11:=ac (show ZB t7 t5.heap.size 1 from ⟨_,_,_,_,RX,Z8⟩)
 have HG5:=ac (show t2.heap.size+2≤t5.heap.size by
  obtain⟨_,_,_,_,h4,_⟩:=B10.out
  have:=bh h4
  have:=hb5.size
  omega)
 have hb:=aA hb5 hb7
 replace B7:=ac (B7.out.below hb)
 replace B8:=ac (B8.out.below hb)
 replace B10:=ac (B10.out.below hb)
 replace HP:=ac (aA HP.out hb)
 clear hb hb5 hb6 hx6 RX hb7 Z7 Z8 C
 have HD:=ac (show w0.heap.size≠w0.heap.size+1∧w0.heap.size≠t2.heap.size+1∧w0.heap.size≠t5.heap.size∧w0.heap.size+1≠t2.heap.size+1∧w0.heap.size+1≠t5.heap.size∧t2.heap.size+1≠t5.heap.size by have:=HG2.out;have:=HG5.out;omega)
 have HU:=ac (show w0.heap.size≤t2.heap.size+1∧w0.heap.size≤t5.heap.size by have:=HG2.out;have:=HG5.out;omega)
 clear HG2 HG5
 go_wp2
 clear ht6 ht7 za zb zf
 obtain⟨G7,hG7⟩:∃G,w0.heap.size=G:=⟨_,rfl⟩
 rw [hG7] at B7 B8 HD HU
 obtain⟨G8,hG8⟩:∃G,G7+1=G:=⟨_,rfl⟩
 rw [hG8] at B8 HD
 obtain⟨G10,hG10⟩:∃G,t2.heap.size+1=G:=⟨_,rfl⟩
 rw [hG10] at B10 HD HU
 obtain⟨G11,hG11⟩:∃G,t5.heap.size=G:=⟨_,rfl⟩
 rw [hG11] at B11 HD HU
 simp only [hG7,hG8,hG10,hG11]
 go_loopw [12] (fun _ wr=>∃(x y fx fy:Nat) (o:Bool),ZB wr G7 (x:Int)∧ZB wr G10 (y:Int)∧ZB wr G8 (sx o fx)∧ZB wr G11 (sy o fy)∧Fac m a x y fx fy o∧0<x∧y≤x∧Below w0.heap.size w0 wr) (fun _ wr=>zof wr G10)
 case atStart=>exact⟨m,a,0,1,false,B7.out,B10.out,by simpa [sx] using B8.out,by simpa [sy,fsg] using B11.out,Fac.start m a,HN.out.1,Nat.le_of_lt HN.out.2.1,HP.out⟩
 case round=>
  obtain⟨x,y,fx,fy,o,h7,h10,h8,h11,hfac,hx0,hle,hbw⟩:=hrel
  have HLE:=ac hle
  have H7:=ac h7
  have H8:=ac h8
  have H10:=ac h10
  have H11:=ac h11
  have HF:=ac hfac
  have HB:=ac hbw
  obtain⟨bt,at',nt,kt,et,zt⟩:=h10
  have C:=dp (.agg #[.bool bt,.slice at' nt kt]) (y:Int) wr zt
  obtain⟨q0,q1⟩:=duo et
  clear h7 h8 h11 hfac hbw B7 B8 B10 B11 HP
  by_cases hy0:y=0
  ·have sg:((y:Nat):Int).sign=0:=by rw [hy0];rfl
   rw [sg] at C
   clear sg zt et
   go_wp2_with fail
   refine C.mono ?_
   rintro e u1 ⟨rfl,hb1⟩
   clear C q0 q1
   have hfac:=HF.out
   rw [hy0] at hfac
   obtain⟨e1,e2,e3⟩:=hfac.ended HN.out.1 HN.out.2.1
   have hxg:x=g:=e1.trans HN.out.2.2.1.symm
   obtain⟨hst,xi,hxi,hinv⟩:=pY hfac HN.out.1 HN.out.2.1
   rw [hxg] at hst hxi hx0
   have hgm:g≤m:=by rw [HN.out.2.2.1];exact Nat.gcd_le_left _ HN.out.1
   have hbd:=jh HF.out (by rw [hxg];exact hx0) HN.out.1 HN.out.2.1
   have HW1:=ac (aA HB.out hb1)
   have C:=fc (.agg #[.bool false,.slice a2 n2 k2]) (.agg #[.bool false,.slice a3 n3 k3]) (m:Int) (g:Int) u1 (HZ2.out.below HW1.out) (HZ3.out.below HW1.out) (by omega) (by rw [Int.natAbs_natCast];have:=HN.out.2.2.2.2.1;omega) (by rw [Int.natAbs_natCast];have:=bA hgm;have:=HN.out.2.2.2.2.1;omega)
   rw [(fU m g hx0).2,(fU m g hx0).1] at C
   obtain⟨q0,q1⟩:=duo (ae HW1.out HX1.out)
   obtain⟨q2,q3⟩:=duo (ae HW1.out HX2.out)
   have HS8:=ac (H8.out.below hb1)
   have HE:=ac (And.intro hst (And.intro hxi (And.intro hinv hbd)))
   clear hfac e1 e2 e3 hxg hst hxi hinv hbd hgm hb1 H7 H8 H10 H11 HF HB hy0 hx0
   go_wp2_with fail
   refine C.mono ?_
   rintro e c1 ⟨⟨b5',a5',n5',k5',b6',a6',n6',k6',rfl,Z5,Z6⟩,hb2⟩
   clear C q0 q1 q2 q3
   obtain⟨f1,hf1,hbz,hz0,hz1⟩:=bD c1 (.cells #[.bool false,.slice none 0 0] 32) (.cells #[.bool false,.slice none 0 0] 32)
   obtain⟨za,zb⟩:=duo hz0
   obtain⟨zc,zd⟩:=duo hz1
   have zf1:=av hz0
   have zf2:=av hz1
   obtain⟨R1,R2,q4⟩:=cb (b1:=b5') (u1:=.slice a5' n5' k5') (b2:=b6') (u2:=.slice a6' n6' k6') hz0 hz1
   have hbn:Below c1.heap.size c1 ((((f1.setCell ⟨c1.heap.size,0,none⟩ (.bool b5')).setCell ⟨c1.heap.size,1,none⟩ (.slice a5' n5' k5')).setCell ⟨c1.heap.size+1,0,none⟩ (.bool b6')).setCell ⟨c1.heap.size+1,1,none⟩ (.slice a6' n6' k6')):=aC (aC hbz (Nat.le_refl _)) (by omega)
   obtain⟨f2,hf2⟩:∃f2,(((f1.setCell ⟨c1.heap.size,0,none⟩ (.bool b5')).setCell ⟨c1.heap.size,1,none⟩ (.slice a5' n5' k5')).setCell ⟨c1.heap.size+1,0,none⟩ (.bool b6')).setCell ⟨c1.heap.size+1,1,none⟩ (.slice a6' n6' k6')=f2:=⟨_,rfl⟩
   have Q4:∀v z,Zn c1 v z→Zn f2 v z:=fun v z hz=>by rw [←hf2];exact q4 v z (hz.below hbz)
   rw [hf2] at R1 R2 hbn
   clear q4 hbz hz0 hz1
   have hb:=aA hb2 hbn
   have ZS:=ac (Q4 _ _ Z5)
   have HS8:=ac (HS8.out.below hb)
   have HW2:=ac (aA HW1.out hb)
   obtain⟨bs,as',ns,ks,es,zs⟩:=HS8.out
   have C:=jT (.agg #[.bool bs,.slice as' ns ks]) (.agg #[.bool b5',.slice a5' n5' k5']) (sx o fx) ((m / g:Nat):Int) f2 zs ZS.out (by have:=HE.out.1;omega) (by rw [jE];have h1:=bA HE.out.2.2.2.2.2.1;have:=HN.out.2.2.2.2.1;omega) (by rw [Int.natAbs_natCast];have h1:=bA (Nat.div_le_self m g);have:=HN.out.2.2.2.2.1;omega)
   rw [HE.out.2.1] at C
   obtain⟨q0,q1⟩:=duo es
   obtain⟨q2,q3⟩:=duo R1
   clear Q4 hbn hb hb2 Z5 Z6 zs es R1 R2
   go_wp2_with fail
   clear hf1 hf2 za zb zc zd zf1 zf2
   refine C.mono ?_
   rintro e c2 ⟨⟨b7',a7',n7',k7',b8',a8',n8',k8',rfl,Z7,Z8⟩,hb3⟩
   clear C q0 q1 q2 q3
   obtain⟨kk1,hkk1,hbz,hz0,hz1⟩:=bD c2 (.cells #[.bool false,.slice none 0 0] 32) (.cells #[.bool false,.slice none 0 0] 32)
   obtain⟨za,zb⟩:=duo hz0
   obtain⟨zc,zd⟩:=duo hz1
   have zf1:=av hz0
   have zf2:=av hz1
   obtain⟨R1,R2,q4⟩:=cb (b1:=b7') (u1:=.slice a7' n7' k7') (b2:=b8') (u2:=.slice a8' n8' k8') hz0 hz1
   have hbn:Below c2.heap.size c2 ((((kk1.setCell ⟨c2.heap.size,0,none⟩ (.bool b7')).setCell ⟨c2.heap.size,1,none⟩ (.slice a7' n7' k7')).setCell ⟨c2.heap.size+1,0,none⟩ (.bool b8')).setCell ⟨c2.heap.size+1,1,none⟩ (.slice a8' n8' k8')):=aC (aC hbz (Nat.le_refl _)) (by omega)
   obtain⟨kk2,hkk2⟩:∃kk2,(((kk1.setCell ⟨c2.heap.size,0,none⟩ (.bool b7')).setCell ⟨c2.heap.size,1,none⟩ (.slice a7' n7' k7')).setCell ⟨c2.heap.size+1,0,none⟩ (.bool b8')).setCell ⟨c2.heap.size+1,1,none⟩ (.slice a8' n8' k8')=kk2:=⟨_,rfl⟩
   have Q4:∀v z,Zn c2 v z→Zn kk2 v z:=fun v z hz=>by rw [←hkk2];exact q4 v z (hz.below hbz)
   rw [hkk2] at R1 R2 hbn
   clear q4 hbz hz0 hz1
   have hb:=aA hb3 hbn
   have ZX:=ac (Q4 _ _ Z8)
   have HX9:=ac (ae (aA HW2.out hb) HX3.out)
   have HB9:=ac (aA HB0.out (aA HW2.out hb))
   obtain⟨q2,q3⟩:=duo R2
   have f9:=av HX9.out
   obtain⟨l0,l1⟩:=duo HX9.out
   clear Q4 hbn hb hb3 Z7 Z8 R1 R2
   go_wp2
   clear hkk1 hkk2 za zb zc zd zf1 zf2
   have R5:=aH HX9.out (a':=.bool b8') (b':=.slice a8' n8' k8')
   have HDD:=ac (And.intro (ZX.out.duo (p1:=b8') (r1:=.slice a8' n8' k8') HX9.out) (aC HB9.out (g:=w.heap.size+3) (u0:=.bool b8') (u1:=.slice a8' n8' k8') (by omega)))
   generalize (kk2.setCell ⟨w.heap.size+3,0,none⟩ (.bool b8')).setCell ⟨w.heap.size+3,1,none⟩ (.slice a8' n8' k8')=w5 at *
   obtain⟨p0,p1'⟩:=duo R5
   refine bodyPost_ret (v:=.agg #[.bool b8',.slice a8' n8' k8']) (by simp [results,Tryz.results13,go_sem,p0,p1']) rfl ?_
   exact⟨xi,HE.out.2.2.1,⟨_,_,_,_,rfl,HDD.out.1⟩,HDD.out.2⟩
  ·have sg:((y:Nat):Int).sign=1:=Int.sign_eq_one_of_pos (by omega)
   rw [sg] at C
   have hy1:0<y:=by omega
   clear sg
   go_wp2_with fail
   refine C.mono ?_
   rintro e u1 ⟨rfl,hb1⟩
   clear C q0 q1
   obtain⟨bt',ar,nr,kr,er',zr⟩:=H7.out
   have hbd:=jh HF.out hx0 HN.out.1 HN.out.2.1
   have C:=fc (.agg #[.bool bt',.slice ar nr kr]) (.agg #[.bool bt,.slice at' nt kt]) (x:Int) (y:Int) u1 (zr.below hb1) (zt.below hb1) (by omega) (by rw [Int.natAbs_natCast];have:=bA hbd.1;have:=HN.out.2.2.2.2.1;omega) (by rw [Int.natAbs_natCast];have:=bA hbd.2.1;have:=HN.out.2.2.2.2.1;omega)
   rw [(fU x y hy1).2,(fU x y hy1).1] at C
   obtain⟨q0,q1⟩:=duo (ae hb1 er')
   obtain⟨q2,q3⟩:=duo (ae hb1 et)
   have H1:=ac hb1
   have HBD:=ac hbd
   clear zr zt er' et hb1 hbd hy0
   go_wp2_with fail
   refine C.mono ?_
   rintro e u2 ⟨⟨b5',a5',n5',k5',b6',a6',n6',k6',rfl,Z5,Z6⟩,hb2⟩
   clear C q0 q1 q2 q3
   obtain⟨v1,hv1,hbz,hz0,hz1⟩:=bD u2 (.cells #[.bool false,.slice none 0 0] 32) (.cells #[.bool false,.slice none 0 0] 32)
   obtain⟨za,zb⟩:=duo hz0
   obtain⟨zc,zd⟩:=duo hz1
   have zf1:=av hz0
   have zf2:=av hz1
   obtain⟨R1,R2,q4⟩:=cb (b1:=b5') (u1:=.slice a5' n5' k5') (b2:=b6') (u2:=.slice a6' n6' k6') hz0 hz1
   have hbn:Below u2.heap.size u2 ((((v1.setCell ⟨u2.heap.size,0,none⟩ (.bool b5')).setCell ⟨u2.heap.size,1,none⟩ (.slice a5' n5' k5')).setCell ⟨u2.heap.size+1,0,none⟩ (.bool b6')).setCell ⟨u2.heap.size+1,1,none⟩ (.slice a6' n6' k6')):=aC (aC hbz (Nat.le_refl _)) (by omega)
   obtain⟨v2,hv2⟩:∃v2,(((v1.setCell ⟨u2.heap.size,0,none⟩ (.bool b5')).setCell ⟨u2.heap.size,1,none⟩ (.slice a5' n5' k5')).setCell ⟨u2.heap.size+1,0,none⟩ (.bool b6')).setCell ⟨u2.heap.size+1,1,none⟩ (.slice a6' n6' k6')=v2:=⟨_,rfl⟩
   have Q4:∀v z,Zn u2 v z→Zn v2 v z:=fun v z hz=>by rw [←hv2];exact q4 v z (hz.below hbz)
   rw [hv2] at R1 R2 hbn
   clear q4 hbz hz0 hz1
   have hb:=aA (aA H1.out hb2) hbn
   have E12:=ac (show ZB v2 u2.heap.size ((x / y:Nat):Int) from ⟨_,_,_,_,R1,Q4 _ _ Z5⟩)
   have E13:=ac (show ZB v2 (u2.heap.size+1) ((x % y:Nat):Int) from ⟨_,_,_,_,R2,Q4 _ _ Z6⟩)
   have E7:=ac (H7.out.below hb)
   have E8:=ac (H8.out.below hb)
   have E10:=ac (H10.out.below hb)
   have E11:=ac (H11.out.below hb)
   have EB:=ac (aA HB.out hb)
   have HU2:=ac (show G7≤u2.heap.size∧G7<u2.heap.size∧G10<u2.heap.size∧G8<u2.heap.size∧G11<u2.heap.size by
    have h1:=(aA H1.out hb2).size
    obtain⟨_,_,_,_,h7,_⟩:=H7.out
    obtain⟨_,_,_,_,h8,_⟩:=H8.out
    obtain⟨_,_,_,_,h10,_⟩:=H10.out
    obtain⟨_,_,_,_,h11,_⟩:=H11.out
    have:=bh h7
    have:=bh h8
    have:=bh h10
    have:=bh h11
    omega)
   have HM:=ac (show zof wr G10=y by rw [H10.out.zof,Int.natAbs_natCast])
   clear R1 R2 Q4 hbn hb hb2 Z5 Z6 H7 H8 H10 H11 H1 HB
   have HD13:=ac (show G7≠u2.heap.size+1∧G10≠u2.heap.size+1∧G8≠u2.heap.size+1∧G11≠u2.heap.size+1∧G7≠u2.heap.size∧G10≠u2.heap.size∧G8≠u2.heap.size∧G11≠u2.heap.size by have:=HU2.out;omega)
   go_upto_region 6 with fail
   clear hv1 hv2 za zb zc zd zf1 zf2
   go_cut [12,13] from 36 to 38 (fun s _ wx=>s=.pointer (some ⟨u2.heap.size,0,none⟩)∧ZB wx u2.heap.size ((x / y:Nat):Int)∧ZB wx G7 (y:Int)∧ZB wx G10 ((x % y:Nat):Int)∧ZB wx G8 (sx o fx)∧ZB wx G11 (sy o fy)∧Below w0.heap.size w0 wx)
   case first=>
    have hdr:Below v2.heap.size v2 v2.drew:=(Below.refl _ _).drew
    have D7:=E7.out.below hdr
    have D8:=E8.out.below hdr
    have D10:=E10.out.below hdr
    have D11:=E11.out.below hdr
    have D12:=E12.out.below hdr
    have D13:=E13.out.below hdr
    obtain⟨bt,at',nt,kt,et,zt⟩:=D10
    obtain⟨b13,a13,n13,k13,e13,z13⟩:=D13
    obtain⟨b7',a7',n7',k7',e7,z7⟩:=D7
    have D7:ZB v2.drew G7 (x:Int):=⟨_,_,_,_,e7,z7⟩
    have D10:ZB v2.drew G10 (y:Int):=⟨_,_,_,_,et,zt⟩
    have f7:=av (show v2.heap[G7]?=_ from e7)
    have f10:=av (show v2.heap[G10]?=_ from et)
    obtain⟨q0,q1⟩:=duo (show v2.heap[G10]?=_ from et)
    obtain⟨q2,q3⟩:=duo (show v2.heap[u2.heap.size+1]?=_ from e13)
    obtain⟨q4,q5⟩:=duo (show v2.heap[G7]?=_ from e7)
    have q6:((v2.setCell ⟨G7,0,none⟩ (.bool bt)).setCell ⟨G7,1,none⟩ (.slice at' nt kt)).cell? ⟨u2.heap.size+1,0,none⟩=some (.bool b13):=by rw [bk HD13.out.1,bk HD13.out.1];exact q2
    have q7:((v2.setCell ⟨G7,0,none⟩ (.bool bt)).setCell ⟨G7,1,none⟩ (.slice at' nt kt)).cell? ⟨u2.heap.size+1,1,none⟩=some (.slice a13 n13 k13):=by rw [bk HD13.out.1,bk HD13.out.1];exact q3
    have A7:=D7.set zt
    have A10:=D10.other (b':=bt) (r':=.slice at' nt kt) D7 (Ne.symm HD.out.2.1)
    have A8:=D8.other (b':=bt) (r':=.slice at' nt kt) D7 (Ne.symm HD.out.1)
    have A11:=D11.other (b':=bt) (r':=.slice at' nt kt) D7 (Ne.symm HD.out.2.2.1)
    have A12:=D12.other (b':=bt) (r':=.slice at' nt kt) D7 (Ne.symm HD13.out.2.2.2.2.1)
    have z13':=ZB.zn (b':=bt) (r':=.slice at' nt kt) z13 D7
    have hbf:=aC (g:=G10) (u0:=.bool b13) (u1:=.slice a13 n13 k13) (aC (g:=G7) (u0:=.bool bt) (u1:=.slice at' nt kt) (aA EB.out hdr) (show w0.heap.size≤G7 by omega)) (show w0.heap.size≤G10 by have:=HU.out.1;omega)
    have HFIN:=ac (And.intro (A12.other (b':=b13) (r':=.slice a13 n13 k13) A10 (Ne.symm HD13.out.2.2.2.2.2.1)) (And.intro (A7.other (b':=b13) (r':=.slice a13 n13 k13) A10 HD.out.2.1) (And.intro (A10.set z13') (And.intro (A8.other (b':=b13) (r':=.slice a13 n13 k13) A10 HD.out.2.2.2.1) (And.intro (A11.other (b':=b13) (r':=.slice a13 n13 k13) A10 (Ne.symm HD.out.2.2.2.2.2)) hbf)))))
    clear hdr D7 D8 D10 D11 D12 et zt e13 z13 e7 z7 A7 A10 A8 A11 A12 z13' hbf
    have dn1:=HD.out.2.1
    have dn2:=Ne.symm HD.out.2.1
    have dn3:=HD13.out.1
    have dn4:=Ne.symm HD13.out.1
    go_region
    all_goals
     go_wp2_with fail
     go_meet
     exact⟨rfl,HFIN.out⟩
   case rest=>
    rename World=>u7
    obtain⟨rfl,F12,F7,F10,F8,F11,FB⟩:=hcut
    have K12:=ac F12
    have K7:=ac F7
    have K10:=ac F10
    have K8:=ac F8
    have K11:=ac F11
    have KB:=ac FB
    obtain⟨bu,au,nu,ku,eu,zu⟩:=F11
    obtain⟨bs,as',ns,ks,es,zs⟩:=F8
    obtain⟨bq,aq,nq,kq,eq,zq⟩:=F12
    have KL:=ac (fun (W:World) (hg:Below u7.heap.size u7 W)=>show W.cell? ⟨G11,0,none⟩=some (.bool bu)∧W.cell? ⟨G11,1,none⟩=some (.slice au nu ku)∧W.cell? ⟨G8,0,none⟩=some (.bool bs)∧W.cell? ⟨G8,1,none⟩=some (.slice as' ns ks)∧W.cell? ⟨u2.heap.size,0,none⟩=some (.bool bq)∧W.cell? ⟨u2.heap.size,1,none⟩=some (.slice aq nq kq) from
     ⟨(duo (ae hg eu)).1,(duo (ae hg eu)).2,(duo (ae hg es)).1,(duo (ae hg es)).2,(duo (ae hg eq)).1,(duo (ae hg eq)).2⟩)
    have hqy:x / y≤m:=Nat.le_trans (Nat.div_le_self _ _) HBD.out.1
    have IN1:=ac (fun (W:World) (hg:Below u7.heap.size u7 W)=>dn (.agg #[.bool bq,.slice aq nq kq]) (.agg #[.bool bu,.slice au nu ku]) ((x / y:Nat):Int) (sy o fy) W (zq.below hg) (zu.below hg) (by rw [Int.natAbs_natCast,jZ];have h1:=bA hqy;have h2:=bA HBD.out.2.2.2;have:=HN.out.2.2.2.2.1;omega))
    have IN2:=ac (fun (W:World) (v:Value) (hg:Below u7.heap.size u7 W) (h:Zn W v (((x / y:Nat):Int)*sy o fy))=>show Calls Tryz.prog 26 #[.agg #[.bool bs,.slice as' ns ks],v] W (bE W (sy (!o) (fx+x / y*fy))) by
     have h1:=dk (.agg #[.bool bs,.slice as' ns ks]) v (sx o fx) (((x / y:Nat):Int)*sy o fy) W (zs.below hg) h (by rw [jE];have h2:=bA HBD.out.2.2.1;have:=HN.out.2.2.2.2.1;omega) (by rw [Int.natAbs_mul,Int.natAbs_natCast,jZ];have h0:=gc (x / y) fy;have h1:=bA hqy;have h2:=bA HBD.out.2.2.2;have:=HN.out.2.2.2.2.1;omega)
     rw [(j8 o fx fy (x / y)).2] at h1
     exact h1)
    have ZU:=ac zu
    clear F7 F10 FB eu zu es zs eq zq hqy
    go_upto_region 7 with fail
    refine wp_region_held_drew (S:=fun _=>True) (by kernel_rfl) trivial (fun _=>?_)
    refine mN u7 (.agg #[.bool bu,.slice au nu ku]) (.agg #[.bool bs,.slice as' ns ks]) (.agg #[.bool bq,.slice aq nq kq]) (.agg #[.bool bu,.slice au nu ku]) (aV (((x / y:Nat):Int)*sy o fy)) (aV (sy (!o) (fx+x / y*fy))) (aV.up _) (aV.up _) 38 39 40 41 42 43 2 (fun l1 l2 l3 l4 c1 c2=>#[l1,l2,l3,l4,c1,c2,false,false]) (by kernel_rfl) (by kernel_rfl) ((Below.refl _ _).drew) ?_
    intro n
    simp only [Act.put,List.setIfInBounds_toArray,List.set_cons_zero,List.set_cons_succ]
    induction n with
    | zero=>
     intro l1 l2 l3 l4 c1 c2 u1 u2 u3 u4 x1 x2 W hf J
     obtain⟨rfl,rfl,rfl,rfl,rfl,rfl⟩:=oN l1 l2 l3 l4 c1 c2 hf
     clear hf
     obtain rfl:=J.p1 rfl
     obtain rfl:=J.p2 rfl
     obtain rfl:=J.p3 rfl
     obtain rfl:=J.p4 rfl
     obtain⟨b9,a9,n9,k9,rfl,Z9⟩:=J.q2 rfl
     have hJ:=J.up
     have D7:=K7.out.below hJ
     have D10:=K10.out.below hJ
     have D8:=K8.out.below hJ
     have D11:=K11.out.below hJ
     have zu:=ZU.out.below hJ
     obtain⟨_,_,_,_,e8,z8⟩:=D8
     obtain⟨_,_,_,_,e11,z11⟩:=D11
     have f8:=av e8
     have f11:=av e11
     obtain⟨q0,q1⟩:=duo e8
     obtain⟨q2,q3⟩:=duo e11
     have D8:ZB W G8 (sx o fx):=⟨_,_,_,_,e8,z8⟩
     have D11:ZB W G11 (sy o fy):=⟨_,_,_,_,e11,z11⟩
     have A8:=D8.set zu
     have A7:=D7.other (b':=bu) (r':=.slice au nu ku) D8 HD.out.1
     have A10:=D10.other (b':=bu) (r':=.slice au nu ku) D8 (Ne.symm HD.out.2.2.2.1)
     have A11:=D11.other (b':=bu) (r':=.slice au nu ku) D8 (Ne.symm HD.out.2.2.2.2.1)
     have z9':=ZB.zn (b':=bu) (r':=.slice au nu ku) Z9 D8
     have hb8:=aC (g:=G8) (u0:=.bool bu) (u1:=.slice au nu ku) (aA KB.out hJ) (show w0.heap.size≤G8 by omega)
     have hb11:=aC (g:=G11) (u0:=.bool b9) (u1:=.slice a9 n9 k9) hb8 (show w0.heap.size≤G11 by rw [hG7];exact HU.out.2)
     have HFIN:=ac (And.intro (A7.other (b':=b9) (r':=.slice a9 n9 k9) A11 HD.out.2.2.1) (And.intro (A10.other (b':=b9) (r':=.slice a9 n9 k9) A11 HD.out.2.2.2.2.2) (And.intro (A8.other (b':=b9) (r':=.slice a9 n9 k9) A11 HD.out.2.2.2.2.1) (And.intro (A11.set z9') hb11))))
     have dn1:=HD.out.2.2.2.2.1
     have dn2:=Ne.symm HD.out.2.2.2.2.1
     have HM2:=HM
     clear J hJ D7 D10 D8 D11 zu e8 z8 e11 z11 A8 A7 A10 A11 z9' hb8 hb11 Z9
     refine wpAnyH_ready (rs:=[6]) (by kernel_rfl) (by simp) ?_
     refine AllReadyH.cons rfl (fun K hK=>?_) AllReadyH.nil
     go_simp
     refine hK.out _ _ trivial (fun _=>?_)
     clear hK K
     simp only [List.setIfInBounds_toArray,List.set_cons_zero,List.set_cons_succ]
     refine wpAnyH_ready (rs:=[7]) (by kernel_rfl) (by simp) ?_
     refine AllReadyH.cons rfl (fun K hK=>?_) AllReadyH.nil
     go_simp
     refine hK.out _ _ trivial (fun _=>?_)
     clear hK K
     simp only [List.setIfInBounds_toArray,List.set_cons_zero,List.set_cons_succ]
     refine wpAnyH_done (by kernel_rfl) ?_ _
     have hq0:0<x / y:=(Nat.le_div_iff_mul_le hy1).2 (by have:=HLE.out;omega)
     go_wp2_with fail
     go_roundw
     case rel=>exact⟨y,x % y,fy,fx+x / y*fy,!o,HFIN.out.1,HFIN.out.2.1,by rw [←(j8 o fx fy (x / y)).1];exact HFIN.out.2.2.1,HFIN.out.2.2.2.1,HF.out.one hy1 hq0,hy1,Nat.le_of_lt (Nat.mod_lt _ hy1),HFIN.out.2.2.2.2⟩
     case measure=>
      rw [HM.out,HFIN.out.2.1.zof,Int.natAbs_natCast]
      exact Nat.mod_lt _ hy1
    | succ n ih=>
     intro l1 l2 l3 l4 c1 c2 u1 u2 u3 u4 x1 x2 W hf J
     cases l1
     ·skip
      cases l2
      ·skip
       cases l3
       ·skip
        cases l4
        ·skip
         cases c1
         ·skip
          cases c2
          ·skip
           obtain⟨g0,g1,g2,g3,g4,g5⟩:=KL.out W J.up
           refine wpAnyH_ready (rs:=[0,1,2,3]) (by kernel_rfl) (by simp) ?_
           refine AllReadyH.cons rfl (fun K hK=>?_) ?_
           ·go_simp
            refine hK.out _ _ trivial (fun _=>?_)
            simp only [List.setIfInBounds_toArray,List.set_cons_zero]
            exact ih _ _ _ _ _ _ _ _ _ _ _ _ _ (by simp [aJ] at hf ⊢;omega) J.load1
           refine AllReadyH.cons rfl (fun K hK=>?_) ?_
           ·go_simp
            refine hK.out _ _ trivial (fun _=>?_)
            simp only [List.setIfInBounds_toArray,List.set_cons_zero,List.set_cons_succ]
            exact ih _ _ _ _ _ _ _ _ _ _ _ _ _ (by simp [aJ] at hf ⊢;omega) J.load2
           refine AllReadyH.cons rfl (fun K hK=>?_) ?_
           ·go_simp
            refine hK.out _ _ trivial (fun _=>?_)
            simp only [List.setIfInBounds_toArray,List.set_cons_zero,List.set_cons_succ]
            exact ih _ _ _ _ _ _ _ _ _ _ _ _ _ (by simp [aJ] at hf ⊢;omega) J.load3
           refine AllReadyH.cons rfl (fun K hK=>?_) ?_
           ·go_simp
            refine hK.out _ _ trivial (fun _=>?_)
            simp only [List.setIfInBounds_toArray,List.set_cons_zero,List.set_cons_succ]
            exact ih _ _ _ _ _ _ _ _ _ _ _ _ _ (by simp [aJ] at hf ⊢;omega) J.load4
           exact AllReadyH.nil
          ·skip
           exact absurd (J.e2_2 rfl) (by decide)
         ·skip
          cases c2
          ·skip
           exact absurd (J.e1_3 rfl) (by decide)
          ·skip
           exact absurd (J.e1_3 rfl) (by decide)
        ·skip
         cases c1
         ·skip
          cases c2
          ·skip
           obtain rfl:=J.p4 rfl
           obtain⟨g0,g1,g2,g3,g4,g5⟩:=KL.out W J.up
           refine wpAnyH_ready (rs:=[0,1,2]) (by kernel_rfl) (by simp) ?_
           refine AllReadyH.cons rfl (fun K hK=>?_) ?_
           ·go_simp
            refine hK.out _ _ trivial (fun _=>?_)
            simp only [List.setIfInBounds_toArray,List.set_cons_zero]
            exact ih _ _ _ _ _ _ _ _ _ _ _ _ _ (by simp [aJ] at hf ⊢;omega) J.load1
           refine AllReadyH.cons rfl (fun K hK=>?_) ?_
           ·go_simp
            refine hK.out _ _ trivial (fun _=>?_)
            simp only [List.setIfInBounds_toArray,List.set_cons_zero,List.set_cons_succ]
            exact ih _ _ _ _ _ _ _ _ _ _ _ _ _ (by simp [aJ] at hf ⊢;omega) J.load2
           refine AllReadyH.cons rfl (fun K hK=>?_) ?_
           ·go_simp
            refine hK.out _ _ trivial (fun _=>?_)
            simp only [List.setIfInBounds_toArray,List.set_cons_zero,List.set_cons_succ]
            exact ih _ _ _ _ _ _ _ _ _ _ _ _ _ (by simp [aJ] at hf ⊢;omega) J.load3
           exact AllReadyH.nil
          ·skip
           exact absurd (J.e2_2 rfl) (by decide)
         ·skip
          cases c2
          ·skip
           exact absurd (J.e1_3 rfl) (by decide)
          ·skip
           exact absurd (J.e1_3 rfl) (by decide)
       ·skip
        cases l4
        ·skip
         cases c1
         ·skip
          cases c2
          ·skip
           obtain rfl:=J.p3 rfl
           obtain⟨g0,g1,g2,g3,g4,g5⟩:=KL.out W J.up
           refine wpAnyH_ready (rs:=[0,1,3]) (by kernel_rfl) (by simp) ?_
           refine AllReadyH.cons rfl (fun K hK=>?_) ?_
           ·go_simp
            refine hK.out _ _ trivial (fun _=>?_)
            simp only [List.setIfInBounds_toArray,List.set_cons_zero]
            exact ih _ _ _ _ _ _ _ _ _ _ _ _ _ (by simp [aJ] at hf ⊢;omega) J.load1
           refine AllReadyH.cons rfl (fun K hK=>?_) ?_
           ·go_simp
            refine hK.out _ _ trivial (fun _=>?_)
            simp only [List.setIfInBounds_toArray,List.set_cons_zero,List.set_cons_succ]
            exact ih _ _ _ _ _ _ _ _ _ _ _ _ _ (by simp [aJ] at hf ⊢;omega) J.load2
           refine AllReadyH.cons rfl (fun K hK=>?_) ?_
           ·go_simp
            refine hK.out _ _ trivial (fun _=>?_)
            simp only [List.setIfInBounds_toArray,List.set_cons_zero,List.set_cons_succ]
            exact ih _ _ _ _ _ _ _ _ _ _ _ _ _ (by simp [aJ] at hf ⊢;omega) J.load4
           exact AllReadyH.nil
          ·skip
           exact absurd (J.e2_2 rfl) (by decide)
         ·skip
          cases c2
          ·skip
           exact absurd (J.e1_4 rfl) (by decide)
          ·skip
           exact absurd (J.e1_4 rfl) (by decide)
        ·skip
         cases c1
         ·skip
          cases c2
          ·skip
           obtain rfl:=J.p3 rfl
           obtain rfl:=J.p4 rfl
           obtain⟨g0,g1,g2,g3,g4,g5⟩:=KL.out W J.up
           refine wpAnyH_ready (rs:=[0,1,4]) (by kernel_rfl) (by simp) ?_
           refine AllReadyH.cons rfl (fun K hK=>?_) ?_
           ·go_simp
            refine hK.out _ _ trivial (fun _=>?_)
            simp only [List.setIfInBounds_toArray,List.set_cons_zero]
            exact ih _ _ _ _ _ _ _ _ _ _ _ _ _ (by simp [aJ] at hf ⊢;omega) J.load1
           refine AllReadyH.cons rfl (fun K hK=>?_) ?_
           ·go_simp
            refine hK.out _ _ trivial (fun _=>?_)
            simp only [List.setIfInBounds_toArray,List.set_cons_zero,List.set_cons_succ]
            exact ih _ _ _ _ _ _ _ _ _ _ _ _ _ (by simp [aJ] at hf ⊢;omega) J.load2
           refine AllReadyH.cons rfl (fun K hK=>?_) ?_
           ·go_simp
            refine (IN1.out W J.up).mono ?_
            rintro e' W2 ⟨⟨p,q9,r,s,rfl,hz⟩,hb⟩
            refine hK.out _ _ trivial (fun _=>?_)
            simp only [List.setIfInBounds_toArray,List.set_cons_zero,List.set_cons_succ]
            exact ih _ _ _ _ _ _ _ _ _ _ _ _ _ (by simp [aJ] at hf ⊢;omega) (J.call1 hb ⟨p,q9,r,s,rfl,hz⟩)
           exact AllReadyH.nil
          ·skip
           exact absurd (J.e2_2 rfl) (by decide)
         ·skip
          cases c2
          ·skip
           obtain rfl:=J.p3 rfl
           obtain rfl:=J.p4 rfl
           obtain⟨g0,g1,g2,g3,g4,g5⟩:=KL.out W J.up
           refine wpAnyH_ready (rs:=[0,1]) (by kernel_rfl) (by simp) ?_
           refine AllReadyH.cons rfl (fun K hK=>?_) ?_
           ·go_simp
            refine hK.out _ _ trivial (fun _=>?_)
            simp only [List.setIfInBounds_toArray,List.set_cons_zero]
            exact ih _ _ _ _ _ _ _ _ _ _ _ _ _ (by simp [aJ] at hf ⊢;omega) J.load1
           refine AllReadyH.cons rfl (fun K hK=>?_) ?_
           ·go_simp
            refine hK.out _ _ trivial (fun _=>?_)
            simp only [List.setIfInBounds_toArray,List.set_cons_zero,List.set_cons_succ]
            exact ih _ _ _ _ _ _ _ _ _ _ _ _ _ (by simp [aJ] at hf ⊢;omega) J.load2
           exact AllReadyH.nil
          ·skip
           exact absurd (J.e2_2 rfl) (by decide)
      ·skip
       cases l3
       ·skip
        cases l4
        ·skip
         cases c1
         ·skip
          cases c2
          ·skip
           obtain rfl:=J.p2 rfl
           obtain⟨g0,g1,g2,g3,g4,g5⟩:=KL.out W J.up
           refine wpAnyH_ready (rs:=[0,2,3]) (by kernel_rfl) (by simp) ?_
           refine AllReadyH.cons rfl (fun K hK=>?_) ?_
           ·go_simp
            refine hK.out _ _ trivial (fun _=>?_)
            simp only [List.setIfInBounds_toArray,List.set_cons_zero]
            exact ih _ _ _ _ _ _ _ _ _ _ _ _ _ (by simp [aJ] at hf ⊢;omega) J.load1
           refine AllReadyH.cons rfl (fun K hK=>?_) ?_
           ·go_simp
            refine hK.out _ _ trivial (fun _=>?_)
            simp only [List.setIfInBounds_toArray,List.set_cons_zero,List.set_cons_succ]
            exact ih _ _ _ _ _ _ _ _ _ _ _ _ _ (by simp [aJ] at hf ⊢;omega) J.load3
           refine AllReadyH.cons rfl (fun K hK=>?_) ?_
           ·go_simp
            refine hK.out _ _ trivial (fun _=>?_)
            simp only [List.setIfInBounds_toArray,List.set_cons_zero,List.set_cons_succ]
            exact ih _ _ _ _ _ _ _ _ _ _ _ _ _ (by simp [aJ] at hf ⊢;omega) J.load4
           exact AllReadyH.nil
          ·skip
           exact absurd (J.h2 rfl) (by decide)
         ·skip
          cases c2
          ·skip
           exact absurd (J.e1_3 rfl) (by decide)
          ·skip
           exact absurd (J.e1_3 rfl) (by decide)
        ·skip
         cases c1
         ·skip
          cases c2
          ·skip
           obtain rfl:=J.p2 rfl
           obtain rfl:=J.p4 rfl
           obtain⟨g0,g1,g2,g3,g4,g5⟩:=KL.out W J.up
           refine wpAnyH_ready (rs:=[0,2]) (by kernel_rfl) (by simp) ?_
           refine AllReadyH.cons rfl (fun K hK=>?_) ?_
           ·go_simp
            refine hK.out _ _ trivial (fun _=>?_)
            simp only [List.setIfInBounds_toArray,List.set_cons_zero]
            exact ih _ _ _ _ _ _ _ _ _ _ _ _ _ (by simp [aJ] at hf ⊢;omega) J.load1
           refine AllReadyH.cons rfl (fun K hK=>?_) ?_
           ·go_simp
            refine hK.out _ _ trivial (fun _=>?_)
            simp only [List.setIfInBounds_toArray,List.set_cons_zero,List.set_cons_succ]
            exact ih _ _ _ _ _ _ _ _ _ _ _ _ _ (by simp [aJ] at hf ⊢;omega) J.load3
           exact AllReadyH.nil
          ·skip
           exact absurd (J.h2 rfl) (by decide)
         ·skip
          cases c2
          ·skip
           exact absurd (J.e1_3 rfl) (by decide)
          ·skip
           exact absurd (J.e1_3 rfl) (by decide)
       ·skip
        cases l4
        ·skip
         cases c1
         ·skip
          cases c2
          ·skip
           obtain rfl:=J.p2 rfl
           obtain rfl:=J.p3 rfl
           obtain⟨g0,g1,g2,g3,g4,g5⟩:=KL.out W J.up
           refine wpAnyH_ready (rs:=[0,3]) (by kernel_rfl) (by simp) ?_
           refine AllReadyH.cons rfl (fun K hK=>?_) ?_
           ·go_simp
            refine hK.out _ _ trivial (fun _=>?_)
            simp only [List.setIfInBounds_toArray,List.set_cons_zero]
            exact ih _ _ _ _ _ _ _ _ _ _ _ _ _ (by simp [aJ] at hf ⊢;omega) J.load1
           refine AllReadyH.cons rfl (fun K hK=>?_) ?_
           ·go_simp
            refine hK.out _ _ trivial (fun _=>?_)
            simp only [List.setIfInBounds_toArray,List.set_cons_zero,List.set_cons_succ]
            exact ih _ _ _ _ _ _ _ _ _ _ _ _ _ (by simp [aJ] at hf ⊢;omega) J.load4
           exact AllReadyH.nil
          ·skip
           exact absurd (J.h2 rfl) (by decide)
         ·skip
          cases c2
          ·skip
           exact absurd (J.e1_4 rfl) (by decide)
          ·skip
           exact absurd (J.e1_4 rfl) (by decide)
        ·skip
         cases c1
         ·skip
          cases c2
          ·skip
           obtain rfl:=J.p2 rfl
           obtain rfl:=J.p3 rfl
           obtain rfl:=J.p4 rfl
           obtain⟨g0,g1,g2,g3,g4,g5⟩:=KL.out W J.up
           refine wpAnyH_ready (rs:=[0,4]) (by kernel_rfl) (by simp) ?_
           refine AllReadyH.cons rfl (fun K hK=>?_) ?_
           ·go_simp
            refine hK.out _ _ trivial (fun _=>?_)
            simp only [List.setIfInBounds_toArray,List.set_cons_zero]
            exact ih _ _ _ _ _ _ _ _ _ _ _ _ _ (by simp [aJ] at hf ⊢;omega) J.load1
           refine AllReadyH.cons rfl (fun K hK=>?_) ?_
           ·go_simp
            refine (IN1.out W J.up).mono ?_
            rintro e' W2 ⟨⟨p,q9,r,s,rfl,hz⟩,hb⟩
            refine hK.out _ _ trivial (fun _=>?_)
            simp only [List.setIfInBounds_toArray,List.set_cons_zero,List.set_cons_succ]
            exact ih _ _ _ _ _ _ _ _ _ _ _ _ _ (by simp [aJ] at hf ⊢;omega) (J.call1 hb ⟨p,q9,r,s,rfl,hz⟩)
           exact AllReadyH.nil
          ·skip
           exact absurd (J.h2 rfl) (by decide)
         ·skip
          cases c2
          ·skip
           obtain rfl:=J.p2 rfl
           obtain rfl:=J.p3 rfl
           obtain rfl:=J.p4 rfl
           obtain⟨g0,g1,g2,g3,g4,g5⟩:=KL.out W J.up
           refine wpAnyH_ready (rs:=[0,5]) (by kernel_rfl) (by simp) ?_
           refine AllReadyH.cons rfl (fun K hK=>?_) ?_
           ·go_simp
            refine hK.out _ _ trivial (fun _=>?_)
            simp only [List.setIfInBounds_toArray,List.set_cons_zero]
            exact ih _ _ _ _ _ _ _ _ _ _ _ _ _ (by simp [aJ] at hf ⊢;omega) J.load1
           refine AllReadyH.cons rfl (fun K hK=>?_) ?_
           ·go_simp
            refine (IN2.out W x1 J.up (J.q1 rfl).zn).mono ?_
            rintro e' W2 ⟨⟨p,q9,r,s,rfl,hz⟩,hb⟩
            refine hK.out _ _ trivial (fun _=>?_)
            simp only [List.setIfInBounds_toArray,List.set_cons_zero,List.set_cons_succ]
            exact ih _ _ _ _ _ _ _ _ _ _ _ _ _ (by simp [aJ] at hf ⊢;omega) (J.call2 hb ⟨p,q9,r,s,rfl,hz⟩)
           exact AllReadyH.nil
          ·skip
           obtain rfl:=J.p2 rfl
           obtain rfl:=J.p3 rfl
           obtain rfl:=J.p4 rfl
           obtain⟨g0,g1,g2,g3,g4,g5⟩:=KL.out W J.up
           refine wpAnyH_ready (rs:=[0]) (by kernel_rfl) (by simp) ?_
           refine AllReadyH.cons rfl (fun K hK=>?_) ?_
           ·go_simp
            refine hK.out _ _ trivial (fun _=>?_)
            simp only [List.setIfInBounds_toArray,List.set_cons_zero]
            exact ih _ _ _ _ _ _ _ _ _ _ _ _ _ (by simp [aJ] at hf ⊢;omega) J.load1
           exact AllReadyH.nil
     ·skip
      cases l2
      ·skip
       cases l3
       ·skip
        cases l4
        ·skip
         cases c1
         ·skip
          cases c2
          ·skip
           obtain rfl:=J.p1 rfl
           obtain⟨g0,g1,g2,g3,g4,g5⟩:=KL.out W J.up
           refine wpAnyH_ready (rs:=[1,2,3]) (by kernel_rfl) (by simp) ?_
           refine AllReadyH.cons rfl (fun K hK=>?_) ?_
           ·go_simp
            refine hK.out _ _ trivial (fun _=>?_)
            simp only [List.setIfInBounds_toArray,List.set_cons_zero,List.set_cons_succ]
            exact ih _ _ _ _ _ _ _ _ _ _ _ _ _ (by simp [aJ] at hf ⊢;omega) J.load2
           refine AllReadyH.cons rfl (fun K hK=>?_) ?_
           ·go_simp
            refine hK.out _ _ trivial (fun _=>?_)
            simp only [List.setIfInBounds_toArray,List.set_cons_zero,List.set_cons_succ]
            exact ih _ _ _ _ _ _ _ _ _ _ _ _ _ (by simp [aJ] at hf ⊢;omega) J.load3
           refine AllReadyH.cons rfl (fun K hK=>?_) ?_
           ·go_simp
            refine hK.out _ _ trivial (fun _=>?_)
            simp only [List.setIfInBounds_toArray,List.set_cons_zero,List.set_cons_succ]
            exact ih _ _ _ _ _ _ _ _ _ _ _ _ _ (by simp [aJ] at hf ⊢;omega) J.load4
           exact AllReadyH.nil
          ·skip
           exact absurd (J.e2_2 rfl) (by decide)
         ·skip
          cases c2
          ·skip
           exact absurd (J.e1_3 rfl) (by decide)
          ·skip
           exact absurd (J.e1_3 rfl) (by decide)
        ·skip
         cases c1
         ·skip
          cases c2
          ·skip
           obtain rfl:=J.p1 rfl
           obtain rfl:=J.p4 rfl
           obtain⟨g0,g1,g2,g3,g4,g5⟩:=KL.out W J.up
           refine wpAnyH_ready (rs:=[1,2]) (by kernel_rfl) (by simp) ?_
           refine AllReadyH.cons rfl (fun K hK=>?_) ?_
           ·go_simp
            refine hK.out _ _ trivial (fun _=>?_)
            simp only [List.setIfInBounds_toArray,List.set_cons_zero,List.set_cons_succ]
            exact ih _ _ _ _ _ _ _ _ _ _ _ _ _ (by simp [aJ] at hf ⊢;omega) J.load2
           refine AllReadyH.cons rfl (fun K hK=>?_) ?_
           ·go_simp
            refine hK.out _ _ trivial (fun _=>?_)
            simp only [List.setIfInBounds_toArray,List.set_cons_zero,List.set_cons_succ]
            exact ih _ _ _ _ _ _ _ _ _ _ _ _ _ (by simp [aJ] at hf ⊢;omega) J.load3
           exact AllReadyH.nil
          ·skip
           exact absurd (J.e2_2 rfl) (by decide)
         ·skip
          cases c2
          ·skip
           exact absurd (J.e1_3 rfl) (by decide)
          ·skip
           exact absurd (J.e1_3 rfl) (by decide)
       ·skip
        cases l4
        ·skip
         cases c1
         ·skip
          cases c2
          ·skip
           obtain rfl:=J.p1 rfl
           obtain rfl:=J.p3 rfl
           obtain⟨g0,g1,g2,g3,g4,g5⟩:=KL.out W J.up
           refine wpAnyH_ready (rs:=[1,3]) (by kernel_rfl) (by simp) ?_
           refine AllReadyH.cons rfl (fun K hK=>?_) ?_
           ·go_simp
            refine hK.out _ _ trivial (fun _=>?_)
            simp only [List.setIfInBounds_toArray,List.set_cons_zero,List.set_cons_succ]
            exact ih _ _ _ _ _ _ _ _ _ _ _ _ _ (by simp [aJ] at hf ⊢;omega) J.load2
           refine AllReadyH.cons rfl (fun K hK=>?_) ?_
           ·go_simp
            refine hK.out _ _ trivial (fun _=>?_)
            simp only [List.setIfInBounds_toArray,List.set_cons_zero,List.set_cons_succ]
            exact ih _ _ _ _ _ _ _ _ _ _ _ _ _ (by simp [aJ] at hf ⊢;omega) J.load4
           exact AllReadyH.nil
          ·skip
           exact absurd (J.e2_2 rfl) (by decide)
         ·skip
          cases c2
          ·skip
           exact absurd (J.e1_4 rfl) (by decide)
          ·skip
           exact absurd (J.e1_4 rfl) (by decide)
        ·skip
         cases c1
         ·skip
          cases c2
          ·skip
           obtain rfl:=J.p1 rfl
           obtain rfl:=J.p3 rfl
           obtain rfl:=J.p4 rfl
           obtain⟨g0,g1,g2,g3,g4,g5⟩:=KL.out W J.up
           refine wpAnyH_ready (rs:=[1,4]) (by kernel_rfl) (by simp) ?_
           refine AllReadyH.cons rfl (fun K hK=>?_) ?_
           ·go_simp
            refine hK.out _ _ trivial (fun _=>?_)
            simp only [List.setIfInBounds_toArray,List.set_cons_zero,List.set_cons_succ]
            exact ih _ _ _ _ _ _ _ _ _ _ _ _ _ (by simp [aJ] at hf ⊢;omega) J.load2
           refine AllReadyH.cons rfl (fun K hK=>?_) ?_
           ·go_simp
            refine (IN1.out W J.up).mono ?_
            rintro e' W2 ⟨⟨p,q9,r,s,rfl,hz⟩,hb⟩
            refine hK.out _ _ trivial (fun _=>?_)
            simp only [List.setIfInBounds_toArray,List.set_cons_zero,List.set_cons_succ]
            exact ih _ _ _ _ _ _ _ _ _ _ _ _ _ (by simp [aJ] at hf ⊢;omega) (J.call1 hb ⟨p,q9,r,s,rfl,hz⟩)
           exact AllReadyH.nil
          ·skip
           exact absurd (J.e2_2 rfl) (by decide)
         ·skip
          cases c2
          ·skip
           obtain rfl:=J.p1 rfl
           obtain rfl:=J.p3 rfl
           obtain rfl:=J.p4 rfl
           obtain⟨g0,g1,g2,g3,g4,g5⟩:=KL.out W J.up
           refine wpAnyH_ready (rs:=[1]) (by kernel_rfl) (by simp) ?_
           refine AllReadyH.cons rfl (fun K hK=>?_) ?_
           ·go_simp
            refine hK.out _ _ trivial (fun _=>?_)
            simp only [List.setIfInBounds_toArray,List.set_cons_zero,List.set_cons_succ]
            exact ih _ _ _ _ _ _ _ _ _ _ _ _ _ (by simp [aJ] at hf ⊢;omega) J.load2
           exact AllReadyH.nil
          ·skip
           exact absurd (J.e2_2 rfl) (by decide)
      ·skip
       cases l3
       ·skip
        cases l4
        ·skip
         cases c1
         ·skip
          cases c2
          ·skip
           obtain rfl:=J.p1 rfl
           obtain rfl:=J.p2 rfl
           obtain⟨g0,g1,g2,g3,g4,g5⟩:=KL.out W J.up
           refine wpAnyH_ready (rs:=[2,3]) (by kernel_rfl) (by simp) ?_
           refine AllReadyH.cons rfl (fun K hK=>?_) ?_
           ·go_simp
            refine hK.out _ _ trivial (fun _=>?_)
            simp only [List.setIfInBounds_toArray,List.set_cons_zero,List.set_cons_succ]
            exact ih _ _ _ _ _ _ _ _ _ _ _ _ _ (by simp [aJ] at hf ⊢;omega) J.load3
           refine AllReadyH.cons rfl (fun K hK=>?_) ?_
           ·go_simp
            refine hK.out _ _ trivial (fun _=>?_)
            simp only [List.setIfInBounds_toArray,List.set_cons_zero,List.set_cons_succ]
            exact ih _ _ _ _ _ _ _ _ _ _ _ _ _ (by simp [aJ] at hf ⊢;omega) J.load4
           exact AllReadyH.nil
          ·skip
           exact absurd (J.h2 rfl) (by decide)
         ·skip
          cases c2
          ·skip
           exact absurd (J.e1_3 rfl) (by decide)
          ·skip
           exact absurd (J.e1_3 rfl) (by decide)
        ·skip
         cases c1
         ·skip
          cases c2
          ·skip
           obtain rfl:=J.p1 rfl
           obtain rfl:=J.p2 rfl
           obtain rfl:=J.p4 rfl
           obtain⟨g0,g1,g2,g3,g4,g5⟩:=KL.out W J.up
           refine wpAnyH_ready (rs:=[2]) (by kernel_rfl) (by simp) ?_
           refine AllReadyH.cons rfl (fun K hK=>?_) ?_
           ·go_simp
            refine hK.out _ _ trivial (fun _=>?_)
            simp only [List.setIfInBounds_toArray,List.set_cons_zero,List.set_cons_succ]
            exact ih _ _ _ _ _ _ _ _ _ _ _ _ _ (by simp [aJ] at hf ⊢;omega) J.load3
           exact AllReadyH.nil
          ·skip
           exact absurd (J.h2 rfl) (by decide)
         ·skip
          cases c2
          ·skip
           exact absurd (J.e1_3 rfl) (by decide)
          ·skip
           exact absurd (J.e1_3 rfl) (by decide)
       ·skip
        cases l4
        ·skip
         cases c1
         ·skip
          cases c2
          ·skip
           obtain rfl:=J.p1 rfl
           obtain rfl:=J.p2 rfl
           obtain rfl:=J.p3 rfl
           obtain⟨g0,g1,g2,g3,g4,g5⟩:=KL.out W J.up
           refine wpAnyH_ready (rs:=[3]) (by kernel_rfl) (by simp) ?_
           refine AllReadyH.cons rfl (fun K hK=>?_) ?_
           ·go_simp
            refine hK.out _ _ trivial (fun _=>?_)
            simp only [List.setIfInBounds_toArray,List.set_cons_zero,List.set_cons_succ]
            exact ih _ _ _ _ _ _ _ _ _ _ _ _ _ (by simp [aJ] at hf ⊢;omega) J.load4
           exact AllReadyH.nil
          ·skip
           exact absurd (J.h2 rfl) (by decide)
         ·skip
          cases c2
          ·skip
           exact absurd (J.e1_4 rfl) (by decide)
          ·skip
           exact absurd (J.e1_4 rfl) (by decide)
        ·skip
         cases c1
         ·skip
          cases c2
          ·skip
           obtain rfl:=J.p1 rfl
           obtain rfl:=J.p2 rfl
           obtain rfl:=J.p3 rfl
           obtain rfl:=J.p4 rfl
           refine wpAnyH_ready (rs:=[4]) (by kernel_rfl) (by simp) ?_
           refine AllReadyH.cons rfl (fun K hK=>?_) ?_
           ·go_simp
            refine (IN1.out W J.up).mono ?_
            rintro e' W2 ⟨⟨p,q9,r,s,rfl,hz⟩,hb⟩
            refine hK.out _ _ trivial (fun _=>?_)
            simp only [List.setIfInBounds_toArray,List.set_cons_zero,List.set_cons_succ]
            exact ih _ _ _ _ _ _ _ _ _ _ _ _ _ (by simp [aJ] at hf ⊢;omega) (J.call1 hb ⟨p,q9,r,s,rfl,hz⟩)
           exact AllReadyH.nil
          ·skip
           exact absurd (J.h2 rfl) (by decide)
         ·skip
          cases c2
          ·skip
           obtain rfl:=J.p1 rfl
           obtain rfl:=J.p2 rfl
           obtain rfl:=J.p3 rfl
           obtain rfl:=J.p4 rfl
           refine wpAnyH_ready (rs:=[5]) (by kernel_rfl) (by simp) ?_
           refine AllReadyH.cons rfl (fun K hK=>?_) ?_
           ·go_simp
            refine (IN2.out W x1 J.up (J.q1 rfl).zn).mono ?_
            rintro e' W2 ⟨⟨p,q9,r,s,rfl,hz⟩,hb⟩
            refine hK.out _ _ trivial (fun _=>?_)
            simp only [List.setIfInBounds_toArray,List.set_cons_zero,List.set_cons_succ]
            exact ih _ _ _ _ _ _ _ _ _ _ _ _ _ (by simp [aJ] at hf ⊢;omega) (J.call2 hb ⟨p,q9,r,s,rfl,hz⟩)
           exact AllReadyH.nil
          ·skip
           exact absurd hf (by simp [aJ])
end Go.Proofs.YtdbjbbdhlpfhjaaGreatDoor
namespace Go.Proofs.YtdbjbbdhlpfhjaaGreatDoor
open Go.RowKit
open Lm

structure J21 (u:World)(Q1:World→Value→Prop)(Q2:World→Value→Prop)(c1 c2 k1:Bool)(x1 x2 y1:Value)(W:World):Prop where
 up:Below u.heap.size u W
 m1:∀(W W':World) (x:Value),Below W.heap.size W W'→Q1 W x→Q1 W' x
 m2:∀(W W':World) (x:Value),Below W.heap.size W W'→Q2 W x→Q2 W' x
 h2:c2=true→c1=true
 q1:c1=true→Q1 W x1
 q2:c2=true→Q2 W x2
 r1:k1=true→∃g,y1=.pointer (some ⟨g,0,none⟩)∧u.heap.size≤g∧W.heap[g]?=some (.cells #[.bool false,.slice none 0 0] 32)

theorem J21.below {u:World}{Q1:World→Value→Prop}{Q2:World→Value→Prop}{c1 c2 k1:Bool}{x1 x2 y1:Value}{W W':World}(h:J21 u Q1 Q2 c1 c2 k1 x1 x2 y1 W)(hb:Below W.heap.size W W'):J21 u Q1 Q2 c1 c2 k1 x1 x2 y1 W':=
 ⟨h.up.trans (hb.mono h.up.size),h.m1,h.m2,h.h2,fun e=>h.m1 _ _ _ hb (h.q1 e),fun e=>h.m2 _ _ _ hb (h.q2 e),fun e=>fg hb (h.r1 e)⟩

theorem J21.call1 {u:World}{Q1:World→Value→Prop}{Q2:World→Value→Prop}{c1 c2 k1:Bool}{x1 x2 y1:Value}{v:Value}{W W':World}(h:J21 u Q1 Q2 c1 c2 k1 x1 x2 y1 W)(hb:Below W.heap.size W W')(hv:Q1 W' v):J21 u Q1 Q2 true c2 k1 v x2 y1 W':=
 have j:=h.below hb
 ⟨j.up,j.m1,j.m2,fun _=>rfl,fun _=>hv,j.q2,j.r1⟩

theorem J21.call2 {u:World}{Q1:World→Value→Prop}{Q2:World→Value→Prop}{c2 k1:Bool}{x1 x2 y1:Value}{v:Value}{W W':World}(h:J21 u Q1 Q2 true c2 k1 x1 x2 y1 W)(hb:Below W.heap.size W W')(hv:Q2 W' v):J21 u Q1 Q2 true true k1 x1 v y1 W':=
 have j:=h.below hb
 ⟨j.up,j.m1,j.m2,fun _=>rfl,j.q1,fun _=>hv,j.r1⟩

theorem J21.make1 {u:World}{Q1:World→Value→Prop}{Q2:World→Value→Prop}{c1 c2 k1:Bool}{x1 x2 y1:Value}{W:World}(h:J21 u Q1 Q2 c1 c2 k1 x1 x2 y1 W) :
  J21 u Q1 Q2 c1 c2 true x1 x2 (.pointer (some ⟨W.heap.size,0,none⟩)) (W.alloc (.cells #[.bool false,.slice none 0 0] 32)):=
 have j:=h.below (cn W (.cells #[.bool false,.slice none 0 0] 32))
 ⟨j.up,j.m1,j.m2,j.h2,j.q1,j.q2,fun _=>⟨_,rfl,h.up.size,heap_alloc_new _ _⟩⟩

theorem J21.start {u:World}{Q1:World→Value→Prop}{Q2:World→Value→Prop}(m1:∀(W W':World) (x:Value),Below W.heap.size W W'→Q1 W x→Q1 W' x)(m2:∀(W W':World) (x:Value),Below W.heap.size W W'→Q2 W x→Q2 W' x)(x1 x2 y1:Value){W:World}(h:Below u.heap.size u W):J21 u Q1 Q2 false false false x1 x2 y1 W:=
 ⟨h,m1,m2,nofun,nofun,nofun,nofun⟩

def cG (c1 c2 k1:Bool):Nat:=(!c1).toNat+(!c2).toNat+(!k1).toNat

theorem pE (c1 c2 k1:Bool)(h:0=cG c1 c2 k1):c1=true∧c2=true∧k1=true:=by
 unfold cG at h
 cases c1 <;> cases c2 <;> cases k1 <;> simp at h ⊢

theorem qY {P:Program}{md:Region.Mode}{ops:Array Oper}{Q:Exit→Act→World→Prop}{S:World→Prop}(u:World)(Q1:World→Value→Prop)(Q2:World→Value→Prop)(m1:∀(W W':World) (x:Value),Below W.heap.size W W'→Q1 W x→Q1 W' x)(m2:∀(W W':World) (x:Value),Below W.heap.size W W'→Q2 W x→Q2 W' x)(s1 s2 t1 base:Nat)(LST:Bool→Bool→Bool→Array Bool){W:World}{n:Nat}{listed:Array Bool}{a:Act}(hn:n=3+base)(hl:listed=LST false false false)(ha:a=(((a.put (some s1) undef).put (some s2) undef).put (some t1) undef))(hu:Below u.heap.size u W)
  (h:∀(n:Nat) (c1 c2 k1:Bool) (x1 x2 y1:Value) (W:World),n=cG c1 c2 k1→J21 u Q1 Q2 c1 c2 k1 x1 x2 y1 W→wpAnyH P md ops Q S (n+base) (LST c1 c2 k1) (((a.put (some s1) x1).put (some s2) x2).put (some t1) y1) W) :
  wpAnyH P md ops Q S n listed a W:=by
 subst hn hl
 rw [ha]
 exact h 3 _ _ _ _ _ _ W rfl (J21.start m1 m2 _ _ _ hu)

structure J32 (u:World)(Q1:World→Value→Prop)(Q2:World→Value→Prop)(Q3:World→Value→Value→Value→Value→Prop)(c1 c2 c3 k1 k2:Bool)(x1 x2 x3 e1 e2 e3 y1 y2:Value)(W:World):Prop where
 up:Below u.heap.size u W
 m1:∀(W W':World) (x:Value),Below W.heap.size W W'→Q1 W x→Q1 W' x
 m2:∀(W W':World) (x:Value),Below W.heap.size W W'→Q2 W x→Q2 W' x
 m3:∀(W W':World) (x z1 z2 z3:Value),Below W.heap.size W W'→Q3 W x z1 z2 z3→Q3 W' x z1 z2 z3
 h2:c2=true→c1=true
 h3:c3=true→c2=true
 q1:c1=true→Q1 W x1
 q2:c2=true→Q2 W x2
 q3:c3=true→Q3 W x3 e1 e2 e3
 r1:k1=true→∃g,y1=.pointer (some ⟨g,0,none⟩)∧u.heap.size≤g∧W.heap[g]?=some (.cells #[.bool false,.slice none 0 0] 32)
 r2:k2=true→∃g,y2=.pointer (some ⟨g,0,none⟩)∧u.heap.size≤g∧W.heap[g]?=some (.cells #[.bool false,.slice none 0 0] 32)
 d12:k1=true→k2=true→y1≠y2

theorem J32.below {u:World}{Q1:World→Value→Prop}{Q2:World→Value→Prop}{Q3:World→Value→Value→Value→Value→Prop}{c1 c2 c3 k1 k2:Bool}{x1 x2 x3 e1 e2 e3 y1 y2:Value}{W W':World}(h:J32 u Q1 Q2 Q3 c1 c2 c3 k1 k2 x1 x2 x3 e1 e2 e3 y1 y2 W)(hb:Below W.heap.size W W'):J32 u Q1 Q2 Q3 c1 c2 c3 k1 k2 x1 x2 x3 e1 e2 e3 y1 y2 W':=
 ⟨h.up.trans (hb.mono h.up.size),h.m1,h.m2,h.m3,h.h2,h.h3,fun e=>h.m1 _ _ _ hb (h.q1 e),fun e=>h.m2 _ _ _ hb (h.q2 e),fun e=>h.m3 _ _ _ _ _ _ hb (h.q3 e),fun e=>fg hb (h.r1 e),fun e=>fg hb (h.r2 e),h.d12⟩

theorem J32.call1 {u:World}{Q1:World→Value→Prop}{Q2:World→Value→Prop}{Q3:World→Value→Value→Value→Value→Prop}{c1 c2 c3 k1 k2:Bool}{x1 x2 x3 e1 e2 e3 y1 y2:Value}{v:Value}{W W':World}(h:J32 u Q1 Q2 Q3 c1 c2 c3 k1 k2 x1 x2 x3 e1 e2 e3 y1 y2 W)(hb:Below W.heap.size W W')(hv:Q1 W' v):J32 u Q1 Q2 Q3 true c2 c3 k1 k2 v x2 x3 e1 e2 e3 y1 y2 W':=
 have j:=h.below hb
 ⟨j.up,j.m1,j.m2,j.m3,fun _=>rfl,j.h3,fun _=>hv,j.q2,j.q3,j.r1,j.r2,j.d12⟩

theorem J32.call2 {u:World}{Q1:World→Value→Prop}{Q2:World→Value→Prop}{Q3:World→Value→Value→Value→Value→Prop}{c2 c3 k1 k2:Bool}{x1 x2 x3 e1 e2 e3 y1 y2:Value}{v:Value}{W W':World}(h:J32 u Q1 Q2 Q3 true c2 c3 k1 k2 x1 x2 x3 e1 e2 e3 y1 y2 W)(hb:Below W.heap.size W W')(hv:Q2 W' v):J32 u Q1 Q2 Q3 true true c3 k1 k2 x1 v x3 e1 e2 e3 y1 y2 W':=
 have j:=h.below hb
 ⟨j.up,j.m1,j.m2,j.m3,fun _=>rfl,fun _=>rfl,j.q1,fun _=>hv,j.q3,j.r1,j.r2,j.d12⟩

theorem J32.call3 {u:World}{Q1:World→Value→Prop}{Q2:World→Value→Prop}{Q3:World→Value→Value→Value→Value→Prop}{c3 k1 k2:Bool}{x1 x2 x3 e1 e2 e3 y1 y2:Value}{v f1 f2 f3:Value}{W W':World}(h:J32 u Q1 Q2 Q3 true true c3 k1 k2 x1 x2 x3 e1 e2 e3 y1 y2 W)(hb:Below W.heap.size W W')(hv:Q3 W' v f1 f2 f3):J32 u Q1 Q2 Q3 true true true k1 k2 x1 x2 v f1 f2 f3 y1 y2 W':=
 have j:=h.below hb
 ⟨j.up,j.m1,j.m2,j.m3,fun _=>rfl,fun _=>rfl,j.q1,j.q2,fun _=>hv,j.r1,j.r2,j.d12⟩

theorem J32.make1 {u:World}{Q1:World→Value→Prop}{Q2:World→Value→Prop}{Q3:World→Value→Value→Value→Value→Prop}{c1 c2 c3 k1 k2:Bool}{x1 x2 x3 e1 e2 e3 y1 y2:Value}{W:World}(h:J32 u Q1 Q2 Q3 c1 c2 c3 k1 k2 x1 x2 x3 e1 e2 e3 y1 y2 W) :
  J32 u Q1 Q2 Q3 c1 c2 c3 true k2 x1 x2 x3 e1 e2 e3 (.pointer (some ⟨W.heap.size,0,none⟩)) y2 (W.alloc (.cells #[.bool false,.slice none 0 0] 32)):=
 have j:=h.below (cn W (.cells #[.bool false,.slice none 0 0] 32))
 ⟨j.up,j.m1,j.m2,j.m3,j.h2,j.h3,j.q1,j.q2,j.q3,fun _=>⟨_,rfl,h.up.size,heap_alloc_new _ _⟩,j.r2,fun _ e=>(fv (h.r2 e)).symm⟩

theorem J32.make2 {u:World}{Q1:World→Value→Prop}{Q2:World→Value→Prop}{Q3:World→Value→Value→Value→Value→Prop}{c1 c2 c3 k1 k2:Bool}{x1 x2 x3 e1 e2 e3 y1 y2:Value}{W:World}(h:J32 u Q1 Q2 Q3 c1 c2 c3 k1 k2 x1 x2 x3 e1 e2 e3 y1 y2 W) :
  J32 u Q1 Q2 Q3 c1 c2 c3 k1 true x1 x2 x3 e1 e2 e3 y1 (.pointer (some ⟨W.heap.size,0,none⟩)) (W.alloc (.cells #[.bool false,.slice none 0 0] 32)):=
 have j:=h.below (cn W (.cells #[.bool false,.slice none 0 0] 32))
 ⟨j.up,j.m1,j.m2,j.m3,j.h2,j.h3,j.q1,j.q2,j.q3,j.r1,fun _=>⟨_,rfl,h.up.size,heap_alloc_new _ _⟩,fun e _=>fv (h.r1 e)⟩

theorem J32.start {u:World}{Q1:World→Value→Prop}{Q2:World→Value→Prop}{Q3:World→Value→Value→Value→Value→Prop}(m1:∀(W W':World) (x:Value),Below W.heap.size W W'→Q1 W x→Q1 W' x)(m2:∀(W W':World) (x:Value),Below W.heap.size W W'→Q2 W x→Q2 W' x)(m3:∀(W W':World) (x z1 z2 z3:Value),Below W.heap.size W W'→Q3 W x z1 z2 z3→Q3 W' x z1 z2 z3)(x1 x2 x3 e1 e2 e3 y1 y2:Value){W:World}(h:Below u.heap.size u W):J32 u Q1 Q2 Q3 false false false false false x1 x2 x3 e1 e2 e3 y1 y2 W:=
 ⟨h,m1,m2,m3,nofun,nofun,nofun,nofun,nofun,nofun,nofun,nofun⟩

def aS (c1 c2 c3 k1 k2:Bool):Nat:=(!c1).toNat+(!c2).toNat+(!c3).toNat+(!k1).toNat+(!k2).toNat

theorem p9 (c1 c2 c3 k1 k2:Bool)(h:0=aS c1 c2 c3 k1 k2):c1=true∧c2=true∧c3=true∧k1=true∧k2=true:=by
 unfold aS at h
 cases c1 <;> cases c2 <;> cases c3 <;> cases k1 <;> cases k2 <;> simp at h ⊢

theorem pC {P:Program}{md:Region.Mode}{ops:Array Oper}{Q:Exit→Act→World→Prop}{S:World→Prop}(u:World)(Q1:World→Value→Prop)(Q2:World→Value→Prop)(Q3:World→Value→Value→Value→Value→Prop)(m1:∀(W W':World) (x:Value),Below W.heap.size W W'→Q1 W x→Q1 W' x)(m2:∀(W W':World) (x:Value),Below W.heap.size W W'→Q2 W x→Q2 W' x)(m3:∀(W W':World) (x z1 z2 z3:Value),Below W.heap.size W W'→Q3 W x z1 z2 z3→Q3 W' x z1 z2 z3)(s1 s2 s3 w1 w2 w3 t1 t2 base:Nat)(LST:Bool→Bool→Bool→Bool→Bool→Array Bool){W:World}{n:Nat}{listed:Array Bool}{a:Act}(hn:n=5+base+3)(hl:listed=LST false false false false false)(ha:a=((((((((a.put (some s1) undef).put (some s2) undef).put (some s3) undef).put (some w1) undef).put (some w2) undef).put (some w3) undef).put (some t1) undef).put (some t2) undef))(hu:Below u.heap.size u W)
  (h:∀(n:Nat) (c1 c2 c3 k1 k2:Bool) (x1 x2 x3 e1 e2 e3 y1 y2:Value) (W:World),n=aS c1 c2 c3 k1 k2→J32 u Q1 Q2 Q3 c1 c2 c3 k1 k2 x1 x2 x3 e1 e2 e3 y1 y2 W→wpAnyH P md ops Q S (n+base+3*(!c3).toNat) (LST c1 c2 c3 k1 k2) ((((((((a.put (some s1) x1).put (some s2) x2).put (some s3) x3).put (some w1) e1).put (some w2) e2).put (some w3) e3).put (some t1) y1).put (some t2) y2) W) :
  wpAnyH P md ops Q S n listed a W:=by
 subst hn hl
 rw [ha]
 exact h 5 _ _ _ _ _ _ _ _ _ _ _ _ _ W rfl (J32.start m1 m2 m3 _ _ _ _ _ _ _ _ hu)
end Go.Proofs.YtdbjbbdhlpfhjaaGreatDoor

