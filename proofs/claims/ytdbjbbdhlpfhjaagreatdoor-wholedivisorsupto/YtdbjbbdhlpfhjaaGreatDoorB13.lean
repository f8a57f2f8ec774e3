/- Package whole: Inverse. -/
import Derived.Test.YtdbjbbdhlpfhjaaGreatDoorB12
import Derived.Test.YtdbjbbdhlpfhjaaGreatDoorB07
import Derived.Test.YtdbjbbdhlpfhjaaGreatDoorB05
import Derived.Test.YtdbjbbdhlpfhjaaGreatDoorB08
import Derived.Test.YtdbjbbdhlpfhjaaGreatDoorB01
import Derived.Deep.RegionHeld3
import Derived.Test.YtdbjbbdhlpfhjaaGreatDoorB03
import Derived.Test.YtdbjbbdhlpfhjaaGreatDoorB02
import Derived.Test.YtdbjbbdhlpfhjaaGreatDoorB11
import Derived.Handy
import Derived.Test.YtdbjbbdhlpfhjaaGreatDoorB09
set_option maxRecDepth 20000
set_option maxHeartbeats 4000000
namespace Go.Proofs.YtdbjbbdhlpfhjaaGreatDoor
open Go.RowKit
open Lm
attribute [local go_sem ↓] Go.wp_at_zero Go.wp_at_succ

def fV (az mz:Int)(w':World)(base:Nat)(b:Bool)(a:Option Addr)(n k:Nat)(c:Int):Prop:=
 (mz=0∧c=30∧b=false∧a=none∧n=0∧k=0) ∨
 (mz≠0∧Nat.gcd az.natAbs mz.natAbs≠1∧c=61∧b=false∧a=none∧n=0∧k=0) ∨
 (mz≠0∧Nat.gcd az.natAbs mz.natAbs=1∧c=0∧∃x:Nat,ZA w' base b (.slice a n k) (x:Int)∧x<mz.natAbs∧∃q:Int,az*(x:Int)=1+q*mz)

def ru (az mz:Int)(w:World)(e:Ending)(w':World):Prop:=
 (∃(b:Bool) (a:Option Addr) (n k:Nat) (c:Int),e=.returned (.tuple #[.agg #[.bool b,.slice a n k],.int .i64 c])∧fV az mz w' w.heap.size b a n k c)∧Below w.heap.size w w'

theorem dJ {b:Bool}{B:Nat}(h:0<B):zz b B≠0:=fun e=>by
 have:=aB b B
 rw [e] at this
 simp at this
 omega

theorem qa (ba bm:Bool)(A M x:Nat)(hM:0<M)(hg:Nat.gcd M (er ba A M)=1)(hi:IsInv M (er ba A M) (Nat.gcd M (er ba A M)) x):x<M∧∃q:Int,zz ba A*(x:Int)=1+q*zz bm M:=by
 refine⟨ee hi hM (by rw [hg];exact Nat.one_pos),?_⟩
 obtain⟨k,hk⟩:=hi.eq
 obtain⟨l,hl⟩:=eW ba A M hM
 rw [hg] at hk
 cases bm
 ·refine⟨k+l*x,?_⟩
  have e:zz false M=(M:Int):=rfl
  rw [hl,e]
  grind
 ·refine⟨-(k+l*x),?_⟩
  have e:zz true M=-(M:Int):=rfl
  rw [hl,e]
  grind

theorem gY (ba bm:Bool)(va vm:Value)(X M:List Nat)(w:World)(hA:Arg w va X)(hM:Arg w vm M)(hT:Tab w)(lX:X.length≤17592186043904)(lM:M.length≤17592186043904)(bM:blen (val M)≤67108864) :
  Calls Tryz.prog 15 #[.agg #[.bool ba,va],.agg #[.bool bm,vm]] w (ru (zz ba (val X)) (zz bm (val M)) w):=by
 obtain⟨a1,c1,rfl,_,_,_⟩:=hA.form
 obtain⟨a2,c2,rfl,_,_,_⟩:=hM.form
 obtain⟨w0,hw0,hb0,h0,h1,h2⟩:=cO w (.cells #[.bool ba,.slice a1 X.length c1] 27) (.cells #[.bool bm,.slice a2 M.length c2] 27) (.cells #[.bool false,.slice none 0 0] 27)
 obtain⟨k0,k1⟩:=duo h0
 obtain⟨k2,k3⟩:=duo h1
 have C:=dC _ M w0 (hM.below hb0)
 have H0:=ac h0
 have H1:=ac h1
 have H2:=ac h2
 have HB0:=ac hb0
 have HA:=ac (hA.below hb0)
 have HM:=ac (hM.below hb0)
 have HT:=ac (hT.below hb0)
 have HL:=ac (And.intro lX (And.intro lM bM))
 clear hA hM hT hb0 h0 h1 h2 lX lM bM
 by_cases hm0:val M=0
 ·rw [decide_eq_true hm0] at C
  have HZA:=ac (fun (t:World) (u0 u1:Value) (_:t.heap[w.heap.size+2]?=some (.cells #[.bool false,.slice none 0 0] 27))=>show fV (zz ba (val X)) (zz bm (val M)) ((t.setCell ⟨w.heap.size+2,0,none⟩ u0).setCell ⟨w.heap.size+2,1,none⟩ u1) w.heap.size false none 0 0 30 from .inl ⟨by rw [hm0];exact eC bm,rfl,rfl,rfl,rfl,rfl⟩)
  clear hm0
  go_enter Tryz.func15,Tryz.ntmps15
  go_wp2_with fail
  refine C.mono ?_
  rintro e wn ⟨rfl,hw⟩;rw [hw];clear hw wn C
  have HBX:=H2
  have HBE:=HB0
  have hbx:=HBX.out
  have hf1:=av hbx
  obtain⟨l0,l1⟩:=duo hbx
  clear hbx
  go_wp2
  have R5:=aH HBX.out (a':=.bool false) (b':=.slice none 0 0)
  have HD:=ac (And.intro (HZA.out w0 (.bool false) (.slice none 0 0) HBX.out) (aC HBE.out (g:=w.heap.size+2) (u0:=.bool false) (u1:=.slice none 0 0) (by omega)))
  generalize (w0.setCell ⟨w.heap.size+2,0,none⟩ (.bool false)).setCell ⟨w.heap.size+2,1,none⟩ (.slice none 0 0)=w5 at *
  obtain⟨q0,q1⟩:=duo R5
  refine bodyPost_ret (v:=.tuple #[.agg #[.bool false,.slice none 0 0],.int .i64 30]) (by simp [results,Tryz.results15,go_sem,q0,q1]) rfl ?_
  exact⟨⟨_,_,_,_,_,rfl,HD.out.1⟩,HD.out.2⟩
 ·rw [decide_eq_false hm0] at C
  have hm1:0<val M:=by omega
  have HY0:=ac hm1
  clear hm0 hm1
  go_enter Tryz.func15,Tryz.ntmps15
  go_wp2_with fail
  refine C.mono ?_
  rintro e wn ⟨rfl,hw⟩;rw [hw];clear hw wn C
  have g0:Below w0.drew.heap.size w0.drew w0.drew:=Below.refl _ _
  have P2:=ac (fun (W:World) (v1:Value) (r1:List Nat) (hg:Below w0.drew.heap.size w0.drew W) (h1:Ans W w0.drew.heap.size v1 r1) (hv:val r1=er ba (val X) (val M)) (ht:tr r1=r1)=>
   show Calls Tryz.prog 43 #[v1,.slice a2 M.length c2] W (dg (val M) (er ba (val X) (val M)) W) by
    have hlt:=gL ba (val X) (val M) HY0.out
    have hl:r1.length≤M.length:=ch ht (by rw [hv];exact Nat.lt_trans hlt (val_lt HM.out.limbs))
    have hl2:=HL.out.2.1
    have h:=kd v1 _ r1 M W (h1.arg (by omega)) ((HM.out.below (Below.refl _ _).drew).below hg) ((HT.out.below (Below.refl _ _).drew).below hg) (by rw [hv];exact hlt) (by omega) (by omega)
    rw [hv] at h
    exact h)
  have P1:=kj ba _ X _ M w0.drew (HA.out.below (Below.refl _ _).drew) (HM.out.below (Below.refl _ _).drew) (HT.out.below (Below.refl _ _).drew) (by have:=HL.out;omega) (by have:=HL.out;omega) HY0.out
  have KS:=ac (fun (W:World) (hg:Below w0.drew.heap.size w0.drew W)=>show W.cell? ⟨w.heap.size,0,none⟩=some (.bool ba)∧W.cell? ⟨w.heap.size,1,none⟩=some (.slice a1 X.length c1)∧W.cell? ⟨w.heap.size+1,1,none⟩=some (.slice a2 M.length c2) from
   ⟨(duo (ae hg (show w0.drew.heap[w.heap.size]?=some (.cells #[.bool ba,.slice a1 X.length c1] 27) from H0.out))).1,(duo (ae hg (show w0.drew.heap[w.heap.size]?=some (.cells #[.bool ba,.slice a1 X.length c1] 27) from H0.out))).2,(duo (ae hg (show w0.drew.heap[w.heap.size+1]?=some (.cells #[.bool bm,.slice a2 M.length c2] 27) from H1.out))).2⟩)
  go_wp2
  go_region_held3 (fun w'=>w'.cell? ⟨w.heap.size,0,none⟩=some (.bool ba)∧w'.cell? ⟨w.heap.size,1,none⟩=some (.slice a1 X.length c1)∧w'.cell? ⟨w.heap.size+1,1,none⟩=some (.slice a2 M.length c2)) (first|with_reducible exact KS.out _ g2|with_reducible exact KS.out _ g1|with_reducible exact KS.out _ g0) (first
   | (go_at_call 44;refine P1.mono ?_;rintro e' t1 ⟨⟨v1,r1,rfl,x1,x2,x3⟩,hb1⟩;have g1:=bt6 g0 hb1;obtain⟨a8,k8,rfl⟩:=x1.shape)
   | (go_at_call 43;refine (P2.out t1 _ r1 g1 x1 x2 x3).mono ?_;rintro e' t2 ⟨⟨v3,v4,r3,r4,rfl,y1,y2,y3,y4,y5,y6,y7⟩,hb2⟩;have g2:=bt6 g1 hb2;obtain⟨a3,c3,rfl⟩:=y1.shape;obtain⟨a4,c4,rfl⟩:=y2.shape))
  all_goals
   have hb02:Below w0.heap.size w0 t2:=cY g2
   have b3:blen (val r3)≤67108864:=Nat.le_trans (bA (by rw [y3];exact Nat.gcd_le_left _ HY0.out)) HL.out.2.2
   have b4:blen (val r4)≤67108864:=Nat.le_trans (bA (Nat.le_of_lt (ee y5 HY0.out (Nat.gcd_pos_of_pos_left _ HY0.out)))) HL.out.2.2
   have l3:=cX y4 b3
   have l4:=cX y6 b4
   have n4:¬67108864<blen (val r4):=by omega
   have C:=rc _ r3 t2 (y1.arg (by omega)) y4
   have hs1:w.heap.size≤t1.heap.size:=Nat.le_trans HB0.out.size g1.size
   have hgc:Nat.gcd (zz ba (val X)).natAbs (zz bm (val M)).natAbs=Nat.gcd (val M) (er ba (val X) (val M)):=by rw [aB,aB];exact (dI ba (val X) (val M) HY0.out).symm
   have HA4:=ac (And.intro (y2.base hs1) (And.intro y6 (And.intro l4 n4)))
   have HI:=ac y5
   have HGC:=ac hgc
   have HBV:=ac hb02
   rw [y3] at C
   clear P1 P2 KS g0 g1 g2 hb1 hb2 x1 x2 x3 y1 y2 y3 y4 y5 y6 y7 n4 hb02 hs1 l3 l4 b3 b4 HA HM HT k0 k1 k2 k3
   by_cases hone:Nat.gcd (val M) (er ba (val X) (val M))=1
   ·rw [decide_eq_true hone] at C
    have HQ:=ac (qa ba bm (val X) (val M) (val r4) HY0.out hone HI.out)
    have HG1:=ac (hgc.trans hone)
    clear hone hgc HI
    go_wp2_with fail
    refine C.mono ?_
    rintro e t3 ⟨rfl,hb3⟩
    obtain⟨t4,ht4,hb4,hx4⟩:=aL t3 (.cells #[.slice a4 r4.length c4] 25)
    have hb34:=aA hb3 hb4
    have HA4b:=ac (And.intro (HA4.out.1.below hb34) HA4.out.2)
    have AB:=ke t3.heap.size _ r4 t4 hx4 (HA4b.out.1.arg (by have:=HA4b.out.2.2.1;omega))
    rw [decide_eq_false HA4b.out.2.2.2] at AB
    have HB4:=ac (aA HBV.out hb34)
    clear hb3 hb4 hx4 hb34 C HA4 HBV
    go_wp2_with fail
    refine AB.mono ?_
    rintro e wn ⟨rfl,hw⟩;rw [hw];clear hw wn AB ht4
    have C:=dF false _ r4 w.heap.size t4 (val r4) ((val r4:Nat):Int) rfl HA4b.out.1 rfl HA4b.out.2.1
    obtain⟨u2,hu2⟩:∃u2,decide (((val r4:Nat):Int)<0)=u2:=⟨_,rfl⟩
    rw [hu2] at C
    have HU:=ac hu2
    clear hu2
    go_wp2_with fail
    refine C.mono ?_
    rintro e t5 ⟨rfl,hb5⟩
    have HBX:=ac (ae (aA HB4.out hb5) H2.out)
    have HBE:=ac (aA HB0.out (aA HB4.out hb5))
    have HA5:=ac (HA4b.out.1.below hb5)
    have HZA:=ac (fun (t:World) (u0 u1:Value) (ht:t5.heap[w.heap.size+2]?=some (.cells #[.bool false,.slice none 0 0] 27))=>show fV (zz ba (val X)) (zz bm (val M)) ((t5.setCell ⟨w.heap.size+2,0,none⟩ u0).setCell ⟨w.heap.size+2,1,none⟩ u1) w.heap.size u2 a4 r4.length c4 0 from .inr (.inr ⟨dJ HY0.out,HG1.out,rfl,val r4,⟨r4,HA5.out.duo ht,HU.out.symm,(Int.natAbs_natCast _).symm,HA4b.out.2.1⟩,by rw [aB];exact HQ.out.1,HQ.out.2⟩))
    clear C hb5
    have hbx:=HBX.out
    have hf1:=av hbx
    obtain⟨l0,l1⟩:=duo hbx
    clear hbx
    go_wp2
    have R5:=aH HBX.out (a':=.bool u2) (b':=.slice a4 r4.length c4)
    have HD:=ac (And.intro (HZA.out t5 (.bool u2) (.slice a4 r4.length c4) HBX.out) (aC HBE.out (g:=w.heap.size+2) (u0:=.bool u2) (u1:=.slice a4 r4.length c4) (by omega)))
    generalize (t5.setCell ⟨w.heap.size+2,0,none⟩ (.bool u2)).setCell ⟨w.heap.size+2,1,none⟩ (.slice a4 r4.length c4)=w5 at *
    obtain⟨q0,q1⟩:=duo R5
    refine bodyPost_ret (v:=.tuple #[.agg #[.bool u2,.slice a4 r4.length c4],.int .i64 0]) (by simp [results,Tryz.results15,go_sem,q0,q1]) rfl ?_
    exact⟨⟨_,_,_,_,_,rfl,HD.out.1⟩,HD.out.2⟩
   ·rw [decide_eq_false hone] at C
    have HG1:=ac (fun e=>hone (hgc.symm.trans e))
    have HZA:=ac (fun (t:World) (u0 u1:Value) (_:t.heap[w.heap.size+2]?=some (.cells #[.bool false,.slice none 0 0] 27))=>show fV (zz ba (val X)) (zz bm (val M)) ((t.setCell ⟨w.heap.size+2,0,none⟩ u0).setCell ⟨w.heap.size+2,1,none⟩ u1) w.heap.size false none 0 0 61 from .inr (.inl ⟨dJ HY0.out,HG1.out,rfl,rfl,rfl,rfl,rfl⟩))
    clear hone hgc HI
    go_wp2_with fail
    refine C.mono ?_
    rintro e t3 ⟨rfl,hb3⟩
    have HBX:=ac (ae (aA HBV.out hb3) H2.out)
    have HBE:=ac (aA HB0.out (aA HBV.out hb3))
    clear C hb3 HA4 HBV
    have hbx:=HBX.out
    have hf1:=av hbx
    obtain⟨l0,l1⟩:=duo hbx
    clear hbx
    go_wp2
    have R5:=aH HBX.out (a':=.bool false) (b':=.slice none 0 0)
    have HD:=ac (And.intro (HZA.out t3 (.bool false) (.slice none 0 0) HBX.out) (aC HBE.out (g:=w.heap.size+2) (u0:=.bool false) (u1:=.slice none 0 0) (by omega)))
    generalize (t3.setCell ⟨w.heap.size+2,0,none⟩ (.bool false)).setCell ⟨w.heap.size+2,1,none⟩ (.slice none 0 0)=w5 at *
    obtain⟨q0,q1⟩:=duo R5
    refine bodyPost_ret (v:=.tuple #[.agg #[.bool false,.slice none 0 0],.int .i64 61]) (by simp [results,Tryz.results15,go_sem,q0,q1]) rfl ?_
    exact⟨⟨_,_,_,_,_,rfl,HD.out.1⟩,HD.out.2⟩


end Go.Proofs.YtdbjbbdhlpfhjaaGreatDoor
namespace Go.Proofs.YtdbjbbdhlpfhjaaGreatDoor
open Lm

theorem jx (B:Nat):∀(out:List Nat) (j n z:Nat),j<n→n≤out.length→vb B ((out.set j z).take n)+B ^ j*out.getD j 0=vb B (out.take n)+B ^ j*z
 | [],j,n,z,h1,h2=>by simp at h2;omega
 | a :: r,0,n+1,z,_,_=>by
  simp only [List.set_cons_zero,List.take_succ_cons,vb,List.getD_cons_zero,Nat.pow_zero,Nat.one_mul]
  omega
 | a :: r,j+1,n+1,z,h1,h2=>by
  have ih:=jx B r j n z (by omega) (by simpa using h2)
  simp only [List.set_cons_succ,List.take_succ_cons,vb,List.getD_cons_succ]
  rw [show B ^ (j+1)=B*B ^ j by rw [Nat.pow_succ,Nat.mul_comm]]
  grind

theorem lF (B:Nat)(Y out:List Nat)(i k n x cy s V:Nat)(hk:i+k<n)(hn:n≤out.length)
  (h:vb B (out.take n)+cy*B ^ (i+k)=V+B ^ i*(x*vb B (Y.take k))) (hs:s=x*Y.getD k 0+out.getD (i+k) 0+cy) :
  vb B ((out.set (i+k) (s % B)).take n)+s / B*B ^ (i+(k+1))=V+B ^ i*(x*vb B (Y.take (k+1))):=by
 have h1:=jx B out (i+k) n (s % B) hk hn
 have h2:=Nat.mod_add_div s B
 rw [vb_take_next Y k]
 have e1:B ^ (i+(k+1))=B ^ (i+k)*B:=by rw [←Nat.add_assoc,Nat.pow_succ]
 have e2:B ^ (i+k)=B ^ i*B ^ k:=Nat.pow_add _ _ _
 rw [e1]
 rw [e2] at h h1 ⊢
 generalize out.getD (i+k) 0=o at *
 generalize Y.getD k 0=y at *
 generalize vb B (Y.take k)=U at *
 generalize vb B (out.take n)=W at *
 generalize vb B ((out.set (i+k) (s % B)).take n)=W' at *
 generalize s % B=m at *
 generalize s / B=d at *
 generalize B ^ i=I at *
 generalize B ^ k=K at *
 subst hs
 grind

theorem qP (B:Nat)(X Y out0 out:List Nat)(i x cy:Nat)(hx:x=X.getD i 0)(hn:i+Y.length<out.length)
  (h0:vb B (out0.take (i+Y.length))=vb B (X.take i)*vb B Y)
  (h:vb B (out.take (i+Y.length))+cy*B ^ (i+Y.length)=vb B (out0.take (i+Y.length))+B ^ i*(x*vb B (Y.take Y.length))) :
  vb B ((out.set (i+Y.length) cy).take (i+1+Y.length))=vb B (X.take (i+1))*vb B Y:=by
 rw [show i+1+Y.length=i+Y.length+1 by omega,vb_set_succ _ _ _ hn,vb_take_next X i,←hx]
 rw [List.take_length,h0] at h
 grind

theorem oB (x y o cy:Nat)(hx:x<4294967296)(hy:y<4294967296)(ho:o<4294967296)(hc:cy<4294967296):x*y≤18446744065119617025∧x*y+o+cy<18446744073709551616:=by
 have:=Nat.mul_le_mul (Nat.le_sub_one_of_lt hx) (Nat.le_sub_one_of_lt hy)
 omega
end Go.Proofs.YtdbjbbdhlpfhjaaGreatDoor
namespace Go.Proofs.YtdbjbbdhlpfhjaaGreatDoor
open Go.RowKit
open Lm
attribute [local go_sem ↓] Go.wp_at_zero Go.wp_at_succ

theorem jU (out:List Nat)(j n z:Nat)(h:j≠n):(out.set j z).getD n 0=out.getD n 0:=by
 simp [List.getD,h]

theorem jo {ds:List Nat}(hd:Digs 4294967296 ds)(ht:tr ds=ds):ds.length*32≤blen (vb 4294967296 ds)+31:=by
 rcases Nat.eq_zero_or_pos ds.length with h|h
 ·omega
 ·obtain⟨m,hm⟩:∃m,ds.length=m+1:=⟨ds.length - 1,by omega⟩
  have h1:=blen_vb hd ht m hm
  have h2:=blen_half _ (tr_last' ds m ht hm)
  omega

theorem qA (v1 v2:Value)(x y:Nat)(w:World)(h1:Num w v1 x)(h2:Num w v2 y)(hf:blen x+blen y≤1125899906840000) :
  Calls Tryz.prog 58 #[v1,v2] w fun e w'=>(∃v',e=.returned v'∧Num w' v' (x*y))∧Below w.heap.size w w':=by
 obtain⟨X,A1,hX,hXt,rfl,_⟩:=h1
 obtain⟨Y,A2,hY,hYt,rfl,_⟩:=h2
 have lX:=jo hX hXt
 have lY:=jo hY hYt
 have lXY:X.length+Y.length≤35184372088752:=by omega
 obtain⟨a1,c1,rfl,hc1,hm1,L1⟩:=A1.form
 obtain⟨a2,c2,rfl,hc2,hm2,L2⟩:=A2.form
 obtain⟨i0,hi,hz0,hz1,hz2⟩:=info_parts Tryz.infoU
 clear hf hXt hYt lX lY A1 A2
 obtain⟨N,hN1,hN2,eN⟩:∃N,N≤X.length+Y.length+1∧X.length+Y.length+1≤N∧(X.length:Int)+(Y.length:Int)+1=(N:Int):=⟨X.length+Y.length+1,by omega,by omega,by omega⟩
 go_enter Tryz.func58,Tryz.ntmps58
 go_wp2_with (at_make;refine wpList_make_full _ rfl _ _ 30 rfl w.heap.size 61 i0 (.int .u64 0) 1 Tryz.underlying30 hi hz0 hz1 .i64 .i64 _ _ N rfl rfl (by omega) (by omega) (by rw [hz2];omega) (by unfold maxLen;omega) (Nat.le_refl _) ?_;intro w1 hown hgrow)
 have hb1:=Blk.made hown
 have hbel:Below w.heap.size w w1:=(Below.refl _ _).grown hgrow (Nat.le_refl _) (fun k hk=>by cases hk)
 clear hown hgrow hi hz0 hz1 hz2
 go_loopw [21] (fun i wr=>∃(k:Nat) (out:List Nat),k≤X.length∧i=.int .i64 k∧out.length=N∧out.getD (X.length+Y.length) 0=0∧Digs 4294967296 out∧Blk wr w.heap.size out∧Below w.heap.size w wr ∧
   vb 4294967296 (out.take (k+Y.length))=vb 4294967296 (X.take k)*vb 4294967296 Y) (fun i _=>X.length - (intOf i).toNat)
 case atStart=>exact⟨0,_,Nat.zero_le _,rfl,by simp,iI _ _,digs_replicate (by omega) _,hb1,hbel,by rw [List.take_replicate,jK];simp [vb]⟩
 case round=>
  obtain⟨k,out,hk,rfl,hlen,htop,hdo,hblk,hbl,hval⟩:=hrel
  clear hb1 hbel
  have HT:=ac htop
  by_cases hkl:k<X.length
  ·rcases L1.below hbl with h0|⟨b,off,rfl,hcell⟩
   ·rw [h0] at hkl;simp at hkl
   ·have hck:=hcell k hkl
    have z1:=dig_lt (by omega) hX k
    have HX:Hid (X.getD k 0=X.getD k 0):=rfl
    obtain⟨x,hx⟩:∃x,x=X.getD k 0:=⟨_,rfl⟩
    rw [←hx] at hck z1
    have HXX:=ac hx
    have HV:=ac hval
    have HB:=ac hblk
    have HL:=ac hbl
    have HY:=ac hY
    clear hx htop hval hblk hbl hcell L1 hX HX hY
    go_wp2
    go_loopw [8,28] (fun c i wr2=>∃(j cy:Nat) (out2:List Nat),j≤Y.length∧i=.int .i64 j∧c=.int .u64 cy∧cy<4294967296∧out2.length=N∧out2.getD (X.length+Y.length) 0=0∧Digs 4294967296 out2∧Blk wr2 w.heap.size out2∧Below w.heap.size w wr2 ∧
      vb 4294967296 (out2.take (k+Y.length))+cy*4294967296 ^ (k+j)=vb 4294967296 (out.take (k+Y.length))+4294967296 ^ k*(x*vb 4294967296 (Y.take j))) (fun _ i _=>Y.length - (intOf i).toNat)
    case atStart=>exact⟨0,0,out,Nat.zero_le _,rfl,rfl,by omega,hlen,HT.out,hdo,HB.out,HL.out,by simp [vb]⟩
    case round=>
     obtain⟨j,cy,out2,hj,rfl,rfl,hcy,hlen2,htop2,hdo2,hblk,hbl,hval2⟩:=hrel
     have HT2:=ac htop2
     clear htop2
     by_cases hjl:j<Y.length
     ·rcases L2.below hbl with h0|⟨b2,off2,rfl,hcell⟩
      ·rw [h0] at hjl;simp at hjl
      ·have hcj:=hcell j hjl
       have hbw:=aG.block (L2:aG w (some ⟨b2,off2,none⟩) Y) (by omega)
       have hne1:¬b2=w.heap.size:=by omega
       have hne2:¬w.heap.size=b2:=by omega
       have z2:=dig_lt (by omega) HY.out j
       have hfr:=hblk.free (k+j)
       have hco:=hblk.cell (k+j) (by omega)
       have z3:=dig_lt (by omega) hdo2 (k+j)
       obtain⟨bP,bS⟩:=oB x (Y.getD j 0) (out2.getD (k+j) 0) cy z1 z2 z3 hcy
       have HV2:=ac (lF 4294967296 Y out2 k j (k+Y.length) x cy _ _ (by omega) (by omega) hval2 rfl)
       generalize Y.getD j 0=y at *
       generalize out2.getD (k+j) 0=o at *
       have e0:(x:Int)*(y:Int)=((x*y:Nat):Int):=by push_cast;rfl
       generalize x*y=P at *
       have e1:(P:Int)+(o:Int)=((P+o:Nat):Int):=by omega
       have b1:P+o<18446744073709551616:=by omega
       generalize P+o=S1 at *
       have e2:(S1:Int)+(cy:Int)=((S1+cy:Nat):Int):=by omega
       generalize S1+cy=S at *
       have e3:(S:Int) % 4294967296=((S % 4294967296:Nat):Int):=by omega
       have e4:(S:Int) / 4294967296=((S / 4294967296:Nat):Int):=by omega
       have bm:S % 4294967296<4294967296:=by omega
       have bd:S / 4294967296<4294967296:=by omega
       generalize S % 4294967296=m at *
       generalize S / 4294967296=d at *
       have HB2:=ac hblk
       have HL2:=ac hbl
       clear hval2 hblk hbl hcell L2 HB HL HV
       go_wp2
       go_roundw
       case rel=>exact⟨j+1,d,out2.set (k+j) m,by omega,by go_num,rfl,bd,by simp;omega,by rw [jU _ _ _ _ (by omega)];exact HT2.out,digs_set hdo2 _ _ bm,HB2.out.set (k+j) m,HL2.out.setCell (Nat.le_refl _) _,HV2.out⟩
       case measure=>simp [intOf];omega
     ·have ej:j=Y.length:=by omega
      subst ej
      have HV3:=ac (qP 4294967296 X Y out out2 k x cy HXX.out (by omega) HV.out hval2)
      have hfr:=hblk.free (k+Y.length)
      have hco:=hblk.cell (k+Y.length) (by omega)
      generalize out2.getD (k+Y.length) 0=o at *
      have HB2:=ac hblk
      have HL2:=ac hbl
      clear hval2 hblk hbl L2 HB HL HV
      go_wp2
      go_roundw
      case rel=>exact⟨k+1,out2.set (k+Y.length) cy,by omega,by go_num,by simp;omega,by rw [jU _ _ _ _ (by omega)];exact HT2.out,digs_set hdo2 _ _ hcy,HB2.out.set _ cy,HL2.out.setCell (Nat.le_refl _) _,HV3.out⟩
      case measure=>simp [intOf];omega
  ·have ek:k=X.length:=by omega
   subst ek
   have hA:=Ans.of_blk (base:=w.heap.size) (zs:=out) (Nat.le_refl _) hblk List.take_length.symm (Nat.le_refl _) (by omega) (digs_limbs hdo)
   have H:=gf _ _ _ (hA.arg (by omega)) hdo (by omega)
   have HL:=ac hbl
   have hve:vb 4294967296 out=vb 4294967296 X*vb 4294967296 Y:=by
    rw [List.take_length] at hval
    rw [←hval,←cP (X.length+Y.length+1) (by omega:out.length≤_),vb_take_next,htop];simp
   rw [hlen,hve] at H
   clear hval hblk hbl hX hY hA hve L1 L2
   go_wp2_with fail
   refine H.mono ?_
   rintro e w2 ⟨⟨v',rfl,hnum⟩,rfl⟩
   have HN:=ac hnum
   clear hnum H
   go_wp2
   go_ret
   exact⟨⟨v',rfl,HN.out⟩,HL.out⟩

theorem Zn.parts {w:World}{v:Value}{z:Int}(h:Zn w v z):∃b a n k,v=.agg #[.bool b,.slice a n k]∧b=decide (z<0)∧Num w (.slice a n k) z.natAbs∧z=zz b z.natAbs:=by
 obtain⟨u,h1,h2⟩:=h
 obtain⟨a,n,k,rfl⟩:=h2.sl
 exact⟨_,a,n,k,h1,rfl,h2,(jS z).symm⟩

theorem Zn.of {w:World}{b:Bool}{u:Value}{x:Nat}(h:Num w u x)(hb:x=0→b=false):Zn w (.agg #[.bool b,u]) (zz b x):=by
 refine⟨u,?_,by rw [aB];exact h⟩
 rw [←iV]
 cases b
 ·rfl
 ·have:¬x=0:=fun e=>by have:=hb e;cases this
  have h1:(x == 0)=false:=by simpa using this
  rw [h1];rfl

theorem Num.drew6 {w:World}{v:Value}{x:Nat}(h:Num w v x):Num w.drew v x:=h.below (Below.refl _ _).drew

theorem Zn.drew6 {w:World}{v:Value}{z:Int}(h:Zn w v z):Zn w.drew v z:=h.below (Below.refl _ _).drew

theorem cS {w w':World}(h:Below w.drew.heap.size w.drew w'):Below w.heap.size w w':=(Below.refl w.heap.size w).drew.trans h

theorem ak {w w':World}{g o:Nat}{v:Value}(hb:Below w.heap.size w w')(h:w.cell? ⟨g,o,none⟩=some v):w'.cell? ⟨g,o,none⟩=some v:=by
 rw [hb.cell (p:=⟨g,o,none⟩) ?_]
 ·exact h
 ·show g<w.heap.size
  rcases Nat.lt_or_ge g w.heap.size with h' | h'
  ·exact h'
  ·simp [World.cell?,Array.getElem?_eq_none h'] at h

theorem qG (v:Value)(z:Int)(w:World)(h:Zn w v z):Calls Tryz.prog 60 #[v] w (bE w (-z)):=by
 obtain⟨b,a,n,k,rfl,hb,hn,hz⟩:=h.parts
 obtain⟨w0,hw0,hb0,h0,hx0⟩:=bD w (.cells #[.bool b,.slice a n k] 32) (.cells #[.bool false,.slice none 0 0] 32)
 obtain⟨k0,k1⟩:=duo h0
 have HM:=cv (!b) _ z.natAbs w0 (hn.below hb0)
 rw [mB,←hz] at HM
 have HB0:=ac hb0
 have HX0:=ac hx0
 clear h hb hn hz hb0 h0 hx0
 go_enter Tryz.func60,Tryz.ntmps60
 go_wp2_with fail
 refine HM.mono ?_
 rintro e w1 ⟨⟨b1,a1,n1,k1,rfl,hzn⟩,hb1⟩
 have HZN:=ac hzn
 have HW:=ac hb1
 clear hzn hb1 HM hw0 k0
 have hbx:=ae HW.out HX0.out
 have hf1:=av hbx
 obtain⟨l0,l1⟩:=duo hbx
 have HBX:=ac hbx
 have HBE:=ac (HB0.out.trans (HW.out.mono HB0.out.size))
 clear hbx
 go_wp2
 have R5:=aH HBX.out (a':=.bool b1) (b':=.slice a1 n1 k1)
 have HD:=ac (And.intro (HZN.out.duo (p1:=b1) (r1:=.slice a1 n1 k1) HBX.out) (aC HBE.out (g:=w.heap.size+1) (u0:=.bool b1) (u1:=.slice a1 n1 k1) (by omega)))
 generalize (w1.setCell ⟨w.heap.size+1,0,none⟩ (.bool b1)).setCell ⟨w.heap.size+1,1,none⟩ (.slice a1 n1 k1)=w5 at *
 obtain⟨q0,q1⟩:=duo R5
 refine bodyPost_ret (v:=.agg #[.bool b1,.slice a1 n1 k1]) (by simp [results,Tryz.results60,go_sem,q0,q1]) rfl ?_
 exact⟨⟨_,_,_,_,rfl,HD.out.1⟩,HD.out.2⟩

theorem iZ (v:Value)(z:Int)(w:World)(h:Zn w v z):Calls Tryz.prog 14 #[v] w (bE w (z.natAbs:Int)):=by
 obtain⟨b,a,n,k,rfl,hb,hn,hz⟩:=h.parts
 obtain⟨w0,hw0,hb0,h0,hx0⟩:=bD w (.cells #[.bool b,.slice a n k] 32) (.cells #[.bool false,.slice none 0 0] 32)
 obtain⟨k0,k1⟩:=duo h0
 have hzn:=Zn.of (b:=false) (hn.below hb0) (fun _=>rfl)
 have ez:zz false z.natAbs=(z.natAbs:Int):=by simp [zz]
 rw [ez] at hzn
 have HZN:=ac hzn
 have HB0:=ac hb0
 have HX0:=ac hx0
 have HW:Hid (Below w0.heap.size w0 w0):=ac (Below.refl _ _)
 clear h hb hn hz hb0 h0 hx0 hzn ez
 have hbx:=ae HW.out HX0.out
 have hf1:=av hbx
 obtain⟨l0,l1⟩:=duo hbx
 have HBX:=ac hbx
 have HBE:=ac (HB0.out.trans (HW.out.mono HB0.out.size))
 clear hbx
 go_enter Tryz.func14,Tryz.ntmps14
 go_wp2
 have R5:=aH HBX.out (a':=.bool false) (b':=.slice a n k)
 have HD:=ac (And.intro (HZN.out.duo (p1:=false) (r1:=.slice a n k) HBX.out) (aC HBE.out (g:=w.heap.size+1) (u0:=.bool false) (u1:=.slice a n k) (by omega)))
 generalize (w0.setCell ⟨w.heap.size+1,0,none⟩ (.bool false)).setCell ⟨w.heap.size+1,1,none⟩ (.slice a n k)=w5 at *
 obtain⟨q0,q1⟩:=duo R5
 refine bodyPost_ret (v:=.agg #[.bool false,.slice a n k]) (by simp [results,Tryz.results14,go_sem,q0,q1]) rfl ?_
 exact⟨⟨_,_,_,_,rfl,HD.out.1⟩,HD.out.2⟩

theorem oo {w:World}{v u:Value}{x:Nat}{rs:List Nat}(hn:Num w v x)(ha:Arg w u rs)(ht:tr rs=rs)(hv:val rs=x)(hf:blen x≤1125899906842624) :
  Calls Tryz.prog 88 #[v,u] w fun e w'=>e=.returned (.bool true)∧Below w.heap.size w w':=nC v u x rs w hn ha ht hv hf

theorem iz (v:Value)(z:Int)(u:Value)(rs:List Nat)(w:World)(h:Zn w v z)(ha:Arg w u rs)(ht:tr rs=rs)(hv:val rs=z.natAbs)(hf:blen z.natAbs≤1125899906842624) :
  Calls Tryz.prog 48 #[v,.bool (decide (z<0)),u] w fun e w'=>e=.returned (.bool true)∧Below w.heap.size w w':=by
 obtain⟨b,a,n,k,rfl,hb,hn,hz⟩:=h.parts
 rw [←hb]
 obtain⟨w0,hw0,hb0,h0⟩:=aL w (.cells #[.bool b,.slice a n k] 32)
 obtain⟨k0,k1⟩:=duo h0
 obtain⟨a2,k2,rfl,_,_,_⟩:=ha.form
 have HI:=oo (hn.below hb0) (ha.below hb0) ht hv hf
 have HB0:=ac hb0
 clear h hn hz hb0 h0 ha hb hv hf ht
 have hbb:(b == b)=true:=by simp
 go_enter Tryz.func48,Tryz.ntmps48
 go_wp2_with fail
 refine HI.mono ?_
 rintro e w1 ⟨rfl,hb1⟩
 have HB1:=ac (HB0.out.trans (hb1.mono HB0.out.size))
 clear hb1 HI
 go_wp2
 go_ret
 exact⟨rfl,HB1.out⟩

theorem dp (v:Value)(z:Int)(w:World)(h:Zn w v z):Calls Tryz.prog 12 #[v] w fun e w'=>e=.returned (.int .i64 z.sign)∧Below w.heap.size w w':=by
 obtain⟨b,a,n,k,rfl,hb,hn,hz⟩:=h.parts
 obtain⟨w0,hw0,hb0,h0⟩:=aL w (.cells #[.bool b,.slice a n k] 32)
 obtain⟨k0,k1⟩:=duo h0
 have HZ:=gz _ z.natAbs w0 (hn.below hb0)
 have HB0:=ac hb0
 clear h hn hb0 h0 hz
 by_cases hneg:z<0
 ·rw [decide_eq_true hneg] at hb
  subst hb
  rw [Int.sign_eq_neg_one_of_neg hneg]
  go_enter Tryz.func12,Tryz.ntmps12
  go_wp2
  go_ret
  exact⟨rfl,HB0.out⟩
 ·rw [decide_eq_false hneg] at hb
  subst hb
  by_cases h0:z=0
  ·subst h0
   rw [Int.sign_zero]
   simp only [Int.natAbs_zero,beq_self_eq_true] at HZ
   go_enter Tryz.func12,Tryz.ntmps12
   go_wp2_with fail
   refine HZ.mono ?_
   rintro e wn ⟨rfl,hw⟩;rw [hw];clear hw wn HZ
   go_wp2
   go_ret
   exact⟨rfl,HB0.out⟩
  ·rw [Int.sign_eq_one_of_pos (by omega)]
   have hne:(z.natAbs == 0)=false:=by rw [beq_eq_false_iff_ne];omega
   rw [hne] at HZ
   go_enter Tryz.func12,Tryz.ntmps12
   go_wp2_with fail
   refine HZ.mono ?_
   rintro e wn ⟨rfl,hw⟩;rw [hw];clear hw wn HZ
   go_wp2
   go_ret
   exact⟨rfl,HB0.out⟩

theorem dn (v1 v2:Value)(y z:Int)(w:World)(h1:Zn w v1 y)(h2:Zn w v2 z)(hf:blen y.natAbs+blen z.natAbs≤1125899906840000) :
  Calls Tryz.prog 23 #[v1,v2] w (bE w (y*z)):=by
 obtain⟨b,a,n,k,rfl,hb,hn,hz⟩:=h1.parts
 obtain⟨b2,a2,n2,k2,rfl,hb2,hn2,hz2⟩:=h2.parts
 obtain⟨w0,hw0,hb0,h0,h1',hx0⟩:=cO w (.cells #[.bool b,.slice a n k] 32) (.cells #[.bool b2,.slice a2 n2 k2] 32) (.cells #[.bool false,.slice none 0 0] 32)
 obtain⟨c0,c1⟩:=duo h0
 obtain⟨c2,c3⟩:=duo h1'
 have HM:=qA _ _ y.natAbs z.natAbs w0.drew (hn.below hb0).drew6 (hn2.below hb0).drew6 hf
 obtain⟨sg,hsg,hsg2⟩:∃sg,(b != b2)=sg∧(!(b == b2))=sg:=⟨_,rfl,rfl⟩
 have HEQ:Hid (zz sg (y.natAbs*z.natAbs)=y*z):=by
  refine ac ?_
  rw [←hsg,←nX,←hz,←hz2]
 have HMK:=ac (fun (w1:World) (v:Value) (hv:Num w1 v (y.natAbs*z.natAbs))=>cv sg v _ w1 hv)
 have HB0:=ac hb0
 have HX0:=ac hx0
 have HK0:=ac (show w0.drew.heap[w.heap.size]?=some (.cells #[.bool b,.slice a n k] 32) from h0)
 have HK1:=ac (show w0.drew.heap[w.heap.size+1]?=some (.cells #[.bool b2,.slice a2 n2 k2] 32) from h1')
 have HXD:=ac (show w0.drew.heap[w.heap.size+2]?=some (.cells #[.bool false,.slice none 0 0] 32) from hx0)
 have hso:∀(W:World) (k:Nat) (u:Value) (k':Nat),(W.setCell ⟨w.heap.size+2,k,none⟩ u).cell? ⟨w.heap.size,k',none⟩=W.cell? ⟨w.heap.size,k',none⟩:=fun W k u k'=>aI (by omega)
 have hso2:∀(W:World) (k:Nat) (u:Value) (k':Nat),(W.setCell ⟨w.heap.size+2,k,none⟩ u).cell? ⟨w.heap.size+1,k',none⟩=W.cell? ⟨w.heap.size+1,k',none⟩:=fun W k u k'=>aI (by omega)
 obtain⟨d0,d1⟩:=duo HK0.out
 obtain⟨d2,d3⟩:=duo HK1.out
 clear h1 h2 hn hn2 hb hb2 hz hz2 hb0 h0 h1' hx0 hsg
 go_enter Tryz.func23,Tryz.ntmps23
 go_wp2
 go_region_held3 (fun w'=>w'.cell? ⟨w.heap.size,0,none⟩=some (.bool b)∧w'.cell? ⟨w.heap.size,1,none⟩=some (.slice a n k)∧w'.cell? ⟨w.heap.size+1,0,none⟩=some (.bool b2)∧w'.cell? ⟨w.heap.size+1,1,none⟩=some (.slice a2 n2 k2)) (go_keep) (first
  | (go_at_call 58;refine HM.mono ?_;rintro e' w1 ⟨⟨v1,rfl,N1⟩,hb1⟩;have x0:=ak hb1 d0;have x1:=ak hb1 d1;have x2:=ak hb1 d2;have x3:=ak hb1 d3)
  | (go_at_call 53;refine (HMK.out w1 _ N1).mono ?_;rintro e' w2 ⟨⟨b1,a1,n1,k1,rfl,hzn⟩,hb2⟩;have y0:=ak hb2 x0;have y1:=ak hb2 x1;have y2:=ak hb2 x2;have y3:=ak hb2 x3;have hz4:=ae hb2 (ae hb1 HXD.out);have hf4:=av hz4;obtain⟨t0,t1⟩:=duo hz4))
 have hb1':=cS hb1
 rw [HEQ.out] at hzn
 have HZN:=ac hzn
 have HBX:=ac hz4
 have HBE:=ac (HB0.out.trans ((hb1'.trans (hb2.mono hb1'.size)).mono HB0.out.size))
 have R5:=aH HBX.out (a':=.bool b1) (b':=.slice a1 n1 k1)
 have HD:=ac (And.intro (HZN.out.duo (p1:=b1) (r1:=.slice a1 n1 k1) HBX.out) (aC HBE.out (g:=w.heap.size+2) (u0:=.bool b1) (u1:=.slice a1 n1 k1) (by omega)))
 clear hso hso2 hf4 t0 t1 y0 y1 y2 y3 x0 x1 x2 x3 hz4 N1 hb1 hb1' hb2 hzn
 generalize (w2.setCell ⟨w.heap.size+2,0,none⟩ (.bool b1)).setCell ⟨w.heap.size+2,1,none⟩ (.slice a1 n1 k1)=w5 at *
 obtain⟨q0,q1⟩:=duo R5
 go_wp2
 refine bodyPost_ret (v:=.agg #[.bool b1,.slice a1 n1 k1]) (by simp [results,Tryz.results23,go_sem,q0,q1]) rfl ?_
 exact⟨⟨_,_,_,_,rfl,HD.out.1⟩,HD.out.2⟩

theorem j9 (v1 v2:Value)(y z:Int)(w:World)(h1:Zn w v1 y)(h2:Zn w v2 z)(hf1:blen y.natAbs≤1125899906840000)(hf2:blen z.natAbs≤1125899906840000) :
  Calls Tryz.prog 22 #[v1,v2] w (bE w (y+z)):=by
 obtain⟨b,a,n,k,rfl,hb,hn,hz⟩:=h1.parts
 obtain⟨b2,a2,n2,k2,rfl,hb2,hn2,hz2⟩:=h2.parts
 obtain⟨w0,hw0,hb0,h0,h1',hx0⟩:=cO w (.cells #[.bool b,.slice a n k] 32) (.cells #[.bool b2,.slice a2 n2 k2] 32) (.cells #[.bool false,.slice none 0 0] 32)
 obtain⟨c0,c1⟩:=duo h0
 obtain⟨c2,c3⟩:=duo h1'
 have HB0:=ac hb0
 have HX0:=ac hx0
 have hso:∀(W:World) (k:Nat) (u:Value) (k':Nat),(W.setCell ⟨w.heap.size+2,k,none⟩ u).cell? ⟨w.heap.size,k',none⟩=W.cell? ⟨w.heap.size,k',none⟩:=fun W k u k'=>aI (by omega)
 have hso2:∀(W:World) (k:Nat) (u:Value) (k':Nat),(W.setCell ⟨w.heap.size+2,k,none⟩ u).cell? ⟨w.heap.size+1,k',none⟩=W.cell? ⟨w.heap.size+1,k',none⟩:=fun W k u k'=>aI (by omega)
 cases b <;> cases b2
 ·have HM:=kD _ _ y.natAbs z.natAbs w0.drew (hn.below hb0).drew6 (hn2.below hb0).drew6 hf1 hf2
  have HEQ:Hid (zz false (y.natAbs+z.natAbs)=y+z):=by
   refine ac ?_
   rw [←iD,←hz,←hz2]
  have HMK:=ac (fun (w1:World) (v:Value) (hv:Num w1 v (y.natAbs+z.natAbs))=>cv false v _ w1 hv)
  have HXD:=ac (show w0.drew.heap[w.heap.size+2]?=some (.cells #[.bool false,.slice none 0 0] 32) from hx0)
  obtain⟨d0,d1⟩:=duo (show w0.drew.heap[w.heap.size]?=some (.cells #[.bool false,.slice a n k] 32) from h0)
  obtain⟨d2,d3⟩:=duo (show w0.drew.heap[w.heap.size+1]?=some (.cells #[.bool false,.slice a2 n2 k2] 32) from h1')
  clear h1 h2 hn hn2 hb hb2 hz hz2 hb0 h0 h1' hx0
  go_enter Tryz.func22,Tryz.ntmps22
  go_wp2
  go_region_held3 (fun w'=>w'.cell? ⟨w.heap.size,0,none⟩=some (.bool false)∧w'.cell? ⟨w.heap.size,1,none⟩=some (.slice a n k)∧w'.cell? ⟨w.heap.size+1,0,none⟩=some (.bool false)∧w'.cell? ⟨w.heap.size+1,1,none⟩=some (.slice a2 n2 k2)) (go_keep) (first
   | (go_at_call 55;refine HM.mono ?_;rintro e' w1 ⟨⟨v1,rfl,N1⟩,hb1⟩;have x0:=ak hb1 d0;have x1:=ak hb1 d1;have x2:=ak hb1 d2;have x3:=ak hb1 d3)
   | (go_at_call 53;refine (HMK.out w1 _ N1).mono ?_;rintro e' w2 ⟨⟨b1,a1,n1,k1,rfl,hzn⟩,hb2⟩;have y0:=ak hb2 x0;have y1:=ak hb2 x1;have y2:=ak hb2 x2;have y3:=ak hb2 x3;have hz4:=ae hb2 (ae hb1 HXD.out);have hf4:=av hz4;obtain⟨t0,t1⟩:=duo hz4))
  have hb1':=cS hb1
  rw [HEQ.out] at hzn
  have HZN:=ac hzn
  have HBX:=ac hz4
  have HBE:=ac (HB0.out.trans ((hb1'.trans (hb2.mono hb1'.size)).mono HB0.out.size))
  have R5:=aH HBX.out (a':=.bool b1) (b':=.slice a1 n1 k1)
  have HD:=ac (And.intro (HZN.out.duo (p1:=b1) (r1:=.slice a1 n1 k1) HBX.out) (aC HBE.out (g:=w.heap.size+2) (u0:=.bool b1) (u1:=.slice a1 n1 k1) (by omega)))
  clear hso hso2 hf4 t0 t1 y0 y1 y2 y3 x0 x1 x2 x3 hz4 N1 hb1 hb1' hb2 hzn
  generalize (w2.setCell ⟨w.heap.size+2,0,none⟩ (.bool b1)).setCell ⟨w.heap.size+2,1,none⟩ (.slice a1 n1 k1)=w5 at *
  obtain⟨q0,q1⟩:=duo R5
  go_wp2
  refine bodyPost_ret (v:=.agg #[.bool b1,.slice a1 n1 k1]) (by simp [results,Tryz.results22,go_sem,q0,q1]) rfl ?_
  exact⟨⟨_,_,_,_,rfl,HD.out.1⟩,HD.out.2⟩
 ·have HC:=gt _ _ y.natAbs z.natAbs w0 (hn.below hb0) (hn2.below hb0)
  have HN:=ac (hn.below hb0)
  have HN2:=ac (hn2.below hb0)
  have HK0:=ac h0
  have HK1:=ac h1'
  clear h1 h2 hn hn2 hb hb2 hb0 h0 h1' hx0
  by_cases hle:z.natAbs≤y.natAbs
  ·obtain⟨cc,hcc,hc0⟩:∃cc:Int,cmpN y.natAbs z.natAbs=cc∧0≤cc:=⟨_,rfl,by unfold cmpN;rw [if_neg (by omega)];split <;> omega⟩
   rw [hcc] at HC
   clear hcc
   have hz9:=jL false (x:=y.natAbs) (y:=z.natAbs) (by omega)
   rw [show (!false)=true from rfl,←hz,←hz2] at hz9
   have HEQ:Hid (zz false (y.natAbs - z.natAbs)=y+z):=ac hz9.symm
   have HMK:=ac (fun (w1:World) (v:Value) (hv:Num w1 v (y.natAbs - z.natAbs))=>cv false v _ w1 hv)
   have HLE:=ac hle
   clear hz hz2 hz9 hle
   go_enter Tryz.func22,Tryz.ntmps22
   go_wp2_with fail
   refine HC.mono ?_
   rintro e ws ⟨rfl,hs⟩
   have hbs:Below w0.heap.size w0 ws:=hs.below _
   have hbw:=HB0.out.trans (hbs.mono HB0.out.size)
   have HM:=fl _ _ y.natAbs z.natAbs ws.drew (HN.out.below hbs).drew6 (HN2.out.below hbs).drew6 (by have:=HLE.out;omega) hf1
   have HXD:=ac (show ws.drew.heap[w.heap.size+2]?=some (.cells #[.bool false,.slice none 0 0] 32) from ae hbs.drew HX0.out)
   obtain⟨d0,d1⟩:=duo (show ws.drew.heap[w.heap.size]?=some (.cells #[.bool false,.slice a n k] 32) from ae hbs.drew HK0.out)
   obtain⟨d2,d3⟩:=duo (show ws.drew.heap[w.heap.size+1]?=some (.cells #[.bool true,.slice a2 n2 k2] 32) from ae hbs.drew HK1.out)
   obtain⟨f0,f1⟩:=duo (ae hbs HK0.out)
   obtain⟨f2,f3⟩:=duo (ae hbs HK1.out)
   clear HB0
   have HB0:=ac hbw
   clear hbs hs HC hbw c0 c1 c2 c3
   go_wp2
   go_region_held3 (fun w'=>w'.cell? ⟨w.heap.size,0,none⟩=some (.bool false)∧w'.cell? ⟨w.heap.size,1,none⟩=some (.slice a n k)∧w'.cell? ⟨w.heap.size+1,0,none⟩=some (.bool true)∧w'.cell? ⟨w.heap.size+1,1,none⟩=some (.slice a2 n2 k2)) (go_keep) (first
    | (go_at_call 57;refine HM.mono ?_;rintro e' w1 ⟨⟨v1,rfl,N1⟩,hb1⟩;have x0:=ak hb1 d0;have x1:=ak hb1 d1;have x2:=ak hb1 d2;have x3:=ak hb1 d3)
    | (go_at_call 53;refine (HMK.out w1 _ N1).mono ?_;rintro e' w2 ⟨⟨b1,a1,n1,k1,rfl,hzn⟩,hb2⟩;have y0:=ak hb2 x0;have y1:=ak hb2 x1;have y2:=ak hb2 x2;have y3:=ak hb2 x3;have hz4:=ae hb2 (ae hb1 HXD.out);have hf4:=av hz4;obtain⟨t0,t1⟩:=duo hz4))
   have hb1':=cS hb1
   rw [HEQ.out] at hzn
   have HZN:=ac hzn
   have HBX:=ac hz4
   have HBE:=ac (HB0.out.trans ((hb1'.trans (hb2.mono hb1'.size)).mono HB0.out.size))
   have R5:=aH HBX.out (a':=.bool b1) (b':=.slice a1 n1 k1)
   have HD:=ac (And.intro (HZN.out.duo (p1:=b1) (r1:=.slice a1 n1 k1) HBX.out) (aC HBE.out (g:=w.heap.size+2) (u0:=.bool b1) (u1:=.slice a1 n1 k1) (by omega)))
   clear hso hso2 hf4 t0 t1 y0 y1 y2 y3 x0 x1 x2 x3 hz4 N1 hb1 hb1' hb2 hzn
   generalize (w2.setCell ⟨w.heap.size+2,0,none⟩ (.bool b1)).setCell ⟨w.heap.size+2,1,none⟩ (.slice a1 n1 k1)=w5 at *
   obtain⟨q0,q1⟩:=duo R5
   go_wp2
   refine bodyPost_ret (v:=.agg #[.bool b1,.slice a1 n1 k1]) (by simp [results,Tryz.results22,go_sem,q0,q1]) rfl ?_
   exact⟨⟨_,_,_,_,rfl,HD.out.1⟩,HD.out.2⟩
  ·rw [cmpN_lt (by omega)] at HC
   have hz9:=iR false (x:=y.natAbs) (y:=z.natAbs) (by omega)
   rw [show (!false)=true from rfl,←hz,←hz2] at hz9
   have HEQ:Hid (zz true (z.natAbs - y.natAbs)=y+z):=ac hz9.symm
   have HMK:=ac (fun (w1:World) (v:Value) (hv:Num w1 v (z.natAbs - y.natAbs))=>cv true v _ w1 hv)
   have HLE:=ac hle
   clear hz hz2 hz9 hle
   go_enter Tryz.func22,Tryz.ntmps22
   go_wp2_with fail
   refine HC.mono ?_
   rintro e ws ⟨rfl,hs⟩
   have hbs:Below w0.heap.size w0 ws:=hs.below _
   have hbw:=HB0.out.trans (hbs.mono HB0.out.size)
   have HM:=fl _ _ z.natAbs y.natAbs ws.drew (HN2.out.below hbs).drew6 (HN.out.below hbs).drew6 (by have:=HLE.out;omega) hf2
   have HXD:=ac (show ws.drew.heap[w.heap.size+2]?=some (.cells #[.bool false,.slice none 0 0] 32) from ae hbs.drew HX0.out)
   obtain⟨d0,d1⟩:=duo (show ws.drew.heap[w.heap.size]?=some (.cells #[.bool false,.slice a n k] 32) from ae hbs.drew HK0.out)
   obtain⟨d2,d3⟩:=duo (show ws.drew.heap[w.heap.size+1]?=some (.cells #[.bool true,.slice a2 n2 k2] 32) from ae hbs.drew HK1.out)
   obtain⟨f0,f1⟩:=duo (ae hbs HK0.out)
   obtain⟨f2,f3⟩:=duo (ae hbs HK1.out)
   clear HB0
   have HB0:=ac hbw
   clear hbs hs HC hbw c0 c1 c2 c3
   go_wp2
   go_region_held3 (fun w'=>w'.cell? ⟨w.heap.size,0,none⟩=some (.bool false)∧w'.cell? ⟨w.heap.size,1,none⟩=some (.slice a n k)∧w'.cell? ⟨w.heap.size+1,0,none⟩=some (.bool true)∧w'.cell? ⟨w.heap.size+1,1,none⟩=some (.slice a2 n2 k2)) (go_keep) (first
    | (go_at_call 57;refine HM.mono ?_;rintro e' w1 ⟨⟨v1,rfl,N1⟩,hb1⟩;have x0:=ak hb1 d0;have x1:=ak hb1 d1;have x2:=ak hb1 d2;have x3:=ak hb1 d3)
    | (go_at_call 53;refine (HMK.out w1 _ N1).mono ?_;rintro e' w2 ⟨⟨b1,a1,n1,k1,rfl,hzn⟩,hb2⟩;have y0:=ak hb2 x0;have y1:=ak hb2 x1;have y2:=ak hb2 x2;have y3:=ak hb2 x3;have hz4:=ae hb2 (ae hb1 HXD.out);have hf4:=av hz4;obtain⟨t0,t1⟩:=duo hz4))
   have hb1':=cS hb1
   rw [HEQ.out] at hzn
   have HZN:=ac hzn
   have HBX:=ac hz4
   have HBE:=ac (HB0.out.trans ((hb1'.trans (hb2.mono hb1'.size)).mono HB0.out.size))
   have R5:=aH HBX.out (a':=.bool b1) (b':=.slice a1 n1 k1)
   have HD:=ac (And.intro (HZN.out.duo (p1:=b1) (r1:=.slice a1 n1 k1) HBX.out) (aC HBE.out (g:=w.heap.size+2) (u0:=.bool b1) (u1:=.slice a1 n1 k1) (by omega)))
   clear hso hso2 hf4 t0 t1 y0 y1 y2 y3 x0 x1 x2 x3 hz4 N1 hb1 hb1' hb2 hzn
   generalize (w2.setCell ⟨w.heap.size+2,0,none⟩ (.bool b1)).setCell ⟨w.heap.size+2,1,none⟩ (.slice a1 n1 k1)=w5 at *
   obtain⟨q0,q1⟩:=duo R5
   go_wp2
   refine bodyPost_ret (v:=.agg #[.bool b1,.slice a1 n1 k1]) (by simp [results,Tryz.results22,go_sem,q0,q1]) rfl ?_
   exact⟨⟨_,_,_,_,rfl,HD.out.1⟩,HD.out.2⟩
 ·have HC:=gt _ _ y.natAbs z.natAbs w0 (hn.below hb0) (hn2.below hb0)
  have HN:=ac (hn.below hb0)
  have HN2:=ac (hn2.below hb0)
  have HK0:=ac h0
  have HK1:=ac h1'
  clear h1 h2 hn hn2 hb hb2 hb0 h0 h1' hx0
  by_cases hle:z.natAbs≤y.natAbs
  ·obtain⟨cc,hcc,hc0⟩:∃cc:Int,cmpN y.natAbs z.natAbs=cc∧0≤cc:=⟨_,rfl,by unfold cmpN;rw [if_neg (by omega)];split <;> omega⟩
   rw [hcc] at HC
   clear hcc
   have hz9:=jL true (x:=y.natAbs) (y:=z.natAbs) (by omega)
   rw [show (!true)=false from rfl,←hz,←hz2] at hz9
   have HEQ:Hid (zz true (y.natAbs - z.natAbs)=y+z):=ac hz9.symm
   have HMK:=ac (fun (w1:World) (v:Value) (hv:Num w1 v (y.natAbs - z.natAbs))=>cv true v _ w1 hv)
   have HLE:=ac hle
   clear hz hz2 hz9 hle
   go_enter Tryz.func22,Tryz.ntmps22
   go_wp2_with fail
   refine HC.mono ?_
   rintro e ws ⟨rfl,hs⟩
   have hbs:Below w0.heap.size w0 ws:=hs.below _
   have hbw:=HB0.out.trans (hbs.mono HB0.out.size)
   have HM:=fl _ _ y.natAbs z.natAbs ws.drew (HN.out.below hbs).drew6 (HN2.out.below hbs).drew6 (by have:=HLE.out;omega) hf1
   have HXD:=ac (show ws.drew.heap[w.heap.size+2]?=some (.cells #[.bool false,.slice none 0 0] 32) from ae hbs.drew HX0.out)
   obtain⟨d0,d1⟩:=duo (show ws.drew.heap[w.heap.size]?=some (.cells #[.bool true,.slice a n k] 32) from ae hbs.drew HK0.out)
   obtain⟨d2,d3⟩:=duo (show ws.drew.heap[w.heap.size+1]?=some (.cells #[.bool false,.slice a2 n2 k2] 32) from ae hbs.drew HK1.out)
   obtain⟨f0,f1⟩:=duo (ae hbs HK0.out)
   obtain⟨f2,f3⟩:=duo (ae hbs HK1.out)
   clear HB0
   have HB0:=ac hbw
   clear hbs hs HC hbw c0 c1 c2 c3
   go_wp2
   go_region_held3 (fun w'=>w'.cell? ⟨w.heap.size,0,none⟩=some (.bool true)∧w'.cell? ⟨w.heap.size,1,none⟩=some (.slice a n k)∧w'.cell? ⟨w.heap.size+1,0,none⟩=some (.bool false)∧w'.cell? ⟨w.heap.size+1,1,none⟩=some (.slice a2 n2 k2)) (go_keep) (first
    | (go_at_call 57;refine HM.mono ?_;rintro e' w1 ⟨⟨v1,rfl,N1⟩,hb1⟩;have x0:=ak hb1 d0;have x1:=ak hb1 d1;have x2:=ak hb1 d2;have x3:=ak hb1 d3)
    | (go_at_call 53;refine (HMK.out w1 _ N1).mono ?_;rintro e' w2 ⟨⟨b1,a1,n1,k1,rfl,hzn⟩,hb2⟩;have y0:=ak hb2 x0;have y1:=ak hb2 x1;have y2:=ak hb2 x2;have y3:=ak hb2 x3;have hz4:=ae hb2 (ae hb1 HXD.out);have hf4:=av hz4;obtain⟨t0,t1⟩:=duo hz4))
   have hb1':=cS hb1
   rw [HEQ.out] at hzn
   have HZN:=ac hzn
   have HBX:=ac hz4
   have HBE:=ac (HB0.out.trans ((hb1'.trans (hb2.mono hb1'.size)).mono HB0.out.size))
   have R5:=aH HBX.out (a':=.bool b1) (b':=.slice a1 n1 k1)
   have HD:=ac (And.intro (HZN.out.duo (p1:=b1) (r1:=.slice a1 n1 k1) HBX.out) (aC HBE.out (g:=w.heap.size+2) (u0:=.bool b1) (u1:=.slice a1 n1 k1) (by omega)))
   clear hso hso2 hf4 t0 t1 y0 y1 y2 y3 x0 x1 x2 x3 hz4 N1 hb1 hb1' hb2 hzn
   generalize (w2.setCell ⟨w.heap.size+2,0,none⟩ (.bool b1)).setCell ⟨w.heap.size+2,1,none⟩ (.slice a1 n1 k1)=w5 at *
   obtain⟨q0,q1⟩:=duo R5
   go_wp2
   refine bodyPost_ret (v:=.agg #[.bool b1,.slice a1 n1 k1]) (by simp [results,Tryz.results22,go_sem,q0,q1]) rfl ?_
   exact⟨⟨_,_,_,_,rfl,HD.out.1⟩,HD.out.2⟩
  ·rw [cmpN_lt (by omega)] at HC
   have hz9:=iR true (x:=y.natAbs) (y:=z.natAbs) (by omega)
   rw [show (!true)=false from rfl,←hz,←hz2] at hz9
   have HEQ:Hid (zz false (z.natAbs - y.natAbs)=y+z):=ac hz9.symm
   have HMK:=ac (fun (w1:World) (v:Value) (hv:Num w1 v (z.natAbs - y.natAbs))=>cv false v _ w1 hv)
   have HLE:=ac hle
   clear hz hz2 hz9 hle
   go_enter Tryz.func22,Tryz.ntmps22
   go_wp2_with fail
   refine HC.mono ?_
   rintro e ws ⟨rfl,hs⟩
   have hbs:Below w0.heap.size w0 ws:=hs.below _
   have hbw:=HB0.out.trans (hbs.mono HB0.out.size)
   have HM:=fl _ _ z.natAbs y.natAbs ws.drew (HN2.out.below hbs).drew6 (HN.out.below hbs).drew6 (by have:=HLE.out;omega) hf2
   have HXD:=ac (show ws.drew.heap[w.heap.size+2]?=some (.cells #[.bool false,.slice none 0 0] 32) from ae hbs.drew HX0.out)
   obtain⟨d0,d1⟩:=duo (show ws.drew.heap[w.heap.size]?=some (.cells #[.bool true,.slice a n k] 32) from ae hbs.drew HK0.out)
   obtain⟨d2,d3⟩:=duo (show ws.drew.heap[w.heap.size+1]?=some (.cells #[.bool false,.slice a2 n2 k2] 32) from ae hbs.drew HK1.out)
   obtain⟨f0,f1⟩:=duo (ae hbs HK0.out)
   obtain⟨f2,f3⟩:=duo (ae hbs HK1.out)
   clear HB0
   have HB0:=ac hbw
   clear hbs hs HC hbw c0 c1 c2 c3
   go_wp2
   go_region_held3 (fun w'=>w'.cell? ⟨w.heap.size,0,none⟩=some (.bool true)∧w'.cell? ⟨w.heap.size,1,none⟩=some (.slice a n k)∧w'.cell? ⟨w.heap.size+1,0,none⟩=some (.bool false)∧w'.cell? ⟨w.heap.size+1,1,none⟩=some (.slice a2 n2 k2)) (go_keep) (first
    | (go_at_call 57;refine HM.mono ?_;rintro e' w1 ⟨⟨v1,rfl,N1⟩,hb1⟩;have x0:=ak hb1 d0;have x1:=ak hb1 d1;have x2:=ak hb1 d2;have x3:=ak hb1 d3)
    | (go_at_call 53;refine (HMK.out w1 _ N1).mono ?_;rintro e' w2 ⟨⟨b1,a1,n1,k1,rfl,hzn⟩,hb2⟩;have y0:=ak hb2 x0;have y1:=ak hb2 x1;have y2:=ak hb2 x2;have y3:=ak hb2 x3;have hz4:=ae hb2 (ae hb1 HXD.out);have hf4:=av hz4;obtain⟨t0,t1⟩:=duo hz4))
   have hb1':=cS hb1
   rw [HEQ.out] at hzn
   have HZN:=ac hzn
   have HBX:=ac hz4
   have HBE:=ac (HB0.out.trans ((hb1'.trans (hb2.mono hb1'.size)).mono HB0.out.size))
   have R5:=aH HBX.out (a':=.bool b1) (b':=.slice a1 n1 k1)
   have HD:=ac (And.intro (HZN.out.duo (p1:=b1) (r1:=.slice a1 n1 k1) HBX.out) (aC HBE.out (g:=w.heap.size+2) (u0:=.bool b1) (u1:=.slice a1 n1 k1) (by omega)))
   clear hso hso2 hf4 t0 t1 y0 y1 y2 y3 x0 x1 x2 x3 hz4 N1 hb1 hb1' hb2 hzn
   generalize (w2.setCell ⟨w.heap.size+2,0,none⟩ (.bool b1)).setCell ⟨w.heap.size+2,1,none⟩ (.slice a1 n1 k1)=w5 at *
   obtain⟨q0,q1⟩:=duo R5
   go_wp2
   refine bodyPost_ret (v:=.agg #[.bool b1,.slice a1 n1 k1]) (by simp [results,Tryz.results22,go_sem,q0,q1]) rfl ?_
   exact⟨⟨_,_,_,_,rfl,HD.out.1⟩,HD.out.2⟩
 ·have HM:=kD _ _ y.natAbs z.natAbs w0.drew (hn.below hb0).drew6 (hn2.below hb0).drew6 hf1 hf2
  have HEQ:Hid (zz true (y.natAbs+z.natAbs)=y+z):=by
   refine ac ?_
   rw [←iD,←hz,←hz2]
  have HMK:=ac (fun (w1:World) (v:Value) (hv:Num w1 v (y.natAbs+z.natAbs))=>cv true v _ w1 hv)
  have HXD:=ac (show w0.drew.heap[w.heap.size+2]?=some (.cells #[.bool false,.slice none 0 0] 32) from hx0)
  obtain⟨d0,d1⟩:=duo (show w0.drew.heap[w.heap.size]?=some (.cells #[.bool true,.slice a n k] 32) from h0)
  obtain⟨d2,d3⟩:=duo (show w0.drew.heap[w.heap.size+1]?=some (.cells #[.bool true,.slice a2 n2 k2] 32) from h1')
  clear h1 h2 hn hn2 hb hb2 hz hz2 hb0 h0 h1' hx0
  go_enter Tryz.func22,Tryz.ntmps22
  go_wp2
  go_region_held3 (fun w'=>w'.cell? ⟨w.heap.size,0,none⟩=some (.bool true)∧w'.cell? ⟨w.heap.size,1,none⟩=some (.slice a n k)∧w'.cell? ⟨w.heap.size+1,0,none⟩=some (.bool true)∧w'.cell? ⟨w.heap.size+1,1,none⟩=some (.slice a2 n2 k2)) (go_keep) (first
   | (go_at_call 55;refine HM.mono ?_;rintro e' w1 ⟨⟨v1,rfl,N1⟩,hb1⟩;have x0:=ak hb1 d0;have x1:=ak hb1 d1;have x2:=ak hb1 d2;have x3:=ak hb1 d3)
   | (go_at_call 53;refine (HMK.out w1 _ N1).mono ?_;rintro e' w2 ⟨⟨b1,a1,n1,k1,rfl,hzn⟩,hb2⟩;have y0:=ak hb2 x0;have y1:=ak hb2 x1;have y2:=ak hb2 x2;have y3:=ak hb2 x3;have hz4:=ae hb2 (ae hb1 HXD.out);have hf4:=av hz4;obtain⟨t0,t1⟩:=duo hz4))
  have hb1':=cS hb1
  rw [HEQ.out] at hzn
  have HZN:=ac hzn
  have HBX:=ac hz4
  have HBE:=ac (HB0.out.trans ((hb1'.trans (hb2.mono hb1'.size)).mono HB0.out.size))
  have R5:=aH HBX.out (a':=.bool b1) (b':=.slice a1 n1 k1)
  have HD:=ac (And.intro (HZN.out.duo (p1:=b1) (r1:=.slice a1 n1 k1) HBX.out) (aC HBE.out (g:=w.heap.size+2) (u0:=.bool b1) (u1:=.slice a1 n1 k1) (by omega)))
  clear hso hso2 hf4 t0 t1 y0 y1 y2 y3 x0 x1 x2 x3 hz4 N1 hb1 hb1' hb2 hzn
  generalize (w2.setCell ⟨w.heap.size+2,0,none⟩ (.bool b1)).setCell ⟨w.heap.size+2,1,none⟩ (.slice a1 n1 k1)=w5 at *
  obtain⟨q0,q1⟩:=duo R5
  go_wp2
  refine bodyPost_ret (v:=.agg #[.bool b1,.slice a1 n1 k1]) (by simp [results,Tryz.results22,go_sem,q0,q1]) rfl ?_
  exact⟨⟨_,_,_,_,rfl,HD.out.1⟩,HD.out.2⟩

theorem dk (v1 v2:Value)(y z:Int)(w:World)(h1:Zn w v1 y)(h2:Zn w v2 z)(hf1:blen y.natAbs≤1125899906840000)(hf2:blen z.natAbs≤1125899906840000) :
  Calls Tryz.prog 26 #[v1,v2] w (bE w (y - z)):=by
 obtain⟨b,a,n,k,rfl,hb,hn,hz⟩:=h1.parts
 obtain⟨b2,a2,n2,k2,rfl,hb2,hn2,hz2⟩:=h2.parts
 obtain⟨w0,hw0,hb0,h0,h1',hx0⟩:=cO w (.cells #[.bool b,.slice a n k] 32) (.cells #[.bool b2,.slice a2 n2 k2] 32) (.cells #[.bool false,.slice none 0 0] 32)
 obtain⟨c0,c1⟩:=duo h0
 obtain⟨c2,c3⟩:=duo h1'
 have HB0:=ac hb0
 have HX0:=ac hx0
 have hso:∀(W:World) (k:Nat) (u:Value) (k':Nat),(W.setCell ⟨w.heap.size+2,k,none⟩ u).cell? ⟨w.heap.size,k',none⟩=W.cell? ⟨w.heap.size,k',none⟩:=fun W k u k'=>aI (by omega)
 have hso2:∀(W:World) (k:Nat) (u:Value) (k':Nat),(W.setCell ⟨w.heap.size+2,k,none⟩ u).cell? ⟨w.heap.size+1,k',none⟩=W.cell? ⟨w.heap.size+1,k',none⟩:=fun W k u k'=>aI (by omega)
 have HM:=qG _ z w0.drew (h2.below hb0).drew6
 have HZ1:=ac (h1.below hb0).drew6
 have HEQ:Hid (y+-z=y - z):=ac (by omega)
 have HMK:=ac (fun (w1:World) (v:Value) (hb1:Below w0.drew.heap.size w0.drew w1) (hv:Zn w1 v (-z))=>j9 _ v y (-z) w1 (HZ1.out.below hb1) hv hf1 (by rw [Int.natAbs_neg];exact hf2))
 have HXD:=ac (show w0.drew.heap[w.heap.size+2]?=some (.cells #[.bool false,.slice none 0 0] 32) from hx0)
 obtain⟨d0,d1⟩:=duo (show w0.drew.heap[w.heap.size]?=some (.cells #[.bool b,.slice a n k] 32) from h0)
 obtain⟨d2,d3⟩:=duo (show w0.drew.heap[w.heap.size+1]?=some (.cells #[.bool b2,.slice a2 n2 k2] 32) from h1')
 clear h1 h2 hn hn2 hb hb2 hz hz2 hb0 h0 h1' hx0
 go_enter Tryz.func26,Tryz.ntmps26
 go_wp2
 go_region_held3 (fun w'=>w'.cell? ⟨w.heap.size,0,none⟩=some (.bool b)∧w'.cell? ⟨w.heap.size,1,none⟩=some (.slice a n k)∧w'.cell? ⟨w.heap.size+1,0,none⟩=some (.bool b2)∧w'.cell? ⟨w.heap.size+1,1,none⟩=some (.slice a2 n2 k2)) (go_keep) (first
  | (go_at_call 60;refine HM.mono ?_;rintro e' w1 ⟨⟨b9,a9,n9,k9,rfl,N1⟩,hb1⟩;have x0:=ak hb1 d0;have x1:=ak hb1 d1;have x2:=ak hb1 d2;have x3:=ak hb1 d3)
  | (go_at_call 22;refine (HMK.out w1 _ hb1 N1).mono ?_;rintro e' w2 ⟨⟨b1,a1,n1,k1,rfl,hzn⟩,hb2⟩;have y0:=ak hb2 x0;have y1:=ak hb2 x1;have y2:=ak hb2 x2;have y3:=ak hb2 x3;have hz4:=ae hb2 (ae hb1 HXD.out);have hf4:=av hz4;obtain⟨t0,t1⟩:=duo hz4))
 have hb1':=cS hb1
 rw [HEQ.out] at hzn
 have HZN:=ac hzn
 have HBX:=ac hz4
 have HBE:=ac (HB0.out.trans ((hb1'.trans (hb2.mono hb1'.size)).mono HB0.out.size))
 have R5:=aH HBX.out (a':=.bool b1) (b':=.slice a1 n1 k1)
 have HD:=ac (And.intro (HZN.out.duo (p1:=b1) (r1:=.slice a1 n1 k1) HBX.out) (aC HBE.out (g:=w.heap.size+2) (u0:=.bool b1) (u1:=.slice a1 n1 k1) (by omega)))
 clear hso hso2 hf4 t0 t1 y0 y1 y2 y3 x0 x1 x2 x3 hz4 N1 hb1 hb1' hb2 hzn
 generalize (w2.setCell ⟨w.heap.size+2,0,none⟩ (.bool b1)).setCell ⟨w.heap.size+2,1,none⟩ (.slice a1 n1 k1)=w5 at *
 obtain⟨q0,q1⟩:=duo R5
 go_wp2
 refine bodyPost_ret (v:=.agg #[.bool b1,.slice a1 n1 k1]) (by simp [results,Tryz.results26,go_sem,q0,q1]) rfl ?_
 exact⟨⟨_,_,_,_,rfl,HD.out.1⟩,HD.out.2⟩

theorem pA (c:Nat)(w:World)(hc:c<9223372036854775808):Calls Tryz.prog 61 #[.int .i64 c] w fun e w'=>(∃v,e=.returned v∧Num w' v c)∧Below w.heap.size w w':=by
 have hA:=Arg.lits w [c] #[.int .u64 (c:Int)] 1 rfl rfl (by intro z hz;simp at hz;omega) (by simp)
 have hb:Below w.heap.size w (w.alloc (.cells #[.int .u64 (c:Int)] 61)):=(Below.refl _ _).alloc (Nat.le_refl _) _
 have HO:=ie _ [c] _ hA (by simp)
 rw [show val [c]=c by simp [val]] at HO
 have HB:=ac hb
 clear hA hb
 go_enter Tryz.func61,Tryz.ntmps61
 go_wp2_with fail
 refine HO.mono ?_
 rintro e w2 ⟨⟨v,rfl,N⟩,hb2⟩
 have HX:=ac (And.intro N (HB.out.trans (hb2.mono HB.out.size)))
 clear N hb2 HO
 go_wp2
 go_ret
 exact⟨⟨v,rfl,HX.out.1⟩,HX.out.2⟩

theorem gG (c:Int)(w:World):Calls Tryz.prog 20 #[.int .i64 c] w fun e w'=>e=.returned (.int .i64 c)∧w'=w:=by
 go_enter Tryz.func20,Tryz.ntmps20
 go_wp2
 go_ret
 exact⟨rfl,rfl⟩

theorem dO (n:Int)(w:World)(h1:-9223372036854775808≤n)(h2:n≤9223372036854775807) :
  Calls Tryz.prog 27 #[.int .i64 n] w (bE w n):=by
 obtain⟨w0,hw0,hb0,hx0⟩:=aL w (.cells #[.bool false,.slice none 0 0] 32)
 have HB0:=ac hb0
 have HX0:=ac hx0
 by_cases hn:n<0
 ·obtain⟨x,hx,hx2⟩:∃x:Nat,n=-(x:Int)∧x<18446744073709551616:=⟨n.natAbs,by omega,by omega⟩
  have q1:IntKind.i64.wrap (n+1)=n+1:=by rw [IntKind.wrap_i64];omega
  have q2:IntKind.i64.wrap (-(n+1))=-(n+1):=by rw [IntKind.wrap_i64];omega
  have q3:IntKind.u64.wrap (-(n+1))=-(n+1):=by rw [IntKind.wrap_u64];omega
  have q4:IntKind.u64.wrap (-(n+1)+1)=(x:Int):=by rw [IntKind.wrap_u64];omega
  obtain⟨w6,hw6,hb6,hx6⟩:=aL w0 (.cells #[.int .u64 x] 61)
  have hblk:Blk w6 w0.heap.size [x]:=hx6
  have A6:=Ans.of_blk (base:=w0.heap.size) (zs:=[x]) (Nat.le_refl _) hblk (by simp) (by simp) (by simp) (by intro z hz;simp at hz;omega)
  have HO:=ie (.slice (some ⟨w0.heap.size,0,none⟩) 1 1) [x] w6 (A6.arg (by simp)) (by simp)
  rw [show val [x]=x from by simp [val]] at HO
  have HB6:=ac hb6
  have ez:zz true x=n:=by simp [zz];omega
  have HEZ:=ac ez
  clear hb0 hx0 hb6 hx6 hblk A6 hx ez
  go_enter Tryz.func27,Tryz.ntmps27
  go_wp2_with fail
  refine HO.mono ?_
  rintro e w1 ⟨⟨v1,rfl,hn1⟩,hb1⟩
  have HM:=cv true v1 x w1 hn1
  rw [HEZ.out] at HM
  have HW1:=ac (HB6.out.trans (hb1.mono HB6.out.size))
  obtain⟨a2,n2,k2,rfl⟩:=hn1.sl
  clear hn1 hb1 HO
  go_wp2_with fail
  refine HM.mono ?_
  rintro e w2 ⟨⟨b1,a1,n1,k1,rfl,hzn⟩,hb2⟩
  have HZN:=ac hzn
  have HW:=ac (HW1.out.trans (hb2.mono HW1.out.size))
  clear hzn hb2 HM hw0 hw6
  have hbx:=ae HW.out HX0.out
  have hf1:=av hbx
  obtain⟨l0,l1⟩:=duo hbx
  have HBX:=ac hbx
  have HBE:=ac (HB0.out.trans (HW.out.mono HB0.out.size))
  clear hbx
  go_wp2
  have R5:=aH HBX.out (a':=.bool b1) (b':=.slice a1 n1 k1)
  have HD:=ac (And.intro (HZN.out.duo (p1:=b1) (r1:=.slice a1 n1 k1) HBX.out) (aC HBE.out (g:=w.heap.size) (u0:=.bool b1) (u1:=.slice a1 n1 k1) (by omega)))
  generalize (w2.setCell ⟨w.heap.size,0,none⟩ (.bool b1)).setCell ⟨w.heap.size,1,none⟩ (.slice a1 n1 k1)=w5 at *
  obtain⟨q0,q1⟩:=duo R5
  refine bodyPost_ret (v:=.agg #[.bool b1,.slice a1 n1 k1]) (by simp [results,Tryz.results27,go_sem,q0,q1]) rfl ?_
  exact⟨⟨_,_,_,_,rfl,HD.out.1⟩,HD.out.2⟩
 ·obtain⟨x,hx,hx2⟩:∃x:Nat,n=(x:Int)∧x<9223372036854775808:=⟨n.natAbs,by omega,by omega⟩
  subst hx
  have HO:=pA x w0 hx2
  have ez:zz false x=(x:Int):=by simp [zz]
  have HEZ:=ac ez
  clear hb0 hx0 ez
  go_enter Tryz.func27,Tryz.ntmps27
  go_wp2_with fail
  refine HO.mono ?_
  rintro e w1 ⟨⟨v1,rfl,hn1⟩,hb1⟩
  have HM:=cv false v1 x w1 hn1
  rw [HEZ.out] at HM
  have HW1:=ac hb1
  obtain⟨a2,n2,k2,rfl⟩:=hn1.sl
  clear hn1 hb1 HO
  go_wp2_with fail
  refine HM.mono ?_
  rintro e w2 ⟨⟨b1,a1,n1,k1,rfl,hzn⟩,hb2⟩
  have HZN:=ac hzn
  have HW:=ac (HW1.out.trans (hb2.mono HW1.out.size))
  clear hzn hb2 HM hw0
  have hbx:=ae HW.out HX0.out
  have hf1:=av hbx
  obtain⟨l0,l1⟩:=duo hbx
  have HBX:=ac hbx
  have HBE:=ac (HB0.out.trans (HW.out.mono HB0.out.size))
  clear hbx
  go_wp2
  have R5:=aH HBX.out (a':=.bool b1) (b':=.slice a1 n1 k1)
  have HD:=ac (And.intro (HZN.out.duo (p1:=b1) (r1:=.slice a1 n1 k1) HBX.out) (aC HBE.out (g:=w.heap.size) (u0:=.bool b1) (u1:=.slice a1 n1 k1) (by omega)))
  generalize (w2.setCell ⟨w.heap.size,0,none⟩ (.bool b1)).setCell ⟨w.heap.size,1,none⟩ (.slice a1 n1 k1)=w5 at *
  obtain⟨q0,q1⟩:=duo R5
  refine bodyPost_ret (v:=.agg #[.bool b1,.slice a1 n1 k1]) (by simp [results,Tryz.results27,go_sem,q0,q1]) rfl ?_
  exact⟨⟨_,_,_,_,rfl,HD.out.1⟩,HD.out.2⟩

theorem je (b:Bool)(v:Value)(X:List Nat)(w:World)(hA:Arg w v X)(hf:X.length≤17592186044416) :
  Calls Tryz.prog 7 #[.agg #[.bool b,v]] w (bE w (zz b (val X))):=by
 obtain⟨a,n,rfl,_,_,_⟩:=hA.form
 obtain⟨w0,hw0,hb0,h0,hx0⟩:=bD w (.cells #[.bool b,.slice a X.length n] 24) (.cells #[.bool false,.slice none 0 0] 32)
 obtain⟨k0,k1⟩:=duo h0
 have HM:=qS b _ X w0 (hA.below hb0) hf
 have HB0:=ac hb0
 have HX0:=ac hx0
 clear hA hb0 h0 hx0
 go_enter Tryz.func7,Tryz.ntmps7
 go_wp2_with fail
 refine HM.mono ?_
 rintro e w1 ⟨⟨b1,a1,n1,k1,rfl,hzn⟩,hb1⟩
 have HZN:=ac hzn
 have HW:=ac hb1
 clear hzn hb1 HM hw0 k0
 have hbx:=ae HW.out HX0.out
 have hf1:=av hbx
 obtain⟨l0,l1⟩:=duo hbx
 have HBX:=ac hbx
 have HBE:=ac (HB0.out.trans (HW.out.mono HB0.out.size))
 clear hbx
 go_wp2
 have R5:=aH HBX.out (a':=.bool b1) (b':=.slice a1 n1 k1)
 have HD:=ac (And.intro (HZN.out.duo (p1:=b1) (r1:=.slice a1 n1 k1) HBX.out) (aC HBE.out (g:=w.heap.size+1) (u0:=.bool b1) (u1:=.slice a1 n1 k1) (by omega)))
 generalize (w1.setCell ⟨w.heap.size+1,0,none⟩ (.bool b1)).setCell ⟨w.heap.size+1,1,none⟩ (.slice a1 n1 k1)=w5 at *
 obtain⟨q0,q1⟩:=duo R5
 refine bodyPost_ret (v:=.agg #[.bool b1,.slice a1 n1 k1]) (by simp [results,Tryz.results7,go_sem,q0,q1]) rfl ?_
 exact⟨⟨_,_,_,_,rfl,HD.out.1⟩,HD.out.2⟩

theorem gi (b:Bool)(a:Option Addr)(m n:Nat)(c:Int)(v:Value)(z:Int)(base:Nat)(w:World)(h:ZR w base b (.slice a m n) c z)(hz:Zn w v z) :
  Calls Tryz.prog 11 #[.agg #[.bool b,.slice a m n],.int .i64 c,v,.int .i64 0] w fun e w'=>e=.returned (.bool true)∧Below w.heap.size w w':=by
 obtain⟨b9,a9,n9,k9,rfl,hb9,hn9,hz9⟩:=hz.parts
 obtain⟨w0,hw0,hb0,h0,h1⟩:=bD w (.cells #[.bool b,.slice a m n] 27) (.cells #[.bool b9,.slice a9 n9 k9] 32)
 obtain⟨k0,k1⟩:=duo h0
 obtain⟨k2,k3⟩:=duo h1
 have HL:=fh _ z.natAbs w0 (hn9.below hb0)
 have HN:=gG c w0
 obtain⟨rs,hA,hc⟩:=h
 have HB0:=ac hb0
 rcases hc with ⟨rfl,hb,hv,ht,hbl⟩|⟨rfl,rfl,hva,hrs,hbl⟩
 ·have i1:¬(67108864:Int)<((blen z.natAbs:Nat):Int):=by omega
  have hlm:rs.length≤1048576:=dL ht hv (by omega)
  have HI:=iz _ z (.slice a m n) rs w0 (hz.below hb0) ((hA.arg (by omega)).below hb0) ht hv (by omega)
  rw [←hb] at HI
  clear hA hz hn9 hz9 hb0 h0 h1 hv ht hb9 hb hlm
  generalize blen z.natAbs=l at *
  go_enter Tryz.func11,Tryz.ntmps11
  go_wp2_with fail
  refine HL.mono ?_
  rintro e wn ⟨rfl,hw⟩;rw [hw];clear hw wn HL
  go_wp2_with fail
  refine HN.mono ?_
  rintro e wn ⟨rfl,hw⟩;rw [hw];clear hw wn HN
  go_wp2_with fail
  refine HI.mono ?_
  rintro e w1 ⟨rfl,hb1⟩
  have HB1:=ac (HB0.out.trans (hb1.mono HB0.out.size))
  clear hb1 HI
  go_wp2
  go_ret
  exact⟨rfl,HB1.out⟩
 ·have i1:(67108864:Int)<((blen z.natAbs:Nat):Int):=by omega
  simp only [Value.slice.injEq] at hva
  obtain⟨rfl,rfl,rfl⟩:=hva
  clear hA hz hn9 hz9 hb0 h0 h1 hb9
  generalize blen z.natAbs=l at *
  go_enter Tryz.func11,Tryz.ntmps11
  go_wp2_with fail
  refine HL.mono ?_
  rintro e wn ⟨rfl,hw⟩;rw [hw];clear hw wn HL
  go_wp2_with fail
  refine HN.mono ?_
  rintro e wn ⟨rfl,hw⟩;rw [hw];clear hw wn HN
  go_wp2
  go_ret
  exact⟨rfl,HB0.out⟩

theorem kc (b:Bool)(v:Value)(X:List Nat)(w:World)(hA:Arg w v X)(hf:X.length≤35184372088000) :
  Calls Tryz.prog 6 #[.agg #[.bool b,v]] w fun e w'=>(∃aw mw nw a m n,e=.returned (.tuple #[.slice aw mw nw,.agg #[.bool b,.slice a m n]])∧dK w' (.slice aw mw nw) X∧Arg w' (.slice a m n) X)∧Below w.heap.size w w':=by
 obtain⟨a,n,rfl,_,_,_⟩:=hA.form
 obtain⟨w0,hw0,hb0,h0,hx0⟩:=bD w (.cells #[.bool b,.slice a X.length n] 24) (.cells #[.bool false,.slice none 0 0] 27)
 obtain⟨k0,k1⟩:=duo h0
 have HM:=p8 _ X w0 (hA.below hb0) hf
 have HB0:=ac hb0
 have HX0:=ac hx0
 have HK0:=ac h0
 clear hA hb0 h0 hx0
 go_enter Tryz.func6,Tryz.ntmps6
 go_wp2_with fail
 refine HM.mono ?_
 rintro e w1 ⟨⟨vw,vp,rfl,hL,hP⟩,hb1⟩
 obtain⟨gw,rfl,hgw⟩:=hL
 obtain⟨a1,n1,rfl,_,_,_⟩:=hP.form
 have hbx:=ae hb1 HX0.out
 have hf1:=av hbx
 obtain⟨l0,l1⟩:=duo hbx
 obtain⟨j0,j1⟩:=duo (ae hb1 HK0.out)
 have HBX:=ac hbx
 have HBE:=ac (HB0.out.trans (hb1.mono HB0.out.size))
 have HP:=ac hP
 have HG:=ac hgw
 clear hbx hb1 HM hw0 k0 k1 hP hgw
 go_wp2
 go_region
 have R5:=aH HBX.out (a':=.bool b) (b':=.slice a1 X.length n1)
 have HD:=ac (And.intro (HP.out.duo (p1:=b) (r1:=.slice a1 X.length n1) HBX.out) (aC HBE.out (g:=w.heap.size+1) (u0:=.bool b) (u1:=.slice a1 X.length n1) (by omega)))
 have hgl:gw≠w.heap.size+1:=by
  rintro rfl
  have h:=HG.out
  unfold Blk at h
  rw [HBX.out] at h
  simp at h
 have HLT:Hid (Blk ((w1.setCell ⟨w.heap.size+1,0,none⟩ (.bool b)).setCell ⟨w.heap.size+1,1,none⟩ (.slice a1 X.length n1)) gw (bW X)):=ac (by
  have h:=HG.out
  unfold Blk at h ⊢
  rw [Below.heap_setCell _ _ _ _ hgl,Below.heap_setCell _ _ _ _ hgl]
  exact h)
 generalize (w1.setCell ⟨w.heap.size+1,0,none⟩ (.bool b)).setCell ⟨w.heap.size+1,1,none⟩ (.slice a1 X.length n1)=w5 at *
 obtain⟨q0,q1⟩:=duo (show w5.drew.heap[w.heap.size+1]?=_ from R5)
 go_wp2
 refine bodyPost_ret (v:=.tuple #[.slice (some ⟨gw,0,none⟩) (X.length+4) (X.length+4),.agg #[.bool b,.slice a1 X.length n1]]) (by simp [results,Tryz.results6,go_sem,q0,q1]) rfl ?_
 exact⟨⟨_,_,_,_,_,_,rfl,⟨gw,rfl,HLT.out⟩,HD.out.1.below (Below.refl _ _).drew⟩,HD.out.2.drew⟩





theorem oO (ba bb:Bool)(va vb:Value)(X Y:List Nat)(w:World)(hA:Arg w va X)(hB:Arg w vb Y)(hT:Tab w)(lX:X.length≤17592186043904)(lY:Y.length≤17592186043904)(bX:blen (val X)≤67108864)(bY:blen (val Y)≤67108864) :
  Calls Tryz.prog 9 #[.agg #[.bool ba,va],.agg #[.bool bb,vb]] w (gH (zz ba (val X)) (zz bb (val Y)) w):=by
 rcases Nat.eq_zero_or_pos (val Y) with h|h
 ·exact mo ba bb va vb X Y w hA hB lX bX h
 ·exact qZ ba bb va vb X Y w hA hB hT lX lY bX bY h

theorem lE {az bz:Int}{g:Nat}{x y:Int}{n:Nat}(h:cq az bz g x y)(ha:blen az.natAbs≤n)(hb:blen bz.natAbs≤n)(hn:1≤n):blen x.natAbs≤n∧blen y.natAbs≤n∧blen g≤n:=by
 have h1:∀r:Nat,r≤1→blen r≤n:=fun r hr=>by
  have:blen r≤1:=(blen_le_iff _ _).2 (by omega)
  omega
 refine⟨?_,?_,?_⟩
 ·by_cases hz:bz=0
  ·obtain⟨e,_⟩:=h.none hz
   refine h1 _ ?_
   rw [e]
   rcases Int.lt_trichotomy az 0 with h2|h2|h2
   ·rw [Int.sign_eq_neg_one_of_neg h2];decide
   ·rw [h2];decide
   ·rw [Int.sign_eq_one_of_pos h2];decide
  ·obtain⟨_,h3⟩:=h.some hz
   have hg:0<g:=by rw [h.gcd];exact Nat.gcd_pos_of_pos_right _ (by omega)
   have h4:x.natAbs≤x.natAbs*g:=Nat.le_mul_of_pos_right _ hg
   exact Nat.le_trans (bA (by omega)) hb
 ·rcases h.ly with h2|h2
  ·exact Nat.le_trans (bA h2) ha
  ·exact h1 _ h2
 ·rcases Nat.eq_zero_or_pos bz.natAbs with h2|h2
  ·rw [h.gcd,h2,Nat.gcd_zero_right];exact ha
  ·exact Nat.le_trans (bA (by rw [h.gcd];exact Nat.gcd_le_right _ h2)) hb
end Go.Proofs.YtdbjbbdhlpfhjaaGreatDoor
namespace Go.Proofs.YtdbjbbdhlpfhjaaGreatDoor
open Lm

theorem kC (B:Nat)(X:List Nat)(j:Nat)(h:j<X.length):vb B (X.drop j)=X.getD j 0+B*vb B (X.drop (j+1)):=by
 rw [List.drop_eq_getElem_cons h,vb]
 simp [List.getD,h]

theorem m5 (B:Nat)(out:List Nat)(j q:Nat)(h:j<out.length):vb B ((out.set j q).drop j)=q+B*vb B (out.drop (j+1)):=by
 rw [kC B _ j (by simpa using h)]
 congr 1
 ·simp [List.getD,h]
 ·congr 2
  rw [List.drop_set_of_lt (by omega)]

theorem rk (X out:List Nat)(j y R q R2:Nat)(hX:j<X.length)(ho:j<out.length)
  (h:vb 4294967296 (X.drop (j+1))=vb 4294967296 (out.drop (j+1))*y+R) (hq:R*2 ^ 32+X.getD j 0=q*y+R2) :
  vb 4294967296 (X.drop j)=vb 4294967296 ((out.set j q).drop j)*y+R2:=by
 rw [kC _ X j hX,m5 _ _ _ _ ho,h]
 have e:(2:Nat) ^ 32=4294967296:=by decide
 rw [e] at hq
 generalize vb 4294967296 (out.drop (j+1))=V at *
 generalize X.getD j 0=x at *
 grind

theorem nF (y R t:Nat)(h:R<y*2 ^ (t+1))(hge:y*2 ^ t≤R):R - y*2 ^ t<y*2 ^ t:=by
 rw [Nat.pow_succ,←Nat.mul_assoc] at h
 omega

theorem pF (y R R2 q t:Nat)(h:R=q*y+R2)(hge:y*2 ^ t≤R2):R=(q+2 ^ t)*y+(R2 - y*2 ^ t):=by
 rw [Nat.add_mul,Nat.mul_comm (2 ^ t) y]
 omega

theorem qc (y R x:Nat)(hR:R<y)(hx:x<4294967296):R*2 ^ 32+x<y*2 ^ 32:=by
 have h1:(R+1)*2 ^ 32≤y*2 ^ 32:=Nat.mul_le_mul_right _ hR
 have e:(2:Nat) ^ 32=4294967296:=by decide
 rw [Nat.add_mul,Nat.one_mul] at h1
 omega

theorem pp (x y V R:Nat)(h:x=V*y+R)(hR:R<y):V=x / y∧R=x % y:=by
 subst h
 rw [Nat.mul_comm]
 refine⟨?_,?_⟩
 ·rw [Nat.mul_add_div (by omega),Nat.div_eq_of_lt hR,Nat.add_zero]
 ·rw [Nat.mul_add_mod,Nat.mod_eq_of_lt hR]

theorem jM {a b:Nat}(h:a<b):blen a≤blen b:=d9 (Nat.le_of_lt h)

theorem jz (y n:Nat):blen (y*2 ^ n)≤blen y+n:=by
 rw [blen_le_iff,Nat.pow_add]
 exact Nat.mul_lt_mul_of_pos_right ((blen_le_iff _ _).1 (Nat.le_refl _)) (Nat.two_pow_pos _)
end Go.Proofs.YtdbjbbdhlpfhjaaGreatDoor

