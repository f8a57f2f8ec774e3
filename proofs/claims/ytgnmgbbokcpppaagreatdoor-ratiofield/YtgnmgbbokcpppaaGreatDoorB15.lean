/- Package ratio: plus. -/
import Derived.Test.YtgnmgbbokcpppaaGreatDoorB14
import Derived.Test.YtgnmgbbokcpppaaGreatDoorB02
set_option maxRecDepth 20000
set_option maxHeartbeats 8000000
namespace Go.Proofs.YtgnmgbbokcpppaaGreatDoor
open Go.RowKit
open Lm
attribute [local go_sem ↓] Go.wp_at_zero Go.wp_at_succ

theorem kH (va vb:Value)(x y:Nat)(w:World)(hA:Nn w va x)(hB:Nn w vb y):Calls Tryz.prog 93 #[va,vb] w (RfN w (x+y)):=by
 obtain⟨X,hA,rfl,fX⟩:=hA
 obtain⟨Y,hB,rfl,fY⟩:=hB
 exact pO va vb X Y w hA hB (by omega) (by omega)

theorem iC (va vb:Value)(x y:Nat)(w:World)(hA:Nn w va x)(hB:Nn w vb y):Calls Tryz.prog 95 #[va,vb] w (RfN w ((x - y)+(y - x))):=by
 obtain⟨X,hA,rfl,fX⟩:=hA
 obtain⟨Y,hB,rfl,fY⟩:=hB
 exact lI va vb X Y w hA hB (by omega) (by omega)

theorem dQ (va vb:Value)(x y:Nat)(w:World)(hA:Nn w va x)(hB:Nn w vb y):Calls Tryz.prog 94 #[va,vb] w fun e w'=>e=.returned (.int .i64 (cmpN x y))∧Below w.heap.size w w':=by
 obtain⟨X,hA,rfl,fX⟩:=hA
 obtain⟨Y,hB,rfl,fY⟩:=hB
 exact (dC va vb X Y w hA hB).mono fun e w' ⟨h1,h2⟩=>⟨h1,h2.below _⟩

theorem gO (va vb:Value)(x y:Nat)(w:World)(hA:Nn w va x)(hB:Nn w vb y)(_:True):Calls Tryz.prog 93 #[va,vb] w (RfN w (x+y)):=kH va vb x y w hA hB

theorem iH (va vb:Value)(x y:Nat)(w:World)(hA:Nn w va x)(hB:Nn w vb y)(h:x<y):Calls Tryz.prog 95 #[va,vb] w (RfN w (y - x)):=by
 have e:(x - y)+(y - x)=y - x:=by omega
 have C:=iC va vb x y w hA hB
 rwa [e] at C

theorem jA (va vb:Value)(x y:Nat)(w:World)(hA:Nn w va x)(hB:Nn w vb y)(h:¬x<y):Calls Tryz.prog 95 #[va,vb] w (RfN w (x - y)):=by
 have e:(x - y)+(y - x)=x - y:=by omega
 have C:=iC va vb x y w hA hB
 rwa [e] at C

theorem cT (b:Bool)(v:Value)(rs:List Nat)(base:Nat)(w:World)(x:Nat)(z:Int)(hz:zz b x=z)(hA:Ans w base v rs)(hv:val rs=x)(ht:tr rs=rs) :
  Calls Tryz.prog 67 #[.bool b,v] w fun e w'=>e=.returned (.agg #[.bool (decide (z<0)),v])∧Below w.heap.size w w':=by
 have C:=gM b v rs base w hA
 rw [dW b ht hv,hz] at C
 exact C

abbrev q9:Obj:=.cells #[.bool false,.slice none 0 0] 25

theorem kI (b:Bool)(v1 v2:Value)(x y:Nat)(w:World)(hA:Nn w v1 x)(hB:Nn w v2 y) :
  Calls Tryz.prog 59 #[.agg #[.bool b,v1],.agg #[.bool b,v2]] w (RfW w (zz b (x+y))):=by
 obtain⟨a1,n1,k1,rfl⟩:=hA.form
 obtain⟨a2,n2,k2,rfl⟩:=hB.form
 obtain⟨w0,hw0,hb0,h0,h1,h2⟩:=aZ w (.cells #[.bool b,.slice a1 n1 k1] 25) (.cells #[.bool b,.slice a2 n2 k2] 25) (.cells #[.bool false,.slice none 0 0] 25)
 have H1:=ac h2
 have HX1:=ac h0
 have HX2:=ac h1
 have HB0:=ac hb0
 have HA:=ac (hA.below hb0)
 have HB:=ac (hB.below hb0)
 obtain⟨c0,c1⟩:=duo h0
 obtain⟨d0,d1⟩:=duo h1
 clear hA hB h0 h1 h2 hb0
 have HZA:=ac (aM b (x+y))
 obtain⟨zv,hzv⟩:∃zv,zz b (x+y)=zv:=⟨_,rfl⟩
 rw [hzv] at HZA ⊢
 have HZ:=ac hzv
 clear hzv
 have HW1:=ac (Below.refl w0.heap.size w0)
 cases b
 ·go_enter Tryz.func59,Tryz.ntmps59
  go_wp2
  have hw1:=ae HW1.out H1.out
  have g0:Below w0.drew.heap.size w0.drew w0.drew:=Below.refl _ _
  have E1:=gO _ _ x y w0.drew (HA.out.below HW1.out.drew) (HB.out.below HW1.out.drew) trivial
  have KS:=ac (fun (W:World) (hg:Below w0.drew.heap.size w0.drew W)=>show W.cell? ⟨w.heap.size,0,none⟩=some (.bool false)∧W.cell? ⟨w.heap.size,1,none⟩=some (.slice a1 n1 k1)∧W.cell? ⟨w.heap.size+1,0,none⟩=some (.bool false)∧W.cell? ⟨w.heap.size+1,1,none⟩=some (.slice a2 n2 k2) from
   ⟨(duo (ae hg (show w0.drew.heap[w.heap.size]?=some (.cells #[.bool false,.slice a1 n1 k1] 25) from ae HW1.out.drew HX1.out))).1,(duo (ae hg (show w0.drew.heap[w.heap.size]?=some (.cells #[.bool false,.slice a1 n1 k1] 25) from ae HW1.out.drew HX1.out))).2,(duo (ae hg (show w0.drew.heap[w.heap.size+1]?=some (.cells #[.bool false,.slice a2 n2 k2] 25) from ae HW1.out.drew HX2.out))).1,(duo (ae hg (show w0.drew.heap[w.heap.size+1]?=some (.cells #[.bool false,.slice a2 n2 k2] 25) from ae HW1.out.drew HX2.out))).2⟩)
  have so:∀(W:World) (k:Nat) (u:Value) (k':Nat),(W.setCell ⟨w.heap.size+1+1,k,none⟩ u).cell? ⟨w.heap.size,k',none⟩=W.cell? ⟨w.heap.size,k',none⟩:=fun W k u k'=>aB (by omega)
  have so2:∀(W:World) (k:Nat) (u:Value) (k':Nat),(W.setCell ⟨w.heap.size+1+1,k,none⟩ u).cell? ⟨w.heap.size+1,k',none⟩=W.cell? ⟨w.heap.size+1,k',none⟩:=fun W k u k'=>aB (by omega)
  clear hw1 c0 c1 d0 d1
  go_region_held3 (fun w'=>w'.cell? ⟨w.heap.size,0,none⟩=some (.bool false)∧w'.cell? ⟨w.heap.size,1,none⟩=some (.slice a1 n1 k1)∧w'.cell? ⟨w.heap.size+1,0,none⟩=some (.bool false)∧w'.cell? ⟨w.heap.size+1,1,none⟩=some (.slice a2 n2 k2)) (first|with_reducible exact KS.out _ g2|with_reducible exact KS.out _ g1|with_reducible exact KS.out _ g0 | (refine⟨?_,?_,?_,?_⟩ <;> (first|rw [so,so] | rw [so2,so2]) <;> first|exact (KS.out _ g2).1|exact (KS.out _ g2).2.1|exact (KS.out _ g2).2.2.1|exact (KS.out _ g2).2.2.2)) (first
   | (go_at_call 93;refine E1.mono ?_;rintro e' t1 ⟨⟨v1,rfl,y1⟩,hb1⟩;have g1:=ah g0 hb1;obtain⟨r1,x1,x2,x3⟩:=y1;obtain⟨a1,c1,rfl⟩:=x1.shape)
   | (go_at_call 67;refine (cT false _ r1 w0.drew.heap.size t1 _ zv HZ.out x1 x2 x3).mono ?_;rintro e' t2 ⟨rfl,hb2⟩;have g2:=ah g1 hb2;have hz3:=ae g2 (show w0.drew.heap[w.heap.size+1+1]?=some (.cells #[.bool false,.slice none 0 0] 25) from ae HW1.out.drew H1.out);have hf:=bT hz3;obtain⟨m0,m1'⟩:=duo hz3))
  have hw0s:=Nat.le_trans HB0.out.size HW1.out.size
  have T1:TN t2 w.heap.size (.slice a1 r1.length c1) zv.natAbs:=⟨r1,(x1.below hb2).base hw0s,by rw [HZA.out];exact x2,x3⟩
  have T2:=(T1.offT (g:=w.heap.size+1+1) (o:=0) (u:=.bool (decide (zv<0))) hz3 (by decide)).offT (g:=w.heap.size+1+1) (o:=1) (u:=.slice a1 r1.length c1) (aj hz3 _) (by decide)
  have T3:=cf (a':=.bool (decide (zv<0))) (b':=.slice a1 r1.length c1) hz3
  have T4:=bS (u0:=.bool (decide (zv<0))) (u1:=.slice a1 r1.length c1) (ah (ah HB0.out (show Below w0.heap.size w0 w0.drew from HW1.out.drew)) g2) (show w.heap.size≤w.heap.size+1+1 by omega)
  have HE:=ac (And.intro T2 T4)
  obtain⟨p0,p1⟩:=duo T3
  clear T1 T2 T3 T4 so so2 hz3 hf m0 m1' x1 x2 x3 hb1 hb2 g0 g1 g2 KS E1
  generalize (t2.setCell ⟨w.heap.size+1+1,0,none⟩ (.bool (decide (zv<0)))).setCell ⟨w.heap.size+1+1,1,none⟩ (.slice a1 r1.length c1)=w5 at *
  go_wp2
  refine bodyPost_ret (v:=.agg #[.bool (decide (zv<0)),.slice a1 r1.length c1]) (by simp [results,Tryz.results59,go_sem,p0,p1]) rfl ?_
  exact⟨⟨_,_,_,rfl,HE.out.1⟩,HE.out.2⟩
 ·go_enter Tryz.func59,Tryz.ntmps59
  go_wp2
  have hw1:=ae HW1.out H1.out
  have g0:Below w0.drew.heap.size w0.drew w0.drew:=Below.refl _ _
  have E1:=gO _ _ x y w0.drew (HA.out.below HW1.out.drew) (HB.out.below HW1.out.drew) trivial
  have KS:=ac (fun (W:World) (hg:Below w0.drew.heap.size w0.drew W)=>show W.cell? ⟨w.heap.size,0,none⟩=some (.bool true)∧W.cell? ⟨w.heap.size,1,none⟩=some (.slice a1 n1 k1)∧W.cell? ⟨w.heap.size+1,0,none⟩=some (.bool true)∧W.cell? ⟨w.heap.size+1,1,none⟩=some (.slice a2 n2 k2) from
   ⟨(duo (ae hg (show w0.drew.heap[w.heap.size]?=some (.cells #[.bool true,.slice a1 n1 k1] 25) from ae HW1.out.drew HX1.out))).1,(duo (ae hg (show w0.drew.heap[w.heap.size]?=some (.cells #[.bool true,.slice a1 n1 k1] 25) from ae HW1.out.drew HX1.out))).2,(duo (ae hg (show w0.drew.heap[w.heap.size+1]?=some (.cells #[.bool true,.slice a2 n2 k2] 25) from ae HW1.out.drew HX2.out))).1,(duo (ae hg (show w0.drew.heap[w.heap.size+1]?=some (.cells #[.bool true,.slice a2 n2 k2] 25) from ae HW1.out.drew HX2.out))).2⟩)
  have so:∀(W:World) (k:Nat) (u:Value) (k':Nat),(W.setCell ⟨w.heap.size+1+1,k,none⟩ u).cell? ⟨w.heap.size,k',none⟩=W.cell? ⟨w.heap.size,k',none⟩:=fun W k u k'=>aB (by omega)
  have so2:∀(W:World) (k:Nat) (u:Value) (k':Nat),(W.setCell ⟨w.heap.size+1+1,k,none⟩ u).cell? ⟨w.heap.size+1,k',none⟩=W.cell? ⟨w.heap.size+1,k',none⟩:=fun W k u k'=>aB (by omega)
  clear hw1 c0 c1 d0 d1
  go_region_held3 (fun w'=>w'.cell? ⟨w.heap.size,0,none⟩=some (.bool true)∧w'.cell? ⟨w.heap.size,1,none⟩=some (.slice a1 n1 k1)∧w'.cell? ⟨w.heap.size+1,0,none⟩=some (.bool true)∧w'.cell? ⟨w.heap.size+1,1,none⟩=some (.slice a2 n2 k2)) (first|with_reducible exact KS.out _ g2|with_reducible exact KS.out _ g1|with_reducible exact KS.out _ g0 | (refine⟨?_,?_,?_,?_⟩ <;> (first|rw [so,so] | rw [so2,so2]) <;> first|exact (KS.out _ g2).1|exact (KS.out _ g2).2.1|exact (KS.out _ g2).2.2.1|exact (KS.out _ g2).2.2.2)) (first
   | (go_at_call 93;refine E1.mono ?_;rintro e' t1 ⟨⟨v1,rfl,y1⟩,hb1⟩;have g1:=ah g0 hb1;obtain⟨r1,x1,x2,x3⟩:=y1;obtain⟨a1,c1,rfl⟩:=x1.shape)
   | (go_at_call 67;refine (cT true _ r1 w0.drew.heap.size t1 _ zv HZ.out x1 x2 x3).mono ?_;rintro e' t2 ⟨rfl,hb2⟩;have g2:=ah g1 hb2;have hz3:=ae g2 (show w0.drew.heap[w.heap.size+1+1]?=some (.cells #[.bool false,.slice none 0 0] 25) from ae HW1.out.drew H1.out);have hf:=bT hz3;obtain⟨m0,m1'⟩:=duo hz3))
  have hw0s:=Nat.le_trans HB0.out.size HW1.out.size
  have T1:TN t2 w.heap.size (.slice a1 r1.length c1) zv.natAbs:=⟨r1,(x1.below hb2).base hw0s,by rw [HZA.out];exact x2,x3⟩
  have T2:=(T1.offT (g:=w.heap.size+1+1) (o:=0) (u:=.bool (decide (zv<0))) hz3 (by decide)).offT (g:=w.heap.size+1+1) (o:=1) (u:=.slice a1 r1.length c1) (aj hz3 _) (by decide)
  have T3:=cf (a':=.bool (decide (zv<0))) (b':=.slice a1 r1.length c1) hz3
  have T4:=bS (u0:=.bool (decide (zv<0))) (u1:=.slice a1 r1.length c1) (ah (ah HB0.out (show Below w0.heap.size w0 w0.drew from HW1.out.drew)) g2) (show w.heap.size≤w.heap.size+1+1 by omega)
  have HE:=ac (And.intro T2 T4)
  obtain⟨p0,p1⟩:=duo T3
  clear T1 T2 T3 T4 so so2 hz3 hf m0 m1' x1 x2 x3 hb1 hb2 g0 g1 g2 KS E1
  generalize (t2.setCell ⟨w.heap.size+1+1,0,none⟩ (.bool (decide (zv<0)))).setCell ⟨w.heap.size+1+1,1,none⟩ (.slice a1 r1.length c1)=w5 at *
  go_wp2
  refine bodyPost_ret (v:=.agg #[.bool (decide (zv<0)),.slice a1 r1.length c1]) (by simp [results,Tryz.results59,go_sem,p0,p1]) rfl ?_
  exact⟨⟨_,_,_,rfl,HE.out.1⟩,HE.out.2⟩

theorem ny (v1 v2:Value)(x y:Nat)(w:World)(hA:Nn w v1 x)(hB:Nn w v2 y)(hlt:x<y) :
  Calls Tryz.prog 59 #[.agg #[.bool true,v1],.agg #[.bool false,v2]] w (RfW w (zz false (y - x))):=by
 obtain⟨a1,n1,k1,rfl⟩:=hA.form
 obtain⟨a2,n2,k2,rfl⟩:=hB.form
 obtain⟨w0,hw0,hb0,h0,h1,h2⟩:=aZ w (.cells #[.bool true,.slice a1 n1 k1] 25) (.cells #[.bool false,.slice a2 n2 k2] 25) (.cells #[.bool false,.slice none 0 0] 25)
 have H1:=ac h2
 have HX1:=ac h0
 have HX2:=ac h1
 have HB0:=ac hb0
 have HA:=ac (hA.below hb0)
 have HB:=ac (hB.below hb0)
 obtain⟨c0,c1⟩:=duo h0
 obtain⟨d0,d1⟩:=duo h1
 clear hA hB h0 h1 h2 hb0
 have HLT:=ac hlt
 have HC:=dQ _ _ x y w0 HA.out HB.out
 rw [cmpN_lt hlt] at HC
 clear hlt
 have HZA:=ac (aM false (y-x))
 obtain⟨zv,hzv⟩:∃zv,zz false (y-x)=zv:=⟨_,rfl⟩
 rw [hzv] at HZA ⊢
 have HZ:=ac hzv
 clear hzv
 go_enter Tryz.func59,Tryz.ntmps59
 go_wp2_with fail
 refine HC.mono ?_
 rintro e w1 ⟨rfl,hbs⟩
 have HW1:=ac hbs
 clear hbs HC
 go_wp2
 have hw1:=ae HW1.out H1.out
 have g0:Below w1.drew.heap.size w1.drew w1.drew:=Below.refl _ _
 have E1:=iH _ _ x y w1.drew (HA.out.below HW1.out.drew) (HB.out.below HW1.out.drew) HLT.out
 have KS:=ac (fun (W:World) (hg:Below w1.drew.heap.size w1.drew W)=>show W.cell? ⟨w.heap.size,0,none⟩=some (.bool true)∧W.cell? ⟨w.heap.size,1,none⟩=some (.slice a1 n1 k1)∧W.cell? ⟨w.heap.size+1,0,none⟩=some (.bool false)∧W.cell? ⟨w.heap.size+1,1,none⟩=some (.slice a2 n2 k2) from
  ⟨(duo (ae hg (show w1.drew.heap[w.heap.size]?=some (.cells #[.bool true,.slice a1 n1 k1] 25) from ae HW1.out.drew HX1.out))).1,(duo (ae hg (show w1.drew.heap[w.heap.size]?=some (.cells #[.bool true,.slice a1 n1 k1] 25) from ae HW1.out.drew HX1.out))).2,(duo (ae hg (show w1.drew.heap[w.heap.size+1]?=some (.cells #[.bool false,.slice a2 n2 k2] 25) from ae HW1.out.drew HX2.out))).1,(duo (ae hg (show w1.drew.heap[w.heap.size+1]?=some (.cells #[.bool false,.slice a2 n2 k2] 25) from ae HW1.out.drew HX2.out))).2⟩)
 have so:∀(W:World) (k:Nat) (u:Value) (k':Nat),(W.setCell ⟨w.heap.size+1+1,k,none⟩ u).cell? ⟨w.heap.size,k',none⟩=W.cell? ⟨w.heap.size,k',none⟩:=fun W k u k'=>aB (by omega)
 have so2:∀(W:World) (k:Nat) (u:Value) (k':Nat),(W.setCell ⟨w.heap.size+1+1,k,none⟩ u).cell? ⟨w.heap.size+1,k',none⟩=W.cell? ⟨w.heap.size+1,k',none⟩:=fun W k u k'=>aB (by omega)
 clear hw1 c0 c1 d0 d1
 go_region_held3 (fun w'=>w'.cell? ⟨w.heap.size,0,none⟩=some (.bool true)∧w'.cell? ⟨w.heap.size,1,none⟩=some (.slice a1 n1 k1)∧w'.cell? ⟨w.heap.size+1,0,none⟩=some (.bool false)∧w'.cell? ⟨w.heap.size+1,1,none⟩=some (.slice a2 n2 k2)) (first|with_reducible exact KS.out _ g2|with_reducible exact KS.out _ g1|with_reducible exact KS.out _ g0 | (refine⟨?_,?_,?_,?_⟩ <;> (first|rw [so,so] | rw [so2,so2]) <;> first|exact (KS.out _ g2).1|exact (KS.out _ g2).2.1|exact (KS.out _ g2).2.2.1|exact (KS.out _ g2).2.2.2)) (first
  | (go_at_call 95;refine E1.mono ?_;rintro e' t1 ⟨⟨v1,rfl,y1⟩,hb1⟩;have g1:=ah g0 hb1;obtain⟨r1,x1,x2,x3⟩:=y1;obtain⟨a1,c1,rfl⟩:=x1.shape)
  | (go_at_call 67;refine (cT false _ r1 w1.drew.heap.size t1 _ zv HZ.out x1 x2 x3).mono ?_;rintro e' t2 ⟨rfl,hb2⟩;have g2:=ah g1 hb2;have hz3:=ae g2 (show w1.drew.heap[w.heap.size+1+1]?=some (.cells #[.bool false,.slice none 0 0] 25) from ae HW1.out.drew H1.out);have hf:=bT hz3;obtain⟨m0,m1'⟩:=duo hz3))
 have hw0s:=Nat.le_trans HB0.out.size HW1.out.size
 have T1:TN t2 w.heap.size (.slice a1 r1.length c1) zv.natAbs:=⟨r1,(x1.below hb2).base hw0s,by rw [HZA.out];exact x2,x3⟩
 have T2:=(T1.offT (g:=w.heap.size+1+1) (o:=0) (u:=.bool (decide (zv<0))) hz3 (by decide)).offT (g:=w.heap.size+1+1) (o:=1) (u:=.slice a1 r1.length c1) (aj hz3 _) (by decide)
 have T3:=cf (a':=.bool (decide (zv<0))) (b':=.slice a1 r1.length c1) hz3
 have T4:=bS (u0:=.bool (decide (zv<0))) (u1:=.slice a1 r1.length c1) (ah (ah HB0.out (show Below w0.heap.size w0 w1.drew from HW1.out.drew)) g2) (show w.heap.size≤w.heap.size+1+1 by omega)
 have HE:=ac (And.intro T2 T4)
 obtain⟨p0,p1⟩:=duo T3
 clear T1 T2 T3 T4 so so2 hz3 hf m0 m1' x1 x2 x3 hb1 hb2 g0 g1 g2 KS E1
 generalize (t2.setCell ⟨w.heap.size+1+1,0,none⟩ (.bool (decide (zv<0)))).setCell ⟨w.heap.size+1+1,1,none⟩ (.slice a1 r1.length c1)=w5 at *
 go_wp2
 refine bodyPost_ret (v:=.agg #[.bool (decide (zv<0)),.slice a1 r1.length c1]) (by simp [results,Tryz.results59,go_sem,p0,p1]) rfl ?_
 exact⟨⟨_,_,_,rfl,HE.out.1⟩,HE.out.2⟩

theorem rh (v1 v2:Value)(x y:Nat)(w:World)(hA:Nn w v1 x)(hB:Nn w v2 y)(hlt:¬x<y) :
  Calls Tryz.prog 59 #[.agg #[.bool true,v1],.agg #[.bool false,v2]] w (RfW w (zz true (x - y))):=by
 obtain⟨a1,n1,k1,rfl⟩:=hA.form
 obtain⟨a2,n2,k2,rfl⟩:=hB.form
 obtain⟨w0,hw0,hb0,h0,h1,h2⟩:=aZ w (.cells #[.bool true,.slice a1 n1 k1] 25) (.cells #[.bool false,.slice a2 n2 k2] 25) (.cells #[.bool false,.slice none 0 0] 25)
 have H1:=ac h2
 have HX1:=ac h0
 have HX2:=ac h1
 have HB0:=ac hb0
 have HA:=ac (hA.below hb0)
 have HB:=ac (hB.below hb0)
 obtain⟨c0,c1⟩:=duo h0
 obtain⟨d0,d1⟩:=duo h1
 clear hA hB h0 h1 h2 hb0
 have HLT:=ac hlt
 have HC:=dQ _ _ x y w0 HA.out HB.out
 obtain⟨cc,hcc,hc0⟩:∃cc:Int,cmpN x y=cc∧¬cc<0:=⟨_,rfl,by unfold cmpN;rw [if_neg hlt];split <;> omega⟩
 rw [hcc] at HC
 clear hlt hcc
 have HZA:=ac (aM true (x-y))
 obtain⟨zv,hzv⟩:∃zv,zz true (x-y)=zv:=⟨_,rfl⟩
 rw [hzv] at HZA ⊢
 have HZ:=ac hzv
 clear hzv
 go_enter Tryz.func59,Tryz.ntmps59
 go_wp2_with fail
 refine HC.mono ?_
 rintro e w1 ⟨rfl,hbs⟩
 have HW1:=ac hbs
 clear hbs HC
 go_wp2
 have hw1:=ae HW1.out H1.out
 have g0:Below w1.drew.heap.size w1.drew w1.drew:=Below.refl _ _
 have E1:=jA _ _ x y w1.drew (HA.out.below HW1.out.drew) (HB.out.below HW1.out.drew) HLT.out
 have KS:=ac (fun (W:World) (hg:Below w1.drew.heap.size w1.drew W)=>show W.cell? ⟨w.heap.size,0,none⟩=some (.bool true)∧W.cell? ⟨w.heap.size,1,none⟩=some (.slice a1 n1 k1)∧W.cell? ⟨w.heap.size+1,0,none⟩=some (.bool false)∧W.cell? ⟨w.heap.size+1,1,none⟩=some (.slice a2 n2 k2) from
  ⟨(duo (ae hg (show w1.drew.heap[w.heap.size]?=some (.cells #[.bool true,.slice a1 n1 k1] 25) from ae HW1.out.drew HX1.out))).1,(duo (ae hg (show w1.drew.heap[w.heap.size]?=some (.cells #[.bool true,.slice a1 n1 k1] 25) from ae HW1.out.drew HX1.out))).2,(duo (ae hg (show w1.drew.heap[w.heap.size+1]?=some (.cells #[.bool false,.slice a2 n2 k2] 25) from ae HW1.out.drew HX2.out))).1,(duo (ae hg (show w1.drew.heap[w.heap.size+1]?=some (.cells #[.bool false,.slice a2 n2 k2] 25) from ae HW1.out.drew HX2.out))).2⟩)
 have so:∀(W:World) (k:Nat) (u:Value) (k':Nat),(W.setCell ⟨w.heap.size+1+1,k,none⟩ u).cell? ⟨w.heap.size,k',none⟩=W.cell? ⟨w.heap.size,k',none⟩:=fun W k u k'=>aB (by omega)
 have so2:∀(W:World) (k:Nat) (u:Value) (k':Nat),(W.setCell ⟨w.heap.size+1+1,k,none⟩ u).cell? ⟨w.heap.size+1,k',none⟩=W.cell? ⟨w.heap.size+1,k',none⟩:=fun W k u k'=>aB (by omega)
 clear hw1 c0 c1 d0 d1
 go_region_held3 (fun w'=>w'.cell? ⟨w.heap.size,0,none⟩=some (.bool true)∧w'.cell? ⟨w.heap.size,1,none⟩=some (.slice a1 n1 k1)∧w'.cell? ⟨w.heap.size+1,0,none⟩=some (.bool false)∧w'.cell? ⟨w.heap.size+1,1,none⟩=some (.slice a2 n2 k2)) (first|with_reducible exact KS.out _ g2|with_reducible exact KS.out _ g1|with_reducible exact KS.out _ g0 | (refine⟨?_,?_,?_,?_⟩ <;> (first|rw [so,so] | rw [so2,so2]) <;> first|exact (KS.out _ g2).1|exact (KS.out _ g2).2.1|exact (KS.out _ g2).2.2.1|exact (KS.out _ g2).2.2.2)) (first
  | (go_at_call 95;refine E1.mono ?_;rintro e' t1 ⟨⟨v1,rfl,y1⟩,hb1⟩;have g1:=ah g0 hb1;obtain⟨r1,x1,x2,x3⟩:=y1;obtain⟨a1,c1,rfl⟩:=x1.shape)
  | (go_at_call 67;refine (cT true _ r1 w1.drew.heap.size t1 _ zv HZ.out x1 x2 x3).mono ?_;rintro e' t2 ⟨rfl,hb2⟩;have g2:=ah g1 hb2;have hz3:=ae g2 (show w1.drew.heap[w.heap.size+1+1]?=some (.cells #[.bool false,.slice none 0 0] 25) from ae HW1.out.drew H1.out);have hf:=bT hz3;obtain⟨m0,m1'⟩:=duo hz3))
 have hw0s:=Nat.le_trans HB0.out.size HW1.out.size
 have T1:TN t2 w.heap.size (.slice a1 r1.length c1) zv.natAbs:=⟨r1,(x1.below hb2).base hw0s,by rw [HZA.out];exact x2,x3⟩
 have T2:=(T1.offT (g:=w.heap.size+1+1) (o:=0) (u:=.bool (decide (zv<0))) hz3 (by decide)).offT (g:=w.heap.size+1+1) (o:=1) (u:=.slice a1 r1.length c1) (aj hz3 _) (by decide)
 have T3:=cf (a':=.bool (decide (zv<0))) (b':=.slice a1 r1.length c1) hz3
 have T4:=bS (u0:=.bool (decide (zv<0))) (u1:=.slice a1 r1.length c1) (ah (ah HB0.out (show Below w0.heap.size w0 w1.drew from HW1.out.drew)) g2) (show w.heap.size≤w.heap.size+1+1 by omega)
 have HE:=ac (And.intro T2 T4)
 obtain⟨p0,p1⟩:=duo T3
 clear T1 T2 T3 T4 so so2 hz3 hf m0 m1' x1 x2 x3 hb1 hb2 g0 g1 g2 KS E1
 generalize (t2.setCell ⟨w.heap.size+1+1,0,none⟩ (.bool (decide (zv<0)))).setCell ⟨w.heap.size+1+1,1,none⟩ (.slice a1 r1.length c1)=w5 at *
 go_wp2
 refine bodyPost_ret (v:=.agg #[.bool (decide (zv<0)),.slice a1 r1.length c1]) (by simp [results,Tryz.results59,go_sem,p0,p1]) rfl ?_
 exact⟨⟨_,_,_,rfl,HE.out.1⟩,HE.out.2⟩

theorem oN (v1 v2:Value)(x y:Nat)(w:World)(hA:Nn w v1 x)(hB:Nn w v2 y)(hlt:x<y) :
  Calls Tryz.prog 59 #[.agg #[.bool false,v1],.agg #[.bool true,v2]] w (RfW w (zz true (y - x))):=by
 obtain⟨a1,n1,k1,rfl⟩:=hA.form
 obtain⟨a2,n2,k2,rfl⟩:=hB.form
 obtain⟨w0,hw0,hb0,h0,h1,h2⟩:=aZ w (.cells #[.bool false,.slice a1 n1 k1] 25) (.cells #[.bool true,.slice a2 n2 k2] 25) (.cells #[.bool false,.slice none 0 0] 25)
 have H1:=ac h2
 have HX1:=ac h0
 have HX2:=ac h1
 have HB0:=ac hb0
 have HA:=ac (hA.below hb0)
 have HB:=ac (hB.below hb0)
 obtain⟨c0,c1⟩:=duo h0
 obtain⟨d0,d1⟩:=duo h1
 clear hA hB h0 h1 h2 hb0
 have HLT:=ac hlt
 have HC:=dQ _ _ x y w0 HA.out HB.out
 rw [cmpN_lt hlt] at HC
 clear hlt
 have HZA:=ac (aM true (y-x))
 obtain⟨zv,hzv⟩:∃zv,zz true (y-x)=zv:=⟨_,rfl⟩
 rw [hzv] at HZA ⊢
 have HZ:=ac hzv
 clear hzv
 go_enter Tryz.func59,Tryz.ntmps59
 go_wp2_with fail
 refine HC.mono ?_
 rintro e w1 ⟨rfl,hbs⟩
 have HW1:=ac hbs
 clear hbs HC
 go_wp2
 have hw1:=ae HW1.out H1.out
 have g0:Below w1.drew.heap.size w1.drew w1.drew:=Below.refl _ _
 have E1:=iH _ _ x y w1.drew (HA.out.below HW1.out.drew) (HB.out.below HW1.out.drew) HLT.out
 have KS:=ac (fun (W:World) (hg:Below w1.drew.heap.size w1.drew W)=>show W.cell? ⟨w.heap.size,0,none⟩=some (.bool false)∧W.cell? ⟨w.heap.size,1,none⟩=some (.slice a1 n1 k1)∧W.cell? ⟨w.heap.size+1,0,none⟩=some (.bool true)∧W.cell? ⟨w.heap.size+1,1,none⟩=some (.slice a2 n2 k2) from
  ⟨(duo (ae hg (show w1.drew.heap[w.heap.size]?=some (.cells #[.bool false,.slice a1 n1 k1] 25) from ae HW1.out.drew HX1.out))).1,(duo (ae hg (show w1.drew.heap[w.heap.size]?=some (.cells #[.bool false,.slice a1 n1 k1] 25) from ae HW1.out.drew HX1.out))).2,(duo (ae hg (show w1.drew.heap[w.heap.size+1]?=some (.cells #[.bool true,.slice a2 n2 k2] 25) from ae HW1.out.drew HX2.out))).1,(duo (ae hg (show w1.drew.heap[w.heap.size+1]?=some (.cells #[.bool true,.slice a2 n2 k2] 25) from ae HW1.out.drew HX2.out))).2⟩)
 have so:∀(W:World) (k:Nat) (u:Value) (k':Nat),(W.setCell ⟨w.heap.size+1+1,k,none⟩ u).cell? ⟨w.heap.size,k',none⟩=W.cell? ⟨w.heap.size,k',none⟩:=fun W k u k'=>aB (by omega)
 have so2:∀(W:World) (k:Nat) (u:Value) (k':Nat),(W.setCell ⟨w.heap.size+1+1,k,none⟩ u).cell? ⟨w.heap.size+1,k',none⟩=W.cell? ⟨w.heap.size+1,k',none⟩:=fun W k u k'=>aB (by omega)
 clear hw1 c0 c1 d0 d1
 go_region_held3 (fun w'=>w'.cell? ⟨w.heap.size,0,none⟩=some (.bool false)∧w'.cell? ⟨w.heap.size,1,none⟩=some (.slice a1 n1 k1)∧w'.cell? ⟨w.heap.size+1,0,none⟩=some (.bool true)∧w'.cell? ⟨w.heap.size+1,1,none⟩=some (.slice a2 n2 k2)) (first|with_reducible exact KS.out _ g2|with_reducible exact KS.out _ g1|with_reducible exact KS.out _ g0 | (refine⟨?_,?_,?_,?_⟩ <;> (first|rw [so,so] | rw [so2,so2]) <;> first|exact (KS.out _ g2).1|exact (KS.out _ g2).2.1|exact (KS.out _ g2).2.2.1|exact (KS.out _ g2).2.2.2)) (first
  | (go_at_call 95;refine E1.mono ?_;rintro e' t1 ⟨⟨v1,rfl,y1⟩,hb1⟩;have g1:=ah g0 hb1;obtain⟨r1,x1,x2,x3⟩:=y1;obtain⟨a1,c1,rfl⟩:=x1.shape)
  | (go_at_call 67;refine (cT true _ r1 w1.drew.heap.size t1 _ zv HZ.out x1 x2 x3).mono ?_;rintro e' t2 ⟨rfl,hb2⟩;have g2:=ah g1 hb2;have hz3:=ae g2 (show w1.drew.heap[w.heap.size+1+1]?=some (.cells #[.bool false,.slice none 0 0] 25) from ae HW1.out.drew H1.out);have hf:=bT hz3;obtain⟨m0,m1'⟩:=duo hz3))
 have hw0s:=Nat.le_trans HB0.out.size HW1.out.size
 have T1:TN t2 w.heap.size (.slice a1 r1.length c1) zv.natAbs:=⟨r1,(x1.below hb2).base hw0s,by rw [HZA.out];exact x2,x3⟩
 have T2:=(T1.offT (g:=w.heap.size+1+1) (o:=0) (u:=.bool (decide (zv<0))) hz3 (by decide)).offT (g:=w.heap.size+1+1) (o:=1) (u:=.slice a1 r1.length c1) (aj hz3 _) (by decide)
 have T3:=cf (a':=.bool (decide (zv<0))) (b':=.slice a1 r1.length c1) hz3
 have T4:=bS (u0:=.bool (decide (zv<0))) (u1:=.slice a1 r1.length c1) (ah (ah HB0.out (show Below w0.heap.size w0 w1.drew from HW1.out.drew)) g2) (show w.heap.size≤w.heap.size+1+1 by omega)
 have HE:=ac (And.intro T2 T4)
 obtain⟨p0,p1⟩:=duo T3
 clear T1 T2 T3 T4 so so2 hz3 hf m0 m1' x1 x2 x3 hb1 hb2 g0 g1 g2 KS E1
 generalize (t2.setCell ⟨w.heap.size+1+1,0,none⟩ (.bool (decide (zv<0)))).setCell ⟨w.heap.size+1+1,1,none⟩ (.slice a1 r1.length c1)=w5 at *
 go_wp2
 refine bodyPost_ret (v:=.agg #[.bool (decide (zv<0)),.slice a1 r1.length c1]) (by simp [results,Tryz.results59,go_sem,p0,p1]) rfl ?_
 exact⟨⟨_,_,_,rfl,HE.out.1⟩,HE.out.2⟩

theorem mc (v1 v2:Value)(x y:Nat)(w:World)(hA:Nn w v1 x)(hB:Nn w v2 y)(hlt:¬x<y) :
  Calls Tryz.prog 59 #[.agg #[.bool false,v1],.agg #[.bool true,v2]] w (RfW w (zz false (x - y))):=by
 obtain⟨a1,n1,k1,rfl⟩:=hA.form
 obtain⟨a2,n2,k2,rfl⟩:=hB.form
 obtain⟨w0,hw0,hb0,h0,h1,h2⟩:=aZ w (.cells #[.bool false,.slice a1 n1 k1] 25) (.cells #[.bool true,.slice a2 n2 k2] 25) (.cells #[.bool false,.slice none 0 0] 25)
 have H1:=ac h2
 have HX1:=ac h0
 have HX2:=ac h1
 have HB0:=ac hb0
 have HA:=ac (hA.below hb0)
 have HB:=ac (hB.below hb0)
 obtain⟨c0,c1⟩:=duo h0
 obtain⟨d0,d1⟩:=duo h1
 clear hA hB h0 h1 h2 hb0
 have HLT:=ac hlt
 have HC:=dQ _ _ x y w0 HA.out HB.out
 obtain⟨cc,hcc,hc0⟩:∃cc:Int,cmpN x y=cc∧¬cc<0:=⟨_,rfl,by unfold cmpN;rw [if_neg hlt];split <;> omega⟩
 rw [hcc] at HC
 clear hlt hcc
 have HZA:=ac (aM false (x-y))
 obtain⟨zv,hzv⟩:∃zv,zz false (x-y)=zv:=⟨_,rfl⟩
 rw [hzv] at HZA ⊢
 have HZ:=ac hzv
 clear hzv
 go_enter Tryz.func59,Tryz.ntmps59
 go_wp2_with fail
 refine HC.mono ?_
 rintro e w1 ⟨rfl,hbs⟩
 have HW1:=ac hbs
 clear hbs HC
 go_wp2
 have hw1:=ae HW1.out H1.out
 have g0:Below w1.drew.heap.size w1.drew w1.drew:=Below.refl _ _
 have E1:=jA _ _ x y w1.drew (HA.out.below HW1.out.drew) (HB.out.below HW1.out.drew) HLT.out
 have KS:=ac (fun (W:World) (hg:Below w1.drew.heap.size w1.drew W)=>show W.cell? ⟨w.heap.size,0,none⟩=some (.bool false)∧W.cell? ⟨w.heap.size,1,none⟩=some (.slice a1 n1 k1)∧W.cell? ⟨w.heap.size+1,0,none⟩=some (.bool true)∧W.cell? ⟨w.heap.size+1,1,none⟩=some (.slice a2 n2 k2) from
  ⟨(duo (ae hg (show w1.drew.heap[w.heap.size]?=some (.cells #[.bool false,.slice a1 n1 k1] 25) from ae HW1.out.drew HX1.out))).1,(duo (ae hg (show w1.drew.heap[w.heap.size]?=some (.cells #[.bool false,.slice a1 n1 k1] 25) from ae HW1.out.drew HX1.out))).2,(duo (ae hg (show w1.drew.heap[w.heap.size+1]?=some (.cells #[.bool true,.slice a2 n2 k2] 25) from ae HW1.out.drew HX2.out))).1,(duo (ae hg (show w1.drew.heap[w.heap.size+1]?=some (.cells #[.bool true,.slice a2 n2 k2] 25) from ae HW1.out.drew HX2.out))).2⟩)
 have so:∀(W:World) (k:Nat) (u:Value) (k':Nat),(W.setCell ⟨w.heap.size+1+1,k,none⟩ u).cell? ⟨w.heap.size,k',none⟩=W.cell? ⟨w.heap.size,k',none⟩:=fun W k u k'=>aB (by omega)
 have so2:∀(W:World) (k:Nat) (u:Value) (k':Nat),(W.setCell ⟨w.heap.size+1+1,k,none⟩ u).cell? ⟨w.heap.size+1,k',none⟩=W.cell? ⟨w.heap.size+1,k',none⟩:=fun W k u k'=>aB (by omega)
 clear hw1 c0 c1 d0 d1
 go_region_held3 (fun w'=>w'.cell? ⟨w.heap.size,0,none⟩=some (.bool false)∧w'.cell? ⟨w.heap.size,1,none⟩=some (.slice a1 n1 k1)∧w'.cell? ⟨w.heap.size+1,0,none⟩=some (.bool true)∧w'.cell? ⟨w.heap.size+1,1,none⟩=some (.slice a2 n2 k2)) (first|with_reducible exact KS.out _ g2|with_reducible exact KS.out _ g1|with_reducible exact KS.out _ g0 | (refine⟨?_,?_,?_,?_⟩ <;> (first|rw [so,so] | rw [so2,so2]) <;> first|exact (KS.out _ g2).1|exact (KS.out _ g2).2.1|exact (KS.out _ g2).2.2.1|exact (KS.out _ g2).2.2.2)) (first
  | (go_at_call 95;refine E1.mono ?_;rintro e' t1 ⟨⟨v1,rfl,y1⟩,hb1⟩;have g1:=ah g0 hb1;obtain⟨r1,x1,x2,x3⟩:=y1;obtain⟨a1,c1,rfl⟩:=x1.shape)
  | (go_at_call 67;refine (cT false _ r1 w1.drew.heap.size t1 _ zv HZ.out x1 x2 x3).mono ?_;rintro e' t2 ⟨rfl,hb2⟩;have g2:=ah g1 hb2;have hz3:=ae g2 (show w1.drew.heap[w.heap.size+1+1]?=some (.cells #[.bool false,.slice none 0 0] 25) from ae HW1.out.drew H1.out);have hf:=bT hz3;obtain⟨m0,m1'⟩:=duo hz3))
 have hw0s:=Nat.le_trans HB0.out.size HW1.out.size
 have T1:TN t2 w.heap.size (.slice a1 r1.length c1) zv.natAbs:=⟨r1,(x1.below hb2).base hw0s,by rw [HZA.out];exact x2,x3⟩
 have T2:=(T1.offT (g:=w.heap.size+1+1) (o:=0) (u:=.bool (decide (zv<0))) hz3 (by decide)).offT (g:=w.heap.size+1+1) (o:=1) (u:=.slice a1 r1.length c1) (aj hz3 _) (by decide)
 have T3:=cf (a':=.bool (decide (zv<0))) (b':=.slice a1 r1.length c1) hz3
 have T4:=bS (u0:=.bool (decide (zv<0))) (u1:=.slice a1 r1.length c1) (ah (ah HB0.out (show Below w0.heap.size w0 w1.drew from HW1.out.drew)) g2) (show w.heap.size≤w.heap.size+1+1 by omega)
 have HE:=ac (And.intro T2 T4)
 obtain⟨p0,p1⟩:=duo T3
 clear T1 T2 T3 T4 so so2 hz3 hf m0 m1' x1 x2 x3 hb1 hb2 g0 g1 g2 KS E1
 generalize (t2.setCell ⟨w.heap.size+1+1,0,none⟩ (.bool (decide (zv<0)))).setCell ⟨w.heap.size+1+1,1,none⟩ (.slice a1 r1.length c1)=w5 at *
 go_wp2
 refine bodyPost_ret (v:=.agg #[.bool (decide (zv<0)),.slice a1 r1.length c1]) (by simp [results,Tryz.results59,go_sem,p0,p1]) rfl ?_
 exact⟨⟨_,_,_,rfl,HE.out.1⟩,HE.out.2⟩

theorem mQ (b1 b2:Bool)(v1 v2:Value)(x y:Nat)(w:World)(hA:Nn w v1 x)(hB:Nn w v2 y) :
  Calls Tryz.prog 59 #[.agg #[.bool b1,v1],.agg #[.bool b2,v2]] w (RfW w (zz b1 x+zz b2 y)):=by
 have hsame:∀b,Calls Tryz.prog 59 #[.agg #[.bool b,v1],.agg #[.bool b,v2]] w (RfW w (zz b x+zz b y)):=fun b=>by
  rw [mC]
  exact kI b v1 v2 x y w hA hB
 cases b1 <;> cases b2
 ·exact hsame false
 ·by_cases h:x<y
  ·have e:zz false x+zz true y=zz true (y - x):=by simp [zz];omega
   rw [e]
   exact oN v1 v2 x y w hA hB h
  ·have e:zz false x+zz true y=zz false (x - y):=by simp [zz];omega
   rw [e]
   exact mc v1 v2 x y w hA hB h
 ·by_cases h:x<y
  ·have e:zz true x+zz false y=zz false (y - x):=by simp [zz];omega
   rw [e]
   exact ny v1 v2 x y w hA hB h
  ·have e:zz true x+zz false y=zz true (x - y):=by simp [zz];omega
   rw [e]
   exact rh v1 v2 x y w hA hB h
 ·exact hsame true

theorem bP (v:Value)(x:Nat)(w:World)(h:Nn w v x):Calls Tryz.prog 55 #[v] w fun e w'=>e=.returned (.bool (decide (x=0)))∧w'=w:=by
 obtain⟨X,hA,rfl,fX⟩:=h
 exact dn v X w hA

theorem cJ (v:Value)(x:Nat)(w:World)(h:Nn w v x):Calls Tryz.prog 64 #[v] w fun e w'=>e=.returned (.int .i64 ((blen x:Nat):Int))∧w'=w:=by
 obtain⟨X,hA,rfl,fX⟩:=h
 exact aK v X w hA

def Qn (w:World)(v1 v2:Value)(x d:Nat):Prop:=Nn w v1 x∧Nn w v2 d∧d≠0

theorem Qn.below {w w':World}{v1 v2:Value}{x d:Nat}(h:Qn w v1 v2 x d)(hb:Below w.heap.size w w'):Qn w' v1 v2 x d:=⟨h.1.below hb,h.2.1.below hb,h.2.2⟩

theorem f7 (L:Nat)(b1 b2:Bool)(u1 y1 u2 y2:Value)(x1 d1 x2 d2:Nat)(w:World)(h1:Qn w u1 y1 x1 d1)(h2:Qn w u2 y2 x2 d2)(hL:w.heap[L]?=some (.cells #[.bool b1,u1,y1,.bool b2,u2,y2] 27)) :
  Calls Tryz.prog 25 #[.slice (some ⟨L,0,none⟩) 2 2] w fun e w'=>e=.returned (.tuple #[])∧Below w.heap.size w w':=by
 obtain⟨a1,m1,n1,rfl⟩:=h1.1.form
 obtain⟨a2,m2,n2,rfl⟩:=h1.2.1.form
 obtain⟨a3,m3,n3,rfl⟩:=h2.1.form
 obtain⟨a4,m4,n4,rfl⟩:=h2.2.1.form
 have cel:∀(W:World),W.heap[L]?=some (.cells #[.bool b1,.slice a1 m1 n1,.slice a2 m2 n2,.bool b2,.slice a3 m3 n3,.slice a4 m4 n4] 27)→(W.cell? ⟨L,0,none⟩=some (.bool b1)∧W.cell? ⟨L,1,none⟩=some (.slice a1 m1 n1)∧W.cell? ⟨L,2,none⟩=some (.slice a2 m2 n2)∧W.cell? ⟨L,3,none⟩=some (.bool b2)∧W.cell? ⟨L,4,none⟩=some (.slice a3 m3 n3)∧W.cell? ⟨L,5,none⟩=some (.slice a4 m4 n4)):=fun W h=>⟨by simp [World.cell?,h],by simp [World.cell?,h],by simp [World.cell?,h],by simp [World.cell?,h],by simp [World.cell?,h],by simp [World.cell?,h]⟩
 obtain⟨w1,hw1,hb1,k1⟩:=an w (.cells #[.bool b1,.slice a1 m1 n1,.slice a2 m2 n2] 27)
 obtain⟨w2,hw2,hb2,k2⟩:=an w1 (.cells #[.bool b2,.slice a3 m3 n3,.slice a4 m4 n4] 27)
 have g2:=ah hb1 hb2
 have Z1:=bP _ d1 w1 (h1.2.1.below hb1)
 have Z2:=bP _ d2 w2 (h2.2.1.below g2)
 rw [decide_eq_false h1.2.2] at Z1
 rw [decide_eq_false h2.2.2] at Z2
 have R1:=bR 70 w1
 have R2:=bR 70 w2
 obtain⟨c0,c1,c2,_⟩:=cel w hL
 obtain⟨_,_,_,c3,c4,c5⟩:=cel w1 (ae hb1 hL)
 obtain⟨d0,d1,d2⟩:=tri k1
 obtain⟨e0,e1,e2⟩:=tri k2
 have HB0:=ac g2
 clear h1 h2 hL cel hb1 hb2 g2 k1 k2
 go_enter Tryz.func25,Tryz.ntmps25
 go_wp2
 refine wp_loop_rounds 3 ?_
 rw [rounds_succ]
 go_wp2_with fail
 refine Z1.mono ?_
 rintro e wn ⟨rfl,hw⟩;rw [hw];clear hw wn Z1
 go_wp2_with fail
 refine R1.mono ?_
 rintro e wn ⟨rfl,hw⟩;rw [hw];clear hw wn R1
 go_wp2
 rw [rounds_succ]
 go_wp2_with fail
 refine Z2.mono ?_
 rintro e wn ⟨rfl,hw⟩;rw [hw];clear hw wn Z2
 go_wp2_with fail
 refine R2.mono ?_
 rintro e wn ⟨rfl,hw⟩;rw [hw];clear hw wn R2
 go_wp2
 rw [rounds_succ]
 go_wp2
 go_end0
 exact⟨rfl,HB0.out⟩

theorem oA (L:Nat)(b1 b2 b3:Bool)(u1 y1 u2 y2 u3 y3:Value)(x1 d1 x2 d2 x3 d3:Nat)(w:World)(h1:Qn w u1 y1 x1 d1)(h2:Qn w u2 y2 x2 d2)(h3:Qn w u3 y3 x3 d3)(hL:w.heap[L]?=some (.cells #[.bool b1,u1,y1,.bool b2,u2,y2,.bool b3,u3,y3] 27)) :
  Calls Tryz.prog 25 #[.slice (some ⟨L,0,none⟩) 3 3] w fun e w'=>e=.returned (.tuple #[])∧Below w.heap.size w w':=by
 obtain⟨a1,m1,n1,rfl⟩:=h1.1.form
 obtain⟨a2,m2,n2,rfl⟩:=h1.2.1.form
 obtain⟨a3,m3,n3,rfl⟩:=h2.1.form
 obtain⟨a4,m4,n4,rfl⟩:=h2.2.1.form
 obtain⟨a5,m5,n5,rfl⟩:=h3.1.form
 obtain⟨a6,m6,n6,rfl⟩:=h3.2.1.form
 have cel:∀(W:World),W.heap[L]?=some (.cells #[.bool b1,.slice a1 m1 n1,.slice a2 m2 n2,.bool b2,.slice a3 m3 n3,.slice a4 m4 n4,.bool b3,.slice a5 m5 n5,.slice a6 m6 n6] 27)→(W.cell? ⟨L,0,none⟩=some (.bool b1)∧W.cell? ⟨L,1,none⟩=some (.slice a1 m1 n1)∧W.cell? ⟨L,2,none⟩=some (.slice a2 m2 n2)∧W.cell? ⟨L,3,none⟩=some (.bool b2)∧W.cell? ⟨L,4,none⟩=some (.slice a3 m3 n3)∧W.cell? ⟨L,5,none⟩=some (.slice a4 m4 n4)∧W.cell? ⟨L,6,none⟩=some (.bool b3)∧W.cell? ⟨L,7,none⟩=some (.slice a5 m5 n5)∧W.cell? ⟨L,8,none⟩=some (.slice a6 m6 n6)):=fun W h=>⟨by simp [World.cell?,h],by simp [World.cell?,h],by simp [World.cell?,h],by simp [World.cell?,h],by simp [World.cell?,h],by simp [World.cell?,h],by simp [World.cell?,h],by simp [World.cell?,h],by simp [World.cell?,h]⟩
 obtain⟨w1,hw1,hb1,k1⟩:=an w (.cells #[.bool b1,.slice a1 m1 n1,.slice a2 m2 n2] 27)
 obtain⟨w2,hw2,hb2,k2⟩:=an w1 (.cells #[.bool b2,.slice a3 m3 n3,.slice a4 m4 n4] 27)
 obtain⟨w3,hw3,hb3,k3⟩:=an w2 (.cells #[.bool b3,.slice a5 m5 n5,.slice a6 m6 n6] 27)
 have g2:=ah hb1 hb2
 have g3:=ah g2 hb3
 have Z1:=bP _ d1 w1 (h1.2.1.below hb1)
 have Z2:=bP _ d2 w2 (h2.2.1.below g2)
 have Z3:=bP _ d3 w3 (h3.2.1.below g3)
 rw [decide_eq_false h1.2.2] at Z1
 rw [decide_eq_false h2.2.2] at Z2
 rw [decide_eq_false h3.2.2] at Z3
 have R1:=bR 70 w1
 have R2:=bR 70 w2
 have R3:=bR 70 w3
 obtain⟨c0,c1,c2,_⟩:=cel w hL
 obtain⟨_,_,_,c3,c4,c5,_⟩:=cel w1 (ae hb1 hL)
 obtain⟨_,_,_,_,_,_,c6,c7,c8⟩:=cel w2 (ae g2 hL)
 obtain⟨d0,d1,d2⟩:=tri k1
 obtain⟨e0,e1,e2⟩:=tri k2
 obtain⟨f0,f1,f2⟩:=tri k3
 have HB0:=ac g3
 clear h1 h2 h3 hL cel hb1 hb2 hb3 g2 g3 k1 k2 k3
 go_enter Tryz.func25,Tryz.ntmps25
 go_wp2
 refine wp_loop_rounds 4 ?_
 rw [rounds_succ]
 go_wp2_with fail
 refine Z1.mono ?_
 rintro e wn ⟨rfl,hw⟩;rw [hw];clear hw wn Z1
 go_wp2_with fail
 refine R1.mono ?_
 rintro e wn ⟨rfl,hw⟩;rw [hw];clear hw wn R1
 go_wp2
 rw [rounds_succ]
 go_wp2_with fail
 refine Z2.mono ?_
 rintro e wn ⟨rfl,hw⟩;rw [hw];clear hw wn Z2
 go_wp2_with fail
 refine R2.mono ?_
 rintro e wn ⟨rfl,hw⟩;rw [hw];clear hw wn R2
 go_wp2
 rw [rounds_succ]
 go_wp2_with fail
 refine Z3.mono ?_
 rintro e wn ⟨rfl,hw⟩;rw [hw];clear hw wn Z3
 go_wp2_with fail
 refine R3.mono ?_
 rintro e wn ⟨rfl,hw⟩;rw [hw];clear hw wn R3
 go_wp2
 rw [rounds_succ]
 go_wp2
 go_end0
 exact⟨rfl,HB0.out⟩

theorem jm:blen 0≤67108864:=by
 have:blen 0≤0:=(blen_le_iff _ _).2 (by decide)
 omega

theorem pq (b:Bool)(v1 v2 v3:Value)(x y g:Nat)(w:World)(hA:Nn w v1 x)(hB:Nn w v2 y)(hC:Nn w v3 g)(hT:Tab w)(hg:g≠0)(h1:g ∣ x)(h2:g ∣ y)(q1:blen x≤67108864)(q2:blen y≤67108864) :
  Calls Tryz.prog 61 #[.agg #[.bool b,v1],v2,v3] w (aD w (zz b (x / g)) (y / g)):=by
 obtain⟨X,hA,rfl,fX⟩:=hA
 obtain⟨Y,hB,rfl,fY⟩:=hB
 obtain⟨Z,hC,rfl,fZ⟩:=hC
 obtain⟨tz,htz⟩:∃Z',Arg w v3 Z'∧val Z'=val Z∧Z'.length≤17592186043904:=⟨Z,hC,rfl,fZ⟩
 exact jf b v1 v2 v3 X Y Z w hA hB hC hT (by omega) (by omega) (by omega) hg (Nat.le_trans (aH (Nat.div_le_self _ _)) q1) (by rw [Nat.mod_eq_zero_of_dvd h1];exact jm) (Nat.le_trans (aH (Nat.div_le_self _ _)) q2) (by rw [Nat.mod_eq_zero_of_dvd h2];exact jm)

theorem iZ (b:Bool)(v1 v2:Value)(x y:Nat)(w:World)(hA:Nn w v1 x)(hB:Nn w v2 y)(hT:Tab w)(hy:y≠0)(q1:blen x≤67108864)(q2:blen y≤67108864) :
  Calls Tryz.prog 56 #[.agg #[.bool b,v1],v2] w (aD w (zz b (x / Nat.gcd x y)) (y / Nat.gcd x y)):=by
 obtain⟨X,hA,rfl,fX⟩:=hA
 obtain⟨Y,hB,rfl,fY⟩:=hB
 exact gf b v1 v2 X Y w hA hB hT (by omega) (by omega) hy (Nat.le_trans (aH (Nat.div_le_self _ _)) q1) (Nat.le_trans (aH (Nat.div_le_self _ _)) q2)

theorem lF (b:Bool)(v1 v2:Value)(x y:Nat)(w:World)(hA:Nn w v1 x)(hB:Nn w v2 y)(q1:blen x≤67108864)(q2:blen y≤67108864) :
  Calls Tryz.prog 62 #[.agg #[.bool b,v1,v2]] w fun e w'=>e=.returned (.agg #[.bool b,v1,v2])∧Below w.heap.size w w':=by
 obtain⟨X,hA,rfl,fX⟩:=hA
 obtain⟨Y,hB,rfl,fY⟩:=hB
 exact jS b v1 v2 X Y w hA hB q1 q2

theorem bs {W0 W:World}(h:Below W0.heap.size W0 W)(o:Obj):Below W0.heap.size W0 (W.alloc o):=h.alloc h.size _

theorem bk {W0 W:World}(h:Below W0.heap.size W0 W):Below W0.heap.size W0 W.drew:=h.drew

theorem dG {W t:World}{o:Obj}(h:Below (W.alloc o).heap.size (W.alloc o) t):t.heap[W.heap.size]?=some o:=ae h (heap_alloc_new W o)

theorem jU {W t:World}{o:Obj}(h:Below (W.alloc o).drew.heap.size (W.alloc o).drew t):t.heap[W.heap.size]?=some o:=ae h (show (W.alloc o).drew.heap[W.heap.size]?=some o from heap_alloc_new W o)

theorem TN.lt {w:World}{base:Nat}{v:Value}{x:Nat}(h:TN w base v x):∀g,v.ownBlock=some g→g<w.heap.size:=by
 obtain⟨rs,h1,_⟩:=h
 exact fun g hg=>(h1.own.lt g hg).2

def f9 (U:World)(z:Int)(s:Value)(wx:World):Prop:=
 ∃(g:Nat) (a:Option Addr) (n k:Nat),s=.pointer (some ⟨g,0,none⟩)∧wx.heap[g]?=some (.cells #[.bool (decide (z<0)),.slice a n k] 25)∧(∃base,TN wx base (.slice a n k) z.natAbs)∧Below U.heap.size U wx

theorem lg {U t:World}{z:Int}{a:Option Addr}{n k base:Nat}(h:TN t base (.slice a n k) z.natAbs)(g:Below U.heap.size U t):f9 U z (.pointer (some ⟨t.heap.size,0,none⟩)) (t.alloc (.cells #[.bool (decide (z<0)),.slice a n k] 25)):=
 ⟨_,a,n,k,rfl,heap_alloc_new _ _,⟨base,h.below (aQ _ _)⟩,bs g _⟩

theorem gQ {U t:World}{z:Int}{a:Option Addr}{n k base gg:Nat}(hq:t.heap[gg]?=some q9)(hge:U.heap.size≤gg)(h:TN t base (.slice a n k) z.natAbs)(g:Below U.heap.size U t):f9 U z (.pointer (some ⟨gg,0,none⟩)) ((t.setCell ⟨gg,0,none⟩ (.bool (decide (z<0)))).setCell ⟨gg,1,none⟩ (.slice a n k)):=
 ⟨_,a,n,k,rfl,cf hq,⟨base,(h.offT hq (by decide)).offT (aj hq _) (by decide)⟩,bS g hge⟩

abbrev gk:Obj:=.cells #[.bool false,.slice none 0 0,.slice none 0 0] 27

def gz (U:World)(z:Int)(d:Nat)(s:Value)(wx:World):Prop:=
 ∃(g:Nat) (b:Bool) (a1:Option Addr) (n1 k1:Nat) (a2:Option Addr) (n2 k2:Nat),s=.pointer (some ⟨g,0,none⟩)∧U.heap.size≤g∧wx.heap[g]?=some (.cells #[.bool b,.slice a1 n1 k1,.slice a2 n2 k2] 27)∧TR wx U.heap.size b (.slice a1 n1 k1) (.slice a2 n2 k2) z d∧Below U.heap.size U wx

theorem mu {U t:World}{z:Int}{d:Nat}{b:Bool}{a1:Option Addr}{n1 k1:Nat}{a2:Option Addr}{n2 k2 base:Nat}(h:TR t base b (.slice a1 n1 k1) (.slice a2 n2 k2) z d)(hb:U.heap.size≤base)(g:Below U.heap.size U t):gz U z d (.pointer (some ⟨t.heap.size,0,none⟩)) (t.alloc (.cells #[.bool b,.slice a1 n1 k1,.slice a2 n2 k2] 27)):=
 ⟨_,b,a1,n1,k1,a2,n2,k2,rfl,g.size,heap_alloc_new _ _,(h.base hb).below (aQ _ _),bs g _⟩

theorem iR {U t:World}{z:Int}{d:Nat}{b:Bool}{a1:Option Addr}{n1 k1:Nat}{a2:Option Addr}{n2 k2 base gg:Nat}(hq:t.heap[gg]?=some gk)(hge:U.heap.size≤gg)(h:TR t base b (.slice a1 n1 k1) (.slice a2 n2 k2) z d)(hb:U.heap.size≤base)(g:Below U.heap.size U t):gz U z d (.pointer (some ⟨gg,0,none⟩)) (((t.setCell ⟨gg,0,none⟩ (.bool b)).setCell ⟨gg,1,none⟩ (.slice a1 n1 k1)).setCell ⟨gg,2,none⟩ (.slice a2 n2 k2)):=
 ⟨_,b,a1,n1,k1,a2,n2,k2,rfl,hge,aG hq,(h.base hb).tri hq,aF g hge⟩

def jd (w:World)(z1:Int)(e1:Nat)(z2:Int)(e2:Nat)(wx:World):Prop:=
 ∃(b1:Bool) (a1:Option Addr) (n1 k1:Nat) (a2:Option Addr) (n2 k2:Nat) (b2:Bool) (a3:Option Addr) (n3 k3:Nat) (a4:Option Addr) (n4 k4:Nat),wx.heap[w.heap.size]?=some (.cells #[.bool b1,.slice a1 n1 k1,.slice a2 n2 k2] 27)∧wx.heap[w.heap.size+1]?=some (.cells #[.bool b2,.slice a3 n3 k3,.slice a4 n4 k4] 27)∧wx.heap[w.heap.size+1+1]?=some gk∧(∃base,TR wx base b1 (.slice a1 n1 k1) (.slice a2 n2 k2) z1 e1)∧(∃base,TR wx base b2 (.slice a3 n3 k3) (.slice a4 n4 k4) z2 e2)∧Below w.heap.size w wx

theorem qj {w t:World}{z1:Int}{e1:Nat}{z2:Int}{e2:Nat}{b1:Bool}{a1:Option Addr}{n1 k1:Nat}{a2:Option Addr}{n2 k2:Nat}{b2:Bool}{a3:Option Addr}{n3 k3:Nat}{a4:Option Addr}{n4 k4 base base':Nat}{p1 p2 p3 p4 p5 p6:Value}
  (h1:t.heap[w.heap.size]?=some (.cells #[p1,p2,p3] 27)) (h2:t.heap[w.heap.size+1]?=some (.cells #[p4,p5,p6] 27)) (h3:t.heap[w.heap.size+1+1]?=some gk) (y1:TR t base b1 (.slice a1 n1 k1) (.slice a2 n2 k2) z1 e1) (y2:TR t base' b2 (.slice a3 n3 k3) (.slice a4 n4 k4) z2 e2) (hb:Below w.heap.size w t) :
  jd w z1 e1 z2 e2 ((((((t.setCell ⟨w.heap.size,0,none⟩ (.bool b1)).setCell ⟨w.heap.size,1,none⟩ (.slice a1 n1 k1)).setCell ⟨w.heap.size,2,none⟩ (.slice a2 n2 k2)).setCell ⟨w.heap.size+1,0,none⟩ (.bool b2)).setCell ⟨w.heap.size+1,1,none⟩ (.slice a3 n3 k3)).setCell ⟨w.heap.size+1,2,none⟩ (.slice a4 n4 k4)):=by
 have q1:=aG (u0:=.bool b1) (u1:=.slice a1 n1 k1) (u2:=.slice a2 n2 k2) h1
 have o1:∀(W:World) (u0 u1 u2:Value) (g:Nat),g≠w.heap.size→(((W.setCell ⟨w.heap.size,0,none⟩ u0).setCell ⟨w.heap.size,1,none⟩ u1).setCell ⟨w.heap.size,2,none⟩ u2).heap[g]?=W.heap[g]?:=fun W u0 u1 u2 g hg=>by
  rw [Below.heap_setCell _ _ _ _ hg,Below.heap_setCell _ _ _ _ hg,Below.heap_setCell _ _ _ _ hg]
 have o2:∀(W:World) (u0 u1 u2:Value) (g:Nat),g≠w.heap.size+1→(((W.setCell ⟨w.heap.size+1,0,none⟩ u0).setCell ⟨w.heap.size+1,1,none⟩ u1).setCell ⟨w.heap.size+1,2,none⟩ u2).heap[g]?=W.heap[g]?:=fun W u0 u1 u2 g hg=>by
  rw [Below.heap_setCell _ _ _ _ hg,Below.heap_setCell _ _ _ _ hg,Below.heap_setCell _ _ _ _ hg]
 have q2:(((t.setCell ⟨w.heap.size,0,none⟩ (.bool b1)).setCell ⟨w.heap.size,1,none⟩ (.slice a1 n1 k1)).setCell ⟨w.heap.size,2,none⟩ (.slice a2 n2 k2)).heap[w.heap.size+1]?=some (.cells #[p4,p5,p6] 27):=by rw [o1 _ _ _ _ _ (by omega)];exact h2
 refine⟨b1,a1,n1,k1,a2,n2,k2,b2,a3,n3,k3,a4,n4,k4,?_,aG q2,?_,⟨base,?_⟩,⟨base',?_⟩,?_⟩
 ·rw [o2 _ _ _ _ _ (by omega)];exact q1
 ·rw [o2 _ _ _ _ _ (by omega),o1 _ _ _ _ _ (by omega)];exact h3
 ·exact (((((y1.offT h1 (by decide)).offT (aj h1 _) (by decide)).offT (aj (aj h1 _) _) (by decide)).offT q2 (by decide)).offT (aj q2 _) (by decide)).offT (aj (aj q2 _) _) (by decide)
 ·exact (((((y2.offT h1 (by decide)).offT (aj h1 _) (by decide)).offT (aj (aj h1 _) _) (by decide)).offT q2 (by decide)).offT (aj q2 _) (by decide)).offT (aj (aj q2 _) _) (by decide)
 ·exact aF (aF hb (Nat.le_refl _)) (by omega)
end Go.Proofs.YtgnmgbbokcpppaaGreatDoor
namespace Go.Proofs.YtgnmgbbokcpppaaGreatDoor

theorem cN (x y d:Int)(h:x*d=y*d)(hd:d≠0):x=y:=Int.eq_of_mul_eq_mul_right hd h

theorem me {za zb zc zab zbc zx zy da db dc dab dbc dx dy:Int}(ha:da≠0)(hb:db≠0)(hc:dc≠0)(hab:dab≠0)(hbc:dbc≠0)
  (e1:zab*(da*db)=(za*db+zb*da)*dab) (e2:zx*(dab*dc)=(zab*dc+zc*dab)*dx)
  (e3:zbc*(db*dc)=(zb*dc+zc*db)*dbc) (e4:zy*(da*dbc)=(za*dbc+zbc*da)*dy):zx*dy=zy*dx:=by
 have f1:zx*(da*db*dc)=(za*db*dc+zb*da*dc+zc*da*db)*dx:=by
  refine cN _ _ dab ?_ hab
  grind
 have f2:zy*(da*db*dc)=(za*db*dc+zb*da*dc+zc*da*db)*dy:=by
  refine cN _ _ dbc ?_ hbc
  grind
 have hD:da*db*dc≠0:=Int.mul_ne_zero (Int.mul_ne_zero ha hb) hc
 refine cN _ _ (da*db*dc) ?_ hD
 grind

theorem pF {za zb zc zbc zp zq zr zs da db dc dbc dp dq dr ds:Int}(ha:da≠0)(hb:db≠0)(hc:dc≠0)(hbc:dbc≠0)(hq:dq≠0)(hr:dr≠0)
  (e3:zbc*(db*dc)=(zb*dc+zc*db)*dbc) (e4:zp*(da*dbc)=za*zbc*dp) (e5:zq*(da*db)=za*zb*dq) (e6:zr*(da*dc)=za*zc*dr) (e7:zs*(dq*dr)=(zq*dr+zr*dq)*ds):zp*ds=zs*dp:=by
 have f1:zp*(da*db*dc)=za*(zb*dc+zc*db)*dp:=by
  refine cN _ _ dbc ?_ hbc
  grind
 have f2:zs*(da*db*dc)=za*(zb*dc+zc*db)*ds:=by
  refine cN _ _ (dq*dr) ?_ (Int.mul_ne_zero hq hr)
  have g1:zq*(da*db*dc)=za*zb*dq*dc:=by grind
  have g2:zr*(da*db*dc)=za*zc*dr*db:=by grind
  grind
 have hD:da*db*dc≠0:=Int.mul_ne_zero (Int.mul_ne_zero ha hb) hc
 refine cN _ _ (da*db*dc) ?_ hD
 grind

theorem qP {za zb zq zu da db dq du:Int}(hb:db≠0)(hzb:zb≠0)(hq:dq≠0)(e5:zq*(da*db)=za*zb*dq)(e8:zu*(dq*zb)=zq*db*du):zu*da=za*du:=by
 refine cN _ _ (dq*zb*db) ?_ (Int.mul_ne_zero (Int.mul_ne_zero hq hzb) hb)
 grind

theorem mE {za zb zc zac zbc da db dc dac dbc:Int}
  (e1:zac*(da*dc)=(za*dc+zc*da)*dac) (e2:zbc*(db*dc)=(zb*dc+zc*db)*dbc):(zac*dbc - zbc*dac)*(da*db*dc)=(za*db - zb*da)*(dac*dbc*dc):=by
 grind

theorem qN {x y s t:Int}(hs:0<s)(ht:0<t)(h:x*s=y*t):(x<0 ↔ y<0)∧(x=0 ↔ y=0):=by
 have key:∀ {x s:Int},0<s→(x<0 ↔ x*s<0)∧(x=0 ↔ x*s=0):=by
  intro x s hs
  constructor
  ·constructor
   ·intro h;exact Int.mul_neg_of_neg_of_pos h hs
   ·intro h
    rcases Int.lt_or_le x 0 with h2|h2
    ·exact h2
    ·have:=Int.mul_nonneg h2 (Int.le_of_lt hs);omega
  ·constructor
   ·intro h;rw [h,Int.zero_mul]
   ·intro h
    rcases Int.mul_eq_zero.1 h with h|h
    ·exact h
    ·omega
 have a1:=key (x:=x) hs
 have b1:=key (x:=y) ht
 rw [h] at a1
 exact⟨a1.1.trans b1.1.symm,a1.2.trans b1.2.symm⟩

def aw (x y:Int):Int:=if x<y then -1 else if y<x then 1 else 0

theorem mH {x y s t:Int}(hs:0<s)(ht:0<t){a b c d:Int}(e1:x=a - b)(e2:y=c - d)(h:x*s=y*t):aw a b=aw c d:=by
 obtain⟨h1,h2⟩:=qN hs ht h
 unfold aw
 by_cases ha:a<b
 ·rw [if_pos ha,if_pos (show c<d by omega)]
 ·rw [if_neg ha,if_neg (show ¬c<d by omega)]
  by_cases hb:b<a
  ·rw [if_pos hb,if_pos (show d<c by omega)]
  ·rw [if_neg hb,if_neg (show ¬d<c by omega)]

theorem fu (b:Bool)(x d g:Nat)(h1:g ∣ x)(h2:g ∣ d):zz b (x / g)*(d:Int)=zz b x*((d / g:Nat):Int):=by
 obtain⟨p,rfl⟩:=h1
 obtain⟨q,rfl⟩:=h2
 rcases Nat.eq_zero_or_pos g with rfl|hg
 ·simp [zz]
 ·rw [Nat.mul_div_cancel_left _ hg,Nat.mul_div_cancel_left _ hg]
  cases b <;> simp [zz] <;> grind

theorem mr {z1 z2:Int}{d1 d2:Nat}{p1 p2:Int}{e1 e2 s o1 o2 g f:Nat}{num z:Int}(hd1:e1≠0)(hd2:e2≠0)
  (l1:p1*(d1:Int)=z1*(e1:Int)) (l2:p2*(d2:Int)=z2*(e2:Int)) (ho1:e1=s*o1) (ho2:e2=s*o2) (hnum:num=p1*(o2:Int)+p2*(o1:Int)) (hz:num=z*(g:Int)) (hf:e2=g*f) :
  z*((d1:Int)*(d2:Int))=(z1*(d2:Int)+z2*(d1:Int))*((o1*f:Nat):Int):=by
 have k1:(e1:Int)=s*o1:=by rw [ho1];exact Int.natCast_mul _ _
 have k2:(e2:Int)=s*o2:=by rw [ho2];exact Int.natCast_mul _ _
 have k3:(e2:Int)=g*f:=by rw [hf];exact Int.natCast_mul _ _
 have k4:((o1*f:Nat):Int)=o1*f:=Int.natCast_mul _ _
 have n1:(e1:Int)≠0:=by omega
 have n2:(e2:Int)≠0:=by omega
 rw [k4]
 generalize (e1:Int)=E1 at *
 generalize (e2:Int)=E2 at *
 generalize (d1:Int)=D1 at *
 generalize (d2:Int)=D2 at *
 generalize (s:Int)=S at *
 generalize (o1:Int)=O1 at *
 generalize (o2:Int)=O2 at *
 generalize (g:Int)=G at *
 generalize (f:Int)=F at *
 have i1:z*(E1*E2)=(p1*E2+p2*E1)*(O1*F):=by grind
 refine cN _ _ (E1*E2) ?_ (Int.mul_ne_zero n1 n2)
 have i2:p1*E2*(D1*D2)=z1*E1*E2*D2:=by grind
 have i3:p2*E1*(D1*D2)=z2*E2*E1*D1:=by grind
 grind
end Go.Proofs.YtgnmgbbokcpppaaGreatDoor
namespace Go.Proofs.YtgnmgbbokcpppaaGreatDoor
open Go.RowKit
open Lm
attribute [local go_sem ↓] Go.wp_at_zero Go.wp_at_succ

theorem aO {W t:World}{g:Nat}{a b c:Value}{ty:TypeId}(hb:Below W.heap.size W t)(h:W.heap[g]?=some (.cells #[a,b,c] ty)):t.cell? ⟨g,0,none⟩=some a∧t.cell? ⟨g,1,none⟩=some b∧t.cell? ⟨g,2,none⟩=some c:=tri (ae hb h)

theorem ri {W t:World}{g:Nat}{a b:Value}{ty:TypeId}(hb:Below W.heap.size W t)(h:W.heap[g]?=some (.cells #[a,b] ty)):t.cell? ⟨g,0,none⟩=some a∧t.cell? ⟨g,1,none⟩=some b:=duo (ae hb h)

structure fC (b1:Bool)(x1 d1:Nat)(b2:Bool)(x2 d2:Nat)(p1 p2:Int)(e1 e2 s o1 o2:Nat)(num:Int)(g:Nat)(z:Int)(f:Nat):Prop where
 ip1:p1=zz b1 (x1 / Nat.gcd x1 d1)
 ip2:p2=zz b2 (x2 / Nat.gcd x2 d2)
 ie1:e1=d1 / Nat.gcd x1 d1
 ie2:e2=d2 / Nat.gcd x2 d2
 is:s=Nat.gcd e1 e2
 io1:o1=e1 / s
 io2:o2=e2 / s
 inum:num=zz (decide (p1<0)) (p1.natAbs*o2)+zz (decide (p2<0)) (p2.natAbs*o1)
 ig:g=Nat.gcd num.natAbs s
 iz:z=zz (decide (num<0)) (num.natAbs / g)
 iF:f=e2 / g

theorem pt (b1:Bool)(x1 d1:Nat)(b2:Bool)(x2 d2:Nat):∃p1 p2 e1 e2 s o1 o2 num g z f,fC b1 x1 d1 b2 x2 d2 p1 p2 e1 e2 s o1 o2 num g z f:=
 ⟨_,_,_,_,_,_,_,_,_,_,_,rfl,rfl,rfl,rfl,rfl,rfl,rfl,rfl,rfl,rfl,rfl⟩

theorem ks (x y:Nat):blen (x+y)≤max (blen x) (blen y)+1:=by
 refine (blen_le_iff _ _).2 ?_
 have h1:=(blen_le_iff x _).1 (Nat.le_refl _)
 have h2:=(blen_le_iff y _).1 (Nat.le_refl _)
 have h3:2 ^ blen x≤2 ^ max (blen x) (blen y):=Nat.pow_le_pow_right (by omega) (by omega)
 have h4:2 ^ blen y≤2 ^ max (blen x) (blen y):=Nat.pow_le_pow_right (by omega) (by omega)
 rw [Nat.pow_succ]
 omega

theorem fg (b:Bool)(x n:Nat):zz b x*(n:Int)=zz b (x*n):=by
 cases b <;> simp [zz,Int.neg_mul]

theorem iM (p:Int)(n:Nat):zz (decide (p<0)) (p.natAbs*n)=p*(n:Int):=by
 rw [←fg,cV]

structure pg (b1:Bool)(x1 d1:Nat)(b2:Bool)(x2 d2 M1 M2:Nat)(p1 p2:Int)(e1 e2 s o1 o2:Nat)(num:Int)(g:Nat)(z:Int)(f:Nat):Prop where
 te1:e1≠0
 te2:e2≠0
 ts:s≠0
 ts1:s ∣ e1
 ts2:s ∣ e2
 tg:g≠0
 tgn:g ∣ num.natAbs
 tge:g ∣ e2
 tbp1:blen p1.natAbs≤M1
 tbe1:blen e1≤M1
 tbp2:blen p2.natAbs≤M2
 tbe2:blen e2≤M2
 tbo1:blen o1≤M1
 tbo2:blen o2≤M2
 tbm1:blen (p1.natAbs*o2)≤M1+M2
 tbm2:blen (p2.natAbs*o1)≤M1+M2
 tbn:blen num.natAbs≤M1+M2+1
 tbz:blen z.natAbs≤M1+M2+1
 tbf:blen f≤M2
 tbd:blen (o1*f)≤M1+M2
 tdd:o1*f≠0
 teq:z*((d1:Int)*(d2:Int))=(zz b1 x1*(d2:Int)+zz b2 x2*(d1:Int))*((o1*f:Nat):Int)

theorem jE {b1:Bool}{x1 d1:Nat}{b2:Bool}{x2 d2 M1 M2:Nat}{p1 p2:Int}{e1 e2 s o1 o2:Nat}{num:Int}{g:Nat}{z:Int}{f:Nat}(h:fC b1 x1 d1 b2 x2 d2 p1 p2 e1 e2 s o1 o2 num g z f)(hd1:d1≠0)(hd2:d2≠0)(hx1:blen x1≤M1)(hm1:blen d1≤M1)(hx2:blen x2≤M2)(hm2:blen d2≤M2):pg b1 x1 d1 b2 x2 d2 M1 M2 p1 p2 e1 e2 s o1 o2 num g z f:=by
 obtain⟨r1,r2,r3,r4,r5,r6,r7,r8,r9,r10,r11⟩:=h
 have g1:Nat.gcd x1 d1 ∣ d1:=Nat.gcd_dvd_right _ _
 have g2:Nat.gcd x2 d2 ∣ d2:=Nat.gcd_dvd_right _ _
 have he1:e1≠0:=by rw [r3];exact fun h=>hd1 (by have:=Nat.div_mul_cancel g1;rw [h,Nat.zero_mul] at this;exact this.symm)
 have he2:e2≠0:=by rw [r4];exact fun h=>hd2 (by have:=Nat.div_mul_cancel g2;rw [h,Nat.zero_mul] at this;exact this.symm)
 have hs0:s≠0:=by rw [r5];exact fun h=>he2 (Nat.eq_zero_of_gcd_eq_zero_right h)
 have hs1:s ∣ e1:=by rw [r5];exact Nat.gcd_dvd_left _ _
 have hs2:s ∣ e2:=by rw [r5];exact Nat.gcd_dvd_right _ _
 have hg0:g≠0:=by rw [r9];exact fun h=>hs0 (Nat.eq_zero_of_gcd_eq_zero_right h)
 have hgn:g ∣ num.natAbs:=by rw [r9];exact Nat.gcd_dvd_left _ _
 have hge:g ∣ e2:=Nat.dvd_trans (by rw [r9];exact Nat.gcd_dvd_right _ _) hs2
 have q1:s*o1=e1:=by rw [r6];exact Nat.mul_div_cancel' hs1
 have q2:s*o2=e2:=by rw [r7];exact Nat.mul_div_cancel' hs2
 have q3:g*f=e2:=by rw [r11];exact Nat.mul_div_cancel' hge
 have hf0:f≠0:=fun h=>he2 (by rw [←q3,h,Nat.mul_zero])
 have ho0:o1≠0:=fun h=>he1 (by rw [←q1,h,Nat.mul_zero])
 have bp1:blen p1.natAbs≤M1:=by rw [r1,aM];exact Nat.le_trans (aH (Nat.div_le_self _ _)) hx1
 have bp2:blen p2.natAbs≤M2:=by rw [r2,aM];exact Nat.le_trans (aH (Nat.div_le_self _ _)) hx2
 have be1:blen e1≤M1:=by rw [r3];exact Nat.le_trans (aH (Nat.div_le_self _ _)) hm1
 have be2:blen e2≤M2:=by rw [r4];exact Nat.le_trans (aH (Nat.div_le_self _ _)) hm2
 have bo1:blen o1≤M1:=by rw [r6];exact Nat.le_trans (aH (Nat.div_le_self _ _)) be1
 have bo2:blen o2≤M2:=by rw [r7];exact Nat.le_trans (aH (Nat.div_le_self _ _)) be2
 have bf:blen f≤M2:=by rw [r11];exact Nat.le_trans (aH (Nat.div_le_self _ _)) be2
 have bm1:blen (p1.natAbs*o2)≤M1+M2:=Nat.le_trans (bI _ _) (by omega)
 have bm2:blen (p2.natAbs*o1)≤M1+M2:=Nat.le_trans (bI _ _) (by omega)
 have bn:blen num.natAbs≤M1+M2+1:=by
  have k1:num.natAbs≤p1.natAbs*o2+p2.natAbs*o1:=by
   have a1:=aM (decide (p1<0)) (p1.natAbs*o2)
   have a2:=aM (decide (p2<0)) (p2.natAbs*o1)
   rw [r8]
   omega
  have k2:=aH k1
  have k3:=ks (p1.natAbs*o2) (p2.natAbs*o1)
  omega
 have hzn:num=z*(g:Int):=by
  rw [r10,fg,Nat.div_mul_cancel hgn,cV]
 have bz:blen z.natAbs≤M1+M2+1:=by rw [r10,aM];exact Nat.le_trans (aH (Nat.div_le_self _ _)) bn
 refine⟨he1,he2,hs0,hs1,hs2,hg0,hgn,hge,bp1,be1,bp2,be2,bo1,bo2,bm1,bm2,bn,bz,bf,Nat.le_trans (bI _ _) (by omega),Nat.mul_ne_zero ho0 hf0,?_⟩
 have l1:p1*(d1:Int)=zz b1 x1*(e1:Int):=by rw [r1,r3];exact fu _ _ _ _ (Nat.gcd_dvd_left _ _) g1
 have l2:p2*(d2:Int)=zz b2 x2*(e2:Int):=by rw [r2,r4];exact fu _ _ _ _ (Nat.gcd_dvd_left _ _) g2
 exact mr he1 he2 l1 l2 q1.symm q2.symm (by rw [r8,iM,iM]) hzn q3.symm

theorem kT {b1:Bool}{x1 d1:Nat}{b2:Bool}{x2 d2 M1 M2:Nat}{p1 p2:Int}{e1 e2 s o1 o2:Nat}{num:Int}{g:Nat}{z:Int}{f:Nat}(hN:fC b1 x1 d1 b2 x2 d2 p1 p2 e1 e2 s o1 o2 num g z f)(v1 v2 v3 v4:Value)(w:World)(hA:Qn w v1 v2 x1 d1)(hB:Qn w v3 v4 x2 d2)(hT:Tab w)(hx1:blen x1≤M1)(hm1:blen d1≤M1)(hx2:blen x2≤M2)(hm2:blen d2≤M2)(hM:M1+M2≤60000000) :
  Calls Tryz.prog 26 #[.agg #[.bool b1,v1,v2],.agg #[.bool b2,v3,v4]] w (aD w z (o1*f)):=by
 have hF:=jE hN hA.2.2 hB.2.2 hx1 hm1 hx2 hm2
 obtain⟨a1,n1,k1,rfl⟩:=hA.1.form
 obtain⟨a2,n2,k2,rfl⟩:=hA.2.1.form
 obtain⟨a3,n3,k3,rfl⟩:=hB.1.form
 obtain⟨a4,n4,k4,rfl⟩:=hB.2.1.form
 obtain⟨w0,hw0,hb0,h0,h1,h2⟩:=aZ w (.cells #[.bool b1,.slice a1 n1 k1,.slice a2 n2 k2] 27) (.cells #[.bool b2,.slice a3 n3 k3,.slice a4 n4 k4] 27) (.cells #[.bool false,.slice none 0 0,.slice none 0 0] 27)
 have HN:=ac hN
 have HF:=ac hF
 have HM:=ac hM
 have KL1:=ac (fun (W:World) (hg:Below w0.heap.size w0 W)=>show Calls Tryz.prog 56 #[.agg #[.bool b1,.slice a1 n1 k1],.slice a2 n2 k2] W (aD W p1 e1) by
  rw [hN.ip1,hN.ie1];exact iZ b1 _ _ x1 d1 W ((hA.below hb0).below hg).1 ((hA.below hb0).below hg).2.1 ((hT.below hb0).below hg) hA.2.2 (by omega) (by omega))
 have KL2:=ac (fun (W:World) (hg:Below w0.heap.size w0 W)=>show Calls Tryz.prog 56 #[.agg #[.bool b2,.slice a3 n3 k3],.slice a4 n4 k4] W (aD W p2 e2) by
  rw [hN.ip2,hN.ie2];exact iZ b2 _ _ x2 d2 W ((hB.below hb0).below hg).1 ((hB.below hb0).below hg).2.1 ((hT.below hb0).below hg) hB.2.2 (by omega) (by omega))
 have HT:=ac hT
 have HB0:=ac hb0
 have H0:=ac h0
 have H1:=ac h1
 have H2:=ac h2
 have g0:Below w0.heap.size w0 w0.drew:=bk (Below.refl _ _)
 clear hA hB hT hN hF hx1 hm1 hx2 hm2 hM h0 h1 h2 hb0
 go_enter Tryz.func26,Tryz.ntmps26
 go_upto_region 1 with fail
 go_cut [4] from 10 to 19 (fun sv wx=>sv=.pointer (some ⟨w.heap.size+1+1,0,none⟩)∧jd w p1 e1 p2 e2 wx)
 case first=>
  clear hw0
  obtain⟨c0,c1,c2⟩:=aO g0 H0.out
  obtain⟨c3,c4,c5⟩:=aO g0 H1.out
  go_region_with (first
   | (go_at_call_of 56 a3;refine (KL2.out _ g1).mono ?_;rintro e' t2 ⟨⟨q2,y3,m3,l3,y4,m4,l4,rfl,r2⟩,hb2⟩;have g2:=ah g1 hb2;clear c0 c1 c2 c3 c4 c5;obtain⟨c0,c1,c2⟩:=aO g2 H0.out;obtain⟨c3,c4,c5⟩:=aO g2 H1.out;have f1:=aE (ae g2 H0.out);have f2:=aE (ae g2 H1.out))
   | (go_at_call_of 56 a1;refine (KL1.out _ g0).mono ?_;rintro e' t1 ⟨⟨q1,y1,m1,l1,y2,m2,l2,rfl,r1⟩,hb1⟩;have g1:=ah g0 hb1;clear c0 c1 c2 c3 c4 c5;obtain⟨c0,c1,c2⟩:=aO g1 H0.out;obtain⟨c3,c4,c5⟩:=aO g1 H1.out))
  all_goals
   have HC:=ac (qj (ae g2 H0.out) (ae g2 H1.out) (ae g2 H2.out) (r1.below hb2) r2 (HB0.out.trans (g2.mono HB0.out.size)))
   clear c0 c1 c2 c3 c4 c5 f1 f2 r1 r2 hb1 hb2 g0 g1 g2 KL1 KL2 H0 H1 H2
   go_wp2_with fail
   go_meet
   exact⟨rfl,HC.out⟩
 case rest=>
  obtain⟨rfl,q1,y1,m1,l1,y2,m2,l2,q2,y3,m3,l3,y4,m4,l4,h0,h1,h2,⟨ba1,z1,t1,mid1,_,_,t2⟩,⟨ba2,z2,t3,mid2,_,_,t4⟩,hbc⟩:=hcut
  clear KL1 KL2 H0 H1 H2 g0 hw0
  subst z1
  subst z2
  have HP1:=ac (t1.nn (by have:=HF.out.tbp1;have:=HM.out;omega))
  have HE1:=ac (t2.nn (by have:=HF.out.tbe1;have:=HM.out;omega))
  have HP2:=ac (t3.nn (by have:=HF.out.tbp2;have:=HM.out;omega))
  have HE2:=ac (t4.nn (by have:=HF.out.tbe2;have:=HM.out;omega))
  replace HT:=ac (HT.out.below hbc)
  have HX0:=ac h0
  have HX1:=ac h1
  have HX2:=ac h2
  have HBC:=ac hbc
  obtain⟨c0,c1,c2⟩:=tri h0
  obtain⟨c3,c4,c5⟩:=tri h1
  have C:=i8 _ _ e1 e2 wc HE1.out HE2.out HT.out
  rw [←HN.out.is] at C
  clear h0 h1 h2 hbc t1 t2 t3 t4
  go_wp2_with fail
  refine C.mono ?_
  rintro e w5 ⟨⟨v5,rfl,t5⟩,hb5⟩
  obtain⟨a5,n5,k5,rfl⟩:=t5.form
  have HS5:=ac (t5.nn (by have:=aH (Nat.le_of_dvd (Nat.pos_of_ne_zero HF.out.te1) HF.out.ts1);have:=HF.out.tbe1;have:=HM.out;omega))
  have HG5:=ac hb5
  clear C t5 hb5 c0 c1 c2 c3 c4 c5
  have K1:=ac (fun (W:World) (hg:Below w5.heap.size w5 W)=>show Calls Tryz.prog 58 #[.slice y2 m2 l2,.slice a5 n5 k5] W (RfN W o1) by
   rw [HN.out.io1];exact jk _ _ e1 s W (HE1.out.below (ah HG5.out hg)) (HS5.out.below hg) (HT.out.below (ah HG5.out hg)) HF.out.ts HF.out.ts1 (by have:=HF.out.tbe1;have:=HM.out;omega))
  have K2:=ac (fun (W:World) (hg:Below w5.heap.size w5 W)=>show Calls Tryz.prog 58 #[.slice y4 m4 l4,.slice a5 n5 k5] W (RfN W o2) by
   rw [HN.out.io2];exact jk _ _ e2 s W (HE2.out.below (ah HG5.out hg)) (HS5.out.below hg) (HT.out.below (ah HG5.out hg)) HF.out.ts HF.out.ts2 (by have:=HF.out.tbe2;have:=HM.out;omega))
  have KS:=ac (fun (W:World) (hg:Below w5.heap.size w5 W)=>show (W.cell? ⟨w.heap.size,0,none⟩=some (.bool (decide (p1<0)))∧W.cell? ⟨w.heap.size,1,none⟩=some (.slice y1 m1 l1)∧W.cell? ⟨w.heap.size,2,none⟩=some (.slice y2 m2 l2))∧W.cell? ⟨w.heap.size+1,0,none⟩=some (.bool (decide (p2<0)))∧W.cell? ⟨w.heap.size+1,1,none⟩=some (.slice y3 m3 l3)∧W.cell? ⟨w.heap.size+1,2,none⟩=some (.slice y4 m4 l4) from ⟨aO (ah HG5.out hg) HX0.out,aO (ah HG5.out hg) HX1.out⟩)
  have g0:Below w5.heap.size w5 w5.drew:=bk (Below.refl _ _)
  go_upto_region 3 with fail
  go_region_held3 (fun w'=>(w'.cell? ⟨w.heap.size,0,none⟩=some (.bool (decide (p1<0)))∧w'.cell? ⟨w.heap.size,1,none⟩=some (.slice y1 m1 l1)∧w'.cell? ⟨w.heap.size,2,none⟩=some (.slice y2 m2 l2))∧w'.cell? ⟨w.heap.size+1,0,none⟩=some (.bool (decide (p2<0)))∧w'.cell? ⟨w.heap.size+1,1,none⟩=some (.slice y3 m3 l3)∧w'.cell? ⟨w.heap.size+1,2,none⟩=some (.slice y4 m4 l4)) (first|with_reducible exact KS.out _ g2|with_reducible exact KS.out _ g1|with_reducible exact KS.out _ g0) (first
   | (go_at_call_of 58 y4;refine (K2.out _ g1).mono ?_;rintro e' t2 ⟨⟨v7,rfl,r7⟩,hb2⟩;have g2:=ah g1 hb2;obtain⟨a7,n7,k7,rfl⟩:=r7.form)
   | (go_at_call_of 58 y2;refine (K1.out _ g0).mono ?_;rintro e' t1 ⟨⟨v6,rfl,r6⟩,hb1⟩;have g1:=ah g0 hb1;obtain⟨a6,n6,k6,rfl⟩:=r6.form))
  have HO1:=ac ((r6.nn (by have:=HF.out.tbo1;have:=HM.out;omega)).below hb2)
  have HO2:=ac (r7.nn (by have:=HF.out.tbo2;have:=HM.out;omega))
  have HG2:=ac (ah HG5.out g2)
  have HS2:=ac (HS5.out.below g2)
  clear K1 K2 KS HG5 HS5 r6 r7 hb1 hb2 g0 g1 g2
  have HU2:=ac (Below.refl t2.heap.size t2)
  have KT1:=ac (fun (W:World) (hg:Below t2.heap.size t2 W)=>iO (decide (p1<0)) _ _ p1.natAbs o2 W (HP1.out.below (ah HG2.out hg)) (HO2.out.below hg) (HT.out.below (ah HG2.out hg)) (by have:=HF.out.tbm1;have:=HM.out;omega))
  have KT2:=ac (fun (W:World) (hg:Below t2.heap.size t2 W)=>iO (decide (p2<0)) _ _ p2.natAbs o1 W (HP2.out.below (ah HG2.out hg)) (HO1.out.below hg) (HT.out.below (ah HG2.out hg)) (by have:=HF.out.tbm2;have:=HM.out;omega))
  obtain⟨c1,hc1⟩:∃c,zz (decide (p1<0)) (p1.natAbs*o2)=c:=⟨_,rfl⟩
  obtain⟨c2,hc2⟩:∃c,zz (decide (p2<0)) (p2.natAbs*o1)=c:=⟨_,rfl⟩
  have HC1:=ac (show blen c1.natAbs≤67108864 by rw [←hc1,aM];have:=HF.out.tbm1;have:=HM.out;omega)
  have HC2:=ac (show blen c2.natAbs≤67108864 by rw [←hc2,aM];have:=HF.out.tbm2;have:=HM.out;omega)
  have HNUM:=ac (show num=c1+c2 by rw [HN.out.inum,hc1,hc2])
  rw [hc1] at KT1
  rw [hc2] at KT2
  have KP:=ac (fun (W:World) (v v':Value) (h1:Nn W v c1.natAbs) (h2:Nn W v' c2.natAbs)=>show Calls Tryz.prog 59 #[.agg #[.bool (decide (c1<0)),v],.agg #[.bool (decide (c2<0)),v']] W (RfW W num) by
   have h:=mQ (decide (c1<0)) (decide (c2<0)) v v' c1.natAbs c2.natAbs W h1 h2
   rw [cV,cV,←HNUM.out] at h
   exact h)
  have KS:=ac (fun (W:World) (hg:Below t2.heap.size t2 W)=>show (W.cell? ⟨w.heap.size,0,none⟩=some (.bool (decide (p1<0)))∧W.cell? ⟨w.heap.size,1,none⟩=some (.slice y1 m1 l1)∧W.cell? ⟨w.heap.size,2,none⟩=some (.slice y2 m2 l2))∧W.cell? ⟨w.heap.size+1,0,none⟩=some (.bool (decide (p2<0)))∧W.cell? ⟨w.heap.size+1,1,none⟩=some (.slice y3 m3 l3)∧W.cell? ⟨w.heap.size+1,2,none⟩=some (.slice y4 m4 l4) from ⟨aO (ah HG2.out hg) HX0.out,aO (ah HG2.out hg) HX1.out⟩)
  clear hc1 hc2
  go_upto_region 4 with fail
  go_cut [8] from 33 to 41 (fun sv wx=>f9 t2 num sv wx)
  case first=>
   go_region_held3 (fun w'=>(w'.cell? ⟨w.heap.size,0,none⟩=some (.bool (decide (p1<0)))∧w'.cell? ⟨w.heap.size,1,none⟩=some (.slice y1 m1 l1)∧w'.cell? ⟨w.heap.size,2,none⟩=some (.slice y2 m2 l2))∧w'.cell? ⟨w.heap.size+1,0,none⟩=some (.bool (decide (p2<0)))∧w'.cell? ⟨w.heap.size+1,1,none⟩=some (.slice y3 m3 l3)∧w'.cell? ⟨w.heap.size+1,2,none⟩=some (.slice y4 m4 l4)) (first | (refine KS.out _ ?_;repeat (first|with_reducible assumption|with_reducible exact Below.refl _ _|with_reducible apply bs|with_reducible apply bk | (with_reducible refine bS ?_ (by omega))))) (first
    | (go_at_call 59;refine (KP.out _ _ _ (by first|with_reducible exact N1|with_reducible exact N1.below (aQ _ _)) (by first|with_reducible exact N2|with_reducible exact N2.below (aQ _ _))).mono ?_;rintro e' u3 ⟨⟨a10,n10,k10,rfl,r10⟩,hb3⟩;have g3:Below t2.heap.size t2 u3:=ah (by repeat (first|with_reducible exact g2|with_reducible apply bs)) hb3;have hle2:=g2.size;have hle1:=g1.size;(first | (with_reducible have z3:=ae hb3 z2;obtain⟨z30,z31⟩:=duo z3;have z3f:=bT z3) | (with_reducible have z4:=dG hb3;obtain⟨z40,z41⟩:=duo z4;have z4f:=bT z4) | skip))
    | (go_at_call_of 60 y3;refine (KT2.out _ (by repeat (first|with_reducible exact g1|with_reducible apply bs))).mono ?_;rintro e' u2 ⟨⟨a9,n9,k9,rfl,r9⟩,hb2⟩;have g2:Below t2.heap.size t2 u2:=ah (by repeat (first|with_reducible exact g1|with_reducible apply bs)) hb2;(first | (with_reducible have z2:=ae hb2 z1) | (with_reducible have z2:=dG hb2) | skip);have N2:=r9.nn HC2.out;have N1:=M1'.below (show Below u1.heap.size u1 u2 from by first|with_reducible exact hb2|exact (aQ _ _).trans (hb2.mono (aQ _ _).size)))
    | (go_at_call_of 60 y1;refine (KT1.out _ (by repeat (first|with_reducible exact Below.refl _ _|with_reducible apply bs|with_reducible apply bk))).mono ?_;rintro e' u1 ⟨⟨a8,n8,k8,rfl,r8⟩,hb1⟩;have g1:Below t2.heap.size t2 u1:=ah (by repeat (first|with_reducible exact Below.refl _ _|with_reducible apply bs|with_reducible apply bk)) hb1;(first | (with_reducible have z1:=jU hb1) | (with_reducible have z1:=dG hb1) | skip);have M1':=r8.nn HC1.out))
   all_goals (go_wp2_with fail;go_meet;first
    | with_reducible exact lg r10 g3
    | with_reducible exact gQ z3 (by omega) r10 g3
    | with_reducible exact gQ z4 (by omega) r10 g3)
  case rest=>
   obtain⟨g8,a8,n8,k8,rfl,h8,⟨base8,r8⟩,hb8⟩:=hcut
   have HN8:=ac (r8.nn (by have:=HF.out.tbn;have:=HM.out;omega))
   have HX8:=ac h8
   have HG8:=ac (ah HG2.out hb8)
   replace HO1:=ac (HO1.out.below hb8)
   replace HS2:=ac (HS2.out.below hb8)
   clear KT1 KT2 KP KS HG2 h8 hb8 r8
   have HE28:=ac (HE2.out.below HG8.out)
   have HT8:=ac (HT.out.below HG8.out)
   have KG:=ac (fun (W:World) (hg:Below wc.heap.size wc W)=>show Calls Tryz.prog 57 #[.slice a8 n8 k8,.slice a5 n5 k5] W (RfN W g) by
    rw [HN.out.ig];exact i8 _ _ num.natAbs s W (HN8.out.below hg) (HS2.out.below hg) (HT8.out.below hg))
   have KW:=ac (fun (W:World) (v:Value) (hg:Below wc.heap.size wc W) (hv:Nn W v g)=>show Calls Tryz.prog 61 #[.agg #[.bool (decide (num<0)),.slice a8 n8 k8],.slice y4 m4 l4,v] W (aD W z f) by
    rw [HN.out.iz,HN.out.iF];exact pq (decide (num<0)) _ _ v num.natAbs e2 g W (HN8.out.below hg) (HE28.out.below hg) hv (HT8.out.below hg) HF.out.tg HF.out.tgn HF.out.tge (by have:=HF.out.tbn;have:=HM.out;omega) (by have:=HF.out.tbe2;have:=HM.out;omega))
   have HGB:=ac (show blen g≤67108864 by have:=aH (Nat.le_of_dvd (Nat.pos_of_ne_zero HF.out.te2) HF.out.tge);have:=HF.out.tbe2;have:=HM.out;omega)
   have KS:=ac (fun (W:World) (hg:Below wc.heap.size wc W)=>show (W.cell? ⟨g8,0,none⟩=some (.bool (decide (num<0)))∧W.cell? ⟨g8,1,none⟩=some (.slice a8 n8 k8))∧W.cell? ⟨w.heap.size+1,0,none⟩=some (.bool (decide (p2<0)))∧W.cell? ⟨w.heap.size+1,1,none⟩=some (.slice y3 m3 l3)∧W.cell? ⟨w.heap.size+1,2,none⟩=some (.slice y4 m4 l4) from ⟨ri hg HX8.out,aO (ah HG8.out hg) HX1.out⟩)
   go_upto_region 5 with fail
   go_cut [9] from 42 to 49 (fun sv wx=>gz wc z f sv wx)
   case first=>
    go_region_held3 (fun w'=>(w'.cell? ⟨g8,0,none⟩=some (.bool (decide (num<0)))∧w'.cell? ⟨g8,1,none⟩=some (.slice a8 n8 k8))∧w'.cell? ⟨w.heap.size+1,0,none⟩=some (.bool (decide (p2<0)))∧w'.cell? ⟨w.heap.size+1,1,none⟩=some (.slice y3 m3 l3)∧w'.cell? ⟨w.heap.size+1,2,none⟩=some (.slice y4 m4 l4)) (first | (refine KS.out _ ?_;repeat (first|with_reducible assumption|with_reducible exact Below.refl _ _|with_reducible apply bs|with_reducible apply bk | (with_reducible refine aF ?_ (by omega))))) (first
     | (go_at_call 61;refine (KW.out _ _ (by repeat (first|with_reducible exact g1|with_reducible apply bs)) (by first|with_reducible exact N1|with_reducible exact N1.below (aQ _ _))).mono ?_;rintro e' u3 ⟨⟨b10,a10,n10,k10,a11,n11,k11,rfl,r10⟩,hb3⟩;have g3:Below wc.heap.size wc u3:=ah (by repeat (first|with_reducible exact g1|with_reducible apply bs)) hb3;have hle1:=g1.size;(first | (with_reducible have z3:=ae hb3 z1;obtain⟨z30,z31,z32⟩:=tri z3;have z3f:=aE z3) | (with_reducible have z4:=dG hb3;obtain⟨z40,z41,z42⟩:=tri z4;have z4f:=aE z4) | skip))
     | (go_at_call 57;refine (KG.out _ (by repeat (first|with_reducible exact Below.refl _ _|with_reducible apply bs|with_reducible apply bk))).mono ?_;rintro e' u1 ⟨⟨v9,rfl,r9⟩,hb1⟩;have g1:Below wc.heap.size wc u1:=ah (by repeat (first|with_reducible exact Below.refl _ _|with_reducible apply bs|with_reducible apply bk)) hb1;(first | (with_reducible have z1:=jU hb1) | (with_reducible have z1:=dG hb1) | skip);obtain⟨a9,n9,k9,rfl⟩:=r9.form;have N1:=r9.nn HGB.out))
    all_goals (go_wp2_with fail;go_meet;first
     | with_reducible exact mu r10 (by first|exact hle1|exact Nat.le_trans hle1 (aQ _ _).size) g3
     | with_reducible exact iR z3 (by omega) r10 (by first|exact hle1|exact Nat.le_trans hle1 (aQ _ _).size) g3
     | with_reducible exact iR z4 (by omega) r10 (by first|exact hle1|exact Nat.le_trans hle1 (aQ _ _).size) g3)
   case rest=>
    obtain⟨g9,b9,y5,m5,l5,y6,m6,l6,rfl,hge9,h9,⟨sg9,t5,mid9,_,hm9,t6⟩,hb9⟩:=hcut
    have HN5:=ac (t5.nn (by have:=HF.out.tbz;have:=HM.out;omega))
    have HN6:=ac (t6.nn (by have:=HF.out.tbf;have:=HM.out;omega))
    have HG9:=ac (ah HG8.out hb9)
    replace HO1:=ac ((HO1.out.below hb9))
    have HX9:=ac h9
    have HXR:=ac (ae HG9.out HX2.out)
    have hlt:=lt_of_block (ae HG8.out HX2.out)
    have hne:¬w.heap.size+1+1=g9:=by omega
    have HT9:=ac (HT.out.below HG9.out)
    have HTN:=ac (show TN wc w.heap.size (.slice y5 m5 l5) z.natAbs from t5.base (by omega))
    have HSG:=ac sg9
    have HBW:=ac (show Below w.heap.size w wc from ah HBC.out HG9.out)
    clear KG KW KS hb9 h9 t5 t6 hm9 hlt hge9 sg9
    have KR:=ac (fun (W:World) (hg:Below wc.heap.size wc W)=>dl _ _ o1 f W (HO1.out.below hg) (HN6.out.below hg) (HT9.out.below hg) (by have:=HF.out.tbd;have:=HM.out;omega))
    have KF:=ac (fun (W:World) (v:Value) (hg:Below wc.heap.size wc W) (hv:Nn W v (o1*f))=>lF b9 _ v z.natAbs (o1*f) W (HN5.out.below hg) hv (by have:=HF.out.tbz;have:=HM.out;omega) (by have:=HF.out.tbd;have:=HM.out;omega))
    have KS:=ac (fun (W:World) (hg:Below wc.heap.size wc W)=>show W.cell? ⟨g9,0,none⟩=some (.bool b9)∧W.cell? ⟨g9,1,none⟩=some (.slice y5 m5 l5)∧W.cell? ⟨g9,2,none⟩=some (.slice y6 m6 l6) from aO hg HX9.out)
    have so:∀(W:World) (k:Nat) (u:Value) (k':Nat),(W.setCell ⟨w.heap.size+1+1,k,none⟩ u).cell? ⟨g9,k',none⟩=W.cell? ⟨g9,k',none⟩:=fun W k u k'=>aB hne
    have g0:Below wc.heap.size wc wc.drew:=bk (Below.refl _ _)
    clear hne
    go_upto_region 6 with fail
    go_region_held3 (fun w'=>w'.cell? ⟨g9,0,none⟩=some (.bool b9)∧w'.cell? ⟨g9,1,none⟩=some (.slice y5 m5 l5)∧w'.cell? ⟨g9,2,none⟩=some (.slice y6 m6 l6)) (first|with_reducible exact KS.out _ g2|with_reducible exact KS.out _ g1|with_reducible exact KS.out _ g0 | (refine⟨?_,?_,?_⟩ <;> (rw [so,so,so];first|exact (KS.out _ g2).1|exact (KS.out _ g2).2.1|exact (KS.out _ g2).2.2))) (first
     | (go_at_call 62;refine (KF.out _ _ g1 N1).mono ?_;rintro e' u2 ⟨rfl,hb2⟩;have g2:=ah g1 hb2;have hz3:=ae g2 HXR.out;have hf:=aE hz3;obtain⟨m0,m1',m2'⟩:=tri hz3)
     | (go_at_call 63;refine (KR.out _ g0).mono ?_;rintro e' u1 ⟨⟨v11,rfl,r11⟩,hb1⟩;have g1:=ah g0 hb1;obtain⟨a11,n11,k11,rfl⟩:=r11.form;have N1:=r11.nn (by have:=HF.out.tbd;have:=HM.out;omega)))
    have T1:TR u2 w.heap.size b9 (.slice y5 m5 l5) (.slice a11 n11 k11) z (o1*f):=
     ⟨HSG.out,HTN.out.below g2,wc.drew.heap.size,Nat.le_trans HBW.out.size g0.size,fun gg hgg=>Nat.lt_of_lt_of_le (HTN.out.lt gg hgg) g0.size,r11.below hb2⟩
    have T2:=T1.tri (u0:=.bool b9) (u1:=.slice y5 m5 l5) (u2:=.slice a11 n11 k11) hz3
    have T3:=aG (u0:=.bool b9) (u1:=.slice y5 m5 l5) (u2:=.slice a11 n11 k11) hz3
    have T4:=aF (u0:=.bool b9) (u1:=.slice y5 m5 l5) (u2:=.slice a11 n11 k11) (ah HBW.out g2) (show w.heap.size≤w.heap.size+1+1 by omega)
    have HE:=ac (And.intro T2 T4)
    obtain⟨p0,p1',p2'⟩:=tri T3
    clear T1 T2 T3 T4 so hz3 hf m0 m1' m2' r11 hb1 hb2 g0 g1 g2 KS KR KF N1
    generalize ((u2.setCell ⟨w.heap.size+1+1,0,none⟩ (.bool b9)).setCell ⟨w.heap.size+1+1,1,none⟩ (.slice y5 m5 l5)).setCell ⟨w.heap.size+1+1,2,none⟩ (.slice a11 n11 k11)=w9 at *
    go_wp2
    refine bodyPost_ret (v:=.agg #[.bool b9,.slice y5 m5 l5,.slice a11 n11 k11]) (by simp [results,Tryz.results26,go_sem,p0,p1',p2']) rfl ?_
    exact⟨⟨_,_,_,_,_,_,_,rfl,HE.out.1⟩,HE.out.2⟩

theorem nK (gp:Nat)(b:Bool)(v1 v2:Value)(X Y:List Nat)(w:World)(hP:w.heap[gp]?=some (.cells #[.bool b,v1,v2] 27))(hA:Arg w v1 X)(hB:Arg w v2 Y)(hT:Tab w)(hf1:X.length≤17592186043904)(hf2:Y.length≤17592186043904)(hY:val Y≠0)
  (q1:blen (val X / Nat.gcd (val X) (val Y))≤67108864) (q2:blen (val Y / Nat.gcd (val X) (val Y))≤67108864) :
  Calls Tryz.prog 102 #[.pointer (some ⟨gp,0,none⟩)] w (aD w (zz b (val X / Nat.gcd (val X) (val Y))) (val Y / Nat.gcd (val X) (val Y))):=by
 obtain⟨a,n,rfl,_,_,_⟩:=hA.form
 obtain⟨ad,nd,rfl,_,_,_⟩:=hB.form
 obtain⟨w0,hw0,hb0,h0⟩:=an w (.cells #[.bool false,.slice none 0 0,.slice none 0 0] 27)
 obtain⟨u0,hu0,hbu,hL⟩:=an w0 (.cells #[.bool b,.slice a X.length n,.slice ad Y.length nd] 27)
 have g0:=ah hb0 hbu
 have ME:=gL w0.heap.size b _ _ X Y u0 (hA.below g0) (hB.below g0) hL hY
 have AN:=ac (fun (W:World) (hg:Below u0.heap.size u0 W)=>ie b (.slice a X.length n) (.slice ad Y.length nd) X Y W ((hA.below g0).below hg) ((hB.below g0).below hg) ((hT.below g0).below hg) hf1 hf2 hY q1 q2)
 obtain⟨c0,c1,c2⟩:=tri (ae hb0 hP)
 have HP:=ac (ae g0 hP)
 have H0:=ac (ae hbu h0)
 have HG0:=ac g0
 clear hA hB hT hP hb0 h0 hbu hL g0 q1 q2
 generalize zz b (val X / Nat.gcd (val X) (val Y))=zq at *
 generalize val Y / Nat.gcd (val X) (val Y)=dq at *
 go_enter Tryz.func102,Tryz.ntmps102
 go_wp2_with fail
 refine ME.mono ?_
 rintro e t1 ⟨rfl,hb1⟩
 have A1:=AN.out t1 hb1
 have HG1:=ac (ah HG0.out hb1)
 obtain⟨d0,d1,d2⟩:=tri (ae hb1 HP.out)
 have H01:=ac (ae hb1 H0.out)
 clear c0 c1 c2 ME AN hb1
 go_wp2_with fail
 refine A1.mono ?_
 rintro e t2 ⟨⟨bb,a1,n1,k1,a2,n2,k2,rfl,y1⟩,hb2⟩
 have hz3:=ae hb2 H01.out
 have T1:=y1.base HG1.out.size
 have T2:=T1.tri (u0:=.bool bb) (u1:=.slice a1 n1 k1) (u2:=.slice a2 n2 k2) hz3
 have T3:=aG (u0:=.bool bb) (u1:=.slice a1 n1 k1) (u2:=.slice a2 n2 k2) hz3
 have T4:=aF (u0:=.bool bb) (u1:=.slice a1 n1 k1) (u2:=.slice a2 n2 k2) (ah HG1.out hb2) (Nat.le_refl w.heap.size)
 have HE:=ac (And.intro T2 T4)
 obtain⟨p0,p1,p2⟩:=tri T3
 have hf:=aE hz3
 obtain⟨m0,m1,m2⟩:=tri hz3
 clear T1 T2 T3 T4 hz3 hb2 A1 y1 d0 d1 d2
 go_wp2
 clear hf m0 m1 m2
 generalize ((t2.setCell ⟨w.heap.size,0,none⟩ (.bool bb)).setCell ⟨w.heap.size,1,none⟩ (.slice a1 n1 k1)).setCell ⟨w.heap.size,2,none⟩ (.slice a2 n2 k2)=w5 at *
 refine bodyPost_ret (v:=.agg #[.bool bb,.slice a1 n1 k1,.slice a2 n2 k2]) (by simp [results,Tryz.results102,go_sem,p0,p1,p2]) rfl ?_
 exact⟨⟨_,_,_,_,_,_,_,rfl,HE.out.1⟩,HE.out.2⟩

def dz (w:World)(z:Int)(d:Nat)(e:Ending)(w':World):Prop:=
 (∃(b:Bool) (a1:Option Addr) (n1 k1:Nat) (a2:Option Addr) (n2 k2:Nat),e=.returned (.tuple #[.agg #[.bool b,.slice a1 n1 k1,.slice a2 n2 k2],.int .i64 0])∧TR w' w.heap.size b (.slice a1 n1 k1) (.slice a2 n2 k2) z d)∧Below w.heap.size w w'

theorem nW (b:Bool)(v1 v2:Value)(X Y:List Nat)(w:World)(hA:Arg w v1 X)(hB:Arg w v2 Y)(hT:Tab w)(hf1:X.length≤17592186043904)(hf2:Y.length≤17592186043904)(hY:val Y≠0)
  (q1:blen (val X / Nat.gcd (val X) (val Y))≤67108864) (q2:blen (val Y / Nat.gcd (val X) (val Y))≤67108864) :
  Calls Tryz.prog 72 #[.agg #[.bool b,v1,v2]] w (dz w (zz b (val X / Nat.gcd (val X) (val Y))) (val Y / Nat.gcd (val X) (val Y))):=by
 have hmf:∀(fn:Fn) (first cap:Array Value) (w:World),(Instr.makeFunc fn first cap).run Tryz.prog w=.ok (.func fn first cap) w:=fun _ _ _ _=>rfl
 obtain⟨a,n,rfl,_,_,_⟩:=hA.form
 obtain⟨ad,nd,rfl,_,_,_⟩:=hB.form
 obtain⟨w0,hw0,hb0,h0,h1⟩:=aY w (.cells #[.bool b,.slice a X.length n,.slice ad Y.length nd] 27) (.cells #[.bool false,.slice none 0 0,.slice none 0 0] 27)
 have FA:=mA ⟨w.heap.size,0,none⟩ w0 (fun W bb x y=>TR W w.heap.size bb x y (zz b (val X / Nat.gcd (val X) (val Y))) (val Y / Nat.gcd (val X) (val Y)))
  (fun W g k u t cs bb x y hg ht h=>h.offT hg (by rcases ht with rfl|rfl <;> decide))
  (fun W hg=>(nK w.heap.size b _ _ X Y W (ae hg h0) ((hA.below hb0).below hg) ((hB.below hb0).below hg) ((hT.below hb0).below hg) hf1 hf2 hY q1 q2).mono (fun e w' ⟨⟨bb,a1,n1,k1,a2,n2,k2,he,hr⟩,hb⟩=>⟨⟨bb,a1,n1,k1,a2,n2,k2,he,hr.base (Nat.le_trans hb0.size hg.size)⟩,hb⟩))
 have H1:=ac h1
 have HB0:=ac hb0
 clear hA hB hT h0 h1 hb0 q1 q2
 generalize zz b (val X / Nat.gcd (val X) (val Y))=zq at *
 generalize val Y / Nat.gcd (val X) (val Y)=dq at *
 go_enter Tryz.func72,Tryz.ntmps72
 go_wp2_with fail
 refine FA.mono ?_
 rintro e t2 ⟨⟨bb,a1,n1,k1,a2,n2,k2,rfl,y1⟩,hb2⟩
 have hz3:=ae hb2 H1.out
 have T2:=TR.tri (u0:=.bool bb) (u1:=.slice a1 n1 k1) (u2:=.slice a2 n2 k2) y1 hz3
 have T3:=aG (u0:=.bool bb) (u1:=.slice a1 n1 k1) (u2:=.slice a2 n2 k2) hz3
 have T4:=aF (u0:=.bool bb) (u1:=.slice a1 n1 k1) (u2:=.slice a2 n2 k2) (HB0.out.trans (hb2.mono HB0.out.size)) (show w.heap.size≤w.heap.size+1 by omega)
 have HE:=ac (And.intro T2 T4)
 obtain⟨p0,p1,p2⟩:=tri T3
 have hf:=aE hz3
 obtain⟨m0,m1,m2⟩:=tri hz3
 clear T2 T3 T4 hz3 hb2 FA y1
 go_wp2
 clear hf m0 m1 m2
 generalize ((t2.setCell ⟨w.heap.size+1,0,none⟩ (.bool bb)).setCell ⟨w.heap.size+1,1,none⟩ (.slice a1 n1 k1)).setCell ⟨w.heap.size+1,2,none⟩ (.slice a2 n2 k2)=w5 at *
 refine bodyPost_ret (v:=.tuple #[.agg #[.bool bb,.slice a1 n1 k1,.slice a2 n2 k2],.int .i64 0]) (by simp [results,Tryz.results72,go_sem,p0,p1,p2]) rfl ?_
 exact⟨⟨_,_,_,_,_,_,_,rfl,HE.out.1⟩,HE.out.2⟩
end Go.Proofs.YtgnmgbbokcpppaaGreatDoor

