/- The laws of rationals: number, is, nothing, same. -/
import Derived.Test.YtplegacjglaenaaGreatDoorB18
import Derived.Test.YtplegacjglaenaaGreatDoorB01
import Derived.Test.YtplegacjglaenaaGreatDoorB02
import Derived.Deep.RegionHeld3
import Derived.Test.YtplegacjglaenaaGreatDoorB14
import Derived.Maps.AppendAt
import Derived.Test.YtplegacjglaenaaGreatDoorB03
import Derived.Test.YtplegacjglaenaaGreatDoorB15
set_option maxRecDepth 20000
set_option maxHeartbeats 4000000
namespace Go.Proofs.YtplegacjglaenaaGreatDoor
open Go.RowKit
open Lm
attribute [local go_sem ↓] Go.wp_at_zero Go.wp_at_succ

def fL (w:World)(z:Int)(d:Nat)(ok:Bool)(e:Ending)(w':World):Prop:=
 (∃b a1 n1 k1 a2 n2 k2,e=.returned (.tuple #[.agg #[.bool b,.slice a1 n1 k1,.slice a2 n2 k2],.bool ok])∧Rn w' (.agg #[.bool b,.slice a1 n1 k1,.slice a2 n2 k2]) z d)∧Below w.heap.size w w'

theorem pX (b:Bool)(v1 v2:Value)(X Y:List Nat)(w:World)(hA:Arg w v1 X)(hB:Arg w v2 Y)(hy:Y.length≤17592186044416)(h0:val Y=0) :
  Calls Tryz.prog 6 #[.agg #[.bool b,v1,v2]] w (fL w 0 0 false):=by
 obtain⟨a1,k1,rfl,_,_,_⟩:=hA.form
 obtain⟨a2,k2,rfl,_,_,_⟩:=hB.form
 obtain⟨w0,hw0,hb0,hx0,hx1⟩:=aJ w (.cells #[.bool b,.slice a1 X.length k1,.slice a2 Y.length k2] 28) (.cells #[.bool false,.slice none 0 0,.slice none 0 0] 31)
 have C:=di _ Y w0 (hB.below hb0) hy
 rw [h0] at C
 obtain⟨c0,c1,c2⟩:=tri hx0
 have HB0:=ac hb0
 have HX1:=ac hx1
 clear hA hB hb0 hx0 hx1 h0
 go_enter Tryz.func6,Tryz.ntmps6
 go_wp2_with fail
 refine C.mono ?_
 rintro e w1 ⟨⟨vd,rfl,hn⟩,hb⟩
 have Z:=bW vd 0 w1 hn
 have hy1:=ai hb HX1.out
 have hf1:=aC hy1
 obtain⟨d0,d1,d2⟩:=tri hy1
 have HY1:=ac hy1
 have HB1:=ac (ae HB0.out hb)
 clear C hn hb c0 c1 c2 hy1
 go_wp2_with fail
 refine Z.mono ?_
 rintro e wn ⟨rfl,hw⟩;rw [hw];clear hw wn Z
 go_wp2
 clear d0 d1 d2 hf1
 have T3:=aH (u0:=.bool false) (u1:=.slice none 0 0) (u2:=.slice none 0 0) HY1.out
 have HE:=ac (aG (u0:=.bool false) (u1:=.slice none 0 0) (u2:=.slice none 0 0) HB1.out (show w.heap.size≤w.heap.size+1 by omega))
 obtain⟨p0,p1,p2⟩:=tri T3
 clear T3
 generalize ((w1.setCell ⟨w.heap.size+1,0,none⟩ (.bool false)).setCell ⟨w.heap.size+1,1,none⟩ (.slice none 0 0)).setCell ⟨w.heap.size+1,2,none⟩ (.slice none 0 0)=w5 at *
 refine bodyPost_ret (v:=.tuple #[.agg #[.bool false,.slice none 0 0,.slice none 0 0],.bool false]) (by simp [results,Tryz.results6,go_sem,p0,p1,p2]) rfl ?_
 exact⟨⟨_,_,_,_,_,_,_,rfl,_,_,rfl,Num.nil _,Num.nil _⟩,HE.out⟩

theorem nZ (b:Bool)(v1 v2:Value)(X Y:List Nat)(w:World)(hA:Arg w v1 X)(hB:Arg w v2 Y)(hx:X.length≤17592186043000)(hy:Y.length≤17592186043000)(h0:val Y≠0) :
  Calls Tryz.prog 6 #[.agg #[.bool b,v1,v2]] w (fL w (zz b (val X / Nat.gcd (val X) (val Y))) (val Y / Nat.gcd (val X) (val Y)) true):=by
 have bx:blen (val X)≤64*X.length:=(blen_le_iff _ _).2 (by have:=val_lt hA.limbs;rw [show (18446744073709551616:Nat)=2 ^ 64 from rfl,←Nat.pow_mul] at this;exact this)
 have by':blen (val Y)≤64*Y.length:=(blen_le_iff _ _).2 (by have:=val_lt hB.limbs;rw [show (18446744073709551616:Nat)=2 ^ 64 from rfl,←Nat.pow_mul] at this;exact this)
 obtain⟨a1,k1,rfl,_,_,_⟩:=hA.form
 obtain⟨a2,k2,rfl,_,_,_⟩:=hB.form
 obtain⟨w0,hw0,hb0,hx0,hx1⟩:=aJ w (.cells #[.bool b,.slice a1 X.length k1,.slice a2 Y.length k2] 28) (.cells #[.bool false,.slice none 0 0,.slice none 0 0] 31)
 have C:=di _ Y w0 (hB.below hb0) (by omega)
 have OX:=ac (fun (W:World) (hg:Below w0.heap.size w0 W)=>di _ X W ((hA.below hb0).below hg) (by omega))
 obtain⟨c0,c1,c2⟩:=tri hx0
 have HB0:=ac hb0
 have HX0:=ac hx0
 have HX1:=ac hx1
 clear hA hB hb0 hx0 hx1
 go_enter Tryz.func6,Tryz.ntmps6
 go_wp2_with fail
 refine C.mono ?_
 rintro e w1 ⟨⟨vd,rfl,hn⟩,hb⟩
 have Z:=bW vd (val Y) w1 hn
 rw [show (val Y == 0)=false by rw [beq_eq_false_iff_ne];exact h0] at Z
 have HG1:=ac hb
 obtain⟨ad,nd,kd,rfl⟩:=hn.sl
 have MK:=ac (fun (W:World) (v:Value) (hg:Below w1.drew.heap.size w1.drew W) (hv:Num W v (val X))=>fR b v _ (val X) (val Y) W hv ((hn.below (Below.refl _ _).drew).below hg) h0 (by omega) (by omega))
 have O1:=OX.out w1.drew hb.drew
 have KS:=ac (fun (W:World) (hg:Below w1.drew.heap.size w1.drew W)=>show W.cell? ⟨w.heap.size,0,none⟩=some (.bool b)∧W.cell? ⟨w.heap.size,1,none⟩=some (.slice a1 X.length k1) from
  ⟨(tri (ai hg (show w1.drew.heap[w.heap.size]?=some (.cells #[.bool b,.slice a1 X.length k1,.slice a2 Y.length k2] 28) from ai hb.drew HX0.out))).1,(tri (ai hg (show w1.drew.heap[w.heap.size]?=some (.cells #[.bool b,.slice a1 X.length k1,.slice a2 Y.length k2] 28) from ai hb.drew HX0.out))).2.1⟩)
 have HY1:=ac (show w1.drew.heap[w.heap.size+1]?=some (.cells #[.bool false,.slice none 0 0,.slice none 0 0] 31) from ai hb.drew HX1.out)
 have HB1:=ac (show Below w.heap.size w w1.drew from (ae HB0.out hb).drew)
 have g0:Below w1.drew.heap.size w1.drew w1.drew:=Below.refl _ _
 have so:∀(W:World) (k:Nat) (u:Value) (k':Nat),(W.setCell ⟨w.heap.size+1,k,none⟩ u).cell? ⟨w.heap.size,k',none⟩=W.cell? ⟨w.heap.size,k',none⟩:=fun W k u k'=>cj (by omega)
 clear C hn hb c0 c1 c2 OX
 go_wp2_with fail
 refine Z.mono ?_
 rintro e wn ⟨rfl,hw⟩;rw [hw];clear hw wn Z
 go_wp2
 go_region_held3 (fun w'=>w'.cell? ⟨w.heap.size,0,none⟩=some (.bool b)∧w'.cell? ⟨w.heap.size,1,none⟩=some (.slice a1 X.length k1)) (first|with_reducible exact KS.out _ g2|with_reducible exact KS.out _ g1|with_reducible exact KS.out _ g0 | (refine⟨?_,?_⟩ <;> (rw [so,so,so];first|exact (KS.out _ g2).1|exact (KS.out _ g2).2))) (first
  | (go_at_call 24;refine O1.mono ?_;rintro e' t1 ⟨⟨vx,rfl,hnx⟩,hb1⟩;have g1:=ae g0 hb1;obtain⟨ax,nx,kx,rfl⟩:=hnx.sl)
  | (go_at_call 19;refine (MK.out t1 _ g1 hnx).mono ?_;rintro e' t2 ⟨⟨bb,p1,q1,r1,p2,q2,r2,rfl,hr⟩,hb2⟩;have g2:=ae g1 hb2;have hz3:=ai g2 HY1.out;have hf:=aC hz3;obtain⟨m0,m1,m2⟩:=tri hz3))
 all_goals
  obtain⟨b9,a9,n9,k9,a8,n8,k8,e9,hb9,hn1,hn2⟩:=hr.parts
  simp only [Value.agg.injEq,Array.mk.injEq,List.cons.injEq,Value.bool.injEq,and_true] at e9
  obtain⟨rfl,e1,e2⟩:=e9
  rw [←e1] at hn1
  rw [←e2] at hn2
  have T3:=aH (u0:=.bool bb) (u1:=.slice p1 q1 r1) (u2:=.slice p2 q2 r2) hz3
  have T1:=Num.tri7 (b':=bb) (a1':=p1) (n1':=q1) (k1':=r1) (a2':=p2) (n2':=q2) (k2':=r2) hn1 hz3
  have T2:=Num.tri7 (b':=bb) (a1':=p1) (n1':=q1) (k1':=r1) (a2':=p2) (n2':=q2) (k2':=r2) hn2 hz3
  have T4:=aG (u0:=.bool bb) (u1:=.slice p1 q1 r1) (u2:=.slice p2 q2 r2) (ae HB1.out g2) (show w.heap.size≤w.heap.size+1 by omega)
  have HE:=ac (And.intro T1 (And.intro T2 (And.intro T4 hb9)))
  obtain⟨x0,x1,x2⟩:=tri T3
  clear T1 T2 T3 T4 so hz3 hf m0 m1 m2 hr hn1 hn2 hb1 hb2 g0 g1 g2 KS MK O1 hb9 e1 e2
  generalize ((t2.setCell ⟨w.heap.size+1,0,none⟩ (.bool bb)).setCell ⟨w.heap.size+1,1,none⟩ (.slice p1 q1 r1)).setCell ⟨w.heap.size+1,2,none⟩ (.slice p2 q2 r2)=w5 at *
  go_wp2
  refine bodyPost_ret (v:=.tuple #[.agg #[.bool bb,.slice p1 q1 r1,.slice p2 q2 r2],.bool true]) (by simp [results,Tryz.results6,go_sem,x0,x1,x2]) rfl ?_
  exact⟨⟨_,_,_,_,_,_,_,rfl,_,_,by rw [HE.out.2.2.2],HE.out.1,HE.out.2.1⟩,HE.out.2.2.1⟩

theorem nN (b:Bool)(v u:Value)(x:Nat)(rs:List Nat)(w:World)(hA:Arg w v rs)(hv:val rs=x)(ht:tr rs=rs)(hN:Num w u x)(hb:blen x≤67108864) :
  Calls Tryz.prog 31 #[.agg #[.bool b,v],.agg #[.bool b,u]] w fun e w'=>e=.returned (.bool true)∧Below w.heap.size w w':=by
 obtain⟨a,c,rfl,_,_,_⟩:=hA.form
 obtain⟨a9,n9,c9,rfl⟩:=hN.sl
 obtain⟨w0,hw0,hb0,h0,h1⟩:=aJ w (.cells #[.bool b,.slice a rs.length c] 26) (.cells #[.bool b,.slice a9 n9 c9] 44)
 have C:=j8 _ _ x rs w0 (hN.below hb0) (hA.below hb0) ht hv (by omega)
 obtain⟨k0,k1⟩:=duo h0
 obtain⟨k2,k3⟩:=duo h1
 have HB0:=ac hb0
 have hbb:(b == b)=true:=by simp
 clear hA hN hb0 h0 h1 hv ht
 go_enter Tryz.func31,Tryz.ntmps31
 go_wp2_with fail
 refine C.mono ?_
 rintro e w1 ⟨rfl,hb1⟩
 have HB1:=ac (ae HB0.out hb1)
 clear C hb1
 go_wp2
 go_ret
 exact⟨rfl,HB1.out⟩

theorem ms (w:World):Calls Tryz.prog 30 #[.agg #[.bool false,.slice none 0 0,.slice none 0 0]] w fun e w'=>e=.returned (.bool true)∧Below w.heap.size w w':=by
 obtain⟨w0,hw0,hb0,h0⟩:=am w (.cells #[.bool false,.slice none 0 0,.slice none 0 0] 28)
 obtain⟨k0,k1,k2⟩:=tri h0
 have HB0:=ac hb0
 clear h0 hb0
 go_enter Tryz.func30,Tryz.ntmps30
 go_wp2
 go_ret
 exact⟨rfl,HB0.out⟩

theorem nf (b:Bool)(a1:Option Addr)(n1 k1:Nat)(a2:Option Addr)(n2 k2:Nat)(c:Int)(w:World)(hc:c≠0) :
  Calls Tryz.prog 8 #[.agg #[.bool false,.slice none 0 0,.slice none 0 0],.int .i64 c,.agg #[.bool b,.slice a1 n1 k1,.slice a2 n2 k2],.int .i64 c] w fun e w'=>e=.returned (.bool true)∧Below w.heap.size w w':=by
 obtain⟨w0,hw0,hb0,h0,h1⟩:=aJ w (.cells #[.bool false,.slice none 0 0,.slice none 0 0] 28) (.cells #[.bool b,.slice a1 n1 k1,.slice a2 n2 k2] 31)
 obtain⟨c0,c1,c2⟩:=tri h0
 have C:=ms w0
 have hne:(c == 0)=false:=by rw [beq_eq_false_iff_ne];exact hc
 have hcc:(c == c)=true:=by simp
 have HB0:=ac hb0
 clear h0 h1 hb0
 go_enter Tryz.func8,Tryz.ntmps8
 go_wp2_with fail
 refine C.mono ?_
 rintro e w1 ⟨rfl,hb1⟩
 have HB1:=ac (ae HB0.out hb1)
 clear C hb1
 go_wp2
 go_ret
 exact⟨rfl,HB1.out⟩

theorem gN (base:Nat)(b:Bool)(a1:Option Addr)(n1 k1:Nat)(a2:Option Addr)(n2 k2:Nat)(b':Bool)(p1:Option Addr)(q1 r1:Nat)(p2:Option Addr)(q2 r2:Nat)(z:Int)(d:Nat)(w:World)(h:TR w base b (.slice a1 n1 k1) (.slice a2 n2 k2) z d)(hr:Rn w (.agg #[.bool b',.slice p1 q1 r1,.slice p2 q2 r2]) z d)(hz:blen z.natAbs≤67108864)(hd:blen d≤67108864) :
  Calls Tryz.prog 8 #[.agg #[.bool b,.slice a1 n1 k1,.slice a2 n2 k2],.int .i64 0,.agg #[.bool b',.slice p1 q1 r1,.slice p2 q2 r2],.int .i64 0] w fun e w'=>e=.returned (.bool true)∧Below w.heap.size w w':=by
 obtain⟨b9,a9,n9,k9,a8,n8,k8,e9,hb9,hn1,hn2⟩:=hr.parts
 simp only [Value.agg.injEq,Array.mk.injEq,List.cons.injEq,Value.bool.injEq,and_true] at e9
 obtain⟨rfl,e1,e2⟩:=e9
 rw [←e1] at hn1
 rw [←e2] at hn2
 obtain⟨hbz,⟨rs1,x1,x2,x3⟩,mid,_,_,rs2,y1,y2,y3⟩:=h
 have l1:rs1.length≤1048576:=cK x3 x2 (by omega)
 have l2:rs2.length≤1048576:=cK y3 y2 (by omega)
 rw [←hb9] at hbz
 subst hbz
 obtain⟨w0,hw0,hb0,h0,h1⟩:=aJ w (.cells #[.bool b,.slice a1 n1 k1,.slice a2 n2 k2] 28) (.cells #[.bool b,.slice p1 q1 r1,.slice p2 q2 r2] 31)
 have C1:=gY _ z.natAbs w0 (hn1.below hb0)
 have C2:=gY _ d w0 (hn2.below hb0)
 have C3:=nN b _ _ z.natAbs rs1 w0 ((x1.arg (by omega)).below hb0) x2 x3 (hn1.below hb0) hz
 have C4:=ac (fun (W:World) (hg:Below w0.heap.size w0 W)=>j8 _ _ d rs2 W ((hn2.below hb0).below hg) (((y1.arg (by omega)).below hb0).below hg) y3 y2 (by omega))
 obtain⟨lz,hlz⟩:∃l,blen z.natAbs=l:=⟨_,rfl⟩
 obtain⟨ld,hld⟩:∃l,blen d=l:=⟨_,rfl⟩
 rw [hlz] at C1 hz
 rw [hld] at C2 hd
 have i1:¬((67108864:Int)<(lz:Int)):=by omega
 have i2:¬((67108864:Int)<(ld:Int)):=by omega
 obtain⟨c0,c1,c2⟩:=tri h0
 obtain⟨d0,d1,d2⟩:=tri h1
 have HB0:=ac hb0
 have HX0:=ac h0
 have HX1:=ac h1
 clear hb0 h0 h1 hn1 hn2 x1 x2 x3 y1 y2 y3 hlz hld hr hb9 e1 e2 l1 l2
 go_enter Tryz.func8,Tryz.ntmps8
 go_wp2_with fail
 refine C1.mono ?_
 rintro e wn ⟨rfl,hw⟩;rw [hw];clear hw wn C1
 go_wp2_with fail
 refine C2.mono ?_
 rintro e wn ⟨rfl,hw⟩;rw [hw];clear hw wn C2
 go_wp2_with fail
 refine C3.mono ?_
 rintro e w1 ⟨rfl,hb1⟩
 have C:=C4.out w1 hb1
 obtain⟨c0,c1,c2⟩:=tri (ai hb1 HX0.out)
 obtain⟨d0,d1,d2⟩:=tri (ai hb1 HX1.out)
 have HB1:=ac (ae HB0.out hb1)
 clear C3 C4 hb1
 go_wp2_with fail
 refine C.mono ?_
 rintro e w2 ⟨rfl,hb2⟩
 have HB2:=ac (ae HB1.out hb2)
 clear C hb2 c0 c1 c2 d0 d1 d2
 go_wp2
 go_ret
 exact⟨rfl,HB2.out⟩

structure BK (base:Nat)(w w':World):Prop where
 below:Below base w w'
 box:∀(g:Nat) (cs:Array Value) (t:TypeId),t≠51→t≠23→w.heap[g]?=some (.cells cs t)→w'.heap[g]?=some (.cells cs t)

theorem BK.refl (base:Nat)(w:World):BK base w w:=⟨Below.refl _ _,fun _ _ _ _ _ h=>h⟩

theorem BK.store {base:Nat}{w wr:World}{g n cap:Nat}{zs:List Nat}(h:BK base w wr)(ha:Ans wr base (.slice (some ⟨g,0,none⟩) n cap) zs)(j:Nat)(u:Value):BK base w (wr.setCell ⟨g,j,none⟩ u):=by
 obtain⟨_,h2⟩:=ha.own
 rcases h2 with ⟨e,_⟩|⟨g',cap',cur,e,hge,hh,_⟩
 ·cases e
 ·simp only [Value.slice.injEq,Option.some.injEq,Addr.mk.injEq] at e
  obtain⟨⟨rfl,_⟩,_⟩:=e
  refine⟨h.below.setCell (p:=⟨g,j,none⟩) hge u,fun g2 cs t ht ht2 hc=>?_⟩
  have h1:=h.box g2 cs t ht ht2 hc
  rw [Below.heap_setCell _ _ _ _ ?_]
  ·exact h1
  ·rintro rfl
   rw [hh] at h1
   simp only [Option.some.injEq,Obj.cells.injEq] at h1
   exact ht h1.2.1.symm

theorem BK.grew {base:Nat}{w wr w2:World}{v:Value}{zs:List Nat}{L:Nat}{vs:Array Value}{o:Obj}(h:BK base w wr)(hrow:Ans wr base v zs)(hL:wr.heap[L]?=some (.cells vs 23 (0,0)))(hb:base≤L)(hg:(wr.alloc o).grownBy w2 v.ownBlock)(k:Nat)(u:Value) :
  BK base w (w2.setCell ⟨L,k,none⟩ u):=by
 have hLs:=lt_of_block hL
 refine⟨((h.below.alloc (by omega) _).grown hg (by simp;omega) (fun g hg=>(hrow.own.lt g hg).1)).setCell hb _,fun g2 cs t ht ht2 hc=>?_⟩
 have h1:=h.box g2 cs t ht ht2 hc
 have h1s:=lt_of_block h1
 have hsz:(wr.alloc o).heap.size=wr.heap.size+1:=by simp
 rw [Below.heap_setCell _ _ _ _ ?_]
 ·have e1:(wr.alloc o).heap[g2]?=wr.heap[g2]?:=Below.heap_alloc wr o g2 h1s
  rw [hg.block g2 (by omega) ?_,e1]
  ·exact h1
  ·intro e
   obtain⟨_,h2⟩:=hrow.own
   rcases h2 with ⟨rfl,_⟩|⟨g',cap',cur,rfl,hge,hh,_⟩
   ·simp [Value.ownBlock] at e
   ·simp [Value.ownBlock] at e
    subst e
    rw [hh] at h1
    simp only [Option.some.injEq,Obj.cells.injEq] at h1
    exact ht h1.2.1.symm
 ·rintro rfl
  rw [hL] at h1
  simp only [Option.some.injEq,Obj.cells.injEq] at h1
  exact ht2 h1.2.1.symm

structure cO (w:World)(base:Nat)(vs:List Value)(rss:List (List Nat)):Prop where
 len:vs.length=rss.length
 row:∀i,i<vs.length→Ans w base (vs.getD i aA) (rss.getD i [])
 apart:∀i j,i<vs.length→j<vs.length→i≠j→(vs.getD i aA).ownBlock=none∨(vs.getD i aA).ownBlock≠(vs.getD j aA).ownBlock

theorem aD.aparts {w:World}{base:Nat}{vs:List Value}{rss:List (List Nat)}(h:aD w base vs rss):cO w base vs rss:=⟨h.length,h.row,h.apart⟩

theorem cO.below {w w':World}{base:Nat}{vs:List Value}{rss:List (List Nat)}(h:cO w base vs rss)(hb:Below w.heap.size w w'):cO w' base vs rss:=⟨h.len,fun i hi=>(h.row i hi).below hb,h.apart⟩

structure StX (sp:List Value)(w:World)(base L:Nat)(vs:List Value)(rows:Nat→List Nat):Prop where
 list:w.heap[L]?=some (.cells (vs ++ sp).toArray 23 (0,0))
 row:∀i,i<vs.length→Ans w base (vs.getD i aA) (rows i)
 apart:∀i j,i<vs.length→j<vs.length→i≠j→(vs.getD i aA).ownBlock=none∨(vs.getD i aA).ownBlock≠(vs.getD j aA).ownBlock

theorem StX.cell {sp:List Value}{w:World}{base L:Nat}{vs:List Value}{rows:Nat→List Nat}(h:StX sp w base L vs rows)(i:Nat)(hi:i<vs.length):w.cell? ⟨L,i,none⟩=some (vs.getD i aA):=by
 simp [World.cell?,h.list,hi,List.getD,List.getElem?_append_left hi]

theorem StX.free {sp:List Value}{w:World}{base L:Nat}{vs:List Value}{rows:Nat→List Nat}(h:StX sp w base L vs rows)(i:Nat):w.frozen? ⟨L,i,none⟩=false:=by
 simp [World.frozen?,h.list]

theorem StX.store {sp:List Value}{w:World}{base L:Nat}{vs:List Value}{rows:Nat→List Nat}(h:StX sp w base L vs rows)(i g cap:Nat)(hi:i<vs.length)(hv:vs.getD i aA=.slice (some ⟨g,0,none⟩) (rows i).length cap)(j z:Nat)(hz:z<18446744073709551616) :
  StX sp (w.setCell ⟨g,j,none⟩ (.int .u64 (z:Int))) base L vs (upd rows i ((rows i).set j z)):=by
 have hri:=h.row i hi
 have hne:=hri.ne h.list
 rw [hv] at hne
 have hgL:L≠g:=fun e=>hne (by simp [Value.ownBlock,e])
 refine⟨?_,fun m hm=>?_,h.apart⟩
 ·rw [Below.heap_setCell _ _ _ _ hgL];exact h.list
 ·by_cases e:m=i
  ·subst e
   rw [bX,hv]
   rw [hv] at hri
   have:=hri.stored j z hz
   rw [List.length_set] at this
   exact this
  ·rw [ct _ _ _ _ e]
   refine⟨ownsRow_setCell_other (h.row m hm).own ?_ _,(h.row m hm).limbs⟩
   have:=h.apart m i hm hi e
   rw [hv] at this
   rcases this with h1|h1
   ·rw [h1];simp
   ·simpa [Value.ownBlock] using h1

theorem StX.grow {sp:List Value}{w w2:World}{base L:Nat}{vs:List Value}{rows:Nat→List Nat}(h:StX sp w base L vs rows)(k:Nat)(hk:k<vs.length)(o:Obj)(v':Value)(r:List Nat)
  (ho:w2.ownsRow base 51 1 v' r.length (r.map lv)) (hl:Limbs r) (hg:(w.alloc o).grownBy w2 (vs.getD k aA).ownBlock) (hat:v'.ownBlock=(vs.getD k aA).ownBlock∨v'.ownBlock=some (w.alloc o).heap.size) :
  StX sp (w2.setCell ⟨L,k,none⟩ v') base L (vs.set k v') (upd rows k r):=by
 have hL:=lt_of_block h.list
 have hsz:(w.alloc o).heap.size=w.heap.size+1:=by simp
 have hneL:=(h.row k hk).ne h.list
 have hL2:w2.heap[L]?=some (.cells (vs ++ sp).toArray 23 (0,0)):=by
  have e1:(w.alloc o).heap[L]?=w.heap[L]?:=Below.heap_alloc w o L hL
  rw [hg.block L (by omega) (fun e=>hneL e.symm),e1];exact h.list
 have hneL':v'.ownBlock≠some L:=by
  rcases hat with e|e
  ·rw [e];exact hneL
  ·rw [e];intro e2;simp at e2;omega
 refine⟨?_,fun m hm=>?_,fun i j hi hj hij=>?_⟩
 ·have hlt:=lt_of_block hL2
  have h':w2.heap[L]=.cells (vs ++ sp).toArray 23 (0,0):=by simpa [Array.getElem?_eq_getElem hlt] using hL2
  show (w2.heap.modify L _)[L]?=_
  rw [Array.getElem?_eq_getElem (by simpa using hlt),Array.getElem_modify_self,h']
  simp [List.set_append_left _ _ hk]
 ·rw [List.length_set] at hm
  by_cases e:m=k
  ·subst e
   have ev:(vs.set m v').getD m aA=v':=by simp [List.getD,hm]
   rw [bX,ev]
   exact⟨ownsRow_setCell_other ho hneL' _,hl⟩
  ·have ev:(vs.set k v').getD m aA=vs.getD m aA:=by
    simp [List.getD,List.getElem?_set_ne (Ne.symm e)]
   rw [ct _ _ _ _ e,ev]
   have hr:=h.row m hm
   refine⟨ownsRow_setCell_other (((hr.own).alloc o).kept hg ?_) (hr.ne h.list) _,hr.limbs⟩
   exact h.apart m k hm hk e
 ·rw [List.length_set] at hi hj
  have hlt:∀m,m<vs.length→∀g,(vs.getD m aA).ownBlock=some g→g<w.heap.size:=fun m hm g hg=>((h.row m hm).own.lt g hg).2
  by_cases e1:i=k
  ·subst e1
   have ev:(vs.set i v').getD i aA=v':=by simp [List.getD,hi]
   have ev2:(vs.set i v').getD j aA=vs.getD j aA:=by simp [List.getD,List.getElem?_set_ne hij]
   rw [ev,ev2]
   rcases hat with e|e
   ·rw [e];exact h.apart i j hi hj hij
   ·right
    rw [e]
    intro e2
    have:=hlt j hj _ e2.symm
    omega
  ·by_cases e2:j=k
   ·subst e2
    have ev:(vs.set j v').getD j aA=v':=by simp [List.getD,hj]
    have ev2:(vs.set j v').getD i aA=vs.getD i aA:=by simp [List.getD,List.getElem?_set_ne (Ne.symm e1)]
    rw [ev,ev2]
    rcases hat with e|e
    ·rw [e];exact h.apart i j hi hj hij
    ·right
     rw [e]
     intro e3
     have:=hlt i hi _ e3
     omega
   ·have ev:(vs.set k v').getD i aA=vs.getD i aA:=by simp [List.getD,List.getElem?_set_ne (Ne.symm e1)]
    have ev2:(vs.set k v').getD j aA=vs.getD j aA:=by simp [List.getD,List.getElem?_set_ne (Ne.symm e2)]
    rw [ev,ev2]
    exact h.apart i j hi hj hij

theorem StX.congr {sp:List Value}{w:World}{base L:Nat}{vs:List Value}{rows rows':Nat→List Nat}(h:StX sp w base L vs rows)(he:∀i,i<vs.length→rows i=rows' i):StX sp w base L vs rows':=
 ⟨h.list,fun i hi=>by rw [←he i hi];exact h.row i hi,h.apart⟩

theorem StX.kept {sp:List Value}{w w2:World}{base L:Nat}{vs:List Value}{rows:Nat→List Nat}{v:Value}(h:StX sp w base L vs rows)(k:Nat)(hk:k<vs.length)(hv:vs.getD k aA=v)(o:Obj)(hg:(w.alloc o).grownBy w2 v.ownBlock) :
  w2.cell? ⟨L,k,none⟩=some v∧w2.frozen? ⟨L,k,none⟩=false:=by
 have hL:=lt_of_block h.list
 have hneL:=(h.row k hk).ne h.list
 rw [hv] at hneL
 have hsz:(w.alloc o).heap.size=w.heap.size+1:=by simp
 have e:w2.heap[L]?=w.heap[L]?:=by
  rw [hg.block L (by omega) (fun e=>hneL e.symm)];exact Below.heap_alloc w o L hL
 refine⟨?_,?_⟩
 ·rw [World.cell?_of_block (w:=w) (a:=⟨L,k,none⟩) e,h.cell k hk,hv]
 ·rw [World.frozen?_of_block (w:=w) (a:=⟨L,k,none⟩) e];exact h.free k

theorem jb (sp:List Value)(cap:Nat)(L base:Nat)(vs:List Value)(rows:Nat→List Nat)(w:World)(h:StX sp w base L vs rows)(hn:vs.length≤1000)(hl:∀i,i<vs.length→(rows i).length≤17592186044000)(hb:base≤L) :
  Calls Tryz.prog 33 #[.slice (some ⟨L,0,none⟩) vs.length cap] w fun e w'=>e=.returned (.bool true)∧BK base w w':=by
 go_enter Tryz.func33,Tryz.ntmps33
 go_wp2
 go_loopw [15] (fun i wr=>∃k:Nat,k≤vs.length∧i=.int .i64 k∧StX sp wr base L vs (bE rows k)∧BK base w wr) (fun i _=>vs.length - (intOf i).toNat)
 case atStart=>exact⟨0,Nat.zero_le _,rfl,h.congr (fun i _=>by simp [bE]),BK.refl _ _⟩
 case round=>
  obtain⟨k,hk,rfl,hst,hbl⟩:=hrel
  by_cases hkl:k<vs.length
  ·have hck:=hst.cell k hkl
   have hrow:=hst.row k hkl
   have hrk:bE rows k k=rows k:=by simp [bE]
   rw [hrk] at hrow
   have hlk:=hl k hkl
   have ec:(k:Int) % 251+1=((k % 251+1:Nat):Int):=by omega
   have bc:k % 251+1<18446744073709551616:=by omega
   have HRK:=ac hrk
   have HOV:Hid (over rows k=List.replicate (rows k).length (k % 251+1)):=rfl
   have HST:=ac hst
   have HBL:=ac hbl
   generalize k % 251+1=c at *
   clear hst hbl hrk h
   rcases hrow.form with ⟨hv,hz⟩|⟨g,cap,hv,hg1,hg2,hcap,hmax,_,_⟩
   ·rw [hv] at hck
    have HZ:=ac hz
    clear hrow hv hz
    go_wp2
    refine wp_loop_rounds 1 ?_
    rw [rounds_succ]
    go_wp2
    go_roundw
    case rel=>
     refine⟨k+1,by omega,by go_num,HST.out.congr (fun m _=>?_),HBL.out⟩
     by_cases e:m=k
     ·subst e
      rw [HRK.out]
      simp [bE,over,HZ.out]
     ·exact jI rows k m e
    case measure=>simp [intOf];omega
   ·rw [hv] at hck
    go_wp2
    go_loopw [22] (fun i wr=>∃j:Nat,j≤(rows k).length∧i=.int .i64 j∧StX sp wr base L vs (upd (bE rows k) k (List.replicate j c ++ (rows k).drop j))∧BK base w wr) (fun i _=>(rows k).length - (intOf i).toNat)
    case atStart=>
     refine⟨0,Nat.zero_le _,rfl,HST.out.congr (fun m _=>?_),HBL.out⟩
     by_cases e:m=k
     ·subst e;rw [HRK.out,bX];simp
     ·rw [ct _ _ _ _ e]
    case round=>
     obtain⟨j,hj,rfl,hst,hbl⟩:=hrel
     clear HST HBL
     by_cases hjl:j<(rows k).length
     ·have hr2:=hst.row k hkl
      rw [bX] at hr2
      have hfl:=oP (rows k) j c hj
      rcases hr2.form with ⟨hv2,_⟩|⟨g',cap',hv2,hg1',hg2',_,_,hfr',hcl'⟩
      ·rw [hv2] at hv;cases hv
      ·have hgg:g'=g:=by rw [hv2] at hv;simp only [Value.slice.injEq,Option.some.injEq,Addr.mk.injEq] at hv;exact hv.1.1
       subst hgg
       have hfr:=hfr' j
       have hco:=hcl' j (by omega)
       have hst2:=hst.store k g' cap' hkl (by rw [bX];exact hv2) j c bc
       rw [bX,nE (rows k) j c hjl] at hst2
       have HS:=ac hst2
       have HL:=ac (hbl.store (hv2 ▸ hr2) j (.int .u64 (c:Int)))
       generalize (List.replicate j c ++ (rows k).drop j).getD j 0=o at *
       clear hst hbl hst2 hr2 hv2 hfr' hcl' hrow hv hck hfl
       go_wp2
       go_roundw
       case rel=>
        refine⟨j+1,by omega,by go_num,HS.out.congr (fun m _=>?_),HL.out⟩
        by_cases e:m=k
        ·subst e;rw [bX,bX]
        ·rw [ct _ _ _ _ e,ct _ _ _ _ e,ct _ _ _ _ e]
       case measure=>simp [intOf];omega
     ·have ej:j=(rows k).length:=by omega
      subst ej
      have HS:=ac hst
      have HL:=ac hbl
      clear hst hbl hrow hv hck
      go_wp2
      go_roundw
      case rel=>
       refine⟨k+1,by omega,by go_num,HS.out.congr (fun m _=>?_),HL.out⟩
       by_cases e:m=k
       ·subst e
        rw [bX]
        have:bE rows (m+1) m=over rows m:=by simp [bE]
        rw [this,HOV.out];simp
       ·rw [ct _ _ _ _ e];exact jI rows k m e
      case measure=>simp [intOf];omega
  ·have ek:k=vs.length:=by omega
   subst ek
   have hst3:StX sp wr base L vs (over rows):=hst.congr (fun m hm=>by simp [bE,hm])
   have HST:=ac hst3
   have HBL:=ac hbl
   clear hst hbl hst3 h
   obtain⟨i0,hi,hz0,hz1,hz2⟩:=info_parts Tryz.infoU
   go_wp2
   go_loopw [36] (fun i wr=>∃(k:Nat) (us:List Value),k≤vs.length∧us.length=vs.length∧i=.int .i64 k∧StX sp wr base L us (fun m=>if m<k then over rows m ++ bh (300+5*m) else over rows m)∧BK base w wr) (fun i _=>vs.length - (intOf i).toNat)
   case atStart=>exact⟨0,vs,Nat.zero_le _,rfl,rfl,HST.out.congr (fun m _=>by simp),HBL.out⟩
   case round=>
    obtain⟨k,us,hk',hus,rfl,hst,hbl⟩:=hrel
    clear HST HBL
    by_cases hkl':k<vs.length
    ·have hku:k<us.length:=by omega
     have hck:=hst.cell k hku
     have hrow:=hst.row k hku
     simp only [Nat.lt_irrefl,if_false] at hrow
     have hfr:=hst.free k
     have hlen:(over rows k).length≤17592186044000:=by unfold over;rw [List.length_replicate];exact hl k hkl'
     have eb:(300:Int)+5*(k:Int)=((300+5*k:Nat):Int):=by omega
     have HST:=ac hst
     have HBL:=ac hbl
     have HV:=ac (rfl:us.getD k aA=us.getD k aA)
     have HB5:Hid (300+5*k<6000):=by unfold Hid;omega
     obtain⟨bb,hbb⟩:∃bb,bb=300+5*k:=⟨_,rfl⟩
     rw [←hbb] at eb
     have hb6:bb<6000:=by omega
     have HBB:=ac hbb
     generalize hv:us.getD k aA=v at *
     have HVV:=ac hv
     obtain⟨b1,h1⟩:∃b1,b1=bb+1:=⟨_,rfl⟩
     obtain⟨b2,h2⟩:∃b2,b2=bb+2:=⟨_,rfl⟩
     obtain⟨b3,h3⟩:∃b3,b3=bb+3:=⟨_,rfl⟩
     obtain⟨b4,h4⟩:∃b4,b4=bb+4:=⟨_,rfl⟩
     have g1:(bb:Int)+1=(b1:Int):=by omega
     have g2:(bb:Int)+2=(b2:Int):=by omega
     have g3:(bb:Int)+3=(b3:Int):=by omega
     have g4:(bb:Int)+4=(b4:Int):=by omega
     have q1:b1<18446744073709551616:=by omega
     have q2:b2<18446744073709551616:=by omega
     have q3:b3<18446744073709551616:=by omega
     have q4:b4<18446744073709551616:=by omega
     have H5:Hid ([bb,b1,b2,b3,b4]=bh (300+5*k)):=ac (by rw [h1,h2,h3,h4,hbb];rfl)
     clear hst hbl hv hbb HV h1 h2 h3 h4
     go_wp2_with (at_builtin;refine wpList_append_own_at _ rfl _ _ 23 rfl base 51 i0 (.int .u64 0) 1 8 Tryz.underlying23 hi hz0 hz1 hz2 rfl (by decide) v (over rows k).length _ rfl (hrow.own.alloc _) ⟨wr.heap.size,0,none⟩ 5 5 ([bb,b1,b2,b3,b4].map lv) rfl rfl (d5 [bb,b1,b2,b3,b4]) (dg _) (by unfold maxLen;omega) (by omega) (by have:=lt_of_block HST.out.list;simp;omega) ?_;intro v' w2 hown2 hgrow2 _ hat2;have hkp:=HST.out.kept k hku HVV.out _ hgrow2;have hck2:=hkp.1;have hfr2:=hkp.2;clear hkp;obtain⟨g5,cap5,hv5⟩:=dp hown2 (by omega);subst hv5;have HO:=ac hown2;have HG:=ac hgrow2;have HAT:=ac hat2;clear hown2 hgrow2 hat2)
     go_roundw
     case rel=>
      refine⟨k+1,us.set k _,by omega,by rw [List.length_set];exact hus,by go_num,(HST.out.grow k hku _ _ (over rows k ++ bh (300+5*k)) ?_ ?_ (by rw [HVV.out];exact HG.out) (by rw [HVV.out];exact HAT.out)).congr (fun m _=>?_),?_⟩
      ·rw [←H5.out,List.length_append,List.map_append];exact HO.out
      ·exact pb rows k (by omega)
      ·by_cases e:m=k
       ·subst e;rw [bX];simp
       ·rw [ct _ _ _ _ e]
        by_cases h1:m<k
        ·rw [if_pos h1,if_pos (by omega)]
        ·rw [if_neg h1,if_neg (by omega)]
      ·have hLs:=lt_of_block HST.out.list
       exact HBL.out.grew hrow HST.out.list hb HG.out k _
     case measure=>simp [intOf];omega
    ·have ek:k=vs.length:=by omega
     subst ek
     have hst4:StX sp wr base L us (fun m=>over rows m ++ bh (300+5*m)):=hst.congr (fun m hm=>by simp [show m<vs.length by omega])
     have HST:=ac hst4
     have HBL:=ac hbl
     clear hst hbl hst4 hi hz0 hz1 hz2
     go_wp2
     go_loop [64] (fun i=>∃k:Nat,k≤vs.length∧i=.int .i64 k) (fun i=>vs.length - (intOf i).toNat)
     case atStart=>exact⟨0,Nat.zero_le _,rfl⟩
     case round=>
      obtain⟨k,hk4,rfl⟩:=hrel
      by_cases hkl4:k<vs.length
      ·have hku:k<us.length:=by omega
       have hck:=HST.out.cell k hku
       have hrow:=HST.out.row k hku
       have hlr:(over rows k ++ bh (300+5*k)).length=(rows k).length+5:=by simp [over,bh]
       rcases hrow.form with ⟨_,h0⟩|⟨g,cap,hv,_,_,hgl,hgm,_,hgc⟩
       ·rw [h0] at hlr;simp at hlr
       ·rw [hlr] at hv hgl hgc
        rw [hv] at hck
        have hzl:=hl k hkl4
        have HGC:=ac hgc
        clear hrow hgc hv hlr
        go_wp2
        go_loop [71] (fun i=>∃j:Nat,j≤(rows k).length+5∧i=.int .i64 j) (fun i=>(rows k).length+5 - (intOf i).toNat)
        case atStart=>exact⟨0,Nat.zero_le _,rfl⟩
        case round=>
         obtain⟨j,hj,rfl⟩:=hrel
         by_cases hjl:j<(rows k).length+5
         ·have hcj:=HGC.out j hjl
          by_cases hj2:j<(rows k).length
          ·rw [qW rows k j hj2] at hcj
           have ec:(k:Int) % 251+1=((k % 251+1:Nat):Int):=by omega
           have bc:k % 251+1<18446744073709551616:=by omega
           generalize k % 251+1=c at *
           have hne:((c:Int) != (c:Int))=false:=by simp
           have i1:(j:Int)<((rows k).length:Int):=by omega
           have hd2:decide (((rows k).length:Int)≤(j:Int))=false:=decide_eq_false (by omega)
           generalize (rows k).length=zl at *
           go_wp2
           go_round
           case rel=>exact⟨j+1,by omega,by go_num⟩
           case measure=>simp [intOf];omega
          ·rw [qS rows k j (by omega) hjl] at hcj
           have hd1:decide ((j:Int)<((rows k).length:Int))=false:=decide_eq_false (by omega)
           have i1:((rows k).length:Int)≤(j:Int):=by omega
           generalize (rows k).length=zl at *
           obtain⟨t,ht⟩:∃t,t=300+5*k+(j - zl):=⟨_,rfl⟩
           rw [←ht] at hcj
           have et:(300:Int)+5*(k:Int)+(j:Int) - ((zl:Int)+5)+5=(t:Int):=by omega
           have bt:t<18446744073709551616:=by omega
           have hne:((t:Int) != (t:Int))=false:=by simp
           have HT:=ac ht
           clear ht
           go_wp2
           go_round
           case rel=>exact⟨j+1,by omega,by go_num⟩
           case measure=>simp [intOf];omega
         ·go_wp2
          go_round
          case rel=>exact⟨k+1,by omega,by go_num⟩
          case measure=>simp [intOf];omega
      ·go_wp2
       go_ret
       exact⟨rfl,HBL.out⟩

theorem g9:(Tryz.prog.info? 23).map (fun i=>(i.zero,i.size,i.bytes))=some (some (.slice none 0 0),1,24):=by kernel_rfl

theorem dJ {w:World}(l:List Value)(t:TypeId)(j:Nat)(u:Value)(hj:l[j]?=some u):(w.alloc (.cells l.toArray t)).cell? ((⟨w.heap.size,0,none⟩:Addr).add j)=some u:=by
 have e:(⟨w.heap.size,0,none⟩:Addr).add j=⟨w.heap.size,j,none⟩:=by
  unfold Addr.add;split <;> simp_all
 rw [e]
 simp only [World.cell?,heap_alloc_new]
 simpa using hj

theorem BK.after7 {base:Nat}{w w5 w':World}(hb:Below w.heap.size w w5)(hle:base≤w.heap.size)(h:BK base w5 w'):BK base w w':=
 ⟨(hb.mono hle).trans h.below,fun g cs t ht ht2 hc=>h.box g cs t ht ht2 (ai hb hc)⟩

theorem ij {w w5:World}{base:Nat}{vs:List Value}{rss:List (List Nat)}{g cap:Nat}(hown:w5.ownsRow w.heap.size 23 1 (.slice (some ⟨g,0,none⟩) vs.length cap) vs.length vs)(hA:cO w base vs rss)(hb:Below w.heap.size w w5):(∃sp,StX sp w5 base g vs (fun i=>rss.getD i []))∧w.heap.size≤g:=by
 obtain⟨_,h2⟩:=hown
 rcases h2 with ⟨e,_⟩|⟨g',cap',cur,e,hge,hh,_,_,_,ht⟩
 ·cases e
 ·simp only [Value.slice.injEq,Option.some.injEq,Addr.mk.injEq] at e
  obtain⟨⟨rfl,_⟩,_⟩:=e
  refine⟨⟨cur.toList.drop vs.length,?_,(hA.below hb).row,hA.apart⟩,hge⟩
  rw [hh]
  rw [Nat.mul_one] at ht
  have:vs ++ cur.toList.drop vs.length=cur.toList:=by
   conv=>lhs;lhs;rw [←ht]
   exact List.take_append_drop _ _
  rw [this]

theorem gW (gs:Nat)(b1:Bool)(a1:Option Addr)(n1 k1:Nat)(a2:Option Addr)(n2 k2:Nat)(b3:Bool)(a3:Option Addr)(n3 k3:Nat)(a4:Option Addr)(n4 k4:Nat)(base:Nat)(rss:List (List Nat))(w:World)(hg:w.heap[gs]?=some (.cells #[.bool b1,.slice a1 n1 k1,.slice a2 n2 k2,.bool b3,.slice a3 n3 k3,.slice a4 n4 k4] 28))(hA:cO w base [.slice a1 n1 k1,.slice a2 n2 k2,.slice a3 n3 k3,.slice a4 n4 k4] rss)(hl:∀r ∈ rss,r.length≤17592186044000)(hb:base≤w.heap.size) :
  Calls Tryz.prog 9 #[.slice (some ⟨gs,0,none⟩) 2 2] w fun e w'=>e=.returned (.bool true)∧BK base w w':=by
 obtain⟨i0,hi,hz0,hz1,hz2⟩:=info_parts g9
 have HS:=ac hg
 have HA:=ac hA
 have HLL:=ac hl
 have HBS:=ac hb
 have HU:Hid (Below w.heap.size w w):=ac (Below.refl _ _)
 have HO:Hid (w.ownsRow w.heap.size 23 1 (.slice none 0 0) 0 []):=ac ⟨rfl,.inl ⟨rfl,rfl⟩⟩
 clear hg hA hl hb
 go_enter Tryz.func9,Tryz.ntmps9
 go_wp2
 refine wp_loop_rounds 3 ?_
 rw [rounds_succ]
 obtain⟨u0,hu0,hbu0,qu0⟩:=am w (.cells #[.bool b1,.slice a1 n1 k1,.slice a2 n2 k2] 28)
 obtain⟨x0,x1,x2⟩:=tri qu0
 have CS:=ai HU.out HS.out
 have c0:w.cell? ⟨gs,0,none⟩=some (.bool b1):=by simp [World.cell?,CS]
 have c1:w.cell? ⟨gs,1,none⟩=some (.slice a1 n1 k1):=by simp [World.cell?,CS]
 have c2:w.cell? ⟨gs,2,none⟩=some (.slice a2 n2 k2):=by simp [World.cell?,CS]
 have HBN:=ac (ae HU.out hbu0)
 have HON:=ac (show u0.ownsRow w.heap.size 23 1 (.slice none 0 0) 0 [] by rw [←hu0];exact HO.out.alloc _)
 clear CS HU HO hbu0 qu0
 go_wp2_with (at_builtin;refine wpList_append_own_at _ rfl _ _ 64 rfl w.heap.size 23 i0 (.slice none 0 0) 1 24 Tryz.underlying64 hi hz0 hz1 hz2 rfl (by decide) (.slice none 0 0) 0 [] rfl (HON.out.alloc _) ⟨u0.heap.size,0,none⟩ 2 2 [.slice a1 n1 k1,.slice a2 n2 k2] rfl rfl (dJ [.slice a1 n1 k1,.slice a2 n2 k2] 23) (by intro u hu;simp at hu;rcases hu with rfl|rfl <;> rfl) (by unfold maxLen;omega) (by omega) (by have:=HBN.out.size;simp;omega) ?_;intro v0 t0 hown hgrow _ _;obtain⟨g0,cap0,rfl⟩:=dp hown (by omega);have HU:=ac ((HBN.out.alloc (by have:=HBN.out.size;omega) _).grown hgrow (by have:=HBN.out.size;simp;omega) (fun g hg=>(HON.out.lt g hg).1));have HO:=ac hown;clear hown hgrow HBN HON x0 x1 x2 c0 c1 c2 hu0)
 rw [rounds_succ]
 obtain⟨u1,hu1,hbu1,qu1⟩:=am t0 (.cells #[.bool b3,.slice a3 n3 k3,.slice a4 n4 k4] 28)
 obtain⟨x0,x1,x2⟩:=tri qu1
 have CS:=ai HU.out HS.out
 have c0:t0.cell? ⟨gs,3,none⟩=some (.bool b3):=by simp [World.cell?,CS]
 have c1:t0.cell? ⟨gs,4,none⟩=some (.slice a3 n3 k3):=by simp [World.cell?,CS]
 have c2:t0.cell? ⟨gs,5,none⟩=some (.slice a4 n4 k4):=by simp [World.cell?,CS]
 have HBN:=ac (ae HU.out hbu1)
 have HON:=ac (show u1.ownsRow w.heap.size 23 1 (.slice (some ⟨g0,0,none⟩) 2 cap0) 2 [.slice a1 n1 k1,.slice a2 n2 k2] by rw [←hu1];exact HO.out.alloc _)
 clear CS HU HO hbu1 qu1
 go_wp2_with (at_builtin;refine wpList_append_own_at _ rfl _ _ 64 rfl w.heap.size 23 i0 (.slice none 0 0) 1 24 Tryz.underlying64 hi hz0 hz1 hz2 rfl (by decide) (.slice (some ⟨g0,0,none⟩) 2 cap0) 2 [.slice a1 n1 k1,.slice a2 n2 k2] rfl (HON.out.alloc _) ⟨u1.heap.size,0,none⟩ 2 2 [.slice a3 n3 k3,.slice a4 n4 k4] rfl rfl (dJ [.slice a3 n3 k3,.slice a4 n4 k4] 23) (by intro u hu;simp at hu;rcases hu with rfl|rfl <;> rfl) (by unfold maxLen;omega) (by omega) (by have:=HBN.out.size;simp;omega) ?_;intro v1 t1 hown hgrow _ _;obtain⟨g1,cap1,rfl⟩:=dp hown (by omega);have HU:=ac ((HBN.out.alloc (by have:=HBN.out.size;omega) _).grown hgrow (by have:=HBN.out.size;simp;omega) (fun g hg=>(HON.out.lt g hg).1));have HO:=ac hown;clear hown hgrow HBN HON x0 x1 x2 c0 c1 c2 hu1)
 rw [rounds_succ]
 obtain⟨⟨sp,hst⟩,hge⟩:=ij (vs:=[.slice a1 n1 k1,.slice a2 n2 k2,.slice a3 n3 k3,.slice a4 n4 k4]) HO.out HA.out HU.out
 have C:=jb sp cap1 g1 base [.slice a1 n1 k1,.slice a2 n2 k2,.slice a3 n3 k3,.slice a4 n4 k4] (fun i=>rss.getD i []) t1 hst (by simp) (by
  intro i hi'
  have hi2:i<rss.length:=by rw [←HA.out.len];exact hi'
  show (rss.getD i []).length≤_
  have e:rss.getD i []=rss[i]:=by simp [List.getD,hi2]
  rw [e]
  exact HLL.out _ (List.getElem_mem _)) (by have:=HBS.out;omega)
 clear hst hge HO
 go_wp2_with fail
 refine C.mono ?_
 rintro e t9 ⟨rfl,hk⟩
 have HE:=ac (BK.after7 HU.out HBS.out hk)
 clear hk C
 go_wp2
 go_ret
 exact⟨rfl,HE.out⟩

theorem jt (gs:Nat)(b1:Bool)(a1:Option Addr)(n1 k1:Nat)(a2:Option Addr)(n2 k2:Nat)(b3:Bool)(a3:Option Addr)(n3 k3:Nat)(a4:Option Addr)(n4 k4:Nat)(b5:Bool)(a5:Option Addr)(n5 k5:Nat)(a6:Option Addr)(n6 k6:Nat)(base:Nat)(rss:List (List Nat))(w:World)(hg:w.heap[gs]?=some (.cells #[.bool b1,.slice a1 n1 k1,.slice a2 n2 k2,.bool b3,.slice a3 n3 k3,.slice a4 n4 k4,.bool b5,.slice a5 n5 k5,.slice a6 n6 k6] 28))(hA:cO w base [.slice a1 n1 k1,.slice a2 n2 k2,.slice a3 n3 k3,.slice a4 n4 k4,.slice a5 n5 k5,.slice a6 n6 k6] rss)(hl:∀r ∈ rss,r.length≤17592186044000)(hb:base≤w.heap.size) :
  Calls Tryz.prog 9 #[.slice (some ⟨gs,0,none⟩) 3 3] w fun e w'=>e=.returned (.bool true)∧BK base w w':=by
 obtain⟨i0,hi,hz0,hz1,hz2⟩:=info_parts g9
 have HS:=ac hg
 have HA:=ac hA
 have HLL:=ac hl
 have HBS:=ac hb
 have HU:Hid (Below w.heap.size w w):=ac (Below.refl _ _)
 have HO:Hid (w.ownsRow w.heap.size 23 1 (.slice none 0 0) 0 []):=ac ⟨rfl,.inl ⟨rfl,rfl⟩⟩
 clear hg hA hl hb
 go_enter Tryz.func9,Tryz.ntmps9
 go_wp2
 refine wp_loop_rounds 4 ?_
 rw [rounds_succ]
 obtain⟨u0,hu0,hbu0,qu0⟩:=am w (.cells #[.bool b1,.slice a1 n1 k1,.slice a2 n2 k2] 28)
 obtain⟨x0,x1,x2⟩:=tri qu0
 have CS:=ai HU.out HS.out
 have c0:w.cell? ⟨gs,0,none⟩=some (.bool b1):=by simp [World.cell?,CS]
 have c1:w.cell? ⟨gs,1,none⟩=some (.slice a1 n1 k1):=by simp [World.cell?,CS]
 have c2:w.cell? ⟨gs,2,none⟩=some (.slice a2 n2 k2):=by simp [World.cell?,CS]
 have HBN:=ac (ae HU.out hbu0)
 have HON:=ac (show u0.ownsRow w.heap.size 23 1 (.slice none 0 0) 0 [] by rw [←hu0];exact HO.out.alloc _)
 clear CS HU HO hbu0 qu0
 go_wp2_with (at_builtin;refine wpList_append_own_at _ rfl _ _ 64 rfl w.heap.size 23 i0 (.slice none 0 0) 1 24 Tryz.underlying64 hi hz0 hz1 hz2 rfl (by decide) (.slice none 0 0) 0 [] rfl (HON.out.alloc _) ⟨u0.heap.size,0,none⟩ 2 2 [.slice a1 n1 k1,.slice a2 n2 k2] rfl rfl (dJ [.slice a1 n1 k1,.slice a2 n2 k2] 23) (by intro u hu;simp at hu;rcases hu with rfl|rfl <;> rfl) (by unfold maxLen;omega) (by omega) (by have:=HBN.out.size;simp;omega) ?_;intro v0 t0 hown hgrow _ _;obtain⟨g0,cap0,rfl⟩:=dp hown (by omega);have HU:=ac ((HBN.out.alloc (by have:=HBN.out.size;omega) _).grown hgrow (by have:=HBN.out.size;simp;omega) (fun g hg=>(HON.out.lt g hg).1));have HO:=ac hown;clear hown hgrow HBN HON x0 x1 x2 c0 c1 c2 hu0)
 rw [rounds_succ]
 obtain⟨u1,hu1,hbu1,qu1⟩:=am t0 (.cells #[.bool b3,.slice a3 n3 k3,.slice a4 n4 k4] 28)
 obtain⟨x0,x1,x2⟩:=tri qu1
 have CS:=ai HU.out HS.out
 have c0:t0.cell? ⟨gs,3,none⟩=some (.bool b3):=by simp [World.cell?,CS]
 have c1:t0.cell? ⟨gs,4,none⟩=some (.slice a3 n3 k3):=by simp [World.cell?,CS]
 have c2:t0.cell? ⟨gs,5,none⟩=some (.slice a4 n4 k4):=by simp [World.cell?,CS]
 have HBN:=ac (ae HU.out hbu1)
 have HON:=ac (show u1.ownsRow w.heap.size 23 1 (.slice (some ⟨g0,0,none⟩) 2 cap0) 2 [.slice a1 n1 k1,.slice a2 n2 k2] by rw [←hu1];exact HO.out.alloc _)
 clear CS HU HO hbu1 qu1
 go_wp2_with (at_builtin;refine wpList_append_own_at _ rfl _ _ 64 rfl w.heap.size 23 i0 (.slice none 0 0) 1 24 Tryz.underlying64 hi hz0 hz1 hz2 rfl (by decide) (.slice (some ⟨g0,0,none⟩) 2 cap0) 2 [.slice a1 n1 k1,.slice a2 n2 k2] rfl (HON.out.alloc _) ⟨u1.heap.size,0,none⟩ 2 2 [.slice a3 n3 k3,.slice a4 n4 k4] rfl rfl (dJ [.slice a3 n3 k3,.slice a4 n4 k4] 23) (by intro u hu;simp at hu;rcases hu with rfl|rfl <;> rfl) (by unfold maxLen;omega) (by omega) (by have:=HBN.out.size;simp;omega) ?_;intro v1 t1 hown hgrow _ _;obtain⟨g1,cap1,rfl⟩:=dp hown (by omega);have HU:=ac ((HBN.out.alloc (by have:=HBN.out.size;omega) _).grown hgrow (by have:=HBN.out.size;simp;omega) (fun g hg=>(HON.out.lt g hg).1));have HO:=ac hown;clear hown hgrow HBN HON x0 x1 x2 c0 c1 c2 hu1)
 rw [rounds_succ]
 obtain⟨u2,hu2,hbu2,qu2⟩:=am t1 (.cells #[.bool b5,.slice a5 n5 k5,.slice a6 n6 k6] 28)
 obtain⟨x0,x1,x2⟩:=tri qu2
 have CS:=ai HU.out HS.out
 have c0:t1.cell? ⟨gs,6,none⟩=some (.bool b5):=by simp [World.cell?,CS]
 have c1:t1.cell? ⟨gs,7,none⟩=some (.slice a5 n5 k5):=by simp [World.cell?,CS]
 have c2:t1.cell? ⟨gs,8,none⟩=some (.slice a6 n6 k6):=by simp [World.cell?,CS]
 have HBN:=ac (ae HU.out hbu2)
 have HON:=ac (show u2.ownsRow w.heap.size 23 1 (.slice (some ⟨g1,0,none⟩) 4 cap1) 4 [.slice a1 n1 k1,.slice a2 n2 k2,.slice a3 n3 k3,.slice a4 n4 k4] by rw [←hu2];exact HO.out.alloc _)
 clear CS HU HO hbu2 qu2
 go_wp2_with (at_builtin;refine wpList_append_own_at _ rfl _ _ 64 rfl w.heap.size 23 i0 (.slice none 0 0) 1 24 Tryz.underlying64 hi hz0 hz1 hz2 rfl (by decide) (.slice (some ⟨g1,0,none⟩) 4 cap1) 4 [.slice a1 n1 k1,.slice a2 n2 k2,.slice a3 n3 k3,.slice a4 n4 k4] rfl (HON.out.alloc _) ⟨u2.heap.size,0,none⟩ 2 2 [.slice a5 n5 k5,.slice a6 n6 k6] rfl rfl (dJ [.slice a5 n5 k5,.slice a6 n6 k6] 23) (by intro u hu;simp at hu;rcases hu with rfl|rfl <;> rfl) (by unfold maxLen;omega) (by omega) (by have:=HBN.out.size;simp;omega) ?_;intro v2 t2 hown hgrow _ _;obtain⟨g2,cap2,rfl⟩:=dp hown (by omega);have HU:=ac ((HBN.out.alloc (by have:=HBN.out.size;omega) _).grown hgrow (by have:=HBN.out.size;simp;omega) (fun g hg=>(HON.out.lt g hg).1));have HO:=ac hown;clear hown hgrow HBN HON x0 x1 x2 c0 c1 c2 hu2)
 rw [rounds_succ]
 obtain⟨⟨sp,hst⟩,hge⟩:=ij (vs:=[.slice a1 n1 k1,.slice a2 n2 k2,.slice a3 n3 k3,.slice a4 n4 k4,.slice a5 n5 k5,.slice a6 n6 k6]) HO.out HA.out HU.out
 have C:=jb sp cap2 g2 base [.slice a1 n1 k1,.slice a2 n2 k2,.slice a3 n3 k3,.slice a4 n4 k4,.slice a5 n5 k5,.slice a6 n6 k6] (fun i=>rss.getD i []) t2 hst (by simp) (by
  intro i hi'
  have hi2:i<rss.length:=by rw [←HA.out.len];exact hi'
  show (rss.getD i []).length≤_
  have e:rss.getD i []=rss[i]:=by simp [List.getD,hi2]
  rw [e]
  exact HLL.out _ (List.getElem_mem _)) (by have:=HBS.out;omega)
 clear hst hge HO
 go_wp2_with fail
 refine C.mono ?_
 rintro e t9 ⟨rfl,hk⟩
 have HE:=ac (BK.after7 HU.out HBS.out hk)
 clear hk C
 go_wp2
 go_ret
 exact⟨rfl,HE.out⟩

theorem ig (z:Int)(w:World)(h1:-9223372036854775808≤z)(h2:z≤9223372036854775807) :
  Calls Tryz.prog 21 #[.int .i64 z] w (fG w z 1):=by
 obtain⟨w0,hw0,hb0,h0⟩:=am w (.cells #[.bool false,.slice none 0 0,.slice none 0 0] 31)
 have HB0:=ac hb0
 have HX0:=ac h0
 clear hb0 h0
 have HI:=ac (fun (W:World)=>gH 1 W (by omega))
 by_cases hz:z<0
 ·obtain⟨x,hx,hx2⟩:∃x:Nat,z=-(x:Int)∧x<18446744073709551616:=⟨z.natAbs,by omega,by omega⟩
  obtain⟨y,hy⟩:∃y:Int,IntKind.u64.wrap z=y:=⟨_,rfl⟩
  have hy2:y=z+18446744073709551616:=by rw [←hy,IntKind.wrap_u64];omega
  have q1:IntKind.u64.wrap (-y)=(x:Int):=by rw [IntKind.wrap_u64];omega
  have hA:=Arg.lits w0 [x] #[.int .u64 (x:Int)] 1 rfl rfl (by intro z hz;simp at hz;omega) (by simp)
  have hbt:Below w0.heap.size w0 (w0.alloc (.cells #[.int .u64 (x:Int)] 51)):=(Below.refl _ _).alloc (Nat.le_refl _) _
  have C:=di _ [x] _ hA (by simp)
  rw [show val [x]=x by simp [val]] at C
  have HBT:=ac hbt
  have HZ:=ac (And.intro (show true=decide (z<0) from (decide_eq_true hz).symm) (show z.natAbs=x by omega))
  clear hA hbt hx hy2
  go_enter Tryz.func21,Tryz.ntmps21
  go_wp2_with fail
  refine C.mono ?_
  rintro e w1 ⟨⟨vx,rfl,hn⟩,hb1⟩
  have C2:=HI.out w1
  have HN:=ac hn
  have HW1:=ac (ae HBT.out hb1)
  obtain⟨a1,n1,k1,rfl⟩:=hn.sl
  clear C hn hb1
  go_wp2_with fail
  refine C2.mono ?_
  rintro e w2 ⟨⟨vo,rfl,ho⟩,hb2⟩
  obtain⟨a2,n2,k2,rfl⟩:=ho.sl
  have HN1:=ac (HN.out.below hb2)
  have HN2:=ac ho
  have HW:=ac (ae HW1.out hb2)
  clear C2 ho hb2 hw0
  have hz3:=ai HW.out HX0.out
  have hf:=aC hz3
  obtain⟨m0,m1,m2⟩:=tri hz3
  have T1:=Num.tri7 (b':=true) (a1':=a1) (n1':=n1) (k1':=k1) (a2':=a2) (n2':=n2) (k2':=k2) HN1.out hz3
  have T2:=Num.tri7 (b':=true) (a1':=a1) (n1':=n1) (k1':=k1) (a2':=a2) (n2':=n2) (k2':=k2) HN2.out hz3
  have T3:=@aH _ _ _ _ _ (.bool true) (.slice a1 n1 k1) (.slice a2 n2 k2) _ hz3
  have T4:=aG (u0:=.bool true) (u1:=.slice a1 n1 k1) (u2:=.slice a2 n2 k2) (ae HB0.out HW.out) (show w.heap.size≤w.heap.size by omega)
  have HE:=ac (And.intro T1 (And.intro T2 T4))
  obtain⟨p0,p1,p2⟩:=tri T3
  clear T1 T2 T3 T4 hz3
  go_wp2
  clear hf m0 m1 m2
  generalize ((w2.setCell ⟨w.heap.size,0,none⟩ (.bool true)).setCell ⟨w.heap.size,1,none⟩ (.slice a1 n1 k1)).setCell ⟨w.heap.size,2,none⟩ (.slice a2 n2 k2)=w5 at *
  refine bodyPost_ret (v:=.agg #[.bool true,.slice a1 n1 k1,.slice a2 n2 k2]) (by simp [results,Tryz.results21,go_sem,p0,p1,p2]) rfl ?_
  exact⟨⟨_,_,_,_,_,_,_,rfl,_,_,by rw [←HZ.out.1],by rw [HZ.out.2];exact HE.out.1,HE.out.2.1⟩,HE.out.2.2⟩
 ·obtain⟨x,hx,hx2⟩:∃x:Nat,z=(x:Int)∧x<9223372036854775808:=⟨z.natAbs,by omega,by omega⟩
  subst hx
  have C:=gH x w0 hx2
  have HZ:=ac (show false=decide ((x:Int)<0) from (decide_eq_false hz).symm)
  go_enter Tryz.func21,Tryz.ntmps21
  go_wp2_with fail
  refine C.mono ?_
  rintro e w1 ⟨⟨vx,rfl,hn⟩,hb1⟩
  have C2:=HI.out w1
  have HN:=ac hn
  have HW1:=ac hb1
  obtain⟨a1,n1,k1,rfl⟩:=hn.sl
  clear C hn hb1
  go_wp2_with fail
  refine C2.mono ?_
  rintro e w2 ⟨⟨vo,rfl,ho⟩,hb2⟩
  obtain⟨a2,n2,k2,rfl⟩:=ho.sl
  have HN1:=ac (HN.out.below hb2)
  have HN2:=ac ho
  have HW:=ac (ae HW1.out hb2)
  clear C2 ho hb2 hw0
  have hz3:=ai HW.out HX0.out
  have hf:=aC hz3
  obtain⟨m0,m1,m2⟩:=tri hz3
  have T1:=Num.tri7 (b':=false) (a1':=a1) (n1':=n1) (k1':=k1) (a2':=a2) (n2':=n2) (k2':=k2) HN1.out hz3
  have T2:=Num.tri7 (b':=false) (a1':=a1) (n1':=n1) (k1':=k1) (a2':=a2) (n2':=n2) (k2':=k2) HN2.out hz3
  have T3:=@aH _ _ _ _ _ (.bool false) (.slice a1 n1 k1) (.slice a2 n2 k2) _ hz3
  have T4:=aG (u0:=.bool false) (u1:=.slice a1 n1 k1) (u2:=.slice a2 n2 k2) (ae HB0.out HW.out) (show w.heap.size≤w.heap.size by omega)
  have HE:=ac (And.intro T1 (And.intro T2 T4))
  obtain⟨p0,p1,p2⟩:=tri T3
  clear T1 T2 T3 T4 hz3
  go_wp2
  clear hf m0 m1 m2
  generalize ((w2.setCell ⟨w.heap.size,0,none⟩ (.bool false)).setCell ⟨w.heap.size,1,none⟩ (.slice a1 n1 k1)).setCell ⟨w.heap.size,2,none⟩ (.slice a2 n2 k2)=w5 at *
  refine bodyPost_ret (v:=.agg #[.bool false,.slice a1 n1 k1,.slice a2 n2 k2]) (by simp [results,Tryz.results21,go_sem,p0,p1,p2]) rfl ?_
  exact⟨⟨_,_,_,_,_,_,_,rfl,_,_,by rw [←HZ.out],by rw [Int.natAbs_natCast];exact HE.out.1,HE.out.2.1⟩,HE.out.2.2⟩

theorem dz (b:Bool)(v:Value)(X:List Nat)(w:World)(hA:Arg w v X)(hx:X.length≤17592186044416) :
  Calls Tryz.prog 16 #[.agg #[.bool b,v]] w fun e w'=>(∃b' a n k,e=.returned (.agg #[.bool b',.slice a n k])∧Zn w' (.agg #[.bool b',.slice a n k]) (zz b (val X)))∧Below w.heap.size w w':=by
 obtain⟨a,c,rfl,_,_,_⟩:=hA.form
 obtain⟨w0,hw0,hb0,h0,h1⟩:=aJ w (.cells #[.bool b,.slice a X.length c] 26) (.cells #[.bool false,.slice none 0 0] 44)
 have C:=di _ X w0 (hA.below hb0) hx
 obtain⟨k0,k1⟩:=duo h0
 have HB0:=ac hb0
 have HX0:=ac h0
 have HX1:=ac h1
 clear hA hb0 h0 h1
 go_enter Tryz.func16,Tryz.ntmps16
 go_wp2_with fail
 refine C.mono ?_
 rintro e w1 ⟨⟨vn,rfl,hn⟩,hb1⟩
 have Z:=bW vn (val X) w1 hn
 have hx0:=ai hb1 HX0.out
 have hx1:=ai hb1 HX1.out
 have hf1:=go hx1
 obtain⟨k0,k1⟩:=duo hx0
 obtain⟨l0,l1⟩:=duo hx1
 have HY1:=ac hx1
 have HN:=ac hn
 have HB1:=ac (ae HB0.out hb1)
 obtain⟨a1,n1,k1',rfl⟩:=hn.sl
 have hs:(b && !(val X == 0))=decide (zz b (val X)<0):=dP b (val X)
 have HZA:=ac (aY b (val X))
 obtain⟨s,hss⟩:∃s,decide (zz b (val X)<0)=s:=⟨_,rfl⟩
 rw [hss] at hs
 have HSS:=ac hss
 clear C hn hb1 hx0 hx1 hss
 cases b
 ·rw [Bool.false_and] at hs
  subst hs
  go_wp2
  clear k0 k1 l0 l1 hf1 Z
  have R5:=fw HY1.out (a':=.bool false) (b':=.slice a1 n1 k1')
  have HD:=ac (And.intro (HN.out.duo (p1:=false) (r1:=.slice a1 n1 k1') HY1.out) (fi HB1.out (g:=w.heap.size+1) (u0:=.bool false) (u1:=.slice a1 n1 k1') (by omega)))
  generalize (w1.setCell ⟨w.heap.size+1,0,none⟩ (.bool false)).setCell ⟨w.heap.size+1,1,none⟩ (.slice a1 n1 k1')=w5 at *
  obtain⟨q0,q1⟩:=duo R5
  refine bodyPost_ret (v:=.agg #[.bool false,.slice a1 n1 k1']) (by simp [results,Tryz.results16,go_sem,q0,q1]) rfl ?_
  exact⟨⟨_,_,_,_,rfl,_,by rw [HSS.out],by rw [HZA.out];exact HD.out.1⟩,HD.out.2⟩
 ·rw [Bool.true_and] at hs
  have ht:(val X == 0)=!s:=by rw [←hs,Bool.not_not]
  rw [ht] at Z
  clear hs ht
  go_wp2_with fail
  refine Z.mono ?_
  rintro e wn ⟨rfl,hw⟩;rw [hw];clear hw wn Z
  go_wp2
  clear k0 k1 l0 l1 hf1
  have R5:=fw HY1.out (a':=.bool s) (b':=.slice a1 n1 k1')
  have HD:=ac (And.intro (HN.out.duo (p1:=s) (r1:=.slice a1 n1 k1') HY1.out) (fi HB1.out (g:=w.heap.size+1) (u0:=.bool s) (u1:=.slice a1 n1 k1') (by omega)))
  generalize (w1.setCell ⟨w.heap.size+1,0,none⟩ (.bool s)).setCell ⟨w.heap.size+1,1,none⟩ (.slice a1 n1 k1')=w5 at *
  obtain⟨q0,q1⟩:=duo R5
  refine bodyPost_ret (v:=.agg #[.bool s,.slice a1 n1 k1']) (by simp [results,Tryz.results16,go_sem,q0,q1]) rfl ?_
  exact⟨⟨_,_,_,_,rfl,_,by rw [HSS.out],by rw [HZA.out];exact HD.out.1⟩,HD.out.2⟩
end Go.Proofs.YtplegacjglaenaaGreatDoor
namespace Go.Proofs.YtplegacjglaenaaGreatDoor
open Go.RowKit
open Lm

def Bx (w:World)(l:List (Nat × Obj)):Prop:=∀(i g:Nat) (o:Obj),l[i]?=some (g,o)→w.heap[g]?=some o

theorem Bx.nil (w:World):Bx w []:=by intro i g o h;simp at h

theorem Bx.cons {w:World}{g:Nat}{o:Obj}{l:List (Nat × Obj)}(hx:w.heap[g]?=some o)(h:Bx w l):Bx w ((g,o) :: l):=by
 intro i g' o' e
 cases i with
 | zero=>simp at e;obtain⟨rfl,rfl⟩:=e;exact hx
 | succ i=>rw [List.getElem?_cons_succ] at e;exact h i g' o' e

theorem Bx.below {w w':World}{l:List (Nat × Obj)}(h:Bx w l)(hb:Below w.heap.size w w'):Bx w' l:=fun i g o e=>ai hb (h i g o e)

def d4:Obj→Bool
 | .cells _ t (0,0)=>t != 51 && t != 23
 | _=>false

theorem Bx.bk {w w':World}{base:Nat}{l:List (Nat × Obj)}(h:Bx w l)(hk:BK base w w')(hp:(l.all fun p=>d4 p.2)=true):Bx w' l:=by
 intro i g o e
 have hm:(g,o) ∈ l:=List.mem_of_getElem? e
 have:=List.all_eq_true.1 hp _ hm
 have h0:=h i g o e
 cases o with
 | cells cs t fr=>
  obtain⟨f1,f2⟩:=fr
  cases f1 with
  | succ n=>simp [d4] at this
  | zero=>
   cases f2 with
   | succ n=>simp [d4] at this
   | zero=>
    simp only [d4,Bool.and_eq_true,bne_iff_ne] at this
    exact hk.box g cs t this.1 this.2 h0
 | _=>simp [d4] at this
end Go.Proofs.YtplegacjglaenaaGreatDoor
namespace Go.Proofs.YtplegacjglaenaaGreatDoor
open Go.RowKit
open Lm
attribute [local go_sem ↓] Go.wp_at_zero Go.wp_at_succ

def TC (w:World)(base:Nat)(b:Bool)(v1 v2:Value)(z:Int)(d:Nat)(c:Int):Prop:=
 (c=0∧TR w base b v1 v2 z d∧blen z.natAbs≤67108864∧blen d≤67108864)∨(c=70∧b=false∧v1=.slice none 0 0∧v2=.slice none 0 0)

theorem TC.below {w w':World}{base:Nat}{b:Bool}{v1 v2:Value}{z:Int}{d:Nat}{c:Int}(h:TC w base b v1 v2 z d c)(hb:Below w.heap.size w w'):TC w' base b v1 v2 z d c:=by
 rcases h with ⟨h1,h2,h3⟩|h
 ·exact .inl ⟨h1,h2.below hb,h3⟩
 ·exact .inr h

def dv (w:World)(z:Int)(d:Nat)(c:Int)(e:Ending)(w':World):Prop:=
 (∃(b:Bool) (a1:Option Addr) (n1 k1:Nat) (a2:Option Addr) (n2 k2:Nat),e=.returned (.tuple #[.agg #[.bool b,.slice a1 n1 k1,.slice a2 n2 k2],.int .i64 c])∧TC w' w.heap.size b (.slice a1 n1 k1) (.slice a2 n2 k2) z d c)∧Below w.heap.size w w'

theorem dr.tc {w w':World}{z:Int}{d:Nat}{e:Ending}(h:dr w z d e w')(hz:blen z.natAbs≤67108864)(hd:blen d≤67108864):dv w z d 0 e w':=by
 obtain⟨⟨b,a1,n1,k1,a2,n2,k2,h1,h2⟩,h3⟩:=h
 exact⟨⟨b,a1,n1,k1,a2,n2,k2,h1,.inl ⟨rfl,h2,hz,hd⟩⟩,h3⟩

theorem dl.tc {w w':World}{z:Int}{d:Nat}{e:Ending}(h:dl w e w'):dv w z d 70 e w':=
 ⟨⟨false,none,0,0,none,0,0,h.1,.inr ⟨rfl,rfl,rfl,rfl⟩⟩,h.2⟩

def zc (b:Bool)(x y:Nat):Int:=if y=0 then 0 else zz b (x / Nat.gcd x y)

def dc (x y:Nat):Nat:=if y=0 then 0 else y / Nat.gcd x y

def cc (y:Nat):Int:=if y=0 then 70 else 0

theorem od (b:Bool)(x y:Nat):(zc b x y).natAbs≤x:=by
 unfold zc
 split
 ·simp
 ·rw [aY];exact Nat.div_le_self _ _

theorem qa (x y:Nat):dc x y≤y:=by
 unfold dc
 split
 ·omega
 ·exact Nat.div_le_self _ _

theorem fc (b:Bool){X:List Nat}{w:World}{v:Value}(hA:Arg w v X)(s:X.length≤1048576)(y:Nat):blen (zc b (val X) y).natAbs≤67108864:=by
 have h1:=fz (od b (val X) y)
 have h2:=du X hA.limbs
 omega

theorem fd {Y:List Nat}{w:World}{v:Value}(hB:Arg w v Y)(s:Y.length≤1048576)(x:Nat):blen (dc x (val Y))≤67108864:=by
 have h1:=fz (qa x (val Y))
 have h2:=du Y hB.limbs
 omega

theorem bF {b:Bool}{x y:Nat}(h:y≠0):zc b x y=zz b (x / Nat.gcd x y):=if_neg h

theorem bM {x y:Nat}(h:y≠0):dc x y=y / Nat.gcd x y:=if_neg h

theorem cM {y:Nat}(h:y≠0):cc y=0:=if_neg h

theorem cN {y:Nat}(h:y=0):cc y=70:=if_pos h

theorem gZ {x y:Nat}:x / Nat.gcd x y=0 ↔ x=0:=by
 constructor
 ·intro h
  have hd:Nat.gcd x y ∣ x:=Nat.gcd_dvd_left x y
  have:=Nat.div_mul_cancel hd
  rw [h] at this
  omega
 ·rintro rfl;simp

theorem oQ {b:Bool}{x y:Nat}(hy:y≠0):sg b x=(zc b x y).sign:=by
 rw [bF hy,←gk]
 unfold sg
 by_cases h:x=0
 ·rw [if_pos h,if_pos ((gZ (x:=x) (y:=y)).2 h)]
 ·rw [if_neg h,if_neg (fun h'=>h ((gZ (x:=x) (y:=y)).1 h'))]

theorem ib {b b':Bool}{x y:Nat}(h:x≠0→b=b'):zc b x y=zc b' x y:=by
 unfold zc
 split
 ·rfl
 ·by_cases hx:x=0
  ·subst hx;simp [ku]
  ·rw [h hx]

theorem po (b:Bool)(v1 v2:Value)(X Y:List Nat)(w:World)(hA:Arg w v1 X)(hB:Arg w v2 Y)(hx:X.length≤1048576)(hy:Y.length≤1048576) :
  Calls Tryz.prog 6 #[.agg #[.bool b,v1,v2]] w (fL w (zc b (val X) (val Y)) (dc (val X) (val Y)) (decide (val Y≠0))):=by
 by_cases h:val Y=0
 ·have:=pX b v1 v2 X Y w hA hB (by omega) h
  rw [show zc b (val X) (val Y)=0 from if_pos h,show dc (val X) (val Y)=0 from if_pos h,show decide (val Y≠0)=false from decide_eq_false (fun h'=>h' h)]
  exact this
 ·have:=nZ b v1 v2 X Y w hA hB (by omega) (by omega) h
  rw [bF h,bM h,show decide (val Y≠0)=true from decide_eq_true h]
  exact this

theorem d9 (b:Bool)(v1 v2:Value)(X Y:List Nat)(w:World)(hA:Arg w v1 X)(hB:Arg w v2 Y)(hT:Tab w)(hx:X.length≤1048576)(hy:Y.length≤1048576) :
  Calls Tryz.prog 7 #[.agg #[.bool b,v1,v2]] w (dv w (zc b (val X) (val Y)) (dc (val X) (val Y)) (cc (val Y))):=by
 have z1:=fc b hA hx (val Y)
 have d1:=fd hB hy (val X)
 by_cases h:val Y=0
 ·rw [cN h]
  exact (d6 b v1 v2 X Y w hA hB h).mono fun e w' h=>h.tc
 ·rw [cM h]
  refine (ft b v1 v2 X Y w hA hB hT (by omega) (by omega) h ?_ ?_).mono fun e w' h2=>?_
  ·rw [bF h,aY] at z1;exact z1
  ·rw [bM h] at d1;exact d1
  ·rw [←bF h,←bM h] at h2;exact h2.tc z1 d1

theorem gX (b:Bool)(v1 v2:Value)(X Y:List Nat)(w:World)(hA:Arg w v1 X)(hB:Arg w v2 Y)(hT:Tab w)(hx:X.length≤1048576)(hy:Y.length≤1048576) :
  Calls Tryz.prog 10 #[.agg #[.bool b,v1,v2]] w (dv w (-(zc b (val X) (val Y))) (dc (val X) (val Y)) (cc (val Y))):=by
 have z1:=fc b hA hx (val Y)
 have d1:=fd hB hy (val X)
 by_cases h:val Y=0
 ·rw [cN h]
  exact (qy b v1 v2 X Y w hA hB h).mono fun e w' h=>h.tc
 ·rw [cM h]
  refine (qL b v1 v2 X Y w hA hB hT (by omega) (by omega) h ?_ ?_).mono fun e w' h2=>?_
  ·rw [bF h,aY] at z1;exact z1
  ·rw [bM h] at d1;exact d1
  ·rw [kX,←bF h,←bM h] at h2;exact h2.tc (by rw [Int.natAbs_neg];exact z1) d1

theorem jE (b:Bool)(v1 v2:Value)(X Y:List Nat)(w:World)(hA:Arg w v1 X)(hB:Arg w v2 Y)(hT:Tab w)(hx:X.length≤1048576)(hy:Y.length≤1048576) :
  Calls Tryz.prog 11 #[.agg #[.bool b,v1,v2]] w (dv w ((zc b (val X) (val Y)).natAbs:Int) (dc (val X) (val Y)) (cc (val Y))):=by
 have z1:=fc b hA hx (val Y)
 have d1:=fd hB hy (val X)
 by_cases h:val Y=0
 ·rw [cN h]
  exact (qY b v1 v2 X Y w hA hB h).mono fun e w' h=>h.tc
 ·rw [cM h]
  refine (p8 b v1 v2 X Y w hA hB hT (by omega) (by omega) h ?_ ?_).mono fun e w' h2=>?_
  ·rw [bF h,aY] at z1;exact z1
  ·rw [bM h] at d1;exact d1
  ·rw [show zz false (val X / Nat.gcd (val X) (val Y))=((zc b (val X) (val Y)).natAbs:Int) by rw [bF h,aY];rfl,←bM h] at h2;exact h2.tc (by rw [Int.natAbs_natCast];exact z1) d1

theorem g7 (b:Bool)(v1 v2:Value)(X Y:List Nat)(w:World)(hA:Arg w v1 X)(hB:Arg w v2 Y) :
  Calls Tryz.prog 12 #[.agg #[.bool b,v1,v2]] w fun e w'=>e=.returned (.tuple #[.int .i64 (zc b (val X) (val Y)).sign,.int .i64 (cc (val Y))])∧Below w.heap.size w w':=by
 by_cases h:val Y=0
 ·rw [cN h,show zc b (val X) (val Y)=0 from if_pos h]
  exact pQ b v1 v2 X Y w hA hB h
 ·rw [cM h,←oQ h]
  exact qk b v1 v2 X Y w hA hB h

theorem jF (bn bd:Bool)(v1 v2:Value)(X Y:List Nat)(w:World)(hA:Arg w v1 X)(hB:Arg w v2 Y)(hT:Tab w)(hx:X.length≤1048576)(hy:Y.length≤1048576) :
  Calls Tryz.prog 17 #[.agg #[.bool bn,v1],.agg #[.bool bd,v2]] w (dv w (zc (bn != bd) (val X) (val Y)) (dc (val X) (val Y)) (cc (val Y))):=by
 have z1:=fc (bn != bd) hA hx (val Y)
 have d1:=fd hB hy (val X)
 by_cases h:val Y=0
 ·rw [cN h]
  exact (lF bn bd v1 v2 X Y w hA hB h).mono fun e w' h=>h.tc
 ·rw [cM h]
  refine (iJ bn bd v1 v2 X Y w hA hB hT (by omega) (by omega) h ?_ ?_).mono fun e w' h2=>?_
  ·rw [bF h,aY] at z1;exact z1
  ·rw [bM h] at d1;exact d1
  ·rw [←bF h,←bM h] at h2;exact h2.tc z1 d1

theorem bR (base:Nat)(b:Bool)(a1:Option Addr)(n1 k1:Nat)(a2:Option Addr)(n2 k2:Nat)(b':Bool)(p1:Option Addr)(q1 r1:Nat)(p2:Option Addr)(q2 r2:Nat)(z:Int)(d:Nat)(c:Int)(w:World)(h:TC w base b (.slice a1 n1 k1) (.slice a2 n2 k2) z d c)(hr:Rn w (.agg #[.bool b',.slice p1 q1 r1,.slice p2 q2 r2]) z d) :
  Calls Tryz.prog 8 #[.agg #[.bool b,.slice a1 n1 k1,.slice a2 n2 k2],.int .i64 c,.agg #[.bool b',.slice p1 q1 r1,.slice p2 q2 r2],.int .i64 c] w fun e w'=>e=.returned (.bool true)∧Below w.heap.size w w':=by
 rcases h with ⟨rfl,h,hz,hd⟩|⟨rfl,rfl,e1,e2⟩
 ·exact gN base b a1 n1 k1 a2 n2 k2 b' p1 q1 r1 p2 q2 r2 z d w h hr hz hd
 ·simp only [Value.slice.injEq] at e1 e2
  obtain⟨rfl,rfl,rfl⟩:=e1
  obtain⟨rfl,rfl,rfl⟩:=e2
  exact nf b' p1 q1 r1 p2 q2 r2 70 w (by decide)

theorem aD.lower7 {w:World}:∀ {a b:Nat} {us:List Value} {ss:List (List Nat)},aD w b us ss→a≤b→aD w a us ss
 | _,_,[],[],_,_=>trivial
 | _,_,_ :: _,_ :: _,⟨b',h1,h2,h3,h4⟩,h=>⟨b',⟨Nat.le_trans h h1.1,h1.2⟩,h2.base h,h3,h4⟩
 | _,_,[],_ :: _,h,_=>h.elim
 | _,_,_ :: _,[],h,_=>h.elim

theorem aD.app7 {w w':World}(hb:Below w.heap.size w w'){us:List Value}{ss:List (List Nat)}(hc:aD w' w.heap.size us ss):∀ {b:Nat} {vs:List Value} {rs:List (List Nat)},aD w b vs rs→b≤w.heap.size→aD w' b (vs ++ us) (rs ++ ss)
 | _,[],[],_,h=>hc.lower7 h
 | _,_ :: _,_ :: _,⟨b',h1,h2,h3,h4⟩,_=>⟨b',⟨h1.1,Nat.le_trans h1.2 hb.size⟩,h2.below hb,h3,aD.app7 hb hc h4 h1.2⟩
 | _,[],_ :: _,h,_=>h.elim
 | _,_ :: _,[],h,_=>h.elim

theorem TC.chain {w:World}{base:Nat}{b:Bool}{v1 v2:Value}{z:Int}{d:Nat}{c:Int}(h:TC w base b v1 v2 z d c)(hb:base≤w.heap.size):∃r1 r2,aD w base [v1,v2] [r1,r2]∧r1.length≤1048576∧r2.length≤1048576:=by
 rcases h with ⟨_,⟨_,⟨r1,x1,x2,x3⟩,mid,hm,ht,r2,y1,y2,y3⟩,hz,hd⟩|⟨_,_,rfl,rfl⟩
 ·refine⟨r1,r2,⟨min mid w.heap.size,⟨Nat.le_min.2 ⟨hm,hb⟩,Nat.min_le_right _ _⟩,x1,fun g hg=>Nat.lt_min.2 ⟨ht g hg,(x1.own.lt g hg).2⟩,w.heap.size,⟨Nat.min_le_right _ _,Nat.le_refl _⟩,y1.base (Nat.min_le_left _ _),y1.top,trivial⟩,cK x3 x2 (by omega),cK y3 y2 (by omega)⟩
 ·exact⟨[],[],⟨base,⟨Nat.le_refl _,hb⟩,Ans.nil _ _,fun g hg=>by simp [Value.ownBlock] at hg,base,⟨Nat.le_refl _,hb⟩,Ans.nil _ _,fun g hg=>by simp [Value.ownBlock] at hg,trivial⟩,Nat.zero_le _,Nat.zero_le _⟩
end Go.Proofs.YtplegacjglaenaaGreatDoor

