/- Package div: Gcd and Lcm of any numbers. -/
import Derived.Test.YtgnmgbbokcpppaaGreatDoorB13
import Derived.Test.YtgnmgbbokcpppaaGreatDoorB07
import Derived.Handy
import Derived.Test.YtgnmgbbokcpppaaGreatDoorB08
import Derived.Deep.RegionHeld3
import Derived.Test.YtgnmgbbokcpppaaGreatDoorB02
import Derived.Test.YtgnmgbbokcpppaaGreatDoorB05
import Derived.Test.YtgnmgbbokcpppaaGreatDoorB01
import Derived.Maps.AppendAt
set_option maxRecDepth 20000
set_option maxHeartbeats 2000000
namespace Go.Proofs.YtgnmgbbokcpppaaGreatDoor
open Go.RowKit
open Lm
attribute [local go_sem ↓] Go.wp_at_zero Go.wp_at_succ

theorem gZ (va vb:Value)(X Y:List Nat)(w:World)(hA:Arg w va X)(hA2:Arg w vb Y)(hT:Tab w)(hf1:X.length≤17592186044000)(hf2:Y.length≤17592186044000) :
  Calls Tryz.prog 57 #[va,vb] w (gi w (Nat.gcd (val X) (val Y))):=by
 by_cases hX:val X=0
 ·have Z1:=dt va X w hA
  rw [decide_eq_true hX] at Z1
  have HN:=dd vb Y w hA2 (by omega)
  have HG:Hid (Nat.gcd (val X) (val Y)=val Y):=by rw [hX,Nat.gcd_zero_left];exact ac rfl
  generalize Nat.gcd (val X) (val Y)=G at *
  clear hA hA2 hT hX
  go_enter Tryz.func57,Tryz.ntmps57
  go_wp2_with fail
  refine Z1.mono ?_
  rintro e wn ⟨rfl,hw⟩;rw [hw];clear hw wn Z1
  go_wp2_with fail
  refine HN.mono ?_
  rintro e w2 ⟨⟨v,rfl,A1⟩,hb⟩
  have H:=ac (And.intro A1 hb)
  clear HN A1 hb
  go_wp2
  go_ret
  exact⟨⟨_,_,rfl,H.out.1,tr_tr _,by rw [val_tr,HG.out]⟩,H.out.2⟩
 ·by_cases hY:val Y=0
  ·have Z1:=dt va X w hA
   rw [decide_eq_false hX] at Z1
   have Z2:=dt vb Y w hA2
   rw [decide_eq_true hY] at Z2
   have HN:=dd va X w hA (by omega)
   have HG:Hid (Nat.gcd (val X) (val Y)=val X):=by rw [hY,Nat.gcd_zero_right];exact ac rfl
   generalize Nat.gcd (val X) (val Y)=G at *
   clear hA hA2 hT hX hY
   go_enter Tryz.func57,Tryz.ntmps57
   go_wp2_with fail
   refine Z1.mono ?_
   rintro e wn ⟨rfl,hw⟩;rw [hw];clear hw wn Z1
   go_wp2_with fail
   refine Z2.mono ?_
   rintro e wn ⟨rfl,hw⟩;rw [hw];clear hw wn Z2
   go_wp2_with fail
   refine HN.mono ?_
   rintro e w2 ⟨⟨v,rfl,A1⟩,hb⟩
   have H:=ac (And.intro A1 hb)
   clear HN A1 hb
   go_wp2
   go_ret
   exact⟨⟨_,_,rfl,H.out.1,tr_tr _,by rw [val_tr,HG.out]⟩,H.out.2⟩
  ·exact pH va vb X Y w hA hA2 hT hf1 hf2 hX hY fun i j h1 h2=>mx _ _ h1 h2

theorem Ans.offT {w:World}{base g o:Nat}{v u:Value}{zs:List Nat}{vs:Array Value}{t:TypeId}(h:Ans w base v zs)(hl:w.heap[g]?=some (.cells vs t))(ht:t≠62):Ans (w.setCell ⟨g,o,none⟩ u) base v zs:=by
 refine⟨?_,h.limbs⟩
 obtain⟨h1,h2⟩:=h.own
 refine⟨h1,?_⟩
 rcases h2 with h2|⟨g',cap,cur,hv,hg,hh,r⟩
 ·exact .inl h2
 ·refine .inr ⟨g',cap,cur,hv,hg,?_,r⟩
  rw [Below.heap_setCell _ _ _ _ ?_]
  ·exact hh
  ·rintro rfl
   rw [hh] at hl
   simp only [Option.some.injEq,Obj.cells.injEq] at hl
   exact ht hl.2.1.symm

theorem TN.offT {w:World}{base g o x:Nat}{v u:Value}{vs:Array Value}{t:TypeId}(h:TN w base v x)(hl:w.heap[g]?=some (.cells vs t))(ht:t≠62):TN (w.setCell ⟨g,o,none⟩ u) base v x:=by
 obtain⟨rs,h1,h2⟩:=h
 exact⟨rs,h1.offT hl ht,h2⟩

def TR (w:World)(base:Nat)(b:Bool)(v1 v2:Value)(z:Int)(d:Nat):Prop:=
 b=decide (z<0)∧TN w base v1 z.natAbs∧∃mid,base≤mid∧(∀g,v1.ownBlock=some g→g<mid)∧TN w mid v2 d

theorem TR.below {w w':World}{base:Nat}{b:Bool}{v1 v2:Value}{z:Int}{d:Nat}(h:TR w base b v1 v2 z d)(hb:Below w.heap.size w w'):TR w' base b v1 v2 z d:=by
 obtain⟨h1,h2,mid,h3,h4,h5⟩:=h
 exact⟨h1,h2.below hb,mid,h3,h4,h5.below hb⟩

theorem TR.base {w:World}{base base':Nat}{b:Bool}{v1 v2:Value}{z:Int}{d:Nat}(h:TR w base b v1 v2 z d)(hb:base'≤base):TR w base' b v1 v2 z d:=by
 obtain⟨h1,⟨rs,h2,h2'⟩,mid,h3,h4,h5⟩:=h
 exact⟨h1,⟨rs,h2.base hb,h2'⟩,mid,Nat.le_trans hb h3,h4,h5⟩

theorem TR.offT {w:World}{base g o:Nat}{b:Bool}{v1 v2 u:Value}{z:Int}{d:Nat}{vs:Array Value}{t:TypeId}(h:TR w base b v1 v2 z d)(hl:w.heap[g]?=some (.cells vs t))(ht:t≠62):TR (w.setCell ⟨g,o,none⟩ u) base b v1 v2 z d:=by
 obtain⟨h1,h2,mid,h3,h4,h5⟩:=h
 exact⟨h1,h2.offT hl ht,mid,h3,h4,h5.offT hl ht⟩

theorem aG {w:World}{g:Nat}{a b c u0 u1 u2:Value}{t:TypeId}(h:w.heap[g]?=some (.cells #[a,b,c] t)):(((w.setCell ⟨g,0,none⟩ u0).setCell ⟨g,1,none⟩ u1).setCell ⟨g,2,none⟩ u2).heap[g]?=some (.cells #[u0,u1,u2] t):=
 aj (aj (aj h u0) u1) u2

theorem tri {w:World}{g:Nat}{a b c:Value}{t:TypeId}(h:w.heap[g]?=some (.cells #[a,b,c] t)):w.cell? ⟨g,0,none⟩=some a∧w.cell? ⟨g,1,none⟩=some b∧w.cell? ⟨g,2,none⟩=some c:=⟨by simp [World.cell?,h],by simp [World.cell?,h],by simp [World.cell?,h]⟩

theorem aE {w:World}{g:Nat}{a b c:Value}{t:TypeId}(h:w.heap[g]?=some (.cells #[a,b,c] t)):∀k,w.frozen? ⟨g,k,none⟩=false:=fun k=>by simp [World.frozen?,h]

theorem TR.tri {w:World}{base g:Nat}{b:Bool}{v1 v2 a0 a1 a2 u0 u1 u2:Value}{z:Int}{d:Nat}(h:TR w base b v1 v2 z d)(hl:w.heap[g]?=some (.cells #[a0,a1,a2] 27)):TR (((w.setCell ⟨g,0,none⟩ u0).setCell ⟨g,1,none⟩ u1).setCell ⟨g,2,none⟩ u2) base b v1 v2 z d:=
 ((h.offT hl (by decide)).offT (aj hl u0) (by decide)).offT (aj (aj hl u0) u1) (by decide)

theorem aF {B:Nat}{w0 w:World}{g:Nat}{u0 u1 u2:Value}(h:Below B w0 w)(hg:B≤g):Below B w0 (((w.setCell ⟨g,0,none⟩ u0).setCell ⟨g,1,none⟩ u1).setCell ⟨g,2,none⟩ u2):=
 ((h.setCell (p:=⟨g,0,none⟩) hg u0).setCell (p:=⟨g,1,none⟩) hg u1).setCell (p:=⟨g,2,none⟩) hg u2

theorem ah {W0 W t:World}(h:Below W0.heap.size W0 W)(h2:Below W.heap.size W t):Below W0.heap.size W0 t:=h.trans (h2.mono h.size)

def aD (w:World)(z:Int)(d:Nat)(e:Ending)(w':World):Prop:=
 (∃(b:Bool) (a1:Option Addr) (n1 k1:Nat) (a2:Option Addr) (n2 k2:Nat),e=.returned (.agg #[.bool b,.slice a1 n1 k1,.slice a2 n2 k2])∧TR w' w.heap.size b (.slice a1 n1 k1) (.slice a2 n2 k2) z d)∧Below w.heap.size w w'

theorem jf (bn:Bool)(vn vd vg:Value)(X Y Z:List Nat)(w:World)(hA:Arg w vn X)(hB:Arg w vd Y)(hC:Arg w vg Z)(hT:Tab w)(hf1:X.length≤17592186044000)(hf2:Y.length≤17592186044000)(hf3:Z.length≤17592186044000)(hZ:val Z≠0)
  (q1:blen (val X / val Z)≤67108864) (m1:blen (val X % val Z)≤67108864) (q2:blen (val Y / val Z)≤67108864) (m2:blen (val Y % val Z)≤67108864) :
  Calls Tryz.prog 61 #[.agg #[.bool bn,vn],vd,vg] w (aD w (zz bn (val X / val Z)) (val Y / val Z)):=by
 obtain⟨a,n,rfl,_,_,_⟩:=hA.form
 obtain⟨ad,nd,rfl,_,_,_⟩:=hB.form
 obtain⟨ag,ng,rfl,_,_,_⟩:=hC.form
 obtain⟨w0,hw0,hb0,h0,h1⟩:=aY w (.cells #[.bool bn,.slice a X.length n] 25) (.cells #[.bool false,.slice none 0 0,.slice none 0 0] 27)
 have H1:=ac h1
 have HB0:=ac hb0
 have gd:Below w.heap.size w w0.drew:=hb0.drew
 have g0:Below w0.drew.heap.size w0.drew w0.drew:=Below.refl _ _
 have E1:=gF _ _ X Z w0.drew (hA.below gd) (hC.below gd) (hT.below gd) (by omega) (by omega) hZ q1 m1
 have E2:=ac (fun (W:World) (hg:Below w0.drew.heap.size w0.drew W)=>gF (.slice ad Y.length nd) (.slice ag Z.length ng) Y Z W ((hB.below gd).below hg) ((hC.below gd).below hg) ((hT.below gd).below hg) (by omega) (by omega) hZ q2 m2)
 have KS:=ac (fun (W:World) (hg:Below w0.drew.heap.size w0.drew W)=>show W.cell? ⟨w.heap.size,0,none⟩=some (.bool bn)∧W.cell? ⟨w.heap.size,1,none⟩=some (.slice a X.length n) from duo (ae hg (show w0.drew.heap[w.heap.size]?=some (.cells #[.bool bn,.slice a X.length n] 25) from h0)))
 have so:∀(W:World) (k:Nat) (u:Value) (k':Nat),(W.setCell ⟨w.heap.size+1,k,none⟩ u).cell? ⟨w.heap.size,k',none⟩=W.cell? ⟨w.heap.size,k',none⟩:=fun W k u k'=>aB (by omega)
 clear hA hB hC hT h0 h1 hb0 gd
 go_enter Tryz.func61,Tryz.ntmps61
 go_wp2
 go_region_held3 (fun w'=>w'.cell? ⟨w.heap.size,0,none⟩=some (.bool bn)∧w'.cell? ⟨w.heap.size,1,none⟩=some (.slice a X.length n)) (first|with_reducible exact KS.out _ g3|with_reducible exact KS.out _ g2|with_reducible exact KS.out _ g1|with_reducible exact KS.out _ g0 | (refine⟨?_,?_⟩ <;> (rw [so,so,so];first|exact (KS.out _ g3).1|exact (KS.out _ g3).2))) (first
  | (go_at_call_of 58 a;refine E1.mono ?_;rintro e' t1 ⟨⟨v1,rfl,y1⟩,hb1⟩;have g1:=ah g0 hb1;obtain⟨r1,x1,x2,x3⟩:=y1;obtain⟨a1,c1,rfl⟩:=x1.shape)
  | (go_at_call 67;refine (gM bn _ r1 w0.drew.heap.size t1 x1).mono ?_;rintro e' t2 ⟨rfl,hb2⟩;have g2:=ah g1 hb2)
  | (go_at_call_of 58 ad;refine (E2.out t2 g2).mono ?_;rintro e' t3 ⟨⟨v2,rfl,y2⟩,hb3⟩;have g3:=ah g2 hb3;obtain⟨r2,z1,z2,z3⟩:=y2;obtain⟨a2,c2,rfl⟩:=z1.shape;have hz3:=ae g3 (show w0.drew.heap[w.heap.size+1]?=some (.cells #[.bool false,.slice none 0 0,.slice none 0 0] 27) from H1.out);have hf:=aE hz3;obtain⟨m0,m1',m2'⟩:=tri hz3))
 have hw0s:=HB0.out.size
 have T1:TR t3 w.heap.size (bn && decide (0<r1.length)) (.slice a1 r1.length c1) (.slice a2 r2.length c2) (zz bn (val X / val Z)) (val Y / val Z):=by
  refine⟨dW bn x3 x2,⟨r1,((x1.below hb2).below hb3).base hw0s,by rw [aM];exact x2,x3⟩,t2.heap.size,Nat.le_trans hw0s g2.size,fun g hg=>Nat.lt_of_lt_of_le ((x1.own.lt g hg).2) hb2.size,r2,z1,z2,z3⟩
 have T2:=T1.tri (u0:=.bool (bn && decide (0<r1.length))) (u1:=.slice a1 r1.length c1) (u2:=.slice a2 r2.length c2) hz3
 have T3:=aG (u0:=.bool (bn && decide (0<r1.length))) (u1:=.slice a1 r1.length c1) (u2:=.slice a2 r2.length c2) hz3
 have T4:=aF (u0:=.bool (bn && decide (0<r1.length))) (u1:=.slice a1 r1.length c1) (u2:=.slice a2 r2.length c2) (ah (show Below w.heap.size w w0.drew from HB0.out.drew) g3) (show w.heap.size≤w.heap.size+1 by omega)
 have HE:=ac (And.intro T2 T4)
 obtain⟨p0,p1,p2⟩:=tri T3
 clear T1 T2 T3 T4 so hz3 hf m0 m1' m2' x1 x2 x3 z1 z2 z3 hb1 hb2 hb3 g0 g1 g2 g3 KS E2 E1
 generalize ((t3.setCell ⟨w.heap.size+1,0,none⟩ (.bool (bn && decide (0<r1.length)))).setCell ⟨w.heap.size+1,1,none⟩ (.slice a1 r1.length c1)).setCell ⟨w.heap.size+1,2,none⟩ (.slice a2 r2.length c2)=w5 at *
 generalize (bn && decide (0<r1.length))=bb at *
 go_wp2
 refine bodyPost_ret (v:=.agg #[.bool bb,.slice a1 r1.length c1,.slice a2 r2.length c2]) (by simp [results,Tryz.results61,go_sem,p0,p1,p2]) rfl ?_
 exact⟨⟨_,_,_,_,_,_,_,rfl,HE.out.1⟩,HE.out.2⟩

def RfN (w:World)(x:Nat)(e:Ending)(w':World):Prop:=(∃v,e=.returned v∧TN w' w.heap.size v x)∧Below w.heap.size w w'

theorem RfN.trimmed {w w':World}{g:Nat}{Z:List Nat}{x:Nat}(hg:w.heap.size≤g)(hb:Blk w' g Z)(hl:Limbs Z)(hz:Z.length≤1125899906842624)(hx:val Z=x)(hbel:Below w.heap.size w w') :
  Calls Tryz.prog 97 #[.slice (some ⟨g,0,none⟩) Z.length Z.length] w' fun e w''=>e=.returned (.slice (some ⟨g,0,none⟩) (tr Z).length Z.length)∧w''=w'∧RfN w x e w'':=by
 have A1:=Ans.of_blk (base:=w.heap.size) (zs:=Z) hg hb List.take_length.symm (Nat.le_refl _) (by omega) hl
 have hA:=A1.arg hz
 obtain⟨ao,cap,e0,h1,h2,h3⟩:=hA.form
 cases e0
 refine (iQ _ _ Z w' h1 h2 h3).mono ?_
 rintro e w2 ⟨rfl,rfl⟩
 exact⟨rfl,rfl,⟨_,rfl,tr Z,A1.trim,by rw [val_tr];exact hx,tr_tr Z⟩,hbel⟩

theorem Arg.ttrim {w:World}{v:Value}{X:List Nat}(h:Arg w v X):∃ao cap,v=.slice ao X.length cap∧(∀w',Below w.heap.size w w'→Calls Tryz.prog 97 #[v] w' fun e w''=>e=.returned (.slice ao (tr X).length cap)∧w''=w')∧Arg w (.slice ao (tr X).length cap) (tr X):=by
 obtain⟨ao,cap,rfl,h1,h2,h3⟩:=h.form
 exact⟨ao,cap,rfl,fun w' hb=>iQ ao cap X w' h1 h2 (h3.below hb),h.trim⟩

theorem Arg.tlies {w:World}{a:Option Addr}{n c:Nat}{X:List Nat}(h:Arg w (.slice a n c) X):aq w a X:=by
 obtain⟨_,_,e,_,_,hl⟩:=h.form
 cases e
 exact hl

theorem kB (x c:Nat)(hc:c≤1)(w:World) :
  (callFunc 128 #[.int .u64 x,.int .u64 0,.int .u64 c]).run Tryz.prog w =
   .ok (.value (.tuple #[.int .u64 (((x+0+c) % 18446744073709551616:Nat):Int),.int .u64 (((x+0+c) / 18446744073709551616:Nat):Int)])) w:=
 cZ x 0 c hc w

theorem j8 (x b:Nat)(hb:b≤1)(w:World) :
  (callFunc 125 #[.int .u64 x,.int .u64 0,.int .u64 b]).run Tryz.prog w =
   .ok (.value (.tuple #[.int .u64 (((x+18446744073709551616 - 0 - b) % 18446744073709551616:Nat):Int),.int .u64 ((bor x 0 b:Nat):Int)])) w:=
 cG x 0 b hb w

theorem mG (bz zo n cap:Nat)(Z:List Nat)(va:Value)(X:List Nat)(w:World)(hB:Blk w bz Z)(hLZ:Limbs Z)(hA:Arg w va X)(ho:0<X.length→Off va bz zo (zo+n))
  (hzo:zo+n≤Z.length) (hc1:n≤cap) (hc2:cap≤9223372036854775807) (hXn:X.length≤n) (hfit:sv Z zo n+val X<18446744073709551616 ^ n) :
  Calls Tryz.prog 98 #[.slice (some ⟨bz,zo,none⟩) n cap,va] w (au bz zo n Z w (sv Z zo n+val X)):=by
 obtain⟨a1,c1,rfl,hcc1,hcm1,hl1⟩:=hA.form
 have hX:=hA.few
 have M1:=hA.limbs
 have hao:0<X.length→∀b off,a1=some ⟨b,off,none⟩→b≠bz∨off+X.length≤zo∨zo+n≤off:=fun h b off e=>by
  subst e
  exact ho h b off _ _ rfl
 have L1:=hl1
 have hln:=hXn
 clear ho hA hl1 hXn
 generalize X=P at *
 have HFIT:=ac hfit
 have HB0:=ac hB
 have HLZ:=ac hLZ
 clear hfit
 go_enter Tryz.func98,Tryz.ntmps98
 go_wp2
 go_loopw [4,5] (fun c i wr=>∃(k cy:Nat) (Z':List Nat),k≤n∧i=.int .i64 k∧c=.int .u64 cy∧cy≤1∧Out Z Z' zo (zo+k)∧Limbs Z'∧Blk wr bz Z'∧Fr bz w wr ∧
   sv Z' zo k+cy*18446744073709551616 ^ k=sv Z zo k+val (P.take k)) (fun _ i _=>n - (intOf i).toNat)
 case atStart=>exact⟨0,0,Z,Nat.zero_le _,rfl,rfl,by omega,Out.refl _ _ _,HLZ.out,HB0.out,Fr.refl _ _,by simp [aC,val]⟩
 case round=>
  obtain⟨k,cy,Z',hk,rfl,rfl,hcy,hout,hlz,hblk,hfr0,hval⟩:=hrel
  have HV:=ac hval
  have HB:=ac hblk
  have HF:=ac hfr0
  have HO:=ac hout
  have hl:=hout.len
  clear hval
  by_cases hkl:k<P.length
  ·rcases L1.fr (hao (by omega)) hfr0 hB hblk (hout.wider (Nat.le_refl _) (by omega)) with h0|⟨b,off,rfl,hcell⟩
   ·rw [h0] at hkl;simp at hkl
   ·have hck:=hcell k hkl
    have hfr:=hblk.free (zo+k)
    have hco:=hblk.cell (zo+k) (by omega)
    have z1:=limb_lt M1 k
    have z2:=limb_lt hlz (zo+k)
    have hsame:=hout.same (zo+k) (by omega)
    have ha:=cZ (Z'.getD (zo+k) 0) (P.getD k 0) cy hcy
    obtain⟨q1,q2,q3⟩:=df (Z'.getD (zo+k) 0) (P.getD k 0) cy z2 z1 hcy
    have HS:=ac (cO Z Z' zo k cy _ _ (P.getD k 0) _ (by omega) hl HV.out (by rw [←hsame];exact q1))
    rw [←val_take_next P k] at HS
    generalize Z'.getD (zo+k) 0=z at *
    generalize P.getD k 0=x at *
    clear hsame q1
    generalize (z+x+cy) % 18446744073709551616=s at *
    generalize (z+x+cy) / 18446744073709551616=c2 at *
    have i1:(k:Int)<(P.length:Int):=by omega
    clear hcell hblk hfr0 hout HV M1 L1 hB hLZ
    go_wp2
    go_roundw
    case rel=>exact⟨k+1,c2,Z'.set (zo+k) s,by omega,by go_num,rfl,q2,(HO.out.wider (Nat.le_refl _) (by omega)).set _ _ (by omega) (by omega),limbs_set hlz _ _ q3,HB.out.set _ s,HF.out.setCell _ _,HS.out⟩
    case measure=>simp [intOf];omega
  ·have ek:P.take k=P:=List.take_of_length_le (by omega)
   have ek1:P.take (k+1)=P:=List.take_of_length_le (by omega)
   have i1:¬(k:Int)<(P.length:Int):=by omega
   rw [ek] at HV
   clear L1 hB M1 hLZ ek
   by_cases hc0:cy=0
   ·subst hc0
    have HR:=ac (eZ Z Z' zo k n _ hk hzo hout (by have h:=HV.out;rw [Nat.zero_mul,Nat.add_zero] at h;exact h))
    clear hblk hfr0 hout HV ek1
    go_wp2
    go_end0
    exact⟨rfl,Z',HO.out.wider (Nat.le_refl _) (by omega),hlz,HB.out,HF.out,HR.out⟩
   ·have hpos:(0:Int)<(cy:Int):=by omega
    have hkn:k<n:=by
     rcases Nat.lt_or_ge k n with h|h
     ·exact h
     ·have ek:k=n:=by omega
      subst ek
      exact absurd (f8 Z Z' zo k cy (val P) HFIT.out HV.out) hc0
    have hfr:=hblk.free (zo+k)
    have hco:=hblk.cell (zo+k) (by omega)
    have z2:=limb_lt hlz (zo+k)
    have hsame:=hout.same (zo+k) (by omega)
    have ha:=kB (Z'.getD (zo+k) 0) cy hcy
    obtain⟨q1,q2,q3⟩:=df (Z'.getD (zo+k) 0) 0 cy z2 (by omega) hcy
    have HS:=ac (cO Z Z' zo k cy _ _ 0 _ (by omega) hl HV.out (by rw [←hsame];exact q1))
    rw [Nat.mul_zero,Nat.add_zero (val P),←ek1] at HS
    generalize Z'.getD (zo+k) 0=z at *
    clear hsame q1 ek1
    generalize (z+0+cy) % 18446744073709551616=s at *
    generalize (z+0+cy) / 18446744073709551616=c2 at *
    clear hblk hfr0 hout HV hc0
    go_wp2
    go_roundw
    case rel=>exact⟨k+1,c2,Z'.set (zo+k) s,by omega,by go_num,rfl,q2,(HO.out.wider (Nat.le_refl _) (by omega)).set _ _ (by omega) (by omega),limbs_set hlz _ _ q3,HB.out.set _ s,HF.out.setCell _ _,HS.out⟩
    case measure=>simp [intOf];omega

theorem pO (va vb:Value)(X Y:List Nat)(w:World)(hA:Arg w va X)(hB:Arg w vb Y)(hx:X.length≤17592186044416)(hy:Y.length≤17592186044416) :
  Calls Tryz.prog 93 #[va,vb] w (RfN w (val X+val Y)):=by
 obtain⟨a1,c1,rfl,_,_,_⟩:=hA.form
 obtain⟨a2,c2,rfl,_,_,_⟩:=hB.form
 have f1:=hA.few
 have f2:=hB.few
 obtain⟨m,em,hm1,hm2,hm3⟩:∃m:Nat,max (X.length:Int) (Y.length:Int)=(m:Int)∧X.length≤m∧Y.length≤m∧m≤17592186044416:=⟨max X.length Y.length,by omega,by omega,by omega,by omega⟩
 obtain⟨H',eH,hH1,hH2⟩:∃H':Nat,(m:Int)+1=(H':Int)∧H'≤m+1∧m+1≤H':=⟨m+1,by omega,by omega,by omega⟩
 obtain⟨i0,hi,hz0,hz1,hz2⟩:=info_parts Tryz.infoU
 go_enter Tryz.func93,Tryz.ntmps93
 go_wp2_with (at_make;refine wpList_make_full _ rfl _ _ 23 rfl w.heap.size 62 i0 (.int .u64 0) 1 Tryz.underlying23 hi hz0 hz1 .i64 .i64 _ _ H' rfl rfl (by omega) (by omega) (by rw [hz2];omega) (by unfold maxLen;omega) (Nat.le_refl _) ?_;intro w1 hown hgrow;obtain⟨w2,M2,hcp,B2,L2,F2,O2,S2⟩:=bZ w.heap.size 0 H' H' (List.replicate H' 0) a1 c1 X w1 (Blk.made hown) (limbs_replicate _) hA.limbs (bU H' 0 H') (by simp) (by omega) (hA.below ((Below.refl w.heap.size w).grown hgrow (Nat.le_refl _) (fun k hk=>by cases hk))).tlies)
 have hb1:Below w.heap.size w w1:=(Below.refl w.heap.size w).grown hgrow (Nat.le_refl _) (fun k hk=>by cases hk)
 have hb2:Below w.heap.size w w2:=hb1.trans (F2.below (Nat.le_refl _) hb1.size)
 have l2:M2.length=H':=by rw [O2.len,List.length_replicate]
 have s2:sv M2 0 H'=val X:=S2
 have hfit:sv M2 0 H'+val Y<18446744073709551616 ^ H':=by
  rw [s2]
  have h1:=val_lt hA.limbs
  have h2:=val_lt hB.limbs
  have h3:18446744073709551616 ^ X.length≤18446744073709551616 ^ m:=Nat.pow_le_pow_right (by omega) (by omega)
  have h4:18446744073709551616 ^ Y.length≤18446744073709551616 ^ m:=Nat.pow_le_pow_right (by omega) (by omega)
  have h5:18446744073709551616 ^ H'=18446744073709551616 ^ m*18446744073709551616:=by rw [show H'=m+1 by omega,Nat.pow_succ]
  omega
 have HP:=mG w.heap.size 0 H' H' M2 _ Y w2 B2 L2 (hB.below hb2) (fun h0 b off n c e=>.inl (by cases e;have:=hB.block h0;omega)) (by omega) (Nat.le_refl _) (by omega) (by omega) hfit
 clear B2 L2 F2 O2 S2 hown hgrow hb1
 refine HP.mono ?_
 rintro e w3 ⟨rfl,M3,O3,L3,B3,F3,S3⟩
 have HR:=RfN.trimmed (w:=w) (x:=val X+val Y) (Nat.le_refl _) B3 L3 (by rw [O3.len];omega) (by rw [←s2,←S3,←l2,←O3.len,bG]) (hb2.trans (F3.below (Nat.le_refl _) hb2.size))
 have l3:M3.length=H':=by rw [O3.len];exact l2
 rw [l3] at HR
 clear HP O3 L3 B3 F3 S3 hb2 s2 hfit
 go_wp2_with fail
 refine HR.mono ?_
 rintro e w4 ⟨rfl,rfl,hd⟩
 have HD:=ac hd
 go_wp2
 go_returns
 exact HD.out

theorem eo {Z:List Nat}{k cy c2 s v p V P:Nat}(hz:k<Z.length)(h:sv Z 0 k+V=P+cy*18446744073709551616 ^ k)(hs:s+v+cy=p+c2*18446744073709551616) :
  sv (Z.set k s) 0 (k+1)+(V+18446744073709551616 ^ k*v)=(P+18446744073709551616 ^ k*p)+c2*18446744073709551616 ^ (k+1):=by
 have e:=ch Z 0 k s (by omega)
 rw [Nat.zero_add] at e
 rw [e,show (18446744073709551616:Nat) ^ (k+1)=18446744073709551616 ^ k*18446744073709551616 from Nat.pow_succ ..]
 generalize sv Z 0 k=A at *
 generalize (18446744073709551616:Nat) ^ k=PP at *
 generalize (18446744073709551616:Nat)=W at *
 grind

theorem bt7 {W0 W t:World}(h:Below W0.heap.size W0 W)(h2:Below W.heap.size W t):Below W0.heap.size W0 t:=h.trans (h2.mono h.size)

theorem lI (va vb:Value)(X Y:List Nat)(w:World)(hA:Arg w va X)(hB:Arg w vb Y)(hx:X.length≤17592186044416)(hy:Y.length≤17592186044416) :
  Calls Tryz.prog 95 #[va,vb] w (RfN w ((val X - val Y)+(val Y - val X))):=by
 have HC:=dC va vb X Y w hA hB
 have hcx:=val_tr X
 have hcy:=val_tr Y
 have e1:=tr_length_le X
 have e2:=tr_length_le Y
 have hlx:=limbs_tr hA.limbs
 have hly:=limbs_tr hB.limbs
 have HTX:=ac (fun (W:World) (hg:Below w.heap.size w W)=>(hA.below hg).ttrim)
 have HTY:=ac (fun (W:World) (hg:Below w.heap.size w W)=>(hB.below hg).ttrim)
 obtain⟨a1,c1,rfl,_,_,_⟩:=hA.form
 obtain⟨a2,c2,rfl,_,_,_⟩:=hB.form
 clear hA hB
 obtain⟨i0,hi,hz0,hz1,hz2⟩:=info_parts Tryz.infoU
 by_cases hlt:val X<val Y
 ·rw [cmpN_lt hlt] at HC
  have HXY:=ac (show val X - val Y+(val Y - val X)=val Y - val X by omega)
  have hle:val (tr X)≤val (tr Y):=by omega
  have hln:(tr X).length≤(tr Y).length:=aL X _ (by have:=val_lt hly;omega)
  obtain⟨x,hxv⟩:∃x,val X=x:=⟨_,rfl⟩
  obtain⟨y,hyv⟩:∃y,val Y=y:=⟨_,rfl⟩
  rw [hxv,hyv] at HXY ⊢
  rw [hxv] at hcx
  rw [hyv] at hcy
  clear hxv hyv hlt
  clear hlx hly
  go_enter Tryz.func95,Tryz.ntmps95
  go_wp2_with fail
  refine HC.mono ?_
  rintro e w3 ⟨rfl,hs⟩
  have hbs:Below w.heap.size w w3:=hs.below _
  have HBW:=ac hbs
  obtain⟨_,_,e3,TX,XX⟩:=HTX.out w3 hbs
  obtain⟨_,_,e4,TY,XY⟩:=HTY.out w3 hbs
  cases e3
  cases e4
  have TX:=TX w3 (Below.refl _ _)
  have TY:=TY w3 (Below.refl _ _)
  clear HC hs hbs HTX HTY
  generalize tr X=P at *
  generalize tr Y=Q at *
  go_wp2_with fail
  refine TY.mono ?_
  rintro e wn ⟨rfl,hw⟩;rw [hw];clear hw wn TY
  go_wp2_with fail
  refine TX.mono ?_
  rintro e wn ⟨rfl,hw⟩;rw [hw];clear hw wn TX
  have HXV:=ac hcx
  have HYV:=ac hcy
  clear hcx hcy
  obtain⟨n,hn⟩:∃n,Q.length=n:=⟨_,rfl⟩
  have hPn:Q.length≤n:=by omega
  rw [hn] at XY hln ⊢
  go_wp2_with (at_make;refine wpList_make_full _ rfl _ _ 23 rfl w3.heap.size 62 i0 (.int .u64 0) 1 Tryz.underlying23 hi hz0 hz1 .i64 .i64 _ _ n rfl rfl (by omega) (by omega) (by rw [hz2];omega) (by unfold maxLen;omega) (Nat.le_refl _) ?_;intro w1 hown hgrow)
  have hb1:Below w3.heap.size w3 w1:=(Below.refl w3.heap.size w3).grown hgrow (Nat.le_refl _) (fun k hk=>by cases hk)
  have B2:=Blk.made hown
  have LP:=(XY.below hb1).tlies
  have LQ:=(XX.below hb1).tlies
  have MP:=XY.limbs
  have MQ:=XX.limbs
  have hap:0<Q.length→∀b off,a2=some ⟨b,off,none⟩→b≠w3.heap.size∨off+Q.length≤0∨0+n≤off:=fun h b off e=>by
   subst e
   have hh:=XY.block (by omega)
   exact .inl (by omega)
  have haq:0<P.length→∀b off,a1=some ⟨b,off,none⟩→b≠w3.heap.size∨off+P.length≤0∨0+n≤off:=fun h b off e=>by
   subst e
   have hh:=XX.block h
   exact .inl (by omega)
  have HB1:=ac hb1
  have HB0:=ac B2
  have HLE:=ac hle
  clear XY XX hown hgrow hb1 hle hi hz0 hz1 hz2
  go_loopw [6,25] (fun c i wr=>∃(k cy:Nat) (Z':List Nat),k≤n∧i=.int .i64 k∧c=.int .u64 cy∧cy≤1∧Out (List.replicate n 0) Z' 0 (0+k)∧Limbs Z'∧Blk wr w3.heap.size Z'∧Fr w3.heap.size w1 wr ∧
    sv Z' 0 k+val (P.take k)=val (Q.take k)+cy*18446744073709551616 ^ k) (fun _ i _=>n - (intOf i).toNat)
  case atStart=>exact⟨0,0,List.replicate n 0,Nat.zero_le _,rfl,rfl,by omega,Out.refl _ _ _,limbs_replicate _,HB0.out,Fr.refl _ _,by simp [aC,val]⟩
  case round=>
   obtain⟨k,cy,Z',hk,rfl,rfl,hcy,hout,hlz,hblk,hfr0,hval⟩:=hrel
   have HV:=ac hval
   have HB:=ac hblk
   have HF:=ac hfr0
   have HO:=ac hout
   have hl:Z'.length=n:=by rw [hout.len,List.length_replicate]
   clear hval
   by_cases hkn:k<n
   ·rcases LP.fr (hap (by omega)) hfr0 B2 hblk (hout.wider (Nat.le_refl _) (by omega)) with h0|⟨bp,op,rfl,hcellp⟩
    ·rw [h0] at hn;simp at hn;omega
    ·have hckp:=hcellp k (by omega)
     have hfr:=hblk.free k
     have hco:=hblk.cell k (by omega)
     have z1:=limb_lt MP k
     have i0:(k:Int)<(n:Int):=by omega
     have vP:=val_take_next Q k
     by_cases hkq:k<P.length
     ·rcases LQ.fr (haq (by omega)) hfr0 B2 hblk (hout.wider (Nat.le_refl _) (by omega)) with h0|⟨bq,oq,rfl,hcellq⟩
      ·rw [h0] at hkq;simp at hkq
      ·have hckq:=hcellq k hkq
       have z2:=limb_lt MQ k
       have vQ:=val_take_next P k
       have ha:=cG (Q.getD k 0) (P.getD k 0) cy hcy
       obtain⟨q1,q2,q3⟩:=ce (Q.getD k 0) (P.getD k 0) cy z1 z2 hcy
       have HS:=eo (by omega) HV.out q1
       rw [←vP,←vQ] at HS
       replace HS:=ac HS
       generalize Q.getD k 0=z at *
       generalize P.getD k 0=x at *
       clear q1 vP vQ
       generalize (z+18446744073709551616 - x - cy) % 18446744073709551616=s at *
       generalize bor z x cy=c2 at *
       have i1:(k:Int)<(P.length:Int):=by omega
       clear hcellp hcellq hblk hfr0 hout HV MP MQ LP LQ B2
       go_wp2
       go_roundw
       case rel=>exact⟨k+1,c2,Z'.set k s,by omega,by go_num,rfl,q2,(HO.out.wider (Nat.le_refl _) (by omega)).set _ _ (by omega) (by omega),limbs_set hlz _ _ q3,HB.out.set _ s,HF.out.setCell _ _,HS.out⟩
       case measure=>simp [intOf];omega
     ·have vQ1:P.take k=P:=List.take_of_length_le (by omega)
      have vQ2:P.take (k+1)=P:=List.take_of_length_le (by omega)
      have ha:=j8 (Q.getD k 0) cy hcy
      obtain⟨q1,q2,q3⟩:=ce (Q.getD k 0) 0 cy z1 (by omega) hcy
      have HS:=eo (by omega) HV.out q1
      rw [←vP,Nat.mul_zero,Nat.add_zero (val _),vQ1,←vQ2] at HS
      replace HS:=ac HS
      generalize Q.getD k 0=z at *
      clear q1 vP vQ1 vQ2
      generalize (z+18446744073709551616 - 0 - cy) % 18446744073709551616=s at *
      generalize bor z 0 cy=c2 at *
      have i1:¬(k:Int)<(P.length:Int):=by omega
      clear hcellp hblk hfr0 hout HV MP MQ LP LQ B2
      go_wp2
      go_roundw
      case rel=>exact⟨k+1,c2,Z'.set k s,by omega,by go_num,rfl,q2,(HO.out.wider (Nat.le_refl _) (by omega)).set _ _ (by omega) (by omega),limbs_set hlz _ _ q3,HB.out.set _ s,HF.out.setCell _ _,HS.out⟩
      case measure=>simp [intOf];omega
   ·have ek:k=n:=by omega
    subst ek
    have e1:Q.take k=Q:=List.take_of_length_le (by omega)
    have e2:P.take k=P:=List.take_of_length_le (by omega)
    have hval:=HV.out
    rw [e1,e2,←hl,bG,hl] at hval
    have hlt:=val_lt hlz
    rw [hl] at hlt
    have hc0:cy=0:=by
     rcases Nat.eq_zero_or_pos cy with h|h
     ·exact h
     ·have h1:cy=1:=by omega
      rw [h1] at hval
      have:=HLE.out
      omega
    subst hc0
    rw [Nat.zero_mul] at hval
    have HR:=RfN.trimmed (w:=w) (x:=(x - y)+(y - x)) (by have:=HBW.out.size;omega) hblk hlz (by omega) (by have h5:=HXV.out;have h7:=HYV.out;have h6:=HXY.out;omega) ((bt7 HBW.out HB1.out).trans (hfr0.below (by have:=HBW.out.size;omega) (by have:=HBW.out.size;have:=HB1.out.size;omega)))
    rw [hl] at HR
    have i0:¬(k:Int)<(k:Int):=by omega
    clear hblk hfr0 hout HV e1 e2 hval hlt LP LQ B2 MP MQ
    go_wp2_with fail
    refine HR.mono ?_
    rintro e w4 ⟨rfl,rfl,hd⟩
    have HD:=ac hd
    go_wp2
    go_returns
    exact HD.out
 ·obtain⟨cc,hcc,hc0⟩:∃cc:Int,cmpN (val X) (val Y)=cc∧¬cc<0:=⟨_,rfl,by unfold cmpN;rw [if_neg hlt];split <;> omega⟩
  rw [hcc] at HC
  have HXY:=ac (show val X - val Y+(val Y - val X)=val X - val Y by omega)
  have hle:val (tr Y)≤val (tr X):=by omega
  have hln:(tr Y).length≤(tr X).length:=aL Y _ (by have:=val_lt hlx;omega)
  obtain⟨x,hxv⟩:∃x,val X=x:=⟨_,rfl⟩
  obtain⟨y,hyv⟩:∃y,val Y=y:=⟨_,rfl⟩
  rw [hxv,hyv] at HXY ⊢
  rw [hxv] at hcx
  rw [hyv] at hcy
  clear hxv hyv hlt
  clear hlx hly
  go_enter Tryz.func95,Tryz.ntmps95
  go_wp2_with fail
  refine HC.mono ?_
  rintro e w3 ⟨rfl,hs⟩
  have hbs:Below w.heap.size w w3:=hs.below _
  have HBW:=ac hbs
  obtain⟨_,_,e3,TX,XX⟩:=HTX.out w3 hbs
  obtain⟨_,_,e4,TY,XY⟩:=HTY.out w3 hbs
  cases e3
  cases e4
  have TX:=TX w3 (Below.refl _ _)
  have TY:=TY w3 (Below.refl _ _)
  clear HC hs hbs HTX HTY hcc
  generalize tr X=P at *
  generalize tr Y=Q at *
  go_wp2_with fail
  refine TX.mono ?_
  rintro e wn ⟨rfl,hw⟩;rw [hw];clear hw wn TX
  go_wp2_with fail
  refine TY.mono ?_
  rintro e wn ⟨rfl,hw⟩;rw [hw];clear hw wn TY
  have HXV:=ac hcx
  have HYV:=ac hcy
  clear hcx hcy hc0
  obtain⟨n,hn⟩:∃n,P.length=n:=⟨_,rfl⟩
  have hPn:P.length≤n:=by omega
  rw [hn] at XX hln ⊢
  go_wp2_with (at_make;refine wpList_make_full _ rfl _ _ 23 rfl w3.heap.size 62 i0 (.int .u64 0) 1 Tryz.underlying23 hi hz0 hz1 .i64 .i64 _ _ n rfl rfl (by omega) (by omega) (by rw [hz2];omega) (by unfold maxLen;omega) (Nat.le_refl _) ?_;intro w1 hown hgrow)
  have hb1:Below w3.heap.size w3 w1:=(Below.refl w3.heap.size w3).grown hgrow (Nat.le_refl _) (fun k hk=>by cases hk)
  have B2:=Blk.made hown
  have LP:=(XX.below hb1).tlies
  have LQ:=(XY.below hb1).tlies
  have MP:=XX.limbs
  have MQ:=XY.limbs
  have hap:0<P.length→∀b off,a1=some ⟨b,off,none⟩→b≠w3.heap.size∨off+P.length≤0∨0+n≤off:=fun h b off e=>by
   subst e
   have hh:=XX.block (by omega)
   exact .inl (by omega)
  have haq:0<Q.length→∀b off,a2=some ⟨b,off,none⟩→b≠w3.heap.size∨off+Q.length≤0∨0+n≤off:=fun h b off e=>by
   subst e
   have hh:=XY.block h
   exact .inl (by omega)
  have HB1:=ac hb1
  have HB0:=ac B2
  have HLE:=ac hle
  clear XX XY hown hgrow hb1 hle hi hz0 hz1 hz2
  go_loopw [6,25] (fun c i wr=>∃(k cy:Nat) (Z':List Nat),k≤n∧i=.int .i64 k∧c=.int .u64 cy∧cy≤1∧Out (List.replicate n 0) Z' 0 (0+k)∧Limbs Z'∧Blk wr w3.heap.size Z'∧Fr w3.heap.size w1 wr ∧
    sv Z' 0 k+val (Q.take k)=val (P.take k)+cy*18446744073709551616 ^ k) (fun _ i _=>n - (intOf i).toNat)
  case atStart=>exact⟨0,0,List.replicate n 0,Nat.zero_le _,rfl,rfl,by omega,Out.refl _ _ _,limbs_replicate _,HB0.out,Fr.refl _ _,by simp [aC,val]⟩
  case round=>
   obtain⟨k,cy,Z',hk,rfl,rfl,hcy,hout,hlz,hblk,hfr0,hval⟩:=hrel
   have HV:=ac hval
   have HB:=ac hblk
   have HF:=ac hfr0
   have HO:=ac hout
   have hl:Z'.length=n:=by rw [hout.len,List.length_replicate]
   clear hval
   by_cases hkn:k<n
   ·rcases LP.fr (hap (by omega)) hfr0 B2 hblk (hout.wider (Nat.le_refl _) (by omega)) with h0|⟨bp,op,rfl,hcellp⟩
    ·rw [h0] at hn;simp at hn;omega
    ·have hckp:=hcellp k (by omega)
     have hfr:=hblk.free k
     have hco:=hblk.cell k (by omega)
     have z1:=limb_lt MP k
     have i0:(k:Int)<(n:Int):=by omega
     have vP:=val_take_next P k
     by_cases hkq:k<Q.length
     ·rcases LQ.fr (haq (by omega)) hfr0 B2 hblk (hout.wider (Nat.le_refl _) (by omega)) with h0|⟨bq,oq,rfl,hcellq⟩
      ·rw [h0] at hkq;simp at hkq
      ·have hckq:=hcellq k hkq
       have z2:=limb_lt MQ k
       have vQ:=val_take_next Q k
       have ha:=cG (P.getD k 0) (Q.getD k 0) cy hcy
       obtain⟨q1,q2,q3⟩:=ce (P.getD k 0) (Q.getD k 0) cy z1 z2 hcy
       have HS:=eo (by omega) HV.out q1
       rw [←vP,←vQ] at HS
       replace HS:=ac HS
       generalize P.getD k 0=z at *
       generalize Q.getD k 0=x at *
       clear q1 vP vQ
       generalize (z+18446744073709551616 - x - cy) % 18446744073709551616=s at *
       generalize bor z x cy=c2 at *
       have i1:(k:Int)<(Q.length:Int):=by omega
       clear hcellp hcellq hblk hfr0 hout HV MP MQ LP LQ B2
       go_wp2
       go_roundw
       case rel=>exact⟨k+1,c2,Z'.set k s,by omega,by go_num,rfl,q2,(HO.out.wider (Nat.le_refl _) (by omega)).set _ _ (by omega) (by omega),limbs_set hlz _ _ q3,HB.out.set _ s,HF.out.setCell _ _,HS.out⟩
       case measure=>simp [intOf];omega
     ·have vQ1:Q.take k=Q:=List.take_of_length_le (by omega)
      have vQ2:Q.take (k+1)=Q:=List.take_of_length_le (by omega)
      have ha:=j8 (P.getD k 0) cy hcy
      obtain⟨q1,q2,q3⟩:=ce (P.getD k 0) 0 cy z1 (by omega) hcy
      have HS:=eo (by omega) HV.out q1
      rw [←vP,Nat.mul_zero,Nat.add_zero (val _),vQ1,←vQ2] at HS
      replace HS:=ac HS
      generalize P.getD k 0=z at *
      clear q1 vP vQ1 vQ2
      generalize (z+18446744073709551616 - 0 - cy) % 18446744073709551616=s at *
      generalize bor z 0 cy=c2 at *
      have i1:¬(k:Int)<(Q.length:Int):=by omega
      clear hcellp hblk hfr0 hout HV MP MQ LP LQ B2
      go_wp2
      go_roundw
      case rel=>exact⟨k+1,c2,Z'.set k s,by omega,by go_num,rfl,q2,(HO.out.wider (Nat.le_refl _) (by omega)).set _ _ (by omega) (by omega),limbs_set hlz _ _ q3,HB.out.set _ s,HF.out.setCell _ _,HS.out⟩
      case measure=>simp [intOf];omega
   ·have ek:k=n:=by omega
    subst ek
    have e1:P.take k=P:=List.take_of_length_le (by omega)
    have e2:Q.take k=Q:=List.take_of_length_le (by omega)
    have hval:=HV.out
    rw [e1,e2,←hl,bG,hl] at hval
    have hlt:=val_lt hlz
    rw [hl] at hlt
    have hc0:cy=0:=by
     rcases Nat.eq_zero_or_pos cy with h|h
     ·exact h
     ·have h1:cy=1:=by omega
      rw [h1] at hval
      have:=HLE.out
      omega
    subst hc0
    rw [Nat.zero_mul] at hval
    have HR:=RfN.trimmed (w:=w) (x:=(x - y)+(y - x)) (by have:=HBW.out.size;omega) hblk hlz (by omega) (by have h5:=HXV.out;have h7:=HYV.out;have h6:=HXY.out;omega) ((bt7 HBW.out HB1.out).trans (hfr0.below (by have:=HBW.out.size;omega) (by have:=HBW.out.size;have:=HB1.out.size;omega)))
    rw [hl] at HR
    have i0:¬(k:Int)<(k:Int):=by omega
    clear hblk hfr0 hout HV e1 e2 hval hlt LP LQ B2 MP MQ
    go_wp2_with fail
    refine HR.mono ?_
    rintro e w4 ⟨rfl,rfl,hd⟩
    have HD:=ac hd
    go_wp2
    go_returns
    exact HD.out

theorem gf (bn:Bool)(vn vd:Value)(X Y:List Nat)(w:World)(hA:Arg w vn X)(hB:Arg w vd Y)(hT:Tab w)(hf1:X.length≤17592186043904)(hf2:Y.length≤17592186043904)(hY:val Y≠0)
  (q1:blen (val X / Nat.gcd (val X) (val Y))≤67108864) (q2:blen (val Y / Nat.gcd (val X) (val Y))≤67108864) :
  Calls Tryz.prog 56 #[.agg #[.bool bn,vn],vd] w (aD w (zz bn (val X / Nat.gcd (val X) (val Y))) (val Y / Nat.gcd (val X) (val Y))):=by
 obtain⟨a,n,rfl,_,_,_⟩:=hA.form
 obtain⟨ad,nd,rfl,_,_,_⟩:=hB.form
 obtain⟨w0,hw0,hb0,h0,h1⟩:=aY w (.cells #[.bool bn,.slice a X.length n] 25) (.cells #[.bool false,.slice none 0 0,.slice none 0 0] 27)
 have H1:=ac h1
 have HB0:=ac hb0
 have gd:Below w.heap.size w w0.drew:=hb0.drew
 have g0:Below w0.drew.heap.size w0.drew w0.drew:=Below.refl _ _
 have E1:=gZ _ _ X Y w0.drew (hA.below gd) (hB.below gd) (hT.below gd) (by omega) (by omega)
 have hG0:Nat.gcd (val X) (val Y)≠0:=fun h=>hY (Nat.eq_zero_of_gcd_eq_zero_right h)
 have hGle:Nat.gcd (val X) (val Y)≤val Y:=Nat.gcd_le_right _ (by omega)
 have hYl:=val_lt hB.limbs
 have r1:val X % Nat.gcd (val X) (val Y)=0:=Nat.mod_eq_zero_of_dvd (Nat.gcd_dvd_left _ _)
 have r2:val Y % Nat.gcd (val X) (val Y)=0:=Nat.mod_eq_zero_of_dvd (Nat.gcd_dvd_right _ _)
 have b0:blen 0≤67108864:=by
  have:blen 0≤0:=(blen_le_iff _ _).2 (by decide)
  omega
 have E2:=ac (fun (W:World) (v:Value) (rs:List Nat) (hg:Below w0.drew.heap.size w0.drew W) (hv:Ans W w0.drew.heap.size v rs) (ht:tr rs=rs) (hval:val rs=Nat.gcd (val X) (val Y))=>show Calls Tryz.prog 61 #[.agg #[.bool bn,.slice a X.length n],.slice ad Y.length nd,v] W (aD W (zz bn (val X / Nat.gcd (val X) (val Y))) (val Y / Nat.gcd (val X) (val Y))) by
  have hl:rs.length≤Y.length:=hv.few Y.length (by rw [hval];omega) ht
  have h:=jf bn (.slice a X.length n) (.slice ad Y.length nd) v X Y rs W ((hA.below gd).below hg) ((hB.below gd).below hg) (hv.arg (by omega)) ((hT.below gd).below hg) (by omega) (by omega) (by omega) (by rw [hval];exact hG0) (by rw [hval];exact q1) (by rw [hval,r1];exact b0) (by rw [hval];exact q2) (by rw [hval,r2];exact b0)
  rw [hval] at h
  exact h)
 have KS:=ac (fun (W:World) (hg:Below w0.drew.heap.size w0.drew W)=>show W.cell? ⟨w.heap.size,0,none⟩=some (.bool bn)∧W.cell? ⟨w.heap.size,1,none⟩=some (.slice a X.length n) from duo (ae hg (show w0.drew.heap[w.heap.size]?=some (.cells #[.bool bn,.slice a X.length n] 25) from h0)))
 have so:∀(W:World) (k:Nat) (u:Value) (k':Nat),(W.setCell ⟨w.heap.size+1,k,none⟩ u).cell? ⟨w.heap.size,k',none⟩=W.cell? ⟨w.heap.size,k',none⟩:=fun W k u k'=>aB (by omega)
 clear hA hB hT h0 h1 hb0 gd hG0 hGle hYl r1 r2 b0 q1 q2
 generalize zz bn (val X / Nat.gcd (val X) (val Y))=zq at *
 generalize val Y / Nat.gcd (val X) (val Y)=dq at *
 go_enter Tryz.func56,Tryz.ntmps56
 go_wp2
 go_region_held3 (fun w'=>w'.cell? ⟨w.heap.size,0,none⟩=some (.bool bn)∧w'.cell? ⟨w.heap.size,1,none⟩=some (.slice a X.length n)) (first|with_reducible exact KS.out _ g2|with_reducible exact KS.out _ g1|with_reducible exact KS.out _ g0 | (refine⟨?_,?_⟩ <;> (rw [so,so,so];first|exact (KS.out _ g2).1|exact (KS.out _ g2).2))) (first
  | (go_at_call 57;refine E1.mono ?_;rintro e' t1 ⟨⟨vg,rg,rfl,x1,x2,x3⟩,hb1⟩;have g1:=ah g0 hb1;obtain⟨ag,cg,rfl⟩:=x1.shape)
  | (go_at_call 61;refine (E2.out t1 _ rg g1 x1 x2 x3).mono ?_;rintro e' t2 ⟨⟨bb,a1,n1,c1,a2,n2,c2,rfl,y2⟩,hb2⟩;have g2:=ah g1 hb2;have hz3:=ae g2 (show w0.drew.heap[w.heap.size+1]?=some (.cells #[.bool false,.slice none 0 0,.slice none 0 0] 27) from H1.out);have hf:=aE hz3;obtain⟨m0,m1',m2'⟩:=tri hz3))
 have hw0s:=HB0.out.size
 have T1:=y2.base (Nat.le_trans hw0s g1.size)
 have T2:=T1.tri (u0:=.bool bb) (u1:=.slice a1 n1 c1) (u2:=.slice a2 n2 c2) hz3
 have T3:=aG (u0:=.bool bb) (u1:=.slice a1 n1 c1) (u2:=.slice a2 n2 c2) hz3
 have T4:=aF (u0:=.bool bb) (u1:=.slice a1 n1 c1) (u2:=.slice a2 n2 c2) (ah (show Below w.heap.size w w0.drew from HB0.out.drew) g2) (show w.heap.size≤w.heap.size+1 by omega)
 have HE:=ac (And.intro T2 T4)
 obtain⟨p0,p1,p2⟩:=tri T3
 clear T1 T2 T3 T4 so hz3 hf m0 m1' m2' x1 x2 x3 y2 hb1 hb2 g0 g1 g2 KS E2 E1
 generalize ((t2.setCell ⟨w.heap.size+1,0,none⟩ (.bool bb)).setCell ⟨w.heap.size+1,1,none⟩ (.slice a1 n1 c1)).setCell ⟨w.heap.size+1,2,none⟩ (.slice a2 n2 c2)=w5 at *
 go_wp2
 refine bodyPost_ret (v:=.agg #[.bool bb,.slice a1 n1 c1,.slice a2 n2 c2]) (by simp [results,Tryz.results56,go_sem,p0,p1,p2]) rfl ?_
 exact⟨⟨_,_,_,_,_,_,_,rfl,HE.out.1⟩,HE.out.2⟩

theorem jS (b:Bool)(v1 v2:Value)(X Y:List Nat)(w:World)(hA:Arg w v1 X)(hB:Arg w v2 Y)(hx:blen (val X)≤67108864)(hy:blen (val Y)≤67108864) :
  Calls Tryz.prog 62 #[.agg #[.bool b,v1,v2]] w fun e w'=>e=.returned (.agg #[.bool b,v1,v2])∧Below w.heap.size w w':=by
 obtain⟨a,n,rfl,_,_,_⟩:=hA.form
 obtain⟨ad,nd,rfl,_,_,_⟩:=hB.form
 obtain⟨w0,hw0,hb0,h0,h1⟩:=aY w (.cells #[.bool b,.slice a X.length n,.slice ad Y.length nd] 27) (.cells #[.bool false,.slice none 0 0,.slice none 0 0] 27)
 have L1:=aK _ X w0 (hA.below hb0)
 have L2:=aK _ Y w0 (hB.below hb0)
 have RN:=bR 3 w0
 have i1:¬(67108864:Int)<((blen (val X):Nat):Int):=by omega
 have i2:decide ((67108864:Int)<((blen (val X):Nat):Int))=false:=decide_eq_false i1
 have i3:¬(67108864:Int)<((blen (val Y):Nat):Int):=by omega
 have i4:decide ((67108864:Int)<((blen (val Y):Nat):Int))=false:=decide_eq_false i3
 obtain⟨c0,c1,c2⟩:=tri h0
 obtain⟨d0,d1,d2⟩:=tri h1
 have hf:=aE h1
 have H1:=ac h1
 have HB0:=ac hb0
 have T3:=aG (u0:=.bool b) (u1:=.slice a X.length n) (u2:=.slice ad Y.length nd) h1
 have HE:=ac (aF (u0:=.bool b) (u1:=.slice a X.length n) (u2:=.slice ad Y.length nd) hb0 (show w.heap.size≤w.heap.size+1 by omega))
 obtain⟨p0,p1,p2⟩:=tri T3
 have so:∀(W:World) (k:Nat) (u:Value) (k':Nat),(W.setCell ⟨w.heap.size+1,k,none⟩ u).cell? ⟨w.heap.size,k',none⟩=W.cell? ⟨w.heap.size,k',none⟩:=fun W k u k'=>aB (by omega)
 clear hA hB h0 h1 hb0 T3 hx hy
 generalize blen (val X)=lx at *
 generalize blen (val Y)=ly at *
 go_enter Tryz.func62,Tryz.ntmps62
 go_wp2_with fail
 refine L1.mono ?_
 rintro e wn ⟨rfl,hw⟩;rw [hw];clear hw wn L1
 go_wp2_with fail
 refine L2.mono ?_
 rintro e wn ⟨rfl,hw⟩;rw [hw];clear hw wn L2
 go_wp2_with fail
 refine RN.mono ?_
 rintro e wn ⟨rfl,hw⟩;rw [hw];clear hw wn RN
 go_wp2
 clear so hf d0 d1 d2 c0 c1 c2
 generalize ((w0.setCell ⟨w.heap.size+1,0,none⟩ (.bool b)).setCell ⟨w.heap.size+1,1,none⟩ (.slice a X.length n)).setCell ⟨w.heap.size+1,2,none⟩ (.slice ad Y.length nd)=w5 at *
 refine bodyPost_ret (v:=.agg #[.bool b,.slice a X.length n,.slice ad Y.length nd]) (by simp [results,Tryz.results62,go_sem,p0,p1,p2]) rfl ?_
 exact⟨rfl,HE.out⟩

theorem gL (L:Nat)(b:Bool)(v1 v2:Value)(X Y:List Nat)(w:World)(hA:Arg w v1 X)(hB:Arg w v2 Y)(hL:w.heap[L]?=some (.cells #[.bool b,v1,v2] 27))(hY:val Y≠0) :
  Calls Tryz.prog 25 #[.slice (some ⟨L,0,none⟩) 1 1] w fun e w'=>e=.returned (.tuple #[])∧Below w.heap.size w w':=by
 obtain⟨a,n,rfl,_,_,_⟩:=hA.form
 obtain⟨ad,nd,rfl,_,_,_⟩:=hB.form
 obtain⟨c0,c1,c2⟩:=tri hL
 obtain⟨w0,hw0,hb0,h0⟩:=an w (.cells #[.bool b,.slice a X.length n,.slice ad Y.length nd] 27)
 have Z1:=dn _ Y w0 (hB.below hb0)
 rw [decide_eq_false hY] at Z1
 have RN:=bR 70 w0
 obtain⟨d0,d1,d2⟩:=tri h0
 have HB0:=ac hb0
 clear hA hB hL h0 hb0
 go_enter Tryz.func25,Tryz.ntmps25
 go_wp2
 refine wp_loop_rounds 2 ?_
 rw [rounds_succ]
 go_wp2_with fail
 refine Z1.mono ?_
 rintro e wn ⟨rfl,hw⟩;rw [hw];clear hw wn Z1
 go_wp2_with fail
 refine RN.mono ?_
 rintro e wn ⟨rfl,hw⟩;rw [hw];clear hw wn RN
 go_wp2
 rw [rounds_succ]
 go_wp2
 go_end0
 exact⟨rfl,HB0.out⟩
end Go.Proofs.YtgnmgbbokcpppaaGreatDoor
namespace Go.Proofs.YtgnmgbbokcpppaaGreatDoor
open Go.RowKit
open Lm

theorem Ans.stored {w:World}{base g cap:Nat}{zs:List Nat}(h:Ans w base (.slice (some ⟨g,0,none⟩) zs.length cap) zs)(j z:Nat)(hz:z<18446744073709551616):Ans (w.setCell ⟨g,j,none⟩ (.int .u64 (z:Int))) base (.slice (some ⟨g,0,none⟩) (zs.set j z).length cap) (zs.set j z):=by
 refine⟨?_,limbs_set h.limbs _ _ hz⟩
 have:=(h.own.stored j (.int .u64 (z:Int))).1
 rw [List.length_set,List.map_set]
 exact this

def over (rows:Nat→List Nat)(m:Nat):List Nat:=List.replicate (rows m).length (m % 251+1)



theorem iW (zs:List Nat)(h:Limbs zs):blen (val zs)≤64*zs.length:=by
 rw [blen_le_iff,Nat.mul_comm]
 have:=val_lt h
 rwa [W_pow] at this
end Go.Proofs.YtgnmgbbokcpppaaGreatDoor
namespace Go.Proofs.YtgnmgbbokcpppaaGreatDoor
open Go.RowKit
open Lm
attribute [local go_sem ↓] Go.wp_at_zero Go.wp_at_succ

theorem bI (x y:Nat):blen (x*y)≤blen x+blen y:=by
 refine (blen_le_iff _ _).2 ?_
 have h1:=(blen_le_iff x _).1 (Nat.le_refl _)
 have h2:=(blen_le_iff y _).1 (Nat.le_refl _)
 rw [Nat.pow_add]
 exact Nat.mul_lt_mul_of_lt_of_lt h1 h2

theorem aH {x y:Nat}(h:x≤y):blen x≤blen y:=(blen_le_iff x _).2 (Nat.lt_of_le_of_lt h ((blen_le_iff y _).1 (Nat.le_refl _)))

theorem fM {rs:List Nat}{x n:Nat}(ht:tr rs=rs)(hv:val rs=x)(hb:blen x≤n*64):rs.length≤n:=by
 rw [←ht]
 refine aL rs n ?_
 rw [hv]
 have h:=(blen_le_iff x _).1 hb
 rw [Nat.mul_comm,Nat.pow_mul] at h
 exact h

theorem nN {x y M:Nat}(hx:x≠0)(hy:y≠0)(q1:blen (x / Nat.gcd x y)≤M)(q2:blen (y / Nat.gcd x y)≤M):¬(M:Int)<max ((blen x:Int) - blen y) ((blen y:Int) - blen x):=by
 have e1:=Nat.div_mul_cancel (Nat.gcd_dvd_left x y)
 have e2:=Nat.div_mul_cancel (Nat.gcd_dvd_right x y)
 have g1:Nat.gcd x y≤x:=Nat.gcd_le_left _ (by omega)
 have g2:Nat.gcd x y≤y:=Nat.gcd_le_right _ (by omega)
 have a1:=bI (x / Nat.gcd x y) (Nat.gcd x y)
 have a2:=bI (y / Nat.gcd x y) (Nat.gcd x y)
 rw [e1] at a1
 rw [e2] at a2
 have b1:=aH g1
 have b2:=aH g2
 omega

theorem ie (bn:Bool)(vn vd:Value)(X Y:List Nat)(w:World)(hA:Arg w vn X)(hB:Arg w vd Y)(hT:Tab w)(hf1:X.length≤17592186043904)(hf2:Y.length≤17592186043904)(hY:val Y≠0)
  (q1:blen (val X / Nat.gcd (val X) (val Y))≤67108864) (q2:blen (val Y / Nat.gcd (val X) (val Y))≤67108864) :
  Calls Tryz.prog 66 #[.agg #[.bool bn,vn],vd] w (aD w (zz bn (val X / Nat.gcd (val X) (val Y))) (val Y / Nat.gcd (val X) (val Y))):=by
 have hlx:=iW X hA.limbs
 have hly:=iW Y hB.limbs
 obtain⟨a,n,rfl,_,_,_⟩:=hA.form
 obtain⟨ad,nd,rfl,_,_,_⟩:=hB.form
 obtain⟨w0,hw0,hb0,h0,h1⟩:=aY w (.cells #[.bool bn,.slice a X.length n] 25) (.cells #[.bool false,.slice none 0 0,.slice none 0 0] 27)
 have Z1:=dn _ X w0 (hA.below hb0)
 have L1:=aK _ X w0 (hA.below hb0)
 have L2:=aK _ Y w0 (hB.below hb0)
 have F1:=jp (blen (val X)) (blen (val Y)) w0 (by omega) (by omega)
 have RN:=bR 3 w0
 have LO:=gf bn _ _ X Y w0 (hA.below hb0) (hB.below hb0) (hT.below hb0) hf1 hf2 hY q1 q2
 obtain⟨c0,c1⟩:=duo h0
 have H1:=ac h1
 have HB0:=ac hb0
 have q1':blen (zz bn (val X / Nat.gcd (val X) (val Y))).natAbs≤67108864:=by rw [aM];exact q1
 have hfar:val X≠0→decide ((67108864:Int)<max ((blen (val X):Int) - blen (val Y)) ((blen (val Y):Int) - blen (val X)))=false:=fun hx=>decide_eq_false (nN (M:=67108864) hx hY q1 q2)
 clear hA hB hT h0 h1 hb0 q1 hlx hly
 generalize zz bn (val X / Nat.gcd (val X) (val Y))=zq at *
 generalize val Y / Nat.gcd (val X) (val Y)=dq at *
 have END:=ac (fun (t1:World) (bb:Bool) (a1:Option Addr) (n1 c1:Nat) (a2:Option Addr) (n2 c2:Nat) (y:TR t1 w0.heap.size bb (.slice a1 n1 c1) (.slice a2 n2 c2) zq dq)=>show Calls Tryz.prog 62 #[.agg #[.bool bb,.slice a1 n1 c1,.slice a2 n2 c2]] t1 (fun e w'=>e=.returned (.agg #[.bool bb,.slice a1 n1 c1,.slice a2 n2 c2])∧Below t1.heap.size t1 w') by
  obtain⟨_,⟨r1,x1,x2,x3⟩,mid,_,_,r2,z1,z2,z3⟩:=y
  have k1:r1.length≤1048576:=fM x3 x2 (by omega)
  have k2:r2.length≤1048576:=fM z3 z2 (by omega)
  exact jS bb _ _ r1 r2 t1 (x1.arg (by omega)) (z1.arg (by omega)) (by rw [x2];exact q1') (by rw [z2];exact q2))
 by_cases hx:val X=0
 ·rw [decide_eq_true hx] at Z1
  clear hfar L1 L2 F1 RN
  go_enter Tryz.func66,Tryz.ntmps66
  go_wp2_with fail
  refine Z1.mono ?_
  rintro e wn ⟨rfl,hw⟩;rw [hw];clear hw wn Z1
  go_wp2_with fail
  refine LO.mono ?_
  rintro e t1 ⟨⟨bb,a1,n1,k1,a2,n2,k2,rfl,y1⟩,hb1⟩
  have FT:=END.out t1 bb a1 n1 k1 a2 n2 k2 y1
  have HG1:=ac hb1
  have HY1:=ac y1
  clear LO END hb1 y1 c0 c1
  go_wp2_with fail
  refine FT.mono ?_
  rintro e t2 ⟨rfl,hb2⟩
  have hz3:=ae (ah HG1.out hb2) H1.out
  have T1:=(HY1.out.below hb2).base HB0.out.size
  have T2:=T1.tri (u0:=.bool bb) (u1:=.slice a1 n1 k1) (u2:=.slice a2 n2 k2) hz3
  have T3:=aG (u0:=.bool bb) (u1:=.slice a1 n1 k1) (u2:=.slice a2 n2 k2) hz3
  have T4:=aF (u0:=.bool bb) (u1:=.slice a1 n1 k1) (u2:=.slice a2 n2 k2) (HB0.out.trans ((ah HG1.out hb2).mono HB0.out.size)) (show w.heap.size≤w.heap.size+1 by omega)
  have HE:=ac (And.intro T2 T4)
  obtain⟨p0,p1,p2⟩:=tri T3
  have hf:=aE hz3
  obtain⟨m0,m1,m2⟩:=tri hz3
  clear T1 T2 T3 T4 hz3 hb2 FT HY1 HG1
  go_wp2
  clear hf m0 m1 m2
  generalize ((t2.setCell ⟨w.heap.size+1,0,none⟩ (.bool bb)).setCell ⟨w.heap.size+1,1,none⟩ (.slice a1 n1 k1)).setCell ⟨w.heap.size+1,2,none⟩ (.slice a2 n2 k2)=w5 at *
  refine bodyPost_ret (v:=.agg #[.bool bb,.slice a1 n1 k1,.slice a2 n2 k2]) (by simp [results,Tryz.results66,go_sem,p0,p1,p2]) rfl ?_
  exact⟨⟨_,_,_,_,_,_,_,rfl,HE.out.1⟩,HE.out.2⟩
 ·rw [decide_eq_false hx] at Z1
  have hff:=hfar hx
  rw [hff] at F1
  clear hfar hff
  go_enter Tryz.func66,Tryz.ntmps66
  go_wp2_with fail
  refine Z1.mono ?_
  rintro e wn ⟨rfl,hw⟩;rw [hw];clear hw wn Z1
  go_wp2_with fail
  refine L1.mono ?_
  rintro e wn ⟨rfl,hw⟩;rw [hw];clear hw wn L1
  go_wp2_with fail
  refine L2.mono ?_
  rintro e wn ⟨rfl,hw⟩;rw [hw];clear hw wn L2
  go_wp2_with fail
  refine F1.mono ?_
  rintro e wn ⟨rfl,hw⟩;rw [hw];clear hw wn F1
  go_wp2_with fail
  refine RN.mono ?_
  rintro e wn ⟨rfl,hw⟩;rw [hw];clear hw wn RN
  go_wp2_with fail
  refine LO.mono ?_
  rintro e t1 ⟨⟨bb,a1,n1,k1,a2,n2,k2,rfl,y1⟩,hb1⟩
  have FT:=END.out t1 bb a1 n1 k1 a2 n2 k2 y1
  have HG1:=ac hb1
  have HY1:=ac y1
  clear LO END hb1 y1 c0 c1
  go_wp2_with fail
  refine FT.mono ?_
  rintro e t2 ⟨rfl,hb2⟩
  have hz3:=ae (ah HG1.out hb2) H1.out
  have T1:=(HY1.out.below hb2).base HB0.out.size
  have T2:=T1.tri (u0:=.bool bb) (u1:=.slice a1 n1 k1) (u2:=.slice a2 n2 k2) hz3
  have T3:=aG (u0:=.bool bb) (u1:=.slice a1 n1 k1) (u2:=.slice a2 n2 k2) hz3
  have T4:=aF (u0:=.bool bb) (u1:=.slice a1 n1 k1) (u2:=.slice a2 n2 k2) (HB0.out.trans ((ah HG1.out hb2).mono HB0.out.size)) (show w.heap.size≤w.heap.size+1 by omega)
  have HE:=ac (And.intro T2 T4)
  obtain⟨p0,p1,p2⟩:=tri T3
  have hf:=aE hz3
  obtain⟨m0,m1,m2⟩:=tri hz3
  clear T1 T2 T3 T4 hz3 hb2 FT HY1 HG1
  go_wp2
  clear hf m0 m1 m2
  generalize ((t2.setCell ⟨w.heap.size+1,0,none⟩ (.bool bb)).setCell ⟨w.heap.size+1,1,none⟩ (.slice a1 n1 k1)).setCell ⟨w.heap.size+1,2,none⟩ (.slice a2 n2 k2)=w5 at *
  refine bodyPost_ret (v:=.agg #[.bool bb,.slice a1 n1 k1,.slice a2 n2 k2]) (by simp [results,Tryz.results66,go_sem,p0,p1,p2]) rfl ?_
  exact⟨⟨_,_,_,_,_,_,_,rfl,HE.out.1⟩,HE.out.2⟩

def Nn (w:World)(v:Value)(x:Nat):Prop:=∃zs,Arg w v zs∧val zs=x∧zs.length≤17592186043904

theorem Nn.below {w w':World}{v:Value}{x:Nat}(h:Nn w v x)(hb:Below w.heap.size w w'):Nn w' v x:=by
 obtain⟨zs,h1,h2⟩:=h
 exact⟨zs,h1.below hb,h2⟩

theorem Nn.form {w:World}{v:Value}{x:Nat}(h:Nn w v x):∃a n k,v=.slice a n k:=by
 obtain⟨zs,h1,_⟩:=h
 obtain⟨a,n,rfl,_,_,_⟩:=h1.form
 exact⟨_,_,_,rfl⟩

theorem TN.nn {w:World}{base:Nat}{v:Value}{x:Nat}(h:TN w base v x)(hx:blen x≤67108864):Nn w v x:=by
 obtain⟨rs,h1,h2,h3⟩:=h
 have hl:rs.length≤1048576:=fM h3 h2 (by omega)
 exact⟨rs,h1.arg (by omega),h2,by omega⟩

theorem TN.form {w:World}{base:Nat}{v:Value}{x:Nat}(h:TN w base v x):∃a n k,v=.slice a n k:=by
 obtain⟨rs,h1,_⟩:=h
 obtain⟨a,c,rfl⟩:=h1.shape
 exact⟨_,_,_,rfl⟩

theorem TN.base {w:World}{base base':Nat}{v:Value}{x:Nat}(h:TN w base v x)(hb:base'≤base):TN w base' v x:=by
 obtain⟨rs,h1,h2⟩:=h
 exact⟨rs,h1.base hb,h2⟩

theorem dl (va vb:Value)(x y:Nat)(w:World)(hA:Nn w va x)(hB:Nn w vb y)(hT:Tab w)(hb:blen (x*y)≤67108864) :
  Calls Tryz.prog 63 #[va,vb] w (RfN w (x*y)):=by
 obtain⟨X,hA,rfl,fX⟩:=hA
 obtain⟨Y,hB,rfl,fY⟩:=hB
 have HM:=dY va vb X Y w hA hB hT (by omega)
 obtain⟨a,n,rfl,_,_,_⟩:=hA.form
 obtain⟨a',n',rfl,_,_,_⟩:=hB.form
 clear hA hB hT
 generalize val X*val Y=z at *
 go_enter Tryz.func63,Tryz.ntmps63
 go_wp2_with fail
 refine HM.mono ?_
 rintro e w1 ⟨hb1,v,c,rs,rfl,hans,hres⟩
 rcases hres with ⟨rfl,h1,h2,_⟩|⟨_,_,h⟩
 ·have HE:=ac (show TN w1 w.heap.size v z∧Below w.heap.size w w1 from ⟨⟨rs,hans,h1,h2⟩,hb1⟩)
  obtain⟨a1,c1,rfl⟩:=hans.shape
  clear hans h1 h2 hb1 HM
  go_wp2
  go_ret
  exact⟨⟨_,rfl,HE.out.1⟩,HE.out.2⟩
 ·omega

theorem i8 (va vb:Value)(x y:Nat)(w:World)(hA:Nn w va x)(hB:Nn w vb y)(hT:Tab w) :
  Calls Tryz.prog 57 #[va,vb] w (RfN w (Nat.gcd x y)):=by
 obtain⟨X,hA,rfl,fX⟩:=hA
 obtain⟨Y,hB,rfl,fY⟩:=hB
 refine (gZ va vb X Y w hA hB hT (by omega) (by omega)).mono ?_
 rintro e w1 ⟨⟨vg,rg,rfl,x1,x2,x3⟩,hb1⟩
 exact⟨⟨vg,rfl,rg,x1,x3,x2⟩,hb1⟩

theorem jk (va vb:Value)(x y:Nat)(w:World)(hA:Nn w va x)(hB:Nn w vb y)(hT:Tab w)(hy:y≠0)(hd:y ∣ x)(hb:blen x≤67108864) :
  Calls Tryz.prog 58 #[va,vb] w (RfN w (x / y)):=by
 obtain⟨X,hA,rfl,fX⟩:=hA
 obtain⟨Y,hB,rfl,fY⟩:=hB
 have b0:blen 0≤67108864:=by
  have:blen 0≤0:=(blen_le_iff _ _).2 (by decide)
  omega
 exact gF va vb X Y w hA hB hT (by omega) (by omega) hy (Nat.le_trans (aH (Nat.div_le_self _ _)) hb) (by rw [Nat.mod_eq_zero_of_dvd hd];exact b0)

def RfW (w:World)(z:Int)(e:Ending)(w':World):Prop:=
 (∃(a:Option Addr) (n k:Nat),e=.returned (.agg #[.bool (decide (z<0)),.slice a n k])∧TN w' w.heap.size (.slice a n k) z.natAbs)∧Below w.heap.size w w'

theorem iO (b:Bool)(v vb:Value)(x y:Nat)(w:World)(hA:Nn w v x)(hB:Nn w vb y)(hT:Tab w)(hb:blen (x*y)≤67108864) :
  Calls Tryz.prog 60 #[.agg #[.bool b,v],vb] w (RfW w (zz b (x*y))):=by
 obtain⟨a,m,n,rfl⟩:=hA.form
 obtain⟨ab,mb,nb,rfl⟩:=hB.form
 obtain⟨w0,hw0,hb0,h0,h1⟩:=aY w (.cells #[.bool b,.slice a m n] 25) (.cells #[.bool false,.slice none 0 0] 25)
 have H1:=ac h1
 have HB0:=ac hb0
 have gd:Below w.heap.size w w0.drew:=hb0.drew
 have g0:Below w0.drew.heap.size w0.drew w0.drew:=Below.refl _ _
 have E1:=dl _ _ x y w0.drew (hA.below gd) (hB.below gd) (hT.below gd) hb
 have HZA:=ac (aM b (x*y))
 have KS:=ac (fun (W:World) (hg:Below w0.drew.heap.size w0.drew W)=>show W.cell? ⟨w.heap.size,0,none⟩=some (.bool b)∧W.cell? ⟨w.heap.size,1,none⟩=some (.slice a m n) from duo (ae hg (show w0.drew.heap[w.heap.size]?=some (.cells #[.bool b,.slice a m n] 25) from h0)))
 have so:∀(W:World) (k:Nat) (u:Value) (k':Nat),(W.setCell ⟨w.heap.size+1,k,none⟩ u).cell? ⟨w.heap.size,k',none⟩=W.cell? ⟨w.heap.size,k',none⟩:=fun W k u k'=>aB (by omega)
 clear hA hB hT h0 h1 hb0 gd hb
 generalize x*y=p at *
 obtain⟨zv,hzv⟩:∃zv,zz b p=zv:=⟨_,rfl⟩
 rw [hzv] at HZA ⊢
 have HZS:=ac (show decide (zz b p<0)=decide (zv<0) by rw [hzv])
 clear hzv
 go_enter Tryz.func60,Tryz.ntmps60
 go_wp2
 go_region_held3 (fun w'=>w'.cell? ⟨w.heap.size,0,none⟩=some (.bool b)∧w'.cell? ⟨w.heap.size,1,none⟩=some (.slice a m n)) (first|with_reducible exact KS.out _ g2|with_reducible exact KS.out _ g1|with_reducible exact KS.out _ g0 | (refine⟨?_,?_⟩ <;> (rw [so,so];first|exact (KS.out _ g2).1|exact (KS.out _ g2).2))) (first
  | (go_at_call 63;refine E1.mono ?_;rintro e' t1 ⟨⟨v1,rfl,y1⟩,hb1⟩;have g1:=ah g0 hb1;obtain⟨r1,x1,x2,x3⟩:=y1;obtain⟨a1,c1,rfl⟩:=x1.shape)
  | (go_at_call 67;refine (gM b _ r1 w0.drew.heap.size t1 x1).mono ?_;rintro e' t2 ⟨rfl,hb2⟩;have g2:=ah g1 hb2;have hz3:=ae g2 (show w0.drew.heap[w.heap.size+1]?=some (.cells #[.bool false,.slice none 0 0] 25) from H1.out);have hf:=bT hz3;obtain⟨m0,m1'⟩:=duo hz3))
 have hw0s:=HB0.out.size
 have T1:TN t2 w.heap.size (.slice a1 r1.length c1) zv.natAbs:=⟨r1,(x1.below hb2).base hw0s,by rw [HZA.out];exact x2,x3⟩
 have hsg:(b && decide (0<r1.length))=decide (zv<0):=by have h:=HZS.out;rw [←h];exact dW b x3 x2
 rw [hsg] at *
 have T2:=(T1.offT (g:=w.heap.size+1) (o:=0) (u:=.bool (decide (zv<0))) hz3 (by decide)).offT (g:=w.heap.size+1) (o:=1) (u:=.slice a1 r1.length c1) (aj hz3 _) (by decide)
 have T3:=cf (a':=.bool (decide (zv<0))) (b':=.slice a1 r1.length c1) hz3
 have T4:=bS (u0:=.bool (decide (zv<0))) (u1:=.slice a1 r1.length c1) (ah (show Below w.heap.size w w0.drew from HB0.out.drew) g2) (show w.heap.size≤w.heap.size+1 by omega)
 have HE:=ac (And.intro T2 T4)
 obtain⟨p0,p1⟩:=duo T3
 clear T1 T2 T3 T4 so hz3 hf m0 m1' x1 x2 x3 hb1 hb2 g0 g1 g2 KS E1 hsg
 generalize (t2.setCell ⟨w.heap.size+1,0,none⟩ (.bool (decide (zv<0)))).setCell ⟨w.heap.size+1,1,none⟩ (.slice a1 r1.length c1)=w5 at *
 go_wp2
 refine bodyPost_ret (v:=.agg #[.bool (decide (zv<0)),.slice a1 r1.length c1]) (by simp [results,Tryz.results60,go_sem,p0,p1]) rfl ?_
 exact⟨⟨_,_,_,rfl,HE.out.1⟩,HE.out.2⟩
end Go.Proofs.YtgnmgbbokcpppaaGreatDoor

