/- Package div: Gcd and Lcm of any numbers. -/
import Derived.Test.YtplegacjglaenaaGreatDoorB13
import Derived.Test.YtplegacjglaenaaGreatDoorB07
import Derived.Handy
import Derived.Test.YtplegacjglaenaaGreatDoorB08
import Derived.Deep.RegionHeld3
import Derived.Test.YtplegacjglaenaaGreatDoorB01
import Derived.Maps.AppendAt
import Derived.Test.YtplegacjglaenaaGreatDoorB02
set_option maxRecDepth 20000
set_option maxHeartbeats 2000000
namespace Go.Proofs.YtplegacjglaenaaGreatDoor
open Go.RowKit
open Lm
attribute [local go_sem ↓] Go.wp_at_zero Go.wp_at_succ

theorem ou (va vb:Value)(X Y:List Nat)(w:World)(hA:Arg w va X)(hA2:Arg w vb Y)(hT:Tab w)(hf1:X.length≤17592186044000)(hf2:Y.length≤17592186044000) :
  Calls Tryz.prog 69 #[va,vb] w (gK w (Nat.gcd (val X) (val Y))):=by
 by_cases hX:val X=0
 ·have Z1:=df va X w hA
  rw [decide_eq_true hX] at Z1
  have HN:=dj vb Y w hA2 (by omega)
  have HG:Hid (Nat.gcd (val X) (val Y)=val Y):=by rw [hX,Nat.gcd_zero_left];exact ac rfl
  generalize Nat.gcd (val X) (val Y)=G at *
  clear hA hA2 hT hX
  go_enter Tryz.func69,Tryz.ntmps69
  go_wp2_with fail
  refine Z1.mono ?_
  rintro e wn ⟨rfl,hw⟩;rw [hw];clear hw wn Z1
  go_wp2_with fail
  refine HN.mono ?_
  rintro e w2 ⟨⟨v,rfl,A1⟩,hb⟩
  have H:=ac (And.intro A1 hb)
  clear HN A1 hb
  go_wp2
  go_ret
  exact⟨⟨_,_,rfl,H.out.1,tr_tr _,by rw [val_tr,HG.out]⟩,H.out.2⟩
 ·by_cases hY:val Y=0
  ·have Z1:=df va X w hA
   rw [decide_eq_false hX] at Z1
   have Z2:=df vb Y w hA2
   rw [decide_eq_true hY] at Z2
   have HN:=dj va X w hA (by omega)
   have HG:Hid (Nat.gcd (val X) (val Y)=val X):=by rw [hY,Nat.gcd_zero_right];exact ac rfl
   generalize Nat.gcd (val X) (val Y)=G at *
   clear hA hA2 hT hX hY
   go_enter Tryz.func69,Tryz.ntmps69
   go_wp2_with fail
   refine Z1.mono ?_
   rintro e wn ⟨rfl,hw⟩;rw [hw];clear hw wn Z1
   go_wp2_with fail
   refine Z2.mono ?_
   rintro e wn ⟨rfl,hw⟩;rw [hw];clear hw wn Z2
   go_wp2_with fail
   refine HN.mono ?_
   rintro e w2 ⟨⟨v,rfl,A1⟩,hb⟩
   have H:=ac (And.intro A1 hb)
   clear HN A1 hb
   go_wp2
   go_ret
   exact⟨⟨_,_,rfl,H.out.1,tr_tr _,by rw [val_tr,HG.out]⟩,H.out.2⟩
  ·exact lZ va vb X Y w hA hA2 hT hf1 hf2 hX hY fun i j h1 h2=>kQ _ _ h1 h2

theorem Ans.offT {w:World}{base g o:Nat}{v u:Value}{zs:List Nat}{vs:Array Value}{t:TypeId}(h:Ans w base v zs)(hl:w.heap[g]?=some (.cells vs t))(ht:t≠51):Ans (w.setCell ⟨g,o,none⟩ u) base v zs:=by
 refine⟨?_,h.limbs⟩
 obtain⟨h1,h2⟩:=h.own
 refine⟨h1,?_⟩
 rcases h2 with h2|⟨g',cap,cur,hv,hg,hh,r⟩
 ·exact .inl h2
 ·refine .inr ⟨g',cap,cur,hv,hg,?_,r⟩
  rw [Below.heap_setCell _ _ _ _ ?_]
  ·exact hh
  ·rintro rfl
   rw [hh] at hl
   simp only [Option.some.injEq,Obj.cells.injEq] at hl
   exact ht hl.2.1.symm

theorem TN.offT {w:World}{base g o x:Nat}{v u:Value}{vs:Array Value}{t:TypeId}(h:TN w base v x)(hl:w.heap[g]?=some (.cells vs t))(ht:t≠51):TN (w.setCell ⟨g,o,none⟩ u) base v x:=by
 obtain⟨rs,h1,h2⟩:=h
 exact⟨rs,h1.offT hl ht,h2⟩

def TR (w:World)(base:Nat)(b:Bool)(v1 v2:Value)(z:Int)(d:Nat):Prop:=
 b=decide (z<0)∧TN w base v1 z.natAbs∧∃mid,base≤mid∧(∀g,v1.ownBlock=some g→g<mid)∧TN w mid v2 d

theorem TR.below {w w':World}{base:Nat}{b:Bool}{v1 v2:Value}{z:Int}{d:Nat}(h:TR w base b v1 v2 z d)(hb:Below w.heap.size w w'):TR w' base b v1 v2 z d:=by
 obtain⟨h1,h2,mid,h3,h4,h5⟩:=h
 exact⟨h1,h2.below hb,mid,h3,h4,h5.below hb⟩

theorem TR.base {w:World}{base base':Nat}{b:Bool}{v1 v2:Value}{z:Int}{d:Nat}(h:TR w base b v1 v2 z d)(hb:base'≤base):TR w base' b v1 v2 z d:=by
 obtain⟨h1,⟨rs,h2,h2'⟩,mid,h3,h4,h5⟩:=h
 exact⟨h1,⟨rs,h2.base hb,h2'⟩,mid,Nat.le_trans hb h3,h4,h5⟩

theorem TR.offT {w:World}{base g o:Nat}{b:Bool}{v1 v2 u:Value}{z:Int}{d:Nat}{vs:Array Value}{t:TypeId}(h:TR w base b v1 v2 z d)(hl:w.heap[g]?=some (.cells vs t))(ht:t≠51):TR (w.setCell ⟨g,o,none⟩ u) base b v1 v2 z d:=by
 obtain⟨h1,h2,mid,h3,h4,h5⟩:=h
 exact⟨h1,h2.offT hl ht,mid,h3,h4,h5.offT hl ht⟩

theorem aH {w:World}{g:Nat}{a b c u0 u1 u2:Value}{t:TypeId}(h:w.heap[g]?=some (.cells #[a,b,c] t)):(((w.setCell ⟨g,0,none⟩ u0).setCell ⟨g,1,none⟩ u1).setCell ⟨g,2,none⟩ u2).heap[g]?=some (.cells #[u0,u1,u2] t):=
 aB (aB (aB h u0) u1) u2

theorem tri {w:World}{g:Nat}{a b c:Value}{t:TypeId}(h:w.heap[g]?=some (.cells #[a,b,c] t)):w.cell? ⟨g,0,none⟩=some a∧w.cell? ⟨g,1,none⟩=some b∧w.cell? ⟨g,2,none⟩=some c:=⟨by simp [World.cell?,h],by simp [World.cell?,h],by simp [World.cell?,h]⟩

theorem aC {w:World}{g:Nat}{a b c:Value}{t:TypeId}(h:w.heap[g]?=some (.cells #[a,b,c] t)):∀k,w.frozen? ⟨g,k,none⟩=false:=fun k=>by simp [World.frozen?,h]

theorem TR.tri {w:World}{base g:Nat}{b:Bool}{v1 v2 a0 a1 a2 u0 u1 u2:Value}{z:Int}{d:Nat}(h:TR w base b v1 v2 z d)(hl:w.heap[g]?=some (.cells #[a0,a1,a2] 28)):TR (((w.setCell ⟨g,0,none⟩ u0).setCell ⟨g,1,none⟩ u1).setCell ⟨g,2,none⟩ u2) base b v1 v2 z d:=
 ((h.offT hl (by decide)).offT (aB hl u0) (by decide)).offT (aB (aB hl u0) u1) (by decide)

theorem aG {B:Nat}{w0 w:World}{g:Nat}{u0 u1 u2:Value}(h:Below B w0 w)(hg:B≤g):Below B w0 (((w.setCell ⟨g,0,none⟩ u0).setCell ⟨g,1,none⟩ u1).setCell ⟨g,2,none⟩ u2):=
 ((h.setCell (p:=⟨g,0,none⟩) hg u0).setCell (p:=⟨g,1,none⟩) hg u1).setCell (p:=⟨g,2,none⟩) hg u2

theorem ae {W0 W t:World}(h:Below W0.heap.size W0 W)(h2:Below W.heap.size W t):Below W0.heap.size W0 t:=h.trans (h2.mono h.size)

def cY (w:World)(z:Int)(d:Nat)(e:Ending)(w':World):Prop:=
 (∃(b:Bool) (a1:Option Addr) (n1 k1:Nat) (a2:Option Addr) (n2 k2:Nat),e=.returned (.agg #[.bool b,.slice a1 n1 k1,.slice a2 n2 k2])∧TR w' w.heap.size b (.slice a1 n1 k1) (.slice a2 n2 k2) z d)∧Below w.heap.size w w'

theorem rc (bn:Bool)(vn vd vg:Value)(X Y Z:List Nat)(w:World)(hA:Arg w vn X)(hB:Arg w vd Y)(hC:Arg w vg Z)(hT:Tab w)(hf1:X.length≤17592186044000)(hf2:Y.length≤17592186044000)(hf3:Z.length≤17592186044000)(hZ:val Z≠0)
  (q1:blen (val X / val Z)≤67108864) (m1:blen (val X % val Z)≤67108864) (q2:blen (val Y / val Z)≤67108864) (m2:blen (val Y % val Z)≤67108864) :
  Calls Tryz.prog 68 #[.agg #[.bool bn,vn],vd,vg] w (cY w (zz bn (val X / val Z)) (val Y / val Z)):=by
 obtain⟨a,n,rfl,_,_,_⟩:=hA.form
 obtain⟨ad,nd,rfl,_,_,_⟩:=hB.form
 obtain⟨ag,ng,rfl,_,_,_⟩:=hC.form
 obtain⟨w0,hw0,hb0,h0,h1⟩:=aJ w (.cells #[.bool bn,.slice a X.length n] 26) (.cells #[.bool false,.slice none 0 0,.slice none 0 0] 28)
 have H1:=ac h1
 have HB0:=ac hb0
 have gd:Below w.heap.size w w0.drew:=hb0.drew
 have g0:Below w0.drew.heap.size w0.drew w0.drew:=Below.refl _ _
 have E1:=iG _ _ X Z w0.drew (hA.below gd) (hC.below gd) (hT.below gd) (by omega) (by omega) hZ q1 m1
 have E2:=ac (fun (W:World) (hg:Below w0.drew.heap.size w0.drew W)=>iG (.slice ad Y.length nd) (.slice ag Z.length ng) Y Z W ((hB.below gd).below hg) ((hC.below gd).below hg) ((hT.below gd).below hg) (by omega) (by omega) hZ q2 m2)
 have KS:=ac (fun (W:World) (hg:Below w0.drew.heap.size w0.drew W)=>show W.cell? ⟨w.heap.size,0,none⟩=some (.bool bn)∧W.cell? ⟨w.heap.size,1,none⟩=some (.slice a X.length n) from duo (ai hg (show w0.drew.heap[w.heap.size]?=some (.cells #[.bool bn,.slice a X.length n] 26) from h0)))
 have so:∀(W:World) (k:Nat) (u:Value) (k':Nat),(W.setCell ⟨w.heap.size+1,k,none⟩ u).cell? ⟨w.heap.size,k',none⟩=W.cell? ⟨w.heap.size,k',none⟩:=fun W k u k'=>cj (by omega)
 clear hA hB hC hT h0 h1 hb0 gd
 go_enter Tryz.func68,Tryz.ntmps68
 go_wp2
 go_region_held3 (fun w'=>w'.cell? ⟨w.heap.size,0,none⟩=some (.bool bn)∧w'.cell? ⟨w.heap.size,1,none⟩=some (.slice a X.length n)) (first|with_reducible exact KS.out _ g3|with_reducible exact KS.out _ g2|with_reducible exact KS.out _ g1|with_reducible exact KS.out _ g0 | (refine⟨?_,?_⟩ <;> (rw [so,so,so];first|exact (KS.out _ g3).1|exact (KS.out _ g3).2))) (first
  | (go_at_call_of 79 a;refine E1.mono ?_;rintro e' t1 ⟨⟨v1,rfl,y1⟩,hb1⟩;have g1:=ae g0 hb1;obtain⟨r1,x1,x2,x3⟩:=y1;obtain⟨a1,c1,rfl⟩:=x1.shape)
  | (go_at_call 75;refine (lT bn _ r1 w0.drew.heap.size t1 x1).mono ?_;rintro e' t2 ⟨rfl,hb2⟩;have g2:=ae g1 hb2)
  | (go_at_call_of 79 ad;refine (E2.out t2 g2).mono ?_;rintro e' t3 ⟨⟨v2,rfl,y2⟩,hb3⟩;have g3:=ae g2 hb3;obtain⟨r2,z1,z2,z3⟩:=y2;obtain⟨a2,c2,rfl⟩:=z1.shape;have hz3:=ai g3 (show w0.drew.heap[w.heap.size+1]?=some (.cells #[.bool false,.slice none 0 0,.slice none 0 0] 28) from H1.out);have hf:=aC hz3;obtain⟨m0,m1',m2'⟩:=tri hz3))
 have hw0s:=HB0.out.size
 have T1:TR t3 w.heap.size (bn && decide (0<r1.length)) (.slice a1 r1.length c1) (.slice a2 r2.length c2) (zz bn (val X / val Z)) (val Y / val Z):=by
  refine⟨gF bn x3 x2,⟨r1,((x1.below hb2).below hb3).base hw0s,by rw [aY];exact x2,x3⟩,t2.heap.size,Nat.le_trans hw0s g2.size,fun g hg=>Nat.lt_of_lt_of_le ((x1.own.lt g hg).2) hb2.size,r2,z1,z2,z3⟩
 have T2:=T1.tri (u0:=.bool (bn && decide (0<r1.length))) (u1:=.slice a1 r1.length c1) (u2:=.slice a2 r2.length c2) hz3
 have T3:=aH (u0:=.bool (bn && decide (0<r1.length))) (u1:=.slice a1 r1.length c1) (u2:=.slice a2 r2.length c2) hz3
 have T4:=aG (u0:=.bool (bn && decide (0<r1.length))) (u1:=.slice a1 r1.length c1) (u2:=.slice a2 r2.length c2) (ae (show Below w.heap.size w w0.drew from HB0.out.drew) g3) (show w.heap.size≤w.heap.size+1 by omega)
 have HE:=ac (And.intro T2 T4)
 obtain⟨p0,p1,p2⟩:=tri T3
 clear T1 T2 T3 T4 so hz3 hf m0 m1' m2' x1 x2 x3 z1 z2 z3 hb1 hb2 hb3 g0 g1 g2 g3 KS E2 E1
 generalize ((t3.setCell ⟨w.heap.size+1,0,none⟩ (.bool (bn && decide (0<r1.length)))).setCell ⟨w.heap.size+1,1,none⟩ (.slice a1 r1.length c1)).setCell ⟨w.heap.size+1,2,none⟩ (.slice a2 r2.length c2)=w5 at *
 generalize (bn && decide (0<r1.length))=bb at *
 go_wp2
 refine bodyPost_ret (v:=.agg #[.bool bb,.slice a1 r1.length c1,.slice a2 r2.length c2]) (by simp [results,Tryz.results68,go_sem,p0,p1,p2]) rfl ?_
 exact⟨⟨_,_,_,_,_,_,_,rfl,HE.out.1⟩,HE.out.2⟩

theorem ie (bn:Bool)(vn vd:Value)(X Y:List Nat)(w:World)(hA:Arg w vn X)(hB:Arg w vd Y)(hT:Tab w)(hf1:X.length≤17592186043904)(hf2:Y.length≤17592186043904)(hY:val Y≠0)
  (q1:blen (val X / Nat.gcd (val X) (val Y))≤67108864) (q2:blen (val Y / Nat.gcd (val X) (val Y))≤67108864) :
  Calls Tryz.prog 45 #[.agg #[.bool bn,vn],vd] w (cY w (zz bn (val X / Nat.gcd (val X) (val Y))) (val Y / Nat.gcd (val X) (val Y))):=by
 obtain⟨a,n,rfl,_,_,_⟩:=hA.form
 obtain⟨ad,nd,rfl,_,_,_⟩:=hB.form
 obtain⟨w0,hw0,hb0,h0,h1⟩:=aJ w (.cells #[.bool bn,.slice a X.length n] 26) (.cells #[.bool false,.slice none 0 0,.slice none 0 0] 28)
 have H1:=ac h1
 have HB0:=ac hb0
 have gd:Below w.heap.size w w0.drew:=hb0.drew
 have g0:Below w0.drew.heap.size w0.drew w0.drew:=Below.refl _ _
 have E1:=ou _ _ X Y w0.drew (hA.below gd) (hB.below gd) (hT.below gd) (by omega) (by omega)
 have hG0:Nat.gcd (val X) (val Y)≠0:=fun h=>hY (Nat.eq_zero_of_gcd_eq_zero_right h)
 have hGle:Nat.gcd (val X) (val Y)≤val Y:=Nat.gcd_le_right _ (by omega)
 have hYl:=val_lt hB.limbs
 have r1:val X % Nat.gcd (val X) (val Y)=0:=Nat.mod_eq_zero_of_dvd (Nat.gcd_dvd_left _ _)
 have r2:val Y % Nat.gcd (val X) (val Y)=0:=Nat.mod_eq_zero_of_dvd (Nat.gcd_dvd_right _ _)
 have b0:blen 0≤67108864:=by
  have:blen 0≤0:=(blen_le_iff _ _).2 (by decide)
  omega
 have E2:=ac (fun (W:World) (v:Value) (rs:List Nat) (hg:Below w0.drew.heap.size w0.drew W) (hv:Ans W w0.drew.heap.size v rs) (ht:tr rs=rs) (hval:val rs=Nat.gcd (val X) (val Y))=>show Calls Tryz.prog 68 #[.agg #[.bool bn,.slice a X.length n],.slice ad Y.length nd,v] W (cY W (zz bn (val X / Nat.gcd (val X) (val Y))) (val Y / Nat.gcd (val X) (val Y))) by
  have hl:rs.length≤Y.length:=hv.few Y.length (by rw [hval];omega) ht
  have h:=rc bn (.slice a X.length n) (.slice ad Y.length nd) v X Y rs W ((hA.below gd).below hg) ((hB.below gd).below hg) (hv.arg (by omega)) ((hT.below gd).below hg) (by omega) (by omega) (by omega) (by rw [hval];exact hG0) (by rw [hval];exact q1) (by rw [hval,r1];exact b0) (by rw [hval];exact q2) (by rw [hval,r2];exact b0)
  rw [hval] at h
  exact h)
 have KS:=ac (fun (W:World) (hg:Below w0.drew.heap.size w0.drew W)=>show W.cell? ⟨w.heap.size,0,none⟩=some (.bool bn)∧W.cell? ⟨w.heap.size,1,none⟩=some (.slice a X.length n) from duo (ai hg (show w0.drew.heap[w.heap.size]?=some (.cells #[.bool bn,.slice a X.length n] 26) from h0)))
 have so:∀(W:World) (k:Nat) (u:Value) (k':Nat),(W.setCell ⟨w.heap.size+1,k,none⟩ u).cell? ⟨w.heap.size,k',none⟩=W.cell? ⟨w.heap.size,k',none⟩:=fun W k u k'=>cj (by omega)
 clear hA hB hT h0 h1 hb0 gd hG0 hGle hYl r1 r2 b0 q1 q2
 generalize zz bn (val X / Nat.gcd (val X) (val Y))=zq at *
 generalize val Y / Nat.gcd (val X) (val Y)=dq at *
 go_enter Tryz.func45,Tryz.ntmps45
 go_wp2
 go_region_held3 (fun w'=>w'.cell? ⟨w.heap.size,0,none⟩=some (.bool bn)∧w'.cell? ⟨w.heap.size,1,none⟩=some (.slice a X.length n)) (first|with_reducible exact KS.out _ g2|with_reducible exact KS.out _ g1|with_reducible exact KS.out _ g0 | (refine⟨?_,?_⟩ <;> (rw [so,so,so];first|exact (KS.out _ g2).1|exact (KS.out _ g2).2))) (first
  | (go_at_call 69;refine E1.mono ?_;rintro e' t1 ⟨⟨vg,rg,rfl,x1,x2,x3⟩,hb1⟩;have g1:=ae g0 hb1;obtain⟨ag,cg,rfl⟩:=x1.shape)
  | (go_at_call 68;refine (E2.out t1 _ rg g1 x1 x2 x3).mono ?_;rintro e' t2 ⟨⟨bb,a1,n1,c1,a2,n2,c2,rfl,y2⟩,hb2⟩;have g2:=ae g1 hb2;have hz3:=ai g2 (show w0.drew.heap[w.heap.size+1]?=some (.cells #[.bool false,.slice none 0 0,.slice none 0 0] 28) from H1.out);have hf:=aC hz3;obtain⟨m0,m1',m2'⟩:=tri hz3))
 have hw0s:=HB0.out.size
 have T1:=y2.base (Nat.le_trans hw0s g1.size)
 have T2:=T1.tri (u0:=.bool bb) (u1:=.slice a1 n1 c1) (u2:=.slice a2 n2 c2) hz3
 have T3:=aH (u0:=.bool bb) (u1:=.slice a1 n1 c1) (u2:=.slice a2 n2 c2) hz3
 have T4:=aG (u0:=.bool bb) (u1:=.slice a1 n1 c1) (u2:=.slice a2 n2 c2) (ae (show Below w.heap.size w w0.drew from HB0.out.drew) g2) (show w.heap.size≤w.heap.size+1 by omega)
 have HE:=ac (And.intro T2 T4)
 obtain⟨p0,p1,p2⟩:=tri T3
 clear T1 T2 T3 T4 so hz3 hf m0 m1' m2' x1 x2 x3 y2 hb1 hb2 g0 g1 g2 KS E2 E1
 generalize ((t2.setCell ⟨w.heap.size+1,0,none⟩ (.bool bb)).setCell ⟨w.heap.size+1,1,none⟩ (.slice a1 n1 c1)).setCell ⟨w.heap.size+1,2,none⟩ (.slice a2 n2 c2)=w5 at *
 go_wp2
 refine bodyPost_ret (v:=.agg #[.bool bb,.slice a1 n1 c1,.slice a2 n2 c2]) (by simp [results,Tryz.results45,go_sem,p0,p1,p2]) rfl ?_
 exact⟨⟨_,_,_,_,_,_,_,rfl,HE.out.1⟩,HE.out.2⟩

theorem pS (b:Bool)(v1 v2:Value)(X Y:List Nat)(w:World)(hA:Arg w v1 X)(hB:Arg w v2 Y)(hx:blen (val X)≤67108864)(hy:blen (val Y)≤67108864) :
  Calls Tryz.prog 58 #[.agg #[.bool b,v1,v2]] w fun e w'=>e=.returned (.agg #[.bool b,v1,v2])∧Below w.heap.size w w':=by
 obtain⟨a,n,rfl,_,_,_⟩:=hA.form
 obtain⟨ad,nd,rfl,_,_,_⟩:=hB.form
 obtain⟨w0,hw0,hb0,h0,h1⟩:=aJ w (.cells #[.bool b,.slice a X.length n,.slice ad Y.length nd] 28) (.cells #[.bool false,.slice none 0 0,.slice none 0 0] 28)
 have L1:=aM _ X w0 (hA.below hb0)
 have L2:=aM _ Y w0 (hB.below hb0)
 have RN:=dV 3 w0
 have i1:¬(67108864:Int)<((blen (val X):Nat):Int):=by omega
 have i2:decide ((67108864:Int)<((blen (val X):Nat):Int))=false:=decide_eq_false i1
 have i3:¬(67108864:Int)<((blen (val Y):Nat):Int):=by omega
 have i4:decide ((67108864:Int)<((blen (val Y):Nat):Int))=false:=decide_eq_false i3
 obtain⟨c0,c1,c2⟩:=tri h0
 obtain⟨d0,d1,d2⟩:=tri h1
 have hf:=aC h1
 have H1:=ac h1
 have HB0:=ac hb0
 have T3:=aH (u0:=.bool b) (u1:=.slice a X.length n) (u2:=.slice ad Y.length nd) h1
 have HE:=ac (aG (u0:=.bool b) (u1:=.slice a X.length n) (u2:=.slice ad Y.length nd) hb0 (show w.heap.size≤w.heap.size+1 by omega))
 obtain⟨p0,p1,p2⟩:=tri T3
 have so:∀(W:World) (k:Nat) (u:Value) (k':Nat),(W.setCell ⟨w.heap.size+1,k,none⟩ u).cell? ⟨w.heap.size,k',none⟩=W.cell? ⟨w.heap.size,k',none⟩:=fun W k u k'=>cj (by omega)
 clear hA hB h0 h1 hb0 T3 hx hy
 generalize blen (val X)=lx at *
 generalize blen (val Y)=ly at *
 go_enter Tryz.func58,Tryz.ntmps58
 go_wp2_with fail
 refine L1.mono ?_
 rintro e wn ⟨rfl,hw⟩;rw [hw];clear hw wn L1
 go_wp2_with fail
 refine L2.mono ?_
 rintro e wn ⟨rfl,hw⟩;rw [hw];clear hw wn L2
 go_wp2_with fail
 refine RN.mono ?_
 rintro e wn ⟨rfl,hw⟩;rw [hw];clear hw wn RN
 go_wp2
 clear so hf d0 d1 d2 c0 c1 c2
 generalize ((w0.setCell ⟨w.heap.size+1,0,none⟩ (.bool b)).setCell ⟨w.heap.size+1,1,none⟩ (.slice a X.length n)).setCell ⟨w.heap.size+1,2,none⟩ (.slice ad Y.length nd)=w5 at *
 refine bodyPost_ret (v:=.agg #[.bool b,.slice a X.length n,.slice ad Y.length nd]) (by simp [results,Tryz.results58,go_sem,p0,p1,p2]) rfl ?_
 exact⟨rfl,HE.out⟩

theorem gL (L:Nat)(b:Bool)(v1 v2:Value)(X Y:List Nat)(w:World)(hA:Arg w v1 X)(hB:Arg w v2 Y)(hL:w.heap[L]?=some (.cells #[.bool b,v1,v2] 28))(hY:val Y≠0) :
  Calls Tryz.prog 27 #[.slice (some ⟨L,0,none⟩) 1 1] w fun e w'=>e=.returned (.tuple #[])∧Below w.heap.size w w':=by
 obtain⟨a,n,rfl,_,_,_⟩:=hA.form
 obtain⟨ad,nd,rfl,_,_,_⟩:=hB.form
 obtain⟨c0,c1,c2⟩:=tri hL
 obtain⟨w0,hw0,hb0,h0⟩:=am w (.cells #[.bool b,.slice a X.length n,.slice ad Y.length nd] 28)
 have Z1:=dm _ Y w0 (hB.below hb0)
 rw [decide_eq_false hY] at Z1
 have RN:=dV 70 w0
 obtain⟨d0,d1,d2⟩:=tri h0
 have HB0:=ac hb0
 clear hA hB hL h0 hb0
 go_enter Tryz.func27,Tryz.ntmps27
 go_wp2
 refine wp_loop_rounds 2 ?_
 rw [rounds_succ]
 go_wp2_with fail
 refine Z1.mono ?_
 rintro e wn ⟨rfl,hw⟩;rw [hw];clear hw wn Z1
 go_wp2_with fail
 refine RN.mono ?_
 rintro e wn ⟨rfl,hw⟩;rw [hw];clear hw wn RN
 go_wp2
 rw [rounds_succ]
 go_wp2
 go_end0
 exact⟨rfl,HB0.out⟩
end Go.Proofs.YtplegacjglaenaaGreatDoor
namespace Go.Proofs.YtplegacjglaenaaGreatDoor
open Go.RowKit
open Lm

theorem mM (a b:List Nat)(x y:Nat):(a ++ x :: b).set a.length y=(a ++ [y]) ++ b:=by
 simp

abbrev aA:Value:=.slice none 0 0

def upd (rows:Nat→List Nat)(i:Nat)(r:List Nat):Nat→List Nat:=fun m=>if m=i then r else rows m

theorem bX (rows:Nat→List Nat)(i:Nat)(r:List Nat):upd rows i r i=r:=by simp [upd]

theorem ct (rows:Nat→List Nat)(i m:Nat)(r:List Nat)(h:m≠i):upd rows i r m=rows m:=by simp [upd,h]

theorem Ans.ne {w:World}{base L:Nat}{v:Value}{zs:List Nat}{vs:Array Value}(h:Ans w base v zs)(hl:w.heap[L]?=some (.cells vs 23 (0,0))):v.ownBlock≠some L:=by
 obtain⟨_,h2⟩:=h.own
 rcases h2 with ⟨rfl,_⟩|⟨g,cap,cur,rfl,_,hh,_⟩
 ·simp [Value.ownBlock]
 ·intro e
  simp [Value.ownBlock] at e
  subst e
  rw [hl] at hh
  simp at hh

theorem Ans.stored {w:World}{base g cap:Nat}{zs:List Nat}(h:Ans w base (.slice (some ⟨g,0,none⟩) zs.length cap) zs)(j z:Nat)(hz:z<18446744073709551616):Ans (w.setCell ⟨g,j,none⟩ (.int .u64 (z:Int))) base (.slice (some ⟨g,0,none⟩) (zs.set j z).length cap) (zs.set j z):=by
 refine⟨?_,limbs_set h.limbs _ _ hz⟩
 have:=(h.own.stored j (.int .u64 (z:Int))).1
 rw [List.length_set,List.map_set]
 exact this

theorem nE (r:List Nat)(j c:Nat)(h:j<r.length):(List.replicate j c ++ r.drop j).set j c=List.replicate (j+1) c ++ r.drop (j+1):=by
 rw [List.drop_eq_getElem_cons h]
 have:=mM (List.replicate j c) (r.drop (j+1)) r[j] c
 rw [List.length_replicate] at this
 rw [this,←List.replicate_succ']

theorem oP (r:List Nat)(j c:Nat)(h:j≤r.length):(List.replicate j c ++ r.drop j).length=r.length:=by
 simp;omega

def bh (b:Nat):List Nat:=[b,b+1,b+2,b+3,b+4]

def over (rows:Nat→List Nat)(m:Nat):List Nat:=List.replicate (rows m).length (m % 251+1)

def bE (rows:Nat→List Nat)(k m:Nat):List Nat:=if m<k then over rows m else rows m

theorem jI (rows:Nat→List Nat)(k m:Nat)(h:m≠k):bE rows k m=bE rows (k+1) m:=by
 unfold bE
 by_cases h1:m<k
 ·rw [if_pos h1,if_pos (by omega)]
 ·rw [if_neg h1,if_neg (by omega)]

theorem pb (rows:Nat→List Nat)(k:Nat)(hk:k≤1000):Limbs (over rows k ++ bh (300+5*k)):=by
 intro z hz
 rcases List.mem_append.1 hz with h|h
 ·have:=List.eq_of_mem_replicate h
  omega
 ·simp only [bh,List.mem_cons,List.not_mem_nil,or_false] at h
  omega

theorem qW (rows:Nat→List Nat)(k j:Nat)(h:j<(rows k).length):(over rows k ++ bh (300+5*k)).getD j 0=k % 251+1:=by
 have hl:j<(over rows k).length:=by simpa [over] using h
 rw [List.getD,List.getElem?_append_left hl]
 simp [over,h]

theorem qS (rows:Nat→List Nat)(k j:Nat)(h:(rows k).length≤j)(h2:j<(rows k).length+5):(over rows k ++ bh (300+5*k)).getD j 0=300+5*k+(j - (rows k).length):=by
 obtain⟨i,rfl⟩:∃i,j=(rows k).length+i:=⟨j - (rows k).length,by omega⟩
 have hl:(over rows k).length≤(rows k).length+i:=by simp [over]
 rw [List.getD,List.getElem?_append_right hl]
 match i,show i<5 by omega with
 | 0,_=>simp [over,bh]
 | 1,_=>simp [over,bh]
 | 2,_=>simp [over,bh]
 | 3,_=>simp [over,bh]
 | 4,_=>simp [over,bh]

theorem dp {w:World}{base e n:Nat}{v:Value}{xs:List Value}(h:w.ownsRow base e 1 v n xs)(hn:0<n):∃g cap,v=.slice (some ⟨g,0,none⟩) n cap:=by
 rcases h.2 with ⟨_,h0⟩|⟨g,cap,_,hv,_⟩
 ·omega
 ·exact⟨g,cap,hv⟩

def aD (w:World):Nat→List Value→List (List Nat)→Prop
 | _,[],[]=>True
 | b,v :: vs,r :: rs=>∃b',(b≤b'∧b'≤w.heap.size)∧Ans w b v r∧(∀g,v.ownBlock=some g→g<b')∧aD w b' vs rs
 | _,_,_=>False

theorem Ans.top {w:World}{base:Nat}{v:Value}{zs:List Nat}(h:Ans w base v zs):∀g,v.ownBlock=some g→g<w.heap.size:=fun g hg=>(h.own.lt g hg).2

theorem du (zs:List Nat)(h:Limbs zs):blen (val zs)≤64*zs.length:=by
 rw [blen_le_iff,Nat.mul_comm]
 have:=val_lt h
 rwa [W_pow] at this

theorem ah {w a b:World}(h:Hid (Below w.heap.size w a))(hb:Below a.heap.size a b):Hid (Below w.heap.size w b):=h.out.trans (hb.mono h.out.size)

theorem aD.length {w:World}:∀ {b:Nat} {vs:List Value} {rs:List (List Nat)},aD w b vs rs→vs.length=rs.length
 | _,[],[],_=>rfl
 | _,_ :: _,_ :: _,⟨_,_,_,_,h⟩=>by simp [h.length]
 | _,[],_ :: _,h=>h.elim
 | _,_ :: _,[],h=>h.elim

theorem aD.row {w:World}:∀ {b:Nat} {vs:List Value} {rs:List (List Nat)},aD w b vs rs→∀i,i<vs.length→Ans w b (vs.getD i aA) (rs.getD i [])
 | _,[],_,_,i,hi=>absurd hi (by simp)
 | _,_ :: _,[],h,_,_=>h.elim
 | _,v :: vs,r :: rs,⟨b',h1,h2,h3,h4⟩,i,hi=>by
  cases i with
  | zero=>exact h2
  | succ i=>exact (h4.row i (by simpa using hi)).base h1.1

theorem aD.from {w:World}{b:Nat}{vs:List Value}{rs:List (List Nat)}(h:aD w b vs rs)(i:Nat)(hi:i<vs.length)(g:Nat)(hg:(vs.getD i aA).ownBlock=some g):b≤g:=((h.row i hi).own.lt g hg).1

theorem aD.apart {w:World}:∀ {b:Nat} {vs:List Value} {rs:List (List Nat)},aD w b vs rs→∀i j,i<vs.length→j<vs.length→i≠j→(vs.getD i aA).ownBlock=none∨(vs.getD i aA).ownBlock≠(vs.getD j aA).ownBlock
 | _,[],_,_,i,_,hi,_,_=>absurd hi (by simp)
 | _,_ :: _,[],h,_,_,_,_,_=>h.elim
 | _,v :: vs,r :: rs,⟨b',h1,h2,h3,h4⟩,i,j,hi,hj,hij=>by
  cases i with
  | zero=>
   cases j with
   | zero=>exact absurd rfl hij
   | succ j=>
    show v.ownBlock=none∨v.ownBlock≠(vs.getD j aA).ownBlock
    cases hv:v.ownBlock with
    | none=>exact .inl rfl
    | some g=>
     refine .inr fun e=>?_
     have a:=h3 g hv
     have b:=h4.from j (by simpa using hj) g e.symm
     omega
  | succ i=>
   cases j with
   | zero=>
    show (vs.getD i aA).ownBlock=none∨(vs.getD i aA).ownBlock≠v.ownBlock
    cases hv:(vs.getD i aA).ownBlock with
    | none=>exact .inl rfl
    | some g=>
     refine .inr fun e=>?_
     have a:=h3 g e.symm
     have b:=h4.from i (by simpa using hi) g hv
     omega
   | succ j=>exact h4.apart i j (by simpa using hi) (by simpa using hj) (by omega)

theorem aD.below {w w':World}(hb:Below w.heap.size w w'):∀ {b:Nat} {vs:List Value} {rs:List (List Nat)},aD w b vs rs→aD w' b vs rs
 | _,[],[],_=>trivial
 | _,_ :: _,_ :: _,⟨b',h1,h2,h3,h4⟩=>⟨b',⟨h1.1,Nat.le_trans h1.2 hb.size⟩,h2.below hb,h3,aD.below hb h4⟩
 | _,[],_ :: _,h=>h.elim
 | _,_ :: _,[],h=>h.elim
end Go.Proofs.YtplegacjglaenaaGreatDoor
namespace Go.Proofs.YtplegacjglaenaaGreatDoor
open Go.RowKit
open Lm
attribute [local go_sem ↓] Go.wp_at_zero Go.wp_at_succ

theorem kh (x y:Nat):blen (x*y)≤blen x+blen y:=by
 refine (blen_le_iff _ _).2 ?_
 have h1:=(blen_le_iff x _).1 (Nat.le_refl _)
 have h2:=(blen_le_iff y _).1 (Nat.le_refl _)
 rw [Nat.pow_add]
 exact Nat.mul_lt_mul_of_lt_of_lt h1 h2

theorem iR {x y:Nat}(h:x≤y):blen x≤blen y:=(blen_le_iff x _).2 (Nat.lt_of_le_of_lt h ((blen_le_iff y _).1 (Nat.le_refl _)))

theorem jh {rs:List Nat}{x n:Nat}(ht:tr rs=rs)(hv:val rs=x)(hb:blen x≤n*64):rs.length≤n:=by
 rw [←ht]
 refine aO rs n ?_
 rw [hv]
 have h:=(blen_le_iff x _).1 hb
 rw [Nat.mul_comm,Nat.pow_mul] at h
 exact h

theorem mK {x y M:Nat}(hx:x≠0)(hy:y≠0)(q1:blen (x / Nat.gcd x y)≤M)(q2:blen (y / Nat.gcd x y)≤M):¬(M:Int)<max ((blen x:Int) - blen y) ((blen y:Int) - blen x):=by
 have e1:=Nat.div_mul_cancel (Nat.gcd_dvd_left x y)
 have e2:=Nat.div_mul_cancel (Nat.gcd_dvd_right x y)
 have g1:Nat.gcd x y≤x:=Nat.gcd_le_left _ (by omega)
 have g2:Nat.gcd x y≤y:=Nat.gcd_le_right _ (by omega)
 have a1:=kh (x / Nat.gcd x y) (Nat.gcd x y)
 have a2:=kh (y / Nat.gcd x y) (Nat.gcd x y)
 rw [e1] at a1
 rw [e2] at a2
 have b1:=iR g1
 have b2:=iR g2
 omega

theorem qZ (bn:Bool)(vn vd:Value)(X Y:List Nat)(w:World)(hA:Arg w vn X)(hB:Arg w vd Y)(hT:Tab w)(hf1:X.length≤17592186043904)(hf2:Y.length≤17592186043904)(hY:val Y≠0)
  (q1:blen (val X / Nat.gcd (val X) (val Y))≤67108864) (q2:blen (val Y / Nat.gcd (val X) (val Y))≤67108864) :
  Calls Tryz.prog 28 #[.agg #[.bool bn,vn],vd] w (cY w (zz bn (val X / Nat.gcd (val X) (val Y))) (val Y / Nat.gcd (val X) (val Y))):=by
 have hlx:=du X hA.limbs
 have hly:=du Y hB.limbs
 obtain⟨a,n,rfl,_,_,_⟩:=hA.form
 obtain⟨ad,nd,rfl,_,_,_⟩:=hB.form
 obtain⟨w0,hw0,hb0,h0,h1⟩:=aJ w (.cells #[.bool bn,.slice a X.length n] 26) (.cells #[.bool false,.slice none 0 0,.slice none 0 0] 28)
 have Z1:=dm _ X w0 (hA.below hb0)
 have L1:=aM _ X w0 (hA.below hb0)
 have L2:=aM _ Y w0 (hB.below hb0)
 have F1:=op (blen (val X)) (blen (val Y)) w0 (by omega) (by omega)
 have RN:=dV 3 w0
 have LO:=ie bn _ _ X Y w0 (hA.below hb0) (hB.below hb0) (hT.below hb0) hf1 hf2 hY q1 q2
 obtain⟨c0,c1⟩:=duo h0
 have H1:=ac h1
 have HB0:=ac hb0
 have q1':blen (zz bn (val X / Nat.gcd (val X) (val Y))).natAbs≤67108864:=by rw [aY];exact q1
 have hfar:val X≠0→decide ((67108864:Int)<max ((blen (val X):Int) - blen (val Y)) ((blen (val Y):Int) - blen (val X)))=false:=fun hx=>decide_eq_false (mK (M:=67108864) hx hY q1 q2)
 clear hA hB hT h0 h1 hb0 q1 hlx hly
 generalize zz bn (val X / Nat.gcd (val X) (val Y))=zq at *
 generalize val Y / Nat.gcd (val X) (val Y)=dq at *
 have END:=ac (fun (t1:World) (bb:Bool) (a1:Option Addr) (n1 c1:Nat) (a2:Option Addr) (n2 c2:Nat) (y:TR t1 w0.heap.size bb (.slice a1 n1 c1) (.slice a2 n2 c2) zq dq)=>show Calls Tryz.prog 58 #[.agg #[.bool bb,.slice a1 n1 c1,.slice a2 n2 c2]] t1 (fun e w'=>e=.returned (.agg #[.bool bb,.slice a1 n1 c1,.slice a2 n2 c2])∧Below t1.heap.size t1 w') by
  obtain⟨_,⟨r1,x1,x2,x3⟩,mid,_,_,r2,z1,z2,z3⟩:=y
  have k1:r1.length≤1048576:=jh x3 x2 (by omega)
  have k2:r2.length≤1048576:=jh z3 z2 (by omega)
  exact pS bb _ _ r1 r2 t1 (x1.arg (by omega)) (z1.arg (by omega)) (by rw [x2];exact q1') (by rw [z2];exact q2))
 by_cases hx:val X=0
 ·rw [decide_eq_true hx] at Z1
  clear hfar L1 L2 F1 RN
  go_enter Tryz.func28,Tryz.ntmps28
  go_wp2_with fail
  refine Z1.mono ?_
  rintro e wn ⟨rfl,hw⟩;rw [hw];clear hw wn Z1
  go_wp2_with fail
  refine LO.mono ?_
  rintro e t1 ⟨⟨bb,a1,n1,k1,a2,n2,k2,rfl,y1⟩,hb1⟩
  have FT:=END.out t1 bb a1 n1 k1 a2 n2 k2 y1
  have HG1:=ac hb1
  have HY1:=ac y1
  clear LO END hb1 y1 c0 c1
  go_wp2_with fail
  refine FT.mono ?_
  rintro e t2 ⟨rfl,hb2⟩
  have hz3:=ai (ae HG1.out hb2) H1.out
  have T1:=(HY1.out.below hb2).base HB0.out.size
  have T2:=T1.tri (u0:=.bool bb) (u1:=.slice a1 n1 k1) (u2:=.slice a2 n2 k2) hz3
  have T3:=aH (u0:=.bool bb) (u1:=.slice a1 n1 k1) (u2:=.slice a2 n2 k2) hz3
  have T4:=aG (u0:=.bool bb) (u1:=.slice a1 n1 k1) (u2:=.slice a2 n2 k2) (HB0.out.trans ((ae HG1.out hb2).mono HB0.out.size)) (show w.heap.size≤w.heap.size+1 by omega)
  have HE:=ac (And.intro T2 T4)
  obtain⟨p0,p1,p2⟩:=tri T3
  have hf:=aC hz3
  obtain⟨m0,m1,m2⟩:=tri hz3
  clear T1 T2 T3 T4 hz3 hb2 FT HY1 HG1
  go_wp2
  clear hf m0 m1 m2
  generalize ((t2.setCell ⟨w.heap.size+1,0,none⟩ (.bool bb)).setCell ⟨w.heap.size+1,1,none⟩ (.slice a1 n1 k1)).setCell ⟨w.heap.size+1,2,none⟩ (.slice a2 n2 k2)=w5 at *
  refine bodyPost_ret (v:=.agg #[.bool bb,.slice a1 n1 k1,.slice a2 n2 k2]) (by simp [results,Tryz.results28,go_sem,p0,p1,p2]) rfl ?_
  exact⟨⟨_,_,_,_,_,_,_,rfl,HE.out.1⟩,HE.out.2⟩
 ·rw [decide_eq_false hx] at Z1
  have hff:=hfar hx
  rw [hff] at F1
  clear hfar hff
  go_enter Tryz.func28,Tryz.ntmps28
  go_wp2_with fail
  refine Z1.mono ?_
  rintro e wn ⟨rfl,hw⟩;rw [hw];clear hw wn Z1
  go_wp2_with fail
  refine L1.mono ?_
  rintro e wn ⟨rfl,hw⟩;rw [hw];clear hw wn L1
  go_wp2_with fail
  refine L2.mono ?_
  rintro e wn ⟨rfl,hw⟩;rw [hw];clear hw wn L2
  go_wp2_with fail
  refine F1.mono ?_
  rintro e wn ⟨rfl,hw⟩;rw [hw];clear hw wn F1
  go_wp2_with fail
  refine RN.mono ?_
  rintro e wn ⟨rfl,hw⟩;rw [hw];clear hw wn RN
  go_wp2_with fail
  refine LO.mono ?_
  rintro e t1 ⟨⟨bb,a1,n1,k1,a2,n2,k2,rfl,y1⟩,hb1⟩
  have FT:=END.out t1 bb a1 n1 k1 a2 n2 k2 y1
  have HG1:=ac hb1
  have HY1:=ac y1
  clear LO END hb1 y1 c0 c1
  go_wp2_with fail
  refine FT.mono ?_
  rintro e t2 ⟨rfl,hb2⟩
  have hz3:=ai (ae HG1.out hb2) H1.out
  have T1:=(HY1.out.below hb2).base HB0.out.size
  have T2:=T1.tri (u0:=.bool bb) (u1:=.slice a1 n1 k1) (u2:=.slice a2 n2 k2) hz3
  have T3:=aH (u0:=.bool bb) (u1:=.slice a1 n1 k1) (u2:=.slice a2 n2 k2) hz3
  have T4:=aG (u0:=.bool bb) (u1:=.slice a1 n1 k1) (u2:=.slice a2 n2 k2) (HB0.out.trans ((ae HG1.out hb2).mono HB0.out.size)) (show w.heap.size≤w.heap.size+1 by omega)
  have HE:=ac (And.intro T2 T4)
  obtain⟨p0,p1,p2⟩:=tri T3
  have hf:=aC hz3
  obtain⟨m0,m1,m2⟩:=tri hz3
  clear T1 T2 T3 T4 hz3 hb2 FT HY1 HG1
  go_wp2
  clear hf m0 m1 m2
  generalize ((t2.setCell ⟨w.heap.size+1,0,none⟩ (.bool bb)).setCell ⟨w.heap.size+1,1,none⟩ (.slice a1 n1 k1)).setCell ⟨w.heap.size+1,2,none⟩ (.slice a2 n2 k2)=w5 at *
  refine bodyPost_ret (v:=.agg #[.bool bb,.slice a1 n1 k1,.slice a2 n2 k2]) (by simp [results,Tryz.results28,go_sem,p0,p1,p2]) rfl ?_
  exact⟨⟨_,_,_,_,_,_,_,rfl,HE.out.1⟩,HE.out.2⟩

theorem qr (gp:Nat)(b:Bool)(v1 v2:Value)(X Y:List Nat)(w:World)(hP:w.heap[gp]?=some (.cells #[.bool b,v1,v2] 28))(hA:Arg w v1 X)(hB:Arg w v2 Y)(hT:Tab w)(hf1:X.length≤17592186043904)(hf2:Y.length≤17592186043904)(hY:val Y≠0)
  (q1:blen (val X / Nat.gcd (val X) (val Y))≤67108864) (q2:blen (val Y / Nat.gcd (val X) (val Y))≤67108864) :
  Calls Tryz.prog 26 #[.pointer (some ⟨gp,0,none⟩)] w (cY w (zz b (val X / Nat.gcd (val X) (val Y))) (val Y / Nat.gcd (val X) (val Y))):=by
 obtain⟨a,n,rfl,_,_,_⟩:=hA.form
 obtain⟨ad,nd,rfl,_,_,_⟩:=hB.form
 obtain⟨w0,hw0,hb0,h0⟩:=am w (.cells #[.bool false,.slice none 0 0,.slice none 0 0] 28)
 obtain⟨u0,hu0,hbu,hL⟩:=am w0 (.cells #[.bool b,.slice a X.length n,.slice ad Y.length nd] 28)
 have g0:=ae hb0 hbu
 have ME:=gL w0.heap.size b _ _ X Y u0 (hA.below g0) (hB.below g0) hL hY
 have AN:=ac (fun (W:World) (hg:Below u0.heap.size u0 W)=>qZ b (.slice a X.length n) (.slice ad Y.length nd) X Y W ((hA.below g0).below hg) ((hB.below g0).below hg) ((hT.below g0).below hg) hf1 hf2 hY q1 q2)
 obtain⟨c0,c1,c2⟩:=tri (ai hb0 hP)
 have HP:=ac (ai g0 hP)
 have H0:=ac (ai hbu h0)
 have HG0:=ac g0
 clear hA hB hT hP hb0 h0 hbu hL g0 q1 q2
 generalize zz b (val X / Nat.gcd (val X) (val Y))=zq at *
 generalize val Y / Nat.gcd (val X) (val Y)=dq at *
 go_enter Tryz.func26,Tryz.ntmps26
 go_wp2_with fail
 refine ME.mono ?_
 rintro e t1 ⟨rfl,hb1⟩
 have A1:=AN.out t1 hb1
 have HG1:=ac (ae HG0.out hb1)
 obtain⟨d0,d1,d2⟩:=tri (ai hb1 HP.out)
 have H01:=ac (ai hb1 H0.out)
 clear c0 c1 c2 ME AN hb1
 go_wp2_with fail
 refine A1.mono ?_
 rintro e t2 ⟨⟨bb,a1,n1,k1,a2,n2,k2,rfl,y1⟩,hb2⟩
 have hz3:=ai hb2 H01.out
 have T1:=y1.base HG1.out.size
 have T2:=T1.tri (u0:=.bool bb) (u1:=.slice a1 n1 k1) (u2:=.slice a2 n2 k2) hz3
 have T3:=aH (u0:=.bool bb) (u1:=.slice a1 n1 k1) (u2:=.slice a2 n2 k2) hz3
 have T4:=aG (u0:=.bool bb) (u1:=.slice a1 n1 k1) (u2:=.slice a2 n2 k2) (ae HG1.out hb2) (Nat.le_refl w.heap.size)
 have HE:=ac (And.intro T2 T4)
 obtain⟨p0,p1,p2⟩:=tri T3
 have hf:=aC hz3
 obtain⟨m0,m1,m2⟩:=tri hz3
 clear T1 T2 T3 T4 hz3 hb2 A1 y1 d0 d1 d2
 go_wp2
 clear hf m0 m1 m2
 generalize ((t2.setCell ⟨w.heap.size,0,none⟩ (.bool bb)).setCell ⟨w.heap.size,1,none⟩ (.slice a1 n1 k1)).setCell ⟨w.heap.size,2,none⟩ (.slice a2 n2 k2)=w5 at *
 refine bodyPost_ret (v:=.agg #[.bool bb,.slice a1 n1 k1,.slice a2 n2 k2]) (by simp [results,Tryz.results26,go_sem,p0,p1,p2]) rfl ?_
 exact⟨⟨_,_,_,_,_,_,_,rfl,HE.out.1⟩,HE.out.2⟩

def dr (w:World)(z:Int)(d:Nat)(e:Ending)(w':World):Prop:=
 (∃(b:Bool) (a1:Option Addr) (n1 k1:Nat) (a2:Option Addr) (n2 k2:Nat),e=.returned (.tuple #[.agg #[.bool b,.slice a1 n1 k1,.slice a2 n2 k2],.int .i64 0])∧TR w' w.heap.size b (.slice a1 n1 k1) (.slice a2 n2 k2) z d)∧Below w.heap.size w w'

theorem ft (b:Bool)(v1 v2:Value)(X Y:List Nat)(w:World)(hA:Arg w v1 X)(hB:Arg w v2 Y)(hT:Tab w)(hf1:X.length≤17592186043904)(hf2:Y.length≤17592186043904)(hY:val Y≠0)
  (q1:blen (val X / Nat.gcd (val X) (val Y))≤67108864) (q2:blen (val Y / Nat.gcd (val X) (val Y))≤67108864) :
  Calls Tryz.prog 7 #[.agg #[.bool b,v1,v2]] w (dr w (zz b (val X / Nat.gcd (val X) (val Y))) (val Y / Nat.gcd (val X) (val Y))):=by
 have hmf:∀(fn:Fn) (first cap:Array Value) (w:World),(Instr.makeFunc fn first cap).run Tryz.prog w=.ok (.func fn first cap) w:=fun _ _ _ _=>rfl
 obtain⟨a,n,rfl,_,_,_⟩:=hA.form
 obtain⟨ad,nd,rfl,_,_,_⟩:=hB.form
 obtain⟨w0,hw0,hb0,h0,h1⟩:=aJ w (.cells #[.bool b,.slice a X.length n,.slice ad Y.length nd] 28) (.cells #[.bool false,.slice none 0 0,.slice none 0 0] 28)
 have FA:=pD ⟨w.heap.size,0,none⟩ w0 (fun W bb x y=>TR W w.heap.size bb x y (zz b (val X / Nat.gcd (val X) (val Y))) (val Y / Nat.gcd (val X) (val Y)))
  (fun W g k u t cs bb x y hg ht h=>h.offT hg (by rcases ht with rfl|rfl <;> decide))
  (fun W hg=>(qr w.heap.size b _ _ X Y W (ai hg h0) ((hA.below hb0).below hg) ((hB.below hb0).below hg) ((hT.below hb0).below hg) hf1 hf2 hY q1 q2).mono (fun e w' ⟨⟨bb,a1,n1,k1,a2,n2,k2,he,hr⟩,hb⟩=>⟨⟨bb,a1,n1,k1,a2,n2,k2,he,hr.base (Nat.le_trans hb0.size hg.size)⟩,hb⟩))
 have H1:=ac h1
 have HB0:=ac hb0
 clear hA hB hT h0 h1 hb0 q1 q2
 generalize zz b (val X / Nat.gcd (val X) (val Y))=zq at *
 generalize val Y / Nat.gcd (val X) (val Y)=dq at *
 go_enter Tryz.func7,Tryz.ntmps7
 go_wp2_with fail
 refine FA.mono ?_
 rintro e t2 ⟨⟨bb,a1,n1,k1,a2,n2,k2,rfl,y1⟩,hb2⟩
 have hz3:=ai hb2 H1.out
 have T2:=TR.tri (u0:=.bool bb) (u1:=.slice a1 n1 k1) (u2:=.slice a2 n2 k2) y1 hz3
 have T3:=aH (u0:=.bool bb) (u1:=.slice a1 n1 k1) (u2:=.slice a2 n2 k2) hz3
 have T4:=aG (u0:=.bool bb) (u1:=.slice a1 n1 k1) (u2:=.slice a2 n2 k2) (HB0.out.trans (hb2.mono HB0.out.size)) (show w.heap.size≤w.heap.size+1 by omega)
 have HE:=ac (And.intro T2 T4)
 obtain⟨p0,p1,p2⟩:=tri T3
 have hf:=aC hz3
 obtain⟨m0,m1,m2⟩:=tri hz3
 clear T2 T3 T4 hz3 hb2 FA y1
 go_wp2
 clear hf m0 m1 m2
 generalize ((t2.setCell ⟨w.heap.size+1,0,none⟩ (.bool bb)).setCell ⟨w.heap.size+1,1,none⟩ (.slice a1 n1 k1)).setCell ⟨w.heap.size+1,2,none⟩ (.slice a2 n2 k2)=w5 at *
 refine bodyPost_ret (v:=.tuple #[.agg #[.bool bb,.slice a1 n1 k1,.slice a2 n2 k2],.int .i64 0]) (by simp [results,Tryz.results7,go_sem,p0,p1,p2]) rfl ?_
 exact⟨⟨_,_,_,_,_,_,_,rfl,HE.out.1⟩,HE.out.2⟩

theorem iJ (bn bd:Bool)(v1 v2:Value)(X Y:List Nat)(w:World)(hA:Arg w v1 X)(hB:Arg w v2 Y)(hT:Tab w)(hf1:X.length≤17592186043904)(hf2:Y.length≤17592186043904)(hY:val Y≠0)
  (q1:blen (val X / Nat.gcd (val X) (val Y))≤67108864) (q2:blen (val Y / Nat.gcd (val X) (val Y))≤67108864) :
  Calls Tryz.prog 17 #[.agg #[.bool bn,v1],.agg #[.bool bd,v2]] w (dr w (zz (bn != bd) (val X / Nat.gcd (val X) (val Y))) (val Y / Nat.gcd (val X) (val Y))):=by
 obtain⟨a,n,rfl,_,_,_⟩:=hA.form
 obtain⟨ad,nd,rfl,_,_,_⟩:=hB.form
 obtain⟨w0,hw0,hb0,h0,h1,h2⟩:=gh w (.cells #[.bool bn,.slice a X.length n] 26) (.cells #[.bool bd,.slice ad Y.length nd] 26) (.cells #[.bool false,.slice none 0 0,.slice none 0 0] 28)
 obtain⟨c0,c1⟩:=duo h0
 obtain⟨d0,d1⟩:=duo h1
 obtain⟨sg9,hsg,hsg2⟩:∃sg9,(bn != bd)=sg9∧(!(bn == bd))=sg9:=⟨_,rfl,rfl⟩
 rw [hsg]
 have FA:=ft sg9 _ _ X Y w0 (hA.below hb0) (hB.below hb0) (hT.below hb0) hf1 hf2 hY q1 q2
 have H2:=ac h2
 have HB0:=ac hb0
 clear hA hB hT h0 h1 h2 hb0 q1 q2
 generalize zz sg9 (val X / Nat.gcd (val X) (val Y))=zq at *
 generalize val Y / Nat.gcd (val X) (val Y)=dq at *
 go_enter Tryz.func17,Tryz.ntmps17
 go_wp2_with fail
 refine FA.mono ?_
 rintro e t2 ⟨⟨bb,a1,n1,k1,a2,n2,k2,rfl,y1⟩,hb2⟩
 have hz3:=ai hb2 H2.out
 have T2:=TR.tri (u0:=.bool bb) (u1:=.slice a1 n1 k1) (u2:=.slice a2 n2 k2) (y1.base HB0.out.size) hz3
 have T3:=aH (u0:=.bool bb) (u1:=.slice a1 n1 k1) (u2:=.slice a2 n2 k2) hz3
 have T4:=aG (u0:=.bool bb) (u1:=.slice a1 n1 k1) (u2:=.slice a2 n2 k2) (HB0.out.trans (hb2.mono HB0.out.size)) (show w.heap.size≤w.heap.size+2 by omega)
 have HE:=ac (And.intro T2 T4)
 obtain⟨p0,p1,p2⟩:=tri T3
 have hf:=aC hz3
 obtain⟨m0,m1,m2⟩:=tri hz3
 clear T2 T3 T4 hz3 hb2 FA y1 c0 c1 d0 d1
 go_wp2
 clear hf m0 m1 m2
 generalize ((t2.setCell ⟨w.heap.size+2,0,none⟩ (.bool bb)).setCell ⟨w.heap.size+2,1,none⟩ (.slice a1 n1 k1)).setCell ⟨w.heap.size+2,2,none⟩ (.slice a2 n2 k2)=w5 at *
 refine bodyPost_ret (v:=.tuple #[.agg #[.bool bb,.slice a1 n1 k1,.slice a2 n2 k2],.int .i64 0]) (by simp [results,Tryz.results17,go_sem,p0,p1,p2]) rfl ?_
 exact⟨⟨_,_,_,_,_,_,_,rfl,HE.out.1⟩,HE.out.2⟩

theorem pn (L:Nat)(b1 b2 b3:Bool)(x1 y1 x2 y2 x3 y3:Value)(X1 Y1 X2 Y2 X3 Y3:List Nat)(w:World)(hX1:Arg w x1 X1)(hY1:Arg w y1 Y1)(hX2:Arg w x2 X2)(hY2:Arg w y2 Y2)(hX3:Arg w x3 X3)(hY3:Arg w y3 Y3)(hL:w.heap[L]?=some (.cells #[.bool b1,x1,y1,.bool b2,x2,y2,.bool b3,x3,y3] 28))(h1:val Y1≠0)(h2:val Y2≠0)(h3:val Y3=0) :
  Calls Tryz.prog 27 #[.slice (some ⟨L,0,none⟩) 3 3] w fun e w'=>aS 70 e∧Below w.heap.size w w':=by
 obtain⟨a1,n1,rfl,_,_,_⟩:=hX1.form
 obtain⟨a2,n2,rfl,_,_,_⟩:=hY1.form
 obtain⟨a3,n3,rfl,_,_,_⟩:=hX2.form
 obtain⟨a4,n4,rfl,_,_,_⟩:=hY2.form
 obtain⟨a5,n5,rfl,_,_,_⟩:=hX3.form
 obtain⟨a6,n6,rfl,_,_,_⟩:=hY3.form
 have cel:∀(W:World),W.heap[L]?=some (.cells #[.bool b1,.slice a1 X1.length n1,.slice a2 Y1.length n2,.bool b2,.slice a3 X2.length n3,.slice a4 Y2.length n4,.bool b3,.slice a5 X3.length n5,.slice a6 Y3.length n6] 28)→(W.cell? ⟨L,0,none⟩=some (.bool b1)∧W.cell? ⟨L,1,none⟩=some (.slice a1 X1.length n1)∧W.cell? ⟨L,2,none⟩=some (.slice a2 Y1.length n2)∧W.cell? ⟨L,3,none⟩=some (.bool b2)∧W.cell? ⟨L,4,none⟩=some (.slice a3 X2.length n3)∧W.cell? ⟨L,5,none⟩=some (.slice a4 Y2.length n4)∧W.cell? ⟨L,6,none⟩=some (.bool b3)∧W.cell? ⟨L,7,none⟩=some (.slice a5 X3.length n5)∧W.cell? ⟨L,8,none⟩=some (.slice a6 Y3.length n6)):=fun W h=>⟨by simp [World.cell?,h],by simp [World.cell?,h],by simp [World.cell?,h],by simp [World.cell?,h],by simp [World.cell?,h],by simp [World.cell?,h],by simp [World.cell?,h],by simp [World.cell?,h],by simp [World.cell?,h]⟩
 obtain⟨w1,hw1,hb1,k1⟩:=am w (.cells #[.bool b1,.slice a1 X1.length n1,.slice a2 Y1.length n2] 28)
 obtain⟨w2,hw2,hb2,k2⟩:=am w1 (.cells #[.bool b2,.slice a3 X2.length n3,.slice a4 Y2.length n4] 28)
 obtain⟨w3,hw3,hb3,k3⟩:=am w2 (.cells #[.bool b3,.slice a5 X3.length n5,.slice a6 Y3.length n6] 28)
 have g2:=ae hb1 hb2
 have g3:=ae g2 hb3
 have Z1:=dm _ Y1 w1 (hY1.below hb1)
 have Z2:=dm _ Y2 w2 (hY2.below g2)
 have Z3:=dm _ Y3 w3 (hY3.below g3)
 rw [decide_eq_false h1] at Z1
 rw [decide_eq_false h2] at Z2
 rw [decide_eq_true h3] at Z3
 have R1:=dV 70 w1
 have R2:=dV 70 w2
 have R3:=jo 70 w3
 obtain⟨c0,c1,c2,_⟩:=cel w hL
 obtain⟨_,_,_,c3,c4,c5,_⟩:=cel w1 (ai hb1 hL)
 obtain⟨_,_,_,_,_,_,c6,c7,c8⟩:=cel w2 (ai g2 hL)
 obtain⟨d0,d1,d2⟩:=tri k1
 obtain⟨e0,e1,e2⟩:=tri k2
 obtain⟨f0,f1,f2⟩:=tri k3
 have HB0:=ac g3
 clear hX1 hY1 hX2 hY2 hX3 hY3 hL cel hb1 hb2 hb3 g2 g3 k1 k2 k3
 go_enter Tryz.func27,Tryz.ntmps27
 go_wp2
 refine wp_loop_rounds 4 ?_
 rw [rounds_succ]
 go_wp2_with fail
 refine Z1.mono ?_
 rintro e wn ⟨rfl,hw⟩;rw [hw];clear hw wn Z1
 go_wp2_with fail
 refine R1.mono ?_
 rintro e wn ⟨rfl,hw⟩;rw [hw];clear hw wn R1
 go_wp2
 rw [rounds_succ]
 go_wp2_with fail
 refine Z2.mono ?_
 rintro e wn ⟨rfl,hw⟩;rw [hw];clear hw wn Z2
 go_wp2_with fail
 refine R2.mono ?_
 rintro e wn ⟨rfl,hw⟩;rw [hw];clear hw wn R2
 go_wp2
 rw [rounds_succ]
 go_wp2_with fail
 refine Z3.mono ?_
 rintro e wn ⟨rfl,hw⟩;rw [hw];clear hw wn Z3
 go_wp2_with fail
 refine R3.mono ?_
 rintro e wn ⟨he,hw⟩;rw [hw];clear hw wn R3
 unfold aS at he
 subst he
 exact⟨rfl,rfl,HB0.out⟩

def ZA (w:World)(base:Nat)(b:Bool)(u:Value)(z:Int):Prop:=∃rs,Ans w base u rs∧b=decide (z<0)∧val rs=z.natAbs∧tr rs=rs

theorem nS (n:Int)(w:World)(h1:-9223372036854775808≤n)(h2:n≤9223372036854775807) :
  Calls Tryz.prog 41 #[.int .i64 n] w fun e w'=>(∃b a l k,e=.returned (.agg #[.bool b,.slice a l k])∧ZA w' w.heap.size b (.slice a l k) n)∧Below w.heap.size w w':=by
 obtain⟨w0,hw0,hb0,hx0⟩:=am w (.cells #[.bool false,.slice none 0 0] 26)
 by_cases hn:n<0
 ·obtain⟨m,hm⟩:∃m,IntKind.i64.wrap (-n)=m:=⟨_,rfl⟩
  have hm2:IntKind.u64.wrap m=((n.natAbs:Nat):Int):=by rw [←hm,IntKind.wrap_i64,IntKind.wrap_u64];omega
  have hm3:IntKind.u64.wrap ((n.natAbs:Nat):Int)=((n.natAbs:Nat):Int):=by rw [IntKind.wrap_u64];omega
  have HM:=cC n.natAbs w0 (by omega)
  have HB0:=ac hb0
  have HX0:=ac hx0
  clear hb0 hx0
  go_enter Tryz.func41,Tryz.ntmps41
  go_wp2_with fail
  refine HM.mono ?_
  rintro e w1 ⟨⟨v1,rfl,A1⟩,hb1⟩
  have HS:=jl true v1 _ _ w1 A1
  rw [gF true (tr_tr _) (val_tr _)] at HS
  have e1:zz true (val [n.natAbs])=n:=by simp [zz,val];omega
  rw [e1] at HS
  have hv:val (tr [n.natAbs])=n.natAbs:=by rw [val_tr];simp [val]
  have ht:=tr_tr [n.natAbs]
  generalize tr [n.natAbs]=rs at *
  obtain⟨a1,k1,rfl⟩:=A1.shape
  have HA1:=ac A1
  have HW1:=ac hb1
  have HV:=ac (And.intro hv ht)
  clear A1 hb1 HM e1 hv ht
  go_wp2_with fail
  refine HS.mono ?_
  rintro e w2 ⟨rfl,hb2⟩
  have HW:=ac (HW1.out.trans (hb2.mono HW1.out.size))
  have HAN:=ac ((HA1.out.below hb2).base HB0.out.size)
  have hbx:=ai HW.out HX0.out
  have hf1:=go hbx
  obtain⟨l0,l1⟩:=duo hbx
  have HBX:=ac hbx
  have HBE:=ac (HB0.out.trans (HW.out.mono HB0.out.size))
  clear hbx hb2 HS hw0
  obtain⟨ub,hub⟩:∃ub,decide (n<0)=ub:=⟨_,rfl⟩
  rw [hub]
  go_wp2
  have R5:=fw HBX.out (a':=.bool ub) (b':=.slice a1 rs.length k1)
  have HD:=ac (And.intro (HAN.out.duo (u0:=.bool ub) (u1:=.slice a1 rs.length k1) HBX.out) (fi HBE.out (g:=w.heap.size) (u0:=.bool ub) (u1:=.slice a1 rs.length k1) (Nat.le_refl _)))
  generalize (w2.setCell ⟨w.heap.size,0,none⟩ (.bool ub)).setCell ⟨w.heap.size,1,none⟩ (.slice a1 rs.length k1)=w5 at *
  obtain⟨q0,q1⟩:=duo R5
  refine bodyPost_ret (v:=.agg #[.bool ub,.slice a1 rs.length k1]) (by simp [results,Tryz.results41,go_sem,q0,q1]) rfl ?_
  exact⟨⟨_,_,_,_,rfl,rs,HD.out.1,hub.symm,HV.out⟩,HD.out.2⟩
 ·have hm2:IntKind.u64.wrap n=((n.natAbs:Nat):Int):=by rw [IntKind.wrap_u64];omega
  have hm3:IntKind.u64.wrap ((n.natAbs:Nat):Int)=((n.natAbs:Nat):Int):=by rw [IntKind.wrap_u64];omega
  have HM:=cC n.natAbs w0 (by omega)
  have HB0:=ac hb0
  have HX0:=ac hx0
  clear hb0 hx0
  go_enter Tryz.func41,Tryz.ntmps41
  go_wp2_with fail
  refine HM.mono ?_
  rintro e w1 ⟨⟨v1,rfl,A1⟩,hb1⟩
  have HS:=jl false v1 _ _ w1 A1
  rw [gF false (tr_tr _) (val_tr _)] at HS
  have e1:zz false (val [n.natAbs])=n:=by simp [zz,val];omega
  rw [e1] at HS
  have hv:val (tr [n.natAbs])=n.natAbs:=by rw [val_tr];simp [val]
  have ht:=tr_tr [n.natAbs]
  generalize tr [n.natAbs]=rs at *
  obtain⟨a1,k1,rfl⟩:=A1.shape
  have HA1:=ac A1
  have HW1:=ac hb1
  have HV:=ac (And.intro hv ht)
  clear A1 hb1 HM e1 hv ht
  go_wp2_with fail
  refine HS.mono ?_
  rintro e w2 ⟨rfl,hb2⟩
  have HW:=ac (HW1.out.trans (hb2.mono HW1.out.size))
  have HAN:=ac ((HA1.out.below hb2).base HB0.out.size)
  have hbx:=ai HW.out HX0.out
  have hf1:=go hbx
  obtain⟨l0,l1⟩:=duo hbx
  have HBX:=ac hbx
  have HBE:=ac (HB0.out.trans (HW.out.mono HB0.out.size))
  clear hbx hb2 HS hw0
  obtain⟨ub,hub⟩:∃ub,decide (n<0)=ub:=⟨_,rfl⟩
  rw [hub]
  go_wp2
  have R5:=fw HBX.out (a':=.bool ub) (b':=.slice a1 rs.length k1)
  have HD:=ac (And.intro (HAN.out.duo (u0:=.bool ub) (u1:=.slice a1 rs.length k1) HBX.out) (fi HBE.out (g:=w.heap.size) (u0:=.bool ub) (u1:=.slice a1 rs.length k1) (Nat.le_refl _)))
  generalize (w2.setCell ⟨w.heap.size,0,none⟩ (.bool ub)).setCell ⟨w.heap.size,1,none⟩ (.slice a1 rs.length k1)=w5 at *
  obtain⟨q0,q1⟩:=duo R5
  refine bodyPost_ret (v:=.agg #[.bool ub,.slice a1 rs.length k1]) (by simp [results,Tryz.results41,go_sem,q0,q1]) rfl ?_
  exact⟨⟨_,_,_,_,rfl,rs,HD.out.1,hub.symm,HV.out⟩,HD.out.2⟩

theorem ni (p p2:Addr)(c:Int)(w:World)
  (hw:∀W,Below w.heap.size w W→Calls Tryz.prog 49 #[.pointer (some p),.pointer (some p2)] W (fun e w'=>aS c e∧Below W.heap.size W w')) :
  Calls Tryz.prog 25 #[.func (.func 49) #[] #[.pointer (some p),.pointer (some p2)]] w fun e w'=>e=.returned (.tuple #[.agg #[.bool false,.slice none 0 0,.slice none 0 0],.int .i64 c])∧Below w.heap.size w w':=by
 have hmf:∀(fn:Fn) (first cap:Array Value) (w:World),(Instr.makeFunc fn first cap).run Tryz.prog w=.ok (.func fn first cap) w:=fun _ _ _ _=>rfl
 obtain⟨w0,hw0,hb0,h0,h1⟩:=aJ w (.cells #[.bool false,.slice none 0 0,.slice none 0 0] 28) (.cells #[.int .i64 0] 34)
 have HW:=hw w0 hb0
 have HB0:=ac hb0
 have H0:=ac h0
 have H1:=ac h1
 clear hw hb0 h0 h1
 go_enter_defers Tryz.func25,Tryz.ntmps25
 go_wp2_with fail
 refine HW.mono ?_
 rintro e w1 ⟨he,hb1⟩
 unfold aS at he
 subst he
 have k0:=ai hb1 H0.out
 have k1:=ai hb1 H1.out
 have c3:w1.cell? ⟨w.heap.size+1,0,none⟩=some (.int .i64 0):=by simp [World.cell?,k1]
 have f3:w1.frozen? ⟨w.heap.size+1,0,none⟩=false:=by simp [World.frozen?,k1]
 refine leaves_cons (f:=52) (args:=#[.pointer (some ⟨w.heap.size+1,0,none⟩)]) (by simp) (by simp [go_sem]) ?_
 refine (ka ⟨w.heap.size+1,0,none⟩ c 0 [] w1 c3 f3).mono ?_
 rintro e u' w'' ⟨rfl,rfl,rfl⟩
 have m0:∀k,(w1.setCell ⟨w.heap.size+1,0,none⟩ (.int .i64 c)).cell? ⟨w.heap.size,k,none⟩=w1.cell? ⟨w.heap.size,k,none⟩:=fun k=>cj (by omega)
 have m1:w1.cell? ⟨w.heap.size,0,none⟩=some (.bool false):=by simp [World.cell?,k0]
 have m2:w1.cell? ⟨w.heap.size,1,none⟩=some (.slice none 0 0):=by simp [World.cell?,k0]
 have m3:w1.cell? ⟨w.heap.size,2,none⟩=some (.slice none 0 0):=by simp [World.cell?,k0]
 have m4:(w1.setCell ⟨w.heap.size+1,0,none⟩ (.int .i64 c)).cell? ⟨w.heap.size+1,0,none⟩=some (.int .i64 c):=by simp [go_sem,c3]
 have HFIN:=ac ((HB0.out.trans (hb1.mono HB0.out.size)).setCell (p:=⟨w.heap.size+1,0,none⟩) (by show w.heap.size≤w.heap.size+1;omega) (.int .i64 c))
 simp [Leaves,settle,results,Tryz.results25,go_sem,m0,m1,m2,m3,m4]
 exact HFIN.out

theorem ml (ga gb:Nat)(ba bb:Bool)(v1 v2 v3 v4:Value)(X Y S T:List Nat)(w:World)(hP:w.heap[ga]?=some (.cells #[.bool ba,v1,v2] 28))(hQ:w.heap[gb]?=some (.cells #[.bool bb,v3,v4] 28))(hA:Arg w v1 X)(hB:Arg w v2 Y)(hC:Arg w v3 S)(hD:Arg w v4 T)(hY:val Y≠0)(hT2:val T≠0)(hS:val S=0) :
  Calls Tryz.prog 49 #[.pointer (some ⟨gb,0,none⟩),.pointer (some ⟨ga,0,none⟩)] w (fun e w'=>aS 70 e∧Below w.heap.size w w'):=by
 obtain⟨a1,n1,rfl,_,_,_⟩:=hA.form
 obtain⟨a2,n2,rfl,_,_,_⟩:=hB.form
 obtain⟨a3,n3,rfl,_,_,_⟩:=hC.form
 obtain⟨a4,n4,rfl,_,_,_⟩:=hD.form
 obtain⟨w0,hw0,hb0,h0⟩:=am w (.cells #[.bool false,.slice none 0 0,.slice none 0 0] 28)
 obtain⟨w1,hw1,hb1,h1⟩:=am w0 (.cells #[.bool bb,.slice a4 T.length n4,.slice a3 S.length n3] 28)
 obtain⟨w2,hw2,hb2,h2⟩:=am w1 (.cells #[.bool ba,.slice a1 X.length n1,.slice a2 Y.length n2,.bool bb,.slice a3 S.length n3,.slice a4 T.length n4,.bool bb,.slice a4 T.length n4,.slice a3 S.length n3] 28)
 have g1:=ae hb0 hb1
 have g2:=ae g1 hb2
 have ME:=pn w1.heap.size ba bb bb _ _ _ _ _ _ X Y S T T S w2 (hA.below g2) (hB.below g2) (hC.below g2) (hD.below g2) (hD.below g2) (hC.below g2) h2 hY hT2 hS
 obtain⟨c0,c1,c2⟩:=tri (ai hb0 hQ)
 obtain⟨d0,d1,d2⟩:=tri (ai g1 hQ)
 obtain⟨e0,e1,e2⟩:=tri (ai g1 hP)
 obtain⟨f0,f1,f2⟩:=tri h1
 have HG:=ac g2
 clear hA hB hC hD hP hQ hb0 hb1 hb2 h0 h1 h2 g1 g2
 go_enter Tryz.func49,Tryz.ntmps49
 go_wp2_with fail
 refine ME.mono ?_
 rintro e t1 ⟨he,hb1⟩
 have HF:=ac (ae HG.out hb1)
 unfold aS at he
 subst he
 exact⟨rfl,rfl,HF.out⟩

theorem px (ba bb:Bool)(v1 v2 v3 v4:Value)(X Y S T:List Nat)(w:World)(hA:Arg w v1 X)(hB:Arg w v2 Y)(hC:Arg w v3 S)(hD:Arg w v4 T)(hY:val Y≠0)(hT2:val T≠0)(hS:val S=0) :
  Calls Tryz.prog 23 #[.agg #[.bool ba,v1,v2],.agg #[.bool bb,v3,v4]] w fun e w'=>e=.returned (.tuple #[.agg #[.bool false,.slice none 0 0,.slice none 0 0],.int .i64 70])∧Below w.heap.size w w':=by
 have hmf:∀(fn:Fn) (first cap:Array Value) (w:World),(Instr.makeFunc fn first cap).run Tryz.prog w=.ok (.func fn first cap) w:=fun _ _ _ _=>rfl
 obtain⟨a1,n1,rfl,_,_,_⟩:=hA.form
 obtain⟨a2,n2,rfl,_,_,_⟩:=hB.form
 obtain⟨a3,n3,rfl,_,_,_⟩:=hC.form
 obtain⟨a4,n4,rfl,_,_,_⟩:=hD.form
 obtain⟨w0,hw0,hb0,h0,h1,h2⟩:=gh w (.cells #[.bool ba,.slice a1 X.length n1,.slice a2 Y.length n2] 28) (.cells #[.bool bb,.slice a3 S.length n3,.slice a4 T.length n4] 28) (.cells #[.bool false,.slice none 0 0,.slice none 0 0] 28)
 have FA:=ni ⟨w.heap.size+1,0,none⟩ ⟨w.heap.size,0,none⟩ 70 w0 (fun W hg=>ml w.heap.size (w.heap.size+1) ba bb _ _ _ _ X Y S T W (ai hg h0) (ai hg h1) ((hA.below hb0).below hg) ((hB.below hb0).below hg) ((hC.below hb0).below hg) ((hD.below hb0).below hg) hY hT2 hS)
 have H2:=ac h2
 have HB0:=ac hb0
 clear hA hB hC hD h0 h1 h2 hb0
 go_enter Tryz.func23,Tryz.ntmps23
 go_wp2_with fail
 refine FA.mono ?_
 rintro e t2 ⟨rfl,hb2⟩
 have hz3:=ai hb2 H2.out
 have T3:=aH (u0:=.bool false) (u1:=.slice none 0 0) (u2:=.slice none 0 0) hz3
 have HE:=ac (aG (u0:=.bool false) (u1:=.slice none 0 0) (u2:=.slice none 0 0) (HB0.out.trans (hb2.mono HB0.out.size)) (show w.heap.size≤w.heap.size+2 by omega))
 obtain⟨p0,p1,p2⟩:=tri T3
 have hf:=aC hz3
 obtain⟨m0,m1,m2⟩:=tri hz3
 clear T3 hz3 hb2 FA
 go_wp2
 clear hf m0 m1 m2
 generalize ((t2.setCell ⟨w.heap.size+2,0,none⟩ (.bool false)).setCell ⟨w.heap.size+2,1,none⟩ (.slice none 0 0)).setCell ⟨w.heap.size+2,2,none⟩ (.slice none 0 0)=w5 at *
 refine bodyPost_ret (v:=.tuple #[.agg #[.bool false,.slice none 0 0,.slice none 0 0],.int .i64 70]) (by simp [results,Tryz.results23,go_sem,p0,p1,p2]) rfl ?_
 exact⟨rfl,HE.out⟩

theorem eF (z:Int)(w:World)(h1:-9223372036854775808≤z)(h2:z≤9223372036854775807) :
  Calls Tryz.prog 20 #[.int .i64 z] w (cY w z 1):=by
 obtain⟨w0,hw0,hb0,h0⟩:=am w (.cells #[.bool false,.slice none 0 0,.slice none 0 0] 28)
 have WO:=nS z w0 h1 h2
 have FR:=ac (fun (W:World)=>cC 1 W (by decide))
 have H0:=ac h0
 have HB0:=ac hb0
 clear h0 hb0
 go_enter Tryz.func20,Tryz.ntmps20
 go_wp2_with fail
 refine WO.mono ?_
 rintro e t1 ⟨⟨b,a1,n1,k1,rfl,rs,x1,x2,x3,x4⟩,hb1⟩
 have F1:=FR.out t1
 have HG1:=ac hb1
 have HX:=ac (And.intro x1 (And.intro x2 (And.intro x3 x4)))
 clear WO FR hb1 x1 x2 x3 x4
 go_wp2_with fail
 refine F1.mono ?_
 rintro e t2 ⟨⟨v,rfl,y1⟩,hb2⟩
 obtain⟨a2,k2,rfl⟩:=y1.shape
 have hz3:=ai (ae HG1.out hb2) H0.out
 have T1:TR t2 w.heap.size b (.slice a1 n1 k1) (.slice a2 (tr [1]).length k2) z 1:=
  ⟨HX.out.2.1,⟨rs,(HX.out.1.below hb2).base HB0.out.size,HX.out.2.2.1,HX.out.2.2.2⟩,t1.heap.size,Nat.le_trans HB0.out.size HG1.out.size,fun g hg=>(HX.out.1.own.lt g hg).2,tr [1],y1,by rw [val_tr];simp [val],tr_tr _⟩
 generalize (tr [1]).length=n2 at *
 have T2:=T1.tri (u0:=.bool b) (u1:=.slice a1 n1 k1) (u2:=.slice a2 n2 k2) hz3
 have T3:=aH (u0:=.bool b) (u1:=.slice a1 n1 k1) (u2:=.slice a2 n2 k2) hz3
 have T4:=aG (u0:=.bool b) (u1:=.slice a1 n1 k1) (u2:=.slice a2 n2 k2) (HB0.out.trans ((ae HG1.out hb2).mono HB0.out.size)) (Nat.le_refl w.heap.size)
 have HE:=ac (And.intro T2 T4)
 obtain⟨p0,p1,p2⟩:=tri T3
 have hf:=aC hz3
 obtain⟨m0,m1,m2⟩:=tri hz3
 clear T1 T2 T3 T4 hz3 hb2 F1 y1 HX
 go_wp2
 clear hf m0 m1 m2
 generalize ((t2.setCell ⟨w.heap.size,0,none⟩ (.bool b)).setCell ⟨w.heap.size,1,none⟩ (.slice a1 n1 k1)).setCell ⟨w.heap.size,2,none⟩ (.slice a2 n2 k2)=w5 at *
 refine bodyPost_ret (v:=.agg #[.bool b,.slice a1 n1 k1,.slice a2 n2 k2]) (by simp [results,Tryz.results20,go_sem,p0,p1,p2]) rfl ?_
 exact⟨⟨_,_,_,_,_,_,_,rfl,HE.out.1⟩,HE.out.2⟩

theorem gA (b:Bool)(a:Option Addr)(n k:Nat)(a2:Option Addr)(n2 k2:Nat)(w:World) :
  Calls Tryz.prog 34 #[.agg #[.bool b,.slice a n k,.slice a2 n2 k2]] w fun e w'=>e=.returned (.agg #[.bool (!b),.slice a n k,.slice a2 n2 k2])∧Below w.heap.size w w':=by
 obtain⟨w0,hw0,hb0,h0,h1⟩:=aJ w (.cells #[.bool b,.slice a n k,.slice a2 n2 k2] 28) (.cells #[.bool false,.slice none 0 0,.slice none 0 0] 28)
 obtain⟨c0,c1,c2⟩:=tri h0
 obtain⟨m0,m1,m2⟩:=tri h1
 have hf:=aC h1
 have T3:=aH (u0:=.bool (!b)) (u1:=.slice a n k) (u2:=.slice a2 n2 k2) h1
 have HE:=ac (aG (u0:=.bool (!b)) (u1:=.slice a n k) (u2:=.slice a2 n2 k2) hb0 (show w.heap.size≤w.heap.size+1 by omega))
 obtain⟨p0,p1,p2⟩:=tri T3
 have so:∀(W:World) (k:Nat) (u:Value) (k':Nat),(W.setCell ⟨w.heap.size+1,k,none⟩ u).cell? ⟨w.heap.size,k',none⟩=W.cell? ⟨w.heap.size,k',none⟩:=fun W k u k'=>cj (by omega)
 clear h0 h1 hb0 T3
 go_enter Tryz.func34,Tryz.ntmps34
 go_wp2
 clear hf m0 m1 m2 so c0 c1 c2
 generalize ((w0.setCell ⟨w.heap.size+1,0,none⟩ (.bool (!b))).setCell ⟨w.heap.size+1,1,none⟩ (.slice a n k)).setCell ⟨w.heap.size+1,2,none⟩ (.slice a2 n2 k2)=w5 at *
 refine bodyPost_ret (v:=.agg #[.bool (!b),.slice a n k,.slice a2 n2 k2]) (by simp [results,Tryz.results34,go_sem,p0,p1,p2]) rfl ?_
 exact⟨rfl,HE.out⟩

theorem qL (b:Bool)(v1 v2:Value)(X Y:List Nat)(w:World)(hA:Arg w v1 X)(hB:Arg w v2 Y)(hT:Tab w)(hf1:X.length≤17592186043904)(hf2:Y.length≤17592186043904)(hY:val Y≠0)
  (q1:blen (val X / Nat.gcd (val X) (val Y))≤67108864) (q2:blen (val Y / Nat.gcd (val X) (val Y))≤67108864) :
  Calls Tryz.prog 10 #[.agg #[.bool b,v1,v2]] w (dr w (zz (!b) (val X / Nat.gcd (val X) (val Y))) (val Y / Nat.gcd (val X) (val Y))):=by
 obtain⟨a,n,rfl,_,_,_⟩:=hA.form
 obtain⟨ad,nd,rfl,_,_,_⟩:=hB.form
 obtain⟨w0,hw0,hb0,h0,h1⟩:=aJ w (.cells #[.bool b,.slice a X.length n,.slice ad Y.length nd] 28) (.cells #[.bool false,.slice none 0 0,.slice none 0 0] 28)
 obtain⟨c0,c1,c2⟩:=tri h0
 have OP:=gA b a X.length n ad Y.length nd w0
 have FN:=ac (fun (W:World) (hg:Below w0.heap.size w0 W)=>ft (!b) (.slice a X.length n) (.slice ad Y.length nd) X Y W ((hA.below hb0).below hg) ((hB.below hb0).below hg) ((hT.below hb0).below hg) hf1 hf2 hY q1 q2)
 have H1:=ac h1
 have HB0:=ac hb0
 clear hA hB hT h0 h1 hb0 q1 q2
 generalize zz (!b) (val X / Nat.gcd (val X) (val Y))=zq at *
 generalize val Y / Nat.gcd (val X) (val Y)=dq at *
 go_enter Tryz.func10,Tryz.ntmps10
 go_wp2_with fail
 refine OP.mono ?_
 rintro e t1 ⟨rfl,hb1⟩
 have FA:=FN.out t1 hb1
 have HG1:=ac hb1
 clear OP FN hb1 c0 c1 c2
 go_wp2_with fail
 refine FA.mono ?_
 rintro e t2 ⟨⟨bb,a1,n1,k1,a2,n2,k2,rfl,y1⟩,hb2⟩
 have hz3:=ai (ae HG1.out hb2) H1.out
 have T2:=TR.tri (u0:=.bool bb) (u1:=.slice a1 n1 k1) (u2:=.slice a2 n2 k2) (y1.base (Nat.le_trans HB0.out.size HG1.out.size)) hz3
 have T3:=aH (u0:=.bool bb) (u1:=.slice a1 n1 k1) (u2:=.slice a2 n2 k2) hz3
 have T4:=aG (u0:=.bool bb) (u1:=.slice a1 n1 k1) (u2:=.slice a2 n2 k2) (HB0.out.trans ((ae HG1.out hb2).mono HB0.out.size)) (show w.heap.size≤w.heap.size+1 by omega)
 have HE:=ac (And.intro T2 T4)
 obtain⟨p0,p1,p2⟩:=tri T3
 have hf:=aC hz3
 obtain⟨m0,m1,m2⟩:=tri hz3
 clear T2 T3 T4 hz3 hb2 FA y1
 go_wp2
 clear hf m0 m1 m2
 generalize ((t2.setCell ⟨w.heap.size+1,0,none⟩ (.bool bb)).setCell ⟨w.heap.size+1,1,none⟩ (.slice a1 n1 k1)).setCell ⟨w.heap.size+1,2,none⟩ (.slice a2 n2 k2)=w5 at *
 refine bodyPost_ret (v:=.tuple #[.agg #[.bool bb,.slice a1 n1 k1,.slice a2 n2 k2],.int .i64 0]) (by simp [results,Tryz.results10,go_sem,p0,p1,p2]) rfl ?_
 exact⟨⟨_,_,_,_,_,_,_,rfl,HE.out.1⟩,HE.out.2⟩

theorem p8 (b:Bool)(v1 v2:Value)(X Y:List Nat)(w:World)(hA:Arg w v1 X)(hB:Arg w v2 Y)(hT:Tab w)(hf1:X.length≤17592186043904)(hf2:Y.length≤17592186043904)(hY:val Y≠0)
  (q1:blen (val X / Nat.gcd (val X) (val Y))≤67108864) (q2:blen (val Y / Nat.gcd (val X) (val Y))≤67108864) :
  Calls Tryz.prog 11 #[.agg #[.bool b,v1,v2]] w (dr w (zz (false) (val X / Nat.gcd (val X) (val Y))) (val Y / Nat.gcd (val X) (val Y))):=by
 obtain⟨a,n,rfl,_,_,_⟩:=hA.form
 obtain⟨ad,nd,rfl,_,_,_⟩:=hB.form
 obtain⟨w0,hw0,hb0,h0,h1⟩:=aJ w (.cells #[.bool b,.slice a X.length n,.slice ad Y.length nd] 28) (.cells #[.bool false,.slice none 0 0,.slice none 0 0] 28)
 obtain⟨c0,c1,c2⟩:=tri h0
 have OP:=gA b a X.length n ad Y.length nd w0
 have FN:=ac (fun (W:World) (hg:Below w0.heap.size w0 W)=>ft (false) (.slice a X.length n) (.slice ad Y.length nd) X Y W ((hA.below hb0).below hg) ((hB.below hb0).below hg) ((hT.below hb0).below hg) hf1 hf2 hY q1 q2)
 have H1:=ac h1
 have HB0:=ac hb0
 clear hA hB hT h0 h1 hb0 q1 q2 OP
 generalize zz (false) (val X / Nat.gcd (val X) (val Y))=zq at *
 generalize val Y / Nat.gcd (val X) (val Y)=dq at *
 go_enter Tryz.func11,Tryz.ntmps11
 have FA:=FN.out w0 (Below.refl _ _)
 have HG1:=ac (Below.refl w0.heap.size w0)
 clear FN
 go_wp2_with fail
 refine FA.mono ?_
 rintro e t2 ⟨⟨bb,a1,n1,k1,a2,n2,k2,rfl,y1⟩,hb2⟩
 have hz3:=ai (ae HG1.out hb2) H1.out
 have T2:=TR.tri (u0:=.bool bb) (u1:=.slice a1 n1 k1) (u2:=.slice a2 n2 k2) (y1.base (Nat.le_trans HB0.out.size HG1.out.size)) hz3
 have T3:=aH (u0:=.bool bb) (u1:=.slice a1 n1 k1) (u2:=.slice a2 n2 k2) hz3
 have T4:=aG (u0:=.bool bb) (u1:=.slice a1 n1 k1) (u2:=.slice a2 n2 k2) (HB0.out.trans ((ae HG1.out hb2).mono HB0.out.size)) (show w.heap.size≤w.heap.size+1 by omega)
 have HE:=ac (And.intro T2 T4)
 obtain⟨p0,p1,p2⟩:=tri T3
 have hf:=aC hz3
 obtain⟨m0,m1,m2⟩:=tri hz3
 clear T2 T3 T4 hz3 hb2 FA y1
 go_wp2
 clear hf m0 m1 m2
 generalize ((t2.setCell ⟨w.heap.size+1,0,none⟩ (.bool bb)).setCell ⟨w.heap.size+1,1,none⟩ (.slice a1 n1 k1)).setCell ⟨w.heap.size+1,2,none⟩ (.slice a2 n2 k2)=w5 at *
 refine bodyPost_ret (v:=.tuple #[.agg #[.bool bb,.slice a1 n1 k1,.slice a2 n2 k2],.int .i64 0]) (by simp [results,Tryz.results11,go_sem,p0,p1,p2]) rfl ?_
 exact⟨⟨_,_,_,_,_,_,_,rfl,HE.out.1⟩,HE.out.2⟩

theorem j9 (L:Nat)(b:Bool)(v1 v2:Value)(X Y:List Nat)(w:World)(hA:Arg w v1 X)(hB:Arg w v2 Y)(hL:w.heap[L]?=some (.cells #[.bool b,v1,v2] 28))(hY:val Y=0) :
  Calls Tryz.prog 27 #[.slice (some ⟨L,0,none⟩) 1 1] w fun e w'=>aS 70 e∧Below w.heap.size w w':=by
 obtain⟨a,n,rfl,_,_,_⟩:=hA.form
 obtain⟨ad,nd,rfl,_,_,_⟩:=hB.form
 obtain⟨c0,c1,c2⟩:=tri hL
 obtain⟨w0,hw0,hb0,h0⟩:=am w (.cells #[.bool b,.slice a X.length n,.slice ad Y.length nd] 28)
 have Z1:=dm _ Y w0 (hB.below hb0)
 rw [decide_eq_true hY] at Z1
 have RN:=jo 70 w0
 obtain⟨d0,d1,d2⟩:=tri h0
 have HB0:=ac hb0
 clear hA hB hL h0 hb0
 go_enter Tryz.func27,Tryz.ntmps27
 go_wp2
 refine wp_loop_rounds 2 ?_
 rw [rounds_succ]
 go_wp2_with fail
 refine Z1.mono ?_
 rintro e wn ⟨rfl,hw⟩;rw [hw];clear hw wn Z1
 go_wp2_with fail
 refine RN.mono ?_
 rintro e wn ⟨he,hw⟩;rw [hw];clear hw wn RN
 unfold aS at he
 subst he
 exact⟨rfl,rfl,HB0.out⟩

theorem nI (gp:Nat)(b:Bool)(v1 v2:Value)(X Y:List Nat)(w:World)(hP:w.heap[gp]?=some (.cells #[.bool b,v1,v2] 28))(hA:Arg w v1 X)(hB:Arg w v2 Y)(hY:val Y=0) :
  Calls Tryz.prog 26 #[.pointer (some ⟨gp,0,none⟩)] w (fun e w'=>aS 70 e∧Below w.heap.size w w'):=by
 obtain⟨a,n,rfl,_,_,_⟩:=hA.form
 obtain⟨ad,nd,rfl,_,_,_⟩:=hB.form
 obtain⟨w0,hw0,hb0,h0⟩:=am w (.cells #[.bool false,.slice none 0 0,.slice none 0 0] 28)
 obtain⟨u0,hu0,hbu,hL⟩:=am w0 (.cells #[.bool b,.slice a X.length n,.slice ad Y.length nd] 28)
 have g0:=ae hb0 hbu
 have ME:=j9 w0.heap.size b _ _ X Y u0 (hA.below g0) (hB.below g0) hL hY
 obtain⟨c0,c1,c2⟩:=tri (ai hb0 hP)
 have HG0:=ac g0
 clear hA hB hP hb0 h0 hbu hL g0
 go_enter Tryz.func26,Tryz.ntmps26
 go_wp2_with fail
 refine ME.mono ?_
 rintro e t1 ⟨he,hb1⟩
 have HF:=ac (ae HG0.out hb1)
 unfold aS at he
 subst he
 exact⟨rfl,rfl,HF.out⟩

def dl (w:World)(e:Ending)(w':World):Prop:=e=.returned (.tuple #[.agg #[.bool false,.slice none 0 0,.slice none 0 0],.int .i64 70])∧Below w.heap.size w w'

theorem d6 (b:Bool)(v1 v2:Value)(X Y:List Nat)(w:World)(hA:Arg w v1 X)(hB:Arg w v2 Y)(hY:val Y=0) :
  Calls Tryz.prog 7 #[.agg #[.bool b,v1,v2]] w (dl w):=by
 obtain⟨a,n,rfl,_,_,_⟩:=hA.form
 obtain⟨ad,nd,rfl,_,_,_⟩:=hB.form
 have hmf:∀(fn:Fn) (first cap:Array Value) (w:World),(Instr.makeFunc fn first cap).run Tryz.prog w=.ok (.func fn first cap) w:=fun _ _ _ _=>rfl
 obtain⟨w0,hw0,hb0,h0,h1⟩:=aJ w (.cells #[.bool b,.slice a X.length n,.slice ad Y.length nd] 28) (.cells #[.bool false,.slice none 0 0,.slice none 0 0] 28)
 have FA:=mC ⟨w.heap.size,0,none⟩ 70 w0 (fun W hg=>nI w.heap.size b _ _ X Y W (ai hg h0) ((hA.below hb0).below hg) ((hB.below hb0).below hg) hY)
 have HG1:=ac (Below.refl w0.heap.size w0)
 have H1:=ac h1
 have HB0:=ac hb0
 clear hA hB h0 h1 hb0
 go_enter Tryz.func7,Tryz.ntmps7
 go_wp2_with fail
 refine FA.mono ?_
 rintro e t2 ⟨rfl,hb2⟩
 have hz3:=ai (ae HG1.out hb2) H1.out
 have T3:=aH (u0:=.bool false) (u1:=.slice none 0 0) (u2:=.slice none 0 0) hz3
 have HE:=ac (aG (u0:=.bool false) (u1:=.slice none 0 0) (u2:=.slice none 0 0) (HB0.out.trans ((ae HG1.out hb2).mono HB0.out.size)) (show w.heap.size≤w.heap.size+1 by omega))
 obtain⟨p0,p1,p2⟩:=tri T3
 have hf:=aC hz3
 obtain⟨m0,m1,m2⟩:=tri hz3
 clear T3 hz3 hb2 FA
 go_wp2
 clear hf m0 m1 m2
 generalize ((t2.setCell ⟨w.heap.size+1,0,none⟩ (.bool false)).setCell ⟨w.heap.size+1,1,none⟩ (.slice none 0 0)).setCell ⟨w.heap.size+1,2,none⟩ (.slice none 0 0)=w5 at *
 refine bodyPost_ret (v:=.tuple #[.agg #[.bool false,.slice none 0 0,.slice none 0 0],.int .i64 70]) (by simp [results,Tryz.results7,go_sem,p0,p1,p2]) rfl ?_
 exact⟨rfl,HE.out⟩

theorem qy (b:Bool)(v1 v2:Value)(X Y:List Nat)(w:World)(hA:Arg w v1 X)(hB:Arg w v2 Y)(hY:val Y=0) :
  Calls Tryz.prog 10 #[.agg #[.bool b,v1,v2]] w (dl w):=by
 obtain⟨a,n,rfl,_,_,_⟩:=hA.form
 obtain⟨ad,nd,rfl,_,_,_⟩:=hB.form
 obtain⟨w0,hw0,hb0,h0,h1⟩:=aJ w (.cells #[.bool b,.slice a X.length n,.slice ad Y.length nd] 28) (.cells #[.bool false,.slice none 0 0,.slice none 0 0] 28)
 obtain⟨c0,c1,c2⟩:=tri h0
 have OP:=gA b a X.length n ad Y.length nd w0
 have FN:=ac (fun (W:World) (hg:Below w0.heap.size w0 W)=>d6 (!b) (.slice a X.length n) (.slice ad Y.length nd) X Y W ((hA.below hb0).below hg) ((hB.below hb0).below hg) hY)
 have H1:=ac h1
 have HB0:=ac hb0
 clear hA hB h0 h1 hb0
 go_enter Tryz.func10,Tryz.ntmps10
 go_wp2_with fail
 refine OP.mono ?_
 rintro e t1 ⟨rfl,hb1⟩
 have FA:=FN.out t1 hb1
 have HG1:=ac hb1
 clear OP FN hb1 c0 c1 c2
 go_wp2_with fail
 refine FA.mono ?_
 rintro e t2 ⟨rfl,hb2⟩
 have hz3:=ai (ae HG1.out hb2) H1.out
 have T3:=aH (u0:=.bool false) (u1:=.slice none 0 0) (u2:=.slice none 0 0) hz3
 have HE:=ac (aG (u0:=.bool false) (u1:=.slice none 0 0) (u2:=.slice none 0 0) (HB0.out.trans ((ae HG1.out hb2).mono HB0.out.size)) (show w.heap.size≤w.heap.size+1 by omega))
 obtain⟨p0,p1,p2⟩:=tri T3
 have hf:=aC hz3
 obtain⟨m0,m1,m2⟩:=tri hz3
 clear T3 hz3 hb2 FA
 go_wp2
 clear hf m0 m1 m2
 generalize ((t2.setCell ⟨w.heap.size+1,0,none⟩ (.bool false)).setCell ⟨w.heap.size+1,1,none⟩ (.slice none 0 0)).setCell ⟨w.heap.size+1,2,none⟩ (.slice none 0 0)=w5 at *
 refine bodyPost_ret (v:=.tuple #[.agg #[.bool false,.slice none 0 0,.slice none 0 0],.int .i64 70]) (by simp [results,Tryz.results10,go_sem,p0,p1,p2]) rfl ?_
 exact⟨rfl,HE.out⟩

theorem qY (b:Bool)(v1 v2:Value)(X Y:List Nat)(w:World)(hA:Arg w v1 X)(hB:Arg w v2 Y)(hY:val Y=0) :
  Calls Tryz.prog 11 #[.agg #[.bool b,v1,v2]] w (dl w):=by
 obtain⟨a,n,rfl,_,_,_⟩:=hA.form
 obtain⟨ad,nd,rfl,_,_,_⟩:=hB.form
 obtain⟨w0,hw0,hb0,h0,h1⟩:=aJ w (.cells #[.bool b,.slice a X.length n,.slice ad Y.length nd] 28) (.cells #[.bool false,.slice none 0 0,.slice none 0 0] 28)
 obtain⟨c0,c1,c2⟩:=tri h0
 have FA:=d6 false (.slice a X.length n) (.slice ad Y.length nd) X Y w0 (hA.below hb0) (hB.below hb0) hY
 have HG1:=ac (Below.refl w0.heap.size w0)
 have H1:=ac h1
 have HB0:=ac hb0
 clear hA hB h0 h1 hb0
 go_enter Tryz.func11,Tryz.ntmps11
 go_wp2_with fail
 refine FA.mono ?_
 rintro e t2 ⟨rfl,hb2⟩
 have hz3:=ai (ae HG1.out hb2) H1.out
 have T3:=aH (u0:=.bool false) (u1:=.slice none 0 0) (u2:=.slice none 0 0) hz3
 have HE:=ac (aG (u0:=.bool false) (u1:=.slice none 0 0) (u2:=.slice none 0 0) (HB0.out.trans ((ae HG1.out hb2).mono HB0.out.size)) (show w.heap.size≤w.heap.size+1 by omega))
 obtain⟨p0,p1,p2⟩:=tri T3
 have hf:=aC hz3
 obtain⟨m0,m1,m2⟩:=tri hz3
 clear T3 hz3 hb2 FA
 go_wp2
 clear hf m0 m1 m2
 generalize ((t2.setCell ⟨w.heap.size+1,0,none⟩ (.bool false)).setCell ⟨w.heap.size+1,1,none⟩ (.slice none 0 0)).setCell ⟨w.heap.size+1,2,none⟩ (.slice none 0 0)=w5 at *
 refine bodyPost_ret (v:=.tuple #[.agg #[.bool false,.slice none 0 0,.slice none 0 0],.int .i64 70]) (by simp [results,Tryz.results11,go_sem,p0,p1,p2]) rfl ?_
 exact⟨rfl,HE.out⟩

theorem lF (bn bd:Bool)(v1 v2:Value)(X Y:List Nat)(w:World)(hA:Arg w v1 X)(hB:Arg w v2 Y)(hY:val Y=0) :
  Calls Tryz.prog 17 #[.agg #[.bool bn,v1],.agg #[.bool bd,v2]] w (dl w):=by
 obtain⟨a,n,rfl,_,_,_⟩:=hA.form
 obtain⟨ad,nd,rfl,_,_,_⟩:=hB.form
 obtain⟨w0,hw0,hb0,h0,h01,h1⟩:=gh w (.cells #[.bool bn,.slice a X.length n] 26) (.cells #[.bool bd,.slice ad Y.length nd] 26) (.cells #[.bool false,.slice none 0 0,.slice none 0 0] 28)
 obtain⟨c0,c1⟩:=duo h0
 obtain⟨d0,d1⟩:=duo h01
 obtain⟨sg9,hsg,hsg2⟩:∃sg9,(bn != bd)=sg9∧(!(bn == bd))=sg9:=⟨_,rfl,rfl⟩
 have FA:=d6 sg9 (.slice a X.length n) (.slice ad Y.length nd) X Y w0 (hA.below hb0) (hB.below hb0) hY
 have HG1:=ac (Below.refl w0.heap.size w0)
 have H1:=ac h1
 have HB0:=ac hb0
 clear hA hB h0 h01 h1 hb0
 go_enter Tryz.func17,Tryz.ntmps17
 go_wp2_with fail
 refine FA.mono ?_
 rintro e t2 ⟨rfl,hb2⟩
 have hz3:=ai (ae HG1.out hb2) H1.out
 have T3:=aH (u0:=.bool false) (u1:=.slice none 0 0) (u2:=.slice none 0 0) hz3
 have HE:=ac (aG (u0:=.bool false) (u1:=.slice none 0 0) (u2:=.slice none 0 0) (HB0.out.trans ((ae HG1.out hb2).mono HB0.out.size)) (show w.heap.size≤w.heap.size+2 by omega))
 obtain⟨p0,p1,p2⟩:=tri T3
 have hf:=aC hz3
 obtain⟨m0,m1,m2⟩:=tri hz3
 clear T3 hz3 hb2 FA
 go_wp2
 clear hf m0 m1 m2
 generalize ((t2.setCell ⟨w.heap.size+2,0,none⟩ (.bool false)).setCell ⟨w.heap.size+2,1,none⟩ (.slice none 0 0)).setCell ⟨w.heap.size+2,2,none⟩ (.slice none 0 0)=w5 at *
 refine bodyPost_ret (v:=.tuple #[.agg #[.bool false,.slice none 0 0,.slice none 0 0],.int .i64 70]) (by simp [results,Tryz.results17,go_sem,p0,p1,p2]) rfl ?_
 exact⟨rfl,HE.out⟩
end Go.Proofs.YtplegacjglaenaaGreatDoor
namespace Go.Proofs.YtplegacjglaenaaGreatDoor
open Go.RowKit
open Lm

theorem lr (p:Addr)(c x:Int)(older:List PanicEntry)(w:World)(hc:w.cell? p=some (.int .i64 x))(hz:w.frozen? p=false) :
  CallsD Tryz.prog 60 #[.pointer (some p)] (.panicking ({ v:=.iface 34 (.int .i64 c),recovered:=false } :: older)) w fun e u' w'=>
   e=.returned (.tuple #[])∧u'=.panicking ({ v:=.iface 34 (.int .i64 c),recovered:=true } :: older)∧w'=w.setCell p (.int .i64 c):=by
 have HR:=iD c w
 refine callsD_of_wpS Tryz.func60 rfl fun c₀ cs hu=>?_
 apply wpS_seq
 apply wpS_region
 simp [wpOpsS,go_sem,recoverD,hu,Tryz.ntmps60,Exit.thenS]
 refine wpS_of_wp ?_
 go_wp2_with fail
 refine HR.mono ?_
 rintro e wn ⟨rfl,hw⟩;rw [hw];clear hw wn HR
 go_wp2
 simp [bodyPostS,results,Tryz.results60]

theorem oU (p:Addr)(w:World) :
  CallsD Tryz.prog 60 #[.pointer (some p)] .returning w fun e u' w'=>e=.returned (.tuple #[])∧u'=.returning∧w'=w:=by
 refine callsD_of_wpS Tryz.func60 rfl fun c₀ cs hu=>?_
 apply wpS_seq
 apply wpS_region
 simp [wpOpsS,go_sem,recoverD,hu,Tryz.ntmps60,Exit.thenS]
 refine wpS_of_wp ?_
 go_wp2
 cases c₀
 simp_all [bodyPostS,results,Tryz.results60]

theorem qR (p:Addr)(c:Int)(w:World)
  (hw:∀W,Below w.heap.size w W→Calls Tryz.prog 36 #[.pointer (some p)] W (fun e w'=>aS c e∧Below W.heap.size W w')) :
  Calls Tryz.prog 35 #[.func (.func 36) #[] #[.pointer (some p)]] w fun e w'=>e=.returned (.tuple #[.int .i64 0,.int .i64 c])∧Below w.heap.size w w':=by
 have hmf:∀(fn:Fn) (first cap:Array Value) (w:World),(Instr.makeFunc fn first cap).run Tryz.prog w=.ok (.func fn first cap) w:=fun _ _ _ _=>rfl
 obtain⟨w0,hw0,hb0,h1⟩:=am w (.cells #[.int .i64 0] 34)
 have HW:=hw w0 hb0
 have HB0:=ac hb0
 have H1:=ac h1
 clear hw hb0 h1
 go_enter_defers Tryz.func35,Tryz.ntmps35
 go_wp2_with fail
 refine HW.mono ?_
 rintro e w1 ⟨he,hb1⟩
 unfold aS at he
 subst he
 have k1:=ai hb1 H1.out
 have c3:w1.cell? ⟨w.heap.size,0,none⟩=some (.int .i64 0):=by simp [World.cell?,k1]
 have f3:w1.frozen? ⟨w.heap.size,0,none⟩=false:=by simp [World.frozen?,k1]
 refine leaves_cons (f:=60) (args:=#[.pointer (some ⟨w.heap.size,0,none⟩)]) (by simp) (by simp [go_sem]) ?_
 refine (lr ⟨w.heap.size,0,none⟩ c 0 [] w1 c3 f3).mono ?_
 rintro e u' w'' ⟨rfl,rfl,rfl⟩
 have m4:(w1.setCell ⟨w.heap.size,0,none⟩ (.int .i64 c)).cell? ⟨w.heap.size,0,none⟩=some (.int .i64 c):=by simp [go_sem,c3]
 have HFIN:=ac ((HB0.out.trans (hb1.mono HB0.out.size)).setCell (p:=⟨w.heap.size,0,none⟩) (Nat.le_refl _) (.int .i64 c))
 simp [Leaves,settle,results,Tryz.results35,go_sem,m4]
 exact HFIN.out

theorem qp (p:Addr)(s:Int)(w:World)
  (hw:∀W,Below w.heap.size w W→Calls Tryz.prog 36 #[.pointer (some p)] W (fun e w'=>e=.returned (.int .i64 s)∧Below W.heap.size W w')) :
  Calls Tryz.prog 35 #[.func (.func 36) #[] #[.pointer (some p)]] w fun e w'=>e=.returned (.tuple #[.int .i64 s,.int .i64 0])∧Below w.heap.size w w':=by
 have hmf:∀(fn:Fn) (first cap:Array Value) (w:World),(Instr.makeFunc fn first cap).run Tryz.prog w=.ok (.func fn first cap) w:=fun _ _ _ _=>rfl
 obtain⟨w0,hw0,hb0,h1⟩:=am w (.cells #[.int .i64 0] 34)
 have HW:=hw w0 hb0
 have HB0:=ac hb0
 have H1:=ac h1
 clear hw hb0 h1
 go_enter_defers Tryz.func35,Tryz.ntmps35
 go_wp2_with fail
 refine HW.mono ?_
 rintro e w1 ⟨rfl,hb1⟩
 have k1:=ai hb1 H1.out
 have c3:w1.cell? ⟨w.heap.size,0,none⟩=some (.int .i64 0):=by simp [World.cell?,k1]
 have f3:w1.frozen? ⟨w.heap.size,0,none⟩=false:=by simp [World.frozen?,k1]
 go_wp2
 have x2:=aB (k:=0) k1 (.int .i64 0)
 have HFIN:=ac ((HB0.out.trans (hb1.mono HB0.out.size)).setCell (p:=⟨w.heap.size,0,none⟩) (Nat.le_refl _) (.int .i64 0))
 clear c3 f3 k1 hb1
 generalize w1.setCell ⟨w.heap.size,0,none⟩ (.int .i64 0)=w5 at *
 have m3:w5.cell? ⟨w.heap.size,0,none⟩=some (.int .i64 0):=by simp [World.cell?,x2]
 refine leaves_cons (f:=60) (args:=#[.pointer (some ⟨w.heap.size,0,none⟩)]) (by simp) (by simp [go_sem]) ?_
 refine (oU ⟨w.heap.size,0,none⟩ w5).mono ?_
 rintro e u' w'' ⟨rfl,rfl,rfl⟩
 simp [Leaves,settle,results,Tryz.results35,go_sem,m3]
 exact HFIN.out

theorem qk (b:Bool)(v1 v2:Value)(X Y:List Nat)(w:World)(hA:Arg w v1 X)(hB:Arg w v2 Y)(hY:val Y≠0) :
  Calls Tryz.prog 12 #[.agg #[.bool b,v1,v2]] w fun e w'=>e=.returned (.tuple #[.int .i64 (sg b (val X)),.int .i64 0])∧Below w.heap.size w w':=by
 have hmf:∀(fn:Fn) (first cap:Array Value) (w:World),(Instr.makeFunc fn first cap).run Tryz.prog w=.ok (.func fn first cap) w:=fun _ _ _ _=>rfl
 obtain⟨a,n,rfl,_,_,_⟩:=hA.form
 obtain⟨ad,nd,rfl,_,_,_⟩:=hB.form
 obtain⟨w0,hw0,hb0,h0⟩:=am w (.cells #[.bool b,.slice a X.length n,.slice ad Y.length nd] 28)
 have FA:=qp ⟨w.heap.size,0,none⟩ (sg b (val X)) w0 (fun W hg=>by
  have hP:=ai hg h0
  obtain⟨u0,hu0,hbu,hL⟩:=am W (.cells #[.bool b,.slice a X.length n,.slice ad Y.length nd] 28)
  have ME:=gL W.heap.size b _ _ X Y u0 (((hA.below hb0).below hg).below hbu) (((hB.below hb0).below hg).below hbu) hL hY
  have SG:=ac (fun (t:World) (h:Below u0.heap.size u0 t)=>jL b (.slice a X.length n) X t ((((hA.below hb0).below hg).below hbu).below h))
  obtain⟨c0,c1,c2⟩:=tri hP
  have HP:=ac (ai hbu hP)
  have HG:=ac hbu
  clear hP hL hbu
  generalize sg b (val X)=s at *
  go_enter Tryz.func36,Tryz.ntmps36
  go_wp2_with fail
  refine ME.mono ?_
  rintro e t1 ⟨rfl,hb1⟩
  have S1:=SG.out t1 hb1
  obtain⟨d0,d1,d2⟩:=tri (ai hb1 HP.out)
  have HG1:=ac (ae HG.out hb1)
  clear c0 c1 c2 ME SG hb1
  go_wp2_with fail
  refine S1.mono ?_
  rintro e t2 ⟨rfl,hb2⟩
  have HG2:=ac (ae HG1.out hb2)
  clear S1 hb2
  go_wp2
  go_ret
  exact⟨rfl,HG2.out⟩)
 have HB0:=ac hb0
 clear hA hB h0 hb0
 generalize sg b (val X)=s at *
 go_enter Tryz.func12,Tryz.ntmps12
 go_wp2_with fail
 refine FA.mono ?_
 rintro e t2 ⟨rfl,hb2⟩
 have HE:=ac (HB0.out.trans (hb2.mono HB0.out.size))
 clear hb2 FA
 go_wp2
 go_ret2
 exact⟨rfl,HE.out⟩
end Go.Proofs.YtplegacjglaenaaGreatDoor

