/- Package div: Gcd and Lcm of any numbers. -/
import Derived.Test.YtplegacjglaenaaGreatDoorB13
import Derived.Test.YtplegacjglaenaaGreatDoorB07
import Derived.Handy
import Derived.Deep.RegionHeld3
import Derived.Test.YtplegacjglaenaaGreatDoorB01
import Derived.Maps.AppendAt
import Derived.Test.YtplegacjglaenaaGreatDoorB03
import Derived.LoopN
import Derived.Laws.IdiomStrings
import Derived.Test.YtplegacjglaenaaGreatDoorB02
import Derived.Laws.Cells
set_option maxRecDepth 20000
set_option maxHeartbeats 2000000
namespace Go.Proofs.YtplegacjglaenaaGreatDoor
open Go.RowKit
open Lm
attribute [local go_sem ↓] Go.wp_at_zero Go.wp_at_succ

theorem jT (va vb:Value)(X Y:List Nat)(w:World)(hA:Arg w va X)(hA2:Arg w vb Y)(hT:Tab w)(hf1:X.length≤17592186044000)(hf2:Y.length≤17592186044000) :
  Calls Tryz.prog 69 #[va,vb] w (e8 w (Nat.gcd (val X) (val Y))):=by
 by_cases hX:val X=0
 ·have Z1:=ci va X w hA
  rw [decide_eq_true hX] at Z1
  have HN:=cm vb Y w hA2 (by omega)
  have HG:Hid (Nat.gcd (val X) (val Y)=val Y):=by rw [hX,Nat.gcd_zero_left];exact ac rfl
  generalize Nat.gcd (val X) (val Y)=G at *
  clear hA hA2 hT hX
  go_enter Tryz.func69,Tryz.ntmps69
  go_wp2_with fail
  refine Z1.mono ?_
  rintro e wn ⟨rfl,hw⟩;rw [hw];clear hw wn Z1
  go_wp2_with fail
  refine HN.mono ?_
  rintro e w2 ⟨⟨v,rfl,A1⟩,hb⟩
  have H:=ac (And.intro A1 hb)
  clear HN A1 hb
  go_wp2
  go_ret
  exact⟨⟨_,_,rfl,H.out.1,tr_tr _,by rw [val_tr,HG.out]⟩,H.out.2⟩
 ·by_cases hY:val Y=0
  ·have Z1:=ci va X w hA
   rw [decide_eq_false hX] at Z1
   have Z2:=ci vb Y w hA2
   rw [decide_eq_true hY] at Z2
   have HN:=cm va X w hA (by omega)
   have HG:Hid (Nat.gcd (val X) (val Y)=val X):=by rw [hY,Nat.gcd_zero_right];exact ac rfl
   generalize Nat.gcd (val X) (val Y)=G at *
   clear hA hA2 hT hX hY
   go_enter Tryz.func69,Tryz.ntmps69
   go_wp2_with fail
   refine Z1.mono ?_
   rintro e wn ⟨rfl,hw⟩;rw [hw];clear hw wn Z1
   go_wp2_with fail
   refine Z2.mono ?_
   rintro e wn ⟨rfl,hw⟩;rw [hw];clear hw wn Z2
   go_wp2_with fail
   refine HN.mono ?_
   rintro e w2 ⟨⟨v,rfl,A1⟩,hb⟩
   have H:=ac (And.intro A1 hb)
   clear HN A1 hb
   go_wp2
   go_ret
   exact⟨⟨_,_,rfl,H.out.1,tr_tr _,by rw [val_tr,HG.out]⟩,H.out.2⟩
  ·exact ni va vb X Y w hA hA2 hT hf1 hf2 hX hY fun i j h1 h2=>l7 _ _ h1 h2

theorem Ans.offT {w:World}{base g o:Nat}{v u:Value}{zs:List Nat}{vs:Array Value}{t:TypeId}(h:Ans w base v zs)(hl:w.heap[g]?=some (.cells vs t))(ht:t≠51):Ans (w.setCell ⟨g,o,none⟩ u) base v zs:=by
 refine⟨?_,h.limbs⟩
 obtain⟨h1,h2⟩:=h.own
 refine⟨h1,?_⟩
 rcases h2 with h2|⟨g',cap,cur,hv,hg,hh,r⟩
 ·exact .inl h2
 ·refine .inr ⟨g',cap,cur,hv,hg,?_,r⟩
  rw [Below.heap_setCell _ _ _ _ ?_]
  ·exact hh
  ·rintro rfl
   rw [hh] at hl
   simp only [Option.some.injEq,Obj.cells.injEq] at hl
   exact ht hl.2.1.symm

theorem TN.offT {w:World}{base g o x:Nat}{v u:Value}{vs:Array Value}{t:TypeId}(h:TN w base v x)(hl:w.heap[g]?=some (.cells vs t))(ht:t≠51):TN (w.setCell ⟨g,o,none⟩ u) base v x:=by
 obtain⟨rs,h1,h2⟩:=h
 exact⟨rs,h1.offT hl ht,h2⟩

def TR (w:World)(base:Nat)(b:Bool)(v1 v2:Value)(z:Int)(d:Nat):Prop:=
 b=decide (z<0)∧TN w base v1 z.natAbs∧∃mid,base≤mid∧(∀g,v1.ownBlock=some g→g<mid)∧TN w mid v2 d

theorem TR.below {w w':World}{base:Nat}{b:Bool}{v1 v2:Value}{z:Int}{d:Nat}(h:TR w base b v1 v2 z d)(hb:Below w.heap.size w w'):TR w' base b v1 v2 z d:=by
 obtain⟨h1,h2,mid,h3,h4,h5⟩:=h
 exact⟨h1,h2.below hb,mid,h3,h4,h5.below hb⟩

theorem TR.base {w:World}{base base':Nat}{b:Bool}{v1 v2:Value}{z:Int}{d:Nat}(h:TR w base b v1 v2 z d)(hb:base'≤base):TR w base' b v1 v2 z d:=by
 obtain⟨h1,⟨rs,h2,h2'⟩,mid,h3,h4,h5⟩:=h
 exact⟨h1,⟨rs,h2.base hb,h2'⟩,mid,Nat.le_trans hb h3,h4,h5⟩

theorem TR.offT {w:World}{base g o:Nat}{b:Bool}{v1 v2 u:Value}{z:Int}{d:Nat}{vs:Array Value}{t:TypeId}(h:TR w base b v1 v2 z d)(hl:w.heap[g]?=some (.cells vs t))(ht:t≠51):TR (w.setCell ⟨g,o,none⟩ u) base b v1 v2 z d:=by
 obtain⟨h1,h2,mid,h3,h4,h5⟩:=h
 exact⟨h1,h2.offT hl ht,mid,h3,h4,h5.offT hl ht⟩

theorem aZ {w:World}{g:Nat}{a b c u0 u1 u2:Value}{t:TypeId}(h:w.heap[g]?=some (.cells #[a,b,c] t)):(((w.setCell ⟨g,0,none⟩ u0).setCell ⟨g,1,none⟩ u1).setCell ⟨g,2,none⟩ u2).heap[g]?=some (.cells #[u0,u1,u2] t):=
 aw (aw (aw h u0) u1) u2

theorem tri {w:World}{g:Nat}{a b c:Value}{t:TypeId}(h:w.heap[g]?=some (.cells #[a,b,c] t)):w.cell? ⟨g,0,none⟩=some a∧w.cell? ⟨g,1,none⟩=some b∧w.cell? ⟨g,2,none⟩=some c:=⟨by simp [World.cell?,h],by simp [World.cell?,h],by simp [World.cell?,h]⟩

theorem be {w:World}{g:Nat}{a b c:Value}{t:TypeId}(h:w.heap[g]?=some (.cells #[a,b,c] t)):∀k,w.frozen? ⟨g,k,none⟩=false:=fun k=>by simp [World.frozen?,h]

theorem TR.tri {w:World}{base g:Nat}{b:Bool}{v1 v2 a0 a1 a2 u0 u1 u2:Value}{z:Int}{d:Nat}(h:TR w base b v1 v2 z d)(hl:w.heap[g]?=some (.cells #[a0,a1,a2] 28)):TR (((w.setCell ⟨g,0,none⟩ u0).setCell ⟨g,1,none⟩ u1).setCell ⟨g,2,none⟩ u2) base b v1 v2 z d:=
 ((h.offT hl (by decide)).offT (aw hl u0) (by decide)).offT (aw (aw hl u0) u1) (by decide)

theorem bg {B:Nat}{w0 w:World}{g:Nat}{u0 u1 u2:Value}(h:Below B w0 w)(hg:B≤g):Below B w0 (((w.setCell ⟨g,0,none⟩ u0).setCell ⟨g,1,none⟩ u1).setCell ⟨g,2,none⟩ u2):=
 ((h.setCell (p:=⟨g,0,none⟩) hg u0).setCell (p:=⟨g,1,none⟩) hg u1).setCell (p:=⟨g,2,none⟩) hg u2

theorem an {W0 W t:World}(h:Below W0.heap.size W0 W)(h2:Below W.heap.size W t):Below W0.heap.size W0 t:=h.trans (h2.mono h.size)

def cq (w:World)(z:Int)(d:Nat)(e:Ending)(w':World):Prop:=
 (∃(b:Bool) (a1:Option Addr) (n1 k1:Nat) (a2:Option Addr) (n2 k2:Nat),e=.returned (.agg #[.bool b,.slice a1 n1 k1,.slice a2 n2 k2])∧TR w' w.heap.size b (.slice a1 n1 k1) (.slice a2 n2 k2) z d)∧Below w.heap.size w w'

theorem jg (bn:Bool)(vn vd vg:Value)(X Y Z:List Nat)(w:World)(hA:Arg w vn X)(hB:Arg w vd Y)(hC:Arg w vg Z)(hT:Tab w)(hf1:X.length≤17592186044000)(hf2:Y.length≤17592186044000)(hf3:Z.length≤17592186044000)(hZ:val Z≠0)
  (q1:blen (val X / val Z)≤67108864) (m1:blen (val X % val Z)≤67108864) (q2:blen (val Y / val Z)≤67108864) (m2:blen (val Y % val Z)≤67108864) :
  Calls Tryz.prog 68 #[.agg #[.bool bn,vn],vd,vg] w (cq w (zz bn (val X / val Z)) (val Y / val Z)):=by
 obtain⟨a,n,rfl,_,_,_⟩:=hA.form
 obtain⟨ad,nd,rfl,_,_,_⟩:=hB.form
 obtain⟨ag,ng,rfl,_,_,_⟩:=hC.form
 obtain⟨w0,hw0,hb0,h0,h1⟩:=bK w (.cells #[.bool bn,.slice a X.length n] 26) (.cells #[.bool false,.slice none 0 0,.slice none 0 0] 28)
 have H1:=ac h1
 have HB0:=ac hb0
 have gd:Below w.heap.size w w0.drew:=hb0.drew
 have g0:Below w0.drew.heap.size w0.drew w0.drew:=Below.refl _ _
 have E1:=fo _ _ X Z w0.drew (hA.below gd) (hC.below gd) (hT.below gd) (by omega) (by omega) hZ q1 m1
 have E2:=ac (fun (W:World) (hg:Below w0.drew.heap.size w0.drew W)=>fo (.slice ad Y.length nd) (.slice ag Z.length ng) Y Z W ((hB.below gd).below hg) ((hC.below gd).below hg) ((hT.below gd).below hg) (by omega) (by omega) hZ q2 m2)
 have KS:=ac (fun (W:World) (hg:Below w0.drew.heap.size w0.drew W)=>show W.cell? ⟨w.heap.size,0,none⟩=some (.bool bn)∧W.cell? ⟨w.heap.size,1,none⟩=some (.slice a X.length n) from duo (am hg (show w0.drew.heap[w.heap.size]?=some (.cells #[.bool bn,.slice a X.length n] 26) from h0)))
 have so:∀(W:World) (k:Nat) (u:Value) (k':Nat),(W.setCell ⟨w.heap.size+1,k,none⟩ u).cell? ⟨w.heap.size,k',none⟩=W.cell? ⟨w.heap.size,k',none⟩:=fun W k u k'=>cE (by omega)
 clear hA hB hC hT h0 h1 hb0 gd
 go_enter Tryz.func68,Tryz.ntmps68
 go_wp2
 go_region_held3 (fun w'=>w'.cell? ⟨w.heap.size,0,none⟩=some (.bool bn)∧w'.cell? ⟨w.heap.size,1,none⟩=some (.slice a X.length n)) (first|with_reducible exact KS.out _ g3|with_reducible exact KS.out _ g2|with_reducible exact KS.out _ g1|with_reducible exact KS.out _ g0 | (refine⟨?_,?_⟩ <;> (rw [so,so,so];first|exact (KS.out _ g3).1|exact (KS.out _ g3).2))) (first
  | (go_at_call_of 79 a;refine E1.mono ?_;rintro e' t1 ⟨⟨v1,rfl,y1⟩,hb1⟩;have g1:=an g0 hb1;obtain⟨r1,x1,x2,x3⟩:=y1;obtain⟨a1,c1,rfl⟩:=x1.shape)
  | (go_at_call 75;refine (j4 bn _ r1 w0.drew.heap.size t1 x1).mono ?_;rintro e' t2 ⟨rfl,hb2⟩;have g2:=an g1 hb2)
  | (go_at_call_of 79 ad;refine (E2.out t2 g2).mono ?_;rintro e' t3 ⟨⟨v2,rfl,y2⟩,hb3⟩;have g3:=an g2 hb3;obtain⟨r2,z1,z2,z3⟩:=y2;obtain⟨a2,c2,rfl⟩:=z1.shape;have hz3:=am g3 (show w0.drew.heap[w.heap.size+1]?=some (.cells #[.bool false,.slice none 0 0,.slice none 0 0] 28) from H1.out);have hf:=be hz3;obtain⟨m0,m1',m2'⟩:=tri hz3))
 have hw0s:=HB0.out.size
 have T1:TR t3 w.heap.size (bn && decide (0<r1.length)) (.slice a1 r1.length c1) (.slice a2 r2.length c2) (zz bn (val X / val Z)) (val Y / val Z):=by
  refine⟨e9 bn x3 x2,⟨r1,((x1.below hb2).below hb3).base hw0s,by rw [dl];exact x2,x3⟩,t2.heap.size,Nat.le_trans hw0s g2.size,fun g hg=>Nat.lt_of_lt_of_le ((x1.own.lt g hg).2) hb2.size,r2,z1,z2,z3⟩
 have T2:=T1.tri (u0:=.bool (bn && decide (0<r1.length))) (u1:=.slice a1 r1.length c1) (u2:=.slice a2 r2.length c2) hz3
 have T3:=aZ (u0:=.bool (bn && decide (0<r1.length))) (u1:=.slice a1 r1.length c1) (u2:=.slice a2 r2.length c2) hz3
 have T4:=bg (u0:=.bool (bn && decide (0<r1.length))) (u1:=.slice a1 r1.length c1) (u2:=.slice a2 r2.length c2) (an (show Below w.heap.size w w0.drew from HB0.out.drew) g3) (show w.heap.size≤w.heap.size+1 by omega)
 have HE:=ac (And.intro T2 T4)
 obtain⟨p0,p1,p2⟩:=tri T3
 clear T1 T2 T3 T4 so hz3 hf m0 m1' m2' x1 x2 x3 z1 z2 z3 hb1 hb2 hb3 g0 g1 g2 g3 KS E2 E1
 generalize ((t3.setCell ⟨w.heap.size+1,0,none⟩ (.bool (bn && decide (0<r1.length)))).setCell ⟨w.heap.size+1,1,none⟩ (.slice a1 r1.length c1)).setCell ⟨w.heap.size+1,2,none⟩ (.slice a2 r2.length c2)=w5 at *
 generalize (bn && decide (0<r1.length))=bb at *
 go_wp2
 refine bodyPost_ret (v:=.agg #[.bool bb,.slice a1 r1.length c1,.slice a2 r2.length c2]) (by simp [results,Tryz.results68,go_sem,p0,p1,p2]) rfl ?_
 exact⟨⟨_,_,_,_,_,_,_,rfl,HE.out.1⟩,HE.out.2⟩

theorem gk (bn:Bool)(vn vd:Value)(X Y:List Nat)(w:World)(hA:Arg w vn X)(hB:Arg w vd Y)(hT:Tab w)(hf1:X.length≤17592186043904)(hf2:Y.length≤17592186043904)(hY:val Y≠0)
  (q1:blen (val X / Nat.gcd (val X) (val Y))≤67108864) (q2:blen (val Y / Nat.gcd (val X) (val Y))≤67108864) :
  Calls Tryz.prog 45 #[.agg #[.bool bn,vn],vd] w (cq w (zz bn (val X / Nat.gcd (val X) (val Y))) (val Y / Nat.gcd (val X) (val Y))):=by
 obtain⟨a,n,rfl,_,_,_⟩:=hA.form
 obtain⟨ad,nd,rfl,_,_,_⟩:=hB.form
 obtain⟨w0,hw0,hb0,h0,h1⟩:=bK w (.cells #[.bool bn,.slice a X.length n] 26) (.cells #[.bool false,.slice none 0 0,.slice none 0 0] 28)
 have H1:=ac h1
 have HB0:=ac hb0
 have gd:Below w.heap.size w w0.drew:=hb0.drew
 have g0:Below w0.drew.heap.size w0.drew w0.drew:=Below.refl _ _
 have E1:=jT _ _ X Y w0.drew (hA.below gd) (hB.below gd) (hT.below gd) (by omega) (by omega)
 have hG0:Nat.gcd (val X) (val Y)≠0:=fun h=>hY (Nat.eq_zero_of_gcd_eq_zero_right h)
 have hGle:Nat.gcd (val X) (val Y)≤val Y:=Nat.gcd_le_right _ (by omega)
 have hYl:=val_lt hB.limbs
 have r1:val X % Nat.gcd (val X) (val Y)=0:=Nat.mod_eq_zero_of_dvd (Nat.gcd_dvd_left _ _)
 have r2:val Y % Nat.gcd (val X) (val Y)=0:=Nat.mod_eq_zero_of_dvd (Nat.gcd_dvd_right _ _)
 have b0:blen 0≤67108864:=by
  have:blen 0≤0:=(blen_le_iff _ _).2 (by decide)
  omega
 have E2:=ac (fun (W:World) (v:Value) (rs:List Nat) (hg:Below w0.drew.heap.size w0.drew W) (hv:Ans W w0.drew.heap.size v rs) (ht:tr rs=rs) (hval:val rs=Nat.gcd (val X) (val Y))=>show Calls Tryz.prog 68 #[.agg #[.bool bn,.slice a X.length n],.slice ad Y.length nd,v] W (cq W (zz bn (val X / Nat.gcd (val X) (val Y))) (val Y / Nat.gcd (val X) (val Y))) by
  have hl:rs.length≤Y.length:=hv.few Y.length (by rw [hval];omega) ht
  have h:=jg bn (.slice a X.length n) (.slice ad Y.length nd) v X Y rs W ((hA.below gd).below hg) ((hB.below gd).below hg) (hv.arg (by omega)) ((hT.below gd).below hg) (by omega) (by omega) (by omega) (by rw [hval];exact hG0) (by rw [hval];exact q1) (by rw [hval,r1];exact b0) (by rw [hval];exact q2) (by rw [hval,r2];exact b0)
  rw [hval] at h
  exact h)
 have KS:=ac (fun (W:World) (hg:Below w0.drew.heap.size w0.drew W)=>show W.cell? ⟨w.heap.size,0,none⟩=some (.bool bn)∧W.cell? ⟨w.heap.size,1,none⟩=some (.slice a X.length n) from duo (am hg (show w0.drew.heap[w.heap.size]?=some (.cells #[.bool bn,.slice a X.length n] 26) from h0)))
 have so:∀(W:World) (k:Nat) (u:Value) (k':Nat),(W.setCell ⟨w.heap.size+1,k,none⟩ u).cell? ⟨w.heap.size,k',none⟩=W.cell? ⟨w.heap.size,k',none⟩:=fun W k u k'=>cE (by omega)
 clear hA hB hT h0 h1 hb0 gd hG0 hGle hYl r1 r2 b0 q1 q2
 generalize zz bn (val X / Nat.gcd (val X) (val Y))=zq at *
 generalize val Y / Nat.gcd (val X) (val Y)=dq at *
 go_enter Tryz.func45,Tryz.ntmps45
 go_wp2
 go_region_held3 (fun w'=>w'.cell? ⟨w.heap.size,0,none⟩=some (.bool bn)∧w'.cell? ⟨w.heap.size,1,none⟩=some (.slice a X.length n)) (first|with_reducible exact KS.out _ g2|with_reducible exact KS.out _ g1|with_reducible exact KS.out _ g0 | (refine⟨?_,?_⟩ <;> (rw [so,so,so];first|exact (KS.out _ g2).1|exact (KS.out _ g2).2))) (first
  | (go_at_call 69;refine E1.mono ?_;rintro e' t1 ⟨⟨vg,rg,rfl,x1,x2,x3⟩,hb1⟩;have g1:=an g0 hb1;obtain⟨ag,cg,rfl⟩:=x1.shape)
  | (go_at_call 68;refine (E2.out t1 _ rg g1 x1 x2 x3).mono ?_;rintro e' t2 ⟨⟨bb,a1,n1,c1,a2,n2,c2,rfl,y2⟩,hb2⟩;have g2:=an g1 hb2;have hz3:=am g2 (show w0.drew.heap[w.heap.size+1]?=some (.cells #[.bool false,.slice none 0 0,.slice none 0 0] 28) from H1.out);have hf:=be hz3;obtain⟨m0,m1',m2'⟩:=tri hz3))
 have hw0s:=HB0.out.size
 have T1:=y2.base (Nat.le_trans hw0s g1.size)
 have T2:=T1.tri (u0:=.bool bb) (u1:=.slice a1 n1 c1) (u2:=.slice a2 n2 c2) hz3
 have T3:=aZ (u0:=.bool bb) (u1:=.slice a1 n1 c1) (u2:=.slice a2 n2 c2) hz3
 have T4:=bg (u0:=.bool bb) (u1:=.slice a1 n1 c1) (u2:=.slice a2 n2 c2) (an (show Below w.heap.size w w0.drew from HB0.out.drew) g2) (show w.heap.size≤w.heap.size+1 by omega)
 have HE:=ac (And.intro T2 T4)
 obtain⟨p0,p1,p2⟩:=tri T3
 clear T1 T2 T3 T4 so hz3 hf m0 m1' m2' x1 x2 x3 y2 hb1 hb2 g0 g1 g2 KS E2 E1
 generalize ((t2.setCell ⟨w.heap.size+1,0,none⟩ (.bool bb)).setCell ⟨w.heap.size+1,1,none⟩ (.slice a1 n1 c1)).setCell ⟨w.heap.size+1,2,none⟩ (.slice a2 n2 c2)=w5 at *
 go_wp2
 refine bodyPost_ret (v:=.agg #[.bool bb,.slice a1 n1 c1,.slice a2 n2 c2]) (by simp [results,Tryz.results45,go_sem,p0,p1,p2]) rfl ?_
 exact⟨⟨_,_,_,_,_,_,_,rfl,HE.out.1⟩,HE.out.2⟩

theorem kg (b:Bool)(v1 v2:Value)(X Y:List Nat)(w:World)(hA:Arg w v1 X)(hB:Arg w v2 Y)(hx:blen (val X)≤67108864)(hy:blen (val Y)≤67108864) :
  Calls Tryz.prog 58 #[.agg #[.bool b,v1,v2]] w fun e w'=>e=.returned (.agg #[.bool b,v1,v2])∧Below w.heap.size w w':=by
 obtain⟨a,n,rfl,_,_,_⟩:=hA.form
 obtain⟨ad,nd,rfl,_,_,_⟩:=hB.form
 obtain⟨w0,hw0,hb0,h0,h1⟩:=bK w (.cells #[.bool b,.slice a X.length n,.slice ad Y.length nd] 28) (.cells #[.bool false,.slice none 0 0,.slice none 0 0] 28)
 have L1:=aC _ X w0 (hA.below hb0)
 have L2:=aC _ Y w0 (hB.below hb0)
 have RN:=cH 3 w0
 have i1:¬(67108864:Int)<((blen (val X):Nat):Int):=by omega
 have i2:decide ((67108864:Int)<((blen (val X):Nat):Int))=false:=decide_eq_false i1
 have i3:¬(67108864:Int)<((blen (val Y):Nat):Int):=by omega
 have i4:decide ((67108864:Int)<((blen (val Y):Nat):Int))=false:=decide_eq_false i3
 obtain⟨c0,c1,c2⟩:=tri h0
 obtain⟨d0,d1,d2⟩:=tri h1
 have hf:=be h1
 have H1:=ac h1
 have HB0:=ac hb0
 have T3:=aZ (u0:=.bool b) (u1:=.slice a X.length n) (u2:=.slice ad Y.length nd) h1
 have HE:=ac (bg (u0:=.bool b) (u1:=.slice a X.length n) (u2:=.slice ad Y.length nd) hb0 (show w.heap.size≤w.heap.size+1 by omega))
 obtain⟨p0,p1,p2⟩:=tri T3
 have so:∀(W:World) (k:Nat) (u:Value) (k':Nat),(W.setCell ⟨w.heap.size+1,k,none⟩ u).cell? ⟨w.heap.size,k',none⟩=W.cell? ⟨w.heap.size,k',none⟩:=fun W k u k'=>cE (by omega)
 clear hA hB h0 h1 hb0 T3 hx hy
 generalize blen (val X)=lx at *
 generalize blen (val Y)=ly at *
 go_enter Tryz.func58,Tryz.ntmps58
 go_wp2_with fail
 refine L1.mono ?_
 rintro e wn ⟨rfl,hw⟩;rw [hw];clear hw wn L1
 go_wp2_with fail
 refine L2.mono ?_
 rintro e wn ⟨rfl,hw⟩;rw [hw];clear hw wn L2
 go_wp2_with fail
 refine RN.mono ?_
 rintro e wn ⟨rfl,hw⟩;rw [hw];clear hw wn RN
 go_wp2
 clear so hf d0 d1 d2 c0 c1 c2
 generalize ((w0.setCell ⟨w.heap.size+1,0,none⟩ (.bool b)).setCell ⟨w.heap.size+1,1,none⟩ (.slice a X.length n)).setCell ⟨w.heap.size+1,2,none⟩ (.slice ad Y.length nd)=w5 at *
 refine bodyPost_ret (v:=.agg #[.bool b,.slice a X.length n,.slice ad Y.length nd]) (by simp [results,Tryz.results58,go_sem,p0,p1,p2]) rfl ?_
 exact⟨rfl,HE.out⟩

theorem gh (L:Nat)(b:Bool)(v1 v2:Value)(X Y:List Nat)(w:World)(hA:Arg w v1 X)(hB:Arg w v2 Y)(hL:w.heap[L]?=some (.cells #[.bool b,v1,v2] 28))(hY:val Y≠0) :
  Calls Tryz.prog 27 #[.slice (some ⟨L,0,none⟩) 1 1] w fun e w'=>e=.returned (.tuple #[])∧Below w.heap.size w w':=by
 obtain⟨a,n,rfl,_,_,_⟩:=hA.form
 obtain⟨ad,nd,rfl,_,_,_⟩:=hB.form
 obtain⟨c0,c1,c2⟩:=tri hL
 obtain⟨w0,hw0,hb0,h0⟩:=aD w (.cells #[.bool b,.slice a X.length n,.slice ad Y.length nd] 28)
 have Z1:=cP _ Y w0 (hB.below hb0)
 rw [decide_eq_false hY] at Z1
 have RN:=cH 70 w0
 obtain⟨d0,d1,d2⟩:=tri h0
 have HB0:=ac hb0
 clear hA hB hL h0 hb0
 go_enter Tryz.func27,Tryz.ntmps27
 go_wp2
 refine wp_loop_rounds 2 ?_
 rw [rounds_succ]
 go_wp2_with fail
 refine Z1.mono ?_
 rintro e wn ⟨rfl,hw⟩;rw [hw];clear hw wn Z1
 go_wp2_with fail
 refine RN.mono ?_
 rintro e wn ⟨rfl,hw⟩;rw [hw];clear hw wn RN
 go_wp2
 rw [rounds_succ]
 go_wp2
 go_end0
 exact⟨rfl,HB0.out⟩
end Go.Proofs.YtplegacjglaenaaGreatDoor
namespace Go.Proofs.YtplegacjglaenaaGreatDoor
open Go.RowKit
open Lm

theorem Ans.stored {w:World}{base g cap:Nat}{zs:List Nat}(h:Ans w base (.slice (some ⟨g,0,none⟩) zs.length cap) zs)(j z:Nat)(hz:z<18446744073709551616):Ans (w.setCell ⟨g,j,none⟩ (.int .u64 (z:Int))) base (.slice (some ⟨g,0,none⟩) (zs.set j z).length cap) (zs.set j z):=by
 refine⟨?_,limbs_set h.limbs _ _ hz⟩
 have:=(h.own.stored j (.int .u64 (z:Int))).1
 rw [List.length_set,List.map_set]
 exact this

def over (rows:Nat→List Nat)(m:Nat):List Nat:=List.replicate (rows m).length (m % 251+1)



theorem gX (zs:List Nat)(h:Limbs zs):blen (val zs)≤64*zs.length:=by
 rw [blen_le_iff,Nat.mul_comm]
 have:=val_lt h
 rwa [W_pow] at this
end Go.Proofs.YtplegacjglaenaaGreatDoor
namespace Go.Proofs.YtplegacjglaenaaGreatDoor
open Go.RowKit
open Lm
attribute [local go_sem ↓] Go.wp_at_zero Go.wp_at_succ

theorem gW (x y:Nat):blen (x*y)≤blen x+blen y:=by
 refine (blen_le_iff _ _).2 ?_
 have h1:=(blen_le_iff x _).1 (Nat.le_refl _)
 have h2:=(blen_le_iff y _).1 (Nat.le_refl _)
 rw [Nat.pow_add]
 exact Nat.mul_lt_mul_of_lt_of_lt h1 h2

theorem gT {x y:Nat}(h:x≤y):blen x≤blen y:=(blen_le_iff x _).2 (Nat.lt_of_le_of_lt h ((blen_le_iff y _).1 (Nat.le_refl _)))

theorem io {rs:List Nat}{x n:Nat}(ht:tr rs=rs)(hv:val rs=x)(hb:blen x≤n*64):rs.length≤n:=by
 rw [←ht]
 refine aE rs n ?_
 rw [hv]
 have h:=(blen_le_iff x _).1 hb
 rw [Nat.mul_comm,Nat.pow_mul] at h
 exact h

theorem mZ {x y M:Nat}(hx:x≠0)(hy:y≠0)(q1:blen (x / Nat.gcd x y)≤M)(q2:blen (y / Nat.gcd x y)≤M):¬(M:Int)<max ((blen x:Int) - blen y) ((blen y:Int) - blen x):=by
 have e1:=Nat.div_mul_cancel (Nat.gcd_dvd_left x y)
 have e2:=Nat.div_mul_cancel (Nat.gcd_dvd_right x y)
 have g1:Nat.gcd x y≤x:=Nat.gcd_le_left _ (by omega)
 have g2:Nat.gcd x y≤y:=Nat.gcd_le_right _ (by omega)
 have a1:=gW (x / Nat.gcd x y) (Nat.gcd x y)
 have a2:=gW (y / Nat.gcd x y) (Nat.gcd x y)
 rw [e1] at a1
 rw [e2] at a2
 have b1:=gT g1
 have b2:=gT g2
 omega

theorem jJ (bn:Bool)(vn vd:Value)(X Y:List Nat)(w:World)(hA:Arg w vn X)(hB:Arg w vd Y)(hT:Tab w)(hf1:X.length≤17592186043904)(hf2:Y.length≤17592186043904)(hY:val Y≠0)
  (q1:blen (val X / Nat.gcd (val X) (val Y))≤67108864) (q2:blen (val Y / Nat.gcd (val X) (val Y))≤67108864) :
  Calls Tryz.prog 28 #[.agg #[.bool bn,vn],vd] w (cq w (zz bn (val X / Nat.gcd (val X) (val Y))) (val Y / Nat.gcd (val X) (val Y))):=by
 have hlx:=gX X hA.limbs
 have hly:=gX Y hB.limbs
 obtain⟨a,n,rfl,_,_,_⟩:=hA.form
 obtain⟨ad,nd,rfl,_,_,_⟩:=hB.form
 obtain⟨w0,hw0,hb0,h0,h1⟩:=bK w (.cells #[.bool bn,.slice a X.length n] 26) (.cells #[.bool false,.slice none 0 0,.slice none 0 0] 28)
 have Z1:=cP _ X w0 (hA.below hb0)
 have L1:=aC _ X w0 (hA.below hb0)
 have L2:=aC _ Y w0 (hB.below hb0)
 have F1:=nk (blen (val X)) (blen (val Y)) w0 (by omega) (by omega)
 have RN:=cH 3 w0
 have LO:=gk bn _ _ X Y w0 (hA.below hb0) (hB.below hb0) (hT.below hb0) hf1 hf2 hY q1 q2
 obtain⟨c0,c1⟩:=duo h0
 have H1:=ac h1
 have HB0:=ac hb0
 have q1':blen (zz bn (val X / Nat.gcd (val X) (val Y))).natAbs≤67108864:=by rw [dl];exact q1
 have hfar:val X≠0→decide ((67108864:Int)<max ((blen (val X):Int) - blen (val Y)) ((blen (val Y):Int) - blen (val X)))=false:=fun hx=>decide_eq_false (mZ (M:=67108864) hx hY q1 q2)
 clear hA hB hT h0 h1 hb0 q1 hlx hly
 generalize zz bn (val X / Nat.gcd (val X) (val Y))=zq at *
 generalize val Y / Nat.gcd (val X) (val Y)=dq at *
 have END:=ac (fun (t1:World) (bb:Bool) (a1:Option Addr) (n1 c1:Nat) (a2:Option Addr) (n2 c2:Nat) (y:TR t1 w0.heap.size bb (.slice a1 n1 c1) (.slice a2 n2 c2) zq dq)=>show Calls Tryz.prog 58 #[.agg #[.bool bb,.slice a1 n1 c1,.slice a2 n2 c2]] t1 (fun e w'=>e=.returned (.agg #[.bool bb,.slice a1 n1 c1,.slice a2 n2 c2])∧Below t1.heap.size t1 w') by
  obtain⟨_,⟨r1,x1,x2,x3⟩,mid,_,_,r2,z1,z2,z3⟩:=y
  have k1:r1.length≤1048576:=io x3 x2 (by omega)
  have k2:r2.length≤1048576:=io z3 z2 (by omega)
  exact kg bb _ _ r1 r2 t1 (x1.arg (by omega)) (z1.arg (by omega)) (by rw [x2];exact q1') (by rw [z2];exact q2))
 by_cases hx:val X=0
 ·rw [decide_eq_true hx] at Z1
  clear hfar L1 L2 F1 RN
  go_enter Tryz.func28,Tryz.ntmps28
  go_wp2_with fail
  refine Z1.mono ?_
  rintro e wn ⟨rfl,hw⟩;rw [hw];clear hw wn Z1
  go_wp2_with fail
  refine LO.mono ?_
  rintro e t1 ⟨⟨bb,a1,n1,k1,a2,n2,k2,rfl,y1⟩,hb1⟩
  have FT:=END.out t1 bb a1 n1 k1 a2 n2 k2 y1
  have HG1:=ac hb1
  have HY1:=ac y1
  clear LO END hb1 y1 c0 c1
  go_wp2_with fail
  refine FT.mono ?_
  rintro e t2 ⟨rfl,hb2⟩
  have hz3:=am (an HG1.out hb2) H1.out
  have T1:=(HY1.out.below hb2).base HB0.out.size
  have T2:=T1.tri (u0:=.bool bb) (u1:=.slice a1 n1 k1) (u2:=.slice a2 n2 k2) hz3
  have T3:=aZ (u0:=.bool bb) (u1:=.slice a1 n1 k1) (u2:=.slice a2 n2 k2) hz3
  have T4:=bg (u0:=.bool bb) (u1:=.slice a1 n1 k1) (u2:=.slice a2 n2 k2) (HB0.out.trans ((an HG1.out hb2).mono HB0.out.size)) (show w.heap.size≤w.heap.size+1 by omega)
  have HE:=ac (And.intro T2 T4)
  obtain⟨p0,p1,p2⟩:=tri T3
  have hf:=be hz3
  obtain⟨m0,m1,m2⟩:=tri hz3
  clear T1 T2 T3 T4 hz3 hb2 FT HY1 HG1
  go_wp2
  clear hf m0 m1 m2
  generalize ((t2.setCell ⟨w.heap.size+1,0,none⟩ (.bool bb)).setCell ⟨w.heap.size+1,1,none⟩ (.slice a1 n1 k1)).setCell ⟨w.heap.size+1,2,none⟩ (.slice a2 n2 k2)=w5 at *
  refine bodyPost_ret (v:=.agg #[.bool bb,.slice a1 n1 k1,.slice a2 n2 k2]) (by simp [results,Tryz.results28,go_sem,p0,p1,p2]) rfl ?_
  exact⟨⟨_,_,_,_,_,_,_,rfl,HE.out.1⟩,HE.out.2⟩
 ·rw [decide_eq_false hx] at Z1
  have hff:=hfar hx
  rw [hff] at F1
  clear hfar hff
  go_enter Tryz.func28,Tryz.ntmps28
  go_wp2_with fail
  refine Z1.mono ?_
  rintro e wn ⟨rfl,hw⟩;rw [hw];clear hw wn Z1
  go_wp2_with fail
  refine L1.mono ?_
  rintro e wn ⟨rfl,hw⟩;rw [hw];clear hw wn L1
  go_wp2_with fail
  refine L2.mono ?_
  rintro e wn ⟨rfl,hw⟩;rw [hw];clear hw wn L2
  go_wp2_with fail
  refine F1.mono ?_
  rintro e wn ⟨rfl,hw⟩;rw [hw];clear hw wn F1
  go_wp2_with fail
  refine RN.mono ?_
  rintro e wn ⟨rfl,hw⟩;rw [hw];clear hw wn RN
  go_wp2_with fail
  refine LO.mono ?_
  rintro e t1 ⟨⟨bb,a1,n1,k1,a2,n2,k2,rfl,y1⟩,hb1⟩
  have FT:=END.out t1 bb a1 n1 k1 a2 n2 k2 y1
  have HG1:=ac hb1
  have HY1:=ac y1
  clear LO END hb1 y1 c0 c1
  go_wp2_with fail
  refine FT.mono ?_
  rintro e t2 ⟨rfl,hb2⟩
  have hz3:=am (an HG1.out hb2) H1.out
  have T1:=(HY1.out.below hb2).base HB0.out.size
  have T2:=T1.tri (u0:=.bool bb) (u1:=.slice a1 n1 k1) (u2:=.slice a2 n2 k2) hz3
  have T3:=aZ (u0:=.bool bb) (u1:=.slice a1 n1 k1) (u2:=.slice a2 n2 k2) hz3
  have T4:=bg (u0:=.bool bb) (u1:=.slice a1 n1 k1) (u2:=.slice a2 n2 k2) (HB0.out.trans ((an HG1.out hb2).mono HB0.out.size)) (show w.heap.size≤w.heap.size+1 by omega)
  have HE:=ac (And.intro T2 T4)
  obtain⟨p0,p1,p2⟩:=tri T3
  have hf:=be hz3
  obtain⟨m0,m1,m2⟩:=tri hz3
  clear T1 T2 T3 T4 hz3 hb2 FT HY1 HG1
  go_wp2
  clear hf m0 m1 m2
  generalize ((t2.setCell ⟨w.heap.size+1,0,none⟩ (.bool bb)).setCell ⟨w.heap.size+1,1,none⟩ (.slice a1 n1 k1)).setCell ⟨w.heap.size+1,2,none⟩ (.slice a2 n2 k2)=w5 at *
  refine bodyPost_ret (v:=.agg #[.bool bb,.slice a1 n1 k1,.slice a2 n2 k2]) (by simp [results,Tryz.results28,go_sem,p0,p1,p2]) rfl ?_
  exact⟨⟨_,_,_,_,_,_,_,rfl,HE.out.1⟩,HE.out.2⟩

theorem nh (gp:Nat)(b:Bool)(v1 v2:Value)(X Y:List Nat)(w:World)(hP:w.heap[gp]?=some (.cells #[.bool b,v1,v2] 28))(hA:Arg w v1 X)(hB:Arg w v2 Y)(hT:Tab w)(hf1:X.length≤17592186043904)(hf2:Y.length≤17592186043904)(hY:val Y≠0)
  (q1:blen (val X / Nat.gcd (val X) (val Y))≤67108864) (q2:blen (val Y / Nat.gcd (val X) (val Y))≤67108864) :
  Calls Tryz.prog 26 #[.pointer (some ⟨gp,0,none⟩)] w (cq w (zz b (val X / Nat.gcd (val X) (val Y))) (val Y / Nat.gcd (val X) (val Y))):=by
 obtain⟨a,n,rfl,_,_,_⟩:=hA.form
 obtain⟨ad,nd,rfl,_,_,_⟩:=hB.form
 obtain⟨w0,hw0,hb0,h0⟩:=aD w (.cells #[.bool false,.slice none 0 0,.slice none 0 0] 28)
 obtain⟨u0,hu0,hbu,hL⟩:=aD w0 (.cells #[.bool b,.slice a X.length n,.slice ad Y.length nd] 28)
 have g0:=an hb0 hbu
 have ME:=gh w0.heap.size b _ _ X Y u0 (hA.below g0) (hB.below g0) hL hY
 have AN:=ac (fun (W:World) (hg:Below u0.heap.size u0 W)=>jJ b (.slice a X.length n) (.slice ad Y.length nd) X Y W ((hA.below g0).below hg) ((hB.below g0).below hg) ((hT.below g0).below hg) hf1 hf2 hY q1 q2)
 obtain⟨c0,c1,c2⟩:=tri (am hb0 hP)
 have HP:=ac (am g0 hP)
 have H0:=ac (am hbu h0)
 have HG0:=ac g0
 clear hA hB hT hP hb0 h0 hbu hL g0 q1 q2
 generalize zz b (val X / Nat.gcd (val X) (val Y))=zq at *
 generalize val Y / Nat.gcd (val X) (val Y)=dq at *
 go_enter Tryz.func26,Tryz.ntmps26
 go_wp2_with fail
 refine ME.mono ?_
 rintro e t1 ⟨rfl,hb1⟩
 have A1:=AN.out t1 hb1
 have HG1:=ac (an HG0.out hb1)
 obtain⟨d0,d1,d2⟩:=tri (am hb1 HP.out)
 have H01:=ac (am hb1 H0.out)
 clear c0 c1 c2 ME AN hb1
 go_wp2_with fail
 refine A1.mono ?_
 rintro e t2 ⟨⟨bb,a1,n1,k1,a2,n2,k2,rfl,y1⟩,hb2⟩
 have hz3:=am hb2 H01.out
 have T1:=y1.base HG1.out.size
 have T2:=T1.tri (u0:=.bool bb) (u1:=.slice a1 n1 k1) (u2:=.slice a2 n2 k2) hz3
 have T3:=aZ (u0:=.bool bb) (u1:=.slice a1 n1 k1) (u2:=.slice a2 n2 k2) hz3
 have T4:=bg (u0:=.bool bb) (u1:=.slice a1 n1 k1) (u2:=.slice a2 n2 k2) (an HG1.out hb2) (Nat.le_refl w.heap.size)
 have HE:=ac (And.intro T2 T4)
 obtain⟨p0,p1,p2⟩:=tri T3
 have hf:=be hz3
 obtain⟨m0,m1,m2⟩:=tri hz3
 clear T1 T2 T3 T4 hz3 hb2 A1 y1 d0 d1 d2
 go_wp2
 clear hf m0 m1 m2
 generalize ((t2.setCell ⟨w.heap.size,0,none⟩ (.bool bb)).setCell ⟨w.heap.size,1,none⟩ (.slice a1 n1 k1)).setCell ⟨w.heap.size,2,none⟩ (.slice a2 n2 k2)=w5 at *
 refine bodyPost_ret (v:=.agg #[.bool bb,.slice a1 n1 k1,.slice a2 n2 k2]) (by simp [results,Tryz.results26,go_sem,p0,p1,p2]) rfl ?_
 exact⟨⟨_,_,_,_,_,_,_,rfl,HE.out.1⟩,HE.out.2⟩

def iv (w:World)(z:Int)(d:Nat)(e:Ending)(w':World):Prop:=
 (∃(b:Bool) (a1:Option Addr) (n1 k1:Nat) (a2:Option Addr) (n2 k2:Nat),e=.returned (.tuple #[.agg #[.bool b,.slice a1 n1 k1,.slice a2 n2 k2],.int .i64 0])∧TR w' w.heap.size b (.slice a1 n1 k1) (.slice a2 n2 k2) z d)∧Below w.heap.size w w'

theorem nD (b:Bool)(v1 v2:Value)(X Y:List Nat)(w:World)(hA:Arg w v1 X)(hB:Arg w v2 Y)(hT:Tab w)(hf1:X.length≤17592186043904)(hf2:Y.length≤17592186043904)(hY:val Y≠0)
  (q1:blen (val X / Nat.gcd (val X) (val Y))≤67108864) (q2:blen (val Y / Nat.gcd (val X) (val Y))≤67108864) :
  Calls Tryz.prog 7 #[.agg #[.bool b,v1,v2]] w (iv w (zz b (val X / Nat.gcd (val X) (val Y))) (val Y / Nat.gcd (val X) (val Y))):=by
 have hmf:∀(fn:Fn) (first cap:Array Value) (w:World),(Instr.makeFunc fn first cap).run Tryz.prog w=.ok (.func fn first cap) w:=fun _ _ _ _=>rfl
 obtain⟨a,n,rfl,_,_,_⟩:=hA.form
 obtain⟨ad,nd,rfl,_,_,_⟩:=hB.form
 obtain⟨w0,hw0,hb0,h0,h1⟩:=bK w (.cells #[.bool b,.slice a X.length n,.slice ad Y.length nd] 28) (.cells #[.bool false,.slice none 0 0,.slice none 0 0] 28)
 have FA:=lF ⟨w.heap.size,0,none⟩ w0 (fun W bb x y=>TR W w.heap.size bb x y (zz b (val X / Nat.gcd (val X) (val Y))) (val Y / Nat.gcd (val X) (val Y)))
  (fun W g k u t cs bb x y hg ht h=>h.offT hg (by rcases ht with rfl|rfl <;> decide))
  (fun W hg=>(nh w.heap.size b _ _ X Y W (am hg h0) ((hA.below hb0).below hg) ((hB.below hb0).below hg) ((hT.below hb0).below hg) hf1 hf2 hY q1 q2).mono (fun e w' ⟨⟨bb,a1,n1,k1,a2,n2,k2,he,hr⟩,hb⟩=>⟨⟨bb,a1,n1,k1,a2,n2,k2,he,hr.base (Nat.le_trans hb0.size hg.size)⟩,hb⟩))
 have H1:=ac h1
 have HB0:=ac hb0
 clear hA hB hT h0 h1 hb0 q1 q2
 generalize zz b (val X / Nat.gcd (val X) (val Y))=zq at *
 generalize val Y / Nat.gcd (val X) (val Y)=dq at *
 go_enter Tryz.func7,Tryz.ntmps7
 go_wp2_with fail
 refine FA.mono ?_
 rintro e t2 ⟨⟨bb,a1,n1,k1,a2,n2,k2,rfl,y1⟩,hb2⟩
 have hz3:=am hb2 H1.out
 have T2:=TR.tri (u0:=.bool bb) (u1:=.slice a1 n1 k1) (u2:=.slice a2 n2 k2) y1 hz3
 have T3:=aZ (u0:=.bool bb) (u1:=.slice a1 n1 k1) (u2:=.slice a2 n2 k2) hz3
 have T4:=bg (u0:=.bool bb) (u1:=.slice a1 n1 k1) (u2:=.slice a2 n2 k2) (HB0.out.trans (hb2.mono HB0.out.size)) (show w.heap.size≤w.heap.size+1 by omega)
 have HE:=ac (And.intro T2 T4)
 obtain⟨p0,p1,p2⟩:=tri T3
 have hf:=be hz3
 obtain⟨m0,m1,m2⟩:=tri hz3
 clear T2 T3 T4 hz3 hb2 FA y1
 go_wp2
 clear hf m0 m1 m2
 generalize ((t2.setCell ⟨w.heap.size+1,0,none⟩ (.bool bb)).setCell ⟨w.heap.size+1,1,none⟩ (.slice a1 n1 k1)).setCell ⟨w.heap.size+1,2,none⟩ (.slice a2 n2 k2)=w5 at *
 refine bodyPost_ret (v:=.tuple #[.agg #[.bool bb,.slice a1 n1 k1,.slice a2 n2 k2],.int .i64 0]) (by simp [results,Tryz.results7,go_sem,p0,p1,p2]) rfl ?_
 exact⟨⟨_,_,_,_,_,_,_,rfl,HE.out.1⟩,HE.out.2⟩

theorem kS (bn bd:Bool)(v1 v2:Value)(X Y:List Nat)(w:World)(hA:Arg w v1 X)(hB:Arg w v2 Y)(hT:Tab w)(hf1:X.length≤17592186043904)(hf2:Y.length≤17592186043904)(hY:val Y≠0)
  (q1:blen (val X / Nat.gcd (val X) (val Y))≤67108864) (q2:blen (val Y / Nat.gcd (val X) (val Y))≤67108864) :
  Calls Tryz.prog 17 #[.agg #[.bool bn,v1],.agg #[.bool bd,v2]] w (iv w (zz (bn != bd) (val X / Nat.gcd (val X) (val Y))) (val Y / Nat.gcd (val X) (val Y))):=by
 obtain⟨a,n,rfl,_,_,_⟩:=hA.form
 obtain⟨ad,nd,rfl,_,_,_⟩:=hB.form
 obtain⟨w0,hw0,hb0,h0,h1,h2⟩:=g7 w (.cells #[.bool bn,.slice a X.length n] 26) (.cells #[.bool bd,.slice ad Y.length nd] 26) (.cells #[.bool false,.slice none 0 0,.slice none 0 0] 28)
 obtain⟨c0,c1⟩:=duo h0
 obtain⟨d0,d1⟩:=duo h1
 obtain⟨sg9,hsg,hsg2⟩:∃sg9,(bn != bd)=sg9∧(!(bn == bd))=sg9:=⟨_,rfl,rfl⟩
 rw [hsg]
 have FA:=nD sg9 _ _ X Y w0 (hA.below hb0) (hB.below hb0) (hT.below hb0) hf1 hf2 hY q1 q2
 have H2:=ac h2
 have HB0:=ac hb0
 clear hA hB hT h0 h1 h2 hb0 q1 q2
 generalize zz sg9 (val X / Nat.gcd (val X) (val Y))=zq at *
 generalize val Y / Nat.gcd (val X) (val Y)=dq at *
 go_enter Tryz.func17,Tryz.ntmps17
 go_wp2_with fail
 refine FA.mono ?_
 rintro e t2 ⟨⟨bb,a1,n1,k1,a2,n2,k2,rfl,y1⟩,hb2⟩
 have hz3:=am hb2 H2.out
 have T2:=TR.tri (u0:=.bool bb) (u1:=.slice a1 n1 k1) (u2:=.slice a2 n2 k2) (y1.base HB0.out.size) hz3
 have T3:=aZ (u0:=.bool bb) (u1:=.slice a1 n1 k1) (u2:=.slice a2 n2 k2) hz3
 have T4:=bg (u0:=.bool bb) (u1:=.slice a1 n1 k1) (u2:=.slice a2 n2 k2) (HB0.out.trans (hb2.mono HB0.out.size)) (show w.heap.size≤w.heap.size+2 by omega)
 have HE:=ac (And.intro T2 T4)
 obtain⟨p0,p1,p2⟩:=tri T3
 have hf:=be hz3
 obtain⟨m0,m1,m2⟩:=tri hz3
 clear T2 T3 T4 hz3 hb2 FA y1 c0 c1 d0 d1
 go_wp2
 clear hf m0 m1 m2
 generalize ((t2.setCell ⟨w.heap.size+2,0,none⟩ (.bool bb)).setCell ⟨w.heap.size+2,1,none⟩ (.slice a1 n1 k1)).setCell ⟨w.heap.size+2,2,none⟩ (.slice a2 n2 k2)=w5 at *
 refine bodyPost_ret (v:=.tuple #[.agg #[.bool bb,.slice a1 n1 k1,.slice a2 n2 k2],.int .i64 0]) (by simp [results,Tryz.results17,go_sem,p0,p1,p2]) rfl ?_
 exact⟨⟨_,_,_,_,_,_,_,rfl,HE.out.1⟩,HE.out.2⟩

theorem kP (L:Nat)(b1 b2 b3:Bool)(x1 y1 x2 y2 x3 y3:Value)(X1 Y1 X2 Y2 X3 Y3:List Nat)(w:World)(hX1:Arg w x1 X1)(hY1:Arg w y1 Y1)(hX2:Arg w x2 X2)(hY2:Arg w y2 Y2)(hX3:Arg w x3 X3)(hY3:Arg w y3 Y3)(hL:w.heap[L]?=some (.cells #[.bool b1,x1,y1,.bool b2,x2,y2,.bool b3,x3,y3] 28))(h1:val Y1≠0)(h2:val Y2≠0)(h3:val Y3=0) :
  Calls Tryz.prog 27 #[.slice (some ⟨L,0,none⟩) 3 3] w fun e w'=>bT 70 e∧Below w.heap.size w w':=by
 obtain⟨a1,n1,rfl,_,_,_⟩:=hX1.form
 obtain⟨a2,n2,rfl,_,_,_⟩:=hY1.form
 obtain⟨a3,n3,rfl,_,_,_⟩:=hX2.form
 obtain⟨a4,n4,rfl,_,_,_⟩:=hY2.form
 obtain⟨a5,n5,rfl,_,_,_⟩:=hX3.form
 obtain⟨a6,n6,rfl,_,_,_⟩:=hY3.form
 have cel:∀(W:World),W.heap[L]?=some (.cells #[.bool b1,.slice a1 X1.length n1,.slice a2 Y1.length n2,.bool b2,.slice a3 X2.length n3,.slice a4 Y2.length n4,.bool b3,.slice a5 X3.length n5,.slice a6 Y3.length n6] 28)→(W.cell? ⟨L,0,none⟩=some (.bool b1)∧W.cell? ⟨L,1,none⟩=some (.slice a1 X1.length n1)∧W.cell? ⟨L,2,none⟩=some (.slice a2 Y1.length n2)∧W.cell? ⟨L,3,none⟩=some (.bool b2)∧W.cell? ⟨L,4,none⟩=some (.slice a3 X2.length n3)∧W.cell? ⟨L,5,none⟩=some (.slice a4 Y2.length n4)∧W.cell? ⟨L,6,none⟩=some (.bool b3)∧W.cell? ⟨L,7,none⟩=some (.slice a5 X3.length n5)∧W.cell? ⟨L,8,none⟩=some (.slice a6 Y3.length n6)):=fun W h=>⟨by simp [World.cell?,h],by simp [World.cell?,h],by simp [World.cell?,h],by simp [World.cell?,h],by simp [World.cell?,h],by simp [World.cell?,h],by simp [World.cell?,h],by simp [World.cell?,h],by simp [World.cell?,h]⟩
 obtain⟨w1,hw1,hb1,k1⟩:=aD w (.cells #[.bool b1,.slice a1 X1.length n1,.slice a2 Y1.length n2] 28)
 obtain⟨w2,hw2,hb2,k2⟩:=aD w1 (.cells #[.bool b2,.slice a3 X2.length n3,.slice a4 Y2.length n4] 28)
 obtain⟨w3,hw3,hb3,k3⟩:=aD w2 (.cells #[.bool b3,.slice a5 X3.length n5,.slice a6 Y3.length n6] 28)
 have g2:=an hb1 hb2
 have g3:=an g2 hb3
 have Z1:=cP _ Y1 w1 (hY1.below hb1)
 have Z2:=cP _ Y2 w2 (hY2.below g2)
 have Z3:=cP _ Y3 w3 (hY3.below g3)
 rw [decide_eq_false h1] at Z1
 rw [decide_eq_false h2] at Z2
 rw [decide_eq_true h3] at Z3
 have R1:=cH 70 w1
 have R2:=cH 70 w2
 have R3:=iS 70 w3
 obtain⟨c0,c1,c2,_⟩:=cel w hL
 obtain⟨_,_,_,c3,c4,c5,_⟩:=cel w1 (am hb1 hL)
 obtain⟨_,_,_,_,_,_,c6,c7,c8⟩:=cel w2 (am g2 hL)
 obtain⟨d0,d1,d2⟩:=tri k1
 obtain⟨e0,e1,e2⟩:=tri k2
 obtain⟨f0,f1,f2⟩:=tri k3
 have HB0:=ac g3
 clear hX1 hY1 hX2 hY2 hX3 hY3 hL cel hb1 hb2 hb3 g2 g3 k1 k2 k3
 go_enter Tryz.func27,Tryz.ntmps27
 go_wp2
 refine wp_loop_rounds 4 ?_
 rw [rounds_succ]
 go_wp2_with fail
 refine Z1.mono ?_
 rintro e wn ⟨rfl,hw⟩;rw [hw];clear hw wn Z1
 go_wp2_with fail
 refine R1.mono ?_
 rintro e wn ⟨rfl,hw⟩;rw [hw];clear hw wn R1
 go_wp2
 rw [rounds_succ]
 go_wp2_with fail
 refine Z2.mono ?_
 rintro e wn ⟨rfl,hw⟩;rw [hw];clear hw wn Z2
 go_wp2_with fail
 refine R2.mono ?_
 rintro e wn ⟨rfl,hw⟩;rw [hw];clear hw wn R2
 go_wp2
 rw [rounds_succ]
 go_wp2_with fail
 refine Z3.mono ?_
 rintro e wn ⟨rfl,hw⟩;rw [hw];clear hw wn Z3
 go_wp2_with fail
 refine R3.mono ?_
 rintro e wn ⟨he,hw⟩;rw [hw];clear hw wn R3
 unfold bT at he
 subst he
 exact⟨rfl,rfl,HB0.out⟩



theorem Ans.cellAt5 {w:World}{base g cap:Nat}{zs:List Nat}(h:Ans w base (.slice (some ⟨g,0,none⟩) zs.length cap) zs):(zs.length≤cap∧cap≤9223372036854775807)∧(∀k,w.frozen? ⟨g,k,none⟩=false)∧∀k,k<zs.length→w.cell? ⟨g,k,none⟩=some (.int .u64 ((zs.getD k 0:Nat):Int)):=by
 rcases h.form with ⟨e,_⟩|⟨g',cap',e,_,_,h1,h2,h3,h4⟩
 ·cases e
 ·cases e
  exact⟨⟨h1,h2⟩,h3,h4⟩

theorem iE {w:World}{h k:Nat}{cs:Array Value}{t:TypeId}(e:w.heap[h]?=some (.cells cs t))(u:Value):(w.setCell ⟨h,k,none⟩ u).heap[h]?=some (.cells (cs.setIfInBounds k u) t):=by
 have hlt:=lt_of_block e
 have h':w.heap[h]=.cells cs t:=by simpa [Array.getElem?_eq_getElem hlt] using e
 show (w.heap.modify h _)[h]?=_
 rw [Array.getElem?_eq_getElem (by simpa using hlt),Array.getElem_modify_self,h']
 rfl

theorem nJ (h:15<(ByteArray.mk #[48,49,50,51,52,53,54,55,56,57,97,98,99,100,101,102,103,104,105,106,107,108,109,110,111,112,113,114,115,116,117,118,119,120,121,122]).size):(ByteArray.mk #[48,49,50,51,52,53,54,55,56,57,97,98,99,100,101,102,103,104,105,106,107,108,109,110,111,112,113,114,115,116,117,118,119,120,121,122])[15]=102:=rfl

theorem mg (h:15<(ByteArray.mk #[48,49,50,51,52,53,54,55,56,57,97,98,99,100,101,102,103,104,105,106,107,108,109,110,111,112,113,114,115,116,117,118,119,120,121,122]).size):(ByteArray.mk #[48,49,50,51,52,53,54,55,56,57,97,98,99,100,101,102,103,104,105,106,107,108,109,110,111,112,113,114,115,116,117,118,119,120,121,122])[15].toNat=102:=rfl

attribute [local go_sem] nJ mg
end Go.Proofs.YtplegacjglaenaaGreatDoor
namespace Go.Proofs.YtplegacjglaenaaGreatDoor
open Go.RowKit
open Lm
attribute [local go_sem ↓] Go.wp_at_zero Go.wp_at_succ

theorem je (b:Nat)(w:World)(h1:2≤b)(h2:b≤36):Calls Tryz.prog 71 #[.int .i64 b] w fun e w'=>e=.returned (.bool true)∧w'=w:=by
 have i0:(2:Int)≤(b:Int):=by omega
 have i1:(b:Int)≤36:=by omega
 have i2:decide ((b:Int)≤36)=true:=decide_eq_true i1
 go_enter Tryz.func71,Tryz.ntmps71
 go_wp2
 go_ret
 exact⟨rfl,rfl⟩

def aF (b v n:Nat):Prop:=1≤n∧v<b ^ n∧(n=1∨b ^ (n - 1)≤v)

theorem aF.unique {b v m n:Nat}(hb:2≤b)(h:aF b v m)(h':aF b v n):m=n:=by
 have key:∀ {m n:Nat},aF b v m→aF b v n→m≤n:=by
  intro m n h h'
  rcases h.2.2 with e|e
  ·have:=h'.1;omega
  ·have h1:=(Nat.pow_lt_pow_iff_right (show 1<b by omega)).1 (Nat.lt_of_le_of_lt e h'.2.1)
   omega
 exact Nat.le_antisymm (key h h') (key h' h)

theorem aF.few {b v n k:Nat}(hb:2≤b)(h:aF b v n)(hk:1≤k)(hv:v<2 ^ k):n≤k:=by
 rcases h.2.2 with e|e
 ·omega
 ·have h1:2 ^ (n - 1)≤b ^ (n - 1):=Nat.pow_le_pow_left hb _
  have h2:=(Nat.pow_lt_pow_iff_right (show 1<2 by omega)).1 (Nat.lt_of_le_of_lt (Nat.le_trans h1 e) hv)
  omega

def Cs (b v c n:Nat):Prop:=1≤n∧c=v / b ^ (n - 1)∧(n=1∨b ^ (n - 1)≤v)

theorem Cs.next {b v c n:Nat}(hb:2≤b)(h:Cs b v c n)(hc:b≤c):Cs b v (c / b) (n+1):=by
 obtain⟨h1,h2,_⟩:=h
 have e:b ^ (n+1 - 1)=b ^ (n - 1)*b:=by rw [←Nat.pow_succ];congr 1;omega
 have hp:0<b ^ (n - 1):=Nat.pow_pos (by omega)
 refine⟨by omega,by rw [e,←Nat.div_div_eq_div_mul,h2],.inr ?_⟩
 rw [e,Nat.mul_comm]
 exact (Nat.le_div_iff_mul_le hp).1 (by rw [←h2];exact hc)

theorem Cs.done {b v c n:Nat}(hb:2≤b)(h:Cs b v c n)(hc:c<b):aF b v n:=by
 obtain⟨h1,h2,h3⟩:=h
 have hp:0<b ^ (n - 1):=Nat.pow_pos (by omega)
 refine⟨h1,?_,h3⟩
 have e:b ^ n=b*b ^ (n - 1):=by rw [Nat.mul_comm,←Nat.pow_succ];congr 1;omega
 rw [e]
 exact (Nat.div_lt_iff_lt_mul hp).1 (by rw [←h2];exact hc)

theorem Cs.few {b v c n:Nat}(hb:2≤b)(h:Cs b v c n)(hv:v<18446744073709551616):n≤64:=by
 rcases h.2.2 with e|e
 ·omega
 ·have h1:2 ^ (n - 1)≤b ^ (n - 1):=Nat.pow_le_pow_left hb _
  have h2:=(Nat.pow_lt_pow_iff_right (show 1<2 by omega)).1 (Nat.lt_of_le_of_lt (Nat.le_trans h1 e) (show v<2 ^ 64 by omega))
  omega

theorem lI (v b:Nat)(w:World)(hb:2≤b)(hb2:b≤36)(hv:v<18446744073709551616) :
  Calls Tryz.prog 110 #[.int .u64 v,.int .u64 b] w fun e w'=>∃n:Nat,e=.returned (.int .i64 n)∧aF b v n∧w'=w:=by
 have hbz:((b:Int) == 0)=false:=by rw [beq_eq_false_iff_ne];omega
 go_enter Tryz.func110,Tryz.ntmps110
 go_wp2
 go_loop [0,5] (fun x y=>∃c n:Nat,x=.int .u64 c∧y=.int .i64 n∧c≤v∧Cs b v c n) (fun x _=>(intOf x).toNat)
 case atStart=>exact⟨v,1,rfl,rfl,Nat.le_refl _,Nat.le_refl _,by simp,.inl rfl⟩
 case round=>
  obtain⟨c,n,rfl,rfl,hcv,hcs⟩:=hrel
  have hn:=hcs.few hb hv
  have HC:=ac hcs
  by_cases hc:b≤c
  ·have i1:(b:Int)≤(c:Int):=by omega
   have hdl:c / b<c:=Nat.div_lt_self (by omega) (by omega)
   have hde:(c:Int) / (b:Int)=((c / b:Nat):Int):=by omega
   have HN:=ac (HC.out.next hb hc)
   generalize c / b=q at *
   clear hcs
   go_wp2
   go_round
   case rel=>exact⟨q,n+1,rfl,by go_num,by omega,HN.out⟩
   case measure=>simp [intOf];omega
  ·have i1:¬((b:Int)≤(c:Int)):=by omega
   clear hcs
   go_wp2
   go_ret
   exact⟨n,rfl,HC.out.done hb (by omega),rfl⟩

structure ny (b d p:Nat):Prop where
 pow:p=b ^ d
 fits:p<18446744073709551616
 most:18446744073709551616≤p*b
 some:1≤d
 few:d≤63

theorem jf (b:Nat)(w:World)(hb:2≤b)(hb2:b≤36) :
  Calls Tryz.prog 115 #[.int .i64 b] w fun e w'=>∃d p:Nat,e=.returned (.tuple #[.int .i64 d,.int .u64 p])∧ny b d p∧w'=w:=by
 have hbz:((b:Int) == 0)=false:=by rw [beq_eq_false_iff_ne];omega
 obtain⟨m,hm⟩:∃m,18446744073709551615 / b=m:=⟨_,rfl⟩
 have hmi:(18446744073709551615:Int) / (b:Int)=(m:Int):=by rw [←hm,Int.natCast_ediv];rfl
 have hm1:m*b≤18446744073709551615:=by rw [←hm];exact Nat.div_mul_le_self _ _
 have hm2:18446744073709551615<(m+1)*b:=by rw [←hm,Nat.mul_comm];exact Nat.lt_mul_div_succ _ (by omega)
 have hm3:1≤m:=by rw [←hm];exact (Nat.le_div_iff_mul_le (by omega)).2 (by omega)
 have HM:=ac (And.intro hm1 hm2)
 clear hm hm1 hm2
 go_enter Tryz.func115,Tryz.ntmps115
 go_wp2
 go_loop [2,3] (fun x y=>∃d p:Nat,x=.int .i64 d∧y=.int .u64 p∧p=b ^ d∧p<18446744073709551616∧d≤63) (fun x _=>64 - (intOf x).toNat)
 case atStart=>exact⟨0,1,rfl,rfl,by simp,by omega,by omega⟩
 case round=>
  obtain⟨d,p,rfl,rfl,hp,hpl,hd⟩:=hrel
  have HP:=ac hp
  by_cases hc:p≤m
  ·have i1:(p:Int)≤(m:Int):=by omega
   have hpb:p*b<18446744073709551616:=by
    have:=Nat.mul_le_mul_right b hc
    have:=HM.out.1
    omega
   have hpi:(p:Int)*(b:Int)=((p*b:Nat):Int):=by simp
   have hq:p*b=b ^ (d+1):=by rw [hp,Nat.pow_succ]
   have hd2:d+1≤63:=by
    have h1:2 ^ (d+1)≤b ^ (d+1):=Nat.pow_le_pow_left hb _
    have h2:=(Nat.pow_lt_pow_iff_right (show 1<2 by omega)).1 (Nat.lt_of_le_of_lt h1 (show b ^ (d+1)<2 ^ 64 by omega))
    omega
   have HQ:=ac hq
   generalize p*b=q at *
   clear hp hq
   go_wp2
   go_round
   case rel=>exact⟨d+1,q,by go_num,rfl,HQ.out,hpb,hd2⟩
   case measure=>simp [intOf];omega
  ·have i1:¬((p:Int)≤(m:Int)):=by omega
   clear hp
   go_wp2
   go_returns
   refine⟨d,p,rfl,⟨HP.out,hpl,?_,?_,hd⟩,rfl⟩
   ·have:=Nat.mul_le_mul_right b (show m+1≤p by omega)
    have:=HM.out.2
    omega
   ·rcases Nat.eq_zero_or_pos d with h|h
    ·have:=HP.out;rw [h] at this;simp at this;omega
    ·exact h

theorem Ans.front5 {w:World}{base g cap:Nat}{zs:List Nat}(h:Ans w base (.slice (some ⟨g,0,none⟩) zs.length cap) zs)(n:Nat)(hn:n≤zs.length):Ans w base (.slice (some ⟨g,0,none⟩) n cap) (zs.take n):=by
 refine⟨?_,fun z hz=>h.limbs z (List.mem_of_mem_take hz)⟩
 obtain⟨_,h2⟩:=h.own
 have e:(zs.take n).length=n:=by simp;omega
 refine⟨by simp,?_⟩
 rcases h2 with ⟨h1,_⟩|⟨g',cap',cur,hv,hg,hh,hnn,hcm,hs,ht⟩
 ·cases h1
 ·cases hv
  refine .inr ⟨g,cap,cur,by rw [e],hg,hh,by rw [e];omega,hcm,hs,?_⟩
  rw [e]
  have e2:cur.toList.take (n*1)=(cur.toList.take (zs.length*1)).take n:=by
   rw [List.take_take,Nat.mul_one,Nat.mul_one,Nat.min_eq_left hn]
  rw [e2,ht,List.map_take]

theorem jB (X out:List Nat)(j q:Nat)(h:out.take (j+1)=X.take (j+1)):(out.set j q).take j=X.take j:=by
 have e:(out.set j q).take j=out.take j:=by
  apply List.ext_getElem?
  intro n
  simp only [List.getElem?_take]
  split
  ·rw [List.getElem?_set_ne (by omega)]
  ·rfl
 rw [e]
 have h2:=congrArg (List.take j) h
 simpa [List.take_take,Nat.min_eq_left (Nat.le_succ j)] using h2

theorem i9 (X out:List Nat)(j:Nat)(h:out.take (j+1)=X.take (j+1)):out.getD j 0=X.getD j 0:=by
 have h2:=congrArg (fun l=>l.getD j 0) h
 simpa [List.getD,List.getElem?_take] using h2

def eD (base x d:Nat)(w:World)(e:Ending)(w':World):Prop:=
 ∃v Y,e=.returned (.tuple #[v,.int .u64 ((x % d:Nat):Int)])∧Ans w' base v Y∧val Y=x / d∧Below base w w'

theorem jP (base g cap d:Nat)(X:List Nat)(w:World)(hA:Ans w base (.slice (some ⟨g,0,none⟩) X.length cap) X)(hd:d<18446744073709551616)(hd0:0<d) :
  Calls Tryz.prog 116 #[.slice (some ⟨g,0,none⟩) X.length cap,.int .u64 d] w (eD base (val X) d w):=by
 obtain⟨⟨hc1,hc2⟩,_,_⟩:=Ans.cellAt5 hA
 have hbg:base≤g:=(hA.own.lt g rfl).1
 have M1:=hA.limbs
 have HA:=ac hA
 clear hA
 go_enter Tryz.func116,Tryz.ntmps116
 go_wp2
 go_loopw [6,8] (fun c i wr=>∃(k r:Nat) (out:List Nat),k≤X.length∧i=.int .i64 ((k:Int) - 1)∧c=.int .u64 r∧r<d∧out.length=X.length∧Ans wr base (.slice (some ⟨g,0,none⟩) out.length cap) out∧Below base w wr ∧
   val (out.drop k)*d+r=val (X.drop k)∧out.take k=X.take k) (fun _ i _=>(intOf i+1).toNat)
 case atStart=>exact⟨X.length,0,X,Nat.le_refl _,by go_num,rfl,hd0,rfl,HA.out,Below.refl _ _,by simp [val],rfl⟩
 case round=>
  obtain⟨k,r,out,hk,rfl,rfl,hr,hlen,hans,hbl,hval,htk⟩:=hrel
  clear HA
  obtain⟨_,hfz,hcell⟩:=Ans.cellAt5 hans
  rcases Nat.eq_zero_or_pos k with rfl|hk0
  ·rw [List.drop_zero,List.drop_zero] at hval
   have hq:val out=val X / d:=by
    rw [←hval,Nat.mul_comm,Nat.mul_add_div hd0,Nat.div_eq_of_lt hr,Nat.add_zero]
   have hm:r=val X % d:=by
    rw [←hval,Nat.mul_comm,Nat.mul_add_mod,Nat.mod_eq_of_lt hr]
   have hrW:r<18446744073709551616:=by omega
   have HX:=ac hans
   have HL:=ac hbl
   have HQ:=ac (And.intro hq hm)
   rcases Nat.eq_zero_or_pos X.length with hx|hx
   ·obtain rfl:=List.eq_nil_of_length_eq_zero hx
    obtain rfl:=List.eq_nil_of_length_eq_zero hlen
    clear hans hbl hcell htk hval hq hm hfz
    go_wp2
    go_returns
    exact⟨_,[],by rw [←HQ.out.2];rfl,HX.out,HQ.out.1,HL.out⟩
   ·obtain⟨j,hj⟩:∃j,X.length=j+1:=⟨X.length - 1,by omega⟩
    have hji:(X.length:Int) - 1=(j:Int):=by omega
    have hck:=hcell j (by omega)
    have hlast:=val_take_next out j
    rw [show j+1=out.length by omega,List.take_length] at hlast
    have HF:=ac (HX.out.front5 j (by omega))
    have HT:=ac hlast
    have hjl:j<X.length:=by omega
    generalize out.getD j 0=o at *
    clear hans hbl hcell htk hval hq hm hlast hfz
    by_cases ho:o=0
    ·subst ho
     have hjc:j≤cap:=by omega
     go_wp2
     go_returns
     refine⟨_,out.take j,by rw [←HQ.out.2];rfl,HF.out,?_,HL.out⟩
     have:=HT.out;rw [Nat.mul_zero,Nat.add_zero] at this
     rw [←this];exact HQ.out.1
    ·have hoz:((o:Int) == 0)=false:=by rw [beq_eq_false_iff_ne];omega
     go_wp2
     go_returns
     refine⟨_,out,by rw [←HQ.out.2];rfl,?_,HQ.out.1,HL.out⟩
     have:=HX.out;rw [hlen] at this;exact this
  ·obtain⟨j,rfl⟩:∃j,k=j+1:=⟨k - 1,by omega⟩
   have hje:(((j+1:Nat):Int)) - 1=(j:Int):=by omega
   rw [hje]
   have hck:=hcell j (by omega)
   have hjl:j<X.length:=by omega
   have hst:=through_step X out d j r (by omega) hval hjl
   have hts:=jB X out j ((r*18446744073709551616+X.getD j 0) / d) htk
   rw [i9 X out j htk] at hck
   have z1:=limb_lt M1 j
   have HV:=ac (And.intro hst hts)
   have HD:=fe r (X.getD j 0) d wr hd hr z1
   have hql:=quo_lt r (X.getD j 0) d hr z1
   have hrl:(r*18446744073709551616+X.getD j 0) % d<d:=Nat.mod_lt _ hd0
   generalize (r*18446744073709551616+X.getD j 0) / d=qq at *
   generalize (r*18446744073709551616+X.getD j 0) % d=rr at *
   generalize X.getD j 0=x at *
   have HX:=ac hans
   have HL:=ac hbl
   have hi1:(0:Int)≤(j:Int):=by omega
   have hi2:(j:Int)<(X.length:Int):=by omega
   clear hst hts hval hcell hans hbl htk hfz hje M1
   go_wp2_with fail
   refine HD.mono ?_
   rintro e w2 ⟨rfl,hs⟩
   have HX2:=ac (HX.out.below (hs.below _))
   have HL2:=ac (HL.out.trans (hs.below _))
   obtain⟨_,hfz,hcell⟩:=Ans.cellAt5 HX2.out
   have hfr:=hfz j
   have hco:=hcell j (by omega)
   generalize out.getD j 0=o at *
   clear HD hs hck hfz hcell
   go_wp2
   go_roundw
   case rel=>
    exact⟨j,rr,out.set j qq,by omega,by go_num,rfl,hrl,by simp;omega,HX2.out.stored j qq hql,HL2.out.setCell hbg _,HV.out.1,HV.out.2⟩
   case measure=>simp [intOf]

theorem lL (base d:Nat)(w:World) :
  Calls Tryz.prog 116 #[.slice none 0 0,.int .u64 d] w (eD base 0 d w):=by
 go_enter Tryz.func116,Tryz.ntmps116
 go_wp2
 refine wp_loop_rounds 1 ?_
 rw [rounds_succ]
 go_wp2
 go_returns
 exact⟨_,[],by rw [Nat.zero_mod];rfl,Ans.nil _ _,by simp [val],Below.refl _ _⟩

theorem my (base d:Nat)(v:Value)(X:List Nat)(w:World)(hA:Ans w base v X)(hd:d<18446744073709551616)(hd0:0<d) :
  Calls Tryz.prog 116 #[v,.int .u64 d] w (eD base (val X) d w):=by
 rcases hA.form with ⟨rfl,rfl⟩|⟨g,cap,rfl,_⟩
 ·exact lL base d w
 ·exact jP base g cap d X w hA hd hd0

def bv (z:Nat):Value:=.int .u8 (z:Int)

def Byt (w:World)(b:Nat)(xs:List Nat):Prop:=w.heap[b]?=some (.cells (xs.map bv).toArray 5 (0,0))

theorem Byt.lt {w:World}{b:Nat}{xs:List Nat}(h:Byt w b xs):b<w.heap.size:=lt_of_block h

theorem Byt.cell {w:World}{b:Nat}{xs:List Nat}(h:Byt w b xs)(k:Nat)(hk:k<xs.length):w.cell? ⟨b,k,none⟩=some (.int .u8 ((xs.getD k 0:Nat):Int)):=by
 simp [World.cell?,show w.heap[b]?=_ from h,hk,bv,List.getD]

theorem Byt.free {w:World}{b:Nat}{xs:List Nat}(h:Byt w b xs)(k:Nat):w.frozen? ⟨b,k,none⟩=false:=by
 simp [World.frozen?,show w.heap[b]?=_ from h]

theorem Byt.set {w:World}{b:Nat}{xs:List Nat}(h:Byt w b xs)(k z:Nat):Byt (w.setCell ⟨b,k,none⟩ (.int .u8 (z:Int))) b (xs.set k z):=by
 have hlt:=h.lt
 have h':w.heap[b]=.cells (xs.map bv).toArray 5 (0,0):=by simpa [Array.getElem?_eq_getElem hlt] using (show w.heap[b]?=_ from h)
 show (w.heap.modify b _)[b]?=_
 rw [Array.getElem?_eq_getElem (by simpa using hlt),Array.getElem_modify_self,h']
 simp [List.map_set,bv]

theorem Byt.below {w w':World}{b B:Nat}{xs:List Nat}(h:Byt w b xs)(hb:Below B w w')(hB:b<B):Byt w' b xs:=by
 unfold Byt;rw [hb.block b hB];exact h

theorem Ans.apart5 {w:World}{base:Nat}{v:Value}{zs:List Nat}(h:Ans w base v zs)(g o:Nat)(u:Value)(hg:g<base):Ans (w.setCell ⟨g,o,none⟩ u) base v zs:=by
 refine⟨?_,h.limbs⟩
 obtain⟨h1,h2⟩:=h.own
 refine⟨h1,?_⟩
 rcases h2 with h2|⟨g',cap,cur,hv,hg',hh,r⟩
 ·exact .inl h2
 ·exact .inr ⟨g',cap,cur,hv,hg',by rw [Below.heap_setCell _ _ _ _ (show g'≠(⟨g,o,none⟩:Addr).block by show g'≠g;omega)];exact hh,r⟩

theorem Fr.low {gd:Nat}{w wr w2:World}(h:Fr gd w wr)(k:Below w.heap.size wr w2):Fr gd w w2:=
 ⟨k.os.trans h.os,k.tape.trans h.tape,k.output.trans h.output,Nat.le_trans h.size k.size,fun j h1 h2=>(k.block j h1).trans (h.block j h1 h2)⟩

structure aP (b x o n t:Nat)(D D':List Nat):Prop where
 len:D'.length=D.length
 digs:∀i,t≤i→i<n→D'.getD (o+i) 0=x / b ^ (n - 1 - i) % b
 same:∀k,k<o+t∨o+n≤k→D'.getD k 0=D.getD k 0

theorem aP.start (b x o n:Nat)(D:List Nat):aP b x o n n D D:=⟨rfl,fun i h1 h2=>by omega,fun _ _=>rfl⟩

theorem aP.set {b x o n t:Nat}{D D':List Nat}(h:aP b x o n (t+1) D D')(ht:t<n)(ho:o+n≤D.length):aP b x o n t D (D'.set (o+t) (x / b ^ (n - 1 - t) % b)):=by
 have hl:=h.len
 refine⟨by simp [h.len],fun i h1 h2=>?_,fun k hk=>?_⟩
 ·rw [List.getD,List.getElem?_set]
  by_cases e:i=t
  ·subst e;rw [if_pos rfl,if_pos (by omega)];rfl
  ·rw [if_neg (by omega)];exact h.digs i (by omega) h2
 ·rw [List.getD,List.getElem?_set,if_neg (by omega)]
  exact h.same k (by omega)

theorem fA (x b m d s:Nat)(hs:s<d):x / b ^ (m*d) % b ^ d / b ^ s % b=x / b ^ (m*d+s) % b:=by
 have e:b ^ d=b ^ s*b ^ (d - s):=by rw [←Nat.pow_add];congr 1;omega
 rw [e,Nat.mod_mul_right_div_self,Nat.div_div_eq_div_mul,←Nat.pow_add]
 have hd:b ∣ b ^ (d - s):=by
  obtain⟨k,hk⟩:∃k,d - s=k+1:=⟨d - s - 1,by omega⟩
  rw [hk,Nat.pow_succ];exact Nat.dvd_mul_left _ _
 rw [Nat.mod_mod_of_dvd _ hd]

def gG (b x o n gd:Nat)(D:List Nat)(w:World)(e:Ending)(w':World):Prop:=
 e=.returned (.tuple #[])∧∃D',Byt w' gd D'∧aP b x o n 0 D D'∧Fr gd w w'

theorem kH (gd o n cap b:Nat)(D:List Nat)(va:Value)(X:List Nat)(w:World)(hD:Byt w gd D)(ho:o+n≤D.length)(hn:n≤cap)(hcap:cap≤9223372036854775807)(hA:Arg w va X)(hl:X.length≤17592186044416)(hb:2≤b)(hb2:b≤36) :
  Calls Tryz.prog 90 #[.slice (some ⟨gd,o,none⟩) n cap,va,.int .i64 b] w (gG b (val X) o n gd D w):=by
 have HU:=jf b w hb hb2
 have HN:=cm va X w hA hl
 have hbz:((b:Int) == 0)=false:=by rw [beq_eq_false_iff_ne];omega
 have hgd:=hD.lt
 have HD:=ac hD
 have hX:=val_tr X
 generalize val X=x at *
 clear hA hD
 go_enter Tryz.func90,Tryz.ntmps90
 go_wp2_with fail
 refine HU.mono ?_
 rintro e wn ⟨d,p,rfl,hu,hw⟩;rw [hw];clear hw wn HU
 have hpf:=hu.fits
 have hp0:0<p:=by rw [hu.pow];exact Nat.pow_pos (by omega)
 have hd1:=hu.some
 have hd2:=hu.few
 have HP:=ac hu.pow
 clear hu
 go_wp2_with fail
 refine HN.mono ?_
 rintro e w1 ⟨⟨v1,rfl,A1⟩,hb1⟩
 have HA1:=ac A1
 have HB1:=ac hb1
 clear HN A1 hb1
 go_wp2
 go_loopw [1,8] (fun a t wr=>∃(m:Nat) (v:Value) (Y D':List Nat),v=a∧t=.int .i64 ((n:Int) - ((m*d:Nat):Int))∧(n:Int) - ((m*d:Nat):Int) > -64∧Ans wr w.heap.size v Y∧val Y=x / b ^ (m*d)∧Byt wr gd D'∧aP b x o n (n - m*d) D D'∧Fr gd w wr) (fun _ t _=>(intOf t).toNat)
 case atStart=>
  exact⟨0,v1,tr X,D,rfl,by simp,by omega,HA1.out,by simpa using hX,HD.out.below HB1.out hgd,by simpa using aP.start b x o n D,Fr.of_below HB1.out⟩
 case round=>
  obtain⟨m,v,Y,D',rfl,rfl,htb,hAns,hY,hByt,hW,hFr⟩:=hrel
  clear HA1 HB1
  by_cases hto:m*d<n
  ·obtain⟨T,hT1,hT2,hT3⟩:∃T:Nat,(n:Int) - ((m*d:Nat):Int)=(T:Int)∧n - m*d=T∧T≤n:=⟨n - m*d,by omega,rfl,by omega⟩
   rw [hT1]
   rw [hT2] at hW
   have hT0:(0:Int)<(T:Int):=by omega
   have HS:=my w.heap.size p v Y wr hAns hpf hp0
   rw [hY] at HS
   have HBy:=ac hByt
   have HWr:=ac hW
   have HFr:=ac hFr
   have HT:=ac (And.intro hT1 hT2)
   clear hAns hY hByt hW hFr hT1 hT2 htb hto
   go_wp2_with fail
   refine HS.mono ?_
   rintro e w2 ⟨v2,Y2,rfl,hA2,hY2,hb2'⟩
   have HA2:=ac hA2
   have HY2:=ac hY2
   have HBy2:=ac (HBy.out.below hb2' hgd)
   have HFr2:=ac (HFr.out.low hb2')
   have hrp:x / b ^ (m*d) % p<p:=Nat.mod_lt _ hp0
   obtain⟨r,hr⟩:∃r,x / b ^ (m*d) % p=r:=⟨_,rfl⟩
   rw [hr] at hrp
   rw [hr]
   have HR:=ac hr
   obtain⟨M,hM,hM2⟩:∃M:Nat,max ((T:Int) - (d:Int)) 0=(M:Int)∧M=T - d:=⟨T - d,by omega,rfl⟩
   clear HS hA2 hY2 hb2' hr HBy HFr
   go_wp2
   go_loopw [9,10] (fun lo i wr2=>∃(s L:Nat) (D2:List Nat),lo=.int .u64 L∧i=.int .i64 ((T:Int) - 1 - (s:Int))∧s≤d∧s≤T∧L=r / b ^ s∧Byt wr2 gd D2∧aP b x o n (T - s) D D2∧Fr gd w wr2∧Ans wr2 w.heap.size v2 Y2) (fun _ i _=>(intOf i+1).toNat)
   case atStart=>exact⟨0,r,D',rfl,by simp,by omega,by omega,by simp,HBy2.out,HWr.out,HFr2.out,HA2.out⟩
   case round=>
    obtain⟨s,L,D2,rfl,rfl,hs1,hs2,hL,hByt,hW,hFr,hAns⟩:=hrel
    clear HBy2 HFr2 HA2
    by_cases hc:s<d∧s<T
    ·obtain⟨j,hj1,hj2⟩:∃j:Nat,(T:Int) - 1 - (s:Int)=(j:Int)∧T - s=j+1:=⟨T - s - 1,by omega,by omega⟩
     rw [hj1]
     rw [hj2] at hW
     have hi:(M:Int)≤(j:Int):=by omega
     have hLr:L≤r:=by rw [hL];exact Nat.div_le_self _ _
     have hjn:j<n:=by have:=HT.out;omega
     have hdig:L % b=x / b ^ (n - 1 - j) % b:=by
      rw [hL,←HR.out,HP.out,fA x b m d s hc.1]
      congr 3
      have:=HT.out;omega
     have hq:L / b=r / b ^ (s+1):=by rw [hL,Nat.div_div_eq_div_mul,Nat.pow_succ]
     have hset:=hW.set hjn ho
     rw [←hdig] at hset
     have hg36:L % b<b:=Nat.mod_lt _ (by omega)
     have hqL:L / b≤L:=Nat.div_le_self _ _
     have em:(L:Int).tmod (b:Int)=((L % b:Nat):Int):=rfl
     have ed:(L:Int).tdiv (b:Int)=((L / b:Nat):Int):=rfl
     have HQ:=ac hq
     have HW2:=ac hset
     generalize L % b=g at *
     generalize L / b=q at *
     have eg:(g:Int) % 256=(g:Int):=by omega
     have hlen:=hW.len
     have hco:=hByt.cell (o+j) (by omega)
     have hfr:=hByt.free (o+j)
     generalize D2.getD (o+j) 0=old at *
     have HBy:=ac hByt
     have HFr:=ac hFr
     have HAn:=ac hAns
     have hj0:(0:Int)≤(j:Int):=by omega
     have hjn':(j:Int)<(n:Int):=by omega
     have hj3:T - (s+1)=j:=by omega
     have hj4:(j:Int) - 1=(T:Int) - 1 - ((s+1:Nat):Int):=by omega
     have HJ:=ac (And.intro hj3 hj4)
     clear hL hByt hW hFr hAns hset hdig hq hj1 hj2 hj3 hj4
     go_wp2
     go_roundw
     case rel=>
      refine⟨s+1,q,D2.set (o+j) g,by go_num,by rw [HJ.out.2],by omega,by omega,HQ.out,HBy.out.set _ _,?_,HFr.out.setCell _ _,HAn.out.apart5 _ _ _ hgd⟩
      rw [HJ.out.1];exact HW2.out
     case measure=>simp [intOf]
    ·have hi:¬((M:Int)≤(T:Int) - 1 - (s:Int)):=by omega
     have hts:T - s=T - d:=by omega
     rw [hts] at hW
     have HW3:=ac hW
     have HBy:=ac hByt
     have HFr:=ac hFr
     have HAn:=ac hAns
     have he:(m+1)*d=m*d+d:=Nat.succ_mul m d
     have ht1:(n:Int) - (((m+1)*d:Nat):Int)=(T:Int) - (d:Int):=by have:=HT.out.1;omega
     have ht2:n - (m+1)*d=T - d:=by have:=HT.out.2;omega
     have hval:val Y2=x / b ^ ((m+1)*d):=by rw [HY2.out,HP.out,Nat.div_div_eq_div_mul,←Nat.pow_add,he]
     have HE:=ac (And.intro ht1 (And.intro ht2 hval))
     have hgt:(T:Int) - (d:Int) > -64:=by omega
     clear hL hByt hW hFr hAns hval ht1 ht2 he hts
     go_wp2
     go_roundw
     case rel=>
      refine⟨m+1,v2,Y2,D2,rfl,by rw [HE.out.1],by rw [HE.out.1];exact hgt,HAn.out,HE.out.2.2,HBy.out,?_,HFr.out⟩
      rw [HE.out.2.1];exact HW3.out
     case measure=>simp [intOf];omega
  ·have hc:¬((n:Int) - ((m*d:Nat):Int) > 0):=by omega
   have hz:n - m*d=0:=by omega
   rw [hz] at hW
   have HE:=ac (And.intro hByt (And.intro hW hFr))
   generalize (n:Int) - ((m*d:Nat):Int)=t at *
   have hc2:¬((0:Int)<t):=by omega
   clear hAns hByt hW hFr hto hY
   go_wp2
   go_end0
   exact⟨rfl,D',HE.out⟩

def fig (d:Nat):Nat:=[48,49,50,51,52,53,54,55,56,57,97,98,99,100,101,102,103,104,105,106,107,108,109,110,111,112,113,114,115,116,117,118,119,120,121,122].getD d 0

theorem gA (d:Nat):fig d<128:=by
 rcases Nat.lt_or_ge d 36 with h|h
 ·have:∀d:Fin 36,fig d.1<128:=by decide +kernel
  exact this ⟨d,h⟩
 ·unfold fig;rw [List.getD,List.getElem?_eq_none (by simpa using h)];decide

theorem ll (d:Nat)(h:d<(ByteArray.mk #[48,49,50,51,52,53,54,55,56,57,97,98,99,100,101,102,103,104,105,106,107,108,109,110,111,112,113,114,115,116,117,118,119,120,121,122]).size):(ByteArray.mk #[48,49,50,51,52,53,54,55,56,57,97,98,99,100,101,102,103,104,105,106,107,108,109,110,111,112,113,114,115,116,117,118,119,120,121,122])[d].toNat=fig d:=by
 have key:∀d:Fin 36,((ByteArray.mk #[48,49,50,51,52,53,54,55,56,57,97,98,99,100,101,102,103,104,105,106,107,108,109,110,111,112,113,114,115,116,117,118,119,120,121,122])[d.1]'(d.2)).toNat=fig d.1:=by decide +kernel
 exact key ⟨d,h⟩

def aB (L:List Nat):ByteArray:=L.foldl (fun r n=>r.push (UInt8.ofNat n)) ByteArray.empty

theorem fq (L:List Nat):∀r:ByteArray,((L.map fun n=>((n:Nat):Int)).foldl (fun r n=>r.push (UInt8.ofNat n.toNat)) r)=L.foldl (fun r n=>r.push (UInt8.ofNat n)) r:=by
 induction L with
 | nil=>intro r;rfl
 | cons a l ih=>intro r;simp only [List.map_cons,List.foldl_cons,Int.toNat_natCast];exact ih _

theorem mw (gd cap:Nat)(D:List Nat)(w:World)(hd:Byt w gd D) :
  (convert 92 9 (.slice (some ⟨gd,0,none⟩) D.length cap)).run Tryz.prog w=.ok (.string (aB D)) w:=by
 rw [run_convert_bytes_string w 92 9 5 _ _ _ Tryz.underlying92 Tryz.underlying5 Tryz.underlying9]
 rw [run_bytesToString w _ D.length cap (D.map fun n=>((n:Nat):Int)) ?_,fq]
 ·rfl
 ·have h:=run_loadCells_list (P:=Tryz.prog) (w:=w) ⟨gd,0,none⟩ (D.map bv) (fun j v hj=>by
   rw [List.getElem?_map] at hj
   rcases hh:D[j]? with _|z
   ·rw [hh] at hj;cases hj
   ·rw [hh] at hj
    have hjl:j<D.length:=by
     rcases Nat.lt_or_ge j D.length with h|h
     ·exact h
     ·rw [List.getElem?_eq_none h] at hh;cases hh
    have:=hd.cell j hjl
    have e:D.getD j 0=z:=by rw [List.getD,hh];rfl
    rw [e] at this
    simp only [Option.map_some,Option.some.injEq] at hj
    rw [←hj]
    by_cases h0:j=0
    ·subst h0;simpa [Addr.add,bv] using this
    ·simpa [Addr.add,bv,h0] using this)
  rw [List.length_map] at h
  rw [h,List.map_map]
  rfl

theorem kK (gd cap:Nat)(D:List Nat)(w:World)(hd:Byt w gd D)(h36:∀d ∈ D,d<36)(hc:D.length≤cap)(hcm:cap≤9223372036854775807) :
  Calls Tryz.prog 72 #[.slice (some ⟨gd,0,none⟩) D.length cap] w fun e w'=>e=.returned (.string (aB (D.map fig)))∧Fr gd w w':=by
 have HD:=ac hd
 clear hd
 go_enter Tryz.func72,Tryz.ntmps72
 go_wp2
 go_loopw [7] (fun i wr=>∃(k:Nat) (D':List Nat),k≤D.length∧i=.int .i64 k∧Byt wr gd D'∧D'=(D.take k).map fig ++ D.drop k∧Fr gd w wr) (fun i _=>D.length - (intOf i).toNat)
 case atStart=>exact⟨0,D,Nat.zero_le _,rfl,HD.out,by simp,Fr.refl _ _⟩
 case round=>
  obtain⟨k,D',hk,rfl,hB,hD',hF⟩:=hrel
  clear HD
  have hlen:D'.length=D.length:=by rw [hD'];simp;omega
  by_cases hkl:k<D.length
  ·have e1:D.drop k=D.getD k 0 :: D.drop (k+1):=by
    rw [List.drop_eq_getElem_cons hkl,List.getD,List.getElem?_eq_getElem hkl];rfl
   have e2:D'.getD k 0=D.getD k 0:=by
    rw [hD',List.getD,List.getElem?_append_right (by simp;omega)]
    simp [e1,Nat.min_eq_left (Nat.le_of_lt hkl)]
   have hset:D'.set k (fig (D.getD k 0))=(D.take (k+1)).map fig ++ D.drop (k+1):=by
    have hA:((D.take k).map fig).length=k:=by simp;omega
    have e3:D.take (k+1)=D.take k ++ [D.getD k 0]:=by rw [List.take_add_one,List.getD,List.getElem?_eq_getElem hkl];rfl
    rw [hD',List.set_append_right _ _ (by omega),hA,Nat.sub_self,e1,List.set_cons_zero,e3,List.map_append,List.append_assoc]
    rfl
   have h36k:D.getD k 0<36:=h36 _ (by rw [List.getD,List.getElem?_eq_getElem hkl];exact List.getElem_mem _)
   have hco:=hB.cell k (by omega)
   have hfr:=hB.free k
   rw [e2] at hco
   have hfl:=gA (D.getD k 0)
   have hfa:=ll (D.getD k 0) h36k
   have HS:=ac hset
   have HB:=ac hB
   have HF:=ac hF
   generalize D.getD k 0=d at *
   clear hB hF hset hD' e1 e2
   go_wp2
   go_roundw
   case rel=>exact⟨k+1,D'.set k (fig d),by omega,by go_num,HB.out.set _ _,HS.out,HF.out.setCell _ _⟩
   case measure=>simp [intOf];omega
  ·have ek:k=D.length:=by omega
   subst ek
   have e1:D'=D.map fig:=by rw [hD'];simp
   subst e1
   have HC:=mw gd cap _ wr hB
   rw [List.length_map] at HC
   have HF:=ac hF
   clear hB hF hD'
   go_wp2
   go_ret
   exact⟨rfl,HF.out⟩

theorem f8 (b:Nat)(h1:2≤b)(h2:b≤36):∃t,aK b t∧t≤5:=by
 have key:∀x:Fin 37,2≤x.1→∃t:Fin 6,x.1 % 2 ^ t.1=0∧x.1 / 2 ^ t.1 % 2=1:=by decide +kernel
 obtain⟨t,h3,h4⟩:=key ⟨b,by omega⟩ h1
 exact⟨t.1,⟨h3,h4⟩,by omega⟩

theorem tzb (b t:Nat)(w:World)(hb:b≤36)(h:aK b t)(hT:Tab w):Calls Tryz.prog 108 #[.int .u64 b] w fun e w'=>e=.returned (.int .i64 t)∧w'=w:=by
 have H:=g9 b t w (by omega) h hT
 clear hT h
 go_enter Tryz.func108,Tryz.ntmps108
 go_wp2_with fail
 refine H.mono ?_
 rintro e wn ⟨rfl,hw⟩;rw [hw];clear hw wn H
 go_wp2
 go_ret
 exact⟨rfl,rfl⟩

theorem mE {a L t:Nat}(h1:2 ^ (L - 1)≤a)(h2:a<2 ^ L)(hL:1≤L)(ht:1≤t):aF (2 ^ t) a ((L+t - 1) / t):=by
 have d:=Nat.div_add_mod (L+t - 1) t
 have m:=Nat.mod_lt (L+t - 1) (show 0<t by omega)
 obtain⟨n,hn⟩:∃n,(L+t - 1) / t=n:=⟨_,rfl⟩
 rw [hn] at d ⊢
 have hn1:1≤n:=by
  rcases Nat.eq_zero_or_pos n with h|h
  ·rw [h] at d;omega
  ·exact h
 obtain⟨k,rfl⟩:∃k,n=k+1:=⟨n - 1,by omega⟩
 rw [Nat.mul_succ] at d
 refine⟨by omega,?_,.inr ?_⟩
 ·rw [←Nat.pow_mul,Nat.mul_succ]
  exact Nat.lt_of_lt_of_le h2 (Nat.pow_le_pow_right (by omega) (by omega))
 ·rw [←Nat.pow_mul,Nat.add_sub_cancel]
  exact Nat.le_trans (Nat.pow_le_pow_right (by omega) (by omega)) h1

def fj (b a:Nat)(w:World)(e:Ending)(w':World):Prop:=∃n:Nat,e=.returned (.int .i64 n)∧aF b a n∧Below w.heap.size w w'

theorem j7 (va:Value)(X:List Nat)(b:Nat)(w:World)(hA:Arg w va X)(hT:Tab w)(hb:2≤b)(hb2:b≤36)
  (HE:64<blen (val X)→Calls Tryz.prog 111 #[va,.int .u64 b] w fun e w'=>∃n:Nat,e=.returned (.int .i64 n)∧b ^ n≤val X∧val X<b ^ (n+1)∧n≤1152921504606846976∧Below w.heap.size w w') :
  Calls Tryz.prog 86 #[va,.int .i64 b] w (fj b (val X) w):=by
 obtain⟨t,htl,ht5⟩:=f8 b hb hb2
 have L1:=aC va X w hA
 have T1:=tzb b t w hb2 htl hT
 have S1:=iW va X w hA
 have hfew:blen (val X)≤64*X.length:=(blen_le_iff _ _).2 (by rw [Nat.pow_mul];exact val_lt hA.limbs)
 have hXl:=hA.few
 obtain⟨L,hL⟩:∃L,blen (val X)=L:=⟨_,rfl⟩
 have hup:val X<2 ^ L:=(blen_le_iff _ _).1 (by omega)
 rw [hL] at L1 HE hfew
 by_cases hs:L≤64
 ·have hv64:val X<18446744073709551616:=Nat.lt_of_lt_of_le hup (Nat.pow_le_pow_right (n:=2) (by omega) hs)
  have ht:(tr X).length≤1:=aE X 1 (by rw [Nat.pow_one];exact hv64)
  rw [if_pos ht,decide_eq_true ht] at S1
  have hg:(tr X).getD 0 0=val X:=by
   have h2:=val_tr X
   match h:tr X,ht,h2 with
   | [],_,h2=>simpa [val] using h2
   | [a],_,h2=>simpa [val] using h2
   | a :: b :: c,h1,_=>simp at h1
  rw [hg] at S1
  have C1:=lI (val X) b w hb hb2 hv64
  have hs':(L:Int)≤64:=by omega
  clear hA hT ht hg HE hup hL
  generalize val X=x at *
  go_enter Tryz.func86,Tryz.ntmps86
  go_wp2_with fail
  refine L1.mono ?_
  rintro e wn ⟨rfl,hw⟩;rw [hw];clear hw wn L1
  go_wp2_with fail
  refine T1.mono ?_
  rintro e wn ⟨rfl,hw⟩;rw [hw];clear hw wn T1
  go_wp2_with fail
  refine S1.mono ?_
  rintro e wn ⟨rfl,hw⟩;rw [hw];clear hw wn S1
  go_wp2_with fail
  refine C1.mono ?_
  rintro e wn ⟨n,rfl,hn,hw⟩;rw [hw];clear hw wn C1
  have HN:=ac hn
  clear hn
  go_wp2
  go_ret
  exact⟨n,rfl,HN.out,Below.refl _ _⟩
 ·have hs':¬((L:Int)≤64):=by omega
  have hlo:2 ^ (L - 1)≤val X:=by
   rcases Nat.lt_or_ge (val X) (2 ^ (L - 1)) with h|h
   ·have:=(blen_le_iff _ _).2 h;omega
   ·exact h
  have hp:2 ^ t≤32:=Nat.pow_le_pow_right (n:=2) (j:=5) (by omega) ht5
  have h2t:(2:Int) ^ t=((2 ^ t:Nat):Int):=by simp
  have t64:t<64:=by omega
  by_cases hbt:b=2 ^ t
  ·have ht1:1≤t:=by
    rcases Nat.eq_zero_or_pos t with h|h
    ·subst h;simp at hbt;omega
    ·exact h
   have hd:=mE hlo hup (by omega) ht1
   rw [←hbt] at hd h2t hp
   have HN:=ac hd
   obtain⟨q,hq,hqi⟩:∃q:Nat,(L+t - 1) / t=q∧((L+t - 1:Nat):Int).tdiv (t:Int)=(q:Int):=⟨(L+t - 1) / t,rfl,rfl⟩
   have e1:(L:Int)+(t:Int) - 1=((L+t - 1:Nat):Int):=by omega
   have hql:q≤L+t - 1:=by rw [←hq];exact Nat.div_le_self _ _
   have htz:((t:Int) == 0)=false:=by rw [beq_eq_false_iff_ne];omega
   have HQ:=ac hq
   clear hA hT HE hup hL hlo hd hbt htl S1 hq
   generalize L+t - 1=L' at *
   generalize val X=x at *
   go_enter Tryz.func86,Tryz.ntmps86
   go_wp2_with fail
   refine L1.mono ?_
   rintro e wn ⟨rfl,hw⟩;rw [hw];clear hw wn L1
   go_wp2_with fail
   refine T1.mono ?_
   rintro e wn ⟨rfl,hw⟩;rw [hw];clear hw wn T1
   go_wp2
   go_ret
   exact⟨q,rfl,by have:=HN.out;rw [HQ.out] at this;exact this,Below.refl _ _⟩
  ·have hne:¬((b:Int)=((2 ^ t:Nat):Int)):=by omega
   have hnb:((b:Int) == ((2 ^ t:Nat):Int))=false:=by rw [beq_eq_false_iff_ne];exact hne
   have HX:=HE (by omega)
   clear hA hT HE hup hL hlo htl S1
   generalize val X=x at *
   generalize 2 ^ t=tp at *
   go_enter Tryz.func86,Tryz.ntmps86
   go_wp2_with fail
   refine L1.mono ?_
   rintro e wn ⟨rfl,hw⟩;rw [hw];clear hw wn L1
   go_wp2_with fail
   refine T1.mono ?_
   rintro e wn ⟨rfl,hw⟩;rw [hw];clear hw wn T1
   go_wp2_with fail
   refine HX.mono ?_
   rintro e w2 ⟨n,rfl,hn1,hn2,hn3,hb2'⟩
   have HN:=ac (And.intro hn1 (And.intro hn2 hb2'))
   clear hn1 hn2 hb2' HX
   go_wp2
   go_ret
   exact⟨n+1,by simp,⟨by omega,HN.out.2.1,.inr (by rw [Nat.add_sub_cancel];exact HN.out.1)⟩,HN.out.2.2⟩

def dw (b a:Nat)(w:World)(e:Ending)(w':World):Prop:=
 ∃(gd:Nat) (D:List Nat),e=.returned (.slice (some ⟨gd,0,none⟩) D.length D.length)∧w.heap.size≤gd∧Byt w' gd D∧aF b a D.length∧D.length≤9223372036854775807∧(∀i,i<D.length→D.getD i 0=a / b ^ (D.length - 1 - i) % b)∧Below w.heap.size w w'

theorem dw.small {b a:Nat}{D:List Nat}(hb:0<b)(hb2:b≤36)(h:∀i,i<D.length→D.getD i 0=a / b ^ (D.length - 1 - i) % b):∀d ∈ D,d<36:=by
 intro d hd
 obtain⟨i,hi,rfl⟩:=List.getElem_of_mem hd
 have h1:=h i hi
 rw [List.getD,List.getElem?_eq_getElem hi] at h1
 have h2:a / b ^ (D.length - 1 - i) % b<b:=Nat.mod_lt _ hb
 have h3:D[i]=a / b ^ (D.length - 1 - i) % b:=h1
 omega

def mt (b a:Nat)(w:World)(e:Ending)(w':World):Prop:=
 ∃D:List Nat,e=.returned (.tuple #[.string (aB (D.map fig)),.int .i64 0])∧aF b a D.length∧(∀i,i<D.length→D.getD i 0=a / b ^ (D.length - 1 - i) % b)∧Below w.heap.size w w'

theorem ez (va:Value)(a b:Nat)(w:World)(hb:2≤b)(hb2:b≤36)(HW:Calls Tryz.prog 73 #[va,.int .i64 b] w (dw b a w)) :
  Calls Tryz.prog 48 #[va,.int .i64 b] w (mt b a w):=by
 have HI:=je b w hb hb2
 go_enter Tryz.func48,Tryz.ntmps48
 go_wp2_with fail
 refine HI.mono ?_
 rintro e wn ⟨rfl,hw⟩;rw [hw];clear hw wn HI
 go_wp2_with fail
 refine HW.mono ?_
 rintro e w1 ⟨g,D,rfl,hg,hd,hn,hm,hdig,hbe⟩
 have HT:=kK g D.length D w1 hd (dw.small (by omega) hb2 hdig) (Nat.le_refl _) hm
 have hgl:=hd.lt
 have HB:=ac hbe
 have HE:=ac (And.intro hn hdig)
 clear HW hd hbe hn hdig
 go_wp2_with fail
 refine HT.mono ?_
 rintro e w2 ⟨rfl,hf⟩
 have HB2:=ac (HB.out.trans (hf.below (base:=w.heap.size) hg (by have:=HB.out.size;omega)))
 clear HT hf
 go_wp2
 go_returns
 exact⟨D,rfl,HE.out.1,HE.out.2,HB2.out⟩
end Go.Proofs.YtplegacjglaenaaGreatDoor
namespace Go.Proofs.YtplegacjglaenaaGreatDoor
open Go.RowKit
open Lm

def digs (b:Nat):Nat→Nat→List Nat
 | 0,_=>[]
 | n+1,x=>x / b ^ n % b :: digs b n x

theorem bW (b n x:Nat):(digs b n x).length=n:=by
 induction n with
 | zero=>rfl
 | succ n ih=>simp [digs,ih]

theorem mH (b n x:Nat):∀i,i<n→(digs b n x).getD i 0=x / b ^ (n - 1 - i) % b:=by
 induction n with
 | zero=>intro i h;omega
 | succ n ih=>
  intro i h
  cases i with
  | zero=>simp [digs]
  | succ i=>
   rw [show n+1 - 1 - (i+1)=n - 1 - i by omega]
   simpa [digs] using ih i (by omega)

theorem eP {b n x:Nat}{D:List Nat}(hl:D.length=n)(h:∀i,i<D.length→D.getD i 0=x / b ^ (D.length - 1 - i) % b):D=digs b n x:=by
 apply List.ext_getElem?
 intro i
 rcases Nat.lt_or_ge i n with hi|hi
 ·have h1:=h i (by omega)
  have h2:=mH b n x i hi
  rw [hl] at h1
  have e1:D.getD i 0=D[i]:=by simp [List.getD,show i<D.length by omega]
  have e2:(digs b n x).getD i 0=(digs b n x)[i]'(by rw [bW];omega):=by simp [List.getD,show i<(digs b n x).length by rw [bW];omega]
  rw [List.getElem?_eq_getElem (by omega),List.getElem?_eq_getElem (by rw [bW];omega),←e1,←e2,h1,h2]
 ·rw [List.getElem?_eq_none (by omega),List.getElem?_eq_none (by rw [bW];omega)]

def sgn (d:Nat):UInt8:=UInt8.ofNat (fig d)

theorem ii (L:List Nat):∀r:ByteArray,(L.foldl (fun r n=>r.push (UInt8.ofNat n)) r).data.toList=r.data.toList ++ L.map UInt8.ofNat:=by
 induction L with
 | nil=>intro r;simp
 | cons a l ih=>intro r;rw [List.foldl_cons,ih];simp [ByteArray.push]

theorem gF (L:List Nat):(aB (L.map fig)).data.toList=L.map sgn:=by
 rw [aB,ii,List.map_map]
 rfl
end Go.Proofs.YtplegacjglaenaaGreatDoor

