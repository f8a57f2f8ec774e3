/- Plain facts: two sizes held against each other from the top down. -/
import Derived.Test.YtkfbobefkbpdoaaGreatDoorB03
import Derived.Test.YtkfbobefkbpdoaaGreatDoorB05
import Derived.Test.YtkfbobefkbpdoaaGreatDoorB01
import Derived.Test.YtkfbobefkbpdoaaGreatDoorB02
set_option maxRecDepth 20000
set_option maxHeartbeats 4000000
namespace Go.Proofs.YtkfbobefkbpdoaaGreatDoor
open Go.RowKit
open Lm

theorem iE (x:Nat)(n:Int):fl x (n+64) / 18446744073709551616=fl x n:=by
 obtain⟨p,hp⟩:∃p:Nat,0≤(p:Int) - n - 64:=⟨(n+64).toNat,by omega⟩
 rw [fl_quo x (n+64) p (by omega),fl_quo x n p (by omega),Nat.div_div_eq_div_mul,show (18446744073709551616:Nat)=2 ^ 64 from rfl,←Nat.pow_add]
 congr 2
 omega

theorem jt {x y:Nat}{n m:Int}(h:fl x n=fl y m):cmpN (fl x (n+64)) (fl y (m+64))=cmpN (fl x (n+64) % 18446744073709551616) (fl y (m+64) % 18446744073709551616):=by
 have h1:=iE x n
 have h2:=iE y m
 rw [←h] at h2
 generalize fl x (n+64)=a at *
 generalize fl y (m+64)=b at *
 have e1:=Nat.div_add_mod a 18446744073709551616
 have e2:=Nat.div_add_mod b 18446744073709551616
 rw [h1] at e1
 rw [h2] at e2
 generalize fl x n=q at *
 rcases Nat.lt_trichotomy a b with hl|hl|hl
 ·rw [cmpN_lt hl,cmpN_lt (by omega)]
 ·rw [hl,cmpN_self,cmpN_self]
 ·rw [cmpN_gt hl,cmpN_gt (by omega)]

theorem le {x y:Nat}{n m:Int}{d:Nat}{p q:Nat}(hp:(p:Int)=d+n)(hq:(q:Int)=d+m)(h:fl x n<fl y m):x*2 ^ p<y*2 ^ q:=by
 rw [fl_quo x n p (by omega),fl_quo y m q (by omega),show ((p:Int) - n).toNat=d by omega,show ((q:Int) - m).toNat=d by omega] at h
 refine Nat.lt_of_not_le fun hle=>?_
 have:=Nat.div_le_div_right (c:=2 ^ d) hle
 omega

theorem rR {x y:Nat}{n m:Int}{d:Nat}{p q:Nat}(hp:(p:Int)=d+n)(hq:(q:Int)=d+m)(hn:0≤n)(hm:0≤m)(h:fl x n=fl y m):x*2 ^ p=y*2 ^ q:=by
 have e1:fl x n=x*2 ^ n.toNat:=by unfold fl;rw [if_pos hn]
 have e2:fl y m=y*2 ^ m.toNat:=by unfold fl;rw [if_pos hm]
 rw [e1,e2] at h
 rw [show p=n.toNat+d by omega,show q=m.toNat+d by omega,Nat.pow_add,Nat.pow_add,←Nat.mul_assoc,←Nat.mul_assoc,h]

theorem jp {x y p q:Nat}(hy:y≠0)(h:p+blen x<q+blen y):x*2 ^ p<y*2 ^ q:=by
 have h1:=(blen_le_iff x (blen x)).1 (Nat.le_refl _)
 have hb0:blen y≠0:=fun h0=>hy ((eu _).1 h0)
 have h2:¬y<2 ^ (blen y - 1):=fun hh=>by have:=(blen_le_iff y (blen y - 1)).2 hh;omega
 have h3:x*2 ^ p<2 ^ blen x*2 ^ p:=(Nat.mul_lt_mul_right (Nat.two_pow_pos p)).2 h1
 have h4:2 ^ (blen y - 1)*2 ^ q≤y*2 ^ q:=Nat.mul_le_mul_right _ (by omega)
 have h5:2 ^ blen x*2 ^ p≤2 ^ (blen y - 1)*2 ^ q:=by
  rw [←Nat.pow_add,←Nat.pow_add];exact Nat.pow_le_pow_right (by omega) (by omega)
 omega

theorem kU (a b:Nat):(cmpN a b=-1 ↔ a<b)∧(cmpN a b=1 ↔ b<a)∧(cmpN a b=0 ↔ a=b):=by
 rcases cmpN_range a b with h|h|h <;> omega

theorem jF (x:Nat):fl x (-((blen x:Nat):Int))=0:=by
 rw [fl_down]
 exact Nat.div_eq_of_lt ((blen_le_iff x _).1 (Nat.le_refl _))

theorem kR {x y:Nat}{n m:Int}{d p q:Nat}(hp:(p:Int)=d+n)(hq:(q:Int)=d+m)(h:fl x n≠fl y m):cmpN (x*2 ^ p) (y*2 ^ q)=cmpN (fl x n) (fl y m):=by
 rcases Nat.lt_trichotomy (fl x n) (fl y m) with h1|h1|h1
 ·rw [cmpN_lt h1,cmpN_lt (le hp hq h1)]
 ·exact absurd h1 h
 ·rw [cmpN_gt h1,cmpN_gt (le hq hp h1)]
end Go.Proofs.YtkfbobefkbpdoaaGreatDoor
namespace Go.Proofs.YtkfbobefkbpdoaaGreatDoor
open Go.RowKit
open Lm
attribute [local go_sem ↓] Go.wp_at_zero Go.wp_at_succ

theorem km (x y:Int)(w:World):Calls Tryz.prog 112 #[.int .i64 x,.int .i64 y] w fun e w'=>e=.returned (.int .i64 (am x y))∧w'=w:=by
 unfold am
 by_cases h1:x<y
 ·rw [if_pos h1]
  go_enter Tryz.func112,Tryz.ntmps112
  go_wp2
  go_ret
  exact⟨rfl,rfl⟩
 ·rw [if_neg h1]
  by_cases h2:y<x
  ·rw [if_pos h2]
   go_enter Tryz.func112,Tryz.ntmps112
   go_wp2
   go_ret
   exact⟨rfl,rfl⟩
  ·rw [if_neg h2]
   go_enter Tryz.func112,Tryz.ntmps112
   go_wp2
   go_ret
   exact⟨rfl,rfl⟩

theorem oL {x y p q:Nat}{E1 E2:Int}{L:Nat}(hx:x≠0)(hy:y≠0)(hp:(p:Int)=E1+L)(hq:(q:Int)=E2+L) :
  (am (E1+(blen x:Int) - 1) (E2+(blen y:Int) - 1)≠0→am (E1+(blen x:Int) - 1) (E2+(blen y:Int) - 1)=cmpN (x*2 ^ p) (y*2 ^ q))∧(am (E1+(blen x:Int) - 1) (E2+(blen y:Int) - 1)=0→E1+(blen x:Int)=E2+(blen y:Int)):=by
 unfold am
 by_cases h1:E1+(blen x:Int) - 1<E2+(blen y:Int) - 1
 ·rw [if_pos h1,cmpN_lt (jp hy (by omega))]
  exact⟨fun _=>rfl,fun h=>by omega⟩
 ·rw [if_neg h1]
  by_cases h2:E2+(blen y:Int) - 1<E1+(blen x:Int) - 1
  ·rw [if_pos h2,cmpN_gt (jp hx (by omega))]
   exact⟨fun _=>rfl,fun h=>by omega⟩
  ·rw [if_neg h2]
   exact⟨fun h=>absurd rfl h,fun _=>by omega⟩

theorem qo (b1:Bool)(a1:Option Addr)(c1:Nat)(X:List Nat)(E1:Int)(b2:Bool)(a2:Option Addr)(c2:Nat)(Y:List Nat)(E2:Int)(L p q:Nat)(w:World)(h1:Arg w (.slice a1 X.length c1) X)(h2:Arg w (.slice a2 Y.length c2) Y)(hx:val X≠0)(hy:val Y≠0)(f1:X.length≤17592186044416)(f2:Y.length≤17592186044416)(he1:-1152921504606846976≤E1)(he2:E1≤1152921504606846976)(he3:-1152921504606846976≤E2)(he4:E2≤1152921504606846976)(hL:4611686018427387904≤L)(hp:(p:Int)=E1+L)(hq:(q:Int)=E2+L) :
  Calls Tryz.prog 113 #[.agg #[.bool b1,.slice a1 X.length c1,.int .i64 E1],.agg #[.bool b2,.slice a2 Y.length c2,.int .i64 E2]] w fun e w'=>e=.returned (.int .i64 (cmpN (val X*2 ^ p) (val Y*2 ^ q)))∧Below w.heap.size w w':=by
 obtain⟨w0,hw0,hb0,k0,k1⟩:=al w (.cells #[.bool b1,.slice a1 X.length c1,.int .i64 E1] 125) (.cells #[.bool b2,.slice a2 Y.length c2,.int .i64 E2] 125)
 have HK0:=ab k0
 have HK1:=ab k1
 have HB:=ab hb0
 have HA1:=ab h1
 have HA2:=ab h2
 have htc:=oL hx hy hp hq
 have hlx:=bO h1.limbs
 have hly:=bO h2.limbs
 have hfx:=jF (val X)
 have hfy:=jF (val Y)
 have T1:=ab (fun (W:World) (hg:Below w.heap.size w W)=>iy b1 a1 c1 X E1 W (h1.below hg) (by omega) (by omega))
 have T2:=ab (fun (W:World) (hg:Below w.heap.size w W)=>iy b2 a2 c2 Y E2 W (h2.below hg) (by omega) (by omega))
 have LL1:=ab (fun (W:World) (hg:Below w.heap.size w W)=>dP b1 a1 c1 X W (h1.below hg))
 have LL2:=ab (fun (W:World) (hg:Below w.heap.size w W)=>dP b2 a2 c2 Y W (h2.below hg))
 have hlb:blen (val X)≤1125899906842624∧blen (val Y)≤1125899906842624:=by omega
 generalize blen (val X)=lx at *
 generalize blen (val Y)=ly at *
 generalize hc0:am (E1+(lx:Int) - 1) (E2+(ly:Int) - 1)=o0 at *
 have HC0:=ab hc0
 have HTC:=ab htc
 have HLB:=ab hlb
 have HFX:=ab (And.intro hfx hfy)
 have HPQ:=ab (And.intro hp (And.intro hq hL))
 clear k0 k1 hb0 h1 h2 htc hlx hly hfx hfy hc0 hlb hp hq
 have gd0:Below w.heap.size w w0.drew:=HB.out.drew
 have g0:Below w0.drew.heap.size w0.drew w0.drew:=Below.refl _ _
 have KS:=ab (fun (W:World) (hg:Below w0.drew.heap.size w0.drew W)=>show W.cell? ⟨w.heap.size,0,none⟩=some (.bool b1)∧W.cell? ⟨w.heap.size,1,none⟩=some (.slice a1 X.length c1)∧W.cell? ⟨w.heap.size,2,none⟩=some (.int .i64 E1)∧W.cell? ⟨w.heap.size+1,0,none⟩=some (.bool b2)∧W.cell? ⟨w.heap.size+1,1,none⟩=some (.slice a2 Y.length c2)∧W.cell? ⟨w.heap.size+1,2,none⟩=some (.int .i64 E2) from by
  obtain⟨y0,y1,y2⟩:=tri8 (ac hg (show w0.drew.heap[w.heap.size]?=some (.cells #[.bool b1,.slice a1 X.length c1,.int .i64 E1] 125) from HK0.out))
  obtain⟨y3,y4,y5⟩:=tri8 (ac hg (show w0.drew.heap[w.heap.size+1]?=some (.cells #[.bool b2,.slice a2 Y.length c2,.int .i64 E2] 125) from HK1.out))
  exact⟨y0,y1,y2,y3,y4,y5⟩)
 have U1:=T1.out w0.drew gd0
 have U2:=ab (fun (W:World) (hg:Below w0.drew.heap.size w0.drew W)=>T2.out W (ae gd0 hg))
 obtain⟨y0,y1,y2,y3,y4,y5⟩:=KS.out _ g0
 generalize E1+(lx:Int) - 1=tp1 at *
 generalize E2+(ly:Int) - 1=tp2 at *
 go_enter Tryz.func113,Tryz.ntmps113
 go_wp2
 go_region_held3 (fun w'=>w'.cell? ⟨w.heap.size,0,none⟩=some (.bool b1)∧w'.cell? ⟨w.heap.size,1,none⟩=some (.slice a1 X.length c1)∧w'.cell? ⟨w.heap.size,2,none⟩=some (.int .i64 E1)∧w'.cell? ⟨w.heap.size+1,0,none⟩=some (.bool b2)∧w'.cell? ⟨w.heap.size+1,1,none⟩=some (.slice a2 Y.length c2)∧w'.cell? ⟨w.heap.size+1,2,none⟩=some (.int .i64 E2)) (first|with_reducible exact KS.out _ g2|with_reducible exact KS.out _ g1|with_reducible exact KS.out _ g0) (first
  | (go_at_call_of 104 a1;refine U1.mono ?_;rintro e' t1 ⟨rfl,g1⟩)
  | (go_at_call_of 104 a2;refine (U2.out t1 g1).mono ?_;rintro e' t2 ⟨rfl,hb2⟩;have g2:=ae g1 hb2)
  | (go_at_call 112;refine (km tp1 tp2 t2).mono ?_;rintro e' wn ⟨rfl,hw⟩;rw [hw,HC0.out];clear hw wn))
 have G2:=ae gd0 g2
 have HQ0:=ab (ac g2 (show w0.drew.heap[w.heap.size]?=some (.cells #[.bool b1,.slice a1 X.length c1,.int .i64 E1] 125) from HK0.out))
 have HQ1:=ab (ac g2 (show w0.drew.heap[w.heap.size+1]?=some (.cells #[.bool b2,.slice a2 Y.length c2,.int .i64 E2] 125) from HK1.out))
 have HG2:=ab G2
 clear g0 g1 g2 hb2 gd0 KS U1 U2 T1 T2 y0 y1 y2 y3 y4 y5 G2
 have gd0:Below w.heap.size w t2.drew:=HG2.out.drew
 have g0:Below t2.drew.heap.size t2.drew t2.drew:=Below.refl _ _
 have KS:=ab (fun (W:World) (hg:Below t2.drew.heap.size t2.drew W)=>show W.cell? ⟨w.heap.size,0,none⟩=some (.bool b1)∧W.cell? ⟨w.heap.size,1,none⟩=some (.slice a1 X.length c1)∧W.cell? ⟨w.heap.size+1,0,none⟩=some (.bool b2)∧W.cell? ⟨w.heap.size+1,1,none⟩=some (.slice a2 Y.length c2) from by
  obtain⟨y0,y1,y2⟩:=tri8 (ac hg (show t2.drew.heap[w.heap.size]?=some (.cells #[.bool b1,.slice a1 X.length c1,.int .i64 E1] 125) from HQ0.out))
  obtain⟨y3,y4,y5⟩:=tri8 (ac hg (show t2.drew.heap[w.heap.size+1]?=some (.cells #[.bool b2,.slice a2 Y.length c2,.int .i64 E2] 125) from HQ1.out))
  exact⟨y0,y1,y3,y4⟩)
 have U1:=LL1.out t2.drew gd0
 have U2:=ab (fun (W:World) (hg:Below t2.drew.heap.size t2.drew W)=>LL2.out W (ae gd0 hg))
 obtain⟨y0,y1,y3,y4⟩:=KS.out _ g0
 go_wp2
 go_region_held3 (fun w'=>w'.cell? ⟨w.heap.size,0,none⟩=some (.bool b1)∧w'.cell? ⟨w.heap.size,1,none⟩=some (.slice a1 X.length c1)∧w'.cell? ⟨w.heap.size+1,0,none⟩=some (.bool b2)∧w'.cell? ⟨w.heap.size+1,1,none⟩=some (.slice a2 Y.length c2)) (first|with_reducible exact KS.out _ g2|with_reducible exact KS.out _ g1|with_reducible exact KS.out _ g0) (first
  | (go_at_call_of 103 a1;refine U1.mono ?_;rintro e' t3 ⟨rfl,g1⟩)
  | (go_at_call_of 103 a2;refine (U2.out t3 g1).mono ?_;rintro e' t4 ⟨rfl,hb2⟩;have g2:=ae g1 hb2))
 have HW0:=ab (ae gd0 g2)
 have HK0:=ab (ac g2 (show t2.drew.heap[w.heap.size]?=some (.cells #[.bool b1,.slice a1 X.length c1,.int .i64 E1] 125) from HQ0.out))
 have HK1:=ab (ac g2 (show t2.drew.heap[w.heap.size+1]?=some (.cells #[.bool b2,.slice a2 Y.length c2,.int .i64 E2] 125) from HQ1.out))
 clear g0 g1 g2 hb2 gd0 KS U1 U2 LL1 LL2 y0 y1 y3 y4 HQ0 HQ1 HG2
 go_wp2
 go_loopw [5,6,7] (fun so sb sc wr=>∃(k:Nat) (o:Int),so=.int .i64 o∧sb=.int .i64 ((lx:Int) - 64*(k:Int))∧sc=.int .i64 ((ly:Int) - 64*(k:Int))∧k≤35184372088832∧Below t4.heap.size t4 wr∧(o=0→E1+(lx:Int)=E2+(ly:Int)∧fl (val X) (64*(k:Int) - (lx:Int))=fl (val Y) (64*(k:Int) - (ly:Int)))∧(o≠0→o=cmpN (val X*2 ^ p) (val Y*2 ^ q))) (fun _ sb sc _=>(intOf sb).toNat+(intOf sc).toNat)
 case atStart=>
  refine⟨0,o0,rfl,by simp,by simp,by omega,Below.refl _ _,fun h=>⟨HTC.out.2 h,?_⟩,HTC.out.1⟩
  have:=HFX.out
  rw [show 64*((0:Nat):Int) - (lx:Int)=-(lx:Int) by omega,show 64*((0:Nat):Int) - (ly:Int)=-(ly:Int) by omega,this.1,this.2]
 case round=>
  obtain⟨k,o,rfl,rfl,rfl,hk,gwr0,hinv1,hinv2⟩:=hrel
  have gwr:=ab gwr0
  have HWR:=ab (HW0.out.trans (gwr0.mono HW0.out.size))
  obtain⟨B,hB⟩:∃B,(lx:Int) - 64*(k:Int)=B:=⟨_,rfl⟩
  obtain⟨O,hO⟩:∃O,(ly:Int) - 64*(k:Int)=O:=⟨_,rfl⟩
  rw [hB,hO]
  have HBO:=ab (And.intro hB.symm (And.intro hO.symm (And.intro HLB.out (And.intro hk HPQ.out))))
  clear gwr0 hB hO hk
  by_cases ho:o=0
  ·subst ho
   have HINV:=ab (And.intro hinv1 hinv2)
   clear hinv1 hinv2
   by_cases iB:0<B
   ·skip
    have hB2:IntKind.i64.wrap (B - 64)=B - 64:=by rw [IntKind.wrap_i64];have:=HBO.out;omega
    have hO2:IntKind.i64.wrap (O - 64)=O - 64:=by rw [IntKind.wrap_i64];have:=HBO.out;omega
    have g0:Below wr.drew.heap.size wr.drew wr.drew:=Below.refl _ _
    have gdr:Below w.heap.size w wr.drew:=HWR.out.drew
    have KS:=ab (fun (W:World) (hg:Below wr.drew.heap.size wr.drew W)=>show W.cell? ⟨w.heap.size,1,none⟩=some (.slice a1 X.length c1)∧W.cell? ⟨w.heap.size+1,1,none⟩=some (.slice a2 Y.length c2) from by
     have hh:=ae gwr.out.drew hg
     obtain⟨_,y1,_⟩:=tri8 (ac hh HK0.out)
     obtain⟨_,y4,_⟩:=tri8 (ac hh HK1.out)
     exact⟨y1,y4⟩)
    have HB1:=dW (.slice a1 X.length c1) X (B - 64) wr.drew (HA1.out.below gdr) (by have:=HBO.out;omega) (by have:=HBO.out;omega)
    have HB3:=ab (fun (W:World) (hs:aR wr.drew W)=>dW (.slice a2 Y.length c2) Y (O - 64) W ((HA2.out.below gdr).below (hs.below _)) (by have:=HBO.out;omega) (by have:=HBO.out;omega))
    obtain⟨nn,hnn⟩:∃n:Int,n=64*(k:Int) - (lx:Int):=⟨_,rfl⟩
    obtain⟨mm,hmm⟩:∃m:Int,m=64*(k:Int) - (ly:Int):=⟨_,rfl⟩
    have e1:-(B - 64)=nn+64:=by have:=HBO.out;omega
    have e2:-(O - 64)=mm+64:=by have:=HBO.out;omega
    rw [e1] at HB1
    rw [e2] at HB3
    have hfr:fl (val X) nn=fl (val Y) mm:=by rw [hnn,hmm];exact (HINV.out.1 rfl).2
    have hst:=jt hfr
    have hfin:cmpN (fl (val X) (nn+64)) (fl (val Y) (mm+64))≠0→cmpN (fl (val X) (nn+64)) (fl (val Y) (mm+64))=cmpN (val X*2 ^ p) (val Y*2 ^ q):=by
     intro h
     have hne:fl (val X) (nn+64)≠fl (val Y) (mm+64):=fun h'=>h (by rw [h',cmpN_self])
     refine (kR (d:=(E1+L - nn - 64).toNat) ?_ ?_ hne).symm
     ·have:=HBO.out;omega
     ·have h9:=(HINV.out.1 rfl).1
      have:=HBO.out;omega
    have hzero:cmpN (fl (val X) (nn+64)) (fl (val Y) (mm+64))=0→fl (val X) (nn+64)=fl (val Y) (mm+64):=fun h=>(kU _ _).2.2.1 h
    have z1:fl (val X) (nn+64) % 18446744073709551616<18446744073709551616:=Nat.mod_lt _ (by omega)
    rw [hst] at hfin hzero
    have HF:=ab (And.intro hfin hzero)
    have HNM:=ab (And.intro hnn hmm)
    have HTOP:=ab (HINV.out.1 rfl).1
    clear hst hfin hzero hfr hnn hmm e1 e2 z1 HINV
    generalize fl (val X) (nn+64) % 18446744073709551616=u1 at *
    generalize fl (val Y) (mm+64) % 18446744073709551616=u2 at *
    obtain⟨q1,q4⟩:=KS.out _ g0
    have HGW:=ab gdr
    clear gdr
    generalize hBB:B - 64=B2 at *
    have hBB2:B - 64=B2:=hBB
    clear hBB
    generalize hOO:O - 64=O2 at *
    have hOO2:O - 64=O2:=hOO
    clear hOO
    go_wp2
    go_region_held3 (fun w'=>w'.cell? ⟨w.heap.size,1,none⟩=some (.slice a1 X.length c1)∧w'.cell? ⟨w.heap.size+1,1,none⟩=some (.slice a2 Y.length c2)) (first|with_reducible exact KS.out _ g2|with_reducible exact KS.out _ g1|with_reducible exact KS.out _ g0) (first
     | (go_at_call_of 118 a1;refine HB1.mono ?_;rintro e' t1 ⟨rfl,s1⟩;have g1:=s1.below wr.drew.heap.size)
     | (go_at_call_of 118 a2;refine (HB3.out t1 s1).mono ?_;rintro e' t2 ⟨rfl,s2⟩;have g2:=(s1.trans s2).below wr.drew.heap.size)
     | (go_at_call 128;refine (ir u1 u2 t2).mono ?_;rintro e' wn ⟨rfl,hw⟩;rw [hw];clear hw wn))
    have HG2:=ab (HGW.out.trans (g2.mono HGW.out.size))
    have HG3:=ab (gwr.out.trans ((show Below wr.heap.size wr t2 from (Below.refl _ _).drew.trans g2).mono gwr.out.size))
    have hcr:=cmpN_range u1 u2
    have HCR:=ab hcr
    clear hcr g0 g1 g2 s1 s2 KS HB1 HB3 HGW
    generalize cmpN u1 u2=o1 at *
    go_wp2
    go_roundw
    case rel=>
     have h10:=HBO.out
     refine⟨k+1,o1,rfl,?_,?_,?_,HG3.out,fun h=>⟨HTOP.out,?_⟩,fun h=>HF.out.1 h⟩
     ·exact congrArg (Value.int IntKind.i64) (by omega)
     ·exact congrArg (Value.int IntKind.i64) (by omega)
     ·omega
     ·have h11:=HF.out.2 h
      have h12:=HNM.out
      rw [show 64*((k+1:Nat):Int) - (lx:Int)=nn+64 by omega,show 64*((k+1:Nat):Int) - (ly:Int)=mm+64 by omega]
      exact h11
    case measure=>
     simp only [intOf]
     omega
   ·by_cases iO:0<O
    ·skip
     have hB2:IntKind.i64.wrap (B - 64)=B - 64:=by rw [IntKind.wrap_i64];have:=HBO.out;omega
     have hO2:IntKind.i64.wrap (O - 64)=O - 64:=by rw [IntKind.wrap_i64];have:=HBO.out;omega
     have g0:Below wr.drew.heap.size wr.drew wr.drew:=Below.refl _ _
     have gdr:Below w.heap.size w wr.drew:=HWR.out.drew
     have KS:=ab (fun (W:World) (hg:Below wr.drew.heap.size wr.drew W)=>show W.cell? ⟨w.heap.size,1,none⟩=some (.slice a1 X.length c1)∧W.cell? ⟨w.heap.size+1,1,none⟩=some (.slice a2 Y.length c2) from by
      have hh:=ae gwr.out.drew hg
      obtain⟨_,y1,_⟩:=tri8 (ac hh HK0.out)
      obtain⟨_,y4,_⟩:=tri8 (ac hh HK1.out)
      exact⟨y1,y4⟩)
     have HB1:=dW (.slice a1 X.length c1) X (B - 64) wr.drew (HA1.out.below gdr) (by have:=HBO.out;omega) (by have:=HBO.out;omega)
     have HB3:=ab (fun (W:World) (hs:aR wr.drew W)=>dW (.slice a2 Y.length c2) Y (O - 64) W ((HA2.out.below gdr).below (hs.below _)) (by have:=HBO.out;omega) (by have:=HBO.out;omega))
     obtain⟨nn,hnn⟩:∃n:Int,n=64*(k:Int) - (lx:Int):=⟨_,rfl⟩
     obtain⟨mm,hmm⟩:∃m:Int,m=64*(k:Int) - (ly:Int):=⟨_,rfl⟩
     have e1:-(B - 64)=nn+64:=by have:=HBO.out;omega
     have e2:-(O - 64)=mm+64:=by have:=HBO.out;omega
     rw [e1] at HB1
     rw [e2] at HB3
     have hfr:fl (val X) nn=fl (val Y) mm:=by rw [hnn,hmm];exact (HINV.out.1 rfl).2
     have hst:=jt hfr
     have hfin:cmpN (fl (val X) (nn+64)) (fl (val Y) (mm+64))≠0→cmpN (fl (val X) (nn+64)) (fl (val Y) (mm+64))=cmpN (val X*2 ^ p) (val Y*2 ^ q):=by
      intro h
      have hne:fl (val X) (nn+64)≠fl (val Y) (mm+64):=fun h'=>h (by rw [h',cmpN_self])
      refine (kR (d:=(E1+L - nn - 64).toNat) ?_ ?_ hne).symm
      ·have:=HBO.out;omega
      ·have h9:=(HINV.out.1 rfl).1
       have:=HBO.out;omega
     have hzero:cmpN (fl (val X) (nn+64)) (fl (val Y) (mm+64))=0→fl (val X) (nn+64)=fl (val Y) (mm+64):=fun h=>(kU _ _).2.2.1 h
     have z1:fl (val X) (nn+64) % 18446744073709551616<18446744073709551616:=Nat.mod_lt _ (by omega)
     rw [hst] at hfin hzero
     have HF:=ab (And.intro hfin hzero)
     have HNM:=ab (And.intro hnn hmm)
     have HTOP:=ab (HINV.out.1 rfl).1
     clear hst hfin hzero hfr hnn hmm e1 e2 z1 HINV
     generalize fl (val X) (nn+64) % 18446744073709551616=u1 at *
     generalize fl (val Y) (mm+64) % 18446744073709551616=u2 at *
     obtain⟨q1,q4⟩:=KS.out _ g0
     have HGW:=ab gdr
     clear gdr
     generalize hBB:B - 64=B2 at *
     have hBB2:B - 64=B2:=hBB
     clear hBB
     generalize hOO:O - 64=O2 at *
     have hOO2:O - 64=O2:=hOO
     clear hOO
     go_wp2
     go_region_held3 (fun w'=>w'.cell? ⟨w.heap.size,1,none⟩=some (.slice a1 X.length c1)∧w'.cell? ⟨w.heap.size+1,1,none⟩=some (.slice a2 Y.length c2)) (first|with_reducible exact KS.out _ g2|with_reducible exact KS.out _ g1|with_reducible exact KS.out _ g0) (first
      | (go_at_call_of 118 a1;refine HB1.mono ?_;rintro e' t1 ⟨rfl,s1⟩;have g1:=s1.below wr.drew.heap.size)
      | (go_at_call_of 118 a2;refine (HB3.out t1 s1).mono ?_;rintro e' t2 ⟨rfl,s2⟩;have g2:=(s1.trans s2).below wr.drew.heap.size)
      | (go_at_call 128;refine (ir u1 u2 t2).mono ?_;rintro e' wn ⟨rfl,hw⟩;rw [hw];clear hw wn))
     have HG2:=ab (HGW.out.trans (g2.mono HGW.out.size))
     have HG3:=ab (gwr.out.trans ((show Below wr.heap.size wr t2 from (Below.refl _ _).drew.trans g2).mono gwr.out.size))
     have hcr:=cmpN_range u1 u2
     have HCR:=ab hcr
     clear hcr g0 g1 g2 s1 s2 KS HB1 HB3 HGW
     generalize cmpN u1 u2=o1 at *
     go_wp2
     go_roundw
     case rel=>
      have h10:=HBO.out
      refine⟨k+1,o1,rfl,?_,?_,?_,HG3.out,fun h=>⟨HTOP.out,?_⟩,fun h=>HF.out.1 h⟩
      ·exact congrArg (Value.int IntKind.i64) (by omega)
      ·exact congrArg (Value.int IntKind.i64) (by omega)
      ·omega
      ·have h11:=HF.out.2 h
       have h12:=HNM.out
       rw [show 64*((k+1:Nat):Int) - (lx:Int)=nn+64 by omega,show 64*((k+1:Nat):Int) - (ly:Int)=mm+64 by omega]
       exact h11
     case measure=>
      simp only [intOf]
      omega
    ·have hend:cmpN (val X*2 ^ p) (val Y*2 ^ q)=0:=by
      obtain⟨h8,h9⟩:=HINV.out.1 rfl
      have h10:=HBO.out
      rw [rR (d:=(E1+L - (64*(k:Int) - (lx:Int))).toNat) (p:=p) (q:=q) (n:=64*(k:Int) - (lx:Int)) (m:=64*(k:Int) - (ly:Int)) (by omega) (by omega) (by omega) (by omega) h9]
      exact cmpN_self _
     have HEND:=ab hend
     have HFIN:=ab HWR.out
     clear hend HINV HBO
     go_wp2
     go_ret
     rw [HEND.out]
     exact⟨rfl,HFIN.out⟩
  ·have hoe:((o:Int) == 0)=false:=by rw [beq_eq_false_iff_ne];exact ho
   have HEND:=ab (hinv2 ho)
   have HFIN:=ab HWR.out
   clear hinv1 hinv2 ho HBO
   go_wp2
   go_ret
   rw [←HEND.out]
   exact⟨rfl,HFIN.out⟩

theorem lu (b:Bool)(x g:Nat):zz b x*2 ^ g=zz b (x*2 ^ g):=by cases b <;> simp [zz,Int.neg_mul]

theorem nK (b1:Bool)(x:Nat)(b2:Bool)(y:Nat)(p q:Nat) :
  (am (sg b1 x) (sg b2 y)≠0→am (sg b1 x) (sg b2 y)=am (zz b1 x*2 ^ p) (zz b2 y*2 ^ q))∧(am (sg b1 x) (sg b2 y)=0→sg b1 x=sg b2 y)∧(am (sg b1 x) (sg b2 y)=0→sg b1 x=0→am (zz b1 x*2 ^ p) (zz b2 y*2 ^ q)=0) ∧
  (sg b1 x=sg b2 y→sg b1 x*cmpN (x*2 ^ p) (y*2 ^ q)=am (zz b1 x*2 ^ p) (zz b2 y*2 ^ q)):=by
 rw [lu,lu]
 have hA:x*2 ^ p=0 ↔ x=0:=by
  have:=Nat.two_pow_pos p
  rw [Nat.mul_eq_zero];omega
 have hB:y*2 ^ q=0 ↔ y=0:=by
  have:=Nat.two_pow_pos q
  rw [Nat.mul_eq_zero];omega
 generalize x*2 ^ p=A at *
 generalize y*2 ^ q=B at *
 unfold am cmpN sg zz
 by_cases hx:x=0
 ·have hA0:A=0:=hA.2 hx
  subst hA0
  by_cases hy:y=0
  ·have hB0:B=0:=hB.2 hy
   subst hB0
   cases b1 <;> cases b2 <;> simp [hx,hy]
  ·have hB0:B≠0:=fun h=>hy (hB.1 h)
   cases b1 <;> cases b2 <;> simp [hx,hy] <;> omega
 ·have hA0:A≠0:=fun h=>hx (hA.1 h)
  by_cases hy:y=0
  ·have hB0:B=0:=hB.2 hy
   subst hB0
   cases b1 <;> cases b2 <;> simp [hx,hy] <;> omega
  ·have hB0:B≠0:=fun h=>hy (hB.1 h)
   cases b1 <;> cases b2 <;> simp [hx,hy] <;> omega

theorem ja (b:Bool)(a:Option Addr)(c:Nat)(X:List Nat)(w:World)(hA:Arg w (.slice a X.length c) X) :
  Calls Tryz.prog 111 #[.agg #[.bool b,.slice a X.length c]] w fun e w'=>e=.returned (.int .i64 (sg b (val X)))∧Below w.heap.size w w':=by
 obtain⟨w0,hw0,hb0,h0⟩:=ag w (.cells #[.bool b,.slice a X.length c] 122)
 obtain⟨k0,k1⟩:=duo h0
 have HM:=gB b a X.length c w0
 have HS:=ab (fun (W:World) (hg:Below w.heap.size w W)=>pW b _ X W (hA.below hg))
 have HB:=ab hb0
 generalize sg b (val X)=s at *
 clear h0 hb0 hA
 go_enter Tryz.func111,Tryz.ntmps111
 go_wp2_with fail
 refine HM.mono ?_
 rintro e t1 ⟨rfl,g1⟩
 have HG:=ab (ae HB.out g1)
 have HSS:=HS.out t1 HG.out
 clear g1 HM
 go_wp2_with fail
 refine HSS.mono ?_
 rintro e t2 ⟨rfl,g2⟩
 have HG2:=ab (ae HG.out g2)
 clear g2 HSS
 go_wp2
 go_ret
 exact⟨rfl,HG2.out⟩

theorem lH (b:Bool)(x:Nat):(sg b x=0 ↔ x=0)∧-1≤sg b x∧sg b x≤1:=by
 unfold sg
 by_cases h:x=0
 ·simp [h]
 ·cases b <;> simp [h]

theorem oK (b1:Bool)(a1:Option Addr)(c1:Nat)(X:List Nat)(E1:Int)(b2:Bool)(a2:Option Addr)(c2:Nat)(Y:List Nat)(E2:Int)(L p q:Nat)(w:World)(h1:Arg w (.slice a1 X.length c1) X)(h2:Arg w (.slice a2 Y.length c2) Y)(f1:X.length≤17592186044416)(f2:Y.length≤17592186044416)(he1:-1152921504606846976≤E1)(he2:E1≤1152921504606846976)(he3:-1152921504606846976≤E2)(he4:E2≤1152921504606846976)(hL:4611686018427387904≤L)(hp:(p:Int)=E1+L)(hq:(q:Int)=E2+L) :
  Calls Tryz.prog 94 #[.agg #[.bool b1,.slice a1 X.length c1,.int .i64 E1],.agg #[.bool b2,.slice a2 Y.length c2,.int .i64 E2]] w fun e w'=>e=.returned (.int .i64 (am (zz b1 (val X)*2 ^ p) (zz b2 (val Y)*2 ^ q)))∧Below w.heap.size w w':=by
 obtain⟨w0,hw0,hb0,k0,k1⟩:=al w (.cells #[.bool b1,.slice a1 X.length c1,.int .i64 E1] 125) (.cells #[.bool b2,.slice a2 Y.length c2,.int .i64 E2] 125)
 obtain⟨x0,x1,x2⟩:=tri8 k0
 have S1:=ja b1 a1 c1 X w0 (h1.below hb0)
 have S2:=ab (fun (W:World) (hg:Below w.heap.size w W)=>ja b2 a2 c2 Y W (h2.below hg))
 have hsc:=nK b1 (val X) b2 (val Y) p q
 have v1:=lH b1 (val X)
 have v2:=lH b2 (val Y)
 have HCS:=ab (fun (W:World) (hg:Below w.heap.size w W) (hx:val X≠0) (hy:val Y≠0)=>qo b1 a1 c1 X E1 b2 a2 c2 Y E2 L p q W (h1.below hg) (h2.below hg) hx hy f1 f2 he1 he2 he3 he4 hL hp hq)
 have hcr:=cmpN_range (val X*2 ^ p) (val Y*2 ^ q)
 have HK0:=ab k0
 have HK1:=ab k1
 have HB:=ab hb0
 clear k0 k1 hb0 h1 h2 hp hq
 generalize cmpN (val X*2 ^ p) (val Y*2 ^ q)=cc at *
 generalize am (zz b1 (val X)*2 ^ p) (zz b2 (val Y)*2 ^ q)=R at *
 generalize hs1:sg b1 (val X)=s1 at *
 generalize hs2:sg b2 (val Y)=s2 at *
 have HV1:=ab v1
 have HV2:=ab v2
 have HSC:=ab hsc
 clear hsc v1 v2 hs1 hs2
 generalize hoo:am s1 s2=oo at *
 have HOO:=ab hoo
 clear hoo
 go_enter Tryz.func94,Tryz.ntmps94
 go_wp2_with fail
 refine S1.mono ?_
 rintro e t1 ⟨rfl,g1⟩
 have HG1:=ab (ae HB.out g1)
 have HL0:=ab (ac g1 HK0.out)
 have HL1:=ab (ac g1 HK1.out)
 obtain⟨x3,x4,x5⟩:=tri8 HL1.out
 have SS:=S2.out t1 HG1.out
 clear g1 S1 S2 HK0 HK1 HB
 go_wp2_with fail
 refine SS.mono ?_
 rintro e t2 ⟨rfl,g2⟩
 have HG2:=ab (ae HG1.out g2)
 have HM0:=ab (ac g2 HL0.out)
 have HM1:=ab (ac g2 HL1.out)
 obtain⟨x0,x1,x2⟩:=tri8 HM0.out
 obtain⟨x3,x4,x5⟩:=tri8 HM1.out
 have CI:=km s1 s2 t2
 rw [HOO.out] at CI
 clear g2 SS HL0 HL1 HG1
 go_wp2_with fail
 refine CI.mono ?_
 rintro e wn ⟨rfl,hw⟩;rw [hw];clear hw wn CI
 by_cases ho:oo=0
 ·subst ho
  by_cases hs:s1=0
  ·have hs2:((s1:Int) == 0)=true:=by rw [beq_iff_eq];exact hs
   have hR:R=0:=HSC.out.2.2.1 rfl hs
   have HRR:=ab hR
   clear hs hR
   go_wp2
   go_ret
   rw [HRR.out]
   exact⟨rfl,HG2.out⟩
  ·have hs2:((s1:Int) == 0)=false:=by rw [beq_eq_false_iff_ne];exact hs
   have hse:=HSC.out.2.1 rfl
   have hR:=HSC.out.2.2.2 hse
   have HX0:val X≠0:=fun h=>hs (HV1.out.1.2 h)
   have HY0:val Y≠0:=fun h=>hs (by rw [hse];exact HV2.out.1.2 h)
   have HCC:=HCS.out t2 HG2.out HX0 HY0
   have hw:IntKind.i64.wrap (s1*cc)=s1*cc:=by
    have h9:=HV1.out.2
    have h10:s1=-1∨s1=1:=by omega
    rw [IntKind.wrap_i64]
    rcases h10 with rfl|rfl <;> omega
   have HRR:=ab hR
   clear hse hR HX0 HY0 hs hcr
   generalize hpr:s1*cc=pr at *
   have hpr2:s1*cc=pr:=hpr
   clear hpr
   go_wp2_with fail
   refine HCC.mono ?_
   rintro e t3 ⟨rfl,g3⟩
   have HG3:=ab (ae HG2.out g3)
   clear g3 HCC
   go_wp2
   go_ret
   rw [←HRR.out]
   exact⟨rfl,HG3.out⟩
 ·have hoe:((oo:Int) == 0)=false:=by rw [beq_eq_false_iff_ne];exact ho
  have hoe2:((oo:Int) != 0)=true:=by rw [bne,hoe];rfl
  have hR:=HSC.out.1 ho
  have HRR:=ab hR
  clear ho hR
  go_wp2
  go_ret
  rw [←HRR.out]
  exact⟨rfl,HG2.out⟩

theorem oA (b1:Bool)(a1:Option Addr)(n1 c1:Nat)(ex1:Int)(b2:Bool)(a2:Option Addr)(n2 c2:Nat)(ex2:Int)(w:World)(hE:ah ex1=false) :
  Calls Tryz.prog 73 #[.agg #[.bool b1,.slice a1 n1 c1,.int .i64 ex1],.agg #[.bool b2,.slice a2 n2 c2,.int .i64 ex2]] w fun e w'=>e=.returned (.tuple #[.int .i64 0,.int .i64 80])∧Below w.heap.size w w':=by
 obtain⟨w0,hw0,hb0,k0,k1⟩:=al w (.cells #[.bool b1,.slice a1 n1 c1,.int .i64 ex1] 43) (.cells #[.bool b2,.slice a2 n2 c2,.int .i64 ex2] 43)
 obtain⟨x0,x1,x2⟩:=tri8 k0
 have HP:=iR b1 a1 n1 c1 ex1 w0 hE
 have HB:=ab hb0
 clear k0 k1 hb0 hE
 go_enter Tryz.func73,Tryz.ntmps73
 go_wp2_with fail
 refine HP.mono ?_
 rintro e t1 ⟨he,g1⟩
 obtain⟨fb,fa,fn,fc,fe,rfl⟩:∃fb fa fn fc fe,e=.returned (.tuple #[.agg #[.bool fb,.slice fa fn fc,.int .i64 fe],.int .i64 80]):=⟨_,_,_,_,_,he⟩
 clear he
 obtain⟨w4,hw4,hb4,h4⟩:=ag t1 (.cells #[.bool fb,.slice fa fn fc,.int .i64 fe] 125)
 have HG:=ab (ae (ae HB.out g1) hb4)
 clear g1 hb4 h4 HP
 go_wp2
 refine bodyPost_ret (v:=.tuple #[.int .i64 0,.int .i64 80]) (by simp [results,Tryz.results73,go_sem]) rfl ?_
 exact⟨rfl,HG.out⟩

theorem pT (b1:Bool)(a1:Option Addr)(c1:Nat)(X:List Nat)(ex1:Int)(b2:Bool)(a2:Option Addr)(n2 c2:Nat)(ex2:Int)(w:World)(hA:Arg w (.slice a1 X.length c1) X)(hE1:ah ex1=true)(hE:ah ex2=false) :
  Calls Tryz.prog 73 #[.agg #[.bool b1,.slice a1 X.length c1,.int .i64 ex1],.agg #[.bool b2,.slice a2 n2 c2,.int .i64 ex2]] w fun e w'=>e=.returned (.tuple #[.int .i64 0,.int .i64 80])∧Below w.heap.size w w':=by
 obtain⟨w0,hw0,hb0,k0,k1⟩:=al w (.cells #[.bool b1,.slice a1 X.length c1,.int .i64 ex1] 43) (.cells #[.bool b2,.slice a2 n2 c2,.int .i64 ex2] 43)
 obtain⟨x0,x1,x2⟩:=tri8 k0
 have HP:=eH b1 a1 c1 X ex1 w0 (hA.below hb0) hE1
 have HP2:=ab (fun (W:World)=>iR b2 a2 n2 c2 ex2 W hE)
 have HK1:=ab k1
 have HB:=ab hb0
 clear k0 k1 hb0 hE hA hE1
 generalize (tr X).length=m at *
 go_enter Tryz.func73,Tryz.ntmps73
 go_wp2_with fail
 refine HP.mono ?_
 rintro e t1 ⟨rfl,g1⟩
 obtain⟨w4,hw4,hb4,h4⟩:=ag t1 (.cells #[.bool b1,.slice a1 m c1,.int .i64 ex1] 125)
 have HG:=ab (ae (ae HB.out g1) hb4)
 obtain⟨x3,x4,x5⟩:=tri8 (ac hb4 (ac g1 HK1.out))
 have HQ:=HP2.out w4
 clear g1 hb4 h4 HP HP2 x0 x1 x2 HK1
 go_wp2_with fail
 refine HQ.mono ?_
 rintro e t2 ⟨he,g2⟩
 obtain⟨fb,fa,fn,fc,fe,rfl⟩:∃fb fa fn fc fe,e=.returned (.tuple #[.agg #[.bool fb,.slice fa fn fc,.int .i64 fe],.int .i64 80]):=⟨_,_,_,_,_,he⟩
 clear he
 obtain⟨w5,hw5,hb5,h5⟩:=ag t2 (.cells #[.bool fb,.slice fa fn fc,.int .i64 fe] 125)
 have HG2:=ab (ae (ae HG.out g2) hb5)
 clear g2 hb5 h5 HQ
 go_wp2
 refine bodyPost_ret (v:=.tuple #[.int .i64 0,.int .i64 80]) (by simp [results,Tryz.results73,go_sem]) rfl ?_
 exact⟨rfl,HG2.out⟩

theorem im (b1:Bool)(a1:Option Addr)(c1:Nat)(X:List Nat)(ex1:Int)(b2:Bool)(a2:Option Addr)(c2:Nat)(Y:List Nat)(ex2:Int)(L p q:Nat)(w:World)(hA:Arg w (.slice a1 X.length c1) X)(hB:Arg w (.slice a2 Y.length c2) Y)(f1:X.length≤17592186044416)(f2:Y.length≤17592186044416)(hE1:ah ex1=true)(hE2:ah ex2=true)(hL:4611686018427387904≤L)(hp:(p:Int)=ex1+L)(hq:(q:Int)=ex2+L) :
  Calls Tryz.prog 73 #[.agg #[.bool b1,.slice a1 X.length c1,.int .i64 ex1],.agg #[.bool b2,.slice a2 Y.length c2,.int .i64 ex2]] w fun e w'=>e=.returned (.tuple #[.int .i64 (am (zz b1 (val X)*2 ^ p) (zz b2 (val Y)*2 ^ q)),.int .i64 0])∧Below w.heap.size w w':=by
 obtain⟨w0,hw0,hb0,k0,k1⟩:=al w (.cells #[.bool b1,.slice a1 X.length c1,.int .i64 ex1] 43) (.cells #[.bool b2,.slice a2 Y.length c2,.int .i64 ex2] 43)
 obtain⟨x0,x1,x2⟩:=tri8 k0
 have HP:=eH b1 a1 c1 X ex1 w0 (hA.below hb0) hE1
 have HP2:=ab (fun (W:World) (hg:Below w.heap.size w W)=>eH b2 a2 c2 Y ex2 W (hB.below hg) hE2)
 have hr1:=(aH ex1).1 hE1
 have hr2:=(aH ex2).1 hE2
 have HC:=ab (fun (W:World) (hg:Below w.heap.size w W)=>oK b1 a1 c1 (tr X) ex1 b2 a2 c2 (tr Y) ex2 L p q W (hA.trim.below hg) (hB.trim.below hg) (by have:=tr_length_le X;omega) (by have:=tr_length_le Y;omega) (by omega) (by omega) (by omega) (by omega) hL hp hq)
 rw [val_tr,val_tr] at HC
 have HK1:=ab k1
 have HB:=ab hb0
 clear k0 k1 hb0 hA hB hE1 hE2 hr1 hr2 hp hq
 generalize am (zz b1 (val X)*2 ^ p) (zz b2 (val Y)*2 ^ q)=R at *
 generalize (tr X).length=m at *
 generalize (tr Y).length=m2 at *
 go_enter Tryz.func73,Tryz.ntmps73
 go_wp2_with fail
 refine HP.mono ?_
 rintro e t1 ⟨rfl,g1⟩
 obtain⟨w4,hw4,hb4,h4⟩:=ag t1 (.cells #[.bool b1,.slice a1 m c1,.int .i64 ex1] 125)
 have HG:=ab (ae (ae HB.out g1) hb4)
 obtain⟨x3,x4,x5⟩:=tri8 (ac hb4 (ac g1 HK1.out))
 have HQ:=HP2.out w4 HG.out
 have HK4:=ab h4
 clear g1 hb4 h4 HP HP2 x0 x1 x2 HK1
 go_wp2_with fail
 refine HQ.mono ?_
 rintro e t2 ⟨rfl,g2⟩
 obtain⟨w5,hw5,hb5,h5⟩:=ag t2 (.cells #[.bool b2,.slice a2 m2 c2,.int .i64 ex2] 125)
 have HG2:=ab (ae (ae HG.out g2) hb5)
 obtain⟨y0,y1,y2⟩:=tri8 (ac hb5 (ac g2 HK4.out))
 obtain⟨y3,y4,y5⟩:=tri8 h5
 have HR:=HC.out w5 HG2.out
 clear g2 hb5 h5 HQ HC x3 x4 x5
 go_wp2_with fail
 refine HR.mono ?_
 rintro e t3 ⟨rfl,g3⟩
 have HG3:=ab (ae HG2.out g3)
 clear g3 HR
 go_wp2
 refine bodyPost_ret (v:=.tuple #[.int .i64 R,.int .i64 0]) (by simp [results,Tryz.results73,go_sem]) rfl ?_
 exact⟨rfl,HG3.out⟩
end Go.Proofs.YtkfbobefkbpdoaaGreatDoor
namespace Go.Proofs.YtkfbobefkbpdoaaGreatDoor
open Go.RowKit
open Lm

def I8 (w:World)(b:Bool)(a:Option Addr)(n k:Nat)(ex:Int)(L:Nat)(V:Int):Prop:=
 ∃rs:List Nat,n=rs.length∧Arg w (.slice a n k) rs∧rs.length≤17592186043904∧Rp L (zz b (val rs)) ex V

def G8 (w:World)(b:Bool)(a:Option Addr)(n k:Nat)(ex:Int)(L:Nat)(V:Int):Prop:=
 ∃rs:List Nat,n=rs.length∧Arg w (.slice a n k) rs∧rs.length≤1048576∧Rp L (zz b (val rs)) ex V∧tr rs=rs∧b=decide (zz b (val rs)<0)∧Nr8 (zz b (val rs)) ex∧ah ex=true

def P8 (w:World)(b:Bool)(a:Option Addr)(n k:Nat)(ex c:Int)(L:Nat)(V:Int):Prop:=c=0→G8 w b a n k ex L V

theorem I8.below {w w':World}{b:Bool}{a:Option Addr}{n k:Nat}{ex:Int}{L:Nat}{V:Int}(h:I8 w b a n k ex L V)(hb:Below w.heap.size w w'):I8 w' b a n k ex L V:=by
 obtain⟨rs,h1,h2,h3⟩:=h
 exact⟨rs,h1,h2.below hb,h3⟩

theorem G8.below {w w':World}{b:Bool}{a:Option Addr}{n k:Nat}{ex:Int}{L:Nat}{V:Int}(h:G8 w b a n k ex L V)(hb:Below w.heap.size w w'):G8 w' b a n k ex L V:=by
 obtain⟨rs,h1,h2,h3⟩:=h
 exact⟨rs,h1,h2.below hb,h3⟩

def A8 (w:World)(e:Ending)(w':World)(L:Nat)(V:Int):Prop:=
 (∃b a n k ex c,e=.returned (.tuple #[.agg #[.bool b,.slice a n k,.int .i64 ex],.int .i64 c])∧P8 w' b a n k ex c L V)∧Below w.heap.size w w'

theorem aT.a8 {w w':World}{e:Ending}{base:Nat}{M E:Int}{L:Nat}{V:Int}(h:aT w' base e M E)(hr:Rp L M E V)(hn:Nr8 M E)(hb:Below w.heap.size w w'):A8 w e w' L V:=by
 obtain⟨b,a,n,k,ex,c,he,rs,hA,hc⟩:=h
 refine⟨⟨b,a,n,k,ex,c,he,fun h0=>?_⟩,hb⟩
 rcases hc with ⟨_,h2,h3,h4,h5,h6,h7⟩|⟨h,_⟩|⟨h,_⟩
 ·have hz:zz b (val rs)=M:=by rw [h2,h3];exact cL M
  have hl:rs.length≤1048576:=bu h4 rfl (by rw [h3];omega)
  have hR:=hA.arg (by omega)
  obtain⟨a',n',e1,_⟩:=hR.form
  have hn':n=rs.length:=by injection e1
  refine⟨rs,hn',hR,hl,?_,h4,?_,?_,?_⟩
  ·rw [hz,h5];exact hr
  ·rw [hz];exact h2
  ·rw [hz,h5];exact hn
  ·rw [h5];exact h7
 ·rw [h] at h0;exact absurd h0 (by decide)
 ·rw [h] at h0;exact absurd h0 (by decide)
end Go.Proofs.YtkfbobefkbpdoaaGreatDoor
namespace Go.Proofs.YtkfbobefkbpdoaaGreatDoor
open Go.RowKit
open Lm
attribute [local go_sem ↓] Go.wp_at_zero Go.wp_at_succ

def ga (b:Bool)(x d:Nat)(m:Int):Bool:=if m=0 then b else if m=1 then !b else if d=1 then decide (x / 2 ^ 1 % 2=1) else decide (x / 2 ^ (d - 1) % 2=1)

def rq (b:Bool)(x d:Nat)(m:Int):Nat:=x / 2 ^ d+if ga b x d m then 1 else 0

def isM (m:Int):Bool:=decide (0≤m) && decide (m≤2)

theorem jw (m:Int):isM m=true ↔ m=0∨m=1∨m=2:=by simp [isM];omega

theorem rJ (m:Int)(w:World):Calls Tryz.prog 107 #[.int .i64 m] w fun e w'=>e=.returned (.bool (isM m))∧w'=w:=by
 by_cases h1:0≤m
 ·have h1':decide (0≤m)=true:=decide_eq_true h1
  by_cases h2:m≤2
  ·have h2':decide (m≤2)=true:=decide_eq_true h2
   rw [show isM m=true by rw [isM,h1',h2'];rfl]
   go_enter Tryz.func107,Tryz.ntmps107
   go_wp2
   go_ret
   exact⟨rfl,rfl⟩
  ·have h2':decide (m≤2)=false:=decide_eq_false h2
   rw [show isM m=false by rw [isM,h1',h2'];rfl]
   go_enter Tryz.func107,Tryz.ntmps107
   go_wp2
   go_ret
   exact⟨rfl,rfl⟩
 ·have h1':decide (0≤m)=false:=decide_eq_false h1
  rw [show isM m=false by rw [isM,h1'];rfl]
  go_enter Tryz.func107,Tryz.ntmps107
  go_wp2
  go_ret
  exact⟨rfl,rfl⟩

theorem iT (y:Nat):(((y % 2:Nat):Int) == 1)=decide (y % 2=1):=by
 by_cases h:y % 2=1
 ·rw [h];rfl
 ·have:y % 2=0:=by omega
  rw [this];rfl

theorem rg (b:Bool)(a:Option Addr)(c:Nat)(X:List Nat)(ex:Int)(d:Nat)(m:Int)(w:World)(hA:Arg w (.slice a X.length c) X)(hd0:0<d)(hd:d≤4611686018427387904)(hm:m=0∨m=1∨m=2) :
  Calls Tryz.prog 122 #[.agg #[.bool b,.slice a X.length c,.int .i64 ex],.int .i64 (d:Int),.int .i64 m] w fun e w'=>e=.returned (.bool (ga b (val X) d m))∧Below w.heap.size w w':=by
 obtain⟨w0,hw0,hb0,h0⟩:=ag w (.cells #[.bool b,.slice a X.length c,.int .i64 ex] 125)
 obtain⟨k0,k1,k2⟩:=tri8 h0
 have HB:=ab hb0
 have HA:=ab (hA.below hb0)
 clear h0 hb0 hA
 rcases hm with rfl|rfl|rfl
 ·rw [show ga b (val X) d 0=b by rw [ga,if_pos rfl]]
  go_enter Tryz.func122,Tryz.ntmps122
  go_wp2
  go_ret
  exact⟨rfl,HB.out⟩
 ·rw [show ga b (val X) d 1=!b by rw [ga,if_neg (by decide),if_pos rfl]]
  go_enter Tryz.func122,Tryz.ntmps122
  go_wp2
  go_ret
  exact⟨rfl,HB.out⟩
 ·by_cases hd1:d=1
  ·have HN:=j9 _ X 1 w0 HA.out (by omega) (by omega)
   have eb:dg (val X) 1=val X / 2 ^ 1 % 2:=rfl
   rw [eb] at HN
   rw [show ga b (val X) d 2=decide (val X / 2 ^ 1 % 2=1) by rw [ga,if_neg (by decide),if_neg (by decide),if_pos hd1],←iT]
   have e1:((d:Int) == 1)=true:=by rw [beq_iff_eq];omega
   generalize val X / 2 ^ 1 % 2=y at *
   clear hd1 eb
   go_enter Tryz.func122,Tryz.ntmps122
   go_wp2_with fail
   refine HN.mono ?_
   rintro e wn ⟨rfl,hw⟩;rw [hw];clear hw wn HN
   go_wp2
   go_ret
   exact⟨rfl,HB.out⟩
  ·have HN:=j9 _ X ((d - 1:Nat):Int) w0 HA.out (by omega) (by omega)
   have eb:dg (val X) ((d - 1:Nat):Int)=val X / 2 ^ (d - 1) % 2:=by
    unfold dg;rw [if_neg (by omega)];rfl
   rw [eb] at HN
   rw [show ga b (val X) d 2=decide (val X / 2 ^ (d - 1) % 2=1) by rw [ga,if_neg (by decide),if_neg (by decide),if_neg hd1],←iT]
   have e1:((d:Int) == 1)=false:=by rw [beq_eq_false_iff_ne];omega
   have w1:IntKind.i64.wrap ((d:Int) - 1)=(d:Int) - 1:=by rw [IntKind.wrap_i64];omega
   generalize val X / 2 ^ (d - 1) % 2=y at *
   have e2:(d:Int) - 1=((d - 1:Nat):Int):=by omega
   generalize d - 1=p at *
   have w2:IntKind.i64.wrap (p:Int)=(p:Int):=by rw [←e2];exact w1
   clear hd1 eb w1
   go_enter Tryz.func122,Tryz.ntmps122
   go_wp2_with fail
   refine HN.mono ?_
   rintro e wn ⟨rfl,hw⟩;rw [hw];clear hw wn HN
   go_wp2
   go_ret
   exact⟨rfl,HB.out⟩

def gQ (w:World)(z ex:Int)(e:Ending)(w':World):Prop:=
 (∃b a n k X,e=.returned (.agg #[.bool b,.slice a n k,.int .i64 ex])∧n=X.length∧Nm w' b (.slice a n k) X z)∧Below w.heap.size w w'

theorem pD (b:Bool)(a:Option Addr)(c:Nat)(X:List Nat)(M E pos m:Int)(w:World)(hN:Nm w b (.slice a X.length c) X M)(he1:-1152921504606846976≤E)(he2:E≤1152921504606846976)(hp1:-1152921504606846976≤pos)(hp2:pos≤1152921504606846976)(hs:M=0∨pos≤E) :
  Calls Tryz.prog 108 #[.agg #[.bool b,.slice a X.length c,.int .i64 E],.int .i64 pos,.int .i64 m] w (gQ w M E):=by
 obtain⟨w0,hw0,hb0,h0,h1'⟩:=al w (.cells #[.bool b,.slice a X.length c,.int .i64 E] 125) (.cells #[.bool false,.slice none 0 0,.int .i64 0] 125)
 obtain⟨k0,k1,k2⟩:=tri8 h0
 have HP:=bJ b a X.length c w0
 have wd:IntKind.i64.wrap (pos - E)=pos - E:=by rw [IntKind.wrap_i64];omega
 have H0:=ab h0
 have H1:=ab h1'
 have HB:=ab hb0
 have HN:=ab hN
 by_cases hX:X.length=0
 ·rw [decide_eq_true hX] at HP
  clear h0 h1' hb0 hN hs hX
  go_enter Tryz.func108,Tryz.ntmps108
  go_wp2_with fail
  refine HP.mono ?_
  rintro e t1 ⟨rfl,g1⟩
  have HC1:=ab (ac g1 H1.out)
  have HG:=ab (ae HB.out g1)
  have HNM:=ab (HN.out.below HG.out)
  have hf1:=ak HC1.out
  obtain⟨m0,m1,m2⟩:=tri8 HC1.out
  obtain⟨l0,l1,l2⟩:=tri8 (ac g1 H0.out)
  clear g1 HP
  go_wp2
  have T3:=ay HC1.out (.bool b) (.slice a X.length c) (.int .i64 E)
  have T4:=an HG.out (show w.heap.size≤w.heap.size+1 by omega) (.bool b) (.slice a X.length c) (.int .i64 E)
  have T5:=HNM.out.tri8 HC1.out b a X.length c (.int .i64 E)
  obtain⟨p0,p1,p2⟩:=tri8 T3
  have HE:=ab (And.intro T5 T4)
  clear T3 T4 T5
  generalize ((t1.setCell ⟨w.heap.size+1,0,none⟩ (.bool b)).setCell ⟨w.heap.size+1,1,none⟩ (.slice a X.length c)).setCell ⟨w.heap.size+1,2,none⟩ (.int .i64 E)=w5 at *
  refine bodyPost_ret (v:=.agg #[.bool b,.slice a X.length c,.int .i64 E]) (by simp [results,Tryz.results108,go_sem,p0,p1,p2]) rfl ?_
  exact⟨⟨_,_,_,_,X,rfl,rfl,HE.out.1⟩,HE.out.2⟩
 ·rw [decide_eq_false hX] at HP
  have hpe:pos≤E:=by
   rcases hs with hs|hs
   ·exfalso
    apply hX
    have:=hN.abs
    rw [hs] at this
    have:=val_zero hN.norm this
    rw [this];rfl
   ·exact hs
  have hd:pos - E≤0:=by omega
  clear h0 h1' hb0 hN hs
  go_enter Tryz.func108,Tryz.ntmps108
  go_wp2_with fail
  refine HP.mono ?_
  rintro e t1 ⟨rfl,g1⟩
  have HC1:=ab (ac g1 H1.out)
  have HG:=ab (ae HB.out g1)
  have HNM:=ab (HN.out.below HG.out)
  have hf1:=ak HC1.out
  obtain⟨m0,m1,m2⟩:=tri8 HC1.out
  obtain⟨l0,l1,l2⟩:=tri8 (ac g1 H0.out)
  clear g1 HP
  go_wp2
  have T3:=ay HC1.out (.bool b) (.slice a X.length c) (.int .i64 E)
  have T4:=an HG.out (show w.heap.size≤w.heap.size+1 by omega) (.bool b) (.slice a X.length c) (.int .i64 E)
  have T5:=HNM.out.tri8 HC1.out b a X.length c (.int .i64 E)
  obtain⟨p0,p1,p2⟩:=tri8 T3
  have HE:=ab (And.intro T5 T4)
  clear T3 T4 T5
  generalize ((t1.setCell ⟨w.heap.size+1,0,none⟩ (.bool b)).setCell ⟨w.heap.size+1,1,none⟩ (.slice a X.length c)).setCell ⟨w.heap.size+1,2,none⟩ (.int .i64 E)=w5 at *
  refine bodyPost_ret (v:=.agg #[.bool b,.slice a X.length c,.int .i64 E]) (by simp [results,Tryz.results108,go_sem,p0,p1,p2]) rfl ?_
  exact⟨⟨_,_,_,_,X,rfl,rfl,HE.out.1⟩,HE.out.2⟩

theorem nl (b:Bool)(a:Option Addr)(c:Nat)(X:List Nat)(M E pos m:Int)(d:Nat)(w:World)(hN:Nm w b (.slice a X.length c) X M)(hM:M≠0)(hd:pos - E=(d:Int))(hd0:0<d)(he1:-1152921504606846976≤E)(he2:E≤1152921504606846976)(hp1:-1152921504606846976≤pos)(hp2:pos≤1152921504606846976)(hm:m=0∨m=1∨m=2)(hf:X.length≤17592186044416) :
  Calls Tryz.prog 108 #[.agg #[.bool b,.slice a X.length c,.int .i64 E],.int .i64 pos,.int .i64 m] w (gQ w (zz b (rq b M.natAbs d m)) pos):=by
 obtain⟨w0,hw0,hb0,h0,h1'⟩:=al w (.cells #[.bool b,.slice a X.length c,.int .i64 E] 125) (.cells #[.bool false,.slice none 0 0,.int .i64 0] 125)
 obtain⟨k0,k1,k2⟩:=tri8 h0
 have hx:val X≠0:=by rw [hN.abs];omega
 have hX:¬X.length=0:=by
  intro h
  rw [List.eq_nil_of_length_eq_zero h] at hx;exact hx rfl
 have HP:=bJ b a X.length c w0
 rw [decide_eq_false hX] at HP
 have wd:IntKind.i64.wrap (d:Int)=(d:Int):=by rw [IntKind.wrap_i64];omega
 have wn:IntKind.i64.wrap (-(d:Int))=-(d:Int):=by rw [IntKind.wrap_i64];omega
 have hd2:¬(d:Int)≤0:=by omega
 have hd3:d≤4611686018427387904:=by omega
 have hbx:blen (val X)≤64*X.length:=by rw [blen_le_iff,Nat.mul_comm,←W_pow];exact val_lt hN.arg.limbs
 have HSH:=ab (fun (W:World) (hg:Below w.heap.size w W)=>eZ _ X (-(d:Int)) W (hN.arg.below hg) (by omega) (by omega) (by omega) hx)
 rw [fl_down] at HSH
 have HGO:=ab (fun (W:World) (hg:Below w.heap.size w W)=>rg b a c X E d m W (hN.arg.below hg) hd0 hd3 hm)
 have hrq:rq b M.natAbs d m=val X / 2 ^ d+if ga b (val X) d m then 1 else 0:=by rw [←hN.abs];rfl
 rw [hrq]
 have hlen:(val X / 2 ^ d)≤val X:=Nat.div_le_self _ _
 have hbq:=blen_mono hlen
 have HBQ:=ab (show blen (val X / 2 ^ d)≤X.length*64 by omega)
 generalize val X / 2 ^ d=Q at *
 generalize ga b (val X) d m=g at *
 have H0:=ab h0
 have H1:=ab h1'
 have HB:=ab hb0
 clear h0 h1' hb0 hN hM hrq hx hlen hbq hbx
 generalize hmd:-(d:Int)=md at *
 have hmd2:-(d:Int)=md:=hmd
 clear hmd
 cases g
 ·skip
  go_enter Tryz.func108,Tryz.ntmps108
  go_wp2_with fail
  refine HP.mono ?_
  rintro e t1 ⟨rfl,g1⟩
  have G1:=ae HB.out g1
  have HS:=HSH.out t1 G1
  have HC0:=ab (ac g1 H0.out)
  have HC:=ab (ac g1 H1.out)
  have HG1:=ab G1
  obtain⟨l0,l1,l2⟩:=tri8 HC0.out
  clear HP g1 G1 HSH H0 H1 HB
  go_wp2_with fail
  refine HS.mono ?_
  rintro e t2 ⟨⟨a2,n2,c2,rs,rfl,A2,hn2,v2,r2⟩,g2⟩
  have G2:=ae HG1.out g2
  have HGG:=HGO.out t2 G2
  have HC3:=ab (ac g2 HC0.out)
  have HC4:=ab (ac g2 HC.out)
  have HG2:=ab G2
  have hrl:rs.length≤X.length:=bu r2 v2 HBQ.out
  have HA2:=ab (And.intro A2 (And.intro hn2 (And.intro v2 r2)))
  obtain⟨l0,l1,l2⟩:=tri8 HC3.out
  clear HS g2 G2 HGO A2 hn2 v2 r2 HC0 HC
  go_wp2_with fail
  refine HGG.mono ?_
  rintro e t3 ⟨rfl,g3⟩
  have HC5:=ab (ac g3 HC3.out)
  have HC6:=ab (ac g3 HC4.out)
  have HG3:=ab (ae HG2.out g3)
  obtain⟨A2,hn2,v2,r2⟩:=HA2.out
  have A3:=A2.below g3
  clear HGG g3 HC3 HC4
  have HNM:=ab (show Nm t3 b (.slice a2 n2 c2) rs (zz b Q) from ⟨A3.arg (by omega),r2,by rw [v2]⟩)
  have HC1:=ab HC6.out
  have HG:=ab HG3.out
  obtain⟨l0,l1,l2⟩:=tri8 HC5.out
  have hf1:=ak HC1.out
  obtain⟨m0,m1,m2⟩:=tri8 HC1.out
  have HN2:=ab hn2
  clear A2 A3 v2 r2 hn2
  go_wp2
  have T3:=ay HC1.out (.bool b) (.slice a2 n2 c2) (.int .i64 pos)
  have T4:=an HG.out (show w.heap.size≤w.heap.size+1 by omega) (.bool b) (.slice a2 n2 c2) (.int .i64 pos)
  have T5:=HNM.out.tri8 HC1.out b a2 n2 c2 (.int .i64 pos)
  obtain⟨p0,p1,p2⟩:=tri8 T3
  have HE:=ab (And.intro T5 T4)
  clear T3 T4 T5
  generalize ((t3.setCell ⟨w.heap.size+1,0,none⟩ (.bool b)).setCell ⟨w.heap.size+1,1,none⟩ (.slice a2 n2 c2)).setCell ⟨w.heap.size+1,2,none⟩ (.int .i64 pos)=w5 at *
  refine bodyPost_ret (v:=.agg #[.bool b,.slice a2 n2 c2,.int .i64 pos]) (by simp [results,Tryz.results108,go_sem,p0,p1,p2]) rfl ?_
  exact⟨⟨_,_,_,_,rs,rfl,HN2.out,HE.out.1⟩,HE.out.2⟩
 ·skip
  go_enter Tryz.func108,Tryz.ntmps108
  go_wp2_with fail
  refine HP.mono ?_
  rintro e t1 ⟨rfl,g1⟩
  have G1:=ae HB.out g1
  have HS:=HSH.out t1 G1
  have HC0:=ab (ac g1 H0.out)
  have HC:=ab (ac g1 H1.out)
  have HG1:=ab G1
  obtain⟨l0,l1,l2⟩:=tri8 HC0.out
  clear HP g1 G1 HSH H0 H1 HB
  go_wp2_with fail
  refine HS.mono ?_
  rintro e t2 ⟨⟨a2,n2,c2,rs,rfl,A2,hn2,v2,r2⟩,g2⟩
  have G2:=ae HG1.out g2
  have HGG:=HGO.out t2 G2
  have HC3:=ab (ac g2 HC0.out)
  have HC4:=ab (ac g2 HC.out)
  have HG2:=ab G2
  have hrl:rs.length≤X.length:=bu r2 v2 HBQ.out
  have HA2:=ab (And.intro A2 (And.intro hn2 (And.intro v2 r2)))
  obtain⟨l0,l1,l2⟩:=tri8 HC3.out
  clear HS g2 G2 HGO A2 hn2 v2 r2 HC0 HC
  go_wp2_with fail
  refine HGG.mono ?_
  rintro e t3 ⟨rfl,g3⟩
  have HC5:=ab (ac g3 HC3.out)
  have HC6:=ab (ac g3 HC4.out)
  have HG3:=ab (ae HG2.out g3)
  obtain⟨A2,hn2,v2,r2⟩:=HA2.out
  have A3:=A2.below g3
  clear HGG g3 HC3 HC4
  have HF:=po 1 t3 (by omega)
  have HA3:=ab A3
  have HV:=ab (And.intro hn2 (And.intro v2 r2))
  clear A2 A3 v2 r2 hn2
  go_wp2_with fail
  refine HF.mono ?_
  rintro e t4 ⟨⟨v4,rfl,A4⟩,g4⟩
  obtain⟨a4,c4,rfl⟩:=A4.shape
  have HU:=jP (.slice a2 n2 c2) _ rs (tr [1]) t4 ((HA3.out.below g4).arg (by omega)) (A4.arg (by simp [tr])) (by omega) (by simp [tr])
  rw [show val (tr [1])=1 by rw [val_tr];rfl,HV.out.2.1] at HU
  have HC7:=ab (ac g4 HC5.out)
  have HC8:=ab (ac g4 HC6.out)
  have HG4:=ab (ae HG3.out g4)
  clear HF g4 A4 HC5 HC6
  go_wp2_with fail
  refine HU.mono ?_
  rintro e t5 ⟨⟨a5,n5,c5,r5,rfl,A5,hn5,v5,q5⟩,g5⟩
  have HC1:=ab (ac g5 HC8.out)
  have HG:=ab (ae HG4.out g5)
  have hl5:r5.length≤X.length+1:=by
   refine bu q5 v5 ?_
   have h6:=(blen_le_iff Q (X.length*64)).1 HBQ.out
   refine (blen_le_iff _ _).2 ?_
   rw [Nat.add_mul,Nat.pow_add]
   have:=Nat.two_pow_pos (X.length*64)
   omega
  have HNM:=ab (show Nm t5 b (.slice a5 n5 c5) r5 (zz b (Q+1)) from ⟨A5.arg (by omega),q5,by rw [v5]⟩)
  have HN5:=ab hn5
  obtain⟨l0,l1,l2⟩:=tri8 (ac g5 HC7.out)
  have hf1:=ak HC1.out
  obtain⟨m0,m1,m2⟩:=tri8 HC1.out
  clear HU g5 A5 v5 q5 hn5 HC7 HC8
  go_wp2
  have T3:=ay HC1.out (.bool b) (.slice a5 n5 c5) (.int .i64 pos)
  have T4:=an HG.out (show w.heap.size≤w.heap.size+1 by omega) (.bool b) (.slice a5 n5 c5) (.int .i64 pos)
  have T5:=HNM.out.tri8 HC1.out b a5 n5 c5 (.int .i64 pos)
  obtain⟨p0,p1,p2⟩:=tri8 T3
  have HE:=ab (And.intro T5 T4)
  clear T3 T4 T5
  generalize ((t5.setCell ⟨w.heap.size+1,0,none⟩ (.bool b)).setCell ⟨w.heap.size+1,1,none⟩ (.slice a5 n5 c5)).setCell ⟨w.heap.size+1,2,none⟩ (.int .i64 pos)=w5 at *
  refine bodyPost_ret (v:=.agg #[.bool b,.slice a5 n5 c5,.int .i64 pos]) (by simp [results,Tryz.results108,go_sem,p0,p1,p2]) rfl ?_
  exact⟨⟨_,_,_,_,r5,rfl,HN5.out,HE.out.1⟩,HE.out.2⟩
end Go.Proofs.YtkfbobefkbpdoaaGreatDoor
namespace Go.Proofs.YtkfbobefkbpdoaaGreatDoor
open Lm

theorem iK (B:Nat)(X:List Nat)(j:Nat)(h:j<X.length):vb B (X.drop j)=X.getD j 0+B*vb B (X.drop (j+1)):=by
 rw [List.drop_eq_getElem_cons h,vb]
 simp [List.getD,h]

theorem pZ (B:Nat)(out:List Nat)(j q:Nat)(h:j<out.length):vb B ((out.set j q).drop j)=q+B*vb B (out.drop (j+1)):=by
 rw [iK B _ j (by simpa using h)]
 congr 1
 ·simp [List.getD,h]
 ·congr 2
  rw [List.drop_set_of_lt (by omega)]

theorem ss (X out:List Nat)(j y R q R2:Nat)(hX:j<X.length)(ho:j<out.length)
  (h:vb 4294967296 (X.drop (j+1))=vb 4294967296 (out.drop (j+1))*y+R) (hq:R*2 ^ 32+X.getD j 0=q*y+R2) :
  vb 4294967296 (X.drop j)=vb 4294967296 ((out.set j q).drop j)*y+R2:=by
 rw [iK _ X j hX,pZ _ _ _ _ ho,h]
 have e:(2:Nat) ^ 32=4294967296:=by decide
 rw [e] at hq
 generalize vb 4294967296 (out.drop (j+1))=V at *
 generalize X.getD j 0=x at *
 grind

theorem pV (y R t:Nat)(h:R<y*2 ^ (t+1))(hge:y*2 ^ t≤R):R - y*2 ^ t<y*2 ^ t:=by
 rw [Nat.pow_succ,←Nat.mul_assoc] at h
 omega

theorem rY (y R R2 q t:Nat)(h:R=q*y+R2)(hge:y*2 ^ t≤R2):R=(q+2 ^ t)*y+(R2 - y*2 ^ t):=by
 rw [Nat.add_mul,Nat.mul_comm (2 ^ t) y]
 omega

theorem qs (y R x:Nat)(hR:R<y)(hx:x<4294967296):R*2 ^ 32+x<y*2 ^ 32:=by
 have h1:(R+1)*2 ^ 32≤y*2 ^ 32:=Nat.mul_le_mul_right _ hR
 have e:(2:Nat) ^ 32=4294967296:=by decide
 rw [Nat.add_mul,Nat.one_mul] at h1
 omega

theorem mU (x y V R:Nat)(h:x=V*y+R)(hR:R<y):V=x / y∧R=x % y:=by
 subst h
 rw [Nat.mul_comm]
 refine⟨?_,?_⟩
 ·rw [Nat.mul_add_div (by omega),Nat.div_eq_of_lt hR,Nat.add_zero]
 ·rw [Nat.mul_add_mod,Nat.mod_eq_of_lt hR]

theorem lF {a b:Nat}(h:a<b):blen a≤blen b:=blen_mono (Nat.le_of_lt h)

theorem jl (y n:Nat):blen (y*2 ^ n)≤blen y+n:=by
 rw [blen_le_iff,Nat.pow_add]
 exact Nat.mul_lt_mul_of_pos_right ((blen_le_iff _ _).1 (Nat.le_refl _)) (Nat.two_pow_pos _)
end Go.Proofs.YtkfbobefkbpdoaaGreatDoor
namespace Go.Proofs.YtkfbobefkbpdoaaGreatDoor
open Go.RowKit
open Lm
attribute [local go_sem ↓] Go.wp_at_zero Go.wp_at_succ

theorem cZ {a b c:World}(h:Below a.heap.size a b)(k:Below b.heap.size b c):Below a.heap.size a c:=h.trans (k.mono h.size)

theorem Below.one (w:World)(o:Obj):Below w.heap.size w (w.alloc o):=(Below.refl _ _).alloc (Nat.le_refl _) _

theorem Blk.kept {w w':World}{b:Nat}{xs:List Nat}(h:Blk w b xs)(hb:Below w.heap.size w w'):Blk w' b xs:=by
 unfold Blk
 rw [hb.block b h.lt];exact h

theorem Arg.one (w:World)(z:Nat)(hz:z<18446744073709551616):Arg (w.alloc (.cells #[.int .u64 (z:Int)] 51)) (.slice (some ⟨w.heap.size,0,none⟩) 1 1) [z]:=by
 have hb:Blk (w.alloc (.cells #[.int .u64 (z:Int)] 51)) w.heap.size [z]:=by
  unfold Blk
  rw [heap_alloc_new]
  rfl
 exact⟨⟨_,_,rfl,Nat.le_refl _,by simp,.inr ⟨_,0,rfl,fun k hk=>by rw [Nat.zero_add];exact hb.cell k hk⟩⟩,by intro y hy;simp at hy;omega,by simp,fun n c e=>by cases e⟩

theorem ng (v1 v2:Value)(x y:Nat)(w:World)(h1:Num w v1 x)(h2:Num w v2 y)(hy:y≠0)(f1:blen x≤1125899906840000)(f2:blen y≤1125899906810000) :
  Calls Tryz.prog 83 #[v1,v2] w fun e w'=>(∃vq vr,e=.returned (.tuple #[vq,vr])∧Num w' vq (x / y)∧Num w' vr (x % y))∧Below w.heap.size w w':=by
 obtain⟨X,A1,hX,hXt,rfl,_⟩:=h1
 have lX:=dY hX hXt 35184372088750 (by omega)
 obtain⟨a1,c1,rfl,hc1,hm1,L1⟩:=A1.form
 obtain⟨i0,hi,hz0,hz1,hz2⟩:=info_parts Tryz.infoU
 have NY:=ab h2
 have F2:=ab f2
 have HY0:=ab hy
 clear f1 f2 hXt A1 h2 hy
 go_enter Tryz.func83,Tryz.ntmps83
 go_wp2_with (at_make;refine wpList_make_full _ rfl _ _ 27 rfl w.heap.size 51 i0 (.int .u64 0) 1 Tryz.underlying27 hi hz0 hz1 .i64 .i64 _ _ X.length rfl rfl (by omega) (by omega) (by rw [hz2];omega) (by unfold maxLen;omega) (Nat.le_refl _) ?_;intro w1 hown hgrow)
 have hb1:=Blk.made hown
 have hbel:Below w.heap.size w w1:=(Below.refl _ _).grown hgrow (Nat.le_refl _) (fun k hk=>by cases hk)
 clear hown hgrow hi hz0 hz1 hz2
 go_loopw [6,8] (fun r i wr=>∃(k R:Nat) (out:List Nat),k≤X.length∧i=.int .i64 ((k:Int) - 1)∧Num wr r R∧New (w.heap.size+1) r∧R<y∧out.length=X.length∧Digs 4294967296 out∧Blk wr w.heap.size out∧Below w.heap.size w wr ∧
   vb 4294967296 (X.drop k)=vb 4294967296 (out.drop k)*y+R) (fun _ i _=>(intOf i+1).toNat)
 case atStart=>exact⟨X.length,0,_,Nat.le_refl _,rfl,Num.nil _,New.nil _ _ _,by have:=HY0.out;omega,by simp,digs_replicate (by omega) _,hb1,hbel,by simp [vb]⟩
 case round=>
  obtain⟨k,R,out,hk,rfl,hnr,hnw0,hR,hlen,hdo,hblk,hbl,hval⟩:=hrel
  clear hb1 hbel
  by_cases hk0:k=0
  ·subst hk0
   have hve:=mU _ y _ R hval hR
   rw [List.drop_zero,List.drop_zero] at hve
   have hA:=Ans.of_blk (base:=w.heap.size) (zs:=out) (Nat.le_refl _) hblk List.take_length.symm (Nat.le_refl _) (by omega) (digs_limbs hdo)
   have H:=dw _ _ _ (hA.arg (by omega)) hdo (by omega)
   rw [hlen,hve.1] at H
   have HR:Hid (Num wr u6 (vb 4294967296 X % y)):=ab (by rw [←hve.2];exact hnr)
   have HL:=ab hbl
   clear hval hblk hbl hX hA hve L1 hnr hnw0
   go_wp2_with fail
   refine H.mono ?_
   rintro e w2 ⟨⟨v',rfl,hnum⟩,rfl⟩
   have HN:=ab hnum
   clear hnum H
   go_wp2
   go_ret2
   exact⟨⟨v',u6,rfl,HN.out,HR.out⟩,HL.out⟩
  ·obtain⟨j,rfl⟩:∃j,k=j+1:=⟨k - 1,by omega⟩
   rcases L1.below hbl with h0|⟨b,off,rfl,hcell⟩
   ·rw [h0] at hk;simp at hk
   ·have hck:=hcell j (by omega)
    have hbw:b<wr.heap.size:=aC.block (zs:=X) (.inr ⟨b,off,rfl,hcell⟩) (by omega)
    have ej:(((j+1:Nat):Int) - 1)=(j:Int):=by omega
    rw [ej]
    have z1:=dig_lt (by omega) hX j
    have HST:=ab (fun q R2 hq=>ss X out j y R q R2 (by omega) (by omega) hval hq)
    have HRL:=ab (qs y R (X.getD j 0) hR z1)
    have hfR:blen R+32≤1125899906840000:=by have:=lF hR;have:=F2.out;omega
    generalize X.getD j 0=x at *
    have HC:=ab (fun (u:World) (hu:Below wr.heap.size wr u)=>(show u.cell? ⟨b,off+j,none⟩=some (.int .u64 (x:Int)) by rw [hu.cell (p:=⟨b,off+j,none⟩) hbw];exact hck))
    have D0:Hid (Below wr.heap.size wr wr.drew):=ab ((Below.refl _ _).drew)
    obtain⟨RS,hRS⟩:∃RS,RS=R*2 ^ 32:=⟨_,rfl⟩
    have HSH:=ab (fun (u:World) (hu:Below wr.heap.size wr u)=>(by have h:=cY _ R 32 u (hnr.below hu) hfR;rw [←hRS] at h;exact h:Calls Tryz.prog 61 #[u6,.int .i64 32] u fun e w'=>(∃v',e=.returned v'∧Num w' v' RS)∧Below u.heap.size u w'))
    have ex:vb 4294967296 [x]=x:=by simp [vb]
    have HNO:=ab (fun (u:World) (v:Value) (hv:Arg u v [x])=>(by have h:=dw v [x] u hv (by intro z hz;simp at hz;omega) (by simp);rw [ex] at h;exact h:Calls Tryz.prog 82 #[v] u fun e w'=>(∃v',e=.returned v'∧Num u v' x)∧w'=u))
    have hfA:blen RS≤1125899906840000:=by rw [hRS];have:=jl R 32;omega
    have hfB:blen x≤1125899906840000:=by have:=(blen_le_iff x 32).2 (by omega);omega
    have HAD:=ab (fun (u:World) (va vb':Value) (na:Num u va RS) (nb:Num u vb' x)=>jf va vb' _ _ u na nb hfA hfB)
    have HB:=ab hblk
    have HL:=ab hbl
    rw [←hRS] at HST HRL
    have HRS:=ab hRS
    clear hRS
    have hx18:x<18446744073709551616:=by omega
    have hi1:(0:Int)≤(j:Int):=by omega
    have hi2:(j:Int)<(X.length:Int):=by omega
    have hnew:=World.new_ne wr ⟨b,off+j,none⟩ hck
    clear hval hblk hbl hcell hnr hnw0 hX L1 ex hfA hfB
    go_wp2
    go_region_held3 (fun w'=>w'.cell? ⟨b,off+j,none⟩=some (.int .u64 x)) (go_keep) (first
     | (go_at_call 61;refine (HSH.out _ (by first|exact D0.out|exact cZ D0.out (Below.one _ _))).mono ?_;rintro e u1 ⟨⟨v1',rfl,N1⟩,b1⟩;(first | (have BU:=cZ D0.out b1) | (have BU:=cZ (cZ D0.out (Below.one _ _)) b1));(have hkS:=HC.out u1 BU);(try replace N2:=N2.below b1))
     | (go_at_call 82;refine (HNO.out _ _ (by first|exact Arg.one u1 x hx18|exact Arg.one wr.drew x hx18|exact (Arg.one wr.drew x hx18).below b1)).mono ?_;rintro e u2 ⟨⟨v2',rfl,N2⟩,hw⟩;subst hw)
     | (go_at_call 99;refine (HAD.out _ _ _ (by first|exact N1|exact N1.below (Below.one _ _)) N2).mono ?_;rintro e u3 ⟨⟨v3,rfl,N3,nw3⟩,b3⟩;(first | (have B3:=cZ BU b3) | (have B3:=cZ (cZ BU (Below.one _ _)) b3));(have hkS3:=HC.out u3 B3)))
    all_goals
     have N3':=ab N3
     have hsz3:w.heap.size<wr.heap.size:=HB.out.lt
     have NW3:Hid (New (w.heap.size+1) v3):=ab (nw3.mono (by first | (have:=BU.size;omega) | (have:=BU.size;simp;omega)))
     clear nw3 hsz3
     have BW:=ab (HL.out.trans (B3.mono HL.out.size))
     have HB3:=ab (HB.out.kept B3)
     clear N1 N2 b1 b3 BU hkS hkS3 N3 B3 HSH HNO HAD HC D0 HB HL hck hnew HRS hfR hx18 hi2 hi1
     obtain⟨R',hR'⟩:∃R',R'=RS+x:=⟨_,rfl⟩
     rw [←hR'] at N3' HRL HST
     clear hR'
     have HCMP:=dD v3 v2 R' y u3 N3'.out (NY.out.below BW.out)
     have hi1:(0:Int)≤(j:Int):=by omega
     have hi2:(j:Int)<(X.length:Int):=by omega
     by_cases hlt:R'<y
     ·have HST2:=ab (HST.out 0 R' (by omega))
      have hc:cmpN R' y=-1:=cmpN_lt hlt
      rw [hc] at HCMP
      go_wp2_with fail
      refine HCMP.mono ?_
      rintro e u4 ⟨rfl,hs⟩
      have BW4:=ab (BW.out.trans ((hs.below u3.heap.size).mono BW.out.size))
      have HN4:=ab (N3'.out.below (hs.below _))
      have hb4:=HB3.out.kept (hs.below _)
      have hfr:=hb4.free j
      have hco:=hb4.cell j (by omega)
      generalize out.getD j 0=o at *
      have HB4:=ab hb4
      have HLT:=ab hlt
      clear hb4 hs HCMP hc hlt HB3 BW N3' HST HRL
      go_wp2
      go_roundw
      case rel=>exact⟨j,R',out.set j 0,by omega,rfl,HN4.out.store NW3.out,NW3.out,HLT.out,by simp;omega,digs_set hdo _ _ (by omega),HB4.out.set j 0,BW4.out.setCell (Nat.le_refl _) _,HST2.out⟩
      case measure=>simp [intOf]
     ·have hd:decide (cmpN R' y ≥ 0)=true:=by
       unfold cmpN;rw [if_neg hlt];split <;> decide
      have hd2:decide (0≤cmpN R' y)=true:=hd
      have HGE:=ab hlt
      go_wp2_with fail
      refine HCMP.mono ?_
      rintro e u4 ⟨rfl,hs⟩
      generalize cmpN R' y=cc at *
      have BW4:=ab (BW.out.trans ((hs.below u3.heap.size).mono BW.out.size))
      have HN4:=ab (N3'.out.below (hs.below _))
      have HB4:=ab (HB3.out.kept (hs.below _))
      clear hs HCMP hlt HB3 BW N3'
      go_wp2
      go_loopw [6,9,10] (fun r q s wr2=>∃(t Q R2:Nat),t≤32∧s=.int .i64 ((t:Int) - 1)∧q=.int .u64 Q∧Num wr2 r R2∧New (w.heap.size+1) r∧R'=Q*y+R2∧R2<y*2 ^ t∧Q+2 ^ t≤4294967296∧Blk wr2 w.heap.size out∧Below w.heap.size w wr2) (fun _ _ s _=>(intOf s+1).toNat)
      case atStart=>exact⟨32,0,R',Nat.le_refl _,rfl,rfl,HN4.out,NW3.out,by omega,HRL.out,by decide,HB4.out,BW4.out⟩
      case round=>
       obtain⟨t,Q,R2,ht,rfl,rfl,hn2,hnw2,hsum,hR2,hQ,hblk2,hbl2⟩:=hrel
       clear HN4 HB4 BW4 hd hd2
       have HSUM:=ab hsum
       have HR2:=ab hR2
       have HQ:=ab hQ
       have HB5:=ab hblk2
       have HL5:=ab hbl2
       have HN5:=ab hn2
       have NW5:=ab hnw2
       clear hnw2 NW3
       clear hsum hR2 hQ
       by_cases ht0:t=0
       ·subst ht0
        have HST2:=ab (HST.out Q R2 HSUM.out)
        have bQ:Q<4294967296:=by have:=HQ.out;rw [Nat.pow_zero] at this;omega
        have HLT:Hid (R2<y):=ab (by have:=HR2.out;rwa [Nat.pow_zero,Nat.mul_one] at this)
        have hfr:=hblk2.free j
        have hco:=hblk2.cell j (by omega)
        generalize out.getD j 0=o at *
        clear hblk2 hbl2 hn2 HST HRL HSUM HQ HR2
        go_wp2
        go_roundw
        case rel=>exact⟨j,R2,out.set j Q,by omega,rfl,HN5.out.store NW5.out,NW5.out,HLT.out,by simp;omega,digs_set hdo _ _ bQ,HB5.out.set j Q,HL5.out.setCell (Nat.le_refl _) _,HST2.out⟩
        case measure=>simp [intOf]
       ·obtain⟨m,rfl⟩:∃m,t=m+1:=⟨t - 1,by omega⟩
        have em:(((m+1:Nat):Int) - 1)=(m:Int):=by omega
        rw [em]
        have HS:=cY v2 y m wr (NY.out.below hbl2) (by have:=F2.out;omega)
        have hfR2:blen R2≤1125899906840000:=by
         have h1:=lF HR2.out
         have h2:=jl y (m+1)
         have:=F2.out
         omega
        clear hblk2 hbl2 hn2
        go_wp2_with fail
        refine HS.mono ?_
        rintro e u5 ⟨⟨vx,rfl,Nx⟩,hb5⟩
        have HL6:=ab (HL5.out.trans (hb5.mono HL5.out.size))
        have HB6:=ab (HB5.out.kept hb5)
        have HN6:=ab (HN5.out.below hb5)
        have HCM:=dD u6 vx R2 (y*2 ^ m) u5 HN6.out Nx
        clear HS hb5 HL5 HB5 HN5
        by_cases hge:y*2 ^ m≤R2
        ·have hd:decide (cmpN R2 (y*2 ^ m) ≥ 0)=true:=by
          unfold cmpN;rw [if_neg (by omega)];split <;> decide
         have hd2:decide (0≤cmpN R2 (y*2 ^ m))=true:=hd
         have HSUM2:=ab (rY y R' R2 Q m HSUM.out hge)
         have HR3:=ab (pV y R2 m HR2.out hge)
         have HSB:=fun (u:World) (ha:Num u u6 R2) (hb:Num u vx (y*2 ^ m))=>kF u6 vx R2 (y*2 ^ m) u ha hb hge hfR2
         have HQ2:Hid (Q+2 ^ m+2 ^ m≤4294967296):=ab (by have:=HQ.out;rw [Nat.pow_succ] at this;omega)
         have hP0:0<2 ^ m:=Nat.two_pow_pos m
         have HN7:=ab Nx
         generalize cmpN R2 (y*2 ^ m)=cc at *
         generalize hYm:y*2 ^ m=Y2 at *
         have HYm:=ab hYm
         clear hYm
         go_wp2_with fail
         refine HCM.mono ?_
         rintro e u7 ⟨rfl,hs⟩
         have HL7:=ab (HL6.out.trans ((hs.below u5.heap.size).mono HL6.out.size))
         have HB7:=ab (HB6.out.kept (hs.below _))
         have HS7:=HSB u7 (HN6.out.below (hs.below _)) (HN7.out.below (hs.below _))
         clear HCM hs HL6 HB6 HN6 HN7 Nx HSB
         go_wp2_with fail
         refine HS7.mono ?_
         rintro e u8 ⟨⟨vr,rfl,Nr,nwr⟩,hb8⟩
         have HL8:=ab (HL7.out.trans (hb8.mono HL7.out.size))
         have HB8:=ab (HB7.out.kept hb8)
         have HN8:=ab Nr
         have NW8:Hid (New (w.heap.size+1) vr):=ab (nwr.mono HB7.out.lt)
         clear HS7 hb8 Nr nwr HL7 HB7 hge hd hd2
         obtain⟨P,hP⟩:∃P,P=2 ^ m:=⟨_,rfl⟩
         have HPm:=ab hP
         have eP:(2:Int) ^ m=(P:Int):=by rw [hP];push_cast;rfl
         have bP:Q+P+P≤4294967296:=by rw [hP];exact HQ2.out
         have bP0:0<P:=by rw [hP];exact hP0
         rw [←hP] at HSUM2
         clear hP hP0 HQ2
         have eQ:(Q:Int)+(P:Int)=((Q+P:Nat):Int):=by omega
         generalize Q+P=Q2 at *
         have wP:IntKind.u64.wrap (P:Int)=(P:Int):=by rw [IntKind.wrap_u64];omega
         have wQ:IntKind.u64.wrap (Q2:Int)=(Q2:Int):=by rw [IntKind.wrap_u64];omega
         go_wp2
         go_roundw
         case rel=>
          refine⟨m,Q2,R2 - Y2,by omega,rfl,rfl,HN8.out,NW8.out,HSUM2.out,?_,?_,HB8.out,HL8.out⟩
          ·rw [HYm.out];exact HR3.out
          ·rw [←HPm.out];exact bP
         case measure=>simp [intOf]
        ·have hlt2:R2<y*2 ^ m:=by omega
         have hc:cmpN R2 (y*2 ^ m)=-1:=cmpN_lt hlt2
         rw [hc] at HCM
         have HLT2:=ab hlt2
         have HQ2:Hid (Q+2 ^ m≤4294967296):=ab (by have:=HQ.out;rw [Nat.pow_succ] at this;omega)
         clear hlt2 hc hge Nx
         go_wp2_with fail
         refine HCM.mono ?_
         rintro e u7 ⟨rfl,hs⟩
         have HL7:=ab (HL6.out.trans ((hs.below u5.heap.size).mono HL6.out.size))
         have HB7:=ab (HB6.out.kept (hs.below _))
         have HN7:=ab (HN6.out.below (hs.below _))
         clear HCM hs HL6 HB6 HN6
         go_wp2
         go_roundw
         case rel=>exact⟨m,Q,R2,by omega,rfl,rfl,HN7.out,NW5.out,HSUM.out,HLT2.out,HQ2.out,HB7.out,HL7.out⟩
         case measure=>simp [intOf]
end Go.Proofs.YtkfbobefkbpdoaaGreatDoor
namespace Go.Proofs.YtkfbobefkbpdoaaGreatDoor
open Go.RowKit
open Lm

theorem gU (w:World)(o1 o2 o3 o4:Obj):∃w0,(((w.alloc o1).alloc o2).alloc o3).alloc o4=w0∧Below w.heap.size w w0∧w0.heap[w.heap.size]?=some o1∧w0.heap[w.heap.size+1]?=some o2∧w0.heap[w.heap.size+2]?=some o3∧w0.heap[w.heap.size+3]?=some o4:=by
 obtain⟨w1,h1,b1,c1,c2,c3⟩:=aM w o1 o2 o3
 obtain⟨w2,h2,b2,c4⟩:=ag w1 o4
 have hs:w1.heap.size=w.heap.size+3:=by rw [←h1,World.size_alloc,World.size_alloc,World.size_alloc]
 refine⟨w2,by rw [h1];exact h2,b1.trans (b2.mono b1.size),?_,?_,?_,by rw [←hs];exact c4⟩
 ·rw [b2.block _ (lt_of_block c1)];exact c1
 ·rw [b2.block _ (lt_of_block c2)];exact c2
 ·rw [b2.block _ (lt_of_block c3)];exact c3

theorem cM {B:Nat}{w0 w:World}{g:Nat}{u0 u1 u2 u3:Value}(h:Below B w0 w)(hg:B≤g):Below B w0 ((((w.setCell ⟨g,0,none⟩ u0).setCell ⟨g,1,none⟩ u1).setCell ⟨g+1,0,none⟩ u2).setCell ⟨g+1,1,none⟩ u3):=
 aO (aO h hg) (by omega)
end Go.Proofs.YtkfbobefkbpdoaaGreatDoor

