/- What the laws of spans use: the document's Told. -/
import Derived.Test.YteflkojglmleaaaGreatDoorB08
import Derived.Test.YteflkojglmleaaaGreatDoorB06
import Derived.Deep.RegionHeld3
import Derived.Test.YteflkojglmleaaaGreatDoorB02
import Derived.Test.YteflkojglmleaaaGreatDoorB05
set_option maxRecDepth 20000
set_option maxHeartbeats 4000000
namespace Go.Proofs.YteflkojglmleaaaGreatDoor
open Go.RowKit
open Lm
attribute [local go_sem ↓] Go.wp_at_zero Go.wp_at_succ

theorem gT.code {w:World}{b:Bool}{v:Value}{M E:Int}{b':Bool}{v':Value}{E' f:Int}(h:gT w b v M E b' v' E' f):f=ba M E:=by
 unfold ba
 rcases h with ⟨rfl,_,_,_,h1,h2,_⟩|⟨rfl,h1⟩|⟨rfl,h1,h2⟩
 ·rw [if_neg (by omega),if_pos h2]
 ·rw [if_pos h1]
 ·rw [if_neg (by omega),if_neg (by rw [h2];decide)]

def rO (w:World)(e:Ending)(w':World)(b1:Bool)(a1:Option Addr)(n1 k1:Nat)(E1:Int)(b2:Bool)(a2:Option Addr)(n2 k2:Nat)(E2 R:Int):Prop:=
 (∃p a n k x p' a' n' k' x',e=.returned (.tuple #[.agg #[.bool p,.slice a n k,.int .i64 x,.bool p',.slice a' n' k',.int .i64 x'],.int .i64 R])∧(R=0→p=b1∧a=a1∧n=n1∧k=k1∧x=E1∧p'=b2∧a'=a2∧n'=n2∧k'=k2∧x'=E2))∧Below w.heap.size w w'

theorem jv (b1:Bool)(a1:Option Addr)(n1 k1:Nat)(M1 E1:Int)(b2:Bool)(a2:Option Addr)(n2 k2:Nat)(M2 E2:Int)(w:World)(h1:Dn w b1 (.slice a1 n1 k1) M1)(h2:Dn w b2 (.slice a2 n2 k2) M2) :
  Calls Tryz.prog 25 #[.agg #[.bool b1,.slice a1 n1 k1,.int .i64 E1,.bool b2,.slice a2 n2 k2,.int .i64 E2]] w fun e w'=>rO w e w' b1 a1 n1 k1 E1 b2 a2 n2 k2 E2 (ak (ba M1 E1) (ba M2 E2)):=by
 obtain⟨w0,hw0,hb0,q0,q9⟩:=aA w (.cells #[.bool b1,.slice a1 n1 k1,.int .i64 E1,.bool b2,.slice a2 n2 k2,.int .i64 E2] 43) (.cells #[.bool false,.slice none 0 0,.int .i64 0,.bool false,.slice none 0 0,.int .i64 0] 43)
 obtain⟨y0,y1,y2,y3,y4,y5⟩:=hexa q0
 have HU0:=ab hb0
 have HQ0:=ab q0
 have HR0:=ab q9
 have C1:=ab (fun (W:World) (hg:Below w.heap.size w W)=>gX b1 a1 n1 k1 M1 E1 W (h1.below hg))
 have C2:=ab (fun (W:World) (hg:Below w.heap.size w W)=>gX b2 a2 n2 k2 M2 E2 W (h2.below hg))
 have WO:=ab (fun (W:World)=>bH (ba M1 E1) (ba M2 E2) W (i6 _ _) (i6 _ _))
 obtain⟨R,hRR⟩:∃R,ak (ba M1 E1) (ba M2 E2)=R:=⟨_,rfl⟩
 rw [hRR] at WO ⊢
 clear q0 q9 hb0 h1 h2 hRR
 go_enter Tryz.func25,Tryz.ntmps25
 go_wp2_with fail
 refine (C1.out w0 HU0.out).mono ?_
 rintro e t1 ⟨⟨b6,a6,n6,c6,e6,d6,rfl,hg⟩,g1⟩
 have hc:=hg.code
 subst hc
 obtain⟨w2,hw2,hb2,q2⟩:=af t1 (.cells #[.bool b6,.slice a6 n6 c6,.int .i64 e6] 41)
 have s2:=ae g1 hb2
 have HU2:=ab (ae HU0.out s2)
 have HQ1:=ab (ac s2 HQ0.out)
 have HR1:=ab (ac s2 HR0.out)
 clear g1 hg hb2 q2 s2 y0 y1 y2 y3 y4 y5 hw0
 obtain⟨z0,z1,z2,z3,z4,z5⟩:=hexa HQ1.out
 go_wp2_with fail
 refine (C2.out w2 HU2.out).mono ?_
 rintro e t3 ⟨⟨b7,a7,n7,c7,e7,d7,rfl,hg⟩,g1⟩
 have hc:=hg.code
 subst hc
 obtain⟨w4,hw4,hb4,q4⟩:=af t3 (.cells #[.bool b7,.slice a7 n7 c7,.int .i64 e7] 41)
 have s4:=ae g1 hb4
 have HG:=ab (ae HU2.out s4)
 have HC1:=ab (ac s4 HR1.out)
 clear z0 z1 z2 z3 z4 z5
 obtain⟨z0,z1,z2,z3,z4,z5⟩:=hexa (ac s4 HQ1.out)
 clear g1 hg hb4 q4 s4 hw2
 have W1:=WO.out w4
 have W2:=WO.out w4
 generalize ba M1 E1=D1 at *
 generalize ba M2 E2=D2 at *
 have hf1:=aD HC1.out
 obtain⟨m0,m1,m2,m3,m4,m5⟩:=hexa HC1.out
 clear WO
 by_cases hR:R=0
 ·subst hR
  go_wp2_with fail
  refine W1.mono ?_
  rintro e wn ⟨rfl,hw⟩;rw [hw];clear hw wn W1 W2
  go_wp2
  have T3:=aK HC1.out (.bool b1) (.slice a1 n1 k1) (.int .i64 E1) (.bool b2) (.slice a2 n2 k2) (.int .i64 E2)
  have T4:=aG HG.out (show w.heap.size≤w.heap.size+1 by omega) (.bool b1) (.slice a1 n1 k1) (.int .i64 E1) (.bool b2) (.slice a2 n2 k2) (.int .i64 E2)
  obtain⟨p0,p1,p2,p3,p4,p5⟩:=hexa T3
  have HE:=ab T4
  clear T3 T4
  generalize (((((w4.setCell ⟨w.heap.size+1,0,none⟩ (.bool b1)).setCell ⟨w.heap.size+1,1,none⟩ (.slice a1 n1 k1)).setCell ⟨w.heap.size+1,2,none⟩ (.int .i64 E1)).setCell ⟨w.heap.size+1,3,none⟩ (.bool b2)).setCell ⟨w.heap.size+1,4,none⟩ (.slice a2 n2 k2)).setCell ⟨w.heap.size+1,5,none⟩ (.int .i64 E2)=w5 at *
  refine bodyPost_ret (v:=.tuple #[.agg #[.bool b1,.slice a1 n1 k1,.int .i64 E1,.bool b2,.slice a2 n2 k2,.int .i64 E2],.int .i64 0]) (by simp [results,Tryz.results25,go_sem,p0,p1,p2,p3,p4,p5]) rfl ?_
  exact⟨⟨_,_,_,_,_,_,_,_,_,_,rfl,fun _=>⟨rfl,rfl,rfl,rfl,rfl,rfl,rfl,rfl,rfl,rfl⟩⟩,HE.out⟩
 ·have i9:(R != 0)=true:=by simpa using hR
  go_wp2_with fail
  refine W1.mono ?_
  rintro e wn ⟨rfl,hw⟩;rw [hw];clear hw wn W1
  go_wp2_with fail
  refine W2.mono ?_
  rintro e wn ⟨rfl,hw⟩;rw [hw];clear hw wn W2
  go_wp2
  have T3:=aK HC1.out (.bool false) (.slice none 0 0) (.int .i64 0) (.bool false) (.slice none 0 0) (.int .i64 0)
  have T4:=aG HG.out (show w.heap.size≤w.heap.size+1 by omega) (.bool false) (.slice none 0 0) (.int .i64 0) (.bool false) (.slice none 0 0) (.int .i64 0)
  obtain⟨p0,p1,p2,p3,p4,p5⟩:=hexa T3
  have HE:=ab T4
  clear T3 T4
  generalize (((((w4.setCell ⟨w.heap.size+1,0,none⟩ (.bool false)).setCell ⟨w.heap.size+1,1,none⟩ (.slice none 0 0)).setCell ⟨w.heap.size+1,2,none⟩ (.int .i64 0)).setCell ⟨w.heap.size+1,3,none⟩ (.bool false)).setCell ⟨w.heap.size+1,4,none⟩ (.slice none 0 0)).setCell ⟨w.heap.size+1,5,none⟩ (.int .i64 0)=w5 at *
  refine bodyPost_ret (v:=.tuple #[.agg #[.bool false,.slice none 0 0,.int .i64 0,.bool false,.slice none 0 0,.int .i64 0],.int .i64 R]) (by simp [results,Tryz.results25,go_sem,p0,p1,p2,p3,p4,p5]) rfl ?_
  exact⟨⟨_,_,_,_,_,_,_,_,_,_,rfl,fun h=>absurd h hR⟩,HE.out⟩

theorem s9 (v:Value)(pos:Int)(w:World)(hK:aj pos=true)(hf:Calls Tryz.prog 74 #[v] w fun e w'=>e=.returned (.int .i64 0)∧Below w.heap.size w w') :
  Calls Tryz.prog 46 #[.int .i64 pos,v] w fun e w'=>e=.returned (.int .i64 0)∧Below w.heap.size w w':=by
 go_enter Tryz.func46,Tryz.ntmps46
 go_wp2_with fail
 refine hf.mono ?_
 rintro e t1 ⟨rfl,g1⟩
 have C:=qD pos t1 hK
 have HB:=ab g1
 clear g1
 go_wp2_with fail
 refine C.mono ?_
 rintro e wn ⟨rfl,hw⟩;rw [hw];clear hw wn C
 go_wp2
 go_ret
 exact⟨rfl,HB.out⟩

theorem qI (b1:Bool)(a1:Option Addr)(n1 k1:Nat)(ex1:Int)(b2:Bool)(a2:Option Addr)(n2 k2:Nat)(ex2:Int)(b3:Bool)(a3:Option Addr)(n3 k3:Nat)(ex3:Int)(b4:Bool)(a4:Option Addr)(n4 k4:Nat)(ex4:Int)(pos:Int)(L:Nat)(V1 V2 V3 V4:Int)(w:World)(hT:Tab w)(hL:4611686018427387904≤L)(hK:aj pos=true)(h1:I8 w b1 a1 n1 k1 ex1 L V1)(h2:I8 w b2 a2 n2 k2 ex2 L V2)(h3:I8 w b3 a3 n3 k3 ex3 L V3)(h4:I8 w b4 a4 n4 k4 ex4 L V4)(hE1:aj ex1=true)(hE2:aj ex2=true)(hE3:aj ex3=true)(hE4:aj ex4=true)(hv1:V1≤V2)(hv2:V3≤V4)(ho:Ok8 L (V1+V3))(ho2:Ok8 L (V2+V4))(ho3:Ok8 L (rv 0 (V1+V3) (2 ^ (pos+L).toNat)))(ho4:Ok8 L (rv 1 (V2+V4) (2 ^ (pos+L).toNat))) :
  Calls Tryz.prog 21 #[.agg #[.bool b1,.slice a1 n1 k1,.int .i64 ex1,.bool b2,.slice a2 n2 k2,.int .i64 ex2],.agg #[.bool b3,.slice a3 n3 k3,.int .i64 ex3,.bool b4,.slice a4 n4 k4,.int .i64 ex4],.int .i64 pos,.func (.func 22) #[] #[]] w fun e w'=>SS8 w e w' L (rv 0 (V1+V3) (2 ^ (pos+L).toNat)) (rv 1 (V2+V4) (2 ^ (pos+L).toNat)):=by
 obtain⟨w0,hw0,hb0,q0,q1,q9⟩:=aE w (.cells #[.bool b1,.slice a1 n1 k1,.int .i64 ex1,.bool b2,.slice a2 n2 k2,.int .i64 ex2] 33) (.cells #[.bool b3,.slice a3 n3 k3,.int .i64 ex3,.bool b4,.slice a4 n4 k4,.int .i64 ex4] 33) (.cells #[.bool false,.slice none 0 0,.int .i64 0,.bool false,.slice none 0 0,.int .i64 0] 33)
 obtain⟨w1,hw1,hb1,q2⟩:=af w0 (.cells #[.bool b1,.slice a1 n1 k1,.int .i64 ex1,.bool b2,.slice a2 n2 k2,.int .i64 ex2,.bool b3,.slice a3 n3 k3,.int .i64 ex3,.bool b4,.slice a4 n4 k4,.int .i64 ex4] 33)
 obtain⟨y0,y1,y2,y3,y4,y5⟩:=hexa q0
 obtain⟨z0,z1,z2,z3,z4,z5⟩:=hexa q1
 have gb:=ae hb0 hb1
 have CF:=s9 (.slice (some ⟨w0.heap.size,0,none⟩) 2 2) pos w1 hK (ut w0.heap.size b1 a1 n1 k1 ex1 b2 a2 n2 k2 ex2 b3 a3 n3 k3 ex3 b4 a4 n4 k4 ex4 L V1 V2 V3 V4 w1 q2 hL (h1.below gb) (h2.below gb) (h3.below gb) (h4.below gb) hE1 hE2 hE3 hE4 hv1 hv2)
 have CS:=ab (fun (W:World) (hg:Below w.heap.size w W)=>rZ b1 a1 n1 k1 ex1 b2 a2 n2 k2 ex2 b3 a3 n3 k3 ex3 b4 a4 n4 k4 ex4 L V1 V2 V3 V4 W (hT.below hg) (h1.below hg) (h2.below hg) (h3.below hg) (h4.below hg) hE1 hE2 hE3 hE4 ho ho2)
 have CO:=ab (fun (W:World) (hg:Below w.heap.size w W) (b1:Bool) (a1:Option Addr) (n1 k1:Nat) (ex1:Int) (b3:Bool) (a3:Option Addr) (n3 k3:Nat) (ex3:Int) (h1:G8 W b1 a1 n1 k1 ex1 L (V1+V3)) (h3:G8 W b3 a3 n3 k3 ex3 L (V2+V4))=>po b1 a1 n1 k1 ex1 b3 a3 n3 k3 ex3 pos L (V1+V3) (V2+V4) W (hT.below hg) h1 h3 hL hK ho3 ho4)
 have HU1:=ab gb
 have HQ0:=ab (ac hb1 q0)
 have HQ1:=ab (ac hb1 q1)
 have HR1:Hid (w1.heap[w.heap.size+1+1]?=some (.cells #[.bool false,.slice none 0 0,.int .i64 0,.bool false,.slice none 0 0,.int .i64 0] 33)):=ab (ac hb1 q9)
 generalize rv 0 (V1+V3) (2 ^ (pos+L).toNat)=VC at *
 generalize rv 1 (V2+V4) (2 ^ (pos+L).toNat)=VD at *
 generalize V1+V3=VA at *
 generalize V2+V4=VB at *
 clear q0 q1 q2 q9 hb0 hb1 gb hT h1 h2 h3 h4 ho ho2 ho3 ho4 hv1 hv2
 go_enter Tryz.func21,Tryz.ntmps21
 go_wp2_with fail
 refine CF.mono ?_
 rintro e t2 ⟨rfl,g2⟩
 have HU2:=ab (ae HU1.out g2)
 have HR2:=ab (ac g2 HR1.out)
 have C:=CS.out t2 HU2.out
 clear y0 y1 y2 y3 y4 y5 z0 z1 z2 z3 z4 z5 CF hw0 hw1
 obtain⟨y0,y1,y2,y3,y4,y5⟩:=hexa (ac g2 HQ0.out)
 obtain⟨z0,z1,z2,z3,z4,z5⟩:=hexa (ac g2 HQ1.out)
 clear g2
 go_wp2_with fail
 refine C.mono ?_
 rintro e t3 ⟨⟨b8,a8,n8,c8,e8,b9,a9,n9,c9,e9,rfl,hg1,hg2⟩,g3⟩
 obtain⟨w4,hw4,hb4,q4⟩:=af t3 (.cells #[.bool b8,.slice a8 n8 c8,.int .i64 e8,.bool b9,.slice a9 n9 c9,.int .i64 e9] 33)
 have s4:=ae g3 hb4
 have HU0:=ab (ae HU2.out s4)
 have HR0:=ab (ac s4 HR2.out)
 have C4:=CO.out w4 HU0.out b8 a8 n8 c8 e8 b9 a9 n9 c9 e9 (hg1.below hb4) (hg2.below hb4)
 clear y0 y1 y2 y3 y4 y5 z0 z1 z2 z3 z4 z5 C g3 hg1 hg2 hb4 s4
 obtain⟨x0,x1,x2,x3,x4,x5⟩:=hexa q4
 clear q4
 have C:=C4
 clear C4
 go_wp2_with fail
 refine C.mono ?_
 rintro e t1 ⟨⟨b6,a6,n6,c6,e6,b7,a7,n7,c7,e7,rfl,hg1,hg2⟩,g1⟩
 have HC1:=ab (ac g1 HR0.out)
 have HG:=ab (ae HU0.out g1)
 have HD1:=ab hg1
 have HD2:=ab hg2
 have hf1:=aD HC1.out
 obtain⟨m0,m1,m2,m3,m4,m5⟩:=hexa HC1.out
 clear g1 hg1 hg2 C
 go_wp2
 have T3:=aK HC1.out (.bool b6) (.slice a6 n6 c6) (.int .i64 e6) (.bool b7) (.slice a7 n7 c7) (.int .i64 e7)
 have T4:=aG HG.out (show w.heap.size≤w.heap.size+1+1 by omega) (.bool b6) (.slice a6 n6 c6) (.int .i64 e6) (.bool b7) (.slice a7 n7 c7) (.int .i64 e7)
 have T5:=HD1.out.hexa HC1.out b6 a6 n6 c6 e6 b7 a7 n7 c7 e7
 have T6:=HD2.out.hexa HC1.out b6 a6 n6 c6 e6 b7 a7 n7 c7 e7
 obtain⟨p0,p1,p2,p3,p4,p5⟩:=hexa T3
 have HE:=ab (And.intro T5 (And.intro T6 T4))
 clear T3 T4 T5 T6
 generalize (((((t1.setCell ⟨w.heap.size+1+1,0,none⟩ (.bool b6)).setCell ⟨w.heap.size+1+1,1,none⟩ (.slice a6 n6 c6)).setCell ⟨w.heap.size+1+1,2,none⟩ (.int .i64 e6)).setCell ⟨w.heap.size+1+1,3,none⟩ (.bool b7)).setCell ⟨w.heap.size+1+1,4,none⟩ (.slice a7 n7 c7)).setCell ⟨w.heap.size+1+1,5,none⟩ (.int .i64 e7)=w5 at *
 refine bodyPost_ret (v:=.tuple #[.agg #[.bool b6,.slice a6 n6 c6,.int .i64 e6,.bool b7,.slice a7 n7 c7,.int .i64 e7],.int .i64 0]) (by simp [results,Tryz.results21,go_sem,p0,p1,p2,p3,p4,p5]) rfl ?_
 exact⟨⟨_,_,_,_,_,_,_,_,_,_,rfl,HE.out.1,HE.out.2.1⟩,HE.out.2.2⟩

theorem tg (b1:Bool)(a1:Option Addr)(n1 k1:Nat)(ex1:Int)(b2:Bool)(a2:Option Addr)(n2 k2:Nat)(ex2:Int)(b3:Bool)(a3:Option Addr)(n3 k3:Nat)(ex3:Int)(b4:Bool)(a4:Option Addr)(n4 k4:Nat)(ex4:Int)(pos:Int)(L:Nat)(V1 V2 V3 V4:Int)(w:World)(hT:Tab w)(hL:4611686018427387904≤L)(hK:aj pos=true)(h1:I8 w b1 a1 n1 k1 ex1 L V1)(h2:I8 w b2 a2 n2 k2 ex2 L V2)(h3:I8 w b3 a3 n3 k3 ex3 L V3)(h4:I8 w b4 a4 n4 k4 ex4 L V4)(hE1:aj ex1=true)(hE2:aj ex2=true)(hE3:aj ex3=true)(hE4:aj ex4=true)(hv1:V1≤V2)(hv2:V3≤V4)(ho:Ok8 L (V1+V3))(ho2:Ok8 L (V2+V4))(ho3:Ok8 L (rv 0 (V1+V3) (2 ^ (pos+L).toNat)))(ho4:Ok8 L (rv 1 (V2+V4) (2 ^ (pos+L).toNat))) :
  Calls Tryz.prog 7 #[.agg #[.bool b1,.slice a1 n1 k1,.int .i64 ex1,.bool b2,.slice a2 n2 k2,.int .i64 ex2],.agg #[.bool b3,.slice a3 n3 k3,.int .i64 ex3,.bool b4,.slice a4 n4 k4,.int .i64 ex4],.int .i64 pos] w fun e w'=>SS8 w e w' L (rv 0 (V1+V3) (2 ^ (pos+L).toNat)) (rv 1 (V2+V4) (2 ^ (pos+L).toNat)):=by
 obtain⟨w0,hw0,hb0,q0,q1,q9⟩:=aE w (.cells #[.bool b1,.slice a1 n1 k1,.int .i64 ex1,.bool b2,.slice a2 n2 k2,.int .i64 ex2] 33) (.cells #[.bool b3,.slice a3 n3 k3,.int .i64 ex3,.bool b4,.slice a4 n4 k4,.int .i64 ex4] 33) (.cells #[.bool false,.slice none 0 0,.int .i64 0,.bool false,.slice none 0 0,.int .i64 0] 33)
 obtain⟨y0,y1,y2,y3,y4,y5⟩:=hexa q0
 obtain⟨z0,z1,z2,z3,z4,z5⟩:=hexa q1
 have C:=qI b1 a1 n1 k1 ex1 b2 a2 n2 k2 ex2 b3 a3 n3 k3 ex3 b4 a4 n4 k4 ex4 pos L V1 V2 V3 V4 w0 (hT.below hb0) hL hK (h1.below hb0) (h2.below hb0) (h3.below hb0) (h4.below hb0) hE1 hE2 hE3 hE4 hv1 hv2 ho ho2 ho3 ho4
 have HU0:=ab hb0
 have HR0:Hid (w0.heap[w.heap.size+1+1]?=some (.cells #[.bool false,.slice none 0 0,.int .i64 0,.bool false,.slice none 0 0,.int .i64 0] 33)):=ab q9
 generalize rv 0 (V1+V3) (2 ^ (pos+L).toNat)=VC at *
 generalize rv 1 (V2+V4) (2 ^ (pos+L).toNat)=VD at *
 clear q0 q1 q9 hb0 hT h1 h2 h3 h4 ho ho2 ho3 ho4 hv1 hv2
 go_enter Tryz.func7,Tryz.ntmps7
 go_wp2_with fail
 refine C.mono ?_
 rintro e t1 ⟨⟨b6,a6,n6,c6,e6,b7,a7,n7,c7,e7,rfl,hg1,hg2⟩,g1⟩
 have HC1:=ab (ac g1 HR0.out)
 have HG:=ab (ae HU0.out g1)
 have HD1:=ab hg1
 have HD2:=ab hg2
 have hf1:=aD HC1.out
 obtain⟨m0,m1,m2,m3,m4,m5⟩:=hexa HC1.out
 clear g1 hg1 hg2 C
 go_wp2
 have T3:=aK HC1.out (.bool b6) (.slice a6 n6 c6) (.int .i64 e6) (.bool b7) (.slice a7 n7 c7) (.int .i64 e7)
 have T4:=aG HG.out (show w.heap.size≤w.heap.size+1+1 by omega) (.bool b6) (.slice a6 n6 c6) (.int .i64 e6) (.bool b7) (.slice a7 n7 c7) (.int .i64 e7)
 have T5:=HD1.out.hexa HC1.out b6 a6 n6 c6 e6 b7 a7 n7 c7 e7
 have T6:=HD2.out.hexa HC1.out b6 a6 n6 c6 e6 b7 a7 n7 c7 e7
 obtain⟨p0,p1,p2,p3,p4,p5⟩:=hexa T3
 have HE:=ab (And.intro T5 (And.intro T6 T4))
 clear T3 T4 T5 T6
 generalize (((((t1.setCell ⟨w.heap.size+1+1,0,none⟩ (.bool b6)).setCell ⟨w.heap.size+1+1,1,none⟩ (.slice a6 n6 c6)).setCell ⟨w.heap.size+1+1,2,none⟩ (.int .i64 e6)).setCell ⟨w.heap.size+1+1,3,none⟩ (.bool b7)).setCell ⟨w.heap.size+1+1,4,none⟩ (.slice a7 n7 c7)).setCell ⟨w.heap.size+1+1,5,none⟩ (.int .i64 e7)=w5 at *
 refine bodyPost_ret (v:=.tuple #[.agg #[.bool b6,.slice a6 n6 c6,.int .i64 e6,.bool b7,.slice a7 n7 c7,.int .i64 e7],.int .i64 0]) (by simp [results,Tryz.results7,go_sem,p0,p1,p2,p3,p4,p5]) rfl ?_
 exact⟨⟨_,_,_,_,_,_,_,_,_,_,rfl,HE.out.1,HE.out.2.1⟩,HE.out.2.2⟩

theorem gt (k L:Nat)(h:k<9223372036854775808):Ok8 L ((k:Int)*2 ^ L):=by
 have hr:Rp L (k:Int) 0 ((k:Int)*2 ^ L):=⟨by omega,by rw [show ((0:Int)+(L:Int)).toNat=L by omega]⟩
 have hb:blen (k:Int).natAbs≤64:=(blen_le_iff _ _).2 (by rw [Int.natAbs_natCast];omega)
 have ht:=dX (k:Int).natAbs
 refine⟨omz k,oe k 0,hr.norm,bj _ _,?_,?_⟩
 ·have:=blen_mono (cV (k:Int).natAbs)
  rw [cD];omega
 ·rw [aM];unfold oe;split <;> omega

theorem fJ (m:Int)(k L:Nat):rv m ((k:Int)*2 ^ L) (2 ^ ((0:Int)+(L:Int)).toNat)=(k:Int)*2 ^ L:=by
 rw [show ((0:Int)+(L:Int)).toNat=L by omega]
 refine im (Nat.two_pow_pos _) ?_
 rw [Int.natCast_pow]
 exact Int.mul_emod_left _ _

theorem gr (c:Int)(w:World):Calls Tryz.prog 26 #[.int .i64 c] w fun e w'=>e=.returned (.int .i64 c)∧w'=w:=by
 go_enter Tryz.func26,Tryz.ntmps26
 go_wp2
 go_ret
 exact⟨rfl,rfl⟩

theorem G8.is10 {w0:World}{b6:Bool}{a6:Option Addr}{n6 c6:Nat}{e6:Int}{L k:Nat}(hk:k<9223372036854775808)(h:G8 w0 b6 a6 n6 c6 e6 L ((k:Int)*2 ^ L)) :
  e6=oe k 0∧∀(W:World) (b:Bool) (a:Option Addr) (n c:Nat),Below w0.heap.size w0 W→Dn W b (.slice a n c) (omz k)→Calls Tryz.prog 27 #[.agg #[.bool b,.slice a n c,.int .i64 (oe k 0)],.bool b6,.slice a6 n6 c6,.int .i64 (oe k 0)] W fun e w'=>e=.returned (.bool true)∧Below W.heap.size W w':=by
 obtain⟨rs,rfl,hA,hl,hr,ht,hb,hn,hf⟩:=h
 have hr2:Rp L (k:Int) 0 ((k:Int)*2 ^ L):=⟨by omega,by rw [show ((0:Int)+(L:Int)).toNat=L by omega]⟩
 obtain⟨e1,e2⟩:=Rp.one hr hr2.norm hn (bj _ _)
 refine⟨e2,fun W b a n c hg hd=>?_⟩
 have hbb:b=b6:=by rw [hd.1,hb,e1]
 subst hbb
 refine iZ b a n c (omz k) (oe k 0) (.slice a6 rs.length c6) rs W hd (hA.below hg) ht (by rw [←e1,bg]) ?_
 have h5:=blen_mono (cV (k:Int).natAbs)
 have h6:blen (k:Int).natAbs≤64:=(blen_le_iff _ _).2 (by rw [Int.natAbs_natCast];omega)
 rw [cD];omega

theorem jf (w:World)(hT:Tab w):Calls Tryz.prog 11 #[] w fun e w'=>e=.returned (.bool true)∧Below w.heap.size w w':=by
 obtain⟨L,hL⟩:∃L:Nat,4611686018427387904≤L:=⟨_,Nat.le_refl _⟩
 have HL:=ab hL
 have HT:=ab hT
 have e1:((1:Nat):Int)*2 ^ L+((3:Nat):Int)*2 ^ L=((4:Nat):Int)*2 ^ L:=by rw [←Int.add_mul];rfl
 have e2:((2:Nat):Int)*2 ^ L+((5:Nat):Int)*2 ^ L=((7:Nat):Int)*2 ^ L:=by rw [←Int.add_mul];rfl
 have hp:(0:Int)<2 ^ L:=Int.pow_pos (by decide)
 have l1:((1:Nat):Int)*2 ^ L≤((2:Nat):Int)*2 ^ L:=Int.mul_le_mul_of_nonneg_right (by omega) (by omega)
 have l2:((3:Nat):Int)*2 ^ L≤((5:Nat):Int)*2 ^ L:=Int.mul_le_mul_of_nonneg_right (by omega) (by omega)
 have ADD:=ab (fun (W:World) (hg:Below w.heap.size w W) (a1:Option Addr) (n1 k1:Nat) (a2:Option Addr) (n2 k2:Nat) (a3:Option Addr) (n3 k3:Nat) (a4:Option Addr) (n4 k4:Nat) (h1:I8 W false a1 n1 k1 0 L (((1:Nat):Int)*2 ^ L)) (h2:I8 W false a2 n2 k2 0 L (((2:Nat):Int)*2 ^ L)) (h3:I8 W false a3 n3 k3 0 L (((3:Nat):Int)*2 ^ L)) (h4:I8 W false a4 n4 k4 0 L (((5:Nat):Int)*2 ^ L))=>(by
  have h:=tg false a1 n1 k1 0 false a2 n2 k2 0 false a3 n3 k3 0 false a4 n4 k4 0 0 L _ _ _ _ W (hT.below hg) hL (by decide) h1 h2 h3 h4 (by decide) (by decide) (by decide) (by decide) l1 l2 (by rw [e1];exact gt 4 L (by decide)) (by rw [e2];exact gt 7 L (by decide)) (by rw [e1,fJ];exact gt 4 L (by decide)) (by rw [e2,fJ];exact gt 7 L (by decide))
  rw [e1,e2,fJ,fJ] at h
  exact h:Calls Tryz.prog 7 #[.agg #[.bool false,.slice a1 n1 k1,.int .i64 0,.bool false,.slice a2 n2 k2,.int .i64 0],.agg #[.bool false,.slice a3 n3 k3,.int .i64 0,.bool false,.slice a4 n4 k4,.int .i64 0],.int .i64 0] W fun e w'=>SS8 W e w' L (((4:Nat):Int)*2 ^ L) (((7:Nat):Int)*2 ^ L)))
 have S1:=ab (fun (W:World)=>show Calls Tryz.prog 28 #[.int .i64 1] W _ from small_any 1 L W (by decide))
 have S2:=ab (fun (W:World)=>show Calls Tryz.prog 28 #[.int .i64 2] W _ from small_any 2 L W (by decide))
 have S3:=ab (fun (W:World)=>show Calls Tryz.prog 28 #[.int .i64 3] W _ from small_any 3 L W (by decide))
 have S5:=ab (fun (W:World)=>show Calls Tryz.prog 28 #[.int .i64 5] W _ from small_any 5 L W (by decide))
 clear hL hT e1 e2 hp l1 l2
 go_enter Tryz.func11,Tryz.ntmps11
 go_wp2_with fail
 refine (S1.out w).mono ?_
 rintro e t1 ⟨⟨a1,n1,k1,rfl,i1⟩,g1⟩
 have HI1:=ab i1
 have HG1:=ab g1
 clear i1 g1
 go_wp2_with fail
 refine (S2.out t1).mono ?_
 rintro e t2 ⟨⟨a2,n2,k2,rfl,i2⟩,g2⟩
 have HI2:=ab i2
 have HG2:=ab g2
 clear i2 g2
 go_wp2_with fail
 refine (S3.out t2).mono ?_
 rintro e t3 ⟨⟨a3,n3,k3,rfl,i3⟩,g3⟩
 have HI3:=ab i3
 have HG3:=ab g3
 clear i3 g3
 go_wp2_with fail
 refine (S5.out t3).mono ?_
 rintro e t4 ⟨⟨a4,n4,k4,rfl,i4⟩,g4⟩
 have G:=ae (ae (ae HG1.out HG2.out) HG3.out) g4
 have C:=ADD.out t4 G a1 n1 k1 a2 n2 k2 a3 n3 k3 a4 n4 k4 (((HI1.out.below HG2.out).below HG3.out).below g4) ((HI2.out.below HG3.out).below g4) (HI3.out.below g4) i4
 have HG4:=ab G
 clear i4 g4 G S1 S2 S3 S5 ADD HI1 HI2 HI3 HG1 HG2 HG3
 go_wp2_with fail
 refine C.mono ?_
 rintro e t5 ⟨⟨b6,a6,n6,c6,e6,b7,a7,n7,c7,e7,rfl,hg1,hg2⟩,g5⟩
 obtain⟨w6,hw6,hb6,q6⟩:=af t5 (.cells #[.bool b6,.slice a6 n6 c6,.int .i64 e6,.bool b7,.slice a7 n7 c7,.int .i64 e7] 33)
 have gd:Below t5.heap.size t5 w6.drew:=hb6.drew
 obtain⟨he6,IS6⟩:=G8.is10 (k:=4) (by decide) (hg1.below gd)
 obtain⟨he7,IS7⟩:=G8.is10 (k:=7) (by decide) (hg2.below gd)
 rw [←he6] at IS6
 rw [←he7] at IS7
 have HIS6:=ab IS6
 have HIS7:=ab IS7
 have HG5:=ab (ae HG4.out g5)
 have HGD:=ab (ae HG5.out gd)
 have g0:Below w6.drew.heap.size w6.drew w6.drew:=Below.refl _ _
 have I4:=eY 4 0 w6.drew (by omega) (by omega) (by omega) (by omega)
 have I7:=ab (fun (W:World)=>eY 7 0 W (by omega) (by omega) (by omega) (by omega))
 have HN:=gr 0 w6.drew
 obtain⟨M4,hM4⟩:∃x,omz ((4:Nat):Int)=x:=⟨_,rfl⟩
 obtain⟨M7,hM7⟩:∃x,omz ((7:Nat):Int)=x:=⟨_,rfl⟩
 rw [show omz 4=M4 from hM4,show oe 4 0=e6 from he6.symm] at I4
 rw [show omz 7=M7 from hM7,show oe 7 0=e7 from he7.symm] at I7
 rw [hM4] at HIS6
 rw [hM7] at HIS7
 have KS:=ab (fun (W:World) (hg:Below w6.drew.heap.size w6.drew W)=>show W.cell? ⟨t5.heap.size,0,none⟩=some (.bool b6)∧W.cell? ⟨t5.heap.size,1,none⟩=some (.slice a6 n6 c6)∧W.cell? ⟨t5.heap.size,2,none⟩=some (.int .i64 e6)∧W.cell? ⟨t5.heap.size,3,none⟩=some (.bool b7)∧W.cell? ⟨t5.heap.size,4,none⟩=some (.slice a7 n7 c7)∧W.cell? ⟨t5.heap.size,5,none⟩=some (.int .i64 e7) from hexa (ac hg (show w6.drew.heap[t5.heap.size]?=some (.cells #[.bool b6,.slice a6 n6 c6,.int .i64 e6,.bool b7,.slice a7 n7 c7,.int .i64 e7] 33) from q6)))
 clear hg1 hg2 g5 hb6 q6 gd IS6 IS7 C hM4 hM7 he6 he7
 go_wp2_with fail
 go_region_held3 (fun w'=>w'.cell? ⟨t5.heap.size,0,none⟩=some (.bool b6)∧w'.cell? ⟨t5.heap.size,1,none⟩=some (.slice a6 n6 c6)∧w'.cell? ⟨t5.heap.size,2,none⟩=some (.int .i64 e6)∧w'.cell? ⟨t5.heap.size,3,none⟩=some (.bool b7)∧w'.cell? ⟨t5.heap.size,4,none⟩=some (.slice a7 n7 c7)∧w'.cell? ⟨t5.heap.size,5,none⟩=some (.int .i64 e7)) (first|with_reducible exact KS.out _ h4|with_reducible exact KS.out _ h3|with_reducible exact KS.out _ h2|with_reducible exact KS.out _ h1|with_reducible exact KS.out _ g0) (first
  | (go_at_call 26;refine HN.mono ?_;rintro e' wn ⟨rfl,hw⟩;rw [hw];clear hw wn)
  | (go_at_call_of 27 a7;refine (HIS7.out u3 b9 a9 n9 c9 h3 d9).mono ?_;rintro e' u4 ⟨rfl,hb4⟩;have h4:=ae h3 hb4)
  | (go_at_call_of 27 a6;refine (HIS6.out u1 b8 a8 n8 c8 h1 d8).mono ?_;rintro e' u2 ⟨rfl,hb2⟩;have h2:=ae h1 hb2)
  | (go_at_call_of 29 (Value.int .i64 4);refine I4.mono ?_;rintro e' u1 ⟨⟨b8,a8,n8,c8,rfl,d8⟩,h1⟩)
  | (go_at_call 29;refine (I7.out u2).mono ?_;rintro e' u3 ⟨⟨b9,a9,n9,c9,rfl,d9⟩,hb3⟩;have h3:=ae h2 hb3))
 have HFIN:=ab (ae HGD.out h4)
 clear g0 h1 h2 h3 h4 hb2 hb3 hb4 KS I4 I7 HN d8 d9
 go_wp2
 go_ret
 exact⟨rfl,HFIN.out⟩

theorem ll (f:Int)(b1:Bool)(a1:Option Addr)(n1 k1:Nat)(E1:Int)(b2:Bool)(a2:Option Addr)(n2 k2:Nat)(E2:Int)(w:World)(hf:f≠0) :
  Calls Tryz.prog 10 #[.agg #[.bool false,.slice none 0 0,.int .i64 0,.bool false,.slice none 0 0,.int .i64 0],.int .i64 f,.agg #[.bool b1,.slice a1 n1 k1,.int .i64 E1,.bool b2,.slice a2 n2 k2,.int .i64 E2],.int .i64 f] w fun e w'=>e=.returned (.bool true)∧Below w.heap.size w w':=by
 obtain⟨w0,hw0,hb0,q0,q1⟩:=aA w (.cells #[.bool false,.slice none 0 0,.int .i64 0,.bool false,.slice none 0 0,.int .i64 0] 33) (.cells #[.bool b1,.slice a1 n1 k1,.int .i64 E1,.bool b2,.slice a2 n2 k2,.int .i64 E2] 43)
 obtain⟨y0,y1,y2,y3,y4,y5⟩:=hexa q0
 have HN:=gr f w0
 have f1:((f:Int) == 0)=false:=by rw [beq_eq_false_iff_ne];exact hf
 have f2:((f:Int) != 0)=true:=by rw [bne,f1];rfl
 have f3:((f:Int) == f)=true:=by simp
 have HB:=ab hb0
 clear q0 q1 hb0 hf
 go_enter Tryz.func10,Tryz.ntmps10
 go_wp2_with fail
 refine HN.mono ?_
 rintro e wn ⟨rfl,hw⟩;rw [hw];clear hw wn HN
 go_wp2
 go_ret
 exact⟨rfl,HB.out⟩

theorem dL {w:World}{g h:Nat}(hn:h≠g)(u0 u1 u2 u3 u4 u5:Value):((((((w.setCell ⟨g,0,none⟩ u0).setCell ⟨g,1,none⟩ u1).setCell ⟨g,2,none⟩ u2).setCell ⟨g,3,none⟩ u3).setCell ⟨g,4,none⟩ u4).setCell ⟨g,5,none⟩ u5).heap[h]?=w.heap[h]?:=by
 rw [Below.heap_setCell _ _ _ _ hn,Below.heap_setCell _ _ _ _ hn,Below.heap_setCell _ _ _ _ hn,Below.heap_setCell _ _ _ _ hn,Below.heap_setCell _ _ _ _ hn,Below.heap_setCell _ _ _ _ hn]

theorem DR.is {w:World}{base:Nat}{b:Bool}{a:Option Addr}{n c:Nat}{ex M E:Int}(h:DR w base b (.slice a n c) ex 0 M E):ex=E∧∀(W:World) (b':Bool) (a':Option Addr) (n' c':Nat),Below w.heap.size w W→Dn W b' (.slice a' n' c') M→Calls Tryz.prog 27 #[.agg #[.bool b',.slice a' n' c',.int .i64 E],.bool b,.slice a n c,.int .i64 ex] W fun e w'=>e=.returned (.bool true)∧Below W.heap.size W w':=by
 obtain⟨rs,A1,H2⟩:=h
 rcases H2 with ⟨_,q2,q3,q4,q5,q6,q7⟩|⟨q1,_⟩|⟨q1,_⟩
 ·subst q5
  refine⟨rfl,fun W b' a' n' c' hg hd=>?_⟩
  have eb:b'=b:=by rw [hd.1,q2]
  subst eb
  have hl:rs.length≤1048576:=bI q4 q3 (by omega)
  exact iZ b' a' n' c' M ex (.slice a n c) rs W hd ((A1.below hg).arg (by omega)) q4 q3 (by omega)
 ·omega
 ·omega

theorem nQ (b:Bool)(a:Option Addr)(n k:Nat)(ex:Int)(b':Bool)(a':Option Addr)(n' k':Nat)(ex' r:Int)(b1:Bool)(a1:Option Addr)(n1 k1:Nat)(M1 E1:Int)(b2:Bool)(a2:Option Addr)(n2 k2:Nat)(M2 E2:Int)(base:Nat)(w:World)(hS:SR w base b (.slice a n k) ex b' (.slice a' n' k') ex' r M1 E1 M2 E2)(h1:Dn w b1 (.slice a1 n1 k1) M1)(h2:Dn w b2 (.slice a2 n2 k2) M2) :
  Calls Tryz.prog 10 #[.agg #[.bool b,.slice a n k,.int .i64 ex,.bool b',.slice a' n' k',.int .i64 ex'],.int .i64 r,.agg #[.bool b1,.slice a1 n1 k1,.int .i64 E1,.bool b2,.slice a2 n2 k2,.int .i64 E2],.int .i64 0] w fun e w'=>e=.returned (.bool true)∧Below w.heap.size w w':=by
 obtain⟨w0,hw0,hb0,q0,q1⟩:=aA w (.cells #[.bool b,.slice a n k,.int .i64 ex,.bool b',.slice a' n' k',.int .i64 ex'] 33) (.cells #[.bool b1,.slice a1 n1 k1,.int .i64 E1,.bool b2,.slice a2 n2 k2,.int .i64 E2] 43)
 obtain⟨m0,m1,m2,m3,m4,m5⟩:=hexa q1
 have HTD:=jv b1 a1 n1 k1 M1 E1 b2 a2 n2 k2 M2 E2 w0 (h1.below hb0) (h2.below hb0)
 have hr:=hS.1
 rw [←hr] at HTD
 have H0:=ab q0
 have H1:=ab q1
 have HB:=ab hb0
 have HS:=ab hS
 have HD:=ab (And.intro h1 h2)
 clear q0 q1 hb0 h1 h2 hS hr
 by_cases hR:r=0
 ·subst hR
  obtain⟨s1,s2,_⟩:=HS.out.2.1 rfl
  obtain⟨x1,I1⟩:=s1.is
  obtain⟨x2,I2⟩:=s2.is
  subst x1 x2
  have J1:=ab I1
  have J2:=ab I2
  clear s1 s2 I1 I2 HS
  go_enter Tryz.func10,Tryz.ntmps10
  go_wp2_with fail
  refine HTD.mono ?_
  rintro e t1 ⟨⟨b6,a6,n6,c6,e6,b7,a7,n7,c7,e7,rfl,hz⟩,g1⟩
  obtain⟨rfl,rfl,rfl,rfl,rfl,rfl,rfl,rfl,rfl,rfl⟩:=hz rfl
  have G1:=ae HB.out g1
  have c1:=ac g1 H1.out
  have d0:=(dL (show w.heap.size≠w.heap.size+1 by omega) (.bool b6) (.slice a6 n6 c6) (.int .i64 e6) (.bool b7) (.slice a7 n7 c7) (.int .i64 e7)).trans (ac g1 H0.out)
  have d1:=aK c1 (.bool b6) (.slice a6 n6 c6) (.int .i64 e6) (.bool b7) (.slice a7 n7 c7) (.int .i64 e7)
  have G2:=aG G1 (show w.heap.size≤w.heap.size+1 by omega) (.bool b6) (.slice a6 n6 c6) (.int .i64 e6) (.bool b7) (.slice a7 n7 c7) (.int .i64 e7)
  have hf1:=aD c1
  obtain⟨m0,m1,m2,m3,m4,m5⟩:=hexa c1
  have HN:=gr 0 ((((((t1.setCell ⟨w.heap.size+1,0,none⟩ (.bool b6)).setCell ⟨w.heap.size+1,1,none⟩ (.slice a6 n6 c6)).setCell ⟨w.heap.size+1,2,none⟩ (.int .i64 e6)).setCell ⟨w.heap.size+1,3,none⟩ (.bool b7)).setCell ⟨w.heap.size+1,4,none⟩ (.slice a7 n7 c7)).setCell ⟨w.heap.size+1,5,none⟩ (.int .i64 e7))
  obtain⟨y0,y1,y2,y3,y4,y5⟩:=hexa d0
  obtain⟨z0,z1,z2,z3,z4,z5⟩:=hexa d1
  have K1:=J1.out _ b6 a6 n6 c6 G2 (HD.out.1.below G2)
  have HG:=ab G2
  have HD0:=ab d0
  have HD1:=ab d1
  clear G1 G2 c1 d0 d1 g1 HTD J1
  go_wp2_with fail
  refine HN.mono ?_
  rintro e wn ⟨rfl,hw⟩;rw [hw];clear hw wn HN
  go_wp2_with fail
  refine K1.mono ?_
  rintro e t2 ⟨rfl,g2⟩
  have GG:=ae HG.out g2
  have K2:=J2.out t2 b7 a7 n7 c7 GG (HD.out.2.below GG)
  have HGG:=ab GG
  clear y0 y1 y2 y3 y4 y5 z0 z1 z2 z3 z4 z5 K1 J2
  obtain⟨y0,y1,y2,y3,y4,y5⟩:=hexa (ac g2 HD0.out)
  obtain⟨z0,z1,z2,z3,z4,z5⟩:=hexa (ac g2 HD1.out)
  clear g2 GG HD0 HD1 m0 m1 m2 m3 m4 m5 hf1
  go_wp2_with fail
  refine K2.mono ?_
  rintro e t3 ⟨rfl,g3⟩
  have HE:=ab (ae HGG.out g3)
  clear g3 K2
  go_wp2
  go_ret
  exact⟨rfl,HE.out⟩
 ·obtain⟨x1,x2,x3,x4,x5,x6⟩:=HS.out.2.2 hR
  subst x1 x3 x4 x6
  cases x2
  cases x5
  have f1:((r:Int) == 0)=false:=by rw [beq_eq_false_iff_ne];exact hR
  have f2:((r:Int) != 0)=true:=by rw [bne,f1];rfl
  have f3:((r:Int) == r)=true:=by simp
  clear HS
  go_enter Tryz.func10,Tryz.ntmps10
  go_wp2_with fail
  refine HTD.mono ?_
  rintro e t1 ⟨⟨b6,a6,n6,c6,e6,b7,a7,n7,c7,e7,rfl,hz⟩,g1⟩
  have G1:=ae HB.out g1
  have c1:=ac g1 H1.out
  have d0:=(dL (show w.heap.size≠w.heap.size+1 by omega) (.bool b6) (.slice a6 n6 c6) (.int .i64 e6) (.bool b7) (.slice a7 n7 c7) (.int .i64 e7)).trans (ac g1 H0.out)
  have G2:=aG G1 (show w.heap.size≤w.heap.size+1 by omega) (.bool b6) (.slice a6 n6 c6) (.int .i64 e6) (.bool b7) (.slice a7 n7 c7) (.int .i64 e7)
  have hf1:=aD c1
  obtain⟨m0,m1,m2,m3,m4,m5⟩:=hexa c1
  have HN:=gr r ((((((t1.setCell ⟨w.heap.size+1,0,none⟩ (.bool b6)).setCell ⟨w.heap.size+1,1,none⟩ (.slice a6 n6 c6)).setCell ⟨w.heap.size+1,2,none⟩ (.int .i64 e6)).setCell ⟨w.heap.size+1,3,none⟩ (.bool b7)).setCell ⟨w.heap.size+1,4,none⟩ (.slice a7 n7 c7)).setCell ⟨w.heap.size+1,5,none⟩ (.int .i64 e7))
  obtain⟨y0,y1,y2,y3,y4,y5⟩:=hexa d0
  have HG:=ab G2
  clear G1 G2 c1 d0 g1 HTD hz
  go_wp2_with fail
  refine HN.mono ?_
  rintro e wn ⟨rfl,hw⟩;rw [hw];clear hw wn HN
  go_wp2
  go_ret
  exact⟨rfl,HG.out⟩
end Go.Proofs.YteflkojglmleaaaGreatDoor
namespace Go.Proofs.YteflkojglmleaaaGreatDoor
open Go.RowKit
open Lm

theorem Dn.zn {w:World}{b:Bool}{v:Value}{M:Int}(h:Dn w b v M):Zn w (.agg #[.bool b,v]) M:=⟨v,by rw [h.1],h.2⟩
end Go.Proofs.YteflkojglmleaaaGreatDoor
namespace Go.Proofs.YteflkojglmleaaaGreatDoor
open Go.RowKit
open Lm
attribute [local go_sem ↓] Go.wp_at_zero Go.wp_at_succ





theorem cq (b:Bool)(a:Option Addr)(n c:Nat)(M E:Int)(w:World)(h:Dn w b (.slice a n c) M)(hbl:blen M.natAbs≤2251799813685248)(h1:-2305843009213693952≤E)(h2:E≤2305843009213693952) :
  Calls Tryz.prog 43 #[.agg #[.bool b,.slice a n c,.int .i64 E]] w fun e w'=>e=.returned (.int .i64 (((blen M.natAbs:Nat):Int) - 1+E))∧Below w.heap.size w w':=by
 obtain⟨w0,hw0,hb0,h0⟩:=af w (.cells #[.bool b,.slice a n c,.int .i64 E] 41)
 have gd:Below w.heap.size w w0.drew:=hb0.drew
 have g0:Below w0.drew.heap.size w0.drew w0.drew:=Below.refl _ _
 have KS:=ab (fun (W:World) (hg:Below w0.drew.heap.size w0.drew W)=>show W.cell? ⟨w.heap.size,0,none⟩=some (.bool b)∧W.cell? ⟨w.heap.size,1,none⟩=some (.slice a n c)∧W.cell? ⟨w.heap.size,2,none⟩=some (.int .i64 E) from tri8 (ac hg (show w0.drew.heap[w.heap.size]?=some (.cells #[.bool b,.slice a n c,.int .i64 E] 41) from h0)))
 have HL:=dI _ M.natAbs w0.drew (h.2.below gd)
 have w1:IntKind.i64.wrap (((blen M.natAbs:Nat):Int) - 1)=((blen M.natAbs:Nat):Int) - 1:=by rw [IntKind.wrap_i64];omega
 have w2:IntKind.i64.wrap (((blen M.natAbs:Nat):Int) - 1+E)=((blen M.natAbs:Nat):Int) - 1+E:=by rw [IntKind.wrap_i64];omega
 generalize blen M.natAbs=l at *
 have HB:=ab gd
 obtain⟨x0,x1,x2⟩:=KS.out _ g0
 clear h0 hb0 gd h
 generalize hs1:(l:Int) - 1=s1 at *
 have hs2:(l:Int) - 1=s1:=hs1
 clear hs1
 go_enter Tryz.func43,Tryz.ntmps43
 go_wp2
 go_region_held3 (fun w'=>w'.cell? ⟨w.heap.size,0,none⟩=some (.bool b)∧w'.cell? ⟨w.heap.size,1,none⟩=some (.slice a n c)∧w'.cell? ⟨w.heap.size,2,none⟩=some (.int .i64 E)) (first|with_reducible exact KS.out _ g0) (first
  | (go_at_call 60;refine HL.mono ?_;rintro e' wn ⟨rfl,hw⟩;rw [hw];clear hw wn))
 have HE:=ab HB.out
 clear g0 KS HL
 go_wp2
 go_ret
 exact⟨rfl,HE.out⟩

theorem om (b:Bool)(x n:Nat):zz b (x*2 ^ n)=zz b x*2 ^ n:=by cases b <;> simp [zz,Int.neg_mul]

theorem gm (b:Bool)(a:Option Addr)(m c:Nat)(z:Int)(n:Nat)(w:World)(hZ:Zn w (.agg #[.bool b,.slice a m c]) z)(hf:blen z.natAbs+n≤1125899906840000) :
  Calls Tryz.prog 45 #[.agg #[.bool b,.slice a m c],.int .i64 n] w (cM w (z*2 ^ n)):=by
 obtain⟨u,e1,hnum⟩:=hZ
 have e2:b=decide (z<0)∧.slice a m c=u:=by
  have:=congrArg Value.cells e1
  simp [Value.cells] at this
  exact this
 obtain⟨hbz,rfl⟩:=e2
 obtain⟨w0,hw0,hb0,h0,h1⟩:=aA w (.cells #[.bool b,.slice a m c] 39) (.cells #[.bool false,.slice none 0 0] 39)
 have gd:Below w.heap.size w w0.drew:=hb0.drew
 have g0:Below w0.drew.heap.size w0.drew w0.drew:=Below.refl _ _
 have HR:=dm (.slice a m c) z.natAbs n w0.drew (hnum.below gd) hf
 have hzz:zz b (z.natAbs*2 ^ n)=z*2 ^ n:=by rw [om,hbz,cY]
 have HMK:=ab (fun (W:World) (v:Value) (h:Num W v (z.natAbs*2 ^ n))=>show Calls Tryz.prog 67 #[.bool b,v] W (cM W (z*2 ^ n)) by have:=ce b v _ W h;rw [hzz] at this;exact this)
 have KS:=ab (fun (W:World) (hg:Below w0.drew.heap.size w0.drew W)=>show W.cell? ⟨w.heap.size,0,none⟩=some (.bool b)∧W.cell? ⟨w.heap.size,1,none⟩=some (.slice a m c) from duo (ac hg (show w0.drew.heap[w.heap.size]?=some (.cells #[.bool b,.slice a m c] 39) from h0)))
 have so:∀(W:World) (k:Nat) (u:Value) (k':Nat),(W.setCell ⟨w.heap.size+1,k,none⟩ u).cell? ⟨w.heap.size,k',none⟩=W.cell? ⟨w.heap.size,k',none⟩:=fun W k u k'=>bf (by omega)
 have HC1:=ab h1
 have HD:=ab gd
 have hn0:(0:Int)≤(n:Int):=by omega
 clear gd h0 h1 hb0 hnum e1 hzz hbz
 generalize z*2 ^ n=zs at *
 generalize z.natAbs*2 ^ n=xs at *
 go_enter Tryz.func45,Tryz.ntmps45
 go_wp2
 go_region_held3 (fun w'=>w'.cell? ⟨w.heap.size,0,none⟩=some (.bool b)∧w'.cell? ⟨w.heap.size,1,none⟩=some (.slice a m c)) (first|with_reducible exact KS.out _ g2|with_reducible exact KS.out _ g1|with_reducible exact KS.out _ g0 | (refine⟨?_,?_⟩ <;> (rw [so,so];first|exact (KS.out _ g2).1|exact (KS.out _ g2).2))) (first
  | (go_at_call 71;refine HR.mono ?_;rintro e' t1 ⟨⟨v1,rfl,N1⟩,g1⟩;obtain⟨a1,n1,c1,rfl⟩:=N1.sl)
  | (go_at_call 67;refine (HMK.out t1 _ N1).mono ?_;rintro e' t2 ⟨⟨b2,a2,n2,c2,rfl,Z2⟩,hb2⟩;have g2:=ae g1 hb2;have hz:=ac g2 (show w0.drew.heap[w.heap.size+1]?=some (.cells #[.bool false,.slice none 0 0] 39) from HC1.out);have hf2:=aI hz;obtain⟨m0,m1⟩:=duo hz))
 have T3:=aU hz (a':=.bool b2) (b':=.slice a2 n2 c2)
 have T4:=aS (ae HD.out g2) (g:=w.heap.size+1) (u0:=.bool b2) (u1:=.slice a2 n2 c2) (by omega)
 have T5:=Z2.duo (p1:=b2) (r1:=.slice a2 n2 c2) hz
 obtain⟨p0,p1⟩:=duo T3
 have HE:=ab (And.intro T5 T4)
 clear T3 T4 T5 so m0 m1 hf2 KS g0 g1 g2 hb2 HR hz N1 Z2 HMK
 generalize (t2.setCell ⟨w.heap.size+1,0,none⟩ (.bool b2)).setCell ⟨w.heap.size+1,1,none⟩ (.slice a2 n2 c2)=w5 at *
 go_wp2
 refine bodyPost_ret (v:=.agg #[.bool b2,.slice a2 n2 c2]) (by simp [results,Tryz.results45,go_sem,p0,p1]) rfl ?_
 exact⟨⟨_,_,_,_,rfl,HE.out.1⟩,HE.out.2⟩

theorem jm {x y p q:Nat}(h:blen x+p<blen y+q)(hy:y≠0):x*2 ^ p<y*2 ^ q:=by
 have h1:x<2 ^ blen x:=(blen_le_iff x _).1 (Nat.le_refl _)
 have hb:0<blen y:=by
  rcases Nat.eq_zero_or_pos (blen y) with h0|h0
  ·exact absurd ((eG y).1 h0) hy
  ·exact h0
 have h2:2 ^ (blen y - 1)≤y:=by
  rcases Nat.lt_or_ge y (2 ^ (blen y - 1)) with h3|h3
  ·have:=(blen_le_iff y (blen y - 1)).2 h3
   omega
  ·exact h3
 have h3:x*2 ^ p<2 ^ blen x*2 ^ p:=Nat.mul_lt_mul_of_pos_right h1 (Nat.two_pow_pos p)
 have h4:2 ^ (blen y - 1)*2 ^ q≤y*2 ^ q:=Nat.mul_le_mul_right _ h2
 have h5:2 ^ blen x*2 ^ p≤2 ^ (blen y - 1)*2 ^ q:=by
  rw [←Nat.pow_add,←Nat.pow_add]
  exact Nat.pow_le_pow_right (by omega) (by omega)
 omega

theorem ij (p:Nat):(0:Int)<2 ^ p:=Int.pow_pos (by decide)

theorem ls {a b T:Int}(hT:0<T):az (a*T) (b*T)=az a b:=by
 unfold az
 have h1:a*T<b*T ↔ a<b:=⟨fun h=>Int.lt_of_mul_lt_mul_right h (by omega),fun h=>Int.mul_lt_mul_of_pos_right h hT⟩
 have h2:b*T<a*T ↔ b<a:=⟨fun h=>Int.lt_of_mul_lt_mul_right h (by omega),fun h=>Int.mul_lt_mul_of_pos_right h hT⟩
 simp only [h1,h2]

theorem ef (M:Int)(p:Nat):(M*2 ^ p).sign=M.sign:=by
 rw [Int.sign_mul,Int.sign_eq_one_of_pos (ij p),Int.mul_one]

theorem dz (z:Int):(z.sign=-1∧z<0)∨(z.sign=0∧z=0)∨(z.sign=1∧0<z):=by
 rcases Int.lt_trichotomy z 0 with h|h|h
 ·exact .inl ⟨Int.sign_eq_neg_one_of_neg h,h⟩
 ·exact .inr (.inl ⟨by rw [h];rfl,h⟩)
 ·exact .inr (.inr ⟨Int.sign_eq_one_of_pos h,h⟩)

theorem nK {V1 V2:Int}(h:V1.sign≠V2.sign):az V1 V2=if V1.sign<V2.sign then -1 else 1:=by
 have h1:=dz V1
 have h2:=dz V2
 unfold az
 by_cases h3:V1<V2
 ·rw [if_pos h3,if_pos (by omega)]
 ·rw [if_neg h3,if_pos (show V2<V1 by omega),if_neg (by omega)]

theorem ka (M:Int)(p:Nat):(M*2 ^ p).natAbs=M.natAbs*2 ^ p:=by
 rw [Int.natAbs_mul,Int.natAbs_pow];rfl

theorem p9 {M1 M2:Int}{p q:Nat}(hs:M1.sign=M2.sign)(h0:M1.sign≠0)(ht:blen M1.natAbs+p≠blen M2.natAbs+q):az (M1*2 ^ p) (M2*2 ^ q)=if blen M1.natAbs+p<blen M2.natAbs+q then -M1.sign else M1.sign:=by
 have h1:=dz (M1*2 ^ p)
 have h2:=dz (M2*2 ^ q)
 rw [ef] at h1 h2
 have n1:M1.natAbs≠0:=by rintro h;exact h0 (by rw [Int.natAbs_eq_zero.1 h];rfl)
 have n2:M2.natAbs≠0:=by rintro h;exact h0 (by rw [hs,Int.natAbs_eq_zero.1 h];rfl)
 have a1:=ka M1 p
 have a2:=ka M2 q
 unfold az
 by_cases hlt:blen M1.natAbs+p<blen M2.natAbs+q
 ·have h9:=jm hlt n2
  rw [if_pos hlt]
  rcases h1 with h1|h1|h1
  ·rw [if_neg (by omega),if_pos (by omega)];omega
  ·omega
  ·rw [if_pos (by omega)];omega
 ·have h9:=jm (show blen M2.natAbs+q<blen M1.natAbs+p by omega) n1
  rw [if_neg hlt]
  rcases h1 with h1|h1|h1
  ·rw [if_pos (by omega)];omega
  ·omega
  ·rw [if_neg (by omega),if_pos (by omega)];omega

theorem oL (b1:Bool)(a1:Option Addr)(n1 c1:Nat)(M1 E1:Int)(b2:Bool)(a2:Option Addr)(n2 c2:Nat)(M2 E2:Int)(w:World)(hD1:Dn w b1 (.slice a1 n1 c1) M1)(hD2:Dn w b2 (.slice a2 n2 c2) M2)(f1:blen M1.natAbs≤1125899906840000)(f2:blen M2.natAbs≤1125899906840000)(he1:-1152921504606846976≤E1)(he2:E1≤1152921504606846976)(he3:-1152921504606846976≤E2)(he4:E2≤1152921504606846976)(hs:M1.sign≠M2.sign) :
  Calls Tryz.prog 20 #[.agg #[.bool b1,.slice a1 n1 c1,.int .i64 E1],.agg #[.bool b2,.slice a2 n2 c2,.int .i64 E2]] w fun e w'=>e=.returned (.int .i64 (if M1.sign<M2.sign then -1 else 1))∧Below w.heap.size w w':=by
 obtain⟨w0,hw0,hb0,k0,k1⟩:=aA w (.cells #[.bool b1,.slice a1 n1 c1,.int .i64 E1] 41) (.cells #[.bool b2,.slice a2 n2 c2,.int .i64 E2] 41)
 have gd:Below w.heap.size w w0.drew:=hb0.drew
 have SG1:=ab (fun (W:World) (hg:Below w0.drew.heap.size w0.drew W)=>bo (.agg #[.bool b1,.slice a1 n1 c1]) M1 W ((hD1.below gd).below hg).zn)
 have SG2:=ab (fun (W:World) (hg:Below w0.drew.heap.size w0.drew W)=>bo (.agg #[.bool b2,.slice a2 n2 c2]) M2 W ((hD2.below gd).below hg).zn)
 have TP1:=ab (fun (W:World) (hg:Below w0.drew.heap.size w0.drew W)=>cq b1 a1 n1 c1 M1 E1 W ((hD1.below gd).below hg) (by omega) (by omega) (by omega))
 have TP2:=ab (fun (W:World) (hg:Below w0.drew.heap.size w0.drew W)=>cq b2 a2 n2 c2 M2 E2 W ((hD2.below gd).below hg) (by omega) (by omega) (by omega))
 have HD1:=ab (hD1.below gd)
 have HD2:=ab (hD2.below gd)
 have KB:=ab (fun (W:World) (hg:Below w0.drew.heap.size w0.drew W)=>And.intro (ac hg (show w0.drew.heap[w.heap.size]?=some (.cells #[.bool b1,.slice a1 n1 c1,.int .i64 E1] 41) from k0)) (ac hg (show w0.drew.heap[w.heap.size+1]?=some (.cells #[.bool b2,.slice a2 n2 c2,.int .i64 E2] 41) from k1)))
 have KS:=ab (fun (W:World) (hg:Below w0.drew.heap.size w0.drew W)=>show W.cell? ⟨w.heap.size,0,none⟩=some (.bool b1)∧W.cell? ⟨w.heap.size,1,none⟩=some (.slice a1 n1 c1)∧W.cell? ⟨w.heap.size,2,none⟩=some (.int .i64 E1)∧W.cell? ⟨w.heap.size+1,0,none⟩=some (.bool b2)∧W.cell? ⟨w.heap.size+1,1,none⟩=some (.slice a2 n2 c2)∧W.cell? ⟨w.heap.size+1,2,none⟩=some (.int .i64 E2) from ⟨(tri8 (KB.out W hg).1).1,(tri8 (KB.out W hg).1).2.1,(tri8 (KB.out W hg).1).2.2,(tri8 (KB.out W hg).2).1,(tri8 (KB.out W hg).2).2.1,(tri8 (KB.out W hg).2).2.2⟩)
 have g0:Below w0.drew.heap.size w0.drew w0.drew:=Below.refl _ _
 have HGD:=ab gd
 clear k0 k1 hb0 gd hD1 hD2
 have hne:(M1.sign != M2.sign)=true:=bne_iff_ne.2 hs
 generalize M1.sign=x at *
 generalize M2.sign=y at *
 by_cases hlt:x<y
 ·have hd:decide (x<y)=true:=decide_eq_true hlt
  rw [if_pos hlt]
  go_enter Tryz.func20,Tryz.ntmps20
  go_wp2_with fail
  go_region_held3 (fun w'=>w'.cell? ⟨w.heap.size,0,none⟩=some (.bool b1)∧w'.cell? ⟨w.heap.size,1,none⟩=some (.slice a1 n1 c1)∧w'.cell? ⟨w.heap.size,2,none⟩=some (.int .i64 E1)∧w'.cell? ⟨w.heap.size+1,0,none⟩=some (.bool b2)∧w'.cell? ⟨w.heap.size+1,1,none⟩=some (.slice a2 n2 c2)∧w'.cell? ⟨w.heap.size+1,2,none⟩=some (.int .i64 E2)) (first|with_reducible exact KS.out _ g2|with_reducible exact KS.out _ g1|with_reducible exact KS.out _ g0) (first
   | (go_at_call_of 42 a1;refine (SG1.out _ g0).mono ?_;rintro e' t1 ⟨rfl,hb1⟩;have g1:=ae g0 hb1)
   | (go_at_call_of 42 a2;refine (SG2.out _ g1).mono ?_;rintro e' t2 ⟨rfl,hb2⟩;have g2:=ae g1 hb2))
  clear hb1 hb2
  have HE:=ab (ae HGD.out g2)
  clear g0 g1 g2
  go_wp2
  go_ret
  exact⟨rfl,HE.out⟩
 ·have hd:decide (x<y)=false:=decide_eq_false hlt
  rw [if_neg hlt]
  go_enter Tryz.func20,Tryz.ntmps20
  go_wp2_with fail
  go_region_held3 (fun w'=>w'.cell? ⟨w.heap.size,0,none⟩=some (.bool b1)∧w'.cell? ⟨w.heap.size,1,none⟩=some (.slice a1 n1 c1)∧w'.cell? ⟨w.heap.size,2,none⟩=some (.int .i64 E1)∧w'.cell? ⟨w.heap.size+1,0,none⟩=some (.bool b2)∧w'.cell? ⟨w.heap.size+1,1,none⟩=some (.slice a2 n2 c2)∧w'.cell? ⟨w.heap.size+1,2,none⟩=some (.int .i64 E2)) (first|with_reducible exact KS.out _ g2|with_reducible exact KS.out _ g1|with_reducible exact KS.out _ g0) (first
   | (go_at_call_of 42 a1;refine (SG1.out _ g0).mono ?_;rintro e' t1 ⟨rfl,hb1⟩;have g1:=ae g0 hb1)
   | (go_at_call_of 42 a2;refine (SG2.out _ g1).mono ?_;rintro e' t2 ⟨rfl,hb2⟩;have g2:=ae g1 hb2))
  clear hb1 hb2
  have HE:=ab (ae HGD.out g2)
  clear g0 g1 g2
  go_wp2
  go_ret
  exact⟨rfl,HE.out⟩

theorem nJ (b1:Bool)(a1:Option Addr)(n1 c1:Nat)(M1 E1:Int)(b2:Bool)(a2:Option Addr)(n2 c2:Nat)(M2 E2:Int)(w:World)(hD1:Dn w b1 (.slice a1 n1 c1) M1)(hD2:Dn w b2 (.slice a2 n2 c2) M2)(f1:blen M1.natAbs≤1125899906840000)(f2:blen M2.natAbs≤1125899906840000)(he1:-1152921504606846976≤E1)(he2:E1≤1152921504606846976)(he3:-1152921504606846976≤E2)(he4:E2≤1152921504606846976)(hs:M1.sign=M2.sign)(h0:M1.sign=0) :
  Calls Tryz.prog 20 #[.agg #[.bool b1,.slice a1 n1 c1,.int .i64 E1],.agg #[.bool b2,.slice a2 n2 c2,.int .i64 E2]] w fun e w'=>e=.returned (.int .i64 0)∧Below w.heap.size w w':=by
 obtain⟨w0,hw0,hb0,k0,k1⟩:=aA w (.cells #[.bool b1,.slice a1 n1 c1,.int .i64 E1] 41) (.cells #[.bool b2,.slice a2 n2 c2,.int .i64 E2] 41)
 have gd:Below w.heap.size w w0.drew:=hb0.drew
 have SG1:=ab (fun (W:World) (hg:Below w0.drew.heap.size w0.drew W)=>bo (.agg #[.bool b1,.slice a1 n1 c1]) M1 W ((hD1.below gd).below hg).zn)
 have SG2:=ab (fun (W:World) (hg:Below w0.drew.heap.size w0.drew W)=>bo (.agg #[.bool b2,.slice a2 n2 c2]) M2 W ((hD2.below gd).below hg).zn)
 have TP1:=ab (fun (W:World) (hg:Below w0.drew.heap.size w0.drew W)=>cq b1 a1 n1 c1 M1 E1 W ((hD1.below gd).below hg) (by omega) (by omega) (by omega))
 have TP2:=ab (fun (W:World) (hg:Below w0.drew.heap.size w0.drew W)=>cq b2 a2 n2 c2 M2 E2 W ((hD2.below gd).below hg) (by omega) (by omega) (by omega))
 have HD1:=ab (hD1.below gd)
 have HD2:=ab (hD2.below gd)
 have KB:=ab (fun (W:World) (hg:Below w0.drew.heap.size w0.drew W)=>And.intro (ac hg (show w0.drew.heap[w.heap.size]?=some (.cells #[.bool b1,.slice a1 n1 c1,.int .i64 E1] 41) from k0)) (ac hg (show w0.drew.heap[w.heap.size+1]?=some (.cells #[.bool b2,.slice a2 n2 c2,.int .i64 E2] 41) from k1)))
 have KS:=ab (fun (W:World) (hg:Below w0.drew.heap.size w0.drew W)=>show W.cell? ⟨w.heap.size,0,none⟩=some (.bool b1)∧W.cell? ⟨w.heap.size,1,none⟩=some (.slice a1 n1 c1)∧W.cell? ⟨w.heap.size,2,none⟩=some (.int .i64 E1)∧W.cell? ⟨w.heap.size+1,0,none⟩=some (.bool b2)∧W.cell? ⟨w.heap.size+1,1,none⟩=some (.slice a2 n2 c2)∧W.cell? ⟨w.heap.size+1,2,none⟩=some (.int .i64 E2) from ⟨(tri8 (KB.out W hg).1).1,(tri8 (KB.out W hg).1).2.1,(tri8 (KB.out W hg).1).2.2,(tri8 (KB.out W hg).2).1,(tri8 (KB.out W hg).2).2.1,(tri8 (KB.out W hg).2).2.2⟩)
 have g0:Below w0.drew.heap.size w0.drew w0.drew:=Below.refl _ _
 have HGD:=ab gd
 clear k0 k1 hb0 gd hD1 hD2
 rw [←hs,h0] at SG2
 rw [h0] at SG1
 clear hs h0
 go_enter Tryz.func20,Tryz.ntmps20
 go_wp2_with fail
 go_region_held3 (fun w'=>w'.cell? ⟨w.heap.size,0,none⟩=some (.bool b1)∧w'.cell? ⟨w.heap.size,1,none⟩=some (.slice a1 n1 c1)∧w'.cell? ⟨w.heap.size,2,none⟩=some (.int .i64 E1)∧w'.cell? ⟨w.heap.size+1,0,none⟩=some (.bool b2)∧w'.cell? ⟨w.heap.size+1,1,none⟩=some (.slice a2 n2 c2)∧w'.cell? ⟨w.heap.size+1,2,none⟩=some (.int .i64 E2)) (first|with_reducible exact KS.out _ g2|with_reducible exact KS.out _ g1|with_reducible exact KS.out _ g0) (first
  | (go_at_call_of 42 a1;refine (SG1.out _ g0).mono ?_;rintro e' t1 ⟨rfl,hb1⟩;have g1:=ae g0 hb1)
  | (go_at_call_of 42 a2;refine (SG2.out _ g1).mono ?_;rintro e' t2 ⟨rfl,hb2⟩;have g2:=ae g1 hb2))
 clear hb1 hb2
 have HE:=ab (ae HGD.out g2)
 clear g0 g1 g2
 go_wp2
 go_ret
 exact⟨rfl,HE.out⟩

theorem mU (b1:Bool)(a1:Option Addr)(n1 c1:Nat)(M1 E1:Int)(b2:Bool)(a2:Option Addr)(n2 c2:Nat)(M2 E2:Int)(w:World)(hD1:Dn w b1 (.slice a1 n1 c1) M1)(hD2:Dn w b2 (.slice a2 n2 c2) M2)(f1:blen M1.natAbs≤1125899906840000)(f2:blen M2.natAbs≤1125899906840000)(he1:-1152921504606846976≤E1)(he2:E1≤1152921504606846976)(he3:-1152921504606846976≤E2)(he4:E2≤1152921504606846976)(hs:M1.sign=M2.sign)(h0:M1.sign≠0)(ht:((blen M1.natAbs:Nat):Int) - 1+E1≠((blen M2.natAbs:Nat):Int) - 1+E2) :
  Calls Tryz.prog 20 #[.agg #[.bool b1,.slice a1 n1 c1,.int .i64 E1],.agg #[.bool b2,.slice a2 n2 c2,.int .i64 E2]] w fun e w'=>e=.returned (.int .i64 (if ((blen M1.natAbs:Nat):Int) - 1+E1<((blen M2.natAbs:Nat):Int) - 1+E2 then -M1.sign else M1.sign))∧Below w.heap.size w w':=by
 obtain⟨w0,hw0,hb0,k0,k1⟩:=aA w (.cells #[.bool b1,.slice a1 n1 c1,.int .i64 E1] 41) (.cells #[.bool b2,.slice a2 n2 c2,.int .i64 E2] 41)
 have gd:Below w.heap.size w w0.drew:=hb0.drew
 have SG1:=ab (fun (W:World) (hg:Below w0.drew.heap.size w0.drew W)=>bo (.agg #[.bool b1,.slice a1 n1 c1]) M1 W ((hD1.below gd).below hg).zn)
 have SG2:=ab (fun (W:World) (hg:Below w0.drew.heap.size w0.drew W)=>bo (.agg #[.bool b2,.slice a2 n2 c2]) M2 W ((hD2.below gd).below hg).zn)
 have TP1:=ab (fun (W:World) (hg:Below w0.drew.heap.size w0.drew W)=>cq b1 a1 n1 c1 M1 E1 W ((hD1.below gd).below hg) (by omega) (by omega) (by omega))
 have TP2:=ab (fun (W:World) (hg:Below w0.drew.heap.size w0.drew W)=>cq b2 a2 n2 c2 M2 E2 W ((hD2.below gd).below hg) (by omega) (by omega) (by omega))
 have HD1:=ab (hD1.below gd)
 have HD2:=ab (hD2.below gd)
 have KB:=ab (fun (W:World) (hg:Below w0.drew.heap.size w0.drew W)=>And.intro (ac hg (show w0.drew.heap[w.heap.size]?=some (.cells #[.bool b1,.slice a1 n1 c1,.int .i64 E1] 41) from k0)) (ac hg (show w0.drew.heap[w.heap.size+1]?=some (.cells #[.bool b2,.slice a2 n2 c2,.int .i64 E2] 41) from k1)))
 have KS:=ab (fun (W:World) (hg:Below w0.drew.heap.size w0.drew W)=>show W.cell? ⟨w.heap.size,0,none⟩=some (.bool b1)∧W.cell? ⟨w.heap.size,1,none⟩=some (.slice a1 n1 c1)∧W.cell? ⟨w.heap.size,2,none⟩=some (.int .i64 E1)∧W.cell? ⟨w.heap.size+1,0,none⟩=some (.bool b2)∧W.cell? ⟨w.heap.size+1,1,none⟩=some (.slice a2 n2 c2)∧W.cell? ⟨w.heap.size+1,2,none⟩=some (.int .i64 E2) from ⟨(tri8 (KB.out W hg).1).1,(tri8 (KB.out W hg).1).2.1,(tri8 (KB.out W hg).1).2.2,(tri8 (KB.out W hg).2).1,(tri8 (KB.out W hg).2).2.1,(tri8 (KB.out W hg).2).2.2⟩)
 have g0:Below w0.drew.heap.size w0.drew w0.drew:=Below.refl _ _
 have HGD:=ab gd
 clear k0 k1 hb0 gd hD1 hD2
 have hsv:=dz M1
 rw [←hs] at SG2
 generalize ((blen M1.natAbs:Nat):Int) - 1+E1=T1 at *
 generalize ((blen M2.natAbs:Nat):Int) - 1+E2=T2 at *
 have hx:M1.sign=-1∨M1.sign=1:=by omega
 generalize M1.sign=x at *
 clear hs hsv
 have htb:(T1 != T2)=true:=bne_iff_ne.2 ht
 have h0b:(x == 0)=false:=beq_eq_false_iff_ne.2 h0
 have hxx:(x != x)=false:=by simp
 have hwr:IntKind.i64.wrap (-x)=-x:=by rw [IntKind.wrap_i64];omega
 clear hx
 by_cases hlt:T1<T2
 ·have hd:decide (T1<T2)=true:=decide_eq_true hlt
  rw [if_pos hlt]
  obtain⟨mx,hmx⟩:∃mx,-x=mx:=⟨_,rfl⟩
  rw [hmx] at hwr
  have hmx2:-x=mx:=hmx
  rw [hmx]
  clear hmx
  go_enter Tryz.func20,Tryz.ntmps20
  go_wp2_with fail
  go_region_held3 (fun w'=>w'.cell? ⟨w.heap.size,0,none⟩=some (.bool b1)∧w'.cell? ⟨w.heap.size,1,none⟩=some (.slice a1 n1 c1)∧w'.cell? ⟨w.heap.size,2,none⟩=some (.int .i64 E1)∧w'.cell? ⟨w.heap.size+1,0,none⟩=some (.bool b2)∧w'.cell? ⟨w.heap.size+1,1,none⟩=some (.slice a2 n2 c2)∧w'.cell? ⟨w.heap.size+1,2,none⟩=some (.int .i64 E2)) (first|with_reducible exact KS.out _ g2|with_reducible exact KS.out _ g1|with_reducible exact KS.out _ g0) (first
   | (go_at_call_of 42 a1;refine (SG1.out _ g0).mono ?_;rintro e' t1 ⟨rfl,hb1⟩;have g1:=ae g0 hb1)
   | (go_at_call_of 42 a2;refine (SG2.out _ g1).mono ?_;rintro e' t2 ⟨rfl,hb2⟩;have g2:=ae g1 hb2))
  clear hb1 hb2
  have h0a:Below t2.heap.size t2 t2.drew:=(Below.refl _ _).drew
  have g3:=ae g2 h0a
  obtain⟨ca0,cb0,cc0⟩:=tri8 (KB.out _ g3).1
  obtain⟨ca1,cb1,cc1⟩:=tri8 (KB.out _ g3).2
  clear h0a
  go_wp2_with fail
  go_region_held3 (fun w'=>w'.cell? ⟨w.heap.size,0,none⟩=some (.bool b1)∧w'.cell? ⟨w.heap.size,1,none⟩=some (.slice a1 n1 c1)∧w'.cell? ⟨w.heap.size,2,none⟩=some (.int .i64 E1)∧w'.cell? ⟨w.heap.size+1,0,none⟩=some (.bool b2)∧w'.cell? ⟨w.heap.size+1,1,none⟩=some (.slice a2 n2 c2)∧w'.cell? ⟨w.heap.size+1,2,none⟩=some (.int .i64 E2)) (first|with_reducible exact KS.out _ g5|with_reducible exact KS.out _ g4|with_reducible exact KS.out _ g3) (first
   | (go_at_call_of 43 a1;refine (TP1.out _ g3).mono ?_;rintro e' t4 ⟨rfl,hb4⟩;have g4:=ae g3 hb4)
   | (go_at_call_of 43 a2;refine (TP2.out _ g4).mono ?_;rintro e' t5 ⟨rfl,hb5⟩;have g5:=ae g4 hb5))
  clear hb4 hb5 ca0 cb0 cc0 ca1 cb1 cc1
  have g2x:=g2
  have t2b:=t2
  clear g0 g1 g2 t2b g2x
  have HG5:=ab g5
  clear g3 g4 g5
  have h0a:Below t5.heap.size t5 t5.drew:=(Below.refl _ _).drew
  have g3:=ae HG5.out h0a
  obtain⟨ca0,cb0,cc0⟩:=tri8 (KB.out _ g3).1
  obtain⟨ca1,cb1,cc1⟩:=tri8 (KB.out _ g3).2
  clear h0a
  go_wp2_with fail
  go_region_held3 (fun w'=>w'.cell? ⟨w.heap.size,0,none⟩=some (.bool b1)∧w'.cell? ⟨w.heap.size,1,none⟩=some (.slice a1 n1 c1)∧w'.cell? ⟨w.heap.size,2,none⟩=some (.int .i64 E1)∧w'.cell? ⟨w.heap.size+1,0,none⟩=some (.bool b2)∧w'.cell? ⟨w.heap.size+1,1,none⟩=some (.slice a2 n2 c2)∧w'.cell? ⟨w.heap.size+1,2,none⟩=some (.int .i64 E2)) (first|with_reducible exact KS.out _ g7|with_reducible exact KS.out _ g6|with_reducible exact KS.out _ g3) (first
   | (go_at_call_of 43 a1;refine (TP1.out _ g3).mono ?_;rintro e' t6 ⟨rfl,hb6⟩;have g6:=ae g3 hb6)
   | (go_at_call_of 43 a2;refine (TP2.out _ g6).mono ?_;rintro e' t7 ⟨rfl,hb7⟩;have g7:=ae g6 hb7))
  have HE:=ab (ae HGD.out g7)
  clear g3 g6 g7 hb6 hb7 ca0 cb0 cc0 ca1 cb1 cc1
  go_wp2
  go_ret
  exact⟨rfl,HE.out⟩
 ·have hd:decide (T1<T2)=false:=decide_eq_false hlt
  rw [if_neg hlt]
  go_enter Tryz.func20,Tryz.ntmps20
  go_wp2_with fail
  go_region_held3 (fun w'=>w'.cell? ⟨w.heap.size,0,none⟩=some (.bool b1)∧w'.cell? ⟨w.heap.size,1,none⟩=some (.slice a1 n1 c1)∧w'.cell? ⟨w.heap.size,2,none⟩=some (.int .i64 E1)∧w'.cell? ⟨w.heap.size+1,0,none⟩=some (.bool b2)∧w'.cell? ⟨w.heap.size+1,1,none⟩=some (.slice a2 n2 c2)∧w'.cell? ⟨w.heap.size+1,2,none⟩=some (.int .i64 E2)) (first|with_reducible exact KS.out _ g2|with_reducible exact KS.out _ g1|with_reducible exact KS.out _ g0) (first
   | (go_at_call_of 42 a1;refine (SG1.out _ g0).mono ?_;rintro e' t1 ⟨rfl,hb1⟩;have g1:=ae g0 hb1)
   | (go_at_call_of 42 a2;refine (SG2.out _ g1).mono ?_;rintro e' t2 ⟨rfl,hb2⟩;have g2:=ae g1 hb2))
  clear hb1 hb2
  have h0a:Below t2.heap.size t2 t2.drew:=(Below.refl _ _).drew
  have g3:=ae g2 h0a
  obtain⟨ca0,cb0,cc0⟩:=tri8 (KB.out _ g3).1
  obtain⟨ca1,cb1,cc1⟩:=tri8 (KB.out _ g3).2
  clear h0a
  go_wp2_with fail
  go_region_held3 (fun w'=>w'.cell? ⟨w.heap.size,0,none⟩=some (.bool b1)∧w'.cell? ⟨w.heap.size,1,none⟩=some (.slice a1 n1 c1)∧w'.cell? ⟨w.heap.size,2,none⟩=some (.int .i64 E1)∧w'.cell? ⟨w.heap.size+1,0,none⟩=some (.bool b2)∧w'.cell? ⟨w.heap.size+1,1,none⟩=some (.slice a2 n2 c2)∧w'.cell? ⟨w.heap.size+1,2,none⟩=some (.int .i64 E2)) (first|with_reducible exact KS.out _ g5|with_reducible exact KS.out _ g4|with_reducible exact KS.out _ g3) (first
   | (go_at_call_of 43 a1;refine (TP1.out _ g3).mono ?_;rintro e' t4 ⟨rfl,hb4⟩;have g4:=ae g3 hb4)
   | (go_at_call_of 43 a2;refine (TP2.out _ g4).mono ?_;rintro e' t5 ⟨rfl,hb5⟩;have g5:=ae g4 hb5))
  clear hb4 hb5 ca0 cb0 cc0 ca1 cb1 cc1
  clear g0 g1 g2
  have HG5:=ab g5
  clear g3 g4 g5
  have h0a:Below t5.heap.size t5 t5.drew:=(Below.refl _ _).drew
  have g3:=ae HG5.out h0a
  obtain⟨ca0,cb0,cc0⟩:=tri8 (KB.out _ g3).1
  obtain⟨ca1,cb1,cc1⟩:=tri8 (KB.out _ g3).2
  clear h0a
  go_wp2_with fail
  go_region_held3 (fun w'=>w'.cell? ⟨w.heap.size,0,none⟩=some (.bool b1)∧w'.cell? ⟨w.heap.size,1,none⟩=some (.slice a1 n1 c1)∧w'.cell? ⟨w.heap.size,2,none⟩=some (.int .i64 E1)∧w'.cell? ⟨w.heap.size+1,0,none⟩=some (.bool b2)∧w'.cell? ⟨w.heap.size+1,1,none⟩=some (.slice a2 n2 c2)∧w'.cell? ⟨w.heap.size+1,2,none⟩=some (.int .i64 E2)) (first|with_reducible exact KS.out _ g7|with_reducible exact KS.out _ g6|with_reducible exact KS.out _ g3) (first
   | (go_at_call_of 43 a1;refine (TP1.out _ g3).mono ?_;rintro e' t6 ⟨rfl,hb6⟩;have g6:=ae g3 hb6)
   | (go_at_call_of 43 a2;refine (TP2.out _ g6).mono ?_;rintro e' t7 ⟨rfl,hb7⟩;have g7:=ae g6 hb7))
  have HE:=ab (ae HGD.out g7)
  clear g3 g6 g7 hb6 hb7 ca0 cb0 cc0 ca1 cb1 cc1
  go_wp2
  go_ret
  exact⟨rfl,HE.out⟩

theorem oP (b1:Bool)(a1:Option Addr)(n1 c1:Nat)(M1 E1:Int)(b2:Bool)(a2:Option Addr)(n2 c2:Nat)(M2 E2:Int)(g:Nat)(w:World)(hD1:Dn w b1 (.slice a1 n1 c1) M1)(hD2:Dn w b2 (.slice a2 n2 c2) M2)(f1:blen M1.natAbs≤1125899906840000)(f2:blen M2.natAbs≤1125899906840000)(he1:-1152921504606846976≤E1)(he2:E1≤1152921504606846976)(he3:-1152921504606846976≤E2)(he4:E2≤1152921504606846976)(hs:M1.sign=M2.sign)(h0:M1.sign≠0)(ht:((blen M1.natAbs:Nat):Int) - 1+E1=((blen M2.natAbs:Nat):Int) - 1+E2)(hg9:E2 - E1=(g:Int)) :
  Calls Tryz.prog 20 #[.agg #[.bool b1,.slice a1 n1 c1,.int .i64 E1],.agg #[.bool b2,.slice a2 n2 c2,.int .i64 E2]] w fun e w'=>e=.returned (.int .i64 (az M1 (M2*2 ^ g)))∧Below w.heap.size w w':=by
 obtain⟨w0,hw0,hb0,k0,k1⟩:=aA w (.cells #[.bool b1,.slice a1 n1 c1,.int .i64 E1] 41) (.cells #[.bool b2,.slice a2 n2 c2,.int .i64 E2] 41)
 have gd:Below w.heap.size w w0.drew:=hb0.drew
 have SG1:=ab (fun (W:World) (hg:Below w0.drew.heap.size w0.drew W)=>bo (.agg #[.bool b1,.slice a1 n1 c1]) M1 W ((hD1.below gd).below hg).zn)
 have SG2:=ab (fun (W:World) (hg:Below w0.drew.heap.size w0.drew W)=>bo (.agg #[.bool b2,.slice a2 n2 c2]) M2 W ((hD2.below gd).below hg).zn)
 have TP1:=ab (fun (W:World) (hg:Below w0.drew.heap.size w0.drew W)=>cq b1 a1 n1 c1 M1 E1 W ((hD1.below gd).below hg) (by omega) (by omega) (by omega))
 have TP2:=ab (fun (W:World) (hg:Below w0.drew.heap.size w0.drew W)=>cq b2 a2 n2 c2 M2 E2 W ((hD2.below gd).below hg) (by omega) (by omega) (by omega))
 have HD1:=ab (hD1.below gd)
 have HD2:=ab (hD2.below gd)
 have KB:=ab (fun (W:World) (hg:Below w0.drew.heap.size w0.drew W)=>And.intro (ac hg (show w0.drew.heap[w.heap.size]?=some (.cells #[.bool b1,.slice a1 n1 c1,.int .i64 E1] 41) from k0)) (ac hg (show w0.drew.heap[w.heap.size+1]?=some (.cells #[.bool b2,.slice a2 n2 c2,.int .i64 E2] 41) from k1)))
 have KS:=ab (fun (W:World) (hg:Below w0.drew.heap.size w0.drew W)=>show W.cell? ⟨w.heap.size,0,none⟩=some (.bool b1)∧W.cell? ⟨w.heap.size,1,none⟩=some (.slice a1 n1 c1)∧W.cell? ⟨w.heap.size,2,none⟩=some (.int .i64 E1)∧W.cell? ⟨w.heap.size+1,0,none⟩=some (.bool b2)∧W.cell? ⟨w.heap.size+1,1,none⟩=some (.slice a2 n2 c2)∧W.cell? ⟨w.heap.size+1,2,none⟩=some (.int .i64 E2) from ⟨(tri8 (KB.out W hg).1).1,(tri8 (KB.out W hg).1).2.1,(tri8 (KB.out W hg).1).2.2,(tri8 (KB.out W hg).2).1,(tri8 (KB.out W hg).2).2.1,(tri8 (KB.out W hg).2).2.2⟩)
 have g0:Below w0.drew.heap.size w0.drew w0.drew:=Below.refl _ _
 have HGD:=ab gd
 clear k0 k1 hb0 gd hD1 hD2
 have SHF:=ab (fun (W:World) (hg:Below w0.drew.heap.size w0.drew W)=>gm b2 a2 n2 c2 M2 g W (HD2.out.below hg).zn (by omega))
 rw [←hs] at SG2
 rw [←ht] at TP2
 have htt:(((blen M1.natAbs:Nat):Int) - 1+E1 != ((blen M1.natAbs:Nat):Int) - 1+E1)=false:=by simp
 have htd:E1≤E2:=by omega
 have htd2:decide (E1≤E2)=true:=decide_eq_true htd
 have hwr:IntKind.i64.wrap (E2 - E1)=(g:Int):=by rw [hg9,IntKind.wrap_i64];omega
 generalize ((blen M1.natAbs:Nat):Int) - 1+E1=T1 at *
 have h0b:(M1.sign == 0)=false:=beq_eq_false_iff_ne.2 h0
 have hxx:(M1.sign != M1.sign)=false:=by simp
 generalize M1.sign=x at *
 have HG9:=ab hg9
 clear hs ht h0 hg9
 go_enter Tryz.func20,Tryz.ntmps20
 go_wp2_with fail
 go_region_held3 (fun w'=>w'.cell? ⟨w.heap.size,0,none⟩=some (.bool b1)∧w'.cell? ⟨w.heap.size,1,none⟩=some (.slice a1 n1 c1)∧w'.cell? ⟨w.heap.size,2,none⟩=some (.int .i64 E1)∧w'.cell? ⟨w.heap.size+1,0,none⟩=some (.bool b2)∧w'.cell? ⟨w.heap.size+1,1,none⟩=some (.slice a2 n2 c2)∧w'.cell? ⟨w.heap.size+1,2,none⟩=some (.int .i64 E2)) (first|with_reducible exact KS.out _ g2|with_reducible exact KS.out _ g1|with_reducible exact KS.out _ g0) (first
  | (go_at_call_of 42 a1;refine (SG1.out _ g0).mono ?_;rintro e' t1 ⟨rfl,hb1⟩;have g1:=ae g0 hb1)
  | (go_at_call_of 42 a2;refine (SG2.out _ g1).mono ?_;rintro e' t2 ⟨rfl,hb2⟩;have g2:=ae g1 hb2))
 clear hb1 hb2
 have h0a:Below t2.heap.size t2 t2.drew:=(Below.refl _ _).drew
 have g3:=ae g2 h0a
 obtain⟨ca0,cb0,cc0⟩:=tri8 (KB.out _ g3).1
 obtain⟨ca1,cb1,cc1⟩:=tri8 (KB.out _ g3).2
 clear h0a
 go_wp2_with fail
 go_region_held3 (fun w'=>w'.cell? ⟨w.heap.size,0,none⟩=some (.bool b1)∧w'.cell? ⟨w.heap.size,1,none⟩=some (.slice a1 n1 c1)∧w'.cell? ⟨w.heap.size,2,none⟩=some (.int .i64 E1)∧w'.cell? ⟨w.heap.size+1,0,none⟩=some (.bool b2)∧w'.cell? ⟨w.heap.size+1,1,none⟩=some (.slice a2 n2 c2)∧w'.cell? ⟨w.heap.size+1,2,none⟩=some (.int .i64 E2)) (first|with_reducible exact KS.out _ g5|with_reducible exact KS.out _ g4|with_reducible exact KS.out _ g3) (first
  | (go_at_call_of 43 a1;refine (TP1.out _ g3).mono ?_;rintro e' t4 ⟨rfl,hb4⟩;have g4:=ae g3 hb4)
  | (go_at_call_of 43 a2;refine (TP2.out _ g4).mono ?_;rintro e' t5 ⟨rfl,hb5⟩;have g5:=ae g4 hb5))
 clear hb4 hb5 ca0 cb0 cc0 ca1 cb1 cc1
 clear g0 g1 g2
 have HG5:=ab g5
 clear g3 g4 g5
 obtain⟨da0,db0,dc0⟩:=tri8 (KB.out _ HG5.out).1
 obtain⟨da1,db1,dc1⟩:=tri8 (KB.out _ HG5.out).2
 go_wp2_with fail
 have h0a:Below t5.heap.size t5 t5.drew:=(Below.refl _ _).drew
 have g7:=ae HG5.out h0a
 obtain⟨ca0,cb0,cc0⟩:=tri8 (KB.out _ g7).1
 obtain⟨ca1,cb1,cc1⟩:=tri8 (KB.out _ g7).2
 clear h0a da0 db0 dc0 da1 db1 dc1
 go_region_held3 (fun w'=>w'.cell? ⟨w.heap.size,0,none⟩=some (.bool b1)∧w'.cell? ⟨w.heap.size,1,none⟩=some (.slice a1 n1 c1)∧w'.cell? ⟨w.heap.size,2,none⟩=some (.int .i64 E1)∧w'.cell? ⟨w.heap.size+1,0,none⟩=some (.bool b2)∧w'.cell? ⟨w.heap.size+1,1,none⟩=some (.slice a2 n2 c2)∧w'.cell? ⟨w.heap.size+1,2,none⟩=some (.int .i64 E2)) (first|with_reducible exact KS.out _ g9|with_reducible exact KS.out _ g8|with_reducible exact KS.out _ g7) (first
  | (go_at_call 44;refine (jk (.agg #[.bool b1,.slice a1 n1 c1]) (.agg #[.bool b8,.slice a8 n8 k8]) M1 (M2*2 ^ g) _ (HD1.out.below g8).zn y8).mono ?_;rintro e' t9 ⟨rfl,hb9⟩;have g9:=ae g8 hb9)
  | (go_at_call 45;refine (SHF.out _ g7).mono ?_;rintro e' t8 ⟨⟨b8,a8,n8,k8,rfl,y8⟩,hb8⟩;have g8:=ae g7 hb8))
 have HE:=ab (ae HGD.out g9)
 clear g7 g8 g9 hb8 hb9 ca0 cb0 cc0 ca1 cb1 cc1
 go_wp2
 go_ret
 exact⟨rfl,HE.out⟩

theorem sx (b1:Bool)(a1:Option Addr)(n1 c1:Nat)(M1 E1:Int)(b2:Bool)(a2:Option Addr)(n2 c2:Nat)(M2 E2:Int)(g:Nat)(w:World)(hD1:Dn w b1 (.slice a1 n1 c1) M1)(hD2:Dn w b2 (.slice a2 n2 c2) M2)(f1:blen M1.natAbs≤1125899906840000)(f2:blen M2.natAbs≤1125899906840000)(he1:-1152921504606846976≤E1)(he2:E1≤1152921504606846976)(he3:-1152921504606846976≤E2)(he4:E2≤1152921504606846976)(hs:M1.sign=M2.sign)(h0:M1.sign≠0)(ht:((blen M1.natAbs:Nat):Int) - 1+E1=((blen M2.natAbs:Nat):Int) - 1+E2)(hg9:E1 - E2=(g:Int))(hg0:0<g) :
  Calls Tryz.prog 20 #[.agg #[.bool b1,.slice a1 n1 c1,.int .i64 E1],.agg #[.bool b2,.slice a2 n2 c2,.int .i64 E2]] w fun e w'=>e=.returned (.int .i64 (az (M1*2 ^ g) M2))∧Below w.heap.size w w':=by
 obtain⟨w0,hw0,hb0,k0,k1⟩:=aA w (.cells #[.bool b1,.slice a1 n1 c1,.int .i64 E1] 41) (.cells #[.bool b2,.slice a2 n2 c2,.int .i64 E2] 41)
 have gd:Below w.heap.size w w0.drew:=hb0.drew
 have SG1:=ab (fun (W:World) (hg:Below w0.drew.heap.size w0.drew W)=>bo (.agg #[.bool b1,.slice a1 n1 c1]) M1 W ((hD1.below gd).below hg).zn)
 have SG2:=ab (fun (W:World) (hg:Below w0.drew.heap.size w0.drew W)=>bo (.agg #[.bool b2,.slice a2 n2 c2]) M2 W ((hD2.below gd).below hg).zn)
 have TP1:=ab (fun (W:World) (hg:Below w0.drew.heap.size w0.drew W)=>cq b1 a1 n1 c1 M1 E1 W ((hD1.below gd).below hg) (by omega) (by omega) (by omega))
 have TP2:=ab (fun (W:World) (hg:Below w0.drew.heap.size w0.drew W)=>cq b2 a2 n2 c2 M2 E2 W ((hD2.below gd).below hg) (by omega) (by omega) (by omega))
 have HD1:=ab (hD1.below gd)
 have HD2:=ab (hD2.below gd)
 have KB:=ab (fun (W:World) (hg:Below w0.drew.heap.size w0.drew W)=>And.intro (ac hg (show w0.drew.heap[w.heap.size]?=some (.cells #[.bool b1,.slice a1 n1 c1,.int .i64 E1] 41) from k0)) (ac hg (show w0.drew.heap[w.heap.size+1]?=some (.cells #[.bool b2,.slice a2 n2 c2,.int .i64 E2] 41) from k1)))
 have KS:=ab (fun (W:World) (hg:Below w0.drew.heap.size w0.drew W)=>show W.cell? ⟨w.heap.size,0,none⟩=some (.bool b1)∧W.cell? ⟨w.heap.size,1,none⟩=some (.slice a1 n1 c1)∧W.cell? ⟨w.heap.size,2,none⟩=some (.int .i64 E1)∧W.cell? ⟨w.heap.size+1,0,none⟩=some (.bool b2)∧W.cell? ⟨w.heap.size+1,1,none⟩=some (.slice a2 n2 c2)∧W.cell? ⟨w.heap.size+1,2,none⟩=some (.int .i64 E2) from ⟨(tri8 (KB.out W hg).1).1,(tri8 (KB.out W hg).1).2.1,(tri8 (KB.out W hg).1).2.2,(tri8 (KB.out W hg).2).1,(tri8 (KB.out W hg).2).2.1,(tri8 (KB.out W hg).2).2.2⟩)
 have g0:Below w0.drew.heap.size w0.drew w0.drew:=Below.refl _ _
 have HGD:=ab gd
 clear k0 k1 hb0 gd hD1 hD2
 have SHF:=ab (fun (W:World) (hg:Below w0.drew.heap.size w0.drew W)=>gm b1 a1 n1 c1 M1 g W (HD1.out.below hg).zn (by omega))
 rw [←hs] at SG2
 rw [←ht] at TP2
 have htt:(((blen M1.natAbs:Nat):Int) - 1+E1 != ((blen M1.natAbs:Nat):Int) - 1+E1)=false:=by simp
 have htd:¬E1≤E2:=by omega
 have htd2:decide (E1≤E2)=false:=decide_eq_false htd
 have hwr:IntKind.i64.wrap (E1 - E2)=(g:Int):=by rw [hg9,IntKind.wrap_i64];omega
 generalize ((blen M1.natAbs:Nat):Int) - 1+E1=T1 at *
 have h0b:(M1.sign == 0)=false:=beq_eq_false_iff_ne.2 h0
 have hxx:(M1.sign != M1.sign)=false:=by simp
 generalize M1.sign=x at *
 have HG9:=ab hg9
 clear hs ht h0 hg9
 go_enter Tryz.func20,Tryz.ntmps20
 go_wp2_with fail
 go_region_held3 (fun w'=>w'.cell? ⟨w.heap.size,0,none⟩=some (.bool b1)∧w'.cell? ⟨w.heap.size,1,none⟩=some (.slice a1 n1 c1)∧w'.cell? ⟨w.heap.size,2,none⟩=some (.int .i64 E1)∧w'.cell? ⟨w.heap.size+1,0,none⟩=some (.bool b2)∧w'.cell? ⟨w.heap.size+1,1,none⟩=some (.slice a2 n2 c2)∧w'.cell? ⟨w.heap.size+1,2,none⟩=some (.int .i64 E2)) (first|with_reducible exact KS.out _ g2|with_reducible exact KS.out _ g1|with_reducible exact KS.out _ g0) (first
  | (go_at_call_of 42 a1;refine (SG1.out _ g0).mono ?_;rintro e' t1 ⟨rfl,hb1⟩;have g1:=ae g0 hb1)
  | (go_at_call_of 42 a2;refine (SG2.out _ g1).mono ?_;rintro e' t2 ⟨rfl,hb2⟩;have g2:=ae g1 hb2))
 clear hb1 hb2
 have h0a:Below t2.heap.size t2 t2.drew:=(Below.refl _ _).drew
 have g3:=ae g2 h0a
 obtain⟨ca0,cb0,cc0⟩:=tri8 (KB.out _ g3).1
 obtain⟨ca1,cb1,cc1⟩:=tri8 (KB.out _ g3).2
 clear h0a
 go_wp2_with fail
 go_region_held3 (fun w'=>w'.cell? ⟨w.heap.size,0,none⟩=some (.bool b1)∧w'.cell? ⟨w.heap.size,1,none⟩=some (.slice a1 n1 c1)∧w'.cell? ⟨w.heap.size,2,none⟩=some (.int .i64 E1)∧w'.cell? ⟨w.heap.size+1,0,none⟩=some (.bool b2)∧w'.cell? ⟨w.heap.size+1,1,none⟩=some (.slice a2 n2 c2)∧w'.cell? ⟨w.heap.size+1,2,none⟩=some (.int .i64 E2)) (first|with_reducible exact KS.out _ g5|with_reducible exact KS.out _ g4|with_reducible exact KS.out _ g3) (first
  | (go_at_call_of 43 a1;refine (TP1.out _ g3).mono ?_;rintro e' t4 ⟨rfl,hb4⟩;have g4:=ae g3 hb4)
  | (go_at_call_of 43 a2;refine (TP2.out _ g4).mono ?_;rintro e' t5 ⟨rfl,hb5⟩;have g5:=ae g4 hb5))
 clear hb4 hb5 ca0 cb0 cc0 ca1 cb1 cc1
 clear g0 g1 g2
 have HG5:=ab g5
 clear g3 g4 g5
 obtain⟨da0,db0,dc0⟩:=tri8 (KB.out _ HG5.out).1
 obtain⟨da1,db1,dc1⟩:=tri8 (KB.out _ HG5.out).2
 go_wp2_with fail
 have h0a:Below t5.heap.size t5 t5.drew:=(Below.refl _ _).drew
 have g7:=ae HG5.out h0a
 obtain⟨ca0,cb0,cc0⟩:=tri8 (KB.out _ g7).1
 obtain⟨ca1,cb1,cc1⟩:=tri8 (KB.out _ g7).2
 clear h0a da0 db0 dc0 da1 db1 dc1
 go_region_held3 (fun w'=>w'.cell? ⟨w.heap.size,0,none⟩=some (.bool b1)∧w'.cell? ⟨w.heap.size,1,none⟩=some (.slice a1 n1 c1)∧w'.cell? ⟨w.heap.size,2,none⟩=some (.int .i64 E1)∧w'.cell? ⟨w.heap.size+1,0,none⟩=some (.bool b2)∧w'.cell? ⟨w.heap.size+1,1,none⟩=some (.slice a2 n2 c2)∧w'.cell? ⟨w.heap.size+1,2,none⟩=some (.int .i64 E2)) (first|with_reducible exact KS.out _ g9|with_reducible exact KS.out _ g8|with_reducible exact KS.out _ g7) (first
  | (go_at_call 44;refine (jk (.agg #[.bool b8,.slice a8 n8 k8]) (.agg #[.bool b2,.slice a2 n2 c2]) (M1*2 ^ g) M2 _ y8 (HD2.out.below g8).zn).mono ?_;rintro e' t9 ⟨rfl,hb9⟩;have g9:=ae g8 hb9)
  | (go_at_call 45;refine (SHF.out _ g7).mono ?_;rintro e' t8 ⟨⟨b8,a8,n8,k8,rfl,y8⟩,hb8⟩;have g8:=ae g7 hb8))
 have HE:=ab (ae HGD.out g9)
 clear g7 g8 g9 hb8 hb9 ca0 cb0 cc0 ca1 cb1 cc1
 go_wp2
 go_ret
 exact⟨rfl,HE.out⟩

theorem ra (b1:Bool)(a1:Option Addr)(n1 c1:Nat)(M1 E1:Int)(b2:Bool)(a2:Option Addr)(n2 c2:Nat)(M2 E2:Int)(L p q:Nat)(w:World)(hD1:Dn w b1 (.slice a1 n1 c1) M1)(hD2:Dn w b2 (.slice a2 n2 c2) M2)(f1:blen M1.natAbs≤1125899906840000)(f2:blen M2.natAbs≤1125899906840000)(he1:-1152921504606846976≤E1)(he2:E1≤1152921504606846976)(he3:-1152921504606846976≤E2)(he4:E2≤1152921504606846976)(hp:(p:Int)=E1+L)(hq:(q:Int)=E2+L) :
  Calls Tryz.prog 20 #[.agg #[.bool b1,.slice a1 n1 c1,.int .i64 E1],.agg #[.bool b2,.slice a2 n2 c2,.int .i64 E2]] w fun e w'=>e=.returned (.int .i64 (az (M1*2 ^ p) (M2*2 ^ q)))∧Below w.heap.size w w':=by
 by_cases hs:M1.sign=M2.sign
 ·by_cases h0:M1.sign=0
  ·have z1:M1=0:=by have:=dz M1;omega
   have z2:M2=0:=by have:=dz M2;omega
   have e:az (M1*2 ^ p) (M2*2 ^ q)=0:=by rw [z1,z2,Int.zero_mul,Int.zero_mul];rfl
   rw [e]
   exact nJ b1 a1 n1 c1 M1 E1 b2 a2 n2 c2 M2 E2 w hD1 hD2 f1 f2 he1 he2 he3 he4 hs h0
  ·by_cases ht:((blen M1.natAbs:Nat):Int) - 1+E1=((blen M2.natAbs:Nat):Int) - 1+E2
   ·by_cases hle:E1≤E2
    ·obtain⟨g,hg⟩:∃g:Nat,E2 - E1=(g:Int):=⟨(E2 - E1).toNat,by omega⟩
     have e:az (M1*2 ^ p) (M2*2 ^ q)=az M1 (M2*2 ^ g):=by
      rw [show q=g+p by omega,Int.pow_add,←Int.mul_assoc,ls (ij p)]
     rw [e]
     exact oP b1 a1 n1 c1 M1 E1 b2 a2 n2 c2 M2 E2 g w hD1 hD2 f1 f2 he1 he2 he3 he4 hs h0 ht hg
    ·obtain⟨g,hg⟩:∃g:Nat,E1 - E2=(g:Int):=⟨(E1 - E2).toNat,by omega⟩
     have e:az (M1*2 ^ p) (M2*2 ^ q)=az (M1*2 ^ g) M2:=by
      rw [show p=g+q by omega,Int.pow_add,←Int.mul_assoc,ls (ij q)]
     rw [e]
     exact sx b1 a1 n1 c1 M1 E1 b2 a2 n2 c2 M2 E2 g w hD1 hD2 f1 f2 he1 he2 he3 he4 hs h0 ht hg (by omega)
   ·rw [p9 hs h0 (by omega)]
    have e:(blen M1.natAbs+p<blen M2.natAbs+q) ↔ ((blen M1.natAbs:Nat):Int) - 1+E1<((blen M2.natAbs:Nat):Int) - 1+E2:=by omega
    simp only [e]
    exact mU b1 a1 n1 c1 M1 E1 b2 a2 n2 c2 M2 E2 w hD1 hD2 f1 f2 he1 he2 he3 he4 hs h0 ht
 ·have hs2:(M1*2 ^ p).sign≠(M2*2 ^ q).sign:=by rw [ef,ef];exact hs
  rw [nK hs2,ef,ef]
  exact oL b1 a1 n1 c1 M1 E1 b2 a2 n2 c2 M2 E2 w hD1 hD2 f1 f2 he1 he2 he3 he4 hs
end Go.Proofs.YteflkojglmleaaaGreatDoor

