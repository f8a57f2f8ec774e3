/- Package whole: And, Or, Xor, Not, Bit. -/
import Derived.Test.YtcbpdngogkbndaaGreatDoorB12
import Derived.Test.YtcbpdngogkbndaaGreatDoorB02
import Derived.Test.YtcbpdngogkbndaaGreatDoorB01
import Derived.Test.YtcbpdngogkbndaaGreatDoorB11
import Derived.Test.YtcbpdngogkbndaaGreatDoorB05
import Derived.Deep.RegionHeld3
import Derived.Deep.CutBlock
import Derived.Deep.DeepCutAuto
import Derived.Laws.AppendOwnNone
set_option maxRecDepth 20000
set_option maxHeartbeats 8000000
namespace Go.Proofs.YtcbpdngogkbndaaGreatDoor
open Go.RowKit
open Lm
attribute [local go_sem ↓] Go.wp_at_zero Go.wp_at_succ

theorem nD (b1 b2:Bool)(v1 v2:Value)(X Y:List Nat)(w:World)(hA:Arg w v1 X)(hB:Arg w v2 Y)(hf:X.length≤17592186044416)(hg:Y.length≤17592186044416) :
  Calls Tryz.prog 7 #[.agg #[.bool b1,v1],.agg #[.bool b2,v2]] w fun e w'=>ct w' w.heap.size e (bg (zz b1 (val X)) (zz b2 (val Y)))∧Below w.heap.size w w':=by
 obtain⟨a1,c1,rfl,_,_,_⟩:=hA.form
 obtain⟨a2,c2,rfl,_,_,_⟩:=hB.form
 obtain⟨w0,hw0,hb0,h0,h1,h2⟩:=bP w (.cells #[.bool b1,.slice a1 X.length c1] 27) (.cells #[.bool b2,.slice a2 Y.length c2] 27) (.cells #[.bool false,.slice none 0 0] 27)
 obtain⟨k0,k1⟩:=duo h0
 obtain⟨k2,k3⟩:=duo h1
 have C:=jk b1 b2 _ _ X Y w0 (hA.below hb0) (hB.below hb0) hf hg
 have H2:=aa h2
 have HB0:=aa hb0
 clear hA hB hb0 h0 h1 h2
 generalize bg (zz b1 (val X)) (zz b2 (val Y))=z at *
 go_enter Tryz.func7,Tryz.ntmps7
 go_wp2_with fail
 refine C.mono ?_
 rintro e t2 ⟨⟨b5,a5,n5,k5,c5,rfl,hr⟩,hb2⟩
 have hz3:=ab hb2 H2.out
 have T3:=av (a':=.bool b5) (b':=.slice a5 n5 k5) hz3
 have HE:=aa (And.intro ((hr.base HB0.out.size).duo (u0:=.bool b5) (u1:=.slice a5 n5 k5) hz3) (az (u0:=.bool b5) (u1:=.slice a5 n5 k5) (aC HB0.out hb2) (show w.heap.size≤w.heap.size+2 by omega)))
 obtain⟨p0,p1⟩:=duo T3
 have hf:=af hz3
 obtain⟨m0,m1'⟩:=duo hz3
 clear T3 hz3 hb2 C hr
 go_wp2
 clear hf m0 m1'
 generalize (t2.setCell ⟨w.heap.size+2,0,none⟩ (.bool b5)).setCell ⟨w.heap.size+2,1,none⟩ (.slice a5 n5 k5)=w9 at *
 refine bodyPost_ret (v:=.tuple #[.agg #[.bool b5,.slice a5 n5 k5],.int .i64 c5]) (by simp [results,Tryz.results7,go_sem,p0,p1]) rfl ?_
 exact⟨⟨_,_,_,_,_,rfl,HE.out.1⟩,HE.out.2⟩

theorem jN (b1 b2:Bool)(v1 v2:Value)(X Y:List Nat)(w:World)(hA:Arg w v1 X)(hB:Arg w v2 Y)(hf:X.length≤17592186044416)(hg:Y.length≤17592186044416) :
  Calls Tryz.prog 8 #[.agg #[.bool b1,v1],.agg #[.bool b2,v2]] w fun e w'=>ct w' w.heap.size e (zor (zz b1 (val X)) (zz b2 (val Y)))∧Below w.heap.size w w':=by
 obtain⟨a1,c1,rfl,_,_,_⟩:=hA.form
 obtain⟨a2,c2,rfl,_,_,_⟩:=hB.form
 obtain⟨w0,hw0,hb0,h0,h1,h2⟩:=bP w (.cells #[.bool b1,.slice a1 X.length c1] 27) (.cells #[.bool b2,.slice a2 Y.length c2] 27) (.cells #[.bool false,.slice none 0 0] 27)
 obtain⟨k0,k1⟩:=duo h0
 obtain⟨k2,k3⟩:=duo h1
 have C:=i8 b1 b2 _ _ X Y w0 (hA.below hb0) (hB.below hb0) hf hg
 have H2:=aa h2
 have HB0:=aa hb0
 clear hA hB hb0 h0 h1 h2
 generalize zor (zz b1 (val X)) (zz b2 (val Y))=z at *
 go_enter Tryz.func8,Tryz.ntmps8
 go_wp2_with fail
 refine C.mono ?_
 rintro e t2 ⟨⟨b5,a5,n5,k5,c5,rfl,hr⟩,hb2⟩
 have hz3:=ab hb2 H2.out
 have T3:=av (a':=.bool b5) (b':=.slice a5 n5 k5) hz3
 have HE:=aa (And.intro ((hr.base HB0.out.size).duo (u0:=.bool b5) (u1:=.slice a5 n5 k5) hz3) (az (u0:=.bool b5) (u1:=.slice a5 n5 k5) (aC HB0.out hb2) (show w.heap.size≤w.heap.size+2 by omega)))
 obtain⟨p0,p1⟩:=duo T3
 have hf:=af hz3
 obtain⟨m0,m1'⟩:=duo hz3
 clear T3 hz3 hb2 C hr
 go_wp2
 clear hf m0 m1'
 generalize (t2.setCell ⟨w.heap.size+2,0,none⟩ (.bool b5)).setCell ⟨w.heap.size+2,1,none⟩ (.slice a5 n5 k5)=w9 at *
 refine bodyPost_ret (v:=.tuple #[.agg #[.bool b5,.slice a5 n5 k5],.int .i64 c5]) (by simp [results,Tryz.results8,go_sem,p0,p1]) rfl ?_
 exact⟨⟨_,_,_,_,_,rfl,HE.out.1⟩,HE.out.2⟩

theorem jx (b1 b2:Bool)(v1 v2:Value)(X Y:List Nat)(w:World)(hA:Arg w v1 X)(hB:Arg w v2 Y)(hf:X.length≤17592186044416)(hg:Y.length≤17592186044416) :
  Calls Tryz.prog 9 #[.agg #[.bool b1,v1],.agg #[.bool b2,v2]] w fun e w'=>ct w' w.heap.size e (bi (zz b1 (val X)) (zz b2 (val Y)))∧Below w.heap.size w w':=by
 obtain⟨a1,c1,rfl,_,_,_⟩:=hA.form
 obtain⟨a2,c2,rfl,_,_,_⟩:=hB.form
 obtain⟨w0,hw0,hb0,h0,h1,h2⟩:=bP w (.cells #[.bool b1,.slice a1 X.length c1] 27) (.cells #[.bool b2,.slice a2 Y.length c2] 27) (.cells #[.bool false,.slice none 0 0] 27)
 obtain⟨k0,k1⟩:=duo h0
 obtain⟨k2,k3⟩:=duo h1
 have C:=jG b1 b2 _ _ X Y w0 (hA.below hb0) (hB.below hb0) hf hg
 have H2:=aa h2
 have HB0:=aa hb0
 clear hA hB hb0 h0 h1 h2
 generalize bi (zz b1 (val X)) (zz b2 (val Y))=z at *
 go_enter Tryz.func9,Tryz.ntmps9
 go_wp2_with fail
 refine C.mono ?_
 rintro e t2 ⟨⟨b5,a5,n5,k5,c5,rfl,hr⟩,hb2⟩
 have hz3:=ab hb2 H2.out
 have T3:=av (a':=.bool b5) (b':=.slice a5 n5 k5) hz3
 have HE:=aa (And.intro ((hr.base HB0.out.size).duo (u0:=.bool b5) (u1:=.slice a5 n5 k5) hz3) (az (u0:=.bool b5) (u1:=.slice a5 n5 k5) (aC HB0.out hb2) (show w.heap.size≤w.heap.size+2 by omega)))
 obtain⟨p0,p1⟩:=duo T3
 have hf:=af hz3
 obtain⟨m0,m1'⟩:=duo hz3
 clear T3 hz3 hb2 C hr
 go_wp2
 clear hf m0 m1'
 generalize (t2.setCell ⟨w.heap.size+2,0,none⟩ (.bool b5)).setCell ⟨w.heap.size+2,1,none⟩ (.slice a5 n5 k5)=w9 at *
 refine bodyPost_ret (v:=.tuple #[.agg #[.bool b5,.slice a5 n5 k5],.int .i64 c5]) (by simp [results,Tryz.results9,go_sem,p0,p1]) rfl ?_
 exact⟨⟨_,_,_,_,_,rfl,HE.out.1⟩,HE.out.2⟩

theorem iw {w:World}{g:Nat}(h:w.heap[g]?=some (.cells #[.int .u64 1] 60)):Arg w (.slice (some ⟨g,0,none⟩) 1 1) [1]:=by
 have hblk:Blk w g [1]:=h
 exact (Ans.of_blk (base:=0) (zs:=[1]) (Nat.zero_le _) hblk (by simp) (by simp) (by simp) (by intro z hz;simp at hz;omega)).arg (by simp)

theorem mW (b1:Bool)(v1:Value)(X:List Nat)(w:World)(hA:Arg w v1 X)(hf:X.length≤17592186044416) :
  Calls Tryz.prog 10 #[.agg #[.bool b1,v1]] w fun e w'=>ct w' w.heap.size e (-1 - zz b1 (val X))∧Below w.heap.size w w':=by
 obtain⟨a1,c1,rfl,_,_,_⟩:=hA.form
 obtain⟨w0,hw0,hb0,h0,h2⟩:=cu w (.cells #[.bool b1,.slice a1 X.length c1] 27) (.cells #[.bool false,.slice none 0 0] 27)
 obtain⟨k0,k1⟩:=duo h0
 have N:=gJ b1 _ X w0 (hA.below hb0)
 have HA:=aa (hA.below hb0)
 have H0:=aa h0
 have H2:=aa h2
 have HB0:=aa hb0
 clear hA hb0 h0 h2
 by_cases hz:zz b1 (val X)<0
 ·rw [decide_eq_true hz] at N
  have hv:1≤val X:=by have:=aD b1 (val X);omega
  have hr0:-1 - zz b1 (val X)=zz false (val X - 1):=by
   have h1:=aD b1 (val X)
   simp [zz] at h1 ⊢
   cases b1 <;> simp [zz] at hz ⊢ <;> omega
  rw [hr0]
  obtain⟨sz,hsz⟩:∃sz,val X - 1=sz:=⟨_,rfl⟩
  rw [hsz]
  have HV:=aa hv
  clear hz hr0 hv
  go_enter Tryz.func10,Tryz.ntmps10
  go_wp2_with fail
  refine N.mono ?_
  rintro e t1 ⟨rfl,hb1⟩
  obtain⟨l0,l1⟩:=duo (ab hb1 H0.out)
  obtain⟨t2,ht2,hbt,hxt⟩:=aB t1 (.cells #[.int .u64 1] 60)
  have HW2:=aa (aC hb1 hbt)
  have C:=j3 _ _ X [1] t2 (HA.out.below HW2.out) (iw hxt) (by omega)
  rw [show val [1]=1 by simp [val],hsz] at C
  clear hsz
  clear hb1 hbt hxt N k0 k1
  go_wp2_with fail
  refine C.mono ?_
  rintro e t3 ⟨hb3,hcase⟩
  obtain⟨v7,c7,rs,rfl,ha,hres⟩:Res t3 t2.heap.size e sz:=by
   rcases hcase with ⟨h,_⟩|⟨_,h⟩
   ·have:=HV.out;omega
   ·exact h
  clear hcase l0 l1
  have hans:=gg false v7 rs c7 sz _ t3 ha hres
  obtain⟨a7,n7,rfl⟩:=ha.shape
  have HW3:=aa (aC HW2.out hb3)
  clear ha hres hb3 C
  go_wp2_with fail
  refine hans.mono ?_
  rintro e t4 ⟨⟨b5,a5,n5,k5,c5,rfl,hr⟩,hb4⟩
  have hz3:=ab (aC HW3.out hb4) H2.out
  have T3:=av (a':=.bool b5) (b':=.slice a5 n5 k5) hz3
  have HE:=aa (And.intro ((hr.base (Nat.le_trans HB0.out.size HW2.out.size)).duo (u0:=.bool b5) (u1:=.slice a5 n5 k5) hz3) (az (u0:=.bool b5) (u1:=.slice a5 n5 k5) (aC HB0.out (aC HW3.out hb4)) (show w.heap.size≤w.heap.size+1 by omega)))
  obtain⟨p0,p1⟩:=duo T3
  have hf:=af hz3
  obtain⟨m0,m1'⟩:=duo hz3
  clear T3 hz3 hb4 hans hr
  go_wp2
  clear hf m0 m1'
  generalize (t4.setCell ⟨w.heap.size+1,0,none⟩ (.bool b5)).setCell ⟨w.heap.size+1,1,none⟩ (.slice a5 n5 k5)=w9 at *
  refine bodyPost_ret (v:=.tuple #[.agg #[.bool b5,.slice a5 n5 k5],.int .i64 c5]) (by simp [results,Tryz.results10,go_sem,p0,p1]) rfl ?_
  exact⟨⟨_,_,_,_,_,rfl,HE.out.1⟩,HE.out.2⟩
 ·rw [decide_eq_false hz] at N
  have hr0:-1 - zz b1 (val X)=zz true (val X+1):=by
   cases b1 <;> simp [zz] at hz ⊢ <;> omega
  rw [hr0]
  obtain⟨sz,hsz⟩:∃sz,val X+1=sz:=⟨_,rfl⟩
  rw [hsz]
  clear hz hr0
  go_enter Tryz.func10,Tryz.ntmps10
  go_wp2_with fail
  refine N.mono ?_
  rintro e t1 ⟨rfl,hb1⟩
  obtain⟨l0,l1⟩:=duo (ab hb1 H0.out)
  obtain⟨t2,ht2,hbt,hxt⟩:=aB t1 (.cells #[.int .u64 1] 60)
  have HW2:=aa (aC hb1 hbt)
  have C:=mZ _ _ X [1] t2 (HA.out.below HW2.out) (iw hxt) (by omega) (by simp)
  rw [show val [1]=1 by simp [val],hsz] at C
  clear hsz
  clear hb1 hbt hxt N k0 k1
  go_wp2_with fail
  refine C.mono ?_
  rintro e t3 ⟨hb3,v7,c7,rs,rfl,ha,hres⟩
  clear l0 l1
  have hans:=gg true v7 rs c7 sz _ t3 ha hres
  obtain⟨a7,n7,rfl⟩:=ha.shape
  have HW3:=aa (aC HW2.out hb3)
  clear ha hres hb3 C
  go_wp2_with fail
  refine hans.mono ?_
  rintro e t4 ⟨⟨b5,a5,n5,k5,c5,rfl,hr⟩,hb4⟩
  have hz3:=ab (aC HW3.out hb4) H2.out
  have T3:=av (a':=.bool b5) (b':=.slice a5 n5 k5) hz3
  have HE:=aa (And.intro ((hr.base (Nat.le_trans HB0.out.size HW2.out.size)).duo (u0:=.bool b5) (u1:=.slice a5 n5 k5) hz3) (az (u0:=.bool b5) (u1:=.slice a5 n5 k5) (aC HB0.out (aC HW3.out hb4)) (show w.heap.size≤w.heap.size+1 by omega)))
  obtain⟨p0,p1⟩:=duo T3
  have hf:=af hz3
  obtain⟨m0,m1'⟩:=duo hz3
  clear T3 hz3 hb4 hans hr
  go_wp2
  clear hf m0 m1'
  generalize (t4.setCell ⟨w.heap.size+1,0,none⟩ (.bool b5)).setCell ⟨w.heap.size+1,1,none⟩ (.slice a5 n5 k5)=w9 at *
  refine bodyPost_ret (v:=.tuple #[.agg #[.bool b5,.slice a5 n5 k5],.int .i64 c5]) (by simp [results,Tryz.results10,go_sem,p0,p1]) rfl ?_
  exact⟨⟨_,_,_,_,_,rfl,HE.out.1⟩,HE.out.2⟩

theorem iL (b1:Bool)(v1:Value)(X:List Nat)(i:Nat)(w:World)(hA:Arg w v1 X)(hT:Tab w)(hi:i≤9223372036854775807) :
  Calls Tryz.prog 11 #[.agg #[.bool b1,v1],.int .i64 (i:Int)] w fun e w'=>e=.returned (.tuple #[.int .i64 (aW (zz b1 (val X)) i),.int .i64 0])∧Below w.heap.size w w':=by
 obtain⟨a1,c1,rfl,_,_,_⟩:=hA.form
 obtain⟨w0,hw0,hb0,h0⟩:=aB w (.cells #[.bool b1,.slice a1 X.length c1] 27)
 obtain⟨k0,k1⟩:=duo h0
 have B:=jg _ X (i:Int) w0 (hA.below hb0) (by omega) (by omega)
 have N:=gJ b1 _ X w0 (hA.below hb0)
 have KT:=aa (fun (W:World) (hg:Below w0.heap.size w0 W)=>iz _ X W ((hA.below hb0).below hg) ((hT.below hb0).below hg))
 have eb:cF (val X) (i:Int)=val X / 2 ^ i % 2:=by unfold cF;rw [if_neg (by omega),Int.toNat_natCast]
 rw [eb] at B
 have H0:=aa h0
 have HB0:=aa hb0
 have i0:¬(i:Int)<0:=by omega
 have hbl:val X / 2 ^ i % 2<2:=Nat.mod_lt _ (by omega)
 clear hA hT hb0 h0 eb
 by_cases hz:zz b1 (val X)<0
 ·rw [decide_eq_true hz] at N
  have hx0:val X≠0:=fun h=>by rw [h] at hz;cases b1 <;> simp [zz] at hz
  have hzz:zz b1 (val X)=-(val X:Int):=by cases b1 <;> simp [zz] at hz ⊢;omega
  rw [hzz]
  have HZB:=aa (fun (t:Nat) (ht:aS (val X) t)=>kG (x:=val X) (t:=t) (k:=val X / 2 ^ t / 2) (cQ ht) i)
  have HX0:=aa hx0
  generalize aW (-(val X:Int)) i=zb at *
  generalize val X / 2 ^ i % 2=q at *
  clear hz hzz hx0
  go_enter Tryz.func11,Tryz.ntmps11
  go_wp2_with fail
  refine B.mono ?_
  rintro e wn ⟨rfl,hw⟩;rw [hw];clear hw wn B
  go_wp2_with fail
  refine N.mono ?_
  rintro e t1 ⟨rfl,hb1⟩
  obtain⟨l0,l1⟩:=duo (ab hb1 H0.out)
  have C:=KT.out t1 hb1
  have HW:=aa (aC HB0.out hb1)
  clear hb1 N k0 k1
  go_wp2_with fail
  refine C.mono ?_
  rintro e wn ⟨⟨t,htl,rfl,_,ht⟩,hw⟩;rw [hw];clear hw wn C
  have hzb:=HZB.out t (ht HX0.out)
  clear l0 l1 KT
  by_cases hti:t<i
  ·rw [if_pos hti] at hzb
   have i1:(t:Int)<(i:Int):=by omega
   have HZ9:=aa hzb
   clear hzb HZB ht
   go_wp2
   go_ret2
   exact⟨by rw [HZ9.out];rfl,HW.out⟩
  ·rw [if_neg hti] at hzb
   have i1:¬(t:Int)<(i:Int):=by omega
   have HZ9:=aa hzb
   clear hzb HZB ht
   go_wp2
   go_ret2
   exact⟨by rw [HZ9.out];rfl,HW.out⟩
 ·rw [decide_eq_false hz] at N
  have hzz:zz b1 (val X)=(val X:Int):=by cases b1 <;> simp [zz] at hz ⊢;omega
  rw [hzz,d7]
  generalize val X / 2 ^ i % 2=q at *
  clear hz hzz KT
  go_enter Tryz.func11,Tryz.ntmps11
  go_wp2_with fail
  refine B.mono ?_
  rintro e wn ⟨rfl,hw⟩;rw [hw];clear hw wn B
  go_wp2_with fail
  refine N.mono ?_
  rintro e t1 ⟨rfl,hb1⟩
  have HW:=aa (aC HB0.out hb1)
  clear hb1 N k0 k1
  go_wp2
  go_ret2
  exact⟨rfl,HW.out⟩

theorem ix (w:World):Calls Tryz.prog 45 #[.int .i64 1] w fun e w'=>(∃v,e=.returned v∧Num w' v 1)∧Below w.heap.size w w':=by
 have hA:=Arg.lits w [1] #[.int .u64 1] 1 rfl rfl (by intro z hz;simp at hz;omega) (by simp)
 have hb:Below w.heap.size w (w.alloc (.cells #[.int .u64 1] 60)):=(Below.refl _ _).alloc (Nat.le_refl _) _
 have HO:=dz _ [1] _ hA (by simp)
 rw [show val [1]=1 by simp [val]] at HO
 have HB:=aa hb
 clear hA hb
 go_enter Tryz.func45,Tryz.ntmps45
 go_wp2_with fail
 refine HO.mono ?_
 rintro e w2 ⟨⟨v,rfl,N⟩,hb2⟩
 have HX:=aa (And.intro N (HB.out.trans (hb2.mono HB.out.size)))
 clear N hb2 HO
 go_wp2
 go_ret
 exact⟨⟨v,rfl,HX.out.1⟩,HX.out.2⟩

theorem gc {z:Int}(h:z<0)(i:Nat):aW z i=1 - (((z.natAbs - 1) / 2 ^ i % 2:Nat):Int):=by
 obtain⟨m,hm⟩:∃m:Nat,z=-((m:Int)+1):=⟨z.natAbs - 1,by omega⟩
 have e:z.natAbs - 1=m:=by omega
 rw [e]
 unfold aW
 rw [hm,fR _ _ (Nat.pow_pos (by omega))]
 omega

theorem eQ (v:Value)(z:Int)(i:Nat)(w:World)(h:Zn w v z)(hi:i≤9223372036854775807)(hf:blen z.natAbs≤1125899906840000) :
  Calls Tryz.prog 14 #[v,.int .i64 (i:Int)] w fun e w'=>e=.returned (.int .i64 (aW z i))∧Below w.heap.size w w':=by
 obtain⟨b,a,n,k,rfl,hb,hn,hz⟩:=h.parts
 obtain⟨w0,hw0,hb0,h0⟩:=aB w (.cells #[.bool b,.slice a n k] 32)
 obtain⟨c0,c1⟩:=duo h0
 have HB0:=aa hb0
 by_cases hneg:z<0
 ·rw [decide_eq_true hneg] at hb
  subst hb
  have H1:=aa (fun W:World=>ix W)
  have HS:=aa (fun (W:World) (u:Value) (hg:Below w0.drew.heap.size w0.drew W) (hu:Num W u 1)=>dv _ u z.natAbs 1 W ((hn.below hb0).drew6.below hg) hu (by omega) hf)
  have HZ:=aa (gc hneg i)
  obtain⟨d0,d1⟩:=duo (show w0.drew.heap[w.heap.size]?=some (.cells #[.bool true,.slice a n k] 32) from h0)
  have hbr:(z.natAbs - 1) / 2 ^ i % 2<2:=Nat.mod_lt _ (by omega)
  have HRB:=aa (fun (W:World) (u:Value) (hu:Num W u (z.natAbs - 1))=>eT u (z.natAbs - 1) i W hu hi)
  clear h hn hz hneg hf hb0 h0 hi
  generalize (z.natAbs - 1) / 2 ^ i % 2=q at *
  have ew:IntKind.i64.wrap (1 - (q:Int))=1 - (q:Int):=by rw [IntKind.wrap_i64];omega
  generalize aW z i=zb at *
  generalize z.natAbs=x at *
  go_enter Tryz.func14,Tryz.ntmps14
  go_wp2
  go_region_held3 (fun w'=>w'.cell? ⟨w.heap.size,0,none⟩=some (.bool true)∧w'.cell? ⟨w.heap.size,1,none⟩=some (.slice a n k)) (go_keep) (first
   | (go_at_call 45;refine (H1.out _).mono ?_;rintro e' w1 ⟨⟨u1,rfl,N1⟩,hb1⟩;have x0:=ac hb1 d0;have x1:=ac hb1 d1)
   | (go_at_call 44;refine (HS.out w1 _ hb1 N1).mono ?_;rintro e' w2 ⟨⟨u2,rfl,N2⟩,hb2⟩;have y0:=ac hb2 x0;have y1:=ac hb2 x1)
   | (go_at_call 43;refine (HRB.out w2 _ N2).mono ?_;rintro e' w3 ⟨rfl,rfl⟩))
  go_wp2
  go_ret
  exact⟨by rw [HZ.out];rfl,HB0.out.trans ((Below.refl w0.heap.size w0).drew.trans (hb1.trans (hb2.mono hb1.size)) |>.mono HB0.out.size)⟩
 ·rw [decide_eq_false hneg] at hb
  subst hb
  have HR:=eT _ z.natAbs i w0 (hn.below hb0) hi
  have HZ:=aa (show aW z i=((z.natAbs / 2 ^ i % 2:Nat):Int) by have h9:=d7 z.natAbs i;rwa [show ((z.natAbs:Nat):Int)=z by omega] at h9)
  rw [HZ.out]
  clear h hn hz hneg hf hb0 h0 hi
  generalize z.natAbs / 2 ^ i % 2=q at *
  go_enter Tryz.func14,Tryz.ntmps14
  go_wp2_with fail
  refine HR.mono ?_
  rintro e wn ⟨rfl,hw⟩;rw [hw];clear hw wn HR
  go_wp2
  go_ret
  exact⟨rfl,HB0.out⟩

def sgi (z:Int):Int:=if z<0 then 1 else 0

theorem ig (v:Value)(z:Int)(w:World)(h:Zn w v z) :
  Calls Tryz.prog 49 #[v] w fun e w'=>e=.returned (.int .i64 (sgi z))∧Below w.heap.size w w':=by
 obtain⟨b,a,n,k,rfl,hb,hn,hz⟩:=h.parts
 obtain⟨w0,hw0,hb0,h0⟩:=aB w (.cells #[.bool b,.slice a n k] 32)
 obtain⟨c0,c1⟩:=duo h0
 have HB0:=aa hb0
 by_cases hneg:z<0
 ·rw [decide_eq_true hneg] at hb
  subst hb
  have e:sgi z=1:=if_pos hneg
  rw [e]
  clear h hn hz hneg hb0 h0 e
  go_enter Tryz.func49,Tryz.ntmps49
  go_wp2
  go_ret
  exact⟨rfl,HB0.out⟩
 ·rw [decide_eq_false hneg] at hb
  subst hb
  have e:sgi z=0:=if_neg hneg
  rw [e]
  clear h hn hz hneg hb0 h0 e
  go_enter Tryz.func49,Tryz.ntmps49
  go_wp2
  go_ret
  exact⟨rfl,HB0.out⟩
end Go.Proofs.YtcbpdngogkbndaaGreatDoor
namespace Go.Proofs.YtcbpdngogkbndaaGreatDoor
open Go.RowKit
open Lm

def nb (z:Int)(i:Nat):Nat:=(zsg z != (zmg z).testBit i).toNat

theorem gl (m i:Nat):m / 2 ^ i % 2=(m.testBit i).toNat:=by
 rw [Nat.testBit_eq_decide_div_mod_eq]
 rcases Nat.mod_two_eq_zero_or_one (m / 2 ^ i) with h|h <;> simp [h]

theorem fm (z:Int)(i:Nat):aW z i=(nb z i:Int):=by
 unfold nb zsg zmg
 by_cases h:z<0
 ·rw [gc h,if_pos h,gl,decide_eq_true h]
  cases (z.natAbs - 1).testBit i <;> rfl
 ·obtain⟨m,rfl⟩:∃m:Nat,z=m:=⟨z.natAbs,by omega⟩
  rw [if_neg h,d7,gl,decide_eq_false h]
  have e:(m:Int).natAbs=m:=by omega
  rw [e]
  cases m.testBit i <;> rfl

theorem dT (z:Int)(i:Nat):nb z i≤1:=Bool.toNat_le _

def bop (one x y:Nat):Nat:=one / 2 ^ (2*x+y) % 2

theorem mi (x y:Int)(i:Nat):nb (bg x y) i=bop 8 (nb x i) (nb y i):=by
 unfold nb bg
 rw [cM,cX,ee]
 cases zsg x <;> cases zsg y <;> cases (zmg x).testBit i <;> cases (zmg y).testBit i <;> rfl

theorem iM (x y:Int)(i:Nat):nb (zor x y) i=bop 14 (nb x i) (nb y i):=by
 unfold nb zor
 rw [cM,cX,fv]
 cases zsg x <;> cases zsg y <;> cases (zmg x).testBit i <;> cases (zmg y).testBit i <;> rfl

theorem jl (x y:Int)(i:Nat):nb (bi x y) i=bop 6 (nb x i) (nb y i):=by
 unfold nb bi
 rw [cM,cX,Nat.testBit_xor]
 cases zsg x <;> cases zsg y <;> cases (zmg x).testBit i <;> cases (zmg y).testBit i <;> rfl

theorem gp (z:Int):sgi z=((zsg z).toNat:Int):=by
 unfold sgi zsg
 by_cases h:z<0 <;> simp [h]

theorem nF (x y:Int):(zsg (bg x y)).toNat=bop 8 (zsg x).toNat (zsg y).toNat:=by
 unfold bg;rw [cM];cases zsg x <;> cases zsg y <;> rfl

theorem lZ (x y:Int):(zsg (zor x y)).toNat=bop 14 (zsg x).toNat (zsg y).toNat:=by
 unfold zor;rw [cM];cases zsg x <;> cases zsg y <;> rfl

theorem jW (x y:Int):(zsg (bi x y)).toNat=bop 6 (zsg x).toNat (zsg y).toNat:=by
 unfold bi;rw [cM];cases zsg x <;> cases zsg y <;> rfl

theorem kT {x y:Int}{k:Nat}(hx:zmg x<2 ^ k)(hy:zmg y<2 ^ k):zmg (bg x y)<2 ^ k:=by
 unfold bg;rw [cX];exact ei _ _ hx hy

theorem jA {x y:Int}{k:Nat}(hx:zmg x<2 ^ k)(hy:zmg y<2 ^ k):zmg (zor x y)<2 ^ k:=by
 unfold zor;rw [cX];exact fw _ _ hx hy

theorem kI {x y:Int}{k:Nat}(hx:zmg x<2 ^ k)(hy:zmg y<2 ^ k):zmg (bi x y)<2 ^ k:=by
 unfold bi;rw [cX];exact Nat.xor_lt_two_pow hx hy

def lowz (z:Int)(k:Nat):Nat:=(z % ((2 ^ k:Nat):Int)).toNat

theorem dr (z:Int)(k:Nat):(lowz z k:Int)=z % ((2 ^ k:Nat):Int):=by
 have h:(0:Int)<((2 ^ k:Nat):Int):=by have:=Nat.two_pow_pos k;omega
 have:=Int.emod_nonneg z (show ((2 ^ k:Nat):Int)≠0 by omega)
 unfold lowz
 omega

theorem kB (z:Int):lowz z 0=0:=by
 have h:=dr z 0
 have e:((2 ^ 0:Nat):Int)=1:=rfl
 rw [e] at h
 omega

theorem fW (z:Int)(k:Nat):lowz z k<2 ^ k:=by
 have h:=dr z k
 have hp:(0:Int)<((2 ^ k:Nat):Int):=by have:=Nat.two_pow_pos k;omega
 have:=Int.emod_lt_of_pos z hp
 omega

theorem lG (z:Int)(k:Nat):lowz z (k+1)=lowz z k+nb z k*2 ^ k:=by
 have h1:=dr z k
 have h2:=dr z (k+1)
 have h3:=fm z k
 unfold aW at h3
 have hp:=Nat.two_pow_pos k
 have e1:=Int.mul_ediv_add_emod z ((2 ^ k:Nat):Int)
 have e3:=Int.mul_ediv_add_emod (z / ((2 ^ k:Nat):Int)) 2
 have e4:=Int.mul_ediv_add_emod z ((2 ^ (k+1):Nat):Int)
 have e5:z / ((2 ^ (k+1):Nat):Int)=z / ((2 ^ k:Nat):Int) / 2:=by
  rw [Int.ediv_ediv_of_nonneg (Int.natCast_nonneg _),Nat.pow_succ,Int.natCast_mul]
  rfl
 rw [e5] at e4
 rw [h3] at e3
 rw [←h1] at e1
 rw [←h2] at e4
 have hpp:((2 ^ (k+1):Nat):Int)=((2 ^ k:Nat):Int)*2:=by rw [Nat.pow_succ,Int.natCast_mul];rfl
 rw [hpp] at e4
 have e6:((lowz z (k+1):Nat):Int)=((lowz z k+nb z k*2 ^ k:Nat):Int):=by
  rw [Int.natCast_add,Int.natCast_mul]
  generalize ((2 ^ k:Nat):Int)=P at *
  generalize ((lowz z (k+1):Nat):Int)=A at *
  generalize ((lowz z k:Nat):Int)=B at *
  generalize ((nb z k:Nat):Int)=C at *
  generalize z / P=D at *
  generalize D / 2=F at *
  grind
 exact Int.ofNat.inj e6

theorem gk {z:Int}{n:Nat}(h:zmg z<2 ^ n):(if z<0 then -((2 ^ n:Nat):Int) else 0)+(lowz z n:Int)=z:=by
 rw [dr]
 unfold zmg at h
 by_cases hz:z<0
 ·rw [if_pos hz] at h ⊢
  rw [←Int.add_emod_right,Int.emod_eq_of_lt (by omega) (by omega)]
  omega
 ·rw [if_neg hz] at h ⊢
  rw [Int.emod_eq_of_lt (by omega) (by omega)]
  omega

theorem kC:∀(Z:List Nat) (q v:Nat),q<Z.length→val (Z.set q v)+Z.getD q 0*18446744073709551616 ^ q=val Z+v*18446744073709551616 ^ q:=by
 intro Z
 induction Z with
 | nil=>intro q v h;simp at h
 | cons x xs ih=>
  intro q v h
  cases q with
  | zero=>simp [val];omega
  | succ q=>
   have i:=ih q v (by simpa using h)
   have e1:(x :: xs).getD (q+1) 0=xs.getD q 0:=by simp [List.getD]
   simp only [List.set_cons_succ,val,e1,Nat.pow_succ]
   generalize xs.getD q 0=a at *
   generalize (18446744073709551616:Nat) ^ q=P at *
   generalize val (xs.set q v)=V at *
   generalize val xs=U at *
   grind

theorem mA {X:List Nat}(h:Limbs X)(q:Nat):X.getD q 0=val X / 2 ^ (64*q) % 18446744073709551616:=by
 by_cases hq:q<X.length
 ·have h1:=val_drop h q (by omega)
  have h2:=val_drop_next X q hq
  have h3:=limb_lt h q
  rw [Nat.mul_comm 64 q,←h1,h2]
  omega
 ·have e:X.getD q 0=0:=by simp [List.getD,Nat.le_of_not_lt hq]
  have h1:=val_lt h
  have h2:(18446744073709551616:Nat) ^ X.length≤18446744073709551616 ^ q:=Nat.pow_le_pow_right (by omega) (by omega)
  rw [e,bA,Nat.div_eq_of_lt (by omega)]

theorem iF {Z:List Nat}{z:Int}{k q s b:Nat}(hl:Limbs Z)(hk:k=64*q+s)(hs:s<64)(hq:q<Z.length)(hv:val Z=lowz z k)(hb:nb z k=b) :
  Z.getD q 0+b*2 ^ s<18446744073709551616∧Limbs (Z.set q (Z.getD q 0+b*2 ^ s))∧val (Z.set q (Z.getD q 0+b*2 ^ s))=lowz z (k+1):=by
 have h1:=mA hl q
 have h2:=fW z k
 have hp:0<2 ^ (64*q):=Nat.two_pow_pos _
 rw [hv] at h1
 have h3:lowz z k / 2 ^ (64*q)<2 ^ s:=by
  rw [Nat.div_lt_iff_lt_mul hp,Nat.mul_comm,←Nat.pow_add,←hk]
  exact h2
 have h4:2 ^ s≤2 ^ 63:=Nat.pow_le_pow_right (by omega) (by omega)
 have hb1:b≤1:=by rw [←hb];exact dT z k
 have h5:b*2 ^ s≤2 ^ s:=by
  have:=Nat.mul_le_mul_right (2 ^ s) hb1
  omega
 have h6:Z.getD q 0<2 ^ s:=by
  rw [h1]
  exact Nat.lt_of_le_of_lt (Nat.mod_le _ _) h3
 have h7:(2:Nat) ^ 63=9223372036854775808:=rfl
 have h8:Z.getD q 0+b*2 ^ s<18446744073709551616:=by omega
 refine⟨h8,limbs_set hl _ _ h8,?_⟩
 have h9:=kC Z q (Z.getD q 0+b*2 ^ s) hq
 rw [lG,hb,←hv,hk,Nat.pow_add,bA]
 generalize (18446744073709551616:Nat) ^ q=P at *
 generalize Z.getD q 0=g at *
 generalize (2:Nat) ^ s=S at *
 rw [Nat.add_mul] at h9
 rw [show b*(P*S)=b*S*P by rw [Nat.mul_comm P S,Nat.mul_assoc]]
 omega
end Go.Proofs.YtcbpdngogkbndaaGreatDoor
namespace Go.Proofs.YtcbpdngogkbndaaGreatDoor
open Go.RowKit
open Lm
attribute [local go_sem ↓] Go.wp_at_zero Go.wp_at_succ

theorem aO {W0 W t:World}(h:Below W0.heap.size W0 W)(h2:Below W.heap.size W t):Below W0.heap.size W0 t:=h.trans (h2.mono h.size)

theorem dC {W0 W:World}(h:Below W0.heap.size W0 W):Below W0.heap.size W0 W.drew:=h.drew

theorem nM (n:Nat):blen (2 ^ n)≤n+1:=(blen_le_iff _ _).2 (Nat.pow_lt_pow_succ (by omega))

theorem kM (w:World):Zn w (.agg #[.bool false,.slice none 0 0]) 0:=⟨_,rfl,Num.nil w⟩

theorem ik (one c:Nat):Int.tmod ((one:Int) / 2 ^ c) 2=((one / 2 ^ c % 2:Nat):Int):=by
 rw [eE,Int.tmod_eq_emod_of_nonneg (Int.natCast_nonneg _)]
 omega

theorem mI (b s:Nat)(hb:b≤1)(hs:s<64):IntKind.u64.wrap ((b:Int)*2 ^ s)=((b*2 ^ s:Nat):Int):=by
 have h4:2 ^ s≤2 ^ 63:=Nat.pow_le_pow_right (by omega) (by omega)
 have h7:(2:Nat) ^ 63=9223372036854775808:=rfl
 have h5:b*2 ^ s≤2 ^ s:=by
  have:=Nat.mul_le_mul_right (2 ^ s) hb
  omega
 have e:((b:Int)*2 ^ s)=((b*2 ^ s:Nat):Int):=by rw [Int.natCast_mul,Int.natCast_pow];rfl
 rw [e,IntKind.wrap_u64]
 omega

def e8 (w6:World)(g m:Nat)(r:Int)(k:Nat)(wr:World):Prop:=∃Z,Blk wr g Z∧Z.length=m∧Limbs Z∧val Z=lowz r k∧Below w6.heap.size w6 wr

theorem eA (one:Nat)(v1 v2:Value)(y z r:Int)(w:World)(h1:Zn w v1 y)(h2:Zn w v2 z)(hf1:blen y.natAbs≤1125899906830000)(hf2:blen z.natAbs≤1125899906830000)
  (hbit:∀i,nb r i=bop one (nb y i) (nb z i)) (hsg:(zsg r).toNat=bop one (zsg y).toNat (zsg z).toNat) (hmg:∀k,zmg y<2 ^ k→zmg z<2 ^ k→zmg r<2 ^ k) :
  Calls Tryz.prog 18 #[v1,v2,.int .i64 (one:Int)] w (bf w r):=by
 obtain⟨b,a,n,k9,rfl,hb,hn,hz⟩:=h1.parts
 obtain⟨b2,a2,n2,k2,rfl,hb2,hn2,hz2⟩:=h2.parts
 obtain⟨i0,hi,hza,hzb,hzc⟩:=info_parts Tryz.infoU
 obtain⟨w0,hw0,hb0,h0,h1',hx0⟩:=bP w (.cells #[.bool b,.slice a n k9] 32) (.cells #[.bool b2,.slice a2 n2 k2] 32) (.cells #[.bool false,.slice none 0 0] 32)
 obtain⟨c0,c1⟩:=duo h0
 obtain⟨c2,c3⟩:=duo h1'
 have L1:=fi _ y.natAbs w0 (hn.below hb0)
 have L2:=fi _ z.natAbs w0 (hn2.below hb0)
 obtain⟨w1,hw1,hb1,hx1⟩:=aB w0 (.cells #[.bool false,.slice none 0 0] 32)
 have hb01:Below w.heap.size w w1:=aO hb0 hb1
 have JB:=aa hb0
 have JH:=aa hb1
 have J0:=aa h0
 have J1:=aa h1'
 have JX0:=aa hx0
 have JZ1:=aa (h1.below hb0)
 have JZ2:=aa (h2.below hb0)
 have HB1:=aa hb01
 have HX0:=aa (ab hb1 hx0)
 have HX1:=aa hx1
 have H0:=aa (ab hb1 h0)
 have H1:=aa (ab hb1 h1')
 have HZ1:=aa (h1.below hb01)
 have HZ2:=aa (h2.below hb01)
 have HL:=aa hb0.size
 have HW1:=aa hw1
 have HSZ:=aa (show w0.heap.size=w.heap.size+3 by rw [←hw0];simp [World.size_alloc])
 clear h1 h2 hn hn2 hz hz2 hb0 h0 h1' hx0 hb hb2 hb1 hb01 hx1 hw1
 obtain⟨la,hla⟩:∃la,blen y.natAbs=la:=⟨_,rfl⟩
 obtain⟨lb,hlb⟩:∃lb,blen z.natAbs=lb:=⟨_,rfl⟩
 rw [hla] at L1 hf1
 rw [hlb] at L2 hf2
 obtain⟨sy,hsy⟩:∃sy,(zsg y).toNat=sy:=⟨_,rfl⟩
 obtain⟨sz,hsz⟩:∃sz,(zsg z).toNat=sz:=⟨_,rfl⟩
 have hsy1:sy≤1:=by rw [←hsy];exact Bool.toNat_le _
 have hsz1:sz≤1:=by rw [←hsz];exact Bool.toNat_le _
 rw [hsy,hsz] at hsg
 obtain⟨cc,hcc⟩:∃cc:Nat,cc=2*sy+sz:=⟨_,rfl⟩
 obtain⟨d1,hd1⟩:∃d1:Nat,d1=2*sy:=⟨_,rfl⟩
 have ew1:IntKind.i64.wrap (2*(sy:Int))=(d1:Int):=by rw [IntKind.wrap_i64];omega
 have ew2:IntKind.i64.wrap ((d1:Int)+(sz:Int))=(cc:Int):=by rw [IntKind.wrap_i64];omega
 have hc3:cc≤3:=by omega
 have HOB:=aa (show (zsg r).toNat=one / 2 ^ cc % 2 by rw [hsg,hcc];rfl)
 have hya:y.natAbs<2 ^ la:=(blen_le_iff _ _).1 (by omega)
 have hza:z.natAbs<2 ^ lb:=(blen_le_iff _ _).1 (by omega)
 have hmy:zmg y≤y.natAbs:=by unfold zmg;split <;> omega
 have hmz:zmg z≤z.natAbs:=by unfold zmg;split <;> omega
 obtain⟨ma,hma,hma2⟩:∃ma:Nat,(la:Int)+2=(ma:Int)∧ma=la+2:=⟨la+2,by omega,rfl⟩
 obtain⟨mb,hmb,hmb2⟩:∃mb:Nat,(lb:Int)+2=(mb:Int)∧mb=lb+2:=⟨lb+2,by omega,rfl⟩
 have HMR1:=aa (fun (h:lb≤la)=>show zmg r<2 ^ ma from hmg ma (Nat.lt_of_le_of_lt hmy (Nat.lt_of_lt_of_le hya (Nat.pow_le_pow_right (by omega) (by omega)))) (Nat.lt_of_le_of_lt hmz (Nat.lt_of_lt_of_le hza (Nat.pow_le_pow_right (by omega) (by omega)))))
 have HMR2:=aa (fun (h:la≤lb)=>show zmg r<2 ^ mb from hmg mb (Nat.lt_of_le_of_lt hmy (Nat.lt_of_lt_of_le hya (Nat.pow_le_pow_right (by omega) (by omega)))) (Nat.lt_of_le_of_lt hmz (Nat.lt_of_lt_of_le hza (Nat.pow_le_pow_right (by omega) (by omega)))))
 have hfa:ma≤1125899906830002:=by omega
 have hfb:mb≤1125899906830002:=by omega
 obtain⟨nn,hnn⟩:∃nn:Nat,(la<lb→nn=mb)∧(¬la<lb→nn=ma):=by
  by_cases h:la<lb
  ·exact⟨mb,fun _=>rfl,fun h2=>absurd h h2⟩
  ·exact⟨ma,fun h2=>absurd h2 h,fun _=>rfl⟩
 have HMR:Hid (zmg r<2 ^ nn):=aa (by
  by_cases h:la<lb
  ·rw [hnn.1 h];exact HMR2.out (by omega)
  ·rw [hnn.2 h];exact HMR1.out (by omega))
 have hfn:nn≤1125899906830002:=by
  by_cases h:la<lb
  ·rw [hnn.1 h];exact hfb
  ·rw [hnn.2 h];exact hfa
 have hfl:la+2≤nn∧lb+2≤nn:=by
  by_cases h:la<lb
  ·rw [hnn.1 h];omega
  ·rw [hnn.2 h];omega
 have HNN:=aa hnn
 obtain⟨ob,hob⟩:∃ob,(zsg r).toNat=ob:=⟨_,rfl⟩
 have et:Int.tmod ((one:Int) / 2 ^ cc) 2=(ob:Int):=by rw [ik,←hob,HOB.out]
 have HOB2:=aa hob
 have HLL:=aa (And.intro hma2 (And.intro hmb2 (And.intro hfn hfl)))
 clear hd1 hcc hsg hmg hya hza hmy hmz HMR1 HMR2 hma2 hmb2 hnn hob hfn hfl
 go_enter Tryz.func18,Tryz.ntmps18
 go_wp2_with fail
 refine L1.mono ?_
 rintro e wn ⟨rfl,hw⟩;rw [hw];clear hw wn L1
 go_wp2_with fail
 refine L2.mono ?_
 rintro e wn ⟨rfl,hw⟩;rw [hw];clear hw wn
 go_upto_if 20 with fail
 go_cut [7] from 19 to 25 (fun s wx=>s=.int .i64 (nn:Int)∧wx=w0)
 case first=>
  by_cases hc:la<lb
  ·have i1:(ma:Int)<(mb:Int):=by have:=HLL.out;omega
   have e9:=HNN.out.1 hc
   go_wp2_with fail
   refine L2.mono ?_
   rintro e wn ⟨rfl,hw⟩;rw [hw];clear hw wn
   go_wp2_with fail
   go_meet
   exact⟨by rw [e9],rfl⟩
  ·have i1:¬(ma:Int)<(mb:Int):=by have:=HLL.out;omega
   have e9:=HNN.out.2 hc
   go_wp2_with fail
   go_meet
   exact⟨by rw [e9],rfl⟩
 case rest=>
  obtain⟨rfl,hwc⟩:=hcut
  rw [hwc]
  clear hwc L2
  have hfn:=HLL.out.2.2.1
  clear c0 c1 c2 c3
  go_upto_region 5 with fail
  rw [HW1.out]
  have KS:=aa (fun (W:World) (hg:Below w1.heap.size w1 W)=>show (W.cell? ⟨w.heap.size,0,none⟩=some (.bool b)∧W.cell? ⟨w.heap.size,1,none⟩=some (.slice a n k9))∧W.cell? ⟨w.heap.size+1,0,none⟩=some (.bool b2)∧W.cell? ⟨w.heap.size+1,1,none⟩=some (.slice a2 n2 k2) from ⟨duo (ab hg H0.out),duo (ab hg H1.out)⟩)
  have S1:=aa (fun (W:World) (hg:Below w1.heap.size w1 W)=>show Calls Tryz.prog 49 #[.agg #[.bool b,.slice a n k9]] W (fun e w'=>e=.returned (.int .i64 (sy:Int))∧Below W.heap.size W w') by have h:=ig _ y W (HZ1.out.below hg);rw [gp,hsy] at h;exact h)
  have S2:=aa (fun (W:World) (hg:Below w1.heap.size w1 W)=>show Calls Tryz.prog 49 #[.agg #[.bool b2,.slice a2 n2 k2]] W (fun e w'=>e=.returned (.int .i64 (sz:Int))∧Below W.heap.size W w') by have h:=ig _ z W (HZ2.out.below hg);rw [gp,hsz] at h;exact h)
  have g0:Below w1.heap.size w1 w1.drew:=dC (Below.refl _ _)
  go_region_held3 (fun w'=>(w'.cell? ⟨w.heap.size,0,none⟩=some (.bool b)∧w'.cell? ⟨w.heap.size,1,none⟩=some (.slice a n k9))∧w'.cell? ⟨w.heap.size+1,0,none⟩=some (.bool b2)∧w'.cell? ⟨w.heap.size+1,1,none⟩=some (.slice a2 n2 k2)) (first|with_reducible exact KS.out _ g2|with_reducible exact KS.out _ g1|with_reducible exact KS.out _ g0) (first
   | (go_at_call_of 49 a2;refine (S2.out _ g1).mono ?_;rintro e' t5 ⟨rfl,hb2⟩;have g2:=aO g1 hb2)
   | (go_at_call_of 49 a;refine (S1.out _ g0).mono ?_;rintro e' t4 ⟨rfl,hb1⟩;have g1:=aO g0 hb1))
  clear S1 S2 KS hb1 hb2 g0 g1
  have HG5:=aa g2
  clear g2
  go_upto_if 35 with fail
  go_cut [8] from 33 to 40 (fun s wx=>s=.pointer (some ⟨w0.heap.size,0,none⟩)∧∃(bo:Bool) (ao:Option Addr) (no ko:Nat) (zo:Int),wx.heap[w0.heap.size]?=some (.cells #[.bool bo,.slice ao no ko] 32)∧Zn wx (.agg #[.bool bo,.slice ao no ko]) zo∧blen zo.natAbs≤1125899906840000∧zo+(lowz r nn:Int)=r∧Below w0.heap.size w0 wx)
  case first=>
   by_cases hr:r<0
   ·have eo:(ob:Int)=1:=by rw [←HOB2.out,show zsg r=true from decide_eq_true hr];rfl
    have HALL:=aa (show -((2 ^ nn:Nat):Int)+(lowz r nn:Int)=r by have h:=gk (z:=r) (n:=nn) HMR.out;rw [if_pos hr] at h;exact h)
    clear hr
    have g2:=HG5.out
    have O0:=ix t5
    go_wp2_with fail
    refine O0.mono ?_
    rintro e u1 ⟨⟨v9,rfl,N9⟩,hb9⟩
    have O1:=mp v9 1 nn u1 N9 (by have h:blen 1=1:=rfl;omega)
    rw [Nat.one_mul] at O1
    have gg1:=aO g2 hb9
    clear O0 N9 hb9 g2
    go_wp2_with fail
    refine O1.mono ?_
    rintro e u2 ⟨⟨v8,rfl,N8⟩,hb8⟩
    have O2:=bJ true v8 (2 ^ nn) u2 N8
    have gg2:=aO gg1 hb8
    clear O1 N8 hb8 gg1
    go_wp2_with fail
    refine O2.mono ?_
    rintro e u3 ⟨⟨bo,ao,no,ko,rfl,N7⟩,hb7⟩
    have gg3:=aO gg2 hb7
    have hx3:=ab gg3 HX1.out
    obtain⟨m0,m1⟩:=duo hx3
    have hfm:=af hx3
    have HX3:=aa hx3
    have HG3:=aa gg3
    have HN7:=aa N7
    clear O2 N7 hb7 gg2 gg3 hx3
    go_wp2_with fail
    have ho6:=av HX3.out (a':=.bool bo) (b':=.slice ao no ko)
    have hb6:Below w0.heap.size w0 ((u3.setCell ⟨w0.heap.size,0,none⟩ (.bool bo)).setCell ⟨w0.heap.size,1,none⟩ (.slice ao no ko)):=((aO JH.out HG3.out).setCell (Nat.le_refl _) _).setCell (Nat.le_refl _) _
    have hzo:=HN7.out.duo (p1:=bo) (r1:=.slice ao no ko) HX3.out
    rw [show zz true (2 ^ nn)=-((2 ^ nn:Nat):Int) from rfl] at hzo
    have hzob:blen (-((2 ^ nn:Nat):Int)).natAbs≤1125899906840000:=by rw [Int.natAbs_neg,Int.natAbs_natCast];have:=nM nn;omega
    have HC:=aa (And.intro ho6 (And.intro hzo (And.intro hzob (And.intro HALL.out hb6))))
    clear HX3 HG3 HN7 m0 m1 hfm ho6 hzo hb6
    go_meet
    exact⟨rfl,_,_,_,_,_,HC.out⟩
   ·have eo:(ob:Int)=0:=by rw [←HOB2.out,show zsg r=false from decide_eq_false hr];rfl
    have HALL:=aa (show (0:Int)+(lowz r nn:Int)=r by have h:=gk (z:=r) (n:=nn) HMR.out;rw [if_neg hr] at h;exact h)
    have HC:=aa (show t5.heap[w0.heap.size]?=some (.cells #[.bool false,.slice none 0 0] 32)∧Zn t5 (.agg #[.bool false,.slice none 0 0]) 0∧blen (0:Int).natAbs≤1125899906840000∧(0:Int)+(lowz r nn:Int)=r∧Below w0.heap.size w0 t5 from ⟨ab HG5.out HX1.out,kM t5,by decide,HALL.out,aO JH.out HG5.out⟩)
    clear hr
    go_wp2_with fail
    go_meet
    exact⟨rfl,_,_,_,_,_,HC.out⟩
  case rest=>
   obtain⟨rfl,bo,ao,no,ko,zo,ho6,hzo,hzob,hall,hb6⟩:=hcut
   have HALL:=aa hall
   clear hall HG5
   generalize wc=w6 at *
   have HO6:=aa ho6
   have HZO:=aa hzo
   have HR6:=aa (ab hb6 JX0.out)
   have HA6:=aa (ab hb6 J0.out)
   have HC6:=aa (ab hb6 J1.out)
   have HY6:=aa (JZ1.out.below hb6)
   have HW6:=aa (JZ2.out.below hb6)
   have hb16:=aO JB.out hb6
   have HB16:=aa hb16
   obtain⟨mm,hmm⟩:∃mm:Nat,mm=nn / 64+1:=⟨_,rfl⟩
   have q1:(nn:Int) / 64=((mm - 1:Nat):Int):=by omega
   have q2:((mm - 1:Nat):Int)+1=(mm:Int):=by omega
   have hmm1:mm≤17592186044416:=by omega
   have HMM:=aa hmm
   clear hmm hb6 ho6 hzo hb16 HB1 H0 H1 HX0 HX1 HZ1 HZ2 JB J0 J1 JX0 JZ1 JZ2 JH
   obtain⟨c0,c1⟩:=duo HA6.out
   obtain⟨c2,c3⟩:=duo HC6.out
   go_wp2_with (at_make;refine wpList_make_full _ rfl _ _ 22 rfl w6.heap.size 60 i0 (.int .u64 0) 1 Tryz.underlying22 hi hza hzb .i64 .i64 _ _ mm rfl rfl (by omega) (by omega) (by rw [hzc];omega) (by unfold maxLen;omega) (Nat.le_refl _) ?_;intro w7 hown hgrow;have hb7:Below w6.heap.size w6 w7:=(Below.refl w6.heap.size w6).grown hgrow (Nat.le_refl _) (fun k hk=>by cases hk))
   have HI:=aa (show e8 w6 w6.heap.size mm r 0 w7 from ⟨_,Blk.made hown,by simp,limbs_replicate _,by rw [kB];exact val_replicate mm,hb7⟩)
   clear hown hgrow hb7 c0 c1 c2 c3
   go_loopw [10] (fun i wr=>∃k:Nat,k≤nn∧i=.int .i64 (k:Int)∧e8 w6 w6.heap.size mm r k wr) (fun i _=>nn - (intOf i).toNat)
   case atStart=>exact⟨0,Nat.zero_le _,rfl,HI.out⟩
   case round=>
    obtain⟨k,hk,rfl,Z,hblk,hlen,hlz,hval,hbr⟩:=hrel
    have HBK:=aa hblk
    have HBR:=aa hbr
    have HLZ:=aa (And.intro hlen (And.intro hlz hval))
    clear HI
    by_cases hkn:k<nn
    ·obtain⟨q,s,hks,hs⟩:∃q s:Nat,k=64*q+s∧s<64:=⟨k / 64,k % 64,by omega,by omega⟩
     have hqm:q<Z.length:=by rw [hlen,HMM.out];omega
     have hput:=iF (b:=nb r k) hlz hks hs hqm hval rfl
     have i1:(k:Int)<(nn:Int):=by omega
     have i2:(k:Int) / 64=(q:Int):=by omega
     have i3:Int.tmod (k:Int) 64=(s:Int):=by rw [Int.tmod_eq_emod_of_nonneg (by omega)];omega
     have i4:(q:Int)<(mm:Int):=by omega
     have i5:(0:Int)≤(q:Int):=by omega
     have ewq:IntKind.i64.wrap (q:Int)=(q:Int):=by rw [IntKind.wrap_i64];omega
     have hby:=dT y k
     have hbz:=dT z k
     have hbr1:=dT r k
     have hob:=hbit k
     have B1:=aa (fun (W:World) (hg:Below wr.heap.size wr W)=>show Calls Tryz.prog 14 #[.agg #[.bool b,.slice a n k9],.int .i64 (k:Int)] W (fun e w'=>e=.returned (.int .i64 (nb y k:Int))∧Below W.heap.size W w') by have h:=eQ _ y k W (HY6.out.below (aO HBR.out hg)) (by omega) (by omega);rw [fm] at h;exact h)
     have B2:=aa (fun (W:World) (hg:Below wr.heap.size wr W)=>show Calls Tryz.prog 14 #[.agg #[.bool b2,.slice a2 n2 k2],.int .i64 (k:Int)] W (fun e w'=>e=.returned (.int .i64 (nb z k:Int))∧Below W.heap.size W w') by have h:=eQ _ z k W (HW6.out.below (aO HBR.out hg)) (by omega) (by omega);rw [fm] at h;exact h)
     have ebop:bop one (nb y k) (nb z k)=one / 2 ^ (2*nb y k+nb z k) % 2:=rfl
     rw [ebop] at hob
     clear ebop
     generalize nb y k=by9 at *
     generalize nb z k=bz9 at *
     generalize nb r k=bb at *
     obtain⟨d2,hd2⟩:∃d2:Nat,d2=2*by9:=⟨_,rfl⟩
     obtain⟨c9,hc9⟩:∃c9:Nat,c9=2*by9+bz9:=⟨_,rfl⟩
     have ew3:IntKind.i64.wrap (2*(by9:Int))=(d2:Int):=by rw [IntKind.wrap_i64];omega
     have ew4:IntKind.i64.wrap ((d2:Int)+(bz9:Int))=(c9:Int):=by rw [IntKind.wrap_i64];omega
     have hc93:c9≤3:=by omega
     have et9:Int.tmod ((one:Int) / 2 ^ c9) 2=(bb:Int):=by rw [ik,hob,hc9]
     have ecv:IntKind.u64.wrap (bb:Int)=(bb:Int):=by rw [IntKind.wrap_u64];omega
     have esh:=mI bb s hbr1 hs
     obtain⟨T,hT9⟩:∃T,bb*2 ^ s=T:=⟨_,rfl⟩
     rw [hT9] at esh hput
     obtain⟨hp1,hp2,hp3⟩:=hput
     obtain⟨x,hx9⟩:∃x,Z.getD q 0=x:=⟨_,rfl⟩
     rw [hx9] at hp1 hp2 hp3
     obtain⟨t,ht9⟩:∃t:Nat,x+T=t:=⟨_,rfl⟩
     rw [ht9] at hp1 hp2 hp3
     have es:(x:Int)+(T:Int)=(t:Int):=by omega
     have ewt:IntKind.u64.wrap (t:Int)=(t:Int):=by rw [IntKind.wrap_u64];omega
     have HP:=aa (And.intro hp2 hp3)
     have HK9:=aa (And.intro hk hkn)
     have HX9:=aa hx9
     clear hd2 hc9 hob hT9 ht9 hp1 hp2 hp3 hks hlz hval hbr1 hbr hlen hx9 hk hkn
     go_upto_region 11 with fail
     have g0:Below wr.heap.size wr wr.drew:=dC (Below.refl _ _)
     have KC:=aa (fun (W:World) (hg:Below wr.heap.size wr W)=>show (W.cell? ⟨w.heap.size,0,none⟩=some (.bool b)∧W.cell? ⟨w.heap.size,1,none⟩=some (.slice a n k9))∧(W.cell? ⟨w.heap.size+1,0,none⟩=some (.bool b2)∧W.cell? ⟨w.heap.size+1,1,none⟩=some (.slice a2 n2 k2))∧W.cell? ⟨w6.heap.size,q,none⟩=some (.int .u64 (x:Int)) from ⟨duo (ab (aO HBR.out hg) HA6.out),duo (ab (aO HBR.out hg) HC6.out),by have h:=(HBK.out.below' hg).cell q (by have:=HLZ.out.1;omega);rw [HX9.out] at h;exact h⟩)
     obtain⟨⟨c0,c1⟩,⟨c2,c3⟩,c4⟩:=KC.out _ g0
     clear hblk
     go_region_with (first
      | (go_at_call_of 14 a2;refine (B2.out _ g1).mono ?_;rintro e' t2 ⟨rfl,hb2⟩;have g2:=aO g1 hb2;clear c0 c1 c2 c3 c4;obtain⟨⟨c0,c1⟩,⟨c2,c3⟩,c4⟩:=KC.out _ g2;have hfr:=(HBK.out.below' g2).free q)
      | (go_at_call_of 14 a;refine (B1.out _ g0).mono ?_;rintro e' t1 ⟨rfl,hb1⟩;have g1:=aO g0 hb1;clear c0 c1 c2 c3 c4;obtain⟨⟨c0,c1⟩,⟨c2,c3⟩,c4⟩:=KC.out _ g1))
     all_goals
      have HC:=aa (show e8 w6 w6.heap.size mm r (k+1) (t2.setCell ⟨w6.heap.size,q,none⟩ (.int .u64 (t:Int))) from ⟨Z.set q t,(HBK.out.below' g2).set q t,by rw [List.length_set];exact HLZ.out.1,HP.out.1,HP.out.2,(HBR.out.trans (g2.mono HBR.out.size)).setCell (Nat.le_refl _) _⟩)
      clear c0 c1 c2 c3 c4 hfr hb1 hb2 g0 g1 g2 B1 B2 KC
      go_wp2
      go_roundw
      case rel=>exact⟨k+1,HK9.out.2,by go_num,HC.out⟩
      case measure=>have:=HK9.out.2;simp [intOf];omega
    ·have i1:¬(k:Int)<(nn:Int):=by omega
     have ek:k=nn:=by omega
     have HV:=aa (show val Z=lowz r nn by rw [←ek];exact hval)
     have hlz2:=fW r nn
     have ha:=Ans.of_blk (base:=w6.heap.size) (zs:=Z) (Nat.le_refl _) hblk List.take_length.symm (Nat.le_refl _) (by omega) hlz
     rw [hlen] at ha
     have O1:=iD false _ Z wr.drew ((ha.arg (by omega)).below (Below.refl _ _).drew) (by omega)
     rw [show zz false (val Z)=(lowz r nn:Int) by rw [HV.out];rfl] at O1
     have AD:=aa (fun (W:World) (v:Value) (hg:Below wr.drew.heap.size wr.drew W) (hv:Zn W v (lowz r nn:Int))=>show Calls Tryz.prog 52 #[.agg #[.bool bo,.slice ao no ko],v] W (bf W r) by
      have h:=gI _ v zo (lowz r nn:Int) W (HZO.out.below (aO HBR.out (aO (dC (Below.refl _ _)) hg))) hv hzob (by have:=(blen_le_iff (lowz r nn) nn).2 hlz2;have e:(lowz r nn:Int).natAbs=lowz r nn:=(by omega);rw [e];omega)
      rw [show zo+(lowz r nn:Int)=r from HALL.out] at h
      exact h)
     have g0:Below wr.heap.size wr wr.drew:=dC (Below.refl _ _)
     obtain⟨d0,d1⟩:=duo (ab (aO HBR.out g0) HO6.out)
     have HRR:=aa (ab (aO HBR.out g0) HR6.out)
     have HBE:=aa (HB16.out.trans ((aO HBR.out g0).mono HB16.out.size))
     have hso:∀(W:World) (k:Nat) (u:Value) (k':Nat),(W.setCell ⟨w.heap.size+1+1,k,none⟩ u).cell? ⟨w0.heap.size,k',none⟩=W.cell? ⟨w0.heap.size,k',none⟩:=fun W k u k'=>aN (by have:=HSZ.out;omega)
     clear hblk hlen hlz hval hbr ha hk hkn HLZ HBK ek hlz2 g0
     go_wp2
     go_region_held3 (fun w'=>w'.cell? ⟨w0.heap.size,0,none⟩=some (.bool bo)∧w'.cell? ⟨w0.heap.size,1,none⟩=some (.slice ao no ko)) (go_keep) (first
      | (go_at_call 31;refine O1.mono ?_;rintro e' u1 ⟨⟨b9,a9,n9,k9',rfl,N1⟩,hb1⟩;have x0:=ac hb1 d0;have x1:=ac hb1 d1)
      | (go_at_call 52;refine (AD.out u1 _ hb1 N1).mono ?_;rintro e' u2 ⟨⟨b8,a8,n8,k8,rfl,hzn⟩,hb2⟩;have y0:=ac hb2 x0;have y1:=ac hb2 x1;have hz4:=ab hb2 (ab hb1 HRR.out);have hf4:=af hz4;obtain⟨t0,t1⟩:=duo hz4))
     have HBX:=aa hz4
     have HBF:=aa (HBE.out.trans ((hb1.trans (hb2.mono hb1.size)).mono HBE.out.size))
     have R5:=av HBX.out (a':=.bool b8) (b':=.slice a8 n8 k8)
     have HD:=aa (And.intro (hzn.duo (p1:=b8) (r1:=.slice a8 n8 k8) HBX.out) (az HBF.out (g:=w.heap.size+2) (u0:=.bool b8) (u1:=.slice a8 n8 k8) (by omega)))
     clear hf4 t0 t1 y0 y1 x0 x1 hz4 N1 hb1 hb2 hzn d0 d1 O1 AD hso
     generalize (u2.setCell ⟨w.heap.size+2,0,none⟩ (.bool b8)).setCell ⟨w.heap.size+2,1,none⟩ (.slice a8 n8 k8)=w5 at *
     obtain⟨q0,q1'⟩:=duo R5
     go_wp2
     refine bodyPost_ret (v:=.agg #[.bool b8,.slice a8 n8 k8]) (by simp [results,Tryz.results18,go_sem,q0,q1']) rfl ?_
     exact⟨⟨_,_,_,_,rfl,HD.out.1⟩,HD.out.2⟩

theorem nS {x t u:Nat}(h:aS x t)(k:aS x u):t=u:=by
 have h1:∀ {a b:Nat},aS x a→aS x b→¬a<b:=by
  intro a b ha hb hlt
  have h2:=cQ ha
  have h3:=hb.1
  rw [h2] at h3
  have h4:=(hJ (t:=a) (k:=x / 2 ^ a / 2) (i:=b)).1 h3
  omega
 have:=h1 h k
 have:=h1 k h
 omega

theorem l8 (b1:Bool)(v1:Value)(X:List Nat)(p:Int)(w:World)(hA:Arg w v1 X)(hp:p<0) :
  Calls Tryz.prog 11 #[.agg #[.bool b1,v1],.int .i64 p] w fun e w'=>e=.returned (.tuple #[.int .i64 0,.int .i64 1])∧Below w.heap.size w w':=by
 obtain⟨a1,c1,rfl,_,_,_⟩:=hA.form
 have HB:=aa (aI w (.cells #[.bool b1,.slice a1 X.length c1] 27))
 clear hA
 go_enter Tryz.func11,Tryz.ntmps11
 go_wp2
 go_ret2
 exact⟨rfl,HB.out⟩

theorem kc (b1:Bool)(v1:Value)(X:List Nat)(w:World)(hA:Arg w v1 X)(hx:val X=0) :
  Calls Tryz.prog 12 #[.agg #[.bool b1,v1]] w fun e w'=>e=.returned (.tuple #[.int .i64 (-1),.int .i64 0])∧Below w.heap.size w w':=by
 obtain⟨a1,c1,rfl,_,_,_⟩:=hA.form
 obtain⟨w0,hw0,hb0,h0⟩:=aB w (.cells #[.bool b1,.slice a1 X.length c1] 27)
 obtain⟨k0,k1⟩:=duo h0
 have C:=dD _ X w0 (hA.below hb0)
 rw [decide_eq_true hx] at C
 have HB:=aa hb0
 clear hA hb0 h0 hx
 go_enter Tryz.func12,Tryz.ntmps12
 go_wp2_with fail
 refine C.mono ?_
 rintro e wn ⟨rfl,hw⟩;rw [hw];clear hw wn C
 go_wp2
 go_ret2
 exact⟨rfl,HB.out⟩

theorem kJ (b1:Bool)(v1:Value)(X:List Nat)(t:Nat)(w:World)(hA:Arg w v1 X)(hT:Tab w)(hx:val X≠0)(ht:aS (val X) t) :
  Calls Tryz.prog 12 #[.agg #[.bool b1,v1]] w fun e w'=>e=.returned (.tuple #[.int .i64 (t:Int),.int .i64 0])∧Below w.heap.size w w':=by
 obtain⟨a1,c1,rfl,_,_,_⟩:=hA.form
 obtain⟨w0,hw0,hb0,h0⟩:=aB w (.cells #[.bool b1,.slice a1 X.length c1] 27)
 obtain⟨k0,k1⟩:=duo h0
 have C:=dD _ X w0 (hA.below hb0)
 rw [decide_eq_false hx] at C
 have D:=iz _ X w0 (hA.below hb0) (hT.below hb0)
 have HB:=aa hb0
 have HX:=aa (And.intro hx ht)
 clear hA hT hb0 h0 hx ht
 go_enter Tryz.func12,Tryz.ntmps12
 go_wp2_with fail
 refine C.mono ?_
 rintro e wn ⟨rfl,hw⟩;rw [hw];clear hw wn C
 go_wp2_with fail
 refine D.mono ?_
 rintro e wn ⟨⟨t',_,rfl,_,ht'⟩,hw⟩;rw [hw];clear hw wn D
 have HE:=aa (nS (ht' HX.out.1) HX.out.2)
 clear ht'
 go_wp2
 go_ret2
 exact⟨by rw [HE.out];rfl,HB.out⟩
end Go.Proofs.YtcbpdngogkbndaaGreatDoor
namespace Go.Proofs.YtcbpdngogkbndaaGreatDoor
open Go.RowKit
open Lm
end Go.Proofs.YtcbpdngogkbndaaGreatDoor
namespace Go.Proofs.YtcbpdngogkbndaaGreatDoor
open Go.RowKit
open Lm
attribute [local go_sem ↓] Go.wp_at_zero Go.wp_at_succ
end Go.Proofs.YtcbpdngogkbndaaGreatDoor
namespace Go.Proofs.YtcbpdngogkbndaaGreatDoor
open Go.RowKit
open Lm
end Go.Proofs.YtcbpdngogkbndaaGreatDoor
namespace Go.Proofs.YtcbpdngogkbndaaGreatDoor
open Go.RowKit
open Lm
attribute [local go_sem ↓] Go.wp_at_zero Go.wp_at_succ

theorem ij {X:List Nat}(h:Limbs X):blen (val X)≤64*X.length:=by
 rw [blen_le_iff,bA]
 exact val_lt h
end Go.Proofs.YtcbpdngogkbndaaGreatDoor

