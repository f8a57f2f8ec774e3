/- Package mul: whole, of two numbers above 0. -/
import Derived.Test.YtkfbobefkbpdoaaGreatDoorB11
import Derived.Handy
import Derived.Test.YtkfbobefkbpdoaaGreatDoorB17
import Derived.Test.YtkfbobefkbpdoaaGreatDoorB01
import Derived.Deep.RegionHeld3
import Derived.Deep.DrawnRows
import Derived.Test.YtkfbobefkbpdoaaGreatDoorB02
import Derived.Test.YtkfbobefkbpdoaaGreatDoorB16
import Derived.Test.YtkfbobefkbpdoaaGreatDoorB04
import Derived.Deep.CutBlock
import Derived.Deep.DeepCutAuto
import Derived.Test.YtkfbobefkbpdoaaGreatDoorB14
set_option maxRecDepth 20000
set_option maxHeartbeats 4000000
namespace Go.Proofs.YtkfbobefkbpdoaaGreatDoor
open Go.RowKit
open Lm

def dJ (w:World)(p n:Nat)(e:Ending)(w':World):Prop:=
 (∃v rs,e=.returned v∧Ans w' w.heap.size v rs∧val rs=p∧tr rs=rs∧rs.length≤n)∧Below w.heap.size w w'

theorem pI (H T:Int)(va vb:Value)(X Y:List Nat)(w:World)(hA:Arg w va X)(hA2:Arg w vb Y)(hT:Tab w)(hX:val X≠0)(hY:val Y≠0)(hf:X.length+Y.length≤35184372088831)
  (hI:bR H T ((tr X).drop (bf (tr X))) ((tr Y).drop (bf (tr Y)))) :
  Calls Tryz.prog 139 #[way H T,va,vb] w (dJ w (val X*val Y) (X.length+Y.length)):=by
 unfold way
 obtain⟨a1,c1,rfl,hcc1,hcm1,hl1⟩:=hA.form
 obtain⟨a2,c2,rfl,hcc2,hcm2,hl2⟩:=hA2.form
 have lX:=tr_length_le X
 have lY:=tr_length_le Y
 have hX0:tr X≠[]:=fun e=>hX (by rw [←val_tr,e];rfl)
 have hY0:tr Y≠[]:=fun e=>hY (by rw [←val_tr,e];rfl)
 obtain⟨i0,hi,hz0,hz1,hz2⟩:=info_parts Tryz.infoU
 obtain⟨w1,hw1⟩:∃w1,w1=w.alloc (.cells #[.int .i64 H,.int .i64 T] 161):=⟨_,rfl⟩
 have hbel1:Below w.heap.size w w1:=by rw [hw1];exact (Below.refl _ _).alloc (Nat.le_refl _) _
 have hs1:w1.heap.size=w.heap.size+1:=by rw [hw1];simp
 have hb1:w1.heap[w.heap.size]?=some (.cells #[.int .i64 H,.int .i64 T] 161):=by rw [hw1];exact heap_alloc_new ..
 have hc0:w1.cell? ⟨w.heap.size,0,none⟩=some (.int .i64 H):=by simp [World.cell?,hb1]
 have hc1:w1.cell? ⟨w.heap.size,1,none⟩=some (.int .i64 T):=by simp [World.cell?,hb1]
 have B1:=ab hbel1
 have HW1:=ab hw1
 have A1:=(hA.below hbel1).trim
 have A2:=(hA2.below hbel1).trim
 have hT1:=hT.below hbel1
 have H1:=bU a1 c1 X w1 hcc1 hcm1 (hl1.below hbel1)
 have H2:=bU a2 c2 Y w1 hcc2 hcm2 (hl2.below hbel1)
 rw [←val_tr X,←val_tr Y]
 have L1:=(hl1.below hbel1).tr
 have L2:=(hl2.below hbel1).tr
 have HPX:Hid (val (tr X)≠0):=ab (by rw [val_tr];exact hX)
 have HQY:Hid (val (tr Y)≠0):=ab (by rw [val_tr];exact hY)
 clear hA hA2 hT hl1 hl2 hX hY hw1 hbel1
 generalize tr X=P at *
 generalize tr Y=Q at *
 have hP:0<P.length:=List.length_pos_iff.2 hX0
 have hQ:0<Q.length:=List.length_pos_iff.2 hY0
 rcases L1 with h' | ⟨b,off,rfl,hcell1⟩
 ·exact absurd h' hX0
 rcases L2 with h' | ⟨b2,off2,rfl,hcell2⟩
 ·exact absurd h' hY0
 have hbw:=aC.block (zs:=P) (.inr ⟨b,off,rfl,hcell1⟩) hP
 have hbw2:=aC.block (zs:=Q) (.inr ⟨b2,off2,rfl,hcell2⟩) hQ
 clear hcell1 hcell2 hX0 hY0
 obtain⟨N,hN1,hN2,eN⟩:∃N:Nat,N≤P.length+Q.length∧P.length+Q.length≤N∧(P.length:Int)+(Q.length:Int)=(N:Int):=⟨P.length+Q.length,by omega,by omega,by omega⟩
 go_enter Tryz.func139,Tryz.ntmps139
 go_wp2_with fail
 rw [←HW1.out]
 refine H1.mono ?_
 rintro e w2 ⟨rfl,hw⟩;subst hw
 go_wp2_with fail
 refine H2.mono ?_
 rintro e w3 ⟨rfl,hw⟩;subst hw
 clear H1 H2
 go_wp2_with (at_make;refine wpList_make_full _ rfl _ _ 39 rfl w3.heap.size 51 i0 (.int .u64 0) 1 Tryz.underlying39 hi hz0 hz1 .i64 .i64 _ _ N rfl rfl (by omega) (by omega) (by rw [hz2];omega) (by unfold maxLen;omega) (Nat.le_refl _) ?_;intro w4 hown hgrow)
 have hb4:=Blk.made hown
 rw [hs1] at hb4
 have hbel4:Below w3.heap.size w3 w4:=(Below.refl _ _).grown hgrow (Nat.le_refl _) (fun k hk=>by cases hk)
 have hs4:w3.heap.size<w4.heap.size:=by rw [hs1];exact hb4.lt
 clear hown hgrow hi hz0 hz1 hz2
 have B4:Hid (Below w.heap.size w w4):=B1.out.trans (hbel4.mono (by omega))
 replace A1:=A1.below hbel4
 replace A2:=A2.below hbel4
 replace hT1:=hT1.below hbel4
 have hc04:w4.cell? ⟨w.heap.size,0,none⟩=some (.int .i64 H):=by rw [hbel4.cell (p:=⟨w.heap.size,0,none⟩) (by show w.heap.size<_;omega)];exact hc0
 have hc14:w4.cell? ⟨w.heap.size,1,none⟩=some (.int .i64 T):=by rw [hbel4.cell (p:=⟨w.heap.size,1,none⟩) (by show w.heap.size<_;omega)];exact hc1
 clear hc0 hc1 hb1 B1 HW1 hbel4
 refine (fx _ _ _ A1 hT1).mono ?_
 rintro e w5 ⟨⟨t,ht,rfl⟩,hw⟩;subst hw
 have li:=fF P
 have li':=iU P HPX.out
 have vi:=gI P
 generalize bf P=i at *
 obtain⟨ti,eti⟩:∃ti:Nat,ti=i*64+t:=⟨_,rfl⟩
 have eI:(ti:Int) / 64=(i:Int):=by omega
 have hti:ti≤9223372036854775807:=by omega
 rw [←eti]
 clear eti ht
 go_wp2_with fail
 refine (fx _ _ _ A2 hT1).mono ?_
 rintro e w6 ⟨⟨u,hu,rfl⟩,hw⟩;subst hw
 have lj:=fF Q
 have lj':=iU Q HQY.out
 have vj:=gI Q
 generalize bf Q=j at *
 obtain⟨tj,etj⟩:∃tj:Nat,tj=j*64+u:=⟨_,rfl⟩
 have eJ:(tj:Int) / 64=(j:Int):=by omega
 have htj:tj≤9223372036854775807:=by omega
 rw [←etj]
 clear etj hu hT1
 obtain⟨g,hg⟩:∃g,g=w.heap.size+1:=⟨_,rfl⟩
 have HI:=hI g (i+j) (N - (i+j)) (List.replicate N 0) _ _ w6.drew (by rw [hg];exact hb4) (limbs_replicate _) ((A1.drop i li).below ((Below.refl _ _).drew)) ((A2.drop j lj).below ((Below.refl _ _).drew))
  (fun b' off' n c e=>by cases e;omega) (fun b' off' n c e=>by cases e;omega) (by simp;omega) (by simp;omega) (by omega)
 rw [List.length_drop,List.length_drop] at HI
 have HVAL:=ab (fun Z ho hs=>nm Z P Q i j N li lj (by omega) vi vj ho hs)
 clear vi vj hI A1 A2
 obtain⟨M,hM1,hM2⟩:∃M,P.length - i+(Q.length - j)=M∧N - (i+j)=M:=⟨_,rfl,by omega⟩
 rw [hM1,hM2] at HI
 rw [hM1] at HVAL
 have eS:(i:Int)+(j:Int)=((i+j:Nat):Int):=by omega
 have hS:i+j+M≤N:=by omega
 have hS2:N≤i+j+M:=by omega
 generalize i+j=s at *
 have wS:IntKind.i64.wrap (s:Int)=(s:Int):=by rw [IntKind.wrap_i64];omega
 have k1:(0:Int)≤(s:Int):=by omega
 have k2:(s:Int)≤(N:Int):=by omega
 have k3:(0:Int)≤(i:Int):=by omega
 have k4:(i:Int)≤(P.length:Int):=by omega
 have k5:(0:Int)≤(j:Int):=by omega
 have k6:(j:Int)≤(Q.length:Int):=by omega
 have k7:(i:Int)≤(c1:Int):=by omega
 have k8:(j:Int)≤(c2:Int):=by omega
 have k9:¬N=s:=by omega
 have k10:¬c1=i:=by omega
 have k11:¬c2=j:=by omega
 clear hM1
 rw [←hg]
 have HG:=ab hg
 clear hg
 unfold way at HI
 have HK:=ab (fun (w7:World) (hF:Fr g w6.drew w7)=>(⟨by rw [World.cell?_of_block (w:=w6.drew) (hF.block w.heap.size (by show _<w6.heap.size;have:=HG.out;omega) (by have:=HG.out;omega))];exact hc04,by rw [World.cell?_of_block (w:=w6.drew) (hF.block w.heap.size (by show _<w6.heap.size;have:=HG.out;omega) (by have:=HG.out;omega))];exact hc14⟩:w7.cell? ⟨w.heap.size,0,none⟩=some (.int .i64 H)∧w7.cell? ⟨w.heap.size,1,none⟩=some (.int .i64 T)))
 go_wp2
 go_region_held3 (fun w'=>w'.cell? ⟨w.heap.size,0,none⟩=some (.int .i64 H)∧w'.cell? ⟨w.heap.size,1,none⟩=some (.int .i64 T)) (go_keep) (first | (go_at_call 144;refine HI.mono ?_;rintro e w7 ⟨rfl,Z',hO,hlz,hB7,hF7,hv7⟩;obtain⟨hk0,hk1⟩:=HK.out w7 hF7;have HD:=ab (And.intro hO (And.intro hlz (And.intro hB7 (And.intro hF7 hv7))));clear hO hlz hB7 hF7 hv7))
 obtain⟨hO,hlz,hB7,hF7,hv7⟩:=HD.out
 have hlZ:Z'.length=N:=by rw [hO.len];simp
 have hvz:=HVAL.out Z' (by exact hO) hv7
 have hans:=(Ans.of_blk (base:=w.heap.size) (zs:=Z') (by have:=HG.out;omega) hB7 List.take_length.symm (Nat.le_refl _) (by omega) hlz).trim
 have HT2:=bU (some ⟨g,0,none⟩) N Z' w7 (by omega) (by omega) (.inr ⟨g,0,rfl,fun k hk=>by rw [Nat.zero_add];exact hB7.cell k hk⟩)
 rw [hlZ] at HT2 hans
 have hlt:=tr_length_le Z'
 have HR:Hid (dJ w (val P*val Q) (X.length+Y.length) (.returned (.slice (some ⟨g,0,none⟩) (tr Z').length N)) w7):=
  ab ⟨⟨_,tr Z',rfl,hans,by rw [val_tr,hvz],tr_tr _,by omega⟩,B4.out.trans ((Fr.trans (Fr.refl g w6).drew hF7).below (by have:=HG.out;omega) B4.out.size)⟩
 clear hO hlz hB7 hF7 hv7 HD HVAL HI HK hans hvz hb4 B4 HG
 generalize (tr Z').length=n' at *
 go_wp2_with fail
 refine HT2.mono ?_
 rintro e w8 ⟨rfl,hw⟩;subst hw
 clear HT2
 go_wp2
 go_ret
 exact HR.out

theorem iJ (bz zo n cap:Nat)(Z:List Nat)(va:Value)(a2:Option Addr)(c2:Nat)(w:World)(hB:Blk w bz Z)(hLZ:Limbs Z)(hzo:zo+n≤Z.length) :
  Calls Tryz.prog 145 #[.slice (some ⟨bz,zo,none⟩) n cap,va,.slice a2 0 c2] w (aI bz zo n Z w 0):=by
 obtain⟨w1,Z1,hrun,hO,hL,hB1,hF,hS⟩:=gA bz zo n cap Z w hB hLZ hzo
 have HD:=ab (show aI bz zo n Z w 0 (.returned (.tuple #[])) w1 from ⟨rfl,Z1,hO,hL,hB1,hF,hS⟩)
 clear hO hL hB1 hF hS hB hLZ
 go_enter Tryz.func145,Tryz.ntmps145
 go_wp2
 refine wp_loop_rounds 1 ?_
 rw [rounds_succ]
 go_wp2
 go_end0
 exact HD.out

theorem mw (H T:Int)(hH:1≤H)(hT:1≤T)(bz zo n cap:Nat)(Z:List Nat)(a1:Option Addr)(l1 c1:Nat)(a2:Option Addr)(l2 c2:Nat)(w:World)(hB:Blk w bz Z)(hLZ:Limbs Z)(hz:l1=0∨l2=0)(hl1:l1≤1125899906842624)(hl2:l2≤1125899906842624)(hzo:zo+n≤Z.length) :
  Calls Tryz.prog 144 #[way H T,.slice (some ⟨bz,zo,none⟩) n cap,.slice a1 l1 c1,.slice a2 l2 c2] w (aI bz zo n Z w 0):=by
 unfold way
 have i1:(0:Int)<H:=by omega
 have i2:(0:Int)<T:=by omega
 by_cases h2:l2=0
 ·subst h2
  have hd0:decide ((l1:Int)<0)=false:=decide_eq_false (by omega)
  have HS:=iJ bz zo n cap Z (.slice a1 l1 c1) a2 c2 (w.alloc (.cells #[.int .i64 H,.int .i64 T] 161)) (hB.alloc _) hLZ hzo
  clear hz
  go_enter Tryz.func144,Tryz.ntmps144
  go_wp2_with fail
  refine HS.mono ?_
  rintro e w2 hd
  have HD:=ab (aI.after hd (Fr.alloc bz w _))
  obtain⟨he,_⟩:=hd
  subst he
  clear HS hB
  go_wp2
  go_end0
  exact HD.out
 ·have h1:l1=0:=by omega
  subst h1
  have hd0:(0:Int)<(l2:Int):=by omega
  have HS:=iJ bz zo n cap Z (.slice a2 l2 c2) a1 c1 (w.alloc (.cells #[.int .i64 H,.int .i64 T] 161)) (hB.alloc _) hLZ hzo
  clear hz
  go_enter Tryz.func144,Tryz.ntmps144
  go_wp2_with fail
  refine HS.mono ?_
  rintro e w2 hd
  have HD:=ab (aI.after hd (Fr.alloc bz w _))
  obtain⟨he,_⟩:=hd
  subst he
  clear HS hB
  go_wp2
  go_end0
  exact HD.out

theorem kg (Z:List Nat)(N s M:Nat)(hM:s+M≤N)(hM2:N≤s+M)(ho:Out (List.replicate N 0) Z s (s+M))(hs:sv Z s M=0):val Z=0:=by
 have hl:Z.length=N:=by rw [ho.len];simp
 have e0:sv Z 0 s=0:=by
  rw [ho.sv 0 s (by omega)]
  unfold sv seg
  rw [List.drop_replicate,List.take_replicate,val_replicate]
 have e1:sv Z 0 (s+M)=val Z:=by rw [show s+M=Z.length by omega,dV]
 rw [aY _ _ _ _ (by omega),e0,Nat.zero_add,Nat.zero_add,hs,Nat.mul_zero] at e1
 exact e1.symm

theorem mS (H T:Int)(hH:1≤H)(hTT:1≤T)(va vb:Value)(X Y:List Nat)(w:World)(hA:Arg w va X)(hA2:Arg w vb Y)(hT:Tab w)(hXY:val X=0∨val Y=0)(hf:X.length+Y.length≤35184372088831) :
  Calls Tryz.prog 139 #[way H T,va,vb] w (dJ w 0 (X.length+Y.length)):=by
 unfold way
 obtain⟨a1,c1,rfl,hcc1,hcm1,hl1⟩:=hA.form
 obtain⟨a2,c2,rfl,hcc2,hcm2,hl2⟩:=hA2.form
 have lX:=tr_length_le X
 have lY:=tr_length_le Y
 have hXY0:(tr X).length=0∨(tr Y).length=0:=by
  rcases hXY with h|h
  ·left;have:=co X 0 (by rw [h];simp);omega
  ·right;have:=co Y 0 (by rw [h];simp);omega
 obtain⟨i0,hi,hz0,hz1,hz2⟩:=info_parts Tryz.infoU
 obtain⟨w1,hw1⟩:∃w1,w1=w.alloc (.cells #[.int .i64 H,.int .i64 T] 161):=⟨_,rfl⟩
 have hbel1:Below w.heap.size w w1:=by rw [hw1];exact (Below.refl _ _).alloc (Nat.le_refl _) _
 have hs1:w1.heap.size=w.heap.size+1:=by rw [hw1];simp
 have hb1:w1.heap[w.heap.size]?=some (.cells #[.int .i64 H,.int .i64 T] 161):=by rw [hw1];exact heap_alloc_new ..
 have hc0:w1.cell? ⟨w.heap.size,0,none⟩=some (.int .i64 H):=by simp [World.cell?,hb1]
 have hc1:w1.cell? ⟨w.heap.size,1,none⟩=some (.int .i64 T):=by simp [World.cell?,hb1]
 have B1:=ab hbel1
 have HW1:=ab hw1
 have A1:=(hA.below hbel1).trim
 have A2:=(hA2.below hbel1).trim
 have hT1:=hT.below hbel1
 have H1:=bU a1 c1 X w1 hcc1 hcm1 (hl1.below hbel1)
 have H2:=bU a2 c2 Y w1 hcc2 hcm2 (hl2.below hbel1)
 clear hA hA2 hT hl1 hl2 hXY hw1 hbel1
 generalize tr X=P at *
 generalize tr Y=Q at *
 obtain⟨N,hN1,hN2,eN⟩:∃N:Nat,N≤P.length+Q.length∧P.length+Q.length≤N∧(P.length:Int)+(Q.length:Int)=(N:Int):=⟨P.length+Q.length,by omega,by omega,by omega⟩
 go_enter Tryz.func139,Tryz.ntmps139
 go_wp2_with fail
 rw [←HW1.out]
 refine H1.mono ?_
 rintro e w2 ⟨rfl,hw⟩;subst hw
 go_wp2_with fail
 refine H2.mono ?_
 rintro e w3 ⟨rfl,hw⟩;subst hw
 clear H1 H2
 go_wp2_with (at_make;refine wpList_make_full _ rfl _ _ 39 rfl w3.heap.size 51 i0 (.int .u64 0) 1 Tryz.underlying39 hi hz0 hz1 .i64 .i64 _ _ N rfl rfl (by omega) (by omega) (by rw [hz2];omega) (by unfold maxLen;omega) (Nat.le_refl _) ?_;intro w4 hown hgrow)
 have hb4:=Blk.made hown
 rw [hs1] at hb4
 have hbel4:Below w3.heap.size w3 w4:=(Below.refl _ _).grown hgrow (Nat.le_refl _) (fun k hk=>by cases hk)
 have hs4:w3.heap.size<w4.heap.size:=by rw [hs1];exact hb4.lt
 clear hown hgrow hi hz0 hz1 hz2
 have B4:Hid (Below w.heap.size w w4):=B1.out.trans (hbel4.mono (by omega))
 replace A1:=A1.below hbel4
 replace A2:=A2.below hbel4
 replace hT1:=hT1.below hbel4
 have hc04:w4.cell? ⟨w.heap.size,0,none⟩=some (.int .i64 H):=by rw [hbel4.cell (p:=⟨w.heap.size,0,none⟩) (by show w.heap.size<_;omega)];exact hc0
 have hc14:w4.cell? ⟨w.heap.size,1,none⟩=some (.int .i64 T):=by rw [hbel4.cell (p:=⟨w.heap.size,1,none⟩) (by show w.heap.size<_;omega)];exact hc1
 clear hc0 hc1 hb1 B1 HW1 hbel4
 refine (fx _ _ _ A1 hT1).mono ?_
 rintro e w5 ⟨⟨t,ht,rfl⟩,hw⟩;subst hw
 have li:=fF P
 generalize bf P=i at *
 obtain⟨ti,eti⟩:∃ti:Nat,ti=i*64+t:=⟨_,rfl⟩
 have eI:(ti:Int) / 64=(i:Int):=by omega
 have fP:=A1.few
 have fQ:=A2.few
 have hti:ti≤9223372036854775807:=by omega
 rw [←eti]
 clear eti ht
 go_wp2_with fail
 refine (fx _ _ _ A2 hT1).mono ?_
 rintro e w6 ⟨⟨u,hu,rfl⟩,hw⟩;subst hw
 have lj:=fF Q
 generalize bf Q=j at *
 obtain⟨tj,etj⟩:∃tj:Nat,tj=j*64+u:=⟨_,rfl⟩
 have eJ:(tj:Int) / 64=(j:Int):=by omega
 have htj:tj≤9223372036854775807:=by omega
 rw [←etj]
 clear etj hu hT1 A1 A2
 obtain⟨g,hg⟩:∃g,g=w.heap.size+1:=⟨_,rfl⟩
 obtain⟨s,eS,hSa,hSb⟩:∃s:Nat,(i:Int)+(j:Int)=(s:Int)∧s≤i+j∧i+j≤s:=⟨i+j,by omega,by omega,by omega⟩
 obtain⟨M,hM1,hM2⟩:∃M:Nat,s+M≤N∧N≤s+M:=⟨N - s,by omega,by omega⟩
 have eM:N - s=M:=by omega
 obtain⟨zh,ezh,hzh⟩:∃zh:Nat,(if N=s then (some ⟨g,0,none⟩:Option Addr) else some ⟨g,s,none⟩)=some ⟨g,zh,none⟩∧(zh=s∨(zh=0∧M=0)):=by
  by_cases hc:N=s
  ·exact⟨0,by rw [if_pos hc],.inr ⟨rfl,by omega⟩⟩
  ·exact⟨s,by rw [if_neg hc],.inl rfl⟩
 have HIN:=fun (b1:Option Addr) (k1:Nat) (b2:Option Addr) (k2:Nat)=>mw H T hH hTT g zh M M (List.replicate N 0) b1 (P.length - i) k1 b2 (Q.length - j) k2 w6.drew (by rw [hg];exact hb4) (limbs_replicate _) (by omega) (by omega) (by omega) (by simp;omega)
 have wS:IntKind.i64.wrap (s:Int)=(s:Int):=by rw [IntKind.wrap_i64];omega
 have k1:(0:Int)≤(s:Int):=by omega
 have k2:(s:Int)≤(N:Int):=by omega
 have k3:(0:Int)≤(i:Int):=by omega
 have k4:(i:Int)≤(P.length:Int):=by omega
 have k5:(0:Int)≤(j:Int):=by omega
 have k6:(j:Int)≤(Q.length:Int):=by omega
 have k7:(i:Int)≤(c1:Int):=by omega
 have k8:(j:Int)≤(c2:Int):=by omega
 rw [←hg]
 have HG:=ab hg
 have HZH:=ab hzh
 clear hg hzh
 unfold way at HIN
 have HK:=ab (fun (w7:World) (hF:Fr g w6.drew w7)=>(⟨by rw [World.cell?_of_block (w:=w6.drew) (hF.block w.heap.size (by show _<w6.heap.size;have:=HG.out;omega) (by have:=HG.out;omega))];exact hc04,by rw [World.cell?_of_block (w:=w6.drew) (hF.block w.heap.size (by show _<w6.heap.size;have:=HG.out;omega) (by have:=HG.out;omega))];exact hc14⟩:w7.cell? ⟨w.heap.size,0,none⟩=some (.int .i64 H)∧w7.cell? ⟨w.heap.size,1,none⟩=some (.int .i64 T)))
 by_cases hci:c1=i <;> by_cases hcj:c2=j
 all_goals
  go_wp2
  go_region_held3 (fun w'=>w'.cell? ⟨w.heap.size,0,none⟩=some (.int .i64 H)∧w'.cell? ⟨w.heap.size,1,none⟩=some (.int .i64 T)) (go_keep) (first | (go_at_call 144;refine (HIN _ _ _ _).mono ?_;rintro e w7 ⟨rfl,Z',hO,hlz,hB7,hF7,hv7⟩;obtain⟨hk0,hk1⟩:=HK.out w7 hF7;have HD:=ab (And.intro hO (And.intro hlz (And.intro hB7 (And.intro hF7 hv7))));clear hO hlz hB7 hF7 hv7))
  obtain⟨hO,hlz,hB7,hF7,hv7⟩:=HD.out
  have hlZ:Z'.length=N:=by rw [hO.len];simp
  have hvz:val Z'=0:=by
   rcases HZH.out with h|⟨h,h'⟩
   ·rw [h] at hO hv7;exact kg Z' N s M hM1 hM2 hO hv7
   ·rw [h,h'] at hO
    exact kg Z' N s M hM1 hM2 ⟨hO.len,fun k _=>hO.same k (by omega)⟩ (by rw [h',bE])
  have hans:=(Ans.of_blk (base:=w.heap.size) (zs:=Z') (by have:=HG.out;omega) hB7 List.take_length.symm (Nat.le_refl _) (by omega) hlz).trim
  have HT2:=bU (some ⟨g,0,none⟩) N Z' w7 (by omega) (by omega) (.inr ⟨g,0,rfl,fun k hk=>by rw [Nat.zero_add];exact hB7.cell k hk⟩)
  rw [hlZ] at HT2 hans
  have hlt:=tr_length_le Z'
  have HR:Hid (dJ w 0 (X.length+Y.length) (.returned (.slice (some ⟨g,0,none⟩) (tr Z').length N)) w7):=
   ab ⟨⟨_,tr Z',rfl,hans,by rw [val_tr,hvz],tr_tr _,by omega⟩,B4.out.trans ((Fr.trans (Fr.refl g w6).drew hF7).below (by have:=HG.out;omega) B4.out.size)⟩
  clear hO hlz hB7 hF7 hv7 HD HIN HK hans hvz hb4 B4 HG
  generalize (tr Z').length=n' at *
  go_wp2_with fail
  refine HT2.mono ?_
  rintro e w8 ⟨rfl,hw⟩;subst hw
  clear HT2
  go_wp2
  go_ret
  exact HR.out

theorem o7 (v:Value)(base:Nat)(xs:List Nat)(w:World)(h:Ans w base v xs)(hf:xs.length≤1125899906842624) :
  Calls Tryz.prog 138 #[v] w fun e w'=>w'=w∧Res w base e (val xs):=by
 have ha:=h.arg hf
 obtain⟨ao,cap,rfl,hcap,hmax,hlies⟩:=ha.form
 have hle:=tr_length_le xs
 have H1:=bU _ cap xs w hcap hmax hlies
 have H2:=cO _ _ _ ha
 have HA:Hid (Ans w base (.slice ao (tr xs).length cap) (tr xs)):=h.trim
 have HT:Hid (tr (tr xs)=tr xs∧val (tr xs)=val xs):=⟨tr_tr xs,val_tr xs⟩
 unfold Res
 generalize tr xs=T at *
 generalize val xs=V at *
 generalize blen V=y at *
 clear hlies h ha
 by_cases hy:y≤67108864
 ·go_enter Tryz.func138,Tryz.ntmps138
  go_wp2_with fail
  refine H2.mono ?_
  rintro e w' ⟨rfl,rfl⟩
  go_wp2_with fail
  refine H1.mono ?_
  rintro e w' ⟨rfl,rfl⟩
  go_wp2
  go_ret2
  exact⟨rfl,_,_,T,rfl,HA.out,.inl ⟨rfl,HT.out.2,HT.out.1,hy⟩⟩
 ·go_enter Tryz.func138,Tryz.ntmps138
  go_wp2_with fail
  refine H2.mono ?_
  rintro e w' ⟨rfl,rfl⟩
  go_wp2
  go_ret2
  exact⟨rfl,_,_,[],rfl,Ans.nil _ _,.inr ⟨rfl,rfl,by omega⟩⟩

theorem kH (x:Nat)(h:x≠0):2 ^ (blen x - 1)≤x:=by
 refine Nat.le_of_not_lt fun hlt=>?_
 have h1:=(blen_le_iff x (blen x - 1)).2 hlt
 have h2:blen x≠0:=by unfold blen;rw [if_neg h];omega
 omega

theorem mc (x y:Nat):ca x y≤blen (x*y):=by
 unfold ca
 split
 ·omega
 ·rename_i h
  have hx:x≠0:=fun e=>h (.inl e)
  have hy:y≠0:=fun e=>h (.inr e)
  have bx:blen x≠0:=by unfold blen;rw [if_neg hx];omega
  have by':blen y≠0:=by unfold blen;rw [if_neg hy];omega
  refine Nat.le_of_not_lt fun hlt=>?_
  have h1:blen (x*y)≤(blen x - 1)+(blen y - 1):=by omega
  rw [blen_le_iff,Nat.pow_add] at h1
  have:=Nat.mul_le_mul (kH x hx) (kH y hy)
  omega

theorem oW (w:World):Calls Tryz.prog 124 #[] w fun e w'=>e=.returned (way 40 200)∧Below w.heap.size w w':=by
 go_enter Tryz.func124,Tryz.ntmps124
 go_wp2
 go_returns
 exact⟨rfl,(Below.refl _ _).alloc (Nat.le_refl _) _⟩

theorem oP (H T:Int)(hH:2≤H)(hTT:3≤T)(va vb:Value)(X Y:List Nat)(w:World)(hA:Arg w va X)(hA2:Arg w vb Y)(hT:Tab w)(hf:X.length+Y.length≤35184372088831)(hl:(tr X).length+(tr Y).length≤4398046511103∨val X=0∨val Y=0) :
  Calls Tryz.prog 139 #[way H T,va,vb] w (dJ w (val X*val Y) (X.length+Y.length)):=by
 by_cases hz:val X=0∨val Y=0
 ·rw [show val X*val Y=0 by rcases hz with h|h <;> rw [h] <;> simp]
  exact mS H T (by omega) (by omega) va vb X Y w hA hA2 hT hz hf
 ·refine pI H T va vb X Y w hA hA2 hT (fun e=>hz (.inl e)) (fun e=>hz (.inr e)) hf ?_
  exact sx H T hH hTT 4398046511103 _ _ (by rw [List.length_drop,List.length_drop];rcases hl with h|h;omega;exact absurd h hz) (Nat.le_refl _)

theorem oz (X Y:List Nat)(h:ca (val X) (val Y)≤67108864):(tr X).length+(tr Y).length≤4398046511103∨val X=0∨val Y=0:=by
 by_cases hz:val X=0∨val Y=0
 ·exact .inr hz
 ·left
  unfold ca at h
  rw [if_neg hz] at h
  have hx:blen (val X)≠0:=by unfold blen;rw [if_neg (fun e=>hz (.inl e))];omega
  have hy:blen (val Y)≠0:=by unfold blen;rw [if_neg (fun e=>hz (.inr e))];omega
  have h1:=few_limbs X 1048576 (by omega)
  have h2:=few_limbs Y 1048576 (by omega)
  omega

theorem mN (H T:Int)(hH:2≤H)(hTT:3≤T)(va vb:Value)(X Y:List Nat)(w:World)(hA:Arg w va X)(hA2:Arg w vb Y)(hT:Tab w)(hf:X.length+Y.length≤35184372088831) :
  Calls Tryz.prog 125 #[way H T,va,vb] w fun e w'=>Below w.heap.size w w'∧Res w' w.heap.size e (val X*val Y):=by
 obtain⟨w1,hw1⟩:∃w1,w1=w.alloc (.cells #[.int .i64 H,.int .i64 T] 161):=⟨_,rfl⟩
 have hbel1:Below w.heap.size w w1:=by rw [hw1];exact (Below.refl _ _).alloc (Nat.le_refl _) _
 have hb1:w1.heap[w.heap.size]?=some (.cells #[.int .i64 H,.int .i64 T] 161):=by rw [hw1];exact heap_alloc_new ..
 have hc0:w1.cell? ⟨w.heap.size,0,none⟩=some (.int .i64 H):=by simp [World.cell?,hb1]
 have hc1:w1.cell? ⟨w.heap.size,1,none⟩=some (.int .i64 T):=by simp [World.cell?,hb1]
 have H1:=o8 va vb X Y w1 (hA.below hbel1) (hA2.below hbel1) (by omega) (by omega)
 have hle:=mc (val X) (val Y)
 by_cases hbig:ca (val X) (val Y)≤67108864
 ·have H2:=oP H T hH hTT va vb X Y w1 (hA.below hbel1) (hA2.below hbel1) (hT.below hbel1) hf (oz X Y hbig)
  have B1:=ab hbel1
  have HW1:=ab hw1
  clear hA hA2 hT hw1 hbel1 hb1
  unfold way at *
  generalize val X*val Y=p at *
  generalize ca (val X) (val Y)=l at *
  go_enter Tryz.func125,Tryz.ntmps125
  go_wp2_with fail
  rw [←HW1.out]
  refine H1.mono ?_
  rintro e w2 ⟨rfl,hw⟩;subst hw
  clear H1 HW1
  go_wp2_with fail
  refine H2.mono ?_
  rintro e w3 ⟨⟨v,rs,rfl,hans,hv,ht,hl⟩,hb⟩
  have HR:=o7 v w.heap.size rs w3 (hans.base B1.out.size) (by omega)
  rw [hv] at HR
  have B3:Hid (Below w.heap.size w w3):=B1.out.trans (hb.mono B1.out.size)
  clear H2 hans hv ht hb hc0 hc1
  go_wp2_with fail
  refine HR.mono ?_
  rintro e w4 ⟨hw,hres⟩;subst hw
  unfold Res at hres
  obtain⟨v,c,rs,rfl,hres⟩:=hres
  have HX:=ab hres
  clear hres HR
  go_wp2
  go_ret2
  exact⟨B3.out,v,c,rs,rfl,HX.out⟩
 ·have HP:Hid (67108864<blen (val X*val Y)):=ab (by omega)
  have B1:=ab hbel1
  have HW1:=ab hw1
  clear hle hA hA2 hT hw1 hbel1 hb1
  unfold way at *
  generalize val X*val Y=p at *
  generalize ca (val X) (val Y)=l at *
  go_enter Tryz.func125,Tryz.ntmps125
  go_wp2_with fail
  rw [←HW1.out]
  refine H1.mono ?_
  rintro e w2 ⟨rfl,hw⟩;subst hw
  clear H1 HW1
  go_wp2
  go_ret2
  exact⟨B1.out,_,_,[],rfl,Ans.nil _ _,.inr ⟨rfl,rfl,HP.out⟩⟩

theorem pL (va vb:Value)(X Y:List Nat)(w:World)(hA:Arg w va X)(hA2:Arg w vb Y)(hT:Tab w)(hf:X.length+Y.length≤35184372088831) :
  Calls Tryz.prog 109 #[va,vb] w fun e w'=>Below w.heap.size w w'∧Res w' w.heap.size e (val X*val Y):=by
 have HQ:=oW w
 go_enter Tryz.func109,Tryz.ntmps109
 go_wp2_with fail
 refine HQ.mono ?_
 rintro e w1 ⟨rfl,hb⟩
 have B1:=ab hb
 have HP:=mN 40 200 (by omega) (by omega) va vb X Y w1 (hA.below hb) (hA2.below hb) (hT.below hb) hf
 generalize way 40 200=W at *
 clear hb HQ hA hA2 hT
 go_wp2_with fail
 refine HP.mono ?_
 rintro e w2 ⟨hb,v,c,rs,rfl,hans,hres⟩
 have HR:=ab (And.intro (B1.out.trans (hb.mono B1.out.size)) (And.intro (hans.base B1.out.size) hres))
 clear hb hans hres HP
 go_wp2
 go_ret2
 exact⟨HR.out.1,v,c,rs,rfl,HR.out.2.1,HR.out.2.2⟩
end Go.Proofs.YtkfbobefkbpdoaaGreatDoor
namespace Go.Proofs.YtkfbobefkbpdoaaGreatDoor
open Go.RowKit
open Lm
attribute [local go_sem ↓] Go.wp_at_zero Go.wp_at_succ

theorem qI (b:Bool)(v:Value)(X:List Nat)(t:Bool)(u:Value)(Y:List Nat)(w:World)(hA:Arg w v X)(hB:Arg w u Y)(hT:Tab w)(hf:X.length≤17592186043904)(hg:Y.length≤17592186043904) :
  Calls Tryz.prog 91 #[.agg #[.bool b,v],.agg #[.bool t,u]] w fun e w'=>ep w' w.heap.size e (zz b (val X)*zz t (val Y))∧Below w.heap.size w w':=by
 obtain⟨a,n,rfl,_,_,_⟩:=hA.form
 obtain⟨a9,n9,rfl,_,_,_⟩:=hB.form
 obtain⟨w0,hw0,hb0,h0,h1,hx0⟩:=aM w (.cells #[.bool b,.slice a X.length n] 41) (.cells #[.bool t,.slice a9 Y.length n9] 41) (.cells #[.bool false,.slice none 0 0] 41)
 obtain⟨k0,k1⟩:=duo h0
 obtain⟨k2,k3⟩:=duo h1
 have HB0:=ab hb0
 have HX0:=ab hx0
 have HK0:=ab h0
 have HK1:=ab h1
 have HM:=pL _ _ X Y w0 (hA.below hb0) (hB.below hb0) (hT.below hb0) (by omega)
 rw [jW]
 obtain⟨sg,hsg,hsg2⟩:∃sg,(b != t)=sg∧(!(b == t))=sg:=⟨_,rfl,rfl⟩
 rw [hsg]
 clear hA hB hb0 h0 h1 hx0 hT
 go_enter Tryz.func91,Tryz.ntmps91
 go_wp2_with fail
 refine HM.mono ?_
 rintro e w1 ⟨hb1,v1,c0,rs,rfl,ha,hres⟩
 have hans:=pu sg v1 rs c0 (val X*val Y) _ w1 ha hres
 obtain⟨a1,n1,rfl⟩:=ha.shape
 obtain⟨k0',k1'⟩:=duo (ac hb1 HK0.out)
 obtain⟨k2',k3'⟩:=duo (ac hb1 HK1.out)
 have HW1:=ab hb1
 clear ha hres hb1 HM k0 k1 k2 k3
 go_wp2_with fail
 refine hans.mono ?_
 rintro e w2 ⟨⟨b1,a1,n1,k1,c1,rfl,hzr⟩,hb2⟩
 have HZR:=ab (hzr.base HB0.out.size)
 have HW:=ab (HW1.out.trans (hb2.mono HW1.out.size))
 clear hzr hb2 hans hw0 k0' k1' k2' k3'
 have hbx:=ac HW.out HX0.out
 have hf1:=aB hbx
 obtain⟨l0,l1⟩:=duo hbx
 have HBX:=ab hbx
 have HBE:=ab (HB0.out.trans (HW.out.mono HB0.out.size))
 clear hbx
 go_wp2
 have R5:=aP HBX.out (a':=.bool b1) (b':=.slice a1 n1 k1)
 have HD:=ab (And.intro (HZR.out.duo (u0:=.bool b1) (u1:=.slice a1 n1 k1) HBX.out) (aO HBE.out (g:=w.heap.size+2) (u0:=.bool b1) (u1:=.slice a1 n1 k1) (by omega)))
 generalize (w2.setCell ⟨w.heap.size+2,0,none⟩ (.bool b1)).setCell ⟨w.heap.size+2,1,none⟩ (.slice a1 n1 k1)=w5 at *
 obtain⟨q0,q1⟩:=duo R5
 refine bodyPost_ret (v:=.tuple #[.agg #[.bool b1,.slice a1 n1 k1],.int .i64 c1]) (by simp [results,Tryz.results91,go_sem,q0,q1]) rfl ?_
 exact⟨⟨_,_,_,_,_,rfl,HD.out.1⟩,HD.out.2⟩

theorem cK {W0 W:World}(h:Below W0.heap.size W0 W)(o:Obj):Below W0.heap.size W0 (W.alloc o):=h.alloc h.size _
theorem jJ {W0 W:World}(h:Below W0.heap.size W0 W):Below W0.heap.size W0 W.drew:=h.drew
theorem dK {W t:World}{o:Obj}(h:Below (W.alloc o).heap.size (W.alloc o) t):t.heap[W.heap.size]?=some o:=ac h (heap_alloc_new W o)
theorem kz {W t:World}{o:Obj}(h:Below (W.alloc o).drew.heap.size (W.alloc o).drew t):t.heap[W.heap.size]?=some o:=ac h (heap_alloc_new W o)
theorem up8 {W t:World}{g:Nat}{x:Obj}(h:Below W.heap.size W t)(hx:W.heap[g]?=some x):t.heap[g]?=some x:=ac h hx

def gL (u:World)(z:Int)(s t:Value)(wx:World):Prop:=
 ∃(g:Nat) (b:Bool) (a:Option Addr) (n k:Nat) (c:Int),s=.pointer (some ⟨g,0,none⟩)∧t=.int .i64 c∧wx.heap[g]?=some (.cells #[.bool b,.slice a n k] 41)∧ZR wx u.heap.size b (.slice a n k) c z∧Below u.heap.size u wx

theorem o9 {u tn:World}{z c:Int}{b:Bool}{a:Option Addr}{n k:Nat}(y:ZR tn u.heap.size b (.slice a n k) c z)(gn:Below u.heap.size u tn) :
  gL u z (.pointer (some ⟨tn.heap.size,0,none⟩)) (.int .i64 c) (tn.alloc (.cells #[.bool b,.slice a n k] 41)):=
 ⟨_,b,a,n,k,c,rfl,rfl,heap_alloc_new _ _,y.below (bI _ _),cK gn _⟩

theorem rn {u tn:World}{z c:Int}{g:Nat}{b:Bool}{a:Option Addr}{n k:Nat}(hq:tn.heap[g]?=some (.cells #[.bool false,.slice none 0 0] 41))(y:ZR tn u.heap.size b (.slice a n k) c z)(gn:Below u.heap.size u tn)(hg:u.heap.size≤g) :
  gL u z (.pointer (some ⟨g,0,none⟩)) (.int .i64 c) ((tn.setCell ⟨g,0,none⟩ (.bool b)).setCell ⟨g,1,none⟩ (.slice a n k)):=
 ⟨_,b,a,n,k,c,rfl,rfl,aP hq,y.duo hq,aO gn hg⟩

theorem nu {M1 E1 M2 E2:Int}(h1:Nr8 M1 E1)(h2:Nr8 M2 E2):omz (M1*M2)=M1*M2:=by
 rcases h1 with ⟨rfl,_⟩|h1
 ·rw [Int.zero_mul,bC]
 ·rcases h2 with ⟨rfl,_⟩|h2
  ·rw [Int.mul_zero,bC]
  ·refine (fJ ?_ 0).1
   rw [Int.natAbs_mul,Nat.mul_mod,h1,h2]

theorem nI {w:World}{b:Bool}{v:Value}{X:List Nat}{ex:Int}(hA:Arg w v X)(hf:X.length≤17592186043904)(hE:ah ex=true):-1099511627776≤oe (zz b (val X)) ex:=by
 have hbz:blen (zz b (val X)).natAbs≤64*X.length:=by rw [aV];exact bO hA.limbs
 have hEr:=(aH ex).1 hE
 have hOE:=dv (zz b (val X)) ex (by omega)
 omega

theorem pQ (b1:Bool)(a1:Option Addr)(c1:Nat)(X:List Nat)(M1 E1:Int)(b2:Bool)(a2:Option Addr)(c2:Nat)(Y:List Nat)(M2 E2:Int)(w:World)(hT:Tab w)(h1:Nm w b1 (.slice a1 X.length c1) X M1)(h2:Nm w b2 (.slice a2 Y.length c2) Y M2)(n1:Nr8 M1 E1)(n2:Nr8 M2 E2)(f1:X.length≤17592186043904)(f2:Y.length≤17592186043904)(he1:-1152921504606846975≤E1)(he2:E2≤1152921504606846976)(he3:-1152921504606846976≤E2)(he4:E1≤1152921504606846976) :
  Calls Tryz.prog 71 #[.agg #[.bool b1,.slice a1 X.length c1,.int .i64 E1],.agg #[.bool b2,.slice a2 Y.length c2,.int .i64 E2]] w (fm w (omz (M1*M2)) (oe (M1*M2) (E1+E2))):=by
 obtain⟨w0,hw0,hb0,k0,k1,k2⟩:=aM w (.cells #[.bool b1,.slice a1 X.length c1,.int .i64 E1] 125) (.cells #[.bool b2,.slice a2 Y.length c2,.int .i64 E2] 125) (.cells #[.bool false,.slice none 0 0,.int .i64 0] 125)
 have HK0:=ab k0
 have HK1:=ab k1
 have HK2:=ab k2
 have HB:=ab hb0
 have HMM:=ab (nu n1 n2)
 have wE:IntKind.i64.wrap (E1+E2)=E1+E2:=by rw [IntKind.wrap_i64];omega
 have IN1:=ab (fun (W:World)=>gB b1 a1 X.length c1 W)
 have IN2:=ab (fun (W:World)=>gB b2 a2 Y.length c2 W)
 have WM:=ab (fun (W:World) (hg:Below w.heap.size w W)=>qI b1 (.slice a1 X.length c1) X b2 (.slice a2 Y.length c2) Y W (h1.arg.below hg) (h2.arg.below hg) (hT.below hg) f1 f2)
 rw [h1.val,h2.val] at WM
 have KS:=ab (fun (W:World) (hg:Below w0.heap.size w0 W)=>show W.cell? ⟨w.heap.size,0,none⟩=some (.bool b1)∧W.cell? ⟨w.heap.size,1,none⟩=some (.slice a1 X.length c1)∧W.cell? ⟨w.heap.size+1,0,none⟩=some (.bool b2)∧W.cell? ⟨w.heap.size+1,1,none⟩=some (.slice a2 Y.length c2) from by
  obtain⟨y0,y1,y2⟩:=tri8 (ac hg HK0.out)
  obtain⟨y3,y4,y5⟩:=tri8 (ac hg HK1.out)
  exact⟨y0,y1,y3,y4⟩)
 clear k0 k1 k2 hb0 h1 h2 n1 n2 hT
 generalize M1*M2=Z at *
 go_enter Tryz.func71,Tryz.ntmps71
 go_upto_region 1 with fail
 go_cut [6,7] from 8 to 18 (fun s t wx=>gL w0 Z s t wx)
 case first=>
  have g0:Below w0.heap.size w0 w0.drew:=(Below.refl _ _).drew
  go_region_held3 (fun w'=>w'.cell? ⟨w.heap.size,0,none⟩=some (.bool b1)∧w'.cell? ⟨w.heap.size,1,none⟩=some (.slice a1 X.length c1)∧w'.cell? ⟨w.heap.size+1,0,none⟩=some (.bool b2)∧w'.cell? ⟨w.heap.size+1,1,none⟩=some (.slice a2 Y.length c2)) (first
   | with_reducible exact KS.out _ g3|with_reducible exact KS.out _ (cK g3 _) | with_reducible exact KS.out _ (aO g3 gz)
   | with_reducible exact KS.out _ g2|with_reducible exact KS.out _ (cK g2 _)
   | with_reducible exact KS.out _ g1|with_reducible exact KS.out _ (cK g1 _)
   | with_reducible exact KS.out _ g0|with_reducible exact KS.out _ (jJ (cK (Below.refl _ _) _))) (first
   | (go_at_call_of 92 a1;refine (IN1.out _).mono ?_;rintro e' t1 ⟨rfl,hb1⟩;have g1:Below w0.heap.size w0 t1:=ae (by first|with_reducible exact g0|with_reducible exact jJ (cK (Below.refl _ _) _)) hb1;(first | (with_reducible have hq1:=kz hb1) | (with_reducible have hq1:=dK hb1) | skip))
   | (go_at_call_of 92 a2;refine (IN2.out _).mono ?_;rintro e' t2 ⟨rfl,hb2⟩;have s2:Below t1.heap.size t1 t2:=ae (by first|with_reducible exact Below.refl _ _|with_reducible exact bI _ _) hb2;have g2:=ae g1 s2;(first | (with_reducible have hq2:=dK hb2) | (with_reducible have hq2:=up8 hb2 hq1) | skip))
   | (go_at_call 91;refine (WM.out _ (ae HB.out (by first|with_reducible exact g2|with_reducible exact cK g2 _))).mono ?_;rintro e' t3 ⟨⟨b3,a3,n3,k3,c3,rfl,y3⟩,hb3⟩;have s3:Below t2.heap.size t2 t3:=ae (by first|with_reducible exact Below.refl _ _|with_reducible exact bI _ _) hb3;have g3:=ae g2 s3;have yz:=y3.base (by first|with_reducible exact g2.size|with_reducible exact (cK g2 _).size);(first | (with_reducible have hq3:=dK hb3;have gz:=g2.size) | (with_reducible have hq3:=up8 hb3 hq2;(first | (with_reducible have hx:=dK hb2;have gz:=g1.size) | (with_reducible have hx:=kz hb1;have gz:=Nat.le_refl w0.heap.size) | (with_reducible have hx:=dK hb1;have gz:=g0.size))) | skip);(first | (obtain⟨c0,c1⟩:=duo hq3;have cf:=aB hq3) | skip)))
  all_goals (go_wp2_with fail;go_meet;first
   | with_reducible exact o9 yz g3
   | with_reducible exact rn hq3 yz g3 gz)
 case rest=>
  obtain⟨g,bp,ap,np,kp,cp,rfl,rfl,hp,yp,hbx⟩:=hcut
  have gd:Below w.heap.size w wc.drew:=(ae HB.out hbx).drew
  have g0:Below wc.drew.heap.size wc.drew wc.drew:=Below.refl _ _
  obtain⟨rs,Ap,hcase⟩:=yp
  have hnp:np=rs.length:=by obtain⟨aa,cc,ee⟩:=Ap.shape;cases ee;rfl
  have hrl:rs.length≤1048576:=by
   rcases hcase with ⟨_,_,q3,q4,q5⟩|⟨_,_,_,q4,_⟩
   ·exact bu q4 q3 (by omega)
   ·rw [q4];simp
  have htr:tr rs=rs:=by
   rcases hcase with ⟨_,_,_,q4,_⟩|⟨_,_,_,q4,_⟩
   ·exact q4
   ·rw [q4];rfl
  have Apd:Ans wc.drew w0.heap.size (.slice ap np kp) rs:=Ap.below (Below.refl _ _).drew
  have HPO:Calls Tryz.prog 75 #[.agg #[.bool bp,.slice ap np kp]] wc.drew fun e w'=>e=.returned (.agg #[.bool bp,.slice ap np kp])∧Below wc.drew.heap.size wc.drew w':=by
   have h:=iv bp ap kp rs wc.drew (by rw [←hnp];exact Apd.arg (by omega))
   rw [htr,←hnp] at h
   exact h
  have HC2:=ab (show wc.drew.heap[w.heap.size+1+1]?=some (.cells #[.bool false,.slice none 0 0,.int .i64 0] 125) from ac hbx.drew HK2.out)
  have KS2:=ab (fun (W:World) (hg:Below wc.drew.heap.size wc.drew W)=>show W.cell? ⟨g,0,none⟩=some (.bool bp)∧W.cell? ⟨g,1,none⟩=some (.slice ap np kp)∧W.cell? ⟨w.heap.size,2,none⟩=some (.int .i64 E1)∧W.cell? ⟨w.heap.size+1,2,none⟩=some (.int .i64 E2) from by
   obtain⟨y0,y1⟩:=duo (ac hg (show wc.drew.heap[g]?=some (.cells #[.bool bp,.slice ap np kp] 41) from hp))
   obtain⟨_,_,y2⟩:=tri8 (ac hg (show wc.drew.heap[w.heap.size]?=some (.cells #[.bool b1,.slice a1 X.length c1,.int .i64 E1] 125) from ac hbx.drew HK0.out))
   obtain⟨_,_,y5⟩:=tri8 (ac hg (show wc.drew.heap[w.heap.size+1]?=some (.cells #[.bool b2,.slice a2 Y.length c2,.int .i64 E2] 125) from ac hbx.drew HK1.out))
   exact⟨y0,y1,y2,y5⟩)
  have hgne:w.heap.size+1+1≠g:=by
   rintro rfl
   have h9:=ac hbx HK2.out
   have h10:=hp
   rw [show w.heap.size+1+1=w.heap.size+2 from rfl] at h10
   rw [h9] at h10
   simp at h10
  have so:∀(W:World) (k:Nat) (u:Value) (k':Nat),(W.setCell ⟨w.heap.size+1+1,k,none⟩ u).cell? ⟨w.heap.size,k',none⟩=W.cell? ⟨w.heap.size,k',none⟩:=fun W k u k'=>aZ (by omega)
  have so2:∀(W:World) (k:Nat) (u:Value) (k':Nat),(W.setCell ⟨w.heap.size+1+1,k,none⟩ u).cell? ⟨w.heap.size+1,k',none⟩=W.cell? ⟨w.heap.size+1,k',none⟩:=fun W k u k'=>aZ (by omega)
  have so3:∀(W:World) (k:Nat) (u:Value) (k':Nat),(W.setCell ⟨w.heap.size+1+1,k,none⟩ u).cell? ⟨g,k',none⟩=W.cell? ⟨g,k',none⟩:=fun W k u k'=>aZ hgne
  have HZR:=ab (And.intro Apd (And.intro hcase (And.intro hnp (And.intro htr hrl))))
  have HGD:=ab gd
  have HW0S:=ab HB.out.size
  obtain⟨y0,y1,y2,y3⟩:=KS2.out _ g0
  clear hp hbx Ap Apd hcase hnp htr hrl gd hgne KS IN1 IN2 WM
  go_wp2
  go_region_held3 (fun w'=>w'.cell? ⟨g,0,none⟩=some (.bool bp)∧w'.cell? ⟨g,1,none⟩=some (.slice ap np kp)∧w'.cell? ⟨w.heap.size,2,none⟩=some (.int .i64 E1)∧w'.cell? ⟨w.heap.size+1,2,none⟩=some (.int .i64 E2)) (first|with_reducible exact KS2.out _ g1|with_reducible exact KS2.out _ g0 | (refine⟨?_,?_,?_,?_⟩ <;> (first|rw [so3,so3,so3] | rw [so,so,so] | rw [so2,so2,so2]) <;> first|exact (KS2.out _ g1).1|exact (KS2.out _ g1).2.1|exact (KS2.out _ g1).2.2.1|exact (KS2.out _ g1).2.2.2)) (first
   | (go_at_call 75;refine HPO.mono ?_;rintro e' t6 ⟨rfl,g1⟩;have hz:=ac g1 HC2.out;have hf:=ak hz;obtain⟨m0,m1,m2⟩:=tri8 hz))
  have T3:=ay hz (.bool bp) (.slice ap np kp) (.int .i64 (E1+E2))
  have T4:=an (ae HGD.out g1) (show w.heap.size≤w.heap.size+1+1 by omega) (.bool bp) (.slice ap np kp) (.int .i64 (E1+E2))
  have T5:=(HZR.out.1.below g1).tri8 hz (by decide) (.bool bp) (.slice ap np kp) (.int .i64 (E1+E2))
  obtain⟨p0,p1,p2⟩:=tri8 T3
  have HE:=ab (And.intro T5 T4)
  clear T3 T4 T5 so so2 so3 m0 m1 m2 hf KS2 g0 g1 HPO hz
  generalize ((t6.setCell ⟨w.heap.size+1+1,0,none⟩ (.bool bp)).setCell ⟨w.heap.size+1+1,1,none⟩ (.slice ap np kp)).setCell ⟨w.heap.size+1+1,2,none⟩ (.int .i64 (E1+E2))=w5 at *
  go_wp2
  refine bodyPost_ret (v:=.tuple #[.agg #[.bool bp,.slice ap np kp,.int .i64 (E1+E2)],.int .i64 cp]) (by simp [results,Tryz.results71,go_sem,p0,p1,p2]) rfl ?_
  obtain⟨_,hcase,hnp,htr,hrl⟩:=HZR.out
  refine⟨⟨_,_,_,_,_,_,rfl,?_⟩,HE.out.2⟩
  rcases hcase with ⟨q1,q2,q3,q4,q5⟩|⟨q1,q2,q3,q4,q5⟩
  ·exact .inl ⟨q1,rs,Z,hnp,⟨HE.out.1.arg (by omega),htr,by rw [q3,q2,cL]⟩,rfl,rfl,by omega,by omega,by omega⟩
  ·exact .inr ⟨q1,by rw [HMM.out];exact q5⟩

theorem nU {F pos:Int}(h:bq F pos=0):F=0∧ah pos=true:=by
 unfold bq at h
 split at h
 ·split at h
  ·exact⟨by assumption,by assumption⟩
  ·omega
 ·exact absurd h (by assumption)

theorem qX {f g:Int}(h:wst f g=0):f=0∧g=0:=by
 unfold wst at h
 split at h
 ·exact⟨by assumption,h⟩
 ·exact absurd h (by assumption)

theorem dh.below {w w':World}{b1:Bool}{a1:Option Addr}{n1 k1:Nat}{ex1:Int}{b2:Bool}{a2:Option Addr}{n2 k2:Nat}{ex2:Int}{b3:Bool}{a3:Option Addr}{n3 k3:Nat}{ex3:Int}{b4:Bool}{a4:Option Addr}{n4 k4:Nat}{ex4 pos F:Int}(h:dh w b1 a1 n1 k1 ex1 b2 a2 n2 k2 ex2 b3 a3 n3 k3 ex3 b4 a4 n4 k4 ex4 pos F)(hb:Below w.heap.size w w'):dh w' b1 a1 n1 k1 ex1 b2 a2 n2 k2 ex2 b3 a3 n3 k3 ex3 b4 a4 n4 k4 ex4 pos F:=
 fun W gs hg hc=>h W gs (ae hb hg) hc

theorem fq (b1:Bool)(a1:Option Addr)(k1:Nat)(X:List Nat)(ex1:Int)(b2:Bool)(a2:Option Addr)(k2:Nat)(Y:List Nat)(ex2:Int)(w:World)(hT:Tab w)(hA:Arg w (.slice a1 X.length k1) X)(hB:Arg w (.slice a2 Y.length k2) Y)(hf:X.length≤17592186043904)(hg:Y.length≤17592186043904)(hE1:ah ex1=true)(hE2:ah ex2=true) :
  Calls Tryz.prog 44 #[.agg #[.bool b1,.slice a1 X.length k1,.int .i64 ex1],.agg #[.bool b2,.slice a2 Y.length k2,.int .i64 ex2]] w fun e w'=>aT w' w.heap.size e (omz (omz (zz b1 (val X))*omz (zz b2 (val Y)))) (oe (omz (zz b1 (val X))*omz (zz b2 (val Y))) (oe (zz b1 (val X)) ex1+oe (zz b2 (val Y)) ex2))∧Below w.heap.size w w':=by
 have F1:=cr (b:=b1) (ex:=ex1) hA hf hE1
 have F2:=cr (b:=b2) (ex:=ex2) hB hg hE2
 have G1:=nI (b:=b1) (ex:=ex1) hA hf hE1
 exact oH b1 a1 _ k1 ex1 b2 a2 _ k2 ex2 _ _ w (fun W hg'=>sn b1 a1 k1 X ex1 b2 a2 k2 Y ex2 _ _ W (hT.below hg') (hA.below hg') (hB.below hg') hf hg hE1 hE2 (fun W2 b3 a3 c3 X3 b4 a4 c4 X4 t3 m3 m4 l3 l4=>pQ b3 a3 c3 X3 _ _ b4 a4 c4 X4 _ _ W2 t3 m3 m4 F1.2.2.2 F2.2.2.2 l3 l4 (by omega) F2.2.2.1 F2.2.1 F1.2.2.1))

theorem cA.ans {w w':World}{e:Ending}{M1 E1 M2 E2:Int}{L:Nat}{V1 V2:Int}(h:cA w e w' M1 E1 M2 E2)(r1:Rp L M1 E1 V1)(n1:Nr8 M1 E1)(r2:Rp L M2 E2 V2)(n2:Nr8 M2 E2):bM w e w' 0 L V1 V2:=by
 obtain⟨⟨p1,x1,y1,z1,q1,p2,x2,y2,z2,q2,cc,he,hs⟩,hb⟩:=h
 exact⟨⟨p1,x1,y1,z1,q1,p2,x2,y2,z2,q2,cc,he,.inr ⟨rfl,_,_,_,_,hs,r1,n1,r2,n2⟩⟩,hb⟩

theorem cq.ans {w w':World}{e:Ending}{F:Int}(h:cq w F e w')(h0:F≠0)(L:Nat)(V1 V2:Int):bM w e w' F L V1 V2:=
 ⟨⟨_,_,_,_,_,_,_,_,_,_,_,h.1,.inl ⟨h0,rfl,rfl,rfl,rfl,rfl,rfl,rfl⟩⟩,h.2⟩

theorem mM (b1:Bool)(a1:Option Addr)(n1 k1:Nat)(ex1:Int)(b2:Bool)(a2:Option Addr)(n2 k2:Nat)(ex2:Int)(pos:Int)(K:Nat)(VA VB:Int)(w:World)(hT:Tab w)(h1:N8 w b1 a1 n1 k1 ex1 K VA)(h2:N8 w b2 a2 n2 k2 ex2 K VB)(hK:ah pos=true)(hL:4611686018427387904≤K) :
  Calls Tryz.prog 43 #[.agg #[.bool b1,.slice a1 n1 k1,.int .i64 ex1,.bool b2,.slice a2 n2 k2,.int .i64 ex2],.int .i64 0,.int .i64 pos] w fun e w'=>bM w e w' 0 K (rv 0 VA (2 ^ (pos+K).toNat)) (rv 1 VB (2 ^ (pos+K).toNat)):=by
 obtain⟨X,rfl,hA,f1,hE1,rfl⟩:=h1
 obtain⟨Y,rfl,hB,f2,hE2,rfl⟩:=h2
 have r1:=(aH ex1).1 hE1
 have r2:=(aH ex2).1 hE2
 have hp:=(aH pos).1 hK
 refine (oS b1 a1 _ k1 ex1 b2 a2 _ k2 ex2 pos _ _ _ _ w (fun W hg=>qY b1 a1 _ k1 ex1 b2 a2 _ k2 ex2 pos _ _ _ _ W (fun Z hz=>?_) (fun Z hz=>?_))).mono fun e w' h=>h.ans (dl (pos:=pos) (m:=0) (Rp.make K (zz b1 (val X)) ex1 (by omega)).norm (ba _ _) (by omega) (.inl rfl)).norm (ba _ _) (dl (pos:=pos) (m:=1) (Rp.make K (zz b2 (val Y)) ex2 (by omega)).norm (ba _ _) (by omega) (.inr (.inl rfl))).norm (ba _ _)
 ·have hg':=ae hg hz
  exact ib b1 a1 k1 X ex1 pos 0 Z (hA.below hg') (hT.below hg') (by omega) hE1 hK (by decide)
 ·have hg':=ae hg hz
  exact ib b2 a2 k2 Y ex2 pos 1 Z (hB.below hg') (hT.below hg') (by omega) hE2 hK (by decide)

theorem dE (b1:Bool)(a1:Option Addr)(k1:Nat)(X:List Nat)(ex1:Int)(b2:Bool)(a2:Option Addr)(k2:Nat)(Y:List Nat)(ex2:Int)(b3:Bool)(a3:Option Addr)(k3:Nat)(Z:List Nat)(ex3:Int)(b4:Bool)(a4:Option Addr)(k4:Nat)(U:List Nat)(ex4:Int)(pos:Int)(L:Nat)(F m:Int)  (w:World)(hT:Tab w)(h1:Arg w (.slice a1 X.length k1) X)(f1:X.length≤17592186043904)(h2:Arg w (.slice a2 Y.length k2) Y)(f2:Y.length≤17592186043904)(h3:Arg w (.slice a3 Z.length k3) Z)(f3:Z.length≤17592186043904)(h4:Arg w (.slice a4 U.length k4) U)(f4:U.length≤17592186043904)(hL:4611686018427387904≤L)(hF:bq (wst (flt ex1 ex2 (vof b1 X ex1 L) (vof b2 Y ex2 L)) (flt ex3 ex4 (vof b3 Z ex3 L) (vof b4 U ex4 L))) pos=F)(hm:F=0→∃c1 c2 c3 c4,aj (L+L) ((vof b1 X ex1 L)*(vof b3 Z ex3 L)) c1∧aj (L+L) ((vof b1 X ex1 L)*(vof b4 U ex4 L)) c2∧aj (L+L) ((vof b2 Y ex2 L)*(vof b3 Z ex3 L)) c3∧aj (L+L) ((vof b2 Y ex2 L)*(vof b4 U ex4 L)) c4∧aW c1 c2 c3 c4=m) :
  Calls Tryz.prog 9 #[.agg #[.bool b1,.slice a1 X.length k1,.int .i64 ex1,.bool b2,.slice a2 Y.length k2,.int .i64 ex2],.agg #[.bool b3,.slice a3 Z.length k3,.int .i64 ex3,.bool b4,.slice a4 U.length k4,.int .i64 ex4],.int .i64 pos] w fun e w'=>bM w e w' (if F=0 then m else F) (L+L) (rv 0 (min (min (min ((vof b1 X ex1 L)*(vof b3 Z ex3 L)) ((vof b1 X ex1 L)*(vof b4 U ex4 L))) ((vof b2 Y ex2 L)*(vof b3 Z ex3 L))) ((vof b2 Y ex2 L)*(vof b4 U ex4 L))) (2 ^ (pos+((L+L):Nat)).toNat)) (rv 1 (max (max (max ((vof b1 X ex1 L)*(vof b3 Z ex3 L)) ((vof b1 X ex1 L)*(vof b4 U ex4 L))) ((vof b2 Y ex2 L)*(vof b3 Z ex3 L))) ((vof b2 Y ex2 L)*(vof b4 U ex4 L))) (2 ^ (pos+((L+L):Nat)).toNat)):=by
 have hFl:=(ro b1 a1 k1 X ex1 b2 a2 k2 Y ex2 b3 a3 k3 Z ex3 b4 a4 k4 U ex4 L w h1 h2 h3 h4 f1 f2 f3 f4 hL).at pos
 rw [hF] at hFl
 by_cases h0:F=0
 ·rw [if_pos h0]
  subst h0
  obtain⟨hw,hK⟩:=nU hF
  obtain⟨hw1,hw2⟩:=qX hw
  obtain⟨hE1,hE2,_⟩:=dB hw1
  obtain⟨hE3,hE4,_⟩:=dB hw2
  have q1:=(aH ex1).1 hE1
  have q2:=(aH ex2).1 hE2
  have q3:=(aH ex3).1 hE3
  have q4:=(aH ex4).1 hE4
  have p1:=(Rp.make L (zz b1 (val X)) ex1 (by omega)).norm
  have p2:=(Rp.make L (zz b2 (val Y)) ex2 (by omega)).norm
  have p3:=(Rp.make L (zz b3 (val Z)) ex3 (by omega)).norm
  have p4:=(Rp.make L (zz b4 (val U)) ex4 (by omega)).norm
  obtain⟨c1,c2,c3,c4,kc1,kc2,kc3,kc4,hmm⟩:=hm rfl
  have u1:=(p1.mul p3).norm
  have e1:=kc1.one ⟨_,_,u1,ba _ _,rfl⟩
  have u2:=(p1.mul p4).norm
  have e2:=kc2.one ⟨_,_,u2,ba _ _,rfl⟩
  have u3:=(p2.mul p3).norm
  have e3:=kc3.one ⟨_,_,u3,ba _ _,rfl⟩
  have u4:=(p2.mul p4).norm
  have e4:=kc4.one ⟨_,_,u4,ba _ _,rfl⟩
  have hwk:∀W,Below w.heap.size w W→Calls Tryz.prog 24 #[.agg #[.bool b1,.slice a1 X.length k1,.int .i64 ex1,.bool b2,.slice a2 Y.length k2,.int .i64 ex2],.agg #[.bool b3,.slice a3 Z.length k3,.int .i64 ex3,.bool b4,.slice a4 U.length k4,.int .i64 ex4]] W fun e w'=>jA W e w' m (L+L) (min (min (min ((vof b1 X ex1 L)*(vof b3 Z ex3 L)) ((vof b1 X ex1 L)*(vof b4 U ex4 L))) ((vof b2 Y ex2 L)*(vof b3 Z ex3 L))) ((vof b2 Y ex2 L)*(vof b4 U ex4 L))) (max (max (max ((vof b1 X ex1 L)*(vof b3 Z ex3 L)) ((vof b1 X ex1 L)*(vof b4 U ex4 L))) ((vof b2 Y ex2 L)*(vof b3 Z ex3 L))) ((vof b2 Y ex2 L)*(vof b4 U ex4 L))):=by
   intro W hg
   rw [←hmm,e1,e2,e3,e4]
   refine oO b1 a1 _ k1 ex1 b2 a2 _ k2 ex2 b3 a3 _ k3 ex3 b4 a4 _ k4 ex4 _ _ _ _ _ _ _ _ (L+L) _ _ _ _ W (by omega) (fun W2 h2'=>?_) (fun W2 h2'=>?_) (fun W2 h2'=>?_) (fun W2 h2'=>?_) u1 u2 u3 u4
   ·have hg':=ae hg h2'
    exact fq b1 a1 k1 X ex1 b3 a3 k3 Z ex3 W2 (hT.below hg') (h1.below hg') (h3.below hg') f1 f3 hE1 hE3
   ·have hg':=ae hg h2'
    exact fq b1 a1 k1 X ex1 b4 a4 k4 U ex4 W2 (hT.below hg') (h1.below hg') (h4.below hg') f1 f4 hE1 hE4
   ·have hg':=ae hg h2'
    exact fq b2 a2 k2 Y ex2 b3 a3 k3 Z ex3 W2 (hT.below hg') (h2.below hg') (h3.below hg') f2 f3 hE2 hE3
   ·have hg':=ae hg h2'
    exact fq b2 a2 k2 Y ex2 b4 a4 k4 U ex4 W2 (hT.below hg') (h2.below hg') (h4.below hg') f2 f4 hE2 hE4
  by_cases hm0:m=0
  ·subst hm0
   refine sP b1 a1 _ k1 ex1 b2 a2 _ k2 ex2 b3 a3 _ k3 ex3 b4 a4 _ k4 ex4 pos (L+L) _ _ w (fun W hg=>pd b1 a1 _ k1 ex1 b2 a2 _ k2 ex2 b3 a3 _ k3 ex3 b4 a4 _ k4 ex4 pos (L+L) (min (min (min ((vof b1 X ex1 L)*(vof b3 Z ex3 L)) ((vof b1 X ex1 L)*(vof b4 U ex4 L))) ((vof b2 Y ex2 L)*(vof b3 Z ex3 L))) ((vof b2 Y ex2 L)*(vof b4 U ex4 L))) (max (max (max ((vof b1 X ex1 L)*(vof b3 Z ex3 L)) ((vof b1 X ex1 L)*(vof b4 U ex4 L))) ((vof b2 Y ex2 L)*(vof b3 Z ex3 L))) ((vof b2 Y ex2 L)*(vof b4 U ex4 L))) _ _ W (hFl.below hg) (fun W2 h2'=>(hwk W2 (ae hg h2')).mono fun e w' h=>?_) (fun W2 b1 a1 n1 k1 ex1 b2 a2 n2 k2 ex2 h2' g1 g2=>mM b1 a1 n1 k1 ex1 b2 a2 n2 k2 ex2 pos (L+L) _ _ W2 (hT.below (ae hg h2')) g1 g2 hK (by omega)))
   obtain⟨⟨p1,x1,y1,z1,q1,p2,x2,y2,z2,q2,he,hn⟩,hb⟩:=h
   exact⟨⟨p1,x1,y1,z1,q1,p2,x2,y2,z2,q2,he,(hn rfl).1,(hn rfl).2⟩,hb⟩
  ·refine (jz b1 a1 _ k1 ex1 b2 a2 _ k2 ex2 b3 a3 _ k3 ex3 b4 a4 _ k4 ex4 pos m w (fun W hg=>lO b1 a1 _ k1 ex1 b2 a2 _ k2 ex2 b3 a3 _ k3 ex3 b4 a4 _ k4 ex4 pos m W (hFl.below hg) hm0 (fun W2 h2'=>(hwk W2 (ae hg h2')).mono fun e w' h=>?_))).mono fun e w' h=>h.ans hm0 _ _ _
   obtain⟨⟨p1,x1,y1,z1,q1,p2,x2,y2,z2,q2,he,hn⟩,hb⟩:=h
   exact⟨⟨p1,x1,y1,z1,q1,p2,x2,y2,z2,q2,he⟩,hb⟩
 ·rw [if_neg h0]
  exact (jz b1 a1 _ k1 ex1 b2 a2 _ k2 ex2 b3 a3 _ k3 ex3 b4 a4 _ k4 ex4 pos F w (fun W hg=>p6 b1 a1 _ k1 ex1 b2 a2 _ k2 ex2 b3 a3 _ k3 ex3 b4 a4 _ k4 ex4 pos F W (hFl.below hg) h0)).mono fun e w' h=>h.ans h0 _ _ _

theorem nN {y z:Int}:0≤am y z ↔ z≤y:=by
 unfold am
 split
 ·omega
 ·split <;> omega

theorem V8.tri10 {w:World}{b:Bool}{a:Option Addr}{n c:Nat}{E:Int}{L:Nat}{V:Int}(h:V8 w b a n c E L V){g:Nat}{p:Bool}{a':Option Addr}{n' c':Nat}{e:Int}{t:TypeId}(hl:w.heap[g]?=some (.cells #[.bool p,.slice a' n' c',.int .i64 e] t))(p1:Bool)(a1:Option Addr)(n1 c1:Nat)(u2:Value):V8 (((w.setCell ⟨g,0,none⟩ (.bool p1)).setCell ⟨g,1,none⟩ (.slice a1 n1 c1)).setCell ⟨g,2,none⟩ u2) b a n c E L V:=by
 obtain⟨M,h1,h2⟩:=h
 exact⟨M,h1.tri8 hl p1 a1 n1 c1 u2,h2⟩

def kd (w:World)(e:Ending)(w':World)(L:Nat)(V1 V2:Int):Prop:=
 (∃b a n k x b' a' n' k' x',e=.returned (.agg #[.bool b,.slice a n k,.int .i64 x,.bool b',.slice a' n' k',.int .i64 x'])∧V8 w' b a n k x L V1∧V8 w' b' a' n' k' x' L V2)∧Below w.heap.size w w'

theorem pi (b1:Bool)(a1:Option Addr)(n1 k1:Nat)(ex1:Int)(b2:Bool)(a2:Option Addr)(n2 k2:Nat)(ex2:Int)(L:Nat)(V1 V2:Int)(w:World)(h1:V8 w b1 a1 n1 k1 ex1 L V1)(h2:V8 w b2 a2 n2 k2 ex2 L V2) :
  Calls Tryz.prog 28 #[.agg #[.bool b1,.slice a1 n1 k1,.int .i64 ex1],.agg #[.bool b2,.slice a2 n2 k2,.int .i64 ex2]] w fun e w'=>(∃b a n k x,e=.returned (.agg #[.bool b,.slice a n k,.int .i64 x])∧V8 w' b a n k x L (min V1 V2))∧Below w.heap.size w w':=by
 obtain⟨w0,hw0,hb0,q0,q1,q9⟩:=aM w (.cells #[.bool b1,.slice a1 n1 k1,.int .i64 ex1] 31) (.cells #[.bool b2,.slice a2 n2 k2,.int .i64 ex2] 31) (.cells #[.bool false,.slice none 0 0,.int .i64 0] 31)
 obtain⟨y0,y1,y2⟩:=tri8 q0
 obtain⟨y3,y4,y5⟩:=tri8 q1
 have C:=(h1.below hb0).cmp (h2.below hb0)
 have HV:=ab (And.intro (h1.below hb0) (h2.below hb0))
 have HCC:Hid (decide (am V1 V2≤0)=decide (V1≤V2)):=ab (by simp only [rM])
 generalize hcz:am V1 V2=cz at *
 have HB:=ab hb0
 have HQ0:=ab q0
 have HQ1:=ab q1
 have HQ9:Hid (w0.heap[w.heap.size+1+1]?=some (.cells #[.bool false,.slice none 0 0,.int .i64 0] 31)):=ab q9
 clear h1 h2 hb0 q0 q1 q9
 by_cases hp:V1≤V2
 ·skip
  have hm:min V1 V2=V1:=by omega
  rw [hm]
  have i1:decide (cz≤0)=true:=by rw [HCC.out];exact decide_eq_true hp
  clear hm hp hcz
  go_enter Tryz.func28,Tryz.ntmps28
  go_wp2_with fail
  refine C.mono ?_
  rintro e t1 ⟨rfl,g1⟩
  have HG:=ab (ae HB.out g1)
  have HC1:=ab (ac g1 HQ9.out)
  have HV1:=ab (HV.out.1.below g1)
  have hf1:=ak HC1.out
  obtain⟨m0,m1,m2⟩:=tri8 HC1.out
  clear y0 y1 y2 y3 y4 y5
  obtain⟨y0,y1,y2⟩:=tri8 (ac g1 HQ0.out)
  obtain⟨y3,y4,y5⟩:=tri8 (ac g1 HQ1.out)
  clear g1 C
  go_wp2
  have T3:=ay HC1.out (.bool b1) (.slice a1 n1 k1) (.int .i64 ex1)
  have T4:=an HG.out (show w.heap.size≤w.heap.size+1+1 by omega) (.bool b1) (.slice a1 n1 k1) (.int .i64 ex1)
  have T5:=HV1.out.tri10 HC1.out b1 a1 n1 k1 (.int .i64 ex1)
  obtain⟨p0,p1,p2⟩:=tri8 T3
  have HE:=ab (And.intro T5 T4)
  clear T3 T4 T5
  generalize ((t1.setCell ⟨w.heap.size+1+1,0,none⟩ (.bool b1)).setCell ⟨w.heap.size+1+1,1,none⟩ (.slice a1 n1 k1)).setCell ⟨w.heap.size+1+1,2,none⟩ (.int .i64 ex1)=w5 at *
  refine bodyPost_ret (v:=.agg #[.bool b1,.slice a1 n1 k1,.int .i64 ex1]) (by simp [results,Tryz.results28,go_sem,p0,p1,p2]) rfl ?_
  exact⟨⟨_,_,_,_,_,rfl,HE.out.1⟩,HE.out.2⟩
 ·skip
  have hm:min V1 V2=V2:=by omega
  rw [hm]
  have i1:decide (cz≤0)=false:=by rw [HCC.out];exact decide_eq_false hp
  clear hm hp hcz
  go_enter Tryz.func28,Tryz.ntmps28
  go_wp2_with fail
  refine C.mono ?_
  rintro e t1 ⟨rfl,g1⟩
  have HG:=ab (ae HB.out g1)
  have HC1:=ab (ac g1 HQ9.out)
  have HV2:=ab (HV.out.2.below g1)
  have hf1:=ak HC1.out
  obtain⟨m0,m1,m2⟩:=tri8 HC1.out
  clear y0 y1 y2 y3 y4 y5
  obtain⟨y0,y1,y2⟩:=tri8 (ac g1 HQ0.out)
  obtain⟨y3,y4,y5⟩:=tri8 (ac g1 HQ1.out)
  clear g1 C
  go_wp2
  have T3:=ay HC1.out (.bool b2) (.slice a2 n2 k2) (.int .i64 ex2)
  have T4:=an HG.out (show w.heap.size≤w.heap.size+1+1 by omega) (.bool b2) (.slice a2 n2 k2) (.int .i64 ex2)
  have T5:=HV2.out.tri10 HC1.out b2 a2 n2 k2 (.int .i64 ex2)
  obtain⟨p0,p1,p2⟩:=tri8 T3
  have HE:=ab (And.intro T5 T4)
  clear T3 T4 T5
  generalize ((t1.setCell ⟨w.heap.size+1+1,0,none⟩ (.bool b2)).setCell ⟨w.heap.size+1+1,1,none⟩ (.slice a2 n2 k2)).setCell ⟨w.heap.size+1+1,2,none⟩ (.int .i64 ex2)=w5 at *
  refine bodyPost_ret (v:=.agg #[.bool b2,.slice a2 n2 k2,.int .i64 ex2]) (by simp [results,Tryz.results28,go_sem,p0,p1,p2]) rfl ?_
  exact⟨⟨_,_,_,_,_,rfl,HE.out.1⟩,HE.out.2⟩

theorem rK (b1:Bool)(a1:Option Addr)(n1 k1:Nat)(ex1:Int)(b2:Bool)(a2:Option Addr)(n2 k2:Nat)(ex2:Int)(L:Nat)(V1 V2:Int)(w:World)(h1:V8 w b1 a1 n1 k1 ex1 L V1)(h2:V8 w b2 a2 n2 k2 ex2 L V2) :
  Calls Tryz.prog 29 #[.agg #[.bool b1,.slice a1 n1 k1,.int .i64 ex1],.agg #[.bool b2,.slice a2 n2 k2,.int .i64 ex2]] w fun e w'=>(∃b a n k x,e=.returned (.agg #[.bool b,.slice a n k,.int .i64 x])∧V8 w' b a n k x L (max V1 V2))∧Below w.heap.size w w':=by
 obtain⟨w0,hw0,hb0,q0,q1,q9⟩:=aM w (.cells #[.bool b1,.slice a1 n1 k1,.int .i64 ex1] 31) (.cells #[.bool b2,.slice a2 n2 k2,.int .i64 ex2] 31) (.cells #[.bool false,.slice none 0 0,.int .i64 0] 31)
 obtain⟨y0,y1,y2⟩:=tri8 q0
 obtain⟨y3,y4,y5⟩:=tri8 q1
 have C:=(h1.below hb0).cmp (h2.below hb0)
 have HV:=ab (And.intro (h1.below hb0) (h2.below hb0))
 have HCC:Hid (decide (0≤am V1 V2)=decide (V2≤V1)):=ab (by simp only [nN])
 generalize hcz:am V1 V2=cz at *
 have HB:=ab hb0
 have HQ0:=ab q0
 have HQ1:=ab q1
 have HQ9:Hid (w0.heap[w.heap.size+1+1]?=some (.cells #[.bool false,.slice none 0 0,.int .i64 0] 31)):=ab q9
 clear h1 h2 hb0 q0 q1 q9
 by_cases hp:V2≤V1
 ·skip
  have hm:max V1 V2=V1:=by omega
  rw [hm]
  have i1:decide (0≤cz)=true:=by rw [HCC.out];exact decide_eq_true hp
  clear hm hp hcz
  go_enter Tryz.func29,Tryz.ntmps29
  go_wp2_with fail
  refine C.mono ?_
  rintro e t1 ⟨rfl,g1⟩
  have HG:=ab (ae HB.out g1)
  have HC1:=ab (ac g1 HQ9.out)
  have HV1:=ab (HV.out.1.below g1)
  have hf1:=ak HC1.out
  obtain⟨m0,m1,m2⟩:=tri8 HC1.out
  clear y0 y1 y2 y3 y4 y5
  obtain⟨y0,y1,y2⟩:=tri8 (ac g1 HQ0.out)
  obtain⟨y3,y4,y5⟩:=tri8 (ac g1 HQ1.out)
  clear g1 C
  go_wp2
  have T3:=ay HC1.out (.bool b1) (.slice a1 n1 k1) (.int .i64 ex1)
  have T4:=an HG.out (show w.heap.size≤w.heap.size+1+1 by omega) (.bool b1) (.slice a1 n1 k1) (.int .i64 ex1)
  have T5:=HV1.out.tri10 HC1.out b1 a1 n1 k1 (.int .i64 ex1)
  obtain⟨p0,p1,p2⟩:=tri8 T3
  have HE:=ab (And.intro T5 T4)
  clear T3 T4 T5
  generalize ((t1.setCell ⟨w.heap.size+1+1,0,none⟩ (.bool b1)).setCell ⟨w.heap.size+1+1,1,none⟩ (.slice a1 n1 k1)).setCell ⟨w.heap.size+1+1,2,none⟩ (.int .i64 ex1)=w5 at *
  refine bodyPost_ret (v:=.agg #[.bool b1,.slice a1 n1 k1,.int .i64 ex1]) (by simp [results,Tryz.results29,go_sem,p0,p1,p2]) rfl ?_
  exact⟨⟨_,_,_,_,_,rfl,HE.out.1⟩,HE.out.2⟩
 ·skip
  have hm:max V1 V2=V2:=by omega
  rw [hm]
  have i1:decide (0≤cz)=false:=by rw [HCC.out];exact decide_eq_false hp
  clear hm hp hcz
  go_enter Tryz.func29,Tryz.ntmps29
  go_wp2_with fail
  refine C.mono ?_
  rintro e t1 ⟨rfl,g1⟩
  have HG:=ab (ae HB.out g1)
  have HC1:=ab (ac g1 HQ9.out)
  have HV2:=ab (HV.out.2.below g1)
  have hf1:=ak HC1.out
  obtain⟨m0,m1,m2⟩:=tri8 HC1.out
  clear y0 y1 y2 y3 y4 y5
  obtain⟨y0,y1,y2⟩:=tri8 (ac g1 HQ0.out)
  obtain⟨y3,y4,y5⟩:=tri8 (ac g1 HQ1.out)
  clear g1 C
  go_wp2
  have T3:=ay HC1.out (.bool b2) (.slice a2 n2 k2) (.int .i64 ex2)
  have T4:=an HG.out (show w.heap.size≤w.heap.size+1+1 by omega) (.bool b2) (.slice a2 n2 k2) (.int .i64 ex2)
  have T5:=HV2.out.tri10 HC1.out b2 a2 n2 k2 (.int .i64 ex2)
  obtain⟨p0,p1,p2⟩:=tri8 T3
  have HE:=ab (And.intro T5 T4)
  clear T3 T4 T5
  generalize ((t1.setCell ⟨w.heap.size+1+1,0,none⟩ (.bool b2)).setCell ⟨w.heap.size+1+1,1,none⟩ (.slice a2 n2 k2)).setCell ⟨w.heap.size+1+1,2,none⟩ (.int .i64 ex2)=w5 at *
  refine bodyPost_ret (v:=.agg #[.bool b2,.slice a2 n2 k2,.int .i64 ex2]) (by simp [results,Tryz.results29,go_sem,p0,p1,p2]) rfl ?_
  exact⟨⟨_,_,_,_,_,rfl,HE.out.1⟩,HE.out.2⟩

theorem ny (b:Bool){x d:Nat}(hx:0<x)(hd:0<d):rq b x d 1≤x:=by
 unfold rq
 have h2:2 ^ 1≤2 ^ d:=Nat.pow_le_pow_right (by omega) hd
 rw [Nat.pow_one] at h2
 by_cases h1:x=1
 ·rw [h1,Nat.div_eq_of_lt (by omega)]
  split <;> omega
 ·have h3:x / 2 ^ d≤x / 2:=Nat.div_le_div_left h2 (by omega)
  split <;> omega

theorem ln {M E pos:Int}:blen (aN M E pos 1).natAbs≤blen M.natAbs:=by
 unfold aN
 by_cases h:M=0∨pos≤E
 ·rw [if_pos h];exact Nat.le_refl _
 ·rw [if_neg h,aV]
  exact blen_mono (ny _ (by omega) (by omega))

theorem mB {M E pos:Int}:blen (omz (aN M E pos 1)).natAbs≤blen M.natAbs:=by
 rw [ct]
 exact Nat.le_trans (blen_mono (cJ _)) ln

theorem nG (b:Bool)(a:Option Addr)(n c:Nat)(E pos:Int)(L:Nat)(V:Int)(w:World)(h:V8 w b a n c E L V)(hs:Sml L V)(hK:ah pos=true)(hL:4611686018427387904≤L) :
  Calls Tryz.prog 54 #[.agg #[.bool b,.slice a n c,.int .i64 E],.int .i64 pos,.int .i64 1] w fun e w'=>(∃b' a' n' c' E',e=.returned (.agg #[.bool b',.slice a' n' c',.int .i64 E'])∧V8 w' b' a' n' c' E' L (rv 1 V (2 ^ (pos+L).toNat)))∧Below w.heap.size w w':=by
 obtain⟨M,d,r,m,_,x,y⟩:=h
 have f:=hs.blen r m
 have hp:=(aH pos).1 hK
 have hR:=(dl (pos:=pos) (m:=1) r m (by omega) (.inr (.inl rfl))).norm
 have hsz:=mB (M:=M) (E:=E) (pos:=pos)
 have hsz2:=ln (M:=M) (E:=E) (pos:=pos)
 have hO:=dv (aN M E pos 1) (aL M E pos) (by omega)
 have hEE:aL M E pos=E∨aL M E pos=pos:=by
  unfold aL
  split
  ·exact .inl rfl
  ·exact .inr rfl
 have htl:=eB (aN M E pos 1).natAbs
 have hob:-1152921504606846976≤oe (aN M E pos 1) (aL M E pos)∧oe (aN M E pos 1) (aL M E pos)≤1152921504606846976:=by
  by_cases hc:M=0∨pos≤E
  ·have e1:aN M E pos 1=M:=by unfold aN;rw [if_pos hc]
   have e2:aL M E pos=E:=by unfold aL;rw [if_pos hc]
   rw [e1,e2,m.stay.2]
   exact⟨x,y⟩
  ·have e2:aL M E pos=pos:=by unfold aL;rw [if_neg hc]
   rw [e2]
   unfold oe
   split <;> omega
 refine (jM b a n c M E pos 1 w d m (by omega) x y (by omega) (by omega) (.inr (.inl rfl))).mono fun e w' h=>?_
 obtain⟨⟨b',a',n',c',he,hd⟩,hb⟩:=h
 exact⟨⟨b',a',n',c',_,he,_,hd,hR,ba _ _,by omega,hob.1,hob.2⟩,hb⟩

theorem pg (b1:Bool)(a1:Option Addr)(n1 k1:Nat)(ex1:Int)(b2:Bool)(a2:Option Addr)(n2 k2:Nat)(ex2:Int)(pos:Int)(K:Nat)(VA VB:Int)(w:World)(h1:V8 w b1 a1 n1 k1 ex1 K VA)(h2:V8 w b2 a2 n2 k2 ex2 K VB)(s1:Sml K VA)(s2:Sml K VB)(hK:ah pos=true)(hL:4611686018427387904≤K) :
  Calls Tryz.prog 31 #[.agg #[.bool b1,.slice a1 n1 k1,.int .i64 ex1],.agg #[.bool b2,.slice a2 n2 k2,.int .i64 ex2],.int .i64 pos] w fun e w'=>kd w e w' K (rv 0 VA (2 ^ (pos+K).toNat)) (rv 1 VB (2 ^ (pos+K).toNat)):=by
 obtain⟨w0,hw0,hb0,q0,q1,q9⟩:=aM w (.cells #[.bool b1,.slice a1 n1 k1,.int .i64 ex1] 31) (.cells #[.bool b2,.slice a2 n2 k2,.int .i64 ex2] 31) (.cells #[.bool false,.slice none 0 0,.int .i64 0,.bool false,.slice none 0 0,.int .i64 0] 33)
 have K1:=ab (fun (W:World) (hg:Below w0.heap.size w0 W)=>qw b1 a1 n1 k1 ex1 pos K VA W ((h1.below hb0).below hg) s1 hK hL)
 have K2:=ab (fun (W:World) (hg:Below w0.heap.size w0 W)=>nG b2 a2 n2 k2 ex2 pos K VB W ((h2.below hb0).below hg) s2 hK hL)
 have KS:=ab (fun (W:World) (hg:Below w0.heap.size w0 W)=>show W.cell? ⟨w.heap.size,0,none⟩=some (.bool b1)∧W.cell? ⟨w.heap.size,1,none⟩=some (.slice a1 n1 k1)∧W.cell? ⟨w.heap.size,2,none⟩=some (.int .i64 ex1)∧W.cell? ⟨w.heap.size+1,0,none⟩=some (.bool b2)∧W.cell? ⟨w.heap.size+1,1,none⟩=some (.slice a2 n2 k2)∧W.cell? ⟨w.heap.size+1,2,none⟩=some (.int .i64 ex2) from (by
  obtain⟨x0,x1,x2⟩:=tri8 (ac hg q0)
  obtain⟨x3,x4,x5⟩:=tri8 (ac hg q1)
  exact⟨x0,x1,x2,x3,x4,x5⟩))
 have KT:=ab (fun (W:World) (hg:Below w0.heap.size w0 W) (u0 u1 u2 u3 u4 u5:Value)=>show ((((((W.setCell ⟨w.heap.size+1+1,0,none⟩ u0).setCell ⟨w.heap.size+1+1,1,none⟩ u1).setCell ⟨w.heap.size+1+1,2,none⟩ u2).setCell ⟨w.heap.size+1+1,3,none⟩ u3).setCell ⟨w.heap.size+1+1,4,none⟩ u4).setCell ⟨w.heap.size+1+1,5,none⟩ u5).cell? ⟨w.heap.size,0,none⟩=some (.bool b1)∧((((((W.setCell ⟨w.heap.size+1+1,0,none⟩ u0).setCell ⟨w.heap.size+1+1,1,none⟩ u1).setCell ⟨w.heap.size+1+1,2,none⟩ u2).setCell ⟨w.heap.size+1+1,3,none⟩ u3).setCell ⟨w.heap.size+1+1,4,none⟩ u4).setCell ⟨w.heap.size+1+1,5,none⟩ u5).cell? ⟨w.heap.size,1,none⟩=some (.slice a1 n1 k1)∧((((((W.setCell ⟨w.heap.size+1+1,0,none⟩ u0).setCell ⟨w.heap.size+1+1,1,none⟩ u1).setCell ⟨w.heap.size+1+1,2,none⟩ u2).setCell ⟨w.heap.size+1+1,3,none⟩ u3).setCell ⟨w.heap.size+1+1,4,none⟩ u4).setCell ⟨w.heap.size+1+1,5,none⟩ u5).cell? ⟨w.heap.size,2,none⟩=some (.int .i64 ex1)∧((((((W.setCell ⟨w.heap.size+1+1,0,none⟩ u0).setCell ⟨w.heap.size+1+1,1,none⟩ u1).setCell ⟨w.heap.size+1+1,2,none⟩ u2).setCell ⟨w.heap.size+1+1,3,none⟩ u3).setCell ⟨w.heap.size+1+1,4,none⟩ u4).setCell ⟨w.heap.size+1+1,5,none⟩ u5).cell? ⟨w.heap.size+1,0,none⟩=some (.bool b2)∧((((((W.setCell ⟨w.heap.size+1+1,0,none⟩ u0).setCell ⟨w.heap.size+1+1,1,none⟩ u1).setCell ⟨w.heap.size+1+1,2,none⟩ u2).setCell ⟨w.heap.size+1+1,3,none⟩ u3).setCell ⟨w.heap.size+1+1,4,none⟩ u4).setCell ⟨w.heap.size+1+1,5,none⟩ u5).cell? ⟨w.heap.size+1,1,none⟩=some (.slice a2 n2 k2)∧((((((W.setCell ⟨w.heap.size+1+1,0,none⟩ u0).setCell ⟨w.heap.size+1+1,1,none⟩ u1).setCell ⟨w.heap.size+1+1,2,none⟩ u2).setCell ⟨w.heap.size+1+1,3,none⟩ u3).setCell ⟨w.heap.size+1+1,4,none⟩ u4).setCell ⟨w.heap.size+1+1,5,none⟩ u5).cell? ⟨w.heap.size+1,2,none⟩=some (.int .i64 ex2) from (by
  obtain⟨x0,x1,x2⟩:=tri8 ((dt (g:=w.heap.size+1+1) (h:=w.heap.size) (by omega) u0 u1 u2 u3 u4 u5).trans (ac hg q0))
  obtain⟨x3,x4,x5⟩:=tri8 ((dt (g:=w.heap.size+1+1) (h:=w.heap.size+1) (by omega) u0 u1 u2 u3 u4 u5).trans (ac hg q1))
  exact⟨x0,x1,x2,x3,x4,x5⟩))
 have HZ:Hid (w0.drew.heap[w.heap.size+1+1]?=some (.cells #[.bool false,.slice none 0 0,.int .i64 0,.bool false,.slice none 0 0,.int .i64 0] 33)):=ab q9
 have HB:=ab hb0
 have g0:Below w0.heap.size w0 w0.drew:=be (Below.refl _ _)
 generalize rv 0 VA (2 ^ (pos+K).toNat)=M1 at *
 generalize rv 1 VB (2 ^ (pos+K).toNat)=M2 at *
 clear h1 h2 q0 q1 q9 hb0 s1 s2
 go_enter Tryz.func31,Tryz.ntmps31
 go_upto_region 1 with fail
 go_region_held3 (fun w'=>w'.cell? ⟨w.heap.size,0,none⟩=some (.bool b1)∧w'.cell? ⟨w.heap.size,1,none⟩=some (.slice a1 n1 k1)∧w'.cell? ⟨w.heap.size,2,none⟩=some (.int .i64 ex1)∧w'.cell? ⟨w.heap.size+1,0,none⟩=some (.bool b2)∧w'.cell? ⟨w.heap.size+1,1,none⟩=some (.slice a2 n2 k2)∧w'.cell? ⟨w.heap.size+1,2,none⟩=some (.int .i64 ex2)) (first | (with_reducible exact KT.out _ g2 _ _ _ _ _ _) | (refine KS.out _ ?_;first|with_reducible exact g2|with_reducible exact g1|with_reducible exact g0)) (first
  | (go_at_call_of 54 a2;refine (K2.out _ g1).mono ?_;rintro e' t2 ⟨⟨q,qa,qn,qk,qe,rfl,v6⟩,hb2⟩;have g2:=ae g1 hb2;have v5':=v5.below hb2;have hz:=ac hb2 (ac hb1 HZ.out);have hf:=av hz;obtain⟨m0,m1,m2,m3,m4,m5⟩:=hexa hz)
  | (go_at_call_of 54 a1;refine (K1.out _ g0).mono ?_;rintro e' t1 ⟨⟨p,pa,pn,pk,pe,rfl,v5⟩,hb1⟩;have g1:=ae g0 hb1))
 have T3:=aJ hz (.bool p) (.slice pa pn pk) (.int .i64 pe) (.bool q) (.slice qa qn qk) (.int .i64 qe)
 have T4:=aF (ae HB.out g2) (show w.heap.size≤w.heap.size+1+1 by omega) (.bool p) (.slice pa pn pk) (.int .i64 pe) (.bool q) (.slice qa qn qk) (.int .i64 qe)
 have T5:=v5'.hexa hz p pa pn pk pe q qa qn qk qe
 have T6:=v6.hexa hz p pa pn pk pe q qa qn qk qe
 obtain⟨p0,p1,p2,p3,p4,p5⟩:=hexa T3
 have HE:=ab (And.intro T5 (And.intro T6 T4))
 clear T3 T4 T5 T6 hz hf m0 m1 m2 m3 m4 m5 KS KT K1 K2 g0 g1 g2 hb1 hb2 v5 v6 v5' HZ
 generalize (((((t2.setCell ⟨w.heap.size+1+1,0,none⟩ (.bool p)).setCell ⟨w.heap.size+1+1,1,none⟩ (.slice pa pn pk)).setCell ⟨w.heap.size+1+1,2,none⟩ (.int .i64 pe)).setCell ⟨w.heap.size+1+1,3,none⟩ (.bool q)).setCell ⟨w.heap.size+1+1,4,none⟩ (.slice qa qn qk)).setCell ⟨w.heap.size+1+1,5,none⟩ (.int .i64 qe)=w5 at *
 go_wp2
 refine bodyPost_ret (v:=.agg #[.bool p,.slice pa pn pk,.int .i64 pe,.bool q,.slice qa qn qk,.int .i64 qe]) (by simp [results,Tryz.results31,go_sem,p0,p1,p2,p3,p4,p5]) rfl ?_
 exact⟨⟨_,_,_,_,_,_,_,_,_,_,rfl,HE.out.1,HE.out.2.1⟩,HE.out.2.2⟩

def ei (w:World)(e:Ending)(w':World)(c:Int)(L:Nat)(V1 V2:Int):Prop:=
 (∃b a n k x b' a' n' k' x',e=.returned (.tuple #[.agg #[.bool b,.slice a n k,.int .i64 x,.bool b',.slice a' n' k',.int .i64 x'],.int .i64 c])∧(c=0→V8 w' b a n k x L V1∧V8 w' b' a' n' k' x' L V2))∧Below w.heap.size w w'

theorem sr (b1:Bool)(a1:Option Addr)(n1 k1:Nat)(ex1:Int)(b2:Bool)(a2:Option Addr)(n2 k2:Nat)(ex2:Int)(L:Nat)(V1 V2 d1 d2:Int)(w:World)(h1:V8 w b1 a1 n1 k1 ex1 L V1)(h2:V8 w b2 a2 n2 k2 ex2 L V2)(c1:aj L V1 d1)(c2:aj L V2 d2) :
  Calls Tryz.prog 30 #[.agg #[.bool b1,.slice a1 n1 k1,.int .i64 ex1,.bool b2,.slice a2 n2 k2,.int .i64 ex2]] w fun e w'=>ei w e w' (aE d1 d2) L V1 V2:=by
 obtain⟨M1,g1,r1,m1,_⟩:=id h1
 obtain⟨M2,g2,r2,m2,_⟩:=id h2
 rw [c1.one ⟨_,_,r1,m1,rfl⟩,c2.one ⟨_,_,r2,m2,rfl⟩]
 refine (ji b1 a1 n1 k1 M1 ex1 b2 a2 n2 k2 M2 ex2 w g1 g2).mono fun e w' h=>?_
 obtain⟨⟨p,a,n,k,x,p',a',n',k',x',he,h⟩,hb⟩:=h
 refine⟨⟨p,a,n,k,x,p',a',n',k',x',he,fun h0=>?_⟩,hb⟩
 obtain⟨rfl,rfl,rfl,rfl,rfl,rfl,rfl,rfl,rfl,rfl⟩:=h h0
 exact⟨h1.below hb,h2.below hb⟩

theorem lT (b:Bool)(a:Option Addr)(n k:Nat)(ex:Int)(b':Bool)(a':Option Addr)(n' k':Nat)(ex' r:Int)(b1:Bool)(a1:Option Addr)(n1 k1:Nat)(E1:Int)(b2:Bool)(a2:Option Addr)(n2 k2:Nat)(E2:Int)(L:Nat)(V1 V2 d1 d2:Int)(base:Nat)(w:World)(hS:SRV w base b (.slice a n k) ex b' (.slice a' n' k') ex' r 0 L V1 V2)(c1:aj L V1 d1)(c2:aj L V2 d2)(hv:aE d1 d2=0→V8 w b1 a1 n1 k1 E1 L V1∧V8 w b2 a2 n2 k2 E2 L V2) :
  Calls Tryz.prog 12 #[.agg #[.bool b,.slice a n k,.int .i64 ex,.bool b',.slice a' n' k',.int .i64 ex'],.int .i64 r,.agg #[.bool b1,.slice a1 n1 k1,.int .i64 E1,.bool b2,.slice a2 n2 k2,.int .i64 E2],.int .i64 (aE d1 d2)] w fun e w'=>e=.returned (.bool true)∧Below w.heap.size w w':=by
 have hc:=hS.codes c1 c2
 by_cases h0:aE d1 d2=0
 ·rw [h0]
  exact cW b a n k ex b' a' n' k' ex' r 0 b1 a1 n1 k1 E1 b2 a2 n2 k2 E2 L V1 V2 base w hS (fun _=>(hv h0).1) (fun _=>(hv h0).2)
 ·rcases hS with ⟨g0,_⟩|⟨_,M1,X1,M2,X2,hs,_⟩
  ·exact absurd rfl g0
  ·obtain⟨rfl,g1,rfl,rfl,g2,rfl⟩:=hs.2.2 (by rw [hc];exact h0)
   cases g1
   cases g2
   rw [hc]
   exact iS _ b1 a1 n1 k1 E1 b2 a2 n2 k2 E2 w h0

def V7 (w:World)(b:Bool)(a:Option Addr)(n c:Nat)(E:Int)(L:Nat)(V:Int):Prop:=∃M,Dn w b (.slice a n c) M∧Rp L M E V∧Nr8 M E

theorem V7.below {w w':World}{b:Bool}{a:Option Addr}{n c:Nat}{E:Int}{L:Nat}{V:Int}(h:V7 w b a n c E L V)(hb:Below w.heap.size w w'):V7 w' b a n c E L V:=by
 obtain⟨M,h1,h2⟩:=h
 exact⟨M,h1.below hb,h2⟩

theorem V7.told {w:World}{b:Bool}{a:Option Addr}{n c:Nat}{E:Int}{L:Nat}{V d:Int}(h:V7 w b a n c E L V)(hc:aj L V d)(W:World)(hg:Below w.heap.size w W) :
  Calls Tryz.prog 52 #[.agg #[.bool b,.slice a n c,.int .i64 E]] W fun e w'=>iL W e w' d L V:=by
 obtain⟨M,h1,h2,h3⟩:=h
 exact sL b a n c M E L V d W (h1.below hg) h2 h3 hc

theorem aj.sml {L:Nat}{V:Int}(h:aj L V 0):Sml L V:=by
 obtain⟨M,E,h1,h2,h3⟩:=h
 refine⟨M,E,h1,h2,?_⟩
 rcases Nat.lt_or_ge 67108864 (blen M.natAbs) with g|g
 ·rw [j7 g] at h3
  omega
 ·exact g

theorem aj.fit {L:Nat}{V M E:Int}(h:aj L V 0)(hr:Rp L M E V)(hn:Nr8 M E):blen M.natAbs≤67108864∧ah E=true:=by
 have h1:=h.sml.blen hr hn
 have h2:=h.one ⟨M,E,hr,hn,rfl⟩
 refine⟨h1,?_⟩
 cases hE:ah E
 ·rw [jV h1 hE] at h2
  omega
 ·rfl

theorem V7.v8 {w:World}{b:Bool}{a:Option Addr}{n c:Nat}{E:Int}{L:Nat}{V:Int}(h:V7 w b a n c E L V)(hc:aj L V 0):V8 w b a n c E L V:=by
 obtain⟨M,h1,h2,h3⟩:=h
 obtain⟨g1,g2⟩:=hc.fit h2 h3
 have hr:=(aH E).1 g2
 exact⟨M,h1,h2,h3,by omega,by omega,by omega⟩

theorem ju (gs:Nat)(b1:Bool)(a1:Option Addr)(n1 k1:Nat)(E1:Int)(b2:Bool)(a2:Option Addr)(n2 k2:Nat)(E2:Int)(b3:Bool)(a3:Option Addr)(n3 k3:Nat)(E3:Int)(b4:Bool)(a4:Option Addr)(n4 k4:Nat)(E4:Int)(L:Nat)(V1 V2 V3 V4 d1 d2 d3 d4:Int)(w:World)(hg:w.heap[gs]?=some (.cells #[.bool b1,.slice a1 n1 k1,.int .i64 E1,.bool b2,.slice a2 n2 k2,.int .i64 E2,.bool b3,.slice a3 n3 k3,.int .i64 E3,.bool b4,.slice a4 n4 k4,.int .i64 E4] 31))(h1:V7 w b1 a1 n1 k1 E1 L V1)(h2:V7 w b2 a2 n2 k2 E2 L V2)(h3:V7 w b3 a3 n3 k3 E3 L V3)(h4:V7 w b4 a4 n4 k4 E4 L V4)(c1:aj L V1 d1)(c2:aj L V2 d2)(c3:aj L V3 d3)(c4:aj L V4 d4) :
  Calls Tryz.prog 27 #[.slice (some ⟨gs,0,none⟩) 4 4] w fun e w'=>e=.returned (.int .i64 (aW d1 d2 d3 d4))∧Below w.heap.size w w':=by
 have HS:=ab hg
 have K1:=ab (h1.told c1)
 have K2:=ab (h2.told c2)
 have K3:=ab (h3.told c3)
 have K4:=ab (h4.told c4)
 have i0:bB 0:=.inl rfl
 obtain⟨f1,hf1⟩:∃f,aE 0 d1=f:=⟨_,rfl⟩
 have i1:bB f1:=by rw [←hf1];exact eK i0 c1.is
 have W1:=ab (fun (X:World)=>dL 0 d1 X i0 c1.is)
 rw [hf1] at W1
 obtain⟨f2,hf2⟩:∃f,aE f1 d2=f:=⟨_,rfl⟩
 have i2:bB f2:=by rw [←hf2];exact eK i1 c2.is
 have W2:=ab (fun (X:World)=>dL f1 d2 X i1 c2.is)
 rw [hf2] at W2
 obtain⟨f3,hf3⟩:∃f,aE f2 d3=f:=⟨_,rfl⟩
 have i3:bB f3:=by rw [←hf3];exact eK i2 c3.is
 have W3:=ab (fun (X:World)=>dL f2 d3 X i2 c3.is)
 rw [hf3] at W3
 obtain⟨f4,hf4⟩:∃f,aE f3 d4=f:=⟨_,rfl⟩
 have i4:bB f4:=by rw [←hf4];exact eK i3 c4.is
 have W4:=ab (fun (X:World)=>dL f3 d4 X i3 c4.is)
 rw [hf4] at W4
 rw [show aW d1 d2 d3 d4=f4 by unfold aW;rw [hf1,hf2,hf3,hf4]]
 clear hg h1 c1 hf1 i1 h2 c2 hf2 i2 h3 c3 hf3 i3 h4 c4 hf4 i4 i0
 go_enter Tryz.func27,Tryz.ntmps27
 go_wp2
 refine wp_loop_rounds 5 ?_
 have HB0:Hid (Below w.heap.size w w):=ab (Below.refl _ _)
 rw [rounds_succ]
 obtain⟨u1,hu1,hbu1,qu1⟩:=ag w (.cells #[.bool b1,.slice a1 n1 k1,.int .i64 E1] 31)
 have HU1:=ab (ae HB0.out hbu1)
 have C:=K1.out u1 HU1.out
 obtain⟨z0,z1,z2⟩:=tri8 qu1
 have CS:=ac HB0.out HS.out
 have y0:w.cell? ⟨gs,0,none⟩=some (.bool b1):=by simp [World.cell?,CS]
 have y1:w.cell? ⟨gs,1,none⟩=some (.slice a1 n1 k1):=by simp [World.cell?,CS]
 have y2:w.cell? ⟨gs,2,none⟩=some (.int .i64 E1):=by simp [World.cell?,CS]
 clear hbu1 qu1 CS
 go_wp2_with fail
 refine C.mono ?_
 rintro e s1 ⟨⟨o1,p1,q1,r1,j1,rfl,_⟩,g1⟩
 obtain⟨t1,ht1,hbt1,qt1⟩:=ag s1 (.cells #[.bool o1,.slice p1 q1 r1,.int .i64 j1] 31)
 have HB1:=ab (ae (ae HU1.out g1) hbt1)
 have C:=W1.out t1
 clear g1 hbt1 qt1 y0 y1 y2 z0 z1 z2 hu1
 go_wp2_with fail
 refine C.mono ?_
 rintro e wn ⟨rfl,hw⟩;rw [hw];clear hw wn C ht1
 go_wp2
 rw [rounds_succ]
 obtain⟨u2,hu2,hbu2,qu2⟩:=ag t1 (.cells #[.bool b2,.slice a2 n2 k2,.int .i64 E2] 31)
 have HU2:=ab (ae HB1.out hbu2)
 have C:=K2.out u2 HU2.out
 obtain⟨z0,z1,z2⟩:=tri8 qu2
 have CS:=ac HB1.out HS.out
 have y0:t1.cell? ⟨gs,3,none⟩=some (.bool b2):=by simp [World.cell?,CS]
 have y1:t1.cell? ⟨gs,4,none⟩=some (.slice a2 n2 k2):=by simp [World.cell?,CS]
 have y2:t1.cell? ⟨gs,5,none⟩=some (.int .i64 E2):=by simp [World.cell?,CS]
 clear hbu2 qu2 CS
 go_wp2_with fail
 refine C.mono ?_
 rintro e s2 ⟨⟨o2,p2,q2,r2,j2,rfl,_⟩,g2⟩
 obtain⟨t2,ht2,hbt2,qt2⟩:=ag s2 (.cells #[.bool o2,.slice p2 q2 r2,.int .i64 j2] 31)
 have HB2:=ab (ae (ae HU2.out g2) hbt2)
 have C:=W2.out t2
 clear g2 hbt2 qt2 y0 y1 y2 z0 z1 z2 hu2
 go_wp2_with fail
 refine C.mono ?_
 rintro e wn ⟨rfl,hw⟩;rw [hw];clear hw wn C ht2
 go_wp2
 rw [rounds_succ]
 obtain⟨u3,hu3,hbu3,qu3⟩:=ag t2 (.cells #[.bool b3,.slice a3 n3 k3,.int .i64 E3] 31)
 have HU3:=ab (ae HB2.out hbu3)
 have C:=K3.out u3 HU3.out
 obtain⟨z0,z1,z2⟩:=tri8 qu3
 have CS:=ac HB2.out HS.out
 have y0:t2.cell? ⟨gs,6,none⟩=some (.bool b3):=by simp [World.cell?,CS]
 have y1:t2.cell? ⟨gs,7,none⟩=some (.slice a3 n3 k3):=by simp [World.cell?,CS]
 have y2:t2.cell? ⟨gs,8,none⟩=some (.int .i64 E3):=by simp [World.cell?,CS]
 clear hbu3 qu3 CS
 go_wp2_with fail
 refine C.mono ?_
 rintro e s3 ⟨⟨o3,p3,q3,r3,j3,rfl,_⟩,g3⟩
 obtain⟨t3,ht3,hbt3,qt3⟩:=ag s3 (.cells #[.bool o3,.slice p3 q3 r3,.int .i64 j3] 31)
 have HB3:=ab (ae (ae HU3.out g3) hbt3)
 have C:=W3.out t3
 clear g3 hbt3 qt3 y0 y1 y2 z0 z1 z2 hu3
 go_wp2_with fail
 refine C.mono ?_
 rintro e wn ⟨rfl,hw⟩;rw [hw];clear hw wn C ht3
 go_wp2
 rw [rounds_succ]
 obtain⟨u4,hu4,hbu4,qu4⟩:=ag t3 (.cells #[.bool b4,.slice a4 n4 k4,.int .i64 E4] 31)
 have HU4:=ab (ae HB3.out hbu4)
 have C:=K4.out u4 HU4.out
 obtain⟨z0,z1,z2⟩:=tri8 qu4
 have CS:=ac HB3.out HS.out
 have y0:t3.cell? ⟨gs,9,none⟩=some (.bool b4):=by simp [World.cell?,CS]
 have y1:t3.cell? ⟨gs,10,none⟩=some (.slice a4 n4 k4):=by simp [World.cell?,CS]
 have y2:t3.cell? ⟨gs,11,none⟩=some (.int .i64 E4):=by simp [World.cell?,CS]
 clear hbu4 qu4 CS
 go_wp2_with fail
 refine C.mono ?_
 rintro e s4 ⟨⟨o4,p4,q4,r4,j4,rfl,_⟩,g4⟩
 obtain⟨t4,ht4,hbt4,qt4⟩:=ag s4 (.cells #[.bool o4,.slice p4 q4 r4,.int .i64 j4] 31)
 have HB4:=ab (ae (ae HU4.out g4) hbt4)
 have C:=W4.out t4
 clear g4 hbt4 qt4 y0 y1 y2 z0 z1 z2 hu4
 go_wp2_with fail
 refine C.mono ?_
 rintro e wn ⟨rfl,hw⟩;rw [hw];clear hw wn C ht4
 go_wp2
 rw [rounds_succ]
 go_wp2
 go_ret
 exact⟨rfl,HB4.out⟩
end Go.Proofs.YtkfbobefkbpdoaaGreatDoor

