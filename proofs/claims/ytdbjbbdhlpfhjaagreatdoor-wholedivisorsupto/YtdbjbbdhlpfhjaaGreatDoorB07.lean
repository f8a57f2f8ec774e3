/- Package mul: products with 0. -/
import Derived.Test.YtdbjbbdhlpfhjaaGreatDoorB04
import Derived.Test.YtdbjbbdhlpfhjaaGreatDoorB03
import Derived.Test.YtdbjbbdhlpfhjaaGreatDoorB06
import Derived.Test.YtdbjbbdhlpfhjaaGreatDoorB01
import Derived.Test.YtdbjbbdhlpfhjaaGreatDoorB05
import Derived.Test.YtdbjbbdhlpfhjaaGreatDoorB02
set_option maxRecDepth 20000
set_option maxHeartbeats 1000000
namespace Go.Proofs.YtdbjbbdhlpfhjaaGreatDoor
open Go.RowKit
open Lm

theorem kk (bz zo n cap:Nat)(Z:List Nat)(va:Value)(a2:Option Addr)(c2:Nat)(w:World)(hB:Blk w bz Z)(hLZ:Limbs Z)(hzo:zo+n≤Z.length) :
  Calls Tryz.prog 190 #[.slice (some ⟨bz,zo,none⟩) n cap,va,.slice a2 0 c2] w (aK bz zo n Z w 0):=by
 obtain⟨w1,Z1,hrun,hO,hL,hB1,hF,hS⟩:=g8 bz zo n cap Z w hB hLZ hzo
 have HD:=ac (show aK bz zo n Z w 0 (.returned (.tuple #[])) w1 from ⟨rfl,Z1,hO,hL,hB1,hF,hS⟩)
 clear hO hL hB1 hF hS hB hLZ
 go_enter Tryz.func190,Tryz.ntmps190
 go_wp2
 refine wp_loop_rounds 1 ?_
 rw [rounds_succ]
 go_wp2
 go_end0
 exact HD.out

theorem mR (H T:Int)(hH:1≤H)(hT:1≤T)(bz zo n cap:Nat)(Z:List Nat)(a1:Option Addr)(l1 c1:Nat)(a2:Option Addr)(l2 c2:Nat)(w:World)(hB:Blk w bz Z)(hLZ:Limbs Z)(hz:l1=0∨l2=0)(hl1:l1≤1125899906842624)(hl2:l2≤1125899906842624)(hzo:zo+n≤Z.length) :
  Calls Tryz.prog 175 #[way H T,.slice (some ⟨bz,zo,none⟩) n cap,.slice a1 l1 c1,.slice a2 l2 c2] w (aK bz zo n Z w 0):=by
 unfold way
 have i1:(0:Int)<H:=by omega
 have i2:(0:Int)<T:=by omega
 by_cases h2:l2=0
 ·subst h2
  have hd0:decide ((l1:Int)<0)=false:=decide_eq_false (by omega)
  have HS:=kk bz zo n cap Z (.slice a1 l1 c1) a2 c2 (w.alloc (.cells #[.int .i64 H,.int .i64 T] 117)) (hB.alloc _) hLZ hzo
  clear hz
  go_enter Tryz.func175,Tryz.ntmps175
  go_wp2_with fail
  refine HS.mono ?_
  rintro e w2 hd
  have HD:=ac (aK.after hd (Fr.alloc bz w _))
  obtain⟨he,_⟩:=hd
  subst he
  clear HS hB
  go_wp2
  go_end0
  exact HD.out
 ·have h1:l1=0:=by omega
  subst h1
  have hd0:(0:Int)<(l2:Int):=by omega
  have HS:=kk bz zo n cap Z (.slice a2 l2 c2) a1 c1 (w.alloc (.cells #[.int .i64 H,.int .i64 T] 117)) (hB.alloc _) hLZ hzo
  clear hz
  go_enter Tryz.func175,Tryz.ntmps175
  go_wp2_with fail
  refine HS.mono ?_
  rintro e w2 hd
  have HD:=ac (aK.after hd (Fr.alloc bz w _))
  obtain⟨he,_⟩:=hd
  subst he
  clear HS hB
  go_wp2
  go_end0
  exact HD.out

theorem jY (Z:List Nat)(N s M:Nat)(hM:s+M≤N)(hM2:N≤s+M)(ho:Out (List.replicate N 0) Z s (s+M))(hs:sv Z s M=0):val Z=0:=by
 have hl:Z.length=N:=by rw [ho.len];simp
 have e0:sv Z 0 s=0:=by
  rw [ho.sv 0 s (by omega)]
  unfold sv seg
  rw [List.drop_replicate,List.take_replicate,val_replicate]
 have e1:sv Z 0 (s+M)=val Z:=by rw [show s+M=Z.length by omega,ca]
 rw [aF _ _ _ _ (by omega),e0,Nat.zero_add,Nat.zero_add,hs,Nat.mul_zero] at e1
 exact e1.symm

theorem pL (H T:Int)(hH:1≤H)(hTT:1≤T)(va vb:Value)(X Y:List Nat)(w:World)(hA:Arg w va X)(hA2:Arg w vb Y)(hT:Tab w)(hXY:val X=0∨val Y=0)(hf:X.length+Y.length≤35184372088831) :
  Calls Tryz.prog 133 #[way H T,va,vb] w (eD w 0 (X.length+Y.length)):=by
 unfold way
 obtain⟨a1,c1,rfl,hcc1,hcm1,hl1⟩:=hA.form
 obtain⟨a2,c2,rfl,hcc2,hcm2,hl2⟩:=hA2.form
 have lX:=tr_length_le X
 have lY:=tr_length_le Y
 have hXY0:(tr X).length=0∨(tr Y).length=0:=by
  rcases hXY with h|h
  ·left;have:=aQ X 0 (by rw [h];simp);omega
  ·right;have:=aQ Y 0 (by rw [h];simp);omega
 obtain⟨i0,hi,hz0,hz1,hz2⟩:=info_parts Tryz.infoU
 obtain⟨w1,hw1⟩:∃w1,w1=w.alloc (.cells #[.int .i64 H,.int .i64 T] 117):=⟨_,rfl⟩
 have hbel1:Below w.heap.size w w1:=by rw [hw1];exact (Below.refl _ _).alloc (Nat.le_refl _) _
 have hs1:w1.heap.size=w.heap.size+1:=by rw [hw1];simp
 have hb1:w1.heap[w.heap.size]?=some (.cells #[.int .i64 H,.int .i64 T] 117):=by rw [hw1];exact heap_alloc_new ..
 have hc0:w1.cell? ⟨w.heap.size,0,none⟩=some (.int .i64 H):=by simp [World.cell?,hb1]
 have hc1:w1.cell? ⟨w.heap.size,1,none⟩=some (.int .i64 T):=by simp [World.cell?,hb1]
 have B1:=ac hbel1
 have HW1:=ac hw1
 have A1:=(hA.below hbel1).trim
 have A2:=(hA2.below hbel1).trim
 have hT1:=hT.below hbel1
 have H1:=cz a1 c1 X w1 hcc1 hcm1 (hl1.below hbel1)
 have H2:=cz a2 c2 Y w1 hcc2 hcm2 (hl2.below hbel1)
 clear hA hA2 hT hl1 hl2 hXY hw1 hbel1
 generalize tr X=P at *
 generalize tr Y=Q at *
 obtain⟨N,hN1,hN2,eN⟩:∃N:Nat,N≤P.length+Q.length∧P.length+Q.length≤N∧(P.length:Int)+(Q.length:Int)=(N:Int):=⟨P.length+Q.length,by omega,by omega,by omega⟩
 go_enter Tryz.func133,Tryz.ntmps133
 go_wp2_with fail
 rw [←HW1.out]
 refine H1.mono ?_
 rintro e w2 ⟨rfl,hw⟩;subst hw
 go_wp2_with fail
 refine H2.mono ?_
 rintro e w3 ⟨rfl,hw⟩;subst hw
 clear H1 H2
 go_wp2_with (at_make;refine wpList_make_full _ rfl _ _ 25 rfl w3.heap.size 61 i0 (.int .u64 0) 1 Tryz.underlying25 hi hz0 hz1 .i64 .i64 _ _ N rfl rfl (by omega) (by omega) (by rw [hz2];omega) (by unfold maxLen;omega) (Nat.le_refl _) ?_;intro w4 hown hgrow)
 have hb4:=Blk.made hown
 rw [hs1] at hb4
 have hbel4:Below w3.heap.size w3 w4:=(Below.refl _ _).grown hgrow (Nat.le_refl _) (fun k hk=>by cases hk)
 have hs4:w3.heap.size<w4.heap.size:=by rw [hs1];exact hb4.lt
 clear hown hgrow hi hz0 hz1 hz2
 have B4:Hid (Below w.heap.size w w4):=B1.out.trans (hbel4.mono (by omega))
 replace A1:=A1.below hbel4
 replace A2:=A2.below hbel4
 replace hT1:=hT1.below hbel4
 have hc04:w4.cell? ⟨w.heap.size,0,none⟩=some (.int .i64 H):=by rw [hbel4.cell (p:=⟨w.heap.size,0,none⟩) (by show w.heap.size<_;omega)];exact hc0
 have hc14:w4.cell? ⟨w.heap.size,1,none⟩=some (.int .i64 T):=by rw [hbel4.cell (p:=⟨w.heap.size,1,none⟩) (by show w.heap.size<_;omega)];exact hc1
 clear hc0 hc1 hb1 B1 HW1 hbel4
 refine (eA _ _ _ A1 hT1).mono ?_
 rintro e w5 ⟨⟨t,ht,rfl⟩,hw⟩;subst hw
 have li:=fH P
 generalize bo P=i at *
 obtain⟨ti,eti⟩:∃ti:Nat,ti=i*64+t:=⟨_,rfl⟩
 have eI:(ti:Int) / 64=(i:Int):=by omega
 have fP:=A1.few
 have fQ:=A2.few
 have hti:ti≤9223372036854775807:=by omega
 rw [←eti]
 clear eti ht
 go_wp2_with fail
 refine (eA _ _ _ A2 hT1).mono ?_
 rintro e w6 ⟨⟨u,hu,rfl⟩,hw⟩;subst hw
 have lj:=fH Q
 generalize bo Q=j at *
 obtain⟨tj,etj⟩:∃tj:Nat,tj=j*64+u:=⟨_,rfl⟩
 have eJ:(tj:Int) / 64=(j:Int):=by omega
 have htj:tj≤9223372036854775807:=by omega
 rw [←etj]
 clear etj hu hT1 A1 A2
 obtain⟨g,hg⟩:∃g,g=w.heap.size+1:=⟨_,rfl⟩
 obtain⟨s,eS,hSa,hSb⟩:∃s:Nat,(i:Int)+(j:Int)=(s:Int)∧s≤i+j∧i+j≤s:=⟨i+j,by omega,by omega,by omega⟩
 obtain⟨M,hM1,hM2⟩:∃M:Nat,s+M≤N∧N≤s+M:=⟨N - s,by omega,by omega⟩
 have eM:N - s=M:=by omega
 obtain⟨zh,ezh,hzh⟩:∃zh:Nat,(if N=s then (some ⟨g,0,none⟩:Option Addr) else some ⟨g,s,none⟩)=some ⟨g,zh,none⟩∧(zh=s∨(zh=0∧M=0)):=by
  by_cases hc:N=s
  ·exact⟨0,by rw [if_pos hc],.inr ⟨rfl,by omega⟩⟩
  ·exact⟨s,by rw [if_neg hc],.inl rfl⟩
 have HIN:=fun (b1:Option Addr) (k1:Nat) (b2:Option Addr) (k2:Nat)=>mR H T hH hTT g zh M M (List.replicate N 0) b1 (P.length - i) k1 b2 (Q.length - j) k2 w6.drew (by rw [hg];exact hb4) (limbs_replicate _) (by omega) (by omega) (by omega) (by simp;omega)
 have wS:IntKind.i64.wrap (s:Int)=(s:Int):=by rw [IntKind.wrap_i64];omega
 have k1:(0:Int)≤(s:Int):=by omega
 have k2:(s:Int)≤(N:Int):=by omega
 have k3:(0:Int)≤(i:Int):=by omega
 have k4:(i:Int)≤(P.length:Int):=by omega
 have k5:(0:Int)≤(j:Int):=by omega
 have k6:(j:Int)≤(Q.length:Int):=by omega
 have k7:(i:Int)≤(c1:Int):=by omega
 have k8:(j:Int)≤(c2:Int):=by omega
 rw [←hg]
 have HG:=ac hg
 have HZH:=ac hzh
 clear hg hzh
 unfold way at HIN
 have HK:=ac (fun (w7:World) (hF:Fr g w6.drew w7)=>(⟨by rw [World.cell?_of_block (w:=w6.drew) (hF.block w.heap.size (by show _<w6.heap.size;have:=HG.out;omega) (by have:=HG.out;omega))];exact hc04,by rw [World.cell?_of_block (w:=w6.drew) (hF.block w.heap.size (by show _<w6.heap.size;have:=HG.out;omega) (by have:=HG.out;omega))];exact hc14⟩:w7.cell? ⟨w.heap.size,0,none⟩=some (.int .i64 H)∧w7.cell? ⟨w.heap.size,1,none⟩=some (.int .i64 T)))
 by_cases hci:c1=i <;> by_cases hcj:c2=j
 all_goals
  go_wp2
  go_region_held3 (fun w'=>w'.cell? ⟨w.heap.size,0,none⟩=some (.int .i64 H)∧w'.cell? ⟨w.heap.size,1,none⟩=some (.int .i64 T)) (go_keep) (first | (go_at_call 175;refine (HIN _ _ _ _).mono ?_;rintro e w7 ⟨rfl,Z',hO,hlz,hB7,hF7,hv7⟩;obtain⟨hk0,hk1⟩:=HK.out w7 hF7;have HD:=ac (And.intro hO (And.intro hlz (And.intro hB7 (And.intro hF7 hv7))));clear hO hlz hB7 hF7 hv7))
  obtain⟨hO,hlz,hB7,hF7,hv7⟩:=HD.out
  have hlZ:Z'.length=N:=by rw [hO.len];simp
  have hvz:val Z'=0:=by
   rcases HZH.out with h|⟨h,h'⟩
   ·rw [h] at hO hv7;exact jY Z' N s M hM1 hM2 hO hv7
   ·rw [h,h'] at hO
    exact jY Z' N s M hM1 hM2 ⟨hO.len,fun k _=>hO.same k (by omega)⟩ (by rw [h',aW])
  have hans:=(Ans.of_blk (base:=w.heap.size) (zs:=Z') (by have:=HG.out;omega) hB7 List.take_length.symm (Nat.le_refl _) (by omega) hlz).trim
  have HT2:=cz (some ⟨g,0,none⟩) N Z' w7 (by omega) (by omega) (.inr ⟨g,0,rfl,fun k hk=>by rw [Nat.zero_add];exact hB7.cell k hk⟩)
  rw [hlZ] at HT2 hans
  have hlt:=tr_length_le Z'
  have HR:Hid (eD w 0 (X.length+Y.length) (.returned (.slice (some ⟨g,0,none⟩) (tr Z').length N)) w7):=
   ac ⟨⟨_,tr Z',rfl,hans,by rw [val_tr,hvz],tr_tr _,by omega⟩,B4.out.trans ((Fr.trans (Fr.refl g w6).drew hF7).below (by have:=HG.out;omega) B4.out.size)⟩
  clear hO hlz hB7 hF7 hv7 HD HIN HK hans hvz hb4 B4 HG
  generalize (tr Z').length=n' at *
  go_wp2_with fail
  refine HT2.mono ?_
  rintro e w8 ⟨rfl,hw⟩;subst hw
  clear HT2
  go_wp2
  go_ret
  exact HR.out

theorem lI (H T:Int)(hH:2≤H)(hTT:3≤T)(va vb:Value)(X Y:List Nat)(w:World)(hA:Arg w va X)(hA2:Arg w vb Y)(hT:Tab w)(hf:X.length+Y.length≤35184372088831)(hl:(tr X).length+(tr Y).length≤4398046511103∨val X=0∨val Y=0) :
  Calls Tryz.prog 133 #[way H T,va,vb] w (eD w (val X*val Y) (X.length+Y.length)):=by
 by_cases hz:val X=0∨val Y=0
 ·rw [show val X*val Y=0 by rcases hz with h|h <;> rw [h] <;> simp]
  exact pL H T (by omega) (by omega) va vb X Y w hA hA2 hT hz hf
 ·refine qJ H T va vb X Y w hA hA2 hT (fun e=>hz (.inl e)) (fun e=>hz (.inr e)) hf ?_
  exact nT H T hH hTT 4398046511103 _ _ (by rw [List.length_drop,List.length_drop];rcases hl with h|h;omega;exact absurd h hz) (Nat.le_refl _)

theorem oZ (X Y:List Nat)(h:cJ (val X) (val Y)≤67108864):(tr X).length+(tr Y).length≤4398046511103∨val X=0∨val Y=0:=by
 by_cases hz:val X=0∨val Y=0
 ·exact .inr hz
 ·left
  unfold cJ at h
  rw [if_neg hz] at h
  have hx:blen (val X)≠0:=by unfold blen;rw [if_neg (fun e=>hz (.inl e))];omega
  have hy:blen (val Y)≠0:=by unfold blen;rw [if_neg (fun e=>hz (.inr e))];omega
  have h1:=few_limbs X 1048576 (by omega)
  have h2:=few_limbs Y 1048576 (by omega)
  omega

theorem pg (H T:Int)(hH:2≤H)(hTT:3≤T)(va vb:Value)(X Y:List Nat)(w:World)(hA:Arg w va X)(hA2:Arg w vb Y)(hT:Tab w)(hf:X.length+Y.length≤35184372088831) :
  Calls Tryz.prog 95 #[way H T,va,vb] w fun e w'=>Below w.heap.size w w'∧Res w' w.heap.size e (val X*val Y):=by
 obtain⟨w1,hw1⟩:∃w1,w1=w.alloc (.cells #[.int .i64 H,.int .i64 T] 117):=⟨_,rfl⟩
 have hbel1:Below w.heap.size w w1:=by rw [hw1];exact (Below.refl _ _).alloc (Nat.le_refl _) _
 have hb1:w1.heap[w.heap.size]?=some (.cells #[.int .i64 H,.int .i64 T] 117):=by rw [hw1];exact heap_alloc_new ..
 have hc0:w1.cell? ⟨w.heap.size,0,none⟩=some (.int .i64 H):=by simp [World.cell?,hb1]
 have hc1:w1.cell? ⟨w.heap.size,1,none⟩=some (.int .i64 T):=by simp [World.cell?,hb1]
 have H1:=lN va vb X Y w1 (hA.below hbel1) (hA2.below hbel1) (by omega) (by omega)
 have hle:=qQ (val X) (val Y)
 by_cases hbig:cJ (val X) (val Y)≤67108864
 ·have H2:=lI H T hH hTT va vb X Y w1 (hA.below hbel1) (hA2.below hbel1) (hT.below hbel1) hf (oZ X Y hbig)
  have B1:=ac hbel1
  have HW1:=ac hw1
  clear hA hA2 hT hw1 hbel1 hb1
  unfold way at *
  generalize val X*val Y=p at *
  generalize cJ (val X) (val Y)=l at *
  go_enter Tryz.func95,Tryz.ntmps95
  go_wp2_with fail
  rw [←HW1.out]
  refine H1.mono ?_
  rintro e w2 ⟨rfl,hw⟩;subst hw
  clear H1 HW1
  go_wp2_with fail
  refine H2.mono ?_
  rintro e w3 ⟨⟨v,rs,rfl,hans,hv,ht,hl⟩,hb⟩
  have HR:=pi v w.heap.size rs w3 (hans.base B1.out.size) (by omega)
  rw [hv] at HR
  have B3:Hid (Below w.heap.size w w3):=B1.out.trans (hb.mono B1.out.size)
  clear H2 hans hv ht hb hc0 hc1
  go_wp2_with fail
  refine HR.mono ?_
  rintro e w4 ⟨hw,hres⟩;subst hw
  unfold Res at hres
  obtain⟨v,c,rs,rfl,hres⟩:=hres
  have HX:=ac hres
  clear hres HR
  go_wp2
  go_ret2
  exact⟨B3.out,v,c,rs,rfl,HX.out⟩
 ·have HP:Hid (67108864<blen (val X*val Y)):=ac (by omega)
  have B1:=ac hbel1
  have HW1:=ac hw1
  clear hle hA hA2 hT hw1 hbel1 hb1
  unfold way at *
  generalize val X*val Y=p at *
  generalize cJ (val X) (val Y)=l at *
  go_enter Tryz.func95,Tryz.ntmps95
  go_wp2_with fail
  rw [←HW1.out]
  refine H1.mono ?_
  rintro e w2 ⟨rfl,hw⟩;subst hw
  clear H1 HW1
  go_wp2
  go_ret2
  exact⟨B1.out,_,_,[],rfl,Ans.nil _ _,.inr ⟨rfl,rfl,HP.out⟩⟩

theorem fF (va vb:Value)(X Y:List Nat)(w:World)(hA:Arg w va X)(hA2:Arg w vb Y)(hT:Tab w)(hf:X.length+Y.length≤35184372088831) :
  Calls Tryz.prog 62 #[va,vb] w fun e w'=>Below w.heap.size w w'∧Res w' w.heap.size e (val X*val Y):=by
 have HQ:=qN w
 go_enter Tryz.func62,Tryz.ntmps62
 go_wp2_with fail
 refine HQ.mono ?_
 rintro e w1 ⟨rfl,hb⟩
 have B1:=ac hb
 have HP:=pg 40 200 (by omega) (by omega) va vb X Y w1 (hA.below hb) (hA2.below hb) (hT.below hb) hf
 generalize way 40 200=W at *
 clear hb HQ hA hA2 hT
 go_wp2_with fail
 refine HP.mono ?_
 rintro e w2 ⟨hb,v,c,rs,rfl,hans,hres⟩
 have HR:=ac (And.intro (B1.out.trans (hb.mono B1.out.size)) (And.intro (hans.base B1.out.size) hres))
 clear hb hans hres HP
 go_wp2
 go_ret2
 exact⟨HR.out.1,v,c,rs,rfl,HR.out.2.1,HR.out.2.2⟩
end Go.Proofs.YtdbjbbdhlpfhjaaGreatDoor
namespace Go.Proofs.YtdbjbbdhlpfhjaaGreatDoor
open Go.RowKit
open Lm
attribute [local go_sem ↓] Go.wp_at_zero Go.wp_at_succ

theorem dh {w w':World}(h:Below w.drew.heap.size w.drew w'):Below w.heap.size w w':=⟨h.os,h.tape,h.output,h.size,h.block⟩

def fi (w:World)(p:Nat)(e:Ending)(w':World):Prop:=
 (∃v rs,e=.returned v∧Ans w' w.heap.size v rs∧tr rs=rs∧val rs=p)∧Below w.heap.size w w'

theorem ck (X Y:List Nat)(hX:Limbs X)(hY:Limbs Y):val X*val Y<18446744073709551616 ^ (X.length+Y.length):=by
 rw [Nat.pow_add]
 have h1:=val_lt hX
 have h2:=val_lt hY
 rcases Nat.eq_zero_or_pos (val Y) with h|h
 ·rw [h,Nat.mul_zero];exact Nat.mul_pos (by omega) (by omega)
 ·exact Nat.mul_lt_mul_of_lt_of_lt h1 h2

theorem pI:∀(N:Nat) (X Y:List Nat) (va vb:Value) (w:World),X.length+Y.length<N→X.length+Y.length≤35184372088831→Arg w va X→Arg w vb Y→Tab w →
  Calls Tryz.prog 211 #[va,vb] w (fi w (val X*val Y)):=by
 intro N
 induction N with
 | zero=>intro X Y va vb w h;omega
 | succ N ih=>
  intro X Y va vb w hN hfew hA hA2 hT
  obtain⟨a1,c1,rfl,hc1,hm1,hl1⟩:=hA.form
  obtain⟨a2,c2,rfl,hc2,hm2,hl2⟩:=hA2.form
  have T1:=cQ a1 c1 X w hc1 hm1 hl1
  have T2:=cQ a2 c2 Y w hc2 hm2 hl2
  have A1:=hA.trim
  have A2:=hA2.trim
  have m1:=limbs_tr hA.limbs
  have m2:=limbs_tr hA2.limbs
  have l1:=tr_length_le X
  have l2:=tr_length_le Y
  rw [←val_tr X,←val_tr Y]
  clear hA hA2 hl1 hl2
  generalize tr X=P at *
  generalize tr Y=R at *
  by_cases hsw:P.length<R.length
  ·have hsw2:(P.length:Int)<(R.length:Int):=by omega
   rw [Nat.mul_comm]
   have AL:=A2
   have AS:=A1
   have mL:=m2
   have mS:=m1
   have hfit:=ck R P mL mS
   by_cases hsm:R.length+P.length≤1048576
   ·have HM:=fF _ _ R P w AL AS hT (by omega)
    have hbl:blen (val R*val P)≤67108864:=by
     have:blen (val R*val P)≤64*(R.length+P.length):=(blen_le_iff _ _).2 (by rw [Nat.pow_mul];exact hfit)
     omega
    have hsm2:(R.length:Int)+(P.length:Int)≤1048576:=by omega
    clear AL AS hT hfit
    go_enter Tryz.func211,Tryz.ntmps211
    go_wp2_with fail
    refine T1.mono ?_
    rintro e wn ⟨rfl,hw⟩;rw [hw];clear hw wn
    go_wp2_with fail
    refine T2.mono ?_
    rintro e wn ⟨rfl,hw⟩;rw [hw];clear hw wn
    clear T1 T2
    go_wp2_with fail
    refine HM.mono ?_
    rintro e w2 ⟨hb,v,c,rs,rfl,hans,hres⟩
    have HX:Hid (fi w (val R*val P) (.returned v) w2):=by
     rcases hres with ⟨_,hv,ht,_⟩|⟨_,_,hbig⟩
     ·exact⟨⟨v,rs,rfl,hans,ht,hv⟩,hb⟩
     ·omega
    clear hb hans hres HM
    go_wp2
    go_ret
    exact HX.out
   ·obtain⟨half,eh,hh1,hh2⟩:∃half:Nat,(R.length:Int) / 2=(half:Int)∧2*half≤R.length∧R.length≤2*half+1:=⟨R.length / 2,by omega,by omega,by omega⟩
    have hord:P.length≤R.length:=by omega
    obtain⟨K,eK,hK1,hK2⟩:∃K:Nat,(R.length:Int)+(P.length:Int)=(K:Int)∧K≤R.length+P.length∧R.length+P.length≤K:=⟨_,rfl,Nat.le_refl _,Nat.le_refl _⟩
    have hsm2:¬((K:Int)≤1048576):=by omega
    have hKb:K≤35184372088831:=by omega
    have HFIT:=ac hfit
    have HT:=ac hT
    have HAL:=ac AL
    have HAS:=ac AS
    have HMS:=ac (And.intro mL mS)
    obtain⟨bL,oL,rfl⟩:∃b off,a2=some ⟨b,off,none⟩:=by
     obtain⟨_,_,e,_,_,hl⟩:=AL.form
     cases e
     rcases hl with h0|⟨b,off,e,_⟩
     ·have hz:R.length=0:=by rw [h0];rfl
      omega
     ·exact⟨b,off,e⟩
    obtain⟨i0,hi,hz0,hz1,hz2⟩:=info_parts Tryz.infoU
    clear AL AS hT hfit A1 A2 mL mS m1 m2
    go_enter Tryz.func211,Tryz.ntmps211
    go_wp2_with fail
    refine T1.mono ?_
    rintro e wn ⟨rfl,hw⟩;rw [hw];clear hw wn
    go_wp2_with fail
    refine T2.mono ?_
    rintro e wn ⟨rfl,hw⟩;rw [hw];clear hw wn
    clear T1 T2
    go_wp2_with (at_make;refine wpList_make_full _ rfl _ _ 25 rfl w.heap.size 61 i0 (.int .u64 0) 1 Tryz.underlying25 hi hz0 hz1 .i64 .i64 _ _ K rfl rfl (by omega) (by omega) (by rw [hz2];omega) (by unfold maxLen;omega) (Nat.le_refl _) ?_;intro w1 hown hgrow)
    have hb1:=Blk.made hown
    have hbel:Below w.heap.size w w1:=(Below.refl _ _).grown hgrow (Nat.le_refl _) (fun k hk=>by cases hk)
    have HB1:=ac hb1
    have HBE:=ac hbel
    clear hown hgrow hi hz0 hz1 hz2 hb1 hbel
    have lt1:(R.take half).length=half:=by simp;omega
    have ld1:(R.drop half).length=R.length - half:=by simp
    have IH1:=ih (R.take half) P _ _ w1 (by omega) (by omega) ((HAL.out.below HBE.out).front half (by omega)) (HAS.out.below HBE.out) (HT.out.below HBE.out)
    go_wp2_with fail
    refine IH1.mono ?_
    rintro e w2 ⟨⟨v1,rs1,rfl,An1,t1,e1⟩,hb2⟩
    have mT:=(HAL.out.front half (by omega)).limbs
    have mD:=(HAL.out.drop half (by omega)).limbs
    have f1:=ck (R.take half) P mT HMS.out.2
    have f2:=ck (R.drop half) P mD HMS.out.2
    have r1:=aQ rs1 (half+P.length) (by rw [e1];rw [lt1] at f1;exact f1)
    rw [t1] at r1
    have A1':=An1.arg (by omega)
    obtain⟨ao,co,rfl,_,_,hlo⟩:=A1'.form
    have B2:=HB1.out.below hb2 HB1.out.lt
    obtain⟨w3,M1,hcp,B3,L3,F3,O3,S3⟩:=cg w.heap.size 0 K K (List.replicate K 0) ao co rs1 w2 B2 (limbs_replicate _) An1.limbs (cl K 0 K) (by simp) (by omega) hlo
    have HB3:Hid (Below w.heap.size w w3):=(HBE.out.trans (hb2.mono HBE.out.size)).trans (F3.below (Nat.le_refl _) (by have:=HBE.out.size;have:=hb2.size;omega))
    have IH2:=ih (R.drop half) P _ _ w3.drew (by omega) (by omega) ((HAL.out.below HB3.out).drop half (by omega)).drew (HAS.out.below HB3.out).drew (HT.out.below HB3.out.drew)
    have hch:¬K=half:=by omega
    have hcl:¬c2=half:=by omega
    have lM:M1.length=K:=by rw [O3.len];simp
    have HM1:=ac (And.intro L3 (And.intro S3 lM))
    have HE1:=ac e1
    have HBK:=ac B3
    have k1:(0:Int)≤(half:Int):=by omega
    have k2:(half:Int)≤(K:Int):=by omega
    have k3:(half:Int)≤(R.length:Int):=by omega
    have k4:(half:Int)≤(c2:Int):=by omega
    clear IH1 An1 hb2 A1' hlo B2 B3 L3 F3 O3 S3 lM e1 t1 mT mD f1 hN hfew
    go_wp2
    have HPP:=ac (fun (w4:World) (v2:Value) (rs2:List Nat) (An2:Ans w4 w3.drew.heap.size v2 rs2) (t2:tr rs2=rs2) (e2:val rs2=val (R.drop half)*val P) (hb4:Below w3.drew.heap.size w3.drew w4)=>
     show Calls Tryz.prog 208 #[.slice (some ⟨w.heap.size,half,none⟩) (K - half) (K - half),v2] w4 (gF w.heap.size half (K - half) M1 w4 (sv M1 half (K - half)+val rs2)) by
      have r2:=aQ rs2 (R.length - half+P.length) (by rw [e2];rw [ld1] at f2;exact f2)
      rw [t2] at r2
      have hlt4:w.heap.size<w3.drew.heap.size:=HBK.out.lt
      exact fe w.heap.size half (K - half) (K - half) M1 v2 rs2 w4 (HBK.out.below (dh hb4) HBK.out.lt) HM1.out.1 (An2.arg (by omega)) (fun b off n c e=>by subst e;exact .inl (fun h=>by have:=(An2.own.lt b rfl).1;omega)) (by rw [HM1.out.2.2];omega) (Nat.le_refl _) (by omega) (by omega))
    go_region_held3 (fun _=>True) (trivial) (first
     | (go_at_call 211;refine IH2.mono ?_;rintro e w4 ⟨⟨v2,rs2,rfl,An2,t2,e2⟩,hb4⟩)
     | (go_at_call 208;refine (HPP.out _ _ _ An2 t2 e2 hb4).mono ?_;rintro e w5 ⟨c5,M2,hc5,rfl,O5,L5,B5,F5,S5⟩))
    have l5:M2.length=K:=by rw [O5.len,HM1.out.2.2]
    have HTR:=cQ (some ⟨w.heap.size,0,none⟩) K M2 w5 (by omega) (by omega) (.inr ⟨_,0,rfl,fun j hj=>by rw [Nat.zero_add];exact B5.cell j hj⟩)
    rw [l5] at HTR
    have HVAL:Hid (val M2=val R*val P):=by
     refine ac ?_
     obtain⟨d,hd⟩:∃d,K=half+d:=⟨K - half,by omega⟩
     have s0:=aF M1 0 half d (by rw [HM1.out.2.2];omega)
     have s1:=aF M2 0 half d (by omega)
     have s2:=O5.sv 0 half (by omega)
     have s3:=HM1.out.2.1
     have s4:=ce R half (by omega)
     have s5:sv M2 0 (half+d)=val M2:=by rw [←hd,←l5,ca]
     have s6:K - half=d:=by omega
     have s7:=HFIT.out
     have s8:R.length+P.length=half+d:=by omega
     rw [s6] at S5
     rw [hd] at s3
     rw [s8,Nat.pow_add] at s7
     rw [Nat.zero_add] at s0 s1
     rw [HE1.out] at s3
     rw [e2] at S5
     rw [s4,Nat.add_mul,Nat.mul_assoc] at s7 ⊢
     rw [←s5,s1,s2]
     rw [s0] at s3
     generalize val (R.take half)*val P=a at *
     generalize val (R.drop half)*val P=b at *
     generalize sv M1 0 half=x at *
     generalize sv M1 half d=y at *
     generalize sv M2 half d=z at *
     generalize (18446744073709551616:Nat) ^ half=W at *
     generalize (18446744073709551616:Nat) ^ d=V at *
     have t1:W*z+W*(c5*V)=W*y+W*b:=by rw [←Nat.mul_add,←Nat.mul_add,S5]
     have t2:W*(c5*V)=c5*(W*V):=by rw [←Nat.mul_assoc,Nat.mul_comm W c5,Nat.mul_assoc]
     rw [t2] at t1
     rcases (by omega:c5=0∨c5=1) with rfl|rfl
     ·omega
     ·omega
    have HEND:Hid (fi w (val R*val P) (.returned (.slice (some ⟨w.heap.size,0,none⟩) (tr M2).length K)) w5):=by
     have hb5:Below w.heap.size w w4:=HB3.out.trans ((dh hb4).mono HB3.out.size)
     have AM:=(Ans.of_blk (base:=w.heap.size) (zs:=M2) (Nat.le_refl _) B5 List.take_length.symm (Nat.le_refl _) (by omega) L5).trim
     rw [l5] at AM
     exact⟨⟨_,tr M2,rfl,AM,tr_tr _,by rw [val_tr];exact HVAL.out⟩,hb5.trans (F5.below (Nat.le_refl _) hb5.size)⟩
    clear An2 t2 e2 hb4 O5 L5 B5 F5 S5 HVAL HPP IH2 hcp
    go_wp2_with fail
    refine HTR.mono ?_
    rintro e w6 ⟨rfl,hw⟩;subst hw
    clear HTR
    go_wp2
    go_ret
    exact HEND.out
  ·have hsw2:¬((P.length:Int)<(R.length:Int)):=by omega
   have AL:=A1
   have AS:=A2
   have mL:=m1
   have mS:=m2
   have hfit:=ck P R mL mS
   by_cases hsm:P.length+R.length≤1048576
   ·have HM:=fF _ _ P R w AL AS hT (by omega)
    have hbl:blen (val P*val R)≤67108864:=by
     have:blen (val P*val R)≤64*(P.length+R.length):=(blen_le_iff _ _).2 (by rw [Nat.pow_mul];exact hfit)
     omega
    have hsm2:(P.length:Int)+(R.length:Int)≤1048576:=by omega
    clear AL AS hT hfit
    go_enter Tryz.func211,Tryz.ntmps211
    go_wp2_with fail
    refine T1.mono ?_
    rintro e wn ⟨rfl,hw⟩;rw [hw];clear hw wn
    go_wp2_with fail
    refine T2.mono ?_
    rintro e wn ⟨rfl,hw⟩;rw [hw];clear hw wn
    clear T1 T2
    go_wp2_with fail
    refine HM.mono ?_
    rintro e w2 ⟨hb,v,c,rs,rfl,hans,hres⟩
    have HX:Hid (fi w (val P*val R) (.returned v) w2):=by
     rcases hres with ⟨_,hv,ht,_⟩|⟨_,_,hbig⟩
     ·exact⟨⟨v,rs,rfl,hans,ht,hv⟩,hb⟩
     ·omega
    clear hb hans hres HM
    go_wp2
    go_ret
    exact HX.out
   ·obtain⟨half,eh,hh1,hh2⟩:∃half:Nat,(P.length:Int) / 2=(half:Int)∧2*half≤P.length∧P.length≤2*half+1:=⟨P.length / 2,by omega,by omega,by omega⟩
    have hord:R.length≤P.length:=by omega
    obtain⟨K,eK,hK1,hK2⟩:∃K:Nat,(P.length:Int)+(R.length:Int)=(K:Int)∧K≤P.length+R.length∧P.length+R.length≤K:=⟨_,rfl,Nat.le_refl _,Nat.le_refl _⟩
    have hsm2:¬((K:Int)≤1048576):=by omega
    have hKb:K≤35184372088831:=by omega
    have HFIT:=ac hfit
    have HT:=ac hT
    have HAL:=ac AL
    have HAS:=ac AS
    have HMS:=ac (And.intro mL mS)
    obtain⟨bL,oL,rfl⟩:∃b off,a1=some ⟨b,off,none⟩:=by
     obtain⟨_,_,e,_,_,hl⟩:=AL.form
     cases e
     rcases hl with h0|⟨b,off,e,_⟩
     ·have hz:P.length=0:=by rw [h0];rfl
      omega
     ·exact⟨b,off,e⟩
    obtain⟨i0,hi,hz0,hz1,hz2⟩:=info_parts Tryz.infoU
    clear AL AS hT hfit A1 A2 mL mS m1 m2
    go_enter Tryz.func211,Tryz.ntmps211
    go_wp2_with fail
    refine T1.mono ?_
    rintro e wn ⟨rfl,hw⟩;rw [hw];clear hw wn
    go_wp2_with fail
    refine T2.mono ?_
    rintro e wn ⟨rfl,hw⟩;rw [hw];clear hw wn
    clear T1 T2
    go_wp2_with (at_make;refine wpList_make_full _ rfl _ _ 25 rfl w.heap.size 61 i0 (.int .u64 0) 1 Tryz.underlying25 hi hz0 hz1 .i64 .i64 _ _ K rfl rfl (by omega) (by omega) (by rw [hz2];omega) (by unfold maxLen;omega) (Nat.le_refl _) ?_;intro w1 hown hgrow)
    have hb1:=Blk.made hown
    have hbel:Below w.heap.size w w1:=(Below.refl _ _).grown hgrow (Nat.le_refl _) (fun k hk=>by cases hk)
    have HB1:=ac hb1
    have HBE:=ac hbel
    clear hown hgrow hi hz0 hz1 hz2 hb1 hbel
    have lt1:(P.take half).length=half:=by simp;omega
    have ld1:(P.drop half).length=P.length - half:=by simp
    have IH1:=ih (P.take half) R _ _ w1 (by omega) (by omega) ((HAL.out.below HBE.out).front half (by omega)) (HAS.out.below HBE.out) (HT.out.below HBE.out)
    go_wp2_with fail
    refine IH1.mono ?_
    rintro e w2 ⟨⟨v1,rs1,rfl,An1,t1,e1⟩,hb2⟩
    have mT:=(HAL.out.front half (by omega)).limbs
    have mD:=(HAL.out.drop half (by omega)).limbs
    have f1:=ck (P.take half) R mT HMS.out.2
    have f2:=ck (P.drop half) R mD HMS.out.2
    have r1:=aQ rs1 (half+R.length) (by rw [e1];rw [lt1] at f1;exact f1)
    rw [t1] at r1
    have A1':=An1.arg (by omega)
    obtain⟨ao,co,rfl,_,_,hlo⟩:=A1'.form
    have B2:=HB1.out.below hb2 HB1.out.lt
    obtain⟨w3,M1,hcp,B3,L3,F3,O3,S3⟩:=cg w.heap.size 0 K K (List.replicate K 0) ao co rs1 w2 B2 (limbs_replicate _) An1.limbs (cl K 0 K) (by simp) (by omega) hlo
    have HB3:Hid (Below w.heap.size w w3):=(HBE.out.trans (hb2.mono HBE.out.size)).trans (F3.below (Nat.le_refl _) (by have:=HBE.out.size;have:=hb2.size;omega))
    have IH2:=ih (P.drop half) R _ _ w3.drew (by omega) (by omega) ((HAL.out.below HB3.out).drop half (by omega)).drew (HAS.out.below HB3.out).drew (HT.out.below HB3.out.drew)
    have hch:¬K=half:=by omega
    have hcl:¬c1=half:=by omega
    have lM:M1.length=K:=by rw [O3.len];simp
    have HM1:=ac (And.intro L3 (And.intro S3 lM))
    have HE1:=ac e1
    have HBK:=ac B3
    have k1:(0:Int)≤(half:Int):=by omega
    have k2:(half:Int)≤(K:Int):=by omega
    have k3:(half:Int)≤(P.length:Int):=by omega
    have k4:(half:Int)≤(c1:Int):=by omega
    clear IH1 An1 hb2 A1' hlo B2 B3 L3 F3 O3 S3 lM e1 t1 mT mD f1 hN hfew
    go_wp2
    have HPP:=ac (fun (w4:World) (v2:Value) (rs2:List Nat) (An2:Ans w4 w3.drew.heap.size v2 rs2) (t2:tr rs2=rs2) (e2:val rs2=val (P.drop half)*val R) (hb4:Below w3.drew.heap.size w3.drew w4)=>
     show Calls Tryz.prog 208 #[.slice (some ⟨w.heap.size,half,none⟩) (K - half) (K - half),v2] w4 (gF w.heap.size half (K - half) M1 w4 (sv M1 half (K - half)+val rs2)) by
      have r2:=aQ rs2 (P.length - half+R.length) (by rw [e2];rw [ld1] at f2;exact f2)
      rw [t2] at r2
      have hlt4:w.heap.size<w3.drew.heap.size:=HBK.out.lt
      exact fe w.heap.size half (K - half) (K - half) M1 v2 rs2 w4 (HBK.out.below (dh hb4) HBK.out.lt) HM1.out.1 (An2.arg (by omega)) (fun b off n c e=>by subst e;exact .inl (fun h=>by have:=(An2.own.lt b rfl).1;omega)) (by rw [HM1.out.2.2];omega) (Nat.le_refl _) (by omega) (by omega))
    go_region_held3 (fun _=>True) (trivial) (first
     | (go_at_call 211;refine IH2.mono ?_;rintro e w4 ⟨⟨v2,rs2,rfl,An2,t2,e2⟩,hb4⟩)
     | (go_at_call 208;refine (HPP.out _ _ _ An2 t2 e2 hb4).mono ?_;rintro e w5 ⟨c5,M2,hc5,rfl,O5,L5,B5,F5,S5⟩))
    have l5:M2.length=K:=by rw [O5.len,HM1.out.2.2]
    have HTR:=cQ (some ⟨w.heap.size,0,none⟩) K M2 w5 (by omega) (by omega) (.inr ⟨_,0,rfl,fun j hj=>by rw [Nat.zero_add];exact B5.cell j hj⟩)
    rw [l5] at HTR
    have HVAL:Hid (val M2=val P*val R):=by
     refine ac ?_
     obtain⟨d,hd⟩:∃d,K=half+d:=⟨K - half,by omega⟩
     have s0:=aF M1 0 half d (by rw [HM1.out.2.2];omega)
     have s1:=aF M2 0 half d (by omega)
     have s2:=O5.sv 0 half (by omega)
     have s3:=HM1.out.2.1
     have s4:=ce P half (by omega)
     have s5:sv M2 0 (half+d)=val M2:=by rw [←hd,←l5,ca]
     have s6:K - half=d:=by omega
     have s7:=HFIT.out
     have s8:P.length+R.length=half+d:=by omega
     rw [s6] at S5
     rw [hd] at s3
     rw [s8,Nat.pow_add] at s7
     rw [Nat.zero_add] at s0 s1
     rw [HE1.out] at s3
     rw [e2] at S5
     rw [s4,Nat.add_mul,Nat.mul_assoc] at s7 ⊢
     rw [←s5,s1,s2]
     rw [s0] at s3
     generalize val (P.take half)*val R=a at *
     generalize val (P.drop half)*val R=b at *
     generalize sv M1 0 half=x at *
     generalize sv M1 half d=y at *
     generalize sv M2 half d=z at *
     generalize (18446744073709551616:Nat) ^ half=W at *
     generalize (18446744073709551616:Nat) ^ d=V at *
     have t1:W*z+W*(c5*V)=W*y+W*b:=by rw [←Nat.mul_add,←Nat.mul_add,S5]
     have t2:W*(c5*V)=c5*(W*V):=by rw [←Nat.mul_assoc,Nat.mul_comm W c5,Nat.mul_assoc]
     rw [t2] at t1
     rcases (by omega:c5=0∨c5=1) with rfl|rfl
     ·omega
     ·omega
    have HEND:Hid (fi w (val P*val R) (.returned (.slice (some ⟨w.heap.size,0,none⟩) (tr M2).length K)) w5):=by
     have hb5:Below w.heap.size w w4:=HB3.out.trans ((dh hb4).mono HB3.out.size)
     have AM:=(Ans.of_blk (base:=w.heap.size) (zs:=M2) (Nat.le_refl _) B5 List.take_length.symm (Nat.le_refl _) (by omega) L5).trim
     rw [l5] at AM
     exact⟨⟨_,tr M2,rfl,AM,tr_tr _,by rw [val_tr];exact HVAL.out⟩,hb5.trans (F5.below (Nat.le_refl _) hb5.size)⟩
    clear An2 t2 e2 hb4 O5 L5 B5 F5 S5 HVAL HPP IH2 hcp
    go_wp2_with fail
    refine HTR.mono ?_
    rintro e w6 ⟨rfl,hw⟩;subst hw
    clear HTR
    go_wp2
    go_ret
    exact HEND.out

theorem Fr2.undrew {b1 b2:Nat}{a w:World}(h:Fr2 b1 b2 a.drew w):Fr2 b1 b2 a w:=⟨h.os,h.tape,h.output,h.size,h.block⟩

theorem nH {U V:List Nat}{o n r m:Nat}(hn:n=r+m)(lV:V.length=n)(hV:Limbs V)(hu:o+n≤U.length)(h:sv U o n<val V):sv U (o+r) m≤val (V.drop r):=by
 subst hn
 rw [aF U o r m (by omega),ce V r (by omega)] at h
 have h1:=cC hV r (by omega)
 refine Nat.le_of_not_lt fun h2=>?_
 have:=Nat.mul_le_mul_left (18446744073709551616 ^ r) (Nat.succ_le_of_lt h2)
 rw [Nat.succ_eq_add_one,Nat.mul_add,Nat.mul_one] at this
 omega

theorem rR (bq qo m qcap bu uo ucap bv ov vcap n r lu:Nat)(Q U V:List Nat)(w:World)(hok:gk (V.drop r))
  (hQ:Blk w bq Q) (lQ:Limbs Q) (hU:Blk w bu U) (lU:Limbs U) (hV:Arg w (.slice (some ⟨bv,ov,none⟩) n vcap) V) (hT:Tab w) (t1:0≠bq) (t2:0≠bu) (lV:V.length=n) (hm:0<m) (hr:0<r) (hn:n=r+m)
  (n1:bq≠bu) (n2:bv≠bq) (n3:bv≠bu) (q1:qo+m≤Q.length) (q2:m≤qcap) (q3:qcap≤9223372036854775807) (hlu:lu=m+n) (u1:uo+(m+n)≤U.length) (u2:m+n≤ucap) (u3:ucap≤9223372036854775807)
  (few:m+n≤35184372088831) (hV0:0<val V) (hlt:sv U (uo+m) n<val V) :
  Calls Tryz.prog 189 #[.slice (some ⟨bq,qo,none⟩) m qcap,.slice (some ⟨bu,uo,none⟩) lu ucap,.slice (some ⟨bv,ov,none⟩) n vcap] w (du bq qo m bu uo n (val V) Q U w):=by
 obtain⟨_,_,e0,hvc,hvm,_⟩:=hV.form
 rw [lV] at e0 hvc
 cases e0
 have hbv:=hV.block (by omega)
 have ld:(V.drop r).length=m:=by rw [List.length_drop];omega
 have lt:(V.take r).length=r:=by rw [List.length_take];omega
 have HLE:=ac (nH hn lV hV.limbs (by omega) hlt)
 have eV:=ce V r (by omega)
 have hcu:¬ucap=r:=by omega
 have hcv:¬vcap=r:=by omega
 have er:(n:Int) - (m:Int)=(r:Int):=by omega
 have y1:lu - r=m+m:=by omega
 have y2:n - r=m:=by omega
 have k1:(0:Int)≤(r:Int):=by omega
 have k2:(r:Int)≤(lu:Int):=by omega
 have k3:(r:Int)≤(n:Int):=by omega
 have k4:(r:Int)≤(ucap:Int):=by omega
 have k5:(r:Int)≤(vcap:Int):=by omega
 have HG:=qV bq qo qcap bu (uo+r) (ucap - r) bv (ov+r) (vcap - r) m Q U (V.drop r) w.drew hok (hQ.below (Below.refl _ _).drew hQ.lt) lQ (hU.below (Below.refl _ _).drew hU.lt) lU (by have:=(hV.drop r (by omega)).drew;rw [y2] at this;exact this) (hT.below (Below.refl _ _).drew) t1 t2 ld hm n1 n2 n3 q1 q2 q3 (by omega) (by omega) (by omega) (by omega) (by rw [show uo+r+m=uo+m+r by omega];exact HLE.out)
 have HVA:=ac hV
 have HTT:=ac hT
 have H0:=ac (And.intro lU (And.intro lV (And.intro hn hlu)))
 have HV0:=ac (And.intro hV0 hlt)
 have HEV:=ac eV
 have hbq:=hQ.lt
 have hbu:=hU.lt
 clear hok hQ lQ hU lU hV hT lV hn hlt hV0 HLE ld eV hlu
 go_enter Tryz.func189,Tryz.ntmps189
 go_wp2
 go_region_held3 (fun _=>True) (trivial) (first
  | (go_at_call 209;refine HG.mono ?_;rintro e w2 ⟨he,Q',U',o1,l1,b1,o2,l2,b2,f2,e1,hc⟩;subst he))
 have F2:=ac f2.undrew
 have ls:(seg Q' qo m).length=m:=bK _ _ _ (by rw [o1.len];omega)
 have HPR:=pI (m+r+1) (seg Q' qo m) (V.take r) (.slice (some ⟨bq,qo,none⟩) m qcap) (.slice (some ⟨bv,ov,none⟩) r vcap) w2 (by omega) (by omega) (b1.seg_arg l1 qo m qcap (by rw [o1.len];omega) q2 q3 (by omega)) ((HVA.out.fr2 F2.out n2 n3).front r (by omega)) (HTT.out.fr2 F2.out t1 t2)
 have HB1:=ac (And.intro b1 (And.intro o1 l1))
 have HB2:=ac (And.intro b2 (And.intro o2 l2))
 have HE1:=ac (And.intro e1 hc)
 clear o1 l1 b1 o2 l2 b2 f2 e1 hc HG ls
 go_wp2_with fail
 refine HPR.mono ?_
 rintro e w3 ⟨⟨v1,rs1,rfl,An1,tr1,er1⟩,hb3⟩
 have hsz:=F2.out.size
 have fit:=ck (seg Q' qo m) (V.take r) (dS HB1.out.2.2 _ _) (fun z hz=>HVA.out.limbs z (List.mem_of_mem_take hz))
 rw [bK _ _ _ (by rw [HB1.out.2.1.len];omega),lt] at fit
 have r1:=aQ rs1 (m+r) (by rw [er1];exact fit)
 rw [tr1] at r1
 have HM:=gX bu uo lu ucap U' v1 rs1 w3 (HB2.out.1.below hb3 HB2.out.1.lt) HB2.out.2.2 (An1.arg (by omega)) (fun b off n c e=>by subst e;exact .inl (fun h=>by have:=(An1.own.lt b rfl).1;have:=HB2.out.1.lt;omega)) (by rw [HB2.out.2.1.len,H0.out.2.2.2];omega) (by have:=H0.out.2.2.2;omega) u3 (by have:=H0.out.2.2.2;have:=H0.out.2.2.1;omega)
 have HB3:=ac hb3
 have HER:=ac er1
 clear An1 tr1 er1 hb3 HPR fit r1
 go_wp2_with fail
 refine HM.mono ?_
 rintro e w4 ⟨un,U2,hun,rfl,o4,l4,b4,f4,s4⟩
 have HREL:Hid (cH bq qo m bu uo n (val V) 0 Q U w w4 un Q' U2):=by
  obtain⟨b1,o1,l1⟩:=HB1.out
  obtain⟨b2,o2,l2⟩:=HB2.out
  obtain⟨e1,hc⟩:=HE1.out
  obtain⟨lU,lV,hn,hlu⟩:=H0.out
  rw [HER.out,hlu] at s4
  rw [hlu] at o4
  have hV0:=HV0.out.1
  have hlt:=HV0.out.2
  rw [HEV.out] at hV0 hlt ⊢
  exact ac (cH.start hn o1 l1 ((b1.below HB3.out b1.lt).frb f4 n1) o2 lU u1 e1 hc o4 l4 b4 s4 ((F2.out.trans (Fr.left2 (Fr.of_below HB3.out))).trans f4.right2) hV0 hlt)
 clear o4 l4 b4 f4 s4 HM HB1 HB2 HB3 HE1 HER F2
 go_wp2
 go_loopw [7] (fun u wr=>∃(un:Nat) (Q' U':List Nat),un≤1∧u=.int .u64 un∧cH bq qo m bu uo n (val V) 0 Q U w wr un Q' U') (fun _ wr=>sv (rd wr bq) qo m)
 case atStart=>exact⟨un,_,_,hun,rfl,HREL.out⟩
 case round=>
  obtain⟨un,Q2,U2,hun,rfl,hrel⟩:=hrel
  have HR:=ac hrel
  clear hrel HREL
  by_cases hu0:un=0
  ·subst hu0
   go_wp2
   go_end0
   exact HR.out.done HV0.out.1 (Nat.le_of_lt (by have:=val_lt HVA.out.limbs;rw [H0.out.2.1] at this;exact this)) u1
  ·have hu1:un=1:=by omega
   have hpos:(0:Int)<(un:Int):=by omega
   have hblq:=HR.out.blkQ.lt
   have HD:=gX bq qo m qcap Q2 (.slice (some ⟨wr.heap.size,0,none⟩) 1 1) [1] (wr.alloc (.cells #[.int .u64 1] 61)) (HR.out.blkQ.alloc _) HR.out.limQ
    (Arg.lits wr [1] #[.int .u64 1] 1 rfl rfl (by intro z hz;simp at hz;omega) (by simp)) (fun b off _ _ e=>by cases e;exact .inl (by omega)) (by rw [HR.out.outQ.len];omega) q2 q3 (by simp;omega)
   have HU1:=ac hu1
   clear hu1 hu0
   go_wp2_with fail
   refine HD.mono ?_
   rintro e w5 ⟨c5,Q5,hc5,rfl,o5,l5,b5,f5,s5⟩
   have F5:=ac (show Fr2 bq bu wr w5 from (Fr.left2 (Fr.of_below ((Below.refl _ _).alloc (Nat.le_refl _) _))).trans f5.left2)
   have bu5:=(HR.out.blkU.alloc (.cells #[.int .u64 1] 61)).frb f5 (Ne.symm n1)
   have HP:=fe bu uo lu ucap U2 (.slice (some ⟨bv,ov,none⟩) n vcap) V w5 bu5 HR.out.limU (HVA.out.fr2 (HR.out.fr.trans F5.out) n2 n3) (aE n3 _ _) (by rw [HR.out.outU.len,H0.out.2.2.2];omega) (by have:=H0.out.2.2.2;omega) u3 (by have:=H0.out.2.2.2;rw [H0.out.2.1];omega)
   have H5:=ac (And.intro o5 (And.intro l5 (And.intro b5 s5)))
   clear o5 l5 b5 f5 s5 HD bu5
   go_wp2_with fail
   refine HP.mono ?_
   rintro e w6 ⟨c6,U6,hc6,rfl,o6,l6,b6,f6,s6⟩
   have HN:Hid (cH bq qo m bu uo n (val V) 0 Q U w w6 (1 - c6) Q5 U6∧sv Q5 qo m<sv Q2 qo m):=by
    obtain⟨o5,l5,b5,s5⟩:=H5.out
    have h:=HR.out
    rw [HU1.out] at h
    rw [H0.out.2.2.2] at o6 s6
    rw [show val [1]=1 by simp [val]] at s5
    exact ac (h.next HV0.out.1 o5 l5 (b5.frb f6 n1) s5 hc5 o6 l6 b6 s6 hc6 (F5.out.trans f6.right2))
   have HRD:=ac (And.intro (jR HR.out.blkQ) (jR HN.out.1.blkQ))
   have eq1:(un:Int) - (c6:Int)=((1 - c6:Nat):Int):=by have:=HU1.out;omega
   have hle1:1 - c6≤1:=by omega
   generalize 1 - c6=u2 at *
   clear o6 l6 b6 f6 s6 HP H5 F5 HU1
   go_wp2
   go_roundw
   case rel=>exact⟨u2,Q5,U6,hle1,rfl,HN.out.1⟩
   case measure=>rw [HRD.out.1,HRD.out.2];exact HN.out.2

theorem bH.undrew {bq qo m bu uo n VV:Nat}{Q U:List Nat}{w wr:World}{k:Nat}{Q' U':List Nat}(h:bH bq qo m bu uo n VV Q U w.drew wr k Q' U'):bH bq qo m bu uo n VV Q U w wr k Q' U':=
 ⟨h.outQ,h.limQ,h.blkQ,h.outU,h.limU,h.blkU,h.fr.undrew,h.eq,h.lt,h.top⟩

theorem mP:∀(N:Nat) (V:List Nat),V.length<N→∀j,V.length=j+1→9223372036854775808≤V.getD j 0→gk V:=by
 intro N
 induction N with
 | zero=>intro V h;omega
 | succ N ih=>
  intro V hN j hj ht bq qo m qcap bu uo ucap bv ov vcap Q U w hQ lQ hU lU hV hT t1 t2 n1 n2 n3 q1 q2 q3 u1 u2 u3 few hlt
  by_cases hs:m<60
  ·have hs2:(m:Int)<60:=by omega
   have HL:=kR bq qo m qcap bu uo ucap bv ov vcap j Q U V w hQ lQ hU lU hV hj ht n1 n2 n3 q1 q2 q3 u1 u2 u3 (by omega) hlt
   clear hV hT hQ lQ hU lU hlt ih hj hN ht
   go_enter Tryz.func158,Tryz.ntmps158
   go_wp2_with fail
   refine HL.mono ?_
   intro e w2 hd
   have he:=hd.1
   subst he
   have HX:=ac hd
   clear hd HL
   go_wp2
   go_end0
   exact HX.out
  ·by_cases hs':V.length<60
   ·have hs2:¬((m:Int)<60):=by omega
    have hs3:(V.length:Int)<60:=by omega
    have HL:=kR bq qo m qcap bu uo ucap bv ov vcap j Q U V w hQ lQ hU lU hV hj ht n1 n2 n3 q1 q2 q3 u1 u2 u3 (by omega) hlt
    clear hV hT hQ lQ hU lU hlt ih hj hN ht
    go_enter Tryz.func158,Tryz.ntmps158
    go_wp2_with fail
    refine HL.mono ?_
    intro e w2 hd
    have he:=hd.1
    subst he
    have HX:=ac hd
    clear hd HL
    go_wp2
    go_end0
    exact HX.out
   ·have hs2:¬((m:Int)<60):=by omega
    have hs3:¬((V.length:Int)<60):=by omega
    have hV0:0<val V:=by omega
    obtain⟨n,hn⟩:∃n,V.length=n:=⟨_,rfl⟩
    have HJ:=ac (And.intro hj (And.intro hn ht))
    rw [hn] at hV u1 u2 few hlt hs3 hN ⊢
    have HV0:=ac hV0
    have HIH:=ac (fun (V':List Nat) (h:V'.length<n)=>ih V' (by omega))
    have HTT:=ac hT
    have HVA:=ac hV
    have START:Hid (bH bq qo m bu uo n (val V) Q U w w m Q U):=⟨Out.refl _ _ _,lQ,hQ,Out.refl _ _ _,lU,hU,Fr2.refl _ _ _,by rw [Nat.sub_self,aW,Nat.zero_mul,Nat.zero_add,Nat.add_zero],hlt,by rw [Nat.sub_self,aW]⟩
    obtain⟨h,eh,hh1,hh2⟩:∃h:Nat,((n:Int)+1) / 2=(h:Int)∧2*h≤n+1∧n≤2*h:=⟨(n+1) / 2,by omega,by omega,by omega⟩
    clear hV hT hQ lQ hU lU hlt ih hj hn ht hV0
    go_enter Tryz.func158,Tryz.ntmps158
    go_wp2
    go_loopw [7] (fun t wr=>∃(k:Nat) (Q' U':List Nat),k≤m∧t=.int .i64 k∧bH bq qo m bu uo n (val V) Q U w wr k Q' U') (fun t _=>(intOf t).toNat)
    case atStart=>exact⟨m,Q,U,Nat.le_refl _,rfl,START.out⟩
    case round=>
     obtain⟨k,Q',U',hk,rfl,hrel⟩:=hrel
     have HR:=ac hrel
     clear hrel START
     by_cases hk0:k=0
     ·subst hk0
      go_wp2
      go_end0
      exact⟨rfl,Q',U',HR.out⟩
     ·have hkp:(0:Int)<(k:Int):=by omega
      clear hk0
      obtain⟨f,ef,hf1,hf2⟩:∃f:Nat,max ((k:Int) - (h:Int)) 0=(f:Int)∧f<k∧k≤f+h:=⟨k - h,by omega,by omega,by omega⟩
      obtain⟨kn,ekn,kn1,kn2⟩:∃kn:Nat,(k:Int)+(n:Int)=(kn:Int)∧kn≤k+n∧k+n≤kn:=⟨k+n,by omega,by omega,by omega⟩
      have wkn:IntKind.i64.wrap (kn:Int)=(kn:Int):=by rw [IntKind.wrap_i64];omega
      obtain⟨d,ed,hd0,hdn⟩:∃d,k=f+d∧0<d∧d≤h:=⟨k - f,by omega,by omega,by omega⟩
      have ld:(V.drop (n - d)).length=d:=by rw [List.length_drop,HJ.out.2.1];omega
      have HOK:gk (V.drop (n - d)):=HIH.out (V.drop (n - d)) (by omega) (d - 1) (by omega) (by
       have e:(V.drop (n - d)).getD (d - 1) 0=V.getD j 0:=by
        simp only [List.getD,List.getElem?_drop]
        rw [show n - d+(d - 1)=j by have:=HJ.out.1;have:=HJ.out.2.1;omega]
       rw [e];exact HJ.out.2.2)
      have hVr:=HVA.out.fr2 HR.out.fr n2 n3
      have HB:=rR bq (qo+f) d (qcap - f) bu (uo+f) (ucap - f) bv ov vcap n (n - d) (kn - f) Q' U' V wr.drew HOK
       (HR.out.blkQ.below (Below.refl _ _).drew HR.out.blkQ.lt) HR.out.limQ (HR.out.blkU.below (Below.refl _ _).drew HR.out.blkU.lt) HR.out.limU hVr.drew ((HTT.out.fr2 HR.out.fr t1 t2).below (Below.refl _ _).drew) t1 t2 HJ.out.2.1 hd0 (by omega) (by omega) n1 n2 n3
       (by rw [HR.out.outQ.len];omega) (by omega) (by omega) (by omega) (by rw [HR.out.outU.len];omega) (by omega) (by omega) (by omega) HV0.out (by rw [show uo+f+d=uo+k by omega];exact HR.out.lt)
      have g1:k - f=d:=by omega
      have hcq:¬qcap=f:=by omega
      have hcu:¬ucap=f:=by omega
      have k1:(0:Int)≤(f:Int):=by omega
      have k2:(f:Int)≤(k:Int):=by omega
      have k3:(k:Int)≤(qcap:Int):=by omega
      have k4:(f:Int)≤(kn:Int):=by omega
      have k5:(kn:Int)≤(ucap:Int):=by omega
      have HK:=ac ed
      clear ed
      go_wp2
      go_region_held3 (fun _=>True) (trivial) (first
       | (go_at_call 189;refine HB.mono ?_;rintro e w2 ⟨he,Q2,U2,hb2⟩;subst he))
      have HN:Hid (bH bq qo m bu uo n (val V) Q U w w2 f Q2 U2):=by
       have h:=HR.out
       rw [HK.out] at h
       exact ac (h.block hb2.undrew (by have:=HK.out;omega) q1 u1)
      clear hb2 HB
      go_wp2
      go_roundw
      case rel=>exact⟨f,Q2,U2,by omega,rfl,HN.out⟩
      case measure=>simp [intOf];omega

theorem nD {Y V:List Nat}{j s cy:Nat}(hY:Limbs Y)(lY:Y.length=j+1)(hV:Limbs V)(lV:V.length=j+1)(h1:9223372036854775808≤Y.getD j 0*2 ^ s)(h2:Y.getD j 0*2 ^ s<18446744073709551616)(hs:s<64)
  (e:val V+cy*18446744073709551616 ^ (j+1)=val Y*2 ^ s):cy=0∧9223372036854775808≤V.getD j 0:=by
 have a1:=val_take_next Y j
 rw [←lY,List.take_length] at a1
 have a2:=cC hY j (by omega)
 have b1:=val_take_next V j
 rw [←lV,List.take_length] at b1
 have b2:=cC hV j (by omega)
 have hp:2 ^ (64 - s)*2 ^ s=18446744073709551616:=by rw [←Nat.pow_add,show 64 - s+s=64 by omega]
 have h3:(Y.getD j 0+1)*2 ^ s≤18446744073709551616:=by
  rw [←hp] at h2 ⊢
  exact Nat.mul_le_mul_right _ (Nat.succ_le_of_lt (Nat.lt_of_mul_lt_mul_right h2))
 rw [Nat.add_mul,Nat.one_mul] at h3
 rw [a1,b1,Nat.pow_succ] at e
 generalize val (Y.take j)=a at *
 generalize val (V.take j)=b at *
 generalize Y.getD j 0=t at *
 generalize V.getD j 0=v at *
 generalize (18446744073709551616:Nat) ^ j=W at *
 generalize (2:Nat) ^ s=S at *
 rw [Nat.add_mul,Nat.mul_assoc] at e
 generalize t*S=x at *
 have hS:0<S:=by
  rcases Nat.eq_zero_or_pos S with h|h
  ·subst h;omega
  ·exact h
 have c1:a*S<W*S:=Nat.mul_lt_mul_of_pos_right a2 hS
 have c2:W*x+W*S≤W*18446744073709551616:=by rw [←Nat.mul_add];exact Nat.mul_le_mul_left _ h3
 have hc:cy=0:=by
  rcases Nat.eq_zero_or_pos cy with h|h
  ·exact h
  ·have:=Nat.mul_le_mul_right (W*18446744073709551616) h
   omega
 subst hc
 refine⟨rfl,Nat.le_of_not_lt fun h=>?_⟩
 have c3:=Nat.mul_le_mul_left W (Nat.succ_le_of_lt h)
 rw [Nat.succ_eq_add_one,Nat.mul_add,Nat.mul_one] at c3
 have c4:=Nat.mul_le_mul_left W h1
 omega

def Dvs (w:World)(base:Nat)(v:Value)(B n:Nat):Prop:=
 ∃(g nn s j h:Nat) (V:List Nat),v=.agg #[.slice (some ⟨g,0,none⟩) V.length V.length,.int .i64 nn,.int .i64 s]∧base≤g∧Blk w g V∧Limbs V∧V.length=j+1∧9223372036854775808≤V.getD j 0∧s<64∧val V=h*2 ^ s∧B=h*18446744073709551616 ^ nn∧nn+V.length=n∧n≤35184372088000

theorem cN {w:World}{h:Nat}{a b c:Value}{t:TypeId}(e:w.heap[h]?=some (.cells #[a,b,c] t)):w.cell? ⟨h,0,none⟩=some a∧w.cell? ⟨h,1,none⟩=some b∧w.cell? ⟨h,2,none⟩=some c:=
 ⟨by simp [World.cell?,e],by simp [World.cell?,e],by simp [World.cell?,e]⟩

theorem mI {w:World}{h:Nat}{a b c:Value}{t:TypeId}(e:w.heap[h]?=some (.cells #[a,b,c] t)):∀k,w.frozen? ⟨h,k,none⟩=false:=fun k=>by simp [World.frozen?,e]

theorem pb {w:World}{h:Nat}{a b c a' b' c':Value}{t:TypeId}(e:w.heap[h]?=some (.cells #[a,b,c] t)) :
  (((w.setCell ⟨h,0,none⟩ a').setCell ⟨h,1,none⟩ b').setCell ⟨h,2,none⟩ c').heap[h]?=some (.cells #[a',b',c'] t):=
 aY (aY (aY e a') b') c'

theorem qE {B:Nat}{w w':World}(hb:Below B w w'){b o:Nat}{v:Value}(h:w.cell? ⟨b,o,none⟩=some v)(hlt:b<B):w'.cell? ⟨b,o,none⟩=some v:=by
 rw [World.cell?_of_block (w:=w) (hb.block b hlt)];exact h

theorem kl (vb:Value)(X:List Nat)(w:World)(hA:Arg w vb X)(hT:Tab w)(hX0:val X≠0)(hfew:X.length≤35184372088000) :
  Calls Tryz.prog 77 #[vb] w fun e w'=>(∃v,e=.returned v∧Dvs w' w.heap.size v (val X) (tr X).length)∧Below w.heap.size w w':=by
 obtain⟨a0,cap,rfl,hcc,hcm,hl⟩:=hA.form
 obtain⟨b,off,rfl⟩:∃b off,a0=some ⟨b,off,none⟩:=by
  rcases hl with h0|⟨b,off,e,_⟩
  ·subst h0;exact absurd rfl hX0
  ·exact⟨b,off,e⟩
 have hle:=tr_length_le X
 obtain⟨w0,hw0⟩:∃w0,w0=w.alloc (.cells #[.slice none 0 0,.int .i64 0,.int .i64 0] 102):=⟨_,rfl⟩
 have hbel0:Below w.heap.size w w0:=by rw [hw0];exact (Below.refl _ _).alloc (Nat.le_refl _) _
 have hs0:w0.heap.size=w.heap.size+1:=by rw [hw0];exact World.size_alloc _ _
 have hb0:w0.heap[w.heap.size]?=some (.cells #[.slice none 0 0,.int .i64 0,.int .i64 0] 102):=by rw [hw0];exact heap_alloc_new ..
 have H1:=cQ _ cap X w0 hcc hcm (hl.below hbel0)
 have A0:=(hA.below hbel0).trim
 have H2:=eA _ (tr X) w0 A0 (hT.below hbel0)
 rw [←val_tr X] at hX0 ⊢
 have htt:=tr_tr X
 generalize tr X=T at *
 have hlow:=ic T hX0
 have hval:=fL T
 generalize bo T=nn at *
 obtain⟨R,hR1,hR2⟩:∃R:Nat,T.length - nn=R∧T.length=nn+R:=⟨_,rfl,by omega⟩
 obtain⟨j,hj⟩:∃j,R=j+1:=⟨R - 1,by omega⟩
 have HW0:=ac hw0
 have htop:=tr_last' T (nn+j) htt (by omega)
 have lD:(T.drop nn).length=R:=by rw [List.length_drop];omega
 have gD:(T.drop nn).getD j 0=T.getD (nn+j) 0:=by simp only [List.getD,List.getElem?_drop]
 have AD:=A0.drop nn (by omega)
 rw [hR1] at AD
 have hcell:w0.cell? ⟨b,off+nn+j,none⟩=some (.int .u64 ((T.getD (nn+j) 0:Nat):Int)):=by
  obtain⟨_,_,e,_,_,hl⟩:=AD.form
  cases e
  rcases hl with h0|⟨b',off',e,hc⟩
  ·have:=congrArg List.length h0
   rw [List.length_drop] at this
   simp at this;omega
  ·cases e
   rw [←gD]
   exact hc j (by rw [List.length_drop];omega)
 have hyl:=limb_lt A0.limbs (nn+j)
 have HD:=ac (And.intro AD (And.intro lD gD))
 have HH:=ac (And.intro hval (And.intro hR2 hj))
 obtain⟨i0,hi,hz0,hz1,hz2⟩:=info_parts Tryz.infoU
 have HBX:=ac hb0
 have HBL:=ac hbel0
 have hbw:b<w.heap.size:=hA.block (by
  refine Nat.lt_of_lt_of_le ?_ hle
  omega)
 have hcne:¬cap=nn:=by omega
 have ej:(R:Int) - 1=(j:Int):=by omega
 have k0:(0:Int)≤(nn:Int):=by omega
 have k1:(nn:Int)≤(T.length:Int):=by omega
 have k2:(0:Int)≤(j:Int):=by omega
 have k3:(j:Int)<(R:Int):=by omega
 have hRl:R≤T.length:=by omega
 generalize T.getD (nn+j) 0=y at *
 have HLZ:=fun w=>Tryz.bits_LeadingZeros64 (y:Int) w (by omega) (by omega)
 rw [Int.toNat_natCast] at HLZ
 obtain⟨n1,n2,n3,n4⟩:=norm_y y (by omega) hyl
 obtain⟨s,hs⟩:∃s,s=64 - Lib.bitLen y:=⟨_,rfl⟩
 have hsI:(64:Int) - (Lib.bitLen y:Int)=(s:Int):=by omega
 rw [←hs] at n3 n4
 have hs63:s<64:=by omega
 have HN:=ac (And.intro n3 n4)
 have HTT:=ac htt
 clear hw0 hl hs n1 n2 n3 n4 AD hval hb0 hbel0 A0 lD gD hj htt hX0 hT hA hR2
 go_enter Tryz.func77,Tryz.ntmps77
 go_wp2_with fail
 rw [←HW0.out]
 refine H1.mono ?_
 rintro e wn ⟨rfl,hw⟩;rw [hw];clear hw wn H1
 go_wp2_with fail
 refine H2.mono ?_
 rintro e wn ⟨⟨t,ht,rfl⟩,hw⟩;rw [hw];clear hw wn H2
 have etl:((nn*64+t:Nat):Int) / 64=(nn:Int):=by omega
 have HT2:=ac ht
 clear ht
 generalize nn*64+t=tl at *
 go_wp2_with (at_make;refine wpList_make_full _ rfl _ _ 25 rfl w0.heap.size 61 i0 (.int .u64 0) 1 Tryz.underlying25 hi hz0 hz1 .i64 .i64 _ _ R rfl rfl (by omega) (by omega) (by rw [hz2];omega) (by unfold maxLen;omega) (Nat.le_refl _) ?_;intro w3 hown hgrow;have hcell3:=qE ((Below.refl w0.heap.size w0).grown hgrow (Nat.le_refl _) (fun k hk=>by cases hk)) hcell (by omega))
 have hm3:Blk w3 w0.heap.size (List.replicate R 0):=Blk.made hown
 have hbel3:Below w0.heap.size w0 w3:=(Below.refl _ _).grown hgrow (Nat.le_refl _) (fun k hk=>by cases hk)
 have HX3:=ac (show w3.heap[w.heap.size]?=some (.cells #[.slice none 0 0,.int .i64 0,.int .i64 0] 102) by rw [hbel3.block w.heap.size (by omega)];exact HBX.out)
 have HB3:=ac (HBL.out.trans (hbel3.mono HBL.out.size))
 obtain⟨g,hg⟩:∃g,g=w.heap.size+1:=⟨_,rfl⟩
 rw [hs0,←hg] at hm3
 rw [←hg]
 have hgw:w.heap.size<g:=by omega
 have HSU:=iW g 0 R R (List.replicate R 0) _ (T.drop nn) s w3 hm3 (limbs_replicate _) (HD.out.1.below hbel3) (fun b' off' n' c' e=>by cases e;exact .inl (by omega)) (by simp) (Nat.le_refl _) (by omega) (by rw [HD.out.2.1];omega) hs63
 have hsz3:w.heap.size<w3.heap.size:=by have:=hm3.lt;omega
 clear hown hgrow hi hz0 hz1 hz2 hbel3 hm3 hcell hg HBX HBL hs0
 refine (HLZ _).mono ?_
 rintro e wn ⟨rfl,hw⟩;rw [hw];clear hw wn HLZ
 go_wp2_with fail
 refine HSU.mono ?_
 rintro e w4 ⟨cy,Z4,hcy,rfl,O4,L4,B4,F4,S4⟩
 have HRES:Hid (Dvs w4 w.heap.size (.agg #[.slice (some ⟨g,0,none⟩) R R,.int .i64 nn,.int .i64 s]) (val T) T.length):=by
  obtain⟨AD,lD,gD⟩:=HD.out
  obtain⟨hval,hR2,hj⟩:=HH.out
  have l4:Z4.length=R:=by rw [O4.len,List.length_replicate]
  rw [lD] at S4
  have s5:sv Z4 0 R=val Z4:=b8 l4
  rw [s5,hj] at S4
  rw [←gD] at HN
  obtain⟨c0,ht⟩:=nD AD.limbs (by rw [lD,hj]) L4 (by rw [l4,hj]) HN.out.1 HN.out.2 hs63 S4
  subst c0
  exact ac ⟨g,nn,s,j,val (T.drop nn),Z4,by rw [l4],by omega,B4,L4,by rw [l4,hj],ht,hs63,by omega,by rw [Nat.mul_comm];exact hval,by rw [l4];omega,by omega⟩
 have hcy2:cy<18446744073709551616:=by
  have:=Nat.pow_le_pow_right (n:=2) (by omega) (Nat.le_of_lt hs63)
  omega
 have RX4:=ac ((F4.block w.heap.size hsz3 (by omega)).trans HX3.out)
 have W4:=ac (HB3.out.trans (F4.below (by omega) HB3.out.size))
 clear O4 L4 B4 F4 S4 HSU hcell3 HX3 HB3 HD HH HN hcy
 obtain⟨hr0,hr1,hr2⟩:=cN RX4.out
 have hf:=mI RX4.out
 go_wp2
 have R5:=pb RX4.out (a':=.slice (some ⟨g,0,none⟩) R R) (b':=.int .i64 nn) (c':=.int .i64 s)
 have hne:g≠w.heap.size:=by omega
 have HRES5:Hid (Dvs (((w4.setCell ⟨w.heap.size,0,none⟩ (.slice (some ⟨g,0,none⟩) R R)).setCell ⟨w.heap.size,1,none⟩ (.int .i64 nn)).setCell ⟨w.heap.size,2,none⟩ (.int .i64 s)) w.heap.size (.agg #[.slice (some ⟨g,0,none⟩) R R,.int .i64 nn,.int .i64 s]) (val T) T.length):=by
  obtain⟨g',nn',s',j',k',V,h1,h2,h3,h4⟩:=HRES.out
  have e1:g'=g:=by
   injection h1 with h1
   have:=congrArg (fun a=>a[0]?) h1
   simp at this
   exact this.1.symm
  subst e1
  exact ac ⟨g',nn',s',j',k',V,h1,h2,((h3.other ⟨w.heap.size,0,none⟩ _ hne).other ⟨w.heap.size,1,none⟩ _ hne).other ⟨w.heap.size,2,none⟩ _ hne,h4⟩
 have W5:=ac (((W4.out.setCell (p:=⟨w.heap.size,0,none⟩) (Nat.le_refl _) (.slice (some ⟨g,0,none⟩) R R)).setCell (p:=⟨w.heap.size,1,none⟩) (Nat.le_refl _) (.int .i64 nn)).setCell (p:=⟨w.heap.size,2,none⟩) (Nat.le_refl _) (.int .i64 s))
 generalize ((w4.setCell ⟨w.heap.size,0,none⟩ (.slice (some ⟨g,0,none⟩) R R)).setCell ⟨w.heap.size,1,none⟩ (.int .i64 nn)).setCell ⟨w.heap.size,2,none⟩ (.int .i64 s)=w5 at *
 clear hr0 hr1 hr2 hf
 obtain⟨hk0,hk1,hk2⟩:=cN R5
 clear R5 RX4 HRES W4
 refine bodyPost_ret (v:=.agg #[.slice (some ⟨g,0,none⟩) R R,.int .i64 nn,.int .i64 s]) (by simp [results,Tryz.results77,go_sem,hk0,hk1,hk2]) rfl ?_
 exact⟨⟨_,rfl,HRES5.out⟩,W5.out⟩

theorem lL {hx Bh S q R lo P:Nat}(hS:0<S)(e:q*(Bh*S)+R=hx*S)(hR:R<Bh*S)(hlo:lo<P) :
  q=(lo+P*hx) / (Bh*P)∧lo+P*(R / S)=(lo+P*hx) % (Bh*P):=by
 have h1:R=(hx - q*Bh)*S:=by
  rw [Nat.sub_mul,←e,←Nat.mul_assoc];omega
 have hle:q*Bh≤hx:=by
  refine Nat.le_of_mul_le_mul_right ?_ hS
  rw [Nat.mul_assoc];omega
 obtain⟨r,rfl⟩:∃r,hx=q*Bh+r:=⟨hx - q*Bh,by omega⟩
 rw [Nat.add_sub_cancel_left] at h1
 subst h1
 rw [Nat.mul_div_cancel _ hS]
 have hr:r<Bh:=Nat.lt_of_mul_lt_mul_right hR
 have h2:lo+P*(q*Bh+r)=Bh*P*q+(lo+P*r):=by
  rw [Nat.mul_add,show P*(q*Bh)=Bh*P*q by rw [Nat.mul_comm q Bh,←Nat.mul_assoc,Nat.mul_comm P Bh]]
  omega
 have h3:lo+P*r<Bh*P:=by
  have:=Nat.mul_le_mul_left P (Nat.succ_le_of_lt hr)
  rw [Nat.succ_eq_add_one,Nat.mul_add,Nat.mul_one,Nat.mul_comm P Bh] at this
  omega
 rw [h2,Nat.mul_add_div (by omega),Nat.mul_add_mod,Nat.div_eq_of_lt h3,Nat.mod_eq_of_lt h3]
 exact⟨rfl,rfl⟩

def d6 (w:World)(x B k:Nat)(e:Ending)(w':World):Prop:=
 (∃(vq vr:Value) (qs rs:List Nat) (mid:Nat),e=.returned (.tuple #[vq,vr])∧Ans w' w.heap.size vq qs∧(w.heap.size≤mid∧mid≤w'.heap.size)∧(∀g,vq.ownBlock=some g→g<mid)∧Ans w' mid vr rs ∧
  val qs=x / B∧val rs=x % B∧qs.length≤k∧rs.length≤k∧(B≤x→1≤rs.length))∧Below w.heap.size w w'

theorem Dvs.ge {V:List Nat}{j s h nn:Nat}(lV:V.length=j+1)(ht:9223372036854775808≤V.getD j 0)(hs:s<64)(e:val V=h*2 ^ s):18446744073709551616 ^ (nn+j)≤h*18446744073709551616 ^ nn∧9223372036854775808*18446744073709551616 ^ j≤val V∧0<h:=by
 have a1:=val_take_next V j
 rw [←lV,List.take_length] at a1
 have b1:9223372036854775808*18446744073709551616 ^ j≤val V:=by
  rw [a1,Nat.mul_comm]
  exact Nat.le_trans (Nat.mul_le_mul_left _ ht) (Nat.le_add_left _ _)
 have hp:2 ^ s≤9223372036854775808:=Nat.pow_le_pow_right (n:=2) (by omega) (show s≤63 by omega)
 have hpos:=Nat.pow_pos (n:=j) (show 0<18446744073709551616 by omega)
 have b2:18446744073709551616 ^ j≤h:=by
  rw [e] at b1
  refine Nat.le_of_not_lt fun hl=>?_
  have c1:=Nat.mul_lt_mul_of_lt_of_le hl hp (by omega)
  rw [Nat.mul_comm] at b1
  omega
 refine⟨?_,b1,by omega⟩
 rw [Nat.pow_add,Nat.mul_comm]
 exact Nat.mul_le_mul_right _ b2

theorem mQ (va vd:Value)(X:List Nat)(base B n:Nat)(w:World)(hA:Arg w va X)(hD:Dvs w base vd B n)(hn:(tr X).length<n)(hfew:X.length≤17592186044416) :
  Calls Tryz.prog 116 #[vd,va] w (d6 w (val X) B X.length):=by
 obtain⟨a0,cap,rfl,hcc,hcm,hl⟩:=hA.form
 obtain⟨g,nn,s,j,h,V,rfl,hg,hV,lV,hj,ht,hs,eV,eB,en,hnf⟩:=hD
 obtain⟨g1,g2,g3⟩:=Dvs.ge (nn:=nn) hj ht hs eV
 obtain⟨w0,hw0⟩:∃w0,w0=w.alloc (.cells #[.slice (some ⟨g,0,none⟩) V.length V.length,.int .i64 nn,.int .i64 s] 102):=⟨_,rfl⟩
 have hbel0:Below w.heap.size w w0:=by rw [hw0];exact (Below.refl _ _).alloc (Nat.le_refl _) _
 have hs0:w0.heap.size=w.heap.size+1:=by rw [hw0];exact World.size_alloc _ _
 have hb0:w0.heap[w.heap.size]?=some (.cells #[.slice (some ⟨g,0,none⟩) V.length V.length,.int .i64 nn,.int .i64 s] 102):=by rw [hw0];exact heap_alloc_new ..
 have H1:=cQ _ cap X w0 hcc hcm (hl.below hbel0)
 have A0:=(hA.below hbel0).trim
 have hle:=tr_length_le X
 have H2:=gE _ (tr X) w0 A0 (by omega)
 rw [tr_tr] at H2
 have hlt:val X<B:=by
  have h1:=val_lt A0.limbs
  rw [val_tr] at h1
  have h2:=Nat.pow_le_pow_right (n:=18446744073709551616) (by omega) (show (tr X).length≤nn+j by omega)
  rw [eB];omega
 have HV:Hid (val (tr X)=val X % B∧0=val X / B):=ac ⟨by rw [val_tr,Nat.mod_eq_of_lt hlt],(Nat.div_eq_of_lt hlt).symm⟩
 have HLT:=ac hlt
 have HW0:=ac hw0
 obtain⟨hk0,hk1,_⟩:=cN hb0
 have eN:(nn:Int)+(V.length:Int)=(n:Int):=by omega
 have k1:((tr X).length:Int)<(n:Int):=by omega
 have HBL:=ac hbel0
 clear hV lV hj ht eV eB g1 g2 g3 hlt A0 hl hA hb0 hw0 en
 go_enter Tryz.func116,Tryz.ntmps116
 go_wp2_with fail
 rw [←HW0.out]
 refine H1.mono ?_
 rintro e wn ⟨rfl,hw⟩;rw [hw];clear hw wn H1
 go_wp2_with fail
 refine H2.mono ?_
 rintro e w2 ⟨⟨v,rfl,An⟩,hb2⟩
 have HX:Hid (d6 w (val X) B X.length (.returned (.tuple #[.slice none 0 0,v])) w2):=by
  have hbb:=HBL.out.trans (hb2.mono HBL.out.size)
  exact ac ⟨⟨_,v,[],tr X,w.heap.size,rfl,Ans.nil _ _,⟨Nat.le_refl _,hbb.size⟩,(fun g e=>(by cases e)),An.base HBL.out.size,HV.out.2,HV.out.1,Nat.zero_le _,hle,fun h=>absurd h (Nat.not_le_of_lt HLT.out)⟩,hbb⟩
 clear An hb2 H2 HV
 go_wp2
 go_ret2
 exact HX.out

theorem nM {U V:List Nat}{j m L H s h:Nat}(lU:U.length=H+1)(hL:L=j+1)(hm:H+1=m+L)(e:val U=h*2 ^ s)(hh:h<18446744073709551616 ^ H)(hs:s<64)(hV:9223372036854775808*18446744073709551616 ^ j≤val V) :
  sv U (0+m) L<val V:=by
 have s1:=aF U 0 m L (by omega)
 rw [←hm,←lU,ca,e] at s1
 have hp:2 ^ s≤9223372036854775808:=Nat.pow_le_pow_right (n:=2) (by omega) (show s≤63 by omega)
 have hH:18446744073709551616 ^ H=18446744073709551616 ^ m*18446744073709551616 ^ j:=by rw [←Nat.pow_add];congr 1;omega
 have hpos:=Nat.pow_pos (n:=m) (show 0<18446744073709551616 by omega)
 have c1:h*2 ^ s<18446744073709551616 ^ H*9223372036854775808:=Nat.mul_lt_mul_of_lt_of_le hh hp (by omega)
 rw [hH,Nat.mul_assoc,Nat.mul_comm (18446744073709551616 ^ j)] at c1
 refine Nat.lt_of_lt_of_le ?_ hV
 refine Nat.lt_of_mul_lt_mul_left (a:=18446744073709551616 ^ m) ?_
 omega

theorem mW (va vd:Value)(X:List Nat)(base B n:Nat)(w:World)(hA:Arg w va X)(hD:Dvs w base vd B n)(hT:Tab w)(hn:n≤(tr X).length)(hfew:X.length≤17592186044416) :
  Calls Tryz.prog 116 #[vd,va] w (d6 w (val X) B X.length):=by
 obtain⟨a0,cap,rfl,hcc,hcm,hl⟩:=hA.form
 obtain⟨g,nn,s,j,h,V,rfl,hg,hV,lV,hj,ht,hs,eV,eB,en,hnf⟩:=hD
 obtain⟨g1,g2,g3⟩:=Dvs.ge (nn:=nn) hj ht hs eV
 have hle:=tr_length_le X
 obtain⟨b,off,rfl⟩:∃b off,a0=some ⟨b,off,none⟩:=by
  rcases hl with h0|⟨b,off,e,_⟩
  ·subst h0
   have:(tr []).length=0:=rfl
   omega
  ·exact⟨b,off,e⟩
 obtain⟨w0,hw0⟩:∃w0,w0=w.alloc (.cells #[.slice (some ⟨g,0,none⟩) V.length V.length,.int .i64 nn,.int .i64 s] 102):=⟨_,rfl⟩
 have hbel0:Below w.heap.size w w0:=by rw [hw0];exact (Below.refl _ _).alloc (Nat.le_refl _) _
 have hs0:w0.heap.size=w.heap.size+1:=by rw [hw0];exact World.size_alloc _ _
 have hb0:w0.heap[w.heap.size]?=some (.cells #[.slice (some ⟨g,0,none⟩) V.length V.length,.int .i64 nn,.int .i64 s] 102):=by rw [hw0];exact heap_alloc_new ..
 have H1:=cQ _ cap X w0 hcc hcm (hl.below hbel0)
 have A0:=hA.trim
 rw [←val_tr X]
 have hbw:b<w.heap.size:=hA.block (by omega)
 generalize tr X=T at *
 have HOK:=mP (V.length+1) V (Nat.lt_succ_self _) j hj ht
 obtain⟨L,hL⟩:∃L,V.length=L:=⟨_,rfl⟩
 obtain⟨H,hH1,hH2⟩:∃H:Nat,T.length - nn=H∧T.length=nn+H:=⟨_,rfl,by omega⟩
 obtain⟨H',eH,hH'1,hH'2⟩:∃H':Nat,(H:Int)+1=(H':Int)∧H'≤H+1∧H+1≤H':=⟨H+1,by omega,by omega,by omega⟩
 obtain⟨m,em,hm1,hm2⟩:∃m:Nat,(H':Int) - (L:Int)=(m:Int)∧m+L≤H'∧H'≤m+L:=⟨H' - L,by omega,by omega,by omega⟩
 have eN:(nn:Int)+(L:Int)=(n:Int):=by omega
 have HV:=ac (And.intro hV (And.intro lV (And.intro hj (And.intro ht (And.intro hL HOK)))))
 have HE:=ac (And.intro eV (And.intro eB (And.intro g2 g3)))
 have HN:=ac (And.intro en hH2)
 have HA:=ac A0
 have HTT:=ac hT
 have HW0:=ac hw0
 have HBL:=ac hbel0
 rw [hL] at hb0 HW0 hw0 ⊢
 have HBX:=ac hb0
 obtain⟨hk0,hk1,hk2⟩:=cN hb0
 have hgw:g<w.heap.size:=hV.lt
 have hcne:¬cap=nn:=by omega
 have c0:(0:Int)≤(nn:Int):=by omega
 have c1:(nn:Int)≤(T.length:Int):=by omega
 have c2:(nn:Int)≤(cap:Int):=by omega
 have c3:¬((T.length:Int)<(n:Int)):=by omega
 have c4:L≤H:=by omega
 have c5:0<L:=by omega
 have c6:H≤17592186044416:=by omega
 have c7:nn+L≤n:=by omega
 have c8:n≤nn+L:=by omega
 have c9:nn+H≤T.length:=by omega
 obtain⟨i0,hi,hz0,hz1,hz2⟩:=info_parts Tryz.infoU
 clear hl hA A0 hT hw0 hbel0 hV lV hj ht HOK eV eB g1 g2 g3 en hH2 hb0 hL hn
 go_enter Tryz.func116,Tryz.ntmps116
 go_wp2_with fail
 rw [←HW0.out]
 refine H1.mono ?_
 rintro e wn ⟨rfl,hw⟩;rw [hw];clear hw wn H1
 go_wp2
 go_quiet (fail)
 obtain⟨w1,hw1⟩:∃w1,w1=w0.drewN nq:=⟨_,rfl⟩
 have hx1:w1.heap[w.heap.size]?=some (.cells #[.slice (some ⟨g,0,none⟩) L L,.int .i64 nn,.int .i64 s] 102):=by rw [hw1];exact HBX.out
 have hbel1:Below w.heap.size w w1:=by rw [hw1];exact jl HBL.out _
 have hs1:w1.heap.size=w.heap.size+1:=by rw [hw1];exact hs0
 rw [←hw1]
 have HX1:=ac hx1
 have HB1:=ac hbel1
 clear hw1 hx1 hbel1 HBL HBX hk0 hk1 hk2 hs0 HW0
 go_wp2_with (at_make;refine wpList_make_full _ rfl _ _ 25 rfl w1.heap.size 61 i0 (.int .u64 0) 1 Tryz.underlying25 hi hz0 hz1 .i64 .i64 _ _ H' rfl rfl (by omega) (by omega) (by rw [hz2];omega) (by unfold maxLen;omega) (Nat.le_refl _) ?_;intro w2 hown hgrow;obtain⟨hk0,hk1,hk2⟩:=cN ((((Below.refl w1.heap.size w1).grown hgrow (Nat.le_refl _) (fun k hk=>by cases hk)).block w.heap.size (by omega)).trans HX1.out))
 have hm2':Blk w2 w1.heap.size (List.replicate H' 0):=Blk.made hown
 have hbel2:Below w1.heap.size w1 w2:=(Below.refl _ _).grown hgrow (Nat.le_refl _) (fun k hk=>by cases hk)
 have HX2:=ac ((hbel2.block w.heap.size (by omega)).trans HX1.out)
 have HB2:=ac (HB1.out.trans (hbel2.mono HB1.out.size))
 obtain⟨gu,hgu⟩:∃gu,gu=w.heap.size+1:=⟨_,rfl⟩
 rw [hs1,←hgu] at hm2'
 rw [←hgu]
 have hgw2:w.heap.size<gu:=by omega
 have hsz2:gu<w2.heap.size:=hm2'.lt
 have AH:=HA.out.drop nn (by omega)
 rw [hH1] at AH
 have lD:(T.drop nn).length=H:=by rw [List.length_drop];exact hH1
 have HSU:=iW gu 0 H' H' (List.replicate H' 0) _ (T.drop nn) s w2 hm2' (limbs_replicate _) (AH.below HB2.out) (fun b' off' n' c' e=>by cases e;exact .inl (by omega)) (by simp) (Nat.le_refl _) (by omega) (by rw [lD];omega) hs
 have HAH:=ac (And.intro AH lD)
 have HGU:=ac hgu
 clear hown hgrow hbel2 hm2' HX1 HB1 hs1 AH lD hgu
 refine HSU.mono ?_
 rintro e w3 ⟨cy,Z3,hcy,rfl,O3,L3,B3,F3,S3⟩
 have hcy2:cy<18446744073709551616:=by
  have:=Nat.pow_le_pow_right (n:=2) (by omega) (Nat.le_of_lt hs)
  omega
 have l3:Z3.length=H':=by rw [O3.len,List.length_replicate]
 have fr3:=B3.free (0+H)
 have cl3:=B3.cell (0+H) (by omega)
 rw [Nat.zero_add] at fr3 cl3
 have B4:=B3.set H cy
 have F4:=F3.setCell H (.int .u64 (cy:Int))
 have HU4:Hid (val (Z3.set H cy)=val (T.drop nn)*2 ^ s):=by
  have e1:=dm Z3 0 H cy (by omega)
  rw [Nat.zero_add,show H+1=H' by omega] at e1
  rw [HAH.out.2] at S3
  have e2:sv (Z3.set H cy) 0 H'=val (Z3.set H cy):=b8 (by rw [List.length_set];exact l3)
  rw [e2] at e1
  rw [e1,←S3,Nat.mul_comm cy]
  exact ac rfl
 have L4:=limbs_set L3 H cy hcy2
 have l4:(Z3.set H cy).length=H':=by rw [List.length_set];exact l3
 obtain⟨w4,hw4⟩:∃w4,w4=w3.setCell ⟨gu,H,none⟩ (.int .u64 (cy:Int)):=⟨_,rfl⟩
 rw [←hw4] at B4 F4
 have HX4:=ac ((F4.block w.heap.size (by omega) (by omega)).trans HX2.out)
 have HB4:=ac (HB2.out.trans (F4.below (by omega) HB2.out.size))
 have hsz4:gu<w4.heap.size:=B4.lt
 generalize Z3.set H cy=U4 at *
 generalize Z3.getD H 0=z3 at *
 have HU:=ac (And.intro B4 (And.intro L4 l4))
 have HW4:=ac hw4
 clear HSU O3 L3 B3 F3 S3 l3 B4 F4 L4 l4 HX2 HB2 hk0 hk1 hk2
 have d1:(0:Int)≤(H:Int):=by omega
 have d2:(H:Int)<(H':Int):=by omega
 obtain⟨hk0,_,_⟩:=cN HX4.out
 rw [HW4.out] at hk0
 go_wp2_with (at_make;rw [←HW4.out];refine wpList_make_full _ rfl _ _ 25 rfl w4.heap.size 61 i0 (.int .u64 0) 1 Tryz.underlying25 hi hz0 hz1 .i64 .i64 _ _ m rfl rfl (by omega) (by omega) (by rw [hz2];omega) (by unfold maxLen;omega) (Nat.le_refl _) ?_;intro w5 hown hgrow;obtain⟨hk0,hk1,hk2⟩:=cN ((((Below.refl w4.heap.size w4).grown hgrow (Nat.le_refl _) (fun k hk=>by cases hk)).block w.heap.size (by omega)).trans HX4.out))
 obtain⟨B4,L4,l4⟩:=HU.out
 obtain⟨hV,lV,hj,ht,hL,HOK⟩:=HV.out
 have hm5:Blk w5 w4.heap.size (List.replicate m 0):=Blk.made hown
 have hbel5:Below w4.heap.size w4 w5:=(Below.refl _ _).grown hgrow (Nat.le_refl _) (fun k hk=>by cases hk)
 have HX5:=ac ((hbel5.block w.heap.size (by omega)).trans HX4.out)
 have HB5:=ac (HB4.out.trans (hbel5.mono HB4.out.size))
 have hs4:w4.heap.size=w3.heap.size:=by rw [HW4.out];simp
 obtain⟨gq,hgq⟩:∃gq,gq=w3.heap.size:=⟨_,rfl⟩
 rw [hs4,←hgq] at hm5
 rw [←hgq]
 have hgq2:gu<gq:=by omega
 have hsz5:gq<w5.heap.size:=hm5.lt
 have AV:Arg w5 (.slice (some ⟨g,0,none⟩) V.length L) V:=by
  have h:=(hV.below HB5.out hgw).seg_arg lV 0 V.length L (by omega) (by omega) (by omega) (by omega)
  rw [show seg V 0 V.length=V by simp [seg]] at h
  exact h
 have htab:=HTT.out.1
 have HDV:=HOK gq 0 m m gu 0 H' g 0 L (List.replicate m 0) U4 w5 hm5 (limbs_replicate _) (B4.below hbel5 (by omega)) L4 AV (HTT.out.below HB5.out) (by omega) (by omega) (by omega) (by omega) (by omega) (by simp) (Nat.le_refl _) (by omega) (by rw [l4,hL];omega) (by rw [hL];omega) (by omega) (by rw [hL];omega)
  (by rw [hL];exact nM (H:=H) (j:=j) (by rw [l4];omega) (by omega) (by omega) HU4.out (by have:=val_lt HAH.out.1.limbs;rw [HAH.out.2] at this;exact this) hs HE.out.2.2.1)
 rw [hL,show m+L=H' by omega] at HDV
 have HLIM:=ac (And.intro hL (And.intro hj l4))
 have hgqs:=hgq
 clear hown hgrow hbel5 hm5 hs4 AV B4 L4 l4 hV lV hj ht hL HOK HX4 HB4 HV HU htab hgq hgqs
 refine HDV.mono ?_
 rintro e w6 ⟨he,Q6,U6,hrel⟩
 subst he
 have HX6:=ac ((hrel.fr.block w.heap.size (by omega) (by omega) (by omega)).trans HX5.out)
 have HB6:=ac (show Below w.heap.size w w6 from ⟨hrel.fr.os.trans HB5.out.os,hrel.fr.tape.trans HB5.out.tape,hrel.fr.output.trans HB5.out.output,Nat.le_trans HB5.out.size hrel.fr.size,fun k hk=>(hrel.fr.block k (by omega) (by omega) (by omega)).trans (HB5.out.block k hk)⟩)
 have hsz6:gq<w6.heap.size:=hrel.blkQ.lt
 have HR6:=ac hrel
 clear hrel HDV hk0 hk1 hk2 HX5 HB5
 obtain⟨hk0,hk1,hk2⟩:=cN HX6.out
 have lTk:(T.take nn).length=nn:=by rw [List.length_take];omega
 go_wp2_with (at_make;refine wpList_make_full _ rfl _ _ 25 rfl w6.heap.size 61 i0 (.int .u64 0) 1 Tryz.underlying25 hi hz0 hz1 .i64 .i64 _ _ n rfl rfl (by omega) (by omega) (by rw [hz2];omega) (by unfold maxLen;omega) (Nat.le_refl _) ?_;intro w7 hown hgrow;obtain⟨w8,M8,hcp,B8,L8,F8,O8,S8⟩:=cg w6.heap.size 0 n n (List.replicate n 0) (some ⟨b,off,none⟩) cap (T.take nn) w7 (Blk.made hown) (limbs_replicate _) (HA.out.front nn (by omega)).limbs (cl n 0 n) (by simp) (by rw [lTk];omega) (aG.arg ((HA.out.front nn (by omega)).below (HB6.out.trans (((Below.refl w6.heap.size w6).grown hgrow (Nat.le_refl _) (fun k hk=>by cases hk)).mono HB6.out.size))));rw [lTk] at hcp)
 have hbel7:Below w6.heap.size w6 w7:=(Below.refl _ _).grown hgrow (Nat.le_refl _) (fun k hk=>by cases hk)
 have hsz7:=hbel7.size
 obtain⟨gr,hgr⟩:∃gr,gr=w6.heap.size:=⟨_,rfl⟩
 rw [←hgr] at B8 F8 hcp ⊢
 have HB8:=ac (HB6.out.trans ((hbel7.mono HB6.out.size).trans (F8.below (by omega) (by omega))))
 have HX8:=ac ((F8.block w.heap.size (by omega) (by omega)).trans ((hbel7.block w.heap.size (by omega)).trans HX6.out))
 have yl:n - nn=L:=by omega
 have hcn:¬n=nn:=by omega
 have f0:(nn:Int)≤(n:Int):=by omega
 have f1:(0:Int)≤(L:Int):=by omega
 have f2:(L:Int)≤(H':Int):=by omega
 have o6:=HR6.out.outU
 have l6:U6.length=H':=by rw [o6.len];exact HLIM.out.2.2
 have q6:Q6.length=m:=by rw [HR6.out.outQ.len,List.length_replicate]
 have BU8:=(HR6.out.blkU.below hbel7 (by omega)).frb F8 (by omega)
 have BQ8:=(HR6.out.blkQ.below hbel7 (by omega)).frb F8 (by omega)
 have lM:M8.length=n:=by rw [O8.len,List.length_replicate]
 have HSD:=pK gr nn L L M8 (.slice (some ⟨gu,0,none⟩) L H') (seg U6 0 L) s w8.drew (B8.below (Below.refl _ _).drew B8.lt) L8 (BU8.seg_arg HR6.out.limU 0 L H' (by omega) (by omega) (by omega) (by omega)).drew (aE (by omega) _ _) (by omega) (Nat.le_refl _) (by omega) (by rw [bK _ _ _ (by omega)];exact Nat.le_refl _) (by rw [bK _ _ _ (by omega)];exact Nat.le_refl _) hs
 have H8:=ac (And.intro L8 (And.intro O8 (And.intro S8 (And.intro lM (And.intro q6 BQ8)))))
 obtain⟨hj0,hj1,hj2⟩:=cN HX8.out
 have hsz8:=B8.lt
 have hgr2:gq<gr:=by omega
 clear hgr hown hgrow hbel7 hcp B8 F8 L8 O8 S8 lM o6 l6 q6 BU8 BQ8 HX6 HB6 hk0 hk1 hk2 hi hz0 hz1 hz2
 have hszb:w.heap.size<w8.drew.heap.size:=by show w.heap.size<w8.heap.size;omega
 have hneb:w.heap.size≠gr:=by omega
 go_region_held3 (fun w'=>w'.cell? ⟨w.heap.size,0,none⟩=some (.slice (some ⟨g,0,none⟩) L L)∧w'.cell? ⟨w.heap.size,1,none⟩=some (.int .i64 nn)∧w'.cell? ⟨w.heap.size,2,none⟩=some (.int .i64 s)) (go_keep) (first
  | (go_at_call 113;refine HSD.mono ?_;rintro e w9 ⟨he,M9,O9,L9,B9,F9,S9⟩;subst he;obtain⟨hx0,hx1,hx2⟩:=cN ((F9.block w.heap.size hszb hneb).trans HX8.out)))
 have HEND:Hid (d6 w (val T) B X.length (.returned (.tuple #[.slice (some ⟨gq,0,none⟩) m m,.slice (some ⟨gr,0,none⟩) n n])) w9):=by
  obtain⟨L8,O8,S8,lM,q6,BQ8⟩:=H8.out
  obtain⟨eV,eB,_,h0⟩:=HE.out
  have hr:=HR6.out
  have e1:=hr.eq
  have e2:=hr.lt
  simp only [Nat.add_zero,Nat.sub_zero] at e1 e2
  have l9:M9.length=n:=by rw [O9.len];exact lM
  rw [b8 q6,show L+m=H' by omega,b8 HLIM.out.2.2,HU4.out,eV] at e1
  rw [eV] at e2
  have vt:=cC HA.out.limbs nn (by omega)
  have s8:=aF M8 0 nn L (by omega)
  rw [show nn+L=n by omega,S8] at s8
  have hP:=cm L8 0 nn
  have s8':sv M8 0 nn=val (T.take nn):=by
   rcases Nat.eq_zero_or_pos (sv M8 (0+nn) L) with z|z
   ·rw [z,Nat.mul_zero] at s8;omega
   ·have:=Nat.mul_le_mul_left (18446744073709551616 ^ nn) z
    omega
  have s9:=aF M9 0 nn L (by omega)
  rw [show nn+L=n by omega,b8 l9,O9.sv 0 nn (by omega),s8',Nat.zero_add,S9] at s9
  obtain⟨r1,r2⟩:=lL (Nat.two_pow_pos s) e1 e2 vt
  rw [←ce T nn (by omega),←eB] at r1 r2
  have A1:=Ans.of_blk (base:=w.heap.size) (zs:=Q6) (show w.heap.size≤gq by omega) (BQ8.frb F9.undrew (by omega)) List.take_length.symm (Nat.le_refl _) (by omega) hr.limQ
  have A2:=Ans.of_blk (base:=gr) (zs:=M9) (Nat.le_refl gr) B9 List.take_length.symm (Nat.le_refl _) (by omega) L9
  rw [q6] at A1
  rw [l9] at A2
  have hb9:Below w.heap.size w w9:=HB8.out.trans (F9.undrew.below (by omega) HB8.out.size)
  refine ac ⟨⟨_,_,Q6,M9,gr,rfl,A1,⟨by omega,Nat.le_of_lt B9.lt⟩,(fun g' e=>?_),A2,r1,?_,by omega,by omega,fun _=>by omega⟩,hb9⟩
  ·have:g'=gq:=by
    simp [Value.ownBlock] at e
    exact e.symm
   omega
  ·rw [s9];exact r2
 clear H8 HR6 O9 L9 B9 F9 S9 HSD hx0 hx1 hx2 hj0 hj1 hj2
 go_wp2
 go_ret2
 exact HEND.out

theorem jd (va vd:Value)(X:List Nat)(base B n:Nat)(w:World)(hA:Arg w va X)(hD:Dvs w base vd B n)(hT:Tab w)(hfew:X.length≤17592186044416) :
  Calls Tryz.prog 116 #[vd,va] w (d6 w (val X) B X.length):=by
 by_cases h:(tr X).length<n
 ·exact mQ va vd X base B n w hA hD h hfew
 ·exact mW va vd X base B n w hA hD hT (by omega) hfew
end Go.Proofs.YtdbjbbdhlpfhjaaGreatDoor

