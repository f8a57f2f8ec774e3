/- Package mul: thirds. -/
import Derived.Test.YtdbjbbdhlpfhjaaGreatDoorB06
import Derived.Test.YtdbjbbdhlpfhjaaGreatDoorB05
import Derived.Test.YtdbjbbdhlpfhjaaGreatDoorB04
import Derived.Test.YtdbjbbdhlpfhjaaGreatDoorB01
set_option maxRecDepth 20000
set_option maxHeartbeats 1000000
namespace Go.Proofs.YtdbjbbdhlpfhjaaGreatDoor
open Go.RowKit
open Lm

theorem ko (X:List Nat)(d:Nat)(h:X.length≤d):val (X.drop d)=0:=by
 rw [List.drop_of_length_le h];rfl

theorem iZ (Z:List Nat)(zo d q n zh c0 c4:Nat)(hd:d≤q)(hq:q≤n)(hl:zo+n≤Z.length)(h0:sv Z zo d=c0)(h1:sv Z (zo+d) (q - d)=0)(h2:sv Z zh (n - q)=c4)(hz:zh=zo+q∨(zh=zo∧n - q=0)) :
  sv Z zo n=c0+18446744073709551616 ^ q*c4:=by
 have e1:sv Z zo q=c0:=by
  have:=aB Z zo d (q - d) (by omega)
  rw [show d+(q - d)=q by omega,h0,h1,Nat.mul_zero,Nat.add_zero] at this
  exact this
 have e2:=aB Z zo q (n - q) (by omega)
 rw [show q+(n - q)=n by omega,e1] at e2
 rw [e2]
 rcases hz with rfl|⟨rfl,h⟩
 ·rw [h2]
 ·rw [h,aR] at h2
  rw [h,aR,←h2]

theorem nW (Z:List Nat)(o a c:Nat)(hl:o+a≤Z.length)(h:sv Z o (a+c)=0):sv Z o a=0∧sv Z (o+a) c=0:=by
 rw [aB Z o a c hl] at h
 have h1:sv Z o a=0:=by omega
 have h2:18446744073709551616 ^ a*sv Z (o+a) c=0:=by omega
 refine⟨h1,?_⟩
 rcases Nat.mul_eq_zero.1 h2 with h3|h3
 ·exact absurd h3 (Nat.pos_iff_ne_zero.1 (Nat.pow_pos (by omega)))
 ·exact h3

theorem iG (A B s m:Nat)(hA:A<3*18446744073709551616 ^ s)(hB:B<3*18446744073709551616 ^ s)(hm:m=s+1):2*(A*B)<18446744073709551616 ^ (m+m):=by
 subst hm
 rw [Nat.pow_add,Nat.pow_succ]
 generalize (18446744073709551616:Nat) ^ s=P at *
 have h:=Nat.mul_lt_mul'' hA hB
 have e1:3*P*(3*P)=9*(P*P):=by grind
 have e2:P*18446744073709551616*(P*18446744073709551616)=340282366920938463463374607431768211456*(P*P):=by grind
 rw [e1] at h
 rw [e2]
 generalize P*P=S at *
 omega

def Env (w:World)(kw kx gx gy bz:Nat)(cw cx cy:Array Value)(tw tv:TypeId)(MX MY Z:List Nat):Prop:=
 w.heap[kw]?=some (.cells cw tw)∧w.heap[kx]?=some (.cells cx tv)∧w.heap[kx+1]?=some (.cells cy tv)∧Blk w gx MX∧Blk w gy MY∧Blk w bz Z

theorem dU {w w':World}{k:Nat}{o:Obj}(h:w.heap[k]?=some o)(hb:Below w.heap.size w w'):w'.heap[k]?=some o:=by
 have hlt:k<w.heap.size:=by
  refine Nat.lt_of_not_le fun hle=>?_
  rw [Array.getElem?_eq_none hle] at h;cases h
 rw [hb.block k hlt];exact h

theorem Env.below {w w':World}{kw kx gx gy bz:Nat}{cw cx cy:Array Value}{tw tv:TypeId}{MX MY Z:List Nat}(h:Env w kw kx gx gy bz cw cx cy tw tv MX MY Z)(hb:Below w.heap.size w w'):Env w' kw kx gx gy bz cw cx cy tw tv MX MY Z:=
 ⟨dU h.1 hb,dU h.2.1 hb,dU h.2.2.1 hb,h.2.2.2.1.below' hb,h.2.2.2.2.1.below' hb,h.2.2.2.2.2.below' hb⟩

theorem dr (H T:Int)(gx gy o m R n:Nat)(MX MY:List Nat)(w:World)(x y:Nat)(BX:Blk w gx MX)(BY:Blk w gy MY)(LX:Limbs MX)(LY:Limbs MY)(hx:o+m≤MX.length)(hy:o+m≤MY.length)(hc:m≤R - o)(hR:R≤35184372088831)(hm:0<m)(hmn:m+m<n)
  (vx:sv MX o m=x) (vy:sv MY o m=y) (hI:∀P Q:List Nat,P.length+Q.length<n→bV H T P Q) (hmm:m+m≤35184372088831) :
  Calls Tryz.prog 214 #[way H T,.slice (some ⟨gx,o,none⟩) m (R - o),.slice (some ⟨gy,o,none⟩) m (R - o)] w (iC w (m+m) (x*y)):=by
 have s1:=bk MX o m hx
 have s2:=bk MY o m hy
 have:=mb H T _ _ (seg MX o m) (seg MY o m) w (BX.seg_arg LX o m (R - o) hx hc (by omega) (by omega)) (BY.seg_arg LY o m (R - o) hy hc (by omega) (by omega)) (by omega) (by omega) (by omega) (hI _ _ (by omega))
 rw [s1,s2,show val (seg MX o m)=x from vx,show val (seg MY o m)=y from vy] at this
 exact this

theorem d9 (X:List Nat)(s d:Nat)(h1:d≤X.length)(h2:d≤s+s)(h3:s+s≤d):val X=val (X.take s)+18446744073709551616 ^ s*val ((X.drop s).take s)+18446744073709551616 ^ s*18446744073709551616 ^ s*val (X.drop d):=by
 have e1:=bJ X s (by omega)
 have e2:=bJ (X.drop s) s (by simp;omega)
 rw [List.drop_drop,show s+s=d by omega] at e2
 rw [e1,e2,Nat.mul_add,←Nat.add_assoc,←Nat.mul_assoc]

theorem eG {X:List Nat}(hX:Limbs X)(s d:Nat)(h1:X.length≤3*s)(h2:d≤s+s∧s+s≤d)(h3:d≤X.length):val (X.take s)+val ((X.drop s).take s)+val (X.drop d)<3*18446744073709551616 ^ s:=by
 have a:=cm hX s (by omega)
 have b:=cm (X:=X.drop s) (fun z hz=>hX z (List.mem_of_mem_drop hz)) s (by simp;omega)
 have c:=dm hX d s (by omega)
 omega

theorem gI (H T:Int)(bz zo cap s:Nat)(Z:List Nat)(b off c1 b2 off2 c2:Nat)(X Y:List Nat)(w:World)(hB:Blk w bz Z)(hLZ:Limbs Z)
  (hA:Arg w (.slice (some ⟨b,off,none⟩) X.length c1) X) (hA2:Arg w (.slice (some ⟨b2,off2,none⟩) Y.length c2) Y) (hb:b≠bz) (hb2:b2≠bz)
  (hzo:zo+(X.length+Y.length)≤Z.length) (hc1:X.length+Y.length≤cap) (hc2:cap≤9223372036854775807) (hs0:0<s) (hYs:2*s≤Y.length) (hYX:Y.length≤X.length) (hXs:X.length≤3*s) (hlX:X.length≤4398046511103) (h22:2*s+2<X.length+Y.length)
  (hI:∀P Q:List Nat,P.length+Q.length<X.length+Y.length→bV H T P Q) :
  Calls Tryz.prog 191 #[way H T,.slice (some ⟨bz,zo,none⟩) (X.length+Y.length) cap,.slice (some ⟨b,off,none⟩) X.length c1,.slice (some ⟨b2,off2,none⟩) Y.length c2,.int .i64 s] w (aG bz zo (X.length+Y.length) Z w (val X*val Y)):=by
 unfold way
 obtain⟨_,_,e0,hcc1,hcm1,_⟩:=hA.form
 cases e0
 obtain⟨_,_,e0,hcc2,hcm2,_⟩:=hA2.form
 cases e0
 have hbz:=hB.lt
 have hbw:=hA.block (by omega)
 have hbw2:=hA2.block (by omega)
 obtain⟨w1,hw1⟩:∃w1,w1=w.alloc (.cells #[.int .i64 H,.int .i64 T] 117):=⟨_,rfl⟩
 have hbel1:Below w.heap.size w w1:=by rw [hw1];exact (Below.refl _ _).alloc (Nat.le_refl _) _
 have hs1:w1.heap.size=w.heap.size+1:=by rw [hw1];simp
 have hb1:w1.heap[w.heap.size]?=some (.cells #[.int .i64 H,.int .i64 T] 117):=by rw [hw1];exact heap_alloc_new ..
 have HW1:=aa hw1
 have HX1:=aa hb1
 have HB1:=aa (hB.below' hbel1)
 have HA1:=aa (hA.below hbel1)
 have HA2:=aa (hA2.below hbel1)
 have HF1:=aa (Fr.of_below (bz:=bz) hbel1)
 have HII:=aa hI
 have mX:=hA.limbs
 have mY:=hA2.limbs
 clear hw1 hbel1 hb1 hB hA hA2 hI
 obtain⟨n,hn⟩:∃n:Nat,X.length+Y.length=n:=⟨_,rfl⟩
 have hn1:n≤X.length+Y.length:=by omega
 have hn2:X.length+Y.length≤n:=by omega
 rw [hn] at hzo hc1 HII h22 ⊢
 have HN:=aa hn
 clear hn
 obtain⟨d,ed,hd1,hd2⟩:∃d:Nat,(2:Int)*(s:Int)=(d:Int)∧d≤2*s∧2*s≤d:=⟨2*s,by omega,by omega,by omega⟩
 obtain⟨q,eq,hq1,hq2⟩:∃d:Nat,(4:Int)*(s:Int)=(d:Int)∧d≤4*s∧4*s≤d:=⟨4*s,by omega,by omega,by omega⟩
 obtain⟨r,er,hr1,hr2⟩:∃d:Nat,(3:Int)*(s:Int)=(d:Int)∧d≤3*s∧3*s≤d:=⟨3*s,by omega,by omega,by omega⟩
 have wd:IntKind.i64.wrap (d:Int)=(d:Int):=by rw [IntKind.wrap_i64];omega
 have wq:IntKind.i64.wrap (q:Int)=(q:Int):=by rw [IntKind.wrap_i64];omega
 have kd0:(0:Int)≤(d:Int):=by omega
 have kd1:(d:Int)≤(n:Int):=by omega
 have kd2:¬cap=d:=by omega
 have kd3:(d:Int)≤(cap:Int):=by omega
 have kq0:(0:Int)≤(q:Int):=by omega
 have kq1:(q:Int)≤(n:Int):=by omega
 have kq3:(q:Int)≤(cap:Int):=by omega
 obtain⟨zh,ezh,hzh⟩:∃zh:Nat,(if cap=q then (some ⟨bz,zo,none⟩:Option Addr) else some ⟨bz,zo+q,none⟩)=some ⟨bz,zh,none⟩∧((zh=zo+q)∨(zh=zo∧n - q=0)):=by
  by_cases hc:cap=q
  ·exact⟨zo,by rw [if_pos hc],.inr ⟨rfl,by omega⟩⟩
  ·exact⟨zo+q,by rw [if_neg hc],.inl rfl⟩
 have HZH:=aa hzh
 clear hzh
 go_enter Tryz.func191,Tryz.ntmps191
 go_wp2_with fail
 rw [←HW1.out]
 go_region
 obtain⟨w2,Z1,hrun,O2,L2,B2,F2,S2⟩:=fC bz (zo+d) (n - d) (cap - d) Z w1.drew HB1.out hLZ (by omega)
 have F2':=F2.undrew
 have l1:=O2.len
 have HX2:=aa ((F2'.block w.heap.size (by omega) (by omega)).trans HX1.out)
 have HA3:=aa (HA1.out.frb F2' hb)
 have HA23:=aa (HA2.out.frb F2' hb2)
 have HF2:=aa (HF1.out.trans F2')
 have tk1:(X.take s).length=s:=by simp;omega
 have tk2:(Y.take s).length=s:=by simp;omega
 have HI1:=HII.out (X.take s) (Y.take s) (by rw [tk1,tk2];omega) bz zo cap Z1 _ _ w2.drew B2 L2 (HA3.out.front s (by omega)).drew (HA23.out.front s (by omega)).drew
  (fun b' off' n' c' e=>by cases e;exact hb) (fun b' off' n' c' e=>by cases e;exact hb2) (by rw [tk1,tk2];omega) (by rw [tk1,tk2];omega) (by omega)
 rw [tk1,tk2,show s+s=d by omega] at HI1
 unfold way at HI1
 have HK1:=aa (fun (w7:World) (hF:Fr bz w2.drew w7)=>(by
  have e:w7.heap[w.heap.size]?=some (.cells #[.int .i64 H,.int .i64 T] 117):=by rw [hF.block w.heap.size (by show _<w2.heap.size;have:=F2'.size;omega) (by omega)];exact HX2.out
  exact⟨e,by simp [World.cell?,e],by simp [World.cell?,e]⟩:w7.heap[w.heap.size]?=some (.cells #[.int .i64 H,.int .i64 T] 117)∧w7.cell? ⟨w.heap.size,0,none⟩=some (.int .i64 H)∧w7.cell? ⟨w.heap.size,1,none⟩=some (.int .i64 T)))
 have hq0:w2.cell? ⟨w.heap.size,0,none⟩=some (.int .i64 H):=by have e:=HX2.out;simp [World.cell?,e]
 have hq1':w2.cell? ⟨w.heap.size,1,none⟩=some (.int .i64 T):=by have e:=HX2.out;simp [World.cell?,e]
 have hsz2:w.heap.size<w2.heap.size:=by have:=F2'.size;omega
 have HS2:=aa (nW Z1 (zo+d) (q - d) (n - q) (by omega) (by rw [show q - d+(n - q)=n - d by omega];exact S2))
 rw [show zo+d+(q - d)=zo+q by omega] at HS2
 have HO2:=aa (O2.wider (lo':=zo) (hi':=zo+n) (by omega) (by omega))
 have ks0:(0:Int)≤(s:Int):=by omega
 have ks1:(s:Int)≤(X.length:Int):=by omega
 have ks2:(s:Int)≤(Y.length:Int):=by omega
 have ks3:(s:Int)≤(c1:Int):=by omega
 have ks4:(s:Int)≤(c2:Int):=by omega
 clear O2 L2 B2 F2 S2 F2' HB1 HF1 HA1 HA2 HX1 tk1 tk2 hLZ
 go_wp2
 clear hrun HW1 hs1
 go_region_held3 (fun w'=>w'.cell? ⟨w.heap.size,0,none⟩=some (.int .i64 H)∧w'.cell? ⟨w.heap.size,1,none⟩=some (.int .i64 T)) (go_keep) (first | (go_at_call 175;refine HI1.mono ?_;rintro e w3 ⟨rfl,Z2,p1,p2,p3,p4,p5⟩;obtain⟨hx3,hk2,hk3⟩:=HK1.out w3 p4))
 have F3:=p4.undrew
 have HX3:=aa hx3
 have HA4:=aa (HA3.out.frb F3 hb)
 have HA24:=aa (HA23.out.frb F3 hb2)
 have HF3:=aa (HF2.out.trans F3)
 have hsz3:w.heap.size<w3.heap.size:=by have:=F3.size;omega
 have l2:=p1.len
 have HO3:=aa (HO2.out.trans (p1.wider (Nat.le_refl _) (by omega)))
 have S3:=aa p5
 have S3b:Hid (sv Z2 (zo+d) (q - d)=0):=aa (by rw [p1.sv (zo+d) (q - d) (by omega)];exact HS2.out.1)
 have S3c:Hid (sv Z2 (zo+q) (n - q)=0):=aa (by rw [p1.sv (zo+q) (n - q) (by omega)];exact HS2.out.2)
 have HB3:=aa p3
 have HL3:=aa p2
 clear p1 p2 p3 p4 p5 hx3 HI1 HK1 hq0 hq1' HX2 HA3 HA23 HF2 F3 HO2 HS2 hsz2
 by_cases hYd:d<Y.length
 ·have kY:(d:Int)<(Y.length:Int):=by omega
  have kY1:(d:Int)≤(X.length:Int):=by omega
  have kY2:(d:Int)≤(Y.length:Int):=by omega
  have kY3:¬c1=d:=by omega
  have kY4:¬c2=d:=by omega
  have hzq:zh=zo+q:=by
   rcases HZH.out with h|h
   ·exact h
   ·omega
  have HI2:=HII.out (X.drop d) (Y.drop d) (by simp;omega) bz zh (cap - q) Z2 _ _ w3.drew HB3.out HL3.out (HA4.out.drop d (by omega)).drew (HA24.out.drop d (by omega)).drew
   (fun b' off' n' c' e=>by cases e;exact hb) (fun b' off' n' c' e=>by cases e;exact hb2) (by simp;omega) (by simp;omega) (by omega)
  rw [List.length_drop,List.length_drop,show X.length - d+(Y.length - d)=n - q by omega] at HI2
  unfold way at HI2
  have HZQ:=aa hzq
  have HK2:=aa (fun (w7:World) (hF:Fr bz w3.drew w7)=>(by
   have e:w7.heap[w.heap.size]?=some (.cells #[.int .i64 H,.int .i64 T] 117):=by rw [hF.block w.heap.size (by show _<w3.heap.size;omega) (by omega)];exact HX3.out
   exact⟨e,by simp [World.cell?,e],by simp [World.cell?,e]⟩:w7.heap[w.heap.size]?=some (.cells #[.int .i64 H,.int .i64 T] 117)∧w7.cell? ⟨w.heap.size,0,none⟩=some (.int .i64 H)∧w7.cell? ⟨w.heap.size,1,none⟩=some (.int .i64 T)))
  clear hzq
  go_wp2
  go_region_held3 (fun w'=>w'.cell? ⟨w.heap.size,0,none⟩=some (.int .i64 H)∧w'.cell? ⟨w.heap.size,1,none⟩=some (.int .i64 T)) (go_keep) (first | (go_at_call 175;refine HI2.mono ?_;rintro e w4 ⟨rfl,Z3,p1,p2,p3,p4,p5⟩;obtain⟨hx4,hk0,hk1⟩:=HK2.out w4 p4))
  have F4:=p4.undrew
  have CX:=aa hx4
  have CA:=aa (HA4.out.frb F4 hb)
  have CA2:=aa (HA24.out.frb F4 hb2)
  have CF:=aa (HF3.out.trans F4)
  have CB:=aa p3
  have CL:=aa p2
  have lC:zo+n≤Z3.length:=by have:=p1.len;omega
  have hzq:=HZQ.out
  have CO:=aa (HO3.out.trans (p1.wider (by omega) (by omega)))
  have S0:sv Z3 zo d=val (X.take s)*val (Y.take s):=by rw [p1.sv zo d (by omega)];exact S3.out
  have S1:sv Z3 (zo+d) (q - d)=0:=by rw [p1.sv (zo+d) (q - d) (by omega)];exact S3b.out
  have CS0:=aa S0
  have CS2:=aa p5
  have CT:=aa (iZ Z3 zo d q n zh _ _ (by omega) (by omega) (by omega) S0 S1 p5 HZH.out)
  have hsz4:w.heap.size<w4.heap.size:=by have:=F4.size;omega
  clear p1 p2 p3 p4 p5 hx4 HI2 HK2 hk2 hk3 HX3 HA4 HA24 HF3 F4 HO3 S3 S3b S3c HB3 HL3 hsz3 S0 S1 l2 hzq
  have HV1:=fm b off c1 s X w4 CA.out hs0 (by omega) hXs hlX
  rw [show 2*s=d by omega] at HV1
  go_wp2_with fail
  refine HV1.mono ?_
  rintro e w5 ⟨gx,m,d2,d3,R,ex,MX,em,eR,rfl,hgx,BMX,bel5,QX⟩
  have HV2:=fm b2 off2 c2 s Y w5 (CA2.out.below bel5) hs0 (by omega) (by omega) (by omega)
  rw [show 2*s=d by omega] at HV2
  have HD5:=aa (And.intro BMX (And.intro bel5 QX))
  have HEM:=aa (And.intro em eR)
  have hm1:m≤s+1:=by omega
  have hm2:s+1≤m:=by omega
  have hR1:R≤4*m:=by omega
  have hR2:4*m≤R:=by omega
  clear BMX bel5 QX HV1 em eR
  generalize hbx:decide (val (X.take s)+val (X.drop d)<val ((X.drop s).take s))=bx
  have HBX:=aa hbx
  clear hbx
  go_wp2_with fail
  refine HV2.mono ?_
  rintro e w6 ⟨gy,m',d2',d3',R',ey,MY,em',eR',rfl,hgy,BMY,bel6,QY⟩
  obtain rfl:m=m':=by have:=HEM.out.1;omega
  obtain rfl:R=R':=by have:=HEM.out.2;omega
  obtain rfl:d2=d2':=by have:=HD5.out.2.2.h2;have:=QY.h2;omega
  obtain rfl:d3=d3':=by have:=HD5.out.2.2.h3;have:=QY.h3;omega
  obtain⟨BMX,bel5,QX⟩:=HD5.out
  have hd2a:d2≤m+m:=Nat.le_of_eq QX.h2
  have hd2b:m+m≤d2:=Nat.le_of_eq QX.h2.symm
  have hd3a:d3≤m+m+m:=Nat.le_of_eq QX.h3
  have hd3b:m+m+m≤d3:=Nat.le_of_eq QX.h3.symm
  have lX:m+m+m+m≤MX.length:=Nat.le_of_eq QX.len.symm
  have lY:m+m+m+m≤MY.length:=Nat.le_of_eq QY.len.symm
  generalize hby:decide (val (Y.take s)+val (Y.drop d)<val ((Y.drop s).take s))=by'
  obtain⟨w7,hw7⟩:∃w7,w7=(w6.alloc (.cells #[.slice (some ⟨gx,m,none⟩) m (R - m),.slice (some ⟨gx,d2,none⟩) m (R - d2),.slice (some ⟨gx,d3,none⟩) m (R - d3),.bool bx] 201)).alloc (.cells #[.slice (some ⟨gy,m,none⟩) m (R - m),.slice (some ⟨gy,d2,none⟩) m (R - d2),.slice (some ⟨gy,d3,none⟩) m (R - d3),.bool by'] 201):=⟨_,rfl⟩
  have bel7:Below w6.heap.size w6 w7:=by rw [hw7];exact ((Below.refl _ _).alloc (Nat.le_refl _) _).alloc (by simp) _
  obtain⟨kx,hkx⟩:∃k,k=w6.heap.size:=⟨_,rfl⟩
  have belC:Below w4.heap.size w4 w7:=bel5.trans ((bel6.mono bel5.size).trans (bel7.mono (Nat.le_trans bel5.size bel6.size)))
  have E7:Env w7 w.heap.size kx gx gy bz #[.int .i64 H,.int .i64 T] #[.slice (some ⟨gx,m,none⟩) m (R - m),.slice (some ⟨gx,d2,none⟩) m (R - d2),.slice (some ⟨gx,d3,none⟩) m (R - d3),.bool bx] #[.slice (some ⟨gy,m,none⟩) m (R - m),.slice (some ⟨gy,d2,none⟩) m (R - d2),.slice (some ⟨gy,d3,none⟩) m (R - d3),.bool by'] 117 201 MX MY Z3:=by
   refine⟨dU CX.out belC,?_,?_,(BMX.below' bel6).below' bel7,BMY.below' bel7,CB.out.below' belC⟩
   ·rw [hkx,hw7,Below.heap_alloc _ _ _ (by simp)];exact heap_alloc_new ..
   ·rw [hkx,hw7,show w6.heap.size+1=(w6.alloc (.cells #[.slice (some ⟨gx,m,none⟩) m (R - m),.slice (some ⟨gx,d2,none⟩) m (R - d2),.slice (some ⟨gx,d3,none⟩) m (R - d3),.bool bx] 201)).heap.size by simp];exact heap_alloc_new ..
  have hN:m+m=m+m:=rfl
  have HF1:=dr H T gx gy m m R n MX MY w7 _ _ E7.2.2.2.1 E7.2.2.2.2.1 QX.limbs QY.limbs (by omega) (by omega) (by omega) (by omega) (by omega) (by omega) QX.v1 QY.v1 HII.out (by omega)
  unfold way at HF1
  obtain⟨hq0,hq1'⟩:=dt E7.1
  obtain⟨hx0,_,_,_⟩:=aP E7.2.1
  obtain⟨hy0,_,_,_⟩:=aP E7.2.2.1
  have HE7:=aa E7
  have HQX:=aa QX
  have HQY:=aa QY
  have HBEL:=aa belC
  have HW7:=aa hw7
  have HKX:=aa hkx
  have HBY:=aa hby
  rw [hkx] at hx0 hy0
  rw [hw7] at hq0 hq1' hx0 hy0
  obtain⟨N,hNm,hN1,hN2⟩:∃N:Nat,m+m=N∧N≤2*m∧2*m≤N:=⟨_,rfl,by omega,by omega⟩
  have HNM:=aa hNm
  have hNb:N≤1125899906842624:=by omega
  rw [hNm] at HF1
  have hszC:=belC.size
  have hkx7:kx+1<w7.heap.size:=lt_of_block HE7.out.2.2.1
  have hkxb:w.heap.size<kx:=by have:=HKX.out;have:=bel5.size;have:=bel6.size;omega
  clear E7 QX QY belC bel5 bel6 bel7 BMX BMY hw7 hkx hby HD5 hgx hgy HV2 em' eR' hN hNm hk0 hk1
  go_wp2_with fail
  rw [←HW7.out,←HKX.out]
  clear hq0 hq1' hx0 hy0
  refine HF1.mono ?_
  rintro e w8 ⟨g1,V1,rfl,hg1,lV1,LV1,BV1,vV1,bel8⟩
  have E8:=HE7.out.below bel8
  have HF2:=dr H T gx gy d3 m R n MX MY w8 _ _ E8.2.2.2.1 E8.2.2.2.2.1 HQX.out.limbs HQY.out.limbs (by omega) (by omega) (by omega) (by omega) (by omega) (by omega) HQX.out.v3 HQY.out.v3 HII.out (by omega)
  unfold way at HF2
  rw [HNM.out] at HF2
  obtain⟨hq0,hq1'⟩:=dt E8.1
  obtain⟨_,_,hx2,_⟩:=aP E8.2.1
  obtain⟨_,_,hy2,_⟩:=aP E8.2.2.1
  have HE8:=aa E8
  have hlt1:=BV1.lt
  have hsz8:=bel8.size
  have HBEL8:=aa (HBEL.out.trans (bel8.mono HBEL.out.size))
  have HV1:Hid (bN w8 g1 N _):=aa ⟨V1,BV1,LV1,lV1,vV1⟩
  clear E8 bel8 BV1 LV1 lV1 vV1 V1 HF1 HE7 HBEL
  go_wp2_with fail
  refine HF2.mono ?_
  rintro e w9 ⟨g2,V2,rfl,hg2,lV2,LV2,BV2,vV2,bel9⟩
  have E9:=HE8.out.below bel9
  have HF3:=dr H T gx gy d2 m R n MX MY w9 _ _ E9.2.2.2.1 E9.2.2.2.2.1 HQX.out.limbs HQY.out.limbs (by omega) (by omega) (by omega) (by omega) (by omega) (by omega) HQX.out.v2 HQY.out.v2 HII.out (by omega)
  unfold way at HF3
  rw [HNM.out] at HF3
  clear hq0 hq1' hx2 hy2
  obtain⟨hq0,hq1'⟩:=dt E9.1
  obtain⟨_,hx1,_,_⟩:=aP E9.2.1
  obtain⟨_,hy1,_,_⟩:=aP E9.2.2.1
  have HE9:=aa E9
  have hlt2:=BV2.lt
  have hsz9:=bel9.size
  have HBEL9:=aa (HBEL8.out.trans (bel9.mono HBEL8.out.size))
  have HV1':=aa (HV1.out.fr (Fr.of_below (bz:=bz) bel9) (by omega))
  have HV2:Hid (bN w9 g2 N _):=aa ⟨V2,BV2,LV2,lV2,vV2⟩
  clear E9 bel9 BV2 LV2 lV2 vV2 V2 HF2 HE8 HBEL8 HV1
  go_wp2_with fail
  refine HF3.mono ?_
  rintro e w10 ⟨g3,V3,rfl,hg3,lV3,LV3,BV3,vV3,bel10⟩
  have E10:=HE9.out.below bel10
  have hlt3:=BV3.lt
  have HS0:=St3.mk (CF.out.trans (Fr.of_below (HBEL9.out.trans (bel10.mono HBEL9.out.size)))) E10.2.2.2.2.2 CL.out hbz (by omega) (by omega) (by omega) (by omega) (by omega) (by omega) (HV1'.out.fr (Fr.of_below (bz:=bz) bel10) (by omega)) (HV2.out.fr (Fr.of_below (bz:=bz) bel10) (by omega)) (⟨V3,BV3,LV3,lV3,vV3⟩:bN w10 g3 N _) (Nat.le_refl w10.heap.size) (fun _ _ _ _ _ _=>rfl)
  have T1:=jc (val (X.take s)) (val ((X.drop s).take s)) (val (X.drop d)) (val (Y.take s)) (val ((Y.drop s).take s)) (val (Y.drop d))
  have T2:=iv (val (X.take s)) (val ((X.drop s).take s)) (val (X.drop d)) (val (Y.take s)) (val ((Y.drop s).take s)) (val (Y.drop d))
  have T3:=ja (val (X.take s)) (val ((X.drop s).take s)) (val (X.drop d)) (val (Y.take s)) (val ((Y.drop s).take s)) (val (Y.drop d)) _ _ rfl rfl
  rw [HBX.out,HBY.out] at T3
  have FT:=iG (val (X.take s)+val ((X.drop s).take s)+val (X.drop d)) (val (Y.take s)+val ((Y.drop s).take s)+val (Y.drop d)) s m (eG mX s d (by omega) ⟨by omega,by omega⟩ (by omega)) (eG mY s d (by omega) ⟨by omega,by omega⟩ (by omega)) HEM.out.1
  rw [HNM.out] at FT
  have TT:=g9 (val (X.take s)) (val ((X.drop s).take s)) (val (X.drop d)) (val (Y.take s)) (val ((Y.drop s).take s)) (val (Y.drop d)) (18446744073709551616 ^ s)
  rw [←d9 X s d (by omega) (by omega) (by omega),←d9 Y s d (by omega) (by omega) (by omega),←Nat.pow_add,←Nat.pow_add,←Nat.pow_add,show s+s+(s+s)=q by omega,show s+s+s=r by omega,show s+s=d by omega] at TT
  obtain⟨c0,k0⟩:∃c,val (X.take s)*val (Y.take s)=c:=⟨_,rfl⟩
  obtain⟨c1',k1⟩:∃c,val (X.take s)*val ((Y.drop s).take s)+val ((X.drop s).take s)*val (Y.take s)=c:=⟨_,rfl⟩
  obtain⟨c2',k2⟩:∃c,val (X.take s)*val (Y.drop d)+val ((X.drop s).take s)*val ((Y.drop s).take s)+val (X.drop d)*val (Y.take s)=c:=⟨_,rfl⟩
  obtain⟨c3,k3⟩:∃c,val ((X.drop s).take s)*val (Y.drop d)+val (X.drop d)*val ((Y.drop s).take s)=c:=⟨_,rfl⟩
  obtain⟨c4,k4⟩:∃c,val (X.drop d)*val (Y.drop d)=c:=⟨_,rfl⟩
  rw [k0,k1,k2,k3,k4] at T1 T2 T3 TT
  rw [k0] at CS0
  rw [k0,k4] at CT
  rw [k4] at CS2
  clear k0 k1 k2 k3 k4
  obtain⟨v1,e1⟩:∃v,(val (X.take s)+val ((X.drop s).take s)+val (X.drop d))*(val (Y.take s)+val ((Y.drop s).take s)+val (Y.drop d))=v:=⟨_,rfl⟩
  obtain⟨v2,e2⟩:∃v,(if val (X.take s)+val (X.drop d)<val ((X.drop s).take s) then val ((X.drop s).take s) - (val (X.take s)+val (X.drop d)) else val (X.take s)+val (X.drop d) - val ((X.drop s).take s))*(if val (Y.take s)+val (Y.drop d)<val ((Y.drop s).take s) then val ((Y.drop s).take s) - (val (Y.take s)+val (Y.drop d)) else val (Y.take s)+val (Y.drop d) - val ((Y.drop s).take s))=v:=⟨_,rfl⟩
  obtain⟨v3,e3⟩:∃v,(val (X.take s)+val ((X.drop s).take s)*2+val (X.drop d)*4)*(val (Y.take s)+val ((Y.drop s).take s)*2+val (Y.drop d)*4)=v:=⟨_,rfl⟩
  rw [e1] at T1 T3 FT
  rw [e2] at T3
  rw [e3] at T2
  rw [e1,e2,e3] at HS0
  clear e1 e2 e3
  have hXY:val X*val Y<18446744073709551616 ^ n:=by
   rw [←HN.out,Nat.pow_add];exact Nat.mul_lt_mul'' (val_lt mX) (val_lt mY)
  have TOT:=aa (And.intro hXY (And.intro (show c0+18446744073709551616 ^ q*c4+18446744073709551616 ^ s*c1'≤val X*val Y by omega) (And.intro (show c0+18446744073709551616 ^ q*c4+18446744073709551616 ^ s*c1'+18446744073709551616 ^ d*c2'≤val X*val Y by omega) TT.symm)))
  have hv3:=aa T2
  have HFT:=aa FT
  have HE10:=aa E10
  have HT1:=aa T1
  clear hXY TT T1 T2 FT E10 bel10 BV3 LV3 lV3 vV3 V3 HF3 HE9 HBEL9 HV1' HV2 hq0 hq1' hx1 hy1 HQX HQY HBX HBY HEM HNM HW7 HKX mX mY CB CF CX CL CA CA2
  by_cases hsame:bx=by'
  ·subst hsame
   rw [if_pos rfl] at T3
   obtain⟨kv,hkv⟩:∃k,k=c0+c2'+c4:=⟨_,rfl⟩
   obtain⟨ov,hov⟩:∃k,k=c1'+c3:=⟨_,rfl⟩
   have HKV:=aa (show v2+v1=2*kv by omega)
   have HOV:=aa (show v1=ov+kv by have:=HT1.out;omega)
   have HDE:=aa (And.intro hkv hov)
   clear hkv hov T3
   obtain⟨EL,hEL,vEL⟩:=HS0.ho.arg hNb
   have HC:=HS0.plus hNb (v2+v1) hEL (aw HS0.oe _ _) (by rw [vEL]) (by have:=HKV.out;have:=HOV.out;have:=HFT.out;omega)
   have HS:=aa HS0
   clear hEL vEL EL HS0
   go_wp2_with fail
   refine HC.mono ?_
   rintro e wp1 ⟨rfl,h⟩
   clear HS HC
   have HS:=aa h
   have HC:=h.half hNb kv HKV.out
   clear h
   go_wp2_with fail
   refine HC.mono ?_
   rintro e wp2 ⟨rfl,h⟩
   clear HS HC
   have HS:=aa h
   obtain⟨EL,hEL,vEL⟩:=h.he.arg hNb
   have HC:=h.oe'.minus hNb ov hEL (aw (Ne.symm h.oe) _ _) (by rw [vEL];exact HOV.out)
   clear h hEL vEL EL
   go_wp2_with fail
   refine HC.mono ?_
   rintro e wp3 ⟨rfl,h⟩
   clear HS HC
   obtain⟨_,_,_,hx3⟩:=aP ((h.keep kx (by omega) (by omega) (by omega) (by omega) (by omega)).trans HE10.out.2.1)
   obtain⟨_,_,_,hy3⟩:=aP ((h.keep (kx+1) (by omega) (by omega) (by omega) (by omega) (by omega)).trans HE10.out.2.2.1)
   have HS:=aa h.oe'
   rw [HDE.out.1,HDE.out.2] at HS
   clear h
   have h:=HS.out
   have HC:=h.minus hNb (c2'+c4) (h.blk.seg_arg h.lz zo d cap (by omega) (by omega) (by omega) (by omega)) (aw (by have:=h.lt;have:=h.ne;omega) _ _) (by rw [show val (seg Z3 zo d)=c0 from CS0.out];omega)
   clear h
   go_wp2_with fail
   refine HC.mono ?_
   rintro e wa ⟨rfl,h⟩
   clear HS HC
   have HS:=aa h
   have HC:=h.minus hNb c2' (h.blk.seg_arg h.lz zh (n - q) (cap - q) (by rcases HZH.out with h|h <;> omega) (by omega) (by omega) (by omega)) (aw (by have:=h.lt;have:=h.ne;omega) _ _) (by rw [show val (seg Z3 zh (n - q))=c4 from CS2.out])
   clear h
   go_wp2_with fail
   refine HC.mono ?_
   rintro e wb ⟨rfl,h⟩
   clear HS HC
   have HS:=aa h
   have HC:=h.et'.minus hNb (2*c1'+4*c2'+8*c3+16*c4) (h.blk.seg_arg h.lz zo d cap (by omega) (by omega) (by omega) (by omega)) (aw (by have:=h.lt;have:=h.nt;omega) _ _) (by rw [show val (seg Z3 zo d)=c0 from CS0.out,hv3.out];omega)
   clear h
   go_wp2_with fail
   refine HC.mono ?_
   rintro e wc ⟨rfl,h⟩
   clear HS HC
   have HS:=aa h
   have HC:=h.half hNb (c1'+2*c2'+4*c3+8*c4) (by omega)
   clear h
   go_wp2_with fail
   refine HC.mono ?_
   rintro e wd' ⟨rfl,h⟩
   clear HS HC
   have HS:=aa h
   obtain⟨EL,hEL,vEL⟩:=h.ht.arg hNb
   have HC:=h.minusTimes hNb (c1'+4*c3+8*c4) 2 hEL (aw (Ne.symm h.et) _ _) (by rw [vEL];omega) (by omega) (by omega)
   rw [show ((2:Nat):Int)=2 from rfl] at HC
   clear h hEL vEL EL
   go_wp2_with fail
   refine HC.mono ?_
   rintro e we ⟨rfl,h⟩
   clear HS HC
   have HS:=aa h
   have HC:=h.minusTimes hNb (c1'+4*c3) 8 (h.blk.seg_arg h.lz zh (n - q) (cap - q) (by rcases HZH.out with h|h <;> omega) (by omega) (by omega) (by omega)) (aw (by have:=h.lt;have:=h.ne;omega) _ _) (by rw [show val (seg Z3 zh (n - q))=c4 from CS2.out];omega) (by omega) (by omega)
   rw [show ((8:Nat):Int)=8 from rfl] at HC
   clear h
   go_wp2_with fail
   refine HC.mono ?_
   rintro e wf ⟨rfl,h⟩
   clear HS HC
   have HS:=aa h
   obtain⟨EL,hEL,vEL⟩:=h.ho.arg hNb
   have HC:=h.minus hNb (3*c3) hEL (aw h.oe _ _) (by rw [vEL];omega)
   clear h hEL vEL EL
   go_wp2_with fail
   refine HC.mono ?_
   rintro e wg ⟨rfl,h⟩
   clear HS HC
   have HS:=aa h
   have HC:=h.third hNb c3 rfl
   clear h
   go_wp2_with fail
   refine HC.mono ?_
   rintro e wh ⟨rfl,h⟩
   clear HS HC
   have HS:=aa h
   obtain⟨EL,hEL,vEL⟩:=h.he.arg hNb
   have HC:=h.oe'.minus hNb c1' hEL (aw (Ne.symm h.oe) _ _) (by rw [vEL])
   clear h hEL vEL EL
   go_wp2_with fail
   refine HC.mono ?_
   rintro e wi ⟨rfl,h⟩
   clear HS HC
   have HS:=aa h
   obtain⟨EL,hEL,vEL⟩:=h.he.arg hNb
   have HC:=h.add zo n s (cap - s) hEL (aw (by have:=h.lt;have:=h.ne;omega) _ _) (by omega) (by omega) (by omega) (by omega) _ (by rw [vEL,CT.out];exact TOT.out.2.1) TOT.out.1
   rw [vEL,CT.out] at HC
   clear h hEL vEL EL
   go_wp2_with fail
   refine HC.mono ?_
   rintro e wj ⟨rfl,ZJ,h,OJ,SJ⟩
   have lJ:=OJ.len
   clear HS HC
   have HS:=aa h
   have HSJ:=aa SJ
   have HOJ:=aa OJ
   obtain⟨EL,hEL,vEL⟩:=h.ht.arg hNb
   have HC:=h.add zo n d (cap - d) hEL (aw (by have:=h.lt;have:=h.nt;omega) _ _) (by omega) (by omega) (by omega) (by omega) _ (by rw [vEL,SJ];exact TOT.out.2.2.1) TOT.out.1
   rw [vEL,SJ] at HC
   clear h hEL vEL EL OJ SJ
   go_wp2_with fail
   refine HC.mono ?_
   rintro e wk' ⟨rfl,ZK,h,OK',SK⟩
   have lK:=OK'.len
   clear HS HC HSJ
   have HS:=aa h
   have HSK:=aa SK
   have HOK:=aa (HOJ.out.trans OK')
   obtain⟨EL,hEL,vEL⟩:=h.ho.arg hNb
   have HC:=h.add zo n r (cap - r) hEL (aw (by have:=h.lt;have:=h.no;omega) _ _) (by omega) (by omega) (by omega) (by omega) _ (by rw [vEL,SK];exact Nat.le_of_eq TOT.out.2.2.2) TOT.out.1
   rw [vEL,SK] at HC
   clear h hEL vEL EL OK' SK
   go_wp2_with fail
   refine HC.mono ?_
   rintro e wl ⟨rfl,ZL,h,OL,SL⟩
   have HD:=aa (show aG bz zo n Z w (val X*val Y) (.returned (.tuple #[])) wl from ⟨rfl,ZL,CO.out.trans (HOK.out.trans OL),h.lz,h.blk,h.fr,by rw [SL,TOT.out.2.2.2]⟩)
   clear h OL SL HS HC HSK HOK
   go_wp2
   go_end0
   exact HD.out
  ·rw [if_neg hsame] at T3
   obtain⟨kv,hkv⟩:∃k,k=c1'+c3:=⟨_,rfl⟩
   obtain⟨ov,hov⟩:∃k,k=c0+c2'+c4:=⟨_,rfl⟩
   have HKV:=aa (show v2+v1=2*kv by omega)
   have HOV:=aa (show v1=ov+kv by have:=HT1.out;omega)
   have HDE:=aa (And.intro hkv hov)
   have hs1':(bx == by')=false:=by simpa using hsame
   have hs2':decide (bx=by')=false:=by simpa using hsame
   clear hkv hov T3
   obtain⟨EL,hEL,vEL⟩:=HS0.ho.arg hNb
   have HC:=HS0.plus hNb (v2+v1) hEL (aw HS0.oe _ _) (by rw [vEL]) (by have:=HKV.out;have:=HOV.out;have:=HFT.out;omega)
   have HS:=aa HS0
   clear hEL vEL EL HS0
   go_wp2_with fail
   refine HC.mono ?_
   rintro e wp1 ⟨rfl,h⟩
   clear HS HC
   have HS:=aa h
   have HC:=h.half hNb kv HKV.out
   clear h
   go_wp2_with fail
   refine HC.mono ?_
   rintro e wp2 ⟨rfl,h⟩
   clear HS HC
   have HS:=aa h
   obtain⟨EL,hEL,vEL⟩:=h.he.arg hNb
   have HC:=h.oe'.minus hNb ov hEL (aw (Ne.symm h.oe) _ _) (by rw [vEL];exact HOV.out)
   clear h hEL vEL EL
   go_wp2_with fail
   refine HC.mono ?_
   rintro e wp3 ⟨rfl,h⟩
   clear HS HC
   obtain⟨_,_,_,hx3⟩:=aP ((h.keep kx (by omega) (by omega) (by omega) (by omega) (by omega)).trans HE10.out.2.1)
   obtain⟨_,_,_,hy3⟩:=aP ((h.keep (kx+1) (by omega) (by omega) (by omega) (by omega) (by omega)).trans HE10.out.2.2.1)
   have HS:=aa h
   rw [HDE.out.1,HDE.out.2] at HS
   clear h
   have h:=HS.out
   have HC:=h.minus hNb (c2'+c4) (h.blk.seg_arg h.lz zo d cap (by omega) (by omega) (by omega) (by omega)) (aw (by have:=h.lt;have:=h.ne;omega) _ _) (by rw [show val (seg Z3 zo d)=c0 from CS0.out];omega)
   clear h
   go_wp2_with fail
   refine HC.mono ?_
   rintro e wa ⟨rfl,h⟩
   clear HS HC
   have HS:=aa h
   have HC:=h.minus hNb c2' (h.blk.seg_arg h.lz zh (n - q) (cap - q) (by rcases HZH.out with h|h <;> omega) (by omega) (by omega) (by omega)) (aw (by have:=h.lt;have:=h.ne;omega) _ _) (by rw [show val (seg Z3 zh (n - q))=c4 from CS2.out])
   clear h
   go_wp2_with fail
   refine HC.mono ?_
   rintro e wb ⟨rfl,h⟩
   clear HS HC
   have HS:=aa h
   have HC:=h.et'.minus hNb (2*c1'+4*c2'+8*c3+16*c4) (h.blk.seg_arg h.lz zo d cap (by omega) (by omega) (by omega) (by omega)) (aw (by have:=h.lt;have:=h.nt;omega) _ _) (by rw [show val (seg Z3 zo d)=c0 from CS0.out,hv3.out];omega)
   clear h
   go_wp2_with fail
   refine HC.mono ?_
   rintro e wc ⟨rfl,h⟩
   clear HS HC
   have HS:=aa h
   have HC:=h.half hNb (c1'+2*c2'+4*c3+8*c4) (by omega)
   clear h
   go_wp2_with fail
   refine HC.mono ?_
   rintro e wd' ⟨rfl,h⟩
   clear HS HC
   have HS:=aa h
   obtain⟨EL,hEL,vEL⟩:=h.ht.arg hNb
   have HC:=h.minusTimes hNb (c1'+4*c3+8*c4) 2 hEL (aw (Ne.symm h.et) _ _) (by rw [vEL];omega) (by omega) (by omega)
   rw [show ((2:Nat):Int)=2 from rfl] at HC
   clear h hEL vEL EL
   go_wp2_with fail
   refine HC.mono ?_
   rintro e we ⟨rfl,h⟩
   clear HS HC
   have HS:=aa h
   have HC:=h.minusTimes hNb (c1'+4*c3) 8 (h.blk.seg_arg h.lz zh (n - q) (cap - q) (by rcases HZH.out with h|h <;> omega) (by omega) (by omega) (by omega)) (aw (by have:=h.lt;have:=h.ne;omega) _ _) (by rw [show val (seg Z3 zh (n - q))=c4 from CS2.out];omega) (by omega) (by omega)
   rw [show ((8:Nat):Int)=8 from rfl] at HC
   clear h
   go_wp2_with fail
   refine HC.mono ?_
   rintro e wf ⟨rfl,h⟩
   clear HS HC
   have HS:=aa h
   obtain⟨EL,hEL,vEL⟩:=h.ho.arg hNb
   have HC:=h.minus hNb (3*c3) hEL (aw h.oe _ _) (by rw [vEL];omega)
   clear h hEL vEL EL
   go_wp2_with fail
   refine HC.mono ?_
   rintro e wg ⟨rfl,h⟩
   clear HS HC
   have HS:=aa h
   have HC:=h.third hNb c3 rfl
   clear h
   go_wp2_with fail
   refine HC.mono ?_
   rintro e wh ⟨rfl,h⟩
   clear HS HC
   have HS:=aa h
   obtain⟨EL,hEL,vEL⟩:=h.he.arg hNb
   have HC:=h.oe'.minus hNb c1' hEL (aw (Ne.symm h.oe) _ _) (by rw [vEL])
   clear h hEL vEL EL
   go_wp2_with fail
   refine HC.mono ?_
   rintro e wi ⟨rfl,h⟩
   clear HS HC
   have HS:=aa h
   obtain⟨EL,hEL,vEL⟩:=h.he.arg hNb
   have HC:=h.add zo n s (cap - s) hEL (aw (by have:=h.lt;have:=h.ne;omega) _ _) (by omega) (by omega) (by omega) (by omega) _ (by rw [vEL,CT.out];exact TOT.out.2.1) TOT.out.1
   rw [vEL,CT.out] at HC
   clear h hEL vEL EL
   go_wp2_with fail
   refine HC.mono ?_
   rintro e wj ⟨rfl,ZJ,h,OJ,SJ⟩
   have lJ:=OJ.len
   clear HS HC
   have HS:=aa h
   have HSJ:=aa SJ
   have HOJ:=aa OJ
   obtain⟨EL,hEL,vEL⟩:=h.ht.arg hNb
   have HC:=h.add zo n d (cap - d) hEL (aw (by have:=h.lt;have:=h.nt;omega) _ _) (by omega) (by omega) (by omega) (by omega) _ (by rw [vEL,SJ];exact TOT.out.2.2.1) TOT.out.1
   rw [vEL,SJ] at HC
   clear h hEL vEL EL OJ SJ
   go_wp2_with fail
   refine HC.mono ?_
   rintro e wk' ⟨rfl,ZK,h,OK',SK⟩
   have lK:=OK'.len
   clear HS HC HSJ
   have HS:=aa h
   have HSK:=aa SK
   have HOK:=aa (HOJ.out.trans OK')
   obtain⟨EL,hEL,vEL⟩:=h.ho.arg hNb
   have HC:=h.add zo n r (cap - r) hEL (aw (by have:=h.lt;have:=h.no;omega) _ _) (by omega) (by omega) (by omega) (by omega) _ (by rw [vEL,SK];exact Nat.le_of_eq TOT.out.2.2.2) TOT.out.1
   rw [vEL,SK] at HC
   clear h hEL vEL EL OK' SK
   go_wp2_with fail
   refine HC.mono ?_
   rintro e wl ⟨rfl,ZL,h,OL,SL⟩
   have HD:=aa (show aG bz zo n Z w (val X*val Y) (.returned (.tuple #[])) wl from ⟨rfl,ZL,CO.out.trans (HOK.out.trans OL),h.lz,h.blk,h.fr,by rw [SL,TOT.out.2.2.2]⟩)
   clear h OL SL HS HC HSK HOK
   go_wp2
   go_end0
   exact HD.out
 ·have kY:¬(d:Int)<(Y.length:Int):=by omega
  have hY0:val (Y.drop d)=0:=ko Y d (by omega)
  have CX:=HX3
  have CA:=HA4
  have CA2:=HA24
  have CF:=HF3
  have CB:=HB3
  have CL:=HL3
  have lC:zo+n≤Z2.length:=by omega
  have CO:=HO3
  have CS0:=S3
  have S2:sv Z2 zh (n - q)=val (X.drop d)*val (Y.drop d):=by
   rw [hY0,Nat.mul_zero]
   rcases HZH.out with h|h
   ·rw [h];exact S3c.out
   ·rw [h.2,aR]
  have CS2:=aa S2
  have CT:=aa (iZ Z2 zo d q n zh _ _ (by omega) (by omega) (by omega) S3.out S3b.out S2 HZH.out)
  have hsz4:=hsz3
  have hk0:=hk2
  have hk1:=hk3
  clear hk2 hk3 HX3 HA4 HA24 HF3 HO3 S3 S3b S3c HB3 HL3 S2 hY0 l2 hYd
  have HV1:=fm b off c1 s X w3 CA.out hs0 (by omega) hXs hlX
  rw [show 2*s=d by omega] at HV1
  go_wp2_with fail
  refine HV1.mono ?_
  rintro e w5 ⟨gx,m,d2,d3,R,ex,MX,em,eR,rfl,hgx,BMX,bel5,QX⟩
  have HV2:=fm b2 off2 c2 s Y w5 (CA2.out.below bel5) hs0 (by omega) (by omega) (by omega)
  rw [show 2*s=d by omega] at HV2
  have HD5:=aa (And.intro BMX (And.intro bel5 QX))
  have HEM:=aa (And.intro em eR)
  have hm1:m≤s+1:=by omega
  have hm2:s+1≤m:=by omega
  have hR1:R≤4*m:=by omega
  have hR2:4*m≤R:=by omega
  clear BMX bel5 QX HV1 em eR
  generalize hbx:decide (val (X.take s)+val (X.drop d)<val ((X.drop s).take s))=bx
  have HBX:=aa hbx
  clear hbx
  go_wp2_with fail
  refine HV2.mono ?_
  rintro e w6 ⟨gy,m',d2',d3',R',ey,MY,em',eR',rfl,hgy,BMY,bel6,QY⟩
  obtain rfl:m=m':=by have:=HEM.out.1;omega
  obtain rfl:R=R':=by have:=HEM.out.2;omega
  obtain rfl:d2=d2':=by have:=HD5.out.2.2.h2;have:=QY.h2;omega
  obtain rfl:d3=d3':=by have:=HD5.out.2.2.h3;have:=QY.h3;omega
  obtain⟨BMX,bel5,QX⟩:=HD5.out
  have hd2a:d2≤m+m:=Nat.le_of_eq QX.h2
  have hd2b:m+m≤d2:=Nat.le_of_eq QX.h2.symm
  have hd3a:d3≤m+m+m:=Nat.le_of_eq QX.h3
  have hd3b:m+m+m≤d3:=Nat.le_of_eq QX.h3.symm
  have lX:m+m+m+m≤MX.length:=Nat.le_of_eq QX.len.symm
  have lY:m+m+m+m≤MY.length:=Nat.le_of_eq QY.len.symm
  generalize hby:decide (val (Y.take s)+val (Y.drop d)<val ((Y.drop s).take s))=by'
  obtain⟨w7,hw7⟩:∃w7,w7=(w6.alloc (.cells #[.slice (some ⟨gx,m,none⟩) m (R - m),.slice (some ⟨gx,d2,none⟩) m (R - d2),.slice (some ⟨gx,d3,none⟩) m (R - d3),.bool bx] 201)).alloc (.cells #[.slice (some ⟨gy,m,none⟩) m (R - m),.slice (some ⟨gy,d2,none⟩) m (R - d2),.slice (some ⟨gy,d3,none⟩) m (R - d3),.bool by'] 201):=⟨_,rfl⟩
  have bel7:Below w6.heap.size w6 w7:=by rw [hw7];exact ((Below.refl _ _).alloc (Nat.le_refl _) _).alloc (by simp) _
  obtain⟨kx,hkx⟩:∃k,k=w6.heap.size:=⟨_,rfl⟩
  have belC:Below w3.heap.size w3 w7:=bel5.trans ((bel6.mono bel5.size).trans (bel7.mono (Nat.le_trans bel5.size bel6.size)))
  have E7:Env w7 w.heap.size kx gx gy bz #[.int .i64 H,.int .i64 T] #[.slice (some ⟨gx,m,none⟩) m (R - m),.slice (some ⟨gx,d2,none⟩) m (R - d2),.slice (some ⟨gx,d3,none⟩) m (R - d3),.bool bx] #[.slice (some ⟨gy,m,none⟩) m (R - m),.slice (some ⟨gy,d2,none⟩) m (R - d2),.slice (some ⟨gy,d3,none⟩) m (R - d3),.bool by'] 117 201 MX MY Z2:=by
   refine⟨dU CX.out belC,?_,?_,(BMX.below' bel6).below' bel7,BMY.below' bel7,CB.out.below' belC⟩
   ·rw [hkx,hw7,Below.heap_alloc _ _ _ (by simp)];exact heap_alloc_new ..
   ·rw [hkx,hw7,show w6.heap.size+1=(w6.alloc (.cells #[.slice (some ⟨gx,m,none⟩) m (R - m),.slice (some ⟨gx,d2,none⟩) m (R - d2),.slice (some ⟨gx,d3,none⟩) m (R - d3),.bool bx] 201)).heap.size by simp];exact heap_alloc_new ..
  have hN:m+m=m+m:=rfl
  have HF1:=dr H T gx gy m m R n MX MY w7 _ _ E7.2.2.2.1 E7.2.2.2.2.1 QX.limbs QY.limbs (by omega) (by omega) (by omega) (by omega) (by omega) (by omega) QX.v1 QY.v1 HII.out (by omega)
  unfold way at HF1
  obtain⟨hq0,hq1'⟩:=dt E7.1
  obtain⟨hx0,_,_,_⟩:=aP E7.2.1
  obtain⟨hy0,_,_,_⟩:=aP E7.2.2.1
  have HE7:=aa E7
  have HQX:=aa QX
  have HQY:=aa QY
  have HBEL:=aa belC
  have HW7:=aa hw7
  have HKX:=aa hkx
  have HBY:=aa hby
  rw [hkx] at hx0 hy0
  rw [hw7] at hq0 hq1' hx0 hy0
  obtain⟨N,hNm,hN1,hN2⟩:∃N:Nat,m+m=N∧N≤2*m∧2*m≤N:=⟨_,rfl,by omega,by omega⟩
  have HNM:=aa hNm
  have hNb:N≤1125899906842624:=by omega
  rw [hNm] at HF1
  have hszC:=belC.size
  have hkx7:kx+1<w7.heap.size:=lt_of_block HE7.out.2.2.1
  have hkxb:w.heap.size<kx:=by have:=HKX.out;have:=bel5.size;have:=bel6.size;omega
  clear E7 QX QY belC bel5 bel6 bel7 BMX BMY hw7 hkx hby HD5 hgx hgy HV2 em' eR' hN hNm hk0 hk1
  go_wp2_with fail
  rw [←HW7.out,←HKX.out]
  clear hq0 hq1' hx0 hy0
  refine HF1.mono ?_
  rintro e w8 ⟨g1,V1,rfl,hg1,lV1,LV1,BV1,vV1,bel8⟩
  have E8:=HE7.out.below bel8
  have HF2:=dr H T gx gy d3 m R n MX MY w8 _ _ E8.2.2.2.1 E8.2.2.2.2.1 HQX.out.limbs HQY.out.limbs (by omega) (by omega) (by omega) (by omega) (by omega) (by omega) HQX.out.v3 HQY.out.v3 HII.out (by omega)
  unfold way at HF2
  rw [HNM.out] at HF2
  obtain⟨hq0,hq1'⟩:=dt E8.1
  obtain⟨_,_,hx2,_⟩:=aP E8.2.1
  obtain⟨_,_,hy2,_⟩:=aP E8.2.2.1
  have HE8:=aa E8
  have hlt1:=BV1.lt
  have hsz8:=bel8.size
  have HBEL8:=aa (HBEL.out.trans (bel8.mono HBEL.out.size))
  have HV1:Hid (bN w8 g1 N _):=aa ⟨V1,BV1,LV1,lV1,vV1⟩
  clear E8 bel8 BV1 LV1 lV1 vV1 V1 HF1 HE7 HBEL
  go_wp2_with fail
  refine HF2.mono ?_
  rintro e w9 ⟨g2,V2,rfl,hg2,lV2,LV2,BV2,vV2,bel9⟩
  have E9:=HE8.out.below bel9
  have HF3:=dr H T gx gy d2 m R n MX MY w9 _ _ E9.2.2.2.1 E9.2.2.2.2.1 HQX.out.limbs HQY.out.limbs (by omega) (by omega) (by omega) (by omega) (by omega) (by omega) HQX.out.v2 HQY.out.v2 HII.out (by omega)
  unfold way at HF3
  rw [HNM.out] at HF3
  clear hq0 hq1' hx2 hy2
  obtain⟨hq0,hq1'⟩:=dt E9.1
  obtain⟨_,hx1,_,_⟩:=aP E9.2.1
  obtain⟨_,hy1,_,_⟩:=aP E9.2.2.1
  have HE9:=aa E9
  have hlt2:=BV2.lt
  have hsz9:=bel9.size
  have HBEL9:=aa (HBEL8.out.trans (bel9.mono HBEL8.out.size))
  have HV1':=aa (HV1.out.fr (Fr.of_below (bz:=bz) bel9) (by omega))
  have HV2:Hid (bN w9 g2 N _):=aa ⟨V2,BV2,LV2,lV2,vV2⟩
  clear E9 bel9 BV2 LV2 lV2 vV2 V2 HF2 HE8 HBEL8 HV1
  go_wp2_with fail
  refine HF3.mono ?_
  rintro e w10 ⟨g3,V3,rfl,hg3,lV3,LV3,BV3,vV3,bel10⟩
  have E10:=HE9.out.below bel10
  have hlt3:=BV3.lt
  have HS0:=St3.mk (CF.out.trans (Fr.of_below (HBEL9.out.trans (bel10.mono HBEL9.out.size)))) E10.2.2.2.2.2 CL.out hbz (by omega) (by omega) (by omega) (by omega) (by omega) (by omega) (HV1'.out.fr (Fr.of_below (bz:=bz) bel10) (by omega)) (HV2.out.fr (Fr.of_below (bz:=bz) bel10) (by omega)) (⟨V3,BV3,LV3,lV3,vV3⟩:bN w10 g3 N _) (Nat.le_refl w10.heap.size) (fun _ _ _ _ _ _=>rfl)
  have T1:=jc (val (X.take s)) (val ((X.drop s).take s)) (val (X.drop d)) (val (Y.take s)) (val ((Y.drop s).take s)) (val (Y.drop d))
  have T2:=iv (val (X.take s)) (val ((X.drop s).take s)) (val (X.drop d)) (val (Y.take s)) (val ((Y.drop s).take s)) (val (Y.drop d))
  have T3:=ja (val (X.take s)) (val ((X.drop s).take s)) (val (X.drop d)) (val (Y.take s)) (val ((Y.drop s).take s)) (val (Y.drop d)) _ _ rfl rfl
  rw [HBX.out,HBY.out] at T3
  have FT:=iG (val (X.take s)+val ((X.drop s).take s)+val (X.drop d)) (val (Y.take s)+val ((Y.drop s).take s)+val (Y.drop d)) s m (eG mX s d (by omega) ⟨by omega,by omega⟩ (by omega)) (eG mY s d (by omega) ⟨by omega,by omega⟩ (by omega)) HEM.out.1
  rw [HNM.out] at FT
  have TT:=g9 (val (X.take s)) (val ((X.drop s).take s)) (val (X.drop d)) (val (Y.take s)) (val ((Y.drop s).take s)) (val (Y.drop d)) (18446744073709551616 ^ s)
  rw [←d9 X s d (by omega) (by omega) (by omega),←d9 Y s d (by omega) (by omega) (by omega),←Nat.pow_add,←Nat.pow_add,←Nat.pow_add,show s+s+(s+s)=q by omega,show s+s+s=r by omega,show s+s=d by omega] at TT
  obtain⟨c0,k0⟩:∃c,val (X.take s)*val (Y.take s)=c:=⟨_,rfl⟩
  obtain⟨c1',k1⟩:∃c,val (X.take s)*val ((Y.drop s).take s)+val ((X.drop s).take s)*val (Y.take s)=c:=⟨_,rfl⟩
  obtain⟨c2',k2⟩:∃c,val (X.take s)*val (Y.drop d)+val ((X.drop s).take s)*val ((Y.drop s).take s)+val (X.drop d)*val (Y.take s)=c:=⟨_,rfl⟩
  obtain⟨c3,k3⟩:∃c,val ((X.drop s).take s)*val (Y.drop d)+val (X.drop d)*val ((Y.drop s).take s)=c:=⟨_,rfl⟩
  obtain⟨c4,k4⟩:∃c,val (X.drop d)*val (Y.drop d)=c:=⟨_,rfl⟩
  rw [k0,k1,k2,k3,k4] at T1 T2 T3 TT
  rw [k0] at CS0
  rw [k0,k4] at CT
  rw [k4] at CS2
  clear k0 k1 k2 k3 k4
  obtain⟨v1,e1⟩:∃v,(val (X.take s)+val ((X.drop s).take s)+val (X.drop d))*(val (Y.take s)+val ((Y.drop s).take s)+val (Y.drop d))=v:=⟨_,rfl⟩
  obtain⟨v2,e2⟩:∃v,(if val (X.take s)+val (X.drop d)<val ((X.drop s).take s) then val ((X.drop s).take s) - (val (X.take s)+val (X.drop d)) else val (X.take s)+val (X.drop d) - val ((X.drop s).take s))*(if val (Y.take s)+val (Y.drop d)<val ((Y.drop s).take s) then val ((Y.drop s).take s) - (val (Y.take s)+val (Y.drop d)) else val (Y.take s)+val (Y.drop d) - val ((Y.drop s).take s))=v:=⟨_,rfl⟩
  obtain⟨v3,e3⟩:∃v,(val (X.take s)+val ((X.drop s).take s)*2+val (X.drop d)*4)*(val (Y.take s)+val ((Y.drop s).take s)*2+val (Y.drop d)*4)=v:=⟨_,rfl⟩
  rw [e1] at T1 T3 FT
  rw [e2] at T3
  rw [e3] at T2
  rw [e1,e2,e3] at HS0
  clear e1 e2 e3
  have hXY:val X*val Y<18446744073709551616 ^ n:=by
   rw [←HN.out,Nat.pow_add];exact Nat.mul_lt_mul'' (val_lt mX) (val_lt mY)
  have TOT:=aa (And.intro hXY (And.intro (show c0+18446744073709551616 ^ q*c4+18446744073709551616 ^ s*c1'≤val X*val Y by omega) (And.intro (show c0+18446744073709551616 ^ q*c4+18446744073709551616 ^ s*c1'+18446744073709551616 ^ d*c2'≤val X*val Y by omega) TT.symm)))
  have hv3:=aa T2
  have HFT:=aa FT
  have HE10:=aa E10
  have HT1:=aa T1
  clear hXY TT T1 T2 FT E10 bel10 BV3 LV3 lV3 vV3 V3 HF3 HE9 HBEL9 HV1' HV2 hq0 hq1' hx1 hy1 HQX HQY HBX HBY HEM HNM HW7 HKX mX mY CB CF CX CL CA CA2
  by_cases hsame:bx=by'
  ·subst hsame
   rw [if_pos rfl] at T3
   obtain⟨kv,hkv⟩:∃k,k=c0+c2'+c4:=⟨_,rfl⟩
   obtain⟨ov,hov⟩:∃k,k=c1'+c3:=⟨_,rfl⟩
   have HKV:=aa (show v2+v1=2*kv by omega)
   have HOV:=aa (show v1=ov+kv by have:=HT1.out;omega)
   have HDE:=aa (And.intro hkv hov)
   clear hkv hov T3
   obtain⟨EL,hEL,vEL⟩:=HS0.ho.arg hNb
   have HC:=HS0.plus hNb (v2+v1) hEL (aw HS0.oe _ _) (by rw [vEL]) (by have:=HKV.out;have:=HOV.out;have:=HFT.out;omega)
   have HS:=aa HS0
   clear hEL vEL EL HS0
   go_wp2_with fail
   refine HC.mono ?_
   rintro e wp1 ⟨rfl,h⟩
   clear HS HC
   have HS:=aa h
   have HC:=h.half hNb kv HKV.out
   clear h
   go_wp2_with fail
   refine HC.mono ?_
   rintro e wp2 ⟨rfl,h⟩
   clear HS HC
   have HS:=aa h
   obtain⟨EL,hEL,vEL⟩:=h.he.arg hNb
   have HC:=h.oe'.minus hNb ov hEL (aw (Ne.symm h.oe) _ _) (by rw [vEL];exact HOV.out)
   clear h hEL vEL EL
   go_wp2_with fail
   refine HC.mono ?_
   rintro e wp3 ⟨rfl,h⟩
   clear HS HC
   obtain⟨_,_,_,hx3⟩:=aP ((h.keep kx (by omega) (by omega) (by omega) (by omega) (by omega)).trans HE10.out.2.1)
   obtain⟨_,_,_,hy3⟩:=aP ((h.keep (kx+1) (by omega) (by omega) (by omega) (by omega) (by omega)).trans HE10.out.2.2.1)
   have HS:=aa h.oe'
   rw [HDE.out.1,HDE.out.2] at HS
   clear h
   have h:=HS.out
   have HC:=h.minus hNb (c2'+c4) (h.blk.seg_arg h.lz zo d cap (by omega) (by omega) (by omega) (by omega)) (aw (by have:=h.lt;have:=h.ne;omega) _ _) (by rw [show val (seg Z2 zo d)=c0 from CS0.out];omega)
   clear h
   go_wp2_with fail
   refine HC.mono ?_
   rintro e wa ⟨rfl,h⟩
   clear HS HC
   have HS:=aa h
   have HC:=h.minus hNb c2' (h.blk.seg_arg h.lz zh (n - q) (cap - q) (by rcases HZH.out with h|h <;> omega) (by omega) (by omega) (by omega)) (aw (by have:=h.lt;have:=h.ne;omega) _ _) (by rw [show val (seg Z2 zh (n - q))=c4 from CS2.out])
   clear h
   go_wp2_with fail
   refine HC.mono ?_
   rintro e wb ⟨rfl,h⟩
   clear HS HC
   have HS:=aa h
   have HC:=h.et'.minus hNb (2*c1'+4*c2'+8*c3+16*c4) (h.blk.seg_arg h.lz zo d cap (by omega) (by omega) (by omega) (by omega)) (aw (by have:=h.lt;have:=h.nt;omega) _ _) (by rw [show val (seg Z2 zo d)=c0 from CS0.out,hv3.out];omega)
   clear h
   go_wp2_with fail
   refine HC.mono ?_
   rintro e wc ⟨rfl,h⟩
   clear HS HC
   have HS:=aa h
   have HC:=h.half hNb (c1'+2*c2'+4*c3+8*c4) (by omega)
   clear h
   go_wp2_with fail
   refine HC.mono ?_
   rintro e wd' ⟨rfl,h⟩
   clear HS HC
   have HS:=aa h
   obtain⟨EL,hEL,vEL⟩:=h.ht.arg hNb
   have HC:=h.minusTimes hNb (c1'+4*c3+8*c4) 2 hEL (aw (Ne.symm h.et) _ _) (by rw [vEL];omega) (by omega) (by omega)
   rw [show ((2:Nat):Int)=2 from rfl] at HC
   clear h hEL vEL EL
   go_wp2_with fail
   refine HC.mono ?_
   rintro e we ⟨rfl,h⟩
   clear HS HC
   have HS:=aa h
   have HC:=h.minusTimes hNb (c1'+4*c3) 8 (h.blk.seg_arg h.lz zh (n - q) (cap - q) (by rcases HZH.out with h|h <;> omega) (by omega) (by omega) (by omega)) (aw (by have:=h.lt;have:=h.ne;omega) _ _) (by rw [show val (seg Z2 zh (n - q))=c4 from CS2.out];omega) (by omega) (by omega)
   rw [show ((8:Nat):Int)=8 from rfl] at HC
   clear h
   go_wp2_with fail
   refine HC.mono ?_
   rintro e wf ⟨rfl,h⟩
   clear HS HC
   have HS:=aa h
   obtain⟨EL,hEL,vEL⟩:=h.ho.arg hNb
   have HC:=h.minus hNb (3*c3) hEL (aw h.oe _ _) (by rw [vEL];omega)
   clear h hEL vEL EL
   go_wp2_with fail
   refine HC.mono ?_
   rintro e wg ⟨rfl,h⟩
   clear HS HC
   have HS:=aa h
   have HC:=h.third hNb c3 rfl
   clear h
   go_wp2_with fail
   refine HC.mono ?_
   rintro e wh ⟨rfl,h⟩
   clear HS HC
   have HS:=aa h
   obtain⟨EL,hEL,vEL⟩:=h.he.arg hNb
   have HC:=h.oe'.minus hNb c1' hEL (aw (Ne.symm h.oe) _ _) (by rw [vEL])
   clear h hEL vEL EL
   go_wp2_with fail
   refine HC.mono ?_
   rintro e wi ⟨rfl,h⟩
   clear HS HC
   have HS:=aa h
   obtain⟨EL,hEL,vEL⟩:=h.he.arg hNb
   have HC:=h.add zo n s (cap - s) hEL (aw (by have:=h.lt;have:=h.ne;omega) _ _) (by omega) (by omega) (by omega) (by omega) _ (by rw [vEL,CT.out];exact TOT.out.2.1) TOT.out.1
   rw [vEL,CT.out] at HC
   clear h hEL vEL EL
   go_wp2_with fail
   refine HC.mono ?_
   rintro e wj ⟨rfl,ZJ,h,OJ,SJ⟩
   have lJ:=OJ.len
   clear HS HC
   have HS:=aa h
   have HSJ:=aa SJ
   have HOJ:=aa OJ
   obtain⟨EL,hEL,vEL⟩:=h.ht.arg hNb
   have HC:=h.add zo n d (cap - d) hEL (aw (by have:=h.lt;have:=h.nt;omega) _ _) (by omega) (by omega) (by omega) (by omega) _ (by rw [vEL,SJ];exact TOT.out.2.2.1) TOT.out.1
   rw [vEL,SJ] at HC
   clear h hEL vEL EL OJ SJ
   go_wp2_with fail
   refine HC.mono ?_
   rintro e wk' ⟨rfl,ZK,h,OK',SK⟩
   have lK:=OK'.len
   clear HS HC HSJ
   have HS:=aa h
   have HSK:=aa SK
   have HOK:=aa (HOJ.out.trans OK')
   obtain⟨EL,hEL,vEL⟩:=h.ho.arg hNb
   have HC:=h.add zo n r (cap - r) hEL (aw (by have:=h.lt;have:=h.no;omega) _ _) (by omega) (by omega) (by omega) (by omega) _ (by rw [vEL,SK];exact Nat.le_of_eq TOT.out.2.2.2) TOT.out.1
   rw [vEL,SK] at HC
   clear h hEL vEL EL OK' SK
   go_wp2_with fail
   refine HC.mono ?_
   rintro e wl ⟨rfl,ZL,h,OL,SL⟩
   have HD:=aa (show aG bz zo n Z w (val X*val Y) (.returned (.tuple #[])) wl from ⟨rfl,ZL,CO.out.trans (HOK.out.trans OL),h.lz,h.blk,h.fr,by rw [SL,TOT.out.2.2.2]⟩)
   clear h OL SL HS HC HSK HOK
   go_wp2
   go_end0
   exact HD.out
  ·rw [if_neg hsame] at T3
   obtain⟨kv,hkv⟩:∃k,k=c1'+c3:=⟨_,rfl⟩
   obtain⟨ov,hov⟩:∃k,k=c0+c2'+c4:=⟨_,rfl⟩
   have HKV:=aa (show v2+v1=2*kv by omega)
   have HOV:=aa (show v1=ov+kv by have:=HT1.out;omega)
   have HDE:=aa (And.intro hkv hov)
   have hs1':(bx == by')=false:=by simpa using hsame
   have hs2':decide (bx=by')=false:=by simpa using hsame
   clear hkv hov T3
   obtain⟨EL,hEL,vEL⟩:=HS0.ho.arg hNb
   have HC:=HS0.plus hNb (v2+v1) hEL (aw HS0.oe _ _) (by rw [vEL]) (by have:=HKV.out;have:=HOV.out;have:=HFT.out;omega)
   have HS:=aa HS0
   clear hEL vEL EL HS0
   go_wp2_with fail
   refine HC.mono ?_
   rintro e wp1 ⟨rfl,h⟩
   clear HS HC
   have HS:=aa h
   have HC:=h.half hNb kv HKV.out
   clear h
   go_wp2_with fail
   refine HC.mono ?_
   rintro e wp2 ⟨rfl,h⟩
   clear HS HC
   have HS:=aa h
   obtain⟨EL,hEL,vEL⟩:=h.he.arg hNb
   have HC:=h.oe'.minus hNb ov hEL (aw (Ne.symm h.oe) _ _) (by rw [vEL];exact HOV.out)
   clear h hEL vEL EL
   go_wp2_with fail
   refine HC.mono ?_
   rintro e wp3 ⟨rfl,h⟩
   clear HS HC
   obtain⟨_,_,_,hx3⟩:=aP ((h.keep kx (by omega) (by omega) (by omega) (by omega) (by omega)).trans HE10.out.2.1)
   obtain⟨_,_,_,hy3⟩:=aP ((h.keep (kx+1) (by omega) (by omega) (by omega) (by omega) (by omega)).trans HE10.out.2.2.1)
   have HS:=aa h
   rw [HDE.out.1,HDE.out.2] at HS
   clear h
   have h:=HS.out
   have HC:=h.minus hNb (c2'+c4) (h.blk.seg_arg h.lz zo d cap (by omega) (by omega) (by omega) (by omega)) (aw (by have:=h.lt;have:=h.ne;omega) _ _) (by rw [show val (seg Z2 zo d)=c0 from CS0.out];omega)
   clear h
   go_wp2_with fail
   refine HC.mono ?_
   rintro e wa ⟨rfl,h⟩
   clear HS HC
   have HS:=aa h
   have HC:=h.minus hNb c2' (h.blk.seg_arg h.lz zh (n - q) (cap - q) (by rcases HZH.out with h|h <;> omega) (by omega) (by omega) (by omega)) (aw (by have:=h.lt;have:=h.ne;omega) _ _) (by rw [show val (seg Z2 zh (n - q))=c4 from CS2.out])
   clear h
   go_wp2_with fail
   refine HC.mono ?_
   rintro e wb ⟨rfl,h⟩
   clear HS HC
   have HS:=aa h
   have HC:=h.et'.minus hNb (2*c1'+4*c2'+8*c3+16*c4) (h.blk.seg_arg h.lz zo d cap (by omega) (by omega) (by omega) (by omega)) (aw (by have:=h.lt;have:=h.nt;omega) _ _) (by rw [show val (seg Z2 zo d)=c0 from CS0.out,hv3.out];omega)
   clear h
   go_wp2_with fail
   refine HC.mono ?_
   rintro e wc ⟨rfl,h⟩
   clear HS HC
   have HS:=aa h
   have HC:=h.half hNb (c1'+2*c2'+4*c3+8*c4) (by omega)
   clear h
   go_wp2_with fail
   refine HC.mono ?_
   rintro e wd' ⟨rfl,h⟩
   clear HS HC
   have HS:=aa h
   obtain⟨EL,hEL,vEL⟩:=h.ht.arg hNb
   have HC:=h.minusTimes hNb (c1'+4*c3+8*c4) 2 hEL (aw (Ne.symm h.et) _ _) (by rw [vEL];omega) (by omega) (by omega)
   rw [show ((2:Nat):Int)=2 from rfl] at HC
   clear h hEL vEL EL
   go_wp2_with fail
   refine HC.mono ?_
   rintro e we ⟨rfl,h⟩
   clear HS HC
   have HS:=aa h
   have HC:=h.minusTimes hNb (c1'+4*c3) 8 (h.blk.seg_arg h.lz zh (n - q) (cap - q) (by rcases HZH.out with h|h <;> omega) (by omega) (by omega) (by omega)) (aw (by have:=h.lt;have:=h.ne;omega) _ _) (by rw [show val (seg Z2 zh (n - q))=c4 from CS2.out];omega) (by omega) (by omega)
   rw [show ((8:Nat):Int)=8 from rfl] at HC
   clear h
   go_wp2_with fail
   refine HC.mono ?_
   rintro e wf ⟨rfl,h⟩
   clear HS HC
   have HS:=aa h
   obtain⟨EL,hEL,vEL⟩:=h.ho.arg hNb
   have HC:=h.minus hNb (3*c3) hEL (aw h.oe _ _) (by rw [vEL];omega)
   clear h hEL vEL EL
   go_wp2_with fail
   refine HC.mono ?_
   rintro e wg ⟨rfl,h⟩
   clear HS HC
   have HS:=aa h
   have HC:=h.third hNb c3 rfl
   clear h
   go_wp2_with fail
   refine HC.mono ?_
   rintro e wh ⟨rfl,h⟩
   clear HS HC
   have HS:=aa h
   obtain⟨EL,hEL,vEL⟩:=h.he.arg hNb
   have HC:=h.oe'.minus hNb c1' hEL (aw (Ne.symm h.oe) _ _) (by rw [vEL])
   clear h hEL vEL EL
   go_wp2_with fail
   refine HC.mono ?_
   rintro e wi ⟨rfl,h⟩
   clear HS HC
   have HS:=aa h
   obtain⟨EL,hEL,vEL⟩:=h.he.arg hNb
   have HC:=h.add zo n s (cap - s) hEL (aw (by have:=h.lt;have:=h.ne;omega) _ _) (by omega) (by omega) (by omega) (by omega) _ (by rw [vEL,CT.out];exact TOT.out.2.1) TOT.out.1
   rw [vEL,CT.out] at HC
   clear h hEL vEL EL
   go_wp2_with fail
   refine HC.mono ?_
   rintro e wj ⟨rfl,ZJ,h,OJ,SJ⟩
   have lJ:=OJ.len
   clear HS HC
   have HS:=aa h
   have HSJ:=aa SJ
   have HOJ:=aa OJ
   obtain⟨EL,hEL,vEL⟩:=h.ht.arg hNb
   have HC:=h.add zo n d (cap - d) hEL (aw (by have:=h.lt;have:=h.nt;omega) _ _) (by omega) (by omega) (by omega) (by omega) _ (by rw [vEL,SJ];exact TOT.out.2.2.1) TOT.out.1
   rw [vEL,SJ] at HC
   clear h hEL vEL EL OJ SJ
   go_wp2_with fail
   refine HC.mono ?_
   rintro e wk' ⟨rfl,ZK,h,OK',SK⟩
   have lK:=OK'.len
   clear HS HC HSJ
   have HS:=aa h
   have HSK:=aa SK
   have HOK:=aa (HOJ.out.trans OK')
   obtain⟨EL,hEL,vEL⟩:=h.ho.arg hNb
   have HC:=h.add zo n r (cap - r) hEL (aw (by have:=h.lt;have:=h.no;omega) _ _) (by omega) (by omega) (by omega) (by omega) _ (by rw [vEL,SK];exact Nat.le_of_eq TOT.out.2.2.2) TOT.out.1
   rw [vEL,SK] at HC
   clear h hEL vEL EL OK' SK
   go_wp2_with fail
   refine HC.mono ?_
   rintro e wl ⟨rfl,ZL,h,OL,SL⟩
   have HD:=aa (show aG bz zo n Z w (val X*val Y) (.returned (.tuple #[])) wl from ⟨rfl,ZL,CO.out.trans (HOK.out.trans OL),h.lz,h.blk,h.fr,by rw [SL,TOT.out.2.2.2]⟩)
   clear h OL SL HS HC HSK HOK
   go_wp2
   go_end0
   exact HD.out

theorem Arg.addr {w:World}{v:Value}{X:List Nat}(h:Arg w v X)(h0:0<X.length):∃b off c,v=.slice (some ⟨b,off,none⟩) X.length c:=by
 obtain⟨ao,c,rfl,_,_,hl⟩:=h.form
 rcases hl with h1|⟨b,off,rfl,_⟩
 ·rw [h1] at h0;simp at h0
 ·exact⟨b,off,c,rfl⟩

theorem oD (H T:Int)(hH:2≤H)(hT:3≤T)(P Q:List Nat)(hle:Q.length≤P.length)(hb4:P.length+Q.length≤4398046511103)(hns:¬((Q.length:Int)<H∧(Q.length:Int)<T))(hI:∀X Y:List Nat,X.length+Y.length<P.length+Q.length→bV H T X Y):bV H T P Q:=by
 intro bz zo cap Z va vb w hB hLZ hAP hAQ ho ho2 hzo hc1 hc2
 have hQ0:2≤Q.length:=by omega
 obtain⟨b,off,c1,rfl⟩:=hAP.addr (by omega)
 obtain⟨b2,off2,c2,rfl⟩:=hAQ.addr (by omega)
 have hb:=ho _ _ _ _ rfl
 have hb2:=ho2 _ _ _ _ rfl
 unfold way
 have hd0:decide ((P.length:Int)<(Q.length:Int))=false:=decide_eq_false (by omega)
 obtain⟨_,_,e0,hcc1,hcm1,_⟩:=hAP.form
 cases e0
 obtain⟨_,_,e0,hcc2,hcm2,_⟩:=hAQ.form
 cases e0
 have fP:=hAP.few
 have fQ:=hAQ.few
 obtain⟨hf,ehf,hf1,hf2⟩:∃k:Nat,((P.length:Int)+1) / 2=(k:Int)∧2*k≤P.length+1∧P.length≤2*k:=⟨(P.length+1) / 2,by omega,by omega,by omega⟩
 obtain⟨th,eth,ht1,ht2⟩:∃k:Nat,((P.length:Int)+2) / 3=(k:Int)∧3*k≤P.length+2∧P.length≤3*k:=⟨(P.length+2) / 3,by omega,by omega,by omega⟩
 obtain⟨t2,et2,ht3,ht4⟩:∃k:Nat,(2:Int)*(th:Int)=(k:Int)∧k≤2*th∧2*th≤k:=⟨2*th,by omega,by omega,by omega⟩
 by_cases hTl:T≤(Q.length:Int)
 ·have d1:decide ((Q.length:Int)<T)=false:=decide_eq_false (by omega)
  by_cases h2:t2≤Q.length
  ·have i2:(t2:Int)≤(Q.length:Int):=by omega
   have HC:=gI H T bz zo cap th Z b off c1 b2 off2 c2 P Q (w.alloc (.cells #[.int .i64 H,.int .i64 T] 117)) (hB.alloc _) hLZ (hAP.more _) (hAQ.more _) hb hb2 hzo hc1 hc2 (by omega) (by omega) hle (by omega) (by omega) (by omega) hI
   unfold way at HC
   by_cases hHl:(Q.length:Int)<H
   ·have d2:decide ((Q.length:Int)<H)=true:=decide_eq_true hHl
    go_enter Tryz.func175,Tryz.ntmps175
    go_wp2_with fail
    refine HC.mono ?_
    rintro e w2 hd
    have HD:=aa (aG.after hd (Fr.alloc bz w _))
    obtain⟨he,_⟩:=hd
    subst he
    clear hAP hAQ hB HC
    go_wp2
    go_end0
    exact HD.out
   ·have d2:decide ((Q.length:Int)<H)=false:=decide_eq_false hHl
    go_enter Tryz.func175,Tryz.ntmps175
    go_wp2_with fail
    refine HC.mono ?_
    rintro e w2 hd
    have HD:=aa (aG.after hd (Fr.alloc bz w _))
    obtain⟨he,_⟩:=hd
    subst he
    clear hAP hAQ hB HC
    go_wp2
    go_end0
    exact HD.out
  ·have i2:decide ((t2:Int)≤(Q.length:Int))=false:=decide_eq_false (by omega)
   have HC:=fg H T bz zo cap Z _ _ P Q (w.alloc (.cells #[.int .i64 H,.int .i64 T] 117)) (hB.alloc _) hLZ (hAP.more _) (hAQ.more _) (aw hb _ _) (aw hb2 _ _) hzo hc1 hc2 (by omega) (by omega) (fun t _=>hI _ _ (by simp;omega))
   unfold way at HC
   by_cases hHl:(Q.length:Int)<H
   ·have d2:decide ((Q.length:Int)<H)=true:=decide_eq_true hHl
    go_enter Tryz.func175,Tryz.ntmps175
    go_wp2_with fail
    refine HC.mono ?_
    rintro e w2 hd
    have HD:=aa (aG.after hd (Fr.alloc bz w _))
    obtain⟨he,_⟩:=hd
    subst he
    clear hAP hAQ hB HC
    go_wp2
    go_end0
    exact HD.out
   ·have d2:decide ((Q.length:Int)<H)=false:=decide_eq_false hHl
    go_enter Tryz.func175,Tryz.ntmps175
    go_wp2_with fail
    refine HC.mono ?_
    rintro e w2 hd
    have HD:=aa (aG.after hd (Fr.alloc bz w _))
    obtain⟨he,_⟩:=hd
    subst he
    clear hAP hAQ hB HC
    go_wp2
    go_end0
    exact HD.out
 ·have d1:(Q.length:Int)<T:=by omega
  have d0:decide (T≤(Q.length:Int))=false:=decide_eq_false (by omega)
  have d2:decide ((Q.length:Int)<H)=false:=decide_eq_false (by omega)
  by_cases h3:hf<Q.length
  ·have i3:(hf:Int)<(Q.length:Int):=by omega
   have HC:=jD H T bz zo cap hf Z b off c1 b2 off2 c2 P Q (w.alloc (.cells #[.int .i64 H,.int .i64 T] 117)) (hB.alloc _) hLZ (hAP.more _) (hAQ.more _) hb hb2 hzo hc1 hc2 (by omega) h3 hle (by omega) (by omega) hI
   unfold way at HC
   go_enter Tryz.func175,Tryz.ntmps175
   go_wp2_with fail
   refine HC.mono ?_
   rintro e w2 hd
   have HD:=aa (aG.after hd (Fr.alloc bz w _))
   obtain⟨he,_⟩:=hd
   subst he
   clear hAP hAQ hB HC
   go_wp2
   go_end0
   exact HD.out
  ·have i3:decide ((hf:Int)<(Q.length:Int))=false:=decide_eq_false (by omega)
   have HC:=fg H T bz zo cap Z _ _ P Q (w.alloc (.cells #[.int .i64 H,.int .i64 T] 117)) (hB.alloc _) hLZ (hAP.more _) (hAQ.more _) (aw hb _ _) (aw hb2 _ _) hzo hc1 hc2 (by omega) (by omega) (fun t _=>hI _ _ (by simp;omega))
   unfold way at HC
   go_enter Tryz.func175,Tryz.ntmps175
   go_wp2_with fail
   refine HC.mono ?_
   rintro e w2 hd
   have HD:=aa (aG.after hd (Fr.alloc bz w _))
   obtain⟨he,_⟩:=hd
   subst he
   clear hAP hAQ hB HC
   go_wp2
   go_end0
   exact HD.out

theorem ku (H T:Int)(hH:2≤H)(hT:3≤T)(P Q:List Nat)(hlt:Q.length<P.length)(hb4:P.length+Q.length≤4398046511103)(hns:¬((Q.length:Int)<H∧(Q.length:Int)<T))(hI:∀X Y:List Nat,X.length+Y.length<P.length+Q.length→bV H T X Y):bV H T Q P:=by
 intro bz zo cap Z va vb w hB hLZ hAQ hAP ho2 ho hzo hc1 hc2
 have hQ0:2≤Q.length:=by omega
 have hle:Q.length≤P.length:=by omega
 obtain⟨b,off,c1,rfl⟩:=hAP.addr (by omega)
 obtain⟨b2,off2,c2,rfl⟩:=hAQ.addr (by omega)
 have hb:=ho _ _ _ _ rfl
 have hb2:=ho2 _ _ _ _ rfl
 unfold way
 rw [Nat.add_comm Q.length,Nat.mul_comm (val Q)]
 rw [Nat.add_comm Q.length] at hzo hc1
 have hd0:(Q.length:Int)<(P.length:Int):=by omega
 obtain⟨_,_,e0,hcc1,hcm1,_⟩:=hAP.form
 cases e0
 obtain⟨_,_,e0,hcc2,hcm2,_⟩:=hAQ.form
 cases e0
 have fP:=hAP.few
 have fQ:=hAQ.few
 obtain⟨hf,ehf,hf1,hf2⟩:∃k:Nat,((P.length:Int)+1) / 2=(k:Int)∧2*k≤P.length+1∧P.length≤2*k:=⟨(P.length+1) / 2,by omega,by omega,by omega⟩
 obtain⟨th,eth,ht1,ht2⟩:∃k:Nat,((P.length:Int)+2) / 3=(k:Int)∧3*k≤P.length+2∧P.length≤3*k:=⟨(P.length+2) / 3,by omega,by omega,by omega⟩
 obtain⟨t2,et2,ht3,ht4⟩:∃k:Nat,(2:Int)*(th:Int)=(k:Int)∧k≤2*th∧2*th≤k:=⟨2*th,by omega,by omega,by omega⟩
 by_cases hTl:T≤(Q.length:Int)
 ·have d1:decide ((Q.length:Int)<T)=false:=decide_eq_false (by omega)
  by_cases h2:t2≤Q.length
  ·have i2:(t2:Int)≤(Q.length:Int):=by omega
   have HC:=gI H T bz zo cap th Z b off c1 b2 off2 c2 P Q (w.alloc (.cells #[.int .i64 H,.int .i64 T] 117)) (hB.alloc _) hLZ (hAP.more _) (hAQ.more _) hb hb2 hzo hc1 hc2 (by omega) (by omega) hle (by omega) (by omega) (by omega) hI
   unfold way at HC
   by_cases hHl:(Q.length:Int)<H
   ·have d2:decide ((Q.length:Int)<H)=true:=decide_eq_true hHl
    go_enter Tryz.func175,Tryz.ntmps175
    go_wp2_with fail
    refine HC.mono ?_
    rintro e w2 hd
    have HD:=aa (aG.after hd (Fr.alloc bz w _))
    obtain⟨he,_⟩:=hd
    subst he
    clear hAP hAQ hB HC
    go_wp2
    go_end0
    exact HD.out
   ·have d2:decide ((Q.length:Int)<H)=false:=decide_eq_false hHl
    go_enter Tryz.func175,Tryz.ntmps175
    go_wp2_with fail
    refine HC.mono ?_
    rintro e w2 hd
    have HD:=aa (aG.after hd (Fr.alloc bz w _))
    obtain⟨he,_⟩:=hd
    subst he
    clear hAP hAQ hB HC
    go_wp2
    go_end0
    exact HD.out
  ·have i2:decide ((t2:Int)≤(Q.length:Int))=false:=decide_eq_false (by omega)
   have HC:=fg H T bz zo cap Z _ _ P Q (w.alloc (.cells #[.int .i64 H,.int .i64 T] 117)) (hB.alloc _) hLZ (hAP.more _) (hAQ.more _) (aw hb _ _) (aw hb2 _ _) hzo hc1 hc2 (by omega) (by omega) (fun t _=>hI _ _ (by simp;omega))
   unfold way at HC
   by_cases hHl:(Q.length:Int)<H
   ·have d2:decide ((Q.length:Int)<H)=true:=decide_eq_true hHl
    go_enter Tryz.func175,Tryz.ntmps175
    go_wp2_with fail
    refine HC.mono ?_
    rintro e w2 hd
    have HD:=aa (aG.after hd (Fr.alloc bz w _))
    obtain⟨he,_⟩:=hd
    subst he
    clear hAP hAQ hB HC
    go_wp2
    go_end0
    exact HD.out
   ·have d2:decide ((Q.length:Int)<H)=false:=decide_eq_false hHl
    go_enter Tryz.func175,Tryz.ntmps175
    go_wp2_with fail
    refine HC.mono ?_
    rintro e w2 hd
    have HD:=aa (aG.after hd (Fr.alloc bz w _))
    obtain⟨he,_⟩:=hd
    subst he
    clear hAP hAQ hB HC
    go_wp2
    go_end0
    exact HD.out
 ·have d1:(Q.length:Int)<T:=by omega
  have d0:decide (T≤(Q.length:Int))=false:=decide_eq_false (by omega)
  have d2:decide ((Q.length:Int)<H)=false:=decide_eq_false (by omega)
  by_cases h3:hf<Q.length
  ·have i3:(hf:Int)<(Q.length:Int):=by omega
   have HC:=jD H T bz zo cap hf Z b off c1 b2 off2 c2 P Q (w.alloc (.cells #[.int .i64 H,.int .i64 T] 117)) (hB.alloc _) hLZ (hAP.more _) (hAQ.more _) hb hb2 hzo hc1 hc2 (by omega) h3 hle (by omega) (by omega) hI
   unfold way at HC
   go_enter Tryz.func175,Tryz.ntmps175
   go_wp2_with fail
   refine HC.mono ?_
   rintro e w2 hd
   have HD:=aa (aG.after hd (Fr.alloc bz w _))
   obtain⟨he,_⟩:=hd
   subst he
   clear hAP hAQ hB HC
   go_wp2
   go_end0
   exact HD.out
  ·have i3:decide ((hf:Int)<(Q.length:Int))=false:=decide_eq_false (by omega)
   have HC:=fg H T bz zo cap Z _ _ P Q (w.alloc (.cells #[.int .i64 H,.int .i64 T] 117)) (hB.alloc _) hLZ (hAP.more _) (hAQ.more _) (aw hb _ _) (aw hb2 _ _) hzo hc1 hc2 (by omega) (by omega) (fun t _=>hI _ _ (by simp;omega))
   unfold way at HC
   go_enter Tryz.func175,Tryz.ntmps175
   go_wp2_with fail
   refine HC.mono ?_
   rintro e w2 hd
   have HD:=aa (aG.after hd (Fr.alloc bz w _))
   obtain⟨he,_⟩:=hd
   subst he
   clear hAP hAQ hB HC
   go_wp2
   go_end0
   exact HD.out

theorem mC (H T:Int)(hH:2≤H)(hT:3≤T):∀(k:Nat) (X Y:List Nat),X.length+Y.length≤k→k≤4398046511103→bV H T X Y:=by
 intro k
 induction k with
 | zero=>
  intro X Y h _
  exact gj H T X Y (.inr ⟨by omega,by omega,by omega⟩)
 | succ k ih=>
  intro X Y h hk
  have hI:∀P Q:List Nat,P.length+Q.length<X.length+Y.length→bV H T P Q:=fun P Q hl=>ih P Q (by omega) (by omega)
  by_cases hlt:X.length<Y.length
  ·by_cases hs:(X.length:Int)<H∧(X.length:Int)<T
   ·exact gj H T X Y (.inl ⟨hlt,hs⟩)
   ·exact ku H T hH hT Y X hlt (by omega) hs (fun P Q hl=>hI P Q (by omega))
  ·by_cases hs:(Y.length:Int)<H∧(Y.length:Int)<T
   ·exact gj H T X Y (.inr ⟨by omega,hs⟩)
   ·exact oD H T hH hT X Y (by omega) (by omega) hs hI

theorem gO (bz zo n cap:Nat)(Z:List Nat)(va:Value)(a2:Option Addr)(c2:Nat)(w:World)(hB:Blk w bz Z)(hLZ:Limbs Z)(hzo:zo+n≤Z.length) :
  Calls Tryz.prog 190 #[.slice (some ⟨bz,zo,none⟩) n cap,va,.slice a2 0 c2] w (aG bz zo n Z w 0):=by
 obtain⟨w1,Z1,hrun,hO,hL,hB1,hF,hS⟩:=fC bz zo n cap Z w hB hLZ hzo
 have HD:=aa (show aG bz zo n Z w 0 (.returned (.tuple #[])) w1 from ⟨rfl,Z1,hO,hL,hB1,hF,hS⟩)
 clear hO hL hB1 hF hS hB hLZ
 go_enter Tryz.func190,Tryz.ntmps190
 go_wp2
 refine wp_loop_rounds 1 ?_
 rw [rounds_succ]
 go_wp2
 go_end0
 exact HD.out

theorem mK (H T:Int)(hH:1≤H)(hT:1≤T)(bz zo n cap:Nat)(Z:List Nat)(a1:Option Addr)(l1 c1:Nat)(a2:Option Addr)(l2 c2:Nat)(w:World)(hB:Blk w bz Z)(hLZ:Limbs Z)(hz:l1=0∨l2=0)(hl1:l1≤1125899906842624)(hl2:l2≤1125899906842624)(hzo:zo+n≤Z.length) :
  Calls Tryz.prog 175 #[way H T,.slice (some ⟨bz,zo,none⟩) n cap,.slice a1 l1 c1,.slice a2 l2 c2] w (aG bz zo n Z w 0):=by
 unfold way
 have i1:(0:Int)<H:=by omega
 have i2:(0:Int)<T:=by omega
 by_cases h2:l2=0
 ·subst h2
  have hd0:decide ((l1:Int)<0)=false:=decide_eq_false (by omega)
  have HS:=gO bz zo n cap Z (.slice a1 l1 c1) a2 c2 (w.alloc (.cells #[.int .i64 H,.int .i64 T] 117)) (hB.alloc _) hLZ hzo
  clear hz
  go_enter Tryz.func175,Tryz.ntmps175
  go_wp2_with fail
  refine HS.mono ?_
  rintro e w2 hd
  have HD:=aa (aG.after hd (Fr.alloc bz w _))
  obtain⟨he,_⟩:=hd
  subst he
  clear HS hB
  go_wp2
  go_end0
  exact HD.out
 ·have h1:l1=0:=by omega
  subst h1
  have hd0:(0:Int)<(l2:Int):=by omega
  have HS:=gO bz zo n cap Z (.slice a2 l2 c2) a1 c1 (w.alloc (.cells #[.int .i64 H,.int .i64 T] 117)) (hB.alloc _) hLZ hzo
  clear hz
  go_enter Tryz.func175,Tryz.ntmps175
  go_wp2_with fail
  refine HS.mono ?_
  rintro e w2 hd
  have HD:=aa (aG.after hd (Fr.alloc bz w _))
  obtain⟨he,_⟩:=hd
  subst he
  clear HS hB
  go_wp2
  go_end0
  exact HD.out

theorem ie (Z:List Nat)(N s M:Nat)(hM:s+M≤N)(hM2:N≤s+M)(ho:Out (List.replicate N 0) Z s (s+M))(hs:sv Z s M=0):val Z=0:=by
 have hl:Z.length=N:=by rw [ho.len];simp
 have e0:sv Z 0 s=0:=by
  rw [ho.sv 0 s (by omega)]
  unfold sv seg
  rw [List.drop_replicate,List.take_replicate,val_replicate]
 have e1:sv Z 0 (s+M)=val Z:=by rw [show s+M=Z.length by omega,bH]
 rw [aB _ _ _ _ (by omega),e0,Nat.zero_add,Nat.zero_add,hs,Nat.mul_zero] at e1
 exact e1.symm

theorem jS (H T:Int)(hH:1≤H)(hTT:1≤T)(va vb:Value)(X Y:List Nat)(w:World)(hA:Arg w va X)(hA2:Arg w vb Y)(hT:Tab w)(hXY:val X=0∨val Y=0)(hf:X.length+Y.length≤35184372088831) :
  Calls Tryz.prog 133 #[way H T,va,vb] w (dP w 0 (X.length+Y.length)):=by
 unfold way
 obtain⟨a1,c1,rfl,hcc1,hcm1,hl1⟩:=hA.form
 obtain⟨a2,c2,rfl,hcc2,hcm2,hl2⟩:=hA2.form
 have lX:=tr_length_le X
 have lY:=tr_length_le Y
 have hXY0:(tr X).length=0∨(tr Y).length=0:=by
  rcases hXY with h|h
  ·left;have:=aQ X 0 (by rw [h];simp);omega
  ·right;have:=aQ Y 0 (by rw [h];simp);omega
 obtain⟨i0,hi,hz0,hz1,hz2⟩:=info_parts Tryz.infoU
 obtain⟨w1,hw1⟩:∃w1,w1=w.alloc (.cells #[.int .i64 H,.int .i64 T] 117):=⟨_,rfl⟩
 have hbel1:Below w.heap.size w w1:=by rw [hw1];exact (Below.refl _ _).alloc (Nat.le_refl _) _
 have hs1:w1.heap.size=w.heap.size+1:=by rw [hw1];simp
 have hb1:w1.heap[w.heap.size]?=some (.cells #[.int .i64 H,.int .i64 T] 117):=by rw [hw1];exact heap_alloc_new ..
 have hc0:w1.cell? ⟨w.heap.size,0,none⟩=some (.int .i64 H):=by simp [World.cell?,hb1]
 have hc1:w1.cell? ⟨w.heap.size,1,none⟩=some (.int .i64 T):=by simp [World.cell?,hb1]
 have B1:=aa hbel1
 have HW1:=aa hw1
 have A1:=(hA.below hbel1).trim
 have A2:=(hA2.below hbel1).trim
 have hT1:=hT.below hbel1
 have H1:=cj a1 c1 X w1 hcc1 hcm1 (hl1.below hbel1)
 have H2:=cj a2 c2 Y w1 hcc2 hcm2 (hl2.below hbel1)
 clear hA hA2 hT hl1 hl2 hXY hw1 hbel1
 generalize tr X=P at *
 generalize tr Y=Q at *
 obtain⟨N,hN1,hN2,eN⟩:∃N:Nat,N≤P.length+Q.length∧P.length+Q.length≤N∧(P.length:Int)+(Q.length:Int)=(N:Int):=⟨P.length+Q.length,by omega,by omega,by omega⟩
 go_enter Tryz.func133,Tryz.ntmps133
 go_wp2_with fail
 rw [←HW1.out]
 refine H1.mono ?_
 rintro e w2 ⟨rfl,hw⟩;subst hw
 go_wp2_with fail
 refine H2.mono ?_
 rintro e w3 ⟨rfl,hw⟩;subst hw
 clear H1 H2
 go_wp2_with (at_make;refine wpList_make_full _ rfl _ _ 25 rfl w3.heap.size 61 i0 (.int .u64 0) 1 Tryz.underlying25 hi hz0 hz1 .i64 .i64 _ _ N rfl rfl (by omega) (by omega) (by rw [hz2];omega) (by unfold maxLen;omega) (Nat.le_refl _) ?_;intro w4 hown hgrow)
 have hb4:=Blk.made hown
 rw [hs1] at hb4
 have hbel4:Below w3.heap.size w3 w4:=(Below.refl _ _).grown hgrow (Nat.le_refl _) (fun k hk=>by cases hk)
 have hs4:w3.heap.size<w4.heap.size:=by rw [hs1];exact hb4.lt
 clear hown hgrow hi hz0 hz1 hz2
 have B4:Hid (Below w.heap.size w w4):=B1.out.trans (hbel4.mono (by omega))
 replace A1:=A1.below hbel4
 replace A2:=A2.below hbel4
 replace hT1:=hT1.below hbel4
 have hc04:w4.cell? ⟨w.heap.size,0,none⟩=some (.int .i64 H):=by rw [hbel4.cell (p:=⟨w.heap.size,0,none⟩) (by show w.heap.size<_;omega)];exact hc0
 have hc14:w4.cell? ⟨w.heap.size,1,none⟩=some (.int .i64 T):=by rw [hbel4.cell (p:=⟨w.heap.size,1,none⟩) (by show w.heap.size<_;omega)];exact hc1
 clear hc0 hc1 hb1 B1 HW1 hbel4
 refine (dS _ _ _ A1 hT1).mono ?_
 rintro e w5 ⟨⟨t,ht,rfl⟩,hw⟩;subst hw
 have li:=eF P
 generalize aZ P=i at *
 obtain⟨ti,eti⟩:∃ti:Nat,ti=i*64+t:=⟨_,rfl⟩
 have eI:(ti:Int) / 64=(i:Int):=by omega
 have fP:=A1.few
 have fQ:=A2.few
 have hti:ti≤9223372036854775807:=by omega
 rw [←eti]
 clear eti ht
 go_wp2_with fail
 refine (dS _ _ _ A2 hT1).mono ?_
 rintro e w6 ⟨⟨u,hu,rfl⟩,hw⟩;subst hw
 have lj:=eF Q
 generalize aZ Q=j at *
 obtain⟨tj,etj⟩:∃tj:Nat,tj=j*64+u:=⟨_,rfl⟩
 have eJ:(tj:Int) / 64=(j:Int):=by omega
 have htj:tj≤9223372036854775807:=by omega
 rw [←etj]
 clear etj hu hT1 A1 A2
 obtain⟨g,hg⟩:∃g,g=w.heap.size+1:=⟨_,rfl⟩
 obtain⟨s,eS,hSa,hSb⟩:∃s:Nat,(i:Int)+(j:Int)=(s:Int)∧s≤i+j∧i+j≤s:=⟨i+j,by omega,by omega,by omega⟩
 obtain⟨M,hM1,hM2⟩:∃M:Nat,s+M≤N∧N≤s+M:=⟨N - s,by omega,by omega⟩
 have eM:N - s=M:=by omega
 obtain⟨zh,ezh,hzh⟩:∃zh:Nat,(if N=s then (some ⟨g,0,none⟩:Option Addr) else some ⟨g,s,none⟩)=some ⟨g,zh,none⟩∧(zh=s∨(zh=0∧M=0)):=by
  by_cases hc:N=s
  ·exact⟨0,by rw [if_pos hc],.inr ⟨rfl,by omega⟩⟩
  ·exact⟨s,by rw [if_neg hc],.inl rfl⟩
 have HIN:=fun (b1:Option Addr) (k1:Nat) (b2:Option Addr) (k2:Nat)=>mK H T hH hTT g zh M M (List.replicate N 0) b1 (P.length - i) k1 b2 (Q.length - j) k2 w6.drew (by rw [hg];exact hb4) (limbs_replicate _) (by omega) (by omega) (by omega) (by simp;omega)
 have wS:IntKind.i64.wrap (s:Int)=(s:Int):=by rw [IntKind.wrap_i64];omega
 have k1:(0:Int)≤(s:Int):=by omega
 have k2:(s:Int)≤(N:Int):=by omega
 have k3:(0:Int)≤(i:Int):=by omega
 have k4:(i:Int)≤(P.length:Int):=by omega
 have k5:(0:Int)≤(j:Int):=by omega
 have k6:(j:Int)≤(Q.length:Int):=by omega
 have k7:(i:Int)≤(c1:Int):=by omega
 have k8:(j:Int)≤(c2:Int):=by omega
 rw [←hg]
 have HG:=aa hg
 have HZH:=aa hzh
 clear hg hzh
 unfold way at HIN
 have HK:=aa (fun (w7:World) (hF:Fr g w6.drew w7)=>(⟨by rw [World.cell?_of_block (w:=w6.drew) (hF.block w.heap.size (by show _<w6.heap.size;have:=HG.out;omega) (by have:=HG.out;omega))];exact hc04,by rw [World.cell?_of_block (w:=w6.drew) (hF.block w.heap.size (by show _<w6.heap.size;have:=HG.out;omega) (by have:=HG.out;omega))];exact hc14⟩:w7.cell? ⟨w.heap.size,0,none⟩=some (.int .i64 H)∧w7.cell? ⟨w.heap.size,1,none⟩=some (.int .i64 T)))
 by_cases hci:c1=i <;> by_cases hcj:c2=j
 all_goals
  go_wp2
  go_region_held3 (fun w'=>w'.cell? ⟨w.heap.size,0,none⟩=some (.int .i64 H)∧w'.cell? ⟨w.heap.size,1,none⟩=some (.int .i64 T)) (go_keep) (first | (go_at_call 175;refine (HIN _ _ _ _).mono ?_;rintro e w7 ⟨rfl,Z',hO,hlz,hB7,hF7,hv7⟩;obtain⟨hk0,hk1⟩:=HK.out w7 hF7;have HD:=aa (And.intro hO (And.intro hlz (And.intro hB7 (And.intro hF7 hv7))));clear hO hlz hB7 hF7 hv7))
  obtain⟨hO,hlz,hB7,hF7,hv7⟩:=HD.out
  have hlZ:Z'.length=N:=by rw [hO.len];simp
  have hvz:val Z'=0:=by
   rcases HZH.out with h|⟨h,h'⟩
   ·rw [h] at hO hv7;exact ie Z' N s M hM1 hM2 hO hv7
   ·rw [h,h'] at hO
    exact ie Z' N s M hM1 hM2 ⟨hO.len,fun k _=>hO.same k (by omega)⟩ (by rw [h',aR])
  have hans:=(Ans.of_blk (base:=w.heap.size) (zs:=Z') (by have:=HG.out;omega) hB7 List.take_length.symm (Nat.le_refl _) (by omega) hlz).trim
  have HT2:=cj (some ⟨g,0,none⟩) N Z' w7 (by omega) (by omega) (.inr ⟨g,0,rfl,fun k hk=>by rw [Nat.zero_add];exact hB7.cell k hk⟩)
  rw [hlZ] at HT2 hans
  have hlt:=tr_length_le Z'
  have HR:Hid (dP w 0 (X.length+Y.length) (.returned (.slice (some ⟨g,0,none⟩) (tr Z').length N)) w7):=
   aa ⟨⟨_,tr Z',rfl,hans,by rw [val_tr,hvz],tr_tr _,by omega⟩,B4.out.trans ((Fr.trans (Fr.refl g w6).drew hF7).below (by have:=HG.out;omega) B4.out.size)⟩
  clear hO hlz hB7 hF7 hv7 HD HIN HK hans hvz hb4 B4 HG
  generalize (tr Z').length=n' at *
  go_wp2_with fail
  refine HT2.mono ?_
  rintro e w8 ⟨rfl,hw⟩;subst hw
  clear HT2
  go_wp2
  go_ret
  exact HR.out

theorem oG (H T:Int)(hH:2≤H)(hTT:3≤T)(va vb:Value)(X Y:List Nat)(w:World)(hA:Arg w va X)(hA2:Arg w vb Y)(hT:Tab w)(hf:X.length+Y.length≤35184372088831)(hl:(tr X).length+(tr Y).length≤4398046511103∨val X=0∨val Y=0) :
  Calls Tryz.prog 133 #[way H T,va,vb] w (dP w (val X*val Y) (X.length+Y.length)):=by
 by_cases hz:val X=0∨val Y=0
 ·rw [show val X*val Y=0 by rcases hz with h|h <;> rw [h] <;> simp]
  exact jS H T (by omega) (by omega) va vb X Y w hA hA2 hT hz hf
 ·refine nu H T va vb X Y w hA hA2 hT (fun e=>hz (.inl e)) (fun e=>hz (.inr e)) hf ?_
  exact mC H T hH hTT 4398046511103 _ _ (by rw [List.length_drop,List.length_drop];rcases hl with h|h;omega;exact absurd h hz) (Nat.le_refl _)

theorem kW (X Y:List Nat)(h:cC (val X) (val Y)≤67108864):(tr X).length+(tr Y).length≤4398046511103∨val X=0∨val Y=0:=by
 by_cases hz:val X=0∨val Y=0
 ·exact .inr hz
 ·left
  unfold cC at h
  rw [if_neg hz] at h
  have hx:blen (val X)≠0:=by unfold blen;rw [if_neg (fun e=>hz (.inl e))];omega
  have hy:blen (val Y)≠0:=by unfold blen;rw [if_neg (fun e=>hz (.inr e))];omega
  have h1:=few_limbs X 1048576 (by omega)
  have h2:=few_limbs Y 1048576 (by omega)
  omega

theorem jZ (H T:Int)(hH:2≤H)(hTT:3≤T)(va vb:Value)(X Y:List Nat)(w:World)(hA:Arg w va X)(hA2:Arg w vb Y)(hT:Tab w)(hf:X.length+Y.length≤35184372088831) :
  Calls Tryz.prog 95 #[way H T,va,vb] w fun e w'=>Below w.heap.size w w'∧Res w' w.heap.size e (val X*val Y):=by
 obtain⟨w1,hw1⟩:∃w1,w1=w.alloc (.cells #[.int .i64 H,.int .i64 T] 117):=⟨_,rfl⟩
 have hbel1:Below w.heap.size w w1:=by rw [hw1];exact (Below.refl _ _).alloc (Nat.le_refl _) _
 have hb1:w1.heap[w.heap.size]?=some (.cells #[.int .i64 H,.int .i64 T] 117):=by rw [hw1];exact heap_alloc_new ..
 have hc0:w1.cell? ⟨w.heap.size,0,none⟩=some (.int .i64 H):=by simp [World.cell?,hb1]
 have hc1:w1.cell? ⟨w.heap.size,1,none⟩=some (.int .i64 T):=by simp [World.cell?,hb1]
 have H1:=o9 va vb X Y w1 (hA.below hbel1) (hA2.below hbel1) (by omega) (by omega)
 have hle:=nD (val X) (val Y)
 by_cases hbig:cC (val X) (val Y)≤67108864
 ·have H2:=oG H T hH hTT va vb X Y w1 (hA.below hbel1) (hA2.below hbel1) (hT.below hbel1) hf (kW X Y hbig)
  have B1:=aa hbel1
  have HW1:=aa hw1
  clear hA hA2 hT hw1 hbel1 hb1
  unfold way at *
  generalize val X*val Y=p at *
  generalize cC (val X) (val Y)=l at *
  go_enter Tryz.func95,Tryz.ntmps95
  go_wp2_with fail
  rw [←HW1.out]
  refine H1.mono ?_
  rintro e w2 ⟨rfl,hw⟩;subst hw
  clear H1 HW1
  go_wp2_with fail
  refine H2.mono ?_
  rintro e w3 ⟨⟨v,rs,rfl,hans,hv,ht,hl⟩,hb⟩
  have HR:=mt v w.heap.size rs w3 (hans.base B1.out.size) (by omega)
  rw [hv] at HR
  have B3:Hid (Below w.heap.size w w3):=B1.out.trans (hb.mono B1.out.size)
  clear H2 hans hv ht hb hc0 hc1
  go_wp2_with fail
  refine HR.mono ?_
  rintro e w4 ⟨hw,hres⟩;subst hw
  unfold Res at hres
  obtain⟨v,c,rs,rfl,hres⟩:=hres
  have HX:=aa hres
  clear hres HR
  go_wp2
  go_ret2
  exact⟨B3.out,v,c,rs,rfl,HX.out⟩
 ·have HP:Hid (67108864<blen (val X*val Y)):=aa (by omega)
  have B1:=aa hbel1
  have HW1:=aa hw1
  clear hle hA hA2 hT hw1 hbel1 hb1
  unfold way at *
  generalize val X*val Y=p at *
  generalize cC (val X) (val Y)=l at *
  go_enter Tryz.func95,Tryz.ntmps95
  go_wp2_with fail
  rw [←HW1.out]
  refine H1.mono ?_
  rintro e w2 ⟨rfl,hw⟩;subst hw
  clear H1 HW1
  go_wp2
  go_ret2
  exact⟨B1.out,_,_,[],rfl,Ans.nil _ _,.inr ⟨rfl,rfl,HP.out⟩⟩

theorem e8 (va vb:Value)(X Y:List Nat)(w:World)(hA:Arg w va X)(hA2:Arg w vb Y)(hT:Tab w)(hf:X.length+Y.length≤35184372088831) :
  Calls Tryz.prog 62 #[va,vb] w fun e w'=>Below w.heap.size w w'∧Res w' w.heap.size e (val X*val Y):=by
 have HQ:=nA w
 go_enter Tryz.func62,Tryz.ntmps62
 go_wp2_with fail
 refine HQ.mono ?_
 rintro e w1 ⟨rfl,hb⟩
 have B1:=aa hb
 have HP:=jZ 40 200 (by omega) (by omega) va vb X Y w1 (hA.below hb) (hA2.below hb) (hT.below hb) hf
 generalize way 40 200=W at *
 clear hb HQ hA hA2 hT
 go_wp2_with fail
 refine HP.mono ?_
 rintro e w2 ⟨hb,v,c,rs,rfl,hans,hres⟩
 have HR:=aa (And.intro (B1.out.trans (hb.mono B1.out.size)) (And.intro (hans.base B1.out.size) hres))
 clear hb hans hres HP
 go_wp2
 go_ret2
 exact⟨HR.out.1,v,c,rs,rfl,HR.out.2.1,HR.out.2.2⟩
end Go.Proofs.YtdbjbbdhlpfhjaaGreatDoor

