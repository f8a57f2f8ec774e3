/- Package mul: halves. -/
import Derived.Test.YtdbjbbdhlpfhjaaGreatDoorB04
import Derived.Test.YtdbjbbdhlpfhjaaGreatDoorB02
import Derived.Test.YtdbjbbdhlpfhjaaGreatDoorB03
import Derived.Handy
import Derived.Deep.QuietTactic
import Derived.BigQuiet
set_option maxRecDepth 20000
set_option maxHeartbeats 1000000
namespace Go.Proofs.YtdbjbbdhlpfhjaaGreatDoor
open Go.RowKit
open Lm

theorem pa (n k:Nat):(List.replicate n 0).getD k 0=0:=by
 by_cases h:k<n
 ·simp [List.getD,h]
 ·simp [List.getD,h]

theorem i8 (h d:Nat)(e:d=h+h):18446744073709551616 ^ d=18446744073709551616 ^ h*18446744073709551616 ^ h:=by
 rw [e,Nat.pow_add]

theorem kG {a b d:Nat}(ha:a<18446744073709551616 ^ d)(hb:b<18446744073709551616 ^ d):a+b<18446744073709551616 ^ (d+1):=by
 rw [Nat.pow_succ]
 generalize (18446744073709551616:Nat) ^ d=P at *
 omega

theorem nZ (a0 a1 b0 b1 da db:Nat)(ha:da=if a0<a1 then a1 - a0 else a0 - a1)(hb:db=if b0<b1 then b1 - b0 else b0 - b1)(h:decide (a0<a1)=decide (b0<b1)):da*db≤a0*b0+a1*b1:=by
 subst ha;subst hb
 by_cases h1:a0<a1
 ·have h2:b0<b1:=by simpa [h1] using h
  rw [if_pos h1,if_pos h2]
  exact Nat.le_trans (Nat.mul_le_mul (Nat.sub_le _ _) (Nat.sub_le _ _)) (Nat.le_add_left _ _)
 ·have h2:¬b0<b1:=by simpa [h1] using h
  rw [if_neg h1,if_neg h2]
  exact Nat.le_trans (Nat.mul_le_mul (Nat.sub_le _ _) (Nat.sub_le _ _)) (Nat.le_add_right _ _)

theorem pd (a0 a1 b0 b1 P:Nat):(a0+P*a1)*(b0+P*b1)=a0*b0+P*P*(a1*b1)+P*(a0*b1+a1*b0):=by grind

theorem j6 (H T:Int)(bz zo cap h:Nat)(Z:List Nat)(b off c1 b2 off2 c2:Nat)(X Y:List Nat)(w:World)(hB:Blk w bz Z)(hLZ:Limbs Z)
  (hA:Arg w (.slice (some ⟨b,off,none⟩) X.length c1) X) (hA2:Arg w (.slice (some ⟨b2,off2,none⟩) Y.length c2) Y) (hb:b≠bz) (hb2:b2≠bz)
  (hzo:zo+(X.length+Y.length)≤Z.length) (hc1:X.length+Y.length≤cap) (hc2:cap≤9223372036854775807) (hh0:0<h) (hhY:h<Y.length) (hYX:Y.length≤X.length) (hXh:X.length≤2*h) (hlX:X.length≤4398046511103)
  (hI:∀P Q:List Nat,P.length+Q.length<X.length+Y.length→cf H T P Q) :
  Calls Tryz.prog 192 #[way H T,.slice (some ⟨bz,zo,none⟩) (X.length+Y.length) cap,.slice (some ⟨b,off,none⟩) X.length c1,.slice (some ⟨b2,off2,none⟩) Y.length c2,.int .i64 h] w (aK bz zo (X.length+Y.length) Z w (val X*val Y)):=by
 unfold way
 obtain⟨_,_,e0,hcc1,hcm1,_⟩:=hA.form
 cases e0
 obtain⟨_,_,e0,hcc2,hcm2,_⟩:=hA2.form
 cases e0
 obtain⟨i0,hi,hz0,hz1,hz2⟩:=info_parts Tryz.infoU
 have hbz:=hB.lt
 have hbw:=hA.block (by omega)
 have hbw2:=hA2.block (by omega)
 obtain⟨w1,hw1⟩:∃w1,w1=w.alloc (.cells #[.int .i64 H,.int .i64 T] 117):=⟨_,rfl⟩
 have hbel1:Below w.heap.size w w1:=by rw [hw1];exact (Below.refl _ _).alloc (Nat.le_refl _) _
 have hs1:w1.heap.size=w.heap.size+1:=by rw [hw1];simp
 have hb1:w1.heap[w.heap.size]?=some (.cells #[.int .i64 H,.int .i64 T] 117):=by rw [hw1];exact heap_alloc_new ..
 have HW1:=ac hw1
 have HX1:=ac hb1
 have HB1:=ac (hB.below' hbel1)
 have HA1:=ac (hA.below hbel1)
 have HA2:=ac (hA2.below hbel1)
 have HF1:=ac (Fr.of_below (bz:=bz) hbel1)
 have HII:=ac hI
 clear hw1 hbel1 hb1 hB hA hA2 hI
 obtain⟨n,hn⟩:∃n:Nat,X.length+Y.length=n:=⟨_,rfl⟩
 have hn1:n≤X.length+Y.length:=by omega
 have hn2:X.length+Y.length≤n:=by omega
 rw [hn] at hzo hc1 HII ⊢
 have HN:=ac hn
 clear hn
 obtain⟨d,ed,hd1,hd2⟩:∃d:Nat,(2:Int)*(h:Int)=(d:Int)∧d≤2*h∧2*h≤d:=⟨2*h,by omega,by omega,by omega⟩
 obtain⟨R,eR,hR1,hR2⟩:∃R:Nat,(4:Int)*(h:Int)+1=(R:Int)∧R≤4*h+1∧4*h+1≤R:=⟨4*h+1,by omega,by omega,by omega⟩
 have wd:IntKind.i64.wrap (d:Int)=(d:Int):=by rw [IntKind.wrap_i64];omega
 have kd0:(0:Int)≤(d:Int):=by omega
 have kd1:(d:Int)≤(n:Int):=by omega
 have kd2:¬cap=d:=by omega
 have kd3:(d:Int)≤(cap:Int):=by omega
 go_enter Tryz.func192,Tryz.ntmps192
 go_wp2_with fail
 rw [←HW1.out]
 go_region
 go_wp2_with (at_make;refine wpList_make_full _ rfl _ _ 25 rfl w1.drew.heap.size 61 i0 (.int .u64 0) 1 Tryz.underlying25 hi hz0 hz1 .i64 .i64 _ _ R rfl rfl (by omega) (by omega) (by rw [hz2];omega) (by unfold maxLen;omega) (Nat.le_refl _) ?_;intro w3 hown hgrow)
 have hm3:Blk w3 (w.heap.size+1) (List.replicate R 0):=by rw [←hs1];exact Blk.made hown
 have hbel3:Below w1.heap.size w1 w3:=((Below.refl _ _).drew).grown hgrow (Nat.le_refl _) (fun k hk=>by cases hk)
 have HB3:=ac (HB1.out.below' hbel3)
 have HX3:Hid (w3.heap[w.heap.size]?=some (.cells #[.int .i64 H,.int .i64 T] 117)):=ac (by rw [hbel3.block w.heap.size (by omega)];exact HX1.out)
 have HF3:Hid (Fr bz w w3):=ac (HF1.out.trans (Fr.of_below hbel3))
 have HA3:=ac (HA1.out.below hbel3)
 have HA23:=ac (HA2.out.below hbel3)
 obtain⟨g,hg⟩:∃g,g=w.heap.size+1:=⟨_,rfl⟩
 rw [←hg] at hm3 ⊢
 have hgw:w.heap.size<g:=by omega
 have HM3:=ac hm3
 clear hown hgrow hi hz0 hz1 hz2 hbel3 HB1 HX1 HF1 HA1 HA2 HW1 hg hm3 hs1
 have mX:=HA3.out.limbs
 have mY:=HA23.out.limbs
 have kr1:(d:Int)≤(R:Int):=by omega
 have kr2:¬R=d:=by omega
 have kh0:(0:Int)≤(h:Int):=by omega
 have kh1:(h:Int)≤(d:Int):=by omega
 have kh2:(h:Int)≤(X.length:Int):=by omega
 have kh3:(h:Int)≤(Y.length:Int):=by omega
 have kh4:¬c1=h:=by omega
 have kh5:¬c2=h:=by omega
 have kh6:¬cap=h:=by omega
 have kh7:(h:Int)≤(c1:Int):=by omega
 have kh8:(h:Int)≤(c2:Int):=by omega
 have kh9:(h:Int)≤(cap:Int):=by omega
 have HAP:=gM bz zo h cap Z _ _ (X.take h) (X.drop h) w3.drew.drew HB3.out hLZ (HA3.out.front h (by omega)).drew.drew (HA3.out.drop h (by omega)).drew.drew
  (fun b' off' n' c' e=>by cases e;exact .inl hb) (fun b' off' n' c' e=>by cases e;exact .inl hb) (by omega) (by omega) hc2 (cC mX h (by omega)) (dM mX h h (by omega))
 go_wp2
 go_region
 go_wp2
 go_region_held3 (fun _=>True) (trivial) (first | (go_at_call 220;refine HAP.mono ?_;rintro e w4 ⟨rfl,Z1,p1,p2,p3,p4,p5⟩))
 have F4:=ac p4.undrew.undrew
 obtain⟨da,hda⟩:∃da,da=(if val (X.take h)<val (X.drop h) then val (X.drop h) - val (X.take h) else val (X.take h) - val (X.drop h)):=⟨_,rfl⟩
 rw [←hda] at p5
 have HDA:=ac hda
 have hbzg:bz≠g:=by omega
 have HM4:=ac (F4.out.blk HM3.out (Ne.symm hbzg))
 have HX4:Hid (w4.heap[w.heap.size]?=some (.cells #[.int .i64 H,.int .i64 T] 117)):=ac (by rw [F4.out.block w.heap.size (by have:=HM3.out.lt;omega) (by omega)];exact HX3.out)
 have HA4:=ac (HA3.out.frb F4.out hb)
 have HA24:=ac (HA23.out.frb F4.out hb2)
 have HF4:=ac (HF3.out.trans F4.out)
 have O1:=ac p1
 have S1:=ac p5
 have l1:=p1.len
 have edh:d - h=h:=by omega
 have HAP2:=gM bz (zo+h) h (cap - h) Z1 _ _ (Y.take h) (Y.drop h) w4.drew p3 p2 (HA24.out.front h (by omega)).drew (HA24.out.drop h (by omega)).drew
  (fun b' off' n' c' e=>by cases e;exact .inl hb2) (fun b' off' n' c' e=>by cases e;exact .inl hb2) (by omega) (by omega) (by omega) (cC mY h (by omega)) (dM mY h h (by omega))
 clear p1 p2 p3 p4 p5 hda HAP HB3 HX3 HF3 HA3 HA23 HM3 F4
 generalize hsa:decide (val (X.take h)<val (X.drop h))=sa at *
 have HSA:=ac hsa
 clear hsa
 go_wp2
 go_region_held3 (fun _=>True) (trivial) (first | (go_at_call 220;refine HAP2.mono ?_;rintro e w5 ⟨rfl,Z2,p1,p2,p3,p4,p5⟩))
 have F5:=ac p4.undrew
 obtain⟨db,hdb⟩:∃db,db=(if val (Y.take h)<val (Y.drop h) then val (Y.drop h) - val (Y.take h) else val (Y.take h) - val (Y.drop h)):=⟨_,rfl⟩
 rw [←hdb] at p5
 have HDB:=ac hdb
 have HM5:=ac (F5.out.blk HM4.out (Ne.symm hbzg))
 have HX5:Hid (w5.heap[w.heap.size]?=some (.cells #[.int .i64 H,.int .i64 T] 117)):=ac (by rw [F5.out.block w.heap.size (by have:=HM4.out.lt;omega) (by omega)];exact HX4.out)
 have HA5:=ac (HA4.out.frb F5.out hb)
 have HA25:=ac (HA24.out.frb F5.out hb2)
 have HF5:=ac (HF4.out.trans F5.out)
 have O2:=ac (O1.out.wider (lo':=zo) (hi':=zo+n) (Nat.le_refl _) (by omega) |>.trans (p1.wider (by omega) (by omega)))
 have S2a:Hid (sv Z2 zo h=da):=ac (by rw [p1.sv zo h (by omega)];exact S1.out)
 have S2b:=ac p5
 have HB5:=ac p3
 have HL5:=ac p2
 have l2:Z2.length=Z.length:=O2.out.len
 have sg1:=bK Z2 zo h (by omega)
 have sg2:=bK Z2 (zo+h) h (by omega)
 have HI3:=HII.out (seg Z2 zo h) (seg Z2 (zo+h) h) (by rw [sg1,sg2];omega) g 0 R (List.replicate R 0) _ _ w5.drew HM5.out (limbs_replicate _) (p3.seg_arg p2 zo h cap (by omega) (by omega) (by omega) (by omega)).drew (p3.seg_arg p2 (zo+h) h (cap - h) (by omega) (by omega) (by omega) (by omega)).drew
  (fun b' off' n' c' e=>by cases e;exact hbzg) (fun b' off' n' c' e=>by cases e;exact hbzg) (by rw [sg1,sg2];simp;omega) (by rw [sg1,sg2];omega) (by omega)
 rw [sg1,sg2,show h+h=d by omega,show val (seg Z2 zo h)=da from S2a.out,show val (seg Z2 (zo+h) h)=db from S2b.out] at HI3
 unfold way at HI3
 have HK:=ac (fun (w7:World) (hF:Fr g w5.drew w7)=>(by
  have e:w7.heap[w.heap.size]?=some (.cells #[.int .i64 H,.int .i64 T] 117):=by rw [hF.block w.heap.size (by show _<w5.heap.size;have:=HM5.out.lt;omega) (by omega)];exact HX5.out
  exact⟨by simp [World.cell?,e],by simp [World.cell?,e]⟩:w7.cell? ⟨w.heap.size,0,none⟩=some (.int .i64 H)∧w7.cell? ⟨w.heap.size,1,none⟩=some (.int .i64 T)))
 have hq0:w5.cell? ⟨w.heap.size,0,none⟩=some (.int .i64 H):=by have e:=HX5.out;simp [World.cell?,e]
 have hq1:w5.cell? ⟨w.heap.size,1,none⟩=some (.int .i64 T):=by have e:=HX5.out;simp [World.cell?,e]
 clear p1 p2 p3 p4 p5 hdb HAP2 HM4 HX4 HA4 HA24 HF4 F5 O1 S1 sg1 sg2 S2a S2b l1
 generalize hsb:decide (val (Y.take h)<val (Y.drop h))=sb at *
 have HSB:=ac hsb
 clear hsb
 go_wp2
 go_region_held3 (fun w'=>w'.cell? ⟨w.heap.size,0,none⟩=some (.int .i64 H)∧w'.cell? ⟨w.heap.size,1,none⟩=some (.int .i64 T)) (go_keep) (first | (go_at_call 175;refine HI3.mono ?_;rintro e w6 ⟨rfl,M1,p1,p2,p3,p4,p5⟩;obtain⟨hk0,hk1⟩:=HK.out w6 p4))
 rw [Nat.zero_add] at p1
 have HB6:=ac (p4.undrew.blk HB5.out hbzg)
 have HX6:Hid (w6.heap[w.heap.size]?=some (.cells #[.int .i64 H,.int .i64 T] 117)):=ac (by rw [p4.block w.heap.size (by show _<w5.heap.size;have:=HM5.out.lt;omega) (by omega)];exact HX5.out)
 have HA6:=ac (HA5.out.frb p4.undrew (by omega))
 have HA26:=ac (HA25.out.frb p4.undrew (by omega))
 have HF6:=ac (HF5.out.other p4.undrew (by omega))
 have OM1:=ac p1
 have LM1:=ac p2
 have BM1:=ac p3
 have SM1:=ac p5
 have tk1:(X.take h).length=h:=by simp;omega
 have tk2:(Y.take h).length=h:=by simp;omega
 have HI4:=HII.out (X.take h) (Y.take h) (by rw [tk1,tk2];omega) bz zo cap Z2 _ _ w6.drew HB6.out HL5.out (HA6.out.front h (by omega)).drew (HA26.out.front h (by omega)).drew
  (fun b' off' n' c' e=>by cases e;exact hb) (fun b' off' n' c' e=>by cases e;exact hb2) (by rw [tk1,tk2];omega) (by rw [tk1,tk2];omega) (by omega)
 rw [tk1,tk2,show h+h=d by omega] at HI4
 unfold way at HI4
 have HK6:=ac (fun (w7:World) (hF:Fr bz w6.drew w7)=>(by
  have e:w7.heap[w.heap.size]?=some (.cells #[.int .i64 H,.int .i64 T] 117):=by rw [hF.block w.heap.size (by show _<w6.heap.size;have:=BM1.out.lt;omega) (by omega)];exact HX6.out
  exact⟨e,by simp [World.cell?,e],by simp [World.cell?,e]⟩:w7.heap[w.heap.size]?=some (.cells #[.int .i64 H,.int .i64 T] 117)∧w7.cell? ⟨w.heap.size,0,none⟩=some (.int .i64 H)∧w7.cell? ⟨w.heap.size,1,none⟩=some (.int .i64 T)))
 clear p1 p2 p3 p4 p5 HI3 HK hq0 hq1 HM5 HX5 HA5 HA25 HF5 HB5 tk1 tk2
 go_wp2
 go_region_held3 (fun w'=>w'.cell? ⟨w.heap.size,0,none⟩=some (.int .i64 H)∧w'.cell? ⟨w.heap.size,1,none⟩=some (.int .i64 T)) (go_keep) (first | (go_at_call 175;refine HI4.mono ?_;rintro e w7 ⟨rfl,Z3,p1,p2,p3,p4,p5⟩;obtain⟨hx7,hk2,hk3⟩:=HK6.out w7 p4))
 have HX7:=ac hx7
 have HA7:=ac (HA6.out.frb p4.undrew hb)
 have HA27:=ac (HA26.out.frb p4.undrew hb2)
 have HF7:=ac (HF6.out.trans p4.undrew)
 have BM7:=ac (p4.undrew.blk BM1.out (Ne.symm hbzg))
 have O3:=ac (O2.out.trans (p1.wider (Nat.le_refl _) (by omega)))
 have S3:=ac p5
 have l3:Z3.length=Z.length:=O3.out.len
 have HI5:=HII.out (X.drop h) (Y.drop h) (by simp;omega) bz (zo+d) (cap - d) Z3 _ _ w7.drew p3 p2 (HA7.out.drop h (by omega)).drew (HA27.out.drop h (by omega)).drew
  (fun b' off' n' c' e=>by cases e;exact hb) (fun b' off' n' c' e=>by cases e;exact hb2) (by simp;omega) (by simp;omega) (by omega)
 rw [List.length_drop,List.length_drop,show X.length - h+(Y.length - h)=n - d by omega] at HI5
 unfold way at HI5
 have HK7:=ac (fun (w8:World) (hF:Fr bz w7.drew w8)=>(by
  have e:w8.heap[w.heap.size]?=some (.cells #[.int .i64 H,.int .i64 T] 117):=by rw [hF.block w.heap.size (by show _<w7.heap.size;have:=BM7.out.lt;omega) (by omega)];exact HX7.out
  exact⟨by simp [World.cell?,e],by simp [World.cell?,e]⟩:w8.cell? ⟨w.heap.size,0,none⟩=some (.int .i64 H)∧w8.cell? ⟨w.heap.size,1,none⟩=some (.int .i64 T)))
 clear p1 p2 p3 p4 p5 hx7 HI4 HK6 hk0 hk1 HA6 HA26 HF6 BM1 O2 HX6 HB6 l2
 go_wp2
 go_region_held3 (fun w'=>w'.cell? ⟨w.heap.size,0,none⟩=some (.int .i64 H)∧w'.cell? ⟨w.heap.size,1,none⟩=some (.int .i64 T)) (go_keep) (first | (go_at_call 175;refine HI5.mono ?_;rintro e w8 ⟨rfl,Z4,p1,p2,p3,p4,p5⟩;obtain⟨hk4,hk5⟩:=HK7.out w8 p4))
 rw [show zo+d+(n - d)=zo+n by omega] at p1
 have HA0:=cC mX h (by omega)
 have HA1:=dM mX h h (by omega)
 have HB0:=cC mY h (by omega)
 have HB1:=dM mY h h (by omega)
 have vX:=ce X h (by omega)
 have vY:=ce Y h (by omega)
 have O4:=ac (O3.out.trans (p1.wider (by omega) (Nat.le_refl _)))
 have S4a:Hid (sv Z4 zo d=val (X.take h)*val (Y.take h)):=ac (by rw [p1.sv zo d (by omega)];exact S3.out)
 have S4b:=ac p5
 have HF8:=ac (HF7.out.trans p4.undrew)
 have BM8:=ac (p4.undrew.blk BM7.out (Ne.symm hbzg))
 have l4:Z4.length=Z.length:=O4.out.len
 have lM1:M1.length=R:=by rw [OM1.out.len];simp
 have sg:=bK Z4 zo d (by omega)
 have hcp:=fun ty=>gA g d (R - d) (R - d) M1 (some ⟨bz,zo,none⟩) cap (seg Z4 zo d) w8 ty BM8.out (by omega) (.inr ⟨bz,zo,rfl,fun k hk=>by rw [sg] at hk;rw [p3.cell (zo+k) (by omega),dD _ _ _ _ hk]⟩) (by rw [sg];omega)
 have OM2:=cB (seg Z4 zo d) M1 d
 have SM2:=cR (seg Z4 zo d) M1 d (by rw [sg];omega)
 have LM2:=cU (seg Z4 zo d) (dS p2 _ _) M1 d LM1.out
 have BM2:=Blk.setCells (seg Z4 zo d) d BM8.out
 have FM2:=(Fr.refl g w8).setCells ((seg Z4 zo d).map lv) d
 rw [sg] at hcp OM2 SM2
 rw [show val (seg Z4 zo d)=val (X.take h)*val (Y.take h) from S4a.out] at SM2
 obtain⟨w9,hw9⟩:∃w9,w9=w8.setCells g d ((seg Z4 zo d).map lv):=⟨_,rfl⟩
 rw [←hw9] at BM2 FM2 hcp
 clear hw9 sg
 generalize lay M1 d (seg Z4 zo d)=M2 at *
 have B9:=ac (FM2.blk p3 hbzg)
 have L4:=ac p2
 have eRd:R - d=d+1:=by omega
 have top0:M2.getD (d+d) 0=0:=by
  rw [OM2.same (d+d) (by omega),OM1.out.same (d+d) (by omega),pa]
 have SM2':sv M2 d (R - d)=val (X.take h)*val (Y.take h):=by
  rw [eRd,dU _ _ _ (by rw [OM2.len];omega),SM2,top0,Nat.mul_zero,Nat.add_zero]
 have pw:=i8 h d (by omega)
 have hp0:val (X.take h)*val (Y.take h)<18446744073709551616 ^ d:=by rw [pw];exact Nat.mul_lt_mul'' HA0 HB0
 have hp1:val (X.drop h)*val (Y.drop h)<18446744073709551616 ^ d:=by rw [pw];exact Nat.mul_lt_mul'' HA1 HB1
 have hp2:val (X.take h)*val (Y.drop h)<18446744073709551616 ^ d:=by rw [pw];exact Nat.mul_lt_mul'' HA0 HB1
 have hp3:val (X.drop h)*val (Y.take h)<18446744073709551616 ^ d:=by rw [pw];exact Nat.mul_lt_mul'' HA1 HB0
 have HP1:=dc g d (R - d) (R - d) M2 _ (seg Z4 (zo+d) (n - d)) w9 BM2 LM2 (B9.out.seg_arg p2 (zo+d) (n - d) (cap - d) (by omega) (by omega) (by omega) (by omega)) (fun b' off' n' c' e=>by cases e;exact .inl hbzg) (by rw [OM2.len];omega) (Nat.le_refl _) (by omega)
  (by rw [SM2',show val (seg Z4 (zo+d) (n - d))=_ from S4b.out,eRd];exact kG hp0 hp1)
 rw [SM2',show val (seg Z4 (zo+d) (n - d))=_ from S4b.out] at HP1
 have F9:=ac ((HF8.out).other FM2 (by omega))
 have OM2h:=ac OM2
 have HERD:=ac eRd
 clear eRd top0 pw
 clear p1 p2 p3 p4 p5 HI5 HK7 hk2 hk3 hk4 hk5 HA7 HA27 HF7 BM7 O3 HX7 l3 S3 BM8 SM2 SM2' BM2 FM2 OM2 HF8
 go_wp2_with fail
 refine HP1.mono ?_
 rintro e w10 ⟨rfl,M3,p1,p2,p3,p4,p5⟩
 have lM2:=OM2h.out.len
 have lM3:=p1.len
 have B10:=ac (p4.blk B9.out hbzg)
 have SX:sv M3 0 d=da*db:=by rw [p1.sv 0 d (by omega),OM2h.out.sv 0 d (by omega)];exact SM1.out
 have F10:=ac (F9.out.other p4 (by omega))
 have HACR:=p3.seg_arg p2 0 d R (by omega) (by omega) (by omega) (by omega)
 have hOacr:Off (.slice (some ⟨g,0,none⟩) d R) g d (d+(R - d)):=fun b' off' n' c' e=>by cases e;exact .inr (.inl (by omega))
 have hfit2:val (X.take h)*val (Y.drop h)+val (X.drop h)*val (Y.take h)<18446744073709551616 ^ (R - d):=by rw [HERD.out];exact kG hp2 hp3
 have hmid:=rI _ _ _ _ da db HDA.out HDB.out
 have hkl:=nZ _ _ _ _ da db HDA.out HDB.out
 rw [HSA.out,HSB.out] at hmid hkl
 have HPlus:=fun (hf:sv M3 d (R - d)+val (seg M3 0 d)<18446744073709551616 ^ (R - d))=>dc g d (R - d) (R - d) M3 _ (seg M3 0 d) w10 p3 p2 HACR hOacr (by omega) (Nat.le_refl _) (by omega) hf
 have HMinus:=fun (hf:val (seg M3 0 d)≤sv M3 d (R - d))=>fR g d (R - d) (R - d) M3 _ (seg M3 0 d) w10 p3 p2 HACR hOacr (by omega) (Nat.le_refl _) (by omega) hf
 rw [show val (seg M3 0 d)=da*db from SX,p5] at HPlus HMinus
 have TOT:Hid (val X*val Y=val (X.take h)*val (Y.take h)+18446744073709551616 ^ d*(val (X.drop h)*val (Y.drop h))+18446744073709551616 ^ h*(val (X.take h)*val (Y.drop h)+val (X.drop h)*val (Y.take h))):=ac (by
  rw [vX,vY,pd,i8 h d (by omega)])
 have S4n:sv Z4 zo n=val (X.take h)*val (Y.take h)+18446744073709551616 ^ d*(val (X.drop h)*val (Y.drop h)):=by
  rw [show n=d+(n - d) by omega,aF _ _ _ _ (by omega),S4a.out]
  rw [S4b.out]
 have hXY:val X*val Y<18446744073709551616 ^ n:=by
  rw [←HN.out,Nat.pow_add];exact Nat.mul_lt_mul'' (val_lt mX) (val_lt mY)
 have hfit3:=ir Z4 zo h n (val (X.take h)*val (Y.drop h)+val (X.drop h)*val (Y.take h)) (val X*val Y) (by omega) (by omega) (by rw [S4n,TOT.out];exact Nat.le_refl _) hXY
 have HEND:=ac (fun (w11 w12:World) (M4 Z5:List Nat) (q4:Fr g w10 w11) (r1:Out Z4 Z5 (zo+h) (zo+h+(n - h))) (r2:Limbs Z5) (r3:Blk w12 bz Z5) (r4:Fr bz w11 w12) (r5:sv Z5 (zo+h) (n - h)=sv Z4 (zo+h) (n - h)+(val (X.take h)*val (Y.drop h)+val (X.drop h)*val (Y.take h)))=>(by
  rw [show zo+h+(n - h)=zo+n by omega] at r1
  refine⟨rfl,Z5,O4.out.trans (r1.wider (by omega) (Nat.le_refl _)),r2,r3,(F10.out.other q4 (by omega)).trans r4,?_⟩
  rw [gV Z4 Z5 zo h n _ (by omega) (by omega) r1 r5,S4n,TOT.out]:aK bz zo n Z w (val X*val Y) (.returned (.tuple #[])) w12))
 have HLAST:=ac (fun (w11:World) (M4:List Nat) (q1:Out M3 M4 d (d+(R - d))) (q2:Limbs M4) (q3:Blk w11 g M4) (q4:Fr g w10 w11) (q5:sv M4 d (R - d)=(val (X.take h)*val (Y.drop h)+val (X.drop h)*val (Y.take h)))=>(by
  have hv:val (seg M4 d (R - d))=(val (X.take h)*val (Y.drop h)+val (X.drop h)*val (Y.take h)):=q5
  have h1:=dc bz (zo+h) (n - h) (cap - h) Z4 _ (seg M4 d (R - d)) w11 (q4.blk B10.out hbzg) L4.out (q3.seg_arg q2 d (R - d) (R - d) (by rw [q1.len];omega) (Nat.le_refl _) (by omega) (by omega)) (fun b' off' n' c' e=>by cases e;exact .inl (Ne.symm hbzg)) (by omega) (by omega) (by omega) (by rw [hv];exact hfit3)
  rw [hv] at h1
  exact h1:Calls Tryz.prog 215 #[.slice (some ⟨bz,zo+h,none⟩) (n - h) (cap - h),.slice (some ⟨g,d,none⟩) (R - d) (R - d)] w11 (aK bz (zo+h) (n - h) Z4 w11 (sv Z4 (zo+h) (n - h)+(val (X.take h)*val (Y.drop h)+val (X.drop h)*val (Y.take h))))))
 clear S4n hXY hfit3 TOT p1 p2 p3 p4 p5 HP1 hcp HACR hOacr SX vX vY HA0 HA1 HB0 HB1 hp0 hp1
 cases sa <;> cases sb
 ·have hm':val (X.take h)*val (Y.take h)+val (X.drop h)*val (Y.drop h) - da*db=val (X.take h)*val (Y.drop h)+val (X.drop h)*val (Y.take h):=by simpa using hmid
  have hm:=HMinus (hkl rfl)
  rw [hm'] at hm
  clear hm'
  have HM:=hm
  clear HPlus HMinus hmid hkl hm hfit2
  go_wp2_with fail
  refine HM.mono ?_
  rintro e w11 ⟨rfl,M4,q1,q2,q3,q4,q5⟩
  have HL:=HLAST.out w11 M4 q1 q2 q3 q4 q5
  have HQ:=ac q4
  clear q1 q2 q3 q4 q5 HM
  go_wp2_with fail
  refine HL.mono ?_
  rintro e w12 ⟨rfl,Z5,r1,r2,r3,r4,r5⟩
  have HR:=ac (HEND.out w11 w12 M4 Z5 HQ.out r1 r2 r3 r4 r5)
  clear r1 r2 r3 r4 r5 HL
  go_wp2
  go_end0
  exact HR.out
 ·have hm':val (X.take h)*val (Y.take h)+val (X.drop h)*val (Y.drop h)+da*db=val (X.take h)*val (Y.drop h)+val (X.drop h)*val (Y.take h):=by simpa using hmid
  have hm:=HPlus (by rw [hm'];exact hfit2)
  rw [hm'] at hm
  clear hm'
  have HM:=hm
  clear HPlus HMinus hmid hkl hm hfit2
  go_wp2_with fail
  refine HM.mono ?_
  rintro e w11 ⟨rfl,M4,q1,q2,q3,q4,q5⟩
  have HL:=HLAST.out w11 M4 q1 q2 q3 q4 q5
  have HQ:=ac q4
  clear q1 q2 q3 q4 q5 HM
  go_wp2_with fail
  refine HL.mono ?_
  rintro e w12 ⟨rfl,Z5,r1,r2,r3,r4,r5⟩
  have HR:=ac (HEND.out w11 w12 M4 Z5 HQ.out r1 r2 r3 r4 r5)
  clear r1 r2 r3 r4 r5 HL
  go_wp2
  go_end0
  exact HR.out
 ·have hm':val (X.take h)*val (Y.take h)+val (X.drop h)*val (Y.drop h)+da*db=val (X.take h)*val (Y.drop h)+val (X.drop h)*val (Y.take h):=by simpa using hmid
  have hm:=HPlus (by rw [hm'];exact hfit2)
  rw [hm'] at hm
  clear hm'
  have HM:=hm
  clear HPlus HMinus hmid hkl hm hfit2
  go_wp2_with fail
  refine HM.mono ?_
  rintro e w11 ⟨rfl,M4,q1,q2,q3,q4,q5⟩
  have HL:=HLAST.out w11 M4 q1 q2 q3 q4 q5
  have HQ:=ac q4
  clear q1 q2 q3 q4 q5 HM
  go_wp2_with fail
  refine HL.mono ?_
  rintro e w12 ⟨rfl,Z5,r1,r2,r3,r4,r5⟩
  have HR:=ac (HEND.out w11 w12 M4 Z5 HQ.out r1 r2 r3 r4 r5)
  clear r1 r2 r3 r4 r5 HL
  go_wp2
  go_end0
  exact HR.out
 ·have hm':val (X.take h)*val (Y.take h)+val (X.drop h)*val (Y.drop h) - da*db=val (X.take h)*val (Y.drop h)+val (X.drop h)*val (Y.take h):=by simpa using hmid
  have hm:=HMinus (hkl rfl)
  rw [hm'] at hm
  clear hm'
  have HM:=hm
  clear HPlus HMinus hmid hkl hm hfit2
  go_wp2_with fail
  refine HM.mono ?_
  rintro e w11 ⟨rfl,M4,q1,q2,q3,q4,q5⟩
  have HL:=HLAST.out w11 M4 q1 q2 q3 q4 q5
  have HQ:=ac q4
  clear q1 q2 q3 q4 q5 HM
  go_wp2_with fail
  refine HL.mono ?_
  rintro e w12 ⟨rfl,Z5,r1,r2,r3,r4,r5⟩
  have HR:=ac (HEND.out w11 w12 M4 Z5 HQ.out r1 r2 r3 r4 r5)
  clear r1 r2 r3 r4 r5 HL
  go_wp2
  go_end0
  exact HR.out
end Go.Proofs.YtdbjbbdhlpfhjaaGreatDoor
namespace Go.Proofs.YtdbjbbdhlpfhjaaGreatDoor
open Lm

theorem jF (x0 x1 x2 y0 y1 y2:Nat):(x0+x1+x2)*(y0+y1+y2)=(x0*y0+(x0*y2+x1*y1+x2*y0)+x2*y2)+((x0*y1+x1*y0)+(x1*y2+x2*y1)):=by grind

theorem kI (x0 x1 x2 y0 y1 y2:Nat):(x0+x1*2+x2*4)*(y0+y1*2+y2*4)=x0*y0+2*(x0*y1+x1*y0)+4*(x0*y2+x1*y1+x2*y0)+8*(x1*y2+x2*y1)+16*(x2*y2):=by grind

theorem kO (x0 x1 x2 y0 y1 y2 dx dy:Nat)(hx:dx=if x0+x2<x1 then x1 - (x0+x2) else x0+x2 - x1)(hy:dy=if y0+y2<y1 then y1 - (y0+y2) else y0+y2 - y1) :
  dx*dy+(x0+x1+x2)*(y0+y1+y2)=2*(if decide (x0+x2<x1)=decide (y0+y2<y1) then (x0*y0+(x0*y2+x1*y1+x2*y0)+x2*y2) else ((x0*y1+x1*y0)+(x1*y2+x2*y1))):=by
 subst hx;subst hy
 by_cases h1:x0+x2<x1 <;> by_cases h2:y0+y2<y1
 ·obtain⟨p,rfl⟩:∃p,x1=x0+x2+p:=⟨x1 - (x0+x2),by omega⟩
  obtain⟨q,rfl⟩:∃q,y1=y0+y2+q:=⟨y1 - (y0+y2),by omega⟩
  simp only [h1,h2,decide_true,if_true,Nat.add_sub_cancel_left]
  grind
 ·obtain⟨p,rfl⟩:∃p,x1=x0+x2+p:=⟨x1 - (x0+x2),by omega⟩
  obtain⟨q,hq⟩:∃q,y0+y2=y1+q:=⟨y0+y2 - y1,by omega⟩
  have e:y0+y2 - y1=q:=by omega
  simp only [h1,h2,decide_true,decide_false,if_true,if_false,Nat.add_sub_cancel_left,Bool.true_eq_false,e]
  grind
 ·obtain⟨p,hp⟩:∃p,x0+x2=x1+p:=⟨x0+x2 - x1,by omega⟩
  obtain⟨q,rfl⟩:∃q,y1=y0+y2+q:=⟨y1 - (y0+y2),by omega⟩
  have e:x0+x2 - x1=p:=by omega
  simp only [h1,h2,decide_true,decide_false,if_true,if_false,Nat.add_sub_cancel_left,Bool.false_eq_true,e]
  grind
 ·obtain⟨p,hp⟩:∃p,x0+x2=x1+p:=⟨x0+x2 - x1,by omega⟩
  obtain⟨q,hq⟩:∃q,y0+y2=y1+q:=⟨y0+y2 - y1,by omega⟩
  have e:x0+x2 - x1=p:=by omega
  have e2:y0+y2 - y1=q:=by omega
  simp only [h1,h2,decide_false,if_true,if_false,e,e2]
  grind

theorem ji (x0 x1 x2 y0 y1 y2 P:Nat):(x0+P*x1+P*P*x2)*(y0+P*y1+P*P*y2) =
  x0*y0+P*P*(P*P)*(x2*y2)+P*(x0*y1+x1*y0)+P*P*(x0*y2+x1*y1+x2*y0)+P*P*P*(x1*y2+x2*y1):=by grind
end Go.Proofs.YtdbjbbdhlpfhjaaGreatDoor
namespace Go.Proofs.YtdbjbbdhlpfhjaaGreatDoor
open Go.RowKit
open Lm

theorem jc (b off n cap at' m:Nat)(w:World)(_hn:n≤1125899906842624)(hcc:n≤cap)(hcm:cap≤9223372036854775807)(h:at'+m≤n)(hat:at'<cap) :
  Calls Tryz.prog 221 #[.slice (some ⟨b,off,none⟩) n cap,.int .i64 at',.int .i64 m] w fun e w'=>e=.returned (.slice (some ⟨b,off+at',none⟩) m (cap - at'))∧w'=w:=by
 have i2:(0:Int)≤(at':Int):=by omega
 have k1:¬cap=at':=by omega
 have m1:min (at':Int) (n:Int)=(at':Int):=by omega
 obtain⟨s,es,hs1,hs2,es2⟩:∃s:Nat,(at':Int)+(m:Int)=(s:Int)∧s≤n∧at'≤s∧s - at'=m:=⟨at'+m,by omega,h,by omega,by omega⟩
 have i3:(s:Int)≤(n:Int):=by omega
 have i4:(at':Int)≤(s:Int):=by omega
 have m2:min (s:Int) (n:Int)=(s:Int):=by omega
 clear h
 go_enter Tryz.func221,Tryz.ntmps221
 go_wp2
 go_ret
 exact⟨rfl,rfl⟩

theorem oW (b off n cap at' m:Nat)(hn:n≤1125899906842624)(hcc:n≤cap)(hcm:cap≤9223372036854775807)(hm:m≤1125899906842624)(h1:at'≤n)(h2:n≤at'+m) :
  ∃off2 cap2,(off2=off+at'∨n=at')∧n - at'≤cap2∧cap2≤cap∧∀w,Calls Tryz.prog 221 #[.slice (some ⟨b,off,none⟩) n cap,.int .i64 at',.int .i64 m] w fun e w'=>e=.returned (.slice (some ⟨b,off2,none⟩) (n - at') cap2)∧w'=w:=by
 have i2:(0:Int)≤(at':Int):=by omega
 have m1:min (at':Int) (n:Int)=(at':Int):=by omega
 obtain⟨s,es,hs1⟩:∃s:Nat,(at':Int)+(m:Int)=(s:Int)∧n≤s:=⟨at'+m,by omega,by omega⟩
 have m2:min (s:Int) (n:Int)=(n:Int):=by omega
 have i4:(at':Int)≤(n:Int):=by omega
 clear h2
 by_cases k1:cap=at'
 ·have e1:n=at':=by omega
  subst e1
  subst k1
  refine⟨off,0,.inr rfl,by omega,by omega,fun w=>?_⟩
  have e2:cap - cap=0:=by omega
  rw [e2]
  clear m1 h1 i4
  have m1:min (cap:Int) (cap:Int)=(cap:Int):=by omega
  go_enter Tryz.func221,Tryz.ntmps221
  go_wp2
  go_ret
  exact⟨rfl,rfl⟩
 ·refine⟨off+at',cap - at',.inl rfl,by omega,by omega,fun w=>?_⟩
  go_enter Tryz.func221,Tryz.ntmps221
  go_wp2
  go_ret
  exact⟨rfl,rfl⟩

theorem ft (g n at' m:Nat)(w:World)(hn:n≤1125899906842624)(h:at'+m≤n)(h0:0<m) :
  Calls Tryz.prog 221 #[.slice (some ⟨g,0,none⟩) n n,.int .i64 at',.int .i64 m] w fun e w'=>e=.returned (.slice (some ⟨g,at',none⟩) m (n - at'))∧w'=w:=by
 have:=jc g 0 n n at' m w hn (Nat.le_refl _) (by omega) h (by omega)
 rwa [Nat.zero_add] at this

theorem rS (g n m:Nat)(w:World)(hn:n≤1125899906842624)(h:m≤n)(h0:0<m) :
  Calls Tryz.prog 221 #[.slice (some ⟨g,0,none⟩) n n,.int .i64 0,.int .i64 m] w fun e w'=>e=.returned (.slice (some ⟨g,0,none⟩) m n)∧w'=w:=
 ft g n 0 m w hn (by omega) h0

structure Q4 (M:List Nat)(m d2 d3 e0 e1 e2 e3:Nat):Prop where
 h2:d2=m+m
 h3:d3=m+m+m
 len:M.length=m+m+m+m
 limbs:Limbs M
 v0:sv M 0 m=e0
 v1:sv M m m=e1
 v2:sv M d2 m=e2
 v3:sv M d3 m=e3

theorem Q4.at0 {M M':List Nat}{m d2 d3 e0 e1 e2 e3 e:Nat}(h:Q4 M m d2 d3 e0 e1 e2 e3)(ho:Out M M' 0 m)(hl:Limbs M')(hv:sv M' 0 m=e):Q4 M' m d2 d3 e e1 e2 e3:=by
 obtain⟨a,b,c,_,v0,v1,v2,v3⟩:=h
 exact⟨a,b,by rw [ho.len,c],hl,hv,by rw [ho.sv m m (by omega),v1],by rw [ho.sv d2 m (by omega),v2],by rw [ho.sv d3 m (by omega),v3]⟩

theorem Q4.at1 {M M':List Nat}{m d2 d3 e0 e1 e2 e3 e:Nat}(h:Q4 M m d2 d3 e0 e1 e2 e3)(ho:Out M M' m (m+m))(hl:Limbs M')(hv:sv M' m m=e):Q4 M' m d2 d3 e0 e e2 e3:=by
 obtain⟨a,b,c,_,v0,v1,v2,v3⟩:=h
 exact⟨a,b,by rw [ho.len,c],hl,by rw [ho.sv 0 m (by omega),v0],hv,by rw [ho.sv d2 m (by omega),v2],by rw [ho.sv d3 m (by omega),v3]⟩

theorem Q4.at2 {M M':List Nat}{m d2 d3 e0 e1 e2 e3 e:Nat}(h:Q4 M m d2 d3 e0 e1 e2 e3)(ho:Out M M' d2 (d2+m))(hl:Limbs M')(hv:sv M' d2 m=e):Q4 M' m d2 d3 e0 e1 e e3:=by
 obtain⟨a,b,c,_,v0,v1,v2,v3⟩:=h
 exact⟨a,b,by rw [ho.len,c],hl,by rw [ho.sv 0 m (by omega),v0],by rw [ho.sv m m (by omega),v1],hv,by rw [ho.sv d3 m (by omega),v3]⟩

theorem Q4.at3 {M M':List Nat}{m d2 d3 e0 e1 e2 e3 e:Nat}(h:Q4 M m d2 d3 e0 e1 e2 e3)(ho:Out M M' d3 (d3+m))(hl:Limbs M')(hv:sv M' d3 m=e):Q4 M' m d2 d3 e0 e1 e2 e:=by
 obtain⟨a,b,c,_,v0,v1,v2,v3⟩:=h
 exact⟨a,b,by rw [ho.len,c],hl,by rw [ho.sv 0 m (by omega),v0],by rw [ho.sv m m (by omega),v1],by rw [ho.sv d2 m (by omega),v2],hv⟩

theorem cl (n o m:Nat):sv (List.replicate n 0) o m=0:=by
 unfold sv seg
 rw [List.drop_replicate,List.take_replicate,val_replicate]

theorem Q4.zero (m d2 d3 R:Nat)(h2:d2=m+m)(h3:d3=m+m+m)(hR:R=m+m+m+m):Q4 (List.replicate R 0) m d2 d3 0 0 0 0:=
 ⟨h2,h3,by simp [hR],limbs_replicate _,cl _ _ _,cl _ _ _,cl _ _ _,cl _ _ _⟩

theorem qX (M X:List Nat)(o m:Nat)(h0:sv M o m=0)(hX:X.length≤m)(hl:o+m≤M.length):sv (lay M o X) o m=val X:=by
 obtain⟨d,rfl⟩:∃d,m=X.length+d:=⟨m - X.length,by omega⟩
 rw [aF _ _ _ _ (by omega)] at h0
 rw [aF _ _ _ _ (by rw [eZ];omega),cR _ _ _ (by omega),(cB X M o).sv (o+X.length) d (by omega)]
 omega

theorem Arg.recap {w:World}{b off n cap:Nat}{X:List Nat}(h:Arg w (.slice (some ⟨b,off,none⟩) n cap) X)(cap':Nat)(h1:n≤cap')(h2:cap'≤9223372036854775807):Arg w (.slice (some ⟨b,off,none⟩) n cap') X:=by
 obtain⟨ao,c,e,_,_,hl⟩:=h.form
 cases e
 exact⟨⟨_,_,rfl,h1,h2,hl⟩,h.limbs,h.few,fun n c e=>by cases e⟩

theorem jb {w:World}{b off cap q off2 cap2:Nat}{X:List Nat}(hA:Arg w (.slice (some ⟨b,off,none⟩) X.length cap) X)(ho:off2=off+q∨X.length=q)(hq:q≤X.length)(h1:X.length - q≤cap2)(h2:cap2≤cap):Arg w (.slice (some ⟨b,off2,none⟩) (X.length - q) cap2) (X.drop q):=by
 obtain⟨_,_,e,_,hm,_⟩:=hA.form
 cases e
 rcases ho with rfl|rfl
 ·exact (hA.drop q hq).recap cap2 h1 (by omega)
 ·rw [List.drop_length,Nat.sub_self]
  exact⟨⟨_,_,rfl,by simp,by omega,.inl rfl⟩,(by intro z hz;cases hz),by simp,fun n c e=>by cases e⟩

theorem cg (g o n cap:Nat)(M:List Nat)(a1:Option Addr)(c1:Nat)(P:List Nat)(w:World)(hB:Blk w g M)(hl:Limbs M)(hLP:Limbs P)(h0:sv M o n=0)(ho:o+n≤M.length)(hP:P.length≤n)(hL:aG w a1 P) :
  ∃(w':World) (M':List Nat),(∀ty,(Builtin.copy_ #[25,25] ty #[.slice (some ⟨g,o,none⟩) n cap,.slice a1 P.length c1]).run Tryz.prog w=.ok (.int .i64 (P.length:Int)) w')∧Blk w' g M'∧Limbs M'∧Fr g w w'∧Out M M' o (o+n)∧sv M' o n=val P:=
 ⟨_,lay M o P,fun ty=>gA g o n cap M a1 c1 P w ty hB ho hL hP,Blk.setCells P o hB,cU P hLP M o hl,(Fr.refl g w).setCells (P.map lv) o,(cB P M o).wider (Nat.le_refl _) (by omega),qX M P o n h0 hP ho⟩

theorem aG.arg {w:World}{b off n cap:Nat}{X:List Nat}(h:Arg w (.slice (some ⟨b,off,none⟩) n cap) X):aG w (some ⟨b,off,none⟩) X:=by
 obtain⟨_,_,e,_,_,hl⟩:=h.form
 cases e
 exact hl

theorem aT {w:World}{h:Nat}{a b c d:Value}{t:TypeId}(e:w.heap[h]?=some (.cells #[a,b,c,d] t)):w.cell? ⟨h,0,none⟩=some a∧w.cell? ⟨h,1,none⟩=some b∧w.cell? ⟨h,2,none⟩=some c∧w.cell? ⟨h,3,none⟩=some d:=
 ⟨by simp [World.cell?,e],by simp [World.cell?,e],by simp [World.cell?,e],by simp [World.cell?,e]⟩

theorem ka {w:World}{h:Nat}{a b c d:Value}{t:TypeId}(e:w.heap[h]?=some (.cells #[a,b,c,d] t)):∀k,w.frozen? ⟨h,k,none⟩=false:=fun k=>by simp [World.frozen?,e]

theorem pe {w:World}{h:Nat}{a b c d:Value}{t:TypeId}(e:w.heap[h]?=some (.cells #[a,b,c,d] t))(u:Value):(w.setCell ⟨h,3,none⟩ u).heap[h]?=some (.cells #[a,b,c,u] t):=by
 have hlt:=lt_of_block e
 have h':w.heap[h]=.cells #[a,b,c,d] t:=by simpa [Array.getElem?_eq_getElem hlt] using e
 show (w.heap.modify h _)[h]?=_
 rw [Array.getElem?_eq_getElem (by simpa using hlt),Array.getElem_modify_self,h']
 rfl

theorem qk {w:World}{h:Nat}{a b c d a' b' c' d':Value}{t:TypeId}(e:w.heap[h]?=some (.cells #[a,b,c,d] t)) :
  ((((w.setCell ⟨h,0,none⟩ a').setCell ⟨h,1,none⟩ b').setCell ⟨h,2,none⟩ c').setCell ⟨h,3,none⟩ d').heap[h]?=some (.cells #[a',b',c',d'] t):=
 aY (aY (aY (aY e a') b') c') d'

def qH (w:World)(s x0 x1 x2:Nat)(e:Ending)(w':World):Prop:=
 ∃(g m d2 d3 R e0:Nat) (M:List Nat),m=s+1∧R=m+m+m+m ∧
  e=.returned (.agg #[.slice (some ⟨g,m,none⟩) m (R - m),.slice (some ⟨g,d2,none⟩) m (R - d2),.slice (some ⟨g,d3,none⟩) m (R - d3),.bool (decide (x0+x2<x1))]) ∧
  w.heap.size≤g∧Blk w' g M∧Below w.heap.size w w'∧Q4 M m d2 d3 e0 (x0+x1+x2) (x0+x1*2+x2*4) (if x0+x2<x1 then x1 - (x0+x2) else x0+x2 - x1)

theorem rJ (x0 x1 x2 s m:Nat)(h0:x0<18446744073709551616 ^ s)(h1:x1<18446744073709551616 ^ s)(h2:x2<18446744073709551616 ^ s)(hm:m=s+1) :
  x0+x2<18446744073709551616 ^ m∧x0+x2+x1<18446744073709551616 ^ m∧x1<18446744073709551616 ^ m∧x0+x1*2<18446744073709551616 ^ m∧x0+x1*2+x2*4<18446744073709551616 ^ m:=by
 subst hm
 rw [Nat.pow_succ]
 generalize (18446744073709551616:Nat) ^ s=P at *
 omega

theorem fM (b off c1 s:Nat)(X:List Nat)(w:World)(hA:Arg w (.slice (some ⟨b,off,none⟩) X.length c1) X)(hs0:0<s)(hs1:2*s≤X.length)(hs2:X.length≤3*s)(hlX:X.length≤4398046511103) :
  Calls Tryz.prog 213 #[.slice (some ⟨b,off,none⟩) X.length c1,.int .i64 s] w (qH w s (val (X.take s)) (val ((X.drop s).take s)) (val (X.drop (2*s)))):=by
 obtain⟨_,_,e0,hcc1,hcm1,_⟩:=hA.form
 cases e0
 have hX:=hA.few
 have hbw:=hA.block (by omega)
 obtain⟨i0,hi,hz0,hz1,hz2⟩:=info_parts Tryz.infoU
 obtain⟨m,em,hm1,hm2⟩:∃m:Nat,(s:Int)+1=(m:Int)∧m≤s+1∧s+1≤m:=⟨s+1,by omega,by omega,by omega⟩
 obtain⟨R,eR,hR1,hR2⟩:∃R:Nat,(4:Int)*(m:Int)=(R:Int)∧R≤4*m∧4*m≤R:=⟨4*m,by omega,by omega,by omega⟩
 obtain⟨q,eq,hq1,hq2⟩:∃q:Nat,(2:Int)*(s:Int)=(q:Int)∧q≤2*s∧2*s≤q:=⟨2*s,by omega,by omega,by omega⟩
 obtain⟨d2,ed2,hd2a,hd2b⟩:∃d:Nat,(2:Int)*(m:Int)=(d:Int)∧d≤2*m∧2*m≤d:=⟨2*m,by omega,by omega,by omega⟩
 obtain⟨d3,ed3,hd3a,hd3b⟩:∃d:Nat,(3:Int)*(m:Int)=(d:Int)∧d≤3*m∧3*m≤d:=⟨3*m,by omega,by omega,by omega⟩
 have wq:IntKind.i64.wrap (q:Int)=(q:Int):=by rw [IntKind.wrap_i64];omega
 have ks0:(0:Int)≤(s:Int):=by omega
 have ks1:(s:Int)≤(X.length:Int):=by omega
 have ks2:(s:Int)≤(c1:Int):=by omega
 have HP1:=fun w=>jc b off X.length c1 s s w hX hcc1 hcm1 (by omega) (by omega)
 obtain⟨off2,cap2,ho2,hp2a,hp2b,HP2⟩:=oW b off X.length c1 q s hX hcc1 hcm1 (by omega) (by omega) (by omega)
 have HO2:=ac ho2
 clear ho2
 go_enter Tryz.func213,Tryz.ntmps213
 go_wp2
 go_quiet (first | (go_at_call_of 221 q;exact Calls.quiet_of_same (HP2 _)) | (go_at_call 221;exact Calls.quiet_of_same (HP1 _)))
 clear HP1 HP2
 obtain⟨w1,hw1⟩:∃w1,w1=(w.alloc (.cells #[.slice none 0 0,.slice none 0 0,.slice none 0 0,.bool false] 201)).drewN nq:=⟨_,rfl⟩
 have hbel1:Below w.heap.size w w1:=by rw [hw1];exact jl ((Below.refl _ _).alloc (Nat.le_refl _) _) _
 have hs1:w1.heap.size=w.heap.size+1:=by rw [hw1];exact World.size_alloc _ _
 have hb1:w1.heap[w.heap.size]?=some (.cells #[.slice none 0 0,.slice none 0 0,.slice none 0 0,.bool false] 201):=by rw [hw1];exact heap_alloc_new ..
 rw [←hw1]
 have HX1:=ac hb1
 have HB1:=ac hbel1
 clear hw1 hb1 hbel1
 go_wp2_with (at_make;refine wpList_make_full _ rfl _ _ 25 rfl w1.heap.size 61 i0 (.int .u64 0) 1 Tryz.underlying25 hi hz0 hz1 .i64 .i64 _ _ R rfl rfl (by omega) (by omega) (by rw [hz2];omega) (by unfold maxLen;omega) (Nat.le_refl _) ?_;intro w3 hown hgrow)
 have hm3:Blk w3 (w.heap.size+1) (List.replicate R 0):=by rw [←hs1];exact Blk.made hown
 have hbel3:Below w1.heap.size w1 w3:=(Below.refl _ _).grown hgrow (Nat.le_refl _) (fun k hk=>by cases hk)
 have hX3:w3.heap[w.heap.size]?=some (.cells #[.slice none 0 0,.slice none 0 0,.slice none 0 0,.bool false] 201):=by rw [hbel3.block w.heap.size (by omega)];exact HX1.out
 have HB3:=ac (HB1.out.trans (hbel3.mono HB1.out.size))
 obtain⟨g,hg⟩:∃g,g=w.heap.size+1:=⟨_,rfl⟩
 rw [←hg] at hm3 ⊢
 have hgw:w.heap.size<g:=by omega
 have HX3:=ac hX3
 have HM3:=ac hm3
 have HG:=ac hg
 clear hown hgrow hi hz0 hz1 hz2 hbel3 HX1 HB1 hs1 hX3 hm3 hg
 refine (rS g R m w3 (by omega) (by omega) (by omega)).mono ?_
 rintro e w4 ⟨rfl,hw⟩;subst hw
 go_wp2_with fail
 refine (ft g R m m w4 (by omega) (by omega) (by omega)).mono ?_
 rintro e w5 ⟨rfl,hw⟩;subst hw
 go_wp2_with fail
 refine (ft g R d2 m w5 (by omega) (by omega) (by omega)).mono ?_
 rintro e w6 ⟨rfl,hw⟩;subst hw
 go_wp2_with fail
 refine (ft g R d3 m w6 (by omega) (by omega) (by omega)).mono ?_
 rintro e w7 ⟨rfl,hw⟩;subst hw
 obtain⟨w8,hw8⟩:∃w8,w8=w7.alloc (.cells #[.slice (some ⟨g,m,none⟩) m (R - m),.slice (some ⟨g,d2,none⟩) m (R - d2),.slice (some ⟨g,d3,none⟩) m (R - d3),.bool false] 201):=⟨_,rfl⟩
 obtain⟨h,hh⟩:∃h,h=w7.heap.size:=⟨_,rfl⟩
 have hbel8:Below w7.heap.size w7 w8:=by rw [hw8];exact (Below.refl _ _).alloc (Nat.le_refl _) _
 have hgh:g<h:=by rw [hh];exact HM3.out.lt
 have BX8:=ac (show w8.heap[h]?=some (.cells #[.slice (some ⟨g,m,none⟩) m (R - m),.slice (some ⟨g,d2,none⟩) m (R - d2),.slice (some ⟨g,d3,none⟩) m (R - d3),.bool false] 201) by rw [hw8,hh];exact heap_alloc_new ..)
 have RX8:=ac (show w8.heap[w.heap.size]?=some (.cells #[.slice none 0 0,.slice none 0 0,.slice none 0 0,.bool false] 201) by rw [hbel8.block w.heap.size (by have:=HM3.out.lt;omega)];exact HX3.out)
 have B8:=HM3.out.below' hbel8
 have W8:=ac (HB3.out.trans (hbel8.mono HB3.out.size))
 have hbg:b≠g:=by omega
 have hsz8:h<w8.heap.size:=by rw [hw8,hh,World.size_alloc];omega
 have Q0:=Q4.zero m d2 d3 R (by omega) (by omega) (by omega)
 have A8:=hA.below W8.out
 have hq:q=2*s:=by omega
 rw [←hq]
 have lP0:(X.take s).length=s:=by simp;omega
 have fx0:=cC hA.limbs s (by omega)
 have fx1:val ((X.drop s).take s)<18446744073709551616 ^ s:=by
  have:=val_lt (hA.cut s s (by omega)).limbs
  rwa [show ((X.drop s).take s).length=s by simp;omega] at this
 have fx2:=dM hA.limbs q s (by omega)
 have HFIT:=ac (rJ _ _ _ s m fx0 fx1 fx2 (by omega))
 have HEM:=ac (show m=s+1 by omega)
 obtain⟨w9,M1,hcp,B9,L9,F9,O9,S9⟩:=cg g 0 m R _ (some ⟨b,off,none⟩) c1 (X.take s) w8 B8 Q0.limbs (A8.front s (by omega)).limbs Q0.v0 (by rw [Q0.len];omega) (by rw [lP0];omega) (aG.arg (A8.front s (by omega)))
 rw [lP0] at hcp
 rw [Nat.zero_add] at O9
 have Q1:=Q0.at0 O9 L9 S9
 have BX9:=ac ((F9.block h hsz8 (by omega)).trans BX8.out)
 have RX9:=ac ((F9.block w.heap.size (by omega) (by omega)).trans RX8.out)
 have W9:=ac (W8.out.trans (F9.below (by omega) W8.out.size))
 have hq':q≤X.length:=by omega
 have HS2:=dc g 0 m R M1 _ (X.drop q) w9 B9 L9 (jb (hA.below W9.out) HO2.out hq' hp2a hp2b) (fun b' off' n' c' e=>by cases e;exact .inl hbg) (by rw [Q1.len];omega) (by omega) (by omega) (by rw [Q1.v0];exact HFIT.out.1)
 rw [Q1.v0] at HS2
 have HQ1:=ac Q1
 have hsz9:h<w9.heap.size:=by have:=F9.size;omega
 have HW8:=ac hw8
 have HHH:=ac hh
 rw [hw8] at hcp
 clear B8 BX8 RX8 W8 A8 Q0 Q1 S9 O9 L9 F9 HM3 HX3 HB3 hbel8 hw8 hh hsz8 lP0 fx0 fx1 fx2 hq
 have HAA:=ac hA
 have HB9:=ac B9
 clear hA B9
 go_wp2_with fail
 rw [←HHH.out]
 refine HS2.mono ?_
 rintro e w10 ⟨rfl,M2,O10,L10,B10,F10,S10⟩
 rw [Nat.zero_add] at O10
 have Q2:=HQ1.out.at0 O10 L10 S10
 have BX10:=ac ((F10.block h hsz9 (by omega)).trans BX9.out)
 have RX10:=ac ((F10.block w.heap.size (by omega) (by omega)).trans RX9.out)
 have W10:=ac (W9.out.trans (F10.below (by omega) W9.out.size))
 have hsz10:h<w10.heap.size:=by have:=F10.size;omega
 have sg2:=bK M2 0 m (by rw [Q2.len];omega)
 clear hcp HS2 HQ1 O10 S10 F10 BX9 RX9 W9 hsz9 HB9 HW8
 obtain⟨w11,M3,hcp,B11,L11,F11,O11,S11⟩:=cg g m m (R - m) M2 (some ⟨g,0,none⟩) R (seg M2 0 m) w10 B10 L10 (dS L10 _ _) Q2.v1 (by rw [Q2.len];omega) (by rw [sg2];omega) (aG.arg (B10.seg_arg L10 0 m R (by rw [Q2.len];omega) (by omega) (by omega) (by omega)))
 rw [sg2] at hcp
 have Q3:=Q2.at1 O11 L11 (S11.trans Q2.v0)
 have BX11:=ac ((F11.block h hsz10 (by omega)).trans BX10.out)
 have RX11:=ac ((F11.block w.heap.size (by omega) (by omega)).trans RX10.out)
 have W11:=ac (W10.out.trans (F11.below (by omega) W10.out.size))
 have hsz11:h<w11.heap.size:=by have:=F11.size;omega
 have HS4:=dc g m m (R - m) M3 _ ((X.drop s).take s) w11 B11 L11 ((HAA.out.cut s s (by omega)).below W11.out) (fun b' off' n' c' e=>by cases e;exact .inl hbg) (by rw [Q3.len];omega) (by omega) (by omega) (by rw [Q3.v1];exact HFIT.out.2.1)
 rw [Q3.v1] at HS4
 have HQ3:=ac Q3
 have HF11:=ac F11.size
 clear Q2 sg2 B10 L10 L11 F11 O11 S11 RX10 W10 B11 Q3
 obtain⟨hk0,_,_,_⟩:=aT BX10.out
 obtain⟨hj0,_,_,_⟩:=aT BX11.out
 go_wp2_with fail
 refine HS4.mono ?_
 rintro e w12 ⟨rfl,M4,O12,L12,B12,F12,S12⟩
 have Q4':=HQ3.out.at1 O12 L12 S12
 have BX12:=ac ((F12.block h hsz11 (by omega)).trans BX11.out)
 have RX12:=ac ((F12.block w.heap.size (by omega) (by omega)).trans RX11.out)
 have W12:=ac (W11.out.trans (F12.below (by omega) W11.out.size))
 have hsz12:h<w12.heap.size:=by have:=F12.size;omega
 clear hcp HS4 HQ3 O12 S12 F12 BX11 RX11 W11 hsz11 hk0 hj0 BX10 hsz10 HF11
 have HS5:=gM g d3 m (R - d3) M4 _ _ (seg M4 0 m) ((X.drop s).take s) w12 B12 L12 (B12.seg_arg L12 0 m R (by rw [Q4'.len];omega) (by omega) (by omega) (by omega)) ((HAA.out.cut s s (by omega)).below W12.out) (fun b' off' n' c' e=>by cases e;exact .inr (.inl (by omega))) (fun b' off' n' c' e=>by cases e;exact .inl hbg) (by rw [Q4'.len];omega) (by omega) (by omega) (by rw [show val (seg M4 0 m)=_ from Q4'.v0];exact HFIT.out.1) HFIT.out.2.2.1
 rw [show val (seg M4 0 m)=_ from Q4'.v0] at HS5
 obtain⟨hk0,_,hk2,_⟩:=aT BX12.out
 have HQ4:=ac Q4'
 clear Q4' B12 L12
 go_wp2_with fail
 refine HS5.mono ?_
 rintro e w13 ⟨rfl,M5,O13,L13,B13,F13,S13⟩
 have Q5:=HQ4.out.at3 O13 L13 S13
 have BX13:=ac ((F13.block h hsz12 (by omega)).trans BX12.out)
 have RX13:=ac ((F13.block w.heap.size (by omega) (by omega)).trans RX12.out)
 have W13:=ac (W12.out.trans (F13.below (by omega) W12.out.size))
 have hsz13:h<w13.heap.size:=by have:=F13.size;omega
 clear HS5 HQ4 O13 S13 F13 BX12 RX12 W12 hsz12 hk0 hk2
 generalize hβ:decide (val (X.take s)+val (X.drop q)<val ((X.drop s).take s))=β at *
 obtain⟨w14,hw14⟩:∃w14,w14=w13.setCell ⟨h,3,none⟩ (.bool β):=⟨_,rfl⟩
 have BX14:=ac (show w14.heap[h]?=some (.cells #[.slice (some ⟨g,m,none⟩) m (R - m),.slice (some ⟨g,d2,none⟩) m (R - d2),.slice (some ⟨g,d3,none⟩) m (R - d3),.bool β] 201) by rw [hw14];exact pe BX13.out _)
 have RX14:=ac (show w14.heap[w.heap.size]?=some (.cells #[.slice none 0 0,.slice none 0 0,.slice none 0 0,.bool false] 201) by rw [hw14,Below.heap_setCell _ _ _ _ (by show w.heap.size≠h;omega)];exact RX13.out)
 have W14:=ac (show Below w.heap.size w w14 by rw [hw14];exact W13.out.setCell (by show w.heap.size≤h;omega) _)
 have B14:Blk w14 g M5:=by rw [hw14];exact B13.other _ _ (by show g≠h;omega)
 have hsz14:h<w14.heap.size:=by rw [hw14];simpa using hsz13
 have lP0:(X.take s).length=s:=by simp;omega
 obtain⟨w15,M6,hcp,B15,L15,F15,O15,S15⟩:=cg g d2 m (R - d2) M5 (some ⟨b,off,none⟩) c1 (X.take s) w14 B14 L13 (HAA.out.front s (by omega)).limbs Q5.v2 (by rw [Q5.len];omega) (by rw [lP0];omega) (aG.arg ((HAA.out.front s (by omega)).below W14.out))
 rw [lP0] at hcp
 have Q6:=Q5.at2 O15 L15 S15
 have BX15:=ac ((F15.block h hsz14 (by omega)).trans BX14.out)
 have RX15:=ac ((F15.block w.heap.size (by omega) (by omega)).trans RX14.out)
 have W15:=ac (W14.out.trans (F15.below (by omega) W14.out.size))
 have hsz15:h<w15.heap.size:=by have:=F15.size;omega
 have HS7:=kW g d2 m (R - d2) M6 _ ((X.drop s).take s) 2 w15 B15 L15 ((HAA.out.cut s s (by omega)).below W15.out) (fun b' off' n' c' e=>by cases e;exact .inl hbg) (by simp;omega) (by rw [Q6.len];omega) (by omega) (by omega) (by omega) (by rw [Q6.v2];exact HFIT.out.2.2.2.1)
 rw [Q6.v2,show ((2:Nat):Int)=2 from rfl] at HS7
 have HQ6:=ac Q6
 obtain⟨_,_,_,hk3⟩:=aT BX13.out
 have hf13:=ka BX13.out 3
 obtain⟨_,hj1,_,_⟩:=aT BX14.out
 obtain⟨_,hi1,_,_⟩:=aT BX15.out
 rw [hw14] at hcp hj1
 have HW14:=ac hw14
 have Hβ:=ac hβ
 clear Q5 Q6 B13 L13 B14 L15 F15 O15 S15 RX13 RX14 W13 W14 B15 lP0 hw14 hβ BX14 hsz14
 go_wp2_with fail
 refine HS7.mono ?_
 rintro e w16 ⟨rfl,M7,O16,L16,B16,F16,S16⟩
 have Q7:=HQ6.out.at2 O16 L16 S16
 have BX16:=ac ((F16.block h hsz15 (by omega)).trans BX15.out)
 have RX16:=ac ((F16.block w.heap.size (by omega) (by omega)).trans RX15.out)
 have W16:=ac (W15.out.trans (F16.below (by omega) W15.out.size))
 have hsz16:h<w16.heap.size:=by have:=F16.size;omega
 clear hcp HS7 HQ6 O16 S16 F16 BX15 RX15 W15 hsz15 hk3 hf13 hj1 hi1 HW14 hsz13 BX13
 have HS8:=kW g d2 m (R - d2) M7 _ (X.drop q) 4 w16 B16 L16 (jb (HAA.out.below W16.out) HO2.out hq' hp2a hp2b) (fun b' off' n' c' e=>by cases e;exact .inl hbg) (by simp;omega) (by rw [Q7.len];omega) (by omega) (by omega) (by omega) (by rw [Q7.v2];exact HFIT.out.2.2.2.2)
 rw [Q7.v2,show ((4:Nat):Int)=4 from rfl] at HS8
 obtain⟨_,hk1,_,_⟩:=aT BX16.out
 have HQ7:=ac Q7
 clear Q7 B16 L16
 go_wp2_with fail
 refine HS8.mono ?_
 rintro e w17 ⟨rfl,M8,O17,L17,B17,F17,S17⟩
 have Q8:=HQ7.out.at2 O17 L17 S17
 have BX17:=ac ((F17.block h hsz16 (by omega)).trans BX16.out)
 have RX17:=ac ((F17.block w.heap.size (by omega) (by omega)).trans RX16.out)
 have W17:=ac (W16.out.trans (F17.below (by omega) W16.out.size))
 clear HS8 HQ7 O17 L17 S17 F17 BX16 RX16 W16 hsz16 hk1
 obtain⟨hk0,hk1,hk2,hk3⟩:=aT BX17.out
 obtain⟨hr0,hr1,hr2,hr3⟩:=aT RX17.out
 have hf:=ka RX17.out
 have HQ8:=ac Q8
 have HB17:=ac B17
 clear Q8 B17
 go_wp2
 have R18:=qk RX17.out (a':=.slice (some ⟨g,m,none⟩) m (R - m)) (b':=.slice (some ⟨g,d2,none⟩) m (R - d2)) (c':=.slice (some ⟨g,d3,none⟩) m (R - d3)) (d':=.bool β)
 have hne:g≠w.heap.size:=by omega
 have B18:=(((HB17.out.other ⟨w.heap.size,0,none⟩ (.slice (some ⟨g,m,none⟩) m (R - m)) hne).other ⟨w.heap.size,1,none⟩ (.slice (some ⟨g,d2,none⟩) m (R - d2)) hne).other ⟨w.heap.size,2,none⟩ (.slice (some ⟨g,d3,none⟩) m (R - d3)) hne).other ⟨w.heap.size,3,none⟩ (.bool β) hne
 have W18:=(((W17.out.setCell (p:=⟨w.heap.size,0,none⟩) (Nat.le_refl _) (.slice (some ⟨g,m,none⟩) m (R - m))).setCell (p:=⟨w.heap.size,1,none⟩) (Nat.le_refl _) (.slice (some ⟨g,d2,none⟩) m (R - d2))).setCell (p:=⟨w.heap.size,2,none⟩) (Nat.le_refl _) (.slice (some ⟨g,d3,none⟩) m (R - d3))).setCell (p:=⟨w.heap.size,3,none⟩) (Nat.le_refl _) (.bool β)
 generalize (((w17.setCell ⟨w.heap.size,0,none⟩ (.slice (some ⟨g,m,none⟩) m (R - m))).setCell ⟨w.heap.size,1,none⟩ (.slice (some ⟨g,d2,none⟩) m (R - d2))).setCell ⟨w.heap.size,2,none⟩ (.slice (some ⟨g,d3,none⟩) m (R - d3))).setCell ⟨w.heap.size,3,none⟩ (.bool β)=w18 at *
 clear hk0 hk1 hk2 hk3 hr0 hr1 hr2 hr3 hf
 obtain⟨hk0,hk1,hk2,hk3⟩:=aT R18
 have HD:=ac (And.intro B18 W18)
 clear R18 B18 W18
 refine bodyPost_ret (v:=.agg #[.slice (some ⟨g,m,none⟩) m (R - m),.slice (some ⟨g,d2,none⟩) m (R - d2),.slice (some ⟨g,d3,none⟩) m (R - d3),.bool β]) (by simp [results,Tryz.results213,go_sem,hk0,hk1,hk2,hk3]) rfl ?_
 have hq:2*s=q:=by omega
 rw [hq]
 obtain⟨a1,a2,a3,a4,a5,a6,a7,a8⟩:=HQ8.out
 exact⟨g,m,d2,d3,R,_,M8,HEM.out,by omega,by rw [Hβ.out],by omega,HD.out.1,HD.out.2,a1,a2,a3,a4,a5,by rw [a6];omega,a7,a8⟩

def bZ (w:World)(g N v:Nat):Prop:=∃A:List Nat,Blk w g A∧Limbs A∧A.length=N∧val A=v

theorem bZ.fr {w w':World}{g N v bz:Nat}(h:bZ w g N v)(hf:Fr bz w w')(hne:g≠bz):bZ w' g N v:=by
 obtain⟨A,h1,h2⟩:=h
 exact⟨A,hf.blk h1 hne,h2⟩

theorem bZ.arg {w:World}{g N v:Nat}(h:bZ w g N v)(hN:N≤1125899906842624):∃A:List Nat,Arg w (.slice (some ⟨g,0,none⟩) N N) A∧val A=v:=by
 obtain⟨A,h1,h2,h3,h4⟩:=h
 refine⟨A,?_,h4⟩
 have:=h1.take_arg h2 N N (by omega) (Nat.le_refl _) (by omega)
 rwa [List.take_of_length_le (by omega)] at this

theorem aE {g g' o n c:Nat}(h:g≠g'):∀lo hi,Off (.slice (some ⟨g,o,none⟩) n c) g' lo hi:=fun lo hi b off n c e=>by
 cases e
 exact .inl h

structure St3 (w0 ws w:World)(bz o e t N:Nat)(Z:List Nat)(vo ve vt:Nat):Prop where
 fr:Fr bz w0 w
 blk:Blk w bz Z
 lz:Limbs Z
 lt:bz<w0.heap.size
 no:w0.heap.size≤o
 ne:w0.heap.size≤e
 nt:w0.heap.size≤t
 oe:o≠e
 ot:o≠t
 et:e≠t
 ho:bZ w o N vo
 he:bZ w e N ve
 ht:bZ w t N vt
 size:ws.heap.size≤w.heap.size
 keep:∀k,k<ws.heap.size→k≠bz→k≠o→k≠e→k≠t→w.heap[k]?=ws.heap[k]?

theorem St3.oe' {w0 ws w:World}{bz o e t N:Nat}{Z:List Nat}{vo ve vt:Nat}(h:St3 w0 ws w bz o e t N Z vo ve vt):St3 w0 ws w bz e o t N Z ve vo vt:=
 ⟨h.fr,h.blk,h.lz,h.lt,h.ne,h.no,h.nt,Ne.symm h.oe,h.et,h.ot,h.he,h.ho,h.ht,h.size,fun k a b c d e=>h.keep k a b d c e⟩

theorem St3.et' {w0 ws w:World}{bz o e t N:Nat}{Z:List Nat}{vo ve vt:Nat}(h:St3 w0 ws w bz o e t N Z vo ve vt):St3 w0 ws w bz o t e N Z vo vt ve:=
 ⟨h.fr,h.blk,h.lz,h.lt,h.no,h.nt,h.ne,h.ot,h.oe,Ne.symm h.et,h.ho,h.ht,h.he,h.size,fun k a b c d e=>h.keep k a b c e d⟩

theorem St3.up {w0 ws w:World}{bz o e t N:Nat}{Z:List Nat}{vo ve vt:Nat}(h:St3 w0 ws w bz o e t N Z vo ve vt){E:List Nat}{p:Nat}{en:Ending}{w':World}(hl:E.length=N)(hd:aK e 0 N E w p en w') :
  en=.returned (.tuple #[])∧St3 w0 ws w' bz o e t N Z vo p vt:=by
 obtain⟨rfl,E',q1,q2,q3,q4,q5⟩:=hd
 have hlt:=h.lt
 have hne:=h.ne
 have hE:E'.length=N:=by rw [q1.len,hl]
 refine⟨rfl,h.fr.other q4 h.ne,q4.blk h.blk (by omega),h.lz,h.lt,h.no,h.ne,h.nt,h.oe,h.ot,h.et,h.ho.fr q4 h.oe,⟨E',q3,q2,hE,?_⟩,h.ht.fr q4 (Ne.symm h.et),Nat.le_trans h.size q4.size,fun k a b c d f=>(q4.block k (Nat.lt_of_lt_of_le a h.size) d).trans (h.keep k a b c d f)⟩
 rw [←q5,←hE,ca]

theorem St3.upz {w0 ws w:World}{bz o e t N:Nat}{Z:List Nat}{vo ve vt:Nat}(h:St3 w0 ws w bz o e t N Z vo ve vt){zo n p:Nat}{en:Ending}{w':World}(hd:aK bz zo n Z w p en w') :
  en=.returned (.tuple #[])∧∃Z',St3 w0 ws w' bz o e t N Z' vo ve vt∧Out Z Z' zo (zo+n)∧sv Z' zo n=p:=by
 obtain⟨rfl,Z',q1,q2,q3,q4,q5⟩:=hd
 have hlt:=h.lt
 have h1:=h.no
 have h2:=h.ne
 have h3:=h.nt
 exact⟨rfl,Z',⟨h.fr.trans q4,q3,q2,h.lt,h.no,h.ne,h.nt,h.oe,h.ot,h.et,h.ho.fr q4 (by omega),h.he.fr q4 (by omega),h.ht.fr q4 (by omega),Nat.le_trans h.size q4.size,fun k a b c d f=>(q4.block k (Nat.lt_of_lt_of_le a h.size) b).trans (h.keep k a b c d f)⟩,q1,q5⟩

theorem b8 {E:List Nat}{N:Nat}(h:E.length=N):sv E 0 N=val E:=by rw [←h,ca]

theorem St3.plus {w0 ws w:World}{bz o e t N:Nat}{Z:List Nat}{vo ve vt:Nat}(h:St3 w0 ws w bz o e t N Z vo ve vt)(hN:N≤1125899906842624)(p:Nat){va:Value}{A:List Nat}(hA:Arg w va A)(hoff:Off va e 0 (0+N))(hp:p=ve+val A)(hfit:p<18446744073709551616 ^ N) :
  Calls Tryz.prog 215 #[.slice (some ⟨e,0,none⟩) N N,va] w fun en w'=>en=.returned (.tuple #[])∧St3 w0 ws w' bz o e t N Z vo p vt:=by
 obtain⟨E,h1,h2,h3,h4⟩:=h.he
 have:=dc e 0 N N E va A w h1 h2 hA hoff (by omega) (Nat.le_refl _) (by omega) (by rw [b8 h3,h4];omega)
 rw [b8 h3,h4,←hp] at this
 exact this.mono fun en w' hd=>h.up h3 hd

theorem St3.minus {w0 ws w:World}{bz o e t N:Nat}{Z:List Nat}{vo ve vt:Nat}(h:St3 w0 ws w bz o e t N Z vo ve vt)(hN:N≤1125899906842624)(p:Nat){va:Value}{A:List Nat}(hA:Arg w va A)(hoff:Off va e 0 (0+N))(hp:ve=p+val A) :
  Calls Tryz.prog 217 #[.slice (some ⟨e,0,none⟩) N N,va] w fun en w'=>en=.returned (.tuple #[])∧St3 w0 ws w' bz o e t N Z vo p vt:=by
 obtain⟨E,h1,h2,h3,h4⟩:=h.he
 have:=fR e 0 N N E va A w h1 h2 hA hoff (by omega) (Nat.le_refl _) (by omega) (by rw [b8 h3,h4];omega)
 rw [b8 h3,h4,show ve - val A=p by omega] at this
 exact this.mono fun en w' hd=>h.up h3 hd

theorem St3.minusTimes {w0 ws w:World}{bz o e t N:Nat}{Z:List Nat}{vo ve vt:Nat}(h:St3 w0 ws w bz o e t N Z vo ve vt)(hN:N≤1125899906842624)(p k:Nat){va:Value}{A:List Nat}(hA:Arg w va A)(hoff:Off va e 0 (0+N))(hp:ve=p+val A*k)(hk0:0<k)(hk:k<18446744073709551616) :
  Calls Tryz.prog 218 #[.slice (some ⟨e,0,none⟩) N N,va,.int .u64 k] w fun en w'=>en=.returned (.tuple #[])∧St3 w0 ws w' bz o e t N Z vo p vt:=by
 obtain⟨E,h1,h2,h3,h4⟩:=h.he
 have:=rW e 0 N N E va A k w h1 h2 hA hoff (by omega) (Nat.le_refl _) (by omega) hk0 hk (by rw [b8 h3,h4];omega)
 rw [b8 h3,h4,show ve - val A*k=p by omega] at this
 exact this.mono fun en w' hd=>h.up h3 hd

theorem St3.half {w0 ws w:World}{bz o e t N:Nat}{Z:List Nat}{vo ve vt:Nat}(h:St3 w0 ws w bz o e t N Z vo ve vt)(hN:N≤1125899906842624)(p:Nat)(hp:ve=2*p) :
  Calls Tryz.prog 216 #[.slice (some ⟨e,0,none⟩) N N] w fun en w'=>en=.returned (.tuple #[])∧St3 w0 ws w' bz o e t N Z vo p vt:=by
 obtain⟨E,h1,h2,h3,h4⟩:=h.he
 have:=oT e 0 N N E w h1 h2 (by omega) (Nat.le_refl _) (by omega)
 rw [b8 h3,h4,show ve / 2=p by omega] at this
 exact this.mono fun en w' hd=>h.up h3 hd

theorem St3.third {w0 ws w:World}{bz o e t N:Nat}{Z:List Nat}{vo ve vt:Nat}(h:St3 w0 ws w bz o e t N Z vo ve vt)(hN:N≤1125899906842624)(p:Nat)(hp:ve=3*p) :
  Calls Tryz.prog 219 #[.slice (some ⟨e,0,none⟩) N N] w fun en w'=>en=.returned (.tuple #[])∧St3 w0 ws w' bz o e t N Z vo p vt:=by
 obtain⟨E,h1,h2,h3,h4⟩:=h.he
 have:=pQ e 0 N N E w h1 h2 (by omega) (Nat.le_refl _) (by omega) (by rw [b8 h3,h4];omega)
 rw [b8 h3,h4,show ve / 3=p by omega] at this
 exact this.mono fun en w' hd=>h.up h3 hd

theorem St3.add {w0 ws w:World}{bz o e t N:Nat}{Z:List Nat}{vo ve vt:Nat}(h:St3 w0 ws w bz o e t N Z vo ve vt)(zo n k cap:Nat){va:Value}{A:List Nat}(hA:Arg w va A)(hoff:Off va bz (zo+k) (zo+k+(n - k)))(hk:k≤n)(hz:zo+n≤Z.length)(hc1:n - k≤cap)(hc2:cap≤9223372036854775807)
  (tot:Nat) (hle:sv Z zo n+18446744073709551616 ^ k*val A≤tot) (htot:tot<18446744073709551616 ^ n) :
  Calls Tryz.prog 215 #[.slice (some ⟨bz,zo+k,none⟩) (n - k) cap,va] w fun en w'=>en=.returned (.tuple #[])∧∃Z',St3 w0 ws w' bz o e t N Z' vo ve vt∧Out Z Z' zo (zo+n)∧sv Z' zo n=sv Z zo n+18446744073709551616 ^ k*val A:=by
 have hfit:=ir Z zo k n (val A) tot hk hz hle htot
 have:=dc bz (zo+k) (n - k) cap Z va A w h.blk h.lz hA hoff (by omega) hc1 hc2 hfit
 refine this.mono fun en w' hd=>?_
 obtain⟨he,Z',h1,h2,h3⟩:=h.upz hd
 rw [show zo+k+(n - k)=zo+n by omega] at h2
 exact⟨he,Z',h1,h2.wider (by omega) (Nat.le_refl _),gV Z Z' zo k n _ hk hz h2 h3⟩
end Go.Proofs.YtdbjbbdhlpfhjaaGreatDoor
namespace Go.Proofs.YtdbjbbdhlpfhjaaGreatDoor
open Go.RowKit
open Lm
attribute [local go_sem ↓] Go.wp_at_zero Go.wp_at_succ

theorem Arg.fr2 {w w':World}{b off n c b1 b2:Nat}{X:List Nat}(h:Arg w (.slice (some ⟨b,off,none⟩) n c) X)(hf:Fr2 b1 b2 w w')(h1:b≠b1)(h2:b≠b2):Arg w' (.slice (some ⟨b,off,none⟩) n c) X:=by
 by_cases hb:b<w.heap.size
 ·obtain⟨ao,cap,e1,g1,g2,g3⟩:=h.form
  refine⟨⟨ao,cap,e1,g1,g2,?_⟩,h.limbs,h.few,h.nz⟩
  rcases g3 with h0|⟨b',off',rfl,hc⟩
  ·exact .inl h0
  ·cases e1
   refine .inr ⟨_,_,rfl,fun k hk=>?_⟩
   rw [World.cell?_of_block (w:=w) (hf.block b hb h1 h2)]
   exact hc k hk
 ·obtain⟨ao,cap,e1,g1,g2,g3⟩:=h.form
  refine⟨⟨ao,cap,e1,g1,g2,?_⟩,h.limbs,h.few,h.nz⟩
  rcases g3 with h0|⟨b',off',rfl,hc⟩
  ·exact .inl h0
  ·cases e1
   by_cases hX:X.length=0
   ·exact .inl (List.length_eq_zero_iff.1 hX)
   ·exact absurd (aG.block (zs:=X) (.inr ⟨_,_,rfl,hc⟩) (by omega)) hb

def du (bq qo m bu uo n VV:Nat)(Q U:List Nat)(w:World)(e:Ending)(w':World):Prop:=
 e=.returned (.tuple #[])∧∃Q' U':List Nat,bH bq qo m bu uo n VV Q U w w' 0 Q' U'

theorem kR (bq qo m qcap bu uo ucap bv ov vcap j:Nat)(Q U V:List Nat)(w:World)
  (hQ:Blk w bq Q) (lQ:Limbs Q) (hU:Blk w bu U) (lU:Limbs U) (hV:Arg w (.slice (some ⟨bv,ov,none⟩) V.length vcap) V) (lV:V.length=j+1) (ht:9223372036854775808≤V.getD j 0)
  (n1:bq≠bu) (n2:bv≠bq) (n3:bv≠bu) (q1:qo+m≤Q.length) (q2:m≤qcap) (q3:qcap≤9223372036854775807) (u1:uo+(m+V.length)≤U.length) (u2:m+V.length≤ucap) (u3:ucap≤9223372036854775807)
  (few:m+V.length≤1125899906842623) (hlt:sv U (uo+m) V.length<val V) :
  Calls Tryz.prog 188 #[.slice (some ⟨bq,qo,none⟩) m qcap,.slice (some ⟨bu,uo,none⟩) (m+V.length) ucap,.slice (some ⟨bv,ov,none⟩) V.length vcap] w (du bq qo m bu uo V.length (val V) Q U w):=by
 have HJ:=ac lV
 have HV0:Hid (0<val V∧val V≤18446744073709551616 ^ V.length):=⟨by omega,Nat.le_of_lt (val_lt hV.limbs)⟩
 have START:Hid (bH bq qo m bu uo V.length (val V) Q U w w m Q U):=⟨Out.refl _ _ _,lQ,hQ,Out.refl _ _ _,lU,hU,Fr2.refl _ _ _,by rw [Nat.sub_self,aW,Nat.zero_mul,Nat.zero_add,Nat.add_zero],hlt,by rw [Nat.sub_self,aW]⟩
 have HVA:=ac hV
 have vc:=hV.form
 clear lV hQ lQ hU lU hlt hV vc
 go_enter Tryz.func188,Tryz.ntmps188
 go_wp2
 go_loopw [6] (fun i wr=>∃(k:Nat) (Q' U':List Nat),k≤m∧i=.int .i64 ((k:Int) - 1)∧bH bq qo m bu uo V.length (val V) Q U w wr k Q' U') (fun i _=>(intOf i+1).toNat)
 case atStart=>exact⟨m,Q,U,Nat.le_refl _,rfl,START.out⟩
 case round=>
  obtain⟨k,Q',U',hk,rfl,hrel⟩:=hrel
  have HR:=ac hrel
  clear hrel START
  by_cases hk0:k=0
  ·subst hk0
   go_wp2
   go_end0
   exact⟨rfl,Q',U',HR.out⟩
  ·obtain⟨i,rfl⟩:∃i,k=i+1:=⟨k - 1,by omega⟩
   have ej:(((i+1:Nat):Int) - 1)=(i:Int):=by omega
   rw [ej]
   clear ej hk0
   have hcu:¬ucap=i:=by omega
   have y1:(0:Int)≤(i:Int):=by omega
   have y2:(i:Int)<(m:Int):=by omega
   have y3:(i:Int)+(V.length:Int)+1≤(ucap:Int):=by omega
   have y4:i+V.length+1 - i=V.length+1:=by omega
   have hsl:(seg U' (uo+i) (V.length+1)).length=V.length+1:=bK _ _ _ (by rw [HR.out.outU.len];omega)
   have hS:=dl U' (uo+i) 0 (V.length+1) (by rw [HR.out.outU.len];omega) (by omega)
   rw [Nat.add_zero,Nat.sub_zero,Nat.zero_add,Nat.add_sub_cancel,show uo+i+1=uo+(i+1) from rfl] at hS
   have hlim:=limb_lt HR.out.limU (uo+i)
   have hlow:=HR.out.lt
   have huv:val (seg U' (uo+i) (V.length+1))<val V*18446744073709551616:=by
    show sv U' (uo+i) (V.length+1)<_
    rw [hS];omega
   have hVr:=HVA.out.fr2 HR.out.fr n2 n3
   have HG:=pn (.slice (some ⟨bu,uo+i,none⟩) (V.length+1) (ucap - i)) (.slice (some ⟨bv,ov,none⟩) V.length vcap) (seg U' (uo+i) (V.length+1)) V j wr
    (HR.out.blkU.seg_arg HR.out.limU (uo+i) (V.length+1) (ucap - i) (by rw [HR.out.outU.len];omega) (by omega) (by omega) (by omega)) hVr HJ.out (by have:=HJ.out;omega) ht huv
   have HS:=ac hsl
   clear hS hlim hlow huv hsl
   have HVR:=ac hVr
   clear hVr
   go_wp2_with fail
   refine HG.mono ?_
   rintro e w2 ⟨⟨qd,rfl,hqd,hqe⟩,hs⟩
   have HQE:Hid (qd=sv U' (uo+i) (V.length+1) / val V∨qd=sv U' (uo+i) (V.length+1) / val V+1):=hqe
   have bq2:=HR.out.blkQ.below (hs.below _) HR.out.blkQ.lt
   have bu2:=HR.out.blkU.below (hs.below _) HR.out.blkU.lt
   have f1:=bq2.free (qo+i)
   have c1:=bq2.cell (qo+i) (by rw [HR.out.outQ.len];omega)
   have bq3:=bq2.set (qo+i) qd
   have bu3:=bu2.other ⟨bq,qo+i,none⟩ (.int .u64 (qd:Int)) (Ne.symm n1)
   have F3:=ac (show Fr2 bq bu wr (w2.setCell ⟨bq,qo+i,none⟩ (.int .u64 (qd:Int))) from (Fr.of_below (hs.below _):Fr bq wr w2).left2.trans ((Fr.refl bq w2).setCell _ _).left2)
   have HM:=pv bu (uo+i) (V.length+1) (ucap - i) U' _ V qd _ bu3 HR.out.limU (HVR.out.fr2 F3.out n2 n3) (aE n3 _ _) (by rw [HR.out.outU.len];omega) (by omega) (by omega) hqd (by omega)
   have BQ3:=ac bq3
   generalize Q'.getD (qo+i) 0=oq at *
   clear hqe HG bq2 bu2 bq3 bu3 hs
   go_wp2_with fail
   refine HM.mono ?_
   rintro e w4 ⟨cy,U2,hcy,rfl,ho4,hl4,hb4,hf4,hv4⟩
   have hX1:=cm hl4 (uo+i) (V.length+1)
   have hX2:=cm HR.out.limU (uo+i) (V.length+1)
   have bq4:=BQ3.out.frb hf4 n1
   have F4:=ac (F3.out.trans hf4.right2)
   clear HM
   by_cases hc0:cy=0
   ·subst hc0
    obtain⟨k1,k2⟩:=pm HV0.out.1 HQE.out (show _+val V*qd=_ by rw [hv4];omega) hX1
    have HSTEP:=ac (HR.out.step (by omega) q1 u1 HV0.out.1 HV0.out.2 qd hqd k1 ho4 hl4 k2 hb4 bq4 F4.out)
    clear ho4 hl4 hb4 hf4 hv4 hX1 hX2 bq4 k1 k2 F4 HR
    go_wp2
    go_roundw
    case rel=>exact⟨i,_,U2,by omega,rfl,HSTEP.out⟩
    case measure=>simp [intOf]
   ·have hc1:cy=1:=by omega
    have hpos:(0:Int)<(cy:Int):=by omega
    have hq1:1≤qd:=by
     rcases Nat.eq_zero_or_pos qd with h|h
     ·rw [h,hc1,Nat.mul_zero] at hv4
      omega
     ·exact h
    have lq:(Q'.set (qo+i) qd).length=Q.length:=by rw [List.length_set,HR.out.outQ.len]
    have f4:=bq4.free (qo+i)
    have c4:w4.cell? ⟨bq,qo+i,none⟩=some (.int .u64 (qd:Int)):=by
     have:=bq4.cell (qo+i) (by omega)
     rw [cW,if_pos ⟨rfl,by rw [HR.out.outQ.len];omega⟩] at this
     exact this
    have bq5:=bq4.set (qo+i) (qd - 1)
    rw [List.set_set] at bq5
    have bu5:=hb4.other ⟨bq,qo+i,none⟩ (.int .u64 ((qd - 1:Nat):Int)) (Ne.symm n1)
    have F5:=ac (F4.out.trans ((Fr.refl bq w4).setCell (qo+i) (.int .u64 ((qd - 1:Nat):Int))).left2)
    have HP:=fe bu (uo+i) (V.length+1) (ucap - i) U2 _ V _ bu5 hl4 (HVR.out.fr2 F5.out n2 n3) (aE n3 _ _) (by rw [ho4.len,HR.out.outU.len];omega) (by omega) (by omega) (by omega)
    have BQ5:=ac bq5
    have H4:=ac (And.intro ho4 (And.intro hl4 (And.intro hv4 hX1)))
    have eq1:(qd:Int) - 1=((qd - 1:Nat):Int):=by omega
    have hq2:qd - 1<18446744073709551616:=by omega
    obtain⟨q',hq'⟩:∃q',qd - 1=q':=⟨_,rfl⟩
    have HQ':=ac hq'
    rw [hq'] at eq1 hq2 HP BQ5 F5
    clear bq4 bq5 bu5 hq' hv4 ho4 hl4 hb4 hf4 hX1 hX2 F4 lq
    have HC1:=ac hc1
    clear hc1
    go_wp2_with fail
    refine HP.mono ?_
    rintro e w6 ⟨c6,U6,hc6,rfl,ho6,hl6,hb6,hf6,hv6⟩
    have hX6:=cm hl6 (uo+i) (V.length+1)
    obtain⟨k1,k2,k3⟩:=rb HV0.out.1 HQE.out (show _+val V*qd=_+1*_ by rw [H4.out.2.2.1,HC1.out]) H4.out.2.2.2 hv6 hX6 hc6
    rw [HQ'.out] at k1
    have HSTEP:=ac (HR.out.step (by omega) q1 u1 HV0.out.1 HV0.out.2 q' hq2 k1 (H4.out.1.trans ho6) hl6 k3 hb6 (BQ5.out.frb hf6 n1) (F5.out.trans hf6.right2))
    clear ho6 hl6 hb6 hf6 hv6 hX6 k1 k2 k3 HP HR
    go_wp2
    go_roundw
    case rel=>exact⟨i,_,U6,by omega,rfl,HSTEP.out⟩
    case measure=>simp [intOf]
end Go.Proofs.YtdbjbbdhlpfhjaaGreatDoor
namespace Go.Proofs.YtdbjbbdhlpfhjaaGreatDoor
namespace Lm

theorem block_first {U V Uh Ul Vh Vl B q R H:Nat}(eU:U=Uh*B+Ul)(hUl:Ul<B)(eV:V=Vh*B+Vl)(hV:0<V)(e:q*Vh+R=Uh)(hc:R<Vh∨q=H - 1)(hUV:U<V*H):U / V≤q:=by
 have h1:=Nat.div_mul_le_self U V
 generalize hQ:U / V=Q at *
 rcases hc with hc|hc
 ·have h2:Q*Vh≤Uh:=by
   have h3:Q*Vh*B<(Uh+1)*B:=by
    have:Q*V=Q*Vh*B+Q*Vl:=by rw [eV,Nat.mul_add,Nat.mul_assoc]
    rw [Nat.add_mul,Nat.one_mul]
    omega
   have:=Nat.lt_of_mul_lt_mul_right h3
   omega
  refine Nat.le_of_not_lt fun h=>?_
  have h4:=Nat.mul_le_mul_right Vh (Nat.succ_le_of_lt h)
  rw [Nat.succ_eq_add_one,Nat.add_mul,Nat.one_mul] at h4
  omega
 ·have h2:Q<H:=by
   rw [←hQ,Nat.div_lt_iff_lt_mul hV,Nat.mul_comm];exact hUV
  omega

theorem block_turn {U V q X M:Nat}(hV:0<V)(h:X+q*V=U+1*M)(hX:X<M):U / V<q:=by
 rw [Nat.div_lt_iff_lt_mul hV]
 omega

theorem block_next {U V q X X' M c:Nat}(hq:1≤q)(h:X+q*V=U+1*M)(hp:X'+c*M=X+V)(hc:c≤1):X'+(q - 1)*V=U+(1 - c)*M:=by
 obtain⟨p,rfl⟩:∃p,q=p+1:=⟨q - 1,by omega⟩
 rw [Nat.add_mul,Nat.one_mul] at h
 rw [Nat.add_sub_cancel]
 rcases (by omega:c=0∨c=1) with rfl|rfl
 ·omega
 ·omega

theorem block_end {U V q X:Nat}(hV:0<V)(h:X+q*V=U+0*0)(hq:U / V≤q):q=U / V∧X=U % V:=by
 have h1:q≤U / V:=(Nat.le_div_iff_mul_le hV).2 (by omega)
 have h2:q=U / V:=by omega
 have h3:=Nat.div_add_mod U V
 rw [Nat.mul_comm,←h2] at h3
 exact⟨h2,by omega⟩

theorem block_take {U V Uh Ul Vh Vl B q R X M c:Nat}(eU:U=Uh*B+Ul)(eV:V=Vh*B+Vl)(e:q*Vh+R=Uh)(hm:X+q*Vl=R*B+Ul+c*M):X+q*V=U+c*M:=by
 have h1:q*V=q*Vh*B+q*Vl:=by rw [eV,Nat.mul_add,Nat.mul_assoc]
 rw [h1,eU,←e,Nat.add_mul]
 omega

end Lm
end Go.Proofs.YtdbjbbdhlpfhjaaGreatDoor
namespace Go.Proofs.YtdbjbbdhlpfhjaaGreatDoor
open Go.RowKit
open Lm

theorem bH.block {bq qo m bu uo n VV:Nat}{Q U:List Nat}{w wr w2:World}{k d:Nat}{Q' U' Q2 U2:List Nat}(h:bH bq qo m bu uo n VV Q U w wr (k+d) Q' U')(g:bH bq (qo+k) d bu (uo+k) n VV Q' U' wr w2 0 Q2 U2)
  (hk:k+d≤m) (hq:qo+m≤Q.length) (hu:uo+(m+n)≤U.length):bH bq qo m bu uo n VV Q U w w2 k Q2 U2:=by
 have hlQ:=h.outQ.len
 have hlU:=h.outU.len
 have hlQ2:=g.outQ.len
 have hlU2:=g.outU.len
 obtain⟨r,rfl⟩:∃r,m=k+d+r:=⟨m - (k+d),by omega⟩
 have e1:=h.eq
 have e2:=g.eq
 have t1:=h.top
 have t2:=g.top
 have l2:=g.lt
 rw [show k+d+r - (k+d)=r by omega] at e1 t1
 rw [Nat.sub_zero] at e2 t2
 rw [Nat.add_zero,Nat.add_zero] at e2
 rw [Nat.add_zero] at t2 l2
 have p1:=g.outQ
 have p2:=g.outU
 rw [Nat.add_zero] at p1 p2
 refine⟨?_,g.limQ,g.blkQ,?_,g.limU,g.blkU,h.fr.trans g.fr,?_,l2,?_⟩
 ·exact (h.outQ.wider (by omega) (Nat.le_refl _)).trans (p1.wider (Nat.le_refl _) (by omega))
 ·exact (h.outU.wider (by omega) (Nat.le_refl _)).trans (p2.wider (Nat.le_refl _) (by omega))
 ·rw [show k+d+r - k=d+r by omega,aF Q2 (qo+k) d r (by omega),p1.sv (qo+k+d) r (by omega)]
  rw [show n+(d+r)=d+(n+r) by omega,aF U (uo+k) d (n+r) (by omega),←h.outU.sv (uo+k) d (by omega)]
  rw [show qo+(k+d)=qo+k+d by omega,show uo+(k+d)=uo+k+d by omega] at e1
  rw [←e1]
  rw [show n+d=d+n by omega,aF U' (uo+k) d n (by omega)] at e2
  generalize sv Q2 (qo+k) d=a at *
  generalize sv U2 (uo+k) n=b at *
  generalize sv U' (uo+k) d=c at *
  generalize sv U' (uo+k+d) n=f at *
  generalize sv Q' (qo+k+d) r=x at *
  generalize (18446744073709551616:Nat) ^ d=W at *
  rw [Nat.add_mul,Nat.mul_add,Nat.mul_assoc]
  omega
 ·rw [show k+d+r - k=d+r by omega,aF U2 (uo+k+n) d r (by omega),t2,p2.sv (uo+k+n+d) r (by omega),show uo+k+n+d=uo+(k+d)+n by omega,t1,Nat.mul_zero]

theorem Tab.fr2 {w w':World}{b1 b2:Nat}(h:Tab w)(hf:Fr2 b1 b2 w w')(h1:0≠b1)(h2:0≠b2):Tab w':=
 ⟨Nat.lt_of_lt_of_le h.1 hf.size,fun i hi=>by rw [World.cell?_of_block (w:=w) (hf.block _ h.1 h1 h2)];exact h.2 i hi⟩

theorem iL:∀(a b:List Nat),a.length=b.length→Limbs a→Limbs b→val a=val b→a=b
 | [],[],_,_,_,_=>rfl
 | [],_ :: _,h,_,_,_=>by simp at h
 | _ :: _,[],h,_,_,_=>by simp at h
 | x :: a,y :: b,h,ha,hb,e=>by
  have h1:=ha x (by simp)
  have h2:=hb y (by simp)
  simp only [val] at e
  have h3:x=y:=by omega
  have h4:val a=val b:=by omega
  rw [h3,iL a b (by simpa using h) (fun z hz=>ha z (by simp [hz])) (fun z hz=>hb z (by simp [hz])) h4]

def rd (w:World)(b:Nat):List Nat:=match w.heap[b]? with
 | some (.cells a _ _)=>a.toList.map fun v=>(intOf v).toNat
 | _=>[]

theorem jR {w:World}{b:Nat}{Q:List Nat}(h:Blk w b Q):rd w b=Q:=by
 unfold Blk at h
 unfold rd
 rw [h]
 simp only [List.map_map]
 have:((fun v=>(intOf v).toNat) ∘ lv)=id:=by
  funext z
  simp [lv,intOf]
 rw [this]
 simp

def dA (bq qo bu uo m VV:Nat)(Q U:List Nat)(w:World)(e:Ending)(w':World):Prop:=
 e=.returned (.tuple #[])∧∃Q' U':List Nat,Out Q Q' qo (qo+m)∧Limbs Q'∧Blk w' bq Q'∧Out U U' uo (uo+(m+m))∧Limbs U'∧Blk w' bu U'∧Fr2 bq bu w w' ∧
  sv Q' qo m*VV+sv U' uo (m+m)=sv U uo (m+m)∧(sv U' uo (m+m)<VV∨sv Q' qo m=18446744073709551616 ^ m - 1)

theorem du.guess {bq qo bu uo m VV:Nat}{Q U:List Nat}{w w':World}{e:Ending}(h:du bq qo m bu uo m VV Q U w e w')(hu:uo+(m+m)≤U.length):dA bq qo bu uo m VV Q U w e w':=by
 obtain⟨he,Q',U',h⟩:=h
 have e1:=h.eq
 have e2:=h.top
 have e3:=h.lt
 have o1:=h.outQ
 have o2:=h.outU
 simp only [Nat.add_zero,Nat.sub_zero] at e1 e2 e3 o1 o2
 have e4:=aF U' uo m m (by rw [o2.len];omega)
 rw [e2,Nat.mul_zero,Nat.add_zero] at e4
 exact⟨he,Q',U',o1,h.limQ,h.blkQ,o2,h.limU,h.blkU,h.fr,by rw [e4];exact e1,.inl (by rw [e4];exact e3)⟩

theorem dA.same {bq qo bu uo m VV:Nat}{Q U:List Nat}{w wn w':World}{e:Ending}(h:dA bq qo bu uo m VV Q U wn e w')(hs:aD w wn):dA bq qo bu uo m VV Q U w e w':=by
 obtain⟨he,Q',U',h1,h2,h3,h4,h5,h6,h7,h8⟩:=h
 exact⟨he,Q',U',h1,h2,h3,h4,h5,h6,(Fr.left2 (Fr.same (bz:=bq) hs)).trans h7,h8⟩

def gk (V:List Nat):Prop:=
 ∀(bq qo m qcap bu uo ucap bv ov vcap:Nat) (Q U:List Nat) (w:World),Blk w bq Q→Limbs Q→Blk w bu U→Limbs U→Arg w (.slice (some ⟨bv,ov,none⟩) V.length vcap) V→Tab w→0≠bq→0≠bu →
  bq≠bu→bv≠bq→bv≠bu→qo+m≤Q.length→m≤qcap→qcap≤9223372036854775807→uo+(m+V.length)≤U.length→m+V.length≤ucap→ucap≤9223372036854775807→m+V.length≤35184372088831→sv U (uo+m) V.length<val V →
  Calls Tryz.prog 158 #[.slice (some ⟨bq,qo,none⟩) m qcap,.slice (some ⟨bu,uo,none⟩) (m+V.length) ucap,.slice (some ⟨bv,ov,none⟩) V.length vcap] w (du bq qo m bu uo V.length (val V) Q U w)

theorem oD {Q' U':List Nat}{qo uo m VV lo hi X cy:Nat}(hQ:sv Q' qo m+1=18446744073709551616 ^ m)(hlo:lo<18446744073709551616 ^ m)(hV:VV<18446744073709551616 ^ m)(hX:X=lo+18446744073709551616 ^ m*hi)(he:hi=VV)(hm:1≤m)
  (hp:sv U' uo (m+m)+cy*18446744073709551616 ^ (m+m)=lo+VV):sv Q' qo m*VV+sv U' uo (m+m)=X:=by
 subst he
 rw [hX,←hQ]
 rw [Nat.pow_add] at hp
 have h2:2≤18446744073709551616 ^ m:=by
  have:=Nat.pow_le_pow_right (n:=18446744073709551616) (by omega) hm
  omega
 rw [←hQ] at hlo hV hp h2
 generalize sv Q' qo m=a at *
 generalize sv U' uo (m+m)=u at *
 have h3:cy=0:=by
  rcases Nat.eq_zero_or_pos cy with h|h
  ·exact h
  ·have h4:1*((a+1)*(a+1))≤cy*((a+1)*(a+1)):=Nat.mul_le_mul_right _ h
   have h5:2*(a+1)≤(a+1)*(a+1):=Nat.mul_le_mul_right _ h2
   omega
 subst h3
 rw [Nat.add_mul,Nat.one_mul]
 omega

structure cH (bq qo m bu uo n VV q0:Nat)(Q U:List Nat)(w wr:World)(un:Nat)(Q' U':List Nat):Prop where
 outQ:Out Q Q' qo (qo+m)
 limQ:Limbs Q'
 blkQ:Blk wr bq Q'
 outU:Out U U' uo (uo+(m+n))
 limU:Limbs U'
 blkU:Blk wr bu U'
 fr:Fr2 bq bu w wr
 eq:sv U' uo (m+n)+sv Q' qo m*VV=sv U uo (m+n)+un*18446744073709551616 ^ (m+n)
 ge:sv U uo (m+n) / VV≤sv Q' qo m

theorem cH.done {bq qo m bu uo n VV q0:Nat}{Q U:List Nat}{w wr:World}{Q' U':List Nat}(h:cH bq qo m bu uo n VV q0 Q U w wr 0 Q' U')(hV:0<VV)(hVn:VV≤18446744073709551616 ^ n)(hu:uo+(m+n)≤U.length) :
  du bq qo m bu uo n VV Q U w (.returned (.tuple #[])) wr:=by
 have e1:=h.eq
 obtain⟨e2,e3⟩:=block_end hV (by simpa using e1) h.ge
 have e4:sv U' uo (m+n)<VV:=by rw [e3];exact Nat.mod_lt _ hV
 have e5:=aF U' uo n m (by rw [h.outU.len];omega)
 have e6:sv U' (uo+n) m=0:=by
  rcases Nat.eq_zero_or_pos (sv U' (uo+n) m) with h0|h0
  ·exact h0
  ·have:=Nat.mul_le_mul_left (18446744073709551616 ^ n) h0
   rw [Nat.add_comm n m] at e5
   omega
 rw [e6,Nat.mul_zero,Nat.add_zero,Nat.add_comm n m] at e5
 refine⟨rfl,Q',U',?_,h.limQ,h.blkQ,?_,h.limU,h.blkU,h.fr,?_,?_,?_⟩
 ·rw [Nat.add_zero];exact h.outQ
 ·rw [Nat.add_zero];exact h.outU
 ·rw [Nat.add_zero,Nat.add_zero,Nat.sub_zero,←e5,Nat.add_comm n m,Nat.add_comm];simpa using e1
 ·rw [Nat.add_zero,←e5];exact e4
 ·rw [Nat.add_zero,Nat.sub_zero];exact e6

theorem cH.next {bq qo m bu uo n VV q0:Nat}{Q U:List Nat}{w wr w2:World}{Q' U' Q2 U2:List Nat}{c b1:Nat}(h:cH bq qo m bu uo n VV q0 Q U w wr 1 Q' U')(hV:0<VV)
  (o1:Out Q' Q2 qo (qo+m)) (l1:Limbs Q2) (k1:Blk w2 bq Q2) (m1:sv Q2 qo m+1=sv Q' qo m+b1*18446744073709551616 ^ m) (hb:b1≤1)
  (o2:Out U' U2 uo (uo+(m+n))) (l2:Limbs U2) (k2:Blk w2 bu U2) (m2:sv U2 uo (m+n)+c*18446744073709551616 ^ (m+n)=sv U' uo (m+n)+VV) (hc:c≤1) (hf:Fr2 bq bu wr w2) :
  cH bq qo m bu uo n VV q0 Q U w w2 (1 - c) Q2 U2∧sv Q2 qo m<sv Q' qo m:=by
 have hX:=cm h.limU uo (m+n)
 have t:=block_turn hV h.eq hX
 have hq1:1≤sv Q' qo m:=Nat.lt_of_le_of_lt (Nat.zero_le _) t
 have hX2:=cm l1 qo m
 have hX3:=cm h.limQ qo m
 have hq2:sv Q2 qo m=sv Q' qo m - 1:=by
  rcases (by omega:b1=0∨b1=1) with rfl|rfl
  ·omega
  ·omega
 have e:=block_next hq1 h.eq m2 hc
 refine⟨⟨h.outQ.trans o1,l1,k1,h.outU.trans o2,l2,k2,h.fr.trans hf,by rw [hq2];exact e,by rw [hq2];exact Nat.le_sub_one_of_lt t⟩,by omega⟩

theorem cH.start {bq qo m bu uo n r VH VL:Nat}{Q U:List Nat}{w w2:World}{Q' U' U2:List Nat}{un:Nat}(hn:n=r+m)
  (o1:Out Q Q' qo (qo+m)) (l1:Limbs Q') (k1:Blk w2 bq Q') (o2:Out U U' (uo+r) (uo+r+(m+m))) (lU:Limbs U) (hu:uo+(m+n)≤U.length)
  (e1:sv Q' qo m*VH+sv U' (uo+r) (m+m)=sv U (uo+r) (m+m)) (hc:sv U' (uo+r) (m+m)<VH∨sv Q' qo m=18446744073709551616 ^ m - 1)
  (o3:Out U' U2 uo (uo+(m+n))) (l3:Limbs U2) (k3:Blk w2 bu U2) (e3:sv U2 uo (m+n)+sv Q' qo m*VL=sv U' uo (m+n)+un*18446744073709551616 ^ (m+n)) (hf:Fr2 bq bu w w2)
  (hV:0<VL+18446744073709551616 ^ r*VH) (hlt:sv U (uo+m) n<VL+18446744073709551616 ^ r*VH):cH bq qo m bu uo n (VL+18446744073709551616 ^ r*VH) 0 Q U w w2 un Q' U2:=by
 subst hn
 have s1:=aF U uo r (m+m) (by omega)
 have s2:=aF U' uo r (m+m) (by rw [o2.len];omega)
 rw [show r+(m+m)=m+(r+m) by omega] at s1 s2
 rw [o2.sv uo r (by omega)] at s2
 have s3:=aF U uo m (r+m) (by omega)
 have s4:=cm lU uo r
 have s5:=cm lU uo m
 rw [s2] at e3
 have eU:sv U uo (m+(r+m))=sv U (uo+r) (m+m)*18446744073709551616 ^ r+sv U uo r:=by rw [s1,Nat.mul_comm,Nat.add_comm]
 have eV:VL+18446744073709551616 ^ r*VH=VH*18446744073709551616 ^ r+VL:=by rw [Nat.mul_comm,Nat.add_comm]
 have hUV:sv U uo (m+(r+m))<(VL+18446744073709551616 ^ r*VH)*18446744073709551616 ^ m:=by
  rw [s3]
  have:=Nat.mul_le_mul_left (18446744073709551616 ^ m) (Nat.succ_le_of_lt hlt)
  rw [Nat.succ_eq_add_one,Nat.mul_add,Nat.mul_one,Nat.mul_comm _ (VL+18446744073709551616 ^ r*VH)] at this
  omega
 refine⟨o1,l1,k1,(o2.wider (by omega) (by omega)).trans o3,l3,k3,hf,?_,?_⟩
 ·exact block_take eU eV e1 (by rw [e3,Nat.mul_comm (sv U' (uo+r) (m+m))];omega)
 ·exact block_first eU s4 eV hV e1 hc hUV
end Go.Proofs.YtdbjbbdhlpfhjaaGreatDoor

