/- Package whole: sum. -/
import Derived.Test.YtdbjbbdhlpfhjaaGreatDoorB08
import Derived.Test.YtdbjbbdhlpfhjaaGreatDoorB05
import Derived.Handy
import Derived.Test.YtdbjbbdhlpfhjaaGreatDoorB03
import Derived.Test.YtdbjbbdhlpfhjaaGreatDoorB07
import Derived.Deep.RegionHeld3
import Derived.Deep.CutBlock
import Derived.Deep.DeepCutAuto
import Derived.Maps.AppendAt
set_option maxRecDepth 20000
set_option maxHeartbeats 4000000
namespace Go.Proofs.YtdbjbbdhlpfhjaaGreatDoor
open Go.RowKit
open Lm
attribute [local go_sem ↓] Go.wp_at_zero Go.wp_at_succ

def bR (w:World)(x:Nat)(e:Ending)(w':World):Prop:=
 (∃v rs,e=.returned v∧Ans w' w.heap.size v rs∧val rs=x∧tr rs=rs)∧Below w.heap.size w w'

theorem Arg.wtrim {w:World}{v:Value}{X:List Nat}(h:Arg w v X):∃ao cap,v=.slice ao X.length cap∧(∀w',Below w.heap.size w w'→Calls Tryz.prog 122 #[v] w' fun e w''=>e=.returned (.slice ao (tr X).length cap)∧w''=w')∧Arg w (.slice ao (tr X).length cap) (tr X):=by
 obtain⟨ao,cap,rfl,h1,h2,h3⟩:=h.form
 exact⟨ao,cap,rfl,fun w' hb=>cV ao cap X w' h1 h2 (h3.below hb),h.trim⟩

theorem Arg.wlies {w:World}{a:Option Addr}{n c:Nat}{X:List Nat}(h:Arg w (.slice a n c) X):aG w a X:=by
 obtain⟨_,_,e,_,_,hl⟩:=h.form
 cases e
 exact hl

theorem bR.trimmed {w w':World}{g:Nat}{Z:List Nat}{x:Nat}(hg:w.heap.size≤g)(hb:Blk w' g Z)(hl:Limbs Z)(hz:Z.length≤1125899906842624)(hx:val Z=x)(hbel:Below w.heap.size w w') :
  Calls Tryz.prog 122 #[.slice (some ⟨g,0,none⟩) Z.length Z.length] w' fun e w''=>e=.returned (.slice (some ⟨g,0,none⟩) (tr Z).length Z.length)∧w''=w'∧bR w x e w'':=by
 have A1:=Ans.of_blk (base:=w.heap.size) (zs:=Z) hg hb List.take_length.symm (Nat.le_refl _) (by omega) hl
 have hA:=A1.arg hz
 obtain⟨ao,cap,e0,hT,_⟩:=hA.wtrim
 cases e0
 refine (hT w' (Below.refl _ _)).mono ?_
 rintro e w2 ⟨rfl,rfl⟩
 exact⟨rfl,rfl,⟨_,tr Z,rfl,A1.trim,by rw [val_tr];exact hx,tr_tr Z⟩,hbel⟩

theorem gC (va vb:Value)(X Y:List Nat)(w:World)(hA:Arg w va X)(hB:Arg w vb Y)(hx:X.length≤17592186044416)(hy:Y.length≤17592186044416) :
  Calls Tryz.prog 87 #[va,vb] w (bR w (val X+val Y)):=by
 obtain⟨a1,c1,rfl,T1,A1⟩:=hA.wtrim
 obtain⟨a2,c2,rfl,T2,A2⟩:=hB.wtrim
 have f1:=A1.few
 have f2:=A2.few
 have g1:=tr_length_le X
 have g2:=tr_length_le Y
 rw [←val_tr X,←val_tr Y]
 have HT1:=T1 w (Below.refl _ _)
 have HT2:=T2 w (Below.refl _ _)
 clear T1 T2
 generalize tr X=P at *
 generalize tr Y=Q at *
 clear hA hB
 obtain⟨i0,hi,hz0,hz1,hz2⟩:=info_parts Tryz.infoU
 go_enter Tryz.func87,Tryz.ntmps87
 go_wp2_with fail
 refine HT1.mono ?_
 rintro e wn ⟨rfl,hw⟩;rw [hw];clear hw wn HT1
 go_wp2_with fail
 refine HT2.mono ?_
 rintro e wn ⟨rfl,hw⟩;rw [hw];clear hw wn HT2
 by_cases hlt:P.length<Q.length
 ·have i1:(P.length:Int)<(Q.length:Int):=by omega
  obtain⟨H',eH,hH1,hH2⟩:∃H':Nat,(Q.length:Int)+1=(H':Int)∧H'≤Q.length+1∧Q.length+1≤H':=⟨Q.length+1,by omega,by omega,by omega⟩
  go_wp2_with (at_make;refine wpList_make_full _ rfl _ _ 25 rfl w.heap.size 61 i0 (.int .u64 0) 1 Tryz.underlying25 hi hz0 hz1 .i64 .i64 _ _ H' rfl rfl (by omega) (by omega) (by rw [hz2];omega) (by unfold maxLen;omega) (Nat.le_refl _) ?_;intro w1 hown hgrow;obtain⟨w2,M2,hcp,B2,L2,F2,O2,S2⟩:=cg w.heap.size 0 H' H' (List.replicate H' 0) a2 c2 Q w1 (Blk.made hown) (limbs_replicate _) A2.limbs (cl H' 0 H') (by simp) (by omega) (A2.below ((Below.refl w.heap.size w).grown hgrow (Nat.le_refl _) (fun k hk=>by cases hk))).wlies)
  have hb1:Below w.heap.size w w1:=(Below.refl w.heap.size w).grown hgrow (Nat.le_refl _) (fun k hk=>by cases hk)
  have hb2:Below w.heap.size w w2:=hb1.trans (F2.below (Nat.le_refl _) hb1.size)
  have l2:M2.length=H':=by rw [O2.len,List.length_replicate]
  have s2:sv M2 0 H'=val Q:=S2
  have hfit:sv M2 0 H'+val P<18446744073709551616 ^ H':=by
   rw [s2]
   have h1:=val_lt A2.limbs
   have h2:=val_lt A1.limbs
   have h3:18446744073709551616 ^ P.length≤18446744073709551616 ^ Q.length:=Nat.pow_le_pow_right (by omega) (by omega)
   have h4:18446744073709551616 ^ H'=18446744073709551616 ^ Q.length*18446744073709551616:=by rw [show H'=Q.length+1 by omega,Nat.pow_succ]
   omega
  have HP:=gj w.heap.size 0 H' H' M2 _ P w2 B2 L2 (A1.below hb2) (fun h0 b off n c e=>.inl (by cases e;have:=A1.block h0;omega)) (by omega) (Nat.le_refl _) (by omega) (by omega) hfit
  clear B2 L2 F2 O2 S2 hown hgrow hb1
  refine HP.mono ?_
  rintro e w3 ⟨rfl,M3,O3,L3,B3,F3,S3⟩
  have HR:=bR.trimmed (w:=w) (x:=val Q+val P) (Nat.le_refl _) B3 L3 (by rw [O3.len];omega) (by rw [←s2,←S3,←l2,←O3.len,ca]) (hb2.trans (F3.below (Nat.le_refl _) hb2.size))
  have l3:M3.length=H':=by rw [O3.len];exact l2
  rw [l3] at HR
  clear HP O3 L3 B3 F3 S3 hb2 s2 hfit
  go_wp2_with fail
  refine HR.mono ?_
  rintro e w4 ⟨rfl,rfl,hd⟩
  have HD:=ac hd
  go_wp2
  go_returns
  rw [Nat.add_comm];exact HD.out
 ·have i1:¬(P.length:Int)<(Q.length:Int):=by omega
  obtain⟨H',eH,hH1,hH2⟩:∃H':Nat,(P.length:Int)+1=(H':Int)∧H'≤P.length+1∧P.length+1≤H':=⟨P.length+1,by omega,by omega,by omega⟩
  go_wp2_with (at_make;refine wpList_make_full _ rfl _ _ 25 rfl w.heap.size 61 i0 (.int .u64 0) 1 Tryz.underlying25 hi hz0 hz1 .i64 .i64 _ _ H' rfl rfl (by omega) (by omega) (by rw [hz2];omega) (by unfold maxLen;omega) (Nat.le_refl _) ?_;intro w1 hown hgrow;obtain⟨w2,M2,hcp,B2,L2,F2,O2,S2⟩:=cg w.heap.size 0 H' H' (List.replicate H' 0) a1 c1 P w1 (Blk.made hown) (limbs_replicate _) A1.limbs (cl H' 0 H') (by simp) (by omega) (A1.below ((Below.refl w.heap.size w).grown hgrow (Nat.le_refl _) (fun k hk=>by cases hk))).wlies)
  have hb1:Below w.heap.size w w1:=(Below.refl w.heap.size w).grown hgrow (Nat.le_refl _) (fun k hk=>by cases hk)
  have hb2:Below w.heap.size w w2:=hb1.trans (F2.below (Nat.le_refl _) hb1.size)
  have l2:M2.length=H':=by rw [O2.len,List.length_replicate]
  have s2:sv M2 0 H'=val P:=S2
  have hfit:sv M2 0 H'+val Q<18446744073709551616 ^ H':=by
   rw [s2]
   have h1:=val_lt A1.limbs
   have h2:=val_lt A2.limbs
   have h3:18446744073709551616 ^ Q.length≤18446744073709551616 ^ P.length:=Nat.pow_le_pow_right (by omega) (by omega)
   have h4:18446744073709551616 ^ H'=18446744073709551616 ^ P.length*18446744073709551616:=by rw [show H'=P.length+1 by omega,Nat.pow_succ]
   omega
  have HP:=gj w.heap.size 0 H' H' M2 _ Q w2 B2 L2 (A2.below hb2) (fun h0 b off n c e=>.inl (by cases e;have:=A2.block h0;omega)) (by omega) (Nat.le_refl _) (by omega) (by omega) hfit
  clear B2 L2 F2 O2 S2 hown hgrow hb1
  refine HP.mono ?_
  rintro e w3 ⟨rfl,M3,O3,L3,B3,F3,S3⟩
  have HR:=bR.trimmed (w:=w) (x:=val P+val Q) (Nat.le_refl _) B3 L3 (by rw [O3.len];omega) (by rw [←s2,←S3,←l2,←O3.len,ca]) (hb2.trans (F3.below (Nat.le_refl _) hb2.size))
  have l3:M3.length=H':=by rw [O3.len];exact l2
  rw [l3] at HR
  clear HP O3 L3 B3 F3 S3 hb2 s2 hfit
  go_wp2_with fail
  refine HR.mono ?_
  rintro e w4 ⟨rfl,rfl,hd⟩
  have HD:=ac hd
  go_wp2
  go_returns
  exact HD.out

theorem dq (va vb:Value)(X Y:List Nat)(w:World)(hA:Arg w va X)(hB:Arg w vb Y)(hx:X.length≤17592186044416)(hle:val Y≤val X) :
  Calls Tryz.prog 85 #[va,vb] w (bR w (val X - val Y)):=by
 obtain⟨a1,c1,rfl,T1,A1⟩:=hA.wtrim
 obtain⟨a2,c2,rfl,T2,A2⟩:=hB.wtrim
 have f1:=A1.few
 have f2:=A2.few
 have g1:=tr_length_le X
 have hln:(tr Y).length≤(tr X).length:=aQ Y _ (by have:=val_lt A1.limbs;rw [val_tr] at this;omega)
 rw [←val_tr X,←val_tr Y] at hle ⊢
 have HT1:=T1 w (Below.refl _ _)
 have HT2:=T2 w (Below.refl _ _)
 clear T1 T2
 generalize tr X=P at *
 generalize tr Y=Q at *
 clear hA hB
 obtain⟨i0,hi,hz0,hz1,hz2⟩:=info_parts Tryz.infoU
 go_enter Tryz.func85,Tryz.ntmps85
 go_wp2_with fail
 refine HT1.mono ?_
 rintro e wn ⟨rfl,hw⟩;rw [hw];clear hw wn HT1
 go_wp2_with fail
 refine HT2.mono ?_
 rintro e wn ⟨rfl,hw⟩;rw [hw];clear hw wn HT2
 obtain⟨n,hn⟩:∃n,P.length=n:=⟨_,rfl⟩
 have hPn:P.length≤n:=by omega
 rw [hn] at A1 f1 g1 hln ⊢
 go_wp2_with (at_make;refine wpList_make_full _ rfl _ _ 25 rfl w.heap.size 61 i0 (.int .u64 0) 1 Tryz.underlying25 hi hz0 hz1 .i64 .i64 _ _ n rfl rfl (by omega) (by omega) (by rw [hz2];omega) (by unfold maxLen;omega) (Nat.le_refl _) ?_;intro w1 hown hgrow;obtain⟨w2,M2,hcp,B2,L2,F2,O2,S2⟩:=cg w.heap.size 0 n n (List.replicate n 0) a1 c1 P w1 (Blk.made hown) (limbs_replicate _) A1.limbs (cl n 0 n) (by simp) (by omega) (A1.below ((Below.refl w.heap.size w).grown hgrow (Nat.le_refl _) (fun k hk=>by cases hk))).wlies;rw [hn] at hcp)
 have hb1:Below w.heap.size w w1:=(Below.refl w.heap.size w).grown hgrow (Nat.le_refl _) (fun k hk=>by cases hk)
 have hb2:Below w.heap.size w w2:=hb1.trans (F2.below (Nat.le_refl _) hb1.size)
 have l2:M2.length=n:=by rw [O2.len,List.length_replicate]
 have s2:sv M2 0 n=val P:=S2
 have hao:0<Q.length→∀b off,a2=some ⟨b,off,none⟩→b≠w.heap.size∨off+Q.length≤0∨0+n≤off:=fun h b off e=>by
  subst e
  have:=A2.block h
  exact .inl (by omega)
 have L1:=(A2.below hb2).wlies
 have M1:=A2.limbs
 have HB2:=ac hb2
 have HS2:=ac s2
 have HB0:=ac B2
 have HL0:=ac L2
 have HLE:=ac hle
 clear A1 A2 S2 O2 F2 hown hgrow hb1 hb2 s2 hle hcp hi hz0 hz1 hz2
 go_loopw [6,22] (fun c i wr=>∃(k cy:Nat) (Z':List Nat),k≤Q.length∧i=.int .i64 k∧c=.int .u64 cy∧cy≤1∧Out M2 Z' 0 (0+k)∧Limbs Z'∧Blk wr w.heap.size Z'∧Fr w.heap.size w2 wr ∧
   sv Z' 0 k+val (Q.take k)=sv M2 0 k+cy*18446744073709551616 ^ k) (fun _ i _=>Q.length - (intOf i).toNat)
 case atStart=>exact⟨0,0,M2,Nat.zero_le _,rfl,rfl,by omega,Out.refl _ _ _,HL0.out,HB0.out,Fr.refl _ _,by simp [aW,val]⟩
 case round=>
  obtain⟨k,cy,Z',hk,rfl,rfl,hcy,hout,hlz,hblk,hfr0,hval⟩:=hrel
  have HV:=ac hval
  have HB:=ac hblk
  have HF:=ac hfr0
  have HO:=ac hout
  have hl:=hout.len
  clear hval
  by_cases hkl:k<Q.length
  ·rcases L1.fr (hao (by omega)) hfr0 B2 hblk (hout.wider (Nat.le_refl _) (by omega)) with h0|⟨b,off,rfl,hcell⟩
   ·rw [h0] at hkl;simp at hkl
   ·have hck:=hcell k hkl
    have hfr:=hblk.free k
    have hco:=hblk.cell k (by omega)
    have z1:=limb_lt M1 k
    have z2:=limb_lt hlz k
    have hsame:=hout.same k (by omega)
    have ha:=dT (Z'.getD k 0) (Q.getD k 0) cy hcy
    obtain⟨q1,q2,q3⟩:=df (Z'.getD k 0) (Q.getD k 0) cy z2 z1 hcy
    have HS:=cZ M2 Z' 0 k cy _ _ (Q.getD k 0) _ (by omega) hl HV.out (by rw [Nat.zero_add k,←hsame];exact q1)
    rw [←val_take_next Q k,Nat.zero_add k] at HS
    replace HS:=ac HS
    generalize Z'.getD k 0=z at *
    generalize Q.getD k 0=x at *
    clear hsame q1
    generalize (z+18446744073709551616 - x - cy) % 18446744073709551616=s at *
    generalize bor z x cy=c2 at *
    have i1:(k:Int)<(n:Int):=by omega
    clear hcell hblk hfr0 hout HV M1 L1 B2 L2
    go_wp2
    go_roundw
    case rel=>exact⟨k+1,c2,Z'.set k s,by omega,by go_num,rfl,q2,(HO.out.wider (Nat.le_refl _) (by omega)).set _ _ (by omega) (by omega),limbs_set hlz _ _ q3,HB.out.set _ s,HF.out.setCell _ _,HS.out⟩
    case measure=>simp [intOf];omega
  ·have ek:k=Q.length:=by omega
   subst ek
   rw [List.take_length] at HV
   clear hblk hfr0 hout L1 B2 M1 L2 hl
   go_wp2
   go_loopw [6,9] (fun c i wr2=>∃(k cy:Nat) (Z2:List Nat),k≤n∧i=.int .i64 k∧c=.int .u64 cy∧cy≤1∧Out M2 Z2 0 (0+k)∧Limbs Z2∧Blk wr2 w.heap.size Z2∧Fr w.heap.size w2 wr2 ∧
     sv Z2 0 k+val Q=sv M2 0 k+cy*18446744073709551616 ^ k) (fun _ i _=>n - (intOf i).toNat)
   case atStart=>exact⟨Q.length,cy,Z',hln,rfl,rfl,hcy,HO.out,hlz,HB.out,HF.out,HV.out⟩
   case round=>
    obtain⟨k,cy2,Z2,hk2,rfl,rfl,hcy2,hout2,hlz2,hblk2,hfr2,hval2⟩:=hrel
    clear HV HB HF HO
    have HV:=ac hval2
    have HB:=ac hblk2
    have HF:=ac hfr2
    have HO:=ac hout2
    have hl:=hout2.len
    clear hval2
    by_cases hc0:cy2=0
    ·subst hc0
     have hr:=ip M2 Z2 0 k n _ hk2 (by omega) hout2 (by have h:=HV.out;rw [Nat.zero_mul,Nat.add_zero] at h;exact h)
     have hlZ:Z2.length=n:=by rw [hl];exact l2
     have HR:=bR.trimmed (w:=w) (x:=val P - val Q) (Nat.le_refl _) hblk2 hlz2 (by omega) (by rw [←HS2.out,←hr,←hlZ,ca]) (HB2.out.trans (hfr2.below (Nat.le_refl _) HB2.out.size))
     rw [hlZ] at HR
     clear hblk2 hfr2 hout2 HV hr
     go_wp2_with fail
     refine HR.mono ?_
     rintro e w4 ⟨rfl,rfl,hd⟩
     have HD:=ac hd
     go_wp2
     go_returns
     exact HD.out
    ·have hpos:(0:Int)<(cy2:Int):=by omega
     have hkn:k<n:=by
      rcases Nat.lt_or_ge k n with h|h
      ·exact h
      ·have ek:k=n:=by omega
       subst ek
       exact absurd (gZ M2 Z2 0 k cy2 (val Q) hlz2 (by rw [HS2.out];exact HLE.out) HV.out) hc0
     have hfr:=hblk2.free k
     have hco:=hblk2.cell k (by omega)
     have z2:=limb_lt hlz2 k
     have hsame:=hout2.same k (by omega)
     have ha:=ib (Z2.getD k 0) cy2 hcy2
     obtain⟨q1,q2,q3⟩:=df (Z2.getD k 0) 0 cy2 z2 (by omega) hcy2
     have HS:=cZ M2 Z2 0 k cy2 _ _ 0 _ (by omega) hl HV.out (by rw [Nat.zero_add k,←hsame];exact q1)
     rw [Nat.mul_zero,Nat.add_zero,Nat.zero_add k] at HS
     replace HS:=ac HS
     generalize Z2.getD k 0=z at *
     clear hsame q1
     generalize (z+18446744073709551616 - 0 - cy2) % 18446744073709551616=s at *
     generalize bor z 0 cy2=c2 at *
     have i1:(k:Int)<(n:Int):=by omega
     clear hblk2 hfr2 hout2 HV hc0
     go_wp2
     go_roundw
     case rel=>exact⟨k+1,c2,Z2.set k s,by omega,by go_num,rfl,q2,(HO.out.wider (Nat.le_refl _) (by omega)).set _ _ (by omega) (by omega),limbs_set hlz2 _ _ q3,HB.out.set _ s,HF.out.setCell _ _,HS.out⟩
     case measure=>simp [intOf];omega

theorem gQ:∀(N:Nat) (X Y:List Nat) (va vb:Value) (w:World),X.length+Y.length<N→X.length+Y.length≤35184372088830→Arg w va X→Arg w vb Y→Tab w →
  Calls Tryz.prog 86 #[va,vb] w (bR w (val X*val Y)):=by
 intro N
 induction N with
 | zero=>intro X Y va vb w h;omega
 | succ N ih=>
  intro X Y va vb w hN hfew hA hA2 hT
  obtain⟨a1,c1,rfl,hc1,hm1,hl1⟩:=hA.form
  obtain⟨a2,c2,rfl,hc2,hm2,hl2⟩:=hA2.form
  have T1:=cV a1 c1 X w hc1 hm1 hl1
  have T2:=cV a2 c2 Y w hc2 hm2 hl2
  have A1:=hA.trim
  have A2:=hA2.trim
  have m1:=limbs_tr hA.limbs
  have m2:=limbs_tr hA2.limbs
  have l1:=tr_length_le X
  have l2:=tr_length_le Y
  rw [←val_tr X,←val_tr Y]
  clear hA hA2 hl1 hl2
  generalize tr X=P at *
  generalize tr Y=R at *
  by_cases hsw:P.length<R.length
  ·have hsw2:(P.length:Int)<(R.length:Int):=by omega
   rw [Nat.mul_comm]
   have AL:=A2
   have AS:=A1
   have mL:=m2
   have mS:=m1
   have hfit:=ck R P mL mS
   by_cases hsm:R.length+P.length≤1048576
   ·have HM:=fF _ _ R P w AL AS hT (by omega)
    have hbl:blen (val R*val P)≤67108864:=by
     have:blen (val R*val P)≤64*(R.length+P.length):=(blen_le_iff _ _).2 (by rw [Nat.pow_mul];exact hfit)
     omega
    have hsm2:(R.length:Int)+(P.length:Int)≤1048576:=by omega
    clear AL AS hT hfit
    go_enter Tryz.func86,Tryz.ntmps86
    go_wp2_with fail
    refine T1.mono ?_
    rintro e wn ⟨rfl,hw⟩;rw [hw];clear hw wn
    go_wp2_with fail
    refine T2.mono ?_
    rintro e wn ⟨rfl,hw⟩;rw [hw];clear hw wn
    clear T1 T2
    go_wp2_with fail
    refine HM.mono ?_
    rintro e w2 ⟨hb,v,c,rs,rfl,hans,hres⟩
    have HX:Hid (bR w (val R*val P) (.returned v) w2):=by
     rcases hres with ⟨_,hv,ht,_⟩|⟨_,_,hbig⟩
     ·exact⟨⟨v,rs,rfl,hans,hv,ht⟩,hb⟩
     ·omega
    clear hb hans hres HM
    go_wp2
    go_ret
    exact HX.out
   ·obtain⟨half,eh,hh1,hh2⟩:∃half:Nat,(R.length:Int) / 2=(half:Int)∧2*half≤R.length∧R.length≤2*half+1:=⟨R.length / 2,by omega,by omega,by omega⟩
    have hord:P.length≤R.length:=by omega
    obtain⟨K0,eK,hK01,hK02⟩:∃K:Nat,(R.length:Int)+(P.length:Int)=(K:Int)∧K≤R.length+P.length∧R.length+P.length≤K:=⟨_,rfl,Nat.le_refl _,Nat.le_refl _⟩
    have hsm2:¬((K0:Int)≤1048576):=by omega
    obtain⟨K,eK1,hK1,hK2⟩:∃K:Nat,(K0:Int)+1=(K:Int)∧K≤R.length+P.length+1∧R.length+P.length+1≤K:=⟨K0+1,by omega,by omega,by omega⟩
    have hKb:K≤35184372088831:=by omega
    have HFIT:=ac hfit
    have HT:=ac hT
    have HAL:=ac AL
    have HAS:=ac AS
    have HMS:=ac (And.intro mL mS)
    obtain⟨bL,oL,rfl⟩:∃b off,a2=some ⟨b,off,none⟩:=by
     obtain⟨_,_,e,_,_,hl⟩:=AL.form
     cases e
     rcases hl with h0|⟨b,off,e,_⟩
     ·have hz:R.length=0:=by rw [h0];rfl
      omega
     ·exact⟨b,off,e⟩
    obtain⟨i0,hi,hz0,hz1,hz2⟩:=info_parts Tryz.infoU
    clear AL AS hT hfit A1 A2 mL mS m1 m2
    go_enter Tryz.func86,Tryz.ntmps86
    go_wp2_with fail
    refine T1.mono ?_
    rintro e wn ⟨rfl,hw⟩;rw [hw];clear hw wn
    go_wp2_with fail
    refine T2.mono ?_
    rintro e wn ⟨rfl,hw⟩;rw [hw];clear hw wn
    clear T1 T2
    go_wp2_with (at_make;refine wpList_make_full _ rfl _ _ 25 rfl w.heap.size 61 i0 (.int .u64 0) 1 Tryz.underlying25 hi hz0 hz1 .i64 .i64 _ _ K rfl rfl (by omega) (by omega) (by rw [hz2];omega) (by unfold maxLen;omega) (Nat.le_refl _) ?_;intro w1 hown hgrow)
    have hb1:=Blk.made hown
    have hbel:Below w.heap.size w w1:=(Below.refl _ _).grown hgrow (Nat.le_refl _) (fun k hk=>by cases hk)
    have HB1:=ac hb1
    have HBE:=ac hbel
    clear hown hgrow hi hz0 hz1 hz2 hb1 hbel
    have lt1:(R.take half).length=half:=by simp;omega
    have ld1:(R.drop half).length=R.length - half:=by simp
    have IH1:=ih (R.take half) P _ _ w1 (by omega) (by omega) ((HAL.out.below HBE.out).front half (by omega)) (HAS.out.below HBE.out) (HT.out.below HBE.out)
    go_wp2_with fail
    refine IH1.mono ?_
    rintro e w2 ⟨⟨v1,rs1,rfl,An1,e1,t1⟩,hb2⟩
    have mT:=(HAL.out.front half (by omega)).limbs
    have mD:=(HAL.out.drop half (by omega)).limbs
    have f1:=ck (R.take half) P mT HMS.out.2
    have f2:=ck (R.drop half) P mD HMS.out.2
    have r1:=aQ rs1 (half+P.length) (by rw [e1];rw [lt1] at f1;exact f1)
    rw [t1] at r1
    have A1':=An1.arg (by omega)
    obtain⟨ao,co,rfl,_,_,hlo⟩:=A1'.form
    have B2:=HB1.out.below hb2 HB1.out.lt
    obtain⟨w3,M1,hcp,B3,L3,F3,O3,S3⟩:=cg w.heap.size 0 K K (List.replicate K 0) ao co rs1 w2 B2 (limbs_replicate _) An1.limbs (cl K 0 K) (by simp) (by omega) hlo
    have HB3:Hid (Below w.heap.size w w3):=(HBE.out.trans (hb2.mono HBE.out.size)).trans (F3.below (Nat.le_refl _) (by have:=HBE.out.size;have:=hb2.size;omega))
    have IH2:=ih (R.drop half) P _ _ w3.drew (by omega) (by omega) ((HAL.out.below HB3.out).drop half (by omega)).drew (HAS.out.below HB3.out).drew (HT.out.below HB3.out.drew)
    have hch:¬K=half:=by omega
    have hcl:¬c2=half:=by omega
    have lM:M1.length=K:=by rw [O3.len];simp
    have HM1:=ac (And.intro L3 (And.intro S3 lM))
    have HE1:=ac e1
    have HBK:=ac B3
    have k1:(0:Int)≤(half:Int):=by omega
    have k2:(half:Int)≤(K:Int):=by omega
    have k3:(half:Int)≤(R.length:Int):=by omega
    have k4:(half:Int)≤(c2:Int):=by omega
    clear IH1 An1 hb2 A1' hlo B2 B3 L3 F3 O3 S3 lM e1 t1 mT mD f1 hN hfew
    go_wp2
    have HF2:Hid (sv M1 half (K - half)+val (R.drop half)*val P<18446744073709551616 ^ (K - half)):=by
     refine ac ?_
     obtain⟨d,hd⟩:∃d,K=half+(d+1):=⟨K - half - 1,by omega⟩
     have s0:=aF M1 0 half (d+1) (by rw [HM1.out.2.2];omega)
     have s3:=HM1.out.2.1
     have s4:=ce R half (by omega)
     have s6:K - half=d+1:=by omega
     have s7:=HFIT.out
     have s8:R.length+P.length=half+d:=by omega
     rw [hd] at s3
     rw [s8,Nat.pow_add] at s7
     rw [Nat.zero_add] at s0
     rw [HE1.out] at s3
     rw [s4,Nat.add_mul,Nat.mul_assoc] at s7
     rw [s0] at s3
     rw [s6,Nat.pow_succ]
     generalize val (R.take half)*val P=a at *
     generalize val (R.drop half)*val P=b at *
     generalize sv M1 0 half=x at *
     generalize sv M1 half (d+1)=y at *
     have hWp:=W_pos half
     generalize (18446744073709551616:Nat) ^ half=W at *
     generalize (18446744073709551616:Nat) ^ d=V at *
     have t1:W*(y+b)<W*V:=by rw [Nat.mul_add];omega
     have t2:=Nat.lt_of_mul_lt_mul_left t1
     omega
    have HPP:=ac (fun (w4:World) (v2:Value) (rs2:List Nat) (An2:Ans w4 w3.drew.heap.size v2 rs2) (t2:tr rs2=rs2) (e2:val rs2=val (R.drop half)*val P) (hb4:Below w3.drew.heap.size w3.drew w4)=>
     show Calls Tryz.prog 128 #[.slice (some ⟨w.heap.size,half,none⟩) (K - half) (K - half),v2] w4 (aK w.heap.size half (K - half) M1 w4 (sv M1 half (K - half)+val rs2)) by
      have r2:=aQ rs2 (R.length - half+P.length) (by rw [e2];rw [ld1] at f2;exact f2)
      rw [t2] at r2
      have hlt4:w.heap.size<w3.drew.heap.size:=HBK.out.lt
      exact gj w.heap.size half (K - half) (K - half) M1 v2 rs2 w4 (HBK.out.below (dh hb4) HBK.out.lt) HM1.out.1 (An2.arg (by omega)) (fun _ b off n c e=>by subst e;exact .inl (fun h=>by have:=(An2.own.lt b rfl).1;omega)) (by rw [HM1.out.2.2];omega) (Nat.le_refl _) (by omega) (by omega) (by rw [e2];exact HF2.out))
    go_region_held3 (fun _=>True) (trivial) (first
     | (go_at_call 86;refine IH2.mono ?_;rintro e w4 ⟨⟨v2,rs2,rfl,An2,e2,t2⟩,hb4⟩)
     | (go_at_call 128;refine (HPP.out _ _ _ An2 t2 e2 hb4).mono ?_;rintro e w5 ⟨rfl,M2,O5,L5,B5,F5,S5⟩))
    have l5:M2.length=K:=by rw [O5.len,HM1.out.2.2]
    have HTR:=cV (some ⟨w.heap.size,0,none⟩) K M2 w5 (by omega) (by omega) (.inr ⟨_,0,rfl,fun j hj=>by rw [Nat.zero_add];exact B5.cell j hj⟩)
    rw [l5] at HTR
    have HVAL:Hid (val M2=val R*val P):=by
     refine ac ?_
     obtain⟨d,hd⟩:∃d,K=half+d:=⟨K - half,by omega⟩
     have s0:=aF M1 0 half d (by rw [HM1.out.2.2];omega)
     have s1:=aF M2 0 half d (by omega)
     have s2:=O5.sv 0 half (by omega)
     have s3:=HM1.out.2.1
     have s4:=ce R half (by omega)
     have s5:sv M2 0 (half+d)=val M2:=by rw [←hd,←l5,ca]
     have s6:K - half=d:=by omega
     rw [s6] at S5
     rw [hd] at s3
     rw [Nat.zero_add] at s0 s1
     rw [HE1.out] at s3
     rw [e2] at S5
     rw [s4,Nat.add_mul,Nat.mul_assoc]
     rw [←s5,s1,s2,S5,Nat.mul_add]
     rw [s0] at s3
     omega
    have HEND:Hid (bR w (val R*val P) (.returned (.slice (some ⟨w.heap.size,0,none⟩) (tr M2).length K)) w5):=by
     have hb5:Below w.heap.size w w4:=HB3.out.trans ((dh hb4).mono HB3.out.size)
     have AM:=(Ans.of_blk (base:=w.heap.size) (zs:=M2) (Nat.le_refl _) B5 List.take_length.symm (Nat.le_refl _) (by omega) L5).trim
     rw [l5] at AM
     exact⟨⟨_,tr M2,rfl,AM,by rw [val_tr];exact HVAL.out,tr_tr _⟩,hb5.trans (F5.below (Nat.le_refl _) hb5.size)⟩
    clear An2 t2 e2 hb4 O5 L5 B5 F5 S5 HVAL HPP IH2 hcp
    go_wp2_with fail
    refine HTR.mono ?_
    rintro e w6 ⟨rfl,hw⟩;subst hw
    clear HTR
    go_wp2
    go_ret
    exact HEND.out
  ·have hsw2:¬((P.length:Int)<(R.length:Int)):=by omega
   have AL:=A1
   have AS:=A2
   have mL:=m1
   have mS:=m2
   have hfit:=ck P R mL mS
   by_cases hsm:P.length+R.length≤1048576
   ·have HM:=fF _ _ P R w AL AS hT (by omega)
    have hbl:blen (val P*val R)≤67108864:=by
     have:blen (val P*val R)≤64*(P.length+R.length):=(blen_le_iff _ _).2 (by rw [Nat.pow_mul];exact hfit)
     omega
    have hsm2:(P.length:Int)+(R.length:Int)≤1048576:=by omega
    clear AL AS hT hfit
    go_enter Tryz.func86,Tryz.ntmps86
    go_wp2_with fail
    refine T1.mono ?_
    rintro e wn ⟨rfl,hw⟩;rw [hw];clear hw wn
    go_wp2_with fail
    refine T2.mono ?_
    rintro e wn ⟨rfl,hw⟩;rw [hw];clear hw wn
    clear T1 T2
    go_wp2_with fail
    refine HM.mono ?_
    rintro e w2 ⟨hb,v,c,rs,rfl,hans,hres⟩
    have HX:Hid (bR w (val P*val R) (.returned v) w2):=by
     rcases hres with ⟨_,hv,ht,_⟩|⟨_,_,hbig⟩
     ·exact⟨⟨v,rs,rfl,hans,hv,ht⟩,hb⟩
     ·omega
    clear hb hans hres HM
    go_wp2
    go_ret
    exact HX.out
   ·obtain⟨half,eh,hh1,hh2⟩:∃half:Nat,(P.length:Int) / 2=(half:Int)∧2*half≤P.length∧P.length≤2*half+1:=⟨P.length / 2,by omega,by omega,by omega⟩
    have hord:R.length≤P.length:=by omega
    obtain⟨K0,eK,hK01,hK02⟩:∃K:Nat,(P.length:Int)+(R.length:Int)=(K:Int)∧K≤P.length+R.length∧P.length+R.length≤K:=⟨_,rfl,Nat.le_refl _,Nat.le_refl _⟩
    have hsm2:¬((K0:Int)≤1048576):=by omega
    obtain⟨K,eK1,hK1,hK2⟩:∃K:Nat,(K0:Int)+1=(K:Int)∧K≤P.length+R.length+1∧P.length+R.length+1≤K:=⟨K0+1,by omega,by omega,by omega⟩
    have hKb:K≤35184372088831:=by omega
    have HFIT:=ac hfit
    have HT:=ac hT
    have HAL:=ac AL
    have HAS:=ac AS
    have HMS:=ac (And.intro mL mS)
    obtain⟨bL,oL,rfl⟩:∃b off,a1=some ⟨b,off,none⟩:=by
     obtain⟨_,_,e,_,_,hl⟩:=AL.form
     cases e
     rcases hl with h0|⟨b,off,e,_⟩
     ·have hz:P.length=0:=by rw [h0];rfl
      omega
     ·exact⟨b,off,e⟩
    obtain⟨i0,hi,hz0,hz1,hz2⟩:=info_parts Tryz.infoU
    clear AL AS hT hfit A1 A2 mL mS m1 m2
    go_enter Tryz.func86,Tryz.ntmps86
    go_wp2_with fail
    refine T1.mono ?_
    rintro e wn ⟨rfl,hw⟩;rw [hw];clear hw wn
    go_wp2_with fail
    refine T2.mono ?_
    rintro e wn ⟨rfl,hw⟩;rw [hw];clear hw wn
    clear T1 T2
    go_wp2_with (at_make;refine wpList_make_full _ rfl _ _ 25 rfl w.heap.size 61 i0 (.int .u64 0) 1 Tryz.underlying25 hi hz0 hz1 .i64 .i64 _ _ K rfl rfl (by omega) (by omega) (by rw [hz2];omega) (by unfold maxLen;omega) (Nat.le_refl _) ?_;intro w1 hown hgrow)
    have hb1:=Blk.made hown
    have hbel:Below w.heap.size w w1:=(Below.refl _ _).grown hgrow (Nat.le_refl _) (fun k hk=>by cases hk)
    have HB1:=ac hb1
    have HBE:=ac hbel
    clear hown hgrow hi hz0 hz1 hz2 hb1 hbel
    have lt1:(P.take half).length=half:=by simp;omega
    have ld1:(P.drop half).length=P.length - half:=by simp
    have IH1:=ih (P.take half) R _ _ w1 (by omega) (by omega) ((HAL.out.below HBE.out).front half (by omega)) (HAS.out.below HBE.out) (HT.out.below HBE.out)
    go_wp2_with fail
    refine IH1.mono ?_
    rintro e w2 ⟨⟨v1,rs1,rfl,An1,e1,t1⟩,hb2⟩
    have mT:=(HAL.out.front half (by omega)).limbs
    have mD:=(HAL.out.drop half (by omega)).limbs
    have f1:=ck (P.take half) R mT HMS.out.2
    have f2:=ck (P.drop half) R mD HMS.out.2
    have r1:=aQ rs1 (half+R.length) (by rw [e1];rw [lt1] at f1;exact f1)
    rw [t1] at r1
    have A1':=An1.arg (by omega)
    obtain⟨ao,co,rfl,_,_,hlo⟩:=A1'.form
    have B2:=HB1.out.below hb2 HB1.out.lt
    obtain⟨w3,M1,hcp,B3,L3,F3,O3,S3⟩:=cg w.heap.size 0 K K (List.replicate K 0) ao co rs1 w2 B2 (limbs_replicate _) An1.limbs (cl K 0 K) (by simp) (by omega) hlo
    have HB3:Hid (Below w.heap.size w w3):=(HBE.out.trans (hb2.mono HBE.out.size)).trans (F3.below (Nat.le_refl _) (by have:=HBE.out.size;have:=hb2.size;omega))
    have IH2:=ih (P.drop half) R _ _ w3.drew (by omega) (by omega) ((HAL.out.below HB3.out).drop half (by omega)).drew (HAS.out.below HB3.out).drew (HT.out.below HB3.out.drew)
    have hch:¬K=half:=by omega
    have hcl:¬c1=half:=by omega
    have lM:M1.length=K:=by rw [O3.len];simp
    have HM1:=ac (And.intro L3 (And.intro S3 lM))
    have HE1:=ac e1
    have HBK:=ac B3
    have k1:(0:Int)≤(half:Int):=by omega
    have k2:(half:Int)≤(K:Int):=by omega
    have k3:(half:Int)≤(P.length:Int):=by omega
    have k4:(half:Int)≤(c1:Int):=by omega
    clear IH1 An1 hb2 A1' hlo B2 B3 L3 F3 O3 S3 lM e1 t1 mT mD f1 hN hfew
    go_wp2
    have HF2:Hid (sv M1 half (K - half)+val (P.drop half)*val R<18446744073709551616 ^ (K - half)):=by
     refine ac ?_
     obtain⟨d,hd⟩:∃d,K=half+(d+1):=⟨K - half - 1,by omega⟩
     have s0:=aF M1 0 half (d+1) (by rw [HM1.out.2.2];omega)
     have s3:=HM1.out.2.1
     have s4:=ce P half (by omega)
     have s6:K - half=d+1:=by omega
     have s7:=HFIT.out
     have s8:P.length+R.length=half+d:=by omega
     rw [hd] at s3
     rw [s8,Nat.pow_add] at s7
     rw [Nat.zero_add] at s0
     rw [HE1.out] at s3
     rw [s4,Nat.add_mul,Nat.mul_assoc] at s7
     rw [s0] at s3
     rw [s6,Nat.pow_succ]
     generalize val (P.take half)*val R=a at *
     generalize val (P.drop half)*val R=b at *
     generalize sv M1 0 half=x at *
     generalize sv M1 half (d+1)=y at *
     have hWp:=W_pos half
     generalize (18446744073709551616:Nat) ^ half=W at *
     generalize (18446744073709551616:Nat) ^ d=V at *
     have t1:W*(y+b)<W*V:=by rw [Nat.mul_add];omega
     have t2:=Nat.lt_of_mul_lt_mul_left t1
     omega
    have HPP:=ac (fun (w4:World) (v2:Value) (rs2:List Nat) (An2:Ans w4 w3.drew.heap.size v2 rs2) (t2:tr rs2=rs2) (e2:val rs2=val (P.drop half)*val R) (hb4:Below w3.drew.heap.size w3.drew w4)=>
     show Calls Tryz.prog 128 #[.slice (some ⟨w.heap.size,half,none⟩) (K - half) (K - half),v2] w4 (aK w.heap.size half (K - half) M1 w4 (sv M1 half (K - half)+val rs2)) by
      have r2:=aQ rs2 (P.length - half+R.length) (by rw [e2];rw [ld1] at f2;exact f2)
      rw [t2] at r2
      have hlt4:w.heap.size<w3.drew.heap.size:=HBK.out.lt
      exact gj w.heap.size half (K - half) (K - half) M1 v2 rs2 w4 (HBK.out.below (dh hb4) HBK.out.lt) HM1.out.1 (An2.arg (by omega)) (fun _ b off n c e=>by subst e;exact .inl (fun h=>by have:=(An2.own.lt b rfl).1;omega)) (by rw [HM1.out.2.2];omega) (Nat.le_refl _) (by omega) (by omega) (by rw [e2];exact HF2.out))
    go_region_held3 (fun _=>True) (trivial) (first
     | (go_at_call 86;refine IH2.mono ?_;rintro e w4 ⟨⟨v2,rs2,rfl,An2,e2,t2⟩,hb4⟩)
     | (go_at_call 128;refine (HPP.out _ _ _ An2 t2 e2 hb4).mono ?_;rintro e w5 ⟨rfl,M2,O5,L5,B5,F5,S5⟩))
    have l5:M2.length=K:=by rw [O5.len,HM1.out.2.2]
    have HTR:=cV (some ⟨w.heap.size,0,none⟩) K M2 w5 (by omega) (by omega) (.inr ⟨_,0,rfl,fun j hj=>by rw [Nat.zero_add];exact B5.cell j hj⟩)
    rw [l5] at HTR
    have HVAL:Hid (val M2=val P*val R):=by
     refine ac ?_
     obtain⟨d,hd⟩:∃d,K=half+d:=⟨K - half,by omega⟩
     have s0:=aF M1 0 half d (by rw [HM1.out.2.2];omega)
     have s1:=aF M2 0 half d (by omega)
     have s2:=O5.sv 0 half (by omega)
     have s3:=HM1.out.2.1
     have s4:=ce P half (by omega)
     have s5:sv M2 0 (half+d)=val M2:=by rw [←hd,←l5,ca]
     have s6:K - half=d:=by omega
     rw [s6] at S5
     rw [hd] at s3
     rw [Nat.zero_add] at s0 s1
     rw [HE1.out] at s3
     rw [e2] at S5
     rw [s4,Nat.add_mul,Nat.mul_assoc]
     rw [←s5,s1,s2,S5,Nat.mul_add]
     rw [s0] at s3
     omega
    have HEND:Hid (bR w (val P*val R) (.returned (.slice (some ⟨w.heap.size,0,none⟩) (tr M2).length K)) w5):=by
     have hb5:Below w.heap.size w w4:=HB3.out.trans ((dh hb4).mono HB3.out.size)
     have AM:=(Ans.of_blk (base:=w.heap.size) (zs:=M2) (Nat.le_refl _) B5 List.take_length.symm (Nat.le_refl _) (by omega) L5).trim
     rw [l5] at AM
     exact⟨⟨_,tr M2,rfl,AM,by rw [val_tr];exact HVAL.out,tr_tr _⟩,hb5.trans (F5.below (Nat.le_refl _) hb5.size)⟩
    clear An2 t2 e2 hb4 O5 L5 B5 F5 S5 HVAL HPP IH2 hcp
    go_wp2_with fail
    refine HTR.mono ?_
    rintro e w6 ⟨rfl,hw⟩;subst hw
    clear HTR
    go_wp2
    go_ret
    exact HEND.out

theorem pc {M:List Nat}{s u V:Nat}(hM:s+u≤M.length)(h:sv M 0 (s+u)=V)(hV:V<18446744073709551616 ^ s):sv M s u=0∧sv M 0 s=V:=by
 rw [aF M 0 s u (by omega),Nat.zero_add] at h
 have h0:sv M s u=0:=by
  rcases Nat.eq_zero_or_pos (sv M s u) with h1|h1
  ·exact h1
  ·have:=Nat.mul_le_mul_left (18446744073709551616 ^ s) h1
   omega
 rw [h0,Nat.mul_zero,Nat.add_zero] at h
 exact⟨h0,h⟩

theorem lh {M M' U:List Nat}{s o V:Nat}(hl:M'.length=s+U.length)(h0:sv M 0 s=V)(hO:Out M M' o (o+U.length))(hv:sv M' o U.length=val U)(ho:o=s∨(U.length=0∧o=0)):val M'=V+18446744073709551616 ^ s*val U:=by
 rw [←ca M',hl,aF M' 0 s U.length (by omega),Nat.zero_add]
 rcases ho with rfl|⟨hu,rfl⟩
 ·rw [hv,hO.sv 0 o (by omega),h0]
 ·have hU:U=[]:=List.eq_nil_of_length_eq_zero hu
  rw [hU] at hO ⊢
  rw [hO.sv 0 s (by simp),h0]
  simp [sv,seg,val]

theorem jX (va vb:Value)(X Y:List Nat)(n:Nat)(w:World)(hA:Arg w va X)(hB:Arg w vb Y)(hx:X.length≤17592186044416)(hn:n≤17592186044416)(hy:Y.length≤n) :
  Calls Tryz.prog 124 #[va,.int .i64 n,vb] w (bR w (val Y+18446744073709551616 ^ n*val X)):=by
 obtain⟨a5,c5,rfl,_,_,_⟩:=hA.form
 obtain⟨a6,c6,rfl,_,_,_⟩:=hB.form
 obtain⟨i0,hi,hz0,hz1,hz2⟩:=info_parts Tryz.infoU
 obtain⟨N,hN,hNi⟩:∃N,N=n+X.length∧(n:Int)+(X.length:Int)=(N:Int):=⟨_,rfl,by omega⟩
 have hNs:N - n=X.length:=by omega
 obtain⟨o5,hif5,ho5⟩:∃o5,(∀g:Nat,(if N=n then some (⟨g,0,none⟩:Addr) else some ⟨g,n,none⟩)=some ⟨g,o5,none⟩)∧((o5=n∨(X.length=0∧o5=0))∧o5+X.length≤N):=by
  by_cases h:N=n
  ·exact⟨0,fun g=>by rw [if_pos h],.inr ⟨by omega,rfl⟩,by omega⟩
  ·exact⟨n,fun g=>by rw [if_neg h],.inl rfl,by omega⟩
 have HA:=ac hA
 have HBa:=ac hB
 have HNN:=ac hN
 have HO5:=ac ho5
 have hsN:n≤N:=by omega
 have hyN:Y.length≤N:=by omega
 have hNb:N≤35184372088832:=by omega
 have hyv:val Y<18446744073709551616 ^ n:=Nat.lt_of_lt_of_le (val_lt hB.limbs) (Nat.pow_le_pow_right (by omega) hy)
 have HYV:=ac hyv
 clear hA hB hN ho5 hyv
 go_enter Tryz.func124,Tryz.ntmps124
 go_wp2_with (at_make;refine wpList_make_full _ rfl _ _ 25 rfl w.heap.size 61 i0 (.int .u64 0) 1 Tryz.underlying25 hi hz0 hz1 .i64 .i64 _ _ N rfl rfl (by omega) (by omega) (by rw [hz2];omega) (by unfold maxLen;omega) (Nat.le_refl _) ?_;intro w3 hown hgrow;have hbel3:Below w.heap.size w w3:=(Below.refl w.heap.size w).grown hgrow (Nat.le_refl _) (fun k hk=>by cases hk);obtain⟨w4,M4,hcp,B4,L4,F4,O4,S4⟩:=cg w.heap.size 0 N N (List.replicate N 0) a6 c6 Y w3 (Blk.made hown) (limbs_replicate _) HBa.out.limbs (cl N 0 N) (by simp) (by omega) (HBa.out.below hbel3).wlies;have hbel4:Below w.heap.size w w4:=hbel3.trans (F4.below (Nat.le_refl _) hbel3.size);have hM4l:M4.length=N:=by rw [O4.len,List.length_replicate])
 obtain⟨z0,z1⟩:=pc (M:=M4) (s:=n) (u:=X.length) (by have:=HNN.out;omega) (by rw [←HNN.out];exact S4) HYV.out
 have hz5:sv M4 o5 X.length=0:=by
  rcases HO5.out.1 with h|⟨h,_⟩
  ·rw [h];exact z0
  ·rw [h];exact aW _ _
 obtain⟨w5,M5,hcp2,B5,L5,F5,O5,S5⟩:=cg w.heap.size o5 X.length X.length M4 a5 c5 X w4 B4 L4 HA.out.limbs hz5 (by rw [hM4l];exact HO5.out.2) (Nat.le_refl _) (HA.out.below hbel4).wlies
 have hbel5:Below w.heap.size w w5:=hbel4.trans (F5.below (Nat.le_refl _) hbel4.size)
 have hM5l:M5.length=n+X.length:=by rw [O5.len,hM4l];exact HNN.out
 have hval:=lh hM5l z1 O5 S5 HO5.out.1
 have HR:=bR.trimmed (w:=w) (x:=val Y+18446744073709551616 ^ n*val X) (Nat.le_refl _) B5 L5 (by omega) hval hbel5
 rw [hM5l,←HNN.out] at HR
 clear hown hgrow hbel3 hbel4 hbel5 B4 L4 F4 O4 S4 B5 L5 F5 O5 S5 hval hz5 z0 z1 hM5l hi hz0 hz1 hz2
 go_wp2
 rw [hcp2]
 go_wp2_with fail
 refine HR.mono ?_
 rintro e w6 ⟨rfl,rfl,hd⟩
 have HD:=ac hd
 go_wp2
 go_returns
 exact HD.out

theorem qp (va vb:Value)(X Y:List Nat)(w:World)(hA:Arg w va X)(hA2:Arg w vb Y)(hT:Tab w)(hf1:X.length≤17592186044416)(hf2:Y.length≤17592186044416)(hY:val Y≠0) :
  Calls Tryz.prog 126 #[va,vb] w fun e w'=>Below w.heap.size w w'∧Res w' w.heap.size e (val X / val Y):=by
 have HR:=jJ va vb X Y w hA hA2
 have HDV:=kl vb Y w hA2 hT hY (by omega)
 have HA:=ac hA
 have HT:=ac hT
 obtain⟨a1,c1,rfl,_,_,_⟩:=hA.form
 obtain⟨a2,c2,rfl,_,_,_⟩:=hA2.form
 have hr:cK (val X) (val Y)=if 67108864+blen (val Y)<blen (val X) then 3 else 0:=by unfold cK;rw [if_neg hY]
 rw [hr] at HR
 have HY:=ac (show 0<val Y by omega)
 clear hA hA2 hT hr hY
 by_cases hb:67108864+blen (val Y)<blen (val X)
 ·rw [if_pos hb] at HR
  have HX:Hid (67108864<blen (val X / val Y)):=ac (jn HY.out hb)
  clear HDV hb
  go_enter Tryz.func126,Tryz.ntmps126
  go_wp2_with fail
  refine HR.mono ?_
  rintro e wn ⟨rfl,hw⟩;subst hw
  clear HR
  go_wp2
  go_returns
  exact⟨Below.refl _ _,_,_,[],rfl,Ans.nil _ _,.inr ⟨rfl,rfl,HX.out⟩⟩
 ·rw [if_neg hb] at HR
  clear hb
  go_enter Tryz.func126,Tryz.ntmps126
  go_wp2_with fail
  refine HR.mono ?_
  rintro e wn ⟨rfl,hw⟩;rw [hw];clear hw wn
  go_wp2_with fail
  refine HDV.mono ?_
  rintro e w1 ⟨⟨vd,rfl,hd⟩,hb1⟩
  have H1:=jd _ vd X _ _ _ w1 (HA.out.below hb1) hd (HT.out.below hb1) hf1
  have HB1:=ac hb1
  clear hd hb1 HDV HR
  go_wp2_with fail
  refine H1.mono ?_
  rintro e w2 ⟨⟨vq,vr,qs,rs,mid,rfl,A1,hmid,hq,A2,e1,e2,l1,l2,_⟩,hb2⟩
  have HQ:=jG vq w1.heap.size qs w2 A1 (by omega)
  have HB2:=ac (HB1.out.trans (hb2.mono HB1.out.size))
  rw [e1] at HQ
  clear A1 A2 hmid hq e1 e2 l1 l2 hb2 H1
  go_wp2_with fail
  refine HQ.mono ?_
  rintro e w3 ⟨hw,v1,c1,r1,rfl,An1,hres⟩;subst hw
  have H1:=ac (And.intro An1 hres)
  clear HQ An1 hres
  go_wp2
  go_returns
  exact⟨HB2.out,v1,_,r1,rfl,H1.out.1.base HB1.out.size,H1.out.2⟩

def WDone2 (w:World)(x y:Nat)(e:Ending)(w':World):Prop:=
 (∃v1 v2 r1 r2,e=.returned (.tuple #[v1,v2])∧Ans w' w.heap.size v1 r1∧Ans w' w.heap.size v2 r2∧val r1=x∧tr r1=r1∧val r2=y∧tr r2=r2∧(v1.ownBlock=none∨v1.ownBlock≠v2.ownBlock))∧Below w.heap.size w w'

theorem apart_of {w:World}{v1 v2:Value}{m:Nat}{r2:List Nat}(h:∀g,v1.ownBlock=some g→g<m)(h2:Ans w m v2 r2):v1.ownBlock=none∨v1.ownBlock≠v2.ownBlock:=by
 cases e:v1.ownBlock with
 | none=>exact .inl rfl
 | some g=>
  refine .inr fun e2=>?_
  have a:=h g e
  have b:=(h2.own.lt g e2.symm).1
  omega

theorem apart_of2 {w:World}{v1 v2:Value}{m:Nat}{r1:List Nat}(h:∀g,v2.ownBlock=some g→g<m)(h1:Ans w m v1 r1):v1.ownBlock=none∨v1.ownBlock≠v2.ownBlock:=by
 cases e:v1.ownBlock with
 | none=>exact .inl rfl
 | some g=>
  refine .inr fun e2=>?_
  have a:=h g e2.symm
  have b:=(h1.own.lt g e).1
  omega

namespace Lm

theorem both_partsW (x y K:Nat)(hK:0<K)(hy:0<y) :
  x / y=((x / K) % y*K+x % K) / y+K*((x / K) / y)∧x % y=((x / K) % y*K+x % K) % y∧((x / K) % y*K+x % K) / y<K:=by
 have h1:=Nat.div_add_mod x K
 have h2:=Nat.div_add_mod (x / K) y
 have h3:=Nat.mod_lt (x / K) hy
 have h4:x % K<K:=Nat.mod_lt x hK
 generalize x / K=H at *
 generalize x % K=l at *
 generalize H / y=q at *
 generalize H % y=r at *
 have e:x=(r*K+l)+y*(K*q):=by
  rw [←h1,←h2];grind
 refine⟨?_,?_,?_⟩
 ·rw [e,Nat.add_mul_div_left _ _ hy]
 ·rw [e,Nat.add_mul_mod_self_left]
 ·rw [Nat.div_lt_iff_lt_mul hy]
  have h5:=Nat.mul_le_mul_right K (Nat.succ_le_of_lt h3)
  rw [Nat.succ_mul,Nat.mul_comm y] at h5
  omega

theorem blen_quoW {x y:Nat}(hy:0<y)(n:Nat)(h:blen x≤n+blen y):blen (x / y)≤n+1:=by
 rw [blen_le_iff,Nat.div_lt_iff_lt_mul hy]
 have h1:x<2 ^ (n+blen y):=Nat.lt_of_lt_of_le ((blen_le_iff x _).1 (Nat.le_refl _)) (Nat.pow_le_pow_right (by omega) h)
 have h2:2 ^ (blen y - 1)≤y:=by
  refine Nat.le_of_not_lt fun hlt=>?_
  have h3:=(blen_le_iff y _).2 hlt
  have h4:0<blen y:=by
   rcases Nat.eq_zero_or_pos (blen y) with h0|h0
   ·have:=(blen_le_iff y 0).1 (by omega)
    omega
   ·exact h0
  omega
 have h4:0<blen y:=by
  rcases Nat.eq_zero_or_pos (blen y) with h0|h0
  ·have:=(blen_le_iff y 0).1 (by omega)
   omega
  ·exact h0
 have h5:2 ^ (n+blen y)=2 ^ (n+1)*2 ^ (blen y - 1):=by rw [←Nat.pow_add];congr 1;omega
 rw [h5] at h1
 exact Nat.lt_of_lt_of_le h1 (Nat.mul_le_mul_left _ h2)

end Lm

theorem wboth_near (va vb:Value)(X Y:List Nat)(w:World)(hA0:Arg w va X)(hB:Arg w vb Y)(hT:Tab w)(hx0:X.length≤17592186044000)(hy:Y.length≤17592186044000)(hy0:0<val Y)(hn:blen (val X)<67108864+blen (val Y)) :
  Calls Tryz.prog 84 #[va,vb] w (WDone2 w (val X / val Y) (val X % val Y)):=by
 obtain⟨a1,c1,rfl,T1,hA⟩:=hA0.wtrim
 have HT1:=T1 w (Below.refl _ _)
 have g1:=tr_length_le X
 rw [←val_tr X] at hn ⊢
 clear T1 hA0
 generalize tr X=P at *
 have hx:P.length≤17592186044000:=by omega
 have hq:=blen_quoW (x:=val P) hy0 67108863 (by omega)
 have L1:=bB _ _ w hA
 have L2:=bB _ _ w hB
 have hbx:blen (val P)≤P.length*64:=(blen_le_iff _ _).2 (by have:=val_lt hA.limbs;rw [W_pow] at this;exact this)
 have hby:blen (val Y)≤Y.length*64:=(blen_le_iff _ _).2 (by have:=val_lt hB.limbs;rw [W_pow] at this;exact this)
 obtain⟨d,hd⟩:∃d:Int,((blen (val P):Nat):Int) - ((blen (val Y):Nat):Int)=d:=⟨_,rfl⟩
 have i1:¬(67108864:Int)≤d:=by omega
 have wd:IntKind.i64.wrap d=d:=by rw [IntKind.wrap_i64];omega
 have wd2:IntKind.i64.wrap (((blen (val P):Nat):Int) - ((blen (val Y):Nat):Int))=d:=by rw [IntKind.wrap_i64];omega
 by_cases hs:blen (val Y)≤67108864
 ·have i2:((blen (val Y):Nat):Int)≤67108864:=by omega
  have HB:=oR _ vb P Y w hA hB hT (by omega) (by omega) (by omega)
  have hm:blen (val P % val Y)≤67108864:=by
   exact Nat.le_trans (d9 (Nat.le_of_lt (Nat.mod_lt (val P) hy0))) hs
  have HQ:=ac (And.intro hq hm)
  clear hA hB hT hq hm
  generalize val P / val Y=qq at *
  generalize val P % val Y=mm at *
  generalize blen (val P)=lx at *
  generalize blen (val Y)=ly at *
  go_enter Tryz.func84,Tryz.ntmps84
  go_wp2_with fail
  refine HT1.mono ?_
  rintro e wn ⟨rfl,hw⟩;rw [hw];clear hw wn HT1
  go_wp2_with fail
  refine L1.mono ?_
  rintro e wn ⟨rfl,hw⟩;rw [hw];clear hw wn L1
  go_wp2_with fail
  refine L2.mono ?_
  rintro e wn ⟨rfl,hw⟩;rw [hw];clear hw wn
  go_wp2_with fail
  refine L2.mono ?_
  rintro e wn ⟨rfl,hw⟩;rw [hw];clear hw wn
  go_wp2_with fail
  refine HB.mono ?_
  rintro e w1 ⟨⟨v1,v2,c,r1,r2,mid,rfl,a1,⟨m1,m2⟩,hlo,a2,hres⟩,hb⟩
  have hd2:WDone2 w qq mm (.returned (.tuple #[v1,v2])) w1:=by
   rcases hres with ⟨_,q1,q2,q3,q4,_⟩|⟨_,_,_,q4⟩
   ·exact⟨⟨v1,v2,r1,r2,rfl,a1,a2.base m1,q1,q2,q3,q4,apart_of hlo a2⟩,hb⟩
   ·have:=HQ.out;omega
  have HD:=ac hd2
  clear hres hd2 a1 a2 hb
  go_wp2
  go_returns
  exact HD.out
 ·have i2:¬((blen (val Y):Nat):Int)≤67108864:=by omega
  have HQ:=qp _ vb P Y w hA hB hT (by omega) (by omega) (by omega)
  have HA:=ac hA
  have HB:=ac hB
  have HT:=ac hT
  have HL:=ac (And.intro hq hy0)
  clear hA hB hT hq
  generalize hlx:blen (val P)=lx at *
  generalize hly:blen (val Y)=ly at *
  clear hlx hly
  go_enter Tryz.func84,Tryz.ntmps84
  go_wp2_with fail
  refine HT1.mono ?_
  rintro e wn ⟨rfl,hw⟩;rw [hw];clear hw wn HT1
  go_wp2_with fail
  refine L1.mono ?_
  rintro e wn ⟨rfl,hw⟩;rw [hw];clear hw wn L1
  go_wp2_with fail
  refine L2.mono ?_
  rintro e wn ⟨rfl,hw⟩;rw [hw];clear hw wn
  go_wp2_with fail
  refine L2.mono ?_
  rintro e wn ⟨rfl,hw⟩;rw [hw];clear hw wn
  go_wp2_with fail
  refine HQ.mono ?_
  rintro e w1 ⟨hb,v,c,rs,rfl,ha,hres⟩
  obtain⟨rfl,q1,q2⟩:c=0∧val rs=val P / val Y∧tr rs=rs:=by
   rcases hres with ⟨h1,h2,h3,_⟩|⟨_,_,q4⟩
   ·exact⟨h1,h2,h3⟩
   ·have:=HL.out.1;omega
  have hrl:rs.length≤P.length:=by
   rw [←q2]
   refine aQ rs _ ?_
   rw [q1]
   exact Nat.lt_of_le_of_lt (Nat.div_le_self _ _) (val_lt HA.out.limbs)
  have HP:=gQ (rs.length+Y.length+1) rs Y v vb w1 (by omega) (by omega) (ha.arg (by omega)) (HB.out.below hb) (HT.out.below hb)
  clear hres
  go_wp2_with fail
  refine HP.mono ?_
  rintro e w2 ⟨⟨v2,r2,rfl,a2,p1,p2⟩,hb2⟩
  have hmod:=Nat.div_add_mod (val P) (val Y)
  have hr2:r2.length≤1125899906842624:=by
   rw [←p2]
   refine Nat.le_trans (aQ r2 P.length ?_) (by omega)
   rw [p1,q1,Nat.mul_comm]
   have:=val_lt HA.out.limbs
   omega
  have hbb:Below w.heap.size w w2:=hb.trans (hb2.mono hb.size)
  have HLS:=dq _ v2 P r2 w2 (HA.out.below hbb) (a2.arg hr2) (by omega) (by rw [p1,q1,Nat.mul_comm];omega)
  rw [p1,q1,Nat.mul_comm (val P / val Y),show val P - val Y*(val P / val Y)=val P % val Y by omega] at HLS
  have HV:=ac (And.intro (ha.below hb2) (And.intro q1 q2))
  have HBB:=ac hbb
  clear ha hb a2 p1 p2 hb2 hbb q1 q2 hmod hr2
  go_wp2_with fail
  refine HLS.mono ?_
  rintro e w3 ⟨⟨v3,r3,rfl,a3,p1,p2⟩,hb3⟩
  have HD:=ac (show WDone2 w (val P / val Y) (val P % val Y) (.returned (.tuple #[v,v3])) w3 from ⟨⟨v,v3,rs,r3,rfl,HV.out.1.below hb3,a3.base HBB.out.size,HV.out.2.1,HV.out.2.2,p1,p2,apart_of (fun g hg=>(HV.out.1.own.lt g hg).2) a3⟩,HBB.out.trans (hb3.mono HBB.out.size)⟩)
  clear a3 p1 p2 hb3 HV
  go_wp2
  go_returns
  exact HD.out

theorem wboth_any:∀(N:Nat) (X Y:List Nat) (va vb:Value) (w:World),blen (val X)≤N+blen (val Y)→Arg w va X→Arg w vb Y→Tab w→X.length≤17592186044000→Y.length≤17592186044000→0<val Y →
  Calls Tryz.prog 84 #[va,vb] w (WDone2 w (val X / val Y) (val X % val Y)):=by
 intro N
 induction N with
 | zero=>
  intro X Y va vb w hN hA hB hT hx hy hy0
  exact wboth_near va vb X Y w hA hB hT hx hy hy0 (by omega)
 | succ N ih=>
  intro X Y va vb w hN hA0 hB hT hx0 hy hy0
  by_cases hnear:blen (val X)<67108864+blen (val Y)
  ·exact wboth_near va vb X Y w hA0 hB hT hx0 hy hy0 hnear
  ·obtain⟨a1,c1,rfl,T1,hA⟩:=hA0.wtrim
   have HT1:=T1 w (Below.refl _ _)
   have g1:=tr_length_le X
   rw [←val_tr X] at hN hnear ⊢
   clear T1 hA0
   generalize tr X=P at *
   have hx:P.length≤17592186044000:=by omega
   have L1:=bB _ _ w hA
   have L2:=bB _ _ w hB
   have hbx:blen (val P)≤P.length*64:=(blen_le_iff _ _).2 (by have:=val_lt hA.limbs;rw [W_pow] at this;exact this)
   obtain⟨m,hm⟩:∃m,blen (val P) - blen (val Y)=m:=⟨_,rfl⟩
   obtain⟨k,hk⟩:∃k,m / 128=k:=⟨_,rfl⟩
   have em:((blen (val P):Nat):Int) - ((blen (val Y):Nat):Int)=(m:Int):=by omega
   have ek:(m:Int) / 128=(k:Int):=by omega
   have i1:(67108864:Int)≤(m:Int):=by omega
   have wm:IntKind.i64.wrap (m:Int)=(m:Int):=by rw [IntKind.wrap_i64];omega
   have hkP:k<P.length:=by omega
   have hk1:1≤k:=by omega
   obtain⟨b0,o0,rfl⟩:∃b off,a1=some ⟨b,off,none⟩:=by
    obtain⟨_,_,e,_,_,hl⟩:=hA.form
    cases e
    rcases hl with h0|⟨b,off,e,_⟩
    ·have hz:P.length=0:=by rw [h0];rfl
     omega
    ·exact⟨b,off,e⟩
   have hcap:P.length≤c1:=by obtain⟨_,_,e,h,_,_⟩:=hA.form;cases e;exact h
   have hcm:c1≤9223372036854775807:=by obtain⟨_,_,e,_,h,_⟩:=hA.form;cases e;exact h
   have vh:=ce P k (by omega)
   have lth:=val_lt (hA.front k (by omega)).limbs
   have lt1:(P.take k).length=k:=by simp;omega
   have ld1:(P.drop k).length=P.length - k:=by simp
   rw [lt1] at lth
   have edv:val P / 18446744073709551616 ^ k=val (P.drop k):=by
    rw [vh,Nat.add_mul_div_left _ _ (W_pos k),Nat.div_eq_of_lt lth,Nat.zero_add]
   have emd:val P % 18446744073709551616 ^ k=val (P.take k):=by
    rw [vh,Nat.add_mul_mod_self_left,Nat.mod_eq_of_lt lth]
   obtain⟨P1,P2,P3⟩:=both_partsW (val P) (val Y) (18446744073709551616 ^ k) (W_pos k) hy0
   rw [edv,emd] at P1 P2 P3
   have hbh:blen (val (P.drop k))≤N+blen (val Y):=by
    rw [←edv,blen_le_iff,Nat.div_lt_iff_lt_mul (W_pos k),W_pow,←Nat.pow_add]
    exact (blen_le_iff _ _).1 (by omega)
   have hbl:blen (val (P.take k)+18446744073709551616 ^ k*(val (P.drop k) % val Y))≤k*64+blen (val Y):=by
    rw [blen_le_iff,Nat.pow_add,←W_pow]
    have h1:=Nat.mod_lt (val (P.drop k)) hy0
    have h3:=(blen_le_iff (val Y) _).1 (Nat.le_refl _)
    generalize val (P.drop k) % val Y=R at *
    have h4:18446744073709551616 ^ k*(R+1)≤18446744073709551616 ^ k*2 ^ blen (val Y):=Nat.mul_le_mul_left _ (by omega)
    rw [Nat.mul_add,Nat.mul_one] at h4
    omega
   have HA:=ac hA
   have HB:=ac hB
   have HT:=ac hT
   have HP:=ac (And.intro P1 (And.intro P2 P3))
   have HBL:=ac (And.intro hbh hbl)
   have HIH:=ac ih
   have hlen2:k*64+blen (val Y)≤P.length*64:=by omega
   have hN2:k*64+blen (val Y)≤N+blen (val Y):=by omega
   have HI1:=ih (P.drop k) Y _ vb w hbh (hA.drop k (by omega)) hB hT (by omega) hy hy0
   have hne:¬c1=k:=by omega
   have hkc:k≤c1:=by omega
   clear P1 P2 P3 hbh hbl hA hB hT hm hk ih vh edv emd lth
   generalize hlx:blen (val P)=lx at *
   generalize hly:blen (val Y)=ly at *
   have HX:=ac (And.intro hlx hly)
   clear hlx hly
   go_enter Tryz.func84,Tryz.ntmps84
   go_wp2_with fail
   refine HT1.mono ?_
   rintro e wn ⟨rfl,hw⟩;rw [hw];clear hw wn HT1
   go_wp2_with fail
   refine L1.mono ?_
   rintro e wn ⟨rfl,hw⟩;rw [hw];clear hw wn L1
   go_wp2_with fail
   refine L2.mono ?_
   rintro e wn ⟨rfl,hw⟩;rw [hw];clear hw wn L2
   go_wp2_with fail
   refine HI1.mono ?_
   rintro e w2 ⟨⟨vh,vr,rh,rr,rfl,ah,ar,ph,th,pr,tr',_⟩,hb2⟩
   have HB2:=ac hb2
   have lrr:rr.length≤Y.length:=by
    rw [←tr']
    refine aQ rr _ ?_
    rw [pr]
    exact Nat.lt_trans (Nat.mod_lt _ hy0) (val_lt HB.out.limbs)
   have HJ:=jX vr _ rr (P.take k) k w2 (ar.arg (by omega)) ((HA.out.front k (by omega)).below hb2) (by omega) (by omega) (by omega)
   rw [pr] at HJ
   have HAH:=ac (And.intro ah (And.intro ph th))
   clear ah ar ph th pr tr' hb2 HI1
   go_wp2_with fail
   refine HJ.mono ?_
   rintro e w4 ⟨⟨vj,rj,rfl,aj,pj,tj⟩,hb4⟩
   have HB4:=ac (HB2.out.trans (hb4.mono HB2.out.size))
   have hbj:blen (val rj)≤k*64+ly:=by rw [pj];exact HBL.out.2
   have lj:rj.length≤P.length:=dL tj rfl (by omega)
   have HI2:=HIH.out rj Y vj vb w4 (by rw [HX.out.2];omega) (aj.arg (by omega)) (HB.out.below HB4.out) (HT.out.below HB4.out) (by omega) hy hy0
   have pj2:val rj=val (P.drop k) % val Y*18446744073709551616 ^ k+val (P.take k):=by rw [pj,Nat.add_comm,Nat.mul_comm]
   rw [pj2,←HP.out.2.1] at HI2
   have HAH2:=ac (And.intro (HAH.out.1.below hb4) HAH.out.2)
   clear aj pj tj hb4 HJ hbj pj2
   go_wp2_with fail
   refine HI2.mono ?_
   rintro e w5 ⟨⟨vl,vr2,rl,rr2,rfl,al,ar2,pl,tl,pr2,tr2,_⟩,hb5⟩
   have HB5:=ac (HB4.out.trans (hb5.mono HB4.out.size))
   have lrh:rh.length≤P.length:=by
    rw [←HAH2.out.2.2]
    refine aQ rh _ ?_
    rw [HAH2.out.2.1]
    refine Nat.lt_of_le_of_lt (Nat.div_le_self _ _) ?_
    have h:=val_lt (HA.out.drop k (by omega)).limbs
    rw [ld1] at h
    exact Nat.lt_of_lt_of_le h (Nat.pow_le_pow_right (by omega) (by omega))
   have lrl:rl.length≤k:=by
    rw [←tl]
    refine aQ rl _ ?_
    rw [pl]
    exact HP.out.2.2
   have HJ2:=jX vh vl rh rl k w5 ((HAH2.out.1.below hb5).arg (by omega)) (al.arg (by omega)) (by omega) (by omega) lrl
   rw [pl,HAH2.out.2.1,←HP.out.1] at HJ2
   have HR2:=ac (And.intro ar2 (And.intro pr2 tr2))
   clear al ar2 pl tl pr2 tr2 hb5 HI2
   go_wp2_with fail
   refine HJ2.mono ?_
   rintro e w6 ⟨⟨vq,rq,rfl,aq,pq,tq⟩,hb6⟩
   have HD:=ac (show WDone2 w (val P / val Y) (val P % val Y) (.returned (.tuple #[vq,vr2])) w6 from ⟨⟨vq,vr2,rq,rr2,rfl,aq.base HB5.out.size,(HR2.out.1.base HB4.out.size).below hb6,pq,tq,HR2.out.2.1,HR2.out.2.2,apart_of2 (fun g hg=>(HR2.out.1.own.lt g hg).2) aq⟩,HB5.out.trans (hb6.mono HB5.out.size)⟩)
   clear aq pq tq hb6
   go_wp2
   go_returns
   exact HD.out

theorem cF {w:World}{h:Nat}{a b c:Value}{t:TypeId}(e:w.heap[h]?=some (.cells #[a,b,c] t)):w.cell? ⟨h,0,none⟩=some a∧w.cell? ⟨h,1,none⟩=some b∧w.cell? ⟨h,2,none⟩=some c:=
 ⟨by simp [World.cell?,e],by simp [World.cell?,e],by simp [World.cell?,e]⟩

theorem fj {w:World}{h:Nat}{a b c:Value}{t:TypeId}(e:w.heap[h]?=some (.cells #[a,b,c] t)):∀k,w.frozen? ⟨h,k,none⟩=false:=fun k=>by simp [World.frozen?,e]

theorem bC {W0 W t:World}(h:Below W0.heap.size W0 W)(h2:Below W.heap.size W t):Below W0.heap.size W0 t:=h.trans (h2.mono h.size)

theorem qK {Q Y R:List Nat}(h:Limbs Q∧Limbs Y∧Q.length+Y.length≤17592186044000)(hv:val R=val Q*val Y)(ht:tr R=R):R.length≤17592186044416:=by
 obtain⟨h1,h2,h3⟩:=h
 have e1:=val_lt h1
 have e2:=val_lt h2
 have e3:val R<2 ^ ((Q.length+Y.length)*64):=by
  rw [hv]
  have e4:val Q*val Y<18446744073709551616 ^ Q.length*18446744073709551616 ^ Y.length:=Nat.mul_lt_mul'' e1 e2
  rw [←Nat.pow_add] at e4
  rw [←W_pow]
  exact e4
 have e5:=few_limbs R (Q.length+Y.length) ((blen_le_iff _ _).2 e3)
 rw [ht] at e5
 omega

theorem jq {X R S:List Nat}(m:Nat)(h1:Limbs X)(h2:X.length≤m)(hR:Limbs R)(lR:R.length≤m)(hv:val S=val X+val R)(ht:tr S=S):S.length≤m+1:=by
 have e1:=val_lt h1
 have e2:=val_lt hR
 have e3:18446744073709551616 ^ X.length≤18446744073709551616 ^ m:=Nat.pow_le_pow_right (by omega) h2
 have e4:18446744073709551616 ^ R.length≤18446744073709551616 ^ m:=Nat.pow_le_pow_right (by omega) lR
 have e5:(18446744073709551616:Nat) ^ (m+1)=18446744073709551616 ^ m*18446744073709551616:=Nat.pow_succ ..
 have e6:val S<18446744073709551616 ^ (m+1):=by
  rw [hv,e5]
  generalize (18446744073709551616:Nat) ^ m=P at *
  omega
 have e7:=few_limbs S (m+1) ((blen_le_iff _ _).2 (by rw [←W_pow];exact e6))
 rw [ht] at e7
 exact e7

def iu (g:Nat)(vy:Value)(x:Nat)(o:Bool)(w wx:World):Prop:=
 ∃v rs,wx.heap[g]?=some (.cells #[vy,v,.bool o] 107)∧Ans wx w.heap.size v rs∧val rs=x∧tr rs=rs∧Fr g w wx

theorem oQ {g x base:Nat}{vx vy v:Value}{o:Bool}{w t:World}{rs:List Nat}(hF:t.heap[g]?=some (.cells #[vx,vy,.bool o] 107))(hA:Ans t base v rs)(hb:w.heap.size≤base)(hg:g<w.heap.size)(hv:val rs=x)(ht:tr rs=rs)(g2:Below w.heap.size w t) :
  iu g vy x o w ((t.setCell ⟨g,0,none⟩ vy).setCell ⟨g,1,none⟩ v)∧iu g vy x o w ((t.setCell ⟨g,1,none⟩ v).setCell ⟨g,0,none⟩ vy):=by
 have hne:v.ownBlock≠some g:=fun e=>by have:=(hA.own.lt g e).1;omega
 exact⟨⟨v,rs,aY (aY hF vy) v,((hA.apart g 0 vy hne).apart g 1 v hne).base hb,hv,ht,((Fr.of_below g2).setCell 0 vy).setCell 1 v⟩,
  ⟨v,rs,aY (aY hF v) vy,((hA.apart g 1 v hne).apart g 0 vy hne).base hb,hv,ht,((Fr.of_below g2).setCell 1 v).setCell 0 vy⟩⟩

def rQ (g:Nat)(vy:Value)(x:Nat)(o:Bool)(w:World)(e:Ending)(w':World):Prop:=
 e=.returned (.tuple #[])∧∃v rs,w'.heap[g]?=some (.cells #[vy,v,.bool (!o)] 107)∧Ans w' w.heap.size v rs∧val rs=x∧tr rs=rs∧Fr g w w'

theorem lf (g:Nat)(vx vy vq:Value)(X Y Q:List Nat)(o:Bool)(w:World)(hF:w.heap[g]?=some (.cells #[vx,vy,.bool o] 107))(hX:Arg w vx X)(hY:Arg w vy Y)(hQ:Arg w vq Q)(hT:Tab w)(lX:X.length≤17592186044416)(lQ:Q.length+Y.length≤17592186044000) :
  Calls Tryz.prog 246 #[.pointer (some ⟨g,0,none⟩),vq] w (rQ g vy (val X+val Q*val Y) o w):=by
 obtain⟨a1,c1,rfl,_,_,_⟩:=hX.form
 obtain⟨a2,c2,rfl,_,_,_⟩:=hY.form
 obtain⟨a3,c3,rfl,_,_,_⟩:=hQ.form
 have HF:=ac hF
 have HX:=ac hX
 have g0:Below w.heap.size w w.drew:=(Below.refl _ _).drew
 have P1:=gQ (Q.length+Y.length+1) Q Y _ _ w.drew (by omega) (by omega) (hQ.below g0) (hY.below g0) (hT.below g0)
 have SM:=ac (fun (W:World) (v:Value) (rs:List Nat) (hg:Below w.heap.size w W) (hv:Arg W v rs) (hl:rs.length≤17592186044416)=>gC _ v X rs W (hX.below hg) hv lX hl)
 obtain⟨k0,k1,k2⟩:=cF (ae g0 hF)
 have HL3:=ac (And.intro hX.limbs lX)
 have HL:=ac (And.intro hQ.limbs (And.intro hY.limbs lQ))
 clear hX hY hQ hT hF lX lQ
 go_enter Tryz.func246,Tryz.ntmps246
 go_upto_region 0 with fail
 go_cut [0] from 4 to 25 (fun s wx=>s=.pointer (some ⟨g,0,none⟩)∧iu g (.slice a2 Y.length c2) (val X+val Q*val Y) o w wx)
 case first=>
  go_region_with (first
  | (go_at_call 87;refine (SM.out t1 _ _ g1 N1 L1).mono ?_;rintro e' t2 ⟨⟨v9,r9,rfl,hA9,hv9,ht9⟩,hb2⟩;have g2:=bC g1 hb2;clear k0 k1 k2;obtain⟨k0,k1,k2⟩:=cF (ae g2 HF.out);have kf:=fj (ae g2 HF.out);have N9:=hA9.arg (by have h9:=jq 17592186044416 HL3.out.1 HL3.out.2 N1.limbs L1 hv9 ht9;omega);obtain⟨a9,c9,rfl,_,_,_⟩:=N9.form)
  | (go_at_call 86;refine P1.mono ?_;rintro e' t1 ⟨⟨v8,r8,rfl,hA8,hv8,ht8⟩,hb1⟩;have g1:=bC g0 hb1;have L1:r8.length≤17592186044416:=qK HL.out hv8 ht8;have N1:=hA8.arg (by omega);clear k0 k1 k2;obtain⟨k0,k1,k2⟩:=cF (ae g1 HF.out);obtain⟨a8,c8,rfl,_,_,_⟩:=N1.form))
  all_goals
   have HC:=ac (oQ (ae g2 HF.out) hA9 (Nat.le_trans g1.size (Nat.le_refl _)) (bh HF.out) (by rw [hv9,hv8]) ht9 g2)
   clear P1 SM g0 g1 g2 hb1 hb2 hA8 hv8 ht8 N1 L1 N9 hA9 hv9 ht9 k0 k1 k2 kf
   go_wp2_with fail
   go_meet
   first
    | exact⟨rfl,HC.out.1⟩
    | exact⟨rfl,HC.out.2⟩
 case rest=>
  obtain⟨rfl,v,rs,h1,h2,h3,h4,h5⟩:=hcut
  obtain⟨m0,m1,m2⟩:=cF h1
  have mf:=fj h1
  have HE:=ac (And.intro (aY h1 (Value.bool !o):(wc.setCell ⟨g,2,none⟩ (.bool (!o))).heap[g]?=_) (And.intro h2 (And.intro h3 (And.intro h4 h5))))
  have hne:v.ownBlock≠some g:=fun e=>by have:=(h2.own.lt g e).1;have:=bh HF.out;omega
  have HH:=ac (show Ans (wc.setCell ⟨g,2,none⟩ (.bool (!o))) w.heap.size v rs∧Fr g w (wc.setCell ⟨g,2,none⟩ (.bool (!o))) from ⟨h2.apart g 2 _ hne,h5.setCell 2 _⟩)
  clear h1 h2 h3 h4 h5 P1 SM g0 k0 k1 k2
  go_wp2
  go_end0
  exact⟨rfl,v,rs,HE.out.1,HH.out.1,HE.out.2.2.1,HE.out.2.2.2.1,HH.out.2⟩
end Go.Proofs.YtdbjbbdhlpfhjaaGreatDoor
namespace Go.Proofs.YtdbjbbdhlpfhjaaGreatDoor
open Go.RowKit
open Lm

def aZ (n:Nat):Bool:=decide (0<n % 2)

theorem ja (n:Nat):aZ (n+1)=!aZ n:=by
 unfold aZ
 rcases Nat.mod_two_eq_zero_or_one n with h|h
 ·rw [decide_eq_true (by omega),decide_eq_false (by omega)];rfl
 ·rw [decide_eq_false (by omega),decide_eq_true (by omega)];rfl

structure bT (n xh yh x y a b c d:Nat):Prop where
 top:dZ xh yh x y a b c d (aZ n)
 zero:n=0→a=1∧b=0∧c=0∧d=1
 acc:1≤n→il x y a b c d∧a≤c
 grow:2 ^ (n / 2)≤d
 grow1:1≤n→2 ^ ((n - 1) / 2)≤b

theorem bT.start {x y:Nat}(h:y≤x):bT 0 x y x y 1 0 0 1:=
 ⟨⟨LSteps.start _ _,.inl ⟨rfl,rfl,rfl,rfl,h⟩⟩,fun _=>⟨rfl,rfl,rfl,rfl⟩,fun h=>by omega,by simp,fun h=>by omega⟩

theorem bT.next {n xh yh x y a b c d:Nat}(h:bT n xh yh x y a b c d)(hy:0<y)(h1:b+x / y*d≤x % y)(h2:x % y+(d+(b+x / y*d))≤y) :
  bT (n+1) xh yh y (x % y) c d (a+x / y*c) (b+x / y*d):=by
 obtain⟨n1,n2,n3,n4,n5,n6,n7⟩:=h.top.next hy
 have hq:1≤x / y:=(Nat.le_div_iff_mul_le hy).2 (by omega)
 have p2:c≤x / y*c:=Nat.le_mul_of_pos_left _ hq
 have p3:d≤x / y*d:=Nat.le_mul_of_pos_left _ hq
 have hl:il y (x % y) c d (a+x / y*c) (b+x / y*d):=⟨n2,n3,n4,n5,n6,h1,h2⟩
 refine⟨?_,fun h=>by omega,fun _=>⟨hl,by omega⟩,?_,fun _=>?_⟩
 ·rw [ja];exact⟨n1,.inr hl⟩
 ·rcases Nat.eq_zero_or_pos n with h0|h0
  ·subst h0
   simp
   omega
  ·have g:=h.grow
   have g1:=h.grow1 h0
   rcases Nat.mod_two_eq_zero_or_one n with hm|hm
   ·have e:(n+1) / 2=n / 2:=by omega
    rw [e];omega
   ·have e:(n+1) / 2=n / 2+1:=by omega
    have e1:(n - 1) / 2=n / 2:=by omega
    rw [e1] at g1
    rw [e,Nat.pow_succ];omega
 ·rw [show n+1 - 1=n by omega];exact h.grow

theorem bT.few {n xh yh x y a b c d:Nat}(h:bT n xh yh x y a b c d)(hx:0<x)(hl:xh<18446744073709551616):n<128:=by
 have h1:=h.top.1.d_le hx
 have h2:=h.grow
 rcases Nat.lt_or_ge n 128 with h3|h3
 ·exact h3
 ·exfalso
  have h4:2 ^ 64≤2 ^ (n / 2):=Nat.pow_le_pow_right (by omega) (by omega)
  have h5:(2:Nat) ^ 64=18446744073709551616:=rfl
  omega

theorem oS {X Y X' Y' a b c d:Nat}(det:a*d=b*c+1)(f1:X'+b*Y=a*X)(f2:Y'+c*X=d*Y)(hg:Nat.gcd X' Y'=Nat.gcd X Y)(hac:a≤c)(hbd:b≤d)(hy:Y'≤Y):Many a b c d false X Y X' Y':=by
 have e1:(X':Int)=(a:Int)*X - (b:Int)*Y:=by
  have:=congrArg (fun n:Nat=>(n:Int)) f1
  simp only [Int.natCast_add,Int.natCast_mul] at this
  omega
 have e2:(Y':Int)=(d:Int)*Y - (c:Int)*X:=by
  have:=congrArg (fun n:Nat=>(n:Int)) f2
  simp only [Int.natCast_add,Int.natCast_mul] at this
  omega
 have g1:X=d*X'+b*Y':=by
  have k1:d*(X'+b*Y)=d*(a*X):=by rw [f1]
  have k2:b*(Y'+c*X)=b*(d*Y):=by rw [f2]
  have k3:a*d*X=(b*c+1)*X:=by rw [det]
  grind
 have g2:Y=c*X'+a*Y':=by
  have k1:c*(X'+b*Y)=c*(a*X):=by rw [f1]
  have k2:a*(Y'+c*X)=a*(d*Y):=by rw [f2]
  have k3:a*d*Y=(b*c+1)*Y:=by rw [det]
  grind
 exact⟨g1,g2,by rw [e1];simp [fsg],by rw [e2];simp [fsg],hg,⟨hac,hbd⟩,hy⟩

theorem oU {X Y X' Y' a b c d:Nat}(det:b*c=a*d+1)(f1:X'+a*X=b*Y)(f2:Y'+d*Y=c*X)(hg:Nat.gcd X' Y'=Nat.gcd X Y)(hac:a≤c)(hbd:b≤d)(hy:Y'≤Y):Many a b c d true X Y X' Y':=by
 have e1:(X':Int)=(b:Int)*Y - (a:Int)*X:=by
  have:=congrArg (fun n:Nat=>(n:Int)) f1
  simp only [Int.natCast_add,Int.natCast_mul] at this
  omega
 have e2:(Y':Int)=(c:Int)*X - (d:Int)*Y:=by
  have:=congrArg (fun n:Nat=>(n:Int)) f2
  simp only [Int.natCast_add,Int.natCast_mul] at this
  omega
 have g1:X=d*X'+b*Y':=by
  have k1:d*(X'+a*X)=d*(b*Y):=by rw [f1]
  have k2:b*(Y'+d*Y)=b*(c*X):=by rw [f2]
  have k3:b*c*X=(a*d+1)*X:=by rw [det]
  grind
 have g2:Y=c*X'+a*Y':=by
  have k1:c*(X'+a*X)=c*(b*Y):=by rw [f1]
  have k2:a*(Y'+d*Y)=a*(c*X):=by rw [f2]
  have k3:b*c*Y=(a*d+1)*Y:=by rw [det]
  grind
 exact⟨g1,g2,by rw [e1];simp [fsg];omega,by rw [e2];simp [fsg];omega,hg,⟨hac,hbd⟩,hy⟩

theorem bT.many {n xh yh x y a b c d X Y P xl yl:Nat}(h:bT n xh yh x y a b c d)(hn:1≤n)(eX:X=xh*P+xl)(eY:Y=yh*P+yl)(lx:xl<P)(ly:yl<P) :
  ∃X' Y',LTake X Y X' Y'∧Many a b c d (aZ n) X Y X' Y'∧(aZ n=false→X'+b*Y=a*X∧Y'+c*X=d*Y)∧(aZ n=true→X'+a*X=b*Y∧Y'+d*Y=c*X):=by
 obtain⟨hl,hac⟩:=h.acc hn
 have hs:=h.top.1
 cases ho:aZ n
 ·obtain⟨X',Y',f1,f2,t⟩:=lehmer_even (hs.even ho) hs.hx hs.hy eX eY lx ly hl.dy hl.xy hl.cd hl.c1
  exact⟨X',Y',t,oS (hs.even ho) f1 f2 t.gcd hac hl.bd (by have:=t.lt;have:=t.le;omega),fun _=>⟨f1,f2⟩,(fun h=>(by cases h))⟩
 ·obtain⟨X',Y',f1,f2,t⟩:=lehmer_odd (hs.odd ho) hs.hx hs.hy eX eY lx ly hl.dy hl.xy hl.ab hl.cd hl.c1
  exact⟨X',Y',t,oU (hs.odd ho) f1 f2 t.gcd hac hl.bd (by have:=t.lt;have:=t.le;omega),(fun h=>(by cases h)),fun _=>⟨f1,f2⟩⟩

theorem jH {vo va vb l o o2 A B x y P:Nat}(h:vo+P*o=A*va+B*vb)(hl:l+18446744073709551616*o2=A*x+B*y+o) :
  vo+P*l+P*18446744073709551616*o2=A*(va+P*x)+B*(vb+P*y):=by
 have e1:P*(l+18446744073709551616*o2)=P*(A*x+B*y+o):=by rw [hl]
 grind

theorem jV {X':List Nat}{A B x y o:Nat}(h:val X'+18446744073709551616 ^ X'.length*o=A*x+B*y):val (X' ++ [o])=A*x+B*y:=by
 rw [val_append,←h]
 simp [val]

theorem my (X:List Nat)(k:Nat):val (X ++ List.replicate k 0)=val X:=by
 rw [val_append,val_replicate]
 simp

structure FrP (P:Nat→Prop)(w w':World):Prop where
 os:w'.os=w.os
 tape:w'.tape=w.tape
 output:w'.output=w.output
 size:w.heap.size≤w'.heap.size
 block:∀k,k<w.heap.size→P k→w'.heap[k]?=w.heap[k]?

theorem FrP.refl (P:Nat→Prop)(w:World):FrP P w w:=⟨rfl,rfl,rfl,Nat.le_refl _,fun _ _ _=>rfl⟩

theorem FrP.setCell {P:Nat→Prop}{a w:World}(h:FrP P a w)(g off:Nat)(u:Value)(hg:g<a.heap.size→¬P g):FrP P a (w.setCell ⟨g,off,none⟩ u):=
 ⟨h.os,h.tape,h.output,by simpa using h.size,fun k h1 h2=>(Below.heap_setCell w _ u k (fun e=>by subst e;exact hg h1 h2)).trans (h.block k h1 h2)⟩

theorem FrP.below {P:Nat→Prop}{a w w':World}(h:FrP P a w)(hb:Below w.heap.size w w'):FrP P a w':=
 ⟨hb.os.trans h.os,hb.tape.trans h.tape,hb.output.trans h.output,Nat.le_trans h.size hb.size,fun k h1 h2=>(hb.block k (Nat.lt_of_lt_of_le h1 h.size)).trans (h.block k h1 h2)⟩

theorem FrP.of_below {P:Nat→Prop}{w w':World}(hb:Below w.heap.size w w'):FrP P w w':=(FrP.refl P w).below hb

theorem FrP.grown {P:Nat→Prop}{a w w':World}{row:Option Nat}(h:FrP P a w)(hg:w.grownBy w' row)(hr:∀k,row=some k→k<a.heap.size→¬P k):FrP P a w':=
 ⟨hg.os.trans h.os,hg.tape.trans h.tape,hg.output.trans h.output,Nat.le_trans h.size hg.size,fun k h1 h2=>(hg.block k (Nat.lt_of_lt_of_le h1 h.size) (fun e=>hr k e.symm h1 h2)).trans (h.block k h1 h2)⟩

def Pk (g:Nat)(vx vy:Value)(k:Nat):Prop:=k≠g∧vx.ownBlock≠some k∧vy.ownBlock≠some k

def Nx (n:Nat)(vx vy v:Value):Prop:=∀k,v.ownBlock=some k→vx.ownBlock=some k∨vy.ownBlock=some k∨n≤k

structure MSt (w:World)(g base:Nat)(vx vy:Value)(o:Bool)(S5:Array Value)(wr:World)(vx' vy':Value)(X' Y':List Nat):Prop where
 x:Ans wr base vx' X'
 y:Ans wr base vy' Y'
 apart:∀k,vx'.ownBlock=some k→vy'.ownBlock≠some k
 nx:Nx (w.heap.size+1) vx vy vx'
 ny:Nx (w.heap.size+1) vx vy vy'
 fr:FrP (Pk g vx vy) w wr
 box:wr.heap[g]?=some (.cells #[vx,vy,.bool o] 107)
 sb:wr.heap[w.heap.size]?=some (.cells S5 139)
 hbase:base≤w.heap.size
 gb:g<w.heap.size∧vx.ownBlock≠some g∧vy.ownBlock≠some g
 ltx:∀k,vx.ownBlock=some k→k<w.heap.size
 lty:∀k,vy.ownBlock=some k→k<w.heap.size

theorem Nx.not {n g:Nat}{vx vy v:Value}(h:Nx n vx vy v){k:Nat}(e:v.ownBlock=some k)(hk:k<n):¬Pk g vx vy k:=by
 intro ⟨_,h2,h3⟩
 rcases h k e with h4|h4|h4
 ·exact h2 h4
 ·exact h3 h4
 ·omega

section
variable {w:World} {g base:Nat} {vx vy:Value} {o:Bool} {S5:Array Value} {wr:World} {vx' vy':Value} {X' Y':List Nat}

theorem MSt.xne (h:MSt w g base vx vy o S5 wr vx' vy' X' Y'):vx'.ownBlock≠some g∧vx'.ownBlock≠some w.heap.size:=by
 refine⟨fun e=>?_,fun e=>?_⟩
 ·rcases h.nx _ e with h1|h1|h1
  ·exact h.gb.2.1 h1
  ·exact h.gb.2.2 h1
  ·have:=h.gb.1;omega
 ·rcases h.nx _ e with h1|h1|h1
  ·have:=h.ltx _ h1;omega
  ·have:=h.lty _ h1;omega
  ·omega

theorem MSt.yne (h:MSt w g base vx vy o S5 wr vx' vy' X' Y'):vy'.ownBlock≠some g∧vy'.ownBlock≠some w.heap.size:=by
 refine⟨fun e=>?_,fun e=>?_⟩
 ·rcases h.ny _ e with h1|h1|h1
  ·exact h.gb.2.1 h1
  ·exact h.gb.2.2 h1
  ·have:=h.gb.1;omega
 ·rcases h.ny _ e with h1|h1|h1
  ·have:=h.ltx _ h1;omega
  ·have:=h.lty _ h1;omega
  ·omega

theorem MSt.wsz (h:MSt w g base vx vy o S5 wr vx' vy' X' Y'):w.heap.size<wr.heap.size:=bh h.sb

theorem MSt.below (h:MSt w g base vx vy o S5 wr vx' vy' X' Y'){w2:World}(hb:Below wr.heap.size wr w2):MSt w g base vx vy o S5 w2 vx' vy' X' Y':=
 ⟨h.x.below hb,h.y.below hb,h.apart,h.nx,h.ny,h.fr.below hb,ae hb h.box,ae hb h.sb,h.hbase,h.gb,h.ltx,h.lty⟩

theorem iN {X:List Nat}{z:Nat}(h:Limbs X)(hz:z<18446744073709551616):Limbs (X ++ [z]):=by
 intro u hu
 rcases List.mem_append.1 hu with h1|h1
 ·exact h u h1
 ·simp at h1;subst h1;exact hz

theorem Ans.grownW {w w':World}{base:Nat}{v:Value}{zs:List Nat}{row:Option Nat}(h:Ans w base v zs)(hg:w.grownBy w' row)(hne:∀k,v.ownBlock=some k→row≠some k):Ans w' base v zs:=by
 refine⟨h.own.kept hg ?_,h.limbs⟩
 cases hv:v.ownBlock with
 | none=>exact .inl rfl
 | some k=>exact .inr (fun e=>hne k hv e.symm)

theorem fE {w w':World}{g:Nat}{x:Obj}{row:Option Nat}(h:w.heap[g]?=some x)(hg:w.grownBy w' row)(hne:row≠some g):w'.heap[g]?=some x:=by
 rw [hg.block g (bh h) (fun e=>hne e.symm)];exact h

theorem MSt.growx (h:MSt w g base vx vy o S5 wr vx' vy' X' Y')(z:Nat)(hz:z<18446744073709551616){v':Value}{w1:World}{c:Obj}(ho:w1.ownsRow base 61 1 v' (X'.length+1) (X'.map lv ++ [.int .u64 (z:Int)]))(hg:(wr.alloc c).grownBy w1 vx'.ownBlock)(hat:v'.ownBlock=vx'.ownBlock∨v'.ownBlock=some (wr.alloc c).heap.size):MSt w g base vx vy o S5 w1 v' vy' (X' ++ [z]) Y':=by
 have hb:Below wr.heap.size wr (wr.alloc c):=(Below.refl _ _).alloc (Nat.le_refl _) _
 have h2:=h.below hb
 have hs:=h.wsz
 refine⟨⟨by rw [List.length_append,List.map_append];exact ho,iN h.x.limbs hz⟩,h2.y.grownW hg (fun k e=>fun e2=>h.apart k e2 e),fun k e e2=>?_,fun k e=>?_,h.ny,h2.fr.grown hg (fun k e hk=>h.nx.not e (by omega)),fE h2.box hg h.xne.1,fE h2.sb hg h.xne.2,h.hbase,h.gb,h.ltx,h.lty⟩
 ·rcases hat with h3|h3
  ·exact h.apart k (by rw [←h3];exact e) e2
  ·have h4:=(h.y.own.lt k e2).2
   rw [e] at h3
   have:=Option.some.inj h3
   have:=hb.size
   omega
 ·rcases hat with h3|h3
  ·exact h.nx k (by rw [←h3];exact e)
  ·rw [e] at h3
   have:=Option.some.inj h3
   have:=hb.size
   exact .inr (.inr (by omega))

theorem MSt.growy (h:MSt w g base vx vy o S5 wr vx' vy' X' Y')(z:Nat)(hz:z<18446744073709551616){v':Value}{w1:World}{c:Obj}(ho:w1.ownsRow base 61 1 v' (Y'.length+1) (Y'.map lv ++ [.int .u64 (z:Int)]))(hg:(wr.alloc c).grownBy w1 vy'.ownBlock)(hat:v'.ownBlock=vy'.ownBlock∨v'.ownBlock=some (wr.alloc c).heap.size):MSt w g base vx vy o S5 w1 vx' v' X' (Y' ++ [z]):=by
 have hb:Below wr.heap.size wr (wr.alloc c):=(Below.refl _ _).alloc (Nat.le_refl _) _
 have h2:=h.below hb
 have hs:=h.wsz
 refine⟨h2.x.grownW hg (fun k e=>h.apart k e),⟨by rw [List.length_append,List.map_append];exact ho,iN h.y.limbs hz⟩,fun k e e2=>?_,h.nx,fun k e=>?_,h2.fr.grown hg (fun k e hk=>h.ny.not e (by omega)),fE h2.box hg h.yne.1,fE h2.sb hg h.yne.2,h.hbase,h.gb,h.ltx,h.lty⟩
 ·rcases hat with h3|h3
  ·exact h.apart k e (by rw [←h3];exact e2)
  ·have h4:=(h.x.own.lt k e).2
   rw [e2] at h3
   have:=Option.some.inj h3
   have:=hb.size
   omega
 ·rcases hat with h3|h3
  ·exact h.ny k (by rw [←h3];exact e)
  ·rw [e] at h3
   have:=Option.some.inj h3
   have:=hb.size
   exact .inr (.inr (by omega))

theorem MSt.set2 {gx cx gy cy:Nat}(h:MSt w g base vx vy o S5 wr (.slice (some ⟨gx,0,none⟩) X'.length cx) (.slice (some ⟨gy,0,none⟩) Y'.length cy) X' Y')(k l m:Nat)(hl:l<18446744073709551616)(hm:m<18446744073709551616) :
  MSt w g base vx vy o S5 ((wr.setCell ⟨gx,k,none⟩ (.int .u64 (l:Int))).setCell ⟨gy,k,none⟩ (.int .u64 (m:Int))) (.slice (some ⟨gx,0,none⟩) (X'.set k l).length cx) (.slice (some ⟨gy,0,none⟩) (Y'.set k m).length cy) (X'.set k l) (Y'.set k m):=by
 have hne:gx≠gy:=fun e=>h.apart gx rfl (by rw [e];rfl)
 have hxg:gx≠g:=fun e=>h.xne.1 (by rw [←e];rfl)
 have hxw:gx≠w.heap.size:=fun e=>h.xne.2 (by rw [←e];rfl)
 have hyg:gy≠g:=fun e=>h.yne.1 (by rw [←e];rfl)
 have hyw:gy≠w.heap.size:=fun e=>h.yne.2 (by rw [←e];rfl)
 have h1:=h.x.stored' k l hl
 have h2:Ans (wr.setCell ⟨gx,k,none⟩ (.int .u64 (l:Int))) base (.slice (some ⟨gy,0,none⟩) Y'.length cy) Y':=h.y.apart gx k _ (fun e=>hne (Option.some.inj e).symm)
 have f1:=h.fr.setCell gx k (.int .u64 (l:Int)) (fun hk=>h.nx.not rfl (by omega))
 refine⟨h1.apart gy k _ (fun e=>hne (Option.some.inj e)),h2.stored' k m hm,fun i e e2=>h.apart i e e2,fun i e=>h.nx i e,fun i e=>h.ny i e,f1.setCell gy k _ (fun hk=>h.ny.not rfl (by omega)),aR (aR h.box (Ne.symm hxg)) (Ne.symm hyg),aR (aR h.sb (Ne.symm hxw)) (Ne.symm hyw),h.hbase,h.gb,h.ltx,h.lty⟩

theorem MSt.trimx {ax:Option Addr}{cx:Nat}(h:MSt w g base vx vy o S5 wr (.slice ax X'.length cx) vy' X' Y'):MSt w g base vx vy o S5 wr (.slice ax (tr X').length cx) vy' (tr X') Y':=by
 refine⟨h.x.trim,h.y,fun k e=>h.apart k ?_,fun k e=>h.nx k ?_,h.ny,h.fr,h.box,h.sb,h.hbase,h.gb,h.ltx,h.lty⟩ <;> (cases ax <;> exact e)

theorem MSt.trimy {ay:Option Addr}{cy:Nat}(h:MSt w g base vx vy o S5 wr vx' (.slice ay Y'.length cy) X' Y'):MSt w g base vx vy o S5 wr vx' (.slice ay (tr Y').length cy) X' (tr Y'):=by
 refine⟨h.x,h.y.trim,fun k e e2=>h.apart k e ?_,h.nx,fun k e=>h.ny k ?_,h.fr,h.box,h.sb,h.hbase,h.gb,h.ltx,h.lty⟩
 ·cases ay <;> exact e2
 ·cases ay <;> exact e
end

structure aP (w:World)(g base:Nat)(vx vy:Value)(fx fy:Nat)(o:Bool):Prop where
 box:w.heap[g]?=some (.cells #[vx,vy,.bool o] 107)
 gb:vx.ownBlock≠some g∧vy.ownBlock≠some g
 at2:∃X Y,Ans w base vx X∧Ans w base vy Y∧val X=fx∧val Y=fy∧tr X=X∧tr Y=Y
 apart:∀k,vx.ownBlock=some k→vy.ownBlock≠some k

def ig (g base:Nat)(vx vy:Value)(fx fy:Nat)(o:Bool)(w:World)(e:Ending)(w':World):Prop:=
 e=.returned (.tuple #[])∧∃vx' vy',aP w' g base vx' vy' fx fy o∧Nx w.heap.size vx vy vx'∧Nx w.heap.size vx vy vy'∧FrP (Pk g vx vy) w w'

theorem aP.start {w:World}{g base:Nat}{vx vy:Value}{fx fy:Nat}{o:Bool}(h:aP w g base vx vy fx fy o)(hb:base≤w.heap.size)(S5:Array Value){X Y:List Nat}(hX:Ans w base vx X)(hY:Ans w base vy Y):MSt w g base vx vy o S5 (w.alloc (.cells S5 139)) vx vy X Y:=by
 have hbl:Below w.heap.size w (w.alloc (.cells S5 139)):=(Below.refl _ _).alloc (Nat.le_refl _) _
 exact⟨hX.below hbl,hY.below hbl,h.apart,fun k e=>.inl e,fun k e=>.inr (.inl e),FrP.of_below hbl,ae hbl h.box,heap_alloc_new ..,hb,⟨bh h.box,h.gb⟩,fun k e=>(hX.own.lt k e).2,fun k e=>(hY.own.lt k e).2⟩

theorem Nx.less {n m:Nat}{vx vy v:Value}(h:Nx n vx vy v)(hm:m≤n):Nx m vx vy v:=fun k e=>by
 rcases h k e with h1|h1|h1
 ·exact .inl h1
 ·exact .inr (.inl h1)
 ·exact .inr (.inr (by omega))

theorem MSt.stored {w:World}{g base:Nat}{vx vy:Value}{o:Bool}{S5:Array Value}{wr:World}{vx' vy':Value}{X' Y':List Nat}(h:MSt w g base vx vy o S5 wr vx' vy' X' Y')(hx:tr X'=X')(hy:tr Y'=Y') :
  aP ((wr.setCell ⟨g,0,none⟩ vx').setCell ⟨g,1,none⟩ vy') g base vx' vy' (val X') (val Y') o∧((wr.setCell ⟨g,0,none⟩ vx').setCell ⟨g,1,none⟩ vy').heap[w.heap.size]?=some (.cells S5 139)∧FrP (Pk g vx vy) w ((wr.setCell ⟨g,0,none⟩ vx').setCell ⟨g,1,none⟩ vy')∧Nx w.heap.size vx vy vx'∧Nx w.heap.size vx vy vy':=by
 have hne:w.heap.size≠g:=by have:=h.gb.1;omega
 refine⟨⟨aY (aY h.box vx') vy',⟨h.xne.1,h.yne.1⟩,⟨X',Y',(h.x.apart g 0 _ h.xne.1).apart g 1 _ h.xne.1,(h.y.apart g 0 _ h.yne.1).apart g 1 _ h.yne.1,rfl,rfl,hx,hy⟩,h.apart⟩,aR (aR h.sb hne) hne,(h.fr.setCell g 0 _ (fun _ e=>e.1 rfl)).setCell g 1 _ (fun _ e=>e.1 rfl),h.nx.less (by omega),h.ny.less (by omega)⟩

theorem aP.below {w w2:World}{g base:Nat}{vx vy:Value}{fx fy:Nat}{o:Bool}(h:aP w g base vx vy fx fy o)(hb:Below w.heap.size w w2):aP w2 g base vx vy fx fy o:=by
 obtain⟨X,Y,h1,h2,h3⟩:=h.at2
 exact⟨ae hb h.box,h.gb,⟨X,Y,h1.below hb,h2.below hb,h3⟩,h.apart⟩

theorem aP.flip {w:World}{g base:Nat}{vx vy:Value}{fx fy:Nat}{o:Bool}(h:aP w g base vx vy fx fy o)(o':Bool):aP (w.setCell ⟨g,2,none⟩ (.bool o')) g base vx vy fx fy o':=by
 obtain⟨X,Y,h1,h2,h3⟩:=h.at2
 have gb:=h.gb
 exact⟨aY h.box _,h.gb,⟨X,Y,h1.apart g 2 _ gb.1,h2.apart g 2 _ gb.2,h3⟩,h.apart⟩

structure Bl (k:Nat)(X0 Y0 X1 Y1:List Nat)(a b c d ov un:Nat):Prop where
 lx:X1.length=X0.length
 ly:Y1.length=Y0.length
 sx:∀j,k≤j→X1.getD j 0=X0.getD j 0
 sy:∀j,k≤j→Y1.getD j 0=Y0.getD j 0
 vx:val (X1.take k)+18446744073709551616 ^ k*ov=a*val (X0.take k)+b*val (Y0.take k)
 vy:val (Y1.take k)+18446744073709551616 ^ k*un=c*val (X0.take k)+d*val (Y0.take k)
 o:ov<a+b
 u:un<c+d

theorem Bl.start (X0 Y0:List Nat){a b c d:Nat}(h1:0<a+b)(h2:0<c+d):Bl 0 X0 Y0 X0 Y0 a b c d 0 0:=
 ⟨rfl,rfl,fun _ _=>rfl,fun _ _=>rfl,by simp [val],by simp [val],h1,h2⟩

theorem Bl.next {k:Nat}{X0 Y0 X1 Y1:List Nat}{a b c d ov un l ov2 m un2:Nat}(h:Bl k X0 Y0 X1 Y1 a b c d ov un)(hx:k<X0.length)(hy:k<Y0.length)(e1:l+18446744073709551616*ov2=a*X0.getD k 0+b*Y0.getD k 0+ov)(o1:ov2<a+b)(e2:m+18446744073709551616*un2=c*X0.getD k 0+d*Y0.getD k 0+un)(o2:un2<c+d) :
  Bl (k+1) X0 Y0 (X1.set k l) (Y1.set k m) a b c d ov2 un2:=by
 have hlx:=h.lx
 have hly:=h.ly
 refine⟨by rw [List.length_set];exact hlx,by rw [List.length_set];exact hly,fun j hj=>?_,fun j hj=>?_,?_,?_,o1,o2⟩
 ·rw [cW,if_neg (by omega)];exact h.sx j (by omega)
 ·rw [cW,if_neg (by omega)];exact h.sy j (by omega)
 ·rw [take_set_succ _ _ _ (by omega),val_take_next X0,val_take_next Y0,Nat.pow_succ]
  exact jH h.vx e1
 ·rw [take_set_succ _ _ _ (by omega),val_take_next X0,val_take_next Y0,Nat.pow_succ]
  exact jH h.vy e2

theorem Bl.ends {n:Nat}{X0 Y0 X1 Y1:List Nat}{a b c d ov un:Nat}(h:Bl n X0 Y0 X1 Y1 a b c d ov un)(hx:X0.length=n)(hy:Y0.length=n):val (X1 ++ [ov])=a*val X0+b*val Y0∧val (Y1 ++ [un])=c*val X0+d*val Y0:=by
 have h1:=h.vx
 have h2:=h.vy
 have hlx:=h.lx
 have hly:=h.ly
 rw [List.take_of_length_le (by omega),List.take_of_length_le (by omega),List.take_of_length_le (by omega)] at h1 h2
 refine⟨jV ?_,jV ?_⟩
 ·rw [hlx,hx];exact h1
 ·rw [hly,hy];exact h2
end Go.Proofs.YtdbjbbdhlpfhjaaGreatDoor

