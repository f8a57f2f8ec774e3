/- Package whole: sum. -/
import Derived.Test.YtkhckcfikljjhaaGreatDoorB14
import Derived.Test.YtkhckcfikljjhaaGreatDoorB06
import Derived.Handy
import Derived.Test.YtkhckcfikljjhaaGreatDoorB03
import Derived.Test.YtkhckcfikljjhaaGreatDoorB08
import Derived.Test.YtkhckcfikljjhaaGreatDoorB13
import Derived.Deep.RegionHeld3
set_option maxRecDepth 20000
set_option maxHeartbeats 2000000
namespace Go.Proofs.YtkhckcfikljjhaaGreatDoor
open Go.RowKit
open Lm
attribute [local go_sem ↓] Go.wp_at_zero Go.wp_at_succ

def br (w:World)(x:Nat)(e:Ending)(w':World):Prop:=
 (∃v rs,e=.returned v∧Ans w' w.heap.size v rs∧val rs=x∧tr rs=rs)∧Below w.heap.size w w'

theorem Arg.wtrim {w:World}{v:Value}{X:List Nat}(h:Arg w v X):∃ao cap,v=.slice ao X.length cap∧(∀w',Below w.heap.size w w'→Calls Tryz.prog 94 #[v] w' fun e w''=>e=.returned (.slice ao (tr X).length cap)∧w''=w')∧Arg w (.slice ao (tr X).length cap) (tr X):=by
 obtain⟨ao,cap,rfl,h1,h2,h3⟩:=h.form
 exact⟨ao,cap,rfl,fun w' hb=>dk ao cap X w' h1 h2 (h3.below hb),h.trim⟩

theorem Arg.wlies {w:World}{a:Option Addr}{n c:Nat}{X:List Nat}(h:Arg w (.slice a n c) X):ac w a X:=by
 obtain⟨_,_,e,_,_,hl⟩:=h.form
 cases e
 exact hl

theorem br.trimmed {w w':World}{g:Nat}{Z:List Nat}{x:Nat}(hg:w.heap.size≤g)(hb:Blk w' g Z)(hl:Limbs Z)(hz:Z.length≤1125899906842624)(hx:val Z=x)(hbel:Below w.heap.size w w') :
  Calls Tryz.prog 94 #[.slice (some ⟨g,0,none⟩) Z.length Z.length] w' fun e w''=>e=.returned (.slice (some ⟨g,0,none⟩) (tr Z).length Z.length)∧w''=w'∧br w x e w'':=by
 have A1:=Ans.of_blk (base:=w.heap.size) (zs:=Z) hg hb List.take_length.symm (Nat.le_refl _) (by omega) hl
 have hA:=A1.arg hz
 obtain⟨ao,cap,e0,hT,_⟩:=hA.wtrim
 cases e0
 refine (hT w' (Below.refl _ _)).mono ?_
 rintro e w2 ⟨rfl,rfl⟩
 exact⟨rfl,rfl,⟨_,tr Z,rfl,A1.trim,by rw [val_tr];exact hx,tr_tr Z⟩,hbel⟩

theorem pI (va vb:Value)(X Y:List Nat)(w:World)(hA:Arg w va X)(hB:Arg w vb Y)(hx:X.length≤17592186044416)(hy:Y.length≤17592186044416) :
  Calls Tryz.prog 72 #[va,vb] w (br w (val X+val Y)):=by
 obtain⟨a1,c1,rfl,T1,A1⟩:=hA.wtrim
 obtain⟨a2,c2,rfl,T2,A2⟩:=hB.wtrim
 have f1:=A1.few
 have f2:=A2.few
 have g1:=tr_length_le X
 have g2:=tr_length_le Y
 rw [←val_tr X,←val_tr Y]
 have HT1:=T1 w (Below.refl _ _)
 have HT2:=T2 w (Below.refl _ _)
 clear T1 T2
 generalize tr X=P at *
 generalize tr Y=Q at *
 clear hA hB
 obtain⟨i0,hi,hz0,hz1,hz2⟩:=info_parts Tryz.infoU
 go_enter Tryz.func72,Tryz.ntmps72
 go_wp2_with fail
 refine HT1.mono ?_
 rintro e wn ⟨rfl,hw⟩;rw [hw];clear hw wn HT1
 go_wp2_with fail
 refine HT2.mono ?_
 rintro e wn ⟨rfl,hw⟩;rw [hw];clear hw wn HT2
 by_cases hlt:P.length<Q.length
 ·have i1:(P.length:Int)<(Q.length:Int):=by omega
  obtain⟨H',eH,hH1,hH2⟩:∃H':Nat,(Q.length:Int)+1=(H':Int)∧H'≤Q.length+1∧Q.length+1≤H':=⟨Q.length+1,by omega,by omega,by omega⟩
  go_wp2_with (at_make;refine wpList_make_full _ rfl _ _ 25 rfl w.heap.size 65 i0 (.int .u64 0) 1 Tryz.underlying25 hi hz0 hz1 .i64 .i64 _ _ H' rfl rfl (by omega) (by omega) (by rw [hz2];omega) (by unfold maxLen;omega) (Nat.le_refl _) ?_;intro w1 hown hgrow;obtain⟨w2,M2,hcp,B2,L2,F2,O2,S2⟩:=aN w.heap.size 0 H' H' (List.replicate H' 0) a2 c2 Q w1 (Blk.made hown) (limbs_replicate _) A2.limbs (aR H' 0 H') (by simp) (by omega) (A2.below ((Below.refl w.heap.size w).grown hgrow (Nat.le_refl _) (fun k hk=>by cases hk))).wlies)
  have hb1:Below w.heap.size w w1:=(Below.refl w.heap.size w).grown hgrow (Nat.le_refl _) (fun k hk=>by cases hk)
  have hb2:Below w.heap.size w w2:=hb1.trans (F2.below (Nat.le_refl _) hb1.size)
  have l2:M2.length=H':=by rw [O2.len,List.length_replicate]
  have s2:sv M2 0 H'=val Q:=S2
  have hfit:sv M2 0 H'+val P<18446744073709551616 ^ H':=by
   rw [s2]
   have h1:=val_lt A2.limbs
   have h2:=val_lt A1.limbs
   have h3:18446744073709551616 ^ P.length≤18446744073709551616 ^ Q.length:=Nat.pow_le_pow_right (by omega) (by omega)
   have h4:18446744073709551616 ^ H'=18446744073709551616 ^ Q.length*18446744073709551616:=by rw [show H'=Q.length+1 by omega,Nat.pow_succ]
   omega
  have HP:=ew w.heap.size 0 H' H' M2 _ P w2 B2 L2 (A1.below hb2) (fun h0 b off n c e=>.inl (by cases e;have:=A1.block h0;omega)) (by omega) (Nat.le_refl _) (by omega) (by omega) hfit
  clear B2 L2 F2 O2 S2 hown hgrow hb1
  refine HP.mono ?_
  rintro e w3 ⟨rfl,M3,O3,L3,B3,F3,S3⟩
  have HR:=br.trimmed (w:=w) (x:=val Q+val P) (Nat.le_refl _) B3 L3 (by rw [O3.len];omega) (by rw [←s2,←S3,←l2,←O3.len,aW]) (hb2.trans (F3.below (Nat.le_refl _) hb2.size))
  have l3:M3.length=H':=by rw [O3.len];exact l2
  rw [l3] at HR
  clear HP O3 L3 B3 F3 S3 hb2 s2 hfit
  go_wp2_with fail
  refine HR.mono ?_
  rintro e w4 ⟨rfl,rfl,hd⟩
  have HD:=aa hd
  go_wp2
  go_returns
  rw [Nat.add_comm];exact HD.out
 ·have i1:¬(P.length:Int)<(Q.length:Int):=by omega
  obtain⟨H',eH,hH1,hH2⟩:∃H':Nat,(P.length:Int)+1=(H':Int)∧H'≤P.length+1∧P.length+1≤H':=⟨P.length+1,by omega,by omega,by omega⟩
  go_wp2_with (at_make;refine wpList_make_full _ rfl _ _ 25 rfl w.heap.size 65 i0 (.int .u64 0) 1 Tryz.underlying25 hi hz0 hz1 .i64 .i64 _ _ H' rfl rfl (by omega) (by omega) (by rw [hz2];omega) (by unfold maxLen;omega) (Nat.le_refl _) ?_;intro w1 hown hgrow;obtain⟨w2,M2,hcp,B2,L2,F2,O2,S2⟩:=aN w.heap.size 0 H' H' (List.replicate H' 0) a1 c1 P w1 (Blk.made hown) (limbs_replicate _) A1.limbs (aR H' 0 H') (by simp) (by omega) (A1.below ((Below.refl w.heap.size w).grown hgrow (Nat.le_refl _) (fun k hk=>by cases hk))).wlies)
  have hb1:Below w.heap.size w w1:=(Below.refl w.heap.size w).grown hgrow (Nat.le_refl _) (fun k hk=>by cases hk)
  have hb2:Below w.heap.size w w2:=hb1.trans (F2.below (Nat.le_refl _) hb1.size)
  have l2:M2.length=H':=by rw [O2.len,List.length_replicate]
  have s2:sv M2 0 H'=val P:=S2
  have hfit:sv M2 0 H'+val Q<18446744073709551616 ^ H':=by
   rw [s2]
   have h1:=val_lt A1.limbs
   have h2:=val_lt A2.limbs
   have h3:18446744073709551616 ^ Q.length≤18446744073709551616 ^ P.length:=Nat.pow_le_pow_right (by omega) (by omega)
   have h4:18446744073709551616 ^ H'=18446744073709551616 ^ P.length*18446744073709551616:=by rw [show H'=P.length+1 by omega,Nat.pow_succ]
   omega
  have HP:=ew w.heap.size 0 H' H' M2 _ Q w2 B2 L2 (A2.below hb2) (fun h0 b off n c e=>.inl (by cases e;have:=A2.block h0;omega)) (by omega) (Nat.le_refl _) (by omega) (by omega) hfit
  clear B2 L2 F2 O2 S2 hown hgrow hb1
  refine HP.mono ?_
  rintro e w3 ⟨rfl,M3,O3,L3,B3,F3,S3⟩
  have HR:=br.trimmed (w:=w) (x:=val P+val Q) (Nat.le_refl _) B3 L3 (by rw [O3.len];omega) (by rw [←s2,←S3,←l2,←O3.len,aW]) (hb2.trans (F3.below (Nat.le_refl _) hb2.size))
  have l3:M3.length=H':=by rw [O3.len];exact l2
  rw [l3] at HR
  clear HP O3 L3 B3 F3 S3 hb2 s2 hfit
  go_wp2_with fail
  refine HR.mono ?_
  rintro e w4 ⟨rfl,rfl,hd⟩
  have HD:=aa hd
  go_wp2
  go_returns
  exact HD.out

theorem gT (va vb:Value)(X Y:List Nat)(w:World)(hA:Arg w va X)(hB:Arg w vb Y)(hx:X.length≤17592186044416)(hle:val Y≤val X) :
  Calls Tryz.prog 70 #[va,vb] w (br w (val X - val Y)):=by
 obtain⟨a1,c1,rfl,T1,A1⟩:=hA.wtrim
 obtain⟨a2,c2,rfl,T2,A2⟩:=hB.wtrim
 have f1:=A1.few
 have f2:=A2.few
 have g1:=tr_length_le X
 have hln:(tr Y).length≤(tr X).length:=az Y _ (by have:=val_lt A1.limbs;rw [val_tr] at this;omega)
 rw [←val_tr X,←val_tr Y] at hle ⊢
 have HT1:=T1 w (Below.refl _ _)
 have HT2:=T2 w (Below.refl _ _)
 clear T1 T2
 generalize tr X=P at *
 generalize tr Y=Q at *
 clear hA hB
 obtain⟨i0,hi,hz0,hz1,hz2⟩:=info_parts Tryz.infoU
 go_enter Tryz.func70,Tryz.ntmps70
 go_wp2_with fail
 refine HT1.mono ?_
 rintro e wn ⟨rfl,hw⟩;rw [hw];clear hw wn HT1
 go_wp2_with fail
 refine HT2.mono ?_
 rintro e wn ⟨rfl,hw⟩;rw [hw];clear hw wn HT2
 obtain⟨n,hn⟩:∃n,P.length=n:=⟨_,rfl⟩
 have hPn:P.length≤n:=by omega
 rw [hn] at A1 f1 g1 hln ⊢
 go_wp2_with (at_make;refine wpList_make_full _ rfl _ _ 25 rfl w.heap.size 65 i0 (.int .u64 0) 1 Tryz.underlying25 hi hz0 hz1 .i64 .i64 _ _ n rfl rfl (by omega) (by omega) (by rw [hz2];omega) (by unfold maxLen;omega) (Nat.le_refl _) ?_;intro w1 hown hgrow;obtain⟨w2,M2,hcp,B2,L2,F2,O2,S2⟩:=aN w.heap.size 0 n n (List.replicate n 0) a1 c1 P w1 (Blk.made hown) (limbs_replicate _) A1.limbs (aR n 0 n) (by simp) (by omega) (A1.below ((Below.refl w.heap.size w).grown hgrow (Nat.le_refl _) (fun k hk=>by cases hk))).wlies;rw [hn] at hcp)
 have hb1:Below w.heap.size w w1:=(Below.refl w.heap.size w).grown hgrow (Nat.le_refl _) (fun k hk=>by cases hk)
 have hb2:Below w.heap.size w w2:=hb1.trans (F2.below (Nat.le_refl _) hb1.size)
 have l2:M2.length=n:=by rw [O2.len,List.length_replicate]
 have s2:sv M2 0 n=val P:=S2
 have hao:0<Q.length→∀b off,a2=some ⟨b,off,none⟩→b≠w.heap.size∨off+Q.length≤0∨0+n≤off:=fun h b off e=>by
  subst e
  have:=A2.block h
  exact .inl (by omega)
 have L1:=(A2.below hb2).wlies
 have M1:=A2.limbs
 have HB2:=aa hb2
 have HS2:=aa s2
 have HB0:=aa B2
 have HL0:=aa L2
 have HLE:=aa hle
 clear A1 A2 S2 O2 F2 hown hgrow hb1 hb2 s2 hle hcp hi hz0 hz1 hz2
 go_loopw [6,22] (fun c i wr=>∃(k cy:Nat) (Z':List Nat),k≤Q.length∧i=.int .i64 k∧c=.int .u64 cy∧cy≤1∧Out M2 Z' 0 (0+k)∧Limbs Z'∧Blk wr w.heap.size Z'∧Fr w.heap.size w2 wr ∧
   sv Z' 0 k+val (Q.take k)=sv M2 0 k+cy*18446744073709551616 ^ k) (fun _ i _=>Q.length - (intOf i).toNat)
 case atStart=>exact⟨0,0,M2,Nat.zero_le _,rfl,rfl,by omega,Out.refl _ _ _,HL0.out,HB0.out,Fr.refl _ _,by simp [aA,val]⟩
 case round=>
  obtain⟨k,cy,Z',hk,rfl,rfl,hcy,hout,hlz,hblk,hfr0,hval⟩:=hrel
  have HV:=aa hval
  have HB:=aa hblk
  have HF:=aa hfr0
  have HO:=aa hout
  have hl:=hout.len
  clear hval
  by_cases hkl:k<Q.length
  ·rcases L1.fr (hao (by omega)) hfr0 B2 hblk (hout.wider (Nat.le_refl _) (by omega)) with h0|⟨b,off,rfl,hcell⟩
   ·rw [h0] at hkl;simp at hkl
   ·have hck:=hcell k hkl
    have hfr:=hblk.free k
    have hco:=hblk.cell k (by omega)
    have z1:=limb_lt M1 k
    have z2:=limb_lt hlz k
    have hsame:=hout.same k (by omega)
    have ha:=dG (Z'.getD k 0) (Q.getD k 0) cy hcy
    obtain⟨q1,q2,q3⟩:=di (Z'.getD k 0) (Q.getD k 0) cy z2 z1 hcy
    have HS:=cB M2 Z' 0 k cy _ _ (Q.getD k 0) _ (by omega) hl HV.out (by rw [Nat.zero_add k,←hsame];exact q1)
    rw [←val_take_next Q k,Nat.zero_add k] at HS
    replace HS:=aa HS
    generalize Z'.getD k 0=z at *
    generalize Q.getD k 0=x at *
    clear hsame q1
    generalize (z+18446744073709551616 - x - cy) % 18446744073709551616=s at *
    generalize bor z x cy=c2 at *
    have i1:(k:Int)<(n:Int):=by omega
    clear hcell hblk hfr0 hout HV M1 L1 B2 L2
    go_wp2
    go_roundw
    case rel=>exact⟨k+1,c2,Z'.set k s,by omega,by go_num,rfl,q2,(HO.out.wider (Nat.le_refl _) (by omega)).set _ _ (by omega) (by omega),limbs_set hlz _ _ q3,HB.out.set _ s,HF.out.setCell _ _,HS.out⟩
    case measure=>simp [intOf];omega
  ·have ek:k=Q.length:=by omega
   subst ek
   rw [List.take_length] at HV
   clear hblk hfr0 hout L1 B2 M1 L2 hl
   go_wp2
   go_loopw [6,9] (fun c i wr2=>∃(k cy:Nat) (Z2:List Nat),k≤n∧i=.int .i64 k∧c=.int .u64 cy∧cy≤1∧Out M2 Z2 0 (0+k)∧Limbs Z2∧Blk wr2 w.heap.size Z2∧Fr w.heap.size w2 wr2 ∧
     sv Z2 0 k+val Q=sv M2 0 k+cy*18446744073709551616 ^ k) (fun _ i _=>n - (intOf i).toNat)
   case atStart=>exact⟨Q.length,cy,Z',hln,rfl,rfl,hcy,HO.out,hlz,HB.out,HF.out,HV.out⟩
   case round=>
    obtain⟨k,cy2,Z2,hk2,rfl,rfl,hcy2,hout2,hlz2,hblk2,hfr2,hval2⟩:=hrel
    clear HV HB HF HO
    have HV:=aa hval2
    have HB:=aa hblk2
    have HF:=aa hfr2
    have HO:=aa hout2
    have hl:=hout2.len
    clear hval2
    by_cases hc0:cy2=0
    ·subst hc0
     have hr:=fO M2 Z2 0 k n _ hk2 (by omega) hout2 (by have h:=HV.out;rw [Nat.zero_mul,Nat.add_zero] at h;exact h)
     have hlZ:Z2.length=n:=by rw [hl];exact l2
     have HR:=br.trimmed (w:=w) (x:=val P - val Q) (Nat.le_refl _) hblk2 hlz2 (by omega) (by rw [←HS2.out,←hr,←hlZ,aW]) (HB2.out.trans (hfr2.below (Nat.le_refl _) HB2.out.size))
     rw [hlZ] at HR
     clear hblk2 hfr2 hout2 HV hr
     go_wp2_with fail
     refine HR.mono ?_
     rintro e w4 ⟨rfl,rfl,hd⟩
     have HD:=aa hd
     go_wp2
     go_returns
     exact HD.out
    ·have hpos:(0:Int)<(cy2:Int):=by omega
     have hkn:k<n:=by
      rcases Nat.lt_or_ge k n with h|h
      ·exact h
      ·have ek:k=n:=by omega
       subst ek
       exact absurd (fG M2 Z2 0 k cy2 (val Q) hlz2 (by rw [HS2.out];exact HLE.out) HV.out) hc0
     have hfr:=hblk2.free k
     have hco:=hblk2.cell k (by omega)
     have z2:=limb_lt hlz2 k
     have hsame:=hout2.same k (by omega)
     have ha:=fZ (Z2.getD k 0) cy2 hcy2
     obtain⟨q1,q2,q3⟩:=di (Z2.getD k 0) 0 cy2 z2 (by omega) hcy2
     have HS:=cB M2 Z2 0 k cy2 _ _ 0 _ (by omega) hl HV.out (by rw [Nat.zero_add k,←hsame];exact q1)
     rw [Nat.mul_zero,Nat.add_zero,Nat.zero_add k] at HS
     replace HS:=aa HS
     generalize Z2.getD k 0=z at *
     clear hsame q1
     generalize (z+18446744073709551616 - 0 - cy2) % 18446744073709551616=s at *
     generalize bor z 0 cy2=c2 at *
     have i1:(k:Int)<(n:Int):=by omega
     clear hblk2 hfr2 hout2 HV hc0
     go_wp2
     go_roundw
     case rel=>exact⟨k+1,c2,Z2.set k s,by omega,by go_num,rfl,q2,(HO.out.wider (Nat.le_refl _) (by omega)).set _ _ (by omega) (by omega),limbs_set hlz2 _ _ q3,HB.out.set _ s,HF.out.setCell _ _,HS.out⟩
     case measure=>simp [intOf];omega

theorem jT:∀(N:Nat) (X Y:List Nat) (va vb:Value) (w:World),X.length+Y.length<N→X.length+Y.length≤35184372088830→Arg w va X→Arg w vb Y→Tab w →
  Calls Tryz.prog 98 #[va,vb] w (br w (val X*val Y)):=by
 intro N
 induction N with
 | zero=>intro X Y va vb w h;omega
 | succ N ih=>
  intro X Y va vb w hN hfew hA hA2 hT
  obtain⟨a1,c1,rfl,hc1,hm1,hl1⟩:=hA.form
  obtain⟨a2,c2,rfl,hc2,hm2,hl2⟩:=hA2.form
  have T1:=dk a1 c1 X w hc1 hm1 hl1
  have T2:=dk a2 c2 Y w hc2 hm2 hl2
  have A1:=hA.trim
  have A2:=hA2.trim
  have m1:=limbs_tr hA.limbs
  have m2:=limbs_tr hA2.limbs
  have l1:=tr_length_le X
  have l2:=tr_length_le Y
  rw [←val_tr X,←val_tr Y]
  clear hA hA2 hl1 hl2
  generalize tr X=P at *
  generalize tr Y=R at *
  by_cases hsw:P.length<R.length
  ·have hsw2:(P.length:Int)<(R.length:Int):=by omega
   rw [Nat.mul_comm]
   have AL:=A2
   have AS:=A1
   have mL:=m2
   have mS:=m1
   have hfit:=bA R P mL mS
   by_cases hsm:R.length+P.length≤1048576
   ·have HM:=cF _ _ R P w AL AS hT (by omega)
    have hbl:blen (val R*val P)≤67108864:=by
     have:blen (val R*val P)≤64*(R.length+P.length):=(blen_le_iff _ _).2 (by rw [Nat.pow_mul];exact hfit)
     omega
    have hsm2:(R.length:Int)+(P.length:Int)≤1048576:=by omega
    clear AL AS hT hfit
    go_enter Tryz.func98,Tryz.ntmps98
    go_wp2_with fail
    refine T1.mono ?_
    rintro e wn ⟨rfl,hw⟩;rw [hw];clear hw wn
    go_wp2_with fail
    refine T2.mono ?_
    rintro e wn ⟨rfl,hw⟩;rw [hw];clear hw wn
    clear T1 T2
    go_wp2_with fail
    refine HM.mono ?_
    rintro e w2 ⟨hb,v,c,rs,rfl,hans,hres⟩
    have HX:Hid (br w (val R*val P) (.returned v) w2):=by
     rcases hres with ⟨_,hv,ht,_⟩|⟨_,_,hbig⟩
     ·exact⟨⟨v,rs,rfl,hans,hv,ht⟩,hb⟩
     ·omega
    clear hb hans hres HM
    go_wp2
    go_ret
    exact HX.out
   ·obtain⟨half,eh,hh1,hh2⟩:∃half:Nat,(R.length:Int) / 2=(half:Int)∧2*half≤R.length∧R.length≤2*half+1:=⟨R.length / 2,by omega,by omega,by omega⟩
    have hord:P.length≤R.length:=by omega
    obtain⟨K0,eK,hK01,hK02⟩:∃K:Nat,(R.length:Int)+(P.length:Int)=(K:Int)∧K≤R.length+P.length∧R.length+P.length≤K:=⟨_,rfl,Nat.le_refl _,Nat.le_refl _⟩
    have hsm2:¬((K0:Int)≤1048576):=by omega
    obtain⟨K,eK1,hK1,hK2⟩:∃K:Nat,(K0:Int)+1=(K:Int)∧K≤R.length+P.length+1∧R.length+P.length+1≤K:=⟨K0+1,by omega,by omega,by omega⟩
    have hKb:K≤35184372088831:=by omega
    have HFIT:=aa hfit
    have HT:=aa hT
    have HAL:=aa AL
    have HAS:=aa AS
    have HMS:=aa (And.intro mL mS)
    obtain⟨bL,oL,rfl⟩:∃b off,a2=some ⟨b,off,none⟩:=by
     obtain⟨_,_,e,_,_,hl⟩:=AL.form
     cases e
     rcases hl with h0|⟨b,off,e,_⟩
     ·have hz:R.length=0:=by rw [h0];rfl
      omega
     ·exact⟨b,off,e⟩
    obtain⟨i0,hi,hz0,hz1,hz2⟩:=info_parts Tryz.infoU
    clear AL AS hT hfit A1 A2 mL mS m1 m2
    go_enter Tryz.func98,Tryz.ntmps98
    go_wp2_with fail
    refine T1.mono ?_
    rintro e wn ⟨rfl,hw⟩;rw [hw];clear hw wn
    go_wp2_with fail
    refine T2.mono ?_
    rintro e wn ⟨rfl,hw⟩;rw [hw];clear hw wn
    clear T1 T2
    go_wp2_with (at_make;refine wpList_make_full _ rfl _ _ 25 rfl w.heap.size 65 i0 (.int .u64 0) 1 Tryz.underlying25 hi hz0 hz1 .i64 .i64 _ _ K rfl rfl (by omega) (by omega) (by rw [hz2];omega) (by unfold maxLen;omega) (Nat.le_refl _) ?_;intro w1 hown hgrow)
    have hb1:=Blk.made hown
    have hbel:Below w.heap.size w w1:=(Below.refl _ _).grown hgrow (Nat.le_refl _) (fun k hk=>by cases hk)
    have HB1:=aa hb1
    have HBE:=aa hbel
    clear hown hgrow hi hz0 hz1 hz2 hb1 hbel
    have lt1:(R.take half).length=half:=by simp;omega
    have ld1:(R.drop half).length=R.length - half:=by simp
    have IH1:=ih (R.take half) P _ _ w1 (by omega) (by omega) ((HAL.out.below HBE.out).front half (by omega)) (HAS.out.below HBE.out) (HT.out.below HBE.out)
    go_wp2_with fail
    refine IH1.mono ?_
    rintro e w2 ⟨⟨v1,rs1,rfl,An1,e1,t1⟩,hb2⟩
    have mT:=(HAL.out.front half (by omega)).limbs
    have mD:=(HAL.out.drop half (by omega)).limbs
    have f1:=bA (R.take half) P mT HMS.out.2
    have f2:=bA (R.drop half) P mD HMS.out.2
    have r1:=az rs1 (half+P.length) (by rw [e1];rw [lt1] at f1;exact f1)
    rw [t1] at r1
    have A1':=An1.arg (by omega)
    obtain⟨ao,co,rfl,_,_,hlo⟩:=A1'.form
    have B2:=HB1.out.below hb2 HB1.out.lt
    obtain⟨w3,M1,hcp,B3,L3,F3,O3,S3⟩:=aN w.heap.size 0 K K (List.replicate K 0) ao co rs1 w2 B2 (limbs_replicate _) An1.limbs (aR K 0 K) (by simp) (by omega) hlo
    have HB3:Hid (Below w.heap.size w w3):=(HBE.out.trans (hb2.mono HBE.out.size)).trans (F3.below (Nat.le_refl _) (by have:=HBE.out.size;have:=hb2.size;omega))
    have IH2:=ih (R.drop half) P _ _ w3.drew (by omega) (by omega) ((HAL.out.below HB3.out).drop half (by omega)).drew (HAS.out.below HB3.out).drew (HT.out.below HB3.out.drew)
    have hch:¬K=half:=by omega
    have hcl:¬c2=half:=by omega
    have lM:M1.length=K:=by rw [O3.len];simp
    have HM1:=aa (And.intro L3 (And.intro S3 lM))
    have HE1:=aa e1
    have HBK:=aa B3
    have k1:(0:Int)≤(half:Int):=by omega
    have k2:(half:Int)≤(K:Int):=by omega
    have k3:(half:Int)≤(R.length:Int):=by omega
    have k4:(half:Int)≤(c2:Int):=by omega
    clear IH1 An1 hb2 A1' hlo B2 B3 L3 F3 O3 S3 lM e1 t1 mT mD f1 hN hfew
    go_wp2
    have HF2:Hid (sv M1 half (K - half)+val (R.drop half)*val P<18446744073709551616 ^ (K - half)):=by
     refine aa ?_
     obtain⟨d,hd⟩:∃d,K=half+(d+1):=⟨K - half - 1,by omega⟩
     have s0:=ae M1 0 half (d+1) (by rw [HM1.out.2.2];omega)
     have s3:=HM1.out.2.1
     have s4:=bi R half (by omega)
     have s6:K - half=d+1:=by omega
     have s7:=HFIT.out
     have s8:R.length+P.length=half+d:=by omega
     rw [hd] at s3
     rw [s8,Nat.pow_add] at s7
     rw [Nat.zero_add] at s0
     rw [HE1.out] at s3
     rw [s4,Nat.add_mul,Nat.mul_assoc] at s7
     rw [s0] at s3
     rw [s6,Nat.pow_succ]
     generalize val (R.take half)*val P=a at *
     generalize val (R.drop half)*val P=b at *
     generalize sv M1 0 half=x at *
     generalize sv M1 half (d+1)=y at *
     have hWp:=W_pos half
     generalize (18446744073709551616:Nat) ^ half=W at *
     generalize (18446744073709551616:Nat) ^ d=V at *
     have t1:W*(y+b)<W*V:=by rw [Nat.mul_add];omega
     have t2:=Nat.lt_of_mul_lt_mul_left t1
     omega
    have HPP:=aa (fun (w4:World) (v2:Value) (rs2:List Nat) (An2:Ans w4 w3.drew.heap.size v2 rs2) (t2:tr rs2=rs2) (e2:val rs2=val (R.drop half)*val P) (hb4:Below w3.drew.heap.size w3.drew w4)=>
     show Calls Tryz.prog 106 #[.slice (some ⟨w.heap.size,half,none⟩) (K - half) (K - half),v2] w4 (ai w.heap.size half (K - half) M1 w4 (sv M1 half (K - half)+val rs2)) by
      have r2:=az rs2 (R.length - half+P.length) (by rw [e2];rw [ld1] at f2;exact f2)
      rw [t2] at r2
      have hlt4:w.heap.size<w3.drew.heap.size:=HBK.out.lt
      exact ew w.heap.size half (K - half) (K - half) M1 v2 rs2 w4 (HBK.out.below (cm hb4) HBK.out.lt) HM1.out.1 (An2.arg (by omega)) (fun _ b off n c e=>by subst e;exact .inl (fun h=>by have:=(An2.own.lt b rfl).1;omega)) (by rw [HM1.out.2.2];omega) (Nat.le_refl _) (by omega) (by omega) (by rw [e2];exact HF2.out))
    go_region_held3 (fun _=>True) (trivial) (first
     | (go_at_call 98;refine IH2.mono ?_;rintro e w4 ⟨⟨v2,rs2,rfl,An2,e2,t2⟩,hb4⟩)
     | (go_at_call 106;refine (HPP.out _ _ _ An2 t2 e2 hb4).mono ?_;rintro e w5 ⟨rfl,M2,O5,L5,B5,F5,S5⟩))
    have l5:M2.length=K:=by rw [O5.len,HM1.out.2.2]
    have HTR:=dk (some ⟨w.heap.size,0,none⟩) K M2 w5 (by omega) (by omega) (.inr ⟨_,0,rfl,fun j hj=>by rw [Nat.zero_add];exact B5.cell j hj⟩)
    rw [l5] at HTR
    have HVAL:Hid (val M2=val R*val P):=by
     refine aa ?_
     obtain⟨d,hd⟩:∃d,K=half+d:=⟨K - half,by omega⟩
     have s0:=ae M1 0 half d (by rw [HM1.out.2.2];omega)
     have s1:=ae M2 0 half d (by omega)
     have s2:=O5.sv 0 half (by omega)
     have s3:=HM1.out.2.1
     have s4:=bi R half (by omega)
     have s5:sv M2 0 (half+d)=val M2:=by rw [←hd,←l5,aW]
     have s6:K - half=d:=by omega
     rw [s6] at S5
     rw [hd] at s3
     rw [Nat.zero_add] at s0 s1
     rw [HE1.out] at s3
     rw [e2] at S5
     rw [s4,Nat.add_mul,Nat.mul_assoc]
     rw [←s5,s1,s2,S5,Nat.mul_add]
     rw [s0] at s3
     omega
    have HEND:Hid (br w (val R*val P) (.returned (.slice (some ⟨w.heap.size,0,none⟩) (tr M2).length K)) w5):=by
     have hb5:Below w.heap.size w w4:=HB3.out.trans ((cm hb4).mono HB3.out.size)
     have AM:=(Ans.of_blk (base:=w.heap.size) (zs:=M2) (Nat.le_refl _) B5 List.take_length.symm (Nat.le_refl _) (by omega) L5).trim
     rw [l5] at AM
     exact⟨⟨_,tr M2,rfl,AM,by rw [val_tr];exact HVAL.out,tr_tr _⟩,hb5.trans (F5.below (Nat.le_refl _) hb5.size)⟩
    clear An2 t2 e2 hb4 O5 L5 B5 F5 S5 HVAL HPP IH2 hcp
    go_wp2_with fail
    refine HTR.mono ?_
    rintro e w6 ⟨rfl,hw⟩;subst hw
    clear HTR
    go_wp2
    go_ret
    exact HEND.out
  ·have hsw2:¬((P.length:Int)<(R.length:Int)):=by omega
   have AL:=A1
   have AS:=A2
   have mL:=m1
   have mS:=m2
   have hfit:=bA P R mL mS
   by_cases hsm:P.length+R.length≤1048576
   ·have HM:=cF _ _ P R w AL AS hT (by omega)
    have hbl:blen (val P*val R)≤67108864:=by
     have:blen (val P*val R)≤64*(P.length+R.length):=(blen_le_iff _ _).2 (by rw [Nat.pow_mul];exact hfit)
     omega
    have hsm2:(P.length:Int)+(R.length:Int)≤1048576:=by omega
    clear AL AS hT hfit
    go_enter Tryz.func98,Tryz.ntmps98
    go_wp2_with fail
    refine T1.mono ?_
    rintro e wn ⟨rfl,hw⟩;rw [hw];clear hw wn
    go_wp2_with fail
    refine T2.mono ?_
    rintro e wn ⟨rfl,hw⟩;rw [hw];clear hw wn
    clear T1 T2
    go_wp2_with fail
    refine HM.mono ?_
    rintro e w2 ⟨hb,v,c,rs,rfl,hans,hres⟩
    have HX:Hid (br w (val P*val R) (.returned v) w2):=by
     rcases hres with ⟨_,hv,ht,_⟩|⟨_,_,hbig⟩
     ·exact⟨⟨v,rs,rfl,hans,hv,ht⟩,hb⟩
     ·omega
    clear hb hans hres HM
    go_wp2
    go_ret
    exact HX.out
   ·obtain⟨half,eh,hh1,hh2⟩:∃half:Nat,(P.length:Int) / 2=(half:Int)∧2*half≤P.length∧P.length≤2*half+1:=⟨P.length / 2,by omega,by omega,by omega⟩
    have hord:R.length≤P.length:=by omega
    obtain⟨K0,eK,hK01,hK02⟩:∃K:Nat,(P.length:Int)+(R.length:Int)=(K:Int)∧K≤P.length+R.length∧P.length+R.length≤K:=⟨_,rfl,Nat.le_refl _,Nat.le_refl _⟩
    have hsm2:¬((K0:Int)≤1048576):=by omega
    obtain⟨K,eK1,hK1,hK2⟩:∃K:Nat,(K0:Int)+1=(K:Int)∧K≤P.length+R.length+1∧P.length+R.length+1≤K:=⟨K0+1,by omega,by omega,by omega⟩
    have hKb:K≤35184372088831:=by omega
    have HFIT:=aa hfit
    have HT:=aa hT
    have HAL:=aa AL
    have HAS:=aa AS
    have HMS:=aa (And.intro mL mS)
    obtain⟨bL,oL,rfl⟩:∃b off,a1=some ⟨b,off,none⟩:=by
     obtain⟨_,_,e,_,_,hl⟩:=AL.form
     cases e
     rcases hl with h0|⟨b,off,e,_⟩
     ·have hz:P.length=0:=by rw [h0];rfl
      omega
     ·exact⟨b,off,e⟩
    obtain⟨i0,hi,hz0,hz1,hz2⟩:=info_parts Tryz.infoU
    clear AL AS hT hfit A1 A2 mL mS m1 m2
    go_enter Tryz.func98,Tryz.ntmps98
    go_wp2_with fail
    refine T1.mono ?_
    rintro e wn ⟨rfl,hw⟩;rw [hw];clear hw wn
    go_wp2_with fail
    refine T2.mono ?_
    rintro e wn ⟨rfl,hw⟩;rw [hw];clear hw wn
    clear T1 T2
    go_wp2_with (at_make;refine wpList_make_full _ rfl _ _ 25 rfl w.heap.size 65 i0 (.int .u64 0) 1 Tryz.underlying25 hi hz0 hz1 .i64 .i64 _ _ K rfl rfl (by omega) (by omega) (by rw [hz2];omega) (by unfold maxLen;omega) (Nat.le_refl _) ?_;intro w1 hown hgrow)
    have hb1:=Blk.made hown
    have hbel:Below w.heap.size w w1:=(Below.refl _ _).grown hgrow (Nat.le_refl _) (fun k hk=>by cases hk)
    have HB1:=aa hb1
    have HBE:=aa hbel
    clear hown hgrow hi hz0 hz1 hz2 hb1 hbel
    have lt1:(P.take half).length=half:=by simp;omega
    have ld1:(P.drop half).length=P.length - half:=by simp
    have IH1:=ih (P.take half) R _ _ w1 (by omega) (by omega) ((HAL.out.below HBE.out).front half (by omega)) (HAS.out.below HBE.out) (HT.out.below HBE.out)
    go_wp2_with fail
    refine IH1.mono ?_
    rintro e w2 ⟨⟨v1,rs1,rfl,An1,e1,t1⟩,hb2⟩
    have mT:=(HAL.out.front half (by omega)).limbs
    have mD:=(HAL.out.drop half (by omega)).limbs
    have f1:=bA (P.take half) R mT HMS.out.2
    have f2:=bA (P.drop half) R mD HMS.out.2
    have r1:=az rs1 (half+R.length) (by rw [e1];rw [lt1] at f1;exact f1)
    rw [t1] at r1
    have A1':=An1.arg (by omega)
    obtain⟨ao,co,rfl,_,_,hlo⟩:=A1'.form
    have B2:=HB1.out.below hb2 HB1.out.lt
    obtain⟨w3,M1,hcp,B3,L3,F3,O3,S3⟩:=aN w.heap.size 0 K K (List.replicate K 0) ao co rs1 w2 B2 (limbs_replicate _) An1.limbs (aR K 0 K) (by simp) (by omega) hlo
    have HB3:Hid (Below w.heap.size w w3):=(HBE.out.trans (hb2.mono HBE.out.size)).trans (F3.below (Nat.le_refl _) (by have:=HBE.out.size;have:=hb2.size;omega))
    have IH2:=ih (P.drop half) R _ _ w3.drew (by omega) (by omega) ((HAL.out.below HB3.out).drop half (by omega)).drew (HAS.out.below HB3.out).drew (HT.out.below HB3.out.drew)
    have hch:¬K=half:=by omega
    have hcl:¬c1=half:=by omega
    have lM:M1.length=K:=by rw [O3.len];simp
    have HM1:=aa (And.intro L3 (And.intro S3 lM))
    have HE1:=aa e1
    have HBK:=aa B3
    have k1:(0:Int)≤(half:Int):=by omega
    have k2:(half:Int)≤(K:Int):=by omega
    have k3:(half:Int)≤(P.length:Int):=by omega
    have k4:(half:Int)≤(c1:Int):=by omega
    clear IH1 An1 hb2 A1' hlo B2 B3 L3 F3 O3 S3 lM e1 t1 mT mD f1 hN hfew
    go_wp2
    have HF2:Hid (sv M1 half (K - half)+val (P.drop half)*val R<18446744073709551616 ^ (K - half)):=by
     refine aa ?_
     obtain⟨d,hd⟩:∃d,K=half+(d+1):=⟨K - half - 1,by omega⟩
     have s0:=ae M1 0 half (d+1) (by rw [HM1.out.2.2];omega)
     have s3:=HM1.out.2.1
     have s4:=bi P half (by omega)
     have s6:K - half=d+1:=by omega
     have s7:=HFIT.out
     have s8:P.length+R.length=half+d:=by omega
     rw [hd] at s3
     rw [s8,Nat.pow_add] at s7
     rw [Nat.zero_add] at s0
     rw [HE1.out] at s3
     rw [s4,Nat.add_mul,Nat.mul_assoc] at s7
     rw [s0] at s3
     rw [s6,Nat.pow_succ]
     generalize val (P.take half)*val R=a at *
     generalize val (P.drop half)*val R=b at *
     generalize sv M1 0 half=x at *
     generalize sv M1 half (d+1)=y at *
     have hWp:=W_pos half
     generalize (18446744073709551616:Nat) ^ half=W at *
     generalize (18446744073709551616:Nat) ^ d=V at *
     have t1:W*(y+b)<W*V:=by rw [Nat.mul_add];omega
     have t2:=Nat.lt_of_mul_lt_mul_left t1
     omega
    have HPP:=aa (fun (w4:World) (v2:Value) (rs2:List Nat) (An2:Ans w4 w3.drew.heap.size v2 rs2) (t2:tr rs2=rs2) (e2:val rs2=val (P.drop half)*val R) (hb4:Below w3.drew.heap.size w3.drew w4)=>
     show Calls Tryz.prog 106 #[.slice (some ⟨w.heap.size,half,none⟩) (K - half) (K - half),v2] w4 (ai w.heap.size half (K - half) M1 w4 (sv M1 half (K - half)+val rs2)) by
      have r2:=az rs2 (P.length - half+R.length) (by rw [e2];rw [ld1] at f2;exact f2)
      rw [t2] at r2
      have hlt4:w.heap.size<w3.drew.heap.size:=HBK.out.lt
      exact ew w.heap.size half (K - half) (K - half) M1 v2 rs2 w4 (HBK.out.below (cm hb4) HBK.out.lt) HM1.out.1 (An2.arg (by omega)) (fun _ b off n c e=>by subst e;exact .inl (fun h=>by have:=(An2.own.lt b rfl).1;omega)) (by rw [HM1.out.2.2];omega) (Nat.le_refl _) (by omega) (by omega) (by rw [e2];exact HF2.out))
    go_region_held3 (fun _=>True) (trivial) (first
     | (go_at_call 98;refine IH2.mono ?_;rintro e w4 ⟨⟨v2,rs2,rfl,An2,e2,t2⟩,hb4⟩)
     | (go_at_call 106;refine (HPP.out _ _ _ An2 t2 e2 hb4).mono ?_;rintro e w5 ⟨rfl,M2,O5,L5,B5,F5,S5⟩))
    have l5:M2.length=K:=by rw [O5.len,HM1.out.2.2]
    have HTR:=dk (some ⟨w.heap.size,0,none⟩) K M2 w5 (by omega) (by omega) (.inr ⟨_,0,rfl,fun j hj=>by rw [Nat.zero_add];exact B5.cell j hj⟩)
    rw [l5] at HTR
    have HVAL:Hid (val M2=val P*val R):=by
     refine aa ?_
     obtain⟨d,hd⟩:∃d,K=half+d:=⟨K - half,by omega⟩
     have s0:=ae M1 0 half d (by rw [HM1.out.2.2];omega)
     have s1:=ae M2 0 half d (by omega)
     have s2:=O5.sv 0 half (by omega)
     have s3:=HM1.out.2.1
     have s4:=bi P half (by omega)
     have s5:sv M2 0 (half+d)=val M2:=by rw [←hd,←l5,aW]
     have s6:K - half=d:=by omega
     rw [s6] at S5
     rw [hd] at s3
     rw [Nat.zero_add] at s0 s1
     rw [HE1.out] at s3
     rw [e2] at S5
     rw [s4,Nat.add_mul,Nat.mul_assoc]
     rw [←s5,s1,s2,S5,Nat.mul_add]
     rw [s0] at s3
     omega
    have HEND:Hid (br w (val P*val R) (.returned (.slice (some ⟨w.heap.size,0,none⟩) (tr M2).length K)) w5):=by
     have hb5:Below w.heap.size w w4:=HB3.out.trans ((cm hb4).mono HB3.out.size)
     have AM:=(Ans.of_blk (base:=w.heap.size) (zs:=M2) (Nat.le_refl _) B5 List.take_length.symm (Nat.le_refl _) (by omega) L5).trim
     rw [l5] at AM
     exact⟨⟨_,tr M2,rfl,AM,by rw [val_tr];exact HVAL.out,tr_tr _⟩,hb5.trans (F5.below (Nat.le_refl _) hb5.size)⟩
    clear An2 t2 e2 hb4 O5 L5 B5 F5 S5 HVAL HPP IH2 hcp
    go_wp2_with fail
    refine HTR.mono ?_
    rintro e w6 ⟨rfl,hw⟩;subst hw
    clear HTR
    go_wp2
    go_ret
    exact HEND.out

theorem lf {M:List Nat}{s u V:Nat}(hM:s+u≤M.length)(h:sv M 0 (s+u)=V)(hV:V<18446744073709551616 ^ s):sv M s u=0∧sv M 0 s=V:=by
 rw [ae M 0 s u (by omega),Nat.zero_add] at h
 have h0:sv M s u=0:=by
  rcases Nat.eq_zero_or_pos (sv M s u) with h1|h1
  ·exact h1
  ·have:=Nat.mul_le_mul_left (18446744073709551616 ^ s) h1
   omega
 rw [h0,Nat.mul_zero,Nat.add_zero] at h
 exact⟨h0,h⟩

theorem qa {M M' U:List Nat}{s o V:Nat}(hl:M'.length=s+U.length)(h0:sv M 0 s=V)(hO:Out M M' o (o+U.length))(hv:sv M' o U.length=val U)(ho:o=s∨(U.length=0∧o=0)):val M'=V+18446744073709551616 ^ s*val U:=by
 rw [←aW M',hl,ae M' 0 s U.length (by omega),Nat.zero_add]
 rcases ho with rfl|⟨hu,rfl⟩
 ·rw [hv,hO.sv 0 o (by omega),h0]
 ·have hU:U=[]:=List.eq_nil_of_length_eq_zero hu
  rw [hU] at hO ⊢
  rw [hO.sv 0 s (by simp),h0]
  simp [sv,seg,val]

theorem gJ (va vb:Value)(X Y:List Nat)(n:Nat)(w:World)(hA:Arg w va X)(hB:Arg w vb Y)(hx:X.length≤17592186044416)(hn:n≤17592186044416)(hy:Y.length≤n) :
  Calls Tryz.prog 95 #[va,.int .i64 n,vb] w (br w (val Y+18446744073709551616 ^ n*val X)):=by
 obtain⟨a5,c5,rfl,_,_,_⟩:=hA.form
 obtain⟨a6,c6,rfl,_,_,_⟩:=hB.form
 obtain⟨i0,hi,hz0,hz1,hz2⟩:=info_parts Tryz.infoU
 obtain⟨N,hN,hNi⟩:∃N,N=n+X.length∧(n:Int)+(X.length:Int)=(N:Int):=⟨_,rfl,by omega⟩
 have hNs:N - n=X.length:=by omega
 obtain⟨o5,hif5,ho5⟩:∃o5,(∀g:Nat,(if N=n then some (⟨g,0,none⟩:Addr) else some ⟨g,n,none⟩)=some ⟨g,o5,none⟩)∧((o5=n∨(X.length=0∧o5=0))∧o5+X.length≤N):=by
  by_cases h:N=n
  ·exact⟨0,fun g=>by rw [if_pos h],.inr ⟨by omega,rfl⟩,by omega⟩
  ·exact⟨n,fun g=>by rw [if_neg h],.inl rfl,by omega⟩
 have HA:=aa hA
 have HBa:=aa hB
 have HNN:=aa hN
 have HO5:=aa ho5
 have hsN:n≤N:=by omega
 have hyN:Y.length≤N:=by omega
 have hNb:N≤35184372088832:=by omega
 have hyv:val Y<18446744073709551616 ^ n:=Nat.lt_of_lt_of_le (val_lt hB.limbs) (Nat.pow_le_pow_right (by omega) hy)
 have HYV:=aa hyv
 clear hA hB hN ho5 hyv
 go_enter Tryz.func95,Tryz.ntmps95
 go_wp2_with (at_make;refine wpList_make_full _ rfl _ _ 25 rfl w.heap.size 65 i0 (.int .u64 0) 1 Tryz.underlying25 hi hz0 hz1 .i64 .i64 _ _ N rfl rfl (by omega) (by omega) (by rw [hz2];omega) (by unfold maxLen;omega) (Nat.le_refl _) ?_;intro w3 hown hgrow;have hbel3:Below w.heap.size w w3:=(Below.refl w.heap.size w).grown hgrow (Nat.le_refl _) (fun k hk=>by cases hk);obtain⟨w4,M4,hcp,B4,L4,F4,O4,S4⟩:=aN w.heap.size 0 N N (List.replicate N 0) a6 c6 Y w3 (Blk.made hown) (limbs_replicate _) HBa.out.limbs (aR N 0 N) (by simp) (by omega) (HBa.out.below hbel3).wlies;have hbel4:Below w.heap.size w w4:=hbel3.trans (F4.below (Nat.le_refl _) hbel3.size);have hM4l:M4.length=N:=by rw [O4.len,List.length_replicate])
 obtain⟨z0,z1⟩:=lf (M:=M4) (s:=n) (u:=X.length) (by have:=HNN.out;omega) (by rw [←HNN.out];exact S4) HYV.out
 have hz5:sv M4 o5 X.length=0:=by
  rcases HO5.out.1 with h|⟨h,_⟩
  ·rw [h];exact z0
  ·rw [h];exact aA _ _
 obtain⟨w5,M5,hcp2,B5,L5,F5,O5,S5⟩:=aN w.heap.size o5 X.length X.length M4 a5 c5 X w4 B4 L4 HA.out.limbs hz5 (by rw [hM4l];exact HO5.out.2) (Nat.le_refl _) (HA.out.below hbel4).wlies
 have hbel5:Below w.heap.size w w5:=hbel4.trans (F5.below (Nat.le_refl _) hbel4.size)
 have hM5l:M5.length=n+X.length:=by rw [O5.len,hM4l];exact HNN.out
 have hval:=qa hM5l z1 O5 S5 HO5.out.1
 have HR:=br.trimmed (w:=w) (x:=val Y+18446744073709551616 ^ n*val X) (Nat.le_refl _) B5 L5 (by omega) hval hbel5
 rw [hM5l,←HNN.out] at HR
 clear hown hgrow hbel3 hbel4 hbel5 B4 L4 F4 O4 S4 B5 L5 F5 O5 S5 hval hz5 z0 z1 hM5l hi hz0 hz1 hz2
 go_wp2
 rw [hcp2]
 go_wp2_with fail
 refine HR.mono ?_
 rintro e w6 ⟨rfl,rfl,hd⟩
 have HD:=aa hd
 go_wp2
 go_returns
 exact HD.out

theorem lW (va vb:Value)(X Y:List Nat)(w:World)(hA:Arg w va X)(hA2:Arg w vb Y)(hT:Tab w)(hf1:X.length≤17592186044416)(hf2:Y.length≤17592186044416)(hY:val Y≠0) :
  Calls Tryz.prog 97 #[va,vb] w fun e w'=>Below w.heap.size w w'∧Res w' w.heap.size e (val X / val Y):=by
 have HR:=iw va vb X Y w hA hA2
 have HDV:=jv vb Y w hA2 hT hY (by omega)
 have HA:=aa hA
 have HT:=aa hT
 obtain⟨a1,c1,rfl,_,_,_⟩:=hA.form
 obtain⟨a2,c2,rfl,_,_,_⟩:=hA2.form
 have hr:bT (val X) (val Y)=if 67108864+blen (val Y)<blen (val X) then 3 else 0:=by unfold bT;rw [if_neg hY]
 rw [hr] at HR
 have HY:=aa (show 0<val Y by omega)
 clear hA hA2 hT hr hY
 by_cases hb:67108864+blen (val Y)<blen (val X)
 ·rw [if_pos hb] at HR
  have HX:Hid (67108864<blen (val X / val Y)):=aa (iy HY.out hb)
  clear HDV hb
  go_enter Tryz.func97,Tryz.ntmps97
  go_wp2_with fail
  refine HR.mono ?_
  rintro e wn ⟨rfl,hw⟩;subst hw
  clear HR
  go_wp2
  go_returns
  exact⟨Below.refl _ _,_,_,[],rfl,Ans.nil _ _,.inr ⟨rfl,rfl,HX.out⟩⟩
 ·rw [if_neg hb] at HR
  clear hb
  go_enter Tryz.func97,Tryz.ntmps97
  go_wp2_with fail
  refine HR.mono ?_
  rintro e wn ⟨rfl,hw⟩;rw [hw];clear hw wn
  go_wp2_with fail
  refine HDV.mono ?_
  rintro e w1 ⟨⟨vd,rfl,hd⟩,hb1⟩
  have H1:=gH _ vd X _ _ _ w1 (HA.out.below hb1) hd (HT.out.below hb1) hf1
  have HB1:=aa hb1
  clear hd hb1 HDV HR
  go_wp2_with fail
  refine H1.mono ?_
  rintro e w2 ⟨⟨vq,vr,qs,rs,mid,rfl,A1,hmid,hq,A2,e1,e2,l1,l2,_⟩,hb2⟩
  have HQ:=iQ vq w1.heap.size qs w2 A1 (by omega)
  have HB2:=aa (HB1.out.trans (hb2.mono HB1.out.size))
  rw [e1] at HQ
  clear A1 A2 hmid hq e1 e2 l1 l2 hb2 H1
  go_wp2_with fail
  refine HQ.mono ?_
  rintro e w3 ⟨hw,v1,c1,r1,rfl,An1,hres⟩;subst hw
  have H1:=aa (And.intro An1 hres)
  clear HQ An1 hres
  go_wp2
  go_returns
  exact⟨HB2.out,v1,_,r1,rfl,H1.out.1.base HB1.out.size,H1.out.2⟩

def WDone2 (w:World)(x y:Nat)(e:Ending)(w':World):Prop:=
 (∃v1 v2 r1 r2,e=.returned (.tuple #[v1,v2])∧Ans w' w.heap.size v1 r1∧Ans w' w.heap.size v2 r2∧val r1=x∧tr r1=r1∧val r2=y∧tr r2=r2∧(v1.ownBlock=none∨v1.ownBlock≠v2.ownBlock))∧Below w.heap.size w w'

theorem apart_of {w:World}{v1 v2:Value}{m:Nat}{r2:List Nat}(h:∀g,v1.ownBlock=some g→g<m)(h2:Ans w m v2 r2):v1.ownBlock=none∨v1.ownBlock≠v2.ownBlock:=by
 cases e:v1.ownBlock with
 | none=>exact .inl rfl
 | some g=>
  refine .inr fun e2=>?_
  have a:=h g e
  have b:=(h2.own.lt g e2.symm).1
  omega

theorem apart_of2 {w:World}{v1 v2:Value}{m:Nat}{r1:List Nat}(h:∀g,v2.ownBlock=some g→g<m)(h1:Ans w m v1 r1):v1.ownBlock=none∨v1.ownBlock≠v2.ownBlock:=by
 cases e:v1.ownBlock with
 | none=>exact .inl rfl
 | some g=>
  refine .inr fun e2=>?_
  have a:=h g e2.symm
  have b:=(h1.own.lt g e).1
  omega

namespace Lm

theorem both_partsW (x y K:Nat)(hK:0<K)(hy:0<y) :
  x / y=((x / K) % y*K+x % K) / y+K*((x / K) / y)∧x % y=((x / K) % y*K+x % K) % y∧((x / K) % y*K+x % K) / y<K:=by
 have h1:=Nat.div_add_mod x K
 have h2:=Nat.div_add_mod (x / K) y
 have h3:=Nat.mod_lt (x / K) hy
 have h4:x % K<K:=Nat.mod_lt x hK
 generalize x / K=H at *
 generalize x % K=l at *
 generalize H / y=q at *
 generalize H % y=r at *
 have e:x=(r*K+l)+y*(K*q):=by
  rw [←h1,←h2];grind
 refine⟨?_,?_,?_⟩
 ·rw [e,Nat.add_mul_div_left _ _ hy]
 ·rw [e,Nat.add_mul_mod_self_left]
 ·rw [Nat.div_lt_iff_lt_mul hy]
  have h5:=Nat.mul_le_mul_right K (Nat.succ_le_of_lt h3)
  rw [Nat.succ_mul,Nat.mul_comm y] at h5
  omega

theorem blen_quoW {x y:Nat}(hy:0<y)(n:Nat)(h:blen x≤n+blen y):blen (x / y)≤n+1:=by
 rw [blen_le_iff,Nat.div_lt_iff_lt_mul hy]
 have h1:x<2 ^ (n+blen y):=Nat.lt_of_lt_of_le ((blen_le_iff x _).1 (Nat.le_refl _)) (Nat.pow_le_pow_right (by omega) h)
 have h2:2 ^ (blen y - 1)≤y:=by
  refine Nat.le_of_not_lt fun hlt=>?_
  have h3:=(blen_le_iff y _).2 hlt
  have h4:0<blen y:=by
   rcases Nat.eq_zero_or_pos (blen y) with h0|h0
   ·have:=(blen_le_iff y 0).1 (by omega)
    omega
   ·exact h0
  omega
 have h4:0<blen y:=by
  rcases Nat.eq_zero_or_pos (blen y) with h0|h0
  ·have:=(blen_le_iff y 0).1 (by omega)
   omega
  ·exact h0
 have h5:2 ^ (n+blen y)=2 ^ (n+1)*2 ^ (blen y - 1):=by rw [←Nat.pow_add];congr 1;omega
 rw [h5] at h1
 exact Nat.lt_of_lt_of_le h1 (Nat.mul_le_mul_left _ h2)

end Lm

theorem wboth_near (va vb:Value)(X Y:List Nat)(w:World)(hA0:Arg w va X)(hB:Arg w vb Y)(hT:Tab w)(hx0:X.length≤17592186044000)(hy:Y.length≤17592186044000)(hy0:0<val Y)(hn:blen (val X)<67108864+blen (val Y)) :
  Calls Tryz.prog 69 #[va,vb] w (WDone2 w (val X / val Y) (val X % val Y)):=by
 obtain⟨a1,c1,rfl,T1,hA⟩:=hA0.wtrim
 have HT1:=T1 w (Below.refl _ _)
 have g1:=tr_length_le X
 rw [←val_tr X] at hn ⊢
 clear T1 hA0
 generalize tr X=P at *
 have hx:P.length≤17592186044000:=by omega
 have hq:=blen_quoW (x:=val P) hy0 67108863 (by omega)
 have L1:=aE _ _ w hA
 have L2:=aE _ _ w hB
 have hbx:blen (val P)≤P.length*64:=(blen_le_iff _ _).2 (by have:=val_lt hA.limbs;rw [W_pow] at this;exact this)
 have hby:blen (val Y)≤Y.length*64:=(blen_le_iff _ _).2 (by have:=val_lt hB.limbs;rw [W_pow] at this;exact this)
 obtain⟨d,hd⟩:∃d:Int,((blen (val P):Nat):Int) - ((blen (val Y):Nat):Int)=d:=⟨_,rfl⟩
 have i1:¬(67108864:Int)≤d:=by omega
 have wd:IntKind.i64.wrap d=d:=by rw [IntKind.wrap_i64];omega
 have wd2:IntKind.i64.wrap (((blen (val P):Nat):Int) - ((blen (val Y):Nat):Int))=d:=by rw [IntKind.wrap_i64];omega
 by_cases hs:blen (val Y)≤67108864
 ·have i2:((blen (val Y):Nat):Int)≤67108864:=by omega
  have HB:=gC _ vb P Y w hA hB hT (by omega) (by omega) (by omega)
  have hm:blen (val P % val Y)≤67108864:=by
   exact Nat.le_trans (blen_mono (Nat.le_of_lt (Nat.mod_lt (val P) hy0))) hs
  have HQ:=aa (And.intro hq hm)
  clear hA hB hT hq hm
  generalize val P / val Y=qq at *
  generalize val P % val Y=mm at *
  generalize blen (val P)=lx at *
  generalize blen (val Y)=ly at *
  go_enter Tryz.func69,Tryz.ntmps69
  go_wp2_with fail
  refine HT1.mono ?_
  rintro e wn ⟨rfl,hw⟩;rw [hw];clear hw wn HT1
  go_wp2_with fail
  refine L1.mono ?_
  rintro e wn ⟨rfl,hw⟩;rw [hw];clear hw wn L1
  go_wp2_with fail
  refine L2.mono ?_
  rintro e wn ⟨rfl,hw⟩;rw [hw];clear hw wn
  go_wp2_with fail
  refine L2.mono ?_
  rintro e wn ⟨rfl,hw⟩;rw [hw];clear hw wn
  go_wp2_with fail
  refine HB.mono ?_
  rintro e w1 ⟨⟨v1,v2,c,r1,r2,mid,rfl,a1,⟨m1,m2⟩,hlo,a2,hres⟩,hb⟩
  have hd2:WDone2 w qq mm (.returned (.tuple #[v1,v2])) w1:=by
   rcases hres with ⟨_,q1,q2,q3,q4,_⟩|⟨_,_,_,q4⟩
   ·exact⟨⟨v1,v2,r1,r2,rfl,a1,a2.base m1,q1,q2,q3,q4,apart_of hlo a2⟩,hb⟩
   ·have:=HQ.out;omega
  have HD:=aa hd2
  clear hres hd2 a1 a2 hb
  go_wp2
  go_returns
  exact HD.out
 ·have i2:¬((blen (val Y):Nat):Int)≤67108864:=by omega
  have HQ:=lW _ vb P Y w hA hB hT (by omega) (by omega) (by omega)
  have HA:=aa hA
  have HB:=aa hB
  have HT:=aa hT
  have HL:=aa (And.intro hq hy0)
  clear hA hB hT hq
  generalize hlx:blen (val P)=lx at *
  generalize hly:blen (val Y)=ly at *
  clear hlx hly
  go_enter Tryz.func69,Tryz.ntmps69
  go_wp2_with fail
  refine HT1.mono ?_
  rintro e wn ⟨rfl,hw⟩;rw [hw];clear hw wn HT1
  go_wp2_with fail
  refine L1.mono ?_
  rintro e wn ⟨rfl,hw⟩;rw [hw];clear hw wn L1
  go_wp2_with fail
  refine L2.mono ?_
  rintro e wn ⟨rfl,hw⟩;rw [hw];clear hw wn
  go_wp2_with fail
  refine L2.mono ?_
  rintro e wn ⟨rfl,hw⟩;rw [hw];clear hw wn
  go_wp2_with fail
  refine HQ.mono ?_
  rintro e w1 ⟨hb,v,c,rs,rfl,ha,hres⟩
  obtain⟨rfl,q1,q2⟩:c=0∧val rs=val P / val Y∧tr rs=rs:=by
   rcases hres with ⟨h1,h2,h3,_⟩|⟨_,_,q4⟩
   ·exact⟨h1,h2,h3⟩
   ·have:=HL.out.1;omega
  have hrl:rs.length≤P.length:=by
   rw [←q2]
   refine az rs _ ?_
   rw [q1]
   exact Nat.lt_of_le_of_lt (Nat.div_le_self _ _) (val_lt HA.out.limbs)
  have HP:=jT (rs.length+Y.length+1) rs Y v vb w1 (by omega) (by omega) (ha.arg (by omega)) (HB.out.below hb) (HT.out.below hb)
  clear hres
  go_wp2_with fail
  refine HP.mono ?_
  rintro e w2 ⟨⟨v2,r2,rfl,a2,p1,p2⟩,hb2⟩
  have hmod:=Nat.div_add_mod (val P) (val Y)
  have hr2:r2.length≤1125899906842624:=by
   rw [←p2]
   refine Nat.le_trans (az r2 P.length ?_) (by omega)
   rw [p1,q1,Nat.mul_comm]
   have:=val_lt HA.out.limbs
   omega
  have hbb:Below w.heap.size w w2:=hb.trans (hb2.mono hb.size)
  have HLS:=gT _ v2 P r2 w2 (HA.out.below hbb) (a2.arg hr2) (by omega) (by rw [p1,q1,Nat.mul_comm];omega)
  rw [p1,q1,Nat.mul_comm (val P / val Y),show val P - val Y*(val P / val Y)=val P % val Y by omega] at HLS
  have HV:=aa (And.intro (ha.below hb2) (And.intro q1 q2))
  have HBB:=aa hbb
  clear ha hb a2 p1 p2 hb2 hbb q1 q2 hmod hr2
  go_wp2_with fail
  refine HLS.mono ?_
  rintro e w3 ⟨⟨v3,r3,rfl,a3,p1,p2⟩,hb3⟩
  have HD:=aa (show WDone2 w (val P / val Y) (val P % val Y) (.returned (.tuple #[v,v3])) w3 from ⟨⟨v,v3,rs,r3,rfl,HV.out.1.below hb3,a3.base HBB.out.size,HV.out.2.1,HV.out.2.2,p1,p2,apart_of (fun g hg=>(HV.out.1.own.lt g hg).2) a3⟩,HBB.out.trans (hb3.mono HBB.out.size)⟩)
  clear a3 p1 p2 hb3 HV
  go_wp2
  go_returns
  exact HD.out

theorem wboth_any:∀(N:Nat) (X Y:List Nat) (va vb:Value) (w:World),blen (val X)≤N+blen (val Y)→Arg w va X→Arg w vb Y→Tab w→X.length≤17592186044000→Y.length≤17592186044000→0<val Y →
  Calls Tryz.prog 69 #[va,vb] w (WDone2 w (val X / val Y) (val X % val Y)):=by
 intro N
 induction N with
 | zero=>
  intro X Y va vb w hN hA hB hT hx hy hy0
  exact wboth_near va vb X Y w hA hB hT hx hy hy0 (by omega)
 | succ N ih=>
  intro X Y va vb w hN hA0 hB hT hx0 hy hy0
  by_cases hnear:blen (val X)<67108864+blen (val Y)
  ·exact wboth_near va vb X Y w hA0 hB hT hx0 hy hy0 hnear
  ·obtain⟨a1,c1,rfl,T1,hA⟩:=hA0.wtrim
   have HT1:=T1 w (Below.refl _ _)
   have g1:=tr_length_le X
   rw [←val_tr X] at hN hnear ⊢
   clear T1 hA0
   generalize tr X=P at *
   have hx:P.length≤17592186044000:=by omega
   have L1:=aE _ _ w hA
   have L2:=aE _ _ w hB
   have hbx:blen (val P)≤P.length*64:=(blen_le_iff _ _).2 (by have:=val_lt hA.limbs;rw [W_pow] at this;exact this)
   obtain⟨m,hm⟩:∃m,blen (val P) - blen (val Y)=m:=⟨_,rfl⟩
   obtain⟨k,hk⟩:∃k,m / 128=k:=⟨_,rfl⟩
   have em:((blen (val P):Nat):Int) - ((blen (val Y):Nat):Int)=(m:Int):=by omega
   have ek:(m:Int) / 128=(k:Int):=by omega
   have i1:(67108864:Int)≤(m:Int):=by omega
   have wm:IntKind.i64.wrap (m:Int)=(m:Int):=by rw [IntKind.wrap_i64];omega
   have hkP:k<P.length:=by omega
   have hk1:1≤k:=by omega
   obtain⟨b0,o0,rfl⟩:∃b off,a1=some ⟨b,off,none⟩:=by
    obtain⟨_,_,e,_,_,hl⟩:=hA.form
    cases e
    rcases hl with h0|⟨b,off,e,_⟩
    ·have hz:P.length=0:=by rw [h0];rfl
     omega
    ·exact⟨b,off,e⟩
   have hcap:P.length≤c1:=by obtain⟨_,_,e,h,_,_⟩:=hA.form;cases e;exact h
   have hcm:c1≤9223372036854775807:=by obtain⟨_,_,e,_,h,_⟩:=hA.form;cases e;exact h
   have vh:=bi P k (by omega)
   have lth:=val_lt (hA.front k (by omega)).limbs
   have lt1:(P.take k).length=k:=by simp;omega
   have ld1:(P.drop k).length=P.length - k:=by simp
   rw [lt1] at lth
   have edv:val P / 18446744073709551616 ^ k=val (P.drop k):=by
    rw [vh,Nat.add_mul_div_left _ _ (W_pos k),Nat.div_eq_of_lt lth,Nat.zero_add]
   have emd:val P % 18446744073709551616 ^ k=val (P.take k):=by
    rw [vh,Nat.add_mul_mod_self_left,Nat.mod_eq_of_lt lth]
   obtain⟨P1,P2,P3⟩:=both_partsW (val P) (val Y) (18446744073709551616 ^ k) (W_pos k) hy0
   rw [edv,emd] at P1 P2 P3
   have hbh:blen (val (P.drop k))≤N+blen (val Y):=by
    rw [←edv,blen_le_iff,Nat.div_lt_iff_lt_mul (W_pos k),W_pow,←Nat.pow_add]
    exact (blen_le_iff _ _).1 (by omega)
   have hbl:blen (val (P.take k)+18446744073709551616 ^ k*(val (P.drop k) % val Y))≤k*64+blen (val Y):=by
    rw [blen_le_iff,Nat.pow_add,←W_pow]
    have h1:=Nat.mod_lt (val (P.drop k)) hy0
    have h3:=(blen_le_iff (val Y) _).1 (Nat.le_refl _)
    generalize val (P.drop k) % val Y=R at *
    have h4:18446744073709551616 ^ k*(R+1)≤18446744073709551616 ^ k*2 ^ blen (val Y):=Nat.mul_le_mul_left _ (by omega)
    rw [Nat.mul_add,Nat.mul_one] at h4
    omega
   have HA:=aa hA
   have HB:=aa hB
   have HT:=aa hT
   have HP:=aa (And.intro P1 (And.intro P2 P3))
   have HBL:=aa (And.intro hbh hbl)
   have HIH:=aa ih
   have hlen2:k*64+blen (val Y)≤P.length*64:=by omega
   have hN2:k*64+blen (val Y)≤N+blen (val Y):=by omega
   have HI1:=ih (P.drop k) Y _ vb w hbh (hA.drop k (by omega)) hB hT (by omega) hy hy0
   have hne:¬c1=k:=by omega
   have hkc:k≤c1:=by omega
   clear P1 P2 P3 hbh hbl hA hB hT hm hk ih vh edv emd lth
   generalize hlx:blen (val P)=lx at *
   generalize hly:blen (val Y)=ly at *
   have HX:=aa (And.intro hlx hly)
   clear hlx hly
   go_enter Tryz.func69,Tryz.ntmps69
   go_wp2_with fail
   refine HT1.mono ?_
   rintro e wn ⟨rfl,hw⟩;rw [hw];clear hw wn HT1
   go_wp2_with fail
   refine L1.mono ?_
   rintro e wn ⟨rfl,hw⟩;rw [hw];clear hw wn L1
   go_wp2_with fail
   refine L2.mono ?_
   rintro e wn ⟨rfl,hw⟩;rw [hw];clear hw wn L2
   go_wp2_with fail
   refine HI1.mono ?_
   rintro e w2 ⟨⟨vh,vr,rh,rr,rfl,ah,ar,ph,th,pr,tr',_⟩,hb2⟩
   have HB2:=aa hb2
   have lrr:rr.length≤Y.length:=by
    rw [←tr']
    refine az rr _ ?_
    rw [pr]
    exact Nat.lt_trans (Nat.mod_lt _ hy0) (val_lt HB.out.limbs)
   have HJ:=gJ vr _ rr (P.take k) k w2 (ar.arg (by omega)) ((HA.out.front k (by omega)).below hb2) (by omega) (by omega) (by omega)
   rw [pr] at HJ
   have HAH:=aa (And.intro ah (And.intro ph th))
   clear ah ar ph th pr tr' hb2 HI1
   go_wp2_with fail
   refine HJ.mono ?_
   rintro e w4 ⟨⟨vj,rj,rfl,aj,pj,tj⟩,hb4⟩
   have HB4:=aa (HB2.out.trans (hb4.mono HB2.out.size))
   have hbj:blen (val rj)≤k*64+ly:=by rw [pj];exact HBL.out.2
   have lj:rj.length≤P.length:=cQ tj rfl (by omega)
   have HI2:=HIH.out rj Y vj vb w4 (by rw [HX.out.2];omega) (aj.arg (by omega)) (HB.out.below HB4.out) (HT.out.below HB4.out) (by omega) hy hy0
   have pj2:val rj=val (P.drop k) % val Y*18446744073709551616 ^ k+val (P.take k):=by rw [pj,Nat.add_comm,Nat.mul_comm]
   rw [pj2,←HP.out.2.1] at HI2
   have HAH2:=aa (And.intro (HAH.out.1.below hb4) HAH.out.2)
   clear aj pj tj hb4 HJ hbj pj2
   go_wp2_with fail
   refine HI2.mono ?_
   rintro e w5 ⟨⟨vl,vr2,rl,rr2,rfl,al,ar2,pl,tl,pr2,tr2,_⟩,hb5⟩
   have HB5:=aa (HB4.out.trans (hb5.mono HB4.out.size))
   have lrh:rh.length≤P.length:=by
    rw [←HAH2.out.2.2]
    refine az rh _ ?_
    rw [HAH2.out.2.1]
    refine Nat.lt_of_le_of_lt (Nat.div_le_self _ _) ?_
    have h:=val_lt (HA.out.drop k (by omega)).limbs
    rw [ld1] at h
    exact Nat.lt_of_lt_of_le h (Nat.pow_le_pow_right (by omega) (by omega))
   have lrl:rl.length≤k:=by
    rw [←tl]
    refine az rl _ ?_
    rw [pl]
    exact HP.out.2.2
   have HJ2:=gJ vh vl rh rl k w5 ((HAH2.out.1.below hb5).arg (by omega)) (al.arg (by omega)) (by omega) (by omega) lrl
   rw [pl,HAH2.out.2.1,←HP.out.1] at HJ2
   have HR2:=aa (And.intro ar2 (And.intro pr2 tr2))
   clear al ar2 pl tl pr2 tr2 hb5 HI2
   go_wp2_with fail
   refine HJ2.mono ?_
   rintro e w6 ⟨⟨vq,rq,rfl,aq,pq,tq⟩,hb6⟩
   have HD:=aa (show WDone2 w (val P / val Y) (val P % val Y) (.returned (.tuple #[vq,vr2])) w6 from ⟨⟨vq,vr2,rq,rr2,rfl,aq.base HB5.out.size,(HR2.out.1.base HB4.out.size).below hb6,pq,tq,HR2.out.2.1,HR2.out.2.2,apart_of2 (fun g hg=>(HR2.out.1.own.lt g hg).2) aq⟩,HB5.out.trans (hb6.mono HB5.out.size)⟩)
   clear aq pq tq hb6
   go_wp2
   go_returns
   exact HD.out
end Go.Proofs.YtkhckcfikljjhaaGreatDoor
namespace Go.Proofs.YtkhckcfikljjhaaGreatDoor
open Go.RowKit
open Lm

def py (w:World)(base:Nat)(b1:Bool)(v1:Value)(b2:Bool)(v2:Value)(c qz rz:Int):Prop:=
 ∃rs1 rs2,Ans w base v1 rs1∧Ans w base v2 rs2∧(v1.ownBlock=none∨v1.ownBlock≠v2.ownBlock) ∧
  ((c=0∧b1=decide (qz<0)∧val rs1=qz.natAbs∧tr rs1=rs1∧b2=decide (rz<0)∧val rs2=rz.natAbs∧tr rs2=rs2∧blen qz.natAbs≤67108864∧blen rz.natAbs≤67108864) ∨
   (c=3∧b1=false∧v1=.slice none 0 0∧b2=false∧v2=.slice none 0 0∧rs1=[]∧rs2=[]∧(67108864<blen qz.natAbs∨67108864<blen rz.natAbs)))

def go (w:World)(qz rz:Int)(e:Ending)(w':World):Prop:=
 (∃b1 a1 n1 k1 b2 a2 n2 k2 c,e=.returned (.tuple #[.agg #[.bool b1,.slice a1 n1 k1],.agg #[.bool b2,.slice a2 n2 k2],.int .i64 c])∧py w' w.heap.size b1 (.slice a1 n1 k1) b2 (.slice a2 n2 k2) c qz rz)∧Below w.heap.size w w'

theorem ct {w:World}{base g:Nat}{a b a' b' u0 u1 u2 u3:Value}(h2:w.heap[g]?=some (.cells #[a,b] 27))(h3:w.heap[g+1]?=some (.cells #[a',b'] 27)) :
  ((((w.setCell ⟨g,0,none⟩ u0).setCell ⟨g,1,none⟩ u1).setCell ⟨g+1,0,none⟩ u2).setCell ⟨g+1,1,none⟩ u3).heap[g]?=some (.cells #[u0,u1] 27) ∧
  ((((w.setCell ⟨g,0,none⟩ u0).setCell ⟨g,1,none⟩ u1).setCell ⟨g+1,0,none⟩ u2).setCell ⟨g+1,1,none⟩ u3).heap[g+1]?=some (.cells #[u2,u3] 27) ∧
  (∀v zs,Ans w base v zs→Ans ((((w.setCell ⟨g,0,none⟩ u0).setCell ⟨g,1,none⟩ u1).setCell ⟨g+1,0,none⟩ u2).setCell ⟨g+1,1,none⟩ u3) base v zs):=by
 have h4:=gX (u0:=u0) (u1:=u1) h3 (show g+1≠g by omega)
 refine⟨gX (aL h2) (by omega),aL h4,fun v zs hA=>?_⟩
 exact (hA.duo h2).duo h4
end Go.Proofs.YtkhckcfikljjhaaGreatDoor
namespace Go.Proofs.YtkhckcfikljjhaaGreatDoor
open Go.RowKit
open Lm
attribute [local go_sem ↓] Go.wp_at_zero Go.wp_at_succ

theorem lZ (c:Int)(v:Value)(z:Int)(w:World)(hz:Zn w v z)(hc0:c≠0) :
  Calls Tryz.prog 11 #[.agg #[.bool false,.slice none 0 0],.int .i64 c,v,.int .i64 c] w fun e w'=>e=.returned (.bool true)∧Below w.heap.size w w':=by
 obtain⟨b9,a9,n9,k9,rfl,hb9,hn9,hz9⟩:=hz.parts
 obtain⟨w0,hw0,hb0,h0,h1⟩:=cW w (.cells #[.bool false,.slice none 0 0] 27) (.cells #[.bool b9,.slice a9 n9 k9] 32)
 obtain⟨k0,k1⟩:=duo h0
 obtain⟨k2,k3⟩:=duo h1
 have HN:=fz c w0
 have HB0:=aa hb0
 have hne:(c == 0)=false:=by simpa using hc0
 have hne2:(c != 0)=true:=by simpa using hc0
 have hcc:(c == c)=true:=by simp
 clear hz hn9 hz9 hb0 h0 h1 hb9
 go_enter Tryz.func11,Tryz.ntmps11
 go_wp2_with fail
 refine HN.mono ?_
 rintro e wn ⟨rfl,hw⟩;rw [hw];clear hw wn HN
 go_wp2
 go_ret
 exact⟨rfl,HB0.out⟩
end Go.Proofs.YtkhckcfikljjhaaGreatDoor

