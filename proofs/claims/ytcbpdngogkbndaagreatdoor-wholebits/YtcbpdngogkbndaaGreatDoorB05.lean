/- Package whole: sum. -/
import Derived.Test.YtcbpdngogkbndaaGreatDoorB03
import Derived.Test.YtcbpdngogkbndaaGreatDoorB04
import Derived.Handy
import Derived.Test.YtcbpdngogkbndaaGreatDoorB01
import Derived.Test.YtcbpdngogkbndaaGreatDoorB02
import Derived.Deep.CutBlock
import Derived.Deep.DeepCutAuto
import Derived.BigQuiet
set_option maxRecDepth 100000
set_option maxHeartbeats 1000000
namespace Go.Proofs.YtcbpdngogkbndaaGreatDoor
open Go.RowKit
open Lm
attribute [local go_sem ↓] Go.wp_at_zero Go.wp_at_succ

def aP (w:World)(x:Nat)(e:Ending)(w':World):Prop:=
 (∃v rs,e=.returned v∧Ans w' w.heap.size v rs∧val rs=x∧tr rs=rs)∧Below w.heap.size w w'

theorem Arg.wtrim {w:World}{v:Value}{X:List Nat}(h:Arg w v X):∃ao cap,v=.slice ao X.length cap∧(∀w',Below w.heap.size w w'→Calls Tryz.prog 63 #[v] w' fun e w''=>e=.returned (.slice ao (tr X).length cap)∧w''=w')∧Arg w (.slice ao (tr X).length cap) (tr X):=by
 obtain⟨ao,cap,rfl,h1,h2,h3⟩:=h.form
 exact⟨ao,cap,rfl,fun w' hb=>dk ao cap X w' h1 h2 (h3.below hb),h.trim⟩

theorem Arg.wlies {w:World}{a:Option Addr}{n c:Nat}{X:List Nat}(h:Arg w (.slice a n c) X):ak w a X:=by
 obtain⟨_,_,e,_,_,hl⟩:=h.form
 cases e
 exact hl

theorem aP.trimmed {w w':World}{g:Nat}{Z:List Nat}{x:Nat}(hg:w.heap.size≤g)(hb:Blk w' g Z)(hl:Limbs Z)(hz:Z.length≤1125899906842624)(hx:val Z=x)(hbel:Below w.heap.size w w') :
  Calls Tryz.prog 63 #[.slice (some ⟨g,0,none⟩) Z.length Z.length] w' fun e w''=>e=.returned (.slice (some ⟨g,0,none⟩) (tr Z).length Z.length)∧w''=w'∧aP w x e w'':=by
 have A1:=Ans.of_blk (base:=w.heap.size) (zs:=Z) hg hb List.take_length.symm (Nat.le_refl _) (by omega) hl
 have hA:=A1.arg hz
 obtain⟨ao,cap,e0,hT,_⟩:=hA.wtrim
 cases e0
 refine (hT w' (Below.refl _ _)).mono ?_
 rintro e w2 ⟨rfl,rfl⟩
 exact⟨rfl,rfl,⟨_,tr Z,rfl,A1.trim,by rw [val_tr];exact hx,tr_tr Z⟩,hbel⟩

theorem jq (va vb:Value)(X Y:List Nat)(w:World)(hA:Arg w va X)(hB:Arg w vb Y)(hx:X.length≤17592186044416)(hy:Y.length≤17592186044416) :
  Calls Tryz.prog 91 #[va,vb] w (aP w (val X+val Y)):=by
 obtain⟨a1,c1,rfl,T1,A1⟩:=hA.wtrim
 obtain⟨a2,c2,rfl,T2,A2⟩:=hB.wtrim
 have f1:=A1.few
 have f2:=A2.few
 have g1:=tr_length_le X
 have g2:=tr_length_le Y
 rw [←val_tr X,←val_tr Y]
 have HT1:=T1 w (Below.refl _ _)
 have HT2:=T2 w (Below.refl _ _)
 clear T1 T2
 generalize tr X=P at *
 generalize tr Y=Q at *
 clear hA hB
 obtain⟨i0,hi,hz0,hz1,hz2⟩:=info_parts Tryz.infoU
 go_enter Tryz.func91,Tryz.ntmps91
 go_wp2_with fail
 refine HT1.mono ?_
 rintro e wn ⟨rfl,hw⟩;rw [hw];clear hw wn HT1
 go_wp2_with fail
 refine HT2.mono ?_
 rintro e wn ⟨rfl,hw⟩;rw [hw];clear hw wn HT2
 by_cases hlt:P.length<Q.length
 ·have i1:(P.length:Int)<(Q.length:Int):=by omega
  obtain⟨H',eH,hH1,hH2⟩:∃H':Nat,(Q.length:Int)+1=(H':Int)∧H'≤Q.length+1∧Q.length+1≤H':=⟨Q.length+1,by omega,by omega,by omega⟩
  go_wp2_with (at_make;refine wpList_make_full _ rfl _ _ 25 rfl w.heap.size 60 i0 (.int .u64 0) 1 Tryz.underlying25 hi hz0 hz1 .i64 .i64 _ _ H' rfl rfl (by omega) (by omega) (by rw [hz2];omega) (by unfold maxLen;omega) (Nat.le_refl _) ?_;intro w1 hown hgrow;obtain⟨w2,M2,hcp,B2,L2,F2,O2,S2⟩:=aZ w.heap.size 0 H' H' (List.replicate H' 0) a2 c2 Q w1 (Blk.made hown) (limbs_replicate _) A2.limbs (aV H' 0 H') (by simp) (by omega) (A2.below ((Below.refl w.heap.size w).grown hgrow (Nat.le_refl _) (fun k hk=>by cases hk))).wlies)
  have hb1:Below w.heap.size w w1:=(Below.refl w.heap.size w).grown hgrow (Nat.le_refl _) (fun k hk=>by cases hk)
  have hb2:Below w.heap.size w w2:=hb1.trans (F2.below (Nat.le_refl _) hb1.size)
  have l2:M2.length=H':=by rw [O2.len,List.length_replicate]
  have s2:sv M2 0 H'=val Q:=S2
  have hfit:sv M2 0 H'+val P<18446744073709551616 ^ H':=by
   rw [s2]
   have h1:=val_lt A2.limbs
   have h2:=val_lt A1.limbs
   have h3:18446744073709551616 ^ P.length≤18446744073709551616 ^ Q.length:=Nat.pow_le_pow_right (by omega) (by omega)
   have h4:18446744073709551616 ^ H'=18446744073709551616 ^ Q.length*18446744073709551616:=by rw [show H'=Q.length+1 by omega,Nat.pow_succ]
   omega
  have HP:=dG w.heap.size 0 H' H' M2 _ P w2 B2 L2 (A1.below hb2) (fun h0 b off n c e=>.inl (by cases e;have:=A1.block h0;omega)) (by omega) (Nat.le_refl _) (by omega) (by omega) hfit
  clear B2 L2 F2 O2 S2 hown hgrow hb1
  refine HP.mono ?_
  rintro e w3 ⟨rfl,M3,O3,L3,B3,F3,S3⟩
  have HR:=aP.trimmed (w:=w) (x:=val Q+val P) (Nat.le_refl _) B3 L3 (by rw [O3.len];omega) (by rw [←s2,←S3,←l2,←O3.len,aR]) (hb2.trans (F3.below (Nat.le_refl _) hb2.size))
  have l3:M3.length=H':=by rw [O3.len];exact l2
  rw [l3] at HR
  clear HP O3 L3 B3 F3 S3 hb2 s2 hfit
  go_wp2_with fail
  refine HR.mono ?_
  rintro e w4 ⟨rfl,rfl,hd⟩
  have HD:=aa hd
  go_wp2
  go_returns
  rw [Nat.add_comm];exact HD.out
 ·have i1:¬(P.length:Int)<(Q.length:Int):=by omega
  obtain⟨H',eH,hH1,hH2⟩:∃H':Nat,(P.length:Int)+1=(H':Int)∧H'≤P.length+1∧P.length+1≤H':=⟨P.length+1,by omega,by omega,by omega⟩
  go_wp2_with (at_make;refine wpList_make_full _ rfl _ _ 25 rfl w.heap.size 60 i0 (.int .u64 0) 1 Tryz.underlying25 hi hz0 hz1 .i64 .i64 _ _ H' rfl rfl (by omega) (by omega) (by rw [hz2];omega) (by unfold maxLen;omega) (Nat.le_refl _) ?_;intro w1 hown hgrow;obtain⟨w2,M2,hcp,B2,L2,F2,O2,S2⟩:=aZ w.heap.size 0 H' H' (List.replicate H' 0) a1 c1 P w1 (Blk.made hown) (limbs_replicate _) A1.limbs (aV H' 0 H') (by simp) (by omega) (A1.below ((Below.refl w.heap.size w).grown hgrow (Nat.le_refl _) (fun k hk=>by cases hk))).wlies)
  have hb1:Below w.heap.size w w1:=(Below.refl w.heap.size w).grown hgrow (Nat.le_refl _) (fun k hk=>by cases hk)
  have hb2:Below w.heap.size w w2:=hb1.trans (F2.below (Nat.le_refl _) hb1.size)
  have l2:M2.length=H':=by rw [O2.len,List.length_replicate]
  have s2:sv M2 0 H'=val P:=S2
  have hfit:sv M2 0 H'+val Q<18446744073709551616 ^ H':=by
   rw [s2]
   have h1:=val_lt A1.limbs
   have h2:=val_lt A2.limbs
   have h3:18446744073709551616 ^ Q.length≤18446744073709551616 ^ P.length:=Nat.pow_le_pow_right (by omega) (by omega)
   have h4:18446744073709551616 ^ H'=18446744073709551616 ^ P.length*18446744073709551616:=by rw [show H'=P.length+1 by omega,Nat.pow_succ]
   omega
  have HP:=dG w.heap.size 0 H' H' M2 _ Q w2 B2 L2 (A2.below hb2) (fun h0 b off n c e=>.inl (by cases e;have:=A2.block h0;omega)) (by omega) (Nat.le_refl _) (by omega) (by omega) hfit
  clear B2 L2 F2 O2 S2 hown hgrow hb1
  refine HP.mono ?_
  rintro e w3 ⟨rfl,M3,O3,L3,B3,F3,S3⟩
  have HR:=aP.trimmed (w:=w) (x:=val P+val Q) (Nat.le_refl _) B3 L3 (by rw [O3.len];omega) (by rw [←s2,←S3,←l2,←O3.len,aR]) (hb2.trans (F3.below (Nat.le_refl _) hb2.size))
  have l3:M3.length=H':=by rw [O3.len];exact l2
  rw [l3] at HR
  clear HP O3 L3 B3 F3 S3 hb2 s2 hfit
  go_wp2_with fail
  refine HR.mono ?_
  rintro e w4 ⟨rfl,rfl,hd⟩
  have HD:=aa hd
  go_wp2
  go_returns
  exact HD.out

theorem ga (va vb:Value)(X Y:List Nat)(w:World)(hA:Arg w va X)(hB:Arg w vb Y)(hx:X.length≤17592186044416)(hle:val Y≤val X) :
  Calls Tryz.prog 89 #[va,vb] w (aP w (val X - val Y)):=by
 obtain⟨a1,c1,rfl,T1,A1⟩:=hA.wtrim
 obtain⟨a2,c2,rfl,T2,A2⟩:=hB.wtrim
 have f1:=A1.few
 have f2:=A2.few
 have g1:=tr_length_le X
 have hln:(tr Y).length≤(tr X).length:=aG Y _ (by have:=val_lt A1.limbs;rw [val_tr] at this;omega)
 rw [←val_tr X,←val_tr Y] at hle ⊢
 have HT1:=T1 w (Below.refl _ _)
 have HT2:=T2 w (Below.refl _ _)
 clear T1 T2
 generalize tr X=P at *
 generalize tr Y=Q at *
 clear hA hB
 obtain⟨i0,hi,hz0,hz1,hz2⟩:=info_parts Tryz.infoU
 go_enter Tryz.func89,Tryz.ntmps89
 go_wp2_with fail
 refine HT1.mono ?_
 rintro e wn ⟨rfl,hw⟩;rw [hw];clear hw wn HT1
 go_wp2_with fail
 refine HT2.mono ?_
 rintro e wn ⟨rfl,hw⟩;rw [hw];clear hw wn HT2
 obtain⟨n,hn⟩:∃n,P.length=n:=⟨_,rfl⟩
 have hPn:P.length≤n:=by omega
 rw [hn] at A1 f1 g1 hln ⊢
 go_wp2_with (at_make;refine wpList_make_full _ rfl _ _ 25 rfl w.heap.size 60 i0 (.int .u64 0) 1 Tryz.underlying25 hi hz0 hz1 .i64 .i64 _ _ n rfl rfl (by omega) (by omega) (by rw [hz2];omega) (by unfold maxLen;omega) (Nat.le_refl _) ?_;intro w1 hown hgrow;obtain⟨w2,M2,hcp,B2,L2,F2,O2,S2⟩:=aZ w.heap.size 0 n n (List.replicate n 0) a1 c1 P w1 (Blk.made hown) (limbs_replicate _) A1.limbs (aV n 0 n) (by simp) (by omega) (A1.below ((Below.refl w.heap.size w).grown hgrow (Nat.le_refl _) (fun k hk=>by cases hk))).wlies;rw [hn] at hcp)
 have hb1:Below w.heap.size w w1:=(Below.refl w.heap.size w).grown hgrow (Nat.le_refl _) (fun k hk=>by cases hk)
 have hb2:Below w.heap.size w w2:=hb1.trans (F2.below (Nat.le_refl _) hb1.size)
 have l2:M2.length=n:=by rw [O2.len,List.length_replicate]
 have s2:sv M2 0 n=val P:=S2
 have hao:0<Q.length→∀b off,a2=some ⟨b,off,none⟩→b≠w.heap.size∨off+Q.length≤0∨0+n≤off:=fun h b off e=>by
  subst e
  have:=A2.block h
  exact .inl (by omega)
 have L1:=(A2.below hb2).wlies
 have M1:=A2.limbs
 have HB2:=aa hb2
 have HS2:=aa s2
 have HB0:=aa B2
 have HL0:=aa L2
 have HLE:=aa hle
 clear A1 A2 S2 O2 F2 hown hgrow hb1 hb2 s2 hle hcp hi hz0 hz1 hz2
 go_loopw [6,22] (fun c i wr=>∃(k cy:Nat) (Z':List Nat),k≤Q.length∧i=.int .i64 k∧c=.int .u64 cy∧cy≤1∧Out M2 Z' 0 (0+k)∧Limbs Z'∧Blk wr w.heap.size Z'∧Fr w.heap.size w2 wr ∧
   sv Z' 0 k+val (Q.take k)=sv M2 0 k+cy*18446744073709551616 ^ k) (fun _ i _=>Q.length - (intOf i).toNat)
 case atStart=>exact⟨0,0,M2,Nat.zero_le _,rfl,rfl,by omega,Out.refl _ _ _,HL0.out,HB0.out,Fr.refl _ _,by simp [aH,val]⟩
 case round=>
  obtain⟨k,cy,Z',hk,rfl,rfl,hcy,hout,hlz,hblk,hfr0,hval⟩:=hrel
  have HV:=aa hval
  have HB:=aa hblk
  have HF:=aa hfr0
  have HO:=aa hout
  have hl:=hout.len
  clear hval
  by_cases hkl:k<Q.length
  ·rcases L1.fr (hao (by omega)) hfr0 B2 hblk (hout.wider (Nat.le_refl _) (by omega)) with h0|⟨b,off,rfl,hcell⟩
   ·rw [h0] at hkl;simp at hkl
   ·have hck:=hcell k hkl
    have hfr:=hblk.free k
    have hco:=hblk.cell k (by omega)
    have z1:=limb_lt M1 k
    have z2:=limb_lt hlz k
    have hsame:=hout.same k (by omega)
    have ha:=cI (Z'.getD k 0) (Q.getD k 0) cy hcy
    obtain⟨q1,q2,q3⟩:=cD (Z'.getD k 0) (Q.getD k 0) cy z2 z1 hcy
    have HS:=cl M2 Z' 0 k cy _ _ (Q.getD k 0) _ (by omega) hl HV.out (by rw [Nat.zero_add k,←hsame];exact q1)
    rw [←val_take_next Q k,Nat.zero_add k] at HS
    replace HS:=aa HS
    generalize Z'.getD k 0=z at *
    generalize Q.getD k 0=x at *
    clear hsame q1
    generalize (z+18446744073709551616 - x - cy) % 18446744073709551616=s at *
    generalize bor z x cy=c2 at *
    have i1:(k:Int)<(n:Int):=by omega
    clear hcell hblk hfr0 hout HV M1 L1 B2 L2
    go_wp2
    go_roundw
    case rel=>exact⟨k+1,c2,Z'.set k s,by omega,by go_num,rfl,q2,(HO.out.wider (Nat.le_refl _) (by omega)).set _ _ (by omega) (by omega),limbs_set hlz _ _ q3,HB.out.set _ s,HF.out.setCell _ _,HS.out⟩
    case measure=>simp [intOf];omega
  ·have ek:k=Q.length:=by omega
   subst ek
   rw [List.take_length] at HV
   clear hblk hfr0 hout L1 B2 M1 L2 hl
   go_wp2
   go_loopw [6,9] (fun c i wr2=>∃(k cy:Nat) (Z2:List Nat),k≤n∧i=.int .i64 k∧c=.int .u64 cy∧cy≤1∧Out M2 Z2 0 (0+k)∧Limbs Z2∧Blk wr2 w.heap.size Z2∧Fr w.heap.size w2 wr2 ∧
     sv Z2 0 k+val Q=sv M2 0 k+cy*18446744073709551616 ^ k) (fun _ i _=>n - (intOf i).toNat)
   case atStart=>exact⟨Q.length,cy,Z',hln,rfl,rfl,hcy,HO.out,hlz,HB.out,HF.out,HV.out⟩
   case round=>
    obtain⟨k,cy2,Z2,hk2,rfl,rfl,hcy2,hout2,hlz2,hblk2,hfr2,hval2⟩:=hrel
    clear HV HB HF HO
    have HV:=aa hval2
    have HB:=aa hblk2
    have HF:=aa hfr2
    have HO:=aa hout2
    have hl:=hout2.len
    clear hval2
    by_cases hc0:cy2=0
    ·subst hc0
     have hr:=fk M2 Z2 0 k n _ hk2 (by omega) hout2 (by have h:=HV.out;rw [Nat.zero_mul,Nat.add_zero] at h;exact h)
     have hlZ:Z2.length=n:=by rw [hl];exact l2
     have HR:=aP.trimmed (w:=w) (x:=val P - val Q) (Nat.le_refl _) hblk2 hlz2 (by omega) (by rw [←HS2.out,←hr,←hlZ,aR]) (HB2.out.trans (hfr2.below (Nat.le_refl _) HB2.out.size))
     rw [hlZ] at HR
     clear hblk2 hfr2 hout2 HV hr
     go_wp2_with fail
     refine HR.mono ?_
     rintro e w4 ⟨rfl,rfl,hd⟩
     have HD:=aa hd
     go_wp2
     go_returns
     exact HD.out
    ·have hpos:(0:Int)<(cy2:Int):=by omega
     have hkn:k<n:=by
      rcases Nat.lt_or_ge k n with h|h
      ·exact h
      ·have ek:k=n:=by omega
       subst ek
       exact absurd (eW M2 Z2 0 k cy2 (val Q) hlz2 (by rw [HS2.out];exact HLE.out) HV.out) hc0
     have hfr:=hblk2.free k
     have hco:=hblk2.cell k (by omega)
     have z2:=limb_lt hlz2 k
     have hsame:=hout2.same k (by omega)
     have ha:=fq (Z2.getD k 0) cy2 hcy2
     obtain⟨q1,q2,q3⟩:=cD (Z2.getD k 0) 0 cy2 z2 (by omega) hcy2
     have HS:=cl M2 Z2 0 k cy2 _ _ 0 _ (by omega) hl HV.out (by rw [Nat.zero_add k,←hsame];exact q1)
     rw [Nat.mul_zero,Nat.add_zero,Nat.zero_add k] at HS
     replace HS:=aa HS
     generalize Z2.getD k 0=z at *
     clear hsame q1
     generalize (z+18446744073709551616 - 0 - cy2) % 18446744073709551616=s at *
     generalize bor z 0 cy2=c2 at *
     have i1:(k:Int)<(n:Int):=by omega
     clear hblk2 hfr2 hout2 HV hc0
     go_wp2
     go_roundw
     case rel=>exact⟨k+1,c2,Z2.set k s,by omega,by go_num,rfl,q2,(HO.out.wider (Nat.le_refl _) (by omega)).set _ _ (by omega) (by omega),limbs_set hlz2 _ _ q3,HB.out.set _ s,HF.out.setCell _ _,HS.out⟩
     case measure=>simp [intOf];omega
end Go.Proofs.YtcbpdngogkbndaaGreatDoor
namespace Go.Proofs.YtcbpdngogkbndaaGreatDoor
open Go.RowKit
open Lm

def eg (bz zo n:Nat)(Z:List Nat)(w:World)(V:Nat)(e:Ending)(w':World):Prop:=
 ∃(cy:Nat) (Z':List Nat),cy≤1∧e=.returned (.int .u64 (cy:Int))∧Out Z Z' zo (zo+n)∧Limbs Z'∧Blk w' bz Z'∧Fr bz w w'∧sv Z' zo n+V=sv Z zo n+cy*18446744073709551616 ^ n

theorem iV (Z Z':List Nat)(o k n V:Nat)(hk:k≤n)(hn:o+n≤Z.length)(ho:Out Z Z' o (o+k))(h:sv Z' o k+V=sv Z o k):sv Z' o n+V=sv Z o n:=by
 obtain⟨d,rfl⟩:∃d,n=k+d:=⟨n - k,by omega⟩
 rw [ag Z' o k d (by rw [ho.len];omega),ag Z o k d (by omega),←h,ho.sv (o+k) d (by omega)]
 omega

theorem eG (bz zo n cap:Nat)(Z:List Nat)(va:Value)(X:List Nat)(w:World)(hB:Blk w bz Z)(hLZ:Limbs Z)(hA:Arg w va X)(ho:Off va bz zo (zo+n))
  (hzo:zo+n≤Z.length) (hc1:n≤cap) (hc2:cap≤9223372036854775807) (hfit:X.length≤n) :
  Calls Tryz.prog 128 #[.slice (some ⟨bz,zo,none⟩) n cap,va] w (eg bz zo n Z w (val X)):=by
 obtain⟨a1,c1,rfl,hcc1,hcm1,hl1⟩:=hA.form
 have hX:=hA.few
 have M1:=hA.limbs
 have hao:∀b off,a1=some ⟨b,off,none⟩→b≠bz∨off+X.length≤zo∨zo+n≤off:=fun b off e=>by
  subst e
  exact ho b off _ _ rfl
 have L1:=hl1
 clear ho hA hl1
 generalize X=P at *
 have HB0:=aa hB
 have HLZ:=aa hLZ
 go_enter Tryz.func128,Tryz.ntmps128
 go_wp2
 go_loopw [5,11] (fun c i wr=>∃(k cy:Nat) (Z':List Nat),k≤P.length∧i=.int .i64 k∧c=.int .u64 cy∧cy≤1∧Out Z Z' zo (zo+k)∧Limbs Z'∧Blk wr bz Z'∧Fr bz w wr ∧
   sv Z' zo k+val (P.take k)=sv Z zo k+cy*18446744073709551616 ^ k) (fun _ i _=>P.length - (intOf i).toNat)
 case atStart=>exact⟨0,0,Z,Nat.zero_le _,rfl,rfl,by omega,Out.refl _ _ _,HLZ.out,HB0.out,Fr.refl _ _,by simp [aH,val]⟩
 case round=>
  obtain⟨k,cy,Z',hk,rfl,rfl,hcy,hout,hlz,hblk,hfr0,hval⟩:=hrel
  have HV:=aa hval
  have HB:=aa hblk
  have HF:=aa hfr0
  have HO:=aa hout
  have hl:=hout.len
  clear hval
  by_cases hkl:k<P.length
  ·rcases L1.fr hao hfr0 hB hblk (hout.wider (Nat.le_refl _) (by omega)) with h0|⟨b,off,rfl,hcell⟩
   ·rw [h0] at hkl;simp at hkl
   ·have hck:=hcell k hkl
    have hfr:=hblk.free (zo+k)
    have hco:=hblk.cell (zo+k) (by omega)
    have z1:=limb_lt M1 k
    have z2:=limb_lt hlz (zo+k)
    have hsame:=hout.same (zo+k) (by omega)
    have ha:=cI (Z'.getD (zo+k) 0) (P.getD k 0) cy hcy
    obtain⟨q1,q2,q3⟩:=cD (Z'.getD (zo+k) 0) (P.getD k 0) cy z2 z1 hcy
    have HS:=aa (cl Z Z' zo k cy _ _ (P.getD k 0) _ (by omega) hl HV.out (by rw [←hsame];exact q1))
    rw [←val_take_next P k] at HS
    generalize Z'.getD (zo+k) 0=z at *
    generalize P.getD k 0=x at *
    clear hsame q1
    generalize (z+18446744073709551616 - x - cy) % 18446744073709551616=s at *
    generalize bor z x cy=c2 at *
    clear hcell hblk hfr0 hout HV M1 L1 hB hLZ
    go_wp2
    go_roundw
    case rel=>exact⟨k+1,c2,Z'.set (zo+k) s,by omega,by go_num,rfl,q2,(HO.out.wider (Nat.le_refl _) (by omega)).set _ _ (by omega) (by omega),limbs_set hlz _ _ q3,HB.out.set _ s,HF.out.setCell _ _,HS.out⟩
    case measure=>simp [intOf];omega
  ·have ek:k=P.length:=by omega
   subst ek
   rw [List.take_length] at HV
   clear hblk hfr0 hout L1 hB M1 hLZ hl
   go_wp2
   go_loopw [5,8] (fun c i wr2=>∃(k cy:Nat) (Z2:List Nat),k≤n∧i=.int .i64 k∧c=.int .u64 cy∧cy≤1∧Out Z Z2 zo (zo+k)∧Limbs Z2∧Blk wr2 bz Z2∧Fr bz w wr2 ∧
     sv Z2 zo k+val P=sv Z zo k+cy*18446744073709551616 ^ k) (fun _ i _=>n - (intOf i).toNat)
   case atStart=>exact⟨P.length,cy,Z',hfit,rfl,rfl,hcy,HO.out,hlz,HB.out,HF.out,HV.out⟩
   case round=>
    obtain⟨k,cy2,Z2,hk2,rfl,rfl,hcy2,hout2,hlz2,hblk2,hfr2,hval2⟩:=hrel
    clear HV HB HF HO
    have HV:=aa hval2
    have HB:=aa hblk2
    have HF:=aa hfr2
    have HO:=aa hout2
    have hl:=hout2.len
    clear hval2
    by_cases hc0:cy2=0
    ·subst hc0
     have HR:=aa (iV Z Z2 zo k n _ hk2 hzo hout2 (by have h:=HV.out;rw [Nat.zero_mul,Nat.add_zero] at h;exact h))
     clear hblk2 hfr2 hout2 HV
     go_wp2
     go_ret
     exact⟨0,Z2,by omega,rfl,HO.out.wider (Nat.le_refl _) (by omega),hlz2,HB.out,HF.out,by have:=HR.out;omega⟩
    ·have hpos:(0:Int)<(cy2:Int):=by omega
     by_cases hkn:¬k<n
     ·have ek:k=n:=by omega
      subst ek
      clear hblk2 hfr2 hout2
      have hend:¬((k:Int)<(k:Int)):=by omega
      go_wp2
      go_ret
      exact⟨cy2,Z2,hcy2,rfl,HO.out,hlz2,HB.out,HF.out,HV.out⟩
     replace hkn:k<n:=by omega
     have hkn':(k:Int)<(n:Int):=by omega
     have hfr:=hblk2.free (zo+k)
     have hco:=hblk2.cell (zo+k) (by omega)
     have z2:=limb_lt hlz2 (zo+k)
     have hsame:=hout2.same (zo+k) (by omega)
     have ha:=fq (Z2.getD (zo+k) 0) cy2 hcy2
     obtain⟨q1,q2,q3⟩:=cD (Z2.getD (zo+k) 0) 0 cy2 z2 (by omega) hcy2
     have HS:=aa (cl Z Z2 zo k cy2 _ _ 0 _ (by omega) hl HV.out (by rw [←hsame];exact q1))
     rw [Nat.mul_zero,Nat.add_zero] at HS
     generalize Z2.getD (zo+k) 0=z at *
     clear hsame q1
     generalize (z+18446744073709551616 - 0 - cy2) % 18446744073709551616=s at *
     generalize bor z 0 cy2=c2 at *
     clear hblk2 hfr2 hout2 HV hc0
     go_wp2
     go_roundw
     case rel=>exact⟨k+1,c2,Z2.set (zo+k) s,by omega,by go_num,rfl,q2,(HO.out.wider (Nat.le_refl _) (by omega)).set _ _ (by omega) (by omega),limbs_set hlz2 _ _ q3,HB.out.set _ s,HF.out.setCell _ _,HS.out⟩
     case measure=>simp [intOf];omega

def dj (w:World)(p n:Nat)(e:Ending)(w':World):Prop:=
 (∃v rs,e=.returned v∧Ans w' w.heap.size v rs∧val rs=p∧tr rs=rs∧rs.length≤n)∧Below w.heap.size w w'

theorem iQ (H T:Int)(va vb:Value)(X Y:List Nat)(w:World)(hA:Arg w va X)(hA2:Arg w vb Y)(hT:Tab w)(hX:val X≠0)(hY:val Y≠0)(hf:X.length+Y.length≤35184372088831)
  (hI:bB H T ((tr X).drop (aK (tr X))) ((tr Y).drop (aK (tr Y)))) :
  Calls Tryz.prog 123 #[way H T,va,vb] w (dj w (val X*val Y) (X.length+Y.length)):=by
 unfold way
 obtain⟨a1,c1,rfl,hcc1,hcm1,hl1⟩:=hA.form
 obtain⟨a2,c2,rfl,hcc2,hcm2,hl2⟩:=hA2.form
 have lX:=tr_length_le X
 have lY:=tr_length_le Y
 have hX0:tr X≠[]:=fun e=>hX (by rw [←val_tr,e];rfl)
 have hY0:tr Y≠[]:=fun e=>hY (by rw [←val_tr,e];rfl)
 obtain⟨i0,hi,hz0,hz1,hz2⟩:=info_parts Tryz.infoU
 obtain⟨w1,hw1⟩:∃w1,w1=w.alloc (.cells #[.int .i64 H,.int .i64 T] 135):=⟨_,rfl⟩
 have hbel1:Below w.heap.size w w1:=by rw [hw1];exact (Below.refl _ _).alloc (Nat.le_refl _) _
 have hs1:w1.heap.size=w.heap.size+1:=by rw [hw1];simp
 have hb1:w1.heap[w.heap.size]?=some (.cells #[.int .i64 H,.int .i64 T] 135):=by rw [hw1];exact heap_alloc_new ..
 have hc0:w1.cell? ⟨w.heap.size,0,none⟩=some (.int .i64 H):=by simp [World.cell?,hb1]
 have hc1:w1.cell? ⟨w.heap.size,1,none⟩=some (.int .i64 T):=by simp [World.cell?,hb1]
 have B1:=aa hbel1
 have HW1:=aa hw1
 have A1:=(hA.below hbel1).trim
 have A2:=(hA2.below hbel1).trim
 have hT1:=hT.below hbel1
 have H1:=bD a1 c1 X w1 hcc1 hcm1 (hl1.below hbel1)
 have H2:=bD a2 c2 Y w1 hcc2 hcm2 (hl2.below hbel1)
 rw [←val_tr X,←val_tr Y]
 have L1:=(hl1.below hbel1).tr
 have L2:=(hl2.below hbel1).tr
 have HPX:Hid (val (tr X)≠0):=aa (by rw [val_tr];exact hX)
 have HQY:Hid (val (tr Y)≠0):=aa (by rw [val_tr];exact hY)
 clear hA hA2 hT hl1 hl2 hX hY hw1 hbel1
 generalize tr X=P at *
 generalize tr Y=Q at *
 have hP:0<P.length:=List.length_pos_iff.2 hX0
 have hQ:0<Q.length:=List.length_pos_iff.2 hY0
 rcases L1 with h' | ⟨b,off,rfl,hcell1⟩
 ·exact absurd h' hX0
 rcases L2 with h' | ⟨b2,off2,rfl,hcell2⟩
 ·exact absurd h' hY0
 have hbw:=ak.block (zs:=P) (.inr ⟨b,off,rfl,hcell1⟩) hP
 have hbw2:=ak.block (zs:=Q) (.inr ⟨b2,off2,rfl,hcell2⟩) hQ
 clear hcell1 hcell2 hX0 hY0
 obtain⟨N,hN1,hN2,eN⟩:∃N:Nat,N≤P.length+Q.length∧P.length+Q.length≤N∧(P.length:Int)+(Q.length:Int)=(N:Int):=⟨P.length+Q.length,by omega,by omega,by omega⟩
 go_enter Tryz.func123,Tryz.ntmps123
 go_wp2_with fail
 rw [←HW1.out]
 refine H1.mono ?_
 rintro e w2 ⟨rfl,hw⟩;subst hw
 go_wp2_with fail
 refine H2.mono ?_
 rintro e w3 ⟨rfl,hw⟩;subst hw
 clear H1 H2
 go_wp2_with (at_make;refine wpList_make_full _ rfl _ _ 25 rfl w3.heap.size 60 i0 (.int .u64 0) 1 Tryz.underlying25 hi hz0 hz1 .i64 .i64 _ _ N rfl rfl (by omega) (by omega) (by rw [hz2];omega) (by unfold maxLen;omega) (Nat.le_refl _) ?_;intro w4 hown hgrow)
 have hb4:=Blk.made hown
 rw [hs1] at hb4
 have hbel4:Below w3.heap.size w3 w4:=(Below.refl _ _).grown hgrow (Nat.le_refl _) (fun k hk=>by cases hk)
 have hs4:w3.heap.size<w4.heap.size:=by rw [hs1];exact hb4.lt
 clear hown hgrow hi hz0 hz1 hz2
 have B4:Hid (Below w.heap.size w w4):=B1.out.trans (hbel4.mono (by omega))
 replace A1:=A1.below hbel4
 replace A2:=A2.below hbel4
 replace hT1:=hT1.below hbel4
 have hc04:w4.cell? ⟨w.heap.size,0,none⟩=some (.int .i64 H):=by rw [hbel4.cell (p:=⟨w.heap.size,0,none⟩) (by show w.heap.size<_;omega)];exact hc0
 have hc14:w4.cell? ⟨w.heap.size,1,none⟩=some (.int .i64 T):=by rw [hbel4.cell (p:=⟨w.heap.size,1,none⟩) (by show w.heap.size<_;omega)];exact hc1
 clear hc0 hc1 hb1 B1 HW1 hbel4
 refine (dh _ _ _ A1 hT1).mono ?_
 rintro e w5 ⟨⟨t,ht,rfl⟩,hw⟩;subst hw
 have li:=d6 P
 have li':=fh P HPX.out
 have vi:=dP P
 generalize aK P=i at *
 obtain⟨ti,eti⟩:∃ti:Nat,ti=i*64+t:=⟨_,rfl⟩
 have eI:(ti:Int) / 64=(i:Int):=by omega
 have hti:ti≤9223372036854775807:=by omega
 rw [←eti]
 clear eti ht
 go_wp2_with fail
 refine (dh _ _ _ A2 hT1).mono ?_
 rintro e w6 ⟨⟨u,hu,rfl⟩,hw⟩;subst hw
 have lj:=d6 Q
 have lj':=fh Q HQY.out
 have vj:=dP Q
 generalize aK Q=j at *
 obtain⟨tj,etj⟩:∃tj:Nat,tj=j*64+u:=⟨_,rfl⟩
 have eJ:(tj:Int) / 64=(j:Int):=by omega
 have htj:tj≤9223372036854775807:=by omega
 rw [←etj]
 clear etj hu hT1
 obtain⟨g,hg⟩:∃g,g=w.heap.size+1:=⟨_,rfl⟩
 have HI:=hI g (i+j) (N - (i+j)) (List.replicate N 0) _ _ w6.drew (by rw [hg];exact hb4) (limbs_replicate _) ((A1.drop i li).below ((Below.refl _ _).drew)) ((A2.drop j lj).below ((Below.refl _ _).drew))
  (fun b' off' n c e=>by cases e;omega) (fun b' off' n c e=>by cases e;omega) (by simp;omega) (by simp;omega) (by omega)
 rw [List.length_drop,List.length_drop] at HI
 have HVAL:=aa (fun Z ho hs=>iI Z P Q i j N li lj (by omega) vi vj ho hs)
 clear vi vj hI A1 A2
 obtain⟨M,hM1,hM2⟩:∃M,P.length - i+(Q.length - j)=M∧N - (i+j)=M:=⟨_,rfl,by omega⟩
 rw [hM1,hM2] at HI
 rw [hM1] at HVAL
 have eS:(i:Int)+(j:Int)=((i+j:Nat):Int):=by omega
 have hS:i+j+M≤N:=by omega
 have hS2:N≤i+j+M:=by omega
 generalize i+j=s at *
 have wS:IntKind.i64.wrap (s:Int)=(s:Int):=by rw [IntKind.wrap_i64];omega
 have k1:(0:Int)≤(s:Int):=by omega
 have k2:(s:Int)≤(N:Int):=by omega
 have k3:(0:Int)≤(i:Int):=by omega
 have k4:(i:Int)≤(P.length:Int):=by omega
 have k5:(0:Int)≤(j:Int):=by omega
 have k6:(j:Int)≤(Q.length:Int):=by omega
 have k7:(i:Int)≤(c1:Int):=by omega
 have k8:(j:Int)≤(c2:Int):=by omega
 have k9:¬N=s:=by omega
 have k10:¬c1=i:=by omega
 have k11:¬c2=j:=by omega
 clear hM1
 rw [←hg]
 have HG:=aa hg
 clear hg
 unfold way at HI
 have HK:=aa (fun (w7:World) (hF:Fr g w6.drew w7)=>(⟨by rw [World.cell?_of_block (w:=w6.drew) (hF.block w.heap.size (by show _<w6.heap.size;have:=HG.out;omega) (by have:=HG.out;omega))];exact hc04,by rw [World.cell?_of_block (w:=w6.drew) (hF.block w.heap.size (by show _<w6.heap.size;have:=HG.out;omega) (by have:=HG.out;omega))];exact hc14⟩:w7.cell? ⟨w.heap.size,0,none⟩=some (.int .i64 H)∧w7.cell? ⟨w.heap.size,1,none⟩=some (.int .i64 T)))
 go_wp2
 go_region_held3 (fun w'=>w'.cell? ⟨w.heap.size,0,none⟩=some (.int .i64 H)∧w'.cell? ⟨w.heap.size,1,none⟩=some (.int .i64 T)) (go_keep) (first | (go_at_call 131;refine HI.mono ?_;rintro e w7 ⟨rfl,Z',hO,hlz,hB7,hF7,hv7⟩;obtain⟨hk0,hk1⟩:=HK.out w7 hF7;have HD:=aa (And.intro hO (And.intro hlz (And.intro hB7 (And.intro hF7 hv7))));clear hO hlz hB7 hF7 hv7))
 obtain⟨hO,hlz,hB7,hF7,hv7⟩:=HD.out
 have hlZ:Z'.length=N:=by rw [hO.len];simp
 have hvz:=HVAL.out Z' (by exact hO) hv7
 have hans:=(Ans.of_blk (base:=w.heap.size) (zs:=Z') (by have:=HG.out;omega) hB7 List.take_length.symm (Nat.le_refl _) (by omega) hlz).trim
 have HT2:=bD (some ⟨g,0,none⟩) N Z' w7 (by omega) (by omega) (.inr ⟨g,0,rfl,fun k hk=>by rw [Nat.zero_add];exact hB7.cell k hk⟩)
 rw [hlZ] at HT2 hans
 have hlt:=tr_length_le Z'
 have HR:Hid (dj w (val P*val Q) (X.length+Y.length) (.returned (.slice (some ⟨g,0,none⟩) (tr Z').length N)) w7):=
  aa ⟨⟨_,tr Z',rfl,hans,by rw [val_tr,hvz],tr_tr _,by omega⟩,B4.out.trans ((Fr.trans (Fr.refl g w6).drew hF7).below (by have:=HG.out;omega) B4.out.size)⟩
 clear hO hlz hB7 hF7 hv7 HD HVAL HI HK hans hvz hb4 B4 HG
 generalize (tr Z').length=n' at *
 go_wp2_with fail
 refine HT2.mono ?_
 rintro e w8 ⟨rfl,hw⟩;subst hw
 clear HT2
 go_wp2
 go_ret
 exact HR.out

theorem og (v:Value)(base:Nat)(xs:List Nat)(w:World)(h:Ans w base v xs)(hf:xs.length≤1125899906842624) :
  Calls Tryz.prog 122 #[v] w fun e w'=>w'=w∧Res w base e (val xs):=by
 have ha:=h.arg hf
 obtain⟨ao,cap,rfl,hcap,hmax,hlies⟩:=ha.form
 have hle:=tr_length_le xs
 have H1:=bD _ cap xs w hcap hmax hlies
 have H2:=aQ _ _ _ ha
 have HA:Hid (Ans w base (.slice ao (tr xs).length cap) (tr xs)):=h.trim
 have HT:Hid (tr (tr xs)=tr xs∧val (tr xs)=val xs):=⟨tr_tr xs,val_tr xs⟩
 unfold Res
 generalize tr xs=T at *
 generalize val xs=V at *
 generalize blen V=y at *
 clear hlies h ha
 by_cases hy:y≤67108864
 ·go_enter Tryz.func122,Tryz.ntmps122
  go_wp2_with fail
  refine H2.mono ?_
  rintro e w' ⟨rfl,rfl⟩
  go_wp2_with fail
  refine H1.mono ?_
  rintro e w' ⟨rfl,rfl⟩
  go_wp2
  go_ret2
  exact⟨rfl,_,_,T,rfl,HA.out,.inl ⟨rfl,HT.out.2,HT.out.1,hy⟩⟩
 ·go_enter Tryz.func122,Tryz.ntmps122
  go_wp2_with fail
  refine H2.mono ?_
  rintro e w' ⟨rfl,rfl⟩
  go_wp2
  go_ret2
  exact⟨rfl,_,_,[],rfl,Ans.nil _ _,.inr ⟨rfl,rfl,by omega⟩⟩

theorem ii (x:Nat)(h:x≠0):2 ^ (blen x - 1)≤x:=by
 refine Nat.le_of_not_lt fun hlt=>?_
 have h1:=(blen_le_iff x (blen x - 1)).2 hlt
 have h2:blen x≠0:=by unfold blen;rw [if_neg h];omega
 omega

theorem iR (x y:Nat):bU x y≤blen (x*y):=by
 unfold bU
 split
 ·omega
 ·rename_i h
  have hx:x≠0:=fun e=>h (.inl e)
  have hy:y≠0:=fun e=>h (.inr e)
  have bx:blen x≠0:=by unfold blen;rw [if_neg hx];omega
  have by':blen y≠0:=by unfold blen;rw [if_neg hy];omega
  refine Nat.le_of_not_lt fun hlt=>?_
  have h1:blen (x*y)≤(blen x - 1)+(blen y - 1):=by omega
  rw [blen_le_iff,Nat.pow_add] at h1
  have:=Nat.mul_le_mul (ii x hx) (ii y hy)
  omega

theorem kl (w:World):Calls Tryz.prog 116 #[] w fun e w'=>e=.returned (way 40 200)∧Below w.heap.size w w':=by
 go_enter Tryz.func116,Tryz.ntmps116
 go_wp2
 go_returns
 exact⟨rfl,(Below.refl _ _).alloc (Nat.le_refl _) _⟩

theorem Blk.lits (w:World)(zs:List Nat)(cs:Array Value)(t:TypeId)(ht:t=60)(h:cs=(zs.map lv).toArray):Blk (w.alloc (.cells cs t)) w.heap.size zs:=by
 subst h;subst ht
 unfold Blk
 rw [heap_alloc_new]

theorem Arg.lits (w:World)(zs:List Nat)(cs:Array Value)(n:Nat)(hn:n=zs.length)(h:cs=(zs.map lv).toArray)(hl:Limbs zs)(hf:zs.length≤1000):Arg (w.alloc (.cells cs 60)) (.slice (some ⟨w.heap.size,0,none⟩) n n) zs:=by
 subst hn
 have hb:=Blk.lits w zs cs _ rfl h
 exact⟨⟨_,_,rfl,Nat.le_refl _,by omega,.inr ⟨_,0,rfl,fun k hk=>by rw [Nat.zero_add];exact hb.cell k hk⟩⟩,hl,by omega,fun n c e=>by cases e⟩


end Go.Proofs.YtcbpdngogkbndaaGreatDoor
namespace Go.Proofs.YtcbpdngogkbndaaGreatDoor
open Go.RowKit
open Lm
attribute [local go_sem ↓] Go.wp_at_zero Go.wp_at_succ

theorem ml (bz zo n cap:Nat)(Z:List Nat)(va:Value)(X:List Nat)(m:Nat)(w:World)(hB:Blk w bz Z)(hLZ:Limbs Z)(hA:Arg w va X)(ho:Off va bz zo (zo+n))
  (hzo:zo+n≤Z.length) (hc1:n≤cap) (hc2:cap≤9223372036854775807) (hm:m<18446744073709551616) (hfit:X.length<n) :
  Calls Tryz.prog 125 #[.slice (some ⟨bz,zo,none⟩) n cap,va,.int .u64 m] w (eg bz zo n Z w (val X*m)):=by
 obtain⟨a1,c1,rfl,hcc1,hcm1,hl1⟩:=hA.form
 have hX:=hA.few
 have M1:=hA.limbs
 have hao:∀b off,a1=some ⟨b,off,none⟩→b≠bz∨off+X.length≤zo∨zo+n≤off:=fun b off e=>by
  subst e
  exact ho b off _ _ rfl
 have L1:=hl1
 clear ho hA hl1
 generalize X=P at *
 have HB0:=aa hB
 have HLZ:=aa hLZ
 go_enter Tryz.func125,Tryz.ntmps125
 go_wp2
 go_loopw [7,16] (fun c i wr=>∃(k cy:Nat) (Z':List Nat),k≤P.length∧i=.int .i64 k∧c=.int .u64 cy∧cy<18446744073709551616∧Out Z Z' zo (zo+k)∧Limbs Z'∧Blk wr bz Z'∧Fr bz w wr ∧
   sv Z' zo k+val (P.take k)*m=sv Z zo k+cy*18446744073709551616 ^ k) (fun _ i _=>P.length - (intOf i).toNat)
 case atStart=>exact⟨0,0,Z,Nat.zero_le _,rfl,rfl,by omega,Out.refl _ _ _,HLZ.out,HB0.out,Fr.refl _ _,by simp [aH,val]⟩
 case round=>
  obtain⟨k,cy,Z',hk,rfl,rfl,hcy,hout,hlz,hblk,hfr0,hval⟩:=hrel
  have HV:=aa hval
  have HB:=aa hblk
  have HF:=aa hfr0
  have HO:=aa hout
  have hl:=hout.len
  clear hval
  by_cases hkl:k<P.length
  ·rcases L1.fr hao hfr0 hB hblk (hout.wider (Nat.le_refl _) (by omega)) with h0|⟨b,off,rfl,hcell⟩
   ·rw [h0] at hkl;simp at hkl
   ·have hck:=hcell k hkl
    have hfr:=hblk.free (zo+k)
    have hco:=hblk.cell (zo+k) (by omega)
    have z1:=limb_lt M1 k
    have z2:=limb_lt hlz (zo+k)
    have hsame:=hout.same (zo+k) (by omega)
    have hft:=iq (P.getD k 0*m) (Z'.getD (zo+k) 0) cy (by have:=Nat.mul_le_mul (Nat.le_sub_one_of_lt z1) (Nat.le_sub_one_of_lt hm);omega) z2 hcy
    have HS:=aa (fun c2 s hs=>iv Z Z' zo k cy c2 s (P.getD k 0*m) _ (by omega) hl HV.out hs)
    rw [←hsame] at HS
    have hst:val (P.take k)*m+18446744073709551616 ^ k*(P.getD k 0*m)=val (P.take (k+1))*m:=by
     rw [val_take_next P k,Nat.add_mul,Nat.mul_assoc]
    rw [hst] at HS
    have ha1:=bK (P.getD k 0*m % 18446744073709551616) cy
    have ha2:=dE (Z'.getD (zo+k) 0) ((P.getD k 0*m % 18446744073709551616+cy) % 18446744073709551616)
    have hM:=Tryz.bits_Mul64 (P.getD k 0) m z1 hm wr
    generalize Z'.getD (zo+k) 0=z at *
    generalize P.getD k 0=x at *
    generalize hPP:x*m=PP at *
    clear hPP hsame hst
    obtain⟨q1,q2,q3,q4⟩:=hft
    have HS2:=aa (HS.out _ _ q1)
    clear HS q1
    generalize (z+18446744073709551616 - (PP % 18446744073709551616+cy) % 18446744073709551616) % 18446744073709551616=s at *
    generalize bor z ((PP % 18446744073709551616+cy) % 18446744073709551616) 0=un at *
    generalize (PP % 18446744073709551616+cy) % 18446744073709551616=l2 at *
    generalize (PP % 18446744073709551616+cy) / 18446744073709551616=o1 at *
    generalize PP / 18446744073709551616=h1 at *
    generalize PP % 18446744073709551616=l1 at *
    have e1:(h1:Int)+(o1:Int)=((h1+o1:Nat):Int):=by omega
    generalize h1+o1=h2 at *
    have e2:(h2:Int)+(un:Int)=((h2+un:Nat):Int):=by omega
    generalize h2+un=c2 at *
    clear hcell hblk hfr0 hout HV M1 L1 hB hLZ
    go_wp2_with fail
    refine hM.mono ?_
    rintro e w2 ⟨rfl,rfl⟩
    clear hM
    go_wp2
    go_roundw
    case rel=>exact⟨k+1,c2,Z'.set (zo+k) s,by omega,by go_num,rfl,q3,(HO.out.wider (Nat.le_refl _) (by omega)).set _ _ (by omega) (by omega),limbs_set hlz _ _ q4,HB.out.set _ s,HF.out.setCell _ _,HS2.out⟩
    case measure=>simp [intOf];omega
  ·have ek:k=P.length:=by omega
   subst ek
   rw [List.take_length] at HV
   have hbs:=hblk.lt
   have HD:=eG bz (zo+P.length) (n - P.length) (cap - P.length) Z' (.slice (some ⟨wr.heap.size,0,none⟩) 1 1) [cy] (wr.alloc (.cells #[.int .u64 (cy:Int)] 60)) (hblk.alloc _) hlz
    (Arg.lits wr [cy] #[.int .u64 (cy:Int)] 1 rfl rfl (by intro z hz;simp at hz;omega) (by simp)) (fun b off _ _ e=>by cases e;exact .inl (by omega)) (by rw [hl];omega) (by omega) (by omega) (by simp;omega)
   have hcp:¬cap=P.length:=by omega
   have ec1:(n:Int) - (P.length:Int)=((n - P.length:Nat):Int):=by omega
   have ec2:(cap:Int) - (P.length:Int)=((cap - P.length:Nat):Int):=by omega
   clear hblk hfr0 hout L1 hB M1 hLZ
   go_wp2_with fail
   refine HD.mono ?_
   rintro e w3 ⟨c3,Z3,hc3,rfl,ho3,hl3,hb3,hf3,hv3⟩
   have HX:Hid (eg bz zo n Z w (val P*m) (.returned (.int .u64 (c3:Int))) w3):=by
    refine⟨c3,Z3,hc3,rfl,?_,hl3,hb3,(HF.out.trans (Fr.of_below ((Below.refl _ _).alloc (Nat.le_refl _) _))).trans hf3,?_⟩
    ·exact (HO.out.wider (Nat.le_refl _) (by omega)).trans (ho3.wider (by omega) (by omega))
    ·obtain⟨d,rfl⟩:∃d,n=P.length+d:=⟨n - P.length,by omega⟩
     rw [Nat.add_sub_cancel_left] at hv3
     have e1:=HV.out
     have e2:=HO.out.sv (zo+P.length) d (by omega)
     have e3:=ho3.sv zo P.length (by omega)
     rw [ag Z3 zo P.length d (by rw [ho3.len,hl];omega),ag Z zo P.length d (by omega),e3,Nat.pow_add]
     rw [e2] at hv3
     have e4:val [cy]=cy:=by simp [val]
     rw [e4] at hv3
     generalize sv Z' zo P.length=a at *
     generalize sv Z zo P.length=b at *
     generalize sv Z3 (zo+P.length) d=c at *
     generalize sv Z (zo+P.length) d=f at *
     generalize val P*m=g at *
     generalize (18446744073709551616:Nat) ^ P.length=W at *
     generalize (18446744073709551616:Nat) ^ d=V at *
     have h5:W*(c+cy)=W*(f+c3*V):=by rw [hv3]
     rw [Nat.mul_add,Nat.mul_add] at h5
     have h6:W*cy=cy*W:=Nat.mul_comm _ _
     have h7:W*(c3*V)=c3*(W*V):=by rw [←Nat.mul_assoc,Nat.mul_comm W c3,Nat.mul_assoc]
     rw [h6,h7] at h5
     generalize W*c=x1 at *
     generalize cy*W=x2 at *
     generalize W*f=x3 at *
     generalize c3*(W*V)=x4 at *
     omega
   clear ho3 hl3 hb3 hf3 hv3 HD
   go_wp2
   go_ret
   exact HX.out

theorem mP (Z':List Nat)(X:List Nat)(o k cy s:Nat)(hs:s≤64)(hz:o+k<Z'.length)
  (h:sv Z' o k+cy*18446744073709551616 ^ k=val (X.take k)*2 ^ s) :
  sv (Z'.set (o+k) (shl (X.getD k 0) s cy)) o (k+1)+X.getD k 0 / 2 ^ (64 - s)*18446744073709551616 ^ (k+1)=val (X.take (k+1))*2 ^ s:=by
 have h2:=shl_split (X.getD k 0) s cy hs
 rw [bZ _ _ _ _ hz,val_take_next X k,show (18446744073709551616:Nat) ^ (k+1)=18446744073709551616 ^ k*18446744073709551616 from Nat.pow_succ ..]
 generalize sv Z' o k=A at *
 generalize X.getD k 0 / 2 ^ (64 - s)=C at *
 generalize shl (X.getD k 0) s cy=S at *
 generalize X.getD k 0=x at *
 generalize val (X.take k)=B at *
 generalize 2 ^ s=E at *
 generalize (18446744073709551616:Nat) ^ k=P at *
 generalize (18446744073709551616:Nat)=W at *
 grind

def na (bz zo:Nat)(Z X:List Nat)(s:Nat)(w:World)(e:Ending)(w':World):Prop:=
 ∃(cy:Nat) (Z':List Nat),cy<2 ^ s∧e=.returned (.int .u64 (cy:Int))∧Out Z Z' zo (zo+X.length)∧Limbs Z'∧Blk w' bz Z'∧Fr bz w w'∧sv Z' zo X.length+cy*18446744073709551616 ^ X.length=val X*2 ^ s

theorem gW (bz zo n cap:Nat)(Z:List Nat)(va:Value)(X:List Nat)(s:Nat)(w:World)(hB:Blk w bz Z)(hLZ:Limbs Z)(hA:Arg w va X)(ho:Off va bz zo (zo+n))
  (hzo:zo+n≤Z.length) (_hc1:n≤cap) (_hc2:cap≤9223372036854775807) (hfit:X.length≤n) (hs:s<64) :
  Calls Tryz.prog 112 #[.slice (some ⟨bz,zo,none⟩) n cap,va,.int .i64 s] w (na bz zo Z X s w):=by
 obtain⟨a1,c1,rfl,hcc1,hcm1,hl1⟩:=hA.form
 have hX:=hA.few
 have M1:=hA.limbs
 have hao:∀b off,a1=some ⟨b,off,none⟩→b≠bz∨off+X.length≤zo∨zo+n≤off:=fun b off e=>by
  subst e
  exact ho b off _ _ rfl
 have L1:=hl1
 clear ho hA hl1
 generalize X=P at *
 have HB0:=aa hB
 have HLZ:=aa hLZ
 go_enter Tryz.func112,Tryz.ntmps112
 go_wp2
 go_loopw [7,12] (fun c i wr=>∃(k cy:Nat) (Z':List Nat),k≤P.length∧i=.int .i64 k∧c=.int .u64 cy∧cy<2 ^ s∧Out Z Z' zo (zo+k)∧Limbs Z'∧Blk wr bz Z'∧Fr bz w wr ∧
   sv Z' zo k+cy*18446744073709551616 ^ k=val (P.take k)*2 ^ s) (fun _ i _=>P.length - (intOf i).toNat)
 case atStart=>exact⟨0,0,Z,Nat.zero_le _,rfl,rfl,Nat.two_pow_pos _,Out.refl _ _ _,HLZ.out,HB0.out,Fr.refl _ _,by simp [aH,val]⟩
 case round=>
  obtain⟨k,cy,Z',hk,rfl,rfl,hcy,hout,hlz,hblk,hfr0,hval⟩:=hrel
  have HV:=aa hval
  have HB:=aa hblk
  have HF:=aa hfr0
  have HO:=aa hout
  have HCY:=aa hcy
  have hl:=hout.len
  clear hval
  by_cases hkl:k<P.length
  ·rcases L1.fr hao hfr0 hB hblk (hout.wider (Nat.le_refl _) (by omega)) with h0|⟨b,off,rfl,hcell⟩
   ·rw [h0] at hkl;simp at hkl
   ·have hck:=hcell k hkl
    have hfr:=hblk.free (zo+k)
    have hco:=hblk.cell (zo+k) (by omega)
    have z1:=limb_lt M1 k
    have HS:=aa (mP Z' P zo k cy s (by omega) (by omega) HV.out)
    generalize Z'.getD (zo+k) 0=z at *
    generalize P.getD k 0=x at *
    clear hcell hblk hfr0 hout HV M1 L1 hB hLZ hcy
    go_wp2
    go_roundw
    case rel=>
     rw [walk_shl x s cy (by omega) HCY.out,walk_shr]
     exact⟨k+1,x / 2 ^ (64 - s),Z'.set (zo+k) (shl x s cy),by omega,by go_num,rfl,shr_lt x s (by omega) z1,(HO.out.wider (Nat.le_refl _) (by omega)).set _ _ (by omega) (by omega),limbs_set hlz _ _ (shl_lt x s cy (by omega) HCY.out),HB.out.set _ _,HF.out.setCell _ _,HS.out⟩
    case measure=>simp [intOf];omega
  ·have ek:k=P.length:=by omega
   subst ek
   rw [List.take_length] at HV
   clear hblk hfr0 hout L1 hB M1 hLZ hl hcy
   go_wp2
   go_ret
   exact⟨cy,Z',HCY.out,rfl,HO.out,hlz,HB.out,HF.out,HV.out⟩

theorem j8 (X:List Nat)(s j:Nat)(hs:s<64)(hj:j<X.length) :
  shr (X.getD j 0) (X.getD (j+1) 0) s+18446744073709551616*(val (X.drop (j+1)) / 2 ^ s)=val (X.drop j) / 2 ^ s:=by
 have h1:=val_drop_next X j hj
 have h2:val (X.drop (j+1)) % 2 ^ s=X.getD (j+1) 0 % 2 ^ s:=by
  by_cases hj2:j+1<X.length
  ·rw [val_drop_next X (j+1) hj2,two64 s (by omega),Nat.mul_comm (2 ^ (64 - s)),Nat.mul_assoc,Nat.add_mul_mod_self_left]
  ·have e1:X.drop (j+1)=[]:=List.drop_eq_nil_of_le (by omega)
   have e2:X.getD (j+1) 0=0:=by simp [List.getD,Nat.le_of_not_lt hj2]
   rw [e1,e2];simp [val]
 have h3:=Nat.div_add_mod (val (X.drop (j+1))) (2 ^ s)
 unfold shr
 rw [h1,←h2]
 have hW:=two64 s (by omega)
 have hp:=Nat.two_pow_pos s
 have hp2:=Nat.two_pow_pos (64 - s)
 generalize X.getD j 0=x at *
 generalize val (X.drop (j+1)) % 2 ^ s=r at *
 generalize val (X.drop (j+1)) / 2 ^ s=q at *
 generalize val (X.drop (j+1))=S at *
 rw [←h3,hW]
 generalize 2 ^ (64 - s)=E at *
 generalize 2 ^ s=D at *
 have e:x+E*D*(D*q+r)=x+D*(r*E+E*D*q):=by grind
 rw [e,Nat.add_mul_div_left _ _ hp]
 omega

theorem nE (bz zo n cap:Nat)(Z:List Nat)(va:Value)(X:List Nat)(s:Nat)(w:World)(hB:Blk w bz Z)(hLZ:Limbs Z)(hA:Arg w va X)(ho:Off va bz zo (zo+n))
  (hzo:zo+n≤Z.length) (_hc1:n≤cap) (_hc2:cap≤9223372036854775807) (hn:X.length≤n) (hn2:n≤X.length) (hs:s<64) :
  Calls Tryz.prog 115 #[.slice (some ⟨bz,zo,none⟩) n cap,va,.int .i64 s] w (au bz zo n Z w (val X / 2 ^ s)):=by
 obtain⟨a1,c1,rfl,hcc1,hcm1,hl1⟩:=hA.form
 have hX:=hA.few
 have M1:=hA.limbs
 have hao:∀b off,a1=some ⟨b,off,none⟩→b≠bz∨off+X.length≤zo∨zo+n≤off:=fun b off e=>by
  subst e
  exact ho b off _ _ rfl
 have L1:=hl1
 clear ho hA hl1
 have HB0:=aa hB
 have HLZ:=aa hLZ
 have ec:(64:Int) - (s:Int)=((64 - s:Nat):Int):=by omega
 go_enter Tryz.func115,Tryz.ntmps115
 go_wp2
 go_loopw [6,7] (fun c i wr=>∃(k:Nat) (Z':List Nat),k≤X.length∧i=.int .i64 ((k:Int) - 1)∧c=.int .u64 (IntKind.u64.wrap (((X.getD k 0:Nat):Int)*2 ^ (64 - s)))∧Out Z Z' (zo+k) (zo+n)∧Limbs Z'∧Blk wr bz Z'∧Fr bz w wr ∧
   sv Z' (zo+k) (n - k)=val (X.drop k) / 2 ^ s) (fun _ i _=>(intOf i+1).toNat)
 case atStart=>
  have e0:X.getD X.length 0=0:=by simp [List.getD]
  refine⟨X.length,Z,Nat.le_refl _,by go_num,?_,Out.refl _ _ _,HLZ.out,HB0.out,Fr.refl _ _,?_⟩
  ·rw [e0];simp [IntKind.wrap_u64]
  ·have:n - X.length=0:=by omega
   rw [this,aH,List.drop_length];simp [val]
 case round=>
  obtain⟨k,Z',hk,rfl,rfl,hout,hlz,hblk,hfr0,hval⟩:=hrel
  have hl:=hout.len
  by_cases hk0:k=0
  ·subst hk0
   rw [Nat.add_zero,Nat.sub_zero,List.drop_zero] at hval
   have HD:Hid (Out Z Z' zo (zo+n)∧Limbs Z'∧Blk wr bz Z'∧Fr bz w wr∧sv Z' zo n=val X / 2 ^ s):=aa ⟨by simpa using hout,hlz,hblk,hfr0,hval⟩
   generalize IntKind.u64.wrap (((X.getD 0 0:Nat):Int)*2 ^ (64 - s))=cy at *
   clear hout hlz hblk hfr0 hval L1 hB
   go_wp2
   go_end0
   exact⟨rfl,Z',HD.out⟩
  ·obtain⟨j,rfl⟩:∃j,k=j+1:=⟨k - 1,by omega⟩
   rcases L1.fr hao hfr0 hB hblk (hout.wider (by omega) (Nat.le_refl _)) with h0|⟨b,off,rfl,hcell⟩
   ·rw [h0] at hk;simp at hk
   ·have hck:=hcell j (by omega)
    have hst:=j8 X s j hs (by omega)
    have hcons':∀t,sv (Z'.set (zo+j) t) (zo+j) (n - j)=t+18446744073709551616*sv Z' (zo+(j+1)) (n - (j+1)):=fun t=>by
     rw [cj (Z'.set (zo+j) t) zo j n (by simp;omega) (by omega),cE,if_pos ⟨rfl,by omega⟩]
     have e:Out Z' (Z'.set (zo+j) t) (zo+j) (zo+(j+1)):=(Out.refl _ _ _).set _ _ (by omega) (by omega)
     rw [e.sv (zo+(j+1)) (n - (j+1)) (by omega)]
    have hfr:=hblk.free (zo+j)
    have hco:=hblk.cell (zo+j) (by omega)
    have z1:=limb_lt M1 j
    have HS:=aa (hcons' (shr (X.getD j 0) (X.getD (j+1) 0) s))
    rw [hval,hst] at HS
    have hor:=walk_shr2 (X.getD j 0) (X.getD (j+1) 0) s hs z1
    have hsl:=shr_lt2 (X.getD j 0) (X.getD (j+1) 0) s hs z1
    generalize shr (X.getD j 0) (X.getD (j+1) 0) s=sh at *
    generalize IntKind.u64.wrap (((X.getD (j+1) 0:Nat):Int)*2 ^ (64 - s))=cy at *
    have HXJ:Hid (X.getD j 0=X.getD j 0):=rfl
    generalize hxj:X.getD j 0=x at *
    have HX:=aa hxj
    clear hxj HXJ
    generalize Z'.getD (zo+j) 0=z at *
    have ej:(((j+1:Nat):Int) - 1)=(j:Int):=by omega
    rw [ej]
    have HB:=aa hblk
    have HF:=aa hfr0
    have HO:=aa hout
    clear hblk hfr0 hout ej hcell hcons' hst hval L1 hB M1
    have hi1:(0:Int)≤(j:Int):=by omega
    have hi2:(j:Int)<(n:Int):=by omega
    have hi3:(j:Int)<(X.length:Int):=by omega
    go_wp2
    go_roundw
    case rel=>
     exact⟨j,Z'.set (zo+j) sh,by omega,rfl,by rw [HX.out],(HO.out.wider (by omega) (Nat.le_refl _)).set _ _ (Nat.le_refl _) (by omega),limbs_set hlz _ _ hsl,HB.out.set _ sh,HF.out.setCell _ _,HS.out⟩
    case measure=>simp [intOf]
end Go.Proofs.YtcbpdngogkbndaaGreatDoor
namespace Go.Proofs.YtcbpdngogkbndaaGreatDoor
namespace Lm

structure Tops (U V U2 u3 top next:Nat):Prop where
 ex:∃k E a b:Nat,0<k∧0<E∧a<E∧b<E∧k*U=(U2*18446744073709551616+u3)*E+a∧k*V=(top*18446744073709551616+next)*E+b
 u3:u3<18446744073709551616
 next:next<18446744073709551616

theorem Tops.le {U V U2 u3 top next Q:Nat}(h:Tops U V U2 u3 top next)(hQ:Q*V≤U):Q*(top*18446744073709551616+next)≤U2*18446744073709551616+u3:=by
 obtain⟨k,E,a,b,hk,hE,ha,hb,eU,eV⟩:=h.ex
 clear h
 generalize (18446744073709551616:Nat)=W at *
 generalize U2*W+u3=U3 at *
 generalize top*W+next=V2 at *
 have h1:k*(Q*V)≤k*U:=Nat.mul_le_mul_left k hQ
 have e1:k*(Q*V)=Q*V2*E+Q*b:=by
  have:k*(Q*V)=Q*(k*V):=by rw [←Nat.mul_assoc,Nat.mul_comm k Q,Nat.mul_assoc]
  rw [this,eV,Nat.mul_add,Nat.mul_assoc]
 have h2:Q*V2*E<(U3+1)*E:=by rw [Nat.add_mul,Nat.one_mul];omega
 have:=Nat.lt_of_mul_lt_mul_right h2
 omega

theorem Tops.first {U V U2 u3 top next Q:Nat}(h:Tops U V U2 u3 top next)(hQ:Q*V≤U):Q*top≤U2:=by
 have h1:=h.le hQ
 have h2:=h.u3
 rw [Nat.mul_add,←Nat.mul_assoc] at h1
 have h3:Q*top*18446744073709551616<(U2+1)*18446744073709551616:=by omega
 have:=Nat.lt_of_mul_lt_mul_right h3
 omega

theorem Tops.down {U V U2 u3 top next Q q rest:Nat}(h:Tops U V U2 u3 top next)(hQ:Q*V≤U)(e:q*top+rest=U2)(hb:rest*18446744073709551616+u3<q*next):Q<q:=by
 refine Nat.lt_of_not_le fun hq=>?_
 have h1:=h.le hQ
 have h2:=Nat.mul_le_mul_right (top*18446744073709551616+next) hq
 rw [Nat.mul_add,←Nat.mul_assoc] at h2
 rw [←e,Nat.add_mul] at h1
 omega

theorem Tops.up {U V U2 u3 top next q:Nat}(h:Tops U V U2 u3 top next)(hq:q<18446744073709551616)(ht:9223372036854775808≤top)(hle:q*(top*18446744073709551616+next)≤U2*18446744073709551616+u3):q*V<U+V:=by
 obtain⟨k,E,a,b,hk,hE,ha,hb,eU,eV⟩:=h.ex
 have h3:q≤top*18446744073709551616+next:=by omega
 have h8:1≤top*18446744073709551616+next:=by omega
 clear h hq ht
 generalize (18446744073709551616:Nat)=W at *
 generalize U2*W+u3=U3 at *
 generalize top*W+next=V2 at *
 have e1:k*(q*V)=q*V2*E+q*b:=by
  have:k*(q*V)=q*(k*V):=by rw [←Nat.mul_assoc,Nat.mul_comm k q,Nat.mul_assoc]
  rw [this,eV,Nat.mul_add,Nat.mul_assoc]
 have h4:=Nat.mul_le_mul_right E hle
 have h5:q*b≤q*E:=Nat.mul_le_mul_left q (Nat.le_of_lt hb)
 have h6:=Nat.mul_le_mul_right E h3
 refine Nat.lt_of_mul_lt_mul_left (a:=k) ?_
 rw [e1,Nat.mul_add,eU,eV]
 rcases Nat.eq_zero_or_pos q with h0|h0
 ·subst h0
  have h7:0<k*V:=by
   rw [eV]
   have:=Nat.mul_le_mul h8 hE
   omega
  rw [eV] at h7
  simp only [Nat.zero_mul,Nat.zero_add]
  omega
 ·have h7:q*b<q*E:=Nat.mul_lt_mul_of_pos_left hb h0
  omega

theorem guess_end {U V q:Nat}(hV:0<V)(h1:U / V≤q)(h2:q*V<U+V):q=U / V∨q=U / V+1:=by
 have h3:q<U / V+2:=by
  refine Nat.lt_of_not_le fun h=>?_
  have h4:=Nat.mul_le_mul_right V h
  have h5:=Nat.div_add_mod U V
  have h6:=Nat.mod_lt U hV
  rw [Nat.add_mul] at h4
  rw [Nat.mul_comm] at h5
  omega
 omega

end Lm

namespace Lm

structure Knuth (U Y y1 u1 q r:Nat):Prop where
 sum:q*y1+r=U
 ge:(U*4294967296+u1) / Y≤q
 few:q≤4294967297
 small:r<4294967296

variable {U Y y1 y0 u1 q r:Nat}

theorem knuth_start (hY:Y=y1*4294967296+y0)(hy1:2147483648≤y1)(hy2:y1<4294967296)(hy0:y0<4294967296)(hu1:u1<4294967296)(hU:U<Y):Knuth U Y y1 u1 (U / y1) (U % y1):=by
 have hd:=Nat.div_add_mod U y1
 have hm:U % y1<y1:=Nat.mod_lt _ (by omega)
 have hs:U / y1*y1+U % y1=U:=by rw [Nat.mul_comm];exact hd
 clear hd
 generalize U / y1=q at *
 generalize U % y1=r at *
 refine⟨hs,?_,?_,by omega⟩
 ·have h1:(U*4294967296+u1) / Y<q+1:=by
   rw [Nat.div_lt_iff_lt_mul (by omega),hY,Nat.add_mul,Nat.mul_add,Nat.one_mul,←Nat.mul_assoc]
   omega
  omega
 ·refine Nat.le_of_not_lt fun h=>?_
  have h2:=Nat.mul_le_mul_right y1 (show 4294967298≤q by omega)
  omega

theorem knuth_mul (hY:Y=y1*4294967296+y0)(h:q*y1+r=U):q*Y+r*4294967296=U*4294967296+q*y0:=by
 rw [hY,Nat.mul_add,←h,Nat.add_mul,←Nat.mul_assoc];omega

theorem knuth_lt (hu1:u1<4294967296)(hU:U<Y):(U*4294967296+u1) / Y<4294967296:=by
 rw [Nat.div_lt_iff_lt_mul (by omega)]
 omega

theorem knuth_down (hY:Y=y1*4294967296+y0)(hu1:u1<4294967296)(hU:U<Y)(k:Knuth U Y y1 u1 q r)
  (hc:4294967296≤q∨r*4294967296+u1<q*y0):1≤q∧(U*4294967296+u1) / Y≤q - 1∧(q - 1)*y1+(r+y1)=U:=by
 have hlt:(U*4294967296+u1) / Y<q:=by
  rcases hc with hc|hc
  ·have h9:=knuth_lt hu1 hU
   revert h9 hc
   generalize (U*4294967296+u1) / Y=z
   clear k hY hU hu1
   intro hc h9
   omega
  ·rw [Nat.div_lt_iff_lt_mul (by omega)]
   have:=knuth_mul hY k.sum
   refine Nat.lt_of_add_lt_add_right (n:=r*4294967296) ?_
   rw [this,Nat.add_assoc,Nat.add_comm u1]
   exact Nat.add_lt_add_left hc _
 have hge:1≤q:=Nat.lt_of_le_of_lt (Nat.zero_le _) hlt
 refine⟨hge,Nat.le_sub_one_of_lt hlt,?_⟩
 have hq:q - 1+1=q:=by omega
 have:=k.sum
 rw [←hq,Nat.add_mul,Nat.one_mul] at this
 omega

theorem knuth_stop (hY:Y=y1*4294967296+y0)(k:Knuth U Y y1 u1 q r)(hy:0<Y)(h:q*y0≤r*4294967296+u1):q=(U*4294967296+u1) / Y:=by
 have:=knuth_mul hY k.sum
 have h2:q≤(U*4294967296+u1) / Y:=by
  rw [Nat.le_div_iff_mul_le hy];omega
 exact Nat.le_antisymm h2 k.ge

theorem knuth_break (hY:Y=y1*4294967296+y0)(hy:0<Y)(hy0:y0<4294967296)(hs:q*y1+r=U)(hge:(U*4294967296+u1) / Y≤q)(hq:q≤4294967296)(hr:4294967296≤r) :
  q=(U*4294967296+u1) / Y:=by
 have:=knuth_mul hY hs
 have h1:q*y0≤4294967296*4294967296:=Nat.mul_le_mul hq (by omega)
 have h2:q≤(U*4294967296+u1) / Y:=by
  rw [Nat.le_div_iff_mul_le hy];omega
 exact Nat.le_antisymm h2 hge

theorem knuth_key (V t Y N u0 q1 q0 r1 r0:Nat)(hV:V*t=N*4294967296+u0)(d1:Y*q1+r1=N)(d0:Y*q0+r0=r1*4294967296+u0) :
  V*t=Y*(q1*4294967296+q0)+r0:=by
 rw [hV,←d1,Nat.mul_add Y,←Nat.mul_assoc]
 omega

theorem knuth_whole (V y s N u0 q1 q0:Nat)(hy:0<y)(hV:V*2 ^ s=N*4294967296+u0)
  (h1:q1=N / (y*2 ^ s)) (h0:q0=(N % (y*2 ^ s)*4294967296+u0) / (y*2 ^ s)) :
  q1*4294967296+q0=V / y∧(N % (y*2 ^ s)*4294967296+u0) % (y*2 ^ s) / 2 ^ s=V % y:=by
 have hp:=Nat.two_pow_pos s
 have hY:0<y*2 ^ s:=Nat.mul_pos hy hp
 have d1:=Nat.div_add_mod N (y*2 ^ s)
 have d0:=Nat.div_add_mod (N % (y*2 ^ s)*4294967296+u0) (y*2 ^ s)
 have l0:=Nat.mod_lt (N % (y*2 ^ s)*4294967296+u0) hY
 rw [←h1] at d1
 rw [←h0] at d0
 have key:=knuth_key V (2 ^ s) (y*2 ^ s) N u0 q1 q0 _ _ hV d1 d0
 have hq:V*2 ^ s / (y*2 ^ s)=q1*4294967296+q0:=by
  rw [key,Nat.mul_add_div hY,Nat.div_eq_of_lt l0,Nat.add_zero]
 have hr:V*2 ^ s % (y*2 ^ s)=(N % (y*2 ^ s)*4294967296+u0) % (y*2 ^ s):=by
  rw [key,Nat.mul_add_mod,Nat.mod_mod]
 rw [Nat.mul_div_mul_right _ _ hp] at hq
 rw [Nat.mul_mod_mul_right] at hr
 exact⟨hq.symm,by rw [←hr,Nat.mul_div_cancel _ hp]⟩

theorem shift_whole (hi lo s:Nat)(hs:s≤64) :
  (hi*18446744073709551616+lo)*2 ^ s=((hi*2 ^ s+lo / 2 ^ (64 - s))*4294967296+lo*2 ^ s % 18446744073709551616 / 4294967296)*4294967296+lo*2 ^ s % 18446744073709551616 % 4294967296:=by
 rw [shr_mul lo s hs,Nat.add_mul,Nat.mul_right_comm]
 generalize hi*2 ^ s=a
 generalize lo*2 ^ s=b
 omega

theorem norm_y (y:Nat)(h0:0<y)(hy:y<18446744073709551616):1≤Lib.bitLen y∧Lib.bitLen y≤64∧9223372036854775808≤y*2 ^ (64 - Lib.bitLen y)∧y*2 ^ (64 - Lib.bitLen y)<18446744073709551616:=by
 obtain⟨h1,h2,h3⟩:=Lib.bitLenAux_bounds 64 y hy (by omega)
 have h4:=Lib.bitLen_le y 64 (by omega) hy
 have h1':1≤Lib.bitLen y:=h1
 have h2':2 ^ (Lib.bitLen y - 1)≤y:=h2
 have h3':y<2 ^ Lib.bitLen y:=h3
 generalize Lib.bitLen y=k at *
 refine⟨h1',h4,?_,?_⟩
 ·have:=Nat.mul_le_mul_right (2 ^ (64 - k)) h2'
  rw [←Nat.pow_add,show k - 1+(64 - k)=63 by omega] at this
  exact this
 ·have:=(Nat.mul_lt_mul_right (Nat.two_pow_pos (64 - k))).2 h3'
  rw [←Nat.pow_add,show k+(64 - k)=64 by omega] at this
  exact this

end Lm
end Go.Proofs.YtcbpdngogkbndaaGreatDoor
namespace Go.Proofs.YtcbpdngogkbndaaGreatDoor
open Go.RowKit
open Lm

theorem oi (lo y:Nat)(w:World)(hy:y<18446744073709551616)(h0:0<y)(hlo:lo<18446744073709551616) :
  Calls Tryz.prog 139 #[.int .u64 0,.int .u64 lo,.int .u64 y] w fun e w'=>e=.returned (.tuple #[.int .u64 ((lo / y:Nat):Int),.int .u64 ((lo % y:Nat):Int)])∧ai w w':=by
 have hz:((y:Int) == 0)=false:=by rw [beq_eq_false_iff_ne];omega
 have hz2:decide ((y:Int)≤0)=false:=by simp;omega
 have e1:(lo:Int) / (y:Int)=((lo / y:Nat):Int):=(Int.natCast_ediv _ _).symm
 have e2:(lo:Int) % (y:Int)=((lo % y:Nat):Int):=(Int.natCast_emod _ _).symm
 have e3:(lo:Int).tdiv (y:Int)=((lo / y:Nat):Int):=rfl
 have e4:(lo:Int).tmod (y:Int)=((lo % y:Nat):Int):=rfl
 have b1:lo / y<18446744073709551616:=Nat.lt_of_le_of_lt (Nat.div_le_self _ _) hlo
 have b2:lo % y<18446744073709551616:=Nat.lt_of_le_of_lt (Nat.mod_le _ _) hlo
 generalize lo / y=a at *
 generalize lo % y=b at *
 have h1:(1:Int)≤(y:Int):=by omega
 go_enter Tryz.func139,Tryz.ntmps139
 go_wp2
 go_quiet (fail)
 go_wp2
 go_ret2
 exact⟨rfl,(ai.refl _).drewN _⟩

theorem fj (x s r:Nat)(h:x*2 ^ s % 18446744073709551616=r):IntKind.u64.wrap ((x:Int)*2 ^ s)=(r:Int):=by
 rw [IntKind.wrap_u64]
 have:((x:Int)*2 ^ s)=((x*2 ^ s:Nat):Int):=by rw [Int.natCast_mul,Int.natCast_pow];rfl
 rw [this];omega

theorem iu (a:Nat)(ha:a<18446744073709551616):bits BinOp.and IntKind.u64 (a:Int) 4294967295=((a % 4294967296:Nat):Int):=by
 have h:=bits_and_u64_nat a 4294967295 ha (by omega)
 rw [show a &&& 4294967295=a % 4294967296 from Nat.and_two_pow_sub_one_eq_mod a 32] at h
 exact h

theorem jt (h s l U:Nat)(hs:s≤64)(hl:l<2 ^ s)(hh:h*2 ^ s<18446744073709551616)(hU:U=h*2 ^ s+l):bits BinOp.or IntKind.u64 ((h*2 ^ s:Nat):Int) (l:Int)=(U:Int):=by
 have hll:l<18446744073709551616:=Nat.lt_of_lt_of_le hl (by rw [show (18446744073709551616:Nat)=2 ^ 64 from rfl];exact Nat.pow_le_pow_right (by omega) hs)
 rw [bits_or_u64_nat _ _ hh hll,hU,Nat.mul_comm h,Nat.two_pow_add_eq_or_of_lt hl]

theorem ie (a b y q r:Nat)(hd:q*y+r=a*4294967296+b)(hr:r<18446744073709551616) :
  ∃a1 a2 a3:Nat,a1<18446744073709551616∧a2<18446744073709551616∧a3<18446744073709551616∧IntKind.u64.wrap ((a:Int)*4294967296)=(a1:Int)∧IntKind.u64.wrap ((a1:Int)+(b:Int))=(a2:Int) ∧
   IntKind.u64.wrap ((q:Int)*(y:Int))=(a3:Int)∧IntKind.u64.wrap ((a2:Int) - (a3:Int))=(r:Int):=by
 refine⟨a*4294967296 % 18446744073709551616,(a*4294967296 % 18446744073709551616+b) % 18446744073709551616,q*y % 18446744073709551616,Nat.mod_lt _ (by omega),Nat.mod_lt _ (by omega),Nat.mod_lt _ (by omega),?_,?_,?_,?_⟩
 ·rw [IntKind.wrap_u64];omega
 ·rw [IntKind.wrap_u64];omega
 ·rw [IntKind.wrap_u64,←Int.natCast_mul];omega
 ·rw [IntKind.wrap_u64]
  omega

theorem mu (hi lo y:Nat)(w:World)(hy:y<18446744073709551616)(hhi0:0<hi)(hhi:hi<y)(hlo:lo<18446744073709551616) :
  Calls Tryz.prog 139 #[.int .u64 hi,.int .u64 lo,.int .u64 y] w fun e w'=>e=.returned (.tuple #[.int .u64 (((hi*18446744073709551616+lo) / y:Nat):Int),.int .u64 (((hi*18446744073709551616+lo) % y:Nat):Int)])∧ai w w':=by
 have hz:((y:Int) == 0)=false:=by rw [beq_eq_false_iff_ne];omega
 have hz1:((hi:Int) == 0)=false:=by rw [beq_eq_false_iff_ne];omega
 have hz2:decide ((y:Int)≤(hi:Int))=false:=by simp;omega
 have HLZ:=Tryz.bits_LeadingZeros64 (y:Int) w (by omega) (by omega)
 rw [Int.toNat_natCast] at HLZ
 obtain⟨n1,n2,n3,n4⟩:=norm_y y (by omega) hy
 obtain⟨s,hs⟩:∃s,s=64 - Lib.bitLen y:=⟨_,rfl⟩
 have hsI:(64:Int) - (Lib.bitLen y:Int)=(s:Int):=by omega
 rw [hsI] at HLZ
 rw [←hs] at n3 n4
 have hs63:s≤63:=by omega
 clear hs hsI n1 n2
 have hp:=Nat.two_pow_pos s
 have hhy:(hi+1)*2 ^ s≤y*2 ^ s:=Nat.mul_le_mul_right _ hhi
 rw [Nat.add_mul,Nat.one_mul] at hhy
 have hl1:=shr_lt lo s (by omega) hlo
 have HVV:=aa (shift_whole hi lo s (by omega))
 have r1:=fj y s (y*2 ^ s) (Nat.mod_eq_of_lt n4)
 have r4:=fj hi s (hi*2 ^ s) (Nat.mod_eq_of_lt (by omega))
 have r7:=jt hi s (lo / 2 ^ (64 - s)) (hi*2 ^ s+lo / 2 ^ (64 - s)) (by omega) hl1 (by omega) rfl
 have r8:=fj lo s (lo*2 ^ s % 18446744073709551616) rfl
 have r6:=walk_shr lo (64 - s)
 have HK:=aa (fun N u0 q1 q0=>knuth_whole (hi*18446744073709551616+lo) y s N u0 q1 q0 (by omega))
 have hUY:hi*2 ^ s+lo / 2 ^ (64 - s)<y*2 ^ s:=by omega
 have hu10:lo*2 ^ s % 18446744073709551616<18446744073709551616:=Nat.mod_lt _ (by omega)
 have r5:(64:Int) - (s:Int)=((64 - s:Nat):Int):=by omega
 have ht:64 - s≤64:=by omega
 have ht0:1≤64 - s:=by omega
 generalize lo*2 ^ s % 18446744073709551616=u10 at *
 generalize hU:hi*2 ^ s+lo / 2 ^ (64 - s)=U at *
 generalize lo / 2 ^ (64 - s)=l1 at *
 generalize 64 - s=t at *
 have hh1:hi*2 ^ s<18446744073709551616:=by omega
 generalize hi*2 ^ s=h1 at *
 have r3:=iu (y*2 ^ s) n4
 have r10:=iu u10 hu10
 generalize y*2 ^ s=Y at *
 have r2:(Y:Int) / 4294967296=((Y / 4294967296:Nat):Int):=by omega
 have r9:(u10:Int) / 4294967296=((u10 / 4294967296:Nat):Int):=by omega
 have hY:Y=Y / 4294967296*4294967296+Y % 4294967296:=by omega
 have k1:2147483648≤Y / 4294967296:=by omega
 have k2:Y / 4294967296<4294967296:=by omega
 have k3:Y % 4294967296<4294967296:=by omega
 have k4:u10 / 4294967296<4294967296:=by omega
 have k5:u10 % 4294967296<4294967296:=by omega
 generalize Y / 4294967296=y1 at *
 generalize Y % 4294967296=y0 at *
 generalize u10 / 4294967296=u1 at *
 generalize u10 % 4294967296=u0 at *
 have HY:=aa hY
 have hl1W:l1<18446744073709551616:=by omega
 have HU:Hid (h1+l1=U):=aa hU
 clear hU hY hl1 hp hhy
 have KS:=aa (knuth_start HY.out k1 k2 k3 k4 hUY)
 have r11:(U:Int) / (y1:Int)=((U / y1:Nat):Int):=(Int.natCast_ediv _ _).symm
 have r12:((U / y1:Nat):Int)*(y1:Int)=((U / y1*y1:Nat):Int):=(Int.natCast_mul _ _).symm
 have d1:U / y1*y1+U % y1=U:=KS.out.sum
 have hUW:U<18446744073709551616:=by omega
 have b1:U / y1<18446744073709551616:=Nat.lt_of_le_of_lt (Nat.div_le_self _ _) hUW
 generalize U / y1*y1=p1 at *
 generalize U / y1=q at *
 generalize U % y1=r at *
 have r13:(U:Int) - (p1:Int)=(r:Int):=by omega
 have hp1:p1≤U:=by omega
 have hy1p:(1:Int)≤(y1:Int):=by omega
 have D1:=aa d1
 clear d1
 go_enter Tryz.func139,Tryz.ntmps139
 go_wp2_with fail
 refine HLZ.mono ?_
 rintro e w1 ⟨rfl,rfl⟩
 clear HLZ
 go_upto_block 0 with fail
 clear r1 r2 r3 r4 r5 r6 r7 r8 r9 r10 r11 r12 r13 hz hz1 hz2
 go_cut [15,16] from 67 to 85 (fun a _ wc=>a=.int .u64 (((U*4294967296+u1) / Y:Nat):Int)∧wc=w1)
 case first=>
  go_wp2_with fail
  go_loop [15,16] (fun a b=>∃q r:Nat,a=.int .u64 q∧b=.int .u64 r∧Knuth U Y y1 u1 q r) (fun a _=>(intOf a).toNat)
  case atStart=>exact⟨_,_,rfl,rfl,KS.out⟩
  case round=>
   obtain⟨q,r,rfl,rfl,K⟩:=hrel
   have hq:=K.few
   have hr:=K.small
   obtain⟨r',hr'⟩:∃r',r'=r+y1:=⟨_,rfl⟩
   have hrI:(r:Int)+(y1:Int)=(r':Int):=by omega
   obtain⟨m0,hm0⟩:∃m0,m0=4294967296*r:=⟨_,rfl⟩
   have hmI0:(4294967296:Int)*(r:Int)=(m0:Int):=by omega
   obtain⟨m,hm⟩:∃m,m=m0+u1:=⟨_,rfl⟩
   have hmI:(m0:Int)+(u1:Int)=(m:Int):=by omega
   have hmW:m<18446744073709551616:=by omega
   have hmW0:m0<18446744073709551616:=by omega
   have hrW:r'<18446744073709551616:=by omega
   have HM:=aa (show m=r*4294967296+u1 by omega)
   have HR:=aa hr'
   have hrb:4294967296≤r'∨r'<4294967296:=by omega
   clear hr' hm0 hm
   by_cases c1:4294967296≤q
   ·obtain⟨g1,g2,g3⟩:=knuth_down HY.out k4 hUY K (.inl c1)
    rw [←HR.out] at g3
    have G2:=aa g2
    have G3:=aa g3
    have i1:(4294967296:Int)≤(q:Int):=by omega
    have i2:(q:Int)≤4294967297:=by omega
    rcases hrb with c2|c2
    ·have HQ:=aa (knuth_break HY.out (by omega) k3 G3.out G2.out (by omega) c2)
     have i4:(4294967296:Int)≤(r':Int):=by omega
     clear g1 g2 g3 K c1 c2 hq hr
     go_wp2
     go_meet
     case rel=>exact⟨by rw [←HQ.out];go_num,rfl⟩
    ·have i4:(r':Int)<4294967296:=by omega
     have hb2:decide ((4294967296:Int)≤(r':Int))=false:=decide_eq_false (by omega)
     clear g1 g2 g3 K c1 c2 hq hr
     go_wp2
     go_round
     case rel=>exact⟨q - 1,r',by go_num,rfl,G3.out,G2.out,by omega,by omega⟩
     case measure=>simp [intOf];omega
   ·obtain⟨p,hp⟩:∃p,p=q*y0:=⟨_,rfl⟩
    have hpI:(q:Int)*(y0:Int)=(p:Int):=by rw [hp];exact (Int.natCast_mul _ _).symm
    have hpW:p<18446744073709551616:=by
     rw [hp]
     have:=Nat.mul_le_mul (show q≤4294967295 by omega) (show y0≤4294967295 by omega)
     omega
    have HP:=aa hp
    clear hp
    have i1:(q:Int)<4294967296:=by omega
    have hb1:decide ((4294967296:Int)≤(q:Int))=false:=decide_eq_false (by omega)
    by_cases c3:m<p
    ·obtain⟨g1,g2,g3⟩:=knuth_down HY.out k4 hUY K (.inr (by rw [←HP.out,←HM.out];exact c3))
     rw [←HR.out] at g3
     have G2:=aa g2
     have G3:=aa g3
     have i2:(m:Int)<(p:Int):=by omega
     have i5:(1:Int)≤(q:Int):=by omega
     rcases hrb with c2|c2
     ·have HQ:=aa (knuth_break HY.out (by omega) k3 G3.out G2.out (by omega) c2)
      have i4:(4294967296:Int)≤(r':Int):=by omega
      clear g1 g2 g3 K c1 c2 c3 hq hr
      go_wp2
      go_meet
      case rel=>exact⟨by rw [←HQ.out];go_num,rfl⟩
     ·have i4:(r':Int)<4294967296:=by omega
      have hb2:decide ((4294967296:Int)≤(r':Int))=false:=decide_eq_false (by omega)
      clear g1 g2 g3 K c1 c2 c3 hq hr
      go_wp2
      go_round
      case rel=>exact⟨q - 1,r',by go_num,rfl,G3.out,G2.out,by omega,by omega⟩
      case measure=>simp [intOf];omega
    ·have HQ:=aa (knuth_stop HY.out K (by omega) (by rw [←HP.out,←HM.out];omega))
     have i2:(p:Int)≤(m:Int):=by omega
     have hb3:decide ((m:Int)<(p:Int))=false:=decide_eq_false (by omega)
     have hb4:decide (m<p)=false:=decide_eq_false c3
     clear K c1 c3 hq hr hrb
     go_wp2
     go_meet
     case rel=>exact⟨by rw [←HQ.out],rfl⟩
 case rest=>
  obtain⟨rfl,hwc⟩:=hcut
  have hwc':=hwc.symm
  subst hwc'
  clear hwc
  have hRY:(U*4294967296+u1) % Y<Y:=Nat.mod_lt _ (by omega)
  have hQ1b:=knuth_lt k4 hUY
  have hd1:=Nat.div_add_mod (U*4294967296+u1) Y
  rw [Nat.mul_comm] at hd1
  obtain⟨R1,hR1⟩:∃R1,R1=(U*4294967296+u1) % Y:=⟨_,rfl⟩
  obtain⟨Q1,hQ1⟩:∃Q1,Q1=(U*4294967296+u1) / Y:=⟨_,rfl⟩
  rw [←hR1] at hRY hd1
  rw [←hQ1] at hd1 hQ1b ⊢
  obtain⟨a1,a2,a3,t1,t2,t3,s1,s2,s3,s4⟩:=ie U u1 Y Q1 R1 hd1 (by omega)
  have HR1:=aa hR1
  have HQ1:=aa hQ1
  clear hR1 hQ1 hd1 KS D1
  have KS:=aa (knuth_start HY.out k1 k2 k3 k5 hRY)
  have r11:(R1:Int) / (y1:Int)=((R1 / y1:Nat):Int):=(Int.natCast_ediv _ _).symm
  have r12:((R1 / y1:Nat):Int)*(y1:Int)=((R1 / y1*y1:Nat):Int):=(Int.natCast_mul _ _).symm
  have d1:R1 / y1*y1+R1 % y1=R1:=KS.out.sum
  have hRW:R1<18446744073709551616:=by omega
  have b1':R1 / y1<18446744073709551616:=Nat.lt_of_le_of_lt (Nat.div_le_self _ _) hRW
  clear b1 hp1
  generalize R1 / y1*y1=p1' at *
  generalize R1 / y1=q' at *
  generalize R1 % y1=r' at *
  have r13:(R1:Int) - (p1':Int)=(r':Int):=by omega
  have hp1':p1'≤R1:=by omega
  clear d1
  go_upto_block 2 with fail
  clear r11 r12 r13 s1 s2 s3 s4 t1 t2 t3
  go_cut [18,16] from 102 to 120 (fun a _ wc=>a=.int .u64 (((R1*4294967296+u0) / Y:Nat):Int)∧wc=w1)
  case first=>
   go_wp2_with fail
   go_loop [18,16] (fun a b=>∃q r:Nat,a=.int .u64 q∧b=.int .u64 r∧Knuth R1 Y y1 u0 q r) (fun a _=>(intOf a).toNat)
   case atStart=>exact⟨_,_,rfl,rfl,KS.out⟩
   case round=>
    obtain⟨q,r,rfl,rfl,K⟩:=hrel
    have hq:=K.few
    have hr:=K.small
    obtain⟨r',hr'⟩:∃r',r'=r+y1:=⟨_,rfl⟩
    have hrI:(r:Int)+(y1:Int)=(r':Int):=by omega
    obtain⟨m0,hm0⟩:∃m0,m0=4294967296*r:=⟨_,rfl⟩
    have hmI0:(4294967296:Int)*(r:Int)=(m0:Int):=by omega
    obtain⟨m,hm⟩:∃m,m=m0+u0:=⟨_,rfl⟩
    have hmI:(m0:Int)+(u0:Int)=(m:Int):=by omega
    have hmW:m<18446744073709551616:=by omega
    have hmW0:m0<18446744073709551616:=by omega
    have hrW:r'<18446744073709551616:=by omega
    have HM:=aa (show m=r*4294967296+u0 by omega)
    have HR:=aa hr'
    have hrb:4294967296≤r'∨r'<4294967296:=by omega
    clear hr' hm0 hm
    by_cases c1:4294967296≤q
    ·obtain⟨g1,g2,g3⟩:=knuth_down HY.out k5 hRY K (.inl c1)
     rw [←HR.out] at g3
     have G2:=aa g2
     have G3:=aa g3
     have i1:(4294967296:Int)≤(q:Int):=by omega
     have i2:(q:Int)≤4294967297:=by omega
     rcases hrb with c2|c2
     ·have HQ:=aa (knuth_break HY.out (by omega) k3 G3.out G2.out (by omega) c2)
      have i4:(4294967296:Int)≤(r':Int):=by omega
      clear g1 g2 g3 K c1 c2 hq hr
      go_wp2
      go_meet
      case rel=>exact⟨by rw [←HQ.out];go_num,rfl⟩
     ·have i4:(r':Int)<4294967296:=by omega
      have hb2:decide ((4294967296:Int)≤(r':Int))=false:=decide_eq_false (by omega)
      clear g1 g2 g3 K c1 c2 hq hr
      go_wp2
      go_round
      case rel=>exact⟨q - 1,r',by go_num,rfl,G3.out,G2.out,by omega,by omega⟩
      case measure=>simp [intOf];omega
    ·obtain⟨p,hp⟩:∃p,p=q*y0:=⟨_,rfl⟩
     have hpI:(q:Int)*(y0:Int)=(p:Int):=by rw [hp];exact (Int.natCast_mul _ _).symm
     have hpW:p<18446744073709551616:=by
      rw [hp]
      have:=Nat.mul_le_mul (show q≤4294967295 by omega) (show y0≤4294967295 by omega)
      omega
     have HP:=aa hp
     clear hp
     have i1:(q:Int)<4294967296:=by omega
     have hb1:decide ((4294967296:Int)≤(q:Int))=false:=decide_eq_false (by omega)
     by_cases c3:m<p
     ·obtain⟨g1,g2,g3⟩:=knuth_down HY.out k5 hRY K (.inr (by rw [←HP.out,←HM.out];exact c3))
      rw [←HR.out] at g3
      have G2:=aa g2
      have G3:=aa g3
      have i2:(m:Int)<(p:Int):=by omega
      have i5:(1:Int)≤(q:Int):=by omega
      rcases hrb with c2|c2
      ·have HQ:=aa (knuth_break HY.out (by omega) k3 G3.out G2.out (by omega) c2)
       have i4:(4294967296:Int)≤(r':Int):=by omega
       clear g1 g2 g3 K c1 c2 c3 hq hr
       go_wp2
       go_meet
       case rel=>exact⟨by rw [←HQ.out];go_num,rfl⟩
      ·have i4:(r':Int)<4294967296:=by omega
       have hb2:decide ((4294967296:Int)≤(r':Int))=false:=decide_eq_false (by omega)
       clear g1 g2 g3 K c1 c2 c3 hq hr
       go_wp2
       go_round
       case rel=>exact⟨q - 1,r',by go_num,rfl,G3.out,G2.out,by omega,by omega⟩
       case measure=>simp [intOf];omega
     ·have HQ:=aa (knuth_stop HY.out K (by omega) (by rw [←HP.out,←HM.out];omega))
      have i2:(p:Int)≤(m:Int):=by omega
      have hb3:decide ((m:Int)<(p:Int))=false:=decide_eq_false (by omega)
      have hb4:decide (m<p)=false:=decide_eq_false c3
      clear K c1 c3 hq hr hrb
      go_wp2
      go_meet
      case rel=>exact⟨by rw [←HQ.out],rfl⟩
  case rest=>
   obtain⟨rfl,rfl⟩:=hcut
   have hRY0:(R1*4294967296+u0) % Y<Y:=Nat.mod_lt _ (by omega)
   have hQ0b:=knuth_lt k5 hRY
   have hd1:=Nat.div_add_mod (R1*4294967296+u0) Y
   rw [Nat.mul_comm] at hd1
   obtain⟨R0,hR0⟩:∃R0,R0=(R1*4294967296+u0) % Y:=⟨_,rfl⟩
   obtain⟨Q0,hQ0⟩:∃Q0,Q0=(R1*4294967296+u0) / Y:=⟨_,rfl⟩
   rw [←hR0] at hRY0 hd1
   rw [←hQ0] at hd1 hQ0b ⊢
   obtain⟨a1,a2,a3,t1,t2,t3,s1,s2,s3,s4⟩:=ie R1 u0 Y Q0 R0 hd1 (by omega)
   have hfin:=HK.out (U*4294967296+u1) u0 Q1 Q0 HVV.out HQ1.out (by rw [←HR1.out];exact hQ0)
   rw [←HR1.out,←hR0] at hfin
   have f1:(Q1:Int)*4294967296+(Q0:Int)=(((hi*18446744073709551616+lo) / y:Nat):Int):=by rw [←hfin.1];omega
   have f2:(R0:Int) / 2 ^ s=(((hi*18446744073709551616+lo) % y:Nat):Int):=by rw [←hfin.2];exact walk_shr R0 s
   have F1:=aa f1
   have F2:=aa f2
   have hQQ:((Q1:Int)*4294967296+(Q0:Int))<18446744073709551616:=by omega
   clear hR0 hQ0 hd1 KS hfin HK HVV f1 f2
   go_wp2
   go_ret2
   rw [←F1.out,←F2.out]
   exact⟨rfl,ai.refl _⟩

theorem m8 (hi lo y:Nat)(w:World)(hy:y<18446744073709551616)(hhi:hi<y)(hlo:lo<18446744073709551616) :
  Calls Tryz.prog 139 #[.int .u64 hi,.int .u64 lo,.int .u64 y] w fun e w'=>e=.returned (.tuple #[.int .u64 (((hi*18446744073709551616+lo) / y:Nat):Int),.int .u64 (((hi*18446744073709551616+lo) % y:Nat):Int)])∧ai w w':=by
 by_cases h:hi=0
 ·subst h
  have:=oi lo y w hy hhi hlo
  rw [Nat.zero_mul,Nat.zero_add]
  exact this
 ·exact mu hi lo y w hy (by omega) hhi hlo
end Go.Proofs.YtcbpdngogkbndaaGreatDoor
namespace Go.Proofs.YtcbpdngogkbndaaGreatDoor
open Go.RowKit
open Lm
attribute [local go_sem ↓] Go.wp_at_zero Go.wp_at_succ

def limbI (X:List Nat)(i:Int):Nat:=if i<0 then 0 else X.getD i.toNat 0

theorem dN {X:List Nat}(h:Limbs X)(i:Int):limbI X i<18446744073709551616:=by
 unfold limbI
 split
 ·omega
 ·exact limb_lt h _

theorem ia (ao:Option Addr)(cap:Nat)(X:List Nat)(i:Int)(w:World)(hX:X.length≤1125899906842624)(hi1:-9223372036854775808≤i)(hi2:i≤9223372036854775807)(hl:ak w ao X) :
  Calls Tryz.prog 132 #[.slice ao X.length cap,.int .i64 i] w fun e w'=>e=.returned (.int .u64 ((limbI X i:Nat):Int))∧w'=w:=by
 by_cases h0:i<0
 ·have e:limbI X i=0:=if_pos h0
  rw [e]
  clear hl
  go_enter Tryz.func132,Tryz.ntmps132
  go_wp2
  go_ret
  exact⟨rfl,rfl⟩
 ·obtain⟨n,rfl⟩:∃n:Nat,i=(n:Int):=⟨i.toNat,by omega⟩
  have e:limbI X (n:Int)=X.getD n 0:=by unfold limbI;rw [if_neg h0,Int.toNat_natCast]
  rw [e]
  by_cases hn:n<X.length
  ·rcases hl with rfl|⟨b,off,rfl,hc⟩
   ·simp at hn
   ·have hci:=hc n hn
    clear hc e
    have i1:(n:Int)<(X.length:Int):=by omega
    generalize X.getD n 0=z at hci ⊢
    go_enter Tryz.func132,Tryz.ntmps132
    go_wp2
    go_ret
    exact⟨rfl,rfl⟩
  ·have e2:X.getD n 0=0:=by simp [List.getD,Nat.le_of_not_lt hn]
   rw [e2]
   have i1:(X.length:Int)≤(n:Int):=by omega
   clear hl e e2
   go_enter Tryz.func132,Tryz.ntmps132
   go_wp2
   go_ret
   exact⟨rfl,rfl⟩

theorem j2 (hi lo top:Nat)(w:World)(hh:hi≤top)(hlo:lo<18446744073709551616)(ht:top<18446744073709551616)(_ht0:0<top) :
  Calls Tryz.prog 133 #[.int .u64 hi,.int .u64 lo,.int .u64 top] w fun e w'=>(∃q r o:Nat,e=.returned (.tuple #[.int .u64 q,.int .u64 r,.int .u64 o])∧q<18446744073709551616∧r<18446744073709551616∧o≤1 ∧
   q*top+(r+o*18446744073709551616)=hi*18446744073709551616+lo∧((hi*18446744073709551616+lo) / top≤q∨q=18446744073709551615))∧ai w w':=by
 by_cases h:hi<top
 ·have HD:=m8 hi lo top w ht h hlo
  have h1:=Nat.div_add_mod (hi*18446744073709551616+lo) top
  have h2:(hi*18446744073709551616+lo) / top<18446744073709551616:=by
   rw [Nat.div_lt_iff_lt_mul _ht0]
   have:=Nat.mul_le_mul_right 18446744073709551616 (Nat.succ_le_of_lt h)
   rw [Nat.mul_comm 18446744073709551616 top]
   omega
  have h3:=Nat.mod_lt (hi*18446744073709551616+lo) _ht0
  rw [Nat.mul_comm top] at h1
  have HQ:Hid ((hi*18446744073709551616+lo) / top*top+(hi*18446744073709551616+lo) % top=hi*18446744073709551616+lo):=h1
  have HL:Hid ((hi*18446744073709551616+lo) / top≤(hi*18446744073709551616+lo) / top):=Nat.le_refl _
  clear h1
  obtain⟨q,eq,r,er⟩:∃q,Hid ((hi*18446744073709551616+lo) / top=q)∧∃r,Hid ((hi*18446744073709551616+lo) % top=r):=⟨_,aa rfl,_,aa rfl⟩
  rw [eq.out,er.out] at HD HQ
  rw [eq.out] at h2 HL
  rw [er.out] at h3
  go_enter Tryz.func133,Tryz.ntmps133
  go_wp2_with fail
  refine HD.mono ?_
  rintro e w2 ⟨rfl,hs⟩
  have HS:=aa hs
  clear hs HD
  go_wp2
  go_ret3
  exact⟨⟨q,r,0,rfl,h2,by omega,by omega,by have:=HQ.out;omega,.inl (by rw [eq.out];exact Nat.le_refl _)⟩,HS.out⟩
 ·have ha:=bK lo top
  have hc:¬((hi:Int)<(top:Int)):=by omega
  have e1:(lo+top) % 18446744073709551616+(lo+top) / 18446744073709551616*18446744073709551616=lo+top:=by omega
  have e2:(lo+top) / 18446744073709551616≤1:=by omega
  have e3:(lo+top) % 18446744073709551616<18446744073709551616:=by omega
  have HE:=aa e1
  clear e1
  generalize (lo+top) % 18446744073709551616=s at *
  generalize (lo+top) / 18446744073709551616=c at *
  go_enter Tryz.func133,Tryz.ntmps133
  go_wp2
  go_ret3
  exact⟨⟨18446744073709551615,s,c,rfl,by omega,e3,e2,by have:=HE.out;omega,.inr rfl⟩,ai.refl _⟩
end Go.Proofs.YtcbpdngogkbndaaGreatDoor

