/- Package div: rest, Both, Quo, Rest, Divides. -/
import Derived.Test.YtghhnehbpkmhdaaGreatDoorB07
import Derived.Test.YtghhnehbpkmhdaaGreatDoorB01
import Derived.Deep.RegionHeld3
import Derived.Deep.DrawnRows
import Derived.Test.YtghhnehbpkmhdaaGreatDoorB02
import Derived.Test.YtghhnehbpkmhdaaGreatDoorB04
set_option maxRecDepth 20000
set_option maxHeartbeats 1000000
namespace Go.Proofs.YtghhnehbpkmhdaaGreatDoor
open Go.RowKit
open Lm
attribute [local go_sem ↓] Go.wp_at_zero Go.wp_at_succ

def kG (w w':World)(e:Ending)(s t:Nat):Prop:=
 ∃v1 v2 c r1 r2 mid,e=.returned (.tuple #[v1,v2,.int .i64 c])∧Ans w' w.heap.size v1 r1∧(w.heap.size≤mid∧mid≤w'.heap.size)∧(∀g,v1.ownBlock=some g→g<mid)∧Ans w' mid v2 r2 ∧
  ((c=0∧val r1=s∧tr r1=r1∧val r2=t∧tr r2=r2∧blen s≤67108864∧blen t≤67108864)∨(c=3∧r1=[]∧r2=[]∧(67108864<blen s∨67108864<blen t)))

theorem jW (v:Value)(base:Nat)(xs:List Nat)(w:World)(h:Ans w base v xs)(hf:xs.length≤1125899906842624) :
  Calls Tryz.prog 28 #[v] w fun e w'=>w'=w∧∃v' c rs,e=.returned (.tuple #[v',.int .i64 c])∧Ans w base v' rs∧(∀g,v'.ownBlock=some g→v.ownBlock=some g)∧((c=0∧val rs=val xs∧tr rs=rs∧blen (val xs)≤67108864)∨(c=3∧rs=[]∧67108864<blen (val xs))):=by
 have ha:=h.arg hf
 obtain⟨ao,cap,rfl,hcap,hmax,hlies⟩:=ha.form
 have hle:=tr_length_le xs
 have H1:=bg _ cap xs w hcap hmax hlies
 have H2:=aq _ _ _ ha
 have HA:Hid (Ans w base (.slice ao (tr xs).length cap) (tr xs)):=h.trim
 have HT:Hid (tr (tr xs)=tr xs∧val (tr xs)=val xs):=⟨tr_tr xs,val_tr xs⟩
 generalize tr xs=T at *
 generalize val xs=V at *
 generalize blen V=y at *
 clear hlies h ha
 by_cases hy:y≤67108864
 ·go_enter Tryz.func28,Tryz.ntmps28
  go_wp2_with fail
  refine H2.mono ?_
  rintro e w' ⟨rfl,rfl⟩
  go_wp2_with fail
  refine H1.mono ?_
  rintro e w' ⟨rfl,rfl⟩
  go_wp2
  go_ret2
  exact⟨rfl,_,_,T,rfl,HA.out,(fun g e=>by cases ao <;> exact e),.inl ⟨rfl,HT.out.2,HT.out.1,hy⟩⟩
 ·go_enter Tryz.func28,Tryz.ntmps28
  go_wp2_with fail
  refine H2.mono ?_
  rintro e w' ⟨rfl,rfl⟩
  go_wp2
  go_ret2
  exact⟨rfl,_,_,[],rfl,Ans.nil _ _,(fun g e=>(by cases e)),.inr ⟨rfl,rfl,by omega⟩⟩

theorem iA {x y k:Nat}(hy:0<y)(h:k+blen y<blen x):k<blen (x / y):=by
 refine Nat.lt_of_not_le fun hle=>?_
 have h1:=(blen_le_iff (x / y) k).1 hle
 have h2:y<2 ^ blen y:=(blen_le_iff y _).1 (Nat.le_refl _)
 have h3:x<2 ^ (k+blen y):=by
  rw [Nat.div_lt_iff_lt_mul hy] at h1
  rw [Nat.pow_add]
  exact Nat.lt_of_lt_of_le h1 (Nat.mul_le_mul_left _ (Nat.le_of_lt h2))
 have:=(blen_le_iff x _).2 h3
 omega

theorem fi (va vb:Value)(X Y:List Nat)(w:World)(hA:Arg w va X)(hA2:Arg w vb Y)(hT:Tab w)(hf1:X.length≤17592186044416)(hf2:Y.length≤17592186044416)(hY:val Y≠0) :
  Calls Tryz.prog 12 #[va,vb] w fun e w'=>kG w w' e (val X / val Y) (val X % val Y)∧Below w.heap.size w w':=by
 have HR:=lk va vb X Y w hA hA2
 have HDV:=lr vb Y w hA2 hT hY (by omega)
 have HA:=aa hA
 have HT:=aa hT
 obtain⟨a1,c1,rfl,_,_,_⟩:=hA.form
 obtain⟨a2,c2,rfl,_,_,_⟩:=hA2.form
 have hr:bi (val X) (val Y)=if 67108864+blen (val Y)<blen (val X) then 3 else 0:=by unfold bi;rw [if_neg hY]
 rw [hr] at HR
 have HY:=aa (show 0<val Y by omega)
 clear hA hA2 hT hr hY
 by_cases hb:67108864+blen (val Y)<blen (val X)
 ·rw [if_pos hb] at HR
  have HX:Hid (67108864<blen (val X / val Y)):=aa (iA HY.out hb)
  clear HDV hb
  go_enter Tryz.func12,Tryz.ntmps12
  go_wp2_with fail
  refine HR.mono ?_
  rintro e wn ⟨rfl,hw⟩;subst hw
  clear HR
  go_wp2
  go_returns
  exact⟨⟨_,_,_,[],[],wn.heap.size,rfl,Ans.nil _ _,⟨Nat.le_refl _,Nat.le_refl _⟩,(fun g e=>(by cases e)),Ans.nil _ _,.inr ⟨rfl,rfl,rfl,.inl HX.out⟩⟩,Below.refl _ _⟩
 ·rw [if_neg hb] at HR
  clear hb
  go_enter Tryz.func12,Tryz.ntmps12
  go_wp2_with fail
  refine HR.mono ?_
  rintro e wn ⟨rfl,hw⟩;rw [hw];clear hw wn
  go_wp2_with fail
  refine HDV.mono ?_
  rintro e w1 ⟨⟨vd,rfl,hd⟩,hb1⟩
  have H1:=jU _ vd X _ _ _ w1 (HA.out.below hb1) hd (HT.out.below hb1) hf1
  have HB1:=aa hb1
  clear hd hb1 HDV HR
  go_wp2_with fail
  refine H1.mono ?_
  rintro e w2 ⟨⟨vq,vr,qs,rs,mid,rfl,A1,hmid,hq,A2,e1,e2,l1,l2,_⟩,hb2⟩
  have HQ:=jW vq w1.heap.size qs w2 A1 (by omega)
  have HRR:=iI vr mid rs w2 A2 (by omega)
  have HB2:=aa (HB1.out.trans (hb2.mono HB1.out.size))
  have HM:=aa (And.intro (Nat.le_trans HB1.out.size hmid.1) (And.intro hmid.2 hq))
  rw [e1] at HQ
  rw [e2] at HRR
  clear A1 A2 hmid hq e1 e2 l1 l2 hb2 H1
  go_wp2_with fail
  refine HQ.mono ?_
  rintro e w3 ⟨hw,v1,c1,r1,rfl,An1,hown,hres⟩;subst hw
  clear HQ
  rcases hres with ⟨rfl,ev1,tv1,bl1⟩|⟨rfl,rfl,bl1⟩
  ·have H1:=aa (And.intro An1 (And.intro hown (And.intro ev1 (And.intro tv1 bl1))))
   clear An1 hown ev1 tv1 bl1
   go_wp2_with fail
   refine HRR.mono ?_
   rintro e w4 ⟨hw,v2,c2,r2,rfl,An2,hres⟩;subst hw
   clear HRR
   rcases hres with ⟨rfl,ev2,tv2,bl2⟩|⟨rfl,rfl,bl2⟩
   ·have H2:=aa (And.intro An2 (And.intro ev2 (And.intro tv2 bl2)))
    clear An2 ev2 tv2 bl2
    go_wp2
    go_returns
    obtain⟨a1,a2,a3,a4,a5⟩:=H1.out
    obtain⟨b1,b2,b3,b4⟩:=H2.out
    exact⟨⟨v1,v2,_,r1,r2,mid,rfl,a1.base HB1.out.size,⟨HM.out.1,HM.out.2.1⟩,(fun g e=>HM.out.2.2 g (a2 g e)),b1,.inl ⟨rfl,a3,a4,b2,b3,a5,b4⟩⟩,HB2.out⟩
   ·have H2:=aa bl2
    clear An2 bl2
    go_wp2
    go_returns
    exact⟨⟨_,_,_,[],[],w.heap.size,rfl,Ans.nil _ _,⟨Nat.le_refl _,HB2.out.size⟩,(fun g e=>(by cases e)),Ans.nil _ _,.inr ⟨rfl,rfl,rfl,.inr H2.out⟩⟩,HB2.out⟩
  ·have H2:=aa bl1
   clear An1 hown bl1 HRR
   go_wp2
   go_returns
   exact⟨⟨_,_,_,[],[],w.heap.size,rfl,Ans.nil _ _,⟨Nat.le_refl _,HB2.out.size⟩,(fun g e=>(by cases e)),Ans.nil _ _,.inr ⟨rfl,rfl,rfl,.inl H2.out⟩⟩,HB2.out⟩

theorem fC (v1 v2:Value)(zs ys:List Nat)(w:World)(h1:Arg w v1 zs)(h2:Arg w v2 ys)(f1:zs.length≤35184372088831)(f2:ys.length≤35184372088831) :
  Calls Tryz.prog 121 #[v1,v2] w fun e w'=>Below w.heap.size w w'∧Res w' w.heap.size e (val zs+val ys):=by
 obtain⟨a1,c1,rfl,hc1,hm1,hl1⟩:=h1.form
 obtain⟨a2,c2,rfl,hc2,hm2,hl2⟩:=h2.form
 have H1:=aM a1 c1 zs w hc1 hm1 hl1
 have H2:=aM a2 c2 ys w hc2 hm2 hl2
 have l1:=tr_length_le zs
 have l2:=tr_length_le ys
 have L1:=hl1.tr
 have L2:=hl2.tr
 have M1:=limbs_tr h1.limbs
 have M2:=limbs_tr h2.limbs
 rw [←val_tr zs,←val_tr ys]
 obtain⟨i0,hi,hz0,hz1,hz2⟩:=info_parts Tryz.infoU
 generalize tr zs=Z at *
 generalize tr ys=Y at *
 by_cases hlt:Z.length<Y.length
 ·rw [Nat.add_comm (val Z) (val Y)]
  go_enter Tryz.func121,Tryz.ntmps121
  go_wp2_with fail
  refine H1.mono ?_
  rintro e w' ⟨rfl,rfl⟩
  go_wp2_with fail
  refine H2.mono ?_
  rintro e w' ⟨rfl,rfl⟩
  clear H1 H2
  go_wp2_with (at_make;refine wpList_make_full _ rfl _ _ 23 rfl w'.heap.size 43 i0 (.int .u64 0) 1 Tryz.underlying23 hi hz0 hz1 .i64 .i64 _ _ (Y.length+1) rfl rfl (by omega) (by omega) (by rw [hz2];omega) (by unfold maxLen;omega) (Nat.le_refl _) ?_;intro w1 hown hgrow)
  have hb1:=Blk.made hown
  have hbel:Below w'.heap.size w' w1:=(Below.refl _ _).grown hgrow (Nat.le_refl _) (fun k hk=>by cases hk)
  clear hown hgrow hi hz0 hz1 hz2
  go_loopw [7,26] (fun c i wr=>∃(k cy:Nat) (out:List Nat),k≤Y.length∧i=.int .i64 k∧c=.int .u64 cy∧cy≤1∧out.length=Y.length+1∧Limbs out∧Blk wr w'.heap.size out∧Below w'.heap.size w' wr ∧
    val (out.take k)+cy*18446744073709551616 ^ k=val (Y.take k)+val (Z.take k)) (fun _ i _=>Y.length - (intOf i).toNat)
  case atStart=>exact⟨0,0,_,Nat.zero_le _,rfl,rfl,by omega,by simp,limbs_replicate _,hb1,hbel,by simp [val]⟩
  case round=>
   obtain⟨k,cy,out,hk,rfl,rfl,hcy,hlen,hlo,hblk,hbl,hval⟩:=hrel
   clear hb1 hbel
   have HV:Hid (val (out.take k)+cy*18446744073709551616 ^ k=val (Y.take k)+val (Z.take k)):=hval
   clear hval
   have HB:Hid (Blk wr w'.heap.size out):=hblk
   have HL:Hid (Below w'.heap.size w' wr):=hbl
   have H42:=cQ a1 c1 Z k wr.drew (by omega) hm1 (L1.below hbl.drew)
   by_cases hkl:k<Y.length
   ·rcases L2.below hbl with h0|⟨b,off,rfl,hcell⟩
    ·simp [h0] at hkl
    ·have hck:=hcell k hkl
     have hbw:=ae.block (L2:ae w' (some ⟨b,off,none⟩) Y) (by omega)
     have hne1:¬b=w'.heap.size:=by omega
     have hne2:¬w'.heap.size=b:=by omega
     have hfr:=hblk.free k
     have hco:=hblk.cell k (by omega)
     have ha:=ce (Y.getD k 0) (Z.getD k 0) cy hcy
     have hst:=add_step Y Z out k cy (by omega) HV.out
     have HS:Hid (val ((out.set k ((Y.getD k 0+Z.getD k 0+cy) % 18446744073709551616)).take (k+1))+(Y.getD k 0+Z.getD k 0+cy) / 18446744073709551616*18446744073709551616 ^ (k+1)=val (Y.take (k+1))+val (Z.take (k+1))):=hst
     have z1:=limb_lt M2 k
     have z2:=limb_lt M1 k
     clear hst hcell hblk hbl HV L2 L1 M2 M1 hl1 hl2 h1 h2
     generalize Y.getD k 0=x at *
     generalize Z.getD k 0=y at *
     generalize out.getD k 0=o at *
     have hs1:(x+y+cy) % 18446744073709551616<18446744073709551616:=Nat.mod_lt _ (by omega)
     have hd1:(x+y+cy) / 18446744073709551616≤1:=by omega
     generalize (x+y+cy) % 18446744073709551616=s at *
     generalize (x+y+cy) / 18446744073709551616=d at *
     have hi1:(0:Int)≤(k:Int):=by omega
     have hi2:(k:Int)<(Y.length:Int):=by omega
     have hi3:(k:Int)<(Y.length:Int)+1:=by omega
     go_wp2
     go_region_held3 (fun w'=>w'.cell? ⟨b,off+k,none⟩=some (.int .u64 x)) (go_keep) (first | (go_at_call 93;refine H42.mono ?_;rintro e w2 ⟨rfl,rfl⟩))
     go_wp2
     go_roundw
     case rel=>exact⟨k+1,d,out.set k s,by omega,by go_num,rfl,hd1,by simp;omega,limbs_set hlo _ _ hs1,HB.out.set k s,(HL.out.setCell (Nat.le_refl _) _).drew,HS.out⟩
     case measure=>simp [intOf];omega
   ·have ek:k=Y.length:=by omega
    subst ek
    have hfr:=hblk.free Y.length
    have hco:=hblk.cell Y.length (by omega)
    generalize out.getD Y.length 0=o at *
    have hb2:=hblk.set Y.length cy
    have HA:=dk _ w'.heap.size _ _ hb2 (limbs_set hlo _ _ (by omega)) (Nat.le_refl _) (by simp;omega)
    have hvl:val (out.set Y.length cy)=val Y+val Z:=by
     have e1:(out.set Y.length cy).take (Y.length+1)=out.set Y.length cy:=List.take_of_length_le (by simp;omega)
     rw [←e1,take_set_succ _ _ _ (by omega),Nat.mul_comm,HV.out,List.take_length,List.take_of_length_le (by omega)]
    rw [List.length_set,hlen,hvl] at HA
    have HBel:Hid (Below w'.heap.size w' (wr.setCell ⟨w'.heap.size,Y.length,none⟩ (.int .u64 cy))):=hbl.setCell (Nat.le_refl _) _
    clear hvl hb2 hblk hbl HV H42 L2 L1 M2 M1 hl1 hl2 h1 h2 HB HL hlo
    go_wp2_with fail
    refine HA.mono ?_
    rintro e w2 ⟨rfl,hres⟩
    unfold Res at hres
    obtain⟨v,c,rs,rfl,hans,hcase⟩:=hres
    have HX:Hid (Ans _ w'.heap.size v rs∧((c=0∧val rs=val Y+val Z∧tr rs=rs∧blen (val Y+val Z)≤67108864)∨(c=3∧rs=[]∧67108864<blen (val Y+val Z)))):=⟨hans,hcase⟩
    clear hans hcase
    go_wp2
    go_ret2
    exact⟨HBel.out,v,c,rs,rfl,HX.out⟩
 ·go_enter Tryz.func121,Tryz.ntmps121
  go_wp2_with fail
  refine H1.mono ?_
  rintro e w' ⟨rfl,rfl⟩
  go_wp2_with fail
  refine H2.mono ?_
  rintro e w' ⟨rfl,rfl⟩
  clear H1 H2
  go_wp2_with (at_make;refine wpList_make_full _ rfl _ _ 23 rfl w'.heap.size 43 i0 (.int .u64 0) 1 Tryz.underlying23 hi hz0 hz1 .i64 .i64 _ _ (Z.length+1) rfl rfl (by omega) (by omega) (by rw [hz2];omega) (by unfold maxLen;omega) (Nat.le_refl _) ?_;intro w1 hown hgrow)
  have hb1:=Blk.made hown
  have hbel:Below w'.heap.size w' w1:=(Below.refl _ _).grown hgrow (Nat.le_refl _) (fun k hk=>by cases hk)
  clear hown hgrow hi hz0 hz1 hz2
  go_loopw [7,26] (fun c i wr=>∃(k cy:Nat) (out:List Nat),k≤Z.length∧i=.int .i64 k∧c=.int .u64 cy∧cy≤1∧out.length=Z.length+1∧Limbs out∧Blk wr w'.heap.size out∧Below w'.heap.size w' wr ∧
    val (out.take k)+cy*18446744073709551616 ^ k=val (Z.take k)+val (Y.take k)) (fun _ i _=>Z.length - (intOf i).toNat)
  case atStart=>exact⟨0,0,_,Nat.zero_le _,rfl,rfl,by omega,by simp,limbs_replicate _,hb1,hbel,by simp [val]⟩
  case round=>
   obtain⟨k,cy,out,hk,rfl,rfl,hcy,hlen,hlo,hblk,hbl,hval⟩:=hrel
   clear hb1 hbel
   have HV:Hid (val (out.take k)+cy*18446744073709551616 ^ k=val (Z.take k)+val (Y.take k)):=hval
   clear hval
   have HB:Hid (Blk wr w'.heap.size out):=hblk
   have HL:Hid (Below w'.heap.size w' wr):=hbl
   have H42:=cQ a2 c2 Y k wr.drew (by omega) hm2 (L2.below hbl.drew)
   by_cases hkl:k<Z.length
   ·rcases L1.below hbl with h0|⟨b,off,rfl,hcell⟩
    ·simp [h0] at hkl
    ·have hck:=hcell k hkl
     have hbw:=ae.block (L1:ae w' (some ⟨b,off,none⟩) Z) (by omega)
     have hne1:¬b=w'.heap.size:=by omega
     have hne2:¬w'.heap.size=b:=by omega
     have hfr:=hblk.free k
     have hco:=hblk.cell k (by omega)
     have ha:=ce (Z.getD k 0) (Y.getD k 0) cy hcy
     have hst:=add_step Z Y out k cy (by omega) HV.out
     have HS:Hid (val ((out.set k ((Z.getD k 0+Y.getD k 0+cy) % 18446744073709551616)).take (k+1))+(Z.getD k 0+Y.getD k 0+cy) / 18446744073709551616*18446744073709551616 ^ (k+1)=val (Z.take (k+1))+val (Y.take (k+1))):=hst
     have z1:=limb_lt M1 k
     have z2:=limb_lt M2 k
     clear hst hcell hblk hbl HV L1 L2 M1 M2 hl1 hl2 h1 h2
     generalize Z.getD k 0=x at *
     generalize Y.getD k 0=y at *
     generalize out.getD k 0=o at *
     have hs1:(x+y+cy) % 18446744073709551616<18446744073709551616:=Nat.mod_lt _ (by omega)
     have hd1:(x+y+cy) / 18446744073709551616≤1:=by omega
     generalize (x+y+cy) % 18446744073709551616=s at *
     generalize (x+y+cy) / 18446744073709551616=d at *
     have hi1:(0:Int)≤(k:Int):=by omega
     have hi2:(k:Int)<(Z.length:Int):=by omega
     have hi3:(k:Int)<(Z.length:Int)+1:=by omega
     go_wp2
     go_region_held3 (fun w'=>w'.cell? ⟨b,off+k,none⟩=some (.int .u64 x)) (go_keep) (first | (go_at_call 93;refine H42.mono ?_;rintro e w2 ⟨rfl,rfl⟩))
     go_wp2
     go_roundw
     case rel=>exact⟨k+1,d,out.set k s,by omega,by go_num,rfl,hd1,by simp;omega,limbs_set hlo _ _ hs1,HB.out.set k s,(HL.out.setCell (Nat.le_refl _) _).drew,HS.out⟩
     case measure=>simp [intOf];omega
   ·have ek:k=Z.length:=by omega
    subst ek
    have hfr:=hblk.free Z.length
    have hco:=hblk.cell Z.length (by omega)
    generalize out.getD Z.length 0=o at *
    have hb2:=hblk.set Z.length cy
    have HA:=dk _ w'.heap.size _ _ hb2 (limbs_set hlo _ _ (by omega)) (Nat.le_refl _) (by simp;omega)
    have hvl:val (out.set Z.length cy)=val Z+val Y:=by
     have e1:(out.set Z.length cy).take (Z.length+1)=out.set Z.length cy:=List.take_of_length_le (by simp;omega)
     rw [←e1,take_set_succ _ _ _ (by omega),Nat.mul_comm,HV.out,List.take_length,List.take_of_length_le (by omega)]
    rw [List.length_set,hlen,hvl] at HA
    have HBel:Hid (Below w'.heap.size w' (wr.setCell ⟨w'.heap.size,Z.length,none⟩ (.int .u64 cy))):=hbl.setCell (Nat.le_refl _) _
    clear hvl hb2 hblk hbl HV H42 L1 L2 M1 M2 hl1 hl2 h1 h2 HB HL hlo
    go_wp2_with fail
    refine HA.mono ?_
    rintro e w2 ⟨rfl,hres⟩
    unfold Res at hres
    obtain⟨v,c,rs,rfl,hans,hcase⟩:=hres
    have HX:Hid (Ans _ w'.heap.size v rs∧((c=0∧val rs=val Z+val Y∧tr rs=rs∧blen (val Z+val Y)≤67108864)∨(c=3∧rs=[]∧67108864<blen (val Z+val Y)))):=⟨hans,hcase⟩
    clear hans hcase
    go_wp2
    go_ret2
    exact⟨HBel.out,v,c,rs,rfl,HX.out⟩
end Go.Proofs.YtghhnehbpkmhdaaGreatDoor
namespace Go.Proofs.YtghhnehbpkmhdaaGreatDoor
open Go.RowKit
open Lm

def Nv (w:World)(base:Nat)(v:Value)(x:Nat):Prop:=∃rs,Ans w base v rs∧val rs=x∧tr rs=rs∧rs.length≤1048576

theorem Nv.base {w:World}{base base':Nat}{v:Value}{x:Nat}(h:Nv w base v x)(hb:base'≤base):Nv w base' v x:=by
 obtain⟨rs,h1,h2⟩:=h
 exact⟨rs,h1.base hb,h2⟩

theorem Nv.arg {w:World}{base:Nat}{v:Value}{x:Nat}(h:Nv w base v x):∃rs,Arg w v rs∧val rs=x∧tr rs=rs∧rs.length≤1048576:=by
 obtain⟨rs,h1,h2,h3,h4⟩:=h
 exact⟨rs,h1.arg (by omega),h2,h3,h4⟩

theorem Nv.of {w:World}{base:Nat}{v:Value}{rs:List Nat}{x:Nat}(h:Ans w base v rs)(hv:val rs=x)(ht:tr rs=rs)(hb:blen x≤67108864):Nv w base v x:=by
 refine⟨rs,h,hv,ht,?_⟩
 have:=few_limbs rs 1048576 (by rw [hv];omega)
 rwa [ht] at this

theorem Res.fits {w:World}{base:Nat}{e:Ending}{s:Nat}(h:Res w base e s)(hs:blen s≤67108864):∃v,e=.returned (.tuple #[v,.int .i64 0])∧Nv w base v s:=by
 obtain⟨v,c,rs,rfl,hA,h⟩:=h
 rcases h with ⟨rfl,h1,h2,h3⟩|⟨_,_,h3⟩
 ·exact⟨v,rfl,Nv.of hA h1 h2 h3⟩
 ·omega
end Go.Proofs.YtghhnehbpkmhdaaGreatDoor
namespace Go.Proofs.YtghhnehbpkmhdaaGreatDoor
open Go.RowKit
open Lm
attribute [local go_sem ↓] Go.wp_at_zero Go.wp_at_succ

def Joined (h o s l:Nat)(w:World)(e:Ending)(w':World):Prop:=
 Below w.heap.size w w'∧((∃v Z,e=.returned (.tuple #[v,.int .i64 0])∧Ans w' w.heap.size v Z∧val Z=h*o*18446744073709551616 ^ s+l∧(0<h*o→tr Z=Z)∧Z.length≤s+1048576) ∨
  (e=.returned (.tuple #[.slice none 0 0,.int .i64 3])∧67108864<blen (h*o+l / 18446744073709551616 ^ s)))

theorem bE {x y:Nat}(h:x≤y):blen x≤blen y:=(blen_le_iff _ _).2 (Nat.lt_of_le_of_lt h ((blen_le_iff _ _).1 (Nat.le_refl _)))

theorem bf {U:List Nat}{k:Nat}(h:tr U=U)(hb:blen (val U)≤64*k):U.length≤k:=by
 have h1:=(blen_le_iff _ _).1 hb
 rw [Nat.pow_mul] at h1
 have:=au U k h1
 rw [h] at this
 exact this

theorem fu {X:List Nat}(hX:Limbs X)(s nn:Nat)(hn:nn=min s X.length):val X=val (X.take nn)+18446744073709551616 ^ s*val (X.drop nn)∧val X / 18446744073709551616 ^ s=val (X.drop nn)∧val (X.take nn)<18446744073709551616 ^ s:=by
 have hp:0<18446744073709551616 ^ s:=Nat.pow_pos (by omega)
 have h3:val (X.take nn)<18446744073709551616 ^ s:=by
  have h:=val_lt (zs:=X.take nn) (fun z hz=>hX z (List.mem_of_mem_take hz))
  refine Nat.lt_of_lt_of_le h (Nat.pow_le_pow_right (by omega) (by simp;omega))
 have h1:val X=val (X.take nn)+18446744073709551616 ^ s*val (X.drop nn):=by
  rcases Nat.lt_or_ge X.length s with h|h
  ·have e:nn=X.length:=by omega
   rw [e,List.take_length,List.drop_length];simp [val]
  ·have e:nn=s:=by omega
   rw [e]
   have hh:=ac X 0 s (X.length - s) (by omega)
   rw [show s+(X.length - s)=X.length by omega,aW] at hh
   have e1:sv X 0 s=val (X.take s):=by simp [sv,seg]
   have e2:sv X (0+s) (X.length - s)=val (X.drop s):=by
    rw [Nat.zero_add]
    unfold sv seg
    rw [List.take_of_length_le (by simp)]
   rw [hh,e1,e2]
 refine⟨h1,?_,h3⟩
 rw [h1,Nat.add_mul_div_left _ _ hp,Nat.div_eq_of_lt h3,Nat.zero_add]

theorem fW (b:Nat)(w:World)(h1:2≤b)(h2:b≤36):Calls Tryz.prog 29 #[.int .i64 b] w fun e w'=>e=.returned (.bool true)∧w'=w:=by
 have i0:(2:Int)≤(b:Int):=by omega
 have i1:(b:Int)≤36:=by omega
 have i2:decide ((b:Int)≤36)=true:=decide_eq_true i1
 go_enter Tryz.func29,Tryz.ntmps29
 go_wp2
 go_ret
 exact⟨rfl,rfl⟩

def aF (b v n:Nat):Prop:=1≤n∧v<b ^ n∧(n=1∨b ^ (n - 1)≤v)

theorem aF.unique {b v m n:Nat}(hb:2≤b)(h:aF b v m)(h':aF b v n):m=n:=by
 have key:∀ {m n:Nat},aF b v m→aF b v n→m≤n:=by
  intro m n h h'
  rcases h.2.2 with e|e
  ·have:=h'.1;omega
  ·have h1:=(Nat.pow_lt_pow_iff_right (show 1<b by omega)).1 (Nat.lt_of_le_of_lt e h'.2.1)
   omega
 exact Nat.le_antisymm (key h h') (key h' h)

theorem aF.few {b v n k:Nat}(hb:2≤b)(h:aF b v n)(hk:1≤k)(hv:v<2 ^ k):n≤k:=by
 rcases h.2.2 with e|e
 ·omega
 ·have h1:2 ^ (n - 1)≤b ^ (n - 1):=Nat.pow_le_pow_left hb _
  have h2:=(Nat.pow_lt_pow_iff_right (show 1<2 by omega)).1 (Nat.lt_of_le_of_lt (Nat.le_trans h1 e) hv)
  omega

def Cs (b v c n:Nat):Prop:=1≤n∧c=v / b ^ (n - 1)∧(n=1∨b ^ (n - 1)≤v)

theorem Cs.next {b v c n:Nat}(hb:2≤b)(h:Cs b v c n)(hc:b≤c):Cs b v (c / b) (n+1):=by
 obtain⟨h1,h2,_⟩:=h
 have e:b ^ (n+1 - 1)=b ^ (n - 1)*b:=by rw [←Nat.pow_succ];congr 1;omega
 have hp:0<b ^ (n - 1):=Nat.pow_pos (by omega)
 refine⟨by omega,by rw [e,←Nat.div_div_eq_div_mul,h2],.inr ?_⟩
 rw [e,Nat.mul_comm]
 exact (Nat.le_div_iff_mul_le hp).1 (by rw [←h2];exact hc)

theorem Cs.done {b v c n:Nat}(hb:2≤b)(h:Cs b v c n)(hc:c<b):aF b v n:=by
 obtain⟨h1,h2,h3⟩:=h
 have hp:0<b ^ (n - 1):=Nat.pow_pos (by omega)
 refine⟨h1,?_,h3⟩
 have e:b ^ n=b*b ^ (n - 1):=by rw [Nat.mul_comm,←Nat.pow_succ];congr 1;omega
 rw [e]
 exact (Nat.div_lt_iff_lt_mul hp).1 (by rw [←h2];exact hc)

theorem Cs.few {b v c n:Nat}(hb:2≤b)(h:Cs b v c n)(hv:v<18446744073709551616):n≤64:=by
 rcases h.2.2 with e|e
 ·omega
 ·have h1:2 ^ (n - 1)≤b ^ (n - 1):=Nat.pow_le_pow_left hb _
  have h2:=(Nat.pow_lt_pow_iff_right (show 1<2 by omega)).1 (Nat.lt_of_le_of_lt (Nat.le_trans h1 e) (show v<2 ^ 64 by omega))
  omega

theorem gC (v b:Nat)(w:World)(hb:2≤b)(hb2:b≤36)(hv:v<18446744073709551616) :
  Calls Tryz.prog 80 #[.int .u64 v,.int .u64 b] w fun e w'=>∃n:Nat,e=.returned (.int .i64 n)∧aF b v n∧w'=w:=by
 have hbz:((b:Int) == 0)=false:=by rw [beq_eq_false_iff_ne];omega
 go_enter Tryz.func80,Tryz.ntmps80
 go_wp2
 go_loop [0,5] (fun x y=>∃c n:Nat,x=.int .u64 c∧y=.int .i64 n∧c≤v∧Cs b v c n) (fun x _=>(intOf x).toNat)
 case atStart=>exact⟨v,1,rfl,rfl,Nat.le_refl _,Nat.le_refl _,by simp,.inl rfl⟩
 case round=>
  obtain⟨c,n,rfl,rfl,hcv,hcs⟩:=hrel
  have hn:=hcs.few hb hv
  have HC:=aa hcs
  by_cases hc:b≤c
  ·have i1:(b:Int)≤(c:Int):=by omega
   have hdl:c / b<c:=Nat.div_lt_self (by omega) (by omega)
   have hde:(c:Int) / (b:Int)=((c / b:Nat):Int):=by omega
   have HN:=aa (HC.out.next hb hc)
   generalize c / b=q at *
   clear hcs
   go_wp2
   go_round
   case rel=>exact⟨q,n+1,rfl,by go_num,by omega,HN.out⟩
   case measure=>simp [intOf];omega
  ·have i1:¬((b:Int)≤(c:Int)):=by omega
   clear hcs
   go_wp2
   go_ret
   exact⟨n,rfl,HC.out.done hb (by omega),rfl⟩

structure gS (b d p:Nat):Prop where
 pow:p=b ^ d
 fits:p<18446744073709551616
 most:18446744073709551616≤p*b
 some:1≤d
 few:d≤63

theorem dC (b:Nat)(w:World)(hb:2≤b)(hb2:b≤36) :
  Calls Tryz.prog 85 #[.int .i64 b] w fun e w'=>∃d p:Nat,e=.returned (.tuple #[.int .i64 d,.int .u64 p])∧gS b d p∧w'=w:=by
 have hbz:((b:Int) == 0)=false:=by rw [beq_eq_false_iff_ne];omega
 obtain⟨m,hm⟩:∃m,18446744073709551615 / b=m:=⟨_,rfl⟩
 have hmi:(18446744073709551615:Int) / (b:Int)=(m:Int):=by rw [←hm,Int.natCast_ediv];rfl
 have hm1:m*b≤18446744073709551615:=by rw [←hm];exact Nat.div_mul_le_self _ _
 have hm2:18446744073709551615<(m+1)*b:=by rw [←hm,Nat.mul_comm];exact Nat.lt_mul_div_succ _ (by omega)
 have hm3:1≤m:=by rw [←hm];exact (Nat.le_div_iff_mul_le (by omega)).2 (by omega)
 have HM:=aa (And.intro hm1 hm2)
 clear hm hm1 hm2
 go_enter Tryz.func85,Tryz.ntmps85
 go_wp2
 go_loop [2,3] (fun x y=>∃d p:Nat,x=.int .i64 d∧y=.int .u64 p∧p=b ^ d∧p<18446744073709551616∧d≤63) (fun x _=>64 - (intOf x).toNat)
 case atStart=>exact⟨0,1,rfl,rfl,by simp,by omega,by omega⟩
 case round=>
  obtain⟨d,p,rfl,rfl,hp,hpl,hd⟩:=hrel
  have HP:=aa hp
  by_cases hc:p≤m
  ·have i1:(p:Int)≤(m:Int):=by omega
   have hpb:p*b<18446744073709551616:=by
    have:=Nat.mul_le_mul_right b hc
    have:=HM.out.1
    omega
   have hpi:(p:Int)*(b:Int)=((p*b:Nat):Int):=by simp
   have hq:p*b=b ^ (d+1):=by rw [hp,Nat.pow_succ]
   have hd2:d+1≤63:=by
    have h1:2 ^ (d+1)≤b ^ (d+1):=Nat.pow_le_pow_left hb _
    have h2:=(Nat.pow_lt_pow_iff_right (show 1<2 by omega)).1 (Nat.lt_of_le_of_lt h1 (show b ^ (d+1)<2 ^ 64 by omega))
    omega
   have HQ:=aa hq
   generalize p*b=q at *
   clear hp hq
   go_wp2
   go_round
   case rel=>exact⟨d+1,q,by go_num,rfl,HQ.out,hpb,hd2⟩
   case measure=>simp [intOf];omega
  ·have i1:¬((p:Int)≤(m:Int)):=by omega
   clear hp
   go_wp2
   go_returns
   refine⟨d,p,rfl,⟨HP.out,hpl,?_,?_,hd⟩,rfl⟩
   ·have:=Nat.mul_le_mul_right b (show m+1≤p by omega)
    have:=HM.out.2
    omega
   ·rcases Nat.eq_zero_or_pos d with h|h
    ·have:=HP.out;rw [h] at this;simp at this;omega
    ·exact h

theorem Ans.front5 {w:World}{base g cap:Nat}{zs:List Nat}(h:Ans w base (.slice (some ⟨g,0,none⟩) zs.length cap) zs)(n:Nat)(hn:n≤zs.length):Ans w base (.slice (some ⟨g,0,none⟩) n cap) (zs.take n):=by
 refine⟨?_,fun z hz=>h.limbs z (List.mem_of_mem_take hz)⟩
 obtain⟨_,h2⟩:=h.own
 have e:(zs.take n).length=n:=by simp;omega
 refine⟨by simp,?_⟩
 rcases h2 with ⟨h1,_⟩|⟨g',cap',cur,hv,hg,hh,hnn,hcm,hs,ht⟩
 ·cases h1
 ·cases hv
  refine .inr ⟨g,cap,cur,by rw [e],hg,hh,by rw [e];omega,hcm,hs,?_⟩
  rw [e]
  have e2:cur.toList.take (n*1)=(cur.toList.take (zs.length*1)).take n:=by
   rw [List.take_take,Nat.mul_one,Nat.mul_one,Nat.min_eq_left hn]
  rw [e2,ht,List.map_take]

theorem gi (X out:List Nat)(j q:Nat)(h:out.take (j+1)=X.take (j+1)):(out.set j q).take j=X.take j:=by
 have e:(out.set j q).take j=out.take j:=by
  apply List.ext_getElem?
  intro n
  simp only [List.getElem?_take]
  split
  ·rw [List.getElem?_set_ne (by omega)]
  ·rfl
 rw [e]
 have h2:=congrArg (List.take j) h
 simpa [List.take_take,Nat.min_eq_left (Nat.le_succ j)] using h2

theorem kc (X out:List Nat)(j:Nat)(h:out.take (j+1)=X.take (j+1)):out.getD j 0=X.getD j 0:=by
 have h2:=congrArg (fun l=>l.getD j 0) h
 simpa [List.getD,List.getElem?_take] using h2

def dn (base x d:Nat)(w:World)(e:Ending)(w':World):Prop:=
 ∃v Y,e=.returned (.tuple #[v,.int .u64 ((x % d:Nat):Int)])∧Ans w' base v Y∧val Y=x / d∧Below base w w'

theorem jk (base g cap d:Nat)(X:List Nat)(w:World)(hA:Ans w base (.slice (some ⟨g,0,none⟩) X.length cap) X)(hd:d<18446744073709551616)(hd0:0<d) :
  Calls Tryz.prog 86 #[.slice (some ⟨g,0,none⟩) X.length cap,.int .u64 d] w (dn base (val X) d w):=by
 obtain⟨⟨hc1,hc2⟩,_,_⟩:=Ans.cellAt5 hA
 have hbg:base≤g:=(hA.own.lt g rfl).1
 have M1:=hA.limbs
 have HA:=aa hA
 clear hA
 go_enter Tryz.func86,Tryz.ntmps86
 go_wp2
 go_loopw [6,8] (fun c i wr=>∃(k r:Nat) (out:List Nat),k≤X.length∧i=.int .i64 ((k:Int) - 1)∧c=.int .u64 r∧r<d∧out.length=X.length∧Ans wr base (.slice (some ⟨g,0,none⟩) out.length cap) out∧Below base w wr ∧
   val (out.drop k)*d+r=val (X.drop k)∧out.take k=X.take k) (fun _ i _=>(intOf i+1).toNat)
 case atStart=>exact⟨X.length,0,X,Nat.le_refl _,by go_num,rfl,hd0,rfl,HA.out,Below.refl _ _,by simp [val],rfl⟩
 case round=>
  obtain⟨k,r,out,hk,rfl,rfl,hr,hlen,hans,hbl,hval,htk⟩:=hrel
  clear HA
  obtain⟨_,hfz,hcell⟩:=Ans.cellAt5 hans
  rcases Nat.eq_zero_or_pos k with rfl|hk0
  ·rw [List.drop_zero,List.drop_zero] at hval
   have hq:val out=val X / d:=by
    rw [←hval,Nat.mul_comm,Nat.mul_add_div hd0,Nat.div_eq_of_lt hr,Nat.add_zero]
   have hm:r=val X % d:=by
    rw [←hval,Nat.mul_comm,Nat.mul_add_mod,Nat.mod_eq_of_lt hr]
   have hrW:r<18446744073709551616:=by omega
   have HX:=aa hans
   have HL:=aa hbl
   have HQ:=aa (And.intro hq hm)
   rcases Nat.eq_zero_or_pos X.length with hx|hx
   ·obtain rfl:=List.eq_nil_of_length_eq_zero hx
    obtain rfl:=List.eq_nil_of_length_eq_zero hlen
    clear hans hbl hcell htk hval hq hm hfz
    go_wp2
    go_returns
    exact⟨_,[],by rw [←HQ.out.2];rfl,HX.out,HQ.out.1,HL.out⟩
   ·obtain⟨j,hj⟩:∃j,X.length=j+1:=⟨X.length - 1,by omega⟩
    have hji:(X.length:Int) - 1=(j:Int):=by omega
    have hck:=hcell j (by omega)
    have hlast:=val_take_next out j
    rw [show j+1=out.length by omega,List.take_length] at hlast
    have HF:=aa (HX.out.front5 j (by omega))
    have HT:=aa hlast
    have hjl:j<X.length:=by omega
    generalize out.getD j 0=o at *
    clear hans hbl hcell htk hval hq hm hlast hfz
    by_cases ho:o=0
    ·subst ho
     have hjc:j≤cap:=by omega
     go_wp2
     go_returns
     refine⟨_,out.take j,by rw [←HQ.out.2];rfl,HF.out,?_,HL.out⟩
     have:=HT.out;rw [Nat.mul_zero,Nat.add_zero] at this
     rw [←this];exact HQ.out.1
    ·have hoz:((o:Int) == 0)=false:=by rw [beq_eq_false_iff_ne];omega
     go_wp2
     go_returns
     refine⟨_,out,by rw [←HQ.out.2];rfl,?_,HQ.out.1,HL.out⟩
     have:=HX.out;rw [hlen] at this;exact this
  ·obtain⟨j,rfl⟩:∃j,k=j+1:=⟨k - 1,by omega⟩
   have hje:(((j+1:Nat):Int)) - 1=(j:Int):=by omega
   rw [hje]
   have hck:=hcell j (by omega)
   have hjl:j<X.length:=by omega
   have hst:=through_step X out d j r (by omega) hval hjl
   have hts:=gi X out j ((r*18446744073709551616+X.getD j 0) / d) htk
   rw [kc X out j htk] at hck
   have z1:=limb_lt M1 j
   have HV:=aa (And.intro hst hts)
   have HD:=eE r (X.getD j 0) d wr hd hr z1
   have hql:=quo_lt r (X.getD j 0) d hr z1
   have hrl:(r*18446744073709551616+X.getD j 0) % d<d:=Nat.mod_lt _ hd0
   generalize (r*18446744073709551616+X.getD j 0) / d=qq at *
   generalize (r*18446744073709551616+X.getD j 0) % d=rr at *
   generalize X.getD j 0=x at *
   have HX:=aa hans
   have HL:=aa hbl
   have hi1:(0:Int)≤(j:Int):=by omega
   have hi2:(j:Int)<(X.length:Int):=by omega
   clear hst hts hval hcell hans hbl htk hfz hje M1
   go_wp2_with fail
   refine HD.mono ?_
   rintro e w2 ⟨rfl,hs⟩
   have HX2:=aa (HX.out.below (hs.below _))
   have HL2:=aa (HL.out.trans (hs.below _))
   obtain⟨_,hfz,hcell⟩:=Ans.cellAt5 HX2.out
   have hfr:=hfz j
   have hco:=hcell j (by omega)
   generalize out.getD j 0=o at *
   clear HD hs hck hfz hcell
   go_wp2
   go_roundw
   case rel=>
    exact⟨j,rr,out.set j qq,by omega,by go_num,rfl,hrl,by simp;omega,HX2.out.stored j qq hql,HL2.out.setCell hbg _,HV.out.1,HV.out.2⟩
   case measure=>simp [intOf]

theorem kB (base d:Nat)(w:World) :
  Calls Tryz.prog 86 #[.slice none 0 0,.int .u64 d] w (dn base 0 d w):=by
 go_enter Tryz.func86,Tryz.ntmps86
 go_wp2
 refine wp_loop_rounds 1 ?_
 rw [rounds_succ]
 go_wp2
 go_returns
 exact⟨_,[],by rw [Nat.zero_mod];rfl,Ans.nil _ _,by simp [val],Below.refl _ _⟩

theorem jv (base d:Nat)(v:Value)(X:List Nat)(w:World)(hA:Ans w base v X)(hd:d<18446744073709551616)(hd0:0<d) :
  Calls Tryz.prog 86 #[v,.int .u64 d] w (dn base (val X) d w):=by
 rcases hA.form with ⟨rfl,rfl⟩|⟨g,cap,rfl,_⟩
 ·exact kB base d w
 ·exact jk base g cap d X w hA hd hd0

def bv (z:Nat):Value:=.int .u8 (z:Int)

def Byt (w:World)(b:Nat)(xs:List Nat):Prop:=w.heap[b]?=some (.cells (xs.map bv).toArray 5 (0,0))

theorem Byt.lt {w:World}{b:Nat}{xs:List Nat}(h:Byt w b xs):b<w.heap.size:=lt_of_block h

theorem Byt.cell {w:World}{b:Nat}{xs:List Nat}(h:Byt w b xs)(k:Nat)(hk:k<xs.length):w.cell? ⟨b,k,none⟩=some (.int .u8 ((xs.getD k 0:Nat):Int)):=by
 simp [World.cell?,show w.heap[b]?=_ from h,hk,bv,List.getD]

theorem Byt.free {w:World}{b:Nat}{xs:List Nat}(h:Byt w b xs)(k:Nat):w.frozen? ⟨b,k,none⟩=false:=by
 simp [World.frozen?,show w.heap[b]?=_ from h]

theorem Byt.set {w:World}{b:Nat}{xs:List Nat}(h:Byt w b xs)(k z:Nat):Byt (w.setCell ⟨b,k,none⟩ (.int .u8 (z:Int))) b (xs.set k z):=by
 have hlt:=h.lt
 have h':w.heap[b]=.cells (xs.map bv).toArray 5 (0,0):=by simpa [Array.getElem?_eq_getElem hlt] using (show w.heap[b]?=_ from h)
 show (w.heap.modify b _)[b]?=_
 rw [Array.getElem?_eq_getElem (by simpa using hlt),Array.getElem_modify_self,h']
 simp [List.map_set,bv]

theorem Byt.below {w w':World}{b B:Nat}{xs:List Nat}(h:Byt w b xs)(hb:Below B w w')(hB:b<B):Byt w' b xs:=by
 unfold Byt;rw [hb.block b hB];exact h

theorem Ans.apart5 {w:World}{base:Nat}{v:Value}{zs:List Nat}(h:Ans w base v zs)(g o:Nat)(u:Value)(hg:g<base):Ans (w.setCell ⟨g,o,none⟩ u) base v zs:=by
 refine⟨?_,h.limbs⟩
 obtain⟨h1,h2⟩:=h.own
 refine⟨h1,?_⟩
 rcases h2 with h2|⟨g',cap,cur,hv,hg',hh,r⟩
 ·exact .inl h2
 ·exact .inr ⟨g',cap,cur,hv,hg',by rw [Below.heap_setCell _ _ _ _ (show g'≠(⟨g,o,none⟩:Addr).block by show g'≠g;omega)];exact hh,r⟩

theorem Fr.low {gd:Nat}{w wr w2:World}(h:Fr gd w wr)(k:Below w.heap.size wr w2):Fr gd w w2:=
 ⟨k.os.trans h.os,k.tape.trans h.tape,k.output.trans h.output,Nat.le_trans h.size k.size,fun j h1 h2=>(k.block j h1).trans (h.block j h1 h2)⟩

structure aE (b x o n t:Nat)(D D':List Nat):Prop where
 len:D'.length=D.length
 digs:∀i,t≤i→i<n→D'.getD (o+i) 0=x / b ^ (n - 1 - i) % b
 same:∀k,k<o+t∨o+n≤k→D'.getD k 0=D.getD k 0

theorem aE.start (b x o n:Nat)(D:List Nat):aE b x o n n D D:=⟨rfl,fun i h1 h2=>by omega,fun _ _=>rfl⟩

theorem aE.set {b x o n t:Nat}{D D':List Nat}(h:aE b x o n (t+1) D D')(ht:t<n)(ho:o+n≤D.length):aE b x o n t D (D'.set (o+t) (x / b ^ (n - 1 - t) % b)):=by
 have hl:=h.len
 refine⟨by simp [h.len],fun i h1 h2=>?_,fun k hk=>?_⟩
 ·rw [List.getD,List.getElem?_set]
  by_cases e:i=t
  ·subst e;rw [if_pos rfl,if_pos (by omega)];rfl
  ·rw [if_neg (by omega)];exact h.digs i (by omega) h2
 ·rw [List.getD,List.getElem?_set,if_neg (by omega)]
  exact h.same k (by omega)

theorem dM (x b m d s:Nat)(hs:s<d):x / b ^ (m*d) % b ^ d / b ^ s % b=x / b ^ (m*d+s) % b:=by
 have e:b ^ d=b ^ s*b ^ (d - s):=by rw [←Nat.pow_add];congr 1;omega
 rw [e,Nat.mod_mul_right_div_self,Nat.div_div_eq_div_mul,←Nat.pow_add]
 have hd:b ∣ b ^ (d - s):=by
  obtain⟨k,hk⟩:∃k,d - s=k+1:=⟨d - s - 1,by omega⟩
  rw [hk,Nat.pow_succ];exact Nat.dvd_mul_left _ _
 rw [Nat.mod_mod_of_dvd _ hd]

def d5 (b x o n gd:Nat)(D:List Nat)(w:World)(e:Ending)(w':World):Prop:=
 e=.returned (.tuple #[])∧∃D',Byt w' gd D'∧aE b x o n 0 D D'∧Fr gd w w'

theorem kI (gd o n cap b:Nat)(D:List Nat)(va:Value)(X:List Nat)(w:World)(hD:Byt w gd D)(ho:o+n≤D.length)(hn:n≤cap)(hcap:cap≤9223372036854775807)(hA:Arg w va X)(hl:X.length≤17592186044416)(hb:2≤b)(hb2:b≤36) :
  Calls Tryz.prog 57 #[.slice (some ⟨gd,o,none⟩) n cap,va,.int .i64 b] w (d5 b (val X) o n gd D w):=by
 have HU:=dC b w hb hb2
 have HN:=dq va X w hA hl
 have hbz:((b:Int) == 0)=false:=by rw [beq_eq_false_iff_ne];omega
 have hgd:=hD.lt
 have HD:=aa hD
 have hX:=val_tr X
 generalize val X=x at *
 clear hA hD
 go_enter Tryz.func57,Tryz.ntmps57
 go_wp2_with fail
 refine HU.mono ?_
 rintro e wn ⟨d,p,rfl,hu,hw⟩;rw [hw];clear hw wn HU
 have hpf:=hu.fits
 have hp0:0<p:=by rw [hu.pow];exact Nat.pow_pos (by omega)
 have hd1:=hu.some
 have hd2:=hu.few
 have HP:=aa hu.pow
 clear hu
 go_wp2_with fail
 refine HN.mono ?_
 rintro e w1 ⟨⟨v1,rfl,A1⟩,hb1⟩
 have HA1:=aa A1
 have HB1:=aa hb1
 clear HN A1 hb1
 go_wp2
 go_loopw [1,8] (fun a t wr=>∃(m:Nat) (v:Value) (Y D':List Nat),v=a∧t=.int .i64 ((n:Int) - ((m*d:Nat):Int))∧(n:Int) - ((m*d:Nat):Int) > -64∧Ans wr w.heap.size v Y∧val Y=x / b ^ (m*d)∧Byt wr gd D'∧aE b x o n (n - m*d) D D'∧Fr gd w wr) (fun _ t _=>(intOf t).toNat)
 case atStart=>
  exact⟨0,v1,tr X,D,rfl,by simp,by omega,HA1.out,by simpa using hX,HD.out.below HB1.out hgd,by simpa using aE.start b x o n D,Fr.of_below HB1.out⟩
 case round=>
  obtain⟨m,v,Y,D',rfl,rfl,htb,hAns,hY,hByt,hW,hFr⟩:=hrel
  clear HA1 HB1
  by_cases hto:m*d<n
  ·obtain⟨T,hT1,hT2,hT3⟩:∃T:Nat,(n:Int) - ((m*d:Nat):Int)=(T:Int)∧n - m*d=T∧T≤n:=⟨n - m*d,by omega,rfl,by omega⟩
   rw [hT1]
   rw [hT2] at hW
   have hT0:(0:Int)<(T:Int):=by omega
   have HS:=jv w.heap.size p v Y wr hAns hpf hp0
   rw [hY] at HS
   have HBy:=aa hByt
   have HWr:=aa hW
   have HFr:=aa hFr
   have HT:=aa (And.intro hT1 hT2)
   clear hAns hY hByt hW hFr hT1 hT2 htb hto
   go_wp2_with fail
   refine HS.mono ?_
   rintro e w2 ⟨v2,Y2,rfl,hA2,hY2,hb2'⟩
   have HA2:=aa hA2
   have HY2:=aa hY2
   have HBy2:=aa (HBy.out.below hb2' hgd)
   have HFr2:=aa (HFr.out.low hb2')
   have hrp:x / b ^ (m*d) % p<p:=Nat.mod_lt _ hp0
   obtain⟨r,hr⟩:∃r,x / b ^ (m*d) % p=r:=⟨_,rfl⟩
   rw [hr] at hrp
   rw [hr]
   have HR:=aa hr
   obtain⟨M,hM,hM2⟩:∃M:Nat,max ((T:Int) - (d:Int)) 0=(M:Int)∧M=T - d:=⟨T - d,by omega,rfl⟩
   clear HS hA2 hY2 hb2' hr HBy HFr
   go_wp2
   go_loopw [9,10] (fun lo i wr2=>∃(s L:Nat) (D2:List Nat),lo=.int .u64 L∧i=.int .i64 ((T:Int) - 1 - (s:Int))∧s≤d∧s≤T∧L=r / b ^ s∧Byt wr2 gd D2∧aE b x o n (T - s) D D2∧Fr gd w wr2∧Ans wr2 w.heap.size v2 Y2) (fun _ i _=>(intOf i+1).toNat)
   case atStart=>exact⟨0,r,D',rfl,by simp,by omega,by omega,by simp,HBy2.out,HWr.out,HFr2.out,HA2.out⟩
   case round=>
    obtain⟨s,L,D2,rfl,rfl,hs1,hs2,hL,hByt,hW,hFr,hAns⟩:=hrel
    clear HBy2 HFr2 HA2
    by_cases hc:s<d∧s<T
    ·obtain⟨j,hj1,hj2⟩:∃j:Nat,(T:Int) - 1 - (s:Int)=(j:Int)∧T - s=j+1:=⟨T - s - 1,by omega,by omega⟩
     rw [hj1]
     rw [hj2] at hW
     have hi:(M:Int)≤(j:Int):=by omega
     have hLr:L≤r:=by rw [hL];exact Nat.div_le_self _ _
     have hjn:j<n:=by have:=HT.out;omega
     have hdig:L % b=x / b ^ (n - 1 - j) % b:=by
      rw [hL,←HR.out,HP.out,dM x b m d s hc.1]
      congr 3
      have:=HT.out;omega
     have hq:L / b=r / b ^ (s+1):=by rw [hL,Nat.div_div_eq_div_mul,Nat.pow_succ]
     have hset:=hW.set hjn ho
     rw [←hdig] at hset
     have hg36:L % b<b:=Nat.mod_lt _ (by omega)
     have hqL:L / b≤L:=Nat.div_le_self _ _
     have em:(L:Int).tmod (b:Int)=((L % b:Nat):Int):=rfl
     have ed:(L:Int).tdiv (b:Int)=((L / b:Nat):Int):=rfl
     have HQ:=aa hq
     have HW2:=aa hset
     generalize L % b=g at *
     generalize L / b=q at *
     have eg:(g:Int) % 256=(g:Int):=by omega
     have hlen:=hW.len
     have hco:=hByt.cell (o+j) (by omega)
     have hfr:=hByt.free (o+j)
     generalize D2.getD (o+j) 0=old at *
     have HBy:=aa hByt
     have HFr:=aa hFr
     have HAn:=aa hAns
     have hj0:(0:Int)≤(j:Int):=by omega
     have hjn':(j:Int)<(n:Int):=by omega
     have hj3:T - (s+1)=j:=by omega
     have hj4:(j:Int) - 1=(T:Int) - 1 - ((s+1:Nat):Int):=by omega
     have HJ:=aa (And.intro hj3 hj4)
     clear hL hByt hW hFr hAns hset hdig hq hj1 hj2 hj3 hj4
     go_wp2
     go_roundw
     case rel=>
      refine⟨s+1,q,D2.set (o+j) g,by go_num,by rw [HJ.out.2],by omega,by omega,HQ.out,HBy.out.set _ _,?_,HFr.out.setCell _ _,HAn.out.apart5 _ _ _ hgd⟩
      rw [HJ.out.1];exact HW2.out
     case measure=>simp [intOf]
    ·have hi:¬((M:Int)≤(T:Int) - 1 - (s:Int)):=by omega
     have hts:T - s=T - d:=by omega
     rw [hts] at hW
     have HW3:=aa hW
     have HBy:=aa hByt
     have HFr:=aa hFr
     have HAn:=aa hAns
     have he:(m+1)*d=m*d+d:=Nat.succ_mul m d
     have ht1:(n:Int) - (((m+1)*d:Nat):Int)=(T:Int) - (d:Int):=by have:=HT.out.1;omega
     have ht2:n - (m+1)*d=T - d:=by have:=HT.out.2;omega
     have hval:val Y2=x / b ^ ((m+1)*d):=by rw [HY2.out,HP.out,Nat.div_div_eq_div_mul,←Nat.pow_add,he]
     have HE:=aa (And.intro ht1 (And.intro ht2 hval))
     have hgt:(T:Int) - (d:Int) > -64:=by omega
     clear hL hByt hW hFr hAns hval ht1 ht2 he hts
     go_wp2
     go_roundw
     case rel=>
      refine⟨m+1,v2,Y2,D2,rfl,by rw [HE.out.1],by rw [HE.out.1];exact hgt,HAn.out,HE.out.2.2,HBy.out,?_,HFr.out⟩
      rw [HE.out.2.1];exact HW3.out
     case measure=>simp [intOf];omega
  ·have hc:¬((n:Int) - ((m*d:Nat):Int) > 0):=by omega
   have hz:n - m*d=0:=by omega
   rw [hz] at hW
   have HE:=aa (And.intro hByt (And.intro hW hFr))
   generalize (n:Int) - ((m*d:Nat):Int)=t at *
   have hc2:¬((0:Int)<t):=by omega
   clear hAns hByt hW hFr hto hY
   go_wp2
   go_end0
   exact⟨rfl,D',HE.out⟩

theorem kr (X out:List Nat)(m k cy c0:Nat)(hk:k<out.length)(h:val (out.take k)+cy*18446744073709551616 ^ k=val (X.take k)*m+c0) :
  val ((out.set k ((X.getD k 0*m+cy) % 18446744073709551616)).take (k+1))+(X.getD k 0*m+cy) / 18446744073709551616*18446744073709551616 ^ (k+1)=val (X.take (k+1))*m+c0:=by
 rw [take_set_succ _ _ _ hk,val_take_next X]
 generalize X.getD k 0=x
 have hd:=Nat.div_add_mod (x*m+cy) 18446744073709551616
 generalize (x*m+cy) % 18446744073709551616=r at *
 generalize (x*m+cy) / 18446744073709551616=d at *
 rw [Nat.pow_succ,Nat.add_mul]
 generalize (18446744073709551616:Nat) ^ k=p at *
 have e1:p*(18446744073709551616*d+r)=p*(x*m+cy):=by rw [hd]
 rw [Nat.mul_add,Nat.mul_add] at e1
 have e2:d*(p*18446744073709551616)=p*(18446744073709551616*d):=by rw [←Nat.mul_assoc,Nat.mul_comm d p,Nat.mul_assoc,Nat.mul_comm d]
 have e3:cy*p=p*cy:=Nat.mul_comm _ _
 have e4:p*x*m=p*(x*m):=Nat.mul_assoc _ _ _
 omega

theorem il (X out:List Nat)(k q:Nat)(h:out.drop k=X.drop k):(out.set k q).drop (k+1)=X.drop (k+1):=by
 have e:(out.set k q).drop (k+1)=out.drop (k+1):=by
  rw [List.drop_set,if_pos (by omega)]
 rw [e]
 have h2:=congrArg (List.drop 1) h
 simpa [List.drop_drop,Nat.add_comm] using h2

theorem kX (X out:List Nat)(k:Nat)(h:out.drop k=X.drop k):out.getD k 0=X.getD k 0:=by
 have h2:=congrArg (fun l=>l.getD 0 0) h
 simpa [List.getD,List.getElem?_drop] using h2

def dp (base:Nat)(v:Value)(n x m more:Nat)(w:World)(e:Ending)(w':World):Prop:=
 ∃(c:Nat) (Z:List Nat),e=.returned (.int .u64 c)∧c<18446744073709551616∧Z.length=n∧Ans w' base v Z∧val Z+c*18446744073709551616 ^ n=x*m+more∧Below base w w'

theorem kp (base g cap m more:Nat)(X:List Nat)(w:World)(hA:Ans w base (.slice (some ⟨g,0,none⟩) X.length cap) X)(hm:m<18446744073709551616)(hmo:more<18446744073709551616) :
  Calls Tryz.prog 120 #[.slice (some ⟨g,0,none⟩) X.length cap,.int .u64 m,.int .u64 more] w (dp base (.slice (some ⟨g,0,none⟩) X.length cap) X.length (val X) m more w):=by
 obtain⟨⟨hc1,hc2⟩,_,_⟩:=Ans.cellAt5 hA
 have hbg:base≤g:=(hA.own.lt g rfl).1
 have M1:=hA.limbs
 have HA:=aa hA
 clear hA
 go_enter Tryz.func120,Tryz.ntmps120
 go_wp2
 go_loopw [2,13] (fun c i wr=>∃(k cy:Nat) (out:List Nat),k≤X.length∧i=.int .i64 k∧c=.int .u64 cy∧cy<18446744073709551616∧out.length=X.length∧Ans wr base (.slice (some ⟨g,0,none⟩) out.length cap) out∧Below base w wr ∧
   val (out.take k)+cy*18446744073709551616 ^ k=val (X.take k)*m+more∧out.drop k=X.drop k) (fun _ i _=>X.length - (intOf i).toNat)
 case atStart=>exact⟨0,more,X,Nat.zero_le _,rfl,rfl,hmo,rfl,HA.out,Below.refl _ _,by simp [val],rfl⟩
 case round=>
  obtain⟨k,cy,out,hk,rfl,rfl,hcy,hlen,hans,hbl,hval,htk⟩:=hrel
  clear HA
  obtain⟨_,hfz,hcell⟩:=Ans.cellAt5 hans
  have HX:=aa hans
  have HL:=aa hbl
  by_cases hkl:k<X.length
  ·have hco:=hcell k (by omega)
   have hfr:=hfz k
   rw [kX X out k htk] at hco
   have hts:=il X out k ((X.getD k 0*m+cy) % 18446744073709551616) htk
   have z1:=limb_lt M1 k
   have hst:=kr X out m k cy more (by omega) hval
   have hmh:=mul_hi (X.getD k 0) m cy z1 hm hcy
   have ha:=aL (X.getD k 0*m % 18446744073709551616) cy
   have hM:=Tryz.bits_Mul64 (X.getD k 0) m z1 hm wr
   generalize X.getD k 0=x at *
   rw [hmh.2.2] at ha
   have hs1:(x*m+cy) % 18446744073709551616<18446744073709551616:=Nat.mod_lt _ (by omega)
   have hd1:=hmh.2.1
   have hsum:x*m / 18446744073709551616+(x*m % 18446744073709551616+cy) / 18446744073709551616=(x*m+cy) / 18446744073709551616:=hmh.1
   clear hmh
   generalize (x*m+cy) % 18446744073709551616=s at *
   generalize (x*m+cy) / 18446744073709551616=d at *
   generalize (x*m % 18446744073709551616+cy) / 18446744073709551616=ov at *
   generalize x*m % 18446744073709551616=lo at *
   generalize x*m / 18446744073709551616=hi at *
   have HS:=aa (And.intro hst hts)
   have hsI:(hi:Int)+(ov:Int)=(d:Int):=by omega
   clear hst hts hcell hans hbl hval htk M1 hsum hfz
   go_wp2_with fail
   refine hM.mono ?_
   rintro e w2 ⟨rfl,rfl⟩
   clear hM
   go_wp2
   go_roundw
   case rel=>exact⟨k+1,d,out.set k s,by omega,by go_num,rfl,hd1,by simp;omega,HX.out.stored k s hs1,HL.out.setCell hbg _,HS.out.1,HS.out.2⟩
   case measure=>simp [intOf];omega
  ·have ek:k=X.length:=by omega
   subst ek
   rw [List.take_length,←hlen,List.take_length,hlen] at hval
   have HV:=aa hval
   clear hans hbl hcell hval htk hfz
   go_wp2
   go_ret
   refine⟨cy,out,rfl,hcy,hlen,?_,HV.out,HL.out⟩
   have:=HX.out;rw [hlen] at this;exact this

theorem iY (base m more:Nat)(w:World)(hmo:more<18446744073709551616) :
  Calls Tryz.prog 120 #[.slice none 0 0,.int .u64 m,.int .u64 more] w (dp base (.slice none 0 0) 0 0 m more w):=by
 go_enter Tryz.func120,Tryz.ntmps120
 go_wp2
 refine wp_loop_rounds 1 ?_
 rw [rounds_succ]
 go_wp2
 go_ret
 exact⟨more,[],rfl,hmo,rfl,Ans.nil _ _,by simp [val],Below.refl _ _⟩

theorem gB (base m more:Nat)(v:Value)(X:List Nat)(w:World)(hA:Ans w base v X)(hm:m<18446744073709551616)(hmo:more<18446744073709551616) :
  Calls Tryz.prog 120 #[v,.int .u64 m,.int .u64 more] w (dp base v X.length (val X) m more w):=by
 rcases hA.form with ⟨rfl,rfl⟩|⟨g,cap,rfl,_⟩
 ·exact iY base m more w hmo
 ·exact kp base g cap m more X w hA hm hmo

def dvr (b:Nat)(D:List Nat)(o:Nat):Nat→Nat
 | 0=>0
 | n+1=>dvr b D o n*b+D.getD (o+n) 0

theorem bI (b:Nat)(D:List Nat)(o n:Nat):∀m,dvr b D o (n+m)=dvr b D o n*b ^ m+dvr b D (o+n) m
 | 0=>by simp [dvr]
 | m+1=>by
  rw [show n+(m+1)=(n+m)+1 by omega,dvr,bI b D o n m,dvr,Nat.pow_succ,Nat.add_mul,Nat.mul_assoc,show o+(n+m)=o+n+m by omega]
  omega

theorem cB (b:Nat)(D:List Nat)(o:Nat)(hb:0<b):∀n,(∀i,i<n→D.getD (o+i) 0<b)→dvr b D o n<b ^ n
 | 0,_=>by simp [dvr]
 | n+1,h=>by
  have h1:=cB b D o hb n (fun i hi=>h i (by omega))
  have h2:=h n (by omega)
  rw [dvr,Nat.pow_succ]
  have h3:(dvr b D o n+1)*b≤b ^ n*b:=Nat.mul_le_mul_right b h1
  rw [Nat.add_mul,Nat.one_mul] at h3
  omega

theorem dh {Z:List Nat}(hl:Limbs Z)(h:Z=[]∨18446744073709551616 ^ (Z.length - 1)≤val Z):tr Z=Z:=by
 rcases h with rfl|h
 ·rfl
 ·have h1:=tr_length_le Z
  have h2:=val_lt (limbs_tr hl)
  rw [val_tr] at h2
  have h3:=(Nat.pow_lt_pow_iff_right (show 1<18446744073709551616 by omega)).1 (Nat.lt_of_le_of_lt h h2)
  have e:(tr Z).length=Z.length:=by omega
  have key:∀Z:List Nat,(tr Z).length=Z.length→tr Z=Z:=by
   intro Z
   induction Z with
   | nil=>intro _;rfl
   | cons a r ih=>
    intro h
    unfold tr at h ⊢
    split
    ·rename_i hc;rw [if_pos hc] at h;simp at h
    ·rename_i hc;rw [if_neg hc] at h;rw [ih (by simpa using h)]
  exact key Z e

theorem cZ {Z:List Nat}(h:tr Z=Z):Z=[]∨18446744073709551616 ^ (Z.length - 1)≤val Z:=by
 rcases Nat.eq_zero_or_pos Z.length with h0|h0
 ·exact .inl (List.eq_nil_of_length_eq_zero h0)
 ·have:=tr_val_ge Z (Z.length - 1) (by rw [h];omega)
  rw [h] at this
  exact .inr this

theorem kS {X Z:List Nat}{c m more:Nat}(hX:tr X=X)(hZ:Limbs Z)(hl:Z.length=X.length)(hm:0<m)(h:val Z+c*18446744073709551616 ^ X.length=val X*m+more)(hc:c=0):tr Z=Z:=by
 subst hc
 refine dh hZ ?_
 rcases cZ hX with h0|h0
 ·left;rw [h0] at hl;exact List.eq_nil_of_length_eq_zero (by simpa using hl)
 ·right
  rw [hl]
  have:val X*1≤val X*m:=Nat.mul_le_mul_left _ hm
  omega

theorem d4 (Z:List Nat)(c:Nat):val (Z ++ [c])=val Z+c*18446744073709551616 ^ Z.length:=by
 induction Z with
 | nil=>simp [val]
 | cons a r ih=>
  simp only [List.cons_append,val,List.length_cons,ih,Nat.pow_succ]
  rw [Nat.mul_add,←Nat.add_assoc]
  congr 1
  rw [Nat.mul_comm (18446744073709551616 ^ r.length) _,Nat.mul_left_comm]

theorem ix {Z:List Nat}{c:Nat}(hZ:Limbs Z)(hc0:c≠0)(hc:c<18446744073709551616):Limbs (Z ++ [c])∧tr (Z ++ [c])=Z ++ [c]:=by
 have hl:Limbs (Z ++ [c]):=by
  intro z hz
  rcases List.mem_append.1 hz with h|h
  ·exact hZ z h
  ·simp at h;omega
 refine⟨hl,dh hl (.inr ?_)⟩
 rw [d4]
 have:1*18446744073709551616 ^ Z.length≤c*18446744073709551616 ^ Z.length:=Nat.mul_le_mul_right _ (by omega)
 simp
 omega

theorem lw {n k d:Nat}(hd:1≤d)(hk:k<n)(h:k=0∨(n - k) % d=0):(k=0∨(n - k - 1) % d+1=d)∧(n - k - 1) % d+1≤d∧k+((n - k - 1) % d+1)≤n∧(n - (k+((n - k - 1) % d+1))) % d=0:=by
 have h1:(n - k - 1) % d<d:=Nat.mod_lt _ hd
 have h2:(n - k - 1) % d≤n - k - 1:=Nat.mod_le _ _
 have h3:(n - (k+((n - k - 1) % d+1))) % d=0:=by
  have e:n - (k+((n - k - 1) % d+1))=(n - k - 1) - (n - k - 1) % d:=by omega
  rw [e]
  exact Nat.sub_mod_eq_zero_of_mod_eq (Nat.mod_mod _ _).symm
 refine⟨?_,by omega,by omega,h3⟩
 rcases h with h|h
 ·exact .inl h
 ·right
  obtain⟨q,hq⟩:=Nat.dvd_of_mod_eq_zero h
  have hq0:0<q:=by
   rcases Nat.eq_zero_or_pos q with h0|h0
   ·rw [h0] at hq;omega
   ·exact h0
  obtain⟨q',rfl⟩:∃q',q=q'+1:=⟨q - 1,by omega⟩
  have e:n - k - 1=d*q'+(d - 1):=by rw [hq,Nat.mul_succ];omega
  rw [e,Nat.mul_add_mod,Nat.mod_eq_of_lt (by omega)]
  omega

def iH (b o n:Nat)(D:List Nat)(w:World)(e:Ending)(w':World):Prop:=
 ∃v Z,e=.returned v∧Ans w' w.heap.size v Z∧val Z=dvr b D o n∧tr Z=Z∧Z.length≤n∧Below w.heap.size w w'

theorem kV (gd o n cap b:Nat)(D:List Nat)(w:World)(hD:Byt w gd D)(ho:o+n≤D.length)(hn:n≤cap)(hcap:cap≤9223372036854775807)(hnf:n≤1099511627776)(hdig:∀i,i<n→D.getD (o+i) 0<b)(hb:2≤b)(hb2:b≤36) :
  Calls Tryz.prog 90 #[.slice (some ⟨gd,o,none⟩) n cap,.int .i64 b] w (iH b o n D w):=by
 have HU:=dC b w hb hb2
 obtain⟨i0,hi,hz0,hz1,hz2⟩:=info_parts Tryz.infoU
 have hgd:=hD.lt
 have HD:=aa hD
 have HDg:=aa hdig
 clear hD hdig
 go_enter Tryz.func90,Tryz.ntmps90
 go_wp2_with fail
 refine HU.mono ?_
 rintro e wn ⟨d,p,rfl,hu,hw⟩;rw [hw];clear hw wn HU
 have hpf:=hu.fits
 have hp0:0<p:=by rw [hu.pow];exact Nat.pow_pos (by omega)
 have hd1:=hu.some
 have hd2:=hu.few
 have hdz:((d:Int) == 0)=false:=by rw [beq_eq_false_iff_ne];omega
 have HP:=aa hu.pow
 clear hu
 go_wp2
 go_loopw [0,7] (fun s a wr=>∃(k cc:Nat) (ao:Option Addr) (v:Value) (Z:List Nat),k≤n∧s=.slice ao (n - k) cc∧(k<n→ao=some ⟨gd,o+k,none⟩∧cc=cap - k)∧v=a∧Ans wr w.heap.size v Z∧val Z=dvr b D o k∧tr Z=Z∧Z.length≤k∧(k=0∨(n - k) % d=0)∧Below w.heap.size w wr) (fun s _ _=>match s with | .slice _ l _=>l | _=>0)
 case atStart=>exact⟨0,cap,_,_,[],Nat.zero_le _,rfl,fun _=>⟨rfl,rfl⟩,rfl,Ans.nil _ _,rfl,rfl,Nat.le_refl _,.inl rfl,Below.refl _ _⟩
 case round=>
  obtain⟨k,cc,ao,v,Z,hk,rfl,hao,rfl,hAns,hval,hnorm,hZl,hpc,hbl⟩:=hrel
  by_cases hkn:k<n
  ·obtain⟨rfl,rfl⟩:=hao hkn
   obtain⟨pc1,pc2,pc3,pc4⟩:=lw hd1 hkn hpc
   have hr0:(0:Int)<((n - k:Nat):Int):=by omega
   have hrm:(((n - k:Nat):Int) - 1).tmod (d:Int)=(((n - k - 1) % d:Nat):Int):=by
    rw [show ((n - k:Nat):Int) - 1=((n - k - 1:Nat):Int) by omega];rfl
   obtain⟨c,hc,hci⟩:∃c,(n - k - 1) % d+1=c∧(((n - k - 1) % d:Nat):Int)+1=(c:Int):=⟨_,rfl,by omega⟩
   rw [hc] at pc1 pc2 pc3 pc4
   generalize (n - k - 1) % d=c' at *
   have HPC:=aa (And.intro pc1 pc4)
   have HAn:=aa hAns
   have HV:=aa (And.intro hval hnorm)
   have HB:=aa hbl
   obtain⟨R,hR1,hR2⟩:∃R,n - k=R∧c≤R:=⟨_,rfl,by omega⟩
   obtain⟨C,hC1,hC2⟩:∃C,cap - k=C∧R≤C:=⟨_,rfl,by omega⟩
   rw [hR1] at hr0 hrm
   rw [hR1,hC1]
   clear hao hAns hval hnorm hpc hbl pc1 pc4
   have HBy:=aa (HD.out.below HB.out hgd)
   have HLT:=aa (fun q (hq:q≤c)=>cB b D (o+k) (by omega) q (fun i hi=>by rw [Nat.add_assoc];exact HDg.out (k+i) (by omega)))
   go_wp2
   go_loop [9,30] (fun x i=>∃(j y:Nat),j≤c∧i=.int .i64 j∧x=.int .u64 y∧y=dvr b D (o+k) j) (fun _ i=>c - (intOf i).toNat)
   case atStart=>exact⟨0,0,Nat.zero_le _,rfl,rfl,rfl⟩
   case round=>
    obtain⟨j,y,hj,rfl,rfl,hy⟩:=hrel
    by_cases hjc:j<c
    ·have hco:=HBy.out.cell (o+k+j) (by omega)
     have hy2:y*b+D.getD (o+k+j) 0=dvr b D (o+k) (j+1):=by rw [dvr,hy]
     have hfit:y*b+D.getD (o+k+j) 0<18446744073709551616:=by
      rw [hy2]
      have h1:=HLT.out (j+1) (by omega)
      have h2:b ^ (j+1)≤b ^ d:=Nat.pow_le_pow_right (by omega) (by omega)
      rw [←HP.out] at h2
      omega
     have hdb:D.getD (o+k+j) 0<b:=by have:=HDg.out (k+j) (by omega);rw [←Nat.add_assoc] at this;exact this
     have eyb:(y:Int)*(b:Int)=((y*b:Nat):Int):=by simp
     have HY:=aa hy2
     generalize D.getD (o+k+j) 0=g at *
     generalize y*b=yb at *
     have egg:(yb:Int)+(g:Int)=((yb+g:Nat):Int):=by omega
     generalize yb+g=t at *
     have hjR:j<R:=by omega
     clear hy hy2
     go_wp2
     go_round
     case rel=>exact⟨j+1,t,by omega,by go_num,by go_num,HY.out⟩
     case measure=>simp [intOf];omega
    ·have ej:j=c:=by omega
     subst ej
     have hyf:y<18446744073709551616:=by
      rw [hy]
      have h1:=HLT.out j (by omega)
      have h2:b ^ j≤b ^ d:=Nat.pow_le_pow_right (by omega) (by omega)
      rw [←HP.out] at h2
      omega
     have HG:=gB w.heap.size p y v Z wr HAn.out hpf hyf
     have HY:=aa hy
     clear hy
     go_wp2_with fail
     refine HG.mono ?_
     rintro e w2 ⟨c1,Z2,rfl,hc1,hl2,hA2,hv2,hb2'⟩
     have hfin:val Z*p+y=dvr b D o (k+j):=by
      rw [bI,HY.out,HV.out.1,HP.out]
      rcases HPC.out.1 with h0|h0
      ·subst h0;simp [dvr]
      ·rw [h0]
     have HF:=aa hfin
     have HB2:=aa (HB.out.trans hb2')
     have hkj:n - (k+j)=R - j:=by omega
     by_cases hc0:c1=0
     ·have hnm:=kS HV.out.2 hA2.limbs hl2 hp0 hv2 hc0
      subst hc0
      rw [Nat.zero_mul,Nat.add_zero,hfin] at hv2
      have HE:=aa (And.intro hA2 (And.intro hv2 (And.intro hnm (show Z2.length≤k+j by omega))))
      clear hA2 hv2 hb2' hfin hnm HG HB HAn HBy HLT HV
      go_wp2
      go_roundw
      case rel=>exact⟨k+j,C - j,_,_,Z2,by omega,by rw [hkj],fun h=>⟨by rw [if_neg (by omega),Nat.add_assoc],by omega⟩,rfl,HE.out.1,HE.out.2.1,HE.out.2.2.1,HE.out.2.2.2,.inr HPC.out.2,HB2.out⟩
      case measure=>show R - j<R;omega
     ·obtain⟨hsl,hsn⟩:=ix hA2.limbs hc0 hc1
      have hsv:val (Z2 ++ [c1])=dvr b D o (k+j):=by rw [d4,hl2,hv2,hfin]
      have HE:=aa (And.intro hsv (And.intro hsn (And.intro hsl (show (Z2 ++ [c1]).length≤k+j by simp;omega))))
      have hown:=hA2.own
      have hgt:(0:Int)<(c1:Int):=by omega
      have hlt2:=hA2.own.lt
      clear hv2 hb2' hfin hsl hsn hsv HG HB HAn HBy HLT HV hA2
      go_wp2_with (at_builtin;refine wpList_append_own _ rfl _ _ 23 rfl w.heap.size 43 i0 (.int .u64 0) 1 8 Tryz.underlying23 hi hz0 hz1 hz2 rfl (by decide) _ _ _ rfl (World.ownsRow.alloc hown _) ⟨w2.heap.size,0,none⟩ 1 1 ([c1].map lv) rfl rfl (d6 [c1]) (cm _) (by unfold maxLen;omega) (by omega) (by have:=HB2.out.size;simp;omega) ?_;intro v' w3 hown2 hgrow2 _)
      have HA3:Hid (Ans w3 w.heap.size v' (Z2 ++ [c1])):=aa ⟨by rw [List.length_append,List.map_append];exact hown2,HE.out.2.2.1⟩
      have HB3:=aa ((HB2.out.alloc HB2.out.size (.cells ([c1].map lv).toArray 43)).grown hgrow2 (by have:=HB2.out.size;simp;omega) (fun k hk=>(hlt2 k hk).1))
      clear hown2 hgrow2 hown hlt2 HB2
      go_wp2
      go_roundw
      case rel=>exact⟨k+j,C - j,_,_,Z2 ++ [c1],by omega,by rw [hkj],fun h=>⟨by rw [if_neg (by omega),Nat.add_assoc],by omega⟩,rfl,HA3.out,HE.out.1,HE.out.2.1,HE.out.2.2.2,.inr HPC.out.2,HB3.out⟩
      case measure=>show R - j<R;omega
  ·have ek:n=k:=by omega
   subst ek
   rw [Nat.sub_self]
   have HE:=aa (And.intro hAns (And.intro hval (And.intro hnorm (And.intro hZl hbl))))
   clear hao hAns hval hnorm hbl hpc
   go_wp2
   go_ret
   exact⟨v,Z,rfl,HE.out.1,HE.out.2.1,HE.out.2.2.1,HE.out.2.2.2.1,HE.out.2.2.2.2⟩

theorem cU {M:List Nat}{s u V:Nat}(hM:s+u≤M.length)(h:sv M 0 (s+u)=V)(hV:V<18446744073709551616 ^ s):sv M s u=0∧sv M 0 s=V:=by
 rw [ac M 0 s u (by omega),Nat.zero_add] at h
 have h0:sv M s u=0:=by
  rcases Nat.eq_zero_or_pos (sv M s u) with h1|h1
  ·exact h1
  ·have:=Nat.mul_le_mul_left (18446744073709551616 ^ s) h1
   omega
 rw [h0,Nat.mul_zero,Nat.add_zero] at h
 exact⟨h0,h⟩

theorem dt {M M' U:List Nat}{s o V:Nat}(hl:M'.length=s+U.length)(h0:sv M 0 s=V)(hO:Out M M' o (o+U.length))(hv:sv M' o U.length=val U)(ho:o=s∨(U.length=0∧o=0)):val M'=V+18446744073709551616 ^ s*val U:=by
 rw [←aW M',hl,ac M' 0 s U.length (by omega),Nat.zero_add]
 rcases ho with rfl|⟨hu,rfl⟩
 ·rw [hv,hO.sv 0 o (by omega),h0]
 ·have hU:U=[]:=List.eq_nil_of_length_eq_zero hu
  rw [hU] at hO ⊢
  rw [hO.sv 0 s (by simp),h0]
  simp [sv,seg,val]

theorem fy {M' U:List Nat}{s V:Nat}(hl:M'.length=s+U.length)(hM:Limbs M')(hn:tr U=U)(hU:0<val U)(hv:val M'=V+18446744073709551616 ^ s*val U):tr M'=M':=by
 refine dh hM (.inr ?_)
 rcases cZ hn with h|h
 ·rw [h] at hU;simp [val] at hU
 ·have h1:=Nat.mul_le_mul_left (18446744073709551616 ^ s) h
  have hp:1≤U.length:=by
   rcases Nat.eq_zero_or_pos U.length with h2|h2
   ·rw [List.eq_nil_of_length_eq_zero h2] at hU;simp [val] at hU
   ·exact h2
  rw [←Nat.pow_add,show s+(U.length - 1)=M'.length - 1 by omega] at h1
  omega

theorem im (d s:Nat)(ao:Option Addr)(co:Nat)(vh:Value)(bl ol cl:Nat)(O H Lw:List Nat)(w:World)(hO:Arg w (.slice ao O.length co) O)(hH:Arg w vh H)(hL:Arg w (.slice (some ⟨bl,ol,none⟩) Lw.length cl) Lw)(hT:Tab w)
  (hl1:O.length+H.length≤1099511627776) (hl2:Lw.length≤1099511627776) (hs:s≤1099511627776) :
  Calls Tryz.prog 91 #[.agg #[.int .i64 d,.slice ao O.length co,.int .i64 s],vh,.slice (some ⟨bl,ol,none⟩) Lw.length cl] w (Joined (val H) (val O) s (val Lw) w):=by
 obtain⟨i0,hi,hz0,hz1,hz2⟩:=info_parts Tryz.infoU
 obtain⟨w0,hw0⟩:∃w0,w.alloc (.cells #[.int .i64 d,.slice ao O.length co,.int .i64 s] 82)=w0:=⟨_,rfl⟩
 have hb0:Below w.heap.size w w0:=by rw [←hw0];exact ag _ _
 have h0:w0.heap[w.heap.size]?=some (.cells #[.int .i64 d,.slice ao O.length co,.int .i64 s] 82):=by rw [←hw0];exact heap_alloc_new ..
 obtain⟨k0,k1,k2⟩:=tri h0
 obtain⟨nn,hnn,hn2⟩:∃nn:Nat,min (s:Int) (Lw.length:Int)=(nn:Int)∧nn=min s Lw.length:=⟨min s Lw.length,by omega,rfl⟩
 have hM:=bj vh _ H O w0 (hH.below hb0) (hO.below hb0) (hT.below hb0) (by omega)
 have HB0:=aa hb0
 have H0:=aa h0
 have HLa:=aa hL
 have HT:=aa hT
 obtain⟨lp1,lp2,lp3⟩:=fu HLa.out.limbs s nn hn2
 have hnl:nn≤Lw.length:=by omega
 have hns:nn≤s:=by omega
 have HLP:=aa (And.intro lp1 (And.intro lp2 lp3))
 clear hb0 h0 hL hT hO hH hn2 lp1 lp2 lp3
 go_enter Tryz.func91,Tryz.ntmps91
 go_wp2_with fail
 refine hM.mono ?_
 rintro e w1 ⟨hb1,v1,c,rs,rfl,A1,hcase⟩
 have hB1:=HB0.out.trans (hb1.mono HB0.out.size)
 have h1:w1.heap[w.heap.size]?=some (.cells #[.int .i64 d,.slice ao O.length co,.int .i64 s] 82):=by rw [hb1.block w.heap.size (lt_of_block H0.out)];exact H0.out
 clear k0 k1 k2 hM
 rcases hcase with ⟨rfl,hv1,hn1,hbl1⟩|⟨rfl,rfl,hbl1⟩
 ·obtain⟨o2,hif,ho2⟩:∃o2,(if cl=nn then some (⟨bl,ol,none⟩:Addr) else some ⟨bl,ol+nn,none⟩)=some ⟨bl,o2,none⟩∧(o2=ol+nn∨Lw.length=nn):=by
   obtain⟨_,_,e,hle,_,_⟩:=HLa.out.form
   cases e
   by_cases h:cl=nn
   ·exact⟨ol,by rw [if_pos h],.inr (by omega)⟩
   ·exact⟨ol+nn,by rw [if_neg h],.inl rfl⟩
  have hlc:Lw.length≤cl:=by obtain⟨_,_,e,hle,_,_⟩:=HLa.out.form;cases e;exact hle
  have hAL:=cG (HLa.out.below hB1) ho2 (by omega) (show Lw.length - nn≤cl - nn by omega) (by omega)
  have l1:rs.length≤1048576:=bf hn1 (by rw [hv1];omega)
  have hAd:=fC v1 _ rs (Lw.drop nn) w1 (A1.arg (by omega)) hAL (by omega) (by simp;omega)
  rw [hv1,←HLP.out.2.1] at hAd
  have HB1:=aa hB1
  have H1:=aa h1
  have hncl:nn≤cl:=by omega
  clear hb1 hB1 h1 A1 hAL hv1 hn1 hbl1 ho2
  go_wp2_with fail
  refine hAd.mono ?_
  rintro e w2 ⟨hb2,v2,c,U,rfl,A2,hcase⟩
  have hB2:=HB1.out.trans (hb2.mono HB1.out.size)
  have h2:w2.heap[w.heap.size]?=some (.cells #[.int .i64 d,.slice ao O.length co,.int .i64 s] 82):=by rw [hb2.block w.heap.size (lt_of_block H1.out)];exact H1.out
  clear hAd
  rcases hcase with ⟨rfl,hv2,hn2,hbl2⟩|⟨rfl,rfl,hbl2⟩
  ·have lU:U.length≤1048576:=bf hn2 (by rw [hv2];omega)
   obtain⟨a5,c5,rfl,_,_,_⟩:=(A2.arg (by omega)).form
   obtain⟨N,hN,hNi⟩:∃N,N=s+U.length∧(s:Int)+(U.length:Int)=(N:Int):=⟨_,rfl,by omega⟩
   have hNs:N - s=U.length:=by omega
   obtain⟨o5,hif5,ho5⟩:∃o5,(∀g:Nat,(if N=s then some (⟨g,0,none⟩:Addr) else some ⟨g,s,none⟩)=some ⟨g,o5,none⟩)∧((o5=s∨(U.length=0∧o5=0))∧o5+U.length≤N):=by
    by_cases h:N=s
    ·exact⟨0,fun g=>by rw [if_pos h],.inr ⟨by omega,rfl⟩,by omega⟩
    ·exact⟨s,fun g=>by rw [if_neg h],.inl rfl,by omega⟩
   have lTk:(Lw.take nn).length=nn:=by rw [List.length_take];omega
   have HB2:=aa hB2
   have HA2:=aa A2
   have HV2:=aa (And.intro hv2 hn2)
   obtain⟨k0,k1,k2⟩:=tri h2
   have H2:=aa h2
   have HNN:=aa hN
   have HO5:=aa ho5
   have hsN:s≤N:=by omega
   have hnN:nn≤N:=by omega
   have hwl:w.heap.size<w2.heap.size:=lt_of_block h2
   clear hb2 hB2 A2 hv2 hn2 hbl2 h2 hN ho5 hif
   go_wp2_with (at_make;refine wpList_make_full _ rfl _ _ 23 rfl w2.heap.size 43 i0 (.int .u64 0) 1 Tryz.underlying23 hi hz0 hz1 .i64 .i64 _ _ N rfl rfl (by omega) (by omega) (by rw [hz2];omega) (by unfold maxLen;omega) (Nat.le_refl _) ?_;intro w3 hown hgrow;have hbel3:Below w2.heap.size w2 w3:=(Below.refl w2.heap.size w2).grown hgrow (Nat.le_refl _) (fun k hk=>by cases hk);obtain⟨w4,M4,hcp,B4,L4,F4,O4,S4⟩:=aJ w2.heap.size 0 N N (List.replicate N 0) (some ⟨bl,ol,none⟩) cl (Lw.take nn) w3 (Blk.made hown) (limbs_replicate _) (HLa.out.front nn hnl).limbs (aS N 0 N) (by simp) (by rw [lTk];omega) (ae.arg ((HLa.out.front nn hnl).below (HB2.out.trans (hbel3.mono HB2.out.size))));rw [lTk] at hcp;have hbel4:Below w2.heap.size w2 w4:=hbel3.trans (F4.below (Nat.le_refl _) hbel3.size);obtain⟨j0,j1,j2⟩:=tri ((hbel4.block w.heap.size hwl).trans H2.out);have hM4l:M4.length=N:=by rw [O4.len,List.length_replicate])
   obtain⟨z0,z1⟩:=cU (M:=M4) (s:=s) (u:=U.length) (by have:=HNN.out;omega) (by rw [←HNN.out];exact S4) HLP.out.2.2
   have hz5:sv M4 o5 U.length=0:=by
    rcases HO5.out.1 with h|⟨h,_⟩
    ·rw [h];exact z0
    ·rw [h];exact aj _ _
   have hLu:ae w4 a5 U:=by
    obtain⟨_,_,e,_,_,hl⟩:=((HA2.out.arg (by omega)).below hbel4).form
    cases e
    exact hl
   obtain⟨w5,M5,hcp2,B5,L5,F5,O5,S5⟩:=aJ w2.heap.size o5 U.length U.length M4 a5 c5 U w4 B4 L4 HA2.out.limbs hz5 (by rw [hM4l];exact HO5.out.2) (Nat.le_refl _) hLu
   have hbel5:Below w2.heap.size w2 w5:=hbel4.trans (F5.below (Nat.le_refl _) hbel4.size)
   have hM5l:M5.length=s+U.length:=by rw [O5.len,hM4l];exact HNN.out
   have hval:=dt hM5l z1 O5 S5 HO5.out.1
   have hnrm:=fun h=>fy hM5l L5 HV2.out.2 h hval
   have hAns:Ans w5 w.heap.size (.slice (some ⟨w2.heap.size,0,none⟩) N N) M5:=by
    have h:=Ans.of_blk (base:=w.heap.size) (zs:=M5) (by omega) B5 List.take_length.symm (Nat.le_refl _) (by omega) L5
    rw [hM5l,←HNN.out] at h
    exact h
   have HF:=aa (And.intro hAns (And.intro hval (And.intro hnrm (HB2.out.trans (hbel5.mono HB2.out.size)))))
   have HM5:=aa hM5l
   clear hown hgrow hbel3 hbel4 hbel5 B4 L4 F4 O4 S4 B5 L5 F5 O5 S5 hval hnrm hAns hLu hz5 z0 z1 hM5l hi hz0 hz1 hz2
   go_wp2
   rw [hcp2]
   go_wp2
   go_returns
   refine⟨HF.out.2.2.2,.inl ⟨_,M5,rfl,HF.out.1,?_,fun h=>HF.out.2.2.1 ?_,?_⟩⟩
   ·rw [HF.out.2.1,HV2.out.1,HLP.out.2.1,Nat.mul_add]
    have e1:=HLP.out.1
    have e2:18446744073709551616 ^ s*(val H*val O)=val H*val O*18446744073709551616 ^ s:=Nat.mul_comm _ _
    omega
   ·rw [HV2.out.1];exact Nat.lt_of_lt_of_le h (Nat.le_add_right _ _)
   ·rw [HM5.out];omega
  ·have HB2:=aa hB2
   have HBG:=aa hbl2
   clear hb2 hB2 A2 hbl2 h2
   go_wp2
   go_returns
   exact⟨HB2.out,.inr ⟨rfl,HBG.out⟩⟩
 ·have HB1:=aa hB1
  have HBG:=aa (Nat.lt_of_lt_of_le hbl1 (bE (Nat.le_add_right (val H*val O) (val Lw / 18446744073709551616 ^ s))))
  clear hb1 hB1 A1 hbl1
  go_wp2
  go_returns
  exact⟨HB1.out,.inr ⟨rfl,HBG.out⟩⟩

theorem kM (d s:Nat)(ao:Option Addr)(co:Nat)(vh:Value)(O H:List Nat)(w:World)(hO:Arg w (.slice ao O.length co) O)(hH:Arg w vh H)(hT:Tab w)
  (hl1:O.length+H.length≤1099511627776) (hs:s≤1099511627776) :
  Calls Tryz.prog 91 #[.agg #[.int .i64 d,.slice ao O.length co,.int .i64 s],vh,.slice none 0 0] w (Joined (val H) (val O) s 0 w):=by
 obtain⟨i0,hi,hz0,hz1,hz2⟩:=info_parts Tryz.infoU
 obtain⟨w0,hw0⟩:∃w0,w.alloc (.cells #[.int .i64 d,.slice ao O.length co,.int .i64 s] 82)=w0:=⟨_,rfl⟩
 have hb0:Below w.heap.size w w0:=by rw [←hw0];exact ag _ _
 have h0:w0.heap[w.heap.size]?=some (.cells #[.int .i64 d,.slice ao O.length co,.int .i64 s] 82):=by rw [←hw0];exact heap_alloc_new ..
 obtain⟨k0,k1,k2⟩:=tri h0
 have hnn:min (s:Int) 0=0:=by omega
 have hM:=bj vh _ H O w0 (hH.below hb0) (hO.below hb0) (hT.below hb0) (by omega)
 have HB0:=aa hb0
 have H0:=aa h0
 have HT:=aa hT
 have hNil:∀W:World,Arg W (.slice none 0 0) []:=fun W=>⟨⟨none,0,rfl,by simp,by simp,.inl rfl⟩,(by intro z hz;cases hz),by simp,fun n c e=>by cases e;rfl⟩
 have hdv:0 / 18446744073709551616 ^ s=0:=Nat.zero_div _
 have hps:0<18446744073709551616 ^ s:=Nat.pow_pos (by omega)
 have HLP:=aa (And.intro hdv hps)
 have HNil:=aa hNil
 clear hb0 h0 hT hO hH hdv hps hNil
 go_enter Tryz.func91,Tryz.ntmps91
 go_wp2_with fail
 refine hM.mono ?_
 rintro e w1 ⟨hb1,v1,c,rs,rfl,A1,hcase⟩
 have hB1:=HB0.out.trans (hb1.mono HB0.out.size)
 have h1:w1.heap[w.heap.size]?=some (.cells #[.int .i64 d,.slice ao O.length co,.int .i64 s] 82):=by rw [hb1.block w.heap.size (lt_of_block H0.out)];exact H0.out
 clear k0 k1 k2 hM
 rcases hcase with ⟨rfl,hv1,hn1,hbl1⟩|⟨rfl,rfl,hbl1⟩
 ·have hAL:=HNil.out w1
  have l1:rs.length≤1048576:=bf hn1 (by rw [hv1];omega)
  have hAd:=fC v1 _ rs [] w1 (A1.arg (by omega)) hAL (by omega) (by simp)
  rw [hv1,show val []=0 / 18446744073709551616 ^ s by rw [HLP.out.1];rfl] at hAd
  have HB1:=aa hB1
  have H1:=aa h1
  clear hb1 hB1 h1 A1 hAL hv1 hn1 hbl1
  go_wp2_with fail
  refine hAd.mono ?_
  rintro e w2 ⟨hb2,v2,c,U,rfl,A2,hcase⟩
  have hB2:=HB1.out.trans (hb2.mono HB1.out.size)
  have h2:w2.heap[w.heap.size]?=some (.cells #[.int .i64 d,.slice ao O.length co,.int .i64 s] 82):=by rw [hb2.block w.heap.size (lt_of_block H1.out)];exact H1.out
  clear hAd
  rcases hcase with ⟨rfl,hv2,hn2,hbl2⟩|⟨rfl,rfl,hbl2⟩
  ·have lU:U.length≤1048576:=bf hn2 (by rw [hv2];omega)
   obtain⟨a5,c5,rfl,_,_,_⟩:=(A2.arg (by omega)).form
   obtain⟨N,hN,hNi⟩:∃N,N=s+U.length∧(s:Int)+(U.length:Int)=(N:Int):=⟨_,rfl,by omega⟩
   have hNs:N - s=U.length:=by omega
   obtain⟨o5,hif5,ho5⟩:∃o5,(∀g:Nat,(if N=s then some (⟨g,0,none⟩:Addr) else some ⟨g,s,none⟩)=some ⟨g,o5,none⟩)∧((o5=s∨(U.length=0∧o5=0))∧o5+U.length≤N):=by
    by_cases h:N=s
    ·exact⟨0,fun g=>by rw [if_pos h],.inr ⟨by omega,rfl⟩,by omega⟩
    ·exact⟨s,fun g=>by rw [if_neg h],.inl rfl,by omega⟩
   have HB2:=aa hB2
   have HA2:=aa A2
   have HV2:=aa (And.intro hv2 hn2)
   obtain⟨k0,k1,k2⟩:=tri h2
   have H2:=aa h2
   have HNN:=aa hN
   have HO5:=aa ho5
   have hsN:s≤N:=by omega
   have hwl:w.heap.size<w2.heap.size:=lt_of_block h2
   clear hb2 hB2 A2 hv2 hn2 hbl2 h2 hN ho5
   go_wp2_with (at_make;refine wpList_make_full _ rfl _ _ 23 rfl w2.heap.size 43 i0 (.int .u64 0) 1 Tryz.underlying23 hi hz0 hz1 .i64 .i64 _ _ N rfl rfl (by omega) (by omega) (by rw [hz2];omega) (by unfold maxLen;omega) (Nat.le_refl _) ?_;intro w3 hown hgrow;have hbel3:Below w2.heap.size w2 w3:=(Below.refl w2.heap.size w2).grown hgrow (Nat.le_refl _) (fun k hk=>by cases hk);obtain⟨w4,M4,hcp,B4,L4,F4,O4,S4⟩:=aJ w2.heap.size 0 N N (List.replicate N 0) none 0 [] w3 (Blk.made hown) (limbs_replicate _) (by intro z hz;cases hz) (aS N 0 N) (by simp) (by simp) (.inl rfl);rw [List.length_nil] at hcp;have hbel4:Below w2.heap.size w2 w4:=hbel3.trans (F4.below (Nat.le_refl _) hbel3.size);obtain⟨j0,j1,j2⟩:=tri ((hbel4.block w.heap.size hwl).trans H2.out);have hM4l:M4.length=N:=by rw [O4.len,List.length_replicate])
   obtain⟨z0,z1⟩:=cU (M:=M4) (s:=s) (u:=U.length) (by have:=HNN.out;omega) (by rw [←HNN.out];exact S4) HLP.out.2
   have hz5:sv M4 o5 U.length=0:=by
    rcases HO5.out.1 with h|⟨h,_⟩
    ·rw [h];exact z0
    ·rw [h];exact aj _ _
   have hLu:ae w4 a5 U:=by
    obtain⟨_,_,e,_,_,hl⟩:=((HA2.out.arg (by omega)).below hbel4).form
    cases e
    exact hl
   obtain⟨w5,M5,hcp2,B5,L5,F5,O5,S5⟩:=aJ w2.heap.size o5 U.length U.length M4 a5 c5 U w4 B4 L4 HA2.out.limbs hz5 (by rw [hM4l];exact HO5.out.2) (Nat.le_refl _) hLu
   have hbel5:Below w2.heap.size w2 w5:=hbel4.trans (F5.below (Nat.le_refl _) hbel4.size)
   have hM5l:M5.length=s+U.length:=by rw [O5.len,hM4l];exact HNN.out
   have hval:=dt hM5l z1 O5 S5 HO5.out.1
   have hnrm:=fun h=>fy hM5l L5 HV2.out.2 h hval
   have hAns:Ans w5 w.heap.size (.slice (some ⟨w2.heap.size,0,none⟩) N N) M5:=by
    have h:=Ans.of_blk (base:=w.heap.size) (zs:=M5) (by omega) B5 List.take_length.symm (Nat.le_refl _) (by omega) L5
    rw [hM5l,←HNN.out] at h
    exact h
   have HF:=aa (And.intro hAns (And.intro hval (And.intro hnrm (HB2.out.trans (hbel5.mono HB2.out.size)))))
   have HM5:=aa hM5l
   clear hown hgrow hbel3 hbel4 hbel5 B4 L4 F4 O4 S4 B5 L5 F5 O5 S5 hval hnrm hAns hLu hz5 z0 z1 hM5l hi hz0 hz1 hz2
   go_wp2
   rw [hcp2]
   go_wp2
   go_returns
   refine⟨HF.out.2.2.2,.inl ⟨_,M5,rfl,HF.out.1,?_,fun h=>HF.out.2.2.1 ?_,?_⟩⟩
   ·rw [HF.out.2.1,HV2.out.1,HLP.out.1,Nat.add_zero,Nat.mul_comm (18446744073709551616 ^ s)];simp
   ·rw [HV2.out.1];exact Nat.lt_of_lt_of_le h (Nat.le_add_right _ _)
   ·rw [HM5.out];omega
  ·have HB2:=aa hB2
   have HBG:=aa hbl2
   clear hb2 hB2 A2 hbl2 h2
   go_wp2
   go_returns
   exact⟨HB2.out,.inr ⟨rfl,HBG.out⟩⟩
 ·have HB1:=aa hB1
  have HBG:=aa (Nat.lt_of_lt_of_le hbl1 (bE (Nat.le_add_right (val H*val O) (0 / 18446744073709551616 ^ s))))
  clear hb1 hB1 A1 hbl1
  go_wp2
  go_returns
  exact⟨HB1.out,.inr ⟨rfl,HBG.out⟩⟩
end Go.Proofs.YtghhnehbpkmhdaaGreatDoor

