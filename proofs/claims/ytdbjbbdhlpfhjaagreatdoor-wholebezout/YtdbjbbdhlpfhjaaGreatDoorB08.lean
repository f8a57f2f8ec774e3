/- Package div: rest, Both, Quo, Rest, Divides. -/
import Derived.Test.YtdbjbbdhlpfhjaaGreatDoorB07
import Derived.Test.YtdbjbbdhlpfhjaaGreatDoorB01
import Derived.Deep.RegionHeld3
import Derived.Deep.DrawnRows
import Derived.Test.YtdbjbbdhlpfhjaaGreatDoorB02
import Derived.Test.YtdbjbbdhlpfhjaaGreatDoorB04
import Derived.BigQuiet
import Derived.Test.YtdbjbbdhlpfhjaaGreatDoorB03
set_option maxRecDepth 20000
set_option maxHeartbeats 4000000
namespace Go.Proofs.YtdbjbbdhlpfhjaaGreatDoor
open Go.RowKit
open Lm
attribute [local go_sem ↓] Go.wp_at_zero Go.wp_at_succ

def fl (w:World)(x B k:Nat)(e:Ending)(w':World):Prop:=
 (∃(vr:Value) (rs:List Nat),e=.returned vr∧Ans w' w.heap.size vr rs∧val rs=x % B∧rs.length≤k∧(B≤x→1≤rs.length))∧Below w.heap.size w w'

theorem dQ (va vd:Value)(X:List Nat)(base B n:Nat)(w:World)(hA:Arg w va X)(hD:Dvs w base vd B n)(hT:Tab w)(hfew:X.length≤17592186044416) :
  Calls Tryz.prog 78 #[vd,va] w (fl w (val X) B X.length):=by
 have hD0:=hD
 obtain⟨g,nn,s,j,h,V,rfl,hg,hV,lV,hj,ht,hs,eV,eB,en,hnf⟩:=hD
 obtain⟨w0,hw0⟩:∃w0,w0=w.alloc (.cells #[.slice (some ⟨g,0,none⟩) V.length V.length,.int .i64 nn,.int .i64 s] 102):=⟨_,rfl⟩
 have hbel0:Below w.heap.size w w0:=by rw [hw0];exact (Below.refl _ _).alloc (Nat.le_refl _) _
 have hb0:w0.heap[w.heap.size]?=some (.cells #[.slice (some ⟨g,0,none⟩) V.length V.length,.int .i64 nn,.int .i64 s] 102):=by rw [hw0];exact heap_alloc_new ..
 have H1:=gQ va _ X base B n w0 (hA.below hbel0) (hD0.below hbel0) (hT.below hbel0) hfew
 obtain⟨hk0,hk1,hk2⟩:=ck hb0
 have HW0:=aa hw0
 have HBL:=aa hbel0
 obtain⟨a0,cap,rfl,hcc,hcm,hl⟩:=hA.form
 rw [hw0] at hk0 hk1 hk2
 clear hA hD0 hV lV hj ht eV eB en hb0 hw0 hbel0 hl hT
 go_enter Tryz.func78,Tryz.ntmps78
 go_wp2_with fail
 rw [←HW0.out]
 refine H1.mono ?_
 rintro e w2 ⟨⟨vq,vr,qs,rs,mid,rfl,A1,hmid,hq,A2,e1,e2,l1,l2,l3⟩,hb⟩
 have HX:Hid (fl w (val X) B X.length (.returned vr) w2):=aa ⟨⟨vr,rs,rfl,A2.base (Nat.le_trans HBL.out.size hmid.1),e2,l2,l3⟩,HBL.out.trans (hb.mono HBL.out.size)⟩
 clear A1 hmid hq A2 e1 e2 l1 l2 l3 hb H1 hk0 hk1 hk2
 go_wp2
 go_ret
 exact HX.out

def qv (w w':World)(e:Ending)(s t:Nat):Prop:=
 ∃v1 v2 c r1 r2 mid,e=.returned (.tuple #[v1,v2,.int .i64 c])∧Ans w' w.heap.size v1 r1∧(w.heap.size≤mid∧mid≤w'.heap.size)∧(∀g,v1.ownBlock=some g→g<mid)∧Ans w' mid v2 r2 ∧
  ((c=0∧val r1=s∧tr r1=r1∧val r2=t∧tr r2=r2∧blen s≤67108864∧blen t≤67108864)∨(c=3∧r1=[]∧r2=[]∧(67108864<blen s∨67108864<blen t)))

theorem nE (v:Value)(base:Nat)(xs:List Nat)(w:World)(h:Ans w base v xs)(hf:xs.length≤1125899906842624) :
  Calls Tryz.prog 167 #[v] w fun e w'=>w'=w∧∃v' c rs,e=.returned (.tuple #[v',.int .i64 c])∧Ans w base v' rs∧(∀g,v'.ownBlock=some g→v.ownBlock=some g)∧((c=0∧val rs=val xs∧tr rs=rs∧blen (val xs)≤67108864)∨(c=3∧rs=[]∧67108864<blen (val xs))):=by
 have ha:=h.arg hf
 obtain⟨ao,cap,rfl,hcap,hmax,hlies⟩:=ha.form
 have hle:=tr_length_le xs
 have H1:=aZ _ cap xs w hcap hmax hlies
 have H2:=aP _ _ _ ha
 have HA:Hid (Ans w base (.slice ao (tr xs).length cap) (tr xs)):=h.trim
 have HT:Hid (tr (tr xs)=tr xs∧val (tr xs)=val xs):=⟨tr_tr xs,val_tr xs⟩
 generalize tr xs=T at *
 generalize val xs=V at *
 generalize blen V=y at *
 clear hlies h ha
 by_cases hy:y≤67108864
 ·go_enter Tryz.func167,Tryz.ntmps167
  go_wp2_with fail
  refine H2.mono ?_
  rintro e w' ⟨rfl,rfl⟩
  go_wp2_with fail
  refine H1.mono ?_
  rintro e w' ⟨rfl,rfl⟩
  go_wp2
  go_ret2
  exact⟨rfl,_,_,T,rfl,HA.out,(fun g e=>by cases ao <;> exact e),.inl ⟨rfl,HT.out.2,HT.out.1,hy⟩⟩
 ·go_enter Tryz.func167,Tryz.ntmps167
  go_wp2_with fail
  refine H2.mono ?_
  rintro e w' ⟨rfl,rfl⟩
  go_wp2
  go_ret2
  exact⟨rfl,_,_,[],rfl,Ans.nil _ _,(fun g e=>(by cases e)),.inr ⟨rfl,rfl,by omega⟩⟩

theorem jJ {x y k:Nat}(hy:0<y)(h:k+blen y<blen x):k<blen (x / y):=by
 refine Nat.lt_of_not_le fun hle=>?_
 have h1:=(blen_le_iff (x / y) k).1 hle
 have h2:y<2 ^ blen y:=(blen_le_iff y _).1 (Nat.le_refl _)
 have h3:x<2 ^ (k+blen y):=by
  rw [Nat.div_lt_iff_lt_mul hy] at h1
  rw [Nat.pow_add]
  exact Nat.lt_of_lt_of_le h1 (Nat.mul_le_mul_left _ (Nat.le_of_lt h2))
 have:=(blen_le_iff x _).2 h3
 omega

theorem il (va vb:Value)(X Y:List Nat)(w:World)(hA:Arg w va X)(hA2:Arg w vb Y)(hT:Tab w)(hf1:X.length≤17592186044416)(hf2:Y.length≤17592186044416)(hY:val Y≠0) :
  Calls Tryz.prog 125 #[va,vb] w fun e w'=>qv w w' e (val X / val Y) (val X % val Y)∧Below w.heap.size w w':=by
 have HR:=jK va vb X Y w hA hA2
 have HDV:=dj vb Y w hA2 hT hY (by omega)
 have HA:=aa hA
 have HT:=aa hT
 obtain⟨a1,c1,rfl,_,_,_⟩:=hA.form
 obtain⟨a2,c2,rfl,_,_,_⟩:=hA2.form
 have hr:cB (val X) (val Y)=if 67108864+blen (val Y)<blen (val X) then 3 else 0:=by unfold cB;rw [if_neg hY]
 rw [hr] at HR
 have HY:=aa (show 0<val Y by omega)
 clear hA hA2 hT hr hY
 by_cases hb:67108864+blen (val Y)<blen (val X)
 ·rw [if_pos hb] at HR
  have HX:Hid (67108864<blen (val X / val Y)):=aa (jJ HY.out hb)
  clear HDV hb
  go_enter Tryz.func125,Tryz.ntmps125
  go_wp2_with fail
  refine HR.mono ?_
  rintro e wn ⟨rfl,hw⟩;subst hw
  clear HR
  go_wp2
  go_returns
  exact⟨⟨_,_,_,[],[],wn.heap.size,rfl,Ans.nil _ _,⟨Nat.le_refl _,Nat.le_refl _⟩,(fun g e=>(by cases e)),Ans.nil _ _,.inr ⟨rfl,rfl,rfl,.inl HX.out⟩⟩,Below.refl _ _⟩
 ·rw [if_neg hb] at HR
  clear hb
  go_enter Tryz.func125,Tryz.ntmps125
  go_wp2_with fail
  refine HR.mono ?_
  rintro e wn ⟨rfl,hw⟩;rw [hw];clear hw wn
  go_wp2_with fail
  refine HDV.mono ?_
  rintro e w1 ⟨⟨vd,rfl,hd⟩,hb1⟩
  have H1:=gQ _ vd X _ _ _ w1 (HA.out.below hb1) hd (HT.out.below hb1) hf1
  have HB1:=aa hb1
  clear hd hb1 HDV HR
  go_wp2_with fail
  refine H1.mono ?_
  rintro e w2 ⟨⟨vq,vr,qs,rs,mid,rfl,A1,hmid,hq,A2,e1,e2,l1,l2,_⟩,hb2⟩
  have HQ:=nE vq w1.heap.size qs w2 A1 (by omega)
  have HRR:=iw vr mid rs w2 A2 (by omega)
  have HB2:=aa (HB1.out.trans (hb2.mono HB1.out.size))
  have HM:=aa (And.intro (Nat.le_trans HB1.out.size hmid.1) (And.intro hmid.2 hq))
  rw [e1] at HQ
  rw [e2] at HRR
  clear A1 A2 hmid hq e1 e2 l1 l2 hb2 H1
  go_wp2_with fail
  refine HQ.mono ?_
  rintro e w3 ⟨hw,v1,c1,r1,rfl,An1,hown,hres⟩;subst hw
  clear HQ
  rcases hres with ⟨rfl,ev1,tv1,bl1⟩|⟨rfl,rfl,bl1⟩
  ·have H1:=aa (And.intro An1 (And.intro hown (And.intro ev1 (And.intro tv1 bl1))))
   clear An1 hown ev1 tv1 bl1
   go_wp2_with fail
   refine HRR.mono ?_
   rintro e w4 ⟨hw,v2,c2,r2,rfl,An2,hres⟩;subst hw
   clear HRR
   rcases hres with ⟨rfl,ev2,tv2,bl2⟩|⟨rfl,rfl,bl2⟩
   ·have H2:=aa (And.intro An2 (And.intro ev2 (And.intro tv2 bl2)))
    clear An2 ev2 tv2 bl2
    go_wp2
    go_returns
    obtain⟨a1,a2,a3,a4,a5⟩:=H1.out
    obtain⟨b1,b2,b3,b4⟩:=H2.out
    exact⟨⟨v1,v2,_,r1,r2,mid,rfl,a1.base HB1.out.size,⟨HM.out.1,HM.out.2.1⟩,(fun g e=>HM.out.2.2 g (a2 g e)),b1,.inl ⟨rfl,a3,a4,b2,b3,a5,b4⟩⟩,HB2.out⟩
   ·have H2:=aa bl2
    clear An2 bl2
    go_wp2
    go_returns
    exact⟨⟨_,_,_,[],[],w.heap.size,rfl,Ans.nil _ _,⟨Nat.le_refl _,HB2.out.size⟩,(fun g e=>(by cases e)),Ans.nil _ _,.inr ⟨rfl,rfl,rfl,.inr H2.out⟩⟩,HB2.out⟩
  ·have H2:=aa bl1
   clear An1 hown bl1 HRR
   go_wp2
   go_returns
   exact⟨⟨_,_,_,[],[],w.heap.size,rfl,Ans.nil _ _,⟨Nat.le_refl _,HB2.out.size⟩,(fun g e=>(by cases e)),Ans.nil _ _,.inr ⟨rfl,rfl,rfl,.inl H2.out⟩⟩,HB2.out⟩

theorem jr (v1 v2:Value)(zs ys:List Nat)(w:World)(h1:Arg w v1 zs)(h2:Arg w v2 ys)(f1:zs.length≤35184372088831)(f2:ys.length≤35184372088831) :
  Calls Tryz.prog 102 #[v1,v2] w fun e w'=>Below w.heap.size w w'∧Res w' w.heap.size e (val zs+val ys):=by
 obtain⟨a1,c1,rfl,hc1,hm1,hl1⟩:=h1.form
 obtain⟨a2,c2,rfl,hc2,hm2,hl2⟩:=h2.form
 have H1:=bR a1 c1 zs w hc1 hm1 hl1
 have H2:=bR a2 c2 ys w hc2 hm2 hl2
 have l1:=tr_length_le zs
 have l2:=tr_length_le ys
 have L1:=hl1.tr
 have L2:=hl2.tr
 have M1:=limbs_tr h1.limbs
 have M2:=limbs_tr h2.limbs
 rw [←val_tr zs,←val_tr ys]
 obtain⟨i0,hi,hz0,hz1,hz2⟩:=info_parts Tryz.infoU
 generalize tr zs=Z at *
 generalize tr ys=Y at *
 by_cases hlt:Z.length<Y.length
 ·rw [Nat.add_comm (val Z) (val Y)]
  go_enter Tryz.func102,Tryz.ntmps102
  go_wp2_with fail
  refine H1.mono ?_
  rintro e w' ⟨rfl,rfl⟩
  go_wp2_with fail
  refine H2.mono ?_
  rintro e w' ⟨rfl,rfl⟩
  clear H1 H2
  go_wp2_with (at_make;refine wpList_make_full _ rfl _ _ 25 rfl w'.heap.size 61 i0 (.int .u64 0) 1 Tryz.underlying25 hi hz0 hz1 .i64 .i64 _ _ (Y.length+1) rfl rfl (by omega) (by omega) (by rw [hz2];omega) (by unfold maxLen;omega) (Nat.le_refl _) ?_;intro w1 hown hgrow)
  have hb1:=Blk.made hown
  have hbel:Below w'.heap.size w' w1:=(Below.refl _ _).grown hgrow (Nat.le_refl _) (fun k hk=>by cases hk)
  clear hown hgrow hi hz0 hz1 hz2
  go_loopw [7,26] (fun c i wr=>∃(k cy:Nat) (out:List Nat),k≤Y.length∧i=.int .i64 k∧c=.int .u64 cy∧cy≤1∧out.length=Y.length+1∧Limbs out∧Blk wr w'.heap.size out∧Below w'.heap.size w' wr ∧
    val (out.take k)+cy*18446744073709551616 ^ k=val (Y.take k)+val (Z.take k)) (fun _ i _=>Y.length - (intOf i).toNat)
  case atStart=>exact⟨0,0,_,Nat.zero_le _,rfl,rfl,by omega,by simp,limbs_replicate _,hb1,hbel,by simp [val]⟩
  case round=>
   obtain⟨k,cy,out,hk,rfl,rfl,hcy,hlen,hlo,hblk,hbl,hval⟩:=hrel
   clear hb1 hbel
   have HV:Hid (val (out.take k)+cy*18446744073709551616 ^ k=val (Y.take k)+val (Z.take k)):=hval
   clear hval
   have HB:Hid (Blk wr w'.heap.size out):=hblk
   have HL:Hid (Below w'.heap.size w' wr):=hbl
   have H42:=dR a1 c1 Z k wr.drew (by omega) hm1 (L1.below hbl.drew)
   by_cases hkl:k<Y.length
   ·rcases L2.below hbl with h0|⟨b,off,rfl,hcell⟩
    ·simp [h0] at hkl
    ·have hck:=hcell k hkl
     have hbw:=an.block (L2:an w' (some ⟨b,off,none⟩) Y) (by omega)
     have hne1:¬b=w'.heap.size:=by omega
     have hne2:¬w'.heap.size=b:=by omega
     have hfr:=hblk.free k
     have hco:=hblk.cell k (by omega)
     have ha:=cQ (Y.getD k 0) (Z.getD k 0) cy hcy
     have hst:=add_step Y Z out k cy (by omega) HV.out
     have HS:Hid (val ((out.set k ((Y.getD k 0+Z.getD k 0+cy) % 18446744073709551616)).take (k+1))+(Y.getD k 0+Z.getD k 0+cy) / 18446744073709551616*18446744073709551616 ^ (k+1)=val (Y.take (k+1))+val (Z.take (k+1))):=hst
     have z1:=limb_lt M2 k
     have z2:=limb_lt M1 k
     clear hst hcell hblk hbl HV L2 L1 M2 M1 hl1 hl2 h1 h2
     generalize Y.getD k 0=x at *
     generalize Z.getD k 0=y at *
     generalize out.getD k 0=o at *
     have hs1:(x+y+cy) % 18446744073709551616<18446744073709551616:=Nat.mod_lt _ (by omega)
     have hd1:(x+y+cy) / 18446744073709551616≤1:=by omega
     generalize (x+y+cy) % 18446744073709551616=s at *
     generalize (x+y+cy) / 18446744073709551616=d at *
     have hi1:(0:Int)≤(k:Int):=by omega
     have hi2:(k:Int)<(Y.length:Int):=by omega
     have hi3:(k:Int)<(Y.length:Int)+1:=by omega
     go_wp2
     go_region_held3 (fun w'=>w'.cell? ⟨b,off+k,none⟩=some (.int .u64 x)) (go_keep) (first | (go_at_call 152;refine H42.mono ?_;rintro e w2 ⟨rfl,rfl⟩))
     go_wp2
     go_roundw
     case rel=>exact⟨k+1,d,out.set k s,by omega,by go_num,rfl,hd1,by simp;omega,limbs_set hlo _ _ hs1,HB.out.set k s,(HL.out.setCell (Nat.le_refl _) _).drew,HS.out⟩
     case measure=>simp [intOf];omega
   ·have ek:k=Y.length:=by omega
    subst ek
    have hfr:=hblk.free Y.length
    have hco:=hblk.cell Y.length (by omega)
    generalize out.getD Y.length 0=o at *
    have hb2:=hblk.set Y.length cy
    have HA:=eW _ w'.heap.size _ _ hb2 (limbs_set hlo _ _ (by omega)) (Nat.le_refl _) (by simp;omega)
    have hvl:val (out.set Y.length cy)=val Y+val Z:=by
     have e1:(out.set Y.length cy).take (Y.length+1)=out.set Y.length cy:=List.take_of_length_le (by simp;omega)
     rw [←e1,take_set_succ _ _ _ (by omega),Nat.mul_comm,HV.out,List.take_length,List.take_of_length_le (by omega)]
    rw [List.length_set,hlen,hvl] at HA
    have HBel:Hid (Below w'.heap.size w' (wr.setCell ⟨w'.heap.size,Y.length,none⟩ (.int .u64 cy))):=hbl.setCell (Nat.le_refl _) _
    clear hvl hb2 hblk hbl HV H42 L2 L1 M2 M1 hl1 hl2 h1 h2 HB HL hlo
    go_wp2_with fail
    refine HA.mono ?_
    rintro e w2 ⟨rfl,hres⟩
    unfold Res at hres
    obtain⟨v,c,rs,rfl,hans,hcase⟩:=hres
    have HX:Hid (Ans _ w'.heap.size v rs∧((c=0∧val rs=val Y+val Z∧tr rs=rs∧blen (val Y+val Z)≤67108864)∨(c=3∧rs=[]∧67108864<blen (val Y+val Z)))):=⟨hans,hcase⟩
    clear hans hcase
    go_wp2
    go_ret2
    exact⟨HBel.out,v,c,rs,rfl,HX.out⟩
 ·go_enter Tryz.func102,Tryz.ntmps102
  go_wp2_with fail
  refine H1.mono ?_
  rintro e w' ⟨rfl,rfl⟩
  go_wp2_with fail
  refine H2.mono ?_
  rintro e w' ⟨rfl,rfl⟩
  clear H1 H2
  go_wp2_with (at_make;refine wpList_make_full _ rfl _ _ 25 rfl w'.heap.size 61 i0 (.int .u64 0) 1 Tryz.underlying25 hi hz0 hz1 .i64 .i64 _ _ (Z.length+1) rfl rfl (by omega) (by omega) (by rw [hz2];omega) (by unfold maxLen;omega) (Nat.le_refl _) ?_;intro w1 hown hgrow)
  have hb1:=Blk.made hown
  have hbel:Below w'.heap.size w' w1:=(Below.refl _ _).grown hgrow (Nat.le_refl _) (fun k hk=>by cases hk)
  clear hown hgrow hi hz0 hz1 hz2
  go_loopw [7,26] (fun c i wr=>∃(k cy:Nat) (out:List Nat),k≤Z.length∧i=.int .i64 k∧c=.int .u64 cy∧cy≤1∧out.length=Z.length+1∧Limbs out∧Blk wr w'.heap.size out∧Below w'.heap.size w' wr ∧
    val (out.take k)+cy*18446744073709551616 ^ k=val (Z.take k)+val (Y.take k)) (fun _ i _=>Z.length - (intOf i).toNat)
  case atStart=>exact⟨0,0,_,Nat.zero_le _,rfl,rfl,by omega,by simp,limbs_replicate _,hb1,hbel,by simp [val]⟩
  case round=>
   obtain⟨k,cy,out,hk,rfl,rfl,hcy,hlen,hlo,hblk,hbl,hval⟩:=hrel
   clear hb1 hbel
   have HV:Hid (val (out.take k)+cy*18446744073709551616 ^ k=val (Z.take k)+val (Y.take k)):=hval
   clear hval
   have HB:Hid (Blk wr w'.heap.size out):=hblk
   have HL:Hid (Below w'.heap.size w' wr):=hbl
   have H42:=dR a2 c2 Y k wr.drew (by omega) hm2 (L2.below hbl.drew)
   by_cases hkl:k<Z.length
   ·rcases L1.below hbl with h0|⟨b,off,rfl,hcell⟩
    ·simp [h0] at hkl
    ·have hck:=hcell k hkl
     have hbw:=an.block (L1:an w' (some ⟨b,off,none⟩) Z) (by omega)
     have hne1:¬b=w'.heap.size:=by omega
     have hne2:¬w'.heap.size=b:=by omega
     have hfr:=hblk.free k
     have hco:=hblk.cell k (by omega)
     have ha:=cQ (Z.getD k 0) (Y.getD k 0) cy hcy
     have hst:=add_step Z Y out k cy (by omega) HV.out
     have HS:Hid (val ((out.set k ((Z.getD k 0+Y.getD k 0+cy) % 18446744073709551616)).take (k+1))+(Z.getD k 0+Y.getD k 0+cy) / 18446744073709551616*18446744073709551616 ^ (k+1)=val (Z.take (k+1))+val (Y.take (k+1))):=hst
     have z1:=limb_lt M1 k
     have z2:=limb_lt M2 k
     clear hst hcell hblk hbl HV L1 L2 M1 M2 hl1 hl2 h1 h2
     generalize Z.getD k 0=x at *
     generalize Y.getD k 0=y at *
     generalize out.getD k 0=o at *
     have hs1:(x+y+cy) % 18446744073709551616<18446744073709551616:=Nat.mod_lt _ (by omega)
     have hd1:(x+y+cy) / 18446744073709551616≤1:=by omega
     generalize (x+y+cy) % 18446744073709551616=s at *
     generalize (x+y+cy) / 18446744073709551616=d at *
     have hi1:(0:Int)≤(k:Int):=by omega
     have hi2:(k:Int)<(Z.length:Int):=by omega
     have hi3:(k:Int)<(Z.length:Int)+1:=by omega
     go_wp2
     go_region_held3 (fun w'=>w'.cell? ⟨b,off+k,none⟩=some (.int .u64 x)) (go_keep) (first | (go_at_call 152;refine H42.mono ?_;rintro e w2 ⟨rfl,rfl⟩))
     go_wp2
     go_roundw
     case rel=>exact⟨k+1,d,out.set k s,by omega,by go_num,rfl,hd1,by simp;omega,limbs_set hlo _ _ hs1,HB.out.set k s,(HL.out.setCell (Nat.le_refl _) _).drew,HS.out⟩
     case measure=>simp [intOf];omega
   ·have ek:k=Z.length:=by omega
    subst ek
    have hfr:=hblk.free Z.length
    have hco:=hblk.cell Z.length (by omega)
    generalize out.getD Z.length 0=o at *
    have hb2:=hblk.set Z.length cy
    have HA:=eW _ w'.heap.size _ _ hb2 (limbs_set hlo _ _ (by omega)) (Nat.le_refl _) (by simp;omega)
    have hvl:val (out.set Z.length cy)=val Z+val Y:=by
     have e1:(out.set Z.length cy).take (Z.length+1)=out.set Z.length cy:=List.take_of_length_le (by simp;omega)
     rw [←e1,take_set_succ _ _ _ (by omega),Nat.mul_comm,HV.out,List.take_length,List.take_of_length_le (by omega)]
    rw [List.length_set,hlen,hvl] at HA
    have HBel:Hid (Below w'.heap.size w' (wr.setCell ⟨w'.heap.size,Z.length,none⟩ (.int .u64 cy))):=hbl.setCell (Nat.le_refl _) _
    clear hvl hb2 hblk hbl HV H42 L1 L2 M1 M2 hl1 hl2 h1 h2 HB HL hlo
    go_wp2_with fail
    refine HA.mono ?_
    rintro e w2 ⟨rfl,hres⟩
    unfold Res at hres
    obtain⟨v,c,rs,rfl,hans,hcase⟩:=hres
    have HX:Hid (Ans _ w'.heap.size v rs∧((c=0∧val rs=val Z+val Y∧tr rs=rs∧blen (val Z+val Y)≤67108864)∨(c=3∧rs=[]∧67108864<blen (val Z+val Y)))):=⟨hans,hcase⟩
    clear hans hcase
    go_wp2
    go_ret2
    exact⟨HBel.out,v,c,rs,rfl,HX.out⟩
end Go.Proofs.YtdbjbbdhlpfhjaaGreatDoor
namespace Go.Proofs.YtdbjbbdhlpfhjaaGreatDoor
open Go.RowKit
open Lm

def Nv (w:World)(base:Nat)(v:Value)(x:Nat):Prop:=∃rs,Ans w base v rs∧val rs=x∧tr rs=rs∧rs.length≤1048576

theorem Nv.base {w:World}{base base':Nat}{v:Value}{x:Nat}(h:Nv w base v x)(hb:base'≤base):Nv w base' v x:=by
 obtain⟨rs,h1,h2⟩:=h
 exact⟨rs,h1.base hb,h2⟩

theorem Nv.arg {w:World}{base:Nat}{v:Value}{x:Nat}(h:Nv w base v x):∃rs,Arg w v rs∧val rs=x∧tr rs=rs∧rs.length≤1048576:=by
 obtain⟨rs,h1,h2,h3,h4⟩:=h
 exact⟨rs,h1.arg (by omega),h2,h3,h4⟩

theorem Nv.of {w:World}{base:Nat}{v:Value}{rs:List Nat}{x:Nat}(h:Ans w base v rs)(hv:val rs=x)(ht:tr rs=rs)(hb:blen x≤67108864):Nv w base v x:=by
 refine⟨rs,h,hv,ht,?_⟩
 have:=few_limbs rs 1048576 (by rw [hv];omega)
 rwa [ht] at this

theorem Res.fits {w:World}{base:Nat}{e:Ending}{s:Nat}(h:Res w base e s)(hs:blen s≤67108864):∃v,e=.returned (.tuple #[v,.int .i64 0])∧Nv w base v s:=by
 obtain⟨v,c,rs,rfl,hA,h⟩:=h
 rcases h with ⟨rfl,h1,h2,h3⟩|⟨_,_,h3⟩
 ·exact⟨v,rfl,Nv.of hA h1 h2 h3⟩
 ·omega
end Go.Proofs.YtdbjbbdhlpfhjaaGreatDoor
namespace Go.Proofs.YtdbjbbdhlpfhjaaGreatDoor
open Go.RowKit
open Lm
attribute [local go_sem ↓] Go.wp_at_zero Go.wp_at_succ

theorem ib {x y:Nat}(h:x≤y):blen x≤blen y:=(blen_le_iff _ _).2 (Nat.lt_of_le_of_lt h ((blen_le_iff _ _).1 (Nat.le_refl _)))

theorem dU {U:List Nat}{k:Nat}(h:tr U=U)(hb:blen (val U)≤64*k):U.length≤k:=by
 have h1:=(blen_le_iff _ _).1 hb
 rw [Nat.pow_mul] at h1
 have:=aH U k h1
 rw [h] at this
 exact this

theorem mW {X:List Nat}(hX:Limbs X)(s nn:Nat)(hn:nn=min s X.length):val X=val (X.take nn)+18446744073709551616 ^ s*val (X.drop nn)∧val X / 18446744073709551616 ^ s=val (X.drop nn)∧val (X.take nn)<18446744073709551616 ^ s:=by
 have hp:0<18446744073709551616 ^ s:=Nat.pow_pos (by omega)
 have h3:val (X.take nn)<18446744073709551616 ^ s:=by
  have h:=val_lt (zs:=X.take nn) (fun z hz=>hX z (List.mem_of_mem_take hz))
  refine Nat.lt_of_lt_of_le h (Nat.pow_le_pow_right (by omega) (by simp;omega))
 have h1:val X=val (X.take nn)+18446744073709551616 ^ s*val (X.drop nn):=by
  rcases Nat.lt_or_ge X.length s with h|h
  ·have e:nn=X.length:=by omega
   rw [e,List.take_length,List.drop_length];simp [val]
  ·have e:nn=s:=by omega
   rw [e]
   have hh:=au X 0 s (X.length - s) (by omega)
   rw [show s+(X.length - s)=X.length by omega,bC] at hh
   have e1:sv X 0 s=val (X.take s):=by simp [sv,seg]
   have e2:sv X (0+s) (X.length - s)=val (X.drop s):=by
    rw [Nat.zero_add]
    unfold sv seg
    rw [List.take_of_length_le (by simp)]
   rw [hh,e1,e2]
 refine⟨h1,?_,h3⟩
 rw [h1,Nat.add_mul_div_left _ _ hp,Nat.div_eq_of_lt h3,Nat.zero_add]

theorem pI (b:Nat)(w:World)(h1:2≤b)(h2:b≤36):Calls Tryz.prog 99 #[.int .i64 b] w fun e w'=>e=.returned (.bool true)∧w'=w:=by
 have i0:(2:Int)≤(b:Int):=by omega
 have i1:(b:Int)≤36:=by omega
 have i2:decide ((b:Int)≤36)=true:=decide_eq_true i1
 go_enter Tryz.func99,Tryz.ntmps99
 go_wp2
 go_ret
 exact⟨rfl,rfl⟩

def bQ (b v n:Nat):Prop:=1≤n∧v<b ^ n∧(n=1∨b ^ (n - 1)≤v)

theorem bQ.unique {b v m n:Nat}(hb:2≤b)(h:bQ b v m)(h':bQ b v n):m=n:=by
 have key:∀ {m n:Nat},bQ b v m→bQ b v n→m≤n:=by
  intro m n h h'
  rcases h.2.2 with e|e
  ·have:=h'.1;omega
  ·have h1:=(Nat.pow_lt_pow_iff_right (show 1<b by omega)).1 (Nat.lt_of_le_of_lt e h'.2.1)
   omega
 exact Nat.le_antisymm (key h h') (key h' h)

theorem bQ.few {b v n k:Nat}(hb:2≤b)(h:bQ b v n)(hk:1≤k)(hv:v<2 ^ k):n≤k:=by
 rcases h.2.2 with e|e
 ·omega
 ·have h1:2 ^ (n - 1)≤b ^ (n - 1):=Nat.pow_le_pow_left hb _
  have h2:=(Nat.pow_lt_pow_iff_right (show 1<2 by omega)).1 (Nat.lt_of_le_of_lt (Nat.le_trans h1 e) hv)
  omega

def Cs (b v c n:Nat):Prop:=1≤n∧c=v / b ^ (n - 1)∧(n=1∨b ^ (n - 1)≤v)

theorem Cs.next {b v c n:Nat}(hb:2≤b)(h:Cs b v c n)(hc:b≤c):Cs b v (c / b) (n+1):=by
 obtain⟨h1,h2,_⟩:=h
 have e:b ^ (n+1 - 1)=b ^ (n - 1)*b:=by rw [←Nat.pow_succ];congr 1;omega
 have hp:0<b ^ (n - 1):=Nat.pow_pos (by omega)
 refine⟨by omega,by rw [e,←Nat.div_div_eq_div_mul,h2],.inr ?_⟩
 rw [e,Nat.mul_comm]
 exact (Nat.le_div_iff_mul_le hp).1 (by rw [←h2];exact hc)

theorem Cs.done {b v c n:Nat}(hb:2≤b)(h:Cs b v c n)(hc:c<b):bQ b v n:=by
 obtain⟨h1,h2,h3⟩:=h
 have hp:0<b ^ (n - 1):=Nat.pow_pos (by omega)
 refine⟨h1,?_,h3⟩
 have e:b ^ n=b*b ^ (n - 1):=by rw [Nat.mul_comm,←Nat.pow_succ];congr 1;omega
 rw [e]
 exact (Nat.div_lt_iff_lt_mul hp).1 (by rw [←h2];exact hc)

theorem Cs.few {b v c n:Nat}(hb:2≤b)(h:Cs b v c n)(hv:v<18446744073709551616):n≤64:=by
 rcases h.2.2 with e|e
 ·omega
 ·have h1:2 ^ (n - 1)≤b ^ (n - 1):=Nat.pow_le_pow_left hb _
  have h2:=(Nat.pow_lt_pow_iff_right (show 1<2 by omega)).1 (Nat.lt_of_le_of_lt (Nat.le_trans h1 e) (show v<2 ^ 64 by omega))
  omega

theorem nW (v b:Nat)(w:World)(hb:2≤b)(hb2:b≤36)(hv:v<18446744073709551616) :
  Calls Tryz.prog 179 #[.int .u64 v,.int .u64 b] w fun e w'=>∃n:Nat,e=.returned (.int .i64 n)∧bQ b v n∧w'=w:=by
 have hbz:((b:Int) == 0)=false:=by rw [beq_eq_false_iff_ne];omega
 go_enter Tryz.func179,Tryz.ntmps179
 go_wp2
 go_loop [0,5] (fun x y=>∃c n:Nat,x=.int .u64 c∧y=.int .i64 n∧c≤v∧Cs b v c n) (fun x _=>(intOf x).toNat)
 case atStart=>exact⟨v,1,rfl,rfl,Nat.le_refl _,Nat.le_refl _,by simp,.inl rfl⟩
 case round=>
  obtain⟨c,n,rfl,rfl,hcv,hcs⟩:=hrel
  have hn:=hcs.few hb hv
  have HC:=aa hcs
  by_cases hc:b≤c
  ·have i1:(b:Int)≤(c:Int):=by omega
   have hdl:c / b<c:=Nat.div_lt_self (by omega) (by omega)
   have hde:(c:Int) / (b:Int)=((c / b:Nat):Int):=by omega
   have HN:=aa (HC.out.next hb hc)
   generalize c / b=q at *
   clear hcs
   go_wp2
   go_round
   case rel=>exact⟨q,n+1,rfl,by go_num,by omega,HN.out⟩
   case measure=>simp [intOf];omega
  ·have i1:¬((b:Int)≤(c:Int)):=by omega
   clear hcs
   go_wp2
   go_ret
   exact⟨n,rfl,HC.out.done hb (by omega),rfl⟩

structure nw (b d p:Nat):Prop where
 pow:p=b ^ d
 fits:p<18446744073709551616
 most:18446744073709551616≤p*b
 some:1≤d
 few:d≤63

theorem ri (b:Nat)(w:World)(hb:2≤b)(hb2:b≤36) :
  Calls Tryz.prog 184 #[.int .i64 b] w fun e w'=>∃d p:Nat,e=.returned (.tuple #[.int .i64 d,.int .u64 p])∧nw b d p∧w'=w:=by
 have hbz:((b:Int) == 0)=false:=by rw [beq_eq_false_iff_ne];omega
 obtain⟨m,hm⟩:∃m,18446744073709551615 / b=m:=⟨_,rfl⟩
 have hmi:(18446744073709551615:Int) / (b:Int)=(m:Int):=by rw [←hm,Int.natCast_ediv];rfl
 have hm1:m*b≤18446744073709551615:=by rw [←hm];exact Nat.div_mul_le_self _ _
 have hm2:18446744073709551615<(m+1)*b:=by rw [←hm,Nat.mul_comm];exact Nat.lt_mul_div_succ _ (by omega)
 have hm3:1≤m:=by rw [←hm];exact (Nat.le_div_iff_mul_le (by omega)).2 (by omega)
 have HM:=aa (And.intro hm1 hm2)
 clear hm hm1 hm2
 go_enter Tryz.func184,Tryz.ntmps184
 go_wp2
 go_loop [2,3] (fun x y=>∃d p:Nat,x=.int .i64 d∧y=.int .u64 p∧p=b ^ d∧p<18446744073709551616∧d≤63) (fun x _=>64 - (intOf x).toNat)
 case atStart=>exact⟨0,1,rfl,rfl,by simp,by omega,by omega⟩
 case round=>
  obtain⟨d,p,rfl,rfl,hp,hpl,hd⟩:=hrel
  have HP:=aa hp
  by_cases hc:p≤m
  ·have i1:(p:Int)≤(m:Int):=by omega
   have hpb:p*b<18446744073709551616:=by
    have:=Nat.mul_le_mul_right b hc
    have:=HM.out.1
    omega
   have hpi:(p:Int)*(b:Int)=((p*b:Nat):Int):=by simp
   have hq:p*b=b ^ (d+1):=by rw [hp,Nat.pow_succ]
   have hd2:d+1≤63:=by
    have h1:2 ^ (d+1)≤b ^ (d+1):=Nat.pow_le_pow_left hb _
    have h2:=(Nat.pow_lt_pow_iff_right (show 1<2 by omega)).1 (Nat.lt_of_le_of_lt h1 (show b ^ (d+1)<2 ^ 64 by omega))
    omega
   have HQ:=aa hq
   generalize p*b=q at *
   clear hp hq
   go_wp2
   go_round
   case rel=>exact⟨d+1,q,by go_num,rfl,HQ.out,hpb,hd2⟩
   case measure=>simp [intOf];omega
  ·have i1:¬((p:Int)≤(m:Int)):=by omega
   clear hp
   go_wp2
   go_returns
   refine⟨d,p,rfl,⟨HP.out,hpl,?_,?_,hd⟩,rfl⟩
   ·have:=Nat.mul_le_mul_right b (show m+1≤p by omega)
    have:=HM.out.2
    omega
   ·rcases Nat.eq_zero_or_pos d with h|h
    ·have:=HP.out;rw [h] at this;simp at this;omega
    ·exact h

theorem Ans.front5 {w:World}{base g cap:Nat}{zs:List Nat}(h:Ans w base (.slice (some ⟨g,0,none⟩) zs.length cap) zs)(n:Nat)(hn:n≤zs.length):Ans w base (.slice (some ⟨g,0,none⟩) n cap) (zs.take n):=by
 refine⟨?_,fun z hz=>h.limbs z (List.mem_of_mem_take hz)⟩
 obtain⟨_,h2⟩:=h.own
 have e:(zs.take n).length=n:=by simp;omega
 refine⟨by simp,?_⟩
 rcases h2 with ⟨h1,_⟩|⟨g',cap',cur,hv,hg,hh,hnn,hcm,hs,ht⟩
 ·cases h1
 ·cases hv
  refine .inr ⟨g,cap,cur,by rw [e],hg,hh,by rw [e];omega,hcm,hs,?_⟩
  rw [e]
  have e2:cur.toList.take (n*1)=(cur.toList.take (zs.length*1)).take n:=by
   rw [List.take_take,Nat.mul_one,Nat.mul_one,Nat.min_eq_left hn]
  rw [e2,ht,List.map_take]

theorem oU (X out:List Nat)(j q:Nat)(h:out.take (j+1)=X.take (j+1)):(out.set j q).take j=X.take j:=by
 have e:(out.set j q).take j=out.take j:=by
  apply List.ext_getElem?
  intro n
  simp only [List.getElem?_take]
  split
  ·rw [List.getElem?_set_ne (by omega)]
  ·rfl
 rw [e]
 have h2:=congrArg (List.take j) h
 simpa [List.take_take,Nat.min_eq_left (Nat.le_succ j)] using h2

theorem mn (X out:List Nat)(j:Nat)(h:out.take (j+1)=X.take (j+1)):out.getD j 0=X.getD j 0:=by
 have h2:=congrArg (fun l=>l.getD j 0) h
 simpa [List.getD,List.getElem?_take] using h2

def gi (base x d:Nat)(w:World)(e:Ending)(w':World):Prop:=
 ∃v Y,e=.returned (.tuple #[v,.int .u64 ((x % d:Nat):Int)])∧Ans w' base v Y∧val Y=x / d∧Below base w w'

theorem o8 (base g cap d:Nat)(X:List Nat)(w:World)(hA:Ans w base (.slice (some ⟨g,0,none⟩) X.length cap) X)(hd:d<18446744073709551616)(hd0:0<d) :
  Calls Tryz.prog 185 #[.slice (some ⟨g,0,none⟩) X.length cap,.int .u64 d] w (gi base (val X) d w):=by
 obtain⟨⟨hc1,hc2⟩,_,_⟩:=Ans.cellAt5 hA
 have hbg:base≤g:=(hA.own.lt g rfl).1
 have M1:=hA.limbs
 have HA:=aa hA
 clear hA
 go_enter Tryz.func185,Tryz.ntmps185
 go_wp2
 go_loopw [6,8] (fun c i wr=>∃(k r:Nat) (out:List Nat),k≤X.length∧i=.int .i64 ((k:Int) - 1)∧c=.int .u64 r∧r<d∧out.length=X.length∧Ans wr base (.slice (some ⟨g,0,none⟩) out.length cap) out∧Below base w wr ∧
   val (out.drop k)*d+r=val (X.drop k)∧out.take k=X.take k) (fun _ i _=>(intOf i+1).toNat)
 case atStart=>exact⟨X.length,0,X,Nat.le_refl _,by go_num,rfl,hd0,rfl,HA.out,Below.refl _ _,by simp [val],rfl⟩
 case round=>
  obtain⟨k,r,out,hk,rfl,rfl,hr,hlen,hans,hbl,hval,htk⟩:=hrel
  clear HA
  obtain⟨_,hfz,hcell⟩:=Ans.cellAt5 hans
  rcases Nat.eq_zero_or_pos k with rfl|hk0
  ·rw [List.drop_zero,List.drop_zero] at hval
   have hq:val out=val X / d:=by
    rw [←hval,Nat.mul_comm,Nat.mul_add_div hd0,Nat.div_eq_of_lt hr,Nat.add_zero]
   have hm:r=val X % d:=by
    rw [←hval,Nat.mul_comm,Nat.mul_add_mod,Nat.mod_eq_of_lt hr]
   have hrW:r<18446744073709551616:=by omega
   have HX:=aa hans
   have HL:=aa hbl
   have HQ:=aa (And.intro hq hm)
   rcases Nat.eq_zero_or_pos X.length with hx|hx
   ·obtain rfl:=List.eq_nil_of_length_eq_zero hx
    obtain rfl:=List.eq_nil_of_length_eq_zero hlen
    clear hans hbl hcell htk hval hq hm hfz
    go_wp2
    go_returns
    exact⟨_,[],by rw [←HQ.out.2];rfl,HX.out,HQ.out.1,HL.out⟩
   ·obtain⟨j,hj⟩:∃j,X.length=j+1:=⟨X.length - 1,by omega⟩
    have hji:(X.length:Int) - 1=(j:Int):=by omega
    have hck:=hcell j (by omega)
    have hlast:=val_take_next out j
    rw [show j+1=out.length by omega,List.take_length] at hlast
    have HF:=aa (HX.out.front5 j (by omega))
    have HT:=aa hlast
    have hjl:j<X.length:=by omega
    generalize out.getD j 0=o at *
    clear hans hbl hcell htk hval hq hm hlast hfz
    by_cases ho:o=0
    ·subst ho
     have hjc:j≤cap:=by omega
     go_wp2
     go_returns
     refine⟨_,out.take j,by rw [←HQ.out.2];rfl,HF.out,?_,HL.out⟩
     have:=HT.out;rw [Nat.mul_zero,Nat.add_zero] at this
     rw [←this];exact HQ.out.1
    ·have hoz:((o:Int) == 0)=false:=by rw [beq_eq_false_iff_ne];omega
     go_wp2
     go_returns
     refine⟨_,out,by rw [←HQ.out.2];rfl,?_,HQ.out.1,HL.out⟩
     have:=HX.out;rw [hlen] at this;exact this
  ·obtain⟨j,rfl⟩:∃j,k=j+1:=⟨k - 1,by omega⟩
   have hje:(((j+1:Nat):Int)) - 1=(j:Int):=by omega
   rw [hje]
   have hck:=hcell j (by omega)
   have hjl:j<X.length:=by omega
   have hst:=through_step X out d j r (by omega) hval hjl
   have hts:=oU X out j ((r*18446744073709551616+X.getD j 0) / d) htk
   rw [mn X out j htk] at hck
   have z1:=limb_lt M1 j
   have HV:=aa (And.intro hst hts)
   have HD:=jX r (X.getD j 0) d wr hd hr z1
   have hql:=quo_lt r (X.getD j 0) d hr z1
   have hrl:(r*18446744073709551616+X.getD j 0) % d<d:=Nat.mod_lt _ hd0
   generalize (r*18446744073709551616+X.getD j 0) / d=qq at *
   generalize (r*18446744073709551616+X.getD j 0) % d=rr at *
   generalize X.getD j 0=x at *
   have HX:=aa hans
   have HL:=aa hbl
   have hi1:(0:Int)≤(j:Int):=by omega
   have hi2:(j:Int)<(X.length:Int):=by omega
   clear hst hts hval hcell hans hbl htk hfz hje M1
   go_wp2_with fail
   refine HD.mono ?_
   rintro e w2 ⟨rfl,hs⟩
   have HX2:=aa (HX.out.below (hs.below _))
   have HL2:=aa (HL.out.trans (hs.below _))
   obtain⟨_,hfz,hcell⟩:=Ans.cellAt5 HX2.out
   have hfr:=hfz j
   have hco:=hcell j (by omega)
   generalize out.getD j 0=o at *
   clear HD hs hck hfz hcell
   go_wp2
   go_roundw
   case rel=>
    exact⟨j,rr,out.set j qq,by omega,by go_num,rfl,hrl,by simp;omega,HX2.out.stored j qq hql,HL2.out.setCell hbg _,HV.out.1,HV.out.2⟩
   case measure=>simp [intOf]

theorem oP (base d:Nat)(w:World) :
  Calls Tryz.prog 185 #[.slice none 0 0,.int .u64 d] w (gi base 0 d w):=by
 go_enter Tryz.func185,Tryz.ntmps185
 go_wp2
 refine wp_loop_rounds 1 ?_
 rw [rounds_succ]
 go_wp2
 go_returns
 exact⟨_,[],by rw [Nat.zero_mod];rfl,Ans.nil _ _,by simp [val],Below.refl _ _⟩

theorem rS (base d:Nat)(v:Value)(X:List Nat)(w:World)(hA:Ans w base v X)(hd:d<18446744073709551616)(hd0:0<d) :
  Calls Tryz.prog 185 #[v,.int .u64 d] w (gi base (val X) d w):=by
 rcases hA.form with ⟨rfl,rfl⟩|⟨g,cap,rfl,_⟩
 ·exact oP base d w
 ·exact o8 base g cap d X w hA hd hd0

def bv (z:Nat):Value:=.int .u8 (z:Int)

def Byt (w:World)(b:Nat)(xs:List Nat):Prop:=w.heap[b]?=some (.cells (xs.map bv).toArray 5 (0,0))

theorem Byt.lt {w:World}{b:Nat}{xs:List Nat}(h:Byt w b xs):b<w.heap.size:=lt_of_block h

theorem Byt.cell {w:World}{b:Nat}{xs:List Nat}(h:Byt w b xs)(k:Nat)(hk:k<xs.length):w.cell? ⟨b,k,none⟩=some (.int .u8 ((xs.getD k 0:Nat):Int)):=by
 simp [World.cell?,show w.heap[b]?=_ from h,hk,bv,List.getD]

theorem Byt.free {w:World}{b:Nat}{xs:List Nat}(h:Byt w b xs)(k:Nat):w.frozen? ⟨b,k,none⟩=false:=by
 simp [World.frozen?,show w.heap[b]?=_ from h]

theorem Byt.set {w:World}{b:Nat}{xs:List Nat}(h:Byt w b xs)(k z:Nat):Byt (w.setCell ⟨b,k,none⟩ (.int .u8 (z:Int))) b (xs.set k z):=by
 have hlt:=h.lt
 have h':w.heap[b]=.cells (xs.map bv).toArray 5 (0,0):=by simpa [Array.getElem?_eq_getElem hlt] using (show w.heap[b]?=_ from h)
 show (w.heap.modify b _)[b]?=_
 rw [Array.getElem?_eq_getElem (by simpa using hlt),Array.getElem_modify_self,h']
 simp [List.map_set,bv]

theorem Byt.below {w w':World}{b B:Nat}{xs:List Nat}(h:Byt w b xs)(hb:Below B w w')(hB:b<B):Byt w' b xs:=by
 unfold Byt;rw [hb.block b hB];exact h

theorem Ans.apart5 {w:World}{base:Nat}{v:Value}{zs:List Nat}(h:Ans w base v zs)(g o:Nat)(u:Value)(hg:g<base):Ans (w.setCell ⟨g,o,none⟩ u) base v zs:=by
 refine⟨?_,h.limbs⟩
 obtain⟨h1,h2⟩:=h.own
 refine⟨h1,?_⟩
 rcases h2 with h2|⟨g',cap,cur,hv,hg',hh,r⟩
 ·exact .inl h2
 ·exact .inr ⟨g',cap,cur,hv,hg',by rw [Below.heap_setCell _ _ _ _ (show g'≠(⟨g,o,none⟩:Addr).block by show g'≠g;omega)];exact hh,r⟩

theorem Fr.low {gd:Nat}{w wr w2:World}(h:Fr gd w wr)(k:Below w.heap.size wr w2):Fr gd w w2:=
 ⟨k.os.trans h.os,k.tape.trans h.tape,k.output.trans h.output,Nat.le_trans h.size k.size,fun j h1 h2=>(k.block j h1).trans (h.block j h1 h2)⟩

structure bH (b x o n t:Nat)(D D':List Nat):Prop where
 len:D'.length=D.length
 digs:∀i,t≤i→i<n→D'.getD (o+i) 0=x / b ^ (n - 1 - i) % b
 same:∀k,k<o+t∨o+n≤k→D'.getD k 0=D.getD k 0

theorem bH.start (b x o n:Nat)(D:List Nat):bH b x o n n D D:=⟨rfl,fun i h1 h2=>by omega,fun _ _=>rfl⟩

theorem bH.set {b x o n t:Nat}{D D':List Nat}(h:bH b x o n (t+1) D D')(ht:t<n)(ho:o+n≤D.length):bH b x o n t D (D'.set (o+t) (x / b ^ (n - 1 - t) % b)):=by
 have hl:=h.len
 refine⟨by simp [h.len],fun i h1 h2=>?_,fun k hk=>?_⟩
 ·rw [List.getD,List.getElem?_set]
  by_cases e:i=t
  ·subst e;rw [if_pos rfl,if_pos (by omega)];rfl
  ·rw [if_neg (by omega)];exact h.digs i (by omega) h2
 ·rw [List.getD,List.getElem?_set,if_neg (by omega)]
  exact h.same k (by omega)

theorem iT (x b m d s:Nat)(hs:s<d):x / b ^ (m*d) % b ^ d / b ^ s % b=x / b ^ (m*d+s) % b:=by
 have e:b ^ d=b ^ s*b ^ (d - s):=by rw [←Nat.pow_add];congr 1;omega
 rw [e,Nat.mod_mul_right_div_self,Nat.div_div_eq_div_mul,←Nat.pow_add]
 have hd:b ∣ b ^ (d - s):=by
  obtain⟨k,hk⟩:∃k,d - s=k+1:=⟨d - s - 1,by omega⟩
  rw [hk,Nat.pow_succ];exact Nat.dvd_mul_left _ _
 rw [Nat.mod_mod_of_dvd _ hd]

def jn (b x o n gd:Nat)(D:List Nat)(w:World)(e:Ending)(w':World):Prop:=
 e=.returned (.tuple #[])∧∃D',Byt w' gd D'∧bH b x o n 0 D D'∧Fr gd w w'

theorem nN (gd o n cap b:Nat)(D:List Nat)(va:Value)(X:List Nat)(w:World)(hD:Byt w gd D)(ho:o+n≤D.length)(hn:n≤cap)(hcap:cap≤9223372036854775807)(hA:Arg w va X)(hl:X.length≤17592186044416)(hb:2≤b)(hb2:b≤36) :
  Calls Tryz.prog 149 #[.slice (some ⟨gd,o,none⟩) n cap,va,.int .i64 b] w (jn b (val X) o n gd D w):=by
 have HU:=ri b w hb hb2
 have HN:=cT va X w hA hl
 have hbz:((b:Int) == 0)=false:=by rw [beq_eq_false_iff_ne];omega
 have hgd:=hD.lt
 have HD:=aa hD
 have hX:=val_tr X
 generalize val X=x at *
 clear hA hD
 go_enter Tryz.func149,Tryz.ntmps149
 go_wp2_with fail
 refine HU.mono ?_
 rintro e wn ⟨d,p,rfl,hu,hw⟩;rw [hw];clear hw wn HU
 have hpf:=hu.fits
 have hp0:0<p:=by rw [hu.pow];exact Nat.pow_pos (by omega)
 have hd1:=hu.some
 have hd2:=hu.few
 have HP:=aa hu.pow
 clear hu
 go_wp2_with fail
 refine HN.mono ?_
 rintro e w1 ⟨⟨v1,rfl,A1⟩,hb1⟩
 have HA1:=aa A1
 have HB1:=aa hb1
 clear HN A1 hb1
 go_wp2
 go_loopw [1,8] (fun a t wr=>∃(m:Nat) (v:Value) (Y D':List Nat),v=a∧t=.int .i64 ((n:Int) - ((m*d:Nat):Int))∧(n:Int) - ((m*d:Nat):Int) > -64∧Ans wr w.heap.size v Y∧val Y=x / b ^ (m*d)∧Byt wr gd D'∧bH b x o n (n - m*d) D D'∧Fr gd w wr) (fun _ t _=>(intOf t).toNat)
 case atStart=>
  exact⟨0,v1,tr X,D,rfl,by simp,by omega,HA1.out,by simpa using hX,HD.out.below HB1.out hgd,by simpa using bH.start b x o n D,Fr.of_below HB1.out⟩
 case round=>
  obtain⟨m,v,Y,D',rfl,rfl,htb,hAns,hY,hByt,hW,hFr⟩:=hrel
  clear HA1 HB1
  by_cases hto:m*d<n
  ·obtain⟨T,hT1,hT2,hT3⟩:∃T:Nat,(n:Int) - ((m*d:Nat):Int)=(T:Int)∧n - m*d=T∧T≤n:=⟨n - m*d,by omega,rfl,by omega⟩
   rw [hT1]
   rw [hT2] at hW
   have hT0:(0:Int)<(T:Int):=by omega
   have HS:=rS w.heap.size p v Y wr hAns hpf hp0
   rw [hY] at HS
   have HBy:=aa hByt
   have HWr:=aa hW
   have HFr:=aa hFr
   have HT:=aa (And.intro hT1 hT2)
   clear hAns hY hByt hW hFr hT1 hT2 htb hto
   go_wp2_with fail
   refine HS.mono ?_
   rintro e w2 ⟨v2,Y2,rfl,hA2,hY2,hb2'⟩
   have HA2:=aa hA2
   have HY2:=aa hY2
   have HBy2:=aa (HBy.out.below hb2' hgd)
   have HFr2:=aa (HFr.out.low hb2')
   have hrp:x / b ^ (m*d) % p<p:=Nat.mod_lt _ hp0
   obtain⟨r,hr⟩:∃r,x / b ^ (m*d) % p=r:=⟨_,rfl⟩
   rw [hr] at hrp
   rw [hr]
   have HR:=aa hr
   obtain⟨M,hM,hM2⟩:∃M:Nat,max ((T:Int) - (d:Int)) 0=(M:Int)∧M=T - d:=⟨T - d,by omega,rfl⟩
   clear HS hA2 hY2 hb2' hr HBy HFr
   go_wp2
   go_loopw [9,10] (fun lo i wr2=>∃(s L:Nat) (D2:List Nat),lo=.int .u64 L∧i=.int .i64 ((T:Int) - 1 - (s:Int))∧s≤d∧s≤T∧L=r / b ^ s∧Byt wr2 gd D2∧bH b x o n (T - s) D D2∧Fr gd w wr2∧Ans wr2 w.heap.size v2 Y2) (fun _ i _=>(intOf i+1).toNat)
   case atStart=>exact⟨0,r,D',rfl,by simp,by omega,by omega,by simp,HBy2.out,HWr.out,HFr2.out,HA2.out⟩
   case round=>
    obtain⟨s,L,D2,rfl,rfl,hs1,hs2,hL,hByt,hW,hFr,hAns⟩:=hrel
    clear HBy2 HFr2 HA2
    by_cases hc:s<d∧s<T
    ·obtain⟨j,hj1,hj2⟩:∃j:Nat,(T:Int) - 1 - (s:Int)=(j:Int)∧T - s=j+1:=⟨T - s - 1,by omega,by omega⟩
     rw [hj1]
     rw [hj2] at hW
     have hi:(M:Int)≤(j:Int):=by omega
     have hLr:L≤r:=by rw [hL];exact Nat.div_le_self _ _
     have hjn:j<n:=by have:=HT.out;omega
     have hdig:L % b=x / b ^ (n - 1 - j) % b:=by
      rw [hL,←HR.out,HP.out,iT x b m d s hc.1]
      congr 3
      have:=HT.out;omega
     have hq:L / b=r / b ^ (s+1):=by rw [hL,Nat.div_div_eq_div_mul,Nat.pow_succ]
     have hset:=hW.set hjn ho
     rw [←hdig] at hset
     have hg36:L % b<b:=Nat.mod_lt _ (by omega)
     have hqL:L / b≤L:=Nat.div_le_self _ _
     have em:(L:Int).tmod (b:Int)=((L % b:Nat):Int):=rfl
     have ed:(L:Int).tdiv (b:Int)=((L / b:Nat):Int):=rfl
     have HQ:=aa hq
     have HW2:=aa hset
     generalize L % b=g at *
     generalize L / b=q at *
     have eg:(g:Int) % 256=(g:Int):=by omega
     have hlen:=hW.len
     have hco:=hByt.cell (o+j) (by omega)
     have hfr:=hByt.free (o+j)
     generalize D2.getD (o+j) 0=old at *
     have HBy:=aa hByt
     have HFr:=aa hFr
     have HAn:=aa hAns
     have hj0:(0:Int)≤(j:Int):=by omega
     have hjn':(j:Int)<(n:Int):=by omega
     have hj3:T - (s+1)=j:=by omega
     have hj4:(j:Int) - 1=(T:Int) - 1 - ((s+1:Nat):Int):=by omega
     have HJ:=aa (And.intro hj3 hj4)
     clear hL hByt hW hFr hAns hset hdig hq hj1 hj2 hj3 hj4
     go_wp2
     go_roundw
     case rel=>
      refine⟨s+1,q,D2.set (o+j) g,by go_num,by rw [HJ.out.2],by omega,by omega,HQ.out,HBy.out.set _ _,?_,HFr.out.setCell _ _,HAn.out.apart5 _ _ _ hgd⟩
      rw [HJ.out.1];exact HW2.out
     case measure=>simp [intOf]
    ·have hi:¬((M:Int)≤(T:Int) - 1 - (s:Int)):=by omega
     have hts:T - s=T - d:=by omega
     rw [hts] at hW
     have HW3:=aa hW
     have HBy:=aa hByt
     have HFr:=aa hFr
     have HAn:=aa hAns
     have he:(m+1)*d=m*d+d:=Nat.succ_mul m d
     have ht1:(n:Int) - (((m+1)*d:Nat):Int)=(T:Int) - (d:Int):=by have:=HT.out.1;omega
     have ht2:n - (m+1)*d=T - d:=by have:=HT.out.2;omega
     have hval:val Y2=x / b ^ ((m+1)*d):=by rw [HY2.out,HP.out,Nat.div_div_eq_div_mul,←Nat.pow_add,he]
     have HE:=aa (And.intro ht1 (And.intro ht2 hval))
     have hgt:(T:Int) - (d:Int) > -64:=by omega
     clear hL hByt hW hFr hAns hval ht1 ht2 he hts
     go_wp2
     go_roundw
     case rel=>
      refine⟨m+1,v2,Y2,D2,rfl,by rw [HE.out.1],by rw [HE.out.1];exact hgt,HAn.out,HE.out.2.2,HBy.out,?_,HFr.out⟩
      rw [HE.out.2.1];exact HW3.out
     case measure=>simp [intOf];omega
  ·have hc:¬((n:Int) - ((m*d:Nat):Int) > 0):=by omega
   have hz:n - m*d=0:=by omega
   rw [hz] at hW
   have HE:=aa (And.intro hByt (And.intro hW hFr))
   generalize (n:Int) - ((m*d:Nat):Int)=t at *
   have hc2:¬((0:Int)<t):=by omega
   clear hAns hByt hW hFr hto hY
   go_wp2
   go_end0
   exact⟨rfl,D',HE.out⟩



theorem qL {Z:List Nat}(h:tr Z=Z):Z=[]∨18446744073709551616 ^ (Z.length - 1)≤val Z:=by
 rcases Nat.eq_zero_or_pos Z.length with h0|h0
 ·exact .inl (List.eq_nil_of_length_eq_zero h0)
 ·have:=tr_val_ge Z (Z.length - 1) (by rw [h];omega)
  rw [h] at this
  exact .inr this

theorem nI {M:List Nat}{s u V:Nat}(hM:s+u≤M.length)(h:sv M 0 (s+u)=V)(hV:V<18446744073709551616 ^ s):sv M s u=0∧sv M 0 s=V:=by
 rw [au M 0 s u (by omega),Nat.zero_add] at h
 have h0:sv M s u=0:=by
  rcases Nat.eq_zero_or_pos (sv M s u) with h1|h1
  ·exact h1
  ·have:=Nat.mul_le_mul_left (18446744073709551616 ^ s) h1
   omega
 rw [h0,Nat.mul_zero,Nat.add_zero] at h
 exact⟨h0,h⟩

theorem kG {M M' U:List Nat}{s o V:Nat}(hl:M'.length=s+U.length)(h0:sv M 0 s=V)(hO:Out M M' o (o+U.length))(hv:sv M' o U.length=val U)(ho:o=s∨(U.length=0∧o=0)):val M'=V+18446744073709551616 ^ s*val U:=by
 rw [←bC M',hl,au M' 0 s U.length (by omega),Nat.zero_add]
 rcases ho with rfl|⟨hu,rfl⟩
 ·rw [hv,hO.sv 0 o (by omega),h0]
 ·have hU:U=[]:=List.eq_nil_of_length_eq_zero hu
  rw [hU] at hO ⊢
  rw [hO.sv 0 s (by simp),h0]
  simp [sv,seg,val]

def gz (x y n:Nat)(w:World)(e:Ending)(w':World):Prop:=
 (∃vr Q R,e=.returned (.tuple #[.slice (some ⟨w.heap.size,0,none⟩) n n,vr])∧Arg w' (.slice (some ⟨w.heap.size,0,none⟩) n n) Q∧Arg w' vr R∧val Q=x / y∧val R=x % y∧Q.length=n∧tr R=R)∧Below w.heap.size w w'

theorem gM {X:List Nat}(h:Limbs X)(hl:X.length≤1048576):blen (val X)≤67108864:=by
 have h1:blen (val X)≤64*X.length:=(blen_le_iff _ _).2 (by rw [Nat.pow_mul];exact val_lt h)
 omega

theorem jT (ao:Option Addr)(cap:Nat)(vb:Value)(y:Nat)(w:World) :
  Calls Tryz.prog 186 #[.slice ao 0 cap,vb] w (gz 0 y 0 w):=by
 obtain⟨i0,hi,hz0,hz1,hz2⟩:=info_parts Tryz.infoU
 go_enter Tryz.func186,Tryz.ntmps186
 go_wp2_with (at_make;refine wpList_make_full _ rfl _ _ 25 rfl w.heap.size 61 i0 (.int .u64 0) 1 Tryz.underlying25 hi hz0 hz1 .i64 .i64 _ _ 0 rfl rfl (by omega) (by omega) (by rw [hz2];omega) (by unfold maxLen;omega) (Nat.le_refl _) ?_;intro w1 hown hgrow)
 have hb1:=Blk.made hown
 have hbel:Below w.heap.size w w1:=(Below.refl _ _).grown hgrow (Nat.le_refl _) (fun k hk=>by cases hk)
 have HQ:Hid (Arg w1 (.slice (some ⟨w.heap.size,0,none⟩) 0 0) []):=by
  have h:=Ans.of_blk (base:=w.heap.size) (zs:=[]) (Nat.le_refl _) hb1 rfl (Nat.zero_le _) (by simp) (by intro z hz;cases hz)
  exact h.arg (by simp)
 have HN:Hid (Arg w1 (.slice none 0 0) []):=(Ans.nil w1 w.heap.size).arg (by simp)
 have HB:=aa hbel
 clear hown hgrow hb1 hbel hi hz0 hz1 hz2
 refine wp_loop_rounds 1 ?_
 rw [rounds_succ]
 go_wp2
 go_ret2
 exact⟨⟨_,[],[],rfl,HQ.out,HN.out,by simp [val],by simp [val],rfl,rfl⟩,HB.out⟩

theorem pp (b off cap:Nat)(vb:Value)(X Y:List Nat)(w:World)(hA:Arg w (.slice (some ⟨b,off,none⟩) X.length cap) X)(hB:Arg w vb Y)(hT:Tab w)(hX:0<X.length)(hl:X.length≤1048576)(hY0:val Y≠0)(hYl:Y.length≤17592186044416)(hYb:blen (val Y)≤67108864) :
  Calls Tryz.prog 186 #[.slice (some ⟨b,off,none⟩) X.length cap,vb] w (gz (val X) (val Y) X.length w):=by
 obtain⟨i0,hi,hz0,hz1,hz2⟩:=info_parts Tryz.infoU
 have hcl:X.length≤cap:=by obtain⟨_,_,e,hle,_,_⟩:=hA.form;cases e;exact hle
 have hc0:¬cap=0:=by omega
 have hmx:max ((X.length:Int) - 1048576) 0=0:=by omega
 have i1:(0:Int)<(X.length:Int):=by omega
 have hq1:blen (val X / val Y)≤67108864:=Nat.le_trans (ib (Nat.div_le_self _ _)) (gM hA.limbs hl)
 have hq2:blen (val X % val Y)≤67108864:=Nat.le_trans (ib (Nat.le_of_lt (Nat.mod_lt _ (by omega)))) hYb
 have hq3:val X / val Y<18446744073709551616 ^ X.length:=Nat.lt_of_le_of_lt (Nat.div_le_self _ _) (val_lt hA.limbs)
 have HA:=aa hA
 have HBB:=aa hB
 have HT:=aa hT
 have HQ:=aa (And.intro hq1 (And.intro hq2 hq3))
 have HY0:=aa hY0
 have HYL:=aa hYl
 clear hA hB hT hq1 hq2 hq3 hY0 hYb hYl
 go_enter Tryz.func186,Tryz.ntmps186
 go_wp2_with (at_make;refine wpList_make_full _ rfl _ _ 25 rfl w.heap.size 61 i0 (.int .u64 0) 1 Tryz.underlying25 hi hz0 hz1 .i64 .i64 _ _ X.length rfl rfl (by omega) (by omega) (by rw [hz2];omega) (by unfold maxLen;omega) (Nat.le_refl _) ?_;intro w1 hown hgrow)
 have hb1:=Blk.made hown
 have hbel:Below w.heap.size w w1:=(Below.refl _ _).grown hgrow (Nat.le_refl _) (fun k hk=>by cases hk)
 have hlt1:w.heap.size<w1.heap.size:=hb1.lt
 have HB1:=aa hb1
 have HL1:=aa hbel
 clear hown hgrow hb1 hbel hi hz0 hz1 hz2
 refine wp_loop_rounds 2 ?_
 rw [rounds_succ]
 obtain⟨w3,hw3⟩:∃W,w1.alloc (.cells #[.slice (some ⟨b,off,none⟩) X.length cap,.slice none 0 0] 25)=W:=⟨_,rfl⟩
 have hb3:Below w1.heap.size w1 w3:=by rw [←hw3];exact aL _ _
 have hx3:w3.heap[w1.heap.size]?=some (.cells #[.slice (some ⟨b,off,none⟩) X.length cap,.slice none 0 0] 25):=by rw [←hw3];exact heap_alloc_new ..
 have C1:=qt w1.heap.size ⟨b,off,none⟩ cap X w3 hx3 ((HA.out.below HL1.out).below hb3) hX (by omega)
 have HL3:=aa (HL1.out.trans (hb3.mono HL1.out.size))
 have HB3:=aa (HB1.out.below' hb3)
 clear hb3 hx3 HB1 HL1
 go_wp2_with fail
 refine C1.mono ?_
 rintro e w4 ⟨⟨v4,rfl,A4⟩,hb4⟩
 have HL4:=aa (HL3.out.trans (hb4.mono HL3.out.size))
 have HB4:=aa (HB3.out.below' hb4)
 have C2:=il v4 vb X Y w4 (A4.arg (by omega)) (HBB.out.below HL4.out) (HT.out.below HL4.out) (by omega) HYL.out HY0.out
 clear C1 HL3 HB3 A4 hb4 hw3
 go_wp2_with fail
 refine C2.mono ?_
 rintro e w5 ⟨⟨v1,v2,c,r1,r2,mid,rfl,D1,hmid,hlt,D2,hcase⟩,hb5⟩
 rcases hcase with ⟨rfl,hv1,hn1,hv2,hn2,_,_⟩|⟨rfl,_,_,hbad⟩
 ·have hr1:r1.length≤X.length:=by
   have h:=aH r1 X.length (by rw [hv1];exact HQ.out.2.2)
   rw [hn1] at h
   exact h
  obtain⟨a5,c5,rfl,_,_,hL5⟩:=(D1.arg (by omega)).form
  have hb5':=HB4.out.below' hb5
  obtain⟨w6,M6,hcp,B6,L6,F6,O6,S6⟩:=bD w.heap.size 0 X.length X.length (List.replicate X.length 0) a5 c5 r1 w5 hb5' (limbs_replicate _) D1.limbs (bn _ _ _) (by simp) hr1 hL5
  have hl6:M6.length=X.length:=by rw [O6.len,List.length_replicate]
  have hv6:val M6=val X / val Y:=by rw [←hv1,←S6,bj hl6]
  have hbel5:Below w.heap.size w w5:=HL4.out.trans (hb5.mono HL4.out.size)
  have hbel6:Below w.heap.size w w6:=hbel5.trans (F6.below (Nat.le_refl _) hbel5.size)
  have hr2:r2.length≤1048576:=dU hn2 (by rw [hv2];exact HQ.out.2.1)
  have hA6:Arg w6 (.slice (some ⟨w.heap.size,0,none⟩) X.length X.length) M6:=by
   have h:=Ans.of_blk (base:=w.heap.size) (zs:=M6) (Nat.le_refl _) B6 List.take_length.symm (Nat.le_refl _) (by omega) L6
   rw [hl6] at h
   exact h.arg (by omega)
  have hD6:Arg w6 v2 r2:=by
   have h1:Ans w6 mid v2 r2:=by
    refine⟨?_,D2.limbs⟩
    obtain⟨q1,q2⟩:=D2.own
    refine⟨q1,?_⟩
    rcases q2 with q2|⟨g',cap',cur,hv,hg',hh,r⟩
    ·exact .inl q2
    ·have:w4.heap.size≤mid:=hmid.1
     have hs4:=HL4.out.size
     have hs5:w.heap.size<w4.heap.size:=HB4.out.lt
     exact .inr ⟨g',cap',cur,hv,hg',by rw [F6.block g' (lt_of_block hh) (by omega)];exact hh,r⟩
   exact h1.arg (by omega)
  have HF:=aa (And.intro hA6 (And.intro hD6 (And.intro hv6 (And.intro hv2 (And.intro hl6 (And.intro hn2 hbel6))))))
  clear C2 D1 D2 hmid hlt hb5 hb5' hv1 hn1 hv2 hn2 B6 L6 F6 O6 S6 hl6 hv6 hbel5 hbel6 hA6 hD6 hL5 HL4 HB4
  go_wp2
  rw [rounds_succ]
  go_wp2
  go_ret2
  exact⟨⟨_,M6,r2,rfl,HF.out.1,HF.out.2.1,HF.out.2.2.1,HF.out.2.2.2.1,HF.out.2.2.2.2.1,HF.out.2.2.2.2.2.1⟩,HF.out.2.2.2.2.2.2⟩
 ·exact absurd hbad (by have:=HQ.out;omega)

theorem jU (va vb:Value)(X Y:List Nat)(w:World)(hA:Arg w va X)(hB:Arg w vb Y)(hT:Tab w)(hl:X.length≤1048576)(hY0:val Y≠0)(hYl:Y.length≤17592186044416)(hYb:blen (val Y)≤67108864) :
  Calls Tryz.prog 186 #[va,vb] w (gz (val X) (val Y) X.length w):=by
 obtain⟨ao,cap,rfl,hcap,hmax,hL⟩:=hA.form
 rcases hL with rfl|⟨b,off,rfl,_⟩
 ·exact jT ao cap vb (val Y) w
 ·by_cases h0:X.length=0
  ·obtain rfl:=List.length_eq_zero_iff.1 h0
   exact jT _ cap vb (val Y) w
  ·exact pp b off cap vb X Y w hA hB hT (by omega) hl hY0 hYl hYb

def l8 (x P n k:Nat)(w:World)(e:Ending)(w':World):Prop:=
 (∃g1 n1 c1 g2 n2 c2 H Lw,(w.heap.size≤g1∧w.heap.size≤g2)∧e=.returned (.tuple #[.slice (some ⟨g1,0,none⟩) n1 c1,.slice (some ⟨g2,0,none⟩) n2 c2])∧Arg w' (.slice (some ⟨g1,0,none⟩) n1 c1) H∧Arg w' (.slice (some ⟨g2,0,none⟩) n2 c2) Lw∧val H=x / P∧val Lw=x % P∧H.length≤n∧Lw.length≤k)∧Below w.heap.size w w'

theorem bt5 {a b c:World}(h:Below a.heap.size a b)(k:Below b.heap.size b c):Below a.heap.size a c:=h.trans (k.mono h.size)

theorem qz (x B o:Nat):x % (B*o)=x % B+B*(x / B % o):=Nat.mod_mul

theorem pM (x B o:Nat):x / (B*o)=x / B / o:=(Nat.div_div_eq_div_mul x B o).symm

theorem lh {s o y k:Nat}{R:List Nat}(hR:tr R=R)(hv:val R=y % o)(h0:0<o)(hP:18446744073709551616 ^ s*o<18446744073709551616 ^ k):s+R.length≤k:=by
 rcases qL hR with rfl|h
 ·have h1:18446744073709551616 ^ s≤18446744073709551616 ^ s*o:=Nat.le_mul_of_pos_right _ h0
  have h2:=Nat.lt_of_le_of_lt h1 hP
  have:=(Nat.pow_lt_pow_iff_right (by omega)).1 h2
  simp;omega
 ·rcases Nat.eq_zero_or_pos R.length with hz|hz
  ·have h1:18446744073709551616 ^ s≤18446744073709551616 ^ s*o:=Nat.le_mul_of_pos_right _ h0
   have h2:=Nat.lt_of_le_of_lt h1 hP
   have:=(Nat.pow_lt_pow_iff_right (by omega)).1 h2
   omega
  ·have h1:val R<o:=by rw [hv];exact Nat.mod_lt _ h0
   have h2:18446744073709551616 ^ s*18446744073709551616 ^ (R.length - 1)<18446744073709551616 ^ k:=Nat.lt_of_le_of_lt (Nat.mul_le_mul_left _ (Nat.le_of_lt (Nat.lt_of_le_of_lt h h1))) hP
   rw [←Nat.pow_add] at h2
   have:=(Nat.pow_lt_pow_iff_right (by omega)).1 h2
   omega

theorem nX (d s:Nat)(ao:Option Addr)(co:Nat)(b off cap:Nat)(O X:List Nat)(w:World)(hO:Arg w (.slice ao O.length co) O)(hA:Arg w (.slice (some ⟨b,off,none⟩) X.length cap) X)(hT:Tab w)(hl:X.length≤1048576)(hO0:val O≠0)(hOl:O.length≤17592186044416)(hOb:blen (val O)≤67108864)(hs:s≤1048576)(hP:18446744073709551616 ^ s*val O<18446744073709551616 ^ 1048576) :
  Calls Tryz.prog 150 #[.agg #[.int .i64 d,.slice ao O.length co,.int .i64 s],.slice (some ⟨b,off,none⟩) X.length cap] w (l8 (val X) (18446744073709551616 ^ s*val O) X.length 1048576 w):=by
 obtain⟨i0,hi,hz0,hz1,hz2⟩:=info_parts Tryz.infoU
 obtain⟨w0,hw0⟩:∃w0,w.alloc (.cells #[.int .i64 d,.slice ao O.length co,.int .i64 s] 164)=w0:=⟨_,rfl⟩
 have hb0:Below w.heap.size w w0:=by rw [←hw0];exact aL _ _
 have h0:w0.heap[w.heap.size]?=some (.cells #[.int .i64 d,.slice ao O.length co,.int .i64 s] 164):=by rw [←hw0];exact heap_alloc_new ..
 obtain⟨k0,k1,k2⟩:=tri h0
 obtain⟨nn,hnn,hn2⟩:∃nn:Nat,min (s:Int) (X.length:Int)=(nn:Int)∧nn=min s X.length:=⟨min s X.length,by omega,rfl⟩
 obtain⟨lp1,lp2,lp3⟩:=mW hA.limbs s nn hn2
 have hcl:X.length≤cap:=by obtain⟨_,_,e,hle,_,_⟩:=hA.form;cases e;exact hle
 have hcm:cap≤9223372036854775807:=by obtain⟨_,_,e,_,hm,_⟩:=hA.form;cases e;exact hm
 have hnl:nn≤X.length:=by omega
 have hncl:nn≤cap:=by omega
 obtain⟨o2,hif,ho2⟩:∃o2,(if cap=nn then some (⟨b,off,none⟩:Addr) else some ⟨b,off+nn,none⟩)=some ⟨b,o2,none⟩∧(o2=off+nn∨X.length=nn):=by
  by_cases h:cap=nn
  ·exact⟨off,by rw [if_pos h],.inr (by omega)⟩
  ·exact⟨off+nn,by rw [if_neg h],.inl rfl⟩
 have hAL:=gv (hA.below hb0) ho2 (by omega) (show X.length - nn≤cap - nn by omega) (by omega)
 have hdl:(X.drop nn).length=X.length - nn:=List.length_drop
 have C:=jU _ _ (X.drop nn) O w0.drew (hAL.below (Below.refl _ _).drew) ((hO.below hb0).below (Below.refl _ _).drew) ((hT.below hb0).below (Below.refl _ _).drew) (by rw [hdl];omega) hO0 hOl hOb
 rw [hdl] at C
 have KS:=aa (fun (W:World) (hg:Below w0.heap.size w0 W)=>show W.cell? ⟨w.heap.size,1,none⟩=some (.slice ao O.length co) from (tri ((hg.block w.heap.size (lt_of_block h0)).trans h0)).2.1)
 have g0:Below w0.heap.size w0 w0.drew:=(Below.refl _ _).drew
 have HB0:=aa hb0
 have H0:=aa h0
 have HXa:=aa hA
 have HLP:=aa (And.intro lp1 (And.intro lp2 lp3))
 have HPP:=aa hP
 have HO0:=aa hO0
 have hns:nn≤s:=by omega
 clear hb0 h0 hA hT hO hn2 lp1 lp2 lp3 hAL hP hO0 hOl hOb ho2
 go_enter Tryz.func150,Tryz.ntmps150
 go_upto_region 2 with fail
 go_region_held3 (fun w'=>w'.cell? ⟨w.heap.size,1,none⟩=some (.slice ao O.length co)) (first|with_reducible exact KS.out _ g1|with_reducible exact KS.out _ g0) (first
  | (go_at_call 186;refine C.mono ?_;rintro e' w1 ⟨⟨vr,Q,R,rfl,AQ,AR,hvQ,hvR,hlQ,hnR⟩,hb1⟩;have g1:=bt5 g0 hb1;obtain⟨a5,c5,rfl,_,_,hLr⟩:=AR.form))
 have hB1:=bt5 HB0.out g1
 have hlen:=lh hnR hvR (Nat.pos_of_ne_zero HO0.out) HPP.out
 obtain⟨N,hN,hNi⟩:∃N,N=s+R.length∧(s:Int)+(R.length:Int)=(N:Int):=⟨_,rfl,by omega⟩
 have hNs:N - s=R.length:=by omega
 obtain⟨o5,hif5,ho5⟩:∃o5,(∀g:Nat,(if N=s then some (⟨g,0,none⟩:Addr) else some ⟨g,s,none⟩)=some ⟨g,o5,none⟩)∧((o5=s∨(R.length=0∧o5=0))∧o5+R.length≤N):=by
  by_cases h:N=s
  ·exact⟨0,fun g=>by rw [if_pos h],.inr ⟨by omega,rfl⟩,by omega⟩
  ·exact⟨s,fun g=>by rw [if_neg h],.inl rfl,by omega⟩
 have lTk:(X.take nn).length=nn:=by rw [List.length_take];omega
 have h1:=(g1.block w.heap.size (lt_of_block H0.out)).trans H0.out
 obtain⟨k0,k1,k2⟩:=tri h1
 have hwl:w.heap.size<w1.heap.size:=lt_of_block h1
 have H1:=aa h1
 have HB1:=aa hB1
 have HAR:=aa AR
 have HAQ:=aa AQ
 have HV:=aa (And.intro hvQ (And.intro hvR (And.intro hlQ hnR)))
 have HNN:=aa hN
 have HO5:=aa ho5
 have hsN:s≤N:=by omega
 have hnN:nn≤N:=by omega
 have hN9:N≤1048576:=by omega
 clear hb1 g1 g0 hB1 AQ AR hvQ hvR hlQ hnR hLr h1 hN ho5 hif C KS H0 HB0
 go_wp2_with (at_make;refine wpList_make_full _ rfl _ _ 25 rfl w1.heap.size 61 i0 (.int .u64 0) 1 Tryz.underlying25 hi hz0 hz1 .i64 .i64 _ _ N rfl rfl (by omega) (by omega) (by rw [hz2];omega) (by unfold maxLen;omega) (Nat.le_refl _) ?_;intro w3 hown hgrow;have hbel3:Below w1.heap.size w1 w3:=(Below.refl w1.heap.size w1).grown hgrow (Nat.le_refl _) (fun k hk=>by cases hk);obtain⟨w4,M4,hcp,B4,L4,F4,O4,S4⟩:=bD w1.heap.size 0 N N (List.replicate N 0) (some ⟨b,off,none⟩) cap (X.take nn) w3 (Blk.made hown) (limbs_replicate _) (HXa.out.front nn hnl).limbs (bn N 0 N) (by simp) (by rw [lTk];omega) (an.arg ((HXa.out.front nn hnl).below (HB1.out.trans (hbel3.mono HB1.out.size))));rw [lTk] at hcp;have hbel4:Below w1.heap.size w1 w4:=hbel3.trans (F4.below (Nat.le_refl _) hbel3.size);obtain⟨j0,j1,j2⟩:=tri ((hbel4.block w.heap.size hwl).trans H1.out);have hM4l:M4.length=N:=by rw [O4.len,List.length_replicate])
 obtain⟨z0,z1⟩:=nI (M:=M4) (s:=s) (u:=R.length) (by have:=HNN.out;omega) (by rw [←HNN.out];exact S4) HLP.out.2.2
 have hz5:sv M4 o5 R.length=0:=by
  rcases HO5.out.1 with h|⟨h,_⟩
  ·rw [h];exact z0
  ·rw [h];exact aM _ _
 have hLu:an w4 a5 R:=by
  obtain⟨_,_,e,_,_,hl⟩:=(HAR.out.below hbel4).form
  cases e
  exact hl
 obtain⟨w5,M5,hcp2,B5,L5,F5,O5,S5⟩:=bD w1.heap.size o5 R.length R.length M4 a5 c5 R w4 B4 L4 HAR.out.limbs hz5 (by rw [hM4l];exact HO5.out.2) (Nat.le_refl _) hLu
 have hbel5:Below w1.heap.size w1 w5:=hbel4.trans (F5.below (Nat.le_refl _) hbel4.size)
 have hM5l:M5.length=s+R.length:=by rw [O5.len,hM4l];exact HNN.out
 have hval:=kG hM5l z1 O5 S5 HO5.out.1
 have hArg:Arg w5 (.slice (some ⟨w1.heap.size,0,none⟩) N N) M5:=by
  have h:=Ans.of_blk (base:=w.heap.size) (zs:=M5) (by omega) B5 List.take_length.symm (Nat.le_refl _) (by omega) L5
  rw [hM5l,←HNN.out] at h
  exact h.arg (by rw [hM5l,←HNN.out];omega)
 have hlow:val M5=val X % (18446744073709551616 ^ s*val O):=by
  rw [hval,qz,HV.out.2.1,HLP.out.2.1]
  have e1:=HLP.out.1
  have e2:val X % 18446744073709551616 ^ s=val (X.take nn):=by
   rw [e1,Nat.add_mul_mod_self_left,Nat.mod_eq_of_lt HLP.out.2.2]
  rw [e2]
 have hhigh:val Q=val X / (18446744073709551616 ^ s*val O):=by
  rw [pM,HLP.out.2.1]
  exact HV.out.1
 have HF:=aa (And.intro hArg (And.intro (HAQ.out.below hbel5) (And.intro hlow (And.intro hhigh (HB1.out.trans (hbel5.mono HB1.out.size))))))
 have HM5:Hid (M5.length≤1048576):=aa (by rw [hM5l];exact hlen)
 have HGG:Hid (w.heap.size≤w0.drew.heap.size∧w.heap.size≤w1.heap.size):=aa ⟨by rw [←hw0];exact Nat.le_trans (Nat.le_succ _) (by simp),Nat.le_of_lt hwl⟩
 have HQL:Hid (Q.length≤X.length):=aa (by have:=HV.out.2.2.1;omega)
 clear hown hgrow hbel3 hbel4 hbel5 B4 L4 F4 O4 S4 B5 L5 F5 O5 S5 hval hArg hLu hz5 z0 z1 hM5l hlow hhigh hi hz0 hz1 hz2
 go_wp2
 rw [hcp2]
 go_wp2
 go_ret2
 exact⟨⟨_,_,_,_,_,_,Q,M5,HGG.out,rfl,HF.out.2.1,HF.out.1,HF.out.2.2.2.1,HF.out.2.2.1,HQL.out,HM5.out⟩,HF.out.2.2.2.2⟩

theorem iC (b:Nat)(h1:2≤b)(h2:b≤36):∃t,bf b t∧t≤5:=by
 have key:∀x:Fin 37,2≤x.1→∃t:Fin 6,x.1 % 2 ^ t.1=0∧x.1 / 2 ^ t.1 % 2=1:=by decide +kernel
 obtain⟨t,h3,h4⟩:=key ⟨b,by omega⟩ h1
 exact⟨t.1,⟨h3,h4⟩,by omega⟩

theorem tzb (b t:Nat)(w:World)(hb:b≤36)(h:bf b t)(hT:Tab w):Calls Tryz.prog 178 #[.int .u64 b] w fun e w'=>e=.returned (.int .i64 t)∧w'=w:=by
 have H:=jL b t w (by omega) h hT
 clear hT h
 go_enter Tryz.func178,Tryz.ntmps178
 go_wp2_with fail
 refine H.mono ?_
 rintro e wn ⟨rfl,hw⟩;rw [hw];clear hw wn H
 go_wp2
 go_ret
 exact⟨rfl,rfl⟩

theorem nv {a L t:Nat}(h1:2 ^ (L - 1)≤a)(h2:a<2 ^ L)(hL:1≤L)(ht:1≤t):bQ (2 ^ t) a ((L+t - 1) / t):=by
 have d:=Nat.div_add_mod (L+t - 1) t
 have m:=Nat.mod_lt (L+t - 1) (show 0<t by omega)
 obtain⟨n,hn⟩:∃n,(L+t - 1) / t=n:=⟨_,rfl⟩
 rw [hn] at d ⊢
 have hn1:1≤n:=by
  rcases Nat.eq_zero_or_pos n with h|h
  ·rw [h] at d;omega
  ·exact h
 obtain⟨k,rfl⟩:∃k,n=k+1:=⟨n - 1,by omega⟩
 rw [Nat.mul_succ] at d
 refine⟨by omega,?_,.inr ?_⟩
 ·rw [←Nat.pow_mul,Nat.mul_succ]
  exact Nat.lt_of_lt_of_le h2 (Nat.pow_le_pow_right (by omega) (by omega))
 ·rw [←Nat.pow_mul,Nat.add_sub_cancel]
  exact Nat.le_trans (Nat.pow_le_pow_right (by omega) (by omega)) h1

def js (b a:Nat)(w:World)(e:Ending)(w':World):Prop:=∃n:Nat,e=.returned (.int .i64 n)∧bQ b a n∧Below w.heap.size w w'

theorem nQ (va:Value)(X:List Nat)(b:Nat)(w:World)(hA:Arg w va X)(hT:Tab w)(hb:2≤b)(hb2:b≤36)
  (HE:64<blen (val X)→Calls Tryz.prog 180 #[va,.int .u64 b] w fun e w'=>∃n:Nat,e=.returned (.int .i64 n)∧b ^ n≤val X∧val X<b ^ (n+1)∧n≤1152921504606846976∧Below w.heap.size w w') :
  Calls Tryz.prog 145 #[va,.int .i64 b] w (js b (val X) w):=by
 obtain⟨t,htl,ht5⟩:=iC b hb hb2
 have L1:=aP va X w hA
 have T1:=tzb b t w hb2 htl hT
 have S1:=gY va X w hA
 have hfew:blen (val X)≤64*X.length:=(blen_le_iff _ _).2 (by rw [Nat.pow_mul];exact val_lt hA.limbs)
 have hXl:=hA.few
 obtain⟨L,hL⟩:∃L,blen (val X)=L:=⟨_,rfl⟩
 have hup:val X<2 ^ L:=(blen_le_iff _ _).1 (by omega)
 rw [hL] at L1 HE hfew
 by_cases hs:L≤64
 ·have hv64:val X<18446744073709551616:=Nat.lt_of_lt_of_le hup (Nat.pow_le_pow_right (n:=2) (by omega) hs)
  have ht:(tr X).length≤1:=aH X 1 (by rw [Nat.pow_one];exact hv64)
  rw [if_pos ht,decide_eq_true ht] at S1
  have hg:(tr X).getD 0 0=val X:=by
   have h2:=val_tr X
   match h:tr X,ht,h2 with
   | [],_,h2=>simpa [val] using h2
   | [a],_,h2=>simpa [val] using h2
   | a :: b :: c,h1,_=>simp at h1
  rw [hg] at S1
  have C1:=nW (val X) b w hb hb2 hv64
  have hs':(L:Int)≤64:=by omega
  clear hA hT ht hg HE hup hL
  generalize val X=x at *
  go_enter Tryz.func145,Tryz.ntmps145
  go_wp2_with fail
  refine L1.mono ?_
  rintro e wn ⟨rfl,hw⟩;rw [hw];clear hw wn L1
  go_wp2_with fail
  refine T1.mono ?_
  rintro e wn ⟨rfl,hw⟩;rw [hw];clear hw wn T1
  go_wp2_with fail
  refine S1.mono ?_
  rintro e wn ⟨rfl,hw⟩;rw [hw];clear hw wn S1
  go_wp2_with fail
  refine C1.mono ?_
  rintro e wn ⟨n,rfl,hn,hw⟩;rw [hw];clear hw wn C1
  have HN:=aa hn
  clear hn
  go_wp2
  go_ret
  exact⟨n,rfl,HN.out,Below.refl _ _⟩
 ·have hs':¬((L:Int)≤64):=by omega
  have hlo:2 ^ (L - 1)≤val X:=by
   rcases Nat.lt_or_ge (val X) (2 ^ (L - 1)) with h|h
   ·have:=(blen_le_iff _ _).2 h;omega
   ·exact h
  have hp:2 ^ t≤32:=Nat.pow_le_pow_right (n:=2) (j:=5) (by omega) ht5
  have h2t:(2:Int) ^ t=((2 ^ t:Nat):Int):=by simp
  have t64:t<64:=by omega
  by_cases hbt:b=2 ^ t
  ·have ht1:1≤t:=by
    rcases Nat.eq_zero_or_pos t with h|h
    ·subst h;simp at hbt;omega
    ·exact h
   have hd:=nv hlo hup (by omega) ht1
   rw [←hbt] at hd h2t hp
   have HN:=aa hd
   obtain⟨q,hq,hqi⟩:∃q:Nat,(L+t - 1) / t=q∧((L+t - 1:Nat):Int).tdiv (t:Int)=(q:Int):=⟨(L+t - 1) / t,rfl,rfl⟩
   have e1:(L:Int)+(t:Int) - 1=((L+t - 1:Nat):Int):=by omega
   have hql:q≤L+t - 1:=by rw [←hq];exact Nat.div_le_self _ _
   have htz:((t:Int) == 0)=false:=by rw [beq_eq_false_iff_ne];omega
   have HQ:=aa hq
   clear hA hT HE hup hL hlo hd hbt htl S1 hq
   generalize L+t - 1=L' at *
   generalize val X=x at *
   go_enter Tryz.func145,Tryz.ntmps145
   go_wp2_with fail
   refine L1.mono ?_
   rintro e wn ⟨rfl,hw⟩;rw [hw];clear hw wn L1
   go_wp2_with fail
   refine T1.mono ?_
   rintro e wn ⟨rfl,hw⟩;rw [hw];clear hw wn T1
   go_wp2
   go_ret
   exact⟨q,rfl,by have:=HN.out;rw [HQ.out] at this;exact this,Below.refl _ _⟩
  ·have hne:¬((b:Int)=((2 ^ t:Nat):Int)):=by omega
   have hnb:((b:Int) == ((2 ^ t:Nat):Int))=false:=by rw [beq_eq_false_iff_ne];exact hne
   have HX:=HE (by omega)
   clear hA hT HE hup hL hlo htl S1
   generalize val X=x at *
   generalize 2 ^ t=tp at *
   go_enter Tryz.func145,Tryz.ntmps145
   go_wp2_with fail
   refine L1.mono ?_
   rintro e wn ⟨rfl,hw⟩;rw [hw];clear hw wn L1
   go_wp2_with fail
   refine T1.mono ?_
   rintro e wn ⟨rfl,hw⟩;rw [hw];clear hw wn T1
   go_wp2_with fail
   refine HX.mono ?_
   rintro e w2 ⟨n,rfl,hn1,hn2,hn3,hb2'⟩
   have HN:=aa (And.intro hn1 (And.intro hn2 hb2'))
   clear hn1 hn2 hb2' HX
   go_wp2
   go_ret
   exact⟨n+1,by simp,⟨by omega,HN.out.2.1,.inr (by rw [Nat.add_sub_cancel];exact HN.out.1)⟩,HN.out.2.2⟩

theorem oo (v:Value)(zs:List Nat)(n:Nat)(w:World)(h1:Arg w v zs)(f1:zs.length≤35184372088831)(hn:n≤1099511627776) :
  Calls Tryz.prog 201 #[v,.int .i64 n] w fun e w'=>Below w.heap.size w w'∧Res w' w.heap.size e (val zs / 2 ^ n):=by
 obtain⟨a1,c1,rfl,hc1,hm1,hl1⟩:=h1.form
 have H0:=i8 n w (by omega) (by omega)
 have H1:=bR a1 c1 zs w hc1 hm1 hl1
 have l1:=tr_length_le zs
 have L1:=hl1.tr
 have M1:=limbs_tr h1.limbs
 obtain⟨q,s,hs,hnq⟩:∃q s,s<64∧n=q*64+s:=⟨n / 64,n % 64,by omega,by omega⟩
 have eq1:(n:Int) / 64=(q:Int):=by omega
 have eq2:(n:Int) % 64=(s:Int):=by omega
 have HN:Hid (n=q*64+s):=hnq
 have hq:q≤17179869184:=by omega
 obtain⟨i0,hi,hz0,hz1,hz2⟩:=info_parts Tryz.infoU
 clear hnq
 by_cases hql:(tr zs).length≤q
 ·have HV:Hid (val zs / 2 ^ n=0):=by
   refine aa ?_
   rw [Nat.div_eq_of_lt]
   have:=val_lt M1
   rw [val_tr,W_pow] at this
   have h2:(2:Nat) ^ ((tr zs).length*64)≤2 ^ n:=Nat.pow_le_pow_right (by omega) (by have:=HN.out;omega)
   omega
  clear L1 M1 hl1 h1 hi hz0 hz1 hz2
  generalize tr zs=Z at *
  go_enter Tryz.func201,Tryz.ntmps201
  go_wp2_with fail
  refine H0.mono ?_
  rintro e w' ⟨rfl,rfl⟩
  go_wp2_with fail
  refine H1.mono ?_
  rintro e w' ⟨rfl,rfl⟩
  clear H0 H1
  go_wp2
  go_ret2
  rw [HV.out]
  exact⟨Below.refl _ _,_,_,[],rfl,Ans.nil _ _,.inl ⟨rfl,rfl,rfl,by simp [blen]⟩⟩
 ·rcases L1 with h' | ⟨b,off,rfl,hcell⟩
  ·simp [h'] at hql
  ·have hbw:b<w.heap.size:=an.block (zs:=tr zs) (.inr ⟨b,off,rfl,hcell⟩) (by omega)
   have hcl:(tr zs).length≤c1:=by omega
   have hlx:((tr zs).drop q).length=(tr zs).length - q:=by simp
   have HVX:Hid (val ((tr zs).drop q) / 2 ^ s=val zs / 2 ^ n):=by
    refine aa ?_
    rw [val_drop M1 q (by omega),val_tr,Nat.div_div_eq_div_mul,←Nat.pow_add,←HN.out]
   have hcx:∀k,k<((tr zs).drop q).length→w.cell? ⟨b,off+q+k,none⟩=some (.int .u64 ((((tr zs).drop q).getD k 0:Nat):Int)):=by
    intro k hk
    have:=hcell (q+k) (by omega)
    rw [←Nat.add_assoc] at this
    rw [this]
    simp [List.getD]
   have hlimx:Limbs ((tr zs).drop q):=fun z hz=>M1 z (List.mem_of_mem_drop hz)
   clear hcell hl1 h1 M1
   generalize (tr zs).drop q=X at *
   generalize (tr zs).length=m at *
   obtain⟨d,rfl⟩:∃d,m=q+d:=⟨m - q,by omega⟩
   have hdx:X.length=d:=by omega
   subst hdx
   clear hlx
   have hd:decide ((q:Int)+(X.length:Int)≤(q:Int))=false:=by simp;omega
   have hxp:0<X.length:=by omega
   go_enter Tryz.func201,Tryz.ntmps201
   go_wp2_with fail
   refine H0.mono ?_
   rintro e w' ⟨rfl,rfl⟩
   go_wp2_with fail
   refine H1.mono ?_
   rintro e w' ⟨rfl,rfl⟩
   clear H0 H1
   go_wp2_with (at_make;refine wpList_make_full _ rfl _ _ 25 rfl w'.heap.size 61 i0 (.int .u64 0) 1 Tryz.underlying25 hi hz0 hz1 .i64 .i64 _ _ X.length rfl rfl (by omega) (by omega) (by rw [hz2];omega) (by unfold maxLen;omega) (Nat.le_refl _) ?_;intro w1 hown hgrow)
   have hb1:=Blk.made hown
   have hbel:Below w'.heap.size w' w1:=(Below.refl _ _).grown hgrow (Nat.le_refl _) (fun k hk=>by cases hk)
   clear hown hgrow hi hz0 hz1 hz2
   go_loopw [31] (fun i wr=>∃(k:Nat) (out:List Nat),k≤X.length∧i=.int .i64 k∧out.length=X.length∧Limbs out∧Blk wr w'.heap.size out∧Below w'.heap.size w' wr ∧
     2 ^ s*val (out.take k)+X.getD 0 0 % 2 ^ s=val (X.take k)+X.getD k 0 % 2 ^ s*18446744073709551616 ^ k) (fun i _=>X.length - (intOf i).toNat)
   case atStart=>exact⟨0,_,Nat.zero_le _,rfl,by simp,limbs_replicate _,hb1,hbel,by simp [val]⟩
   case round=>
    obtain⟨k,out,hk,rfl,hlen,hlo,hblk,hbl,hval⟩:=hrel
    clear hb1 hbel
    have HV:=aa hval
    have HB:=aa hblk
    have HL:=aa hbl
    clear hval
    by_cases hkl:k<X.length
    ·have hck:wr.cell? ⟨b,off+q+k,none⟩=some (.int .u64 ((X.getD k 0:Nat):Int)):=by rw [hbl.cell (p:=⟨b,off+q+k,none⟩) hbw];exact hcx k hkl
     have hlies:an wr.drew (some ⟨b,off+q,none⟩) X:=.inr ⟨b,off+q,rfl,fun j hj=>by rw [hbl.drew.cell (p:=⟨b,off+q+j,none⟩) hbw];exact hcx j hj⟩
     have H42:=dR (some ⟨b,off+q,none⟩) (c1 - q) X (k+1) wr.drew (by omega) (by omega) hlies
     rw [show ((k+1:Nat):Int)=(k:Int)+1 from by omega] at H42
     have hfr:=hblk.free k
     have hco:=hblk.cell k (by omega)
     have hst:=right_step X out s k hs (by omega) HV.out
     have z1:=limb_lt hlimx k
     have hne1:¬b=w'.heap.size:=by omega
     have hne2:¬w'.heap.size=b:=by omega
     generalize out.getD k 0=o at *
     have HS:=aa hst
     clear hst hlies hblk hbl HV hcx
     generalize hy:X.getD (k+1) 0=y at *
     have HY:=aa hy
     clear hy
     generalize X.getD k 0=x at *
     have hi1:(0:Int)≤(k:Int):=by omega
     have hi2:(k:Int)<(X.length:Int):=by omega
     have hwk:IntKind.i64.wrap ((k:Int)+1)=(k:Int)+1:=by rw [IntKind.wrap_i64];omega
     obtain⟨t,ht⟩:∃t,t=64 - s:=⟨_,rfl⟩
     have htb:t≤64:=by omega
     have hw64:IntKind.i64.wrap (64 - (s:Int))=(t:Int):=by rw [IntKind.wrap_i64];omega
     have hw66:IntKind.i64.wrap (t:Int)=(t:Int):=by rw [IntKind.wrap_i64];omega
     have hw65:(64 - (s:Int))=(t:Int):=by omega
     have HT:=aa ht
     clear ht
     go_wp2
     go_region_held3 (fun w2=>w2.cell? ⟨b,off+q+k,none⟩=some (.int .u64 x)) (go_keep) (first | (go_at_call 152;refine H42.mono ?_;rintro e w2 ⟨rfl,rfl⟩))
     go_wp2
     go_roundw
     case rel=>
      have e:=HT.out
      subst e
      rw [walk_shr2 x y s hs z1]
      exact⟨k+1,out.set k (shr x y s),by omega,by go_num,by simp;omega,limbs_set hlo _ _ (shr_lt2 x y s hs z1),HB.out.set _ _,(HL.out.setCell (Nat.le_refl _) _).drew,by rw [HY.out];exact HS.out⟩
     case measure=>simp [intOf];omega
    ·have ek:k=X.length:=by omega
     subst ek
     have HA:=eW _ w'.heap.size _ _ hblk hlo (Nat.le_refl _) (by omega)
     rw [right_end X out s hlen HV.out,HVX.out,hlen] at HA
     clear hblk hbl HV HB hlo hcx hlimx
     go_wp2_with fail
     refine HA.mono ?_
     rintro e w2 ⟨rfl,hres⟩
     unfold Res at hres
     obtain⟨v,c,rs,rfl,hres⟩:=hres
     have HX:=aa hres
     clear hres
     go_wp2
     go_ret2
     exact⟨HL.out,v,c,rs,rfl,HX.out⟩
end Go.Proofs.YtdbjbbdhlpfhjaaGreatDoor

