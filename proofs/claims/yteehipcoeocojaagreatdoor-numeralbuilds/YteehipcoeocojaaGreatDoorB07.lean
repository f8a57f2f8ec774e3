/- Package mul: Mul, School, Karatsuba, Toom, Square, of any numbers. -/
import Derived.Test.YteehipcoeocojaaGreatDoorB06
import Derived.Test.YteehipcoeocojaaGreatDoorB04
import Derived.Test.YteehipcoeocojaaGreatDoorB01
import Derived.Test.YteehipcoeocojaaGreatDoorB05
import Derived.Test.YteehipcoeocojaaGreatDoorB02
import Derived.Deep.RegionHeld3
import Derived.Deep.DrawnRows
import Derived.Test.YteehipcoeocojaaGreatDoorB03
import Derived.BigQuiet
import Derived.Laws.Bits128
import Derived.Handy
set_option maxRecDepth 20000
set_option maxHeartbeats 2000000
namespace Go.Proofs.YteehipcoeocojaaGreatDoor
open Go.RowKit
open Lm

theorem jP (H T:Int)(hH:2≤H)(hTT:3≤T)(va vb:Value)(X Y:List Nat)(w:World)(hA:Arg w va X)(hA2:Arg w vb Y)(hT:Tab w)(hf:X.length+Y.length≤35184372088831)(hl:(tr X).length+(tr Y).length≤4398046511103∨val X=0∨val Y=0) :
  Calls Tryz.prog 130 #[way H T,va,vb] w (bH w (val X*val Y) (X.length+Y.length)):=by
 by_cases hz:val X=0∨val Y=0
 ·rw [show val X*val Y=0 by rcases hz with h|h <;> rw [h] <;> simp]
  exact hC H T (by omega) (by omega) va vb X Y w hA hA2 hT hz hf
 ·refine gq H T va vb X Y w hA hA2 hT (fun e=>hz (.inl e)) (fun e=>hz (.inr e)) hf ?_
  exact iC H T hH hTT 4398046511103 _ _ (by rw [List.length_drop,List.length_drop];rcases hl with h|h;omega;exact absurd h hz) (Nat.le_refl _)

theorem fU (X Y:List Nat)(h:aO (val X) (val Y)≤67108864):(tr X).length+(tr Y).length≤4398046511103∨val X=0∨val Y=0:=by
 by_cases hz:val X=0∨val Y=0
 ·exact .inr hz
 ·left
  unfold aO at h
  rw [if_neg hz] at h
  have hx:blen (val X)≠0:=by unfold blen;rw [if_neg (fun e=>hz (.inl e))];omega
  have hy:blen (val Y)≠0:=by unfold blen;rw [if_neg (fun e=>hz (.inr e))];omega
  have h1:=few_limbs X 1048576 (by omega)
  have h2:=few_limbs Y 1048576 (by omega)
  omega

theorem gF (H T:Int)(hH:2≤H)(hTT:3≤T)(va vb:Value)(X Y:List Nat)(w:World)(hA:Arg w va X)(hA2:Arg w vb Y)(hT:Tab w)(hf:X.length+Y.length≤35184372088831) :
  Calls Tryz.prog 121 #[way H T,va,vb] w fun e w'=>Below w.heap.size w w'∧Res w' w.heap.size e (val X*val Y):=by
 obtain⟨w1,hw1⟩:∃w1,w1=w.alloc (.cells #[.int .i64 H,.int .i64 T] 155):=⟨_,rfl⟩
 have hbel1:Below w.heap.size w w1:=by rw [hw1];exact (Below.refl _ _).alloc (Nat.le_refl _) _
 have hb1:w1.heap[w.heap.size]?=some (.cells #[.int .i64 H,.int .i64 T] 155):=by rw [hw1];exact heap_alloc_new ..
 have hc0:w1.cell? ⟨w.heap.size,0,none⟩=some (.int .i64 H):=by simp [World.cell?,hb1]
 have hc1:w1.cell? ⟨w.heap.size,1,none⟩=some (.int .i64 T):=by simp [World.cell?,hb1]
 have H1:=jz va vb X Y w1 (hA.below hbel1) (hA2.below hbel1) (by omega) (by omega)
 have hle:=iS (val X) (val Y)
 by_cases hbig:aO (val X) (val Y)≤67108864
 ·have H2:=jP H T hH hTT va vb X Y w1 (hA.below hbel1) (hA2.below hbel1) (hT.below hbel1) hf (fU X Y hbig)
  have B1:=aa hbel1
  have HW1:=aa hw1
  clear hA hA2 hT hw1 hbel1 hb1
  unfold way at *
  generalize val X*val Y=p at *
  generalize aO (val X) (val Y)=l at *
  go_enter Tryz.func121,Tryz.ntmps121
  go_wp2_with fail
  rw [←HW1.out]
  refine H1.mono ?_
  rintro e w2 ⟨rfl,hw⟩;subst hw
  clear H1 HW1
  go_wp2_with fail
  refine H2.mono ?_
  rintro e w3 ⟨⟨v,rs,rfl,hans,hv,ht,hl⟩,hb⟩
  have HR:=iO v w.heap.size rs w3 (hans.base B1.out.size) (by omega)
  rw [hv] at HR
  have B3:Hid (Below w.heap.size w w3):=B1.out.trans (hb.mono B1.out.size)
  clear H2 hans hv ht hb hc0 hc1
  go_wp2_with fail
  refine HR.mono ?_
  rintro e w4 ⟨hw,hres⟩;subst hw
  unfold Res at hres
  obtain⟨v,c,rs,rfl,hres⟩:=hres
  have HX:=aa hres
  clear hres HR
  go_wp2
  go_ret2
  exact⟨B3.out,v,c,rs,rfl,HX.out⟩
 ·have HP:Hid (67108864<blen (val X*val Y)):=aa (by omega)
  have B1:=aa hbel1
  have HW1:=aa hw1
  clear hle hA hA2 hT hw1 hbel1 hb1
  unfold way at *
  generalize val X*val Y=p at *
  generalize aO (val X) (val Y)=l at *
  go_enter Tryz.func121,Tryz.ntmps121
  go_wp2_with fail
  rw [←HW1.out]
  refine H1.mono ?_
  rintro e w2 ⟨rfl,hw⟩;subst hw
  clear H1 HW1
  go_wp2
  go_ret2
  exact⟨B1.out,_,_,[],rfl,Ans.nil _ _,.inr ⟨rfl,rfl,HP.out⟩⟩

theorem ck (va vb:Value)(X Y:List Nat)(w:World)(hA:Arg w va X)(hA2:Arg w vb Y)(hT:Tab w)(hf:X.length+Y.length≤35184372088831) :
  Calls Tryz.prog 106 #[va,vb] w fun e w'=>Below w.heap.size w w'∧Res w' w.heap.size e (val X*val Y):=by
 have HQ:=gt w
 go_enter Tryz.func106,Tryz.ntmps106
 go_wp2_with fail
 refine HQ.mono ?_
 rintro e w1 ⟨rfl,hb⟩
 have B1:=aa hb
 have HP:=gF 40 200 (by omega) (by omega) va vb X Y w1 (hA.below hb) (hA2.below hb) (hT.below hb) hf
 generalize way 40 200=W at *
 clear hb HQ hA hA2 hT
 go_wp2_with fail
 refine HP.mono ?_
 rintro e w2 ⟨hb,v,c,rs,rfl,hans,hres⟩
 have HR:=aa (And.intro (B1.out.trans (hb.mono B1.out.size)) (And.intro (hans.base B1.out.size) hres))
 clear hb hans hres HP
 go_wp2
 go_ret2
 exact⟨HR.out.1,v,c,rs,rfl,HR.out.2.1,HR.out.2.2⟩

theorem e8 (va:Value)(X:List Nat)(w:World)(hA:Arg w va X)(hT:Tab w)(hf:X.length≤17592186044415) :
  Calls Tryz.prog 78 #[va] w fun e w'=>Below w.heap.size w w'∧Res w' w.heap.size e (val X*val X):=by
 have HP:=ck va va X X w hA hA hT (by omega)
 clear hA hT
 go_enter Tryz.func78,Tryz.ntmps78
 go_wp2_with fail
 refine HP.mono ?_
 rintro e w2 ⟨hb,v,c,rs,rfl,hans,hres⟩
 have HR:=aa (And.intro hb (And.intro hans hres))
 clear hb hans hres HP
 go_wp2
 go_ret2
 exact⟨HR.out.1,v,c,rs,rfl,HR.out.2.1,HR.out.2.2⟩
end Go.Proofs.YteehipcoeocojaaGreatDoor
namespace Go.Proofs.YteehipcoeocojaaGreatDoor
open Go.RowKit
open Lm
attribute [local go_sem ↓] Go.wp_at_zero Go.wp_at_succ













theorem eo (v1 v2:Value)(zs ys:List Nat)(w:World)(h1:Arg w v1 zs)(h2:Arg w v2 ys)(f1:zs.length≤35184372088831)(f2:ys.length≤35184372088831) :
  Calls Tryz.prog 115 #[v1,v2] w fun e w'=>Below w.heap.size w w'∧Res w' w.heap.size e (val zs+val ys):=by
 obtain⟨a1,c1,rfl,hc1,hm1,hl1⟩:=h1.form
 obtain⟨a2,c2,rfl,hc2,hm2,hl2⟩:=h2.form
 have H1:=aI a1 c1 zs w hc1 hm1 hl1
 have H2:=aI a2 c2 ys w hc2 hm2 hl2
 have l1:=tr_length_le zs
 have l2:=tr_length_le ys
 have L1:=hl1.tr
 have L2:=hl2.tr
 have M1:=limbs_tr h1.limbs
 have M2:=limbs_tr h2.limbs
 rw [←val_tr zs,←val_tr ys]
 obtain⟨i0,hi,hz0,hz1,hz2⟩:=info_parts Tryz.infoU
 generalize tr zs=Z at *
 generalize tr ys=Y at *
 by_cases hlt:Z.length<Y.length
 ·rw [Nat.add_comm (val Z) (val Y)]
  go_enter Tryz.func115,Tryz.ntmps115
  go_wp2_with fail
  refine H1.mono ?_
  rintro e w' ⟨rfl,rfl⟩
  go_wp2_with fail
  refine H2.mono ?_
  rintro e w' ⟨rfl,rfl⟩
  clear H1 H2
  go_wp2_with (at_make;refine wpList_make_full _ rfl _ _ 23 rfl w'.heap.size 63 i0 (.int .u64 0) 1 Tryz.underlying23 hi hz0 hz1 .i64 .i64 _ _ (Y.length+1) rfl rfl (by omega) (by omega) (by rw [hz2];omega) (by unfold maxLen;omega) (Nat.le_refl _) ?_;intro w1 hown hgrow)
  have hb1:=Blk.made hown
  have hbel:Below w'.heap.size w' w1:=(Below.refl _ _).grown hgrow (Nat.le_refl _) (fun k hk=>by cases hk)
  clear hown hgrow hi hz0 hz1 hz2
  go_loopw [7,26] (fun c i wr=>∃(k cy:Nat) (out:List Nat),k≤Y.length∧i=.int .i64 k∧c=.int .u64 cy∧cy≤1∧out.length=Y.length+1∧Limbs out∧Blk wr w'.heap.size out∧Below w'.heap.size w' wr ∧
    val (out.take k)+cy*18446744073709551616 ^ k=val (Y.take k)+val (Z.take k)) (fun _ i _=>Y.length - (intOf i).toNat)
  case atStart=>exact⟨0,0,_,Nat.zero_le _,rfl,rfl,by omega,by simp,limbs_replicate _,hb1,hbel,by simp [val]⟩
  case round=>
   obtain⟨k,cy,out,hk,rfl,rfl,hcy,hlen,hlo,hblk,hbl,hval⟩:=hrel
   clear hb1 hbel
   have HV:Hid (val (out.take k)+cy*18446744073709551616 ^ k=val (Y.take k)+val (Z.take k)):=hval
   clear hval
   have HB:Hid (Blk wr w'.heap.size out):=hblk
   have HL:Hid (Below w'.heap.size w' wr):=hbl
   have H42:=bW a1 c1 Z k wr.drew (by omega) hm1 (L1.below hbl.drew)
   by_cases hkl:k<Y.length
   ·rcases L2.below hbl with h0|⟨b,off,rfl,hcell⟩
    ·simp [h0] at hkl
    ·have hck:=hcell k hkl
     have hbw:=af.block (L2:af w' (some ⟨b,off,none⟩) Y) (by omega)
     have hne1:¬b=w'.heap.size:=by omega
     have hne2:¬w'.heap.size=b:=by omega
     have hfr:=hblk.free k
     have hco:=hblk.cell k (by omega)
     have ha:=ce (Y.getD k 0) (Z.getD k 0) cy hcy
     have hst:=add_step Y Z out k cy (by omega) HV.out
     have HS:Hid (val ((out.set k ((Y.getD k 0+Z.getD k 0+cy) % 18446744073709551616)).take (k+1))+(Y.getD k 0+Z.getD k 0+cy) / 18446744073709551616*18446744073709551616 ^ (k+1)=val (Y.take (k+1))+val (Z.take (k+1))):=hst
     have z1:=limb_lt M2 k
     have z2:=limb_lt M1 k
     clear hst hcell hblk hbl HV L2 L1 M2 M1 hl1 hl2 h1 h2
     generalize Y.getD k 0=x at *
     generalize Z.getD k 0=y at *
     generalize out.getD k 0=o at *
     have hs1:(x+y+cy) % 18446744073709551616<18446744073709551616:=Nat.mod_lt _ (by omega)
     have hd1:(x+y+cy) / 18446744073709551616≤1:=by omega
     generalize (x+y+cy) % 18446744073709551616=s at *
     generalize (x+y+cy) / 18446744073709551616=d at *
     have hi1:(0:Int)≤(k:Int):=by omega
     have hi2:(k:Int)<(Y.length:Int):=by omega
     have hi3:(k:Int)<(Y.length:Int)+1:=by omega
     go_wp2
     go_region_held3 (fun w'=>w'.cell? ⟨b,off+k,none⟩=some (.int .u64 x)) (go_keep) (first | (go_at_call 85;refine H42.mono ?_;rintro e w2 ⟨rfl,rfl⟩))
     go_wp2
     go_roundw
     case rel=>exact⟨k+1,d,out.set k s,by omega,by go_num,rfl,hd1,by simp;omega,limbs_set hlo _ _ hs1,HB.out.set k s,(HL.out.setCell (Nat.le_refl _) _).drew,HS.out⟩
     case measure=>simp [intOf];omega
   ·have ek:k=Y.length:=by omega
    subst ek
    have hfr:=hblk.free Y.length
    have hco:=hblk.cell Y.length (by omega)
    generalize out.getD Y.length 0=o at *
    have hb2:=hblk.set Y.length cy
    have HA:=cB _ w'.heap.size _ _ hb2 (limbs_set hlo _ _ (by omega)) (Nat.le_refl _) (by simp;omega)
    have hvl:val (out.set Y.length cy)=val Y+val Z:=by
     have e1:(out.set Y.length cy).take (Y.length+1)=out.set Y.length cy:=List.take_of_length_le (by simp;omega)
     rw [←e1,take_set_succ _ _ _ (by omega),Nat.mul_comm,HV.out,List.take_length,List.take_of_length_le (by omega)]
    rw [List.length_set,hlen,hvl] at HA
    have HBel:Hid (Below w'.heap.size w' (wr.setCell ⟨w'.heap.size,Y.length,none⟩ (.int .u64 cy))):=hbl.setCell (Nat.le_refl _) _
    clear hvl hb2 hblk hbl HV H42 L2 L1 M2 M1 hl1 hl2 h1 h2 HB HL hlo
    go_wp2_with fail
    refine HA.mono ?_
    rintro e w2 ⟨rfl,hres⟩
    unfold Res at hres
    obtain⟨v,c,rs,rfl,hans,hcase⟩:=hres
    have HX:Hid (Ans _ w'.heap.size v rs∧((c=0∧val rs=val Y+val Z∧tr rs=rs∧blen (val Y+val Z)≤67108864)∨(c=3∧rs=[]∧67108864<blen (val Y+val Z)))):=⟨hans,hcase⟩
    clear hans hcase
    go_wp2
    go_ret2
    exact⟨HBel.out,v,c,rs,rfl,HX.out⟩
 ·go_enter Tryz.func115,Tryz.ntmps115
  go_wp2_with fail
  refine H1.mono ?_
  rintro e w' ⟨rfl,rfl⟩
  go_wp2_with fail
  refine H2.mono ?_
  rintro e w' ⟨rfl,rfl⟩
  clear H1 H2
  go_wp2_with (at_make;refine wpList_make_full _ rfl _ _ 23 rfl w'.heap.size 63 i0 (.int .u64 0) 1 Tryz.underlying23 hi hz0 hz1 .i64 .i64 _ _ (Z.length+1) rfl rfl (by omega) (by omega) (by rw [hz2];omega) (by unfold maxLen;omega) (Nat.le_refl _) ?_;intro w1 hown hgrow)
  have hb1:=Blk.made hown
  have hbel:Below w'.heap.size w' w1:=(Below.refl _ _).grown hgrow (Nat.le_refl _) (fun k hk=>by cases hk)
  clear hown hgrow hi hz0 hz1 hz2
  go_loopw [7,26] (fun c i wr=>∃(k cy:Nat) (out:List Nat),k≤Z.length∧i=.int .i64 k∧c=.int .u64 cy∧cy≤1∧out.length=Z.length+1∧Limbs out∧Blk wr w'.heap.size out∧Below w'.heap.size w' wr ∧
    val (out.take k)+cy*18446744073709551616 ^ k=val (Z.take k)+val (Y.take k)) (fun _ i _=>Z.length - (intOf i).toNat)
  case atStart=>exact⟨0,0,_,Nat.zero_le _,rfl,rfl,by omega,by simp,limbs_replicate _,hb1,hbel,by simp [val]⟩
  case round=>
   obtain⟨k,cy,out,hk,rfl,rfl,hcy,hlen,hlo,hblk,hbl,hval⟩:=hrel
   clear hb1 hbel
   have HV:Hid (val (out.take k)+cy*18446744073709551616 ^ k=val (Z.take k)+val (Y.take k)):=hval
   clear hval
   have HB:Hid (Blk wr w'.heap.size out):=hblk
   have HL:Hid (Below w'.heap.size w' wr):=hbl
   have H42:=bW a2 c2 Y k wr.drew (by omega) hm2 (L2.below hbl.drew)
   by_cases hkl:k<Z.length
   ·rcases L1.below hbl with h0|⟨b,off,rfl,hcell⟩
    ·simp [h0] at hkl
    ·have hck:=hcell k hkl
     have hbw:=af.block (L1:af w' (some ⟨b,off,none⟩) Z) (by omega)
     have hne1:¬b=w'.heap.size:=by omega
     have hne2:¬w'.heap.size=b:=by omega
     have hfr:=hblk.free k
     have hco:=hblk.cell k (by omega)
     have ha:=ce (Z.getD k 0) (Y.getD k 0) cy hcy
     have hst:=add_step Z Y out k cy (by omega) HV.out
     have HS:Hid (val ((out.set k ((Z.getD k 0+Y.getD k 0+cy) % 18446744073709551616)).take (k+1))+(Z.getD k 0+Y.getD k 0+cy) / 18446744073709551616*18446744073709551616 ^ (k+1)=val (Z.take (k+1))+val (Y.take (k+1))):=hst
     have z1:=limb_lt M1 k
     have z2:=limb_lt M2 k
     clear hst hcell hblk hbl HV L1 L2 M1 M2 hl1 hl2 h1 h2
     generalize Z.getD k 0=x at *
     generalize Y.getD k 0=y at *
     generalize out.getD k 0=o at *
     have hs1:(x+y+cy) % 18446744073709551616<18446744073709551616:=Nat.mod_lt _ (by omega)
     have hd1:(x+y+cy) / 18446744073709551616≤1:=by omega
     generalize (x+y+cy) % 18446744073709551616=s at *
     generalize (x+y+cy) / 18446744073709551616=d at *
     have hi1:(0:Int)≤(k:Int):=by omega
     have hi2:(k:Int)<(Z.length:Int):=by omega
     have hi3:(k:Int)<(Z.length:Int)+1:=by omega
     go_wp2
     go_region_held3 (fun w'=>w'.cell? ⟨b,off+k,none⟩=some (.int .u64 x)) (go_keep) (first | (go_at_call 85;refine H42.mono ?_;rintro e w2 ⟨rfl,rfl⟩))
     go_wp2
     go_roundw
     case rel=>exact⟨k+1,d,out.set k s,by omega,by go_num,rfl,hd1,by simp;omega,limbs_set hlo _ _ hs1,HB.out.set k s,(HL.out.setCell (Nat.le_refl _) _).drew,HS.out⟩
     case measure=>simp [intOf];omega
   ·have ek:k=Z.length:=by omega
    subst ek
    have hfr:=hblk.free Z.length
    have hco:=hblk.cell Z.length (by omega)
    generalize out.getD Z.length 0=o at *
    have hb2:=hblk.set Z.length cy
    have HA:=cB _ w'.heap.size _ _ hb2 (limbs_set hlo _ _ (by omega)) (Nat.le_refl _) (by simp;omega)
    have hvl:val (out.set Z.length cy)=val Z+val Y:=by
     have e1:(out.set Z.length cy).take (Z.length+1)=out.set Z.length cy:=List.take_of_length_le (by simp;omega)
     rw [←e1,take_set_succ _ _ _ (by omega),Nat.mul_comm,HV.out,List.take_length,List.take_of_length_le (by omega)]
    rw [List.length_set,hlen,hvl] at HA
    have HBel:Hid (Below w'.heap.size w' (wr.setCell ⟨w'.heap.size,Z.length,none⟩ (.int .u64 cy))):=hbl.setCell (Nat.le_refl _) _
    clear hvl hb2 hblk hbl HV H42 L1 L2 M1 M2 hl1 hl2 h1 h2 HB HL hlo
    go_wp2_with fail
    refine HA.mono ?_
    rintro e w2 ⟨rfl,hres⟩
    unfold Res at hres
    obtain⟨v,c,rs,rfl,hans,hcase⟩:=hres
    have HX:Hid (Ans _ w'.heap.size v rs∧((c=0∧val rs=val Z+val Y∧tr rs=rs∧blen (val Z+val Y)≤67108864)∨(c=3∧rs=[]∧67108864<blen (val Z+val Y)))):=⟨hans,hcase⟩
    clear hans hcase
    go_wp2
    go_ret2
    exact⟨HBel.out,v,c,rs,rfl,HX.out⟩
end Go.Proofs.YteehipcoeocojaaGreatDoor
namespace Go.Proofs.YteehipcoeocojaaGreatDoor
open Go.RowKit
open Lm

def Nv (w:World)(base:Nat)(v:Value)(x:Nat):Prop:=∃rs,Ans w base v rs∧val rs=x∧tr rs=rs∧rs.length≤1048576

theorem Nv.base {w:World}{base base':Nat}{v:Value}{x:Nat}(h:Nv w base v x)(hb:base'≤base):Nv w base' v x:=by
 obtain⟨rs,h1,h2⟩:=h
 exact⟨rs,h1.base hb,h2⟩

theorem Nv.arg {w:World}{base:Nat}{v:Value}{x:Nat}(h:Nv w base v x):∃rs,Arg w v rs∧val rs=x∧tr rs=rs∧rs.length≤1048576:=by
 obtain⟨rs,h1,h2,h3,h4⟩:=h
 exact⟨rs,h1.arg (by omega),h2,h3,h4⟩

theorem Nv.of {w:World}{base:Nat}{v:Value}{rs:List Nat}{x:Nat}(h:Ans w base v rs)(hv:val rs=x)(ht:tr rs=rs)(hb:blen x≤67108864):Nv w base v x:=by
 refine⟨rs,h,hv,ht,?_⟩
 have:=few_limbs rs 1048576 (by rw [hv];omega)
 rwa [ht] at this

theorem Res.fits {w:World}{base:Nat}{e:Ending}{s:Nat}(h:Res w base e s)(hs:blen s≤67108864):∃v,e=.returned (.tuple #[v,.int .i64 0])∧Nv w base v s:=by
 obtain⟨v,c,rs,rfl,hA,h⟩:=h
 rcases h with ⟨rfl,h1,h2,h3⟩|⟨_,_,h3⟩
 ·exact⟨v,rfl,Nv.of hA h1 h2 h3⟩
 ·omega
end Go.Proofs.YteehipcoeocojaaGreatDoor
namespace Go.Proofs.YteehipcoeocojaaGreatDoor
open Go.RowKit
open Lm
attribute [local go_sem ↓] Go.wp_at_zero Go.wp_at_succ

def Joined (h o s l:Nat)(w:World)(e:Ending)(w':World):Prop:=
 Below w.heap.size w w'∧((∃v Z,e=.returned (.tuple #[v,.int .i64 0])∧Ans w' w.heap.size v Z∧val Z=h*o*18446744073709551616 ^ s+l∧(0<h*o→tr Z=Z)∧Z.length≤s+1048576) ∨
  (e=.returned (.tuple #[.slice none 0 0,.int .i64 3])∧67108864<blen (h*o+l / 18446744073709551616 ^ s)))

theorem bn {x y:Nat}(h:x≤y):blen x≤blen y:=(blen_le_iff _ _).2 (Nat.lt_of_le_of_lt h ((blen_le_iff _ _).1 (Nat.le_refl _)))

theorem bw {U:List Nat}{k:Nat}(h:tr U=U)(hb:blen (val U)≤64*k):U.length≤k:=by
 have h1:=(blen_le_iff _ _).1 hb
 rw [Nat.pow_mul] at h1
 have:=aY U k h1
 rw [h] at this
 exact this

theorem fs {X:List Nat}(hX:Limbs X)(s nn:Nat)(hn:nn=min s X.length):val X=val (X.take nn)+18446744073709551616 ^ s*val (X.drop nn)∧val X / 18446744073709551616 ^ s=val (X.drop nn)∧val (X.take nn)<18446744073709551616 ^ s:=by
 have hp:0<18446744073709551616 ^ s:=Nat.pow_pos (by omega)
 have h3:val (X.take nn)<18446744073709551616 ^ s:=by
  have h:=val_lt (zs:=X.take nn) (fun z hz=>hX z (List.mem_of_mem_take hz))
  refine Nat.lt_of_lt_of_le h (Nat.pow_le_pow_right (by omega) (by simp;omega))
 have h1:val X=val (X.take nn)+18446744073709551616 ^ s*val (X.drop nn):=by
  rcases Nat.lt_or_ge X.length s with h|h
  ·have e:nn=X.length:=by omega
   rw [e,List.take_length,List.drop_length];simp [val]
  ·have e:nn=s:=by omega
   rw [e]
   have hh:=aj X 0 s (X.length - s) (by omega)
   rw [show s+(X.length - s)=X.length by omega,bf] at hh
   have e1:sv X 0 s=val (X.take s):=by simp [sv,seg]
   have e2:sv X (0+s) (X.length - s)=val (X.drop s):=by
    rw [Nat.zero_add]
    unfold sv seg
    rw [List.take_of_length_le (by simp)]
   rw [hh,e1,e2]
 refine⟨h1,?_,h3⟩
 rw [h1,Nat.add_mul_div_left _ _ hp,Nat.div_eq_of_lt h3,Nat.zero_add]

theorem f9 (b:Nat)(w:World)(h1:2≤b)(h2:b≤36):Calls Tryz.prog 31 #[.int .i64 b] w fun e w'=>e=.returned (.bool true)∧w'=w:=by
 have i0:(2:Int)≤(b:Int):=by omega
 have i1:(b:Int)≤36:=by omega
 have i2:decide ((b:Int)≤36)=true:=decide_eq_true i1
 go_enter Tryz.func31,Tryz.ntmps31
 go_wp2
 go_ret
 exact⟨rfl,rfl⟩

theorem gk (b:Int)(w:World)(h:b<2∨36<b):Calls Tryz.prog 31 #[.int .i64 b] w fun e w'=>e=.returned (.bool false)∧w'=w:=by
 by_cases h0:b<2
 ·have i0:¬(2≤b):=by omega
  clear h
  go_enter Tryz.func31,Tryz.ntmps31
  go_wp2
  go_ret
  exact⟨rfl,rfl⟩
 ·have i0:2≤b:=by omega
  have i1:¬(b≤36):=by omega
  have i2:decide (b≤36)=false:=decide_eq_false i1
  clear h h0
  go_enter Tryz.func31,Tryz.ntmps31
  go_wp2
  go_ret
  exact⟨rfl,rfl⟩

def eH (b v n:Nat):Prop:=1≤n∧v<b ^ n∧(n=1∨b ^ (n - 1)≤v)

theorem eH.few {b v n k:Nat}(hb:2≤b)(h:eH b v n)(hk:1≤k)(hv:v<2 ^ k):n≤k:=by
 rcases h.2.2 with e|e
 ·omega
 ·have h1:2 ^ (n - 1)≤b ^ (n - 1):=Nat.pow_le_pow_left hb _
  have h2:=(Nat.pow_lt_pow_iff_right (show 1<2 by omega)).1 (Nat.lt_of_le_of_lt (Nat.le_trans h1 e) hv)
  omega

structure fB (b d p:Nat):Prop where
 pow:p=b ^ d
 fits:p<18446744073709551616
 most:18446744073709551616≤p*b
 some:1≤d
 few:d≤63

theorem ei (b:Nat)(w:World)(hb:2≤b)(hb2:b≤36) :
  Calls Tryz.prog 79 #[.int .i64 b] w fun e w'=>∃d p:Nat,e=.returned (.tuple #[.int .i64 d,.int .u64 p])∧fB b d p∧w'=w:=by
 have hbz:((b:Int) == 0)=false:=by rw [beq_eq_false_iff_ne];omega
 obtain⟨m,hm⟩:∃m,18446744073709551615 / b=m:=⟨_,rfl⟩
 have hmi:(18446744073709551615:Int) / (b:Int)=(m:Int):=by rw [←hm,Int.natCast_ediv];rfl
 have hm1:m*b≤18446744073709551615:=by rw [←hm];exact Nat.div_mul_le_self _ _
 have hm2:18446744073709551615<(m+1)*b:=by rw [←hm,Nat.mul_comm];exact Nat.lt_mul_div_succ _ (by omega)
 have hm3:1≤m:=by rw [←hm];exact (Nat.le_div_iff_mul_le (by omega)).2 (by omega)
 have HM:=aa (And.intro hm1 hm2)
 clear hm hm1 hm2
 go_enter Tryz.func79,Tryz.ntmps79
 go_wp2
 go_loop [2,3] (fun x y=>∃d p:Nat,x=.int .i64 d∧y=.int .u64 p∧p=b ^ d∧p<18446744073709551616∧d≤63) (fun x _=>64 - (intOf x).toNat)
 case atStart=>exact⟨0,1,rfl,rfl,by simp,by omega,by omega⟩
 case round=>
  obtain⟨d,p,rfl,rfl,hp,hpl,hd⟩:=hrel
  have HP:=aa hp
  by_cases hc:p≤m
  ·have i1:(p:Int)≤(m:Int):=by omega
   have hpb:p*b<18446744073709551616:=by
    have:=Nat.mul_le_mul_right b hc
    have:=HM.out.1
    omega
   have hpi:(p:Int)*(b:Int)=((p*b:Nat):Int):=by simp
   have hq:p*b=b ^ (d+1):=by rw [hp,Nat.pow_succ]
   have hd2:d+1≤63:=by
    have h1:2 ^ (d+1)≤b ^ (d+1):=Nat.pow_le_pow_left hb _
    have h2:=(Nat.pow_lt_pow_iff_right (show 1<2 by omega)).1 (Nat.lt_of_le_of_lt h1 (show b ^ (d+1)<2 ^ 64 by omega))
    omega
   have HQ:=aa hq
   generalize p*b=q at *
   clear hp hq
   go_wp2
   go_round
   case rel=>exact⟨d+1,q,by go_num,rfl,HQ.out,hpb,hd2⟩
   case measure=>simp [intOf];omega
  ·have i1:¬((p:Int)≤(m:Int)):=by omega
   clear hp
   go_wp2
   go_returns
   refine⟨d,p,rfl,⟨HP.out,hpl,?_,?_,hd⟩,rfl⟩
   ·have:=Nat.mul_le_mul_right b (show m+1≤p by omega)
    have:=HM.out.2
    omega
   ·rcases Nat.eq_zero_or_pos d with h|h
    ·have:=HP.out;rw [h] at this;simp at this;omega
    ·exact h

def bv (z:Nat):Value:=.int .u8 (z:Int)

def Byt (w:World)(b:Nat)(xs:List Nat):Prop:=w.heap[b]?=some (.cells (xs.map bv).toArray 5 (0,0))

theorem Byt.lt {w:World}{b:Nat}{xs:List Nat}(h:Byt w b xs):b<w.heap.size:=lt_of_block h

theorem Byt.cell {w:World}{b:Nat}{xs:List Nat}(h:Byt w b xs)(k:Nat)(hk:k<xs.length):w.cell? ⟨b,k,none⟩=some (.int .u8 ((xs.getD k 0:Nat):Int)):=by
 simp [World.cell?,show w.heap[b]?=_ from h,hk,bv,List.getD]

theorem Byt.free {w:World}{b:Nat}{xs:List Nat}(h:Byt w b xs)(k:Nat):w.frozen? ⟨b,k,none⟩=false:=by
 simp [World.frozen?,show w.heap[b]?=_ from h]

theorem Byt.set {w:World}{b:Nat}{xs:List Nat}(h:Byt w b xs)(k z:Nat):Byt (w.setCell ⟨b,k,none⟩ (.int .u8 (z:Int))) b (xs.set k z):=by
 have hlt:=h.lt
 have h':w.heap[b]=.cells (xs.map bv).toArray 5 (0,0):=by simpa [Array.getElem?_eq_getElem hlt] using (show w.heap[b]?=_ from h)
 show (w.heap.modify b _)[b]?=_
 rw [Array.getElem?_eq_getElem (by simpa using hlt),Array.getElem_modify_self,h']
 simp [List.map_set,bv]

theorem Byt.below {w w':World}{b B:Nat}{xs:List Nat}(h:Byt w b xs)(hb:Below B w w')(hB:b<B):Byt w' b xs:=by
 unfold Byt;rw [hb.block b hB];exact h

theorem gW (X out:List Nat)(m k cy c0:Nat)(hk:k<out.length)(h:val (out.take k)+cy*18446744073709551616 ^ k=val (X.take k)*m+c0) :
  val ((out.set k ((X.getD k 0*m+cy) % 18446744073709551616)).take (k+1))+(X.getD k 0*m+cy) / 18446744073709551616*18446744073709551616 ^ (k+1)=val (X.take (k+1))*m+c0:=by
 rw [take_set_succ _ _ _ hk,val_take_next X]
 generalize X.getD k 0=x
 have hd:=Nat.div_add_mod (x*m+cy) 18446744073709551616
 generalize (x*m+cy) % 18446744073709551616=r at *
 generalize (x*m+cy) / 18446744073709551616=d at *
 rw [Nat.pow_succ,Nat.add_mul]
 generalize (18446744073709551616:Nat) ^ k=p at *
 have e1:p*(18446744073709551616*d+r)=p*(x*m+cy):=by rw [hd]
 rw [Nat.mul_add,Nat.mul_add] at e1
 have e2:d*(p*18446744073709551616)=p*(18446744073709551616*d):=by rw [←Nat.mul_assoc,Nat.mul_comm d p,Nat.mul_assoc,Nat.mul_comm d]
 have e3:cy*p=p*cy:=Nat.mul_comm _ _
 have e4:p*x*m=p*(x*m):=Nat.mul_assoc _ _ _
 omega

theorem iP (X out:List Nat)(k q:Nat)(h:out.drop k=X.drop k):(out.set k q).drop (k+1)=X.drop (k+1):=by
 have e:(out.set k q).drop (k+1)=out.drop (k+1):=by
  rw [List.drop_set,if_pos (by omega)]
 rw [e]
 have h2:=congrArg (List.drop 1) h
 simpa [List.drop_drop,Nat.add_comm] using h2

theorem jn (X out:List Nat)(k:Nat)(h:out.drop k=X.drop k):out.getD k 0=X.getD k 0:=by
 have h2:=congrArg (fun l=>l.getD 0 0) h
 simpa [List.getD,List.getElem?_drop] using h2

def cG (base:Nat)(v:Value)(n x m more:Nat)(w:World)(e:Ending)(w':World):Prop:=
 ∃(c:Nat) (Z:List Nat),e=.returned (.int .u64 c)∧c<18446744073709551616∧Z.length=n∧Ans w' base v Z∧val Z+c*18446744073709551616 ^ n=x*m+more∧Below base w w'

theorem iu (base g cap m more:Nat)(X:List Nat)(w:World)(hA:Ans w base (.slice (some ⟨g,0,none⟩) X.length cap) X)(hm:m<18446744073709551616)(hmo:more<18446744073709551616) :
  Calls Tryz.prog 114 #[.slice (some ⟨g,0,none⟩) X.length cap,.int .u64 m,.int .u64 more] w (cG base (.slice (some ⟨g,0,none⟩) X.length cap) X.length (val X) m more w):=by
 obtain⟨⟨hc1,hc2⟩,_,_⟩:=Ans.cellAt5 hA
 have hbg:base≤g:=(hA.own.lt g rfl).1
 have M1:=hA.limbs
 have HA:=aa hA
 clear hA
 go_enter Tryz.func114,Tryz.ntmps114
 go_wp2
 go_loopw [2,13] (fun c i wr=>∃(k cy:Nat) (out:List Nat),k≤X.length∧i=.int .i64 k∧c=.int .u64 cy∧cy<18446744073709551616∧out.length=X.length∧Ans wr base (.slice (some ⟨g,0,none⟩) out.length cap) out∧Below base w wr ∧
   val (out.take k)+cy*18446744073709551616 ^ k=val (X.take k)*m+more∧out.drop k=X.drop k) (fun _ i _=>X.length - (intOf i).toNat)
 case atStart=>exact⟨0,more,X,Nat.zero_le _,rfl,rfl,hmo,rfl,HA.out,Below.refl _ _,by simp [val],rfl⟩
 case round=>
  obtain⟨k,cy,out,hk,rfl,rfl,hcy,hlen,hans,hbl,hval,htk⟩:=hrel
  clear HA
  obtain⟨_,hfz,hcell⟩:=Ans.cellAt5 hans
  have HX:=aa hans
  have HL:=aa hbl
  by_cases hkl:k<X.length
  ·have hco:=hcell k (by omega)
   have hfr:=hfz k
   rw [jn X out k htk] at hco
   have hts:=iP X out k ((X.getD k 0*m+cy) % 18446744073709551616) htk
   have z1:=limb_lt M1 k
   have hst:=gW X out m k cy more (by omega) hval
   have hmh:=mul_hi (X.getD k 0) m cy z1 hm hcy
   have ha:=bD (X.getD k 0*m % 18446744073709551616) cy
   have hM:=Tryz.bits_Mul64 (X.getD k 0) m z1 hm wr
   generalize X.getD k 0=x at *
   rw [hmh.2.2] at ha
   have hs1:(x*m+cy) % 18446744073709551616<18446744073709551616:=Nat.mod_lt _ (by omega)
   have hd1:=hmh.2.1
   have hsum:x*m / 18446744073709551616+(x*m % 18446744073709551616+cy) / 18446744073709551616=(x*m+cy) / 18446744073709551616:=hmh.1
   clear hmh
   generalize (x*m+cy) % 18446744073709551616=s at *
   generalize (x*m+cy) / 18446744073709551616=d at *
   generalize (x*m % 18446744073709551616+cy) / 18446744073709551616=ov at *
   generalize x*m % 18446744073709551616=lo at *
   generalize x*m / 18446744073709551616=hi at *
   have HS:=aa (And.intro hst hts)
   have hsI:(hi:Int)+(ov:Int)=(d:Int):=by omega
   clear hst hts hcell hans hbl hval htk M1 hsum hfz
   go_wp2_with fail
   refine hM.mono ?_
   rintro e w2 ⟨rfl,rfl⟩
   clear hM
   go_wp2
   go_roundw
   case rel=>exact⟨k+1,d,out.set k s,by omega,by go_num,rfl,hd1,by simp;omega,HX.out.stored k s hs1,HL.out.setCell hbg _,HS.out.1,HS.out.2⟩
   case measure=>simp [intOf];omega
  ·have ek:k=X.length:=by omega
   subst ek
   rw [List.take_length,←hlen,List.take_length,hlen] at hval
   have HV:=aa hval
   clear hans hbl hcell hval htk hfz
   go_wp2
   go_ret
   refine⟨cy,out,rfl,hcy,hlen,?_,HV.out,HL.out⟩
   have:=HX.out;rw [hlen] at this;exact this

theorem g7 (base m more:Nat)(w:World)(hmo:more<18446744073709551616) :
  Calls Tryz.prog 114 #[.slice none 0 0,.int .u64 m,.int .u64 more] w (cG base (.slice none 0 0) 0 0 m more w):=by
 go_enter Tryz.func114,Tryz.ntmps114
 go_wp2
 refine wp_loop_rounds 1 ?_
 rw [rounds_succ]
 go_wp2
 go_ret
 exact⟨more,[],rfl,hmo,rfl,Ans.nil _ _,by simp [val],Below.refl _ _⟩

theorem ja (base m more:Nat)(v:Value)(X:List Nat)(w:World)(hA:Ans w base v X)(hm:m<18446744073709551616)(hmo:more<18446744073709551616) :
  Calls Tryz.prog 114 #[v,.int .u64 m,.int .u64 more] w (cG base v X.length (val X) m more w):=by
 rcases hA.form with ⟨rfl,rfl⟩|⟨g,cap,rfl,_⟩
 ·exact g7 base m more w hmo
 ·exact iu base g cap m more X w hA hm hmo

def dvr (b:Nat)(D:List Nat)(o:Nat):Nat→Nat
 | 0=>0
 | n+1=>dvr b D o n*b+D.getD (o+n) 0

theorem bA (b:Nat)(D:List Nat)(o n:Nat):∀m,dvr b D o (n+m)=dvr b D o n*b ^ m+dvr b D (o+n) m
 | 0=>by simp [dvr]
 | m+1=>by
  rw [show n+(m+1)=(n+m)+1 by omega,dvr,bA b D o n m,dvr,Nat.pow_succ,Nat.add_mul,Nat.mul_assoc,show o+(n+m)=o+n+m by omega]
  omega

theorem bN (b:Nat)(D:List Nat)(o:Nat)(hb:0<b):∀n,(∀i,i<n→D.getD (o+i) 0<b)→dvr b D o n<b ^ n
 | 0,_=>by simp [dvr]
 | n+1,h=>by
  have h1:=bN b D o hb n (fun i hi=>h i (by omega))
  have h2:=h n (by omega)
  rw [dvr,Nat.pow_succ]
  have h3:(dvr b D o n+1)*b≤b ^ n*b:=Nat.mul_le_mul_right b h1
  rw [Nat.add_mul,Nat.one_mul] at h3
  omega

theorem cQ {Z:List Nat}(hl:Limbs Z)(h:Z=[]∨18446744073709551616 ^ (Z.length - 1)≤val Z):tr Z=Z:=by
 rcases h with rfl|h
 ·rfl
 ·have h1:=tr_length_le Z
  have h2:=val_lt (limbs_tr hl)
  rw [val_tr] at h2
  have h3:=(Nat.pow_lt_pow_iff_right (show 1<18446744073709551616 by omega)).1 (Nat.lt_of_le_of_lt h h2)
  have e:(tr Z).length=Z.length:=by omega
  have key:∀Z:List Nat,(tr Z).length=Z.length→tr Z=Z:=by
   intro Z
   induction Z with
   | nil=>intro _;rfl
   | cons a r ih=>
    intro h
    unfold tr at h ⊢
    split
    ·rename_i hc;rw [if_pos hc] at h;simp at h
    ·rename_i hc;rw [if_neg hc] at h;rw [ih (by simpa using h)]
  exact key Z e

theorem cK {Z:List Nat}(h:tr Z=Z):Z=[]∨18446744073709551616 ^ (Z.length - 1)≤val Z:=by
 rcases Nat.eq_zero_or_pos Z.length with h0|h0
 ·exact .inl (List.eq_nil_of_length_eq_zero h0)
 ·have:=tr_val_ge Z (Z.length - 1) (by rw [h];omega)
  rw [h] at this
  exact .inr this

theorem iv {X Z:List Nat}{c m more:Nat}(hX:tr X=X)(hZ:Limbs Z)(hl:Z.length=X.length)(hm:0<m)(h:val Z+c*18446744073709551616 ^ X.length=val X*m+more)(hc:c=0):tr Z=Z:=by
 subst hc
 refine cQ hZ ?_
 rcases cK hX with h0|h0
 ·left;rw [h0] at hl;exact List.eq_nil_of_length_eq_zero (by simpa using hl)
 ·right
  rw [hl]
  have:val X*1≤val X*m:=Nat.mul_le_mul_left _ hm
  omega

theorem dl (Z:List Nat)(c:Nat):val (Z ++ [c])=val Z+c*18446744073709551616 ^ Z.length:=by
 induction Z with
 | nil=>simp [val]
 | cons a r ih=>
  simp only [List.cons_append,val,List.length_cons,ih,Nat.pow_succ]
  rw [Nat.mul_add,←Nat.add_assoc]
  congr 1
  rw [Nat.mul_comm (18446744073709551616 ^ r.length) _,Nat.mul_left_comm]

theorem fG {Z:List Nat}{c:Nat}(hZ:Limbs Z)(hc0:c≠0)(hc:c<18446744073709551616):Limbs (Z ++ [c])∧tr (Z ++ [c])=Z ++ [c]:=by
 have hl:Limbs (Z ++ [c]):=by
  intro z hz
  rcases List.mem_append.1 hz with h|h
  ·exact hZ z h
  ·simp at h;omega
 refine⟨hl,cQ hl (.inr ?_)⟩
 rw [dl]
 have:1*18446744073709551616 ^ Z.length≤c*18446744073709551616 ^ Z.length:=Nat.mul_le_mul_right _ (by omega)
 simp
 omega

theorem jf {n k d:Nat}(hd:1≤d)(hk:k<n)(h:k=0∨(n - k) % d=0):(k=0∨(n - k - 1) % d+1=d)∧(n - k - 1) % d+1≤d∧k+((n - k - 1) % d+1)≤n∧(n - (k+((n - k - 1) % d+1))) % d=0:=by
 have h1:(n - k - 1) % d<d:=Nat.mod_lt _ hd
 have h2:(n - k - 1) % d≤n - k - 1:=Nat.mod_le _ _
 have h3:(n - (k+((n - k - 1) % d+1))) % d=0:=by
  have e:n - (k+((n - k - 1) % d+1))=(n - k - 1) - (n - k - 1) % d:=by omega
  rw [e]
  exact Nat.sub_mod_eq_zero_of_mod_eq (Nat.mod_mod _ _).symm
 refine⟨?_,by omega,by omega,h3⟩
 rcases h with h|h
 ·exact .inl h
 ·right
  obtain⟨q,hq⟩:=Nat.dvd_of_mod_eq_zero h
  have hq0:0<q:=by
   rcases Nat.eq_zero_or_pos q with h0|h0
   ·rw [h0] at hq;omega
   ·exact h0
  obtain⟨q',rfl⟩:∃q',q=q'+1:=⟨q - 1,by omega⟩
  have e:n - k - 1=d*q'+(d - 1):=by rw [hq,Nat.mul_succ];omega
  rw [e,Nat.mul_add_mod,Nat.mod_eq_of_lt (by omega)]
  omega

def fW (b o n:Nat)(D:List Nat)(w:World)(e:Ending)(w':World):Prop:=
 ∃v Z,e=.returned v∧Ans w' w.heap.size v Z∧val Z=dvr b D o n∧tr Z=Z∧Z.length≤n∧Below w.heap.size w w'

theorem fA (gd o n cap b:Nat)(D:List Nat)(w:World)(hD:Byt w gd D)(ho:o+n≤D.length)(hn:n≤cap)(hcap:cap≤9223372036854775807)(hnf:n≤1099511627776)(hdig:∀i,i<n→D.getD (o+i) 0<b)(hb:2≤b)(hb2:b≤36) :
  Calls Tryz.prog 93 #[.slice (some ⟨gd,o,none⟩) n cap,.int .i64 b] w (fW b o n D w):=by
 have HU:=ei b w hb hb2
 obtain⟨i0,hi,hz0,hz1,hz2⟩:=info_parts Tryz.infoU
 have hgd:=hD.lt
 have HD:=aa hD
 have HDg:=aa hdig
 clear hD hdig
 go_enter Tryz.func93,Tryz.ntmps93
 go_wp2_with fail
 refine HU.mono ?_
 rintro e wn ⟨d,p,rfl,hu,hw⟩;rw [hw];clear hw wn HU
 have hpf:=hu.fits
 have hp0:0<p:=by rw [hu.pow];exact Nat.pow_pos (by omega)
 have hd1:=hu.some
 have hd2:=hu.few
 have hdz:((d:Int) == 0)=false:=by rw [beq_eq_false_iff_ne];omega
 have HP:=aa hu.pow
 clear hu
 go_wp2
 go_loopw [0,7] (fun s a wr=>∃(k cc:Nat) (ao:Option Addr) (v:Value) (Z:List Nat),k≤n∧s=.slice ao (n - k) cc∧(k<n→ao=some ⟨gd,o+k,none⟩∧cc=cap - k)∧v=a∧Ans wr w.heap.size v Z∧val Z=dvr b D o k∧tr Z=Z∧Z.length≤k∧(k=0∨(n - k) % d=0)∧Below w.heap.size w wr) (fun s _ _=>match s with | .slice _ l _=>l | _=>0)
 case atStart=>exact⟨0,cap,_,_,[],Nat.zero_le _,rfl,fun _=>⟨rfl,rfl⟩,rfl,Ans.nil _ _,rfl,rfl,Nat.le_refl _,.inl rfl,Below.refl _ _⟩
 case round=>
  obtain⟨k,cc,ao,v,Z,hk,rfl,hao,rfl,hAns,hval,hnorm,hZl,hpc,hbl⟩:=hrel
  by_cases hkn:k<n
  ·obtain⟨rfl,rfl⟩:=hao hkn
   obtain⟨pc1,pc2,pc3,pc4⟩:=jf hd1 hkn hpc
   have hr0:(0:Int)<((n - k:Nat):Int):=by omega
   have hrm:(((n - k:Nat):Int) - 1).tmod (d:Int)=(((n - k - 1) % d:Nat):Int):=by
    rw [show ((n - k:Nat):Int) - 1=((n - k - 1:Nat):Int) by omega];rfl
   obtain⟨c,hc,hci⟩:∃c,(n - k - 1) % d+1=c∧(((n - k - 1) % d:Nat):Int)+1=(c:Int):=⟨_,rfl,by omega⟩
   rw [hc] at pc1 pc2 pc3 pc4
   generalize (n - k - 1) % d=c' at *
   have HPC:=aa (And.intro pc1 pc4)
   have HAn:=aa hAns
   have HV:=aa (And.intro hval hnorm)
   have HB:=aa hbl
   obtain⟨R,hR1,hR2⟩:∃R,n - k=R∧c≤R:=⟨_,rfl,by omega⟩
   obtain⟨C,hC1,hC2⟩:∃C,cap - k=C∧R≤C:=⟨_,rfl,by omega⟩
   rw [hR1] at hr0 hrm
   rw [hR1,hC1]
   clear hao hAns hval hnorm hpc hbl pc1 pc4
   have HBy:=aa (HD.out.below HB.out hgd)
   have HLT:=aa (fun q (hq:q≤c)=>bN b D (o+k) (by omega) q (fun i hi=>by rw [Nat.add_assoc];exact HDg.out (k+i) (by omega)))
   go_wp2
   go_loop [9,30] (fun x i=>∃(j y:Nat),j≤c∧i=.int .i64 j∧x=.int .u64 y∧y=dvr b D (o+k) j) (fun _ i=>c - (intOf i).toNat)
   case atStart=>exact⟨0,0,Nat.zero_le _,rfl,rfl,rfl⟩
   case round=>
    obtain⟨j,y,hj,rfl,rfl,hy⟩:=hrel
    by_cases hjc:j<c
    ·have hco:=HBy.out.cell (o+k+j) (by omega)
     have hy2:y*b+D.getD (o+k+j) 0=dvr b D (o+k) (j+1):=by rw [dvr,hy]
     have hfit:y*b+D.getD (o+k+j) 0<18446744073709551616:=by
      rw [hy2]
      have h1:=HLT.out (j+1) (by omega)
      have h2:b ^ (j+1)≤b ^ d:=Nat.pow_le_pow_right (by omega) (by omega)
      rw [←HP.out] at h2
      omega
     have hdb:D.getD (o+k+j) 0<b:=by have:=HDg.out (k+j) (by omega);rw [←Nat.add_assoc] at this;exact this
     have eyb:(y:Int)*(b:Int)=((y*b:Nat):Int):=by simp
     have HY:=aa hy2
     generalize D.getD (o+k+j) 0=g at *
     generalize y*b=yb at *
     have egg:(yb:Int)+(g:Int)=((yb+g:Nat):Int):=by omega
     generalize yb+g=t at *
     have hjR:j<R:=by omega
     clear hy hy2
     go_wp2
     go_round
     case rel=>exact⟨j+1,t,by omega,by go_num,by go_num,HY.out⟩
     case measure=>simp [intOf];omega
    ·have ej:j=c:=by omega
     subst ej
     have hyf:y<18446744073709551616:=by
      rw [hy]
      have h1:=HLT.out j (by omega)
      have h2:b ^ j≤b ^ d:=Nat.pow_le_pow_right (by omega) (by omega)
      rw [←HP.out] at h2
      omega
     have HG:=ja w.heap.size p y v Z wr HAn.out hpf hyf
     have HY:=aa hy
     clear hy
     go_wp2_with fail
     refine HG.mono ?_
     rintro e w2 ⟨c1,Z2,rfl,hc1,hl2,hA2,hv2,hb2'⟩
     have hfin:val Z*p+y=dvr b D o (k+j):=by
      rw [bA,HY.out,HV.out.1,HP.out]
      rcases HPC.out.1 with h0|h0
      ·subst h0;simp [dvr]
      ·rw [h0]
     have HF:=aa hfin
     have HB2:=aa (HB.out.trans hb2')
     have hkj:n - (k+j)=R - j:=by omega
     by_cases hc0:c1=0
     ·have hnm:=iv HV.out.2 hA2.limbs hl2 hp0 hv2 hc0
      subst hc0
      rw [Nat.zero_mul,Nat.add_zero,hfin] at hv2
      have HE:=aa (And.intro hA2 (And.intro hv2 (And.intro hnm (show Z2.length≤k+j by omega))))
      clear hA2 hv2 hb2' hfin hnm HG HB HAn HBy HLT HV
      go_wp2
      go_roundw
      case rel=>exact⟨k+j,C - j,_,_,Z2,by omega,by rw [hkj],fun h=>⟨by rw [if_neg (by omega),Nat.add_assoc],by omega⟩,rfl,HE.out.1,HE.out.2.1,HE.out.2.2.1,HE.out.2.2.2,.inr HPC.out.2,HB2.out⟩
      case measure=>show R - j<R;omega
     ·obtain⟨hsl,hsn⟩:=fG hA2.limbs hc0 hc1
      have hsv:val (Z2 ++ [c1])=dvr b D o (k+j):=by rw [dl,hl2,hv2,hfin]
      have HE:=aa (And.intro hsv (And.intro hsn (And.intro hsl (show (Z2 ++ [c1]).length≤k+j by simp;omega))))
      have hown:=hA2.own
      have hgt:(0:Int)<(c1:Int):=by omega
      have hlt2:=hA2.own.lt
      clear hv2 hb2' hfin hsl hsn hsv HG HB HAn HBy HLT HV hA2
      go_wp2_with (at_builtin;refine wpList_append_own _ rfl _ _ 23 rfl w.heap.size 63 i0 (.int .u64 0) 1 8 Tryz.underlying23 hi hz0 hz1 hz2 rfl (by decide) _ _ _ rfl (World.ownsRow.alloc hown _) ⟨w2.heap.size,0,none⟩ 1 1 ([c1].map lv) rfl rfl (bp [c1]) (bi _) (by unfold maxLen;omega) (by omega) (by have:=HB2.out.size;simp;omega) ?_;intro v' w3 hown2 hgrow2 _)
      have HA3:Hid (Ans w3 w.heap.size v' (Z2 ++ [c1])):=aa ⟨by rw [List.length_append,List.map_append];exact hown2,HE.out.2.2.1⟩
      have HB3:=aa ((HB2.out.alloc HB2.out.size (.cells ([c1].map lv).toArray 63)).grown hgrow2 (by have:=HB2.out.size;simp;omega) (fun k hk=>(hlt2 k hk).1))
      clear hown2 hgrow2 hown hlt2 HB2
      go_wp2
      go_roundw
      case rel=>exact⟨k+j,C - j,_,_,Z2 ++ [c1],by omega,by rw [hkj],fun h=>⟨by rw [if_neg (by omega),Nat.add_assoc],by omega⟩,rfl,HA3.out,HE.out.1,HE.out.2.1,HE.out.2.2.2,.inr HPC.out.2,HB3.out⟩
      case measure=>show R - j<R;omega
  ·have ek:n=k:=by omega
   subst ek
   rw [Nat.sub_self]
   have HE:=aa (And.intro hAns (And.intro hval (And.intro hnorm (And.intro hZl hbl))))
   clear hao hAns hval hnorm hbl hpc
   go_wp2
   go_ret
   exact⟨v,Z,rfl,HE.out.1,HE.out.2.1,HE.out.2.2.1,HE.out.2.2.2.1,HE.out.2.2.2.2⟩

theorem d4 {M:List Nat}{s u V:Nat}(hM:s+u≤M.length)(h:sv M 0 (s+u)=V)(hV:V<18446744073709551616 ^ s):sv M s u=0∧sv M 0 s=V:=by
 rw [aj M 0 s u (by omega),Nat.zero_add] at h
 have h0:sv M s u=0:=by
  rcases Nat.eq_zero_or_pos (sv M s u) with h1|h1
  ·exact h1
  ·have:=Nat.mul_le_mul_left (18446744073709551616 ^ s) h1
   omega
 rw [h0,Nat.mul_zero,Nat.add_zero] at h
 exact⟨h0,h⟩

theorem d6 {M M' U:List Nat}{s o V:Nat}(hl:M'.length=s+U.length)(h0:sv M 0 s=V)(hO:Out M M' o (o+U.length))(hv:sv M' o U.length=val U)(ho:o=s∨(U.length=0∧o=0)):val M'=V+18446744073709551616 ^ s*val U:=by
 rw [←bf M',hl,aj M' 0 s U.length (by omega),Nat.zero_add]
 rcases ho with rfl|⟨hu,rfl⟩
 ·rw [hv,hO.sv 0 o (by omega),h0]
 ·have hU:U=[]:=List.eq_nil_of_length_eq_zero hu
  rw [hU] at hO ⊢
  rw [hO.sv 0 s (by simp),h0]
  simp [sv,seg,val]

theorem du {M' U:List Nat}{s V:Nat}(hl:M'.length=s+U.length)(hM:Limbs M')(hn:tr U=U)(hU:0<val U)(hv:val M'=V+18446744073709551616 ^ s*val U):tr M'=M':=by
 refine cQ hM (.inr ?_)
 rcases cK hn with h|h
 ·rw [h] at hU;simp [val] at hU
 ·have h1:=Nat.mul_le_mul_left (18446744073709551616 ^ s) h
  have hp:1≤U.length:=by
   rcases Nat.eq_zero_or_pos U.length with h2|h2
   ·rw [List.eq_nil_of_length_eq_zero h2] at hU;simp [val] at hU
   ·exact h2
  rw [←Nat.pow_add,show s+(U.length - 1)=M'.length - 1 by omega] at h1
  omega

theorem gJ (d s:Nat)(ao:Option Addr)(co:Nat)(vh:Value)(bl ol cl:Nat)(O H Lw:List Nat)(w:World)(hO:Arg w (.slice ao O.length co) O)(hH:Arg w vh H)(hL:Arg w (.slice (some ⟨bl,ol,none⟩) Lw.length cl) Lw)(hT:Tab w)
  (hl1:O.length+H.length≤1099511627776) (hl2:Lw.length≤1099511627776) (hs:s≤1099511627776) :
  Calls Tryz.prog 94 #[.agg #[.int .i64 d,.slice ao O.length co,.int .i64 s],vh,.slice (some ⟨bl,ol,none⟩) Lw.length cl] w (Joined (val H) (val O) s (val Lw) w):=by
 obtain⟨i0,hi,hz0,hz1,hz2⟩:=info_parts Tryz.infoU
 obtain⟨w0,hw0⟩:∃w0,w.alloc (.cells #[.int .i64 d,.slice ao O.length co,.int .i64 s] 88)=w0:=⟨_,rfl⟩
 have hb0:Below w.heap.size w w0:=by rw [←hw0];exact ac _ _
 have h0:w0.heap[w.heap.size]?=some (.cells #[.int .i64 d,.slice ao O.length co,.int .i64 s] 88):=by rw [←hw0];exact heap_alloc_new ..
 obtain⟨k0,k1,k2⟩:=tri h0
 obtain⟨nn,hnn,hn2⟩:∃nn:Nat,min (s:Int) (Lw.length:Int)=(nn:Int)∧nn=min s Lw.length:=⟨min s Lw.length,by omega,rfl⟩
 have hM:=ck vh _ H O w0 (hH.below hb0) (hO.below hb0) (hT.below hb0) (by omega)
 have HB0:=aa hb0
 have H0:=aa h0
 have HLa:=aa hL
 have HT:=aa hT
 obtain⟨lp1,lp2,lp3⟩:=fs HLa.out.limbs s nn hn2
 have hnl:nn≤Lw.length:=by omega
 have hns:nn≤s:=by omega
 have HLP:=aa (And.intro lp1 (And.intro lp2 lp3))
 clear hb0 h0 hL hT hO hH hn2 lp1 lp2 lp3
 go_enter Tryz.func94,Tryz.ntmps94
 go_wp2_with fail
 refine hM.mono ?_
 rintro e w1 ⟨hb1,v1,c,rs,rfl,A1,hcase⟩
 have hB1:=HB0.out.trans (hb1.mono HB0.out.size)
 have h1:w1.heap[w.heap.size]?=some (.cells #[.int .i64 d,.slice ao O.length co,.int .i64 s] 88):=by rw [hb1.block w.heap.size (lt_of_block H0.out)];exact H0.out
 clear k0 k1 k2 hM
 rcases hcase with ⟨rfl,hv1,hn1,hbl1⟩|⟨rfl,rfl,hbl1⟩
 ·obtain⟨o2,hif,ho2⟩:∃o2,(if cl=nn then some (⟨bl,ol,none⟩:Addr) else some ⟨bl,ol+nn,none⟩)=some ⟨bl,o2,none⟩∧(o2=ol+nn∨Lw.length=nn):=by
   obtain⟨_,_,e,hle,_,_⟩:=HLa.out.form
   cases e
   by_cases h:cl=nn
   ·exact⟨ol,by rw [if_pos h],.inr (by omega)⟩
   ·exact⟨ol+nn,by rw [if_neg h],.inl rfl⟩
  have hlc:Lw.length≤cl:=by obtain⟨_,_,e,hle,_,_⟩:=HLa.out.form;cases e;exact hle
  have hAL:=cW (HLa.out.below hB1) ho2 (by omega) (show Lw.length - nn≤cl - nn by omega) (by omega)
  have l1:rs.length≤1048576:=bw hn1 (by rw [hv1];omega)
  have hAd:=eo v1 _ rs (Lw.drop nn) w1 (A1.arg (by omega)) hAL (by omega) (by simp;omega)
  rw [hv1,←HLP.out.2.1] at hAd
  have HB1:=aa hB1
  have H1:=aa h1
  have hncl:nn≤cl:=by omega
  clear hb1 hB1 h1 A1 hAL hv1 hn1 hbl1 ho2
  go_wp2_with fail
  refine hAd.mono ?_
  rintro e w2 ⟨hb2,v2,c,U,rfl,A2,hcase⟩
  have hB2:=HB1.out.trans (hb2.mono HB1.out.size)
  have h2:w2.heap[w.heap.size]?=some (.cells #[.int .i64 d,.slice ao O.length co,.int .i64 s] 88):=by rw [hb2.block w.heap.size (lt_of_block H1.out)];exact H1.out
  clear hAd
  rcases hcase with ⟨rfl,hv2,hn2,hbl2⟩|⟨rfl,rfl,hbl2⟩
  ·have lU:U.length≤1048576:=bw hn2 (by rw [hv2];omega)
   obtain⟨a5,c5,rfl,_,_,_⟩:=(A2.arg (by omega)).form
   obtain⟨N,hN,hNi⟩:∃N,N=s+U.length∧(s:Int)+(U.length:Int)=(N:Int):=⟨_,rfl,by omega⟩
   have hNs:N - s=U.length:=by omega
   obtain⟨o5,hif5,ho5⟩:∃o5,(∀g:Nat,(if N=s then some (⟨g,0,none⟩:Addr) else some ⟨g,s,none⟩)=some ⟨g,o5,none⟩)∧((o5=s∨(U.length=0∧o5=0))∧o5+U.length≤N):=by
    by_cases h:N=s
    ·exact⟨0,fun g=>by rw [if_pos h],.inr ⟨by omega,rfl⟩,by omega⟩
    ·exact⟨s,fun g=>by rw [if_neg h],.inl rfl,by omega⟩
   have lTk:(Lw.take nn).length=nn:=by rw [List.length_take];omega
   have HB2:=aa hB2
   have HA2:=aa A2
   have HV2:=aa (And.intro hv2 hn2)
   obtain⟨k0,k1,k2⟩:=tri h2
   have H2:=aa h2
   have HNN:=aa hN
   have HO5:=aa ho5
   have hsN:s≤N:=by omega
   have hnN:nn≤N:=by omega
   have hwl:w.heap.size<w2.heap.size:=lt_of_block h2
   clear hb2 hB2 A2 hv2 hn2 hbl2 h2 hN ho5 hif
   go_wp2_with (at_make;refine wpList_make_full _ rfl _ _ 23 rfl w2.heap.size 63 i0 (.int .u64 0) 1 Tryz.underlying23 hi hz0 hz1 .i64 .i64 _ _ N rfl rfl (by omega) (by omega) (by rw [hz2];omega) (by unfold maxLen;omega) (Nat.le_refl _) ?_;intro w3 hown hgrow;have hbel3:Below w2.heap.size w2 w3:=(Below.refl w2.heap.size w2).grown hgrow (Nat.le_refl _) (fun k hk=>by cases hk);obtain⟨w4,M4,hcp,B4,L4,F4,O4,S4⟩:=be w2.heap.size 0 N N (List.replicate N 0) (some ⟨bl,ol,none⟩) cl (Lw.take nn) w3 (Blk.made hown) (limbs_replicate _) (HLa.out.front nn hnl).limbs (bE N 0 N) (by simp) (by rw [lTk];omega) (af.arg ((HLa.out.front nn hnl).below (HB2.out.trans (hbel3.mono HB2.out.size))));rw [lTk] at hcp;have hbel4:Below w2.heap.size w2 w4:=hbel3.trans (F4.below (Nat.le_refl _) hbel3.size);obtain⟨j0,j1,j2⟩:=tri ((hbel4.block w.heap.size hwl).trans H2.out);have hM4l:M4.length=N:=by rw [O4.len,List.length_replicate])
   obtain⟨z0,z1⟩:=d4 (M:=M4) (s:=s) (u:=U.length) (by have:=HNN.out;omega) (by rw [←HNN.out];exact S4) HLP.out.2.2
   have hz5:sv M4 o5 U.length=0:=by
    rcases HO5.out.1 with h|⟨h,_⟩
    ·rw [h];exact z0
    ·rw [h];exact au _ _
   have hLu:af w4 a5 U:=by
    obtain⟨_,_,e,_,_,hl⟩:=((HA2.out.arg (by omega)).below hbel4).form
    cases e
    exact hl
   obtain⟨w5,M5,hcp2,B5,L5,F5,O5,S5⟩:=be w2.heap.size o5 U.length U.length M4 a5 c5 U w4 B4 L4 HA2.out.limbs hz5 (by rw [hM4l];exact HO5.out.2) (Nat.le_refl _) hLu
   have hbel5:Below w2.heap.size w2 w5:=hbel4.trans (F5.below (Nat.le_refl _) hbel4.size)
   have hM5l:M5.length=s+U.length:=by rw [O5.len,hM4l];exact HNN.out
   have hval:=d6 hM5l z1 O5 S5 HO5.out.1
   have hnrm:=fun h=>du hM5l L5 HV2.out.2 h hval
   have hAns:Ans w5 w.heap.size (.slice (some ⟨w2.heap.size,0,none⟩) N N) M5:=by
    have h:=Ans.of_blk (base:=w.heap.size) (zs:=M5) (by omega) B5 List.take_length.symm (Nat.le_refl _) (by omega) L5
    rw [hM5l,←HNN.out] at h
    exact h
   have HF:=aa (And.intro hAns (And.intro hval (And.intro hnrm (HB2.out.trans (hbel5.mono HB2.out.size)))))
   have HM5:=aa hM5l
   clear hown hgrow hbel3 hbel4 hbel5 B4 L4 F4 O4 S4 B5 L5 F5 O5 S5 hval hnrm hAns hLu hz5 z0 z1 hM5l hi hz0 hz1 hz2
   go_wp2
   rw [hcp2]
   go_wp2
   go_returns
   refine⟨HF.out.2.2.2,.inl ⟨_,M5,rfl,HF.out.1,?_,fun h=>HF.out.2.2.1 ?_,?_⟩⟩
   ·rw [HF.out.2.1,HV2.out.1,HLP.out.2.1,Nat.mul_add]
    have e1:=HLP.out.1
    have e2:18446744073709551616 ^ s*(val H*val O)=val H*val O*18446744073709551616 ^ s:=Nat.mul_comm _ _
    omega
   ·rw [HV2.out.1];exact Nat.lt_of_lt_of_le h (Nat.le_add_right _ _)
   ·rw [HM5.out];omega
  ·have HB2:=aa hB2
   have HBG:=aa hbl2
   clear hb2 hB2 A2 hbl2 h2
   go_wp2
   go_returns
   exact⟨HB2.out,.inr ⟨rfl,HBG.out⟩⟩
 ·have HB1:=aa hB1
  have HBG:=aa (Nat.lt_of_lt_of_le hbl1 (bn (Nat.le_add_right (val H*val O) (val Lw / 18446744073709551616 ^ s))))
  clear hb1 hB1 A1 hbl1
  go_wp2
  go_returns
  exact⟨HB1.out,.inr ⟨rfl,HBG.out⟩⟩

theorem gg (d s:Nat)(ao:Option Addr)(co:Nat)(vh:Value)(O H:List Nat)(w:World)(hO:Arg w (.slice ao O.length co) O)(hH:Arg w vh H)(hT:Tab w)
  (hl1:O.length+H.length≤1099511627776) (hs:s≤1099511627776) :
  Calls Tryz.prog 94 #[.agg #[.int .i64 d,.slice ao O.length co,.int .i64 s],vh,.slice none 0 0] w (Joined (val H) (val O) s 0 w):=by
 obtain⟨i0,hi,hz0,hz1,hz2⟩:=info_parts Tryz.infoU
 obtain⟨w0,hw0⟩:∃w0,w.alloc (.cells #[.int .i64 d,.slice ao O.length co,.int .i64 s] 88)=w0:=⟨_,rfl⟩
 have hb0:Below w.heap.size w w0:=by rw [←hw0];exact ac _ _
 have h0:w0.heap[w.heap.size]?=some (.cells #[.int .i64 d,.slice ao O.length co,.int .i64 s] 88):=by rw [←hw0];exact heap_alloc_new ..
 obtain⟨k0,k1,k2⟩:=tri h0
 have hnn:min (s:Int) 0=0:=by omega
 have hM:=ck vh _ H O w0 (hH.below hb0) (hO.below hb0) (hT.below hb0) (by omega)
 have HB0:=aa hb0
 have H0:=aa h0
 have HT:=aa hT
 have hNil:∀W:World,Arg W (.slice none 0 0) []:=fun W=>⟨⟨none,0,rfl,by simp,by simp,.inl rfl⟩,(by intro z hz;cases hz),by simp,fun n c e=>by cases e;rfl⟩
 have hdv:0 / 18446744073709551616 ^ s=0:=Nat.zero_div _
 have hps:0<18446744073709551616 ^ s:=Nat.pow_pos (by omega)
 have HLP:=aa (And.intro hdv hps)
 have HNil:=aa hNil
 clear hb0 h0 hT hO hH hdv hps hNil
 go_enter Tryz.func94,Tryz.ntmps94
 go_wp2_with fail
 refine hM.mono ?_
 rintro e w1 ⟨hb1,v1,c,rs,rfl,A1,hcase⟩
 have hB1:=HB0.out.trans (hb1.mono HB0.out.size)
 have h1:w1.heap[w.heap.size]?=some (.cells #[.int .i64 d,.slice ao O.length co,.int .i64 s] 88):=by rw [hb1.block w.heap.size (lt_of_block H0.out)];exact H0.out
 clear k0 k1 k2 hM
 rcases hcase with ⟨rfl,hv1,hn1,hbl1⟩|⟨rfl,rfl,hbl1⟩
 ·have hAL:=HNil.out w1
  have l1:rs.length≤1048576:=bw hn1 (by rw [hv1];omega)
  have hAd:=eo v1 _ rs [] w1 (A1.arg (by omega)) hAL (by omega) (by simp)
  rw [hv1,show val []=0 / 18446744073709551616 ^ s by rw [HLP.out.1];rfl] at hAd
  have HB1:=aa hB1
  have H1:=aa h1
  clear hb1 hB1 h1 A1 hAL hv1 hn1 hbl1
  go_wp2_with fail
  refine hAd.mono ?_
  rintro e w2 ⟨hb2,v2,c,U,rfl,A2,hcase⟩
  have hB2:=HB1.out.trans (hb2.mono HB1.out.size)
  have h2:w2.heap[w.heap.size]?=some (.cells #[.int .i64 d,.slice ao O.length co,.int .i64 s] 88):=by rw [hb2.block w.heap.size (lt_of_block H1.out)];exact H1.out
  clear hAd
  rcases hcase with ⟨rfl,hv2,hn2,hbl2⟩|⟨rfl,rfl,hbl2⟩
  ·have lU:U.length≤1048576:=bw hn2 (by rw [hv2];omega)
   obtain⟨a5,c5,rfl,_,_,_⟩:=(A2.arg (by omega)).form
   obtain⟨N,hN,hNi⟩:∃N,N=s+U.length∧(s:Int)+(U.length:Int)=(N:Int):=⟨_,rfl,by omega⟩
   have hNs:N - s=U.length:=by omega
   obtain⟨o5,hif5,ho5⟩:∃o5,(∀g:Nat,(if N=s then some (⟨g,0,none⟩:Addr) else some ⟨g,s,none⟩)=some ⟨g,o5,none⟩)∧((o5=s∨(U.length=0∧o5=0))∧o5+U.length≤N):=by
    by_cases h:N=s
    ·exact⟨0,fun g=>by rw [if_pos h],.inr ⟨by omega,rfl⟩,by omega⟩
    ·exact⟨s,fun g=>by rw [if_neg h],.inl rfl,by omega⟩
   have HB2:=aa hB2
   have HA2:=aa A2
   have HV2:=aa (And.intro hv2 hn2)
   obtain⟨k0,k1,k2⟩:=tri h2
   have H2:=aa h2
   have HNN:=aa hN
   have HO5:=aa ho5
   have hsN:s≤N:=by omega
   have hwl:w.heap.size<w2.heap.size:=lt_of_block h2
   clear hb2 hB2 A2 hv2 hn2 hbl2 h2 hN ho5
   go_wp2_with (at_make;refine wpList_make_full _ rfl _ _ 23 rfl w2.heap.size 63 i0 (.int .u64 0) 1 Tryz.underlying23 hi hz0 hz1 .i64 .i64 _ _ N rfl rfl (by omega) (by omega) (by rw [hz2];omega) (by unfold maxLen;omega) (Nat.le_refl _) ?_;intro w3 hown hgrow;have hbel3:Below w2.heap.size w2 w3:=(Below.refl w2.heap.size w2).grown hgrow (Nat.le_refl _) (fun k hk=>by cases hk);obtain⟨w4,M4,hcp,B4,L4,F4,O4,S4⟩:=be w2.heap.size 0 N N (List.replicate N 0) none 0 [] w3 (Blk.made hown) (limbs_replicate _) (by intro z hz;cases hz) (bE N 0 N) (by simp) (by simp) (.inl rfl);rw [List.length_nil] at hcp;have hbel4:Below w2.heap.size w2 w4:=hbel3.trans (F4.below (Nat.le_refl _) hbel3.size);obtain⟨j0,j1,j2⟩:=tri ((hbel4.block w.heap.size hwl).trans H2.out);have hM4l:M4.length=N:=by rw [O4.len,List.length_replicate])
   obtain⟨z0,z1⟩:=d4 (M:=M4) (s:=s) (u:=U.length) (by have:=HNN.out;omega) (by rw [←HNN.out];exact S4) HLP.out.2
   have hz5:sv M4 o5 U.length=0:=by
    rcases HO5.out.1 with h|⟨h,_⟩
    ·rw [h];exact z0
    ·rw [h];exact au _ _
   have hLu:af w4 a5 U:=by
    obtain⟨_,_,e,_,_,hl⟩:=((HA2.out.arg (by omega)).below hbel4).form
    cases e
    exact hl
   obtain⟨w5,M5,hcp2,B5,L5,F5,O5,S5⟩:=be w2.heap.size o5 U.length U.length M4 a5 c5 U w4 B4 L4 HA2.out.limbs hz5 (by rw [hM4l];exact HO5.out.2) (Nat.le_refl _) hLu
   have hbel5:Below w2.heap.size w2 w5:=hbel4.trans (F5.below (Nat.le_refl _) hbel4.size)
   have hM5l:M5.length=s+U.length:=by rw [O5.len,hM4l];exact HNN.out
   have hval:=d6 hM5l z1 O5 S5 HO5.out.1
   have hnrm:=fun h=>du hM5l L5 HV2.out.2 h hval
   have hAns:Ans w5 w.heap.size (.slice (some ⟨w2.heap.size,0,none⟩) N N) M5:=by
    have h:=Ans.of_blk (base:=w.heap.size) (zs:=M5) (by omega) B5 List.take_length.symm (Nat.le_refl _) (by omega) L5
    rw [hM5l,←HNN.out] at h
    exact h
   have HF:=aa (And.intro hAns (And.intro hval (And.intro hnrm (HB2.out.trans (hbel5.mono HB2.out.size)))))
   have HM5:=aa hM5l
   clear hown hgrow hbel3 hbel4 hbel5 B4 L4 F4 O4 S4 B5 L5 F5 O5 S5 hval hnrm hAns hLu hz5 z0 z1 hM5l hi hz0 hz1 hz2
   go_wp2
   rw [hcp2]
   go_wp2
   go_returns
   refine⟨HF.out.2.2.2,.inl ⟨_,M5,rfl,HF.out.1,?_,fun h=>HF.out.2.2.1 ?_,?_⟩⟩
   ·rw [HF.out.2.1,HV2.out.1,HLP.out.1,Nat.add_zero,Nat.mul_comm (18446744073709551616 ^ s)];simp
   ·rw [HV2.out.1];exact Nat.lt_of_lt_of_le h (Nat.le_add_right _ _)
   ·rw [HM5.out];omega
  ·have HB2:=aa hB2
   have HBG:=aa hbl2
   clear hb2 hB2 A2 hbl2 h2
   go_wp2
   go_returns
   exact⟨HB2.out,.inr ⟨rfl,HBG.out⟩⟩
 ·have HB1:=aa hB1
  have HBG:=aa (Nat.lt_of_lt_of_le hbl1 (bn (Nat.le_add_right (val H*val O) (0 / 18446744073709551616 ^ s))))
  clear hb1 hB1 A1 hbl1
  go_wp2
  go_returns
  exact⟨HB1.out,.inr ⟨rfl,HBG.out⟩⟩



theorem bt5 {a b c:World}(h:Below a.heap.size a b)(k:Below b.heap.size b c):Below a.heap.size a c:=h.trans (k.mono h.size)

theorem iI (b:Nat)(h1:2≤b)(h2:b≤36):∃t,aH b t∧t≤5:=by
 have key:∀x:Fin 37,2≤x.1→∃t:Fin 6,x.1 % 2 ^ t.1=0∧x.1 / 2 ^ t.1 % 2=1:=by decide +kernel
 obtain⟨t,h3,h4⟩:=key ⟨b,by omega⟩ h1
 exact⟨t.1,⟨h3,h4⟩,by omega⟩

theorem tzb (b t:Nat)(w:World)(hb:b≤36)(h:aH b t)(hT:Tab w):Calls Tryz.prog 56 #[.int .u64 b] w fun e w'=>e=.returned (.int .i64 t)∧w'=w:=by
 have H:=cu b t w (by omega) h hT
 clear hT h
 go_enter Tryz.func56,Tryz.ntmps56
 go_wp2_with fail
 refine H.mono ?_
 rintro e wn ⟨rfl,hw⟩;rw [hw];clear hw wn H
 go_wp2
 go_ret
 exact⟨rfl,rfl⟩

theorem fe (v:Value)(zs:List Nat)(n:Nat)(w:World)(h1:Arg w v zs)(f1:zs.length≤35184372088831)(hn:n≤1099511627776) :
  Calls Tryz.prog 103 #[v,.int .i64 n] w fun e w'=>Below w.heap.size w w'∧Res w' w.heap.size e (val zs / 2 ^ n):=by
 obtain⟨a1,c1,rfl,hc1,hm1,hl1⟩:=h1.form
 have H0:=eK n w (by omega) (by omega)
 have H1:=aI a1 c1 zs w hc1 hm1 hl1
 have l1:=tr_length_le zs
 have L1:=hl1.tr
 have M1:=limbs_tr h1.limbs
 obtain⟨q,s,hs,hnq⟩:∃q s,s<64∧n=q*64+s:=⟨n / 64,n % 64,by omega,by omega⟩
 have eq1:(n:Int) / 64=(q:Int):=by omega
 have eq2:(n:Int) % 64=(s:Int):=by omega
 have HN:Hid (n=q*64+s):=hnq
 have hq:q≤17179869184:=by omega
 obtain⟨i0,hi,hz0,hz1,hz2⟩:=info_parts Tryz.infoU
 clear hnq
 by_cases hql:(tr zs).length≤q
 ·have HV:Hid (val zs / 2 ^ n=0):=by
   refine aa ?_
   rw [Nat.div_eq_of_lt]
   have:=val_lt M1
   rw [val_tr,W_pow] at this
   have h2:(2:Nat) ^ ((tr zs).length*64)≤2 ^ n:=Nat.pow_le_pow_right (by omega) (by have:=HN.out;omega)
   omega
  clear L1 M1 hl1 h1 hi hz0 hz1 hz2
  generalize tr zs=Z at *
  go_enter Tryz.func103,Tryz.ntmps103
  go_wp2_with fail
  refine H0.mono ?_
  rintro e w' ⟨rfl,rfl⟩
  go_wp2_with fail
  refine H1.mono ?_
  rintro e w' ⟨rfl,rfl⟩
  clear H0 H1
  go_wp2
  go_ret2
  rw [HV.out]
  exact⟨Below.refl _ _,_,_,[],rfl,Ans.nil _ _,.inl ⟨rfl,rfl,rfl,by simp [blen]⟩⟩
 ·rcases L1 with h' | ⟨b,off,rfl,hcell⟩
  ·simp [h'] at hql
  ·have hbw:b<w.heap.size:=af.block (zs:=tr zs) (.inr ⟨b,off,rfl,hcell⟩) (by omega)
   have hcl:(tr zs).length≤c1:=by omega
   have hlx:((tr zs).drop q).length=(tr zs).length - q:=by simp
   have HVX:Hid (val ((tr zs).drop q) / 2 ^ s=val zs / 2 ^ n):=by
    refine aa ?_
    rw [val_drop M1 q (by omega),val_tr,Nat.div_div_eq_div_mul,←Nat.pow_add,←HN.out]
   have hcx:∀k,k<((tr zs).drop q).length→w.cell? ⟨b,off+q+k,none⟩=some (.int .u64 ((((tr zs).drop q).getD k 0:Nat):Int)):=by
    intro k hk
    have:=hcell (q+k) (by omega)
    rw [←Nat.add_assoc] at this
    rw [this]
    simp [List.getD]
   have hlimx:Limbs ((tr zs).drop q):=fun z hz=>M1 z (List.mem_of_mem_drop hz)
   clear hcell hl1 h1 M1
   generalize (tr zs).drop q=X at *
   generalize (tr zs).length=m at *
   obtain⟨d,rfl⟩:∃d,m=q+d:=⟨m - q,by omega⟩
   have hdx:X.length=d:=by omega
   subst hdx
   clear hlx
   have hd:decide ((q:Int)+(X.length:Int)≤(q:Int))=false:=by simp;omega
   have hxp:0<X.length:=by omega
   go_enter Tryz.func103,Tryz.ntmps103
   go_wp2_with fail
   refine H0.mono ?_
   rintro e w' ⟨rfl,rfl⟩
   go_wp2_with fail
   refine H1.mono ?_
   rintro e w' ⟨rfl,rfl⟩
   clear H0 H1
   go_wp2_with (at_make;refine wpList_make_full _ rfl _ _ 23 rfl w'.heap.size 63 i0 (.int .u64 0) 1 Tryz.underlying23 hi hz0 hz1 .i64 .i64 _ _ X.length rfl rfl (by omega) (by omega) (by rw [hz2];omega) (by unfold maxLen;omega) (Nat.le_refl _) ?_;intro w1 hown hgrow)
   have hb1:=Blk.made hown
   have hbel:Below w'.heap.size w' w1:=(Below.refl _ _).grown hgrow (Nat.le_refl _) (fun k hk=>by cases hk)
   clear hown hgrow hi hz0 hz1 hz2
   go_loopw [31] (fun i wr=>∃(k:Nat) (out:List Nat),k≤X.length∧i=.int .i64 k∧out.length=X.length∧Limbs out∧Blk wr w'.heap.size out∧Below w'.heap.size w' wr ∧
     2 ^ s*val (out.take k)+X.getD 0 0 % 2 ^ s=val (X.take k)+X.getD k 0 % 2 ^ s*18446744073709551616 ^ k) (fun i _=>X.length - (intOf i).toNat)
   case atStart=>exact⟨0,_,Nat.zero_le _,rfl,by simp,limbs_replicate _,hb1,hbel,by simp [val]⟩
   case round=>
    obtain⟨k,out,hk,rfl,hlen,hlo,hblk,hbl,hval⟩:=hrel
    clear hb1 hbel
    have HV:=aa hval
    have HB:=aa hblk
    have HL:=aa hbl
    clear hval
    by_cases hkl:k<X.length
    ·have hck:wr.cell? ⟨b,off+q+k,none⟩=some (.int .u64 ((X.getD k 0:Nat):Int)):=by rw [hbl.cell (p:=⟨b,off+q+k,none⟩) hbw];exact hcx k hkl
     have hlies:af wr.drew (some ⟨b,off+q,none⟩) X:=.inr ⟨b,off+q,rfl,fun j hj=>by rw [hbl.drew.cell (p:=⟨b,off+q+j,none⟩) hbw];exact hcx j hj⟩
     have H42:=bW (some ⟨b,off+q,none⟩) (c1 - q) X (k+1) wr.drew (by omega) (by omega) hlies
     rw [show ((k+1:Nat):Int)=(k:Int)+1 from by omega] at H42
     have hfr:=hblk.free k
     have hco:=hblk.cell k (by omega)
     have hst:=right_step X out s k hs (by omega) HV.out
     have z1:=limb_lt hlimx k
     have hne1:¬b=w'.heap.size:=by omega
     have hne2:¬w'.heap.size=b:=by omega
     generalize out.getD k 0=o at *
     have HS:=aa hst
     clear hst hlies hblk hbl HV hcx
     generalize hy:X.getD (k+1) 0=y at *
     have HY:=aa hy
     clear hy
     generalize X.getD k 0=x at *
     have hi1:(0:Int)≤(k:Int):=by omega
     have hi2:(k:Int)<(X.length:Int):=by omega
     have hwk:IntKind.i64.wrap ((k:Int)+1)=(k:Int)+1:=by rw [IntKind.wrap_i64];omega
     obtain⟨t,ht⟩:∃t,t=64 - s:=⟨_,rfl⟩
     have htb:t≤64:=by omega
     have hw64:IntKind.i64.wrap (64 - (s:Int))=(t:Int):=by rw [IntKind.wrap_i64];omega
     have hw66:IntKind.i64.wrap (t:Int)=(t:Int):=by rw [IntKind.wrap_i64];omega
     have hw65:(64 - (s:Int))=(t:Int):=by omega
     have HT:=aa ht
     clear ht
     go_wp2
     go_region_held3 (fun w2=>w2.cell? ⟨b,off+q+k,none⟩=some (.int .u64 x)) (go_keep) (first | (go_at_call 85;refine H42.mono ?_;rintro e w2 ⟨rfl,rfl⟩))
     go_wp2
     go_roundw
     case rel=>
      have e:=HT.out
      subst e
      rw [walk_shr2 x y s hs z1]
      exact⟨k+1,out.set k (shr x y s),by omega,by go_num,by simp;omega,limbs_set hlo _ _ (shr_lt2 x y s hs z1),HB.out.set _ _,(HL.out.setCell (Nat.le_refl _) _).drew,by rw [HY.out];exact HS.out⟩
     case measure=>simp [intOf];omega
    ·have ek:k=X.length:=by omega
     subst ek
     have HA:=cB _ w'.heap.size _ _ hblk hlo (Nat.le_refl _) (by omega)
     rw [right_end X out s hlen HV.out,HVX.out,hlen] at HA
     clear hblk hbl HV HB hlo hcx hlimx
     go_wp2_with fail
     refine HA.mono ?_
     rintro e w2 ⟨rfl,hres⟩
     unfold Res at hres
     obtain⟨v,c,rs,rfl,hres⟩:=hres
     have HX:=aa hres
     clear hres
     go_wp2
     go_ret2
     exact⟨HL.out,v,c,rs,rfl,HX.out⟩

theorem dS (n:Int):bits .and .i64 n 1=n % 2:=by
 have h1:(BitVec.ofInt 64 1).toNat=2 ^ 1 - 1:=by decide
 have key:(BitVec.ofInt 64 n &&& BitVec.ofInt 64 1).toNat=(n % ((2 ^ 64:Nat):Int)).toNat % 2 ^ 1:=by
  rw [BitVec.toNat_and,BitVec.toNat_ofInt,h1,Nat.and_two_pow_sub_one_eq_mod]
 show IntKind.i64.wrap ((BitVec.ofInt 64 n &&& BitVec.ofInt 64 1).toNat:Nat)=n % 2
 rw [key,IntKind.wrap_i64]
 omega

theorem eE (x k:Nat):x / 2 ^ k=2*(x / 2 ^ (k+1))+x / 2 ^ k % 2:=by
 rw [Nat.pow_succ,←Nat.div_div_eq_div_mul]
 omega

theorem ch {x y:Nat}(h:x≤y):blen x≤blen y:=(blen_le_iff x _).2 (Nat.lt_of_le_of_lt h ((blen_le_iff y _).1 (Nat.le_refl _)))

theorem eF {x n k:Nat}(hx:0<x)(hk:k≤n):x ^ k≤x ^ n:=Nat.pow_le_pow_right hx hk

theorem Res.big {w:World}{base s:Nat}(h:67108864<blen s):Res w base (.returned (.tuple #[.slice none 0 0,.int .i64 3])) s:=
 ⟨_,3,[],rfl,Ans.nil _ _,.inr ⟨rfl,rfl,h⟩⟩

theorem Res.of_nv {w:World}{base s:Nat}{v:Value}(h:Nv w base v s)(hb:blen s≤67108864):Res w base (.returned (.tuple #[v,.int .i64 0])) s:=by
 obtain⟨rs,h1,h2,h3,_⟩:=h
 exact⟨v,0,rs,rfl,h1,.inl ⟨rfl,h2,h3,hb⟩⟩

theorem Res.parts {w:World}{base:Nat}{e:Ending}{s:Nat}(h:Res w base e s):(∃v,e=.returned (.tuple #[v,.int .i64 0])∧Nv w base v s∧blen s≤67108864)∨(∃v,e=.returned (.tuple #[v,.int .i64 3])∧67108864<blen s):=by
 obtain⟨v,c,rs,rfl,hA,h⟩:=h
 rcases h with ⟨rfl,h1,h2,h3⟩|⟨rfl,_,h3⟩
 ·exact .inl ⟨v,rfl,Nv.of hA h1 h2 h3,h3⟩
 ·exact .inr ⟨v,rfl,h3⟩

theorem iY (va:Value)(X:List Nat)(n:Nat)(w:World)(hA:Arg w va X)(hT:Tab w)(hl:X.length≤1048577)(hx:0<val X)(hn0:0<n)(hn:n≤9223372036854775807) :
  Calls Tryz.prog 104 #[va,.int .i64 n] w fun e w'=>Below w.heap.size w w'∧Res w' w.heap.size e (val X ^ n):=by
 obtain⟨x,hxx⟩:∃x,val X=x:=⟨_,rfl⟩
 rw [hxx] at hx ⊢
 have HF:=cO 1 w (by omega)
 have HLN:=fun W=>Tryz.bits_Len (n:Int) W (by omega) (by omega)
 rw [Int.toNat_natCast] at HLN
 have wn:IntKind.u64.wrap (n:Int)=(n:Int):=by rw [IntKind.wrap_u64];omega
 obtain⟨L,hL⟩:∃L,Lib.bitLen n=L:=⟨_,rfl⟩
 have hnl:n<2 ^ L:=by
  obtain⟨_,_,h3⟩:=Lib.bitLenAux_bounds 64 n (by omega) (by omega)
  rw [←hL];exact h3
 have hL64:L≤64:=by rw [←hL];exact Lib.bitLen_le n 64 (by omega) (by omega)
 rw [hL] at HLN
 obtain⟨a1,c1,rfl,_,_,_⟩:=hA.form
 have HA:=aa hA
 have HT:=aa hT
 have HX:=aa (And.intro hxx hx)
 have HN:=aa (And.intro hnl hn0)
 clear hA hT hxx hx hL hnl hn0
 go_enter Tryz.func104,Tryz.ntmps104
 go_wp2_with fail
 refine HF.mono ?_
 rintro e w1 ⟨⟨v1,rfl,A1⟩,hb1⟩
 have ST:=aa (And.intro (Nv.of A1 (x:=1) (by rw [val_tr];simp [val]) (tr_tr _) (by decide)) hb1)
 clear HF A1 hb1
 go_wp2_with fail
 refine (HLN _).mono ?_
 rintro e wn' ⟨rfl,hw⟩;rw [hw];clear hw wn' HLN
 go_wp2
 go_loopw [6,7,8] (fun v c i wr=>∃(k:Nat),c=.int .i64 0∧i=.int .i64 ((k:Int) - 1)∧k≤L∧Nv wr w.heap.size v (x ^ (n / 2 ^ k))∧Below w.heap.size w wr) (fun _ _ i _=>(intOf i+1).toNat)
 case atStart=>
  refine⟨L,rfl,rfl,Nat.le_refl _,?_,ST.out.2⟩
  rw [Nat.div_eq_of_lt HN.out.1,Nat.pow_zero]
  exact ST.out.1
 case round=>
  obtain⟨k,rfl,rfl,hk,hnv,hbel⟩:=hrel
  have HNV:=aa hnv
  have HB:=aa hbel
  clear hnv hbel ST
  by_cases hk0:k=0
  ·subst hk0
   have h:=HNV.out
   rw [Nat.pow_zero,Nat.div_one] at h
   have HE:=aa h
   clear h
   go_wp2
   go_returns
   refine⟨HB.out,Res.of_nv HE.out ?_⟩
   obtain⟨rs,h1,h2,h3,h4⟩:=HE.out
   rw [←h2]
   have:=(blen_le_iff (val rs) (64*rs.length)).2 (by have:=val_lt h1.limbs;rw [show (18446744073709551616:Nat)=2 ^ 64 from rfl,←Nat.pow_mul] at this;exact this)
   omega
  ·obtain⟨j,rfl⟩:∃j,k=j+1:=⟨k - 1,by omega⟩
   have ej:(((j+1:Nat):Int) - 1)=(j:Int):=by omega
   rw [ej]
   have hj0:(0:Int)≤(j:Int):=by omega
   have hj64:j<64:=by omega
   obtain⟨rs,A1,e1,_,l1⟩:=HNV.out.arg
   have HS:=e8 _ rs wr A1 (HT.out.below HB.out) (by omega)
   have e2:val rs*val rs=x ^ (2*(n / 2 ^ (j+1))):=by rw [e1,←Nat.pow_add];congr 1;omega
   rw [e2] at HS
   have hst:=eE n j
   have hle:n / 2 ^ j≤n:=Nat.div_le_self _ _
   have hsh:(n:Int) / 2 ^ j=((n / 2 ^ j:Nat):Int):=by rw [Int.natCast_ediv,Int.natCast_pow];rfl
   have hand:=dS ((n / 2 ^ j:Nat):Int)
   have hm2:((n / 2 ^ j:Nat):Int) % 2=((n / 2 ^ j % 2:Nat):Int):=by omega
   rw [hm2] at hand
   have wj:IntKind.i64.wrap (((n / 2 ^ j:Nat)):Int)=(((n / 2 ^ j:Nat)):Int):=by rw [IntKind.wrap_i64];omega
   generalize n / 2 ^ (j+1)=p at *
   obtain⟨q,hq⟩:∃q,n / 2 ^ j=q:=⟨_,rfl⟩
   rw [hq] at hst hle hsh hand hm2 wj
   have HQ:=aa (And.intro hst hle)
   have HQD:=aa hq
   clear hq
   clear A1 e1 e2 l1 ej hk0 hst
   go_wp2_with fail
   refine HS.mono ?_
   rintro e w2 ⟨hb2,hr⟩
   have HB2:=aa (HB.out.trans (hb2.mono HB.out.size))
   rcases hr.parts with ⟨v2,rfl,N2,bl2⟩|⟨v2,rfl,bl2⟩
   ·have HN2:=aa N2
    clear HS hb2 hr N2 bl2
    rcases Nat.mod_two_eq_zero_or_one q with h0|h1
    ·rw [h0] at hand
     have HEQ:Hid (2*p=q):=aa (by have:=HQ.out.1;omega)
     clear h0
     go_wp2
     go_roundw
     case rel=>exact⟨j,rfl,rfl,by omega,by rw [HQD.out,←HEQ.out];exact HN2.out.base HB.out.size,HB2.out⟩
     case measure=>simp [intOf]
    ·rw [h1] at hand
     have HEQ:Hid (2*p+1=q):=aa (by have:=HQ.out.1;omega)
     obtain⟨rs2,A2,e2,_,l2⟩:=HN2.out.arg
     have HM:=ck v2 _ rs2 X w2 A2 (HA.out.below HB2.out) (HT.out.below HB2.out) (by omega)
     have e3:val rs2*val X=x ^ q:=by rw [e2,HX.out.1,←HEQ.out,Nat.pow_succ]
     rw [e3] at HM
     clear h1 A2 e2 l2 e3
     go_wp2_with fail
     refine HM.mono ?_
     rintro e w3 ⟨hb3,hr⟩
     have HB3:=aa (HB2.out.trans (hb3.mono HB2.out.size))
     rcases hr.parts with ⟨v3,rfl,N3,bl3⟩|⟨v3,rfl,bl3⟩
     ·have HN3:=aa N3
      clear HM hb3 hr N3 bl3
      go_wp2
      go_roundw
      case rel=>exact⟨j,rfl,rfl,by omega,by rw [HQD.out];exact HN3.out.base HB2.out.size,HB3.out⟩
      case measure=>simp [intOf]
     ·have HBG:=aa (Nat.lt_of_lt_of_le bl3 (ch (eF HX.out.2 HQ.out.2)))
      clear HM hb3 hr bl3
      go_wp2
      go_returns
      exact⟨HB3.out,Res.big HBG.out⟩
   ·have HBG:=aa (Nat.lt_of_lt_of_le bl2 (ch (eF (n:=n) (k:=2*p) HX.out.2 (by have:=HQ.out;omega))))
    clear HS hb2 hr bl2
    go_wp2
    go_returns
    exact⟨HB2.out,Res.big HBG.out⟩

theorem dJ {x:Nat}(h:1<blen x):2≤x:=by
 refine Nat.le_of_not_lt fun hlt=>?_
 have:blen x≤1:=(blen_le_iff x 1).2 (by omega)
 omega

theorem fp {x n:Nat}(hx:1<blen x)(h:67108863<(blen x - 1)*n):67108864<blen (x ^ n):=by
 have h1:=cR x (by have:=dJ hx;omega)
 have h2:2 ^ ((blen x - 1)*n)≤x ^ n:=by rw [Nat.pow_mul];exact Nat.pow_le_pow_left h1 n
 refine Nat.lt_of_not_le fun hle=>?_
 have h3:=(blen_le_iff (x ^ n) _).1 (Nat.le_refl (blen (x ^ n)))
 have h4:(blen x - 1)*n<blen (x ^ n):=(Nat.pow_lt_pow_iff_right (by omega)).1 (Nat.lt_of_le_of_lt h2 h3)
 omega

theorem iK {x t:Nat}(h:aH x t):x=x / 2 ^ t*2 ^ t∧0<x / 2 ^ t:=by
 obtain⟨h1,h2⟩:=h
 have h3:=Nat.div_add_mod x (2 ^ t)
 rw [h1,Nat.mul_comm] at h3
 refine⟨h3.symm,?_⟩
 generalize x / 2 ^ t=q at *
 rcases Nat.eq_zero_or_pos q with h|h
 ·rw [h] at h2;simp at h2
 ·exact h

theorem jm (va:Value)(X:List Nat)(n:Nat)(w:World)(hA:Arg w va X)(hT:Tab w)(hl:X.length≤17592186044416)(hn:n≤9223372036854775807) :
  Calls Tryz.prog 76 #[va,.int .i64 n] w fun e w'=>Below w.heap.size w w'∧Res w' w.heap.size e (val X ^ n):=by
 have HL:=aK _ _ w hA
 obtain⟨L,hL⟩:∃L,blen (val X)=L:=⟨_,rfl⟩
 rw [hL] at HL
 have hLb:L≤64*X.length:=by
  rw [←hL]
  exact (blen_le_iff _ _).2 (by have:=val_lt hA.limbs;rw [show (18446744073709551616:Nat)=2 ^ 64 from rfl,←Nat.pow_mul] at this;exact this)
 by_cases h0:n=0
 ·subst h0
  have HF:=cO 1 w (by omega)
  have HR:Hid (∀w' v,Ans w' w.heap.size v (tr [1])→Res w' w.heap.size (.returned (.tuple #[v,.int .i64 0])) (val X ^ 0)):=aa fun w' v h=>⟨v,0,_,rfl,h,.inl ⟨rfl,by rw [val_tr];simp [val],tr_tr _,by rw [Nat.pow_zero];decide⟩⟩
  clear hA hT hL
  go_enter Tryz.func76,Tryz.ntmps76
  go_wp2_with fail
  refine HL.mono ?_
  rintro e wn ⟨rfl,hw⟩;rw [hw];clear hw wn HL
  go_wp2_with fail
  refine HF.mono ?_
  rintro e w1 ⟨⟨v1,rfl,A1⟩,hb1⟩
  have H:=aa (And.intro A1 hb1)
  clear HF A1 hb1
  go_wp2
  go_returns
  exact⟨H.out.2,HR.out _ _ H.out.1⟩
 ·have hz:((n:Int) == 0)=false:=by rw [beq_eq_false_iff_ne];omega
  have hnn:¬((n:Int)<0):=by omega
  by_cases h1:L≤1
  ·have HN:=dq va X w hA hl
   have i1:(L:Int)≤1:=by omega
   have hx1:val X ^ n=val X:=by
    have:val X<2 ^ 1:=(blen_le_iff _ 1).1 (by rw [hL];exact h1)
    rcases Nat.eq_zero_or_pos (val X) with h|h
    ·rw [h];exact Nat.zero_pow (by omega)
    ·rw [show val X=1 by omega,Nat.one_pow]
   rw [hx1]
   have HX:=aa (show blen (val X)≤67108864 by omega)
   clear hA hT hL hx1
   go_enter Tryz.func76,Tryz.ntmps76
   go_wp2_with fail
   refine HL.mono ?_
   rintro e wn ⟨rfl,hw⟩;rw [hw];clear hw wn HL
   go_wp2_with fail
   refine HN.mono ?_
   rintro e w1 ⟨⟨v1,rfl,A1⟩,hb1⟩
   have H:=aa (And.intro A1 hb1)
   clear HN A1 hb1
   go_wp2
   go_returns
   exact⟨H.out.2,_,0,_,rfl,H.out.1,.inl ⟨rfl,val_tr _,tr_tr _,HX.out⟩⟩
  ·have i1:¬((L:Int)≤1):=by omega
   obtain⟨M,hM⟩:∃M,L=M+1:=⟨L - 1,by omega⟩
   have eM:(L:Int) - 1=(M:Int):=by omega
   obtain⟨Q,hQ⟩:∃Q,67108863 / n=Q:=⟨_,rfl⟩
   have eQ:(67108863:Int) / (n:Int)=(Q:Int):=by rw [←hQ,Int.natCast_ediv];rfl
   have hQl:Q≤67108863:=by rw [←hQ];exact Nat.div_le_self _ _
   by_cases h2:Q<M
   ·have i2:(Q:Int)<(M:Int):=by omega
    have HB:Hid (67108864<blen (val X ^ n)):=by
     refine aa (fp (by omega) ?_)
     rw [hL,hM,Nat.add_sub_cancel]
     rw [←hQ] at h2
     exact (Nat.div_lt_iff_lt_mul (by omega)).1 h2
    clear hA hT hL hM hQ
    go_enter Tryz.func76,Tryz.ntmps76
    go_wp2_with fail
    refine HL.mono ?_
    rintro e wn ⟨rfl,hw⟩;rw [hw];clear hw wn HL
    go_wp2
    go_returns
    exact⟨Below.refl _ _,Res.big HB.out⟩
   ·have i2:¬((Q:Int)<(M:Int)):=by omega
    have hMn:M*n≤67108863:=by
     have:M≤67108863 / n:=by omega
     exact (Nat.le_div_iff_mul_le (by omega)).1 this
    have HTL:=jp va X w hA hT
    have HA:=aa hA
    have HT:=aa hT
    have hx2:2≤val X:=dJ (by omega)
    have HX:=aa (And.intro hL (And.intro hM (And.intro hMn hx2)))
    clear hA hT hL hM hQ hMn hx2
    go_enter Tryz.func76,Tryz.ntmps76
    go_wp2_with fail
    refine HL.mono ?_
    rintro e wn ⟨rfl,hw⟩;rw [hw];clear hw wn HL
    go_wp2_with fail
    refine HTL.mono ?_
    rintro e wn ⟨⟨t,ht,rfl,_,htl⟩,hw⟩;rw [hw];clear hw wn HTL
    have hit:=htl (by have:=HX.out.2.2.2;omega)
    obtain⟨od1,od2⟩:=iK hit
    have htM:t≤M:=by
     have h3:2 ^ t≤val X:=by rw [od1];exact Nat.le_mul_of_pos_left _ od2
     have h4:=(blen_le_iff (val X) _).1 (Nat.le_refl _)
     have h5:t<blen (val X):=(Nat.pow_lt_pow_iff_right (by omega)).1 (Nat.lt_of_le_of_lt h3 h4)
     have:=HX.out.1
     have:=HX.out.2.1
     omega
    have hM26:M≤67108863:=by
     have:=HX.out.2.2.1
     have:=Nat.le_mul_of_pos_right M (show 0<n by omega)
     omega
    have HR:=fe va X t w HA.out (by omega) (by omega)
    have HO:=aa (And.intro od1 (And.intro od2 htM))
    clear htl hit od1 od2 ht
    go_wp2_with fail
    refine HR.mono ?_
    rintro e w1 ⟨hb1,hr1⟩
    have hble:blen (val X / 2 ^ t)≤blen (val X):=ch (Nat.div_le_self _ _)
    obtain⟨v1,rfl,N1⟩:=hr1.fits (by have:=HX.out.1;have:=HX.out.2.1;omega)
    obtain⟨rs1,A1,e1,_,l1⟩:=N1.arg
    have HP:=iY v1 rs1 n w1 A1 (HT.out.below hb1) (by omega) (by rw [e1];exact HO.out.2.1) (by omega) hn
    rw [e1] at HP
    have HB1:=aa hb1
    clear HR hb1 hr1 hble N1 A1 e1 l1
    go_wp2_with fail
    refine HP.mono ?_
    rintro e w2 ⟨hb2,hr2⟩
    have HB2:=aa (HB1.out.trans (hb2.mono HB1.out.size))
    have hpw:(val X / 2 ^ t) ^ n*2 ^ (t*n)=val X ^ n:=by
     rw [Nat.pow_mul,←Nat.mul_pow,←HO.out.1]
    have htn:t*n≤67108863:=Nat.le_trans (Nat.mul_le_mul_right n HO.out.2.2) HX.out.2.2.1
    obtain⟨u,hu,eu⟩:∃u:Nat,t*n=u∧(t:Int)*(n:Int)=(u:Int):=⟨t*n,rfl,by rw [Int.natCast_mul]⟩
    rw [hu] at hpw htn
    rcases hr2.parts with ⟨v2,rfl,N2,bl2⟩|⟨v2,rfl,bl2⟩
    ·obtain⟨rs2,A2,e2,_,l2⟩:=N2.arg
     have HLF:=gM v2 rs2 u w2 A2 (by omega) (by omega)
     rw [e2,hpw] at HLF
     clear HP hb2 hr2 N2 A2 e2 l2 bl2 hpw hu
     go_wp2_with fail
     refine HLF.mono ?_
     rintro e w3 ⟨hb3,v3,c3,rs3,rfl,A3,h3⟩
     have H:=aa (And.intro (A3.base HB2.out.size) (And.intro h3 (HB2.out.trans (hb3.mono HB2.out.size))))
     clear HLF hb3 A3 h3
     go_wp2
     go_returns
     exact⟨H.out.2.2,v3,c3,rs3,rfl,H.out.1,H.out.2.1⟩
    ·have HBG:=aa (Nat.lt_of_lt_of_le bl2 (ch (show (val X / 2 ^ t) ^ n≤val X ^ n by rw [←hpw];exact Nat.le_mul_of_pos_right _ (Nat.two_pow_pos _))))
     clear HP hb2 hr2 bl2 hpw hu
     go_wp2
     go_returns
     exact⟨HB2.out,Res.big HBG.out⟩
end Go.Proofs.YteehipcoeocojaaGreatDoor

