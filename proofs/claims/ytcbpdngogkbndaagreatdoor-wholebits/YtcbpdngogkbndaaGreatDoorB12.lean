/- Package whole: negate, complement, anyBig of one. -/
import Derived.Test.YtcbpdngogkbndaaGreatDoorB11
import Derived.Test.YtcbpdngogkbndaaGreatDoorB05
import Derived.Test.YtcbpdngogkbndaaGreatDoorB03
import Derived.Test.YtcbpdngogkbndaaGreatDoorB01
import Derived.Test.YtcbpdngogkbndaaGreatDoorB02
import Derived.Deep.RegionHeld3
import Derived.Deep.DrawnRows
import Derived.Test.YtcbpdngogkbndaaGreatDoorB07
import Derived.Test.YtcbpdngogkbndaaGreatDoorB04
import Derived.Deep.CutBlock
import Derived.Deep.DeepCutAuto
set_option maxRecDepth 20000
set_option maxHeartbeats 8000000
namespace Go.Proofs.YtcbpdngogkbndaaGreatDoor
open Go.RowKit
open Lm
attribute [local go_sem ↓] Go.wp_at_zero Go.wp_at_succ

theorem kX (v b:Nat)(hb:b≤1)(w:World) :
  (callFunc 69 #[.int .u64 0,.int .u64 v,.int .u64 b]).run Tryz.prog w =
   .ok (.value (.tuple #[.int .u64 (((0+18446744073709551616 - v - b) % 18446744073709551616:Nat):Int),.int .u64 ((bor 0 v b:Nat):Int)])) w:=
 cI 0 v b hb w

theorem mC {Z Z':List Nat}{k cy c2 s v:Nat}(hz:k<Z'.length)(hl:Z'.length=Z.length)(h:sv Z' 0 k+sv Z 0 k=cy*18446744073709551616 ^ k)(hv:Z.getD k 0=v)(hs:s+v+cy=0+c2*18446744073709551616) :
  sv (Z'.set k s) 0 (k+1)+sv Z 0 (k+1)=c2*18446744073709551616 ^ (k+1):=by
 have e:=bZ Z' 0 k s (by omega)
 have e2:=cn Z 0 k (by omega)
 rw [Nat.zero_add] at e e2
 rw [e,e2,hv,show (18446744073709551616:Nat) ^ (k+1)=18446744073709551616 ^ k*18446744073709551616 from Nat.pow_succ ..]
 generalize sv Z' 0 k=A at *
 generalize sv Z 0 k=B at *
 generalize (18446744073709551616:Nat) ^ k=PP at *
 generalize (18446744073709551616:Nat)=W at *
 grind

theorem ll {P a z cy:Nat}(ha:a<P)(hz:z<P)(hc:cy≤1)(h:a+z=cy*P):a=(P - z) % P:=by
 rcases Nat.eq_zero_or_pos cy with rfl|h1
 ·have e1:a=0:=by omega
  have e2:z=0:=by omega
  rw [e1,e2,Nat.sub_zero,Nat.mod_self]
 ·obtain rfl:cy=1:=by omega
  rw [Nat.mod_eq_of_lt (by omega)]
  omega

def lg (g:Nat)(Z:List Nat)(w:World)(e:Ending)(w':World):Prop:=
 e=.returned (.tuple #[])∧∃Z',Blk w' g Z'∧Limbs Z'∧Z'.length=Z.length∧val Z'=(18446744073709551616 ^ Z.length - val Z) % 18446744073709551616 ^ Z.length∧Fr g w w'

theorem dO (g n:Nat)(Z:List Nat)(w:World)(hB:Blk w g Z)(hL:Limbs Z)(hn:Z.length=n)(hmax:n≤9223372036854775807) :
  Calls Tryz.prog 62 #[.slice (some ⟨g,0,none⟩) n n] w (lg g Z w):=by
 have HB0:=aa hB
 have HL:=aa hL
 go_enter Tryz.func62,Tryz.ntmps62
 go_wp2
 go_loopw [2,7] (fun c i wr=>∃(k cy:Nat) (Z':List Nat),k≤n∧i=.int .i64 k∧c=.int .u64 cy∧cy≤1∧Out Z Z' 0 (0+k)∧Limbs Z'∧Blk wr g Z'∧Fr g w wr ∧
   sv Z' 0 k+sv Z 0 k=cy*18446744073709551616 ^ k) (fun _ i _=>n - (intOf i).toNat)
 case atStart=>exact⟨0,0,Z,Nat.zero_le _,rfl,rfl,by omega,Out.refl _ _ _,HL.out,HB0.out,Fr.refl _ _,by simp [aH]⟩
 case round=>
  obtain⟨k,cy,Z',hk,rfl,rfl,hcy,hout,hlz,hblk,hfr0,hval⟩:=hrel
  have HV:=aa hval
  have HB:=aa hblk
  have HF:=aa hfr0
  have HO:=aa hout
  have hl:=hout.len
  clear hval
  by_cases hkn:k<n
  ·have hsame:=hout.same k (by omega)
   have hfr:=hblk.free k
   have hco:=hblk.cell k (by omega)
   have z1:=limb_lt hL k
   rw [hsame] at hco
   have ha:=kX (Z.getD k 0) cy hcy
   obtain⟨q1,q2,q3⟩:=cD 0 (Z.getD k 0) cy (by omega) z1 hcy
   have HS:=aa (mC (by omega) hl HV.out rfl q1)
   generalize Z.getD k 0=x at *
   clear q1 hsame
   generalize (0+18446744073709551616 - x - cy) % 18446744073709551616=s at *
   generalize bor 0 x cy=c2 at *
   have i1:(k:Int)<(n:Int):=by omega
   clear hblk hfr0 hout HV hB hL
   go_wp2
   go_roundw
   case rel=>exact⟨k+1,c2,Z'.set k s,by omega,by go_num,rfl,q2,(HO.out.wider (Nat.le_refl _) (by omega)).set _ _ (by omega) (by omega),limbs_set hlz _ _ q3,HB.out.set _ s,HF.out.setCell _ _,HS.out⟩
   case measure=>simp [intOf];omega
  ·have ek:k=n:=by omega
   subst ek
   have hlz2:Z'.length=Z.length:=hl
   have hv:=HV.out
   rw [←hn,aR,←hlz2,aR] at hv
   have a1:=val_lt hlz
   have a2:=val_lt hL
   rw [hlz2] at a1 hv
   have HR:=aa (show val Z'=(18446744073709551616 ^ Z.length - val Z) % 18446744073709551616 ^ Z.length from ll a1 a2 hcy hv)
   have i1:¬(k:Int)<(k:Int):=by omega
   clear hblk hfr0 hout HV hB hL hv a1 a2
   go_wp2
   go_end0
   exact⟨rfl,Z',HB.out,hlz,hlz2,HR.out,HF.out⟩

theorem bA (n:Nat):2 ^ (64*n)=18446744073709551616 ^ n:=by
 rw [Nat.pow_mul]

theorem nR (k x:Nat):x=tcv k (zsg (zz false x)) (zmg (zz false x)):=by
 have e1:zsg (zz false x)=false:=by unfold zsg zz;simp
 have e2:zmg (zz false x)=x:=by unfold zmg zz;simp;omega
 rw [e1,e2]
 rfl

theorem oc (k x:Nat)(hx:x<2 ^ k):(2 ^ k - x) % 2 ^ k=tcv k (zsg (zz true x)) (zmg (zz true x)):=by
 rcases Nat.eq_zero_or_pos x with rfl|h
 ·rw [Nat.sub_zero,Nat.mod_self]
  rfl
 ·have e1:zsg (zz true x)=true:=by unfold zsg zz;simp;omega
  have e2:zmg (zz true x)=x - 1:=by unfold zmg zz;simp only [if_true];rw [if_pos (by omega)];omega
  rw [e1,e2,Nat.mod_eq_of_lt (by omega)]
  unfold tcv
  simp only [if_true]
  omega

def fl (n:Nat)(z:Int)(w:World)(e:Ending)(w':World):Prop:=
 (∃g Z,e=.returned (.slice (some ⟨g,0,none⟩) n n)∧w.heap.size≤g∧Blk w' g Z∧Limbs Z∧Z.length=n∧val Z=tcv (64*n) (zsg z) (zmg z))∧Below w.heap.size w w'

theorem cJ (b:Bool)(v:Value)(X:List Nat)(n:Nat)(w:World)(hA:Arg w v X)(hn:X.length<n)(hmax:n≤17592186044500) :
  Calls Tryz.prog 61 #[.agg #[.bool b,v],.int .i64 n] w (fl n (zz b (val X)) w):=by
 obtain⟨a1,c1,rfl,_,_,_⟩:=hA.form
 obtain⟨w0,hw0,hb0,h0⟩:=aB w (.cells #[.bool b,.slice a1 X.length c1] 27)
 obtain⟨k0,k1⟩:=duo h0
 have A0:=hA.below hb0
 have HB0:=aa hb0
 have HX0:=aa h0
 obtain⟨i0,hi,hz0,hz1,hz2⟩:=info_parts Tryz.infoU
 have hx1:=val_lt A0.limbs
 have hxn:val X<18446744073709551616 ^ n:=Nat.lt_of_lt_of_le hx1 (Nat.pow_le_pow_right (by omega) (by omega))
 have HC:=aa (show val X=tcv (64*n) (zsg (zz false (val X))) (zmg (zz false (val X)))∧(18446744073709551616 ^ n - val X) % 18446744073709551616 ^ n=tcv (64*n) (zsg (zz true (val X))) (zmg (zz true (val X))) from ⟨nR _ _,by rw [←bA];exact oc _ _ (by rw [bA];exact hxn)⟩)
 clear hb0 h0 hA hx1
 cases b
 ·go_enter Tryz.func61,Tryz.ntmps61
  go_wp2_with (at_make;refine wpList_make_full _ rfl _ _ 25 rfl w0.heap.size 60 i0 (.int .u64 0) 1 Tryz.underlying25 hi hz0 hz1 .i64 .i64 _ _ n rfl rfl (by omega) (by omega) (by rw [hz2];omega) (by unfold maxLen;omega) (Nat.le_refl _) ?_;intro w1 hown hgrow;have hb1:Below w0.heap.size w0 w1:=(Below.refl w0.heap.size w0).grown hgrow (Nat.le_refl _) (fun k hk=>by cases hk);have hbx:=ab hb1 HX0.out;obtain⟨l0,l1⟩:=duo hbx;obtain⟨w2,M2,hcp,B2,L2,F2,O2,S2⟩:=aZ w0.heap.size 0 n n (List.replicate n 0) a1 c1 X w1 (Blk.made hown) (limbs_replicate _) A0.limbs (aV n 0 n) (by simp) (by omega) (A0.below hb1).wlies;have hb2:Below w0.heap.size w0 w2:=hb1.trans (F2.below (Nat.le_refl _) hb1.size);obtain⟨l0',l1'⟩:=duo (ab hb2 HX0.out))
  have l2:M2.length=n:=by rw [O2.len,List.length_replicate]
  have s2:val M2=val X:=by rw [←aR,l2];exact S2
  have HE:=aa (show fl n (zz false (val X)) w (.returned (.slice (some ⟨w0.heap.size,0,none⟩) n n)) w2 from ⟨⟨_,M2,rfl,HB0.out.size,B2,L2,l2,by rw [s2];exact HC.out.1⟩,HB0.out.trans (hb2.mono HB0.out.size)⟩)
  clear B2 L2 F2 O2 S2 l2 s2
  go_wp2
  go_ret
  exact HE.out
 ·go_enter Tryz.func61,Tryz.ntmps61
  go_wp2_with (at_make;refine wpList_make_full _ rfl _ _ 25 rfl w0.heap.size 60 i0 (.int .u64 0) 1 Tryz.underlying25 hi hz0 hz1 .i64 .i64 _ _ n rfl rfl (by omega) (by omega) (by rw [hz2];omega) (by unfold maxLen;omega) (Nat.le_refl _) ?_;intro w1 hown hgrow;have hb1:Below w0.heap.size w0 w1:=(Below.refl w0.heap.size w0).grown hgrow (Nat.le_refl _) (fun k hk=>by cases hk);have hbx:=ab hb1 HX0.out;obtain⟨l0,l1⟩:=duo hbx;obtain⟨w2,M2,hcp,B2,L2,F2,O2,S2⟩:=aZ w0.heap.size 0 n n (List.replicate n 0) a1 c1 X w1 (Blk.made hown) (limbs_replicate _) A0.limbs (aV n 0 n) (by simp) (by omega) (A0.below hb1).wlies;have hb2:Below w0.heap.size w0 w2:=hb1.trans (F2.below (Nat.le_refl _) hb1.size);obtain⟨l0',l1'⟩:=duo (ab hb2 HX0.out))
  have l2:M2.length=n:=by rw [O2.len,List.length_replicate]
  have s2:val M2=val X:=by rw [←aR,l2];exact S2
  have HN:=dO w0.heap.size n M2 w2 B2 L2 l2 (by omega)
  have HL2:=aa (And.intro l2 s2)
  have HB2:=aa hb2
  clear B2 L2 F2 O2 S2 l2 s2
  go_wp2_with fail
  refine HN.mono ?_
  rintro e w3 ⟨rfl,Z',B3,L3,l3,v3,F3⟩
  have hb3:Below w0.heap.size w0 w3:=HB2.out.trans (F3.below (Nat.le_refl _) HB2.out.size)
  have HE:=aa (show fl n (zz true (val X)) w (.returned (.slice (some ⟨w0.heap.size,0,none⟩) n n)) w3 from ⟨⟨_,Z',rfl,HB0.out.size,B3,L3,by rw [l3];exact HL2.out.1,by rw [v3,HL2.out.1,HL2.out.2];exact HC.out.2⟩,HB0.out.trans (hb3.mono HB0.out.size)⟩)
  clear HN B3 L3 l3 v3 F3 hb3
  go_wp2
  go_ret
  exact HE.out

theorem eZ (out:List Nat)(f:Nat→Nat→Nat)(n k:Nat)(P Q:List Nat)(hl:out.length=n)(hk:k<n)(h:out.take k=(aM f n P Q).take k):(out.set k (f (P.getD k 0) (Q.getD k 0))).take (k+1)=(aM f n P Q).take (k+1):=by
 have h1:k<(out.set k (f (P.getD k 0) (Q.getD k 0))).length:=by simp;omega
 have h2:k<(aM f n P Q).length:=by rw [dY];exact hk
 rw [List.take_succ_eq_append_getElem h1,List.take_succ_eq_append_getElem h2,List.take_set_of_le (Nat.le_refl _),h]
 congr 2
 have:=ln f n k P Q hk
 simp only [List.getElem_set_self]
 rw [←this]
 simp [List.getD,h2]

theorem ol (x y:Nat)(hx:x<18446744073709551616)(_hy:y<18446744073709551616):x &&& y<18446744073709551616:=Nat.lt_of_le_of_lt Nat.and_le_left hx

theorem nG (x y:Nat)(hx:x<18446744073709551616)(hy:y<18446744073709551616):x ||| y<18446744073709551616:=Nat.or_lt_two_pow (n:=64) hx hy

theorem jw (x y:Nat)(hx:x<18446744073709551616)(hy:y<18446744073709551616):x ^^^ y<18446744073709551616:=Nat.xor_lt_two_pow (n:=64) hx hy



theorem mZ (v1 v2:Value)(zs ys:List Nat)(w:World)(h1:Arg w v1 zs)(h2:Arg w v2 ys)(f1:zs.length≤35184372088831)(f2:ys.length≤35184372088831) :
  Calls Tryz.prog 39 #[v1,v2] w fun e w'=>Below w.heap.size w w'∧Res w' w.heap.size e (val zs+val ys):=by
 obtain⟨a1,c1,rfl,hc1,hm1,hl1⟩:=h1.form
 obtain⟨a2,c2,rfl,hc2,hm2,hl2⟩:=h2.form
 have H1:=bS a1 c1 zs w hc1 hm1 hl1
 have H2:=bS a2 c2 ys w hc2 hm2 hl2
 have l1:=tr_length_le zs
 have l2:=tr_length_le ys
 have L1:=hl1.tr
 have L2:=hl2.tr
 have M1:=limbs_tr h1.limbs
 have M2:=limbs_tr h2.limbs
 rw [←val_tr zs,←val_tr ys]
 obtain⟨i0,hi,hz0,hz1,hz2⟩:=info_parts Tryz.infoU
 generalize tr zs=Z at *
 generalize tr ys=Y at *
 by_cases hlt:Z.length<Y.length
 ·rw [Nat.add_comm (val Z) (val Y)]
  go_enter Tryz.func39,Tryz.ntmps39
  go_wp2_with fail
  refine H1.mono ?_
  rintro e w' ⟨rfl,rfl⟩
  go_wp2_with fail
  refine H2.mono ?_
  rintro e w' ⟨rfl,rfl⟩
  clear H1 H2
  go_wp2_with (at_make;refine wpList_make_full _ rfl _ _ 25 rfl w'.heap.size 60 i0 (.int .u64 0) 1 Tryz.underlying25 hi hz0 hz1 .i64 .i64 _ _ (Y.length+1) rfl rfl (by omega) (by omega) (by rw [hz2];omega) (by unfold maxLen;omega) (Nat.le_refl _) ?_;intro w1 hown hgrow)
  have hb1:=Blk.made hown
  have hbel:Below w'.heap.size w' w1:=(Below.refl _ _).grown hgrow (Nat.le_refl _) (fun k hk=>by cases hk)
  clear hown hgrow hi hz0 hz1 hz2
  go_loopw [7,26] (fun c i wr=>∃(k cy:Nat) (out:List Nat),k≤Y.length∧i=.int .i64 k∧c=.int .u64 cy∧cy≤1∧out.length=Y.length+1∧Limbs out∧Blk wr w'.heap.size out∧Below w'.heap.size w' wr ∧
    val (out.take k)+cy*18446744073709551616 ^ k=val (Y.take k)+val (Z.take k)) (fun _ i _=>Y.length - (intOf i).toNat)
  case atStart=>exact⟨0,0,_,Nat.zero_le _,rfl,rfl,by omega,by simp,limbs_replicate _,hb1,hbel,by simp [val]⟩
  case round=>
   obtain⟨k,cy,out,hk,rfl,rfl,hcy,hlen,hlo,hblk,hbl,hval⟩:=hrel
   clear hb1 hbel
   have HV:Hid (val (out.take k)+cy*18446744073709551616 ^ k=val (Y.take k)+val (Z.take k)):=hval
   clear hval
   have HB:Hid (Blk wr w'.heap.size out):=hblk
   have HL:Hid (Below w'.heap.size w' wr):=hbl
   have H42:=dJ a1 c1 Z k wr.drew (by omega) hm1 (L1.below hbl.drew)
   by_cases hkl:k<Y.length
   ·rcases L2.below hbl with h0|⟨b,off,rfl,hcell⟩
    ·simp [h0] at hkl
    ·have hck:=hcell k hkl
     have hbw:=ak.block (L2:ak w' (some ⟨b,off,none⟩) Y) (by omega)
     have hne1:¬b=w'.heap.size:=by omega
     have hne2:¬w'.heap.size=b:=by omega
     have hfr:=hblk.free k
     have hco:=hblk.cell k (by omega)
     have ha:=cH (Y.getD k 0) (Z.getD k 0) cy hcy
     have hst:=add_step Y Z out k cy (by omega) HV.out
     have HS:Hid (val ((out.set k ((Y.getD k 0+Z.getD k 0+cy) % 18446744073709551616)).take (k+1))+(Y.getD k 0+Z.getD k 0+cy) / 18446744073709551616*18446744073709551616 ^ (k+1)=val (Y.take (k+1))+val (Z.take (k+1))):=hst
     have z1:=limb_lt M2 k
     have z2:=limb_lt M1 k
     clear hst hcell hblk hbl HV L2 L1 M2 M1 hl1 hl2 h1 h2
     generalize Y.getD k 0=x at *
     generalize Z.getD k 0=y at *
     generalize out.getD k 0=o at *
     have hs1:(x+y+cy) % 18446744073709551616<18446744073709551616:=Nat.mod_lt _ (by omega)
     have hd1:(x+y+cy) / 18446744073709551616≤1:=by omega
     generalize (x+y+cy) % 18446744073709551616=s at *
     generalize (x+y+cy) / 18446744073709551616=d at *
     have hi1:(0:Int)≤(k:Int):=by omega
     have hi2:(k:Int)<(Y.length:Int):=by omega
     have hi3:(k:Int)<(Y.length:Int)+1:=by omega
     go_wp2
     go_region_held3 (fun w'=>w'.cell? ⟨b,off+k,none⟩=some (.int .u64 x)) (go_keep) (first | (go_at_call 70;refine H42.mono ?_;rintro e w2 ⟨rfl,rfl⟩))
     go_wp2
     go_roundw
     case rel=>exact⟨k+1,d,out.set k s,by omega,by go_num,rfl,hd1,by simp;omega,limbs_set hlo _ _ hs1,HB.out.set k s,(HL.out.setCell (Nat.le_refl _) _).drew,HS.out⟩
     case measure=>simp [intOf];omega
   ·have ek:k=Y.length:=by omega
    subst ek
    have hfr:=hblk.free Y.length
    have hco:=hblk.cell Y.length (by omega)
    generalize out.getD Y.length 0=o at *
    have hb2:=hblk.set Y.length cy
    have HA:=eF _ w'.heap.size _ _ hb2 (limbs_set hlo _ _ (by omega)) (Nat.le_refl _) (by simp;omega)
    have hvl:val (out.set Y.length cy)=val Y+val Z:=by
     have e1:(out.set Y.length cy).take (Y.length+1)=out.set Y.length cy:=List.take_of_length_le (by simp;omega)
     rw [←e1,take_set_succ _ _ _ (by omega),Nat.mul_comm,HV.out,List.take_length,List.take_of_length_le (by omega)]
    rw [List.length_set,hlen,hvl] at HA
    have HBel:Hid (Below w'.heap.size w' (wr.setCell ⟨w'.heap.size,Y.length,none⟩ (.int .u64 cy))):=hbl.setCell (Nat.le_refl _) _
    clear hvl hb2 hblk hbl HV H42 L2 L1 M2 M1 hl1 hl2 h1 h2 HB HL hlo
    go_wp2_with fail
    refine HA.mono ?_
    rintro e w2 ⟨rfl,hres⟩
    unfold Res at hres
    obtain⟨v,c,rs,rfl,hans,hcase⟩:=hres
    have HX:Hid (Ans _ w'.heap.size v rs∧((c=0∧val rs=val Y+val Z∧tr rs=rs∧blen (val Y+val Z)≤67108864)∨(c=3∧rs=[]∧67108864<blen (val Y+val Z)))):=⟨hans,hcase⟩
    clear hans hcase
    go_wp2
    go_ret2
    exact⟨HBel.out,v,c,rs,rfl,HX.out⟩
 ·go_enter Tryz.func39,Tryz.ntmps39
  go_wp2_with fail
  refine H1.mono ?_
  rintro e w' ⟨rfl,rfl⟩
  go_wp2_with fail
  refine H2.mono ?_
  rintro e w' ⟨rfl,rfl⟩
  clear H1 H2
  go_wp2_with (at_make;refine wpList_make_full _ rfl _ _ 25 rfl w'.heap.size 60 i0 (.int .u64 0) 1 Tryz.underlying25 hi hz0 hz1 .i64 .i64 _ _ (Z.length+1) rfl rfl (by omega) (by omega) (by rw [hz2];omega) (by unfold maxLen;omega) (Nat.le_refl _) ?_;intro w1 hown hgrow)
  have hb1:=Blk.made hown
  have hbel:Below w'.heap.size w' w1:=(Below.refl _ _).grown hgrow (Nat.le_refl _) (fun k hk=>by cases hk)
  clear hown hgrow hi hz0 hz1 hz2
  go_loopw [7,26] (fun c i wr=>∃(k cy:Nat) (out:List Nat),k≤Z.length∧i=.int .i64 k∧c=.int .u64 cy∧cy≤1∧out.length=Z.length+1∧Limbs out∧Blk wr w'.heap.size out∧Below w'.heap.size w' wr ∧
    val (out.take k)+cy*18446744073709551616 ^ k=val (Z.take k)+val (Y.take k)) (fun _ i _=>Z.length - (intOf i).toNat)
  case atStart=>exact⟨0,0,_,Nat.zero_le _,rfl,rfl,by omega,by simp,limbs_replicate _,hb1,hbel,by simp [val]⟩
  case round=>
   obtain⟨k,cy,out,hk,rfl,rfl,hcy,hlen,hlo,hblk,hbl,hval⟩:=hrel
   clear hb1 hbel
   have HV:Hid (val (out.take k)+cy*18446744073709551616 ^ k=val (Z.take k)+val (Y.take k)):=hval
   clear hval
   have HB:Hid (Blk wr w'.heap.size out):=hblk
   have HL:Hid (Below w'.heap.size w' wr):=hbl
   have H42:=dJ a2 c2 Y k wr.drew (by omega) hm2 (L2.below hbl.drew)
   by_cases hkl:k<Z.length
   ·rcases L1.below hbl with h0|⟨b,off,rfl,hcell⟩
    ·simp [h0] at hkl
    ·have hck:=hcell k hkl
     have hbw:=ak.block (L1:ak w' (some ⟨b,off,none⟩) Z) (by omega)
     have hne1:¬b=w'.heap.size:=by omega
     have hne2:¬w'.heap.size=b:=by omega
     have hfr:=hblk.free k
     have hco:=hblk.cell k (by omega)
     have ha:=cH (Z.getD k 0) (Y.getD k 0) cy hcy
     have hst:=add_step Z Y out k cy (by omega) HV.out
     have HS:Hid (val ((out.set k ((Z.getD k 0+Y.getD k 0+cy) % 18446744073709551616)).take (k+1))+(Z.getD k 0+Y.getD k 0+cy) / 18446744073709551616*18446744073709551616 ^ (k+1)=val (Z.take (k+1))+val (Y.take (k+1))):=hst
     have z1:=limb_lt M1 k
     have z2:=limb_lt M2 k
     clear hst hcell hblk hbl HV L1 L2 M1 M2 hl1 hl2 h1 h2
     generalize Z.getD k 0=x at *
     generalize Y.getD k 0=y at *
     generalize out.getD k 0=o at *
     have hs1:(x+y+cy) % 18446744073709551616<18446744073709551616:=Nat.mod_lt _ (by omega)
     have hd1:(x+y+cy) / 18446744073709551616≤1:=by omega
     generalize (x+y+cy) % 18446744073709551616=s at *
     generalize (x+y+cy) / 18446744073709551616=d at *
     have hi1:(0:Int)≤(k:Int):=by omega
     have hi2:(k:Int)<(Z.length:Int):=by omega
     have hi3:(k:Int)<(Z.length:Int)+1:=by omega
     go_wp2
     go_region_held3 (fun w'=>w'.cell? ⟨b,off+k,none⟩=some (.int .u64 x)) (go_keep) (first | (go_at_call 70;refine H42.mono ?_;rintro e w2 ⟨rfl,rfl⟩))
     go_wp2
     go_roundw
     case rel=>exact⟨k+1,d,out.set k s,by omega,by go_num,rfl,hd1,by simp;omega,limbs_set hlo _ _ hs1,HB.out.set k s,(HL.out.setCell (Nat.le_refl _) _).drew,HS.out⟩
     case measure=>simp [intOf];omega
   ·have ek:k=Z.length:=by omega
    subst ek
    have hfr:=hblk.free Z.length
    have hco:=hblk.cell Z.length (by omega)
    generalize out.getD Z.length 0=o at *
    have hb2:=hblk.set Z.length cy
    have HA:=eF _ w'.heap.size _ _ hb2 (limbs_set hlo _ _ (by omega)) (Nat.le_refl _) (by simp;omega)
    have hvl:val (out.set Z.length cy)=val Z+val Y:=by
     have e1:(out.set Z.length cy).take (Z.length+1)=out.set Z.length cy:=List.take_of_length_le (by simp;omega)
     rw [←e1,take_set_succ _ _ _ (by omega),Nat.mul_comm,HV.out,List.take_length,List.take_of_length_le (by omega)]
    rw [List.length_set,hlen,hvl] at HA
    have HBel:Hid (Below w'.heap.size w' (wr.setCell ⟨w'.heap.size,Z.length,none⟩ (.int .u64 cy))):=hbl.setCell (Nat.le_refl _) _
    clear hvl hb2 hblk hbl HV H42 L1 L2 M1 M2 hl1 hl2 h1 h2 HB HL hlo
    go_wp2_with fail
    refine HA.mono ?_
    rintro e w2 ⟨rfl,hres⟩
    unfold Res at hres
    obtain⟨v,c,rs,rfl,hans,hcase⟩:=hres
    have HX:Hid (Ans _ w'.heap.size v rs∧((c=0∧val rs=val Z+val Y∧tr rs=rs∧blen (val Z+val Y)≤67108864)∨(c=3∧rs=[]∧67108864<blen (val Z+val Y)))):=⟨hans,hcase⟩
    clear hans hcase
    go_wp2
    go_ret2
    exact⟨HBel.out,v,c,rs,rfl,HX.out⟩



theorem cR (L:Nat)(v1:Value)(X:List Nat)(w:World)(hL:w.heap[L]?=some (.cells #[v1] 25))(hA:Arg w v1 X) :
  Calls Tryz.prog 64 #[.slice (some ⟨L,0,none⟩) 1 1] w fun e w'=>e=.returned (.bool (decide (67108864<blen (val X))))∧w'=w:=by
 have c0:w.cell? ⟨L,0,none⟩=some v1:=by simp [World.cell?,hL]
 have L1:=aQ v1 X w hA
 obtain⟨a1,n1,rfl,_,_,_⟩:=hA.form
 clear hA hL
 generalize blen (val X)=lx at *
 by_cases h1:67108864<lx
 ·have i1:(67108864:Int)<(lx:Int):=by omega
  rw [decide_eq_true h1]
  go_enter Tryz.func64,Tryz.ntmps64
  go_wp2
  refine wp_loop_rounds 1 ?_
  rw [rounds_succ]
  go_wp2_with fail
  refine L1.mono ?_
  rintro e wn ⟨rfl,hw⟩;rw [hw];clear hw wn L1
  go_wp2
  go_ret
  exact⟨rfl,rfl⟩
 ·have i1:¬(67108864:Int)<(lx:Int):=by omega
  rw [decide_eq_false h1]
  go_enter Tryz.func64,Tryz.ntmps64
  go_wp2
  refine wp_loop_rounds 2 ?_
  rw [rounds_succ]
  go_wp2_with fail
  refine L1.mono ?_
  rintro e wn ⟨rfl,hw⟩;rw [hw];clear hw wn L1
  go_wp2
  rw [rounds_succ]
  go_wp2
  go_ret
  exact⟨rfl,rfl⟩

theorem j7 (x y:Nat)(w:World)(hx:x<18446744073709551616)(hy:y<18446744073709551616) :
  Calls Tryz.prog 33 #[.int .u64 x,.int .u64 y] w fun e w'=>e=.returned (.int .u64 ((x &&& y:Nat):Int))∧w'=w:=by
 have h:=bits_and_u64_nat x y hx hy
 go_enter Tryz.func33,Tryz.ntmps33
 go_wp2
 go_ret
 exact⟨rfl,rfl⟩

theorem mz (x y:Nat)(w:World)(hx:x<18446744073709551616)(hy:y<18446744073709551616) :
  Calls Tryz.prog 34 #[.int .u64 x,.int .u64 y] w fun e w'=>e=.returned (.int .u64 ((x ||| y:Nat):Int))∧w'=w:=by
 have h:=bits_or_u64_nat x y hx hy
 go_enter Tryz.func34,Tryz.ntmps34
 go_wp2
 go_ret
 exact⟨rfl,rfl⟩

theorem lE (x y:Nat)(w:World)(hx:x<18446744073709551616)(hy:y<18446744073709551616) :
  Calls Tryz.prog 35 #[.int .u64 x,.int .u64 y] w fun e w'=>e=.returned (.int .u64 ((x ^^^ y:Nat):Int))∧w'=w:=by
 have h:=bits_xor_u64_nat x y hx hy
 go_enter Tryz.func35,Tryz.ntmps35
 go_wp2
 go_ret
 exact⟨rfl,rfl⟩

theorem fc {n m:Nat}{s:Bool}{Z:List Nat}(hl:Limbs Z)(hn:Z.length=n+1)(hm:m<18446744073709551616 ^ n)(hv:val Z=tcv (64*(n+1)) s m):(0<Z.getD n 0)=(s=true):=by
 have h:=cn Z 0 n (by omega)
 have h2:=aR Z
 rw [hn] at h2
 rw [h2,Nat.zero_add,hv] at h
 have h3:=bj hl 0 n
 have hp:18446744073709551616 ^ (n+1)=18446744073709551616 ^ n*18446744073709551616:=Nat.pow_succ ..
 have hp0:0<18446744073709551616 ^ n:=Nat.pow_pos (by omega)
 unfold tcv at h
 rw [bA] at h
 generalize sv Z 0 n=a at *
 generalize Z.getD n 0=t at *
 generalize (18446744073709551616:Nat) ^ n=P at *
 rw [hp] at h
 cases s
 ·simp at h ⊢
  rcases Nat.eq_zero_or_pos t with h4|h4
  ·exact h4
  ·have h5:P≤P*t:=Nat.le_mul_of_pos_right _ h4
   omega
 ·simp at h ⊢
  rcases Nat.eq_zero_or_pos t with h4|h4
  ·subst h4
   omega
  ·omega

theorem cT {b:Bool}{X:List Nat}{n:Nat}(hl:Limbs X)(hn:X.length≤n):zmg (zz b (val X))<18446744073709551616 ^ n:=by
 have h1:=val_lt hl
 have h2:18446744073709551616 ^ X.length≤18446744073709551616 ^ n:=Nat.pow_le_pow_right (by omega) hn
 have h3:=aD b (val X)
 unfold zmg
 split <;> omega

theorem fe {n m:Nat}(hm:m<18446744073709551616 ^ n):(18446744073709551616 ^ (n+1) - tcv (64*(n+1)) true m) % 18446744073709551616 ^ (n+1)=m+1:=by
 have hp:18446744073709551616 ^ (n+1)=18446744073709551616 ^ n*18446744073709551616:=Nat.pow_succ ..
 have hp0:0<18446744073709551616 ^ n:=Nat.pow_pos (by omega)
 unfold tcv
 rw [bA]
 generalize (18446744073709551616:Nat) ^ n=P at *
 rw [hp]
 simp only [if_true]
 rw [show P*18446744073709551616 - (P*18446744073709551616 - 1 - m)=m+1 by omega,Nat.mod_eq_of_lt (by omega)]

theorem cU (b:Bool)(v:Value)(rs:List Nat)(base:Nat)(w:World)(x:Nat)(z:Int)(hz:zz b x=z)(hA:Ans w base v rs)(hv:val rs=x)(ht:tr rs=rs) :
  Calls Tryz.prog 65 #[.bool b,v] w fun e w'=>e=.returned (.agg #[.bool (decide (z<0)),v])∧Below w.heap.size w w':=by
 have C:=bO b v rs base w hA
 rw [bQ b ht hv,hz] at C
 exact C

theorem bC (s:Bool)(m:Nat):enc s m=zz s (if s then m+1 else m):=by
 cases s <;> simp [enc,zz]

theorem aC {W0 W t:World}(h:Below W0.heap.size W0 W)(h2:Below W.heap.size W t):Below W0.heap.size W0 t:=h.trans (h2.mono h.size)

theorem jk (b1 b2:Bool)(v1 v2:Value)(X Y:List Nat)(w:World)(hA:Arg w v1 X)(hB:Arg w v2 Y)(hf:X.length≤17592186044416)(hg:Y.length≤17592186044416) :
  Calls Tryz.prog 32 #[.agg #[.bool b1,v1],.agg #[.bool b2,v2],.func (.func 33) #[] #[]] w fun e w'=>ct w' w.heap.size e (bg (zz b1 (val X)) (zz b2 (val Y)))∧Below w.heap.size w w':=by
 obtain⟨a1,c1,rfl,_,_,_⟩:=hA.form
 obtain⟨a2,c2,rfl,_,_,_⟩:=hB.form
 obtain⟨w0,hw0,hb0,h0,h1,h2⟩:=bP w (.cells #[.bool b1,.slice a1 X.length c1] 27) (.cells #[.bool b2,.slice a2 Y.length c2] 27) (.cells #[.bool false,.slice none 0 0] 27)
 obtain⟨k0,k1⟩:=duo h0
 obtain⟨k2,k3⟩:=duo h1
 obtain⟨m,em,hm1,hm2,hm3⟩:∃m:Nat,max (X.length:Int) (Y.length:Int)=(m:Int)∧X.length≤m∧Y.length≤m∧m≤17592186044416:=⟨max X.length Y.length,by omega,by omega,by omega,by omega⟩
 obtain⟨n,en,hn1,hn2⟩:∃n:Nat,(m:Int)+1=(n:Int)∧m<n∧n≤m+1:=⟨m+1,by omega,by omega,by omega⟩
 have en2:(n:Int) - 1=(m:Int):=by omega
 have C1:=aa (fun (W:World) (hg:Below w0.heap.size w0 W)=>cJ b1 _ X n W ((hA.below hb0).below hg) (by omega) (by omega))
 have C2:=aa (fun (W:World) (hg:Below w0.heap.size w0 W)=>cJ b2 _ Y n W ((hB.below hb0).below hg) (by omega) (by omega))
 have HM1:=aa (cT (b:=b1) hA.limbs hm1)
 have HM2:=aa (cT (b:=b2) hB.limbs hm2)
 have KS:=aa (fun (W:World) (hg:Below w0.heap.size w0 W)=>show (W.cell? ⟨w.heap.size,0,none⟩=some (.bool b1)∧W.cell? ⟨w.heap.size,1,none⟩=some (.slice a1 X.length c1))∧W.cell? ⟨w.heap.size+1,0,none⟩=some (.bool b2)∧W.cell? ⟨w.heap.size+1,1,none⟩=some (.slice a2 Y.length c2) from ⟨duo (ab hg h0),duo (ab hg h1)⟩)
 have HR0:=aa h2
 have HB0:=aa hb0
 clear hA hB hb0 h0 h1 h2 hf hg
 generalize zz b1 (val X)=z1 at *
 generalize zz b2 (val Y)=z2 at *
 obtain⟨ez,hez⟩:∃ez,bg z1 z2=ez:=⟨_,rfl⟩
 rw [hez]
 have HEZ:=aa hez
 clear hez
 have g0:Below w0.heap.size w0 w0.drew:=(Below.refl _ _).drew
 go_enter Tryz.func32,Tryz.ntmps32
 go_upto_region 2 with fail
 clear k0 k1 k2 k3 em en hm1 hm2
 go_region_held3 (fun w'=>(w'.cell? ⟨w.heap.size,0,none⟩=some (.bool b1)∧w'.cell? ⟨w.heap.size,1,none⟩=some (.slice a1 X.length c1))∧w'.cell? ⟨w.heap.size+1,0,none⟩=some (.bool b2)∧w'.cell? ⟨w.heap.size+1,1,none⟩=some (.slice a2 Y.length c2)) (first|with_reducible exact KS.out _ g2|with_reducible exact KS.out _ g1|with_reducible exact KS.out _ g0) (first
  | (go_at_call_of 61 a2;refine (C2.out _ g1).mono ?_;rintro e' t2 ⟨⟨gq,Q,rfl,hgq,BQ,LQ,lQ,vQ⟩,hb2⟩;have g2:=aC g1 hb2)
  | (go_at_call_of 61 a1;refine (C1.out _ g0).mono ?_;rintro e' t1 ⟨⟨gz,P,rfl,hgp,BP,LP,lP,vP⟩,hb1⟩;have g1:=aC g0 hb1))
 have BP2:=BP.below' hb2
 have hne:gq≠gz:=by have:=BP.lt;omega
 have hqlt:=BQ.lt
 have HGE:=aa (show w.heap.size≤gz from Nat.le_trans HB0.out.size (Nat.le_trans g0.size hgp))
 have HW2:=aa (aC HB0.out g2)
 have HB0P:=aa BP2
 have HLP:=aa LP
 have HVP:=aa (And.intro vP vQ)
 replace HR0:=aa (ab g2 HR0.out)
 clear C1 C2 KS g0 g1 g2 hb1 hb2 BP hgp hgq BP2 vP vQ
 go_wp2
 go_loopw [30] (fun i wr=>∃(k:Nat) (out:List Nat),k≤n∧i=.int .i64 k∧out.length=n∧Limbs out∧Blk wr gz out∧Fr gz t2 wr∧Out P out 0 (0+k)∧out.take k=(aM (fun x y=>x &&& y) n P Q).take k) (fun i _=>n - (intOf i).toNat)
 case atStart=>exact⟨0,P,Nat.zero_le _,rfl,lP,HLP.out,HB0P.out,Fr.refl _ _,Out.refl _ _ _,by simp⟩
 case round=>
  obtain⟨k,out,hk,rfl,hlen,hlo,hblk,hfr0,hout,hval⟩:=hrel
  have HV:=aa hval
  have HBk:=aa hblk
  have HF:=aa hfr0
  have HO:=aa hout
  clear hval
  by_cases hkl:k<n
  ·have hfr:=hblk.free k
   have hco:=hblk.cell k (by omega)
   have hsame:=hout.same k (by omega)
   rw [hsame] at hco
   have hcq:=(show Blk wr gq Q from (hfr0.block gq hqlt hne).trans BQ).cell k (by omega)
   have q1:=limb_lt LP k
   have q2:=limb_lt LQ k
   have hst:=eZ out (fun x y=>x &&& y) n k P Q hlen hkl HV.out
   have hlit:=j7 (P.getD k 0) (Q.getD k 0) wr q1 q2
   have hs1:=ol (P.getD k 0) (Q.getD k 0) q1 q2
   generalize P.getD k 0=x at *
   generalize Q.getD k 0=y at *
   have HS':=aa hst
   generalize (x &&& y)=s at *
   have i1:(k:Int)<(n:Int):=by omega
   clear hst hblk hfr0 hout HV hsame LP LQ BQ en2
   go_wp2_with fail
   refine hlit.mono ?_
   rintro e wn ⟨rfl,hw⟩;rw [hw];clear hw wn hlit
   go_wp2
   go_roundw
   case rel=>exact⟨k+1,out.set k s,by omega,by go_num,by simp;omega,limbs_set hlo _ _ hs1,HBk.out.set k s,HF.out.setCell _ _,(HO.out.wider (Nat.le_refl _) (by omega)).set _ _ (by omega) (by omega),HS'.out⟩
   case measure=>simp [intOf];omega
  ·have ek:k=n:=by omega
   have hzip:out=aM (fun x y=>x &&& y) n P Q:=by
    have h:=HV.out
    rw [ek,List.take_of_length_le (by omega),List.take_of_length_le (by rw [dY];omega)] at h
    exact h
   have hp1:=HM1.out
   have hp2:=HM2.out
   have hpn:18446744073709551616 ^ m≤2 ^ (64*n):=by rw [bA];exact Nat.pow_le_pow_right (by omega) (by omega)
   have hvo:val out=tcv (64*n) ((zsg z1 && zsg z2)) ((cb (zsg z1) (zsg z2) (zmg z1) (zmg z2))):=by
    rw [hzip,mq n P Q LP LQ (by omega) (by omega),HVP.out.1,HVP.out.2]
    exact jC (Nat.lt_of_lt_of_le hp1 hpn) (Nat.lt_of_lt_of_le hp2 hpn)
   have hmlt:(cb (zsg z1) (zsg z2) (zmg z1) (zmg z2))<18446744073709551616 ^ m:=by
    rw [←bA] at hp1 hp2 ⊢
    exact (ei _ _) hp1 hp2
   have enm:n=m+1:=by omega
   have htop:=fc (n:=m) hlo (by omega) hmlt (by rw [←enm];exact hvo)
   have hneg:=fe (n:=m) hmlt
   rw [←enm] at hneg
   have hco:=hblk.cell m (by omega)
   have HZO:=aa (show ez=enc ((zsg z1 && zsg z2)) ((cb (zsg z1) (zsg z2) (zmg z1) (zmg z2))) from HEZ.out ▸ rfl)
   generalize ((cb (zsg z1) (zsg z2) (zmg z1) (zmg z2)))=mm at *
   generalize ((zsg z1 && zsg z2))=ss at *
   have HNG:=aa hneg
   have HVO:=aa (And.intro hvo hlen)
   have HBF:Hid (Below w.heap.size w wr):=aa (HW2.out.trans (hfr0.below HGE.out HW2.out.size))
   have HBX:=aa (show Below t2.heap.size t2 t2 from Below.refl _ _)
   have HR1:=aa (show wr.heap[w.heap.size+1+1]?=some (.cells #[.bool false,.slice none 0 0] 27) from (hfr0.block _ (lt_of_block HR0.out) (by have h5:=lt_of_block HR0.out;intro e5;have h6:=HR0.out;rw [e5] at h6;have h7:=HB0P.out;unfold Blk at h7;rw [h6] at h7;simp at h7)).trans HR0.out)
   clear HR0 HBX
   have HR0:=HR1
   have HBX:=aa (Below.refl wr.heap.size wr)
   clear hzip hp1 hp2 hpn hmlt hneg HV HF HO HM1 HM2 HVP LP LQ BQ hfr0 hout HR1 hvo HW2 HEZ
   have i1:¬(k:Int)<(n:Int):=by omega
   have hmi:(m:Int)<(n:Int):=by omega
   have hmi0:(0:Int)≤(m:Int):=by omega
   clear enm ek
   cases ss
   ·have t0:out.getD m 0=0:=by
     rcases Nat.eq_zero_or_pos (out.getD m 0) with h|h
     ·exact h
     ·have h9:0<out.getD m 0:=h;rw [htop] at h9;cases h9
    rw [t0] at hco
    clear htop t0
    have HSZ:=aa (show zz false mm=ez∧ez.natAbs=mm from ⟨by rw [HZO.out,bC];rfl,by rw [HZO.out,bC,aD];rfl⟩)
    have VF:val out=mm:=HVO.out.1
    have lF:=hlen
    have BF:=hblk
    have LF:=hlo
    clear HVO HNG HZO hblk hlo hlen
    have HR:=aP.trimmed (w:=w) (x:=mm) HGE.out BF LF (by omega) VF HBF.out
    rw [lF] at HR
    have hlen9:(tr out).length≤n:=by rw [←lF];exact tr_length_le out
    clear BF LF VF lF
    go_wp2_with fail
    refine HR.mono ?_
    rintro e u1 ⟨he,hwu,⟨v5,rs,he2,hans,hv5,ht5⟩,hbu⟩
    rw [he] at he2
    cases he2
    subst he
    subst hwu
    clear HR
    obtain⟨lr,hlr⟩:∃l,(tr out).length=l:=⟨_,rfl⟩
    rw [hlr] at hans hlen9 ⊢
    have hlrs:rs.length=lr:=by obtain⟨_,_,e9⟩:=hans.shape;cases e9;rfl
    obtain⟨u2,hu2,hbu2,hxu⟩:=aB u1 (.cells #[.slice (some ⟨gz,0,none⟩) lr n] 25)
    have C:=cR _ _ rs u2 hxu ((hans.below hbu2).arg (by rw [hlrs];omega))
    rw [hv5] at C
    have HAN:=aa (hans.below hbu2)
    have HV5:=aa (And.intro hv5 ht5)
    have HB2:=aa (aC hbu hbu2)
    have HXR:=aa (ab hbu2 (ab HBX.out HR0.out))
    clear hans hv5 ht5 hbu hbu2 hxu hlr hlrs
    go_wp2_with fail
    refine C.mono ?_
    rintro e wn ⟨rfl,hw⟩;rw [hw];clear hw wn C
    by_cases hbig:67108864<blen mm
    ·rw [decide_eq_true hbig]
     have T3:=av (a':=.bool false) (b':=.slice none 0 0) HXR.out
     have HE:=aa (And.intro (show ZR ((u2.setCell ⟨w.heap.size+1+1,0,none⟩ (.bool false)).setCell ⟨w.heap.size+1+1,1,none⟩ (.slice none 0 0)) w.heap.size false (.slice none 0 0) 3 ez from ⟨[],Ans.nil _ _,.inr ⟨rfl,rfl,rfl,rfl,by rw [HSZ.out.2];exact hbig⟩⟩) (az (u0:=.bool false) (u1:=.slice none 0 0) HB2.out (show w.heap.size≤w.heap.size+1+1 by omega)))
     obtain⟨p0,p1⟩:=duo T3
     have hf:=af HXR.out
     obtain⟨m0,m1'⟩:=duo HXR.out
     clear T3 hbig
     go_wp2
     clear hf m0 m1'
     generalize (u2.setCell ⟨w.heap.size+1+1,0,none⟩ (.bool false)).setCell ⟨w.heap.size+1+1,1,none⟩ (.slice none 0 0)=w9 at *
     refine bodyPost_ret (v:=.tuple #[.agg #[.bool false,.slice none 0 0],.int .i64 3]) (by simp [results,Tryz.results32,go_sem,p0,p1]) rfl ?_
     exact⟨⟨_,_,_,_,_,rfl,HE.out.1⟩,HE.out.2⟩
    rw [decide_eq_false hbig]
    have C:=cU false _ rs _ u2 mm ez HSZ.out.1 HAN.out HV5.out.1 HV5.out.2
    have HBG:=aa hbig
    clear hbig
    go_wp2_with fail
    refine C.mono ?_
    rintro e u3 ⟨rfl,hb3⟩
    have hz3:=ab hb3 HXR.out
    have T1:ZR u3 w.heap.size (decide (ez<0)) (.slice (some ⟨gz,0,none⟩) lr n) 0 ez:=⟨rs,HAN.out.below hb3,.inl ⟨rfl,rfl,by rw [HSZ.out.2];exact HV5.out.1,HV5.out.2,by rw [HSZ.out.2];have:=HBG.out;omega⟩⟩
    have T3:=av (a':=.bool (decide (ez<0))) (b':=.slice (some ⟨gz,0,none⟩) lr n) hz3
    have HE:=aa (And.intro (T1.duo (u0:=.bool (decide (ez<0))) (u1:=.slice (some ⟨gz,0,none⟩) lr n) hz3) (az (u0:=.bool (decide (ez<0))) (u1:=.slice (some ⟨gz,0,none⟩) lr n) (aC HB2.out hb3) (show w.heap.size≤w.heap.size+1+1 by omega)))
    obtain⟨p0,p1⟩:=duo T3
    have hf:=af hz3
    obtain⟨m0,m1'⟩:=duo hz3
    clear T1 T3 hz3 hb3 C
    go_wp2
    clear hf m0 m1'
    generalize (u3.setCell ⟨w.heap.size+1+1,0,none⟩ (.bool (decide (ez<0)))).setCell ⟨w.heap.size+1+1,1,none⟩ (.slice (some ⟨gz,0,none⟩) lr n)=w9 at *
    refine bodyPost_ret (v:=.tuple #[.agg #[.bool (decide (ez<0)),.slice (some ⟨gz,0,none⟩) lr n],.int .i64 0]) (by simp [results,Tryz.results32,go_sem,p0,p1]) rfl ?_
    exact⟨⟨_,_,_,_,_,rfl,HE.out.1⟩,HE.out.2⟩
   ·have t0:0<out.getD m 0:=by rw [htop]
    generalize out.getD m 0=tt at *
    have t1':(0:Int)<(tt:Int):=by omega
    have HN:=dO gz n out wr hblk hlo hlen (by omega)
    clear htop
    have HSZ:=aa (show zz true (mm+1)=ez∧ez.natAbs=mm+1 from ⟨by rw [HZO.out,bC];rfl,by rw [HZO.out,bC,aD];rfl⟩)
    clear hblk hlo hlen HZO
    go_wp2_with fail
    refine HN.mono ?_
    rintro e w7 ⟨rfl,out2,BF,LF,lF0,vF0,F7⟩
    have lF:out2.length=n:=by rw [lF0];exact HVO.out.2
    have VF:val out2=mm+1:=by rw [vF0,HVO.out.2,HVO.out.1];exact HNG.out
    replace HBF:=aa (HBF.out.trans (F7.below HGE.out HBF.out.size))
    have HR1:=aa (show w7.heap[w.heap.size+1+1]?=some (.cells #[.bool false,.slice none 0 0] 27) from (F7.block _ (lt_of_block HR0.out) (by intro e5;have h6:=ab (Below.refl _ _) HR0.out;have h8:w7.heap[gz]?=_:=BF;have h7:=HBk.out;unfold Blk at h7;rw [e5] at h6;rw [h6] at h7;simp at h7)).trans HR0.out)
    clear HR0 HBX
    have HR0:=HR1
    have HBX:=aa (Below.refl w7.heap.size w7)
    clear HN HVO HNG lF0 vF0 F7 HR1 t0 t1' hco
    have HR:=aP.trimmed (w:=w) (x:=(mm+1)) HGE.out BF LF (by omega) VF HBF.out
    rw [lF] at HR
    have hlen9:(tr out2).length≤n:=by rw [←lF];exact tr_length_le out2
    clear BF LF VF lF
    go_wp2_with fail
    refine HR.mono ?_
    rintro e u1 ⟨he,hwu,⟨v5,rs,he2,hans,hv5,ht5⟩,hbu⟩
    rw [he] at he2
    cases he2
    subst he
    subst hwu
    clear HR
    obtain⟨lr,hlr⟩:∃l,(tr out2).length=l:=⟨_,rfl⟩
    rw [hlr] at hans hlen9 ⊢
    have hlrs:rs.length=lr:=by obtain⟨_,_,e9⟩:=hans.shape;cases e9;rfl
    obtain⟨u2,hu2,hbu2,hxu⟩:=aB u1 (.cells #[.slice (some ⟨gz,0,none⟩) lr n] 25)
    have C:=cR _ _ rs u2 hxu ((hans.below hbu2).arg (by rw [hlrs];omega))
    rw [hv5] at C
    have HAN:=aa (hans.below hbu2)
    have HV5:=aa (And.intro hv5 ht5)
    have HB2:=aa (aC hbu hbu2)
    have HXR:=aa (ab hbu2 (ab HBX.out HR0.out))
    clear hans hv5 ht5 hbu hbu2 hxu hlr hlrs
    go_wp2_with fail
    refine C.mono ?_
    rintro e wn ⟨rfl,hw⟩;rw [hw];clear hw wn C
    by_cases hbig:67108864<blen (mm+1)
    ·rw [decide_eq_true hbig]
     have T3:=av (a':=.bool false) (b':=.slice none 0 0) HXR.out
     have HE:=aa (And.intro (show ZR ((u2.setCell ⟨w.heap.size+1+1,0,none⟩ (.bool false)).setCell ⟨w.heap.size+1+1,1,none⟩ (.slice none 0 0)) w.heap.size false (.slice none 0 0) 3 ez from ⟨[],Ans.nil _ _,.inr ⟨rfl,rfl,rfl,rfl,by rw [HSZ.out.2];exact hbig⟩⟩) (az (u0:=.bool false) (u1:=.slice none 0 0) HB2.out (show w.heap.size≤w.heap.size+1+1 by omega)))
     obtain⟨p0,p1⟩:=duo T3
     have hf:=af HXR.out
     obtain⟨m0,m1'⟩:=duo HXR.out
     clear T3 hbig
     go_wp2
     clear hf m0 m1'
     generalize (u2.setCell ⟨w.heap.size+1+1,0,none⟩ (.bool false)).setCell ⟨w.heap.size+1+1,1,none⟩ (.slice none 0 0)=w9 at *
     refine bodyPost_ret (v:=.tuple #[.agg #[.bool false,.slice none 0 0],.int .i64 3]) (by simp [results,Tryz.results32,go_sem,p0,p1]) rfl ?_
     exact⟨⟨_,_,_,_,_,rfl,HE.out.1⟩,HE.out.2⟩
    rw [decide_eq_false hbig]
    have C:=cU true _ rs _ u2 (mm+1) ez HSZ.out.1 HAN.out HV5.out.1 HV5.out.2
    have HBG:=aa hbig
    clear hbig
    go_wp2_with fail
    refine C.mono ?_
    rintro e u3 ⟨rfl,hb3⟩
    have hz3:=ab hb3 HXR.out
    have T1:ZR u3 w.heap.size (decide (ez<0)) (.slice (some ⟨gz,0,none⟩) lr n) 0 ez:=⟨rs,HAN.out.below hb3,.inl ⟨rfl,rfl,by rw [HSZ.out.2];exact HV5.out.1,HV5.out.2,by rw [HSZ.out.2];have:=HBG.out;omega⟩⟩
    have T3:=av (a':=.bool (decide (ez<0))) (b':=.slice (some ⟨gz,0,none⟩) lr n) hz3
    have HE:=aa (And.intro (T1.duo (u0:=.bool (decide (ez<0))) (u1:=.slice (some ⟨gz,0,none⟩) lr n) hz3) (az (u0:=.bool (decide (ez<0))) (u1:=.slice (some ⟨gz,0,none⟩) lr n) (aC HB2.out hb3) (show w.heap.size≤w.heap.size+1+1 by omega)))
    obtain⟨p0,p1⟩:=duo T3
    have hf:=af hz3
    obtain⟨m0,m1'⟩:=duo hz3
    clear T1 T3 hz3 hb3 C
    go_wp2
    clear hf m0 m1'
    generalize (u3.setCell ⟨w.heap.size+1+1,0,none⟩ (.bool (decide (ez<0)))).setCell ⟨w.heap.size+1+1,1,none⟩ (.slice (some ⟨gz,0,none⟩) lr n)=w9 at *
    refine bodyPost_ret (v:=.tuple #[.agg #[.bool (decide (ez<0)),.slice (some ⟨gz,0,none⟩) lr n],.int .i64 0]) (by simp [results,Tryz.results32,go_sem,p0,p1]) rfl ?_
    exact⟨⟨_,_,_,_,_,rfl,HE.out.1⟩,HE.out.2⟩

theorem i8 (b1 b2:Bool)(v1 v2:Value)(X Y:List Nat)(w:World)(hA:Arg w v1 X)(hB:Arg w v2 Y)(hf:X.length≤17592186044416)(hg:Y.length≤17592186044416) :
  Calls Tryz.prog 32 #[.agg #[.bool b1,v1],.agg #[.bool b2,v2],.func (.func 34) #[] #[]] w fun e w'=>ct w' w.heap.size e (zor (zz b1 (val X)) (zz b2 (val Y)))∧Below w.heap.size w w':=by
 obtain⟨a1,c1,rfl,_,_,_⟩:=hA.form
 obtain⟨a2,c2,rfl,_,_,_⟩:=hB.form
 obtain⟨w0,hw0,hb0,h0,h1,h2⟩:=bP w (.cells #[.bool b1,.slice a1 X.length c1] 27) (.cells #[.bool b2,.slice a2 Y.length c2] 27) (.cells #[.bool false,.slice none 0 0] 27)
 obtain⟨k0,k1⟩:=duo h0
 obtain⟨k2,k3⟩:=duo h1
 obtain⟨m,em,hm1,hm2,hm3⟩:∃m:Nat,max (X.length:Int) (Y.length:Int)=(m:Int)∧X.length≤m∧Y.length≤m∧m≤17592186044416:=⟨max X.length Y.length,by omega,by omega,by omega,by omega⟩
 obtain⟨n,en,hn1,hn2⟩:∃n:Nat,(m:Int)+1=(n:Int)∧m<n∧n≤m+1:=⟨m+1,by omega,by omega,by omega⟩
 have en2:(n:Int) - 1=(m:Int):=by omega
 have C1:=aa (fun (W:World) (hg:Below w0.heap.size w0 W)=>cJ b1 _ X n W ((hA.below hb0).below hg) (by omega) (by omega))
 have C2:=aa (fun (W:World) (hg:Below w0.heap.size w0 W)=>cJ b2 _ Y n W ((hB.below hb0).below hg) (by omega) (by omega))
 have HM1:=aa (cT (b:=b1) hA.limbs hm1)
 have HM2:=aa (cT (b:=b2) hB.limbs hm2)
 have KS:=aa (fun (W:World) (hg:Below w0.heap.size w0 W)=>show (W.cell? ⟨w.heap.size,0,none⟩=some (.bool b1)∧W.cell? ⟨w.heap.size,1,none⟩=some (.slice a1 X.length c1))∧W.cell? ⟨w.heap.size+1,0,none⟩=some (.bool b2)∧W.cell? ⟨w.heap.size+1,1,none⟩=some (.slice a2 Y.length c2) from ⟨duo (ab hg h0),duo (ab hg h1)⟩)
 have HR0:=aa h2
 have HB0:=aa hb0
 clear hA hB hb0 h0 h1 h2 hf hg
 generalize zz b1 (val X)=z1 at *
 generalize zz b2 (val Y)=z2 at *
 obtain⟨ez,hez⟩:∃ez,zor z1 z2=ez:=⟨_,rfl⟩
 rw [hez]
 have HEZ:=aa hez
 clear hez
 have g0:Below w0.heap.size w0 w0.drew:=(Below.refl _ _).drew
 go_enter Tryz.func32,Tryz.ntmps32
 go_upto_region 2 with fail
 clear k0 k1 k2 k3 em en hm1 hm2
 go_region_held3 (fun w'=>(w'.cell? ⟨w.heap.size,0,none⟩=some (.bool b1)∧w'.cell? ⟨w.heap.size,1,none⟩=some (.slice a1 X.length c1))∧w'.cell? ⟨w.heap.size+1,0,none⟩=some (.bool b2)∧w'.cell? ⟨w.heap.size+1,1,none⟩=some (.slice a2 Y.length c2)) (first|with_reducible exact KS.out _ g2|with_reducible exact KS.out _ g1|with_reducible exact KS.out _ g0) (first
  | (go_at_call_of 61 a2;refine (C2.out _ g1).mono ?_;rintro e' t2 ⟨⟨gq,Q,rfl,hgq,BQ,LQ,lQ,vQ⟩,hb2⟩;have g2:=aC g1 hb2)
  | (go_at_call_of 61 a1;refine (C1.out _ g0).mono ?_;rintro e' t1 ⟨⟨gz,P,rfl,hgp,BP,LP,lP,vP⟩,hb1⟩;have g1:=aC g0 hb1))
 have BP2:=BP.below' hb2
 have hne:gq≠gz:=by have:=BP.lt;omega
 have hqlt:=BQ.lt
 have HGE:=aa (show w.heap.size≤gz from Nat.le_trans HB0.out.size (Nat.le_trans g0.size hgp))
 have HW2:=aa (aC HB0.out g2)
 have HB0P:=aa BP2
 have HLP:=aa LP
 have HVP:=aa (And.intro vP vQ)
 replace HR0:=aa (ab g2 HR0.out)
 clear C1 C2 KS g0 g1 g2 hb1 hb2 BP hgp hgq BP2 vP vQ
 go_wp2
 go_loopw [30] (fun i wr=>∃(k:Nat) (out:List Nat),k≤n∧i=.int .i64 k∧out.length=n∧Limbs out∧Blk wr gz out∧Fr gz t2 wr∧Out P out 0 (0+k)∧out.take k=(aM (fun x y=>x ||| y) n P Q).take k) (fun i _=>n - (intOf i).toNat)
 case atStart=>exact⟨0,P,Nat.zero_le _,rfl,lP,HLP.out,HB0P.out,Fr.refl _ _,Out.refl _ _ _,by simp⟩
 case round=>
  obtain⟨k,out,hk,rfl,hlen,hlo,hblk,hfr0,hout,hval⟩:=hrel
  have HV:=aa hval
  have HBk:=aa hblk
  have HF:=aa hfr0
  have HO:=aa hout
  clear hval
  by_cases hkl:k<n
  ·have hfr:=hblk.free k
   have hco:=hblk.cell k (by omega)
   have hsame:=hout.same k (by omega)
   rw [hsame] at hco
   have hcq:=(show Blk wr gq Q from (hfr0.block gq hqlt hne).trans BQ).cell k (by omega)
   have q1:=limb_lt LP k
   have q2:=limb_lt LQ k
   have hst:=eZ out (fun x y=>x ||| y) n k P Q hlen hkl HV.out
   have hlit:=mz (P.getD k 0) (Q.getD k 0) wr q1 q2
   have hs1:=nG (P.getD k 0) (Q.getD k 0) q1 q2
   generalize P.getD k 0=x at *
   generalize Q.getD k 0=y at *
   have HS':=aa hst
   generalize (x ||| y)=s at *
   have i1:(k:Int)<(n:Int):=by omega
   clear hst hblk hfr0 hout HV hsame LP LQ BQ en2
   go_wp2_with fail
   refine hlit.mono ?_
   rintro e wn ⟨rfl,hw⟩;rw [hw];clear hw wn hlit
   go_wp2
   go_roundw
   case rel=>exact⟨k+1,out.set k s,by omega,by go_num,by simp;omega,limbs_set hlo _ _ hs1,HBk.out.set k s,HF.out.setCell _ _,(HO.out.wider (Nat.le_refl _) (by omega)).set _ _ (by omega) (by omega),HS'.out⟩
   case measure=>simp [intOf];omega
  ·have ek:k=n:=by omega
   have hzip:out=aM (fun x y=>x ||| y) n P Q:=by
    have h:=HV.out
    rw [ek,List.take_of_length_le (by omega),List.take_of_length_le (by rw [dY];omega)] at h
    exact h
   have hp1:=HM1.out
   have hp2:=HM2.out
   have hpn:18446744073709551616 ^ m≤2 ^ (64*n):=by rw [bA];exact Nat.pow_le_pow_right (by omega) (by omega)
   have hvo:val out=tcv (64*n) ((zsg z1 || zsg z2)) ((ca (zsg z1) (zsg z2) (zmg z1) (zmg z2))):=by
    rw [hzip,kD n P Q LP LQ (by omega) (by omega),HVP.out.1,HVP.out.2]
    exact j4 (Nat.lt_of_lt_of_le hp1 hpn) (Nat.lt_of_lt_of_le hp2 hpn)
   have hmlt:(ca (zsg z1) (zsg z2) (zmg z1) (zmg z2))<18446744073709551616 ^ m:=by
    rw [←bA] at hp1 hp2 ⊢
    exact (fw _ _) hp1 hp2
   have enm:n=m+1:=by omega
   have htop:=fc (n:=m) hlo (by omega) hmlt (by rw [←enm];exact hvo)
   have hneg:=fe (n:=m) hmlt
   rw [←enm] at hneg
   have hco:=hblk.cell m (by omega)
   have HZO:=aa (show ez=enc ((zsg z1 || zsg z2)) ((ca (zsg z1) (zsg z2) (zmg z1) (zmg z2))) from HEZ.out ▸ rfl)
   generalize ((ca (zsg z1) (zsg z2) (zmg z1) (zmg z2)))=mm at *
   generalize ((zsg z1 || zsg z2))=ss at *
   have HNG:=aa hneg
   have HVO:=aa (And.intro hvo hlen)
   have HBF:Hid (Below w.heap.size w wr):=aa (HW2.out.trans (hfr0.below HGE.out HW2.out.size))
   have HBX:=aa (show Below t2.heap.size t2 t2 from Below.refl _ _)
   have HR1:=aa (show wr.heap[w.heap.size+1+1]?=some (.cells #[.bool false,.slice none 0 0] 27) from (hfr0.block _ (lt_of_block HR0.out) (by have h5:=lt_of_block HR0.out;intro e5;have h6:=HR0.out;rw [e5] at h6;have h7:=HB0P.out;unfold Blk at h7;rw [h6] at h7;simp at h7)).trans HR0.out)
   clear HR0 HBX
   have HR0:=HR1
   have HBX:=aa (Below.refl wr.heap.size wr)
   clear hzip hp1 hp2 hpn hmlt hneg HV HF HO HM1 HM2 HVP LP LQ BQ hfr0 hout HR1 hvo HW2 HEZ
   have i1:¬(k:Int)<(n:Int):=by omega
   have hmi:(m:Int)<(n:Int):=by omega
   have hmi0:(0:Int)≤(m:Int):=by omega
   clear enm ek
   cases ss
   ·have t0:out.getD m 0=0:=by
     rcases Nat.eq_zero_or_pos (out.getD m 0) with h|h
     ·exact h
     ·have h9:0<out.getD m 0:=h;rw [htop] at h9;cases h9
    rw [t0] at hco
    clear htop t0
    have HSZ:=aa (show zz false mm=ez∧ez.natAbs=mm from ⟨by rw [HZO.out,bC];rfl,by rw [HZO.out,bC,aD];rfl⟩)
    have VF:val out=mm:=HVO.out.1
    have lF:=hlen
    have BF:=hblk
    have LF:=hlo
    clear HVO HNG HZO hblk hlo hlen
    have HR:=aP.trimmed (w:=w) (x:=mm) HGE.out BF LF (by omega) VF HBF.out
    rw [lF] at HR
    have hlen9:(tr out).length≤n:=by rw [←lF];exact tr_length_le out
    clear BF LF VF lF
    go_wp2_with fail
    refine HR.mono ?_
    rintro e u1 ⟨he,hwu,⟨v5,rs,he2,hans,hv5,ht5⟩,hbu⟩
    rw [he] at he2
    cases he2
    subst he
    subst hwu
    clear HR
    obtain⟨lr,hlr⟩:∃l,(tr out).length=l:=⟨_,rfl⟩
    rw [hlr] at hans hlen9 ⊢
    have hlrs:rs.length=lr:=by obtain⟨_,_,e9⟩:=hans.shape;cases e9;rfl
    obtain⟨u2,hu2,hbu2,hxu⟩:=aB u1 (.cells #[.slice (some ⟨gz,0,none⟩) lr n] 25)
    have C:=cR _ _ rs u2 hxu ((hans.below hbu2).arg (by rw [hlrs];omega))
    rw [hv5] at C
    have HAN:=aa (hans.below hbu2)
    have HV5:=aa (And.intro hv5 ht5)
    have HB2:=aa (aC hbu hbu2)
    have HXR:=aa (ab hbu2 (ab HBX.out HR0.out))
    clear hans hv5 ht5 hbu hbu2 hxu hlr hlrs
    go_wp2_with fail
    refine C.mono ?_
    rintro e wn ⟨rfl,hw⟩;rw [hw];clear hw wn C
    by_cases hbig:67108864<blen mm
    ·rw [decide_eq_true hbig]
     have T3:=av (a':=.bool false) (b':=.slice none 0 0) HXR.out
     have HE:=aa (And.intro (show ZR ((u2.setCell ⟨w.heap.size+1+1,0,none⟩ (.bool false)).setCell ⟨w.heap.size+1+1,1,none⟩ (.slice none 0 0)) w.heap.size false (.slice none 0 0) 3 ez from ⟨[],Ans.nil _ _,.inr ⟨rfl,rfl,rfl,rfl,by rw [HSZ.out.2];exact hbig⟩⟩) (az (u0:=.bool false) (u1:=.slice none 0 0) HB2.out (show w.heap.size≤w.heap.size+1+1 by omega)))
     obtain⟨p0,p1⟩:=duo T3
     have hf:=af HXR.out
     obtain⟨m0,m1'⟩:=duo HXR.out
     clear T3 hbig
     go_wp2
     clear hf m0 m1'
     generalize (u2.setCell ⟨w.heap.size+1+1,0,none⟩ (.bool false)).setCell ⟨w.heap.size+1+1,1,none⟩ (.slice none 0 0)=w9 at *
     refine bodyPost_ret (v:=.tuple #[.agg #[.bool false,.slice none 0 0],.int .i64 3]) (by simp [results,Tryz.results32,go_sem,p0,p1]) rfl ?_
     exact⟨⟨_,_,_,_,_,rfl,HE.out.1⟩,HE.out.2⟩
    rw [decide_eq_false hbig]
    have C:=cU false _ rs _ u2 mm ez HSZ.out.1 HAN.out HV5.out.1 HV5.out.2
    have HBG:=aa hbig
    clear hbig
    go_wp2_with fail
    refine C.mono ?_
    rintro e u3 ⟨rfl,hb3⟩
    have hz3:=ab hb3 HXR.out
    have T1:ZR u3 w.heap.size (decide (ez<0)) (.slice (some ⟨gz,0,none⟩) lr n) 0 ez:=⟨rs,HAN.out.below hb3,.inl ⟨rfl,rfl,by rw [HSZ.out.2];exact HV5.out.1,HV5.out.2,by rw [HSZ.out.2];have:=HBG.out;omega⟩⟩
    have T3:=av (a':=.bool (decide (ez<0))) (b':=.slice (some ⟨gz,0,none⟩) lr n) hz3
    have HE:=aa (And.intro (T1.duo (u0:=.bool (decide (ez<0))) (u1:=.slice (some ⟨gz,0,none⟩) lr n) hz3) (az (u0:=.bool (decide (ez<0))) (u1:=.slice (some ⟨gz,0,none⟩) lr n) (aC HB2.out hb3) (show w.heap.size≤w.heap.size+1+1 by omega)))
    obtain⟨p0,p1⟩:=duo T3
    have hf:=af hz3
    obtain⟨m0,m1'⟩:=duo hz3
    clear T1 T3 hz3 hb3 C
    go_wp2
    clear hf m0 m1'
    generalize (u3.setCell ⟨w.heap.size+1+1,0,none⟩ (.bool (decide (ez<0)))).setCell ⟨w.heap.size+1+1,1,none⟩ (.slice (some ⟨gz,0,none⟩) lr n)=w9 at *
    refine bodyPost_ret (v:=.tuple #[.agg #[.bool (decide (ez<0)),.slice (some ⟨gz,0,none⟩) lr n],.int .i64 0]) (by simp [results,Tryz.results32,go_sem,p0,p1]) rfl ?_
    exact⟨⟨_,_,_,_,_,rfl,HE.out.1⟩,HE.out.2⟩
   ·have t0:0<out.getD m 0:=by rw [htop]
    generalize out.getD m 0=tt at *
    have t1':(0:Int)<(tt:Int):=by omega
    have HN:=dO gz n out wr hblk hlo hlen (by omega)
    clear htop
    have HSZ:=aa (show zz true (mm+1)=ez∧ez.natAbs=mm+1 from ⟨by rw [HZO.out,bC];rfl,by rw [HZO.out,bC,aD];rfl⟩)
    clear hblk hlo hlen HZO
    go_wp2_with fail
    refine HN.mono ?_
    rintro e w7 ⟨rfl,out2,BF,LF,lF0,vF0,F7⟩
    have lF:out2.length=n:=by rw [lF0];exact HVO.out.2
    have VF:val out2=mm+1:=by rw [vF0,HVO.out.2,HVO.out.1];exact HNG.out
    replace HBF:=aa (HBF.out.trans (F7.below HGE.out HBF.out.size))
    have HR1:=aa (show w7.heap[w.heap.size+1+1]?=some (.cells #[.bool false,.slice none 0 0] 27) from (F7.block _ (lt_of_block HR0.out) (by intro e5;have h6:=ab (Below.refl _ _) HR0.out;have h8:w7.heap[gz]?=_:=BF;have h7:=HBk.out;unfold Blk at h7;rw [e5] at h6;rw [h6] at h7;simp at h7)).trans HR0.out)
    clear HR0 HBX
    have HR0:=HR1
    have HBX:=aa (Below.refl w7.heap.size w7)
    clear HN HVO HNG lF0 vF0 F7 HR1 t0 t1' hco
    have HR:=aP.trimmed (w:=w) (x:=(mm+1)) HGE.out BF LF (by omega) VF HBF.out
    rw [lF] at HR
    have hlen9:(tr out2).length≤n:=by rw [←lF];exact tr_length_le out2
    clear BF LF VF lF
    go_wp2_with fail
    refine HR.mono ?_
    rintro e u1 ⟨he,hwu,⟨v5,rs,he2,hans,hv5,ht5⟩,hbu⟩
    rw [he] at he2
    cases he2
    subst he
    subst hwu
    clear HR
    obtain⟨lr,hlr⟩:∃l,(tr out2).length=l:=⟨_,rfl⟩
    rw [hlr] at hans hlen9 ⊢
    have hlrs:rs.length=lr:=by obtain⟨_,_,e9⟩:=hans.shape;cases e9;rfl
    obtain⟨u2,hu2,hbu2,hxu⟩:=aB u1 (.cells #[.slice (some ⟨gz,0,none⟩) lr n] 25)
    have C:=cR _ _ rs u2 hxu ((hans.below hbu2).arg (by rw [hlrs];omega))
    rw [hv5] at C
    have HAN:=aa (hans.below hbu2)
    have HV5:=aa (And.intro hv5 ht5)
    have HB2:=aa (aC hbu hbu2)
    have HXR:=aa (ab hbu2 (ab HBX.out HR0.out))
    clear hans hv5 ht5 hbu hbu2 hxu hlr hlrs
    go_wp2_with fail
    refine C.mono ?_
    rintro e wn ⟨rfl,hw⟩;rw [hw];clear hw wn C
    by_cases hbig:67108864<blen (mm+1)
    ·rw [decide_eq_true hbig]
     have T3:=av (a':=.bool false) (b':=.slice none 0 0) HXR.out
     have HE:=aa (And.intro (show ZR ((u2.setCell ⟨w.heap.size+1+1,0,none⟩ (.bool false)).setCell ⟨w.heap.size+1+1,1,none⟩ (.slice none 0 0)) w.heap.size false (.slice none 0 0) 3 ez from ⟨[],Ans.nil _ _,.inr ⟨rfl,rfl,rfl,rfl,by rw [HSZ.out.2];exact hbig⟩⟩) (az (u0:=.bool false) (u1:=.slice none 0 0) HB2.out (show w.heap.size≤w.heap.size+1+1 by omega)))
     obtain⟨p0,p1⟩:=duo T3
     have hf:=af HXR.out
     obtain⟨m0,m1'⟩:=duo HXR.out
     clear T3 hbig
     go_wp2
     clear hf m0 m1'
     generalize (u2.setCell ⟨w.heap.size+1+1,0,none⟩ (.bool false)).setCell ⟨w.heap.size+1+1,1,none⟩ (.slice none 0 0)=w9 at *
     refine bodyPost_ret (v:=.tuple #[.agg #[.bool false,.slice none 0 0],.int .i64 3]) (by simp [results,Tryz.results32,go_sem,p0,p1]) rfl ?_
     exact⟨⟨_,_,_,_,_,rfl,HE.out.1⟩,HE.out.2⟩
    rw [decide_eq_false hbig]
    have C:=cU true _ rs _ u2 (mm+1) ez HSZ.out.1 HAN.out HV5.out.1 HV5.out.2
    have HBG:=aa hbig
    clear hbig
    go_wp2_with fail
    refine C.mono ?_
    rintro e u3 ⟨rfl,hb3⟩
    have hz3:=ab hb3 HXR.out
    have T1:ZR u3 w.heap.size (decide (ez<0)) (.slice (some ⟨gz,0,none⟩) lr n) 0 ez:=⟨rs,HAN.out.below hb3,.inl ⟨rfl,rfl,by rw [HSZ.out.2];exact HV5.out.1,HV5.out.2,by rw [HSZ.out.2];have:=HBG.out;omega⟩⟩
    have T3:=av (a':=.bool (decide (ez<0))) (b':=.slice (some ⟨gz,0,none⟩) lr n) hz3
    have HE:=aa (And.intro (T1.duo (u0:=.bool (decide (ez<0))) (u1:=.slice (some ⟨gz,0,none⟩) lr n) hz3) (az (u0:=.bool (decide (ez<0))) (u1:=.slice (some ⟨gz,0,none⟩) lr n) (aC HB2.out hb3) (show w.heap.size≤w.heap.size+1+1 by omega)))
    obtain⟨p0,p1⟩:=duo T3
    have hf:=af hz3
    obtain⟨m0,m1'⟩:=duo hz3
    clear T1 T3 hz3 hb3 C
    go_wp2
    clear hf m0 m1'
    generalize (u3.setCell ⟨w.heap.size+1+1,0,none⟩ (.bool (decide (ez<0)))).setCell ⟨w.heap.size+1+1,1,none⟩ (.slice (some ⟨gz,0,none⟩) lr n)=w9 at *
    refine bodyPost_ret (v:=.tuple #[.agg #[.bool (decide (ez<0)),.slice (some ⟨gz,0,none⟩) lr n],.int .i64 0]) (by simp [results,Tryz.results32,go_sem,p0,p1]) rfl ?_
    exact⟨⟨_,_,_,_,_,rfl,HE.out.1⟩,HE.out.2⟩

theorem jG (b1 b2:Bool)(v1 v2:Value)(X Y:List Nat)(w:World)(hA:Arg w v1 X)(hB:Arg w v2 Y)(hf:X.length≤17592186044416)(hg:Y.length≤17592186044416) :
  Calls Tryz.prog 32 #[.agg #[.bool b1,v1],.agg #[.bool b2,v2],.func (.func 35) #[] #[]] w fun e w'=>ct w' w.heap.size e (bi (zz b1 (val X)) (zz b2 (val Y)))∧Below w.heap.size w w':=by
 obtain⟨a1,c1,rfl,_,_,_⟩:=hA.form
 obtain⟨a2,c2,rfl,_,_,_⟩:=hB.form
 obtain⟨w0,hw0,hb0,h0,h1,h2⟩:=bP w (.cells #[.bool b1,.slice a1 X.length c1] 27) (.cells #[.bool b2,.slice a2 Y.length c2] 27) (.cells #[.bool false,.slice none 0 0] 27)
 obtain⟨k0,k1⟩:=duo h0
 obtain⟨k2,k3⟩:=duo h1
 obtain⟨m,em,hm1,hm2,hm3⟩:∃m:Nat,max (X.length:Int) (Y.length:Int)=(m:Int)∧X.length≤m∧Y.length≤m∧m≤17592186044416:=⟨max X.length Y.length,by omega,by omega,by omega,by omega⟩
 obtain⟨n,en,hn1,hn2⟩:∃n:Nat,(m:Int)+1=(n:Int)∧m<n∧n≤m+1:=⟨m+1,by omega,by omega,by omega⟩
 have en2:(n:Int) - 1=(m:Int):=by omega
 have C1:=aa (fun (W:World) (hg:Below w0.heap.size w0 W)=>cJ b1 _ X n W ((hA.below hb0).below hg) (by omega) (by omega))
 have C2:=aa (fun (W:World) (hg:Below w0.heap.size w0 W)=>cJ b2 _ Y n W ((hB.below hb0).below hg) (by omega) (by omega))
 have HM1:=aa (cT (b:=b1) hA.limbs hm1)
 have HM2:=aa (cT (b:=b2) hB.limbs hm2)
 have KS:=aa (fun (W:World) (hg:Below w0.heap.size w0 W)=>show (W.cell? ⟨w.heap.size,0,none⟩=some (.bool b1)∧W.cell? ⟨w.heap.size,1,none⟩=some (.slice a1 X.length c1))∧W.cell? ⟨w.heap.size+1,0,none⟩=some (.bool b2)∧W.cell? ⟨w.heap.size+1,1,none⟩=some (.slice a2 Y.length c2) from ⟨duo (ab hg h0),duo (ab hg h1)⟩)
 have HR0:=aa h2
 have HB0:=aa hb0
 clear hA hB hb0 h0 h1 h2 hf hg
 generalize zz b1 (val X)=z1 at *
 generalize zz b2 (val Y)=z2 at *
 obtain⟨ez,hez⟩:∃ez,bi z1 z2=ez:=⟨_,rfl⟩
 rw [hez]
 have HEZ:=aa hez
 clear hez
 have g0:Below w0.heap.size w0 w0.drew:=(Below.refl _ _).drew
 go_enter Tryz.func32,Tryz.ntmps32
 go_upto_region 2 with fail
 clear k0 k1 k2 k3 em en hm1 hm2
 go_region_held3 (fun w'=>(w'.cell? ⟨w.heap.size,0,none⟩=some (.bool b1)∧w'.cell? ⟨w.heap.size,1,none⟩=some (.slice a1 X.length c1))∧w'.cell? ⟨w.heap.size+1,0,none⟩=some (.bool b2)∧w'.cell? ⟨w.heap.size+1,1,none⟩=some (.slice a2 Y.length c2)) (first|with_reducible exact KS.out _ g2|with_reducible exact KS.out _ g1|with_reducible exact KS.out _ g0) (first
  | (go_at_call_of 61 a2;refine (C2.out _ g1).mono ?_;rintro e' t2 ⟨⟨gq,Q,rfl,hgq,BQ,LQ,lQ,vQ⟩,hb2⟩;have g2:=aC g1 hb2)
  | (go_at_call_of 61 a1;refine (C1.out _ g0).mono ?_;rintro e' t1 ⟨⟨gz,P,rfl,hgp,BP,LP,lP,vP⟩,hb1⟩;have g1:=aC g0 hb1))
 have BP2:=BP.below' hb2
 have hne:gq≠gz:=by have:=BP.lt;omega
 have hqlt:=BQ.lt
 have HGE:=aa (show w.heap.size≤gz from Nat.le_trans HB0.out.size (Nat.le_trans g0.size hgp))
 have HW2:=aa (aC HB0.out g2)
 have HB0P:=aa BP2
 have HLP:=aa LP
 have HVP:=aa (And.intro vP vQ)
 replace HR0:=aa (ab g2 HR0.out)
 clear C1 C2 KS g0 g1 g2 hb1 hb2 BP hgp hgq BP2 vP vQ
 go_wp2
 go_loopw [30] (fun i wr=>∃(k:Nat) (out:List Nat),k≤n∧i=.int .i64 k∧out.length=n∧Limbs out∧Blk wr gz out∧Fr gz t2 wr∧Out P out 0 (0+k)∧out.take k=(aM (fun x y=>x ^^^ y) n P Q).take k) (fun i _=>n - (intOf i).toNat)
 case atStart=>exact⟨0,P,Nat.zero_le _,rfl,lP,HLP.out,HB0P.out,Fr.refl _ _,Out.refl _ _ _,by simp⟩
 case round=>
  obtain⟨k,out,hk,rfl,hlen,hlo,hblk,hfr0,hout,hval⟩:=hrel
  have HV:=aa hval
  have HBk:=aa hblk
  have HF:=aa hfr0
  have HO:=aa hout
  clear hval
  by_cases hkl:k<n
  ·have hfr:=hblk.free k
   have hco:=hblk.cell k (by omega)
   have hsame:=hout.same k (by omega)
   rw [hsame] at hco
   have hcq:=(show Blk wr gq Q from (hfr0.block gq hqlt hne).trans BQ).cell k (by omega)
   have q1:=limb_lt LP k
   have q2:=limb_lt LQ k
   have hst:=eZ out (fun x y=>x ^^^ y) n k P Q hlen hkl HV.out
   have hlit:=lE (P.getD k 0) (Q.getD k 0) wr q1 q2
   have hs1:=jw (P.getD k 0) (Q.getD k 0) q1 q2
   generalize P.getD k 0=x at *
   generalize Q.getD k 0=y at *
   have HS':=aa hst
   generalize (x ^^^ y)=s at *
   have i1:(k:Int)<(n:Int):=by omega
   clear hst hblk hfr0 hout HV hsame LP LQ BQ en2
   go_wp2_with fail
   refine hlit.mono ?_
   rintro e wn ⟨rfl,hw⟩;rw [hw];clear hw wn hlit
   go_wp2
   go_roundw
   case rel=>exact⟨k+1,out.set k s,by omega,by go_num,by simp;omega,limbs_set hlo _ _ hs1,HBk.out.set k s,HF.out.setCell _ _,(HO.out.wider (Nat.le_refl _) (by omega)).set _ _ (by omega) (by omega),HS'.out⟩
   case measure=>simp [intOf];omega
  ·have ek:k=n:=by omega
   have hzip:out=aM (fun x y=>x ^^^ y) n P Q:=by
    have h:=HV.out
    rw [ek,List.take_of_length_le (by omega),List.take_of_length_le (by rw [dY];omega)] at h
    exact h
   have hp1:=HM1.out
   have hp2:=HM2.out
   have hpn:18446744073709551616 ^ m≤2 ^ (64*n):=by rw [bA];exact Nat.pow_le_pow_right (by omega) (by omega)
   have hvo:val out=tcv (64*n) ((zsg z1 != zsg z2)) ((zmg z1 ^^^ zmg z2)):=by
    rw [hzip,nH n P Q LP LQ (by omega) (by omega),HVP.out.1,HVP.out.2]
    exact jI (Nat.lt_of_lt_of_le hp1 hpn) (Nat.lt_of_lt_of_le hp2 hpn)
   have hmlt:(zmg z1 ^^^ zmg z2)<18446744073709551616 ^ m:=by
    rw [←bA] at hp1 hp2 ⊢
    exact Nat.xor_lt_two_pow hp1 hp2
   have enm:n=m+1:=by omega
   have htop:=fc (n:=m) hlo (by omega) hmlt (by rw [←enm];exact hvo)
   have hneg:=fe (n:=m) hmlt
   rw [←enm] at hneg
   have hco:=hblk.cell m (by omega)
   have HZO:=aa (show ez=enc ((zsg z1 != zsg z2)) ((zmg z1 ^^^ zmg z2)) from HEZ.out ▸ rfl)
   generalize ((zmg z1 ^^^ zmg z2))=mm at *
   generalize ((zsg z1 != zsg z2))=ss at *
   have HNG:=aa hneg
   have HVO:=aa (And.intro hvo hlen)
   have HBF:Hid (Below w.heap.size w wr):=aa (HW2.out.trans (hfr0.below HGE.out HW2.out.size))
   have HBX:=aa (show Below t2.heap.size t2 t2 from Below.refl _ _)
   have HR1:=aa (show wr.heap[w.heap.size+1+1]?=some (.cells #[.bool false,.slice none 0 0] 27) from (hfr0.block _ (lt_of_block HR0.out) (by have h5:=lt_of_block HR0.out;intro e5;have h6:=HR0.out;rw [e5] at h6;have h7:=HB0P.out;unfold Blk at h7;rw [h6] at h7;simp at h7)).trans HR0.out)
   clear HR0 HBX
   have HR0:=HR1
   have HBX:=aa (Below.refl wr.heap.size wr)
   clear hzip hp1 hp2 hpn hmlt hneg HV HF HO HM1 HM2 HVP LP LQ BQ hfr0 hout HR1 hvo HW2 HEZ
   have i1:¬(k:Int)<(n:Int):=by omega
   have hmi:(m:Int)<(n:Int):=by omega
   have hmi0:(0:Int)≤(m:Int):=by omega
   clear enm ek
   cases ss
   ·have t0:out.getD m 0=0:=by
     rcases Nat.eq_zero_or_pos (out.getD m 0) with h|h
     ·exact h
     ·have h9:0<out.getD m 0:=h;rw [htop] at h9;cases h9
    rw [t0] at hco
    clear htop t0
    have HSZ:=aa (show zz false mm=ez∧ez.natAbs=mm from ⟨by rw [HZO.out,bC];rfl,by rw [HZO.out,bC,aD];rfl⟩)
    have VF:val out=mm:=HVO.out.1
    have lF:=hlen
    have BF:=hblk
    have LF:=hlo
    clear HVO HNG HZO hblk hlo hlen
    have HR:=aP.trimmed (w:=w) (x:=mm) HGE.out BF LF (by omega) VF HBF.out
    rw [lF] at HR
    have hlen9:(tr out).length≤n:=by rw [←lF];exact tr_length_le out
    clear BF LF VF lF
    go_wp2_with fail
    refine HR.mono ?_
    rintro e u1 ⟨he,hwu,⟨v5,rs,he2,hans,hv5,ht5⟩,hbu⟩
    rw [he] at he2
    cases he2
    subst he
    subst hwu
    clear HR
    obtain⟨lr,hlr⟩:∃l,(tr out).length=l:=⟨_,rfl⟩
    rw [hlr] at hans hlen9 ⊢
    have hlrs:rs.length=lr:=by obtain⟨_,_,e9⟩:=hans.shape;cases e9;rfl
    obtain⟨u2,hu2,hbu2,hxu⟩:=aB u1 (.cells #[.slice (some ⟨gz,0,none⟩) lr n] 25)
    have C:=cR _ _ rs u2 hxu ((hans.below hbu2).arg (by rw [hlrs];omega))
    rw [hv5] at C
    have HAN:=aa (hans.below hbu2)
    have HV5:=aa (And.intro hv5 ht5)
    have HB2:=aa (aC hbu hbu2)
    have HXR:=aa (ab hbu2 (ab HBX.out HR0.out))
    clear hans hv5 ht5 hbu hbu2 hxu hlr hlrs
    go_wp2_with fail
    refine C.mono ?_
    rintro e wn ⟨rfl,hw⟩;rw [hw];clear hw wn C
    by_cases hbig:67108864<blen mm
    ·rw [decide_eq_true hbig]
     have T3:=av (a':=.bool false) (b':=.slice none 0 0) HXR.out
     have HE:=aa (And.intro (show ZR ((u2.setCell ⟨w.heap.size+1+1,0,none⟩ (.bool false)).setCell ⟨w.heap.size+1+1,1,none⟩ (.slice none 0 0)) w.heap.size false (.slice none 0 0) 3 ez from ⟨[],Ans.nil _ _,.inr ⟨rfl,rfl,rfl,rfl,by rw [HSZ.out.2];exact hbig⟩⟩) (az (u0:=.bool false) (u1:=.slice none 0 0) HB2.out (show w.heap.size≤w.heap.size+1+1 by omega)))
     obtain⟨p0,p1⟩:=duo T3
     have hf:=af HXR.out
     obtain⟨m0,m1'⟩:=duo HXR.out
     clear T3 hbig
     go_wp2
     clear hf m0 m1'
     generalize (u2.setCell ⟨w.heap.size+1+1,0,none⟩ (.bool false)).setCell ⟨w.heap.size+1+1,1,none⟩ (.slice none 0 0)=w9 at *
     refine bodyPost_ret (v:=.tuple #[.agg #[.bool false,.slice none 0 0],.int .i64 3]) (by simp [results,Tryz.results32,go_sem,p0,p1]) rfl ?_
     exact⟨⟨_,_,_,_,_,rfl,HE.out.1⟩,HE.out.2⟩
    rw [decide_eq_false hbig]
    have C:=cU false _ rs _ u2 mm ez HSZ.out.1 HAN.out HV5.out.1 HV5.out.2
    have HBG:=aa hbig
    clear hbig
    go_wp2_with fail
    refine C.mono ?_
    rintro e u3 ⟨rfl,hb3⟩
    have hz3:=ab hb3 HXR.out
    have T1:ZR u3 w.heap.size (decide (ez<0)) (.slice (some ⟨gz,0,none⟩) lr n) 0 ez:=⟨rs,HAN.out.below hb3,.inl ⟨rfl,rfl,by rw [HSZ.out.2];exact HV5.out.1,HV5.out.2,by rw [HSZ.out.2];have:=HBG.out;omega⟩⟩
    have T3:=av (a':=.bool (decide (ez<0))) (b':=.slice (some ⟨gz,0,none⟩) lr n) hz3
    have HE:=aa (And.intro (T1.duo (u0:=.bool (decide (ez<0))) (u1:=.slice (some ⟨gz,0,none⟩) lr n) hz3) (az (u0:=.bool (decide (ez<0))) (u1:=.slice (some ⟨gz,0,none⟩) lr n) (aC HB2.out hb3) (show w.heap.size≤w.heap.size+1+1 by omega)))
    obtain⟨p0,p1⟩:=duo T3
    have hf:=af hz3
    obtain⟨m0,m1'⟩:=duo hz3
    clear T1 T3 hz3 hb3 C
    go_wp2
    clear hf m0 m1'
    generalize (u3.setCell ⟨w.heap.size+1+1,0,none⟩ (.bool (decide (ez<0)))).setCell ⟨w.heap.size+1+1,1,none⟩ (.slice (some ⟨gz,0,none⟩) lr n)=w9 at *
    refine bodyPost_ret (v:=.tuple #[.agg #[.bool (decide (ez<0)),.slice (some ⟨gz,0,none⟩) lr n],.int .i64 0]) (by simp [results,Tryz.results32,go_sem,p0,p1]) rfl ?_
    exact⟨⟨_,_,_,_,_,rfl,HE.out.1⟩,HE.out.2⟩
   ·have t0:0<out.getD m 0:=by rw [htop]
    generalize out.getD m 0=tt at *
    have t1':(0:Int)<(tt:Int):=by omega
    have HN:=dO gz n out wr hblk hlo hlen (by omega)
    clear htop
    have HSZ:=aa (show zz true (mm+1)=ez∧ez.natAbs=mm+1 from ⟨by rw [HZO.out,bC];rfl,by rw [HZO.out,bC,aD];rfl⟩)
    clear hblk hlo hlen HZO
    go_wp2_with fail
    refine HN.mono ?_
    rintro e w7 ⟨rfl,out2,BF,LF,lF0,vF0,F7⟩
    have lF:out2.length=n:=by rw [lF0];exact HVO.out.2
    have VF:val out2=mm+1:=by rw [vF0,HVO.out.2,HVO.out.1];exact HNG.out
    replace HBF:=aa (HBF.out.trans (F7.below HGE.out HBF.out.size))
    have HR1:=aa (show w7.heap[w.heap.size+1+1]?=some (.cells #[.bool false,.slice none 0 0] 27) from (F7.block _ (lt_of_block HR0.out) (by intro e5;have h6:=ab (Below.refl _ _) HR0.out;have h8:w7.heap[gz]?=_:=BF;have h7:=HBk.out;unfold Blk at h7;rw [e5] at h6;rw [h6] at h7;simp at h7)).trans HR0.out)
    clear HR0 HBX
    have HR0:=HR1
    have HBX:=aa (Below.refl w7.heap.size w7)
    clear HN HVO HNG lF0 vF0 F7 HR1 t0 t1' hco
    have HR:=aP.trimmed (w:=w) (x:=(mm+1)) HGE.out BF LF (by omega) VF HBF.out
    rw [lF] at HR
    have hlen9:(tr out2).length≤n:=by rw [←lF];exact tr_length_le out2
    clear BF LF VF lF
    go_wp2_with fail
    refine HR.mono ?_
    rintro e u1 ⟨he,hwu,⟨v5,rs,he2,hans,hv5,ht5⟩,hbu⟩
    rw [he] at he2
    cases he2
    subst he
    subst hwu
    clear HR
    obtain⟨lr,hlr⟩:∃l,(tr out2).length=l:=⟨_,rfl⟩
    rw [hlr] at hans hlen9 ⊢
    have hlrs:rs.length=lr:=by obtain⟨_,_,e9⟩:=hans.shape;cases e9;rfl
    obtain⟨u2,hu2,hbu2,hxu⟩:=aB u1 (.cells #[.slice (some ⟨gz,0,none⟩) lr n] 25)
    have C:=cR _ _ rs u2 hxu ((hans.below hbu2).arg (by rw [hlrs];omega))
    rw [hv5] at C
    have HAN:=aa (hans.below hbu2)
    have HV5:=aa (And.intro hv5 ht5)
    have HB2:=aa (aC hbu hbu2)
    have HXR:=aa (ab hbu2 (ab HBX.out HR0.out))
    clear hans hv5 ht5 hbu hbu2 hxu hlr hlrs
    go_wp2_with fail
    refine C.mono ?_
    rintro e wn ⟨rfl,hw⟩;rw [hw];clear hw wn C
    by_cases hbig:67108864<blen (mm+1)
    ·rw [decide_eq_true hbig]
     have T3:=av (a':=.bool false) (b':=.slice none 0 0) HXR.out
     have HE:=aa (And.intro (show ZR ((u2.setCell ⟨w.heap.size+1+1,0,none⟩ (.bool false)).setCell ⟨w.heap.size+1+1,1,none⟩ (.slice none 0 0)) w.heap.size false (.slice none 0 0) 3 ez from ⟨[],Ans.nil _ _,.inr ⟨rfl,rfl,rfl,rfl,by rw [HSZ.out.2];exact hbig⟩⟩) (az (u0:=.bool false) (u1:=.slice none 0 0) HB2.out (show w.heap.size≤w.heap.size+1+1 by omega)))
     obtain⟨p0,p1⟩:=duo T3
     have hf:=af HXR.out
     obtain⟨m0,m1'⟩:=duo HXR.out
     clear T3 hbig
     go_wp2
     clear hf m0 m1'
     generalize (u2.setCell ⟨w.heap.size+1+1,0,none⟩ (.bool false)).setCell ⟨w.heap.size+1+1,1,none⟩ (.slice none 0 0)=w9 at *
     refine bodyPost_ret (v:=.tuple #[.agg #[.bool false,.slice none 0 0],.int .i64 3]) (by simp [results,Tryz.results32,go_sem,p0,p1]) rfl ?_
     exact⟨⟨_,_,_,_,_,rfl,HE.out.1⟩,HE.out.2⟩
    rw [decide_eq_false hbig]
    have C:=cU true _ rs _ u2 (mm+1) ez HSZ.out.1 HAN.out HV5.out.1 HV5.out.2
    have HBG:=aa hbig
    clear hbig
    go_wp2_with fail
    refine C.mono ?_
    rintro e u3 ⟨rfl,hb3⟩
    have hz3:=ab hb3 HXR.out
    have T1:ZR u3 w.heap.size (decide (ez<0)) (.slice (some ⟨gz,0,none⟩) lr n) 0 ez:=⟨rs,HAN.out.below hb3,.inl ⟨rfl,rfl,by rw [HSZ.out.2];exact HV5.out.1,HV5.out.2,by rw [HSZ.out.2];have:=HBG.out;omega⟩⟩
    have T3:=av (a':=.bool (decide (ez<0))) (b':=.slice (some ⟨gz,0,none⟩) lr n) hz3
    have HE:=aa (And.intro (T1.duo (u0:=.bool (decide (ez<0))) (u1:=.slice (some ⟨gz,0,none⟩) lr n) hz3) (az (u0:=.bool (decide (ez<0))) (u1:=.slice (some ⟨gz,0,none⟩) lr n) (aC HB2.out hb3) (show w.heap.size≤w.heap.size+1+1 by omega)))
    obtain⟨p0,p1⟩:=duo T3
    have hf:=af hz3
    obtain⟨m0,m1'⟩:=duo hz3
    clear T1 T3 hz3 hb3 C
    go_wp2
    clear hf m0 m1'
    generalize (u3.setCell ⟨w.heap.size+1+1,0,none⟩ (.bool (decide (ez<0)))).setCell ⟨w.heap.size+1+1,1,none⟩ (.slice (some ⟨gz,0,none⟩) lr n)=w9 at *
    refine bodyPost_ret (v:=.tuple #[.agg #[.bool (decide (ez<0)),.slice (some ⟨gz,0,none⟩) lr n],.int .i64 0]) (by simp [results,Tryz.results32,go_sem,p0,p1]) rfl ?_
    exact⟨⟨_,_,_,_,_,rfl,HE.out.1⟩,HE.out.2⟩
end Go.Proofs.YtcbpdngogkbndaaGreatDoor

