/- Package whole: negate, complement, anyBig of one. -/
import Derived.Test.YtcbpdngogkbndaaGreatDoorB10
import Derived.Test.YtcbpdngogkbndaaGreatDoorB04
import Derived.Test.YtcbpdngogkbndaaGreatDoorB03
import Derived.Test.YtcbpdngogkbndaaGreatDoorB01
import Derived.Test.YtcbpdngogkbndaaGreatDoorB02
import Derived.Deep.RegionHeld3
import Derived.Deep.DrawnRows
import Derived.Test.YtcbpdngogkbndaaGreatDoorB07
import Derived.Deep.CutBlock
import Derived.Deep.DeepCutAuto
set_option maxRecDepth 20000
set_option maxHeartbeats 2000000
namespace Go.Proofs.YtcbpdngogkbndaaGreatDoor
open Go.RowKit
open Lm
attribute [local go_sem ↓] Go.wp_at_zero Go.wp_at_succ

theorem kL (v b:Nat)(hb:b≤1)(w:World) :
  (callFunc 69 #[.int .u64 0,.int .u64 v,.int .u64 b]).run Tryz.prog w =
   .ok (.value (.tuple #[.int .u64 (((0+18446744073709551616 - v - b) % 18446744073709551616:Nat):Int),.int .u64 ((bor 0 v b:Nat):Int)])) w:=
 ca 0 v b hb w

theorem ks {Z Z':List Nat}{k cy c2 s v:Nat}(hz:k<Z'.length)(hl:Z'.length=Z.length)(h:sv Z' 0 k+sv Z 0 k=cy*18446744073709551616 ^ k)(hv:Z.getD k 0=v)(hs:s+v+cy=0+c2*18446744073709551616) :
  sv (Z'.set k s) 0 (k+1)+sv Z 0 (k+1)=c2*18446744073709551616 ^ (k+1):=by
 have e:=bN Z' 0 k s (by omega)
 have e2:=bQ Z 0 k (by omega)
 rw [Nat.zero_add] at e e2
 rw [e,e2,hv,show (18446744073709551616:Nat) ^ (k+1)=18446744073709551616 ^ k*18446744073709551616 from Nat.pow_succ ..]
 generalize sv Z' 0 k=A at *
 generalize sv Z 0 k=B at *
 generalize (18446744073709551616:Nat) ^ k=PP at *
 generalize (18446744073709551616:Nat)=W at *
 grind

theorem lH {P a z cy:Nat}(ha:a<P)(hz:z<P)(hc:cy≤1)(h:a+z=cy*P):a=(P - z) % P:=by
 rcases Nat.eq_zero_or_pos cy with rfl|h1
 ·have e1:a=0:=by omega
  have e2:z=0:=by omega
  rw [e1,e2,Nat.sub_zero,Nat.mod_self]
 ·obtain rfl:cy=1:=by omega
  rw [Nat.mod_eq_of_lt (by omega)]
  omega

def ll (g:Nat)(Z:List Nat)(w:World)(e:Ending)(w':World):Prop:=
 e=.returned (.tuple #[])∧∃Z',Blk w' g Z'∧Limbs Z'∧Z'.length=Z.length∧val Z'=(18446744073709551616 ^ Z.length - val Z) % 18446744073709551616 ^ Z.length∧Fr g w w'

theorem dB (g n:Nat)(Z:List Nat)(w:World)(hB:Blk w g Z)(hL:Limbs Z)(hn:Z.length=n)(hmax:n≤9223372036854775807) :
  Calls Tryz.prog 62 #[.slice (some ⟨g,0,none⟩) n n] w (ll g Z w):=by
 have HB0:=aa hB
 have HL:=aa hL
 go_enter Tryz.func62,Tryz.ntmps62
 go_wp2
 go_loopw [2,7] (fun c i wr=>∃(k cy:Nat) (Z':List Nat),k≤n∧i=.int .i64 k∧c=.int .u64 cy∧cy≤1∧Out Z Z' 0 (0+k)∧Limbs Z'∧Blk wr g Z'∧Fr g w wr ∧
   sv Z' 0 k+sv Z 0 k=cy*18446744073709551616 ^ k) (fun _ i _=>n - (intOf i).toNat)
 case atStart=>exact⟨0,0,Z,Nat.zero_le _,rfl,rfl,by omega,Out.refl _ _ _,HL.out,HB0.out,Fr.refl _ _,by simp [aC]⟩
 case round=>
  obtain⟨k,cy,Z',hk,rfl,rfl,hcy,hout,hlz,hblk,hfr0,hval⟩:=hrel
  have HV:=aa hval
  have HB:=aa hblk
  have HF:=aa hfr0
  have HO:=aa hout
  have hl:=hout.len
  clear hval
  by_cases hkn:k<n
  ·have hsame:=hout.same k (by omega)
   have hfr:=hblk.free k
   have hco:=hblk.cell k (by omega)
   have z1:=limb_lt hL k
   rw [hsame] at hco
   have ha:=kL (Z.getD k 0) cy hcy
   obtain⟨q1,q2,q3⟩:=b8 0 (Z.getD k 0) cy (by omega) z1 hcy
   have HS:=aa (ks (by omega) hl HV.out rfl q1)
   generalize Z.getD k 0=x at *
   clear q1 hsame
   generalize (0+18446744073709551616 - x - cy) % 18446744073709551616=s at *
   generalize bor 0 x cy=c2 at *
   have i1:(k:Int)<(n:Int):=by omega
   clear hblk hfr0 hout HV hB hL
   go_wp2
   go_roundw
   case rel=>exact⟨k+1,c2,Z'.set k s,by omega,by go_num,rfl,q2,(HO.out.wider (Nat.le_refl _) (by omega)).set _ _ (by omega) (by omega),limbs_set hlz _ _ q3,HB.out.set _ s,HF.out.setCell _ _,HS.out⟩
   case measure=>simp [intOf];omega
  ·have ek:k=n:=by omega
   subst ek
   have hlz2:Z'.length=Z.length:=hl
   have hv:=HV.out
   rw [←hn,aK,←hlz2,aK] at hv
   have a1:=val_lt hlz
   have a2:=val_lt hL
   rw [hlz2] at a1 hv
   have HR:=aa (show val Z'=(18446744073709551616 ^ Z.length - val Z) % 18446744073709551616 ^ Z.length from lH a1 a2 hcy hv)
   have i1:¬(k:Int)<(k:Int):=by omega
   clear hblk hfr0 hout HV hB hL hv a1 a2
   go_wp2
   go_end0
   exact⟨rfl,Z',HB.out,hlz,hlz2,HR.out,HF.out⟩

theorem bC (n:Nat):2 ^ (64*n)=18446744073709551616 ^ n:=by
 rw [Nat.pow_mul]

theorem jn (k x:Nat):x=tcv k (zsg (zz false x)) (zmg (zz false x)):=by
 have e1:zsg (zz false x)=false:=by unfold zsg zz;simp
 have e2:zmg (zz false x)=x:=by unfold zmg zz;simp;omega
 rw [e1,e2]
 rfl

theorem jI (k x:Nat)(hx:x<2 ^ k):(2 ^ k - x) % 2 ^ k=tcv k (zsg (zz true x)) (zmg (zz true x)):=by
 rcases Nat.eq_zero_or_pos x with rfl|h
 ·rw [Nat.sub_zero,Nat.mod_self]
  rfl
 ·have e1:zsg (zz true x)=true:=by unfold zsg zz;simp;omega
  have e2:zmg (zz true x)=x - 1:=by unfold zmg zz;simp only [if_true];rw [if_pos (by omega)];omega
  rw [e1,e2,Nat.mod_eq_of_lt (by omega)]
  unfold tcv
  simp only [if_true]
  omega

def d8 (n:Nat)(z:Int)(w:World)(e:Ending)(w':World):Prop:=
 (∃g Z,e=.returned (.slice (some ⟨g,0,none⟩) n n)∧w.heap.size≤g∧Blk w' g Z∧Limbs Z∧Z.length=n∧val Z=tcv (64*n) (zsg z) (zmg z))∧Below w.heap.size w w'

theorem ck (b:Bool)(v:Value)(X:List Nat)(n:Nat)(w:World)(hA:Arg w v X)(hn:X.length<n)(hmax:n≤17592186044500) :
  Calls Tryz.prog 61 #[.agg #[.bool b,v],.int .i64 n] w (d8 n (zz b (val X)) w):=by
 obtain⟨a1,c1,rfl,_,_,_⟩:=hA.form
 obtain⟨w0,hw0,hb0,h0⟩:=ay w (.cells #[.bool b,.slice a1 X.length c1] 27)
 obtain⟨k0,k1⟩:=duo h0
 have A0:=hA.below hb0
 have HB0:=aa hb0
 have HX0:=aa h0
 obtain⟨i0,hi,hz0,hz1,hz2⟩:=info_parts Tryz.infoU
 have hx1:=val_lt A0.limbs
 have hxn:val X<18446744073709551616 ^ n:=Nat.lt_of_lt_of_le hx1 (Nat.pow_le_pow_right (by omega) (by omega))
 have HC:=aa (show val X=tcv (64*n) (zsg (zz false (val X))) (zmg (zz false (val X)))∧(18446744073709551616 ^ n - val X) % 18446744073709551616 ^ n=tcv (64*n) (zsg (zz true (val X))) (zmg (zz true (val X))) from ⟨jn _ _,by rw [←bC];exact jI _ _ (by rw [bC];exact hxn)⟩)
 clear hb0 h0 hA hx1
 cases b
 ·go_enter Tryz.func61,Tryz.ntmps61
  go_wp2_with (at_make;refine wpList_make_full _ rfl _ _ 25 rfl w0.heap.size 60 i0 (.int .u64 0) 1 Tryz.underlying25 hi hz0 hz1 .i64 .i64 _ _ n rfl rfl (by omega) (by omega) (by rw [hz2];omega) (by unfold maxLen;omega) (Nat.le_refl _) ?_;intro w1 hown hgrow;have hb1:Below w0.heap.size w0 w1:=(Below.refl w0.heap.size w0).grown hgrow (Nat.le_refl _) (fun k hk=>by cases hk);have hbx:=ab hb1 HX0.out;obtain⟨l0,l1⟩:=duo hbx;obtain⟨w2,M2,hcp,B2,L2,F2,O2,S2⟩:=aR w0.heap.size 0 n n (List.replicate n 0) a1 c1 X w1 (Blk.made hown) (limbs_replicate _) A0.limbs (aP n 0 n) (by simp) (by omega) (A0.below hb1).wlies;have hb2:Below w0.heap.size w0 w2:=hb1.trans (F2.below (Nat.le_refl _) hb1.size);obtain⟨l0',l1'⟩:=duo (ab hb2 HX0.out))
  have l2:M2.length=n:=by rw [O2.len,List.length_replicate]
  have s2:val M2=val X:=by rw [←aK,l2];exact S2
  have HE:=aa (show d8 n (zz false (val X)) w (.returned (.slice (some ⟨w0.heap.size,0,none⟩) n n)) w2 from ⟨⟨_,M2,rfl,HB0.out.size,B2,L2,l2,by rw [s2];exact HC.out.1⟩,HB0.out.trans (hb2.mono HB0.out.size)⟩)
  clear B2 L2 F2 O2 S2 l2 s2
  go_wp2
  go_ret
  exact HE.out
 ·go_enter Tryz.func61,Tryz.ntmps61
  go_wp2_with (at_make;refine wpList_make_full _ rfl _ _ 25 rfl w0.heap.size 60 i0 (.int .u64 0) 1 Tryz.underlying25 hi hz0 hz1 .i64 .i64 _ _ n rfl rfl (by omega) (by omega) (by rw [hz2];omega) (by unfold maxLen;omega) (Nat.le_refl _) ?_;intro w1 hown hgrow;have hb1:Below w0.heap.size w0 w1:=(Below.refl w0.heap.size w0).grown hgrow (Nat.le_refl _) (fun k hk=>by cases hk);have hbx:=ab hb1 HX0.out;obtain⟨l0,l1⟩:=duo hbx;obtain⟨w2,M2,hcp,B2,L2,F2,O2,S2⟩:=aR w0.heap.size 0 n n (List.replicate n 0) a1 c1 X w1 (Blk.made hown) (limbs_replicate _) A0.limbs (aP n 0 n) (by simp) (by omega) (A0.below hb1).wlies;have hb2:Below w0.heap.size w0 w2:=hb1.trans (F2.below (Nat.le_refl _) hb1.size);obtain⟨l0',l1'⟩:=duo (ab hb2 HX0.out))
  have l2:M2.length=n:=by rw [O2.len,List.length_replicate]
  have s2:val M2=val X:=by rw [←aK,l2];exact S2
  have HN:=dB w0.heap.size n M2 w2 B2 L2 l2 (by omega)
  have HL2:=aa (And.intro l2 s2)
  have HB2:=aa hb2
  clear B2 L2 F2 O2 S2 l2 s2
  go_wp2_with fail
  refine HN.mono ?_
  rintro e w3 ⟨rfl,Z',B3,L3,l3,v3,F3⟩
  have hb3:Below w0.heap.size w0 w3:=HB2.out.trans (F3.below (Nat.le_refl _) HB2.out.size)
  have HE:=aa (show d8 n (zz true (val X)) w (.returned (.slice (some ⟨w0.heap.size,0,none⟩) n n)) w3 from ⟨⟨_,Z',rfl,HB0.out.size,B3,L3,by rw [l3];exact HL2.out.1,by rw [v3,HL2.out.1,HL2.out.2];exact HC.out.2⟩,HB0.out.trans (hb3.mono HB0.out.size)⟩)
  clear HN B3 L3 l3 v3 F3 hb3
  go_wp2
  go_ret
  exact HE.out

theorem dT (out:List Nat)(f:Nat→Nat→Nat)(n k:Nat)(P Q:List Nat)(hl:out.length=n)(hk:k<n)(h:out.take k=(aH f n P Q).take k):(out.set k (f (P.getD k 0) (Q.getD k 0))).take (k+1)=(aH f n P Q).take (k+1):=by
 have h1:k<(out.set k (f (P.getD k 0) (Q.getD k 0))).length:=by simp;omega
 have h2:k<(aH f n P Q).length:=by rw [dw];exact hk
 rw [List.take_succ_eq_append_getElem h1,List.take_succ_eq_append_getElem h2,List.take_set_of_le (Nat.le_refl _),h]
 congr 2
 have:=iY f n k P Q hk
 simp only [List.getElem_set_self]
 rw [←this]
 simp [List.getD,h2]

theorem i8 (x y:Nat)(hx:x<18446744073709551616)(_hy:y<18446744073709551616):x &&& y<18446744073709551616:=Nat.lt_of_le_of_lt Nat.and_le_left hx

theorem lf (x y:Nat)(hx:x<18446744073709551616)(hy:y<18446744073709551616):x ||| y<18446744073709551616:=Nat.or_lt_two_pow (n:=64) hx hy

theorem gQ (x y:Nat)(hx:x<18446744073709551616)(hy:y<18446744073709551616):x ^^^ y<18446744073709551616:=Nat.xor_lt_two_pow (n:=64) hx hy



theorem dz (v1 v2:Value)(zs ys:List Nat)(w:World)(h1:Arg w v1 zs)(h2:Arg w v2 ys)(f1:zs.length≤35184372088831)(f2:ys.length≤35184372088831) :
  Calls Tryz.prog 39 #[v1,v2] w fun e w'=>Below w.heap.size w w'∧Res w' w.heap.size e (val zs+val ys):=by
 obtain⟨a1,c1,rfl,hc1,hm1,hl1⟩:=h1.form
 obtain⟨a2,c2,rfl,hc2,hm2,hl2⟩:=h2.form
 have H1:=bb a1 c1 zs w hc1 hm1 hl1
 have H2:=bb a2 c2 ys w hc2 hm2 hl2
 have l1:=tr_length_le zs
 have l2:=tr_length_le ys
 have L1:=hl1.tr
 have L2:=hl2.tr
 have M1:=limbs_tr h1.limbs
 have M2:=limbs_tr h2.limbs
 rw [←val_tr zs,←val_tr ys]
 obtain⟨i0,hi,hz0,hz1,hz2⟩:=info_parts Tryz.infoU
 generalize tr zs=Z at *
 generalize tr ys=Y at *
 by_cases hlt:Z.length<Y.length
 ·rw [Nat.add_comm (val Z) (val Y)]
  go_enter Tryz.func39,Tryz.ntmps39
  go_wp2_with fail
  refine H1.mono ?_
  rintro e w' ⟨rfl,rfl⟩
  go_wp2_with fail
  refine H2.mono ?_
  rintro e w' ⟨rfl,rfl⟩
  clear H1 H2
  go_wp2_with (at_make;refine wpList_make_full _ rfl _ _ 25 rfl w'.heap.size 60 i0 (.int .u64 0) 1 Tryz.underlying25 hi hz0 hz1 .i64 .i64 _ _ (Y.length+1) rfl rfl (by omega) (by omega) (by rw [hz2];omega) (by unfold maxLen;omega) (Nat.le_refl _) ?_;intro w1 hown hgrow)
  have hb1:=Blk.made hown
  have hbel:Below w'.heap.size w' w1:=(Below.refl _ _).grown hgrow (Nat.le_refl _) (fun k hk=>by cases hk)
  clear hown hgrow hi hz0 hz1 hz2
  go_loopw [7,26] (fun c i wr=>∃(k cy:Nat) (out:List Nat),k≤Y.length∧i=.int .i64 k∧c=.int .u64 cy∧cy≤1∧out.length=Y.length+1∧Limbs out∧Blk wr w'.heap.size out∧Below w'.heap.size w' wr ∧
    val (out.take k)+cy*18446744073709551616 ^ k=val (Y.take k)+val (Z.take k)) (fun _ i _=>Y.length - (intOf i).toNat)
  case atStart=>exact⟨0,0,_,Nat.zero_le _,rfl,rfl,by omega,by simp,limbs_replicate _,hb1,hbel,by simp [val]⟩
  case round=>
   obtain⟨k,cy,out,hk,rfl,rfl,hcy,hlen,hlo,hblk,hbl,hval⟩:=hrel
   clear hb1 hbel
   have HV:Hid (val (out.take k)+cy*18446744073709551616 ^ k=val (Y.take k)+val (Z.take k)):=hval
   clear hval
   have HB:Hid (Blk wr w'.heap.size out):=hblk
   have HL:Hid (Below w'.heap.size w' wr):=hbl
   have H42:=cH a1 c1 Z k wr.drew (by omega) hm1 (L1.below hbl.drew)
   by_cases hkl:k<Y.length
   ·rcases L2.below hbl with h0|⟨b,off,rfl,hcell⟩
    ·simp [h0] at hkl
    ·have hck:=hcell k hkl
     have hbw:=am.block (L2:am w' (some ⟨b,off,none⟩) Y) (by omega)
     have hne1:¬b=w'.heap.size:=by omega
     have hne2:¬w'.heap.size=b:=by omega
     have hfr:=hblk.free k
     have hco:=hblk.cell k (by omega)
     have ha:=cb (Y.getD k 0) (Z.getD k 0) cy hcy
     have hst:=add_step Y Z out k cy (by omega) HV.out
     have HS:Hid (val ((out.set k ((Y.getD k 0+Z.getD k 0+cy) % 18446744073709551616)).take (k+1))+(Y.getD k 0+Z.getD k 0+cy) / 18446744073709551616*18446744073709551616 ^ (k+1)=val (Y.take (k+1))+val (Z.take (k+1))):=hst
     have z1:=limb_lt M2 k
     have z2:=limb_lt M1 k
     clear hst hcell hblk hbl HV L2 L1 M2 M1 hl1 hl2 h1 h2
     generalize Y.getD k 0=x at *
     generalize Z.getD k 0=y at *
     generalize out.getD k 0=o at *
     have hs1:(x+y+cy) % 18446744073709551616<18446744073709551616:=Nat.mod_lt _ (by omega)
     have hd1:(x+y+cy) / 18446744073709551616≤1:=by omega
     generalize (x+y+cy) % 18446744073709551616=s at *
     generalize (x+y+cy) / 18446744073709551616=d at *
     have hi1:(0:Int)≤(k:Int):=by omega
     have hi2:(k:Int)<(Y.length:Int):=by omega
     have hi3:(k:Int)<(Y.length:Int)+1:=by omega
     go_wp2
     go_region_held3 (fun w'=>w'.cell? ⟨b,off+k,none⟩=some (.int .u64 x)) (go_keep) (first | (go_at_call 70;refine H42.mono ?_;rintro e w2 ⟨rfl,rfl⟩))
     go_wp2
     go_roundw
     case rel=>exact⟨k+1,d,out.set k s,by omega,by go_num,rfl,hd1,by simp;omega,limbs_set hlo _ _ hs1,HB.out.set k s,(HL.out.setCell (Nat.le_refl _) _).drew,HS.out⟩
     case measure=>simp [intOf];omega
   ·have ek:k=Y.length:=by omega
    subst ek
    have hfr:=hblk.free Y.length
    have hco:=hblk.cell Y.length (by omega)
    generalize out.getD Y.length 0=o at *
    have hb2:=hblk.set Y.length cy
    have HA:=dc _ w'.heap.size _ _ hb2 (limbs_set hlo _ _ (by omega)) (Nat.le_refl _) (by simp;omega)
    have hvl:val (out.set Y.length cy)=val Y+val Z:=by
     have e1:(out.set Y.length cy).take (Y.length+1)=out.set Y.length cy:=List.take_of_length_le (by simp;omega)
     rw [←e1,take_set_succ _ _ _ (by omega),Nat.mul_comm,HV.out,List.take_length,List.take_of_length_le (by omega)]
    rw [List.length_set,hlen,hvl] at HA
    have HBel:Hid (Below w'.heap.size w' (wr.setCell ⟨w'.heap.size,Y.length,none⟩ (.int .u64 cy))):=hbl.setCell (Nat.le_refl _) _
    clear hvl hb2 hblk hbl HV H42 L2 L1 M2 M1 hl1 hl2 h1 h2 HB HL hlo
    go_wp2_with fail
    refine HA.mono ?_
    rintro e w2 ⟨rfl,hres⟩
    unfold Res at hres
    obtain⟨v,c,rs,rfl,hans,hcase⟩:=hres
    have HX:Hid (Ans _ w'.heap.size v rs∧((c=0∧val rs=val Y+val Z∧tr rs=rs∧blen (val Y+val Z)≤67108864)∨(c=3∧rs=[]∧67108864<blen (val Y+val Z)))):=⟨hans,hcase⟩
    clear hans hcase
    go_wp2
    go_ret2
    exact⟨HBel.out,v,c,rs,rfl,HX.out⟩
 ·go_enter Tryz.func39,Tryz.ntmps39
  go_wp2_with fail
  refine H1.mono ?_
  rintro e w' ⟨rfl,rfl⟩
  go_wp2_with fail
  refine H2.mono ?_
  rintro e w' ⟨rfl,rfl⟩
  clear H1 H2
  go_wp2_with (at_make;refine wpList_make_full _ rfl _ _ 25 rfl w'.heap.size 60 i0 (.int .u64 0) 1 Tryz.underlying25 hi hz0 hz1 .i64 .i64 _ _ (Z.length+1) rfl rfl (by omega) (by omega) (by rw [hz2];omega) (by unfold maxLen;omega) (Nat.le_refl _) ?_;intro w1 hown hgrow)
  have hb1:=Blk.made hown
  have hbel:Below w'.heap.size w' w1:=(Below.refl _ _).grown hgrow (Nat.le_refl _) (fun k hk=>by cases hk)
  clear hown hgrow hi hz0 hz1 hz2
  go_loopw [7,26] (fun c i wr=>∃(k cy:Nat) (out:List Nat),k≤Z.length∧i=.int .i64 k∧c=.int .u64 cy∧cy≤1∧out.length=Z.length+1∧Limbs out∧Blk wr w'.heap.size out∧Below w'.heap.size w' wr ∧
    val (out.take k)+cy*18446744073709551616 ^ k=val (Z.take k)+val (Y.take k)) (fun _ i _=>Z.length - (intOf i).toNat)
  case atStart=>exact⟨0,0,_,Nat.zero_le _,rfl,rfl,by omega,by simp,limbs_replicate _,hb1,hbel,by simp [val]⟩
  case round=>
   obtain⟨k,cy,out,hk,rfl,rfl,hcy,hlen,hlo,hblk,hbl,hval⟩:=hrel
   clear hb1 hbel
   have HV:Hid (val (out.take k)+cy*18446744073709551616 ^ k=val (Z.take k)+val (Y.take k)):=hval
   clear hval
   have HB:Hid (Blk wr w'.heap.size out):=hblk
   have HL:Hid (Below w'.heap.size w' wr):=hbl
   have H42:=cH a2 c2 Y k wr.drew (by omega) hm2 (L2.below hbl.drew)
   by_cases hkl:k<Z.length
   ·rcases L1.below hbl with h0|⟨b,off,rfl,hcell⟩
    ·simp [h0] at hkl
    ·have hck:=hcell k hkl
     have hbw:=am.block (L1:am w' (some ⟨b,off,none⟩) Z) (by omega)
     have hne1:¬b=w'.heap.size:=by omega
     have hne2:¬w'.heap.size=b:=by omega
     have hfr:=hblk.free k
     have hco:=hblk.cell k (by omega)
     have ha:=cb (Z.getD k 0) (Y.getD k 0) cy hcy
     have hst:=add_step Z Y out k cy (by omega) HV.out
     have HS:Hid (val ((out.set k ((Z.getD k 0+Y.getD k 0+cy) % 18446744073709551616)).take (k+1))+(Z.getD k 0+Y.getD k 0+cy) / 18446744073709551616*18446744073709551616 ^ (k+1)=val (Z.take (k+1))+val (Y.take (k+1))):=hst
     have z1:=limb_lt M1 k
     have z2:=limb_lt M2 k
     clear hst hcell hblk hbl HV L1 L2 M1 M2 hl1 hl2 h1 h2
     generalize Z.getD k 0=x at *
     generalize Y.getD k 0=y at *
     generalize out.getD k 0=o at *
     have hs1:(x+y+cy) % 18446744073709551616<18446744073709551616:=Nat.mod_lt _ (by omega)
     have hd1:(x+y+cy) / 18446744073709551616≤1:=by omega
     generalize (x+y+cy) % 18446744073709551616=s at *
     generalize (x+y+cy) / 18446744073709551616=d at *
     have hi1:(0:Int)≤(k:Int):=by omega
     have hi2:(k:Int)<(Z.length:Int):=by omega
     have hi3:(k:Int)<(Z.length:Int)+1:=by omega
     go_wp2
     go_region_held3 (fun w'=>w'.cell? ⟨b,off+k,none⟩=some (.int .u64 x)) (go_keep) (first | (go_at_call 70;refine H42.mono ?_;rintro e w2 ⟨rfl,rfl⟩))
     go_wp2
     go_roundw
     case rel=>exact⟨k+1,d,out.set k s,by omega,by go_num,rfl,hd1,by simp;omega,limbs_set hlo _ _ hs1,HB.out.set k s,(HL.out.setCell (Nat.le_refl _) _).drew,HS.out⟩
     case measure=>simp [intOf];omega
   ·have ek:k=Z.length:=by omega
    subst ek
    have hfr:=hblk.free Z.length
    have hco:=hblk.cell Z.length (by omega)
    generalize out.getD Z.length 0=o at *
    have hb2:=hblk.set Z.length cy
    have HA:=dc _ w'.heap.size _ _ hb2 (limbs_set hlo _ _ (by omega)) (Nat.le_refl _) (by simp;omega)
    have hvl:val (out.set Z.length cy)=val Z+val Y:=by
     have e1:(out.set Z.length cy).take (Z.length+1)=out.set Z.length cy:=List.take_of_length_le (by simp;omega)
     rw [←e1,take_set_succ _ _ _ (by omega),Nat.mul_comm,HV.out,List.take_length,List.take_of_length_le (by omega)]
    rw [List.length_set,hlen,hvl] at HA
    have HBel:Hid (Below w'.heap.size w' (wr.setCell ⟨w'.heap.size,Z.length,none⟩ (.int .u64 cy))):=hbl.setCell (Nat.le_refl _) _
    clear hvl hb2 hblk hbl HV H42 L1 L2 M1 M2 hl1 hl2 h1 h2 HB HL hlo
    go_wp2_with fail
    refine HA.mono ?_
    rintro e w2 ⟨rfl,hres⟩
    unfold Res at hres
    obtain⟨v,c,rs,rfl,hans,hcase⟩:=hres
    have HX:Hid (Ans _ w'.heap.size v rs∧((c=0∧val rs=val Z+val Y∧tr rs=rs∧blen (val Z+val Y)≤67108864)∨(c=3∧rs=[]∧67108864<blen (val Z+val Y)))):=⟨hans,hcase⟩
    clear hans hcase
    go_wp2
    go_ret2
    exact⟨HBel.out,v,c,rs,rfl,HX.out⟩

theorem fv (b:Bool)(v:Value)(X:List Nat)(t:Bool)(u:Value)(Y:List Nat)(w:World)(hA:Arg w v X)(hB:Arg w u Y)(hf:X.length≤17592186044416)(hg:Y.length≤17592186044416) :
  Calls Tryz.prog 57 #[.agg #[.bool b,v],.bool t,u] w fun e w'=>aZ w' w.heap.size e (zz b (val X)+zz t (val Y))∧Below w.heap.size w w':=by
 obtain⟨a,n,rfl,_,_,_⟩:=hA.form
 obtain⟨a9,n9,rfl,_,_,_⟩:=hB.form
 cases b <;> cases t
 ·obtain⟨w0,hw0,hb0,h0,hx0⟩:=aQ w (.cells #[.bool false,.slice a X.length n] 27) (.cells #[.bool false,.slice none 0 0] 27)
  obtain⟨k0,k1⟩:=duo h0
  have HB0:=aa hb0
  have HX0:=aa hx0
  have HK0:=aa h0
  have A0:=hA.below hb0
  have B0:=hB.below hb0
  have HWS:Hid (Below w0.heap.size w0 w0):=aa (Below.refl _ _)
  rw [fJ]
  have HM:=dz _ _ X Y w0 A0 B0 (by omega) (by omega)
  clear hA hB hb0 h0 hx0 A0 B0
  go_enter Tryz.func57,Tryz.ntmps57
  go_wp2_with fail
  refine HM.mono ?_
  rintro e w1 ⟨hb1,v1,c0,rs,rfl,ha,hres⟩
  clear HM
  have hans:=ba false v1 rs c0 (val X+val Y) _ w1 ha hres
  obtain⟨a1,n1,rfl⟩:=ha.shape
  have HW1:=aa (HWS.out.trans (hb1.mono HWS.out.size))
  clear ha hres hb1
  go_wp2_with fail
  refine hans.mono ?_
  rintro e w2 ⟨⟨b1,a1,n1,k1,c1,rfl,hzr⟩,hb2⟩
  have HZR:=aa (hzr.base (Nat.le_trans HB0.out.size HWS.out.size))
  have HW:=aa (HW1.out.trans (hb2.mono HW1.out.size))
  clear hzr hb2 hans
  have hbx:=ab HW.out HX0.out
  have hf1:=ae hbx
  obtain⟨l0,l1⟩:=duo hbx
  have HBX:=aa hbx
  have HBE:=aa (HB0.out.trans (HW.out.mono HB0.out.size))
  clear hbx
  go_wp2
  have R5:=ak HBX.out (a':=.bool b1) (b':=.slice a1 n1 k1)
  have HD:=aa (And.intro (HZR.out.duo (u0:=.bool b1) (u1:=.slice a1 n1 k1) HBX.out) (ai HBE.out (g:=w.heap.size+1) (u0:=.bool b1) (u1:=.slice a1 n1 k1) (by omega)))
  generalize (w2.setCell ⟨w.heap.size+1,0,none⟩ (.bool b1)).setCell ⟨w.heap.size+1,1,none⟩ (.slice a1 n1 k1)=w5 at *
  obtain⟨q0,q1⟩:=duo R5
  refine bodyPost_ret (v:=.tuple #[.agg #[.bool b1,.slice a1 n1 k1],.int .i64 c1]) (by simp [results,Tryz.results57,go_sem,q0,q1]) rfl ?_
  exact⟨⟨_,_,_,_,_,rfl,HD.out.1⟩,HD.out.2⟩
 ·obtain⟨w0,hw0,hb0,h0,hx0⟩:=aQ w (.cells #[.bool false,.slice a X.length n] 27) (.cells #[.bool false,.slice none 0 0] 27)
  obtain⟨k0,k1⟩:=duo h0
  have HB0:=aa hb0
  have HX0:=aa hx0
  have HK0:=aa h0
  have A0:=hA.below hb0
  have B0:=hB.below hb0
  have HWS:Hid (Below w0.heap.size w0 w0):=aa (Below.refl _ _)
  have HC:=cl _ _ X Y w0 A0 B0
  have HA0:=aa A0
  have HB9:=aa B0
  clear hA hB hb0 h0 hx0 A0 B0
  by_cases hlt:val X<val Y
  ·rw [cmpN_lt hlt] at HC
   have hz:=gA false (Nat.le_of_lt hlt)
   rw [show (!false)=true from rfl] at hz
   rw [hz]
   have HLT:=aa hlt
   clear hlt hz
   go_enter Tryz.func57,Tryz.ntmps57
   go_wp2_with fail
   refine HC.mono ?_
   rintro e ws ⟨rfl,hs⟩
   have hbs:Below w0.heap.size w0 ws:=hs.below _
   have HM:=cQ _ _ Y X ws (HB9.out.below hbs) (HA0.out.below hbs) (by omega)
   obtain⟨k0',k1'⟩:=duo (ab hbs HK0.out)
   clear HWS
   have HWS:=aa hbs
   clear k0 k1 hbs hs HC
   go_wp2_with fail
   refine HM.mono ?_
   rintro e w1 ⟨hb1,hcase⟩
   obtain⟨v1,c0,rs,rfl,ha,hres⟩:Res w1 ws.heap.size e (val Y - val X):=by
    rcases hcase with ⟨h,_⟩|⟨_,h⟩
    ·have:=HLT.out;omega
    ·exact h
   clear HM hcase
   have hans:=ba true v1 rs c0 (val Y - val X) _ w1 ha hres
   obtain⟨a1,n1,rfl⟩:=ha.shape
   have HW1:=aa (HWS.out.trans (hb1.mono HWS.out.size))
   clear ha hres hb1
   go_wp2_with fail
   refine hans.mono ?_
   rintro e w2 ⟨⟨b1,a1,n1,k1,c1,rfl,hzr⟩,hb2⟩
   have HZR:=aa (hzr.base (Nat.le_trans HB0.out.size HWS.out.size))
   have HW:=aa (HW1.out.trans (hb2.mono HW1.out.size))
   clear hzr hb2 hans
   have hbx:=ab HW.out HX0.out
   have hf1:=ae hbx
   obtain⟨l0,l1⟩:=duo hbx
   have HBX:=aa hbx
   have HBE:=aa (HB0.out.trans (HW.out.mono HB0.out.size))
   clear hbx
   go_wp2
   have R5:=ak HBX.out (a':=.bool b1) (b':=.slice a1 n1 k1)
   have HD:=aa (And.intro (HZR.out.duo (u0:=.bool b1) (u1:=.slice a1 n1 k1) HBX.out) (ai HBE.out (g:=w.heap.size+1) (u0:=.bool b1) (u1:=.slice a1 n1 k1) (by omega)))
   generalize (w2.setCell ⟨w.heap.size+1,0,none⟩ (.bool b1)).setCell ⟨w.heap.size+1,1,none⟩ (.slice a1 n1 k1)=w5 at *
   obtain⟨q0,q1⟩:=duo R5
   refine bodyPost_ret (v:=.tuple #[.agg #[.bool b1,.slice a1 n1 k1],.int .i64 c1]) (by simp [results,Tryz.results57,go_sem,q0,q1]) rfl ?_
   exact⟨⟨_,_,_,_,_,rfl,HD.out.1⟩,HD.out.2⟩
  ·have hz:=fS false (Nat.le_of_not_lt hlt)
   rw [show (!false)=true from rfl] at hz
   rw [hz]
   obtain⟨cc,hcc,hc0⟩:∃cc:Int,cmpN (val X) (val Y)=cc∧¬cc<0:=⟨_,rfl,by unfold cmpN;rw [if_neg hlt];split <;> omega⟩
   rw [hcc] at HC
   have HLT:=aa hlt
   clear hlt hz hcc
   go_enter Tryz.func57,Tryz.ntmps57
   go_wp2_with fail
   refine HC.mono ?_
   rintro e ws ⟨rfl,hs⟩
   have hbs:Below w0.heap.size w0 ws:=hs.below _
   have HM:=cQ _ _ X Y ws (HA0.out.below hbs) (HB9.out.below hbs) (by omega)
   obtain⟨k0',k1'⟩:=duo (ab hbs HK0.out)
   clear HWS
   have HWS:=aa hbs
   have HKS:=aa (ab hbs HK0.out)
   clear k0 k1 hbs hs HC
   go_wp2_with fail
   refine HM.mono ?_
   rintro e w1 ⟨hb1,hcase⟩
   obtain⟨k0'',k1''⟩:=duo (ab hb1 HKS.out)
   obtain⟨v1,c0,rs,rfl,ha,hres⟩:Res w1 ws.heap.size e (val X - val Y):=by
    rcases hcase with ⟨h,_⟩|⟨_,h⟩
    ·have:=HLT.out;omega
    ·exact h
   clear HM hcase k0' k1'
   have hans:=ba false v1 rs c0 (val X - val Y) _ w1 ha hres
   obtain⟨a1,n1,rfl⟩:=ha.shape
   have HW1:=aa (HWS.out.trans (hb1.mono HWS.out.size))
   clear ha hres hb1
   go_wp2_with fail
   refine hans.mono ?_
   rintro e w2 ⟨⟨b1,a1,n1,k1,c1,rfl,hzr⟩,hb2⟩
   have HZR:=aa (hzr.base (Nat.le_trans HB0.out.size HWS.out.size))
   have HW:=aa (HW1.out.trans (hb2.mono HW1.out.size))
   clear hzr hb2 hans
   have hbx:=ab HW.out HX0.out
   have hf1:=ae hbx
   obtain⟨l0,l1⟩:=duo hbx
   have HBX:=aa hbx
   have HBE:=aa (HB0.out.trans (HW.out.mono HB0.out.size))
   clear hbx
   go_wp2
   have R5:=ak HBX.out (a':=.bool b1) (b':=.slice a1 n1 k1)
   have HD:=aa (And.intro (HZR.out.duo (u0:=.bool b1) (u1:=.slice a1 n1 k1) HBX.out) (ai HBE.out (g:=w.heap.size+1) (u0:=.bool b1) (u1:=.slice a1 n1 k1) (by omega)))
   generalize (w2.setCell ⟨w.heap.size+1,0,none⟩ (.bool b1)).setCell ⟨w.heap.size+1,1,none⟩ (.slice a1 n1 k1)=w5 at *
   obtain⟨q0,q1⟩:=duo R5
   refine bodyPost_ret (v:=.tuple #[.agg #[.bool b1,.slice a1 n1 k1],.int .i64 c1]) (by simp [results,Tryz.results57,go_sem,q0,q1]) rfl ?_
   exact⟨⟨_,_,_,_,_,rfl,HD.out.1⟩,HD.out.2⟩
 ·obtain⟨w0,hw0,hb0,h0,hx0⟩:=aQ w (.cells #[.bool true,.slice a X.length n] 27) (.cells #[.bool false,.slice none 0 0] 27)
  obtain⟨k0,k1⟩:=duo h0
  have HB0:=aa hb0
  have HX0:=aa hx0
  have HK0:=aa h0
  have A0:=hA.below hb0
  have B0:=hB.below hb0
  have HWS:Hid (Below w0.heap.size w0 w0):=aa (Below.refl _ _)
  have HC:=cl _ _ X Y w0 A0 B0
  have HA0:=aa A0
  have HB9:=aa B0
  clear hA hB hb0 h0 hx0 A0 B0
  by_cases hlt:val X<val Y
  ·rw [cmpN_lt hlt] at HC
   have hz:=gA true (Nat.le_of_lt hlt)
   rw [show (!true)=false from rfl] at hz
   rw [hz]
   have HLT:=aa hlt
   clear hlt hz
   go_enter Tryz.func57,Tryz.ntmps57
   go_wp2_with fail
   refine HC.mono ?_
   rintro e ws ⟨rfl,hs⟩
   have hbs:Below w0.heap.size w0 ws:=hs.below _
   have HM:=cQ _ _ Y X ws (HB9.out.below hbs) (HA0.out.below hbs) (by omega)
   obtain⟨k0',k1'⟩:=duo (ab hbs HK0.out)
   clear HWS
   have HWS:=aa hbs
   clear k0 k1 hbs hs HC
   go_wp2_with fail
   refine HM.mono ?_
   rintro e w1 ⟨hb1,hcase⟩
   obtain⟨v1,c0,rs,rfl,ha,hres⟩:Res w1 ws.heap.size e (val Y - val X):=by
    rcases hcase with ⟨h,_⟩|⟨_,h⟩
    ·have:=HLT.out;omega
    ·exact h
   clear HM hcase
   have hans:=ba false v1 rs c0 (val Y - val X) _ w1 ha hres
   obtain⟨a1,n1,rfl⟩:=ha.shape
   have HW1:=aa (HWS.out.trans (hb1.mono HWS.out.size))
   clear ha hres hb1
   go_wp2_with fail
   refine hans.mono ?_
   rintro e w2 ⟨⟨b1,a1,n1,k1,c1,rfl,hzr⟩,hb2⟩
   have HZR:=aa (hzr.base (Nat.le_trans HB0.out.size HWS.out.size))
   have HW:=aa (HW1.out.trans (hb2.mono HW1.out.size))
   clear hzr hb2 hans
   have hbx:=ab HW.out HX0.out
   have hf1:=ae hbx
   obtain⟨l0,l1⟩:=duo hbx
   have HBX:=aa hbx
   have HBE:=aa (HB0.out.trans (HW.out.mono HB0.out.size))
   clear hbx
   go_wp2
   have R5:=ak HBX.out (a':=.bool b1) (b':=.slice a1 n1 k1)
   have HD:=aa (And.intro (HZR.out.duo (u0:=.bool b1) (u1:=.slice a1 n1 k1) HBX.out) (ai HBE.out (g:=w.heap.size+1) (u0:=.bool b1) (u1:=.slice a1 n1 k1) (by omega)))
   generalize (w2.setCell ⟨w.heap.size+1,0,none⟩ (.bool b1)).setCell ⟨w.heap.size+1,1,none⟩ (.slice a1 n1 k1)=w5 at *
   obtain⟨q0,q1⟩:=duo R5
   refine bodyPost_ret (v:=.tuple #[.agg #[.bool b1,.slice a1 n1 k1],.int .i64 c1]) (by simp [results,Tryz.results57,go_sem,q0,q1]) rfl ?_
   exact⟨⟨_,_,_,_,_,rfl,HD.out.1⟩,HD.out.2⟩
  ·have hz:=fS true (Nat.le_of_not_lt hlt)
   rw [show (!true)=false from rfl] at hz
   rw [hz]
   obtain⟨cc,hcc,hc0⟩:∃cc:Int,cmpN (val X) (val Y)=cc∧¬cc<0:=⟨_,rfl,by unfold cmpN;rw [if_neg hlt];split <;> omega⟩
   rw [hcc] at HC
   have HLT:=aa hlt
   clear hlt hz hcc
   go_enter Tryz.func57,Tryz.ntmps57
   go_wp2_with fail
   refine HC.mono ?_
   rintro e ws ⟨rfl,hs⟩
   have hbs:Below w0.heap.size w0 ws:=hs.below _
   have HM:=cQ _ _ X Y ws (HA0.out.below hbs) (HB9.out.below hbs) (by omega)
   obtain⟨k0',k1'⟩:=duo (ab hbs HK0.out)
   clear HWS
   have HWS:=aa hbs
   have HKS:=aa (ab hbs HK0.out)
   clear k0 k1 hbs hs HC
   go_wp2_with fail
   refine HM.mono ?_
   rintro e w1 ⟨hb1,hcase⟩
   obtain⟨k0'',k1''⟩:=duo (ab hb1 HKS.out)
   obtain⟨v1,c0,rs,rfl,ha,hres⟩:Res w1 ws.heap.size e (val X - val Y):=by
    rcases hcase with ⟨h,_⟩|⟨_,h⟩
    ·have:=HLT.out;omega
    ·exact h
   clear HM hcase k0' k1'
   have hans:=ba true v1 rs c0 (val X - val Y) _ w1 ha hres
   obtain⟨a1,n1,rfl⟩:=ha.shape
   have HW1:=aa (HWS.out.trans (hb1.mono HWS.out.size))
   clear ha hres hb1
   go_wp2_with fail
   refine hans.mono ?_
   rintro e w2 ⟨⟨b1,a1,n1,k1,c1,rfl,hzr⟩,hb2⟩
   have HZR:=aa (hzr.base (Nat.le_trans HB0.out.size HWS.out.size))
   have HW:=aa (HW1.out.trans (hb2.mono HW1.out.size))
   clear hzr hb2 hans
   have hbx:=ab HW.out HX0.out
   have hf1:=ae hbx
   obtain⟨l0,l1⟩:=duo hbx
   have HBX:=aa hbx
   have HBE:=aa (HB0.out.trans (HW.out.mono HB0.out.size))
   clear hbx
   go_wp2
   have R5:=ak HBX.out (a':=.bool b1) (b':=.slice a1 n1 k1)
   have HD:=aa (And.intro (HZR.out.duo (u0:=.bool b1) (u1:=.slice a1 n1 k1) HBX.out) (ai HBE.out (g:=w.heap.size+1) (u0:=.bool b1) (u1:=.slice a1 n1 k1) (by omega)))
   generalize (w2.setCell ⟨w.heap.size+1,0,none⟩ (.bool b1)).setCell ⟨w.heap.size+1,1,none⟩ (.slice a1 n1 k1)=w5 at *
   obtain⟨q0,q1⟩:=duo R5
   refine bodyPost_ret (v:=.tuple #[.agg #[.bool b1,.slice a1 n1 k1],.int .i64 c1]) (by simp [results,Tryz.results57,go_sem,q0,q1]) rfl ?_
   exact⟨⟨_,_,_,_,_,rfl,HD.out.1⟩,HD.out.2⟩
 ·obtain⟨w0,hw0,hb0,h0,hx0⟩:=aQ w (.cells #[.bool true,.slice a X.length n] 27) (.cells #[.bool false,.slice none 0 0] 27)
  obtain⟨k0,k1⟩:=duo h0
  have HB0:=aa hb0
  have HX0:=aa hx0
  have HK0:=aa h0
  have A0:=hA.below hb0
  have B0:=hB.below hb0
  have HWS:Hid (Below w0.heap.size w0 w0):=aa (Below.refl _ _)
  rw [fJ]
  have HM:=dz _ _ X Y w0 A0 B0 (by omega) (by omega)
  clear hA hB hb0 h0 hx0 A0 B0
  go_enter Tryz.func57,Tryz.ntmps57
  go_wp2_with fail
  refine HM.mono ?_
  rintro e w1 ⟨hb1,v1,c0,rs,rfl,ha,hres⟩
  clear HM
  have hans:=ba true v1 rs c0 (val X+val Y) _ w1 ha hres
  obtain⟨a1,n1,rfl⟩:=ha.shape
  have HW1:=aa (HWS.out.trans (hb1.mono HWS.out.size))
  clear ha hres hb1
  go_wp2_with fail
  refine hans.mono ?_
  rintro e w2 ⟨⟨b1,a1,n1,k1,c1,rfl,hzr⟩,hb2⟩
  have HZR:=aa (hzr.base (Nat.le_trans HB0.out.size HWS.out.size))
  have HW:=aa (HW1.out.trans (hb2.mono HW1.out.size))
  clear hzr hb2 hans
  have hbx:=ab HW.out HX0.out
  have hf1:=ae hbx
  obtain⟨l0,l1⟩:=duo hbx
  have HBX:=aa hbx
  have HBE:=aa (HB0.out.trans (HW.out.mono HB0.out.size))
  clear hbx
  go_wp2
  have R5:=ak HBX.out (a':=.bool b1) (b':=.slice a1 n1 k1)
  have HD:=aa (And.intro (HZR.out.duo (u0:=.bool b1) (u1:=.slice a1 n1 k1) HBX.out) (ai HBE.out (g:=w.heap.size+1) (u0:=.bool b1) (u1:=.slice a1 n1 k1) (by omega)))
  generalize (w2.setCell ⟨w.heap.size+1,0,none⟩ (.bool b1)).setCell ⟨w.heap.size+1,1,none⟩ (.slice a1 n1 k1)=w5 at *
  obtain⟨q0,q1⟩:=duo R5
  refine bodyPost_ret (v:=.tuple #[.agg #[.bool b1,.slice a1 n1 k1],.int .i64 c1]) (by simp [results,Tryz.results57,go_sem,q0,q1]) rfl ?_
  exact⟨⟨_,_,_,_,_,rfl,HD.out.1⟩,HD.out.2⟩

theorem gt (b:Bool)(v:Value)(X:List Nat)(t:Bool)(u:Value)(Y:List Nat)(w:World)(hA:Arg w v X)(hB:Arg w u Y)(hf:X.length≤17592186044416)(hg:Y.length≤17592186044416) :
  Calls Tryz.prog 25 #[.agg #[.bool b,v],.agg #[.bool t,u]] w fun e w'=>aZ w' w.heap.size e (zz b (val X)+zz t (val Y))∧Below w.heap.size w w':=by
 obtain⟨a,n,rfl,_,_,_⟩:=hA.form
 obtain⟨a9,n9,rfl,_,_,_⟩:=hB.form
 obtain⟨w0,hw0,hb0,h0,h1,hx0⟩:=bJ w (.cells #[.bool b,.slice a X.length n] 27) (.cells #[.bool t,.slice a9 Y.length n9] 27) (.cells #[.bool false,.slice none 0 0] 27)
 obtain⟨k0,k1⟩:=duo h0
 obtain⟨k2,k3⟩:=duo h1
 have HB0:=aa hb0
 have HX0:=aa hx0
 have HM:=fv b _ X t _ Y w0 (hA.below hb0) (hB.below hb0) hf hg
 clear hA hB hb0 h0 h1 hx0
 go_enter Tryz.func25,Tryz.ntmps25
 go_wp2_with fail
 refine HM.mono ?_
 rintro e w1 ⟨⟨b1,a1,n1,k1,c1,rfl,hzr⟩,hb1⟩
 have HZR:=aa (hzr.base HB0.out.size)
 have HW:=aa hb1
 clear hzr hb1 HM hw0 k0 k2 k3
 have hbx:=ab HW.out HX0.out
 have hf1:=ae hbx
 obtain⟨l0,l1⟩:=duo hbx
 have HBX:=aa hbx
 have HBE:=aa (HB0.out.trans (HW.out.mono HB0.out.size))
 clear hbx
 go_wp2
 have R5:=ak HBX.out (a':=.bool b1) (b':=.slice a1 n1 k1)
 have HD:=aa (And.intro (HZR.out.duo (u0:=.bool b1) (u1:=.slice a1 n1 k1) HBX.out) (ai HBE.out (g:=w.heap.size+2) (u0:=.bool b1) (u1:=.slice a1 n1 k1) (by omega)))
 generalize (w1.setCell ⟨w.heap.size+2,0,none⟩ (.bool b1)).setCell ⟨w.heap.size+2,1,none⟩ (.slice a1 n1 k1)=w5 at *
 obtain⟨q0,q1⟩:=duo R5
 refine bodyPost_ret (v:=.tuple #[.agg #[.bool b1,.slice a1 n1 k1],.int .i64 c1]) (by simp [results,Tryz.results25,go_sem,q0,q1]) rfl ?_
 exact⟨⟨_,_,_,_,_,rfl,HD.out.1⟩,HD.out.2⟩

theorem fV (b:Bool)(v:Value)(X:List Nat)(t:Bool)(u:Value)(Y:List Nat)(w:World)(hA:Arg w v X)(hB:Arg w u Y)(hf:X.length≤17592186044416)(hg:Y.length≤17592186044416) :
  Calls Tryz.prog 27 #[.agg #[.bool b,v],.agg #[.bool t,u]] w fun e w'=>aZ w' w.heap.size e (zz b (val X) - zz t (val Y))∧Below w.heap.size w w':=by
 obtain⟨a,n,rfl,_,_,_⟩:=hA.form
 obtain⟨a9,n9,rfl,_,_,_⟩:=hB.form
 obtain⟨w0,hw0,hb0,h0,h1,hx0⟩:=bJ w (.cells #[.bool b,.slice a X.length n] 27) (.cells #[.bool t,.slice a9 Y.length n9] 27) (.cells #[.bool false,.slice none 0 0] 27)
 obtain⟨k0,k1⟩:=duo h0
 obtain⟨k2,k3⟩:=duo h1
 have HB0:=aa hb0
 have HX0:=aa hx0
 have HM:=fv b _ X (!t) _ Y w0 (hA.below hb0) (hB.below hb0) hf hg
 rw [ji,←Int.sub_eq_add_neg] at HM
 clear hA hB hb0 h0 h1 hx0
 go_enter Tryz.func27,Tryz.ntmps27
 go_wp2_with fail
 refine HM.mono ?_
 rintro e w1 ⟨⟨b1,a1,n1,k1,c1,rfl,hzr⟩,hb1⟩
 have HZR:=aa (hzr.base HB0.out.size)
 have HW:=aa hb1
 clear hzr hb1 HM hw0 k0 k2 k3
 have hbx:=ab HW.out HX0.out
 have hf1:=ae hbx
 obtain⟨l0,l1⟩:=duo hbx
 have HBX:=aa hbx
 have HBE:=aa (HB0.out.trans (HW.out.mono HB0.out.size))
 clear hbx
 go_wp2
 have R5:=ak HBX.out (a':=.bool b1) (b':=.slice a1 n1 k1)
 have HD:=aa (And.intro (HZR.out.duo (u0:=.bool b1) (u1:=.slice a1 n1 k1) HBX.out) (ai HBE.out (g:=w.heap.size+2) (u0:=.bool b1) (u1:=.slice a1 n1 k1) (by omega)))
 generalize (w1.setCell ⟨w.heap.size+2,0,none⟩ (.bool b1)).setCell ⟨w.heap.size+2,1,none⟩ (.slice a1 n1 k1)=w5 at *
 obtain⟨q0,q1⟩:=duo R5
 refine bodyPost_ret (v:=.tuple #[.agg #[.bool b1,.slice a1 n1 k1],.int .i64 c1]) (by simp [results,Tryz.results27,go_sem,q0,q1]) rfl ?_
 exact⟨⟨_,_,_,_,_,rfl,HD.out.1⟩,HD.out.2⟩

theorem ci (L:Nat)(v1:Value)(X:List Nat)(w:World)(hL:w.heap[L]?=some (.cells #[v1] 25))(hA:Arg w v1 X) :
  Calls Tryz.prog 64 #[.slice (some ⟨L,0,none⟩) 1 1] w fun e w'=>e=.returned (.bool (decide (67108864<blen (val X))))∧w'=w:=by
 have c0:w.cell? ⟨L,0,none⟩=some v1:=by simp [World.cell?,hL]
 have L1:=aF v1 X w hA
 obtain⟨a1,n1,rfl,_,_,_⟩:=hA.form
 clear hA hL
 generalize blen (val X)=lx at *
 by_cases h1:67108864<lx
 ·have i1:(67108864:Int)<(lx:Int):=by omega
  rw [decide_eq_true h1]
  go_enter Tryz.func64,Tryz.ntmps64
  go_wp2
  refine wp_loop_rounds 1 ?_
  rw [rounds_succ]
  go_wp2_with fail
  refine L1.mono ?_
  rintro e wn ⟨rfl,hw⟩;rw [hw];clear hw wn L1
  go_wp2
  go_ret
  exact⟨rfl,rfl⟩
 ·have i1:¬(67108864:Int)<(lx:Int):=by omega
  rw [decide_eq_false h1]
  go_enter Tryz.func64,Tryz.ntmps64
  go_wp2
  refine wp_loop_rounds 2 ?_
  rw [rounds_succ]
  go_wp2_with fail
  refine L1.mono ?_
  rintro e wn ⟨rfl,hw⟩;rw [hw];clear hw wn L1
  go_wp2
  rw [rounds_succ]
  go_wp2
  go_ret
  exact⟨rfl,rfl⟩

theorem lb (x y:Nat)(w:World)(hx:x<18446744073709551616)(hy:y<18446744073709551616) :
  Calls Tryz.prog 33 #[.int .u64 x,.int .u64 y] w fun e w'=>e=.returned (.int .u64 ((x &&& y:Nat):Int))∧w'=w:=by
 have h:=bits_and_u64_nat x y hx hy
 go_enter Tryz.func33,Tryz.ntmps33
 go_wp2
 go_ret
 exact⟨rfl,rfl⟩

theorem kM (x y:Nat)(w:World)(hx:x<18446744073709551616)(hy:y<18446744073709551616) :
  Calls Tryz.prog 34 #[.int .u64 x,.int .u64 y] w fun e w'=>e=.returned (.int .u64 ((x ||| y:Nat):Int))∧w'=w:=by
 have h:=bits_or_u64_nat x y hx hy
 go_enter Tryz.func34,Tryz.ntmps34
 go_wp2
 go_ret
 exact⟨rfl,rfl⟩

theorem j7 (x y:Nat)(w:World)(hx:x<18446744073709551616)(hy:y<18446744073709551616) :
  Calls Tryz.prog 35 #[.int .u64 x,.int .u64 y] w fun e w'=>e=.returned (.int .u64 ((x ^^^ y:Nat):Int))∧w'=w:=by
 have h:=bits_xor_u64_nat x y hx hy
 go_enter Tryz.func35,Tryz.ntmps35
 go_wp2
 go_ret
 exact⟨rfl,rfl⟩

theorem dF {n m:Nat}{s:Bool}{Z:List Nat}(hl:Limbs Z)(hn:Z.length=n+1)(hm:m<18446744073709551616 ^ n)(hv:val Z=tcv (64*(n+1)) s m):(0<Z.getD n 0)=(s=true):=by
 have h:=bQ Z 0 n (by omega)
 have h2:=aK Z
 rw [hn] at h2
 rw [h2,Nat.zero_add,hv] at h
 have h3:=aU hl 0 n
 have hp:18446744073709551616 ^ (n+1)=18446744073709551616 ^ n*18446744073709551616:=Nat.pow_succ ..
 have hp0:0<18446744073709551616 ^ n:=Nat.pow_pos (by omega)
 unfold tcv at h
 rw [bC] at h
 generalize sv Z 0 n=a at *
 generalize Z.getD n 0=t at *
 generalize (18446744073709551616:Nat) ^ n=P at *
 rw [hp] at h
 cases s
 ·simp at h ⊢
  rcases Nat.eq_zero_or_pos t with h4|h4
  ·exact h4
  ·have h5:P≤P*t:=Nat.le_mul_of_pos_right _ h4
   omega
 ·simp at h ⊢
  rcases Nat.eq_zero_or_pos t with h4|h4
  ·subst h4
   omega
  ·omega

theorem ct {b:Bool}{X:List Nat}{n:Nat}(hl:Limbs X)(hn:X.length≤n):zmg (zz b (val X))<18446744073709551616 ^ n:=by
 have h1:=val_lt hl
 have h2:18446744073709551616 ^ X.length≤18446744073709551616 ^ n:=Nat.pow_le_pow_right (by omega) hn
 have h3:=az b (val X)
 unfold zmg
 split <;> omega

theorem dI {n m:Nat}(hm:m<18446744073709551616 ^ n):(18446744073709551616 ^ (n+1) - tcv (64*(n+1)) true m) % 18446744073709551616 ^ (n+1)=m+1:=by
 have hp:18446744073709551616 ^ (n+1)=18446744073709551616 ^ n*18446744073709551616:=Nat.pow_succ ..
 have hp0:0<18446744073709551616 ^ n:=Nat.pow_pos (by omega)
 unfold tcv
 rw [bC]
 generalize (18446744073709551616:Nat) ^ n=P at *
 rw [hp]
 simp only [if_true]
 rw [show P*18446744073709551616 - (P*18446744073709551616 - 1 - m)=m+1 by omega,Nat.mod_eq_of_lt (by omega)]

theorem cB (b:Bool)(v:Value)(rs:List Nat)(base:Nat)(w:World)(x:Nat)(z:Int)(hz:zz b x=z)(hA:Ans w base v rs)(hv:val rs=x)(ht:tr rs=rs) :
  Calls Tryz.prog 65 #[.bool b,v] w fun e w'=>e=.returned (.agg #[.bool (decide (z<0)),v])∧Below w.heap.size w w':=by
 have C:=bH b v rs base w hA
 rw [bE b ht hv,hz] at C
 exact C

theorem bi (s:Bool)(m:Nat):enc s m=zz s (if s then m+1 else m):=by
 cases s <;> simp [enc,zz]
end Go.Proofs.YtcbpdngogkbndaaGreatDoor

