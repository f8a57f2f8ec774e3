/- Package roots: less. -/
import Derived.Test.YtiagnfghnfhlnaaGreatDoorB10
import Derived.Test.YtiagnfghnfhlnaaGreatDoorB03
import Derived.Test.YtiagnfghnfhlnaaGreatDoorB04
import Derived.Test.YtiagnfghnfhlnaaGreatDoorB07
import Derived.Test.YtiagnfghnfhlnaaGreatDoorB08
set_option maxRecDepth 20000
set_option maxHeartbeats 2000000
namespace Go.Proofs.YtiagnfghnfhlnaaGreatDoor
open Go.RowKit
open Lm
attribute [local go_sem ↓] Go.wp_at_zero Go.wp_at_succ

theorem dm (va vb:Value)(X Y:List Nat)(w:World)(hA:Arg w va X)(hB:Arg w vb Y)(hx:X.length≤17592186044416)(hle:val Y≤val X) :
  Calls Tryz.prog 23 #[va,vb] w (aw w (val X - val Y)):=by
 obtain⟨a1,c1,rfl,T1,A1⟩:=hA.rtrim
 obtain⟨a2,c2,rfl,T2,A2⟩:=hB.rtrim
 have f1:=A1.few
 have f2:=A2.few
 have g1:=tr_length_le X
 have hln:(tr Y).length≤(tr X).length:=ay Y _ (by have:=val_lt A1.limbs;rw [val_tr] at this;omega)
 rw [←val_tr X,←val_tr Y] at hle ⊢
 have HT1:=T1 w (Below.refl _ _)
 have HT2:=T2 w (Below.refl _ _)
 clear T1 T2
 generalize tr X=P at *
 generalize tr Y=Q at *
 clear hA hB
 obtain⟨i0,hi,hz0,hz1,hz2⟩:=info_parts Tryz.infoU
 go_enter Tryz.func23,Tryz.ntmps23
 go_wp2_with fail
 refine HT1.mono ?_
 rintro e wn ⟨rfl,hw⟩;rw [hw];clear hw wn HT1
 go_wp2_with fail
 refine HT2.mono ?_
 rintro e wn ⟨rfl,hw⟩;rw [hw];clear hw wn HT2
 obtain⟨n,hn⟩:∃n,P.length=n:=⟨_,rfl⟩
 have hPn:P.length≤n:=by omega
 rw [hn] at A1 f1 g1 hln ⊢
 go_wp2_with (at_make;refine wpList_make_full _ rfl _ _ 23 rfl w.heap.size 33 i0 (.int .u64 0) 1 Tryz.underlying23 hi hz0 hz1 .i64 .i64 _ _ n rfl rfl (by omega) (by omega) (by rw [hz2];omega) (by unfold maxLen;omega) (Nat.le_refl _) ?_;intro w1 hown hgrow;obtain⟨w2,M2,hcp,B2,L2,F2,O2,S2⟩:=aH w.heap.size 0 n n (List.replicate n 0) a1 c1 P w1 (Blk.made hown) (limbs_replicate _) A1.limbs (aI n 0 n) (by simp) (by omega) (A1.below ((Below.refl w.heap.size w).grown hgrow (Nat.le_refl _) (fun k hk=>by cases hk))).rlies;rw [hn] at hcp)
 have hb1:Below w.heap.size w w1:=(Below.refl w.heap.size w).grown hgrow (Nat.le_refl _) (fun k hk=>by cases hk)
 have hb2:Below w.heap.size w w2:=hb1.trans (F2.below (Nat.le_refl _) hb1.size)
 have l2:M2.length=n:=by rw [O2.len,List.length_replicate]
 have s2:sv M2 0 n=val P:=S2
 have hao:0<Q.length→∀b off,a2=some ⟨b,off,none⟩→b≠w.heap.size∨off+Q.length≤0∨0+n≤off:=fun h b off e=>by
  subst e
  have:=A2.block h
  exact .inl (by omega)
 have L1:=(A2.below hb2).rlies
 have M1:=A2.limbs
 have HB2:=aa hb2
 have HS2:=aa s2
 have HB0:=aa B2
 have HL0:=aa L2
 have HLE:=aa hle
 clear A1 A2 S2 O2 F2 hown hgrow hb1 hb2 s2 hle hcp hi hz0 hz1 hz2
 go_loopw [6,22] (fun c i wr=>∃(k cy:Nat) (Z':List Nat),k≤Q.length∧i=.int .i64 k∧c=.int .u64 cy∧cy≤1∧Out M2 Z' 0 (0+k)∧Limbs Z'∧Blk wr w.heap.size Z'∧Fr w.heap.size w2 wr ∧
   sv Z' 0 k+val (Q.take k)=sv M2 0 k+cy*18446744073709551616 ^ k) (fun _ i _=>Q.length - (intOf i).toNat)
 case atStart=>exact⟨0,0,M2,Nat.zero_le _,rfl,rfl,by omega,Out.refl _ _ _,HL0.out,HB0.out,Fr.refl _ _,by simp [au,val]⟩
 case round=>
  obtain⟨k,cy,Z',hk,rfl,rfl,hcy,hout,hlz,hblk,hfr0,hval⟩:=hrel
  have HV:=aa hval
  have HB:=aa hblk
  have HF:=aa hfr0
  have HO:=aa hout
  have hl:=hout.len
  clear hval
  by_cases hkl:k<Q.length
  ·rcases L1.fr (hao (by omega)) hfr0 B2 hblk (hout.wider (Nat.le_refl _) (by omega)) with h0|⟨b,off,rfl,hcell⟩
   ·rw [h0] at hkl;simp at hkl
   ·have hck:=hcell k hkl
    have hfr:=hblk.free k
    have hco:=hblk.cell k (by omega)
    have z1:=limb_lt M1 k
    have z2:=limb_lt hlz k
    have hsame:=hout.same k (by omega)
    have ha:=cI (Z'.getD k 0) (Q.getD k 0) cy hcy
    obtain⟨q1,q2,q3⟩:=cq (Z'.getD k 0) (Q.getD k 0) cy z2 z1 hcy
    have HS:=bV M2 Z' 0 k cy _ _ (Q.getD k 0) _ (by omega) hl HV.out (by rw [Nat.zero_add k,←hsame];exact q1)
    rw [←val_take_next Q k,Nat.zero_add k] at HS
    replace HS:=aa HS
    generalize Z'.getD k 0=z at *
    generalize Q.getD k 0=x at *
    clear hsame q1
    generalize (z+18446744073709551616 - x - cy) % 18446744073709551616=s at *
    generalize bor z x cy=c2 at *
    have i1:(k:Int)<(n:Int):=by omega
    clear hcell hblk hfr0 hout HV M1 L1 B2 L2
    go_wp2
    go_roundw
    case rel=>exact⟨k+1,c2,Z'.set k s,by omega,by go_num,rfl,q2,(HO.out.wider (Nat.le_refl _) (by omega)).set _ _ (by omega) (by omega),limbs_set hlz _ _ q3,HB.out.set _ s,HF.out.setCell _ _,HS.out⟩
    case measure=>simp [intOf];omega
  ·have ek:k=Q.length:=by omega
   subst ek
   rw [List.take_length] at HV
   clear hblk hfr0 hout L1 B2 M1 L2 hl
   go_wp2
   go_loopw [6,9] (fun c i wr2=>∃(k cy:Nat) (Z2:List Nat),k≤n∧i=.int .i64 k∧c=.int .u64 cy∧cy≤1∧Out M2 Z2 0 (0+k)∧Limbs Z2∧Blk wr2 w.heap.size Z2∧Fr w.heap.size w2 wr2 ∧
     sv Z2 0 k+val Q=sv M2 0 k+cy*18446744073709551616 ^ k) (fun _ i _=>n - (intOf i).toNat)
   case atStart=>exact⟨Q.length,cy,Z',hln,rfl,rfl,hcy,HO.out,hlz,HB.out,HF.out,HV.out⟩
   case round=>
    obtain⟨k,cy2,Z2,hk2,rfl,rfl,hcy2,hout2,hlz2,hblk2,hfr2,hval2⟩:=hrel
    clear HV HB HF HO
    have HV:=aa hval2
    have HB:=aa hblk2
    have HF:=aa hfr2
    have HO:=aa hout2
    have hl:=hout2.len
    clear hval2
    by_cases hc0:cy2=0
    ·subst hc0
     have hr:=dC M2 Z2 0 k n _ hk2 (by omega) hout2 (by have h:=HV.out;rw [Nat.zero_mul,Nat.add_zero] at h;exact h)
     have hlZ:Z2.length=n:=by rw [hl];exact l2
     have HR:=aw.trimmed (w:=w) (x:=val P - val Q) (Nat.le_refl _) hblk2 hlz2 (by omega) (by rw [←HS2.out,←hr,←hlZ,aC]) (HB2.out.trans (hfr2.below (Nat.le_refl _) HB2.out.size))
     rw [hlZ] at HR
     clear hblk2 hfr2 hout2 HV hr
     go_wp2_with fail
     refine HR.mono ?_
     rintro e w4 ⟨rfl,rfl,hd⟩
     have HD:=aa hd
     go_wp2
     go_returns
     exact HD.out
    ·have hpos:(0:Int)<(cy2:Int):=by omega
     have hkn:k<n:=by
      rcases Nat.lt_or_ge k n with h|h
      ·exact h
      ·have ek:k=n:=by omega
       subst ek
       exact absurd (d7 M2 Z2 0 k cy2 (val Q) hlz2 (by rw [HS2.out];exact HLE.out) HV.out) hc0
     have hfr:=hblk2.free k
     have hco:=hblk2.cell k (by omega)
     have z2:=limb_lt hlz2 k
     have hsame:=hout2.same k (by omega)
     have ha:=dF (Z2.getD k 0) cy2 hcy2
     obtain⟨q1,q2,q3⟩:=cq (Z2.getD k 0) 0 cy2 z2 (by omega) hcy2
     have HS:=bV M2 Z2 0 k cy2 _ _ 0 _ (by omega) hl HV.out (by rw [Nat.zero_add k,←hsame];exact q1)
     rw [Nat.mul_zero,Nat.add_zero,Nat.zero_add k] at HS
     replace HS:=aa HS
     generalize Z2.getD k 0=z at *
     clear hsame q1
     generalize (z+18446744073709551616 - 0 - cy2) % 18446744073709551616=s at *
     generalize bor z 0 cy2=c2 at *
     have i1:(k:Int)<(n:Int):=by omega
     clear hblk2 hfr2 hout2 HV hc0
     go_wp2
     go_roundw
     case rel=>exact⟨k+1,c2,Z2.set k s,by omega,by go_num,rfl,q2,(HO.out.wider (Nat.le_refl _) (by omega)).set _ _ (by omega) (by omega),limbs_set hlz2 _ _ q3,HB.out.set _ s,HF.out.setCell _ _,HS.out⟩
     case measure=>simp [intOf];omega

theorem aw.none (w:World):aw w 0 (.returned (.slice none 0 0)) w:=⟨⟨_,[],rfl,Ans.nil _ _,rfl,rfl⟩,Below.refl _ _⟩

theorem cr (va:Value)(X:List Nat)(n:Nat)(w:World)(hA:Arg w va X)(hx:X.length≤35184372088831)(hn:n≤4611686018427387904) :
  Calls Tryz.prog 50 #[va,.int .i64 n] w (aw w (val X / 2 ^ n)):=by
 obtain⟨a1,c1,rfl,T1,A1⟩:=hA.rtrim
 have f1:=A1.few
 have g1:=tr_length_le X
 have HT1:=T1 w (Below.refl _ _)
 obtain⟨q,s,hs,hnq⟩:∃q s,s<64∧n=q*64+s:=⟨n / 64,n % 64,by omega,by omega⟩
 have eq1:(n:Int) / 64=(q:Int):=by omega
 have eq2:(n:Int) % 64=(s:Int):=by omega
 have HN:Hid (n=q*64+s):=hnq
 have hq:q≤72057594037927936:=by omega
 rw [←val_tr X]
 clear T1 hA hnq
 generalize tr X=P at *
 by_cases hql:P.length≤q
 ·have HV:Hid (val P / 2 ^ n=0):=by
   refine aa ?_
   rw [Nat.div_eq_of_lt]
   have:=val_lt A1.limbs
   rw [W_pow] at this
   have h2:(2:Nat) ^ (P.length*64)≤2 ^ n:=Nat.pow_le_pow_right (by omega) (by have:=HN.out;omega)
   omega
  have i1:(P.length:Int)≤(q:Int):=by omega
  clear A1
  go_enter Tryz.func50,Tryz.ntmps50
  go_wp2_with fail
  refine HT1.mono ?_
  rintro e wn ⟨rfl,hw⟩;rw [hw];clear hw wn HT1
  go_wp2
  go_returns
  rw [HV.out]
  exact aw.none w
 ·obtain⟨_,_,e0,hcc,hcm,hl0⟩:=A1.form
  cases e0
  obtain⟨b,off,rfl⟩:∃b off,a1=some ⟨b,off,none⟩:=by
   rcases hl0 with h0|⟨b,off,e,_⟩
   ·rw [h0] at hql;simp at hql
   ·exact⟨b,off,e⟩
  have hbw:b<w.heap.size:=A1.block (by omega)
  have AD:=A1.drop q (by omega)
  obtain⟨m,hm⟩:∃m,P.length - q=m:=⟨_,rfl⟩
  have lD:(P.drop q).length=m:=by rw [List.length_drop];exact hm
  have HVX:Hid (val (P.drop q) / 2 ^ s=val P / 2 ^ n):=by
   refine aa ?_
   rw [val_drop A1.limbs q (by omega),Nat.div_div_eq_div_mul,←Nat.pow_add,←HN.out]
  have i1:¬(P.length:Int)≤(q:Int):=by omega
  have i2:(q:Int)≤(P.length:Int):=by omega
  have i3:(P.length:Int)≤(c1:Int):=by omega
  have i4:(q:Int)≤(c1:Int):=by omega
  have i5:(P.length:Int) - (q:Int)=(m:Int):=by omega
  have hcq:¬c1=q:=by omega
  obtain⟨i0,hi,hz0,hz1,hz2⟩:=info_parts Tryz.infoU
  rw [hm] at AD
  have L1:=AD.rlies
  have M1:=AD.limbs
  generalize P.drop q=D at *
  clear A1 hl0 AD HN
  go_enter Tryz.func50,Tryz.ntmps50
  go_wp2_with fail
  refine HT1.mono ?_
  rintro e wn ⟨rfl,hw⟩;rw [hw];clear hw wn HT1
  go_wp2_with (at_make;refine wpList_make_full _ rfl _ _ 23 rfl w.heap.size 33 i0 (.int .u64 0) 1 Tryz.underlying23 hi hz0 hz1 .i64 .i64 _ _ m rfl rfl (by omega) (by omega) (by rw [hz2];omega) (by unfold maxLen;omega) (Nat.le_refl _) ?_;intro w1 hown hgrow)
  have B1:=Blk.made hown
  have hb1:Below w.heap.size w w1:=(Below.refl w.heap.size w).grown hgrow (Nat.le_refl _) (fun k hk=>by cases hk)
  have HB1:=aa hb1
  have HBB:=aa B1
  have L2:=L1.below hb1
  have hao:∀b' off',some (⟨b,off+q,none⟩:Addr)=some ⟨b',off',none⟩→b'≠w.heap.size∨off'+D.length≤0∨0+m≤off':=fun b' off' e=>by
   cases e
   exact .inl (by omega)
  have hne1:¬b=w.heap.size:=by omega
  have hne2:¬w.heap.size=b:=by omega
  have ec:(64:Int) - (s:Int)=((64 - s:Nat):Int):=by omega
  clear hown hgrow hi hz0 hz1 hz2 hb1 L1
  go_loopw [8,9] (fun c i wr=>∃(k:Nat) (Z':List Nat),k≤D.length∧i=.int .i64 ((k:Int) - 1)∧c=.int .u64 (IntKind.u64.wrap (((D.getD k 0:Nat):Int)*2 ^ (64 - s)))∧Out (List.replicate m 0) Z' (0+k) (0+m)∧Limbs Z'∧Blk wr w.heap.size Z'∧Fr w.heap.size w1 wr ∧
    sv Z' (0+k) (m - k)=val (D.drop k) / 2 ^ s) (fun _ i _=>(intOf i+1).toNat)
  case atStart=>
   have e0:D.getD D.length 0=0:=by simp [List.getD]
   refine⟨D.length,List.replicate m 0,Nat.le_refl _,by rw [lD],?_,Out.refl _ _ _,limbs_replicate _,HBB.out,Fr.refl _ _,?_⟩
   ·rw [e0];simp [IntKind.wrap_u64]
   ·have:m - D.length=0:=by omega
    rw [this,au,List.drop_length];simp [val]
  case round=>
   obtain⟨k,Z',hk,rfl,rfl,hout,hlz,hblk,hfr0,hval⟩:=hrel
   have hl:=hout.len
   rw [List.length_replicate] at hl
   by_cases hk0:k=0
   ·subst hk0
    rw [Nat.add_zero,Nat.sub_zero,List.drop_zero] at hval
    have HR:=aw.trimmed (w:=w) (x:=val P / 2 ^ n) (Nat.le_refl _) hblk hlz (by omega) (by rw [←HVX.out,←hval,←hl,aC]) (HB1.out.trans (hfr0.below (Nat.le_refl _) HB1.out.size))
    rw [hl] at HR
    generalize IntKind.u64.wrap (((D.getD 0 0:Nat):Int)*2 ^ (64 - s))=cy at *
    clear hout hlz hblk hfr0 hval L2 B1
    go_wp2_with fail
    refine HR.mono ?_
    rintro e w4 ⟨rfl,rfl,hd⟩
    have HD:=aa hd
    go_wp2
    go_returns
    exact HD.out
   ·obtain⟨j,rfl⟩:∃j,k=j+1:=⟨k - 1,by omega⟩
    rcases L2.fr hao hfr0 B1 hblk (hout.wider (by omega) (Nat.le_refl _)) with h0|⟨b',off',e',hcell⟩
    ·rw [h0] at hk;simp at hk
    ·cases e'
     have hck:=hcell j (by omega)
     have hst:=eZ D s j hs (by omega)
     have hcons':∀t,sv (Z'.set j t) (0+j) (m - j)=t+18446744073709551616*sv Z' (0+(j+1)) (m - (j+1)):=fun t=>by
      have e:=bF (Z'.set (0+j) t) 0 j m (by simp;omega) (by omega)
      rw [bB,if_pos ⟨rfl,by omega⟩] at e
      have e2:Out Z' (Z'.set (0+j) t) (0+j) (0+(j+1)):=(Out.refl _ _ _).set _ _ (by omega) (by omega)
      rw [e2.sv (0+(j+1)) (m - (j+1)) (by omega),Nat.zero_add j] at e
      rw [Nat.zero_add j]
      exact e
     have hfr:=hblk.free j
     have hco:=hblk.cell j (by omega)
     have z1:=limb_lt M1 j
     have HS:=aa (hcons' (shr (D.getD j 0) (D.getD (j+1) 0) s))
     rw [hval,hst] at HS
     have hor:=walk_shr2 (D.getD j 0) (D.getD (j+1) 0) s hs z1
     have hsl:=shr_lt2 (D.getD j 0) (D.getD (j+1) 0) s hs z1
     generalize shr (D.getD j 0) (D.getD (j+1) 0) s=sh at *
     generalize IntKind.u64.wrap (((D.getD (j+1) 0:Nat):Int)*2 ^ (64 - s))=cy at *
     have HXJ:Hid (D.getD j 0=D.getD j 0):=rfl
     generalize hxj:D.getD j 0=x at *
     have HX:=aa hxj
     clear hxj HXJ
     generalize Z'.getD j 0=z at *
     have ej:(((j+1:Nat):Int) - 1)=(j:Int):=by omega
     rw [ej]
     have HB:=aa hblk
     have HF:=aa hfr0
     have HO:=aa hout
     clear hblk hfr0 hout ej hcell hcons' hst hval L2 B1 M1
     have hi1:(0:Int)≤(j:Int):=by omega
     have hi2:(j:Int)<(m:Int):=by omega
     go_wp2
     go_roundw
     case rel=>
      exact⟨j,Z'.set j sh,by omega,rfl,by rw [HX.out],(HO.out.wider (by omega) (Nat.le_refl _)).set _ _ (by omega) (by omega),limbs_set hlz _ _ hsl,HB.out.set _ sh,HF.out.setCell _ _,HS.out⟩
     case measure=>simp [intOf]

namespace Lm

theorem walk_shl' (x s cy:Nat)(hs:s≤64)(hc:cy<2 ^ s) :
  bits BinOp.or IntKind.u64 (cy:Int) (IntKind.u64.wrap ((x:Int)*2 ^ s))=((shl x s cy:Nat):Int):=by
 have e1:IntKind.u64.wrap ((x:Int)*2 ^ s)=((x*2 ^ s % 18446744073709551616:Nat):Int):=by
  rw [IntKind.wrap_u64]
  have:((x:Int)*2 ^ s)=((x*2 ^ s:Nat):Int):=by rw [Int.natCast_mul,Int.natCast_pow];rfl
  rw [this];omega
 have hcl:cy<18446744073709551616:=Nat.lt_of_lt_of_le hc (by rw [show (18446744073709551616:Nat)=2 ^ 64 from rfl];exact Nat.pow_le_pow_right (by omega) hs)
 have h:=walk_shl x s cy hs hc
 rw [e1,bits_or_u64_nat _ _ (Nat.mod_lt _ (by omega)) hcl] at h
 rw [e1,bits_or_u64_nat _ _ hcl (Nat.mod_lt _ (by omega)),Nat.or_comm]
 exact h

theorem walk_or0 (x s:Nat)(hx:x<18446744073709551616):bits BinOp.or IntKind.u64 0 ((x:Int) / 2 ^ (64 - s))=((x / 2 ^ (64 - s):Nat):Int):=by
 have hx2:x / 2 ^ (64 - s)<18446744073709551616:=Nat.lt_of_le_of_lt (Nat.div_le_self _ _) hx
 have h:=bits_or_u64_nat 0 (x / 2 ^ (64 - s)) (by omega) hx2
 rw [Nat.zero_or] at h
 rw [walk_shr]
 exact h

theorem join_step (Z X:List Nat)(q s k n V:Nat)(hs:s≤64)(hn:n=q*64+s)(hk:q+k+1<Z.length)(h:sv Z 0 (q+k+1)=V+2 ^ n*val (X.take k)) :
  sv ((Z.set (q+k) (shl (X.getD k 0) s (Z.getD (q+k) 0))).set (q+k+1) (X.getD k 0 / 2 ^ (64 - s))) 0 (q+k+2)=V+2 ^ n*val (X.take (k+1)):=by
 have hsp:=shl_split (X.getD k 0) s (Z.getD (q+k) 0) hs
 have a1:=bw (Z.set (0+(q+k)) (shl (X.getD k 0) s (Z.getD (q+k) 0))) 0 (q+k+1) (X.getD k 0 / 2 ^ (64 - s)) (by rw [List.length_set];omega)
 have a2:=bw Z 0 (q+k) (shl (X.getD k 0) s (Z.getD (q+k) 0)) (by omega)
 have a3:=bW Z 0 (q+k) (by omega)
 rw [a2] at a1
 simp only [Nat.zero_add] at a1 a3
 rw [a3] at h
 rw [show q+k+2=q+k+1+1 from rfl,a1,val_take_next X,Nat.mul_add,←Nat.add_assoc,←h]
 generalize Z.getD (q+k) 0=cy at *
 generalize X.getD k 0=x at *
 generalize shl x s cy=r at *
 generalize x / 2 ^ (64 - s)=d at *
 have e1:2 ^ n*(18446744073709551616 ^ k*x)=18446744073709551616 ^ (q+k)*(x*2 ^ s):=by
  rw [hn,Nat.pow_add 2,←W_pow,Nat.pow_add]
  generalize (18446744073709551616:Nat) ^ k=a
  generalize (18446744073709551616:Nat) ^ q=c
  generalize (2:Nat) ^ s=t
  grind
 rw [e1,Nat.pow_succ 18446744073709551616 (q+k)]
 generalize (18446744073709551616:Nat) ^ (q+k)=p at *
 have e2:p*(r+d*18446744073709551616)=p*(x*2 ^ s+cy):=by rw [hsp]
 rw [Nat.mul_add,Nat.mul_add] at e2
 have e3:p*18446744073709551616*d=p*(d*18446744073709551616):=by rw [Nat.mul_assoc,Nat.mul_comm d]
 omega

theorem low_top {Z:List Nat}(q s:Nat)(h:val Z<2 ^ (q*64+s))(hs:s<64):Z.getD q 0<2 ^ s∧∀j,q<j→Z.getD j 0=0:=by
 have key:∀j,j<Z.length→18446744073709551616 ^ j*Z.getD j 0≤val Z:=by
  intro j hj
  have h1:=val_parts Z j (by omega)
  have h2:=val_drop_next Z j hj
  rw [h2,Nat.mul_add] at h1
  omega
 have hz:∀j,Z.length≤j→Z.getD j 0=0:=fun j hj=>by simp [List.getD,hj]
 rw [Nat.pow_add,←W_pow] at h
 constructor
 ·rcases Nat.lt_or_ge q Z.length with hq|hq
  ·have:=key q hq
   exact Nat.lt_of_mul_lt_mul_left (a:=18446744073709551616 ^ q) (by omega)
  ·rw [hz q hq];exact Nat.two_pow_pos _
 ·intro j hj
  rcases Nat.lt_or_ge j Z.length with hq|hq
  ·have h1:=key j hq
   rcases Nat.eq_zero_or_pos (Z.getD j 0) with h0|h0
   ·exact h0
   ·have h2:18446744073709551616 ^ (q+1)≤18446744073709551616 ^ j:=Nat.pow_le_pow_right (by omega) hj
    have h3:=Nat.mul_le_mul_left (18446744073709551616 ^ j) h0
    have h4:18446744073709551616 ^ q*2 ^ s≤18446744073709551616 ^ (q+1):=by
     rw [Nat.pow_succ]
     exact Nat.mul_le_mul_left _ (by rw [show (18446744073709551616:Nat)=2 ^ 64 from rfl];exact Nat.pow_le_pow_right (by omega) (by omega))
    omega
  ·exact hz j hq

theorem sv_noughts (Z:List Nat)(o n:Nat)(ho:o+n≤Z.length)(h:∀j,o≤j→Z.getD j 0=0):sv Z o n=0:=by
 induction n with
 | zero=>exact au Z o
 | succ n ih=>rw [bW Z o n (by omega),ih (by omega),h (o+n) (by omega)];simp

end Lm

theorem rjoin_any (va vb:Value)(X Y:List Nat)(n:Nat)(w:World)(hA:Arg w va X)(hB:Arg w vb Y)(hx:X.length≤17592186044416)(hn:n≤1125899906840000)(hy:val Y<2 ^ n)(ht:tr Y=Y) :
  Calls Tryz.prog 52 #[va,.int .i64 n,vb] w (aw w (val Y+2 ^ n*val X)):=by
 obtain⟨a1,c1,rfl,T1,A1⟩:=hA.rtrim
 obtain⟨a2,c2,rfl,_,_,L2⟩:=hB.form
 have f1:=A1.few
 have g1:=tr_length_le X
 have HT1:=T1 w (Below.refl _ _)
 obtain⟨q,s,hs,hnq⟩:∃q s,s<64∧n=q*64+s:=⟨n / 64,n % 64,by omega,by omega⟩
 have eq1:(n:Int) / 64=(q:Int):=by omega
 have eq2:(n:Int) % 64=(s:Int):=by omega
 have HN:Hid (n=q*64+s):=hnq
 have hq:q≤17592186044376:=by omega
 have hYl:Y.length≤q+1:=by
  rw [←ht]
  refine ay Y _ (Nat.lt_of_lt_of_le hy ?_)
  rw [W_pow]
  exact Nat.pow_le_pow_right (by omega) (by omega)
 rw [←val_tr X]
 clear T1 hA hnq
 generalize tr X=P at *
 obtain⟨i0,hi,hz0,hz1,hz2⟩:=info_parts Tryz.infoU
 obtain⟨m,hm⟩:∃m,q+P.length=m:=⟨_,rfl⟩
 obtain⟨H,hH⟩:∃H,m+1=H:=⟨_,rfl⟩
 have em:(q:Int)+(P.length:Int)=(m:Int):=by omega
 have eH:(m:Int)+1=(H:Int):=by omega
 have hHs:H≤35184372088831:=by omega
 have hcp:=True.intro
 go_enter Tryz.func52,Tryz.ntmps52
 go_wp2_with fail
 refine HT1.mono ?_
 rintro e wn ⟨rfl,hw⟩;rw [hw];clear hw wn HT1 hcp
 go_wp2_with (at_make;refine wpList_make_full _ rfl _ _ 23 rfl w.heap.size 33 i0 (.int .u64 0) 1 Tryz.underlying23 hi hz0 hz1 .i64 .i64 _ _ H rfl rfl (by omega) (by omega) (by rw [hz2];omega) (by unfold maxLen;omega) (Nat.le_refl _) ?_;intro w1 hown hgrow;obtain⟨w2,M2,hcp,B2,L2',F2,O2,S2⟩:=aH w.heap.size 0 H H (List.replicate H 0) a2 c2 Y w1 (Blk.made hown) (limbs_replicate _) hB.limbs (aI H 0 H) (by simp) (by omega) (L2.below ((Below.refl w.heap.size w).grown hgrow (Nat.le_refl _) (fun k hk=>by cases hk))))
 have hb1:Below w.heap.size w w1:=(Below.refl w.heap.size w).grown hgrow (Nat.le_refl _) (fun k hk=>by cases hk)
 have hb2:Below w.heap.size w w2:=hb1.trans (F2.below (Nat.le_refl _) hb1.size)
 have l2:M2.length=H:=by rw [O2.len,List.length_replicate]
 have s2:val M2=val Y:=by rw [←S2,←l2,aC]
 obtain⟨top1,top2⟩:=low_top (Z:=M2) q s (by rw [s2,←HN.out];exact hy) hs
 have HTOP:=aa (And.intro top1 top2)
 have s3:sv M2 0 (q+0+1)=val Y:=by
  have h1:=ae M2 0 (q+1) (H - (q+1)) (by omega)
  have h2:sv M2 (0+(q+1)) (H - (q+1))=0:=by
   exact sv_noughts M2 _ _ (by omega) fun j _=>top2 _ (by omega)
  rw [h2,show q+1+(H - (q+1))=H by omega,S2] at h1
  show sv M2 0 (q+1)=_
  omega
 have L1:=(A1.below hb2).rlies
 have M1:=A1.limbs
 have hao:0<P.length→∀b off,a1=some ⟨b,off,none⟩→b≠w.heap.size∨off+P.length≤q∨q+P.length+1≤off:=fun h b off e=>by
  subst e
  have:=A1.block h
  exact .inl (by omega)
 have HB2:=aa hb2
 have HBB:=aa B2
 have HLL:=aa L2'
 have HS3:=aa s3
 have ec:(64:Int) - (s:Int)=((64 - s:Nat):Int):=by omega
 clear hown hgrow hi hz0 hz1 hz2 hb1 hb2 F2 O2 S2 s2 s3 top1 top2 hcp L2 A1 hB hy
 go_loopw [29] (fun i wr=>∃(k:Nat) (Z:List Nat),k≤P.length∧i=.int .i64 (k:Int)∧Out M2 Z q (q+k+1)∧Limbs Z∧Blk wr w.heap.size Z∧Fr w.heap.size w2 wr∧Z.getD (q+k) 0<2 ^ s ∧
   sv Z 0 (q+k+1)=val Y+2 ^ n*val (P.take k)) (fun i _=>P.length - (intOf i).toNat)
 case atStart=>exact⟨0,M2,Nat.zero_le _,rfl,Out.refl _ _ _,HLL.out,HBB.out,Fr.refl _ _,HTOP.out.1,by rw [HS3.out];simp [val]⟩
 case round=>
  obtain⟨k,Z,hk,rfl,hout,hlz,hblk,hfr0,htop,hval⟩:=hrel
  have hl:=hout.len
  have HV:=aa hval
  have HB:=aa hblk
  have HF:=aa hfr0
  have HO:=aa hout
  clear hval
  by_cases hkl:k<P.length
  ·rcases L1.fr (hao (by omega)) hfr0 B2 hblk (hout.wider (Nat.le_refl _) (by omega)) with h0|⟨b,off,rfl,hcell⟩
   ·rw [h0] at hkl;simp at hkl
   ·have hck:=hcell k hkl
    obtain⟨p,hp⟩:∃p,q+k=p:=⟨_,rfl⟩
    obtain⟨p1,hp1⟩:∃p1,p+1=p1:=⟨_,rfl⟩
    have ep:(q:Int)+(k:Int)=(p:Int):=by omega
    have ep1:(p:Int)+1=(p1:Int):=by omega
    have j0:(0:Int)≤(p:Int):=by omega
    have j1:(p:Int)<(H:Int):=by omega
    have j2:(0:Int)≤(p1:Int):=by omega
    have j3:(p1:Int)<(H:Int):=by omega
    have hfr:=hblk.free p
    have hco:=hblk.cell p (by omega)
    have hz1:Z.getD p1 0=0:=by
     rw [hout.same p1 (by omega)];exact HTOP.out.2 p1 (by omega)
    have z1:=limb_lt M1 k
    have hst:=join_step Z P q s k n (val Y) (by omega) HN.out (by omega) HV.out
    rw [hp] at htop hst
    have hor:=walk_shl' (P.getD k 0) s (Z.getD p 0) (by omega) htop
    have hor2:=walk_or0 (P.getD k 0) s z1
    have hlt1:=shl_lt (P.getD k 0) s (Z.getD p 0) (by omega) htop
    have hlt2:=shr_lt (P.getD k 0) s (by omega) z1
    have hlt3:P.getD k 0 / 2 ^ (64 - s)<18446744073709551616:=Nat.lt_of_le_of_lt (Nat.div_le_self _ _) z1
    have HB3:=aa (hblk.set p (shl (P.getD k 0) s (Z.getD p 0)))
    have HST:=aa (And.intro hst (And.intro hlt1 (And.intro hlt2 hlt3)))
    obtain⟨t,ht⟩:∃t,64 - s=t:=⟨_,rfl⟩
    rw [ht] at hor2 HST hst hlt2 hlt3
    have htb:t≤64:=by omega
    have hw64:IntKind.i64.wrap (64 - (s:Int))=(t:Int):=by rw [IntKind.wrap_i64];omega
    have hw66:IntKind.i64.wrap (t:Int)=(t:Int):=by rw [IntKind.wrap_i64];omega
    have hw65:(64 - (s:Int))=(t:Int):=by omega
    have hwp:IntKind.i64.wrap ((q:Int)+(k:Int))=(p:Int):=by rw [IntKind.wrap_i64];omega
    have hwp':IntKind.i64.wrap (p:Int)=(p:Int):=by rw [IntKind.wrap_i64];omega
    have hwq:IntKind.i64.wrap ((p:Int)+1)=(p1:Int):=by rw [IntKind.wrap_i64];omega
    have hwq':IntKind.i64.wrap (p1:Int)=(p1:Int):=by rw [IntKind.wrap_i64];omega
    have hp2:q+(k+1)=p1:=by omega
    have hp3:p+2=p1+1:=by omega
    generalize shl (P.getD k 0) s (Z.getD p 0)=lo at *
    generalize P.getD k 0 / 2 ^ t=hi at *
    clear ec ht
    generalize hcy:Z.getD p 0=cy at *
    generalize P.getD k 0=x at *
    clear hcell hblk hfr0 hout HV M1 L1 B2 L2' hst hlt1 hlt2 hlt3
    go_wp2
    go_region_with (fail)
    obtain⟨w3,hw3⟩:∃w3,w3=(wr.setCell ⟨w.heap.size,p,none⟩ (.int .u64 (lo:Int))).drew:=⟨_,rfl⟩
    have B3:Blk w3 w.heap.size (Z.set p lo):=by rw [hw3];exact HB3.out
    have F3:Fr w.heap.size w2 w3:=by rw [hw3];exact (HF.out.setCell _ _).drew
    rw [←hw3]
    have hfr:=B3.free p1
    have hco:=B3.cell p1 (by rw [List.length_set];omega)
    rw [bB,if_neg (by omega),hz1] at hco
    have HB4:=aa (B3.set p1 hi)
    have HF3:=aa F3
    clear B3 F3 hw3 HB HB3 HF
    go_wp2
    go_region_with (fail)
    go_wp2
    go_roundw
    case rel=>
     refine⟨k+1,(Z.set p lo).set p1 hi,by omega,by go_num,?_,limbs_set (limbs_set hlz _ _ HST.out.2.1) _ _ HST.out.2.2.2,HB4.out,(HF3.out.setCell _ _).drew,?_,?_⟩
     ·exact ((HO.out.wider (Nat.le_refl _) (by omega)).set _ _ (by omega) (by omega)).set _ _ (by omega) (by omega)
     ·rw [hp2,bB,if_pos ⟨rfl,by rw [List.length_set];omega⟩];exact HST.out.2.2.1
     ·have h:=HST.out.1
      rw [hp1,hp3] at h
      rw [hp2];exact h
    case measure=>simp [intOf];omega
  ·have ek:k=P.length:=by omega
   subst ek
   have hv:=HV.out
   rw [List.take_length,hm,hH] at hv
   have hlZ:Z.length=H:=by omega
   have HR:=aw.trimmed (w:=w) (x:=val Y+2 ^ n*val P) (Nat.le_refl _) hblk hlz (by omega) (by rw [←hv,←hlZ,aC]) (HB2.out.trans (hfr0.below (Nat.le_refl _) HB2.out.size))
   rw [hlZ] at HR
   clear hblk hfr0 hout L1 B2 M1 L2' HV hv
   go_wp2_with fail
   refine HR.mono ?_
   rintro e w4 ⟨rfl,rfl,hd⟩
   have HD:=aa hd
   go_wp2
   go_returns
   exact HD.out

theorem rup_any (va:Value)(X:List Nat)(n:Nat)(w:World)(hA:Arg w va X)(hx:X.length≤17592186044416)(hn:n≤1125899906840000) :
  Calls Tryz.prog 54 #[va,.int .i64 n] w (aw w (2 ^ n*val X)):=by
 have HJ:=rjoin_any va (.slice none 0 0) X [] n w hA ((Ans.nil w 0).arg (by simp)) hx hn (by simp only [val];exact Nat.two_pow_pos n) rfl
 rw [show val []+2 ^ n*val X=2 ^ n*val X by simp only [val];omega] at HJ
 go_enter Tryz.func54,Tryz.ntmps54
 go_wp2_with fail
 refine HJ.mono ?_
 rintro e w1 hd
 obtain⟨⟨v,rs,rfl,h1,h2,h3⟩,hb⟩:=hd
 have HD:=aa (show aw w (2 ^ n*val X) (.returned v) w1 from ⟨⟨v,rs,rfl,h1,h2,h3⟩,hb⟩)
 clear h1 h2 h3 hb
 go_wp2
 go_returns
 exact HD.out

theorem Ans.put {w:World}{base g cap:Nat}{zs:List Nat}(h:Ans w base (.slice (some ⟨g,0,none⟩) zs.length cap) zs)(j z:Nat)(hz:z<18446744073709551616):Ans (w.setCell ⟨g,j,none⟩ (.int .u64 (z:Int))) base (.slice (some ⟨g,0,none⟩) (zs.set j z).length cap) (zs.set j z):=by
 refine⟨?_,limbs_set h.limbs _ _ hz⟩
 have:=(h.own.stored j (.int .u64 (z:Int))).1
 rw [List.length_set,List.map_set]
 exact this

theorem Ans.sl {w:World}{base:Nat}{v:Value}{zs:List Nat}(h:Ans w base v zs):∃ao cap,v=.slice ao zs.length cap:=by
 rcases h.form with ⟨rfl,rfl⟩|⟨g,cap,rfl,_⟩
 ·exact⟨none,0,rfl⟩
 ·exact⟨_,cap,rfl⟩

theorem Ans.fore {w:World}{base g cap:Nat}{zs:List Nat}(h:Ans w base (.slice (some ⟨g,0,none⟩) zs.length cap) zs)(n:Nat)(hn:n≤zs.length):Ans w base (.slice (some ⟨g,0,none⟩) n cap) (zs.take n):=by
 refine⟨?_,fun z hz=>h.limbs z (List.mem_of_mem_take hz)⟩
 obtain⟨_,h2⟩:=h.own
 have e:(zs.take n).length=n:=by simp;omega
 refine⟨by simp,?_⟩
 rcases h2 with ⟨h1,_⟩|⟨g',cap',cur,hv,hg,hh,hnn,hcm,hs,ht⟩
 ·cases h1
 ·cases hv
  refine .inr ⟨g,cap,cur,by rw [e],hg,hh,by rw [e];omega,hcm,hs,?_⟩
  rw [e]
  have e2:cur.toList.take (n*1)=(cur.toList.take (zs.length*1)).take n:=by
   rw [List.take_take,Nat.mul_one,Nat.mul_one,Nat.min_eq_left hn]
  rw [e2,ht,List.map_take]

theorem Arg.fore {w:World}{a:Option Addr}{cap:Nat}{X:List Nat}(h:Arg w (.slice a X.length cap) X)(m:Nat)(hm:m≤X.length):Arg w (.slice a m cap) (X.take m):=by
 obtain⟨_,_,e,h1,h2,hl⟩:=h.form
 cases e
 have e:(X.take m).length=m:=by simp;omega
 refine⟨⟨a,cap,by rw [e],by omega,h2,?_⟩,fun z hz=>h.limbs z (List.mem_of_mem_take hz),by have:=h.few;omega,fun n c e=>by cases e;exact h.nz _ _ rfl⟩
 rcases hl with h0|⟨b,off,rfl,hc⟩
 ·exact .inl (by rw [h0];simp)
 ·refine .inr ⟨b,off,rfl,fun k hk=>?_⟩
  rw [e] at hk
  rw [hc k (by omega)]
  simp [List.getD,hk]

namespace Lm

theorem take_bits (X:List Nat)(f n L:Nat)(hL:(f+n) / 64+1=L)(k:Nat)(hk:k=min L X.length):val (X.take k) / 2 ^ f % 2 ^ n=val X / 2 ^ f % 2 ^ n:=by
 rcases Nat.lt_or_ge L X.length with h|h
 ·rw [Nat.min_eq_left (by omega)] at hk
  subst hk
  have h1:=val_parts X k (by omega)
  rw [h1,W_pow]
  obtain⟨d,hd⟩:∃d,k*64=f+(n+d):=⟨k*64 - (f+n),by omega⟩
  rw [hd,Nat.pow_add,Nat.pow_add,Nat.mul_assoc,Nat.add_mul_div_left _ _ (Nat.two_pow_pos f),Nat.mul_assoc,Nat.add_mul_mod_self_left]
 ·rw [Nat.min_eq_right h] at hk
  rw [hk,List.take_length]

end Lm

theorem rbits_any (va:Value)(X:List Nat)(f n:Nat)(w:World)(hA:Arg w va X)(hx:X.length≤35184372088831)(hf:f≤1125899906840000)(hn:n≤1125899906840000) :
  Calls Tryz.prog 53 #[va,.int .i64 f,.int .i64 n] w (aw w (val X / 2 ^ f % 2 ^ n)):=by
 obtain⟨q,s,hs,hnq⟩:∃q s,s<64∧n=q*64+s:=⟨n / 64,n % 64,by omega,by omega⟩
 have eq1:(n:Int) / 64=(q:Int):=by omega
 have eq2:(n:Int) % 64=(s:Int):=by omega
 obtain⟨L,hL⟩:∃L,(f+n) / 64+1=L:=⟨_,rfl⟩
 obtain⟨k,hk⟩:∃k,k=min L X.length:=⟨_,rfl⟩
 have hkX:k≤X.length:=by omega
 have hval:=take_bits X f n L hL k hk
 have HRS:Hid (∀(w1:World) (v:Value) (rs:List Nat),Ans w1 w.heap.size v rs→val rs=val (X.take k) / 2 ^ f→tr rs=rs→rs.length≤X.length):=aa fun w1 v rs h1 h2 h3=>by
  rw [←h3]
  refine ay rs _ ?_
  rw [h2]
  refine Nat.lt_of_le_of_lt (Nat.div_le_self _ _) ?_
  have:=val_take_lt hA.limbs k
  exact Nat.lt_of_lt_of_le this (Nat.pow_le_pow_right (by omega) hkX)
 obtain⟨a1,c1,rfl,hc1,hm1,hl1⟩:=hA.form
 have AK:=hA.fore k hkX
 have HVAL:=aa hval
 have HN:=aa hnq
 have hq:q≤17592186044376:=by omega
 have hXf:=hA.few
 have HDN:=cr _ (X.take k) f w AK (by simp;omega) (by omega)
 obtain⟨t,ht⟩:∃t,f+n=t:=⟨_,rfl⟩
 obtain⟨l0,hl0⟩:∃l0,t / 64=l0:=⟨_,rfl⟩
 have e1:(f:Int)+(n:Int)=(t:Int):=by omega
 have e2:(t:Int) / 64=(l0:Int):=by omega
 have e3:(l0:Int)+1=(L:Int):=by omega
 have ht2:t≤2251799813680000:=by omega
 have hl02:l0≤35184372088750:=by omega
 have hL2:L≤35184372088751:=by omega
 have c0:(0:Int)≤(k:Int):=by omega
 have c1':(k:Int)≤(X.length:Int):=by omega
 have c2:(k:Int)≤(c1:Int):=by omega
 clear hval hnq hL AK hl1 hA ht hl0
 go_enter Tryz.func53,Tryz.ntmps53
 obtain⟨xl,hxl⟩:∃xl,X.length=xl:=⟨_,rfl⟩
 rw [hxl] at hk hkX hx hc1 hXf c1' ⊢
 by_cases hmin:L≤xl
 ·have ek:L=k:=by omega
  rw [ek] at e3
  have m1:min (k:Int) (xl:Int)=(k:Int):=by omega
  clear hk ek hmin hL2
  go_wp2_with fail
  refine HDN.mono ?_
  rintro e w1 hd
  obtain⟨⟨v,rs,rfl,h1,h2,h3⟩,hb⟩:=hd
  have hrl:rs.length≤X.length:=HRS.out w1 v rs h1 h2 h3
  by_cases hq2:rs.length≤q
  ·have HD:=aa (show aw w (val X / 2 ^ f % 2 ^ n) (.returned v) w1 from ⟨⟨v,rs,rfl,h1,by
    rw [←HVAL.out,←h2,Nat.mod_eq_of_lt]
    have h4:=val_lt h1.limbs
    have h5:18446744073709551616 ^ rs.length≤2 ^ n:=by rw [W_pow];exact Nat.pow_le_pow_right (by omega) (by have:=HN.out;omega)
    omega,h3⟩,hb⟩)
   obtain⟨ao,cap,rfl⟩:=h1.sl
   have i5:(rs.length:Int)≤(q:Int):=by omega
   clear h1 h2 h3 hb
   go_wp2
   go_returns
   exact HD.out
  ·rcases h1.form with ⟨_,e2⟩|⟨g,cap,rfl,hg,_,hc1,hc2,hfz,hce⟩
   ·rw [e2] at hq2;simp at hq2
   ·have i5:¬(rs.length:Int)≤(q:Int):=by omega
    have hcq:=hce q (by omega)
    have hfq:=hfz q
    have i6:(q:Int)<(rs.length:Int):=by omega
    have i7:(0:Int)≤(q:Int):=by omega
    have z1:=limb_lt h1.limbs q
    have hand:=walk_and (rs.getD q 0) s hs z1
    have hlv:=low_val h1.limbs q s n hs HN.out (by omega)
    have hlt:rs.getD q 0 % 2 ^ s<18446744073709551616:=Nat.lt_of_le_of_lt (Nat.mod_le _ _) z1
    have AF:=(h1.fore (q+1) (by omega))
    have lF:(rs.take (q+1)).length=q+1:=by simp;omega
    have AF2:Ans w1 w.heap.size (.slice (some ⟨g,0,none⟩) (rs.take (q+1)).length cap) (rs.take (q+1)):=by rw [lF];exact AF
    have AP:=AF2.put q _ hlt
    rw [List.length_set,lF] at AP
    have hb2:Below w.heap.size w (w1.setCell ⟨g,q,none⟩ (.int .u64 ((rs.getD q 0 % 2 ^ s:Nat):Int))):=hb.setCell (p:=⟨g,q,none⟩) hg _
    rw [h2,HVAL.out] at hlv
    obtain⟨w2,hw2⟩:∃w2,w2=(w1.setCell ⟨g,q,none⟩ (.int .u64 ((rs.getD q 0 % 2 ^ s:Nat):Int))).drew:=⟨_,rfl⟩
    have AP2:Ans w2 w.heap.size (.slice (some ⟨g,0,none⟩) (q+1) cap) ((rs.take (q+1)).set q (rs.getD q 0 % 2 ^ s)):=by rw [hw2];exact AP.below (Below.refl _ _).drew
    have hb3:Below w.heap.size w w2:=by rw [hw2];exact hb2.drew
    have lG:((rs.take (q+1)).set q (rs.getD q 0 % 2 ^ s)).length=q+1:=by rw [List.length_set];exact lF
    generalize (rs.take (q+1)).set q (rs.getD q 0 % 2 ^ s)=G at *
    have ha2:=AP2.arg (by rw [lG];omega)
    obtain⟨_,_,e0,hT2,_⟩:=ha2.rtrim
    have HTT:=hT2 w2 (Below.refl _ _)
    rw [lG] at e0
    cases e0
    have HD:=aa (show aw w (val X / 2 ^ f % 2 ^ n) (.returned (.slice (some ⟨g,0,none⟩) (tr G).length cap)) w2 from ⟨⟨_,tr G,rfl,Ans.trim (by rw [lG];exact AP2),by rw [val_tr];exact hlv,tr_tr G⟩,hb3⟩)
    obtain⟨q1,hq1⟩:∃q1,q+1=q1:=⟨_,rfl⟩
    rw [hq1] at HTT
    have eq3:(q:Int)+1=(q1:Int):=by omega
    have i8:(q1:Int)≤(cap:Int):=by omega
    have i9:(0:Int)≤(q1:Int):=by omega
    have wq:IntKind.i64.wrap (q:Int)=(q:Int):=by rw [IntKind.wrap_i64];omega
    have ws:IntKind.i64.wrap (s:Int)=(s:Int):=by rw [IntKind.wrap_i64];omega
    have HW2:=aa hw2
    clear hw2
    generalize (tr G).length=gl at *
    generalize rs.getD q 0 % 2 ^ s=y at *
    generalize rs.getD q 0=x at *
    clear h1 h2 h3 hb hce hfz AF AF2 AP AP2 hb2 hb3 hT2 ha2 hlv HVAL HRS HN
    go_wp2
    go_region_with (fail)
    rw [←HW2.out]
    go_wp2_with fail
    refine HTT.mono ?_
    rintro e w4 ⟨rfl,rfl⟩
    go_wp2
    go_returns
    exact HD.out
 ·have ek:xl=k:=by omega
  subst ek
  have m1:min (L:Int) (xl:Int)=(xl:Int):=by omega
  clear hk hmin
  go_wp2_with fail
  refine HDN.mono ?_
  rintro e w1 hd
  obtain⟨⟨v,rs,rfl,h1,h2,h3⟩,hb⟩:=hd
  have hrl:rs.length≤X.length:=HRS.out w1 v rs h1 h2 h3
  by_cases hq2:rs.length≤q
  ·have HD:=aa (show aw w (val X / 2 ^ f % 2 ^ n) (.returned v) w1 from ⟨⟨v,rs,rfl,h1,by
    rw [←HVAL.out,←h2,Nat.mod_eq_of_lt]
    have h4:=val_lt h1.limbs
    have h5:18446744073709551616 ^ rs.length≤2 ^ n:=by rw [W_pow];exact Nat.pow_le_pow_right (by omega) (by have:=HN.out;omega)
    omega,h3⟩,hb⟩)
   obtain⟨ao,cap,rfl⟩:=h1.sl
   have i5:(rs.length:Int)≤(q:Int):=by omega
   clear h1 h2 h3 hb
   go_wp2
   go_returns
   exact HD.out
  ·rcases h1.form with ⟨_,e2⟩|⟨g,cap,rfl,hg,_,hc1,hc2,hfz,hce⟩
   ·rw [e2] at hq2;simp at hq2
   ·have i5:¬(rs.length:Int)≤(q:Int):=by omega
    have hcq:=hce q (by omega)
    have hfq:=hfz q
    have i6:(q:Int)<(rs.length:Int):=by omega
    have i7:(0:Int)≤(q:Int):=by omega
    have z1:=limb_lt h1.limbs q
    have hand:=walk_and (rs.getD q 0) s hs z1
    have hlv:=low_val h1.limbs q s n hs HN.out (by omega)
    have hlt:rs.getD q 0 % 2 ^ s<18446744073709551616:=Nat.lt_of_le_of_lt (Nat.mod_le _ _) z1
    have AF:=(h1.fore (q+1) (by omega))
    have lF:(rs.take (q+1)).length=q+1:=by simp;omega
    have AF2:Ans w1 w.heap.size (.slice (some ⟨g,0,none⟩) (rs.take (q+1)).length cap) (rs.take (q+1)):=by rw [lF];exact AF
    have AP:=AF2.put q _ hlt
    rw [List.length_set,lF] at AP
    have hb2:Below w.heap.size w (w1.setCell ⟨g,q,none⟩ (.int .u64 ((rs.getD q 0 % 2 ^ s:Nat):Int))):=hb.setCell (p:=⟨g,q,none⟩) hg _
    rw [h2,HVAL.out] at hlv
    obtain⟨w2,hw2⟩:∃w2,w2=(w1.setCell ⟨g,q,none⟩ (.int .u64 ((rs.getD q 0 % 2 ^ s:Nat):Int))).drew:=⟨_,rfl⟩
    have AP2:Ans w2 w.heap.size (.slice (some ⟨g,0,none⟩) (q+1) cap) ((rs.take (q+1)).set q (rs.getD q 0 % 2 ^ s)):=by rw [hw2];exact AP.below (Below.refl _ _).drew
    have hb3:Below w.heap.size w w2:=by rw [hw2];exact hb2.drew
    have lG:((rs.take (q+1)).set q (rs.getD q 0 % 2 ^ s)).length=q+1:=by rw [List.length_set];exact lF
    generalize (rs.take (q+1)).set q (rs.getD q 0 % 2 ^ s)=G at *
    have ha2:=AP2.arg (by rw [lG];omega)
    obtain⟨_,_,e0,hT2,_⟩:=ha2.rtrim
    have HTT:=hT2 w2 (Below.refl _ _)
    rw [lG] at e0
    cases e0
    have HD:=aa (show aw w (val X / 2 ^ f % 2 ^ n) (.returned (.slice (some ⟨g,0,none⟩) (tr G).length cap)) w2 from ⟨⟨_,tr G,rfl,Ans.trim (by rw [lG];exact AP2),by rw [val_tr];exact hlv,tr_tr G⟩,hb3⟩)
    obtain⟨q1,hq1⟩:∃q1,q+1=q1:=⟨_,rfl⟩
    rw [hq1] at HTT
    have eq3:(q:Int)+1=(q1:Int):=by omega
    have i8:(q1:Int)≤(cap:Int):=by omega
    have i9:(0:Int)≤(q1:Int):=by omega
    have wq:IntKind.i64.wrap (q:Int)=(q:Int):=by rw [IntKind.wrap_i64];omega
    have ws:IntKind.i64.wrap (s:Int)=(s:Int):=by rw [IntKind.wrap_i64];omega
    have HW2:=aa hw2
    clear hw2
    generalize (tr G).length=gl at *
    generalize rs.getD q 0 % 2 ^ s=y at *
    generalize rs.getD q 0=x at *
    clear h1 h2 h3 hb hce hfz AF AF2 AP AP2 hb2 hb3 hT2 ha2 hlv HVAL HRS HN
    go_wp2
    go_region_with (fail)
    rw [←HW2.out]
    go_wp2_with fail
    refine HTT.mono ?_
    rintro e w4 ⟨rfl,rfl⟩
    go_wp2
    go_returns
    exact HD.out

theorem ranswer_any (v:Value)(base:Nat)(xs:List Nat)(w:World)(h:Ans w base v xs)(hf:xs.length≤1125899906842624)(ht:tr xs=xs) :
  Calls Tryz.prog 45 #[v] w fun e w'=>w'=w∧Res w base e (val xs):=by
 have H2:=az _ _ _ (h.arg hf)
 have HA:=aa (And.intro h ht)
 by_cases hy:blen (val xs)≤67108864
 ·have i1:¬(67108864:Int)<((blen (val xs):Nat):Int):=by omega
  generalize hV:val xs=V at *
  generalize hYY:blen V=y at *
  clear h
  go_enter Tryz.func45,Tryz.ntmps45
  go_wp2_with fail
  refine H2.mono ?_
  rintro e w' ⟨rfl,rfl⟩
  go_wp2
  go_ret2
  exact⟨rfl,_,_,xs,rfl,HA.out.1,.inl ⟨rfl,hV,HA.out.2,by omega⟩⟩
 ·have i1:(67108864:Int)<((blen (val xs):Nat):Int):=by omega
  generalize hV:val xs=V at *
  have hy2:=aa hy
  generalize hYY:blen V=y at *
  clear h
  go_enter Tryz.func45,Tryz.ntmps45
  go_wp2_with fail
  refine H2.mono ?_
  rintro e w' ⟨rfl,rfl⟩
  go_wp2
  go_ret2
  exact⟨rfl,_,_,[],rfl,Ans.nil _ _,.inr ⟨rfl,rfl,by omega⟩⟩

theorem dV:∀(N:Nat) (X Y:List Nat) (va vb:Value) (w:World),X.length+Y.length<N→X.length+Y.length≤35184372088830→Arg w va X→Arg w vb Y→Tab w →
  Calls Tryz.prog 56 #[va,vb] w (aw w (val X*val Y)):=by
 intro N
 induction N with
 | zero=>intro X Y va vb w h;omega
 | succ N ih=>
  intro X Y va vb w hN hfew hA hA2 hT
  obtain⟨a1,c1,rfl,hc1,hm1,hl1⟩:=hA.form
  obtain⟨a2,c2,rfl,hc2,hm2,hl2⟩:=hA2.form
  have T1:=cH a1 c1 X w hc1 hm1 hl1
  have T2:=cH a2 c2 Y w hc2 hm2 hl2
  have A1:=hA.trim
  have A2:=hA2.trim
  have m1:=limbs_tr hA.limbs
  have m2:=limbs_tr hA2.limbs
  have l1:=tr_length_le X
  have l2:=tr_length_le Y
  rw [←val_tr X,←val_tr Y]
  clear hA hA2 hl1 hl2
  generalize tr X=P at *
  generalize tr Y=R at *
  by_cases hsw:P.length<R.length
  ·have hsw2:(P.length:Int)<(R.length:Int):=by omega
   rw [Nat.mul_comm]
   have AL:=A2
   have AS:=A1
   have mL:=m2
   have mS:=m1
   have hfit:=aS R P mL mS
   by_cases hsm:R.length+P.length≤1048576
   ·have HM:=bO _ _ R P w AL AS hT (by omega)
    have hbl:blen (val R*val P)≤67108864:=by
     have:blen (val R*val P)≤64*(R.length+P.length):=(blen_le_iff _ _).2 (by rw [Nat.pow_mul];exact hfit)
     omega
    have hsm2:(R.length:Int)+(P.length:Int)≤1048576:=by omega
    clear AL AS hT hfit
    go_enter Tryz.func56,Tryz.ntmps56
    go_wp2_with fail
    refine T1.mono ?_
    rintro e wn ⟨rfl,hw⟩;rw [hw];clear hw wn
    go_wp2_with fail
    refine T2.mono ?_
    rintro e wn ⟨rfl,hw⟩;rw [hw];clear hw wn
    clear T1 T2
    go_wp2_with fail
    refine HM.mono ?_
    rintro e w2 ⟨hb,v,c,rs,rfl,hans,hres⟩
    have HX:Hid (aw w (val R*val P) (.returned v) w2):=by
     rcases hres with ⟨_,hv,ht,_⟩|⟨_,_,hbig⟩
     ·exact⟨⟨v,rs,rfl,hans,hv,ht⟩,hb⟩
     ·omega
    clear hb hans hres HM
    go_wp2
    go_ret
    exact HX.out
   ·obtain⟨half,eh,hh1,hh2⟩:∃half:Nat,(R.length:Int) / 2=(half:Int)∧2*half≤R.length∧R.length≤2*half+1:=⟨R.length / 2,by omega,by omega,by omega⟩
    have hord:P.length≤R.length:=by omega
    obtain⟨K0,eK,hK01,hK02⟩:∃K:Nat,(R.length:Int)+(P.length:Int)=(K:Int)∧K≤R.length+P.length∧R.length+P.length≤K:=⟨_,rfl,Nat.le_refl _,Nat.le_refl _⟩
    have hsm2:¬((K0:Int)≤1048576):=by omega
    obtain⟨K,eK1,hK1,hK2⟩:∃K:Nat,(K0:Int)+1=(K:Int)∧K≤R.length+P.length+1∧R.length+P.length+1≤K:=⟨K0+1,by omega,by omega,by omega⟩
    have hKb:K≤35184372088831:=by omega
    have HFIT:=aa hfit
    have HT:=aa hT
    have HAL:=aa AL
    have HAS:=aa AS
    have HMS:=aa (And.intro mL mS)
    obtain⟨bL,oL,rfl⟩:∃b off,a2=some ⟨b,off,none⟩:=by
     obtain⟨_,_,e,_,_,hl⟩:=AL.form
     cases e
     rcases hl with h0|⟨b,off,e,_⟩
     ·have hz:R.length=0:=by rw [h0];rfl
      omega
     ·exact⟨b,off,e⟩
    obtain⟨i0,hi,hz0,hz1,hz2⟩:=info_parts Tryz.infoU
    clear AL AS hT hfit A1 A2 mL mS m1 m2
    go_enter Tryz.func56,Tryz.ntmps56
    go_wp2_with fail
    refine T1.mono ?_
    rintro e wn ⟨rfl,hw⟩;rw [hw];clear hw wn
    go_wp2_with fail
    refine T2.mono ?_
    rintro e wn ⟨rfl,hw⟩;rw [hw];clear hw wn
    clear T1 T2
    go_wp2_with (at_make;refine wpList_make_full _ rfl _ _ 23 rfl w.heap.size 33 i0 (.int .u64 0) 1 Tryz.underlying23 hi hz0 hz1 .i64 .i64 _ _ K rfl rfl (by omega) (by omega) (by rw [hz2];omega) (by unfold maxLen;omega) (Nat.le_refl _) ?_;intro w1 hown hgrow)
    have hb1:=Blk.made hown
    have hbel:Below w.heap.size w w1:=(Below.refl _ _).grown hgrow (Nat.le_refl _) (fun k hk=>by cases hk)
    have HB1:=aa hb1
    have HBE:=aa hbel
    clear hown hgrow hi hz0 hz1 hz2 hb1 hbel
    have lt1:(R.take half).length=half:=by simp;omega
    have ld1:(R.drop half).length=R.length - half:=by simp
    have IH1:=ih (R.take half) P _ _ w1 (by omega) (by omega) ((HAL.out.below HBE.out).front half (by omega)) (HAS.out.below HBE.out) (HT.out.below HBE.out)
    go_wp2_with fail
    refine IH1.mono ?_
    rintro e w2 ⟨⟨v1,rs1,rfl,An1,e1,t1⟩,hb2⟩
    have mT:=(HAL.out.front half (by omega)).limbs
    have mD:=(HAL.out.drop half (by omega)).limbs
    have f1:=aS (R.take half) P mT HMS.out.2
    have f2:=aS (R.drop half) P mD HMS.out.2
    have r1:=ay rs1 (half+P.length) (by rw [e1];rw [lt1] at f1;exact f1)
    rw [t1] at r1
    have A1':=An1.arg (by omega)
    obtain⟨ao,co,rfl,_,_,hlo⟩:=A1'.form
    have B2:=HB1.out.below hb2 HB1.out.lt
    obtain⟨w3,M1,hcp,B3,L3,F3,O3,S3⟩:=aH w.heap.size 0 K K (List.replicate K 0) ao co rs1 w2 B2 (limbs_replicate _) An1.limbs (aI K 0 K) (by simp) (by omega) hlo
    have HB3:Hid (Below w.heap.size w w3):=(HBE.out.trans (hb2.mono HBE.out.size)).trans (F3.below (Nat.le_refl _) (by have:=HBE.out.size;have:=hb2.size;omega))
    have IH2:=ih (R.drop half) P _ _ w3.drew (by omega) (by omega) ((HAL.out.below HB3.out).drop half (by omega)).drew (HAS.out.below HB3.out).drew (HT.out.below HB3.out.drew)
    have hch:¬K=half:=by omega
    have hcl:¬c2=half:=by omega
    have lM:M1.length=K:=by rw [O3.len];simp
    have HM1:=aa (And.intro L3 (And.intro S3 lM))
    have HE1:=aa e1
    have HBK:=aa B3
    have k1:(0:Int)≤(half:Int):=by omega
    have k2:(half:Int)≤(K:Int):=by omega
    have k3:(half:Int)≤(R.length:Int):=by omega
    have k4:(half:Int)≤(c2:Int):=by omega
    clear IH1 An1 hb2 A1' hlo B2 B3 L3 F3 O3 S3 lM e1 t1 mT mD f1 hN hfew
    go_wp2
    have HF2:Hid (sv M1 half (K - half)+val (R.drop half)*val P<18446744073709551616 ^ (K - half)):=by
     refine aa ?_
     obtain⟨d,hd⟩:∃d,K=half+(d+1):=⟨K - half - 1,by omega⟩
     have s0:=ae M1 0 half (d+1) (by rw [HM1.out.2.2];omega)
     have s3:=HM1.out.2.1
     have s4:=aT R half (by omega)
     have s6:K - half=d+1:=by omega
     have s7:=HFIT.out
     have s8:R.length+P.length=half+d:=by omega
     rw [hd] at s3
     rw [s8,Nat.pow_add] at s7
     rw [Nat.zero_add] at s0
     rw [HE1.out] at s3
     rw [s4,Nat.add_mul,Nat.mul_assoc] at s7
     rw [s0] at s3
     rw [s6,Nat.pow_succ]
     generalize val (R.take half)*val P=a at *
     generalize val (R.drop half)*val P=b at *
     generalize sv M1 0 half=x at *
     generalize sv M1 half (d+1)=y at *
     have hWp:=W_pos half
     generalize (18446744073709551616:Nat) ^ half=W at *
     generalize (18446744073709551616:Nat) ^ d=V at *
     have t1:W*(y+b)<W*V:=by rw [Nat.mul_add];omega
     have t2:=Nat.lt_of_mul_lt_mul_left t1
     omega
    have HPP:=aa (fun (w4:World) (v2:Value) (rs2:List Nat) (An2:Ans w4 w3.drew.heap.size v2 rs2) (t2:tr rs2=rs2) (e2:val rs2=val (R.drop half)*val P) (hb4:Below w3.drew.heap.size w3.drew w4)=>
     show Calls Tryz.prog 75 #[.slice (some ⟨w.heap.size,half,none⟩) (K - half) (K - half),v2] w4 (af w.heap.size half (K - half) M1 w4 (sv M1 half (K - half)+val rs2)) by
      have r2:=ay rs2 (R.length - half+P.length) (by rw [e2];rw [ld1] at f2;exact f2)
      rw [t2] at r2
      have hlt4:w.heap.size<w3.drew.heap.size:=HBK.out.lt
      exact cY w.heap.size half (K - half) (K - half) M1 v2 rs2 w4 (HBK.out.below (aO hb4) HBK.out.lt) HM1.out.1 (An2.arg (by omega)) (fun _ b off n c e=>by subst e;exact .inl (fun h=>by have:=(An2.own.lt b rfl).1;omega)) (by rw [HM1.out.2.2];omega) (Nat.le_refl _) (by omega) (by omega) (by rw [e2];exact HF2.out))
    go_region_held3 (fun _=>True) (trivial) (first
     | (go_at_call 56;refine IH2.mono ?_;rintro e w4 ⟨⟨v2,rs2,rfl,An2,e2,t2⟩,hb4⟩)
     | (go_at_call 75;refine (HPP.out _ _ _ An2 t2 e2 hb4).mono ?_;rintro e w5 ⟨rfl,M2,O5,L5,B5,F5,S5⟩))
    have l5:M2.length=K:=by rw [O5.len,HM1.out.2.2]
    have HTR:=cH (some ⟨w.heap.size,0,none⟩) K M2 w5 (by omega) (by omega) (.inr ⟨_,0,rfl,fun j hj=>by rw [Nat.zero_add];exact B5.cell j hj⟩)
    rw [l5] at HTR
    have HVAL:Hid (val M2=val R*val P):=by
     refine aa ?_
     obtain⟨d,hd⟩:∃d,K=half+d:=⟨K - half,by omega⟩
     have s0:=ae M1 0 half d (by rw [HM1.out.2.2];omega)
     have s1:=ae M2 0 half d (by omega)
     have s2:=O5.sv 0 half (by omega)
     have s3:=HM1.out.2.1
     have s4:=aT R half (by omega)
     have s5:sv M2 0 (half+d)=val M2:=by rw [←hd,←l5,aC]
     have s6:K - half=d:=by omega
     rw [s6] at S5
     rw [hd] at s3
     rw [Nat.zero_add] at s0 s1
     rw [HE1.out] at s3
     rw [e2] at S5
     rw [s4,Nat.add_mul,Nat.mul_assoc]
     rw [←s5,s1,s2,S5,Nat.mul_add]
     rw [s0] at s3
     omega
    have HEND:Hid (aw w (val R*val P) (.returned (.slice (some ⟨w.heap.size,0,none⟩) (tr M2).length K)) w5):=by
     have hb5:Below w.heap.size w w4:=HB3.out.trans ((aO hb4).mono HB3.out.size)
     have AM:=(Ans.of_blk (base:=w.heap.size) (zs:=M2) (Nat.le_refl _) B5 List.take_length.symm (Nat.le_refl _) (by omega) L5).trim
     rw [l5] at AM
     exact⟨⟨_,tr M2,rfl,AM,by rw [val_tr];exact HVAL.out,tr_tr _⟩,hb5.trans (F5.below (Nat.le_refl _) hb5.size)⟩
    clear An2 t2 e2 hb4 O5 L5 B5 F5 S5 HVAL HPP IH2 hcp
    go_wp2_with fail
    refine HTR.mono ?_
    rintro e w6 ⟨rfl,hw⟩;subst hw
    clear HTR
    go_wp2
    go_ret
    exact HEND.out
  ·have hsw2:¬((P.length:Int)<(R.length:Int)):=by omega
   have AL:=A1
   have AS:=A2
   have mL:=m1
   have mS:=m2
   have hfit:=aS P R mL mS
   by_cases hsm:P.length+R.length≤1048576
   ·have HM:=bO _ _ P R w AL AS hT (by omega)
    have hbl:blen (val P*val R)≤67108864:=by
     have:blen (val P*val R)≤64*(P.length+R.length):=(blen_le_iff _ _).2 (by rw [Nat.pow_mul];exact hfit)
     omega
    have hsm2:(P.length:Int)+(R.length:Int)≤1048576:=by omega
    clear AL AS hT hfit
    go_enter Tryz.func56,Tryz.ntmps56
    go_wp2_with fail
    refine T1.mono ?_
    rintro e wn ⟨rfl,hw⟩;rw [hw];clear hw wn
    go_wp2_with fail
    refine T2.mono ?_
    rintro e wn ⟨rfl,hw⟩;rw [hw];clear hw wn
    clear T1 T2
    go_wp2_with fail
    refine HM.mono ?_
    rintro e w2 ⟨hb,v,c,rs,rfl,hans,hres⟩
    have HX:Hid (aw w (val P*val R) (.returned v) w2):=by
     rcases hres with ⟨_,hv,ht,_⟩|⟨_,_,hbig⟩
     ·exact⟨⟨v,rs,rfl,hans,hv,ht⟩,hb⟩
     ·omega
    clear hb hans hres HM
    go_wp2
    go_ret
    exact HX.out
   ·obtain⟨half,eh,hh1,hh2⟩:∃half:Nat,(P.length:Int) / 2=(half:Int)∧2*half≤P.length∧P.length≤2*half+1:=⟨P.length / 2,by omega,by omega,by omega⟩
    have hord:R.length≤P.length:=by omega
    obtain⟨K0,eK,hK01,hK02⟩:∃K:Nat,(P.length:Int)+(R.length:Int)=(K:Int)∧K≤P.length+R.length∧P.length+R.length≤K:=⟨_,rfl,Nat.le_refl _,Nat.le_refl _⟩
    have hsm2:¬((K0:Int)≤1048576):=by omega
    obtain⟨K,eK1,hK1,hK2⟩:∃K:Nat,(K0:Int)+1=(K:Int)∧K≤P.length+R.length+1∧P.length+R.length+1≤K:=⟨K0+1,by omega,by omega,by omega⟩
    have hKb:K≤35184372088831:=by omega
    have HFIT:=aa hfit
    have HT:=aa hT
    have HAL:=aa AL
    have HAS:=aa AS
    have HMS:=aa (And.intro mL mS)
    obtain⟨bL,oL,rfl⟩:∃b off,a1=some ⟨b,off,none⟩:=by
     obtain⟨_,_,e,_,_,hl⟩:=AL.form
     cases e
     rcases hl with h0|⟨b,off,e,_⟩
     ·have hz:P.length=0:=by rw [h0];rfl
      omega
     ·exact⟨b,off,e⟩
    obtain⟨i0,hi,hz0,hz1,hz2⟩:=info_parts Tryz.infoU
    clear AL AS hT hfit A1 A2 mL mS m1 m2
    go_enter Tryz.func56,Tryz.ntmps56
    go_wp2_with fail
    refine T1.mono ?_
    rintro e wn ⟨rfl,hw⟩;rw [hw];clear hw wn
    go_wp2_with fail
    refine T2.mono ?_
    rintro e wn ⟨rfl,hw⟩;rw [hw];clear hw wn
    clear T1 T2
    go_wp2_with (at_make;refine wpList_make_full _ rfl _ _ 23 rfl w.heap.size 33 i0 (.int .u64 0) 1 Tryz.underlying23 hi hz0 hz1 .i64 .i64 _ _ K rfl rfl (by omega) (by omega) (by rw [hz2];omega) (by unfold maxLen;omega) (Nat.le_refl _) ?_;intro w1 hown hgrow)
    have hb1:=Blk.made hown
    have hbel:Below w.heap.size w w1:=(Below.refl _ _).grown hgrow (Nat.le_refl _) (fun k hk=>by cases hk)
    have HB1:=aa hb1
    have HBE:=aa hbel
    clear hown hgrow hi hz0 hz1 hz2 hb1 hbel
    have lt1:(P.take half).length=half:=by simp;omega
    have ld1:(P.drop half).length=P.length - half:=by simp
    have IH1:=ih (P.take half) R _ _ w1 (by omega) (by omega) ((HAL.out.below HBE.out).front half (by omega)) (HAS.out.below HBE.out) (HT.out.below HBE.out)
    go_wp2_with fail
    refine IH1.mono ?_
    rintro e w2 ⟨⟨v1,rs1,rfl,An1,e1,t1⟩,hb2⟩
    have mT:=(HAL.out.front half (by omega)).limbs
    have mD:=(HAL.out.drop half (by omega)).limbs
    have f1:=aS (P.take half) R mT HMS.out.2
    have f2:=aS (P.drop half) R mD HMS.out.2
    have r1:=ay rs1 (half+R.length) (by rw [e1];rw [lt1] at f1;exact f1)
    rw [t1] at r1
    have A1':=An1.arg (by omega)
    obtain⟨ao,co,rfl,_,_,hlo⟩:=A1'.form
    have B2:=HB1.out.below hb2 HB1.out.lt
    obtain⟨w3,M1,hcp,B3,L3,F3,O3,S3⟩:=aH w.heap.size 0 K K (List.replicate K 0) ao co rs1 w2 B2 (limbs_replicate _) An1.limbs (aI K 0 K) (by simp) (by omega) hlo
    have HB3:Hid (Below w.heap.size w w3):=(HBE.out.trans (hb2.mono HBE.out.size)).trans (F3.below (Nat.le_refl _) (by have:=HBE.out.size;have:=hb2.size;omega))
    have IH2:=ih (P.drop half) R _ _ w3.drew (by omega) (by omega) ((HAL.out.below HB3.out).drop half (by omega)).drew (HAS.out.below HB3.out).drew (HT.out.below HB3.out.drew)
    have hch:¬K=half:=by omega
    have hcl:¬c1=half:=by omega
    have lM:M1.length=K:=by rw [O3.len];simp
    have HM1:=aa (And.intro L3 (And.intro S3 lM))
    have HE1:=aa e1
    have HBK:=aa B3
    have k1:(0:Int)≤(half:Int):=by omega
    have k2:(half:Int)≤(K:Int):=by omega
    have k3:(half:Int)≤(P.length:Int):=by omega
    have k4:(half:Int)≤(c1:Int):=by omega
    clear IH1 An1 hb2 A1' hlo B2 B3 L3 F3 O3 S3 lM e1 t1 mT mD f1 hN hfew
    go_wp2
    have HF2:Hid (sv M1 half (K - half)+val (P.drop half)*val R<18446744073709551616 ^ (K - half)):=by
     refine aa ?_
     obtain⟨d,hd⟩:∃d,K=half+(d+1):=⟨K - half - 1,by omega⟩
     have s0:=ae M1 0 half (d+1) (by rw [HM1.out.2.2];omega)
     have s3:=HM1.out.2.1
     have s4:=aT P half (by omega)
     have s6:K - half=d+1:=by omega
     have s7:=HFIT.out
     have s8:P.length+R.length=half+d:=by omega
     rw [hd] at s3
     rw [s8,Nat.pow_add] at s7
     rw [Nat.zero_add] at s0
     rw [HE1.out] at s3
     rw [s4,Nat.add_mul,Nat.mul_assoc] at s7
     rw [s0] at s3
     rw [s6,Nat.pow_succ]
     generalize val (P.take half)*val R=a at *
     generalize val (P.drop half)*val R=b at *
     generalize sv M1 0 half=x at *
     generalize sv M1 half (d+1)=y at *
     have hWp:=W_pos half
     generalize (18446744073709551616:Nat) ^ half=W at *
     generalize (18446744073709551616:Nat) ^ d=V at *
     have t1:W*(y+b)<W*V:=by rw [Nat.mul_add];omega
     have t2:=Nat.lt_of_mul_lt_mul_left t1
     omega
    have HPP:=aa (fun (w4:World) (v2:Value) (rs2:List Nat) (An2:Ans w4 w3.drew.heap.size v2 rs2) (t2:tr rs2=rs2) (e2:val rs2=val (P.drop half)*val R) (hb4:Below w3.drew.heap.size w3.drew w4)=>
     show Calls Tryz.prog 75 #[.slice (some ⟨w.heap.size,half,none⟩) (K - half) (K - half),v2] w4 (af w.heap.size half (K - half) M1 w4 (sv M1 half (K - half)+val rs2)) by
      have r2:=ay rs2 (P.length - half+R.length) (by rw [e2];rw [ld1] at f2;exact f2)
      rw [t2] at r2
      have hlt4:w.heap.size<w3.drew.heap.size:=HBK.out.lt
      exact cY w.heap.size half (K - half) (K - half) M1 v2 rs2 w4 (HBK.out.below (aO hb4) HBK.out.lt) HM1.out.1 (An2.arg (by omega)) (fun _ b off n c e=>by subst e;exact .inl (fun h=>by have:=(An2.own.lt b rfl).1;omega)) (by rw [HM1.out.2.2];omega) (Nat.le_refl _) (by omega) (by omega) (by rw [e2];exact HF2.out))
    go_region_held3 (fun _=>True) (trivial) (first
     | (go_at_call 56;refine IH2.mono ?_;rintro e w4 ⟨⟨v2,rs2,rfl,An2,e2,t2⟩,hb4⟩)
     | (go_at_call 75;refine (HPP.out _ _ _ An2 t2 e2 hb4).mono ?_;rintro e w5 ⟨rfl,M2,O5,L5,B5,F5,S5⟩))
    have l5:M2.length=K:=by rw [O5.len,HM1.out.2.2]
    have HTR:=cH (some ⟨w.heap.size,0,none⟩) K M2 w5 (by omega) (by omega) (.inr ⟨_,0,rfl,fun j hj=>by rw [Nat.zero_add];exact B5.cell j hj⟩)
    rw [l5] at HTR
    have HVAL:Hid (val M2=val P*val R):=by
     refine aa ?_
     obtain⟨d,hd⟩:∃d,K=half+d:=⟨K - half,by omega⟩
     have s0:=ae M1 0 half d (by rw [HM1.out.2.2];omega)
     have s1:=ae M2 0 half d (by omega)
     have s2:=O5.sv 0 half (by omega)
     have s3:=HM1.out.2.1
     have s4:=aT P half (by omega)
     have s5:sv M2 0 (half+d)=val M2:=by rw [←hd,←l5,aC]
     have s6:K - half=d:=by omega
     rw [s6] at S5
     rw [hd] at s3
     rw [Nat.zero_add] at s0 s1
     rw [HE1.out] at s3
     rw [e2] at S5
     rw [s4,Nat.add_mul,Nat.mul_assoc]
     rw [←s5,s1,s2,S5,Nat.mul_add]
     rw [s0] at s3
     omega
    have HEND:Hid (aw w (val P*val R) (.returned (.slice (some ⟨w.heap.size,0,none⟩) (tr M2).length K)) w5):=by
     have hb5:Below w.heap.size w w4:=HB3.out.trans ((aO hb4).mono HB3.out.size)
     have AM:=(Ans.of_blk (base:=w.heap.size) (zs:=M2) (Nat.le_refl _) B5 List.take_length.symm (Nat.le_refl _) (by omega) L5).trim
     rw [l5] at AM
     exact⟨⟨_,tr M2,rfl,AM,by rw [val_tr];exact HVAL.out,tr_tr _⟩,hb5.trans (F5.below (Nat.le_refl _) hb5.size)⟩
    clear An2 t2 e2 hb4 O5 L5 B5 F5 S5 HVAL HPP IH2 hcp
    go_wp2_with fail
    refine HTR.mono ?_
    rintro e w6 ⟨rfl,hw⟩;subst hw
    clear HTR
    go_wp2
    go_ret
    exact HEND.out

theorem gm (va vb:Value)(X Y:List Nat)(w:World)(hA:Arg w va X)(hA2:Arg w vb Y)(hT:Tab w)(hf1:X.length≤17592186044416)(hf2:Y.length≤17592186044416)(hY:val Y≠0) :
  Calls Tryz.prog 74 #[va,vb] w fun e w'=>Below w.heap.size w w'∧Res w' w.heap.size e (val X / val Y):=by
 have HR:=fl va vb X Y w hA hA2
 have HDV:=eo vb Y w hA2 hT hY (by omega)
 have HA:=aa hA
 have HT:=aa hT
 obtain⟨a1,c1,rfl,_,_,_⟩:=hA.form
 obtain⟨a2,c2,rfl,_,_,_⟩:=hA2.form
 have hr:bp (val X) (val Y)=if 67108864+blen (val Y)<blen (val X) then 3 else 0:=by unfold bp;rw [if_neg hY]
 rw [hr] at HR
 have HY:=aa (show 0<val Y by omega)
 clear hA hA2 hT hr hY
 by_cases hb:67108864+blen (val Y)<blen (val X)
 ·rw [if_pos hb] at HR
  have HX:Hid (67108864<blen (val X / val Y)):=aa (fK HY.out hb)
  clear HDV hb
  go_enter Tryz.func74,Tryz.ntmps74
  go_wp2_with fail
  refine HR.mono ?_
  rintro e wn ⟨rfl,hw⟩;subst hw
  clear HR
  go_wp2
  go_returns
  exact⟨Below.refl _ _,_,_,[],rfl,Ans.nil _ _,.inr ⟨rfl,rfl,HX.out⟩⟩
 ·rw [if_neg hb] at HR
  clear hb
  go_enter Tryz.func74,Tryz.ntmps74
  go_wp2_with fail
  refine HR.mono ?_
  rintro e wn ⟨rfl,hw⟩;rw [hw];clear hw wn
  go_wp2_with fail
  refine HDV.mono ?_
  rintro e w1 ⟨⟨vd,rfl,hd⟩,hb1⟩
  have H1:=fp _ vd X _ _ _ w1 (HA.out.below hb1) hd (HT.out.below hb1) hf1
  have HB1:=aa hb1
  clear hd hb1 HDV HR
  go_wp2_with fail
  refine H1.mono ?_
  rintro e w2 ⟨⟨vq,vr,qs,rs,mid,rfl,A1,hmid,hq,A2,e1,e2,l1,l2,_⟩,hb2⟩
  have HQ:=eX vq w1.heap.size qs w2 A1 (by omega)
  have HB2:=aa (HB1.out.trans (hb2.mono HB1.out.size))
  rw [e1] at HQ
  clear A1 A2 hmid hq e1 e2 l1 l2 hb2 H1
  go_wp2_with fail
  refine HQ.mono ?_
  rintro e w3 ⟨hw,v1,c1,r1,rfl,An1,hres⟩;subst hw
  have H1:=aa (And.intro An1 hres)
  clear HQ An1 hres
  go_wp2
  go_returns
  exact⟨HB2.out,v1,_,r1,rfl,H1.out.1.base HB1.out.size,H1.out.2⟩

def NumDone2 (w:World)(x y:Nat)(e:Ending)(w':World):Prop:=
 (∃v1 v2 r1 r2,e=.returned (.tuple #[v1,v2])∧Ans w' w.heap.size v1 r1∧Ans w' w.heap.size v2 r2∧val r1=x∧tr r1=r1∧val r2=y∧tr r2=r2)∧Below w.heap.size w w'

namespace Lm

theorem both_parts (x y k:Nat)(hy:0<y) :
  x / y=((x / 2 ^ k) % y*2 ^ k+x % 2 ^ k) / y+2 ^ k*((x / 2 ^ k) / y)∧x % y=((x / 2 ^ k) % y*2 ^ k+x % 2 ^ k) % y∧((x / 2 ^ k) % y*2 ^ k+x % 2 ^ k) / y<2 ^ k:=by
 have h1:=Nat.div_add_mod x (2 ^ k)
 have h2:=Nat.div_add_mod (x / 2 ^ k) y
 have h3:=Nat.mod_lt (x / 2 ^ k) hy
 have h4:x % 2 ^ k<2 ^ k:=Nat.mod_lt x (Nat.two_pow_pos k)
 generalize x / 2 ^ k=H at *
 generalize x % 2 ^ k=l at *
 generalize H / y=q at *
 generalize H % y=r at *
 generalize 2 ^ k=K at *
 have e:x=(r*K+l)+y*(K*q):=by
  rw [←h1,←h2];grind
 refine⟨?_,?_,?_⟩
 ·rw [e,Nat.add_mul_div_left _ _ hy]
 ·rw [e,Nat.add_mul_mod_self_left]
 ·rw [Nat.div_lt_iff_lt_mul hy]
  have h5:=Nat.mul_le_mul_right K (Nat.succ_le_of_lt h3)
  rw [Nat.succ_mul,Nat.mul_comm y] at h5
  omega

theorem blen_quo {x y:Nat}(hy:0<y)(n:Nat)(h:blen x≤n+blen y):blen (x / y)≤n+1:=by
 rw [blen_le_iff,Nat.div_lt_iff_lt_mul hy]
 have h1:x<2 ^ (n+blen y):=Nat.lt_of_lt_of_le ((blen_le_iff x _).1 (Nat.le_refl _)) (Nat.pow_le_pow_right (by omega) h)
 have h2:2 ^ (blen y - 1)≤y:=by
  refine Nat.le_of_not_lt fun hlt=>?_
  have h3:=(blen_le_iff y _).2 hlt
  have h4:0<blen y:=by
   rcases Nat.eq_zero_or_pos (blen y) with h0|h0
   ·have:=(blen_le_iff y 0).1 (by omega)
    omega
   ·exact h0
  omega
 have h4:0<blen y:=by
  rcases Nat.eq_zero_or_pos (blen y) with h0|h0
  ·have:=(blen_le_iff y 0).1 (by omega)
   omega
  ·exact h0
 have h5:2 ^ (n+blen y)=2 ^ (n+1)*2 ^ (blen y - 1):=by rw [←Nat.pow_add];congr 1;omega
 rw [h5] at h1
 exact Nat.lt_of_lt_of_le h1 (Nat.mul_le_mul_left _ h2)

end Lm

theorem rboth_near (va vb:Value)(X Y:List Nat)(w:World)(hA:Arg w va X)(hB:Arg w vb Y)(hT:Tab w)(hx:X.length≤17592186044000)(hy:Y.length≤17592186044000)(hy0:0<val Y)(hn:blen (val X)<67108864+blen (val Y)) :
  Calls Tryz.prog 51 #[va,vb] w (NumDone2 w (val X / val Y) (val X % val Y)):=by
 have hq:=blen_quo (x:=val X) hy0 67108863 (by omega)
 have L1:=az _ _ w hA
 have L2:=az _ _ w hB
 have hbx:blen (val X)≤X.length*64:=(blen_le_iff _ _).2 (by have:=val_lt hA.limbs;rw [W_pow] at this;exact this)
 have hby:blen (val Y)≤Y.length*64:=(blen_le_iff _ _).2 (by have:=val_lt hB.limbs;rw [W_pow] at this;exact this)
 obtain⟨d,hd⟩:∃d:Int,((blen (val X):Nat):Int) - ((blen (val Y):Nat):Int)=d:=⟨_,rfl⟩
 have i1:¬(67108864:Int)≤d:=by omega
 have wd:IntKind.i64.wrap d=d:=by rw [IntKind.wrap_i64];omega
 have wd2:IntKind.i64.wrap (((blen (val X):Nat):Int) - ((blen (val Y):Nat):Int))=d:=by rw [IntKind.wrap_i64];omega
 by_cases hs:blen (val Y)≤67108864
 ·have i2:((blen (val Y):Nat):Int)≤67108864:=by omega
  have HB:=fA va vb X Y w hA hB hT (by omega) (by omega) (by omega)
  have hm:blen (val X % val Y)≤67108864:=by
   exact Nat.le_trans (blen_mono (Nat.le_of_lt (Nat.mod_lt (val X) hy0))) hs
  have HQ:=aa (And.intro hq hm)
  clear hA hB hT hq hm
  generalize val X / val Y=qq at *
  generalize val X % val Y=mm at *
  generalize blen (val X)=lx at *
  generalize blen (val Y)=ly at *
  go_enter Tryz.func51,Tryz.ntmps51
  go_wp2_with fail
  refine L1.mono ?_
  rintro e wn ⟨rfl,hw⟩;rw [hw];clear hw wn L1
  go_wp2_with fail
  refine L2.mono ?_
  rintro e wn ⟨rfl,hw⟩;rw [hw];clear hw wn
  go_wp2_with fail
  refine L2.mono ?_
  rintro e wn ⟨rfl,hw⟩;rw [hw];clear hw wn
  go_wp2_with fail
  refine HB.mono ?_
  rintro e w1 ⟨⟨v1,v2,c,r1,r2,mid,rfl,a1,⟨m1,m2⟩,_,a2,hres⟩,hb⟩
  have hd2:NumDone2 w qq mm (.returned (.tuple #[v1,v2])) w1:=by
   rcases hres with ⟨_,q1,q2,q3,q4,_⟩|⟨_,_,_,q4⟩
   ·exact⟨⟨v1,v2,r1,r2,rfl,a1,a2.base m1,q1,q2,q3,q4⟩,hb⟩
   ·have:=HQ.out;omega
  have HD:=aa hd2
  clear hres hd2 a1 a2 hb
  go_wp2
  go_returns
  exact HD.out
 ·have i2:¬((blen (val Y):Nat):Int)≤67108864:=by omega
  have HQ:=gm va vb X Y w hA hB hT (by omega) (by omega) (by omega)
  have HA:=aa hA
  have HB:=aa hB
  have HT:=aa hT
  have HL:=aa (And.intro hq hy0)
  clear hA hB hT hq
  generalize hlx:blen (val X)=lx at *
  generalize hly:blen (val Y)=ly at *
  clear hlx hly
  go_enter Tryz.func51,Tryz.ntmps51
  go_wp2_with fail
  refine L1.mono ?_
  rintro e wn ⟨rfl,hw⟩;rw [hw];clear hw wn L1
  go_wp2_with fail
  refine L2.mono ?_
  rintro e wn ⟨rfl,hw⟩;rw [hw];clear hw wn
  go_wp2_with fail
  refine L2.mono ?_
  rintro e wn ⟨rfl,hw⟩;rw [hw];clear hw wn
  go_wp2_with fail
  refine HQ.mono ?_
  rintro e w1 ⟨hb,v,c,rs,rfl,ha,hres⟩
  obtain⟨rfl,q1,q2⟩:c=0∧val rs=val X / val Y∧tr rs=rs:=by
   rcases hres with ⟨h1,h2,h3,_⟩|⟨_,_,q4⟩
   ·exact⟨h1,h2,h3⟩
   ·have:=HL.out.1;omega
  have hrl:rs.length≤X.length:=by
   rw [←q2]
   refine ay rs _ ?_
   rw [q1]
   exact Nat.lt_of_le_of_lt (Nat.div_le_self _ _) (val_lt HA.out.limbs)
  have HP:=dV (rs.length+Y.length+1) rs Y v vb w1 (by omega) (by omega) (ha.arg (by omega)) (HB.out.below hb) (HT.out.below hb)
  clear hres
  go_wp2_with fail
  refine HP.mono ?_
  rintro e w2 ⟨⟨v2,r2,rfl,a2,p1,p2⟩,hb2⟩
  have hmod:=Nat.div_add_mod (val X) (val Y)
  have hr2:r2.length≤1125899906842624:=by
   rw [←p2]
   refine Nat.le_trans (ay r2 X.length ?_) (by omega)
   rw [p1,q1,Nat.mul_comm]
   have:=val_lt HA.out.limbs
   omega
  have hbb:Below w.heap.size w w2:=hb.trans (hb2.mono hb.size)
  have HLS:=dm va v2 X r2 w2 (HA.out.below hbb) (a2.arg hr2) (by omega) (by rw [p1,q1,Nat.mul_comm];omega)
  rw [p1,q1,Nat.mul_comm (val X / val Y),show val X - val Y*(val X / val Y)=val X % val Y by omega] at HLS
  have HV:=aa (And.intro (ha.below hb2) (And.intro q1 q2))
  have HBB:=aa hbb
  clear ha hb a2 p1 p2 hb2 hbb q1 q2 hmod hr2
  go_wp2_with fail
  refine HLS.mono ?_
  rintro e w3 ⟨⟨v3,r3,rfl,a3,p1,p2⟩,hb3⟩
  have HD:=aa (show NumDone2 w (val X / val Y) (val X % val Y) (.returned (.tuple #[v,v3])) w3 from ⟨⟨v,v3,rs,r3,rfl,HV.out.1.below hb3,a3.base HBB.out.size,HV.out.2.1,HV.out.2.2,p1,p2⟩,HBB.out.trans (hb3.mono HBB.out.size)⟩)
  clear a3 p1 p2 hb3 HV
  go_wp2
  go_returns
  exact HD.out

theorem bU {rs:List Nat}{x n:Nat}(ht:tr rs=rs)(hv:val rs=x)(hb:blen x≤n*64):rs.length≤n:=by
 rw [←ht]
 refine ay rs n ?_
 rw [hv,W_pow]
 exact (blen_le_iff x _).1 hb

theorem je:∀(N:Nat) (X Y:List Nat) (va vb:Value) (w:World),blen (val X)≤N+blen (val Y)→Arg w va X→Arg w vb Y→Tab w→X.length≤17592186044000→Y.length≤17592186044000→0<val Y →
  Calls Tryz.prog 51 #[va,vb] w (NumDone2 w (val X / val Y) (val X % val Y)):=by
 intro N
 induction N with
 | zero=>
  intro X Y va vb w hN hA hB hT hx hy hy0
  exact rboth_near va vb X Y w hA hB hT hx hy hy0 (by omega)
 | succ N ih=>
  intro X Y va vb w hN hA hB hT hx hy hy0
  by_cases hnear:blen (val X)<67108864+blen (val Y)
  ·exact rboth_near va vb X Y w hA hB hT hx hy hy0 hnear
  ·have L1:=az _ _ w hA
   have L2:=az _ _ w hB
   have hbx:blen (val X)≤X.length*64:=(blen_le_iff _ _).2 (by have:=val_lt hA.limbs;rw [W_pow] at this;exact this)
   obtain⟨m,hm⟩:∃m,blen (val X) - blen (val Y)=m:=⟨_,rfl⟩
   obtain⟨k,hk⟩:∃k,m / 2=k:=⟨_,rfl⟩
   have em:((blen (val X):Nat):Int) - ((blen (val Y):Nat):Int)=(m:Int):=by omega
   have ek:(m:Int) / 2=(k:Int):=by omega
   have i1:(67108864:Int)≤(m:Int):=by omega
   have wm:IntKind.i64.wrap (m:Int)=(m:Int):=by rw [IntKind.wrap_i64];omega
   have hkb:k≤562949953408000:=by omega
   have HDN:=cr va X k w hA (by omega) (by omega)
   obtain⟨P1,P2,P3⟩:=both_parts (val X) (val Y) k hy0
   have hbh:blen (val X / 2 ^ k)≤N+blen (val Y):=by
    rw [blen_le_iff,Nat.div_lt_iff_lt_mul (Nat.two_pow_pos k),←Nat.pow_add]
    exact (blen_le_iff _ _).1 (by omega)
   have hbl:blen ((val X / 2 ^ k) % val Y*2 ^ k+val X % 2 ^ k)≤k+blen (val Y):=by
    rw [blen_le_iff,Nat.pow_add]
    have h1:=Nat.mod_lt (val X / 2 ^ k) hy0
    have h2:val X % 2 ^ k<2 ^ k:=Nat.mod_lt _ (Nat.two_pow_pos k)
    have h3:=(blen_le_iff (val Y) _).1 (Nat.le_refl _)
    generalize val X / 2 ^ k % val Y=R at *
    have h4:(R+1)*2 ^ k≤2 ^ blen (val Y)*2 ^ k:=Nat.mul_le_mul_right (2 ^ k) (by omega)
    rw [Nat.add_mul,Nat.one_mul,Nat.mul_comm (2 ^ blen (val Y))] at h4
    omega
   have HA:=aa hA
   have HB:=aa hB
   have HT:=aa hT
   have HP:=aa (And.intro P1 (And.intro P2 P3))
   have HBL:=aa (And.intro hbh hbl)
   have HIH:=aa ih
   have hlen2:k+blen (val Y)≤X.length*64:=by omega
   have hN2:k+blen (val Y)≤N+blen (val Y):=by omega
   have hfew:=hA.few
   clear P1 P2 P3 hbh hbl hA hB hT hm hk ih
   generalize hlx:blen (val X)=lx at *
   generalize hly:blen (val Y)=ly at *
   have HX:=aa (And.intro hlx hly)
   clear hlx hly
   go_enter Tryz.func51,Tryz.ntmps51
   go_wp2_with fail
   refine L1.mono ?_
   rintro e wn ⟨rfl,hw⟩;rw [hw];clear hw wn L1
   go_wp2_with fail
   refine L2.mono ?_
   rintro e wn ⟨rfl,hw⟩;rw [hw];clear hw wn L2
   go_wp2_with fail
   refine HDN.mono ?_
   rintro e w1 ⟨⟨v1,r1,rfl,a1,p1,t1⟩,hb1⟩
   have l1:r1.length≤X.length:=bU t1 p1 (by have:=HBL.out.1;have h:=blen_mono (Nat.div_le_self (val X) (2 ^ k));rw [HX.out.1] at h;omega)
   have HI1:=HIH.out r1 Y v1 vb w1 (by rw [p1,HX.out.2];exact HBL.out.1) (a1.arg (by omega)) (HB.out.below hb1) (HT.out.below hb1) (by omega) hy hy0
   rw [p1] at HI1
   have HB1:=aa hb1
   clear a1 p1 t1 hb1 HDN
   go_wp2_with fail
   refine HI1.mono ?_
   rintro e w2 ⟨⟨vh,vr,rh,rr,rfl,ah,ar,ph,th,pr,tr'⟩,hb2⟩
   have HB2:=aa (HB1.out.trans (hb2.mono HB1.out.size))
   have HBT:=rbits_any va X 0 k w2 (HA.out.below HB2.out) (by omega) (by omega) (by omega)
   rw [Nat.pow_zero,Nat.div_one] at HBT
   have HH:=aa (And.intro ah (And.intro ar (And.intro ph (And.intro th (And.intro pr tr')))))
   clear ah ar ph th pr tr' hb2 HI1
   go_wp2_with fail
   refine HBT.mono ?_
   rintro e w3 ⟨⟨vb3,rb,rfl,ab,pb,tb⟩,hb3⟩
   have HB3:=aa (HB2.out.trans (hb3.mono HB2.out.size))
   have lrr:rr.length≤Y.length:=by
    rw [←HH.out.2.2.2.2.2]
    refine ay rr _ ?_
    rw [HH.out.2.2.2.2.1]
    exact Nat.lt_trans (Nat.mod_lt _ hy0) (val_lt HB.out.limbs)
   have lrb:rb.length≤X.length:=bU tb pb (by
    have h:=blen_mono (Nat.mod_le (val X) (2 ^ k))
    rw [HX.out.1] at h
    omega)
   have HJ:=rjoin_any vr vb3 rr rb k w3 ((HH.out.2.1.below hb3).arg (by omega)) (ab.arg (by omega)) (by omega) (by omega) (by rw [pb];exact Nat.mod_lt _ (Nat.two_pow_pos k)) tb
   rw [pb,HH.out.2.2.2.2.1] at HJ
   have HAH:=aa (HH.out.1.below hb3)
   clear ab pb tb hb3 HBT
   go_wp2_with fail
   refine HJ.mono ?_
   rintro e w4 ⟨⟨vj,rj,rfl,aj,pj,tj⟩,hb4⟩
   have HB4:=aa (HB3.out.trans (hb4.mono HB3.out.size))
   have pj2:val rj=(val X / 2 ^ k) % val Y*2 ^ k+val X % 2 ^ k:=by rw [pj,Nat.add_comm,Nat.mul_comm]
   have hbj:blen (val rj)≤k+ly:=by rw [pj2,←HX.out.2];have h:=HBL.out.2;rw [HX.out.2];exact h
   have lj:rj.length≤X.length:=bU tj rfl (by omega)
   have HI2:=HIH.out rj Y vj vb w4 (by rw [HX.out.2];omega) (aj.arg (by omega)) (HB.out.below HB4.out) (HT.out.below HB4.out) (by omega) hy hy0
   rw [pj2,←HP.out.2.1] at HI2
   have HAH2:=aa (HAH.out.below hb4)
   clear aj pj tj hb4 HJ hbj
   go_wp2_with fail
   refine HI2.mono ?_
   rintro e w5 ⟨⟨vl,vr2,rl,rr2,rfl,al,ar2,pl,tl,pr2,tr2⟩,hb5⟩
   have HB5:=aa (HB4.out.trans (hb5.mono HB4.out.size))
   have lrh:rh.length≤X.length:=bU HH.out.2.2.2.1 HH.out.2.2.1 (by
    have h1:=blen_mono (Nat.le_trans (Nat.div_le_self (val X / 2 ^ k) (val Y)) (Nat.div_le_self (val X) (2 ^ k)))
    rw [HX.out.1] at h1
    omega)
   have lrl:rl.length≤X.length:=bU tl pl (by
    have h1:=blen_mono (Nat.div_le_self ((val X / 2 ^ k) % val Y*2 ^ k+val X % 2 ^ k) (val Y))
    have h2:=HBL.out.2
    omega)
   have HJ2:=rjoin_any vh vl rh rl k w5 ((HAH2.out.below hb5).arg (by omega)) (al.arg (by omega)) (by omega) (by omega) (by rw [pl];exact HP.out.2.2) tl
   rw [pl,HH.out.2.2.1,←HP.out.1] at HJ2
   have HR2:=aa (And.intro ar2 (And.intro pr2 tr2))
   clear al ar2 pl tl pr2 tr2 hb5 HI2
   go_wp2_with fail
   refine HJ2.mono ?_
   rintro e w6 ⟨⟨vq,rq,rfl,aq,pq,tq⟩,hb6⟩
   have HD:=aa (show NumDone2 w (val X / val Y) (val X % val Y) (.returned (.tuple #[vq,vr2])) w6 from ⟨⟨vq,vr2,rq,rr2,rfl,aq.base HB5.out.size,(HR2.out.1.base HB4.out.size).below hb6,pq,tq,HR2.out.2.1,HR2.out.2.2⟩,HB5.out.trans (hb6.mono HB5.out.size)⟩)
   clear aq pq tq hb6
   go_wp2
   go_returns
   exact HD.out

namespace Lm

end Lm
end Go.Proofs.YtiagnfghnfhlnaaGreatDoor

