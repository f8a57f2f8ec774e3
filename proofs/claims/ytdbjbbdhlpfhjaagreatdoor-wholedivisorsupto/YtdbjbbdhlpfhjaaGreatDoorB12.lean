/- The reference's numbers: Cmp, Add, Sub. -/
import Derived.Test.YtdbjbbdhlpfhjaaGreatDoorB01
import Derived.Test.YtdbjbbdhlpfhjaaGreatDoorB08
import Derived.Test.YtdbjbbdhlpfhjaaGreatDoorB11
import Derived.Test.YtdbjbbdhlpfhjaaGreatDoorB09
import Derived.Deep.RegionHeld3
import Derived.Test.YtdbjbbdhlpfhjaaGreatDoorB04
import Derived.Test.YtdbjbbdhlpfhjaaGreatDoorB02
set_option maxRecDepth 20000
set_option maxHeartbeats 4000000
namespace Go.Proofs.YtdbjbbdhlpfhjaaGreatDoor
open Go.RowKit
open Lm
attribute [local go_sem ↓] Go.wp_at_zero Go.wp_at_succ

theorem gt (v1 v2:Value)(x y:Nat)(w:World)(h1:Num w v1 x)(h2:Num w v2 y) :
  Calls Tryz.prog 56 #[v1,v2] w fun e w'=>e=.returned (.int .i64 (cmpN x y))∧aD w w':=by
 obtain⟨Z,hA1,hZ,hZt,rfl,hZl⟩:=h1
 obtain⟨Y,hA2,hY,hYt,rfl,hYl⟩:=h2
 obtain⟨a1,c1,rfl,hc1,hm1,L1⟩:=hA1.form
 obtain⟨a2,c2,rfl,hc2,hm2,L2⟩:=hA2.form
 clear hA1 hA2
 by_cases hl:Z.length=Y.length
 ·have HL:=ac hl.symm
  rw [←hl] at hc2 hYl ⊢
  clear hl
  have hne:((Z.length:Int) != (Z.length:Int))=false:=by simp
  go_enter Tryz.func56,Tryz.ntmps56
  go_wp2
  go_loopw [5] (fun i wr=>∃k:Nat,k≤Z.length∧i=.int .i64 ((k:Int) - 1)∧aD w wr∧cmpN (vb 4294967296 (Z.take k)) (vb 4294967296 (Y.take k))=cmpN (vb 4294967296 Z) (vb 4294967296 Y)) (fun i _=>(intOf i+1).toNat)
  case atStart=>exact⟨Z.length,Nat.le_refl _,by go_num,aD.refl _,by rw [List.take_length,←HL.out,List.take_length]⟩
  case round=>
   obtain⟨k,hk,rfl,hs,hv⟩:=hrel
   have HV:=ac hv
   have HS:=ac hs
   clear hv
   by_cases hk0:k=0
   ·subst hk0
    have HN:Hid (cmpN (vb 4294967296 Z) (vb 4294967296 Y)=0):=ac (by rw [←HV.out];rfl)
    clear HV L1 L2 hs
    go_wp2
    go_ret
    rw [HN.out]
    exact⟨rfl,HS.out⟩
   ·obtain⟨j,rfl⟩:∃j,k=j+1:=⟨k - 1,by omega⟩
    rcases L1.below (hs.below _) with h0|⟨b,off,rfl,hcell⟩
    ·simp [h0] at hk
    ·rcases L2.below (hs.below _) with h0|⟨b',off',rfl,hcell'⟩
     ·have:=HL.out;simp [h0] at this;omega
     ·have hck:=hcell j (by omega)
      have hck':=hcell' j (by have:=HL.out;omega)
      have ej:((j+1:Nat):Int) - 1=(j:Int):=by omega
      have ej2:(j:Int)+1 - 1=(j:Int):=by omega
      rw [ej]
      have hi1:(0:Int)≤(j:Int):=by omega
      have hi2:(j:Int)<(Z.length:Int):=by omega
      rcases Nat.lt_trichotomy (Z.getD j 0) (Y.getD j 0) with hxy|hxy|hxy
      ·have HN:Hid (cmpN (vb 4294967296 Z) (vb 4294967296 Y)=-1):=ac (by rw [←HV.out,vcmp_top hZ hY _ (by omega),cmpN_lt hxy])
       generalize Z.getD j 0=a at *
       generalize Y.getD j 0=c at *
       have i1:(a:Int)<(c:Int):=by omega
       clear hcell hcell' HV L1 L2 hs
       go_wp2
       go_quiet (fail)
       go_wp2
       go_ret
       rw [HN.out]
       exact⟨rfl,HS.out.drewN _⟩
      ·have HN:Hid (cmpN (vb 4294967296 (Z.take j)) (vb 4294967296 (Y.take j))=cmpN (vb 4294967296 Z) (vb 4294967296 Y)):=ac (by rw [←HV.out,vcmp_same _ hxy])
       rw [hxy] at hck
       generalize Y.getD j 0=c at *
       have hd1:decide ((c:Int)<(c:Int))=false:=decide_eq_false (by omega)
       clear hcell hcell' HV L1 L2 hs hxy
       go_wp2
       go_quiet (fail)
       go_wp2
       go_quiet (fail)
       go_wp2
       go_roundw
       case rel=>exact⟨j,by omega,by go_num,by first|exact (HS.out.drewN _).drewN _|exact HS.out.drewN _,HN.out⟩
       case measure=>simp [intOf]
      ·have HN:Hid (cmpN (vb 4294967296 Z) (vb 4294967296 Y)=1):=ac (by rw [←HV.out,vcmp_top hZ hY _ (by omega),cmpN_gt hxy])
       generalize Z.getD j 0=a at *
       generalize Y.getD j 0=c at *
       have i1:(c:Int)<(a:Int):=by omega
       have hd1:decide ((a:Int)<(c:Int))=false:=decide_eq_false (by omega)
       clear hcell hcell' HV L1 L2 hs
       go_wp2
       go_quiet (fail)
       go_wp2
       go_quiet (fail)
       go_wp2
       go_ret
       rw [HN.out]
       exact⟨rfl,by first|exact (HS.out.drewN _).drewN _|exact HS.out.drewN _⟩
 ·have hne:((Z.length:Int) != (Y.length:Int))=true:=by rw [bne_iff_ne];omega
  rcases Nat.lt_or_gt_of_ne hl with hlt|hlt
  ·rw [cmpN_lt (vb_shorter hZ hYt hlt)]
   have i1:(Z.length:Int)<(Y.length:Int):=by omega
   clear L1 L2
   go_enter Tryz.func56,Tryz.ntmps56
   go_wp2
   go_ret
   exact⟨rfl,aD.refl _⟩
  ·rw [cmpN_gt (vb_shorter hY hZt hlt)]
   have hd1:decide ((Z.length:Int)<(Y.length:Int))=false:=decide_eq_false (by omega)
   have i1:(Y.length:Int)<(Z.length:Int):=by omega
   clear L1 L2
   go_enter Tryz.func56,Tryz.ntmps56
   go_wp2
   go_ret
   exact⟨rfl,aD.refl _⟩

theorem ga {ds:List Nat}(hd:Digs 4294967296 ds)(ht:tr ds=ds)(L:Nat)(hb:blen (vb 4294967296 ds)≤32*L):ds.length≤L:=by
 refine Nat.le_of_not_lt fun hlt=>?_
 obtain⟨n,hn⟩:∃n,ds.length=n+1:=⟨ds.length - 1,by omega⟩
 have h1:=blen_vb hd ht n hn
 have h2:=blen_half _ (tr_last' ds n ht hn)
 omega

theorem cP {ds:List Nat}(n:Nat)(h:ds.length≤n):vb 4294967296 (ds.take n)=vb 4294967296 ds:=by rw [List.take_of_length_le h]

theorem kE {X Y out:List Nat}(hX:Digs 4294967296 X)(hY:Digs 4294967296 Y)(n cy:Nat)(h1:X.length≤n)(h2:Y.length≤n)(ho:out.length=n+1)
  (h:vb 4294967296 (out.take (n+1))+cy*4294967296 ^ (n+1)=vb 4294967296 (X.take (n+1))+vb 4294967296 (Y.take (n+1))):vb 4294967296 out=vb 4294967296 X+vb 4294967296 Y:=by
 rw [cP _ (by omega),cP _ (by omega),cP _ (by omega)] at h
 have a:=vb_take_lt hX n
 have b:=vb_take_lt hY n
 rw [cP _ h1] at a
 rw [cP _ h2] at b
 rcases Nat.eq_zero_or_pos cy with h0|h0
 ·subst h0;omega
 ·exfalso
  have:=Nat.mul_le_mul_right (4294967296 ^ (n+1)) h0
  rw [Nat.pow_succ,B_pow] at this h
  omega

theorem kL (v1 v2:Value)(x y:Nat)(w:World)(h1:Num w v1 x)(h2:Num w v2 y)(f1:blen x≤1125899906840000)(f2:blen y≤1125899906840000) :
  Calls Tryz.prog 55 #[v1,v2] w fun e w'=>(∃v',e=.returned v'∧Num w' v' (x+y)∧New w.heap.size v')∧Below w.heap.size w w':=by
 obtain⟨X,A1,hX,hXt,rfl,_⟩:=h1
 obtain⟨Y,A2,hY,hYt,rfl,_⟩:=h2
 have lX:=ga hX hXt 35184372088750 (by omega)
 have lY:=ga hY hYt 35184372088750 (by omega)
 obtain⟨a1,c1,rfl,hc1,hm1,_⟩:=A1.form
 obtain⟨a2,c2,rfl,hc2,hm2,_⟩:=A2.form
 obtain⟨i0,hi,hz0,hz1,hz2⟩:=info_parts Tryz.infoU
 clear f1 f2 hXt hYt
 by_cases hl:X.length<Y.length
 ·have i1:(X.length:Int)<(Y.length:Int):=by omega
  go_enter Tryz.func55,Tryz.ntmps55
  go_wp2_with (at_make;refine wpList_make_full _ rfl _ _ 30 rfl w.heap.size 61 i0 (.int .u64 0) 1 Tryz.underlying30 hi hz0 hz1 .i64 .i64 _ _ (Y.length+1) rfl rfl (by omega) (by omega) (by rw [hz2];omega) (by unfold maxLen;omega) (Nat.le_refl _) ?_;intro w1 hown hgrow)
  have hb1:=Blk.made hown
  have hbel:Below w.heap.size w w1:=(Below.refl _ _).grown hgrow (Nat.le_refl _) (fun k hk=>by cases hk)
  clear hown hgrow hi hz0 hz1 hz2
  go_loopw [7,8] (fun c i wr=>∃(k cy:Nat) (out:List Nat),k≤Y.length+1∧i=.int .i64 k∧c=.int .u64 cy∧cy≤1∧out.length=Y.length+1∧Digs 4294967296 out∧Blk wr w.heap.size out∧Below w.heap.size w wr ∧
    vb 4294967296 (out.take k)+cy*4294967296 ^ k=vb 4294967296 (X.take k)+vb 4294967296 (Y.take k)) (fun _ i _=>Y.length+1 - (intOf i).toNat)
  case atStart=>exact⟨0,0,_,Nat.zero_le _,rfl,rfl,by omega,by simp,digs_replicate (by omega) _,hb1,hbel,by simp [vb]⟩
  case round=>
   obtain⟨k,cy,out,hk,rfl,rfl,hcy,hlen,hdo,hblk,hbl,hval⟩:=hrel
   clear hb1 hbel
   have HB:=ac hblk
   have HL:=ac hbl
   by_cases hkl:k≤Y.length
   ·have H1:=eF _ X k wr (A1.below hbl)
    have H2:=eF _ Y k wr (A2.below hbl)
    have hfr:=hblk.free k
    have hco:=hblk.cell k (by omega)
    generalize out.getD k 0=o at *
    have z1:=dig_lt (by omega) hX k
    have z2:=dig_lt (by omega) hY k
    have HV:=ac (vb_add_step X Y out k cy (by omega) hval)
    generalize X.getD k 0=x at *
    generalize Y.getD k 0=y at *
    have e0:(x:Int)+(y:Int)+(cy:Int)=((x+y+cy:Nat):Int):=by omega
    have b0:x+y+cy<18446744073709551616:=by omega
    have e1:((x+y+cy:Nat):Int) % 4294967296=(((x+y+cy) % 4294967296:Nat):Int):=by omega
    have e2:((x+y+cy:Nat):Int) / 4294967296=(((x+y+cy) / 4294967296:Nat):Int):=by omega
    have b1:(x+y+cy) % 4294967296<4294967296:=by omega
    have b2:(x+y+cy) / 4294967296≤1:=by omega
    generalize (x+y+cy) % 4294967296=m at *
    generalize (x+y+cy) / 4294967296=d at *
    generalize x+y+cy=s at *
    clear hval hblk hbl A1 A2 hX hY
    go_wp2_with fail
    refine H1.mono ?_
    rintro e w2 ⟨rfl,rfl⟩
    go_wp2_with fail
    refine H2.mono ?_
    rintro e w2 ⟨rfl,rfl⟩
    clear H1 H2
    go_wp2
    go_roundw
    case rel=>exact⟨k+1,d,out.set k m,by omega,by go_num,rfl,b2,by simp;omega,digs_set hdo _ _ b1,HB.out.set k m,HL.out.setCell (Nat.le_refl _) _,HV.out⟩
    case measure=>simp [intOf];omega
   ·have ek:k=Y.length+1:=by omega
    subst ek
    have hve:=kE hX hY Y.length cy (by omega) (by omega) hlen hval
    have hA:=Ans.of_blk (base:=w.heap.size) (zs:=out) (Nat.le_refl _) hblk List.take_length.symm (Nat.le_refl _) (by omega) (digs_limbs hdo)
    have H:=eE w.heap.size _ _ _ (hA.arg (by omega)) hdo (by omega) (New.at _ _ _ _ _ (Nat.le_refl _))
    rw [hlen,hve] at H
    clear hval hblk hbl A1 A2 hX hY hA hve HB
    have hd1:decide ((Y.length:Int)+1≤(Y.length:Int))=false:=decide_eq_false (by omega)
    go_wp2_with fail
    refine H.mono ?_
    rintro e w2 ⟨⟨v',rfl,hnum,hnw⟩,rfl⟩
    have HN:=ac (And.intro hnum hnw)
    clear hnum hnw H
    go_wp2
    go_ret
    exact⟨⟨v',rfl,HN.out.1,HN.out.2⟩,HL.out⟩
 ·have hd0:decide ((X.length:Int)<(Y.length:Int))=false:=decide_eq_false (by omega)
  go_enter Tryz.func55,Tryz.ntmps55
  go_wp2_with (at_make;refine wpList_make_full _ rfl _ _ 30 rfl w.heap.size 61 i0 (.int .u64 0) 1 Tryz.underlying30 hi hz0 hz1 .i64 .i64 _ _ (X.length+1) rfl rfl (by omega) (by omega) (by rw [hz2];omega) (by unfold maxLen;omega) (Nat.le_refl _) ?_;intro w1 hown hgrow)
  have hb1:=Blk.made hown
  have hbel:Below w.heap.size w w1:=(Below.refl _ _).grown hgrow (Nat.le_refl _) (fun k hk=>by cases hk)
  clear hown hgrow hi hz0 hz1 hz2
  go_loopw [7,8] (fun c i wr=>∃(k cy:Nat) (out:List Nat),k≤X.length+1∧i=.int .i64 k∧c=.int .u64 cy∧cy≤1∧out.length=X.length+1∧Digs 4294967296 out∧Blk wr w.heap.size out∧Below w.heap.size w wr ∧
    vb 4294967296 (out.take k)+cy*4294967296 ^ k=vb 4294967296 (X.take k)+vb 4294967296 (Y.take k)) (fun _ i _=>X.length+1 - (intOf i).toNat)
  case atStart=>exact⟨0,0,_,Nat.zero_le _,rfl,rfl,by omega,by simp,digs_replicate (by omega) _,hb1,hbel,by simp [vb]⟩
  case round=>
   obtain⟨k,cy,out,hk,rfl,rfl,hcy,hlen,hdo,hblk,hbl,hval⟩:=hrel
   clear hb1 hbel
   have HB:=ac hblk
   have HL:=ac hbl
   by_cases hkl:k≤X.length
   ·have H1:=eF _ X k wr (A1.below hbl)
    have H2:=eF _ Y k wr (A2.below hbl)
    have hfr:=hblk.free k
    have hco:=hblk.cell k (by omega)
    generalize out.getD k 0=o at *
    have z1:=dig_lt (by omega) hX k
    have z2:=dig_lt (by omega) hY k
    have HV:=ac (vb_add_step X Y out k cy (by omega) hval)
    generalize X.getD k 0=x at *
    generalize Y.getD k 0=y at *
    have e0:(x:Int)+(y:Int)+(cy:Int)=((x+y+cy:Nat):Int):=by omega
    have b0:x+y+cy<18446744073709551616:=by omega
    have e1:((x+y+cy:Nat):Int) % 4294967296=(((x+y+cy) % 4294967296:Nat):Int):=by omega
    have e2:((x+y+cy:Nat):Int) / 4294967296=(((x+y+cy) / 4294967296:Nat):Int):=by omega
    have b1:(x+y+cy) % 4294967296<4294967296:=by omega
    have b2:(x+y+cy) / 4294967296≤1:=by omega
    generalize (x+y+cy) % 4294967296=m at *
    generalize (x+y+cy) / 4294967296=d at *
    generalize x+y+cy=s at *
    clear hval hblk hbl A1 A2 hX hY
    go_wp2_with fail
    refine H1.mono ?_
    rintro e w2 ⟨rfl,rfl⟩
    go_wp2_with fail
    refine H2.mono ?_
    rintro e w2 ⟨rfl,rfl⟩
    clear H1 H2
    go_wp2
    go_roundw
    case rel=>exact⟨k+1,d,out.set k m,by omega,by go_num,rfl,b2,by simp;omega,digs_set hdo _ _ b1,HB.out.set k m,HL.out.setCell (Nat.le_refl _) _,HV.out⟩
    case measure=>simp [intOf];omega
   ·have ek:k=X.length+1:=by omega
    subst ek
    have hve:=kE hX hY X.length cy (by omega) (by omega) hlen hval
    have hA:=Ans.of_blk (base:=w.heap.size) (zs:=out) (Nat.le_refl _) hblk List.take_length.symm (Nat.le_refl _) (by omega) (digs_limbs hdo)
    have H:=eE w.heap.size _ _ _ (hA.arg (by omega)) hdo (by omega) (New.at _ _ _ _ _ (Nat.le_refl _))
    rw [hlen,hve] at H
    clear hval hblk hbl A1 A2 hX hY hA hve HB
    have hd1:decide ((X.length:Int)+1≤(X.length:Int))=false:=decide_eq_false (by omega)
    go_wp2_with fail
    refine H.mono ?_
    rintro e w2 ⟨⟨v',rfl,hnum,hnw⟩,rfl⟩
    have HN:=ac (And.intro hnum hnw)
    clear hnum hnw H
    go_wp2
    go_ret
    exact⟨⟨v',rfl,HN.out.1,HN.out.2⟩,HL.out⟩

theorem kD (v1 v2:Value)(x y:Nat)(w:World)(h1:Num w v1 x)(h2:Num w v2 y)(f1:blen x≤1125899906840000)(f2:blen y≤1125899906840000) :
  Calls Tryz.prog 55 #[v1,v2] w fun e w'=>(∃v',e=.returned v'∧Num w' v' (x+y))∧Below w.heap.size w w':=
 (kL v1 v2 x y w h1 h2 f1 f2).mono fun _ _ ⟨⟨v',h1,h2,_⟩,h3⟩=>⟨⟨v',h1,h2⟩,h3⟩

theorem nN {X Y out:List Nat}(ho:Digs 4294967296 out)(hl:out.length=X.length)(hyl:Y.length≤X.length)(hle:vb 4294967296 Y≤vb 4294967296 X)(bw:Nat)
  (h:vb 4294967296 (out.take X.length)+vb 4294967296 (Y.take X.length)=vb 4294967296 (X.take X.length)+bw*4294967296 ^ X.length):vb 4294967296 out=vb 4294967296 X - vb 4294967296 Y:=by
 rw [cP _ (by omega),cP _ hyl,List.take_length] at h
 have h1:=vb_take_lt ho X.length
 rw [cP _ (by omega)] at h1
 rcases Nat.eq_zero_or_pos bw with h0|h0
 ·subst h0;omega
 ·exfalso
  have:=Nat.mul_le_mul_right (4294967296 ^ X.length) h0
  rw [B_pow] at this h
  omega

theorem iE (v1 v2:Value)(x y:Nat)(w:World)(h1:Num w v1 x)(h2:Num w v2 y)(hle:y≤x)(f1:blen x≤1125899906840000) :
  Calls Tryz.prog 57 #[v1,v2] w fun e w'=>(∃v',e=.returned v'∧Num w' v' (x - y)∧New w.heap.size v')∧Below w.heap.size w w':=by
 obtain⟨X,A1,hX,hXt,rfl,_⟩:=h1
 obtain⟨Y,A2,hY,hYt,rfl,_⟩:=h2
 have lX:=ga hX hXt 35184372088750 (by omega)
 have hyl:Y.length≤X.length:=by
  refine Nat.le_of_not_lt fun h=>?_
  have:=vb_shorter hX hYt h
  omega
 obtain⟨a1,c1,rfl,hc1,hm1,L1⟩:=A1.form
 obtain⟨i0,hi,hz0,hz1,hz2⟩:=info_parts Tryz.infoU
 have HLE:=ac hle
 clear f1 hXt hYt hle
 go_enter Tryz.func57,Tryz.ntmps57
 go_wp2_with (at_make;refine wpList_make_full _ rfl _ _ 30 rfl w.heap.size 61 i0 (.int .u64 0) 1 Tryz.underlying30 hi hz0 hz1 .i64 .i64 _ _ X.length rfl rfl (by omega) (by omega) (by rw [hz2];omega) (by unfold maxLen;omega) (Nat.le_refl _) ?_;intro w1 hown hgrow)
 have hb1:=Blk.made hown
 have hbel:Below w.heap.size w w1:=(Below.refl _ _).grown hgrow (Nat.le_refl _) (fun k hk=>by cases hk)
 clear hown hgrow hi hz0 hz1 hz2
 go_loopw [6,14] (fun c i wr=>∃(k cy:Nat) (out:List Nat),k≤X.length∧i=.int .i64 k∧c=.int .u64 cy∧cy≤1∧out.length=X.length∧Digs 4294967296 out∧Blk wr w.heap.size out∧Below w.heap.size w wr ∧
   vb 4294967296 (out.take k)+vb 4294967296 (Y.take k)=vb 4294967296 (X.take k)+cy*4294967296 ^ k) (fun _ i _=>X.length - (intOf i).toNat)
 case atStart=>exact⟨0,0,_,Nat.zero_le _,rfl,rfl,by omega,by simp,digs_replicate (by omega) _,hb1,hbel,by simp [vb]⟩
 case round=>
  obtain⟨k,cy,out,hk,rfl,rfl,hcy,hlen,hdo,hblk,hbl,hval⟩:=hrel
  clear hb1 hbel
  have HB:=ac hblk
  have HL:=ac hbl
  by_cases hkl:k<X.length
  ·rcases L1.below hbl with h0|⟨b,off,rfl,hcell⟩
   ·simp [h0] at hkl
   ·have H2:=eF _ Y k wr.drew (A2.below hbl.drew)
    have hck:=hcell k hkl
    have hbw:=aG.block (L1:aG w (some ⟨b,off,none⟩) X) (by omega)
    have hne1:¬b=w.heap.size:=by omega
    have hne2:¬w.heap.size=b:=by omega
    have hfr:=hblk.free k
    have hco:=hblk.cell k (by omega)
    generalize out.getD k 0=o at *
    have z1:=dig_lt (by omega) hX k
    have z2:=dig_lt (by omega) hY k
    have HV:=ac (vb_sub_step X Y out k cy (by omega) z1 z2 hcy hval)
    generalize X.getD k 0=x at *
    generalize Y.getD k 0=y at *
    have w1:IntKind.u64.wrap ((x:Int)+4294967296)=((x+4294967296:Nat):Int):=by rw [IntKind.wrap_u64];omega
    have w2:IntKind.u64.wrap (((x+4294967296:Nat):Int) - (y:Int))=((x+4294967296 - y:Nat):Int):=by rw [IntKind.wrap_u64];omega
    have w3:IntKind.u64.wrap (((x+4294967296 - y:Nat):Int) - (cy:Int))=((x+4294967296 - y - cy:Nat):Int):=by rw [IntKind.wrap_u64];omega
    have e0:(x:Int)+4294967296=((x+4294967296:Nat):Int):=by omega
    have e1:((x+4294967296:Nat):Int) - (y:Int)=((x+4294967296 - y:Nat):Int):=by omega
    have e2:((x+4294967296 - y:Nat):Int) - (cy:Int)=((x+4294967296 - y - cy:Nat):Int):=by omega
    have b0:x+4294967296<18446744073709551616:=by omega
    have b1:x+4294967296 - y<18446744073709551616:=by omega
    have b2:x+4294967296 - y - cy<18446744073709551616:=by omega
    have e3:((x+4294967296 - y - cy:Nat):Int) % 4294967296=(((x+4294967296 - y - cy) % 4294967296:Nat):Int):=by omega
    have e4:((x+4294967296 - y - cy:Nat):Int) / 4294967296=(((x+4294967296 - y - cy) / 4294967296:Nat):Int):=by omega
    have b3:(x+4294967296 - y - cy) % 4294967296<4294967296:=by omega
    have b4:(x+4294967296 - y - cy) / 4294967296≤1:=by omega
    generalize (x+4294967296 - y - cy) % 4294967296=m at *
    generalize (x+4294967296 - y - cy) / 4294967296=d at *
    generalize x+4294967296 - y - cy=t3 at *
    generalize x+4294967296 - y=t2 at *
    generalize x+4294967296=t1 at *
    have e5:(1:Int) - (d:Int)=((1 - d:Nat):Int):=by omega
    have w4:IntKind.u64.wrap (t1:Int)=(t1:Int):=by rw [IntKind.wrap_u64];omega
    have w5:IntKind.u64.wrap (t2:Int)=(t2:Int):=by rw [IntKind.wrap_u64];omega
    have w6:IntKind.u64.wrap (t3:Int)=(t3:Int):=by rw [IntKind.wrap_u64];omega
    have hi1:(0:Int)≤(k:Int):=by omega
    have hi2:(k:Int)<(X.length:Int):=by omega
    clear hval hblk hbl A1 A2 hX hY hcell L1
    go_wp2
    go_region_held3 (fun w'=>w'.cell? ⟨b,off+k,none⟩=some (.int .u64 x)) (go_keep) (first | (go_at_call 92;refine H2.mono ?_;rintro e w2 ⟨rfl,rfl⟩))
    go_wp2
    go_roundw
    case rel=>exact⟨k+1,1 - d,out.set k m,by omega,by go_num,by go_num,by omega,by simp;omega,digs_set hdo _ _ b3,HB.out.set k m,(HL.out.setCell (Nat.le_refl _) _).drew,HV.out⟩
    case measure=>simp [intOf];omega
  ·have ek:k=X.length:=by omega
   subst ek
   have hve:=nN hdo hlen hyl HLE.out cy hval
   have hA:=Ans.of_blk (base:=w.heap.size) (zs:=out) (Nat.le_refl _) hblk List.take_length.symm (Nat.le_refl _) (by omega) (digs_limbs hdo)
   have H:=eE w.heap.size _ _ _ (hA.arg (by omega)) hdo (by omega) (New.at _ _ _ _ _ (Nat.le_refl _))
   rw [hlen,hve] at H
   clear hval hblk hbl A1 A2 hX hY hA hve HB L1
   go_wp2_with fail
   refine H.mono ?_
   rintro e w2 ⟨⟨v',rfl,hnum,hnw⟩,rfl⟩
   have HN:=ac (And.intro hnum hnw)
   clear hnum hnw H
   go_wp2
   go_ret
   exact⟨⟨v',rfl,HN.out.1,HN.out.2⟩,HL.out⟩

theorem fl (v1 v2:Value)(x y:Nat)(w:World)(h1:Num w v1 x)(h2:Num w v2 y)(hle:y≤x)(f1:blen x≤1125899906840000) :
  Calls Tryz.prog 57 #[v1,v2] w fun e w'=>(∃v',e=.returned v'∧Num w' v' (x - y))∧Below w.heap.size w w':=
 (iE v1 v2 x y w h1 h2 hle f1).mono fun _ _ ⟨⟨v',h1,h2,_⟩,h3⟩=>⟨⟨v',h1,h2⟩,h3⟩

theorem Num.zero_iff {w:World}{v:Value}{x:Nat}(h:Num w v x):∃ao n cap,v=.slice ao n cap∧((n:Int) == 0)=(x == 0):=by
 obtain⟨ds,A,hd,ht,rfl,_⟩:=h
 obtain⟨ao,cap,hv,_⟩:=A.form
 refine⟨ao,ds.length,cap,hv,?_⟩
 by_cases h0:ds=[]
 ·subst h0;rfl
 ·have h1:0<ds.length:=List.length_pos_iff.2 h0
  have h2:vb 4294967296 ds≠0:=fun e=>h0 (vb_tail_zero (by omega) ht e)
  have e1:((ds.length:Int) == 0)=false:=by rw [beq_eq_false_iff_ne];omega
  have e2:(vb 4294967296 ds == 0)=false:=by rw [beq_eq_false_iff_ne];exact h2
  rw [e1,e2]

theorem gz (v:Value)(x:Nat)(w:World)(h:Num w v x):Calls Tryz.prog 49 #[v] w fun e w'=>e=.returned (.bool (x == 0))∧w'=w:=by
 obtain⟨ao,n,cap,rfl,he⟩:=h.zero_iff
 clear h
 go_enter Tryz.func49,Tryz.ntmps49
 go_wp2
 go_ret
 exact⟨rfl,rfl⟩

theorem iI (n k:Nat):(List.replicate n 0).getD k 0=0:=by
 by_cases h:k<n
 ·simp [List.getD,h]
 ·simp [List.getD,h]

theorem jK (B n:Nat):vb B (List.replicate n 0)=0:=by
 induction n with
 | zero=>rfl
 | succ n ih=>rw [List.replicate_succ,vb,ih];simp

theorem nk (out:List Nat)(k d t:Nat)(h:k+1<out.length):((out.set k t).set (k+1) d).getD (k+1) 0=d:=by
 simp [List.getD,h]

theorem oA (x s:Nat)(h:x*2 ^ s<18446744073709551616):IntKind.u64.wrap ((x:Int)*2 ^ s)=((x*2 ^ s:Nat):Int):=by
 rw [IntKind.wrap_u64]
 have e:(x:Int)*2 ^ s=((x*2 ^ s:Nat):Int):=by push_cast;rfl
 rw [e];omega

theorem nh (out:List Nat)(i j a b:Nat):((out.set i a).set j b).length=out.length:=by simp

theorem jf (v:Value)(x n:Nat)(w:World)(h:Num w v x)(hf:blen x+n≤1125899906840000) :
  Calls Tryz.prog 93 #[v,.int .i64 n] w fun e w'=>(∃v',e=.returned v'∧Num w' v' (x*2 ^ n))∧Below w.heap.size w w':=by
 obtain⟨X,A,hX,hXt,rfl,_⟩:=h
 obtain⟨a1,c1,rfl,hc1,hm1,L1⟩:=A.form
 by_cases h0:X.length=0
 ·have hx:X=[]:=List.length_eq_zero_iff.1 h0
  subst hx
  clear A L1 hX hXt hf
  go_enter Tryz.func93,Tryz.ntmps93
  go_wp2
  go_ret
  refine⟨⟨_,rfl,?_⟩,Below.refl _ _⟩
  rw [vb,Nat.zero_mul]
  exact Num.nil w
 ·obtain⟨i0,hi,hz0,hz1,hz2⟩:=info_parts Tryz.infoU
  obtain⟨q,s,hs,hnq⟩:∃q s,s<32∧n=q*32+s:=⟨n / 32,n % 32,by omega,by omega⟩
  have lX:X.length+q≤35184372088752:=by
   obtain⟨m,hm⟩:∃m,X.length=m+1:=⟨X.length - 1,by omega⟩
   have h1:=blen_vb hX hXt m hm
   omega
  have eq1:(n:Int) / 32=(q:Int):=by omega
  have eq2:(n:Int) % 32=(s:Int):=by omega
  have HN:Hid (n=q*32+s):=hnq
  rcases L1 with h' | ⟨b,off,rfl,hcell⟩
  ·exact absurd (by rw [h'];rfl) h0
  ·have hbw:b<w.heap.size:=aG.block (zs:=X) (.inr ⟨b,off,rfl,hcell⟩) (by omega)
   have hln:((X.length:Int) == 0)=false:=by rw [beq_eq_false_iff_ne];omega
   clear hnq hf A
   go_enter Tryz.func93,Tryz.ntmps93
   go_wp2_with (at_make;refine wpList_make_full _ rfl _ _ 30 rfl w.heap.size 61 i0 (.int .u64 0) 1 Tryz.underlying30 hi hz0 hz1 .i64 .i64 _ _ (X.length+q+1) rfl rfl (by omega) (by omega) (by rw [hz2];omega) (by unfold maxLen;omega) (Nat.le_refl _) ?_;intro w1 hown hgrow)
   have hb1:=Blk.made hown
   have hbel:Below w.heap.size w w1:=(Below.refl _ _).grown hgrow (Nat.le_refl _) (fun k hk=>by cases hk)
   clear hown hgrow hi hz0 hz1 hz2
   go_loopw [23] (fun i wr=>∃(k:Nat) (out:List Nat),k≤X.length∧i=.int .i64 k∧out.length=X.length+q+1∧Digs 4294967296 out∧out.getD (q+k) 0<2 ^ s∧Blk wr w.heap.size out∧Below w.heap.size w wr ∧
     vb 4294967296 (out.take (q+k+1))=vb 4294967296 (X.take k)*2 ^ n) (fun i _=>X.length - (intOf i).toNat)
   case atStart=>exact⟨0,_,Nat.zero_le _,rfl,by simp,digs_replicate (by omega) _,by rw [iI];exact Nat.two_pow_pos _,hb1,hbel,by rw [List.take_replicate,jK];simp [vb]⟩
   case round=>
    obtain⟨k,out,hk,rfl,hlen,hdo,hlow,hblk,hbl,hval⟩:=hrel
    clear hb1 hbel
    have HB:=ac hblk
    have HL:=ac hbl
    by_cases hkl:k<X.length
    ·have hck:wr.cell? ⟨b,off+k,none⟩=some (.int .u64 ((X.getD k 0:Nat):Int)):=by rw [hbl.cell (p:=⟨b,off+k,none⟩) hbw];exact hcell k hkl
     have hne1:¬b=w.heap.size:=by omega
     have hne2:¬w.heap.size=b:=by omega
     have hfr:=hblk.free (k+q)
     have hco:=hblk.cell (k+q) (by omega)
     have hfr1:=hblk.free (k+q+1)
     have hco1:=hblk.cell (k+q+1) (by omega)
     have HV:=ac (nL X out q s k n HN.out (by omega) hval)
     have z1:=dig_lt (by omega) hX k
     have b1:=rf (X.getD k 0) s (out.getD (q+k) 0) (by omega) hlow
     have b2:=pu (X.getD k 0) s z1
     have b3:=mV (X.getD k 0) s z1 hs
     have hdd:=ac (digs_set (digs_set hdo (q+k) _ b1) (q+k+1) (X.getD k 0*2 ^ s / 4294967296) (by omega))
     have hge:=ac (show ((out.set (q+k) (out.getD (q+k) 0+X.getD k 0*2 ^ s % 4294967296)).set (q+k+1) (X.getD k 0*2 ^ s / 4294967296)).getD (q+(k+1)) 0<2 ^ s by rw [show q+(k+1)=q+k+1 by omega,nk _ _ _ _ (by omega)];exact b2)
     generalize X.getD k 0=x at *
     rw [Nat.add_comm q k] at *
     generalize out.getD (k+q) 0=o at *
     generalize out.getD (k+q+1) 0=o1 at *
     have w0:IntKind.u64.wrap ((x:Int)*2 ^ s)=((x*2 ^ s:Nat):Int):=oA x s b3
     generalize x*2 ^ s=T at *
     have e1:(T:Int) % 4294967296=((T % 4294967296:Nat):Int):=by omega
     have e2:(T:Int) / 4294967296=((T / 4294967296:Nat):Int):=by omega
     have b4:T / 4294967296<4294967296:=by omega
     generalize T % 4294967296=m at *
     generalize T / 4294967296=d at *
     have e3:(o:Int)+(m:Int)=((o+m:Nat):Int):=by omega
     generalize o+m=t at *
     have e4:IntKind.u64.wrap (t:Int)=(t:Int):=by rw [IntKind.wrap_u64];omega
     clear hval hblk hbl hcell
     go_wp2
     go_region
     go_wp2
     go_roundw
     case rel=>exact⟨k+1,(out.set (k+q) t).set (k+q+1) d,by omega,by go_num,by rw [nh];exact hlen,hdd.out,hge.out,(HB.out.set (k+q) t).set (k+q+1) d,((HL.out.setCell (Nat.le_refl _) _).setCell (Nat.le_refl _) _).drew,by rw [show q+(k+1)+1=k+q+1+1 by omega];exact HV.out⟩
     case measure=>simp [intOf];omega
    ·have ek:k=X.length:=by omega
     subst ek
     have hve:vb 4294967296 out=vb 4294967296 X*2 ^ n:=by
      rw [List.take_of_length_le (by omega),List.take_length] at hval;exact hval
     have hA:=Ans.of_blk (base:=w.heap.size) (zs:=out) (Nat.le_refl _) hblk List.take_length.symm (Nat.le_refl _) (by omega) (digs_limbs hdo)
     have H:=gf _ _ _ (hA.arg (by omega)) hdo (by omega)
     rw [hlen,hve] at H
     clear hval hblk hbl hX hA hve HB hcell
     go_wp2_with fail
     refine H.mono ?_
     rintro e w2 ⟨⟨v',rfl,hnum⟩,rfl⟩
     have HN:=ac hnum
     clear hnum H
     go_wp2
     go_ret
     exact⟨⟨v',rfl,HN.out⟩,HL.out⟩

def Zn (w:World)(v:Value)(z:Int):Prop:=∃u,v=.agg #[.bool (decide (z<0)),u]∧Num w u z.natAbs

theorem Zn.below {w w':World}{v:Value}{z:Int}(h:Zn w v z)(hb:Below w.heap.size w w'):Zn w' v z:=by
 obtain⟨u,h1,h2⟩:=h
 exact⟨u,h1,h2.below hb⟩

theorem Num.sl {w:World}{v:Value}{x:Nat}(h:Num w v x):∃a n c,v=.slice a n c:=by
 obtain⟨ds,hA,_⟩:=h
 obtain⟨a,c,e,_⟩:=hA.form
 exact⟨a,_,c,e⟩

theorem iV (b:Bool)(x:Nat):(b && !(x == 0))=decide (zz b x<0):=by
 cases b
 ·simp [zz]
 ·simp only [Bool.true_and,zz,if_true]
  by_cases h:x=0
  ·subst h;rfl
  ·have h1:(x == 0)=false:=by simpa using h
   rw [h1]
   exact (decide_eq_true (by omega)).symm

theorem qi (b:Bool)(u:Value)(x:Nat)(w:World)(h:Num w u x) :
  Calls Tryz.prog 53 #[.bool b,u] w fun e w'=>(∃v,e=.returned v∧Zn w' v (zz b x))∧Below w.heap.size w w':=by
 obtain⟨a,n,c,rfl⟩:=h.sl
 cases b
 ·have HB:=ac (cn w (.cells #[.bool false,.slice a n c] 32))
  have HN:=ac (h.below HB.out)
  clear h
  go_enter Tryz.func53,Tryz.ntmps53
  go_wp2
  go_returns
  exact⟨⟨_,rfl,.slice a n c,by simp [zz],by rw [aB];exact HN.out⟩,HB.out⟩
 ·obtain⟨w0,hw0⟩:∃w0,w.alloc (.cells #[.bool false,.slice none 0 0] 32)=w0:=⟨_,rfl⟩
  have hb0:Below w.heap.size w w0:=by rw [←hw0];exact cn _ _
  have h0:w0.heap[w.heap.size]?=some (.cells #[.bool false,.slice none 0 0] 32):=by rw [←hw0];exact heap_alloc_new ..
  have hf0:=av h0
  obtain⟨k0,k1⟩:=duo h0
  have HZ:=gz _ x w0 (h.below hb0)
  obtain⟨t,ht⟩:∃t:Bool,(!(x == 0))=t:=⟨_,rfl⟩
  have hzt:=iV true x
  rw [Bool.true_and,ht] at hzt
  have ht2:(x == 0)=!t:=by rw [←ht,Bool.not_not]
  rw [ht2] at HZ
  have HN:=ac h
  have HB0:=ac hb0
  have HBX:=ac h0
  have HZT:=ac hzt
  clear h hb0 h0 ht ht2 hzt
  go_enter Tryz.func53,Tryz.ntmps53
  go_wp2_with fail
  refine HZ.mono ?_
  rintro e wn ⟨rfl,hw⟩;rw [hw];clear hw wn HZ
  go_wp2
  have R5:=aH HBX.out (a':=.bool t) (b':=.slice a n c)
  have HD:=ac (aC HB0.out (g:=w.heap.size) (u0:=.bool t) (u1:=.slice a n c) (Nat.le_refl _))
  generalize (w0.setCell ⟨w.heap.size,0,none⟩ (.bool t)).setCell ⟨w.heap.size,1,none⟩ (.slice a n c)=w5 at *
  obtain⟨q0,q1⟩:=duo R5
  refine bodyPost_ret (v:=.agg #[.bool t,.slice a n c]) (by simp [results,Tryz.results53,go_sem,q0,q1]) rfl ?_
  exact⟨⟨_,rfl,_,by rw [HZT.out],by rw [aB];exact HN.out.below HD.out⟩,HD.out⟩

theorem Zn.sl {w:World}{v:Value}{z:Int}(h:Zn w v z):∃b a n k,v=.agg #[.bool b,.slice a n k]:=by
 obtain⟨u,h1,h2⟩:=h
 obtain⟨a,n,k,rfl⟩:=h2.sl
 exact⟨_,_,_,_,h1⟩

theorem aI {w:World}{g k g' k':Nat}{u:Value}(h:g≠g'):(w.setCell ⟨g,k,none⟩ u).cell? ⟨g',k',none⟩=w.cell? ⟨g',k',none⟩:=by
 simp only [World.cell?]
 rw [Below.heap_setCell _ _ _ _ (by exact Ne.symm h)]

theorem aG.box {w:World}{ao:Option Addr}{zs:List Nat}{g o:Nat}{p:Bool}{a:Option Addr}{n c:Nat}{t:TypeId}{u:Value}(h:aG w ao zs)(hl:w.heap[g]?=some (.cells #[.bool p,.slice a n c] t)):aG (w.setCell ⟨g,o,none⟩ u) ao zs:=by
 rcases h with h|⟨b,off,rfl,hc⟩
 ·exact .inl h
 ·rcases Nat.eq_zero_or_pos zs.length with h0|h0
  ·exact .inl (List.eq_nil_of_length_eq_zero h0)
  ·refine .inr ⟨b,off,rfl,fun k hk=>?_⟩
   rw [aI]
   ·exact hc k hk
   ·rintro rfl
    have h1:=hc 0 h0
    rw [Nat.add_zero] at h1
    simp only [World.cell?,hl] at h1
    match off,h1 with
    | 0,h1=>simp at h1
    | 1,h1=>simp at h1
    | k+2,h1=>simp at h1

theorem Arg.box {w:World}{v:Value}{zs:List Nat}{g o:Nat}{p:Bool}{a:Option Addr}{n c:Nat}{t:TypeId}{u:Value}(h:Arg w v zs)(hl:w.heap[g]?=some (.cells #[.bool p,.slice a n c] t)):Arg (w.setCell ⟨g,o,none⟩ u) v zs:=by
 obtain⟨ao,cap,h1,h2,h3,h4⟩:=h.form
 exact⟨⟨ao,cap,h1,h2,h3,h4.box hl⟩,h.limbs,h.few,h.nz⟩

theorem Arg.duo {w:World}{v:Value}{zs:List Nat}{g:Nat}{p:Bool}{a:Option Addr}{n c:Nat}{t:TypeId}{p1:Bool}{r1:Value}(h:Arg w v zs)(hl:w.heap[g]?=some (.cells #[.bool p,.slice a n c] t)):Arg ((w.setCell ⟨g,0,none⟩ (.bool p1)).setCell ⟨g,1,none⟩ r1) v zs:=
 (h.box hl).box (aY hl (.bool p1))

theorem Num.duo {w:World}{v:Value}{x g:Nat}{p:Bool}{a:Option Addr}{n c:Nat}{t:TypeId}{p1:Bool}{r1:Value}(h:Num w v x)(hl:w.heap[g]?=some (.cells #[.bool p,.slice a n c] t)):Num ((w.setCell ⟨g,0,none⟩ (.bool p1)).setCell ⟨g,1,none⟩ r1) v x:=by
 obtain⟨ds,hA,hr⟩:=h
 exact⟨ds,hA.duo hl,hr⟩

theorem Zn.duo {w:World}{v:Value}{z:Int}{g:Nat}{p:Bool}{a:Option Addr}{n c:Nat}{t:TypeId}{p1:Bool}{r1:Value}(h:Zn w v z)(hl:w.heap[g]?=some (.cells #[.bool p,.slice a n c] t)):Zn ((w.setCell ⟨g,0,none⟩ (.bool p1)).setCell ⟨g,1,none⟩ r1) v z:=by
 obtain⟨u,h1,h2⟩:=h
 exact⟨u,h1,h2.duo hl⟩

def bE (w:World)(z:Int)(e:Ending)(w':World):Prop:=(∃b a n k,e=.returned (.agg #[.bool b,.slice a n k])∧Zn w' (.agg #[.bool b,.slice a n k]) z)∧Below w.heap.size w w'

theorem cv (b:Bool)(u:Value)(x:Nat)(w:World)(h:Num w u x):Calls Tryz.prog 53 #[.bool b,u] w (bE w (zz b x)):=by
 refine (qi b u x w h).mono ?_
 rintro e w' ⟨⟨v,rfl,hz⟩,hb⟩
 obtain⟨b,a,n,k,rfl⟩:=hz.sl
 exact⟨⟨b,a,n,k,rfl,hz⟩,hb⟩

theorem qS (b:Bool)(v:Value)(X:List Nat)(w:World)(hA:Arg w v X)(hf:X.length≤17592186044416) :
  Calls Tryz.prog 21 #[.bool b,v] w (bE w (zz b (val X))):=by
 obtain⟨a,n,rfl,_,_,_⟩:=hA.form
 obtain⟨w0,hw0,hb0,hx0⟩:=aL w (.cells #[.bool false,.slice none 0 0] 32)
 have HO:=ie _ X w0 (hA.below hb0) hf
 have HB0:=ac hb0
 have HX0:=ac hx0
 clear hA hb0 hx0
 go_enter Tryz.func21,Tryz.ntmps21
 go_wp2_with fail
 refine HO.mono ?_
 rintro e w1 ⟨⟨v1,rfl,hn⟩,hb1⟩
 have HM:=cv b v1 (val X) w1 hn
 have HW1:=ac hb1
 obtain⟨a2,n2,k2,rfl⟩:=hn.sl
 clear hn hb1 HO
 go_wp2_with fail
 refine HM.mono ?_
 rintro e w2 ⟨⟨b1,a1,n1,k1,rfl,hzn⟩,hb2⟩
 have HZN:=ac hzn
 have HW:=ac (HW1.out.trans (hb2.mono HW1.out.size))
 clear hzn hb2 HM hw0
 have hbx:=ae HW.out HX0.out
 have hf1:=av hbx
 obtain⟨l0,l1⟩:=duo hbx
 have HBX:=ac hbx
 have HBE:=ac (HB0.out.trans (HW.out.mono HB0.out.size))
 clear hbx
 go_wp2
 have R5:=aH HBX.out (a':=.bool b1) (b':=.slice a1 n1 k1)
 have HD:=ac (And.intro (HZN.out.duo (p1:=b1) (r1:=.slice a1 n1 k1) HBX.out) (aC HBE.out (g:=w.heap.size) (u0:=.bool b1) (u1:=.slice a1 n1 k1) (by omega)))
 generalize (w2.setCell ⟨w.heap.size,0,none⟩ (.bool b1)).setCell ⟨w.heap.size,1,none⟩ (.slice a1 n1 k1)=w5 at *
 obtain⟨q0,q1⟩:=duo R5
 refine bodyPost_ret (v:=.agg #[.bool b1,.slice a1 n1 k1]) (by simp [results,Tryz.results21,go_sem,q0,q1]) rfl ?_
 exact⟨⟨_,_,_,_,rfl,HD.out.1⟩,HD.out.2⟩
end Go.Proofs.YtdbjbbdhlpfhjaaGreatDoor
namespace Go.Proofs.YtdbjbbdhlpfhjaaGreatDoor
open Go.RowKit
open Lm

def qm (w:World)(base:Nat)(b1:Bool)(v1:Value)(b2:Bool)(v2:Value)(c qz rz:Int):Prop:=
 ∃rs1 rs2,Ans w base v1 rs1∧Ans w base v2 rs2∧(v1.ownBlock=none∨v1.ownBlock≠v2.ownBlock) ∧
  ((c=0∧b1=decide (qz<0)∧val rs1=qz.natAbs∧tr rs1=rs1∧b2=decide (rz<0)∧val rs2=rz.natAbs∧tr rs2=rs2∧blen qz.natAbs≤67108864∧blen rz.natAbs≤67108864) ∨
   (c=3∧b1=false∧v1=.slice none 0 0∧b2=false∧v2=.slice none 0 0∧rs1=[]∧rs2=[]∧(67108864<blen qz.natAbs∨67108864<blen rz.natAbs)))

def gR (w:World)(qz rz:Int)(e:Ending)(w':World):Prop:=
 (∃b1 a1 n1 k1 b2 a2 n2 k2 c,e=.returned (.tuple #[.agg #[.bool b1,.slice a1 n1 k1],.agg #[.bool b2,.slice a2 n2 k2],.int .i64 c])∧qm w' w.heap.size b1 (.slice a1 n1 k1) b2 (.slice a2 n2 k2) c qz rz)∧Below w.heap.size w w'

theorem bG {w:World}{base g:Nat}{a b a' b' u0 u1 u2 u3:Value}(h2:w.heap[g]?=some (.cells #[a,b] 27))(h3:w.heap[g+1]?=some (.cells #[a',b'] 27)) :
  ((((w.setCell ⟨g,0,none⟩ u0).setCell ⟨g,1,none⟩ u1).setCell ⟨g+1,0,none⟩ u2).setCell ⟨g+1,1,none⟩ u3).heap[g]?=some (.cells #[u0,u1] 27) ∧
  ((((w.setCell ⟨g,0,none⟩ u0).setCell ⟨g,1,none⟩ u1).setCell ⟨g+1,0,none⟩ u2).setCell ⟨g+1,1,none⟩ u3).heap[g+1]?=some (.cells #[u2,u3] 27) ∧
  (∀v zs,Ans w base v zs→Ans ((((w.setCell ⟨g,0,none⟩ u0).setCell ⟨g,1,none⟩ u1).setCell ⟨g+1,0,none⟩ u2).setCell ⟨g+1,1,none⟩ u3) base v zs):=by
 have h4:=bJ (u0:=u0) (u1:=u1) h3 (show g+1≠g by omega)
 refine⟨bJ (aH h2) (by omega),aH h4,fun v zs hA=>?_⟩
 exact (hA.duo h2).duo h4
end Go.Proofs.YtdbjbbdhlpfhjaaGreatDoor
namespace Go.Proofs.YtdbjbbdhlpfhjaaGreatDoor
open Go.RowKit
open Lm
attribute [local go_sem ↓] Go.wp_at_zero Go.wp_at_succ



theorem bt6 {a b c:World}(h:Below a.heap.size a b)(k:Below b.heap.size b c):Below a.heap.size a c:=h.trans (k.mono h.size)

theorem cY {w w':World}(h:Below w.drew.heap.size w.drew w'):Below w.heap.size w w':=(Below.refl w.heap.size w).drew.trans h

theorem qx {b:Bool}{x m:Nat}(h:b=true∧0<x % m):er b x m=m - x % m:=if_pos h

theorem oY {b:Bool}{x m:Nat}(h:¬(b=true∧0<x % m)):er b x m=x % m:=if_neg h

theorem kj (b:Bool)(v:Value)(X:List Nat)(vm:Value)(M:List Nat)(w:World)(hA:Arg w v X)(hM:Arg w vm M)(hT:Tab w)(hx:X.length≤17592186044000)(hm:M.length≤17592186044000)(hm0:0<val M) :
  Calls Tryz.prog 44 #[.agg #[.bool b,v],vm] w (bR w (er b (val X) (val M))):=by
 obtain⟨a,c,rfl,_,_,_⟩:=hA.form
 obtain⟨a9,c9,rfl,_,_,_⟩:=hM.form
 obtain⟨w0,hw0,hb0,h0⟩:=aL w (.cells #[.bool b,.slice a X.length c] 27)
 obtain⟨k0,k1⟩:=duo h0
 have C:=wboth_any (blen (val X)) X M _ _ w0 (by omega) (hA.below hb0) (hM.below hb0) (hT.below hb0) hx hm hm0
 have HB0:=ac hb0
 have HX0:=ac h0
 have HM:=ac (hM.below hb0)
 clear hA hM hT hb0 h0
 go_enter Tryz.func44,Tryz.ntmps44
 go_wp2_with fail
 refine C.mono ?_
 rintro e w1 ⟨⟨v1,v2,r1,r2,rfl,A1,A2,_,_,e2,t2,_⟩,hb1⟩
 have hx1:=ae hb1 HX0.out
 obtain⟨k0,k1⟩:=duo hx1
 have HB1:=ac (bt6 HB0.out hb1)
 have hnz:=fC t2
 have hlt:=Nat.mod_lt (val X) hm0
 have hl2:r2.length≤17592186044000:=by
  rw [←t2]
  exact Nat.le_trans (aQ r2 M.length (by rw [e2];exact Nat.lt_trans hlt (val_lt HM.out.limbs))) hm
 obtain⟨a2,c2,rfl⟩:=A2.shape
 obtain⟨n,hn⟩:∃n,r2.length=n:=⟨_,rfl⟩
 rw [hn] at hnz hl2
 rw [hn]
 by_cases hp:b=true∧0<n
 ·obtain⟨rfl,hn0⟩:=hp
  have C2:=dq _ (.slice a2 r2.length c2) M r2 w1 (HM.out.below hb1) (A2.arg (by omega)) (by omega) (by rw [e2];omega)
  rw [e2,←qx (b:=true) ⟨rfl,by have:=hnz.1 hn0;omega⟩,hn] at C2
  have hni:(0:Int)<(n:Int):=by omega
  clear C A1 A2 e2 t2 hnz hlt hb1 hx1 hn0 hn
  go_wp2_with fail
  refine C2.mono ?_
  rintro e w2 ⟨⟨v3,r3,rfl,A3,e3,t3⟩,hb2⟩
  have HF:=ac (And.intro (A3.base HB1.out.size) (And.intro e3 (And.intro t3 (bt6 HB1.out hb2))))
  clear C2 A3 e3 t3 hb2
  go_wp2
  go_ret
  exact⟨⟨_,r3,rfl,HF.out.1,HF.out.2.1,HF.out.2.2.1⟩,HF.out.2.2.2⟩
 ·have he:val r2=er b (val X) (val M):=by
   rw [oY (fun h=>hp ⟨h.1,hnz.2 (by rw [e2];omega)⟩)]
   exact e2
  have HF:=ac (And.intro (A2.base HB0.out.size) (And.intro he (And.intro t2 HB1.out)))
  have hcs:b=false∨(b=true∧¬((0:Int)<(n:Int))):=by
   cases b
   ·exact .inl rfl
   ·exact .inr ⟨rfl,fun h=>hp ⟨rfl,by omega⟩⟩
  clear C A1 A2 e2 t2 hnz hlt hb1 hx1 hp he
  subst hn
  rcases hcs with rfl|⟨rfl,hni⟩
  all_goals
   go_wp2
   go_ret
   exact⟨⟨_,r2,rfl,HF.out.1,HF.out.2.1,HF.out.2.2.1⟩,HF.out.2.2.2⟩

theorem ou (b:Bool)(v:Value)(X:List Nat)(w:World)(hA:Arg w v X)(hf:X.length≤17592186044416) :
  Calls Tryz.prog 81 #[.bool b,v] w fun e w'=>jk w' w.heap.size e (zz b (val X))∧Below w.heap.size w w':=by
 obtain⟨w0,hw0,hb0,h0⟩:=aL w (.cells #[.bool false,.slice none 0 0] 27)
 have hf0:=av h0
 obtain⟨k0,k1⟩:=duo h0
 have L:=bB v X w0 (hA.below hb0)
 have HB0:=ac hb0
 have HX0:=ac h0
 have HA:=ac hA
 obtain⟨a,n,rfl,_,_,_⟩:=hA.form
 clear hA hb0 h0
 by_cases hbl:blen (val X)≤67108864
 ·have i1:¬(67108864:Int)<((blen (val X):Nat):Int):=by omega
  have HN:=gE _ X w0 (HA.out.below HB0.out) hf
  have HL:=ac hbl
  generalize hl:blen (val X)=l at *
  clear hbl
  go_enter Tryz.func81,Tryz.ntmps81
  go_wp2_with fail
  refine L.mono ?_
  rintro e wn ⟨rfl,hw⟩;rw [hw];clear hw wn L
  go_wp2_with fail
  refine HN.mono ?_
  rintro e w1 ⟨⟨v1,rfl,A1⟩,hb1⟩
  have HS:=bI b v1 (tr X) _ w1 A1
  have hsg:=bN b (tr_tr X) (val_tr X)
  rw [hsg] at HS
  have hsh:=A1.shape
  obtain⟨a1,n1,rfl⟩:=hsh
  have HA1:=ac A1
  have HB1:=ac hb1
  clear A1 hb1 HN k0 k1 hf0 hsg
  go_wp2_with fail
  refine HS.mono ?_
  rintro e w2 ⟨rfl,hb2⟩
  have HW:Hid (Below w0.heap.size w0 w2):=ac (HB1.out.trans (hb2.mono HB1.out.size))
  have HAN:=ac (HA1.out.below hb2)
  have hbx:=ae HW.out HX0.out
  have hf1:=av hbx
  obtain⟨l0,l1⟩:=duo hbx
  have HBX:=ac hbx
  have HBE:=ac (HB0.out.trans (HW.out.mono HB0.out.size))
  clear hbx
  clear hb2 HS HA1
  go_wp2
  have R5:=aH HBX.out (a':=.bool (decide (zz b (val X)<0))) (b':=.slice a1 (tr X).length n1)
  have HD:=ac (And.intro (HAN.out.duo (u0:=.bool (decide (zz b (val X)<0))) (u1:=.slice a1 (tr X).length n1) HBX.out) (aC HBE.out (g:=w.heap.size) (u0:=.bool (decide (zz b (val X)<0))) (u1:=.slice a1 (tr X).length n1) (Nat.le_refl _)))
  generalize (w2.setCell ⟨w.heap.size,0,none⟩ (.bool (decide (zz b (val X)<0)))).setCell ⟨w.heap.size,1,none⟩ (.slice a1 (tr X).length n1)=w5 at *
  obtain⟨q0,q1⟩:=duo R5
  refine bodyPost_ret (v:=.tuple #[.agg #[.bool (decide (zz b (val X)<0)),.slice a1 (tr X).length n1],.int .i64 0]) (by simp [results,Tryz.results81,go_sem,q0,q1]) rfl ?_
  exact⟨⟨_,_,_,_,0,rfl,tr X,HD.out.1.base HB0.out.size,.inl ⟨rfl,rfl,by rw [aB,val_tr],tr_tr X,by rw [aB,hl];exact HL.out⟩⟩,HD.out.2⟩
 ·have i1:(67108864:Int)<((blen (val X):Nat):Int):=by omega
  have HL:=ac hbl
  generalize hl:blen (val X)=l at *
  clear hbl
  go_enter Tryz.func81,Tryz.ntmps81
  go_wp2_with fail
  refine L.mono ?_
  rintro e wn ⟨rfl,hw⟩;rw [hw];clear hw wn L
  go_wp2
  have R5:=aH HX0.out (a':=.bool false) (b':=.slice none 0 0)
  have HD:=ac (aC HB0.out (g:=w.heap.size) (u0:=.bool false) (u1:=.slice none 0 0) (Nat.le_refl _))
  generalize (w0.setCell ⟨w.heap.size,0,none⟩ (.bool false)).setCell ⟨w.heap.size,1,none⟩ (.slice none 0 0)=w5 at *
  obtain⟨q0,q1⟩:=duo R5
  refine bodyPost_ret (v:=.tuple #[.agg #[.bool false,.slice none 0 0],.int .i64 3]) (by simp [results,Tryz.results81,go_sem,q0,q1]) rfl ?_
  exact⟨⟨_,_,_,_,3,rfl,[],Ans.nil _ _,.inr ⟨rfl,rfl,rfl,rfl,by rw [aB,hl];have:=HL.out;omega⟩⟩,HD.out⟩

theorem ml (b:Bool)(v:Value)(X:List Nat)(w:World)(hA:Arg w v X)(hf:X.length≤17592186044416) :
  Calls Tryz.prog 40 #[.agg #[.bool b,v]] w fun e w'=>jk w' w.heap.size e (zz false (val X))∧Below w.heap.size w w':=by
 obtain⟨a,n,rfl,_,_,_⟩:=hA.form
 obtain⟨w0,hw0,hb0,h0,hx0⟩:=bD w (.cells #[.bool b,.slice a X.length n] 27) (.cells #[.bool false,.slice none 0 0] 27)
 obtain⟨k0,k1⟩:=duo h0
 have HM:=ou false _ X w0 (hA.below hb0) hf
 have HB0:=ac hb0
 have HX0:=ac hx0
 generalize zz false (val X)=z at *
 clear hA hb0 h0 hx0
 go_enter Tryz.func40,Tryz.ntmps40
 go_wp2_with fail
 refine HM.mono ?_
 rintro e w1 ⟨⟨b1,a1,n1,k1,c1,rfl,hzr⟩,hb1⟩
 have HZR:=ac (hzr.base HB0.out.size)
 have HW:=ac hb1
 clear hzr hb1 HM hw0 k0
 have hbx:=ae HW.out HX0.out
 have hf1:=av hbx
 obtain⟨l0,l1⟩:=duo hbx
 have HBX:=ac hbx
 have HBE:=ac (HB0.out.trans (HW.out.mono HB0.out.size))
 clear hbx
 go_wp2
 have R5:=aH HBX.out (a':=.bool b1) (b':=.slice a1 n1 k1)
 have HD:=ac (And.intro (HZR.out.duo (u0:=.bool b1) (u1:=.slice a1 n1 k1) HBX.out) (aC HBE.out (g:=w.heap.size+1) (u0:=.bool b1) (u1:=.slice a1 n1 k1) (by omega)))
 generalize (w1.setCell ⟨w.heap.size+1,0,none⟩ (.bool b1)).setCell ⟨w.heap.size+1,1,none⟩ (.slice a1 n1 k1)=w5 at *
 obtain⟨q0,q1⟩:=duo R5
 refine bodyPost_ret (v:=.tuple #[.agg #[.bool b1,.slice a1 n1 k1],.int .i64 c1]) (by simp [results,Tryz.results40,go_sem,q0,q1]) rfl ?_
 exact⟨⟨_,_,_,_,_,rfl,HD.out.1⟩,HD.out.2⟩

theorem ik (w:World)(o1 o2 o3 o4 o5:Obj):∃w0,((((w.alloc o1).alloc o2).alloc o3).alloc o4).alloc o5=w0∧Below w.heap.size w w0∧w0.heap[w.heap.size]?=some o1∧w0.heap[w.heap.size+1]?=some o2∧w0.heap[w.heap.size+1+1]?=some o3∧w0.heap[w.heap.size+1+1+1]?=some o4∧w0.heap[w.heap.size+1+1+1+1]?=some o5:=by
 obtain⟨w1,h1,b1,c1,c2,c3,c4⟩:=dj w o1 o2 o3 o4
 obtain⟨w2,h2,b2,c5⟩:=aL w1 o5
 have hs:w1.heap.size=w.heap.size+4:=by rw [←h1,World.size_alloc,World.size_alloc,World.size_alloc,World.size_alloc]
 refine⟨w2,by rw [h1];exact h2,b1.trans (b2.mono b1.size),ae b2 c1,ae b2 c2,ae b2 c3,ae b2 c4,?_⟩
 have e:w.heap.size+1+1+1+1=w1.heap.size:=by omega
 rw [e];exact c5

theorem gO {w:World}{g:Nat}{a b a' b' a2 b2 u0 u1 u2 u3 u4 u5:Value}(h2:w.heap[g]?=some (.cells #[a,b] 27))(h3:w.heap[g+1]?=some (.cells #[a',b'] 27))(h4:w.heap[g+1+1]?=some (.cells #[a2,b2] 27)) :
  ((((((w.setCell ⟨g,0,none⟩ u0).setCell ⟨g,1,none⟩ u1).setCell ⟨g+1,0,none⟩ u2).setCell ⟨g+1,1,none⟩ u3).setCell ⟨g+1+1,0,none⟩ u4).setCell ⟨g+1+1,1,none⟩ u5).heap[g]?=some (.cells #[u0,u1] 27) ∧
  ((((((w.setCell ⟨g,0,none⟩ u0).setCell ⟨g,1,none⟩ u1).setCell ⟨g+1,0,none⟩ u2).setCell ⟨g+1,1,none⟩ u3).setCell ⟨g+1+1,0,none⟩ u4).setCell ⟨g+1+1,1,none⟩ u5).heap[g+1]?=some (.cells #[u2,u3] 27) ∧
  ((((((w.setCell ⟨g,0,none⟩ u0).setCell ⟨g,1,none⟩ u1).setCell ⟨g+1,0,none⟩ u2).setCell ⟨g+1,1,none⟩ u3).setCell ⟨g+1+1,0,none⟩ u4).setCell ⟨g+1+1,1,none⟩ u5).heap[g+1+1]?=some (.cells #[u4,u5] 27) ∧
  (∀base v zs,Ans w base v zs→Ans ((((((w.setCell ⟨g,0,none⟩ u0).setCell ⟨g,1,none⟩ u1).setCell ⟨g+1,0,none⟩ u2).setCell ⟨g+1,1,none⟩ u3).setCell ⟨g+1+1,0,none⟩ u4).setCell ⟨g+1+1,1,none⟩ u5) base v zs) ∧
  (∀B w0,B≤g→Below B w0 w→Below B w0 ((((((w.setCell ⟨g,0,none⟩ u0).setCell ⟨g,1,none⟩ u1).setCell ⟨g+1,0,none⟩ u2).setCell ⟨g+1,1,none⟩ u3).setCell ⟨g+1+1,0,none⟩ u4).setCell ⟨g+1+1,1,none⟩ u5)):=by
 have q:=fun base=>bG (base:=base) (u0:=u0) (u1:=u1) (u2:=u2) (u3:=u3) h2 h3
 have h5:=bJ (u0:=u2) (u1:=u3) (bJ (u0:=u0) (u1:=u1) h4 (show g+1+1≠g by omega)) (show g+1+1≠g+1 by omega)
 refine⟨bJ (q 0).1 (by omega),bJ (q 0).2.1 (by omega),aH h5,fun base v zs hA=>((q base).2.2 v zs hA).duo h5,fun B w0 hB hb=>?_⟩
 exact aC (aC (aC hb hB) (by omega)) (by omega)

theorem ke (L:Nat)(v1:Value)(X:List Nat)(w:World)(hL:w.heap[L]?=some (.cells #[v1] 25))(hA:Arg w v1 X) :
  Calls Tryz.prog 45 #[.slice (some ⟨L,0,none⟩) 1 1] w fun e w'=>e=.returned (.bool (decide (67108864<blen (val X))))∧w'=w:=by
 have c0:w.cell? ⟨L,0,none⟩=some v1:=by simp [World.cell?,hL]
 have L1:=bB v1 X w hA
 obtain⟨a1,n1,rfl,_,_,_⟩:=hA.form
 clear hA hL
 generalize blen (val X)=lx at *
 by_cases h1:67108864<lx
 ·have i1:(67108864:Int)<(lx:Int):=by omega
  rw [decide_eq_true h1]
  go_enter Tryz.func45,Tryz.ntmps45
  go_wp2
  refine wp_loop_rounds 1 ?_
  rw [rounds_succ]
  go_wp2_with fail
  refine L1.mono ?_
  rintro e wn ⟨rfl,hw⟩;rw [hw];clear hw wn L1
  go_wp2
  go_ret
  exact⟨rfl,rfl⟩
 ·have i1:¬(67108864:Int)<(lx:Int):=by omega
  rw [decide_eq_false h1]
  go_enter Tryz.func45,Tryz.ntmps45
  go_wp2
  refine wp_loop_rounds 2 ?_
  rw [rounds_succ]
  go_wp2_with fail
  refine L1.mono ?_
  rintro e wn ⟨rfl,hw⟩;rw [hw];clear hw wn L1
  go_wp2
  rw [rounds_succ]
  go_wp2
  go_ret
  exact⟨rfl,rfl⟩

theorem oM {X:List Nat}(ht:tr X=X):val X=1 ↔ X=[1]:=by
 constructor
 ·intro h
  have hl:X.length≤1:=ch ht (n:=1) (by rw [h];decide)
  have h1:1≤X.length:=gB (by omega)
  obtain⟨z,hz⟩:=List.length_eq_one_iff.1 (show X.length=1 by omega)
  subst hz
  simp [val] at h
  rw [h]
 ·intro h
  rw [h];simp [val]

theorem rc (v:Value)(X:List Nat)(w:World)(hA:Arg w v X)(ht:tr X=X) :
  Calls Tryz.prog 51 #[v] w fun e w'=>e=.returned (.bool (decide (val X=1)))∧Below w.heap.size w w':=by
 obtain⟨a,c,rfl,_,_,hl⟩:=hA.form
 have h1:=oM ht
 by_cases hx:X.length=1
 ·obtain⟨z,hz⟩:=List.length_eq_one_iff.1 hx
  subst hz
  obtain⟨g,o,rfl,hc⟩:∃g o,a=some ⟨g,o,none⟩∧∀k,k<[z].length→w.cell? ⟨g,o+k,none⟩=some (lv ([z].getD k 0)):=by
   rcases hl with h|⟨g,o,h,hc⟩
   ·simp at h
   ·exact⟨g,o,h,hc⟩
  have c0:w.cell? ⟨g,o,none⟩=some (.int .u64 (z:Int)):=by
   have h9:w.cell? ⟨g,o,none⟩=some (lv z):=by simpa using hc 0 (by simp)
   exact h9
  have HB:Hid (Below w.heap.size w w):=ac (Below.refl _ _)
  have hz1:([z]=[1]) ↔ z=1:=by simp
  rw [hz1] at h1
  clear hA hl hc
  by_cases h:z=1
  ·rw [decide_eq_true (h1.2 h)]
   subst h
   clear h1 hz1
   go_enter Tryz.func51,Tryz.ntmps51
   go_wp2
   go_ret
   exact⟨rfl,Below.refl _ _⟩
  ·rw [decide_eq_false (fun e=>h (h1.1 e))]
   have hb:((z:Int) == 1)=false:=by rw [beq_eq_false_iff_ne];omega
   have hb2:¬(z:Int)=1:=by omega
   clear h1 hz1
   go_enter Tryz.func51,Tryz.ntmps51
   go_wp2
   go_ret
   exact⟨rfl,Below.refl _ _⟩
 ·rw [decide_eq_false (fun e=>hx (by rw [h1.1 e];rfl))]
  have i1:¬(X.length:Int)=1:=by omega
  have i2:((X.length:Int) == 1)=false:=by rw [beq_eq_false_iff_ne];omega
  clear h1 hA hl hx
  go_enter Tryz.func51,Tryz.ntmps51
  go_wp2
  go_ret
  exact⟨rfl,Below.refl _ _⟩

structure cq (az bz:Int)(g:Nat)(x y:Int):Prop where
 eq:az*x+bz*y=(g:Int)
 gcd:g=Nat.gcd az.natAbs bz.natAbs
 none:bz=0→x=az.sign∧y=0
 some:bz≠0→0≤x∧x.natAbs*g<bz.natAbs
 ly:y.natAbs≤az.natAbs∨y.natAbs≤1

theorem iT (ba bb:Bool)(A B x:Nat)(hB:0<B)(hi:IsInv B (er ba A B) (Nat.gcd B (er ba A B)) x) :
  cq (zz ba A) (zz bb B) (Nat.gcd B (er ba A B)) (x:Int) (oth ba bb A B (Nat.gcd B (er ba A B)) x):=by
 have hg:=dI ba A B hB
 obtain⟨h1,h2⟩:=oa ba bb A B (Nat.gcd B (er ba A B)) x hB hg hi
 have hz:zz bb B≠0:=fun e=>by have:=aB bb B;rw [e] at this;simp at this;omega
 have hg0:0<Nat.gcd B (er ba A B):=Nat.gcd_pos_of_pos_left _ hB
 refine⟨h1,by rw [aB,aB];exact hg,fun e=>absurd e hz,fun _=>⟨Int.natCast_nonneg _,?_⟩,by rw [aB];exact h2⟩
 rw [aB,Int.natAbs_natCast]
 rcases hi.lt with h|⟨h,_⟩
 ·exact h
 ·rw [h,Nat.zero_mul];exact hB

theorem ju (ba bb:Bool)(A:Nat):cq (zz ba A) (zz bb 0) A (zz ba A).sign 0:=by
 refine⟨?_,by rw [aB,eC];simp,fun _=>⟨rfl,rfl⟩,fun h=>absurd (eC bb) h,.inr (by simp)⟩
 rw [Int.mul_zero,Int.add_zero,Int.mul_sign_self,aB]

def Ap (u v:Value):Prop:=∀k,u.ownBlock=some k→v.ownBlock≠some k

def gH (az bz:Int)(w:World)(e:Ending)(w':World):Prop:=
 (∃(g:Nat) (x y:Int) (b1:Bool) (a1:Option Addr) (n1 k1:Nat) (b2:Bool) (a2:Option Addr) (n2 k2:Nat) (b3:Bool) (a3:Option Addr) (n3 k3:Nat),e=.returned (.tuple #[.agg #[.bool b1,.slice a1 n1 k1],.agg #[.bool b2,.slice a2 n2 k2],.agg #[.bool b3,.slice a3 n3 k3],.int .i64 0]) ∧
  ZA w' w.heap.size b1 (.slice a1 n1 k1) (g:Int)∧ZA w' w.heap.size b2 (.slice a2 n2 k2) x∧ZA w' w.heap.size b3 (.slice a3 n3 k3) y∧Ap (.slice a1 n1 k1) (.slice a2 n2 k2)∧Ap (.slice a1 n1 k1) (.slice a3 n3 k3)∧Ap (.slice a2 n2 k2) (.slice a3 n3 k3)∧cq az bz g x y)∧Below w.heap.size w w'

theorem dz {w w':World}{b1:Nat}{u v:Value}{r s:List Nat}(h1:Ans w b1 u r)(h2:Ans w' w.heap.size v s):Ap u v:=by
 intro k e e2
 have:=(h1.own.lt k e).2
 have:=(h2.own.lt k e2).1
 omega

theorem bA {x y:Nat}(h:x≤y):blen x≤blen y:=(blen_le_iff x _).2 (Nat.lt_of_le_of_lt h ((blen_le_iff y _).1 (Nat.le_refl _)))

theorem gc (x y:Nat):blen (x*y)≤blen x+blen y:=by
 refine (blen_le_iff _ _).2 ?_
 have h1:=(blen_le_iff x _).1 (Nat.le_refl _)
 have h2:=(blen_le_iff y _).1 (Nat.le_refl _)
 rw [Nat.pow_add]
 exact Nat.mul_lt_mul_of_lt_of_lt h1 h2

theorem cX {r:List Nat}(ht:tr r=r)(hb:blen (val r)≤67108864):r.length≤1048576:=by
 have h:=few_limbs r 1048576 (by omega)
 rw [ht] at h
 exact h

theorem jA {r x:Nat}(hb:blen x≤67108864)(hv:r≤x∨r≤1):blen r≤67108864:=by
 rcases hv with h|h
 ·exact Nat.le_trans (bA h) hb
 ·have h1:blen r≤1:=(blen_le_iff _ _).2 (by omega)
  omega

theorem qZ (ba bb:Bool)(va vb:Value)(X Y:List Nat)(w:World)(hA:Arg w va X)(hB:Arg w vb Y)(hT:Tab w)(lX:X.length≤17592186043904)(lY:Y.length≤17592186043904)(bX:blen (val X)≤67108864)(bY:blen (val Y)≤67108864)(hy0:0<val Y) :
  Calls Tryz.prog 9 #[.agg #[.bool ba,va],.agg #[.bool bb,vb]] w (gH (zz ba (val X)) (zz bb (val Y)) w):=by
 obtain⟨a1,c1,rfl,_,_,_⟩:=hA.form
 obtain⟨a2,c2,rfl,_,_,_⟩:=hB.form
 obtain⟨w0,hw0,hb0,h0,h1,h2,h3,h4⟩:=ik w (.cells #[.bool ba,.slice a1 X.length c1] 27) (.cells #[.bool bb,.slice a2 Y.length c2] 27) (.cells #[.bool false,.slice none 0 0] 27) (.cells #[.bool false,.slice none 0 0] 27) (.cells #[.bool false,.slice none 0 0] 27)
 obtain⟨k0,k1⟩:=duo h0
 obtain⟨k2,k3⟩:=duo h1
 have C:=dC _ Y w0 (hB.below hb0)
 rw [decide_eq_false (by omega)] at C
 have H0:=ac h0
 have H1:=ac h1
 have HR:=ac (And.intro h2 (And.intro h3 h4))
 have HB0:=ac hb0
 have HA:=ac (hA.below hb0)
 have HB:=ac (hB.below hb0)
 have HT:=ac (hT.below hb0)
 have HY0:=ac hy0
 have HL:=ac (And.intro lX lY)
 have HBL:=ac (And.intro bX bY)
 clear hA hB hT hb0 h0 h1 h2 h3 h4 hy0 lX lY bX bY
 go_enter Tryz.func9,Tryz.ntmps9
 go_wp2_with fail
 refine C.mono ?_
 rintro e wn ⟨rfl,hw⟩;rw [hw];clear hw wn C
 have g0:Below w0.drew.heap.size w0.drew w0.drew:=Below.refl _ _
 have P2:=ac (fun (W:World) (v1:Value) (r1:List Nat) (hg:Below w0.drew.heap.size w0.drew W) (h1:Ans W w0.drew.heap.size v1 r1) (hv:val r1=er ba (val X) (val Y)) (ht:tr r1=r1)=>
  show Calls Tryz.prog 43 #[v1,.slice a2 Y.length c2] W (dg (val Y) (er ba (val X) (val Y)) W) by
   have hlt:=gL ba (val X) (val Y) HY0.out
   have hl:r1.length≤Y.length:=ch ht (by rw [hv];exact Nat.lt_trans hlt (val_lt HB.out.limbs))
   have hl2:=HL.out.2
   have h:=kd v1 _ r1 Y W (h1.arg (by omega)) ((HB.out.below (Below.refl _ _).drew).below hg) ((HT.out.below (Below.refl _ _).drew).below hg) (by rw [hv];exact hlt) (by omega) (by omega)
   rw [hv] at h
   exact h)
 have P1:=kj ba _ X _ Y w0.drew (HA.out.below (Below.refl _ _).drew) (HB.out.below (Below.refl _ _).drew) (HT.out.below (Below.refl _ _).drew) (by have:=HL.out;omega) (by have:=HL.out;omega) HY0.out
 have KS:=ac (fun (W:World) (hg:Below w0.drew.heap.size w0.drew W)=>show W.cell? ⟨w.heap.size,0,none⟩=some (.bool ba)∧W.cell? ⟨w.heap.size,1,none⟩=some (.slice a1 X.length c1)∧W.cell? ⟨w.heap.size+1,1,none⟩=some (.slice a2 Y.length c2) from
  ⟨(duo (ae hg (show w0.drew.heap[w.heap.size]?=some (.cells #[.bool ba,.slice a1 X.length c1] 27) from H0.out))).1,(duo (ae hg (show w0.drew.heap[w.heap.size]?=some (.cells #[.bool ba,.slice a1 X.length c1] 27) from H0.out))).2,(duo (ae hg (show w0.drew.heap[w.heap.size+1]?=some (.cells #[.bool bb,.slice a2 Y.length c2] 27) from H1.out))).2⟩)
 go_wp2
 go_region_held3 (fun w'=>w'.cell? ⟨w.heap.size,0,none⟩=some (.bool ba)∧w'.cell? ⟨w.heap.size,1,none⟩=some (.slice a1 X.length c1)∧w'.cell? ⟨w.heap.size+1,1,none⟩=some (.slice a2 Y.length c2)) (first|with_reducible exact KS.out _ g2|with_reducible exact KS.out _ g1|with_reducible exact KS.out _ g0) (first
  | (go_at_call 44;refine P1.mono ?_;rintro e' t1 ⟨⟨v1,r1,rfl,x1,x2,x3⟩,hb1⟩;have g1:=bt6 g0 hb1;obtain⟨a8,k8,rfl⟩:=x1.shape)
  | (go_at_call 43;refine (P2.out t1 _ r1 g1 x1 x2 x3).mono ?_;rintro e' t2 ⟨⟨v3,v4,r3,r4,rfl,y1,y2,y3,y4,y5,y6,y7⟩,hb2⟩;have g2:=bt6 g1 hb2;obtain⟨a3,c3,rfl⟩:=y1.shape;obtain⟨a4,c4,rfl⟩:=y2.shape))
 all_goals
  have hb02:Below w0.heap.size w0 t2:=cY g2
  have b3:blen (val r3)≤67108864:=Nat.le_trans (bA (by rw [y3];exact Nat.gcd_le_left _ HY0.out)) HBL.out.2
  have b4:blen (val r4)≤67108864:=Nat.le_trans (bA (Nat.le_of_lt (ee y5 HY0.out (Nat.gcd_pos_of_pos_left _ HY0.out)))) HBL.out.2
  have l3:=cX y4 b3
  have l4:=cX y6 b4
  have n3:¬67108864<blen (val r3):=by omega
  have n4:¬67108864<blen (val r4):=by omega
  obtain⟨wv,hwv,hbv,hxv⟩:=aL t2 (.cells #[.slice a3 r3.length c3,.slice a4 r4.length c4] 25)
  have AB:=dr t2.heap.size _ _ r3 r4 wv hxv ((y1.arg (by omega)).below hbv) ((y2.arg (by omega)).below hbv)
  rw [decide_eq_false (by rintro (h|h);exact n3 h;exact n4 h)] at AB
  have hb0v:Below w0.heap.size w0 wv:=aA hb02 hbv
  obtain⟨m0,m1⟩:=duo (ae hb0v H0.out)
  obtain⟨m2,m3⟩:=duo (ae hb0v H1.out)
  have OT:=oP ba bb _ _ _ _ X Y r3 r4 wv (HA.out.below hb0v) (HB.out.below hb0v) ((y1.arg (by omega)).below hbv) ((y2.arg (by omega)).below hbv) (HT.out.below hb0v) HY0.out HL.out.1 (by omega) (fun r hr ht=>by
   have h1:=gc (val X) (val r4)
   rw [←hr] at h1
   have h2:=HBL.out.1
   have h3:=few_limbs r 2097152 (by omega)
   rw [ht] at h3
   omega) (by omega) HL.out.2
  have HN:=ac (iT ba bb (val X) (val Y) (val r4) HY0.out y5)
  rw [y3] at OT
  obtain⟨G,hG⟩:∃G,Nat.gcd (val Y) (er ba (val X) (val Y))=G:=⟨_,rfl⟩
  rw [hG] at OT HN y3
  obtain⟨zy,hzy⟩:∃zy,oth ba bb (val X) (val Y) G (val r4)=zy:=⟨_,rfl⟩
  rw [hzy] at OT HN
  have hs1:w.heap.size≤t1.heap.size:=by have:=g1.size;have:=HB0.out.size;exact Nat.le_trans HB0.out.size g1.size
  have HA3:=ac ((y1.below hbv).base hs1)
  have HA4:=ac ((y2.below hbv).base hs1)
  have HV:=ac (And.intro y3 (And.intro y4 (And.intro y6 y7)))
  have HBV:=ac hb0v
  clear P1 P2 KS g0 g1 g2 hb1 hb2 x1 x2 x3 y1 y2 y3 y4 y5 y6 y7 n3 n4 hbv hxv hb0v hb02 hG hzy hs1 l3 l4 b3 b4 HA HB HT k0 k1 k2 k3
  go_wp2_with fail
  refine AB.mono ?_
  rintro e wn ⟨rfl,hw⟩;rw [hw];clear hw wn AB
  go_wp2_with fail
  clear hwv m0 m1 m2 m3
  refine OT.mono ?_
  rintro e t5 ⟨⟨b5,a5,n5,k5,r5,rfl,hb5z,hA5,hv5,ht5⟩,hb5⟩
  obtain⟨t6,ht6,hb6,hx6⟩:=aL t5 (.cells #[.bool false,.slice none 0 0] 27)
  obtain⟨z0,z1⟩:=duo hx6
  have zf:=av hx6
  have R7:=aH (a':=.bool b5) (b':=.slice a5 n5 k5) hx6
  have hb7:Below t5.heap.size t5 ((t6.setCell ⟨t5.heap.size,0,none⟩ (.bool b5)).setCell ⟨t5.heap.size,1,none⟩ (.slice a5 n5 k5)):=aC hb6 (Nat.le_refl _)
  obtain⟨t8,ht8,hb8,hx8⟩:=aL ((t6.setCell ⟨t5.heap.size,0,none⟩ (.bool b5)).setCell ⟨t5.heap.size,1,none⟩ (.slice a5 n5 k5)) (.cells #[.slice a5 n5 k5] 25)
  have hb58:Below t5.heap.size t5 t8:=aA hb7 hb8
  have R8:=ae hb8 R7
  have hx8':t8.heap[t6.heap.size]?=some (.cells #[.slice a5 n5 k5] 25):=by simpa using hx8
  have b5':blen (val r5)≤67108864:=jA HBL.out.1 (by have h1:=HN.out.ly;rw [aB] at h1;rw [hv5];exact h1)
  have l5:=cX ht5 b5'
  have n5':¬67108864<blen (val r5):=by omega
  have AB:=ke t6.heap.size _ r5 t8 hx8' ((hA5.below hb58).arg (by omega))
  rw [decide_eq_false n5'] at AB
  have HA5:=ac ((hA5.below hb58).base (Nat.le_trans HB0.out.size HBV.out.size))
  have HP5:=ac (show Ap (.slice a3 r3.length c3) (.slice a5 n5 k5)∧Ap (.slice a4 r4.length c4) (.slice a5 n5 k5) from ⟨dz HA3.out hA5,dz HA4.out hA5⟩)
  have HV5:=ac (And.intro hb5z (And.intro hv5 ht5))
  have HBX:=ac (aA (aA HBV.out hb5) hb58)
  have HB5:=ac (aA hb5 hb58)
  have HR8:=ac R8
  have HNE:=ac (show w.heap.size+1+1≠t5.heap.size∧w.heap.size+1+1+1≠t5.heap.size by
   have h1:=bh HR.out.2.2
   have h2:=HBV.out.size
   have h3:=hb5.size
   omega)
  clear hb5z hA5 hv5 ht5 hb5 hb6 hx6 hb7 hb8 hx8 hx8' hb58 R8 n5' l5 b5' OT
  go_wp2_with fail
  refine AB.mono ?_
  rintro e wn ⟨rfl,hw⟩;rw [hw];clear hw wn AB
  clear ht6 ht8 z0 z1 zf R7
  have g0:Below t8.drew.heap.size t8.drew t8.drew:=Below.refl _ _
  have gw:∀W,Below t8.drew.heap.size t8.drew W→Below t8.heap.size t8 W:=fun W h=>cY h
  obtain⟨u1,hu1⟩:∃u1,decide ((G:Int)<0)=u1:=⟨_,rfl⟩
  obtain⟨u2,hu2⟩:∃u2,decide (((val r4:Nat):Int)<0)=u2:=⟨_,rfl⟩
  have S1:=ac (fun (W:World) (hg:Below t8.drew.heap.size t8.drew W)=>show Calls Tryz.prog 47 #[.bool false,.slice a3 r3.length c3] W fun e w'=>e=.returned (.agg #[.bool u1,.slice a3 r3.length c3])∧Below W.heap.size W w' by
   have h:=dF false _ r3 w.heap.size W G (G:Int) rfl ((HA3.out.below HB5.out).below (gw W hg)) HV.out.1 HV.out.2.1
   rw [hu1] at h
   exact h)
  have S2:=ac (fun (W:World) (hg:Below t8.drew.heap.size t8.drew W)=>show Calls Tryz.prog 47 #[.bool false,.slice a4 r4.length c4] W fun e w'=>e=.returned (.agg #[.bool u2,.slice a4 r4.length c4])∧Below W.heap.size W w' by
   have h:=dF false _ r4 w.heap.size W (val r4) ((val r4:Nat):Int) rfl ((HA4.out.below HB5.out).below (gw W hg)) rfl HV.out.2.2.1
   rw [hu2] at h
   exact h)
  have KY:=ac (fun (W:World) (hg:Below t8.drew.heap.size t8.drew W)=>show W.heap[t5.heap.size]?=some (.cells #[.bool b5,.slice a5 n5 k5] 27) from ae (gw W hg) HR8.out)
  have KR:=ac (fun (W:World) (hg:Below t8.drew.heap.size t8.drew W)=>show W.heap[w.heap.size+1+1]?=some (.cells #[.bool false,.slice none 0 0] 27)∧W.heap[w.heap.size+1+1+1]?=some (.cells #[.bool false,.slice none 0 0] 27)∧W.heap[w.heap.size+1+1+1+1]?=some (.cells #[.bool false,.slice none 0 0] 27) from
   ⟨ae (gw W hg) (ae HBX.out HR.out.1),ae (gw W hg) (ae HBX.out HR.out.2.1),ae (gw W hg) (ae HBX.out HR.out.2.2)⟩)
  obtain⟨q0,q1⟩:=duo (KY.out _ g0)
  have HU:=ac (And.intro hu1 hu2)
  clear hu1 hu2 gw
  go_wp2
  go_region_with (first
   | (go_at_call 47;refine (S2.out t10 g1).mono ?_;rintro e' t11 ⟨rfl,hb11⟩;have g2:=bt6 g1 hb11;obtain⟨q4,q5⟩:=duo (KY.out _ g2);have y2:((t11.setCell ⟨w.heap.size+1+1,0,none⟩ (.bool u1)).setCell ⟨w.heap.size+1+1,1,none⟩ (.slice a3 r3.length c3)).cell? ⟨t5.heap.size,0,none⟩=some (.bool b5):=(by rw [bk HNE.out.1,bk HNE.out.1];exact q4);have y3:((t11.setCell ⟨w.heap.size+1+1,0,none⟩ (.bool u1)).setCell ⟨w.heap.size+1+1,1,none⟩ (.slice a3 r3.length c3)).cell? ⟨t5.heap.size,1,none⟩=some (.slice a5 n5 k5):=(by rw [bk HNE.out.1,bk HNE.out.1];exact q5);have y4:((((t11.setCell ⟨w.heap.size+1+1,0,none⟩ (.bool u1)).setCell ⟨w.heap.size+1+1,1,none⟩ (.slice a3 r3.length c3)).setCell ⟨w.heap.size+1+1+1,0,none⟩ (.bool u2)).setCell ⟨w.heap.size+1+1+1,1,none⟩ (.slice a4 r4.length c4)).cell? ⟨t5.heap.size,0,none⟩=some (.bool b5):=(by rw [bk HNE.out.2,bk HNE.out.2,bk HNE.out.1,bk HNE.out.1];exact q4);have y5:((((t11.setCell ⟨w.heap.size+1+1,0,none⟩ (.bool u1)).setCell ⟨w.heap.size+1+1,1,none⟩ (.slice a3 r3.length c3)).setCell ⟨w.heap.size+1+1+1,0,none⟩ (.bool u2)).setCell ⟨w.heap.size+1+1+1,1,none⟩ (.slice a4 r4.length c4)).cell? ⟨t5.heap.size,1,none⟩=some (.slice a5 n5 k5):=(by rw [bk HNE.out.2,bk HNE.out.2,bk HNE.out.1,bk HNE.out.1];exact q5);obtain⟨x1,x2,x3⟩:=KR.out _ g2;have f1:=av x1;have f2:=av x2;have f3:=av x3;obtain⟨e0,e1⟩:=duo x1;obtain⟨e2,e3⟩:=duo x2;obtain⟨e4,e5⟩:=duo x3)
   | (go_at_call 47;refine (S1.out _ g0).mono ?_;rintro e' t10 ⟨rfl,hb10⟩;have g1:=bt6 g0 hb10;obtain⟨q2,q3⟩:=duo (KY.out _ g1)))
  all_goals
   have hbt:Below t8.heap.size t8 t11:=cY g2
   have HX:=ac (And.intro x1 (And.intro x2 (And.intro x3 hbt)))
   clear g0 g1 g2 hb10 hb11 hbt q0 q1 q2 q3 q4 q5 y2 y3 y4 y5 KY KR S1 S2 x1 x2 x3
   go_wp2
   have hq:=gO (u0:=.bool u1) (u1:=.slice a3 r3.length c3) (u2:=.bool u2) (u3:=.slice a4 r4.length c4) (u4:=.bool b5) (u5:=.slice a5 n5 k5) HX.out.1 HX.out.2.1 HX.out.2.2.1
   have HE:=ac (And.intro (hq.2.2.2.1 _ _ _ ((HA3.out.below HB5.out).below HX.out.2.2.2)) (And.intro (hq.2.2.2.1 _ _ _ ((HA4.out.below HB5.out).below HX.out.2.2.2)) (And.intro (hq.2.2.2.1 _ _ _ (HA5.out.below HX.out.2.2.2)) (hq.2.2.2.2 w.heap.size w (by omega) (aA (aA HB0.out HBX.out) HX.out.2.2.2)))))
   obtain⟨R5,R6,R7,_,_⟩:=hq
   generalize (((((t11.setCell ⟨w.heap.size+1+1,0,none⟩ (.bool u1)).setCell ⟨w.heap.size+1+1,1,none⟩ (.slice a3 r3.length c3)).setCell ⟨w.heap.size+1+1+1,0,none⟩ (.bool u2)).setCell ⟨w.heap.size+1+1+1,1,none⟩ (.slice a4 r4.length c4)).setCell ⟨w.heap.size+1+1+1+1,0,none⟩ (.bool b5)).setCell ⟨w.heap.size+1+1+1+1,1,none⟩ (.slice a5 n5 k5)=w12 at *
   obtain⟨p0,p1⟩:=duo R5
   obtain⟨p2,p3⟩:=duo R6
   obtain⟨p4,p5⟩:=duo R7
   refine bodyPost_ret (v:=.tuple #[.agg #[.bool u1,.slice a3 r3.length c3],.agg #[.bool u2,.slice a4 r4.length c4],.agg #[.bool b5,.slice a5 n5 k5],.int .i64 0]) (by simp [results,Tryz.results9,go_sem,p0,p1,p2,p3,p4,p5]) rfl ?_
   exact⟨⟨G,((val r4:Nat):Int),zy,_,_,_,_,_,_,_,_,_,_,_,_,rfl,⟨r3,HE.out.1,HU.out.1.symm,by rw [Int.natAbs_natCast];exact HV.out.1,HV.out.2.1⟩,⟨r4,HE.out.2.1,HU.out.2.symm,(Int.natAbs_natCast _).symm,HV.out.2.2.1⟩,⟨r5,HE.out.2.2.1,HV5.out⟩,HV.out.2.2.2,HP5.out.1,HP5.out.2,HN.out⟩,HE.out.2.2.2⟩

theorem mo (ba bb:Bool)(va vb:Value)(X Y:List Nat)(w:World)(hA:Arg w va X)(hB:Arg w vb Y)(lX:X.length≤17592186043904)(bX:blen (val X)≤67108864)(hy0:val Y=0) :
  Calls Tryz.prog 9 #[.agg #[.bool ba,va],.agg #[.bool bb,vb]] w (gH (zz ba (val X)) (zz bb (val Y)) w):=by
 obtain⟨a1,c1,rfl,_,_,_⟩:=hA.form
 obtain⟨a2,c2,rfl,_,_,_⟩:=hB.form
 obtain⟨w0,hw0,hb0,h0,h1,h2,h3,h4⟩:=ik w (.cells #[.bool ba,.slice a1 X.length c1] 27) (.cells #[.bool bb,.slice a2 Y.length c2] 27) (.cells #[.bool false,.slice none 0 0] 27) (.cells #[.bool false,.slice none 0 0] 27) (.cells #[.bool false,.slice none 0 0] 27)
 obtain⟨k0,k1⟩:=duo h0
 obtain⟨k2,k3⟩:=duo h1
 have C:=dC _ Y w0 (hB.below hb0)
 rw [decide_eq_true hy0] at C
 have CA:=ml ba _ X w0 (hA.below hb0) (by omega)
 have HN:Hid (cq (zz ba (val X)) (zz bb (val Y)) (val X) (zz ba (val X)).sign 0):=by rw [hy0];exact ac (ju ba bb (val X))
 have hfit:¬67108864<blen (val X):=by omega
 have H0:=ac h0
 have HR:=ac (And.intro h2 (And.intro h3 h4))
 have HB0:=ac hb0
 have HA:=ac (hA.below hb0)
 have HF:=ac hfit
 clear hA hB hb0 h0 h1 h2 h3 h4 hy0 lX bX hfit
 go_enter Tryz.func9,Tryz.ntmps9
 go_wp2_with fail
 refine C.mono ?_
 rintro e wn ⟨rfl,hw⟩;rw [hw];clear hw wn C
 go_wp2_with fail
 refine CA.mono ?_
 rintro e t5 ⟨⟨b5,a5,n5,k5,c5,rfl,r5,hA5,hcase⟩,hb5⟩
 obtain⟨rfl,hb5z,hv5,ht5⟩:c5=0∧b5=decide (zz false (val X)<0)∧val r5=(zz false (val X)).natAbs∧tr r5=r5:=by
  rcases hcase with ⟨h1,h2,h3,h4,_⟩|⟨_,_,_,_,h⟩
  ·exact⟨h1,h2,h3,h4⟩
  ·rw [aB] at h
   exact absurd h HF.out
 obtain⟨t6,ht6,hb6,hx6⟩:=aL t5 (.cells #[.bool false,.slice none 0 0] 27)
 obtain⟨z0,z1⟩:=duo hx6
 have zf:=av hx6
 have R7:=aH (a':=.bool b5) (b':=.slice a5 n5 k5) hx6
 have hb7:Below t5.heap.size t5 ((t6.setCell ⟨t5.heap.size,0,none⟩ (.bool b5)).setCell ⟨t5.heap.size,1,none⟩ (.slice a5 n5 k5)):=aC hb6 (Nat.le_refl _)
 have HA5:=ac ((hA5.below hb7).base HB0.out.size)
 have HV5:=ac (And.intro hb5z (And.intro hv5 ht5))
 have HBX:=ac (aA hb5 hb7)
 have HR7:=ac R7
 clear hA5 hb5z hv5 ht5 hb5 hb6 hx6 hb7 hcase CA k2 k3
 obtain⟨t7,ht7⟩:∃t7,(t6.setCell ⟨t5.heap.size,0,none⟩ (.bool b5)).setCell ⟨t5.heap.size,1,none⟩ (.slice a5 n5 k5)=t7:=⟨_,rfl⟩
 rw [ht7] at R7 HA5 HBX HR7
 go_wp2_with fail
 clear ht6 ht7 z0 z1 zf R7 k0 k1
 have g0:Below t7.drew.heap.size t7.drew t7.drew:=Below.refl _ _
 have gw:∀W,Below t7.drew.heap.size t7.drew W→Below t7.heap.size t7 W:=fun W h=>cY h
 obtain⟨s0,hs0⟩:∃s0,sg ba (val X)=s0:=⟨_,rfl⟩
 have hs1:-1≤s0∧s0≤1:=by rw [←hs0];unfold sg;split <;> (try split) <;> omega
 have HSG:=ac hs0
 have CS:=ac (fun (W:World) (hg:Below t7.drew.heap.size t7.drew W)=>show Calls Tryz.prog 42 #[.agg #[.bool ba,.slice a1 X.length c1]] W fun e w'=>e=.returned (.int .i64 s0)∧Below W.heap.size W w' by
  have h:=ob ba _ X W ((HA.out.below HBX.out).below (gw W hg))
  rw [hs0] at h
  exact h)
 have CO:=ac (fun (W:World)=>gK s0 W (by omega) (by omega))
 have KG:=ac (fun (W:World) (hg:Below t7.drew.heap.size t7.drew W)=>show W.heap[t5.heap.size]?=some (.cells #[.bool b5,.slice a5 n5 k5] 27) from ae (gw W hg) HR7.out)
 have KR:=ac (fun (W:World) (hg:Below t7.drew.heap.size t7.drew W)=>show W.heap[w.heap.size+1+1]?=some (.cells #[.bool false,.slice none 0 0] 27)∧W.heap[w.heap.size+1+1+1]?=some (.cells #[.bool false,.slice none 0 0] 27)∧W.heap[w.heap.size+1+1+1+1]?=some (.cells #[.bool false,.slice none 0 0] 27) from
   ⟨ae (gw W hg) (ae HBX.out HR.out.1),ae (gw W hg) (ae HBX.out HR.out.2.1),ae (gw W hg) (ae HBX.out HR.out.2.2)⟩)
 obtain⟨k0,k1⟩:=duo (ae (gw _ g0) (ae HBX.out H0.out))
 obtain⟨q0,q1⟩:=duo (KG.out _ g0)
 clear hs0 hs1 gw
 go_wp2
 go_region_with (first
  | (go_at_call 42;refine (CS.out _ g0).mono ?_;rintro e' t9 ⟨rfl,hb9⟩;have g1:=bt6 g0 hb9;obtain⟨q2,q3⟩:=duo (KG.out _ g1))
  | (go_at_call 41;refine (CO.out t9).mono ?_;rintro e' t11 ⟨⟨b6,a6,n6,k6,rfl,hz6⟩,hb11⟩;have g2:=bt6 g1 hb11;obtain⟨q4,q5⟩:=duo (KG.out _ g2);obtain⟨x1,x2,x3⟩:=KR.out _ g2;have f1:=av x1;have f2:=av x2;have f3:=av x3;obtain⟨e0,e1⟩:=duo x1;obtain⟨e2,e3⟩:=duo x2;obtain⟨e4,e5⟩:=duo x3))
 all_goals
  have hbt:Below t7.heap.size t7 t11:=cY g2
  have hbt1:Below t7.heap.size t7 t9:=cY g1
  have HX:=ac (And.intro x1 (And.intro x2 (And.intro x3 hbt)))
  obtain⟨r6,z1,z2⟩:=hz6
  have HAP:=ac (dz (HA5.out.below hbt1) z1)
  have HA6:=ac (And.intro (z1.base (Nat.le_trans (Nat.le_trans HB0.out.size HBX.out.size) hbt1.size)) z2)
  clear g0 g1 g2 hb9 hb11 hbt hbt1 q0 q1 q2 q3 q4 q5 KG KR CS CO x1 x2 x3 z1 z2 k0 k1
  go_wp2
  have hq:=gO (u0:=.bool b5) (u1:=.slice a5 n5 k5) (u2:=.bool b6) (u3:=.slice a6 n6 k6) (u4:=.bool false) (u5:=.slice none 0 0) HX.out.1 HX.out.2.1 HX.out.2.2.1
  have HE:=ac (And.intro (hq.2.2.2.1 _ _ _ (HA5.out.below HX.out.2.2.2)) (And.intro (hq.2.2.2.1 _ _ _ HA6.out.1) (hq.2.2.2.2 w.heap.size w (by omega) (aA (aA HB0.out HBX.out) HX.out.2.2.2))))
  obtain⟨R5,R6,R7,_,_⟩:=hq
  generalize (((((t11.setCell ⟨w.heap.size+1+1,0,none⟩ (.bool b5)).setCell ⟨w.heap.size+1+1,1,none⟩ (.slice a5 n5 k5)).setCell ⟨w.heap.size+1+1+1,0,none⟩ (.bool b6)).setCell ⟨w.heap.size+1+1+1,1,none⟩ (.slice a6 n6 k6)).setCell ⟨w.heap.size+1+1+1+1,0,none⟩ (.bool false)).setCell ⟨w.heap.size+1+1+1+1,1,none⟩ (.slice none 0 0)=w12 at *
  obtain⟨p0,p1⟩:=duo R5
  obtain⟨p2,p3⟩:=duo R6
  obtain⟨p4,p5⟩:=duo R7
  refine bodyPost_ret (v:=.tuple #[.agg #[.bool b5,.slice a5 n5 k5],.agg #[.bool b6,.slice a6 n6 k6],.agg #[.bool false,.slice none 0 0],.int .i64 0]) (by simp [results,Tryz.results9,go_sem,p0,p1,p2,p3,p4,p5]) rfl ?_
  refine⟨⟨val X,(zz ba (val X)).sign,0,_,_,_,_,_,_,_,_,_,_,_,_,rfl,⟨r5,HE.out.1,HV5.out⟩,⟨r6,HE.out.2.1,?_⟩,⟨[],Ans.nil _ _,rfl,rfl,rfl⟩,HAP.out,fun k e=>by simp [Value.ownBlock],fun k e=>by simp [Value.ownBlock],HN.out⟩,HE.out.2.2⟩
  rw [←iQ,HSG.out]
  exact HA6.out.2
end Go.Proofs.YtdbjbbdhlpfhjaaGreatDoor

