/- The reference's numbers: Cmp, Add, Sub. -/
import Derived.Test.YtkhckcfikljjhaaGreatDoorB02
import Derived.Test.YtkhckcfikljjhaaGreatDoorB04
import Derived.Test.YtkhckcfikljjhaaGreatDoorB11
import Derived.Test.YtkhckcfikljjhaaGreatDoorB10
import Derived.Deep.QuietTactic
import Derived.BigQuiet
import Derived.Maps.AppendAt
import Derived.Laws.DeepStrings4
set_option maxRecDepth 20000
set_option maxHeartbeats 1000000
namespace Go.Proofs.YtkhckcfikljjhaaGreatDoor
open Go.RowKit
open Lm
attribute [local go_sem ↓] Go.wp_at_zero Go.wp_at_succ

theorem iJ (v1 v2:Value)(x y:Nat)(w:World)(h1:Num w v1 x)(h2:Num w v2 y) :
  Calls Tryz.prog 50 #[v1,v2] w fun e w'=>e=.returned (.int .i64 (cmpN x y))∧ag w w':=by
 obtain⟨Z,hA1,hZ,hZt,rfl,hZl⟩:=h1
 obtain⟨Y,hA2,hY,hYt,rfl,hYl⟩:=h2
 obtain⟨a1,c1,rfl,hc1,hm1,L1⟩:=hA1.form
 obtain⟨a2,c2,rfl,hc2,hm2,L2⟩:=hA2.form
 clear hA1 hA2
 by_cases hl:Z.length=Y.length
 ·have HL:=aa hl.symm
  rw [←hl] at hc2 hYl ⊢
  clear hl
  have hne:((Z.length:Int) != (Z.length:Int))=false:=by simp
  go_enter Tryz.func50,Tryz.ntmps50
  go_wp2
  go_loopw [5] (fun i wr=>∃k:Nat,k≤Z.length∧i=.int .i64 ((k:Int) - 1)∧ag w wr∧cmpN (vb 4294967296 (Z.take k)) (vb 4294967296 (Y.take k))=cmpN (vb 4294967296 Z) (vb 4294967296 Y)) (fun i _=>(intOf i+1).toNat)
  case atStart=>exact⟨Z.length,Nat.le_refl _,by go_num,ag.refl _,by rw [List.take_length,←HL.out,List.take_length]⟩
  case round=>
   obtain⟨k,hk,rfl,hs,hv⟩:=hrel
   have HV:=aa hv
   have HS:=aa hs
   clear hv
   by_cases hk0:k=0
   ·subst hk0
    have HN:Hid (cmpN (vb 4294967296 Z) (vb 4294967296 Y)=0):=aa (by rw [←HV.out];rfl)
    clear HV L1 L2 hs
    go_wp2
    go_ret
    rw [HN.out]
    exact⟨rfl,HS.out⟩
   ·obtain⟨j,rfl⟩:∃j,k=j+1:=⟨k - 1,by omega⟩
    rcases L1.below (hs.below _) with h0|⟨b,off,rfl,hcell⟩
    ·simp [h0] at hk
    ·rcases L2.below (hs.below _) with h0|⟨b',off',rfl,hcell'⟩
     ·have:=HL.out;simp [h0] at this;omega
     ·have hck:=hcell j (by omega)
      have hck':=hcell' j (by have:=HL.out;omega)
      have ej:((j+1:Nat):Int) - 1=(j:Int):=by omega
      have ej2:(j:Int)+1 - 1=(j:Int):=by omega
      rw [ej]
      have hi1:(0:Int)≤(j:Int):=by omega
      have hi2:(j:Int)<(Z.length:Int):=by omega
      rcases Nat.lt_trichotomy (Z.getD j 0) (Y.getD j 0) with hxy|hxy|hxy
      ·have HN:Hid (cmpN (vb 4294967296 Z) (vb 4294967296 Y)=-1):=aa (by rw [←HV.out,vcmp_top hZ hY _ (by omega),cmpN_lt hxy])
       generalize Z.getD j 0=a at *
       generalize Y.getD j 0=c at *
       have i1:(a:Int)<(c:Int):=by omega
       clear hcell hcell' HV L1 L2 hs
       go_wp2
       go_quiet (fail)
       go_wp2
       go_ret
       rw [HN.out]
       exact⟨rfl,HS.out.drewN _⟩
      ·have HN:Hid (cmpN (vb 4294967296 (Z.take j)) (vb 4294967296 (Y.take j))=cmpN (vb 4294967296 Z) (vb 4294967296 Y)):=aa (by rw [←HV.out,vcmp_same _ hxy])
       rw [hxy] at hck
       generalize Y.getD j 0=c at *
       have hd1:decide ((c:Int)<(c:Int))=false:=decide_eq_false (by omega)
       clear hcell hcell' HV L1 L2 hs hxy
       go_wp2
       go_quiet (fail)
       go_wp2
       go_quiet (fail)
       go_wp2
       go_roundw
       case rel=>exact⟨j,by omega,by go_num,by first|exact (HS.out.drewN _).drewN _|exact HS.out.drewN _,HN.out⟩
       case measure=>simp [intOf]
      ·have HN:Hid (cmpN (vb 4294967296 Z) (vb 4294967296 Y)=1):=aa (by rw [←HV.out,vcmp_top hZ hY _ (by omega),cmpN_gt hxy])
       generalize Z.getD j 0=a at *
       generalize Y.getD j 0=c at *
       have i1:(c:Int)<(a:Int):=by omega
       have hd1:decide ((a:Int)<(c:Int))=false:=decide_eq_false (by omega)
       clear hcell hcell' HV L1 L2 hs
       go_wp2
       go_quiet (fail)
       go_wp2
       go_quiet (fail)
       go_wp2
       go_ret
       rw [HN.out]
       exact⟨rfl,by first|exact (HS.out.drewN _).drewN _|exact HS.out.drewN _⟩
 ·have hne:((Z.length:Int) != (Y.length:Int))=true:=by rw [bne_iff_ne];omega
  rcases Nat.lt_or_gt_of_ne hl with hlt|hlt
  ·rw [cmpN_lt (vb_shorter hZ hYt hlt)]
   have i1:(Z.length:Int)<(Y.length:Int):=by omega
   clear L1 L2
   go_enter Tryz.func50,Tryz.ntmps50
   go_wp2
   go_ret
   exact⟨rfl,ag.refl _⟩
  ·rw [cmpN_gt (vb_shorter hY hZt hlt)]
   have hd1:decide ((Z.length:Int)<(Y.length:Int))=false:=decide_eq_false (by omega)
   have i1:(Y.length:Int)<(Z.length:Int):=by omega
   clear L1 L2
   go_enter Tryz.func50,Tryz.ntmps50
   go_wp2
   go_ret
   exact⟨rfl,ag.refl _⟩

theorem dp {ds:List Nat}(hd:Digs 4294967296 ds)(ht:tr ds=ds)(L:Nat)(hb:blen (vb 4294967296 ds)≤32*L):ds.length≤L:=by
 refine Nat.le_of_not_lt fun hlt=>?_
 obtain⟨n,hn⟩:∃n,ds.length=n+1:=⟨ds.length - 1,by omega⟩
 have h1:=blen_vb hd ht n hn
 have h2:=blen_half _ (tr_last' ds n ht hn)
 omega

theorem ci {ds:List Nat}(n:Nat)(h:ds.length≤n):vb 4294967296 (ds.take n)=vb 4294967296 ds:=by rw [List.take_of_length_le h]

theorem gW {X Y out:List Nat}(hX:Digs 4294967296 X)(hY:Digs 4294967296 Y)(n cy:Nat)(h1:X.length≤n)(h2:Y.length≤n)(ho:out.length=n+1)
  (h:vb 4294967296 (out.take (n+1))+cy*4294967296 ^ (n+1)=vb 4294967296 (X.take (n+1))+vb 4294967296 (Y.take (n+1))):vb 4294967296 out=vb 4294967296 X+vb 4294967296 Y:=by
 rw [ci _ (by omega),ci _ (by omega),ci _ (by omega)] at h
 have a:=vb_take_lt hX n
 have b:=vb_take_lt hY n
 rw [ci _ h1] at a
 rw [ci _ h2] at b
 rcases Nat.eq_zero_or_pos cy with h0|h0
 ·subst h0;omega
 ·exfalso
  have:=Nat.mul_le_mul_right (4294967296 ^ (n+1)) h0
  rw [Nat.pow_succ,B_pow] at this h
  omega

theorem iD (v1 v2:Value)(x y:Nat)(w:World)(h1:Num w v1 x)(h2:Num w v2 y)(f1:blen x≤1125899906840000)(f2:blen y≤1125899906840000) :
  Calls Tryz.prog 37 #[v1,v2] w fun e w'=>(∃v',e=.returned v'∧Num w' v' (x+y)∧New w.heap.size v')∧Below w.heap.size w w':=by
 obtain⟨X,A1,hX,hXt,rfl,_⟩:=h1
 obtain⟨Y,A2,hY,hYt,rfl,_⟩:=h2
 have lX:=dp hX hXt 35184372088750 (by omega)
 have lY:=dp hY hYt 35184372088750 (by omega)
 obtain⟨a1,c1,rfl,hc1,hm1,_⟩:=A1.form
 obtain⟨a2,c2,rfl,hc2,hm2,_⟩:=A2.form
 obtain⟨i0,hi,hz0,hz1,hz2⟩:=info_parts Tryz.infoU
 clear f1 f2 hXt hYt
 by_cases hl:X.length<Y.length
 ·have i1:(X.length:Int)<(Y.length:Int):=by omega
  go_enter Tryz.func37,Tryz.ntmps37
  go_wp2_with (at_make;refine wpList_make_full _ rfl _ _ 30 rfl w.heap.size 65 i0 (.int .u64 0) 1 Tryz.underlying30 hi hz0 hz1 .i64 .i64 _ _ (Y.length+1) rfl rfl (by omega) (by omega) (by rw [hz2];omega) (by unfold maxLen;omega) (Nat.le_refl _) ?_;intro w1 hown hgrow)
  have hb1:=Blk.made hown
  have hbel:Below w.heap.size w w1:=(Below.refl _ _).grown hgrow (Nat.le_refl _) (fun k hk=>by cases hk)
  clear hown hgrow hi hz0 hz1 hz2
  go_loopw [7,8] (fun c i wr=>∃(k cy:Nat) (out:List Nat),k≤Y.length+1∧i=.int .i64 k∧c=.int .u64 cy∧cy≤1∧out.length=Y.length+1∧Digs 4294967296 out∧Blk wr w.heap.size out∧Below w.heap.size w wr ∧
    vb 4294967296 (out.take k)+cy*4294967296 ^ k=vb 4294967296 (X.take k)+vb 4294967296 (Y.take k)) (fun _ i _=>Y.length+1 - (intOf i).toNat)
  case atStart=>exact⟨0,0,_,Nat.zero_le _,rfl,rfl,by omega,by simp,digs_replicate (by omega) _,hb1,hbel,by simp [vb]⟩
  case round=>
   obtain⟨k,cy,out,hk,rfl,rfl,hcy,hlen,hdo,hblk,hbl,hval⟩:=hrel
   clear hb1 hbel
   have HB:=aa hblk
   have HL:=aa hbl
   by_cases hkl:k≤Y.length
   ·have H1:=du _ X k wr (A1.below hbl)
    have H2:=du _ Y k wr (A2.below hbl)
    have hfr:=hblk.free k
    have hco:=hblk.cell k (by omega)
    generalize out.getD k 0=o at *
    have z1:=dig_lt (by omega) hX k
    have z2:=dig_lt (by omega) hY k
    have HV:=aa (vb_add_step X Y out k cy (by omega) hval)
    generalize X.getD k 0=x at *
    generalize Y.getD k 0=y at *
    have e0:(x:Int)+(y:Int)+(cy:Int)=((x+y+cy:Nat):Int):=by omega
    have b0:x+y+cy<18446744073709551616:=by omega
    have e1:((x+y+cy:Nat):Int) % 4294967296=(((x+y+cy) % 4294967296:Nat):Int):=by omega
    have e2:((x+y+cy:Nat):Int) / 4294967296=(((x+y+cy) / 4294967296:Nat):Int):=by omega
    have b1:(x+y+cy) % 4294967296<4294967296:=by omega
    have b2:(x+y+cy) / 4294967296≤1:=by omega
    generalize (x+y+cy) % 4294967296=m at *
    generalize (x+y+cy) / 4294967296=d at *
    generalize x+y+cy=s at *
    clear hval hblk hbl A1 A2 hX hY
    go_wp2_with fail
    refine H1.mono ?_
    rintro e w2 ⟨rfl,rfl⟩
    go_wp2_with fail
    refine H2.mono ?_
    rintro e w2 ⟨rfl,rfl⟩
    clear H1 H2
    go_wp2
    go_roundw
    case rel=>exact⟨k+1,d,out.set k m,by omega,by go_num,rfl,b2,by simp;omega,digs_set hdo _ _ b1,HB.out.set k m,HL.out.setCell (Nat.le_refl _) _,HV.out⟩
    case measure=>simp [intOf];omega
   ·have ek:k=Y.length+1:=by omega
    subst ek
    have hve:=gW hX hY Y.length cy (by omega) (by omega) hlen hval
    have hA:=Ans.of_blk (base:=w.heap.size) (zs:=out) (Nat.le_refl _) hblk List.take_length.symm (Nat.le_refl _) (by omega) (digs_limbs hdo)
    have H:=dB w.heap.size _ _ _ (hA.arg (by omega)) hdo (by omega) (New.at _ _ _ _ _ (Nat.le_refl _))
    rw [hlen,hve] at H
    clear hval hblk hbl A1 A2 hX hY hA hve HB
    have hd1:decide ((Y.length:Int)+1≤(Y.length:Int))=false:=decide_eq_false (by omega)
    go_wp2_with fail
    refine H.mono ?_
    rintro e w2 ⟨⟨v',rfl,hnum,hnw⟩,rfl⟩
    have HN:=aa (And.intro hnum hnw)
    clear hnum hnw H
    go_wp2
    go_ret
    exact⟨⟨v',rfl,HN.out.1,HN.out.2⟩,HL.out⟩
 ·have hd0:decide ((X.length:Int)<(Y.length:Int))=false:=decide_eq_false (by omega)
  go_enter Tryz.func37,Tryz.ntmps37
  go_wp2_with (at_make;refine wpList_make_full _ rfl _ _ 30 rfl w.heap.size 65 i0 (.int .u64 0) 1 Tryz.underlying30 hi hz0 hz1 .i64 .i64 _ _ (X.length+1) rfl rfl (by omega) (by omega) (by rw [hz2];omega) (by unfold maxLen;omega) (Nat.le_refl _) ?_;intro w1 hown hgrow)
  have hb1:=Blk.made hown
  have hbel:Below w.heap.size w w1:=(Below.refl _ _).grown hgrow (Nat.le_refl _) (fun k hk=>by cases hk)
  clear hown hgrow hi hz0 hz1 hz2
  go_loopw [7,8] (fun c i wr=>∃(k cy:Nat) (out:List Nat),k≤X.length+1∧i=.int .i64 k∧c=.int .u64 cy∧cy≤1∧out.length=X.length+1∧Digs 4294967296 out∧Blk wr w.heap.size out∧Below w.heap.size w wr ∧
    vb 4294967296 (out.take k)+cy*4294967296 ^ k=vb 4294967296 (X.take k)+vb 4294967296 (Y.take k)) (fun _ i _=>X.length+1 - (intOf i).toNat)
  case atStart=>exact⟨0,0,_,Nat.zero_le _,rfl,rfl,by omega,by simp,digs_replicate (by omega) _,hb1,hbel,by simp [vb]⟩
  case round=>
   obtain⟨k,cy,out,hk,rfl,rfl,hcy,hlen,hdo,hblk,hbl,hval⟩:=hrel
   clear hb1 hbel
   have HB:=aa hblk
   have HL:=aa hbl
   by_cases hkl:k≤X.length
   ·have H1:=du _ X k wr (A1.below hbl)
    have H2:=du _ Y k wr (A2.below hbl)
    have hfr:=hblk.free k
    have hco:=hblk.cell k (by omega)
    generalize out.getD k 0=o at *
    have z1:=dig_lt (by omega) hX k
    have z2:=dig_lt (by omega) hY k
    have HV:=aa (vb_add_step X Y out k cy (by omega) hval)
    generalize X.getD k 0=x at *
    generalize Y.getD k 0=y at *
    have e0:(x:Int)+(y:Int)+(cy:Int)=((x+y+cy:Nat):Int):=by omega
    have b0:x+y+cy<18446744073709551616:=by omega
    have e1:((x+y+cy:Nat):Int) % 4294967296=(((x+y+cy) % 4294967296:Nat):Int):=by omega
    have e2:((x+y+cy:Nat):Int) / 4294967296=(((x+y+cy) / 4294967296:Nat):Int):=by omega
    have b1:(x+y+cy) % 4294967296<4294967296:=by omega
    have b2:(x+y+cy) / 4294967296≤1:=by omega
    generalize (x+y+cy) % 4294967296=m at *
    generalize (x+y+cy) / 4294967296=d at *
    generalize x+y+cy=s at *
    clear hval hblk hbl A1 A2 hX hY
    go_wp2_with fail
    refine H1.mono ?_
    rintro e w2 ⟨rfl,rfl⟩
    go_wp2_with fail
    refine H2.mono ?_
    rintro e w2 ⟨rfl,rfl⟩
    clear H1 H2
    go_wp2
    go_roundw
    case rel=>exact⟨k+1,d,out.set k m,by omega,by go_num,rfl,b2,by simp;omega,digs_set hdo _ _ b1,HB.out.set k m,HL.out.setCell (Nat.le_refl _) _,HV.out⟩
    case measure=>simp [intOf];omega
   ·have ek:k=X.length+1:=by omega
    subst ek
    have hve:=gW hX hY X.length cy (by omega) (by omega) hlen hval
    have hA:=Ans.of_blk (base:=w.heap.size) (zs:=out) (Nat.le_refl _) hblk List.take_length.symm (Nat.le_refl _) (by omega) (digs_limbs hdo)
    have H:=dB w.heap.size _ _ _ (hA.arg (by omega)) hdo (by omega) (New.at _ _ _ _ _ (Nat.le_refl _))
    rw [hlen,hve] at H
    clear hval hblk hbl A1 A2 hX hY hA hve HB
    have hd1:decide ((X.length:Int)+1≤(X.length:Int))=false:=decide_eq_false (by omega)
    go_wp2_with fail
    refine H.mono ?_
    rintro e w2 ⟨⟨v',rfl,hnum,hnw⟩,rfl⟩
    have HN:=aa (And.intro hnum hnw)
    clear hnum hnw H
    go_wp2
    go_ret
    exact⟨⟨v',rfl,HN.out.1,HN.out.2⟩,HL.out⟩

theorem kQ (v1 v2:Value)(x y:Nat)(w:World)(h1:Num w v1 x)(h2:Num w v2 y)(f1:blen x≤1125899906840000)(f2:blen y≤1125899906840000) :
  Calls Tryz.prog 37 #[v1,v2] w fun e w'=>(∃v',e=.returned v'∧Num w' v' (x+y))∧Below w.heap.size w w':=
 (iD v1 v2 x y w h1 h2 f1 f2).mono fun _ _ ⟨⟨v',h1,h2,_⟩,h3⟩=>⟨⟨v',h1,h2⟩,h3⟩

theorem pY {X Y out:List Nat}(ho:Digs 4294967296 out)(hl:out.length=X.length)(hyl:Y.length≤X.length)(hle:vb 4294967296 Y≤vb 4294967296 X)(bw:Nat)
  (h:vb 4294967296 (out.take X.length)+vb 4294967296 (Y.take X.length)=vb 4294967296 (X.take X.length)+bw*4294967296 ^ X.length):vb 4294967296 out=vb 4294967296 X - vb 4294967296 Y:=by
 rw [ci _ (by omega),ci _ hyl,List.take_length] at h
 have h1:=vb_take_lt ho X.length
 rw [ci _ (by omega)] at h1
 rcases Nat.eq_zero_or_pos bw with h0|h0
 ·subst h0;omega
 ·exfalso
  have:=Nat.mul_le_mul_right (4294967296 ^ X.length) h0
  rw [B_pow] at this h
  omega

theorem oy (v1 v2:Value)(x y:Nat)(w:World)(h1:Num w v1 x)(h2:Num w v2 y)(hle:y≤x)(f1:blen x≤1125899906840000) :
  Calls Tryz.prog 51 #[v1,v2] w fun e w'=>(∃v',e=.returned v'∧Num w' v' (x - y)∧New w.heap.size v')∧Below w.heap.size w w':=by
 obtain⟨X,A1,hX,hXt,rfl,_⟩:=h1
 obtain⟨Y,A2,hY,hYt,rfl,_⟩:=h2
 have lX:=dp hX hXt 35184372088750 (by omega)
 have hyl:Y.length≤X.length:=by
  refine Nat.le_of_not_lt fun h=>?_
  have:=vb_shorter hX hYt h
  omega
 obtain⟨a1,c1,rfl,hc1,hm1,L1⟩:=A1.form
 obtain⟨i0,hi,hz0,hz1,hz2⟩:=info_parts Tryz.infoU
 have HLE:=aa hle
 clear f1 hXt hYt hle
 go_enter Tryz.func51,Tryz.ntmps51
 go_wp2_with (at_make;refine wpList_make_full _ rfl _ _ 30 rfl w.heap.size 65 i0 (.int .u64 0) 1 Tryz.underlying30 hi hz0 hz1 .i64 .i64 _ _ X.length rfl rfl (by omega) (by omega) (by rw [hz2];omega) (by unfold maxLen;omega) (Nat.le_refl _) ?_;intro w1 hown hgrow)
 have hb1:=Blk.made hown
 have hbel:Below w.heap.size w w1:=(Below.refl _ _).grown hgrow (Nat.le_refl _) (fun k hk=>by cases hk)
 clear hown hgrow hi hz0 hz1 hz2
 go_loopw [6,14] (fun c i wr=>∃(k cy:Nat) (out:List Nat),k≤X.length∧i=.int .i64 k∧c=.int .u64 cy∧cy≤1∧out.length=X.length∧Digs 4294967296 out∧Blk wr w.heap.size out∧Below w.heap.size w wr ∧
   vb 4294967296 (out.take k)+vb 4294967296 (Y.take k)=vb 4294967296 (X.take k)+cy*4294967296 ^ k) (fun _ i _=>X.length - (intOf i).toNat)
 case atStart=>exact⟨0,0,_,Nat.zero_le _,rfl,rfl,by omega,by simp,digs_replicate (by omega) _,hb1,hbel,by simp [vb]⟩
 case round=>
  obtain⟨k,cy,out,hk,rfl,rfl,hcy,hlen,hdo,hblk,hbl,hval⟩:=hrel
  clear hb1 hbel
  have HB:=aa hblk
  have HL:=aa hbl
  by_cases hkl:k<X.length
  ·rcases L1.below hbl with h0|⟨b,off,rfl,hcell⟩
   ·simp [h0] at hkl
   ·have H2:=du _ Y k wr.drew (A2.below hbl.drew)
    have hck:=hcell k hkl
    have hbw:=ac.block (L1:ac w (some ⟨b,off,none⟩) X) (by omega)
    have hne1:¬b=w.heap.size:=by omega
    have hne2:¬w.heap.size=b:=by omega
    have hfr:=hblk.free k
    have hco:=hblk.cell k (by omega)
    generalize out.getD k 0=o at *
    have z1:=dig_lt (by omega) hX k
    have z2:=dig_lt (by omega) hY k
    have HV:=aa (vb_sub_step X Y out k cy (by omega) z1 z2 hcy hval)
    generalize X.getD k 0=x at *
    generalize Y.getD k 0=y at *
    have w1:IntKind.u64.wrap ((x:Int)+4294967296)=((x+4294967296:Nat):Int):=by rw [IntKind.wrap_u64];omega
    have w2:IntKind.u64.wrap (((x+4294967296:Nat):Int) - (y:Int))=((x+4294967296 - y:Nat):Int):=by rw [IntKind.wrap_u64];omega
    have w3:IntKind.u64.wrap (((x+4294967296 - y:Nat):Int) - (cy:Int))=((x+4294967296 - y - cy:Nat):Int):=by rw [IntKind.wrap_u64];omega
    have e0:(x:Int)+4294967296=((x+4294967296:Nat):Int):=by omega
    have e1:((x+4294967296:Nat):Int) - (y:Int)=((x+4294967296 - y:Nat):Int):=by omega
    have e2:((x+4294967296 - y:Nat):Int) - (cy:Int)=((x+4294967296 - y - cy:Nat):Int):=by omega
    have b0:x+4294967296<18446744073709551616:=by omega
    have b1:x+4294967296 - y<18446744073709551616:=by omega
    have b2:x+4294967296 - y - cy<18446744073709551616:=by omega
    have e3:((x+4294967296 - y - cy:Nat):Int) % 4294967296=(((x+4294967296 - y - cy) % 4294967296:Nat):Int):=by omega
    have e4:((x+4294967296 - y - cy:Nat):Int) / 4294967296=(((x+4294967296 - y - cy) / 4294967296:Nat):Int):=by omega
    have b3:(x+4294967296 - y - cy) % 4294967296<4294967296:=by omega
    have b4:(x+4294967296 - y - cy) / 4294967296≤1:=by omega
    generalize (x+4294967296 - y - cy) % 4294967296=m at *
    generalize (x+4294967296 - y - cy) / 4294967296=d at *
    generalize x+4294967296 - y - cy=t3 at *
    generalize x+4294967296 - y=t2 at *
    generalize x+4294967296=t1 at *
    have e5:(1:Int) - (d:Int)=((1 - d:Nat):Int):=by omega
    have w4:IntKind.u64.wrap (t1:Int)=(t1:Int):=by rw [IntKind.wrap_u64];omega
    have w5:IntKind.u64.wrap (t2:Int)=(t2:Int):=by rw [IntKind.wrap_u64];omega
    have w6:IntKind.u64.wrap (t3:Int)=(t3:Int):=by rw [IntKind.wrap_u64];omega
    have hi1:(0:Int)≤(k:Int):=by omega
    have hi2:(k:Int)<(X.length:Int):=by omega
    clear hval hblk hbl A1 A2 hX hY hcell L1
    go_wp2
    go_region_held3 (fun w'=>w'.cell? ⟨b,off+k,none⟩=some (.int .u64 x)) (go_keep) (first | (go_at_call 57;refine H2.mono ?_;rintro e w2 ⟨rfl,rfl⟩))
    go_wp2
    go_roundw
    case rel=>exact⟨k+1,1 - d,out.set k m,by omega,by go_num,by go_num,by omega,by simp;omega,digs_set hdo _ _ b3,HB.out.set k m,(HL.out.setCell (Nat.le_refl _) _).drew,HV.out⟩
    case measure=>simp [intOf];omega
  ·have ek:k=X.length:=by omega
   subst ek
   have hve:=pY hdo hlen hyl HLE.out cy hval
   have hA:=Ans.of_blk (base:=w.heap.size) (zs:=out) (Nat.le_refl _) hblk List.take_length.symm (Nat.le_refl _) (by omega) (digs_limbs hdo)
   have H:=dB w.heap.size _ _ _ (hA.arg (by omega)) hdo (by omega) (New.at _ _ _ _ _ (Nat.le_refl _))
   rw [hlen,hve] at H
   clear hval hblk hbl A1 A2 hX hY hA hve HB L1
   go_wp2_with fail
   refine H.mono ?_
   rintro e w2 ⟨⟨v',rfl,hnum,hnw⟩,rfl⟩
   have HN:=aa (And.intro hnum hnw)
   clear hnum hnw H
   go_wp2
   go_ret
   exact⟨⟨v',rfl,HN.out.1,HN.out.2⟩,HL.out⟩

theorem Num.zero_iff {w:World}{v:Value}{x:Nat}(h:Num w v x):∃ao n cap,v=.slice ao n cap∧((n:Int) == 0)=(x == 0):=by
 obtain⟨ds,A,hd,ht,rfl,_⟩:=h
 obtain⟨ao,cap,hv,_⟩:=A.form
 refine⟨ao,ds.length,cap,hv,?_⟩
 by_cases h0:ds=[]
 ·subst h0;rfl
 ·have h1:0<ds.length:=List.length_pos_iff.2 h0
  have h2:vb 4294967296 ds≠0:=fun e=>h0 (vb_tail_zero (by omega) ht e)
  have e1:((ds.length:Int) == 0)=false:=by rw [beq_eq_false_iff_ne];omega
  have e2:(vb 4294967296 ds == 0)=false:=by rw [beq_eq_false_iff_ne];exact h2
  rw [e1,e2]

theorem dh (v:Value)(x:Nat)(w:World)(h:Num w v x):Calls Tryz.prog 28 #[v] w fun e w'=>e=.returned (.bool (x == 0))∧w'=w:=by
 obtain⟨ao,n,cap,rfl,he⟩:=h.zero_iff
 clear h
 go_enter Tryz.func28,Tryz.ntmps28
 go_wp2
 go_ret
 exact⟨rfl,rfl⟩

theorem gR (n k:Nat):(List.replicate n 0).getD k 0=0:=by
 by_cases h:k<n
 ·simp [List.getD,h]
 ·simp [List.getD,h]

theorem gz (B n:Nat):vb B (List.replicate n 0)=0:=by
 induction n with
 | zero=>rfl
 | succ n ih=>rw [List.replicate_succ,vb,ih];simp

theorem pN (out:List Nat)(k d t:Nat)(h:k+1<out.length):((out.set k t).set (k+1) d).getD (k+1) 0=d:=by
 simp [List.getD,h]

theorem pv (x s:Nat)(h:x*2 ^ s<18446744073709551616):IntKind.u64.wrap ((x:Int)*2 ^ s)=((x*2 ^ s:Nat):Int):=by
 rw [IntKind.wrap_u64]
 have e:(x:Int)*2 ^ s=((x*2 ^ s:Nat):Int):=by push_cast;rfl
 rw [e];omega

theorem kf (out:List Nat)(i j a b:Nat):((out.set i a).set j b).length=out.length:=by simp

theorem jG (v:Value)(x n:Nat)(w:World)(h:Num w v x)(hf:blen x+n≤1125899906840000) :
  Calls Tryz.prog 49 #[v,.int .i64 n] w fun e w'=>(∃v',e=.returned v'∧Num w' v' (x*2 ^ n))∧Below w.heap.size w w':=by
 obtain⟨X,A,hX,hXt,rfl,_⟩:=h
 obtain⟨a1,c1,rfl,hc1,hm1,L1⟩:=A.form
 by_cases h0:X.length=0
 ·have hx:X=[]:=List.length_eq_zero_iff.1 h0
  subst hx
  clear A L1 hX hXt hf
  go_enter Tryz.func49,Tryz.ntmps49
  go_wp2
  go_ret
  refine⟨⟨_,rfl,?_⟩,Below.refl _ _⟩
  rw [vb,Nat.zero_mul]
  exact Num.nil w
 ·obtain⟨i0,hi,hz0,hz1,hz2⟩:=info_parts Tryz.infoU
  obtain⟨q,s,hs,hnq⟩:∃q s,s<32∧n=q*32+s:=⟨n / 32,n % 32,by omega,by omega⟩
  have lX:X.length+q≤35184372088752:=by
   obtain⟨m,hm⟩:∃m,X.length=m+1:=⟨X.length - 1,by omega⟩
   have h1:=blen_vb hX hXt m hm
   omega
  have eq1:(n:Int) / 32=(q:Int):=by omega
  have eq2:(n:Int) % 32=(s:Int):=by omega
  have HN:Hid (n=q*32+s):=hnq
  rcases L1 with h' | ⟨b,off,rfl,hcell⟩
  ·exact absurd (by rw [h'];rfl) h0
  ·have hbw:b<w.heap.size:=ac.block (zs:=X) (.inr ⟨b,off,rfl,hcell⟩) (by omega)
   have hln:((X.length:Int) == 0)=false:=by rw [beq_eq_false_iff_ne];omega
   clear hnq hf A
   go_enter Tryz.func49,Tryz.ntmps49
   go_wp2_with (at_make;refine wpList_make_full _ rfl _ _ 30 rfl w.heap.size 65 i0 (.int .u64 0) 1 Tryz.underlying30 hi hz0 hz1 .i64 .i64 _ _ (X.length+q+1) rfl rfl (by omega) (by omega) (by rw [hz2];omega) (by unfold maxLen;omega) (Nat.le_refl _) ?_;intro w1 hown hgrow)
   have hb1:=Blk.made hown
   have hbel:Below w.heap.size w w1:=(Below.refl _ _).grown hgrow (Nat.le_refl _) (fun k hk=>by cases hk)
   clear hown hgrow hi hz0 hz1 hz2
   go_loopw [23] (fun i wr=>∃(k:Nat) (out:List Nat),k≤X.length∧i=.int .i64 k∧out.length=X.length+q+1∧Digs 4294967296 out∧out.getD (q+k) 0<2 ^ s∧Blk wr w.heap.size out∧Below w.heap.size w wr ∧
     vb 4294967296 (out.take (q+k+1))=vb 4294967296 (X.take k)*2 ^ n) (fun i _=>X.length - (intOf i).toNat)
   case atStart=>exact⟨0,_,Nat.zero_le _,rfl,by simp,digs_replicate (by omega) _,by rw [gR];exact Nat.two_pow_pos _,hb1,hbel,by rw [List.take_replicate,gz];simp [vb]⟩
   case round=>
    obtain⟨k,out,hk,rfl,hlen,hdo,hlow,hblk,hbl,hval⟩:=hrel
    clear hb1 hbel
    have HB:=aa hblk
    have HL:=aa hbl
    by_cases hkl:k<X.length
    ·have hck:wr.cell? ⟨b,off+k,none⟩=some (.int .u64 ((X.getD k 0:Nat):Int)):=by rw [hbl.cell (p:=⟨b,off+k,none⟩) hbw];exact hcell k hkl
     have hne1:¬b=w.heap.size:=by omega
     have hne2:¬w.heap.size=b:=by omega
     have hfr:=hblk.free (k+q)
     have hco:=hblk.cell (k+q) (by omega)
     have hfr1:=hblk.free (k+q+1)
     have hco1:=hblk.cell (k+q+1) (by omega)
     have HV:=aa (pC X out q s k n HN.out (by omega) hval)
     have z1:=dig_lt (by omega) hX k
     have b1:=mz (X.getD k 0) s (out.getD (q+k) 0) (by omega) hlow
     have b2:=kM (X.getD k 0) s z1
     have b3:=oR (X.getD k 0) s z1 hs
     have hdd:=aa (digs_set (digs_set hdo (q+k) _ b1) (q+k+1) (X.getD k 0*2 ^ s / 4294967296) (by omega))
     have hge:=aa (show ((out.set (q+k) (out.getD (q+k) 0+X.getD k 0*2 ^ s % 4294967296)).set (q+k+1) (X.getD k 0*2 ^ s / 4294967296)).getD (q+(k+1)) 0<2 ^ s by rw [show q+(k+1)=q+k+1 by omega,pN _ _ _ _ (by omega)];exact b2)
     generalize X.getD k 0=x at *
     rw [Nat.add_comm q k] at *
     generalize out.getD (k+q) 0=o at *
     generalize out.getD (k+q+1) 0=o1 at *
     have w0:IntKind.u64.wrap ((x:Int)*2 ^ s)=((x*2 ^ s:Nat):Int):=pv x s b3
     generalize x*2 ^ s=T at *
     have e1:(T:Int) % 4294967296=((T % 4294967296:Nat):Int):=by omega
     have e2:(T:Int) / 4294967296=((T / 4294967296:Nat):Int):=by omega
     have b4:T / 4294967296<4294967296:=by omega
     generalize T % 4294967296=m at *
     generalize T / 4294967296=d at *
     have e3:(o:Int)+(m:Int)=((o+m:Nat):Int):=by omega
     generalize o+m=t at *
     have e4:IntKind.u64.wrap (t:Int)=(t:Int):=by rw [IntKind.wrap_u64];omega
     clear hval hblk hbl hcell
     go_wp2
     go_region
     go_wp2
     go_roundw
     case rel=>exact⟨k+1,(out.set (k+q) t).set (k+q+1) d,by omega,by go_num,by rw [kf];exact hlen,hdd.out,hge.out,(HB.out.set (k+q) t).set (k+q+1) d,((HL.out.setCell (Nat.le_refl _) _).setCell (Nat.le_refl _) _).drew,by rw [show q+(k+1)+1=k+q+1+1 by omega];exact HV.out⟩
     case measure=>simp [intOf];omega
    ·have ek:k=X.length:=by omega
     subst ek
     have hve:vb 4294967296 out=vb 4294967296 X*2 ^ n:=by
      rw [List.take_of_length_le (by omega),List.take_length] at hval;exact hval
     have hA:=Ans.of_blk (base:=w.heap.size) (zs:=out) (Nat.le_refl _) hblk List.take_length.symm (Nat.le_refl _) (by omega) (digs_limbs hdo)
     have H:=dV _ _ _ (hA.arg (by omega)) hdo (by omega)
     rw [hlen,hve] at H
     clear hval hblk hbl hX hA hve HB hcell
     go_wp2_with fail
     refine H.mono ?_
     rintro e w2 ⟨⟨v',rfl,hnum⟩,rfl⟩
     have HN:=aa hnum
     clear hnum H
     go_wp2
     go_ret
     exact⟨⟨v',rfl,HN.out⟩,HL.out⟩
end Go.Proofs.YtkhckcfikljjhaaGreatDoor
namespace Go.Proofs.YtkhckcfikljjhaaGreatDoor
open Lm

theorem gQ (B:Nat):∀(out:List Nat) (j n z:Nat),j<n→n≤out.length→vb B ((out.set j z).take n)+B ^ j*out.getD j 0=vb B (out.take n)+B ^ j*z
 | [],j,n,z,h1,h2=>by simp at h2;omega
 | a :: r,0,n+1,z,_,_=>by
  simp only [List.set_cons_zero,List.take_succ_cons,vb,List.getD_cons_zero,Nat.pow_zero,Nat.one_mul]
  omega
 | a :: r,j+1,n+1,z,h1,h2=>by
  have ih:=gQ B r j n z (by omega) (by simpa using h2)
  simp only [List.set_cons_succ,List.take_succ_cons,vb,List.getD_cons_succ]
  rw [show B ^ (j+1)=B*B ^ j by rw [Nat.pow_succ,Nat.mul_comm]]
  grind

theorem pd (B:Nat)(Y out:List Nat)(i k n x cy s V:Nat)(hk:i+k<n)(hn:n≤out.length)
  (h:vb B (out.take n)+cy*B ^ (i+k)=V+B ^ i*(x*vb B (Y.take k))) (hs:s=x*Y.getD k 0+out.getD (i+k) 0+cy) :
  vb B ((out.set (i+k) (s % B)).take n)+s / B*B ^ (i+(k+1))=V+B ^ i*(x*vb B (Y.take (k+1))):=by
 have h1:=gQ B out (i+k) n (s % B) hk hn
 have h2:=Nat.mod_add_div s B
 rw [vb_take_next Y k]
 have e1:B ^ (i+(k+1))=B ^ (i+k)*B:=by rw [←Nat.add_assoc,Nat.pow_succ]
 have e2:B ^ (i+k)=B ^ i*B ^ k:=Nat.pow_add _ _ _
 rw [e1]
 rw [e2] at h h1 ⊢
 generalize out.getD (i+k) 0=o at *
 generalize Y.getD k 0=y at *
 generalize vb B (Y.take k)=U at *
 generalize vb B (out.take n)=W at *
 generalize vb B ((out.set (i+k) (s % B)).take n)=W' at *
 generalize s % B=m at *
 generalize s / B=d at *
 generalize B ^ i=I at *
 generalize B ^ k=K at *
 subst hs
 grind

theorem nW (B:Nat)(X Y out0 out:List Nat)(i x cy:Nat)(hx:x=X.getD i 0)(hn:i+Y.length<out.length)
  (h0:vb B (out0.take (i+Y.length))=vb B (X.take i)*vb B Y)
  (h:vb B (out.take (i+Y.length))+cy*B ^ (i+Y.length)=vb B (out0.take (i+Y.length))+B ^ i*(x*vb B (Y.take Y.length))) :
  vb B ((out.set (i+Y.length) cy).take (i+1+Y.length))=vb B (X.take (i+1))*vb B Y:=by
 rw [show i+1+Y.length=i+Y.length+1 by omega,vb_set_succ _ _ _ hn,vb_take_next X i,←hx]
 rw [List.take_length,h0] at h
 grind

theorem qn (x y o cy:Nat)(hx:x<4294967296)(hy:y<4294967296)(ho:o<4294967296)(hc:cy<4294967296):x*y≤18446744065119617025∧x*y+o+cy<18446744073709551616:=by
 have:=Nat.mul_le_mul (Nat.le_sub_one_of_lt hx) (Nat.le_sub_one_of_lt hy)
 omega
end Go.Proofs.YtkhckcfikljjhaaGreatDoor
namespace Go.Proofs.YtkhckcfikljjhaaGreatDoor
open Go.RowKit
open Lm
attribute [local go_sem ↓] Go.wp_at_zero Go.wp_at_succ

theorem jn (out:List Nat)(j n z:Nat)(h:j≠n):(out.set j z).getD n 0=out.getD n 0:=by
 simp [List.getD,h]

theorem ji {ds:List Nat}(hd:Digs 4294967296 ds)(ht:tr ds=ds):ds.length*32≤blen (vb 4294967296 ds)+31:=by
 rcases Nat.eq_zero_or_pos ds.length with h|h
 ·omega
 ·obtain⟨m,hm⟩:∃m,ds.length=m+1:=⟨ds.length - 1,by omega⟩
  have h1:=blen_vb hd ht m hm
  have h2:=blen_half _ (tr_last' ds m ht hm)
  omega

theorem kB (v1 v2:Value)(x y:Nat)(w:World)(h1:Num w v1 x)(h2:Num w v2 y)(hf:blen x+blen y≤1125899906840000) :
  Calls Tryz.prog 38 #[v1,v2] w fun e w'=>(∃v',e=.returned v'∧Num w' v' (x*y))∧Below w.heap.size w w':=by
 obtain⟨X,A1,hX,hXt,rfl,_⟩:=h1
 obtain⟨Y,A2,hY,hYt,rfl,_⟩:=h2
 have lX:=ji hX hXt
 have lY:=ji hY hYt
 have lXY:X.length+Y.length≤35184372088752:=by omega
 obtain⟨a1,c1,rfl,hc1,hm1,L1⟩:=A1.form
 obtain⟨a2,c2,rfl,hc2,hm2,L2⟩:=A2.form
 obtain⟨i0,hi,hz0,hz1,hz2⟩:=info_parts Tryz.infoU
 clear hf hXt hYt lX lY A1 A2
 obtain⟨N,hN1,hN2,eN⟩:∃N,N≤X.length+Y.length+1∧X.length+Y.length+1≤N∧(X.length:Int)+(Y.length:Int)+1=(N:Int):=⟨X.length+Y.length+1,by omega,by omega,by omega⟩
 go_enter Tryz.func38,Tryz.ntmps38
 go_wp2_with (at_make;refine wpList_make_full _ rfl _ _ 30 rfl w.heap.size 65 i0 (.int .u64 0) 1 Tryz.underlying30 hi hz0 hz1 .i64 .i64 _ _ N rfl rfl (by omega) (by omega) (by rw [hz2];omega) (by unfold maxLen;omega) (Nat.le_refl _) ?_;intro w1 hown hgrow)
 have hb1:=Blk.made hown
 have hbel:Below w.heap.size w w1:=(Below.refl _ _).grown hgrow (Nat.le_refl _) (fun k hk=>by cases hk)
 clear hown hgrow hi hz0 hz1 hz2
 go_loopw [21] (fun i wr=>∃(k:Nat) (out:List Nat),k≤X.length∧i=.int .i64 k∧out.length=N∧out.getD (X.length+Y.length) 0=0∧Digs 4294967296 out∧Blk wr w.heap.size out∧Below w.heap.size w wr ∧
   vb 4294967296 (out.take (k+Y.length))=vb 4294967296 (X.take k)*vb 4294967296 Y) (fun i _=>X.length - (intOf i).toNat)
 case atStart=>exact⟨0,_,Nat.zero_le _,rfl,by simp,gR _ _,digs_replicate (by omega) _,hb1,hbel,by rw [List.take_replicate,gz];simp [vb]⟩
 case round=>
  obtain⟨k,out,hk,rfl,hlen,htop,hdo,hblk,hbl,hval⟩:=hrel
  clear hb1 hbel
  have HT:=aa htop
  by_cases hkl:k<X.length
  ·rcases L1.below hbl with h0|⟨b,off,rfl,hcell⟩
   ·rw [h0] at hkl;simp at hkl
   ·have hck:=hcell k hkl
    have z1:=dig_lt (by omega) hX k
    have HX:Hid (X.getD k 0=X.getD k 0):=rfl
    obtain⟨x,hx⟩:∃x,x=X.getD k 0:=⟨_,rfl⟩
    rw [←hx] at hck z1
    have HXX:=aa hx
    have HV:=aa hval
    have HB:=aa hblk
    have HL:=aa hbl
    have HY:=aa hY
    clear hx htop hval hblk hbl hcell L1 hX HX hY
    go_wp2
    go_loopw [8,28] (fun c i wr2=>∃(j cy:Nat) (out2:List Nat),j≤Y.length∧i=.int .i64 j∧c=.int .u64 cy∧cy<4294967296∧out2.length=N∧out2.getD (X.length+Y.length) 0=0∧Digs 4294967296 out2∧Blk wr2 w.heap.size out2∧Below w.heap.size w wr2 ∧
      vb 4294967296 (out2.take (k+Y.length))+cy*4294967296 ^ (k+j)=vb 4294967296 (out.take (k+Y.length))+4294967296 ^ k*(x*vb 4294967296 (Y.take j))) (fun _ i _=>Y.length - (intOf i).toNat)
    case atStart=>exact⟨0,0,out,Nat.zero_le _,rfl,rfl,by omega,hlen,HT.out,hdo,HB.out,HL.out,by simp [vb]⟩
    case round=>
     obtain⟨j,cy,out2,hj,rfl,rfl,hcy,hlen2,htop2,hdo2,hblk,hbl,hval2⟩:=hrel
     have HT2:=aa htop2
     clear htop2
     by_cases hjl:j<Y.length
     ·rcases L2.below hbl with h0|⟨b2,off2,rfl,hcell⟩
      ·rw [h0] at hjl;simp at hjl
      ·have hcj:=hcell j hjl
       have hbw:=ac.block (L2:ac w (some ⟨b2,off2,none⟩) Y) (by omega)
       have hne1:¬b2=w.heap.size:=by omega
       have hne2:¬w.heap.size=b2:=by omega
       have z2:=dig_lt (by omega) HY.out j
       have hfr:=hblk.free (k+j)
       have hco:=hblk.cell (k+j) (by omega)
       have z3:=dig_lt (by omega) hdo2 (k+j)
       obtain⟨bP,bS⟩:=qn x (Y.getD j 0) (out2.getD (k+j) 0) cy z1 z2 z3 hcy
       have HV2:=aa (pd 4294967296 Y out2 k j (k+Y.length) x cy _ _ (by omega) (by omega) hval2 rfl)
       generalize Y.getD j 0=y at *
       generalize out2.getD (k+j) 0=o at *
       have e0:(x:Int)*(y:Int)=((x*y:Nat):Int):=by push_cast;rfl
       generalize x*y=P at *
       have e1:(P:Int)+(o:Int)=((P+o:Nat):Int):=by omega
       have b1:P+o<18446744073709551616:=by omega
       generalize P+o=S1 at *
       have e2:(S1:Int)+(cy:Int)=((S1+cy:Nat):Int):=by omega
       generalize S1+cy=S at *
       have e3:(S:Int) % 4294967296=((S % 4294967296:Nat):Int):=by omega
       have e4:(S:Int) / 4294967296=((S / 4294967296:Nat):Int):=by omega
       have bm:S % 4294967296<4294967296:=by omega
       have bd:S / 4294967296<4294967296:=by omega
       generalize S % 4294967296=m at *
       generalize S / 4294967296=d at *
       have HB2:=aa hblk
       have HL2:=aa hbl
       clear hval2 hblk hbl hcell L2 HB HL HV
       go_wp2
       go_roundw
       case rel=>exact⟨j+1,d,out2.set (k+j) m,by omega,by go_num,rfl,bd,by simp;omega,by rw [jn _ _ _ _ (by omega)];exact HT2.out,digs_set hdo2 _ _ bm,HB2.out.set (k+j) m,HL2.out.setCell (Nat.le_refl _) _,HV2.out⟩
       case measure=>simp [intOf];omega
     ·have ej:j=Y.length:=by omega
      subst ej
      have HV3:=aa (nW 4294967296 X Y out out2 k x cy HXX.out (by omega) HV.out hval2)
      have hfr:=hblk.free (k+Y.length)
      have hco:=hblk.cell (k+Y.length) (by omega)
      generalize out2.getD (k+Y.length) 0=o at *
      have HB2:=aa hblk
      have HL2:=aa hbl
      clear hval2 hblk hbl L2 HB HL HV
      go_wp2
      go_roundw
      case rel=>exact⟨k+1,out2.set (k+Y.length) cy,by omega,by go_num,by simp;omega,by rw [jn _ _ _ _ (by omega)];exact HT2.out,digs_set hdo2 _ _ hcy,HB2.out.set _ cy,HL2.out.setCell (Nat.le_refl _) _,HV3.out⟩
      case measure=>simp [intOf];omega
  ·have ek:k=X.length:=by omega
   subst ek
   have hA:=Ans.of_blk (base:=w.heap.size) (zs:=out) (Nat.le_refl _) hblk List.take_length.symm (Nat.le_refl _) (by omega) (digs_limbs hdo)
   have H:=dV _ _ _ (hA.arg (by omega)) hdo (by omega)
   have HL:=aa hbl
   have hve:vb 4294967296 out=vb 4294967296 X*vb 4294967296 Y:=by
    rw [List.take_length] at hval
    rw [←hval,←ci (X.length+Y.length+1) (by omega:out.length≤_),vb_take_next,htop];simp
   rw [hlen,hve] at H
   clear hval hblk hbl hX hY hA hve L1 L2
   go_wp2_with fail
   refine H.mono ?_
   rintro e w2 ⟨⟨v',rfl,hnum⟩,rfl⟩
   have HN:=aa hnum
   clear hnum H
   go_wp2
   go_ret
   exact⟨⟨v',rfl,HN.out⟩,HL.out⟩
end Go.Proofs.YtkhckcfikljjhaaGreatDoor
namespace Go.Proofs.YtkhckcfikljjhaaGreatDoor
open Lm

theorem gG (B:Nat)(X:List Nat)(j:Nat)(h:j<X.length):vb B (X.drop j)=X.getD j 0+B*vb B (X.drop (j+1)):=by
 rw [List.drop_eq_getElem_cons h,vb]
 simp [List.getD,h]

theorem qf (B:Nat)(out:List Nat)(j q:Nat)(h:j<out.length):vb B ((out.set j q).drop j)=q+B*vb B (out.drop (j+1)):=by
 rw [gG B _ j (by simpa using h)]
 congr 1
 ·simp [List.getD,h]
 ·congr 2
  rw [List.drop_set_of_lt (by omega)]

theorem o7 (X out:List Nat)(j y R q R2:Nat)(hX:j<X.length)(ho:j<out.length)
  (h:vb 4294967296 (X.drop (j+1))=vb 4294967296 (out.drop (j+1))*y+R) (hq:R*2 ^ 32+X.getD j 0=q*y+R2) :
  vb 4294967296 (X.drop j)=vb 4294967296 ((out.set j q).drop j)*y+R2:=by
 rw [gG _ X j hX,qf _ _ _ _ ho,h]
 have e:(2:Nat) ^ 32=4294967296:=by decide
 rw [e] at hq
 generalize vb 4294967296 (out.drop (j+1))=V at *
 generalize X.getD j 0=x at *
 grind

theorem j3 (y R t:Nat)(h:R<y*2 ^ (t+1))(hge:y*2 ^ t≤R):R - y*2 ^ t<y*2 ^ t:=by
 rw [Nat.pow_succ,←Nat.mul_assoc] at h
 omega

theorem qe (y R R2 q t:Nat)(h:R=q*y+R2)(hge:y*2 ^ t≤R2):R=(q+2 ^ t)*y+(R2 - y*2 ^ t):=by
 rw [Nat.add_mul,Nat.mul_comm (2 ^ t) y]
 omega

theorem pz (y R x:Nat)(hR:R<y)(hx:x<4294967296):R*2 ^ 32+x<y*2 ^ 32:=by
 have h1:(R+1)*2 ^ 32≤y*2 ^ 32:=Nat.mul_le_mul_right _ hR
 have e:(2:Nat) ^ 32=4294967296:=by decide
 rw [Nat.add_mul,Nat.one_mul] at h1
 omega

theorem kO (x y V R:Nat)(h:x=V*y+R)(hR:R<y):V=x / y∧R=x % y:=by
 subst h
 rw [Nat.mul_comm]
 refine⟨?_,?_⟩
 ·rw [Nat.mul_add_div (by omega),Nat.div_eq_of_lt hR,Nat.add_zero]
 ·rw [Nat.mul_add_mod,Nat.mod_eq_of_lt hR]

theorem io {a b:Nat}(h:a<b):blen a≤blen b:=blen_mono (Nat.le_of_lt h)

theorem iF (y n:Nat):blen (y*2 ^ n)≤blen y+n:=by
 rw [blen_le_iff,Nat.pow_add]
 exact Nat.mul_lt_mul_of_pos_right ((blen_le_iff _ _).1 (Nat.le_refl _)) (Nat.two_pow_pos _)
end Go.Proofs.YtkhckcfikljjhaaGreatDoor
namespace Go.Proofs.YtkhckcfikljjhaaGreatDoor
open Go.RowKit
open Lm
attribute [local go_sem ↓] Go.wp_at_zero Go.wp_at_succ

theorem cO {a b c:World}(h:Below a.heap.size a b)(k:Below b.heap.size b c):Below a.heap.size a c:=h.trans (k.mono h.size)

theorem Below.one (w:World)(o:Obj):Below w.heap.size w (w.alloc o):=(Below.refl _ _).alloc (Nat.le_refl _) _

theorem Blk.kept {w w':World}{b:Nat}{xs:List Nat}(h:Blk w b xs)(hb:Below w.heap.size w w'):Blk w' b xs:=by
 unfold Blk
 rw [hb.block b h.lt];exact h

theorem Arg.one (w:World)(z:Nat)(hz:z<18446744073709551616):Arg (w.alloc (.cells #[.int .u64 (z:Int)] 65)) (.slice (some ⟨w.heap.size,0,none⟩) 1 1) [z]:=by
 have hb:Blk (w.alloc (.cells #[.int .u64 (z:Int)] 65)) w.heap.size [z]:=by
  unfold Blk
  rw [heap_alloc_new]
  rfl
 exact⟨⟨_,_,rfl,Nat.le_refl _,by simp,.inr ⟨_,0,rfl,fun k hk=>by rw [Nat.zero_add];exact hb.cell k hk⟩⟩,by intro y hy;simp at hy;omega,by simp,fun n c e=>by cases e⟩

theorem qJ (v1 v2:Value)(x y:Nat)(w:World)(h1:Num w v1 x)(h2:Num w v2 y)(hy:y≠0)(f1:blen x≤1125899906840000)(f2:blen y≤1125899906810000) :
  Calls Tryz.prog 30 #[v1,v2] w fun e w'=>(∃vq vr,e=.returned (.tuple #[vq,vr])∧Num w' vq (x / y)∧Num w' vr (x % y)∧New w.heap.size vq∧New w.heap.size vr)∧Below w.heap.size w w':=by
 obtain⟨X,A1,hX,hXt,rfl,_⟩:=h1
 have lX:=dp hX hXt 35184372088750 (by omega)
 obtain⟨a1,c1,rfl,hc1,hm1,L1⟩:=A1.form
 obtain⟨i0,hi,hz0,hz1,hz2⟩:=info_parts Tryz.infoU
 have NY:=aa h2
 have F2:=aa f2
 have HY0:=aa hy
 clear f1 f2 hXt A1 h2 hy
 go_enter Tryz.func30,Tryz.ntmps30
 go_wp2_with (at_make;refine wpList_make_full _ rfl _ _ 30 rfl w.heap.size 65 i0 (.int .u64 0) 1 Tryz.underlying30 hi hz0 hz1 .i64 .i64 _ _ X.length rfl rfl (by omega) (by omega) (by rw [hz2];omega) (by unfold maxLen;omega) (Nat.le_refl _) ?_;intro w1 hown hgrow)
 have hb1:=Blk.made hown
 have hbel:Below w.heap.size w w1:=(Below.refl _ _).grown hgrow (Nat.le_refl _) (fun k hk=>by cases hk)
 clear hown hgrow hi hz0 hz1 hz2
 go_loopw [6,8] (fun r i wr=>∃(k R:Nat) (out:List Nat),k≤X.length∧i=.int .i64 ((k:Int) - 1)∧Num wr r R∧New (w.heap.size+1) r∧R<y∧out.length=X.length∧Digs 4294967296 out∧Blk wr w.heap.size out∧Below w.heap.size w wr ∧
   vb 4294967296 (X.drop k)=vb 4294967296 (out.drop k)*y+R) (fun _ i _=>(intOf i+1).toNat)
 case atStart=>exact⟨X.length,0,_,Nat.le_refl _,rfl,Num.nil _,New.nil _ _ _,by have:=HY0.out;omega,by simp,digs_replicate (by omega) _,hb1,hbel,by simp [vb]⟩
 case round=>
  obtain⟨k,R,out,hk,rfl,hnr,hnw0,hR,hlen,hdo,hblk,hbl,hval⟩:=hrel
  clear hb1 hbel
  by_cases hk0:k=0
  ·subst hk0
   have hve:=kO _ y _ R hval hR
   rw [List.drop_zero,List.drop_zero] at hve
   have hA:=Ans.of_blk (base:=w.heap.size) (zs:=out) (Nat.le_refl _) hblk List.take_length.symm (Nat.le_refl _) (by omega) (digs_limbs hdo)
   have H:=dB w.heap.size _ _ _ (hA.arg (by omega)) hdo (by omega) (fun b off n c e=>by cases e;exact Nat.le_refl _)
   rw [hlen,hve.1] at H
   have HR:Hid (Num wr u6 (vb 4294967296 X % y)):=aa (by rw [←hve.2];exact hnr)
   have HL:=aa hbl
   have HNW:=aa (hnw0.mono (Nat.le_succ _))
   clear hval hblk hbl hX hA hve L1 hnr hnw0
   go_wp2_with fail
   refine H.mono ?_
   rintro e w2 ⟨⟨v',rfl,hnum,hnv⟩,rfl⟩
   have HN:=aa (And.intro hnum hnv)
   clear hnum hnv H
   go_wp2
   go_ret2
   exact⟨⟨v',u6,rfl,HN.out.1,HR.out,HN.out.2,HNW.out⟩,HL.out⟩
  ·obtain⟨j,rfl⟩:∃j,k=j+1:=⟨k - 1,by omega⟩
   rcases L1.below hbl with h0|⟨b,off,rfl,hcell⟩
   ·rw [h0] at hk;simp at hk
   ·have hck:=hcell j (by omega)
    have hbw:b<wr.heap.size:=ac.block (zs:=X) (.inr ⟨b,off,rfl,hcell⟩) (by omega)
    have ej:(((j+1:Nat):Int) - 1)=(j:Int):=by omega
    rw [ej]
    have z1:=dig_lt (by omega) hX j
    have HST:=aa (fun q R2 hq=>o7 X out j y R q R2 (by omega) (by omega) hval hq)
    have HRL:=aa (pz y R (X.getD j 0) hR z1)
    have hfR:blen R+32≤1125899906840000:=by have:=io hR;have:=F2.out;omega
    generalize X.getD j 0=x at *
    have HC:=aa (fun (u:World) (hu:Below wr.heap.size wr u)=>(show u.cell? ⟨b,off+j,none⟩=some (.int .u64 (x:Int)) by rw [hu.cell (p:=⟨b,off+j,none⟩) hbw];exact hck))
    have D0:Hid (Below wr.heap.size wr wr.drew):=aa ((Below.refl _ _).drew)
    obtain⟨RS,hRS⟩:∃RS,RS=R*2 ^ 32:=⟨_,rfl⟩
    have HSH:=aa (fun (u:World) (hu:Below wr.heap.size wr u)=>(by have h:=jG _ R 32 u (hnr.below hu) hfR;rw [←hRS] at h;exact h:Calls Tryz.prog 49 #[u6,.int .i64 32] u fun e w'=>(∃v',e=.returned v'∧Num w' v' RS)∧Below u.heap.size u w'))
    have ex:vb 4294967296 [x]=x:=by simp [vb]
    have HNO:=aa (fun (u:World) (v:Value) (hv:Arg u v [x])=>(by have h:=dV v [x] u hv (by intro z hz;simp at hz;omega) (by simp);rw [ex] at h;exact h:Calls Tryz.prog 48 #[v] u fun e w'=>(∃v',e=.returned v'∧Num u v' x)∧w'=u))
    have hfA:blen RS≤1125899906840000:=by rw [hRS];have:=iF R 32;omega
    have hfB:blen x≤1125899906840000:=by have:=(blen_le_iff x 32).2 (by omega);omega
    have HAD:=aa (fun (u:World) (va vb':Value) (na:Num u va RS) (nb:Num u vb' x)=>iD va vb' _ _ u na nb hfA hfB)
    have HB:=aa hblk
    have HL:=aa hbl
    rw [←hRS] at HST HRL
    have HRS:=aa hRS
    clear hRS
    have hx18:x<18446744073709551616:=by omega
    have hi1:(0:Int)≤(j:Int):=by omega
    have hi2:(j:Int)<(X.length:Int):=by omega
    have hnew:=World.new_ne wr ⟨b,off+j,none⟩ hck
    clear hval hblk hbl hcell hnr hnw0 hX L1 ex hfA hfB
    go_wp2
    go_region_held3 (fun w'=>w'.cell? ⟨b,off+j,none⟩=some (.int .u64 x)) (go_keep) (first
     | (go_at_call 49;refine (HSH.out _ (by first|exact D0.out|exact cO D0.out (Below.one _ _))).mono ?_;rintro e u1 ⟨⟨v1',rfl,N1⟩,b1⟩;(first | (have BU:=cO D0.out b1) | (have BU:=cO (cO D0.out (Below.one _ _)) b1));(have hkS:=HC.out u1 BU);(try replace N2:=N2.below b1))
     | (go_at_call 48;refine (HNO.out _ _ (by first|exact Arg.one u1 x hx18|exact Arg.one wr.drew x hx18|exact (Arg.one wr.drew x hx18).below b1)).mono ?_;rintro e u2 ⟨⟨v2',rfl,N2⟩,hw⟩;subst hw)
     | (go_at_call 37;refine (HAD.out _ _ _ (by first|exact N1|exact N1.below (Below.one _ _)) N2).mono ?_;rintro e u3 ⟨⟨v3,rfl,N3,nw3⟩,b3⟩;(first | (have B3:=cO BU b3) | (have B3:=cO (cO BU (Below.one _ _)) b3));(have hkS3:=HC.out u3 B3)))
    all_goals
     have N3':=aa N3
     have hsz3:w.heap.size<wr.heap.size:=HB.out.lt
     have NW3:Hid (New (w.heap.size+1) v3):=aa (nw3.mono (by first | (have:=BU.size;omega) | (have:=BU.size;simp;omega)))
     clear nw3 hsz3
     have BW:=aa (HL.out.trans (B3.mono HL.out.size))
     have HB3:=aa (HB.out.kept B3)
     clear N1 N2 b1 b3 BU hkS hkS3 N3 B3 HSH HNO HAD HC D0 HB HL hck hnew HRS hfR hx18 hi2 hi1
     obtain⟨R',hR'⟩:∃R',R'=RS+x:=⟨_,rfl⟩
     rw [←hR'] at N3' HRL HST
     clear hR'
     have HCMP:=iJ v3 v2 R' y u3 N3'.out (NY.out.below BW.out)
     have hi1:(0:Int)≤(j:Int):=by omega
     have hi2:(j:Int)<(X.length:Int):=by omega
     by_cases hlt:R'<y
     ·have HST2:=aa (HST.out 0 R' (by omega))
      have hc:cmpN R' y=-1:=cmpN_lt hlt
      rw [hc] at HCMP
      go_wp2_with fail
      refine HCMP.mono ?_
      rintro e u4 ⟨rfl,hs⟩
      have BW4:=aa (BW.out.trans ((hs.below u3.heap.size).mono BW.out.size))
      have HN4:=aa (N3'.out.below (hs.below _))
      have hb4:=HB3.out.kept (hs.below _)
      have hfr:=hb4.free j
      have hco:=hb4.cell j (by omega)
      generalize out.getD j 0=o at *
      have HB4:=aa hb4
      have HLT:=aa hlt
      clear hb4 hs HCMP hc hlt HB3 BW N3' HST HRL
      go_wp2
      go_roundw
      case rel=>exact⟨j,R',out.set j 0,by omega,rfl,HN4.out.store NW3.out,NW3.out,HLT.out,by simp;omega,digs_set hdo _ _ (by omega),HB4.out.set j 0,BW4.out.setCell (Nat.le_refl _) _,HST2.out⟩
      case measure=>simp [intOf]
     ·have hd:decide (cmpN R' y ≥ 0)=true:=by
       unfold cmpN;rw [if_neg hlt];split <;> decide
      have hd2:decide (0≤cmpN R' y)=true:=hd
      have HGE:=aa hlt
      go_wp2_with fail
      refine HCMP.mono ?_
      rintro e u4 ⟨rfl,hs⟩
      generalize cmpN R' y=cc at *
      have BW4:=aa (BW.out.trans ((hs.below u3.heap.size).mono BW.out.size))
      have HN4:=aa (N3'.out.below (hs.below _))
      have HB4:=aa (HB3.out.kept (hs.below _))
      clear hs HCMP hlt HB3 BW N3'
      go_wp2
      go_loopw [6,9,10] (fun r q s wr2=>∃(t Q R2:Nat),t≤32∧s=.int .i64 ((t:Int) - 1)∧q=.int .u64 Q∧Num wr2 r R2∧New (w.heap.size+1) r∧R'=Q*y+R2∧R2<y*2 ^ t∧Q+2 ^ t≤4294967296∧Blk wr2 w.heap.size out∧Below w.heap.size w wr2) (fun _ _ s _=>(intOf s+1).toNat)
      case atStart=>exact⟨32,0,R',Nat.le_refl _,rfl,rfl,HN4.out,NW3.out,by omega,HRL.out,by decide,HB4.out,BW4.out⟩
      case round=>
       obtain⟨t,Q,R2,ht,rfl,rfl,hn2,hnw2,hsum,hR2,hQ,hblk2,hbl2⟩:=hrel
       clear HN4 HB4 BW4 hd hd2
       have HSUM:=aa hsum
       have HR2:=aa hR2
       have HQ:=aa hQ
       have HB5:=aa hblk2
       have HL5:=aa hbl2
       have HN5:=aa hn2
       have NW5:=aa hnw2
       clear hnw2 NW3
       clear hsum hR2 hQ
       by_cases ht0:t=0
       ·subst ht0
        have HST2:=aa (HST.out Q R2 HSUM.out)
        have bQ:Q<4294967296:=by have:=HQ.out;rw [Nat.pow_zero] at this;omega
        have HLT:Hid (R2<y):=aa (by have:=HR2.out;rwa [Nat.pow_zero,Nat.mul_one] at this)
        have hfr:=hblk2.free j
        have hco:=hblk2.cell j (by omega)
        generalize out.getD j 0=o at *
        clear hblk2 hbl2 hn2 HST HRL HSUM HQ HR2
        go_wp2
        go_roundw
        case rel=>exact⟨j,R2,out.set j Q,by omega,rfl,HN5.out.store NW5.out,NW5.out,HLT.out,by simp;omega,digs_set hdo _ _ bQ,HB5.out.set j Q,HL5.out.setCell (Nat.le_refl _) _,HST2.out⟩
        case measure=>simp [intOf]
       ·obtain⟨m,rfl⟩:∃m,t=m+1:=⟨t - 1,by omega⟩
        have em:(((m+1:Nat):Int) - 1)=(m:Int):=by omega
        rw [em]
        have HS:=jG v2 y m wr (NY.out.below hbl2) (by have:=F2.out;omega)
        have hfR2:blen R2≤1125899906840000:=by
         have h1:=io HR2.out
         have h2:=iF y (m+1)
         have:=F2.out
         omega
        clear hblk2 hbl2 hn2
        go_wp2_with fail
        refine HS.mono ?_
        rintro e u5 ⟨⟨vx,rfl,Nx⟩,hb5⟩
        have HL6:=aa (HL5.out.trans (hb5.mono HL5.out.size))
        have HB6:=aa (HB5.out.kept hb5)
        have HN6:=aa (HN5.out.below hb5)
        have HCM:=iJ u6 vx R2 (y*2 ^ m) u5 HN6.out Nx
        clear HS hb5 HL5 HB5 HN5
        by_cases hge:y*2 ^ m≤R2
        ·have hd:decide (cmpN R2 (y*2 ^ m) ≥ 0)=true:=by
          unfold cmpN;rw [if_neg (by omega)];split <;> decide
         have hd2:decide (0≤cmpN R2 (y*2 ^ m))=true:=hd
         have HSUM2:=aa (qe y R' R2 Q m HSUM.out hge)
         have HR3:=aa (j3 y R2 m HR2.out hge)
         have HSB:=fun (u:World) (ha:Num u u6 R2) (hb:Num u vx (y*2 ^ m))=>oy u6 vx R2 (y*2 ^ m) u ha hb hge hfR2
         have HQ2:Hid (Q+2 ^ m+2 ^ m≤4294967296):=aa (by have:=HQ.out;rw [Nat.pow_succ] at this;omega)
         have hP0:0<2 ^ m:=Nat.two_pow_pos m
         have HN7:=aa Nx
         generalize cmpN R2 (y*2 ^ m)=cc at *
         generalize hYm:y*2 ^ m=Y2 at *
         have HYm:=aa hYm
         clear hYm
         go_wp2_with fail
         refine HCM.mono ?_
         rintro e u7 ⟨rfl,hs⟩
         have HL7:=aa (HL6.out.trans ((hs.below u5.heap.size).mono HL6.out.size))
         have HB7:=aa (HB6.out.kept (hs.below _))
         have HS7:=HSB u7 (HN6.out.below (hs.below _)) (HN7.out.below (hs.below _))
         clear HCM hs HL6 HB6 HN6 HN7 Nx HSB
         go_wp2_with fail
         refine HS7.mono ?_
         rintro e u8 ⟨⟨vr,rfl,Nr,nwr⟩,hb8⟩
         have HL8:=aa (HL7.out.trans (hb8.mono HL7.out.size))
         have HB8:=aa (HB7.out.kept hb8)
         have HN8:=aa Nr
         have NW8:Hid (New (w.heap.size+1) vr):=aa (nwr.mono HB7.out.lt)
         clear HS7 hb8 Nr nwr HL7 HB7 hge hd hd2
         obtain⟨P,hP⟩:∃P,P=2 ^ m:=⟨_,rfl⟩
         have HPm:=aa hP
         have eP:(2:Int) ^ m=(P:Int):=by rw [hP];push_cast;rfl
         have bP:Q+P+P≤4294967296:=by rw [hP];exact HQ2.out
         have bP0:0<P:=by rw [hP];exact hP0
         rw [←hP] at HSUM2
         clear hP hP0 HQ2
         have eQ:(Q:Int)+(P:Int)=((Q+P:Nat):Int):=by omega
         generalize Q+P=Q2 at *
         have wP:IntKind.u64.wrap (P:Int)=(P:Int):=by rw [IntKind.wrap_u64];omega
         have wQ:IntKind.u64.wrap (Q2:Int)=(Q2:Int):=by rw [IntKind.wrap_u64];omega
         go_wp2
         go_roundw
         case rel=>
          refine⟨m,Q2,R2 - Y2,by omega,rfl,rfl,HN8.out,NW8.out,HSUM2.out,?_,?_,HB8.out,HL8.out⟩
          ·rw [HYm.out];exact HR3.out
          ·rw [←HPm.out];exact bP
         case measure=>simp [intOf]
        ·have hlt2:R2<y*2 ^ m:=by omega
         have hc:cmpN R2 (y*2 ^ m)=-1:=cmpN_lt hlt2
         rw [hc] at HCM
         have HLT2:=aa hlt2
         have HQ2:Hid (Q+2 ^ m≤4294967296):=aa (by have:=HQ.out;rw [Nat.pow_succ] at this;omega)
         clear hlt2 hc hge Nx
         go_wp2_with fail
         refine HCM.mono ?_
         rintro e u7 ⟨rfl,hs⟩
         have HL7:=aa (HL6.out.trans ((hs.below u5.heap.size).mono HL6.out.size))
         have HB7:=aa (HB6.out.kept (hs.below _))
         have HN7:=aa (HN6.out.below (hs.below _))
         clear HCM hs HL6 HB6 HN6
         go_wp2
         go_roundw
         case rel=>exact⟨m,Q,R2,by omega,rfl,rfl,HN7.out,NW5.out,HSUM.out,HLT2.out,HQ2.out,HB7.out,HL7.out⟩
         case measure=>simp [intOf]

theorem f8 (c:Nat)(w:World)(hc:c<9223372036854775808):Calls Tryz.prog 39 #[.int .i64 c] w fun e w'=>(∃v,e=.returned v∧Num w' v c)∧Below w.heap.size w w':=by
 have hA:=Arg.lits w [c] #[.int .u64 (c:Int)] 1 rfl rfl (by intro z hz;simp at hz;omega) (by simp)
 have hb:Below w.heap.size w (w.alloc (.cells #[.int .u64 (c:Int)] 65)):=(Below.refl _ _).alloc (Nat.le_refl _) _
 have HO:=ep _ [c] _ hA (by simp)
 rw [show val [c]=c by simp [val]] at HO
 have HB:=aa hb
 clear hA hb
 go_enter Tryz.func39,Tryz.ntmps39
 go_wp2_with fail
 refine HO.mono ?_
 rintro e w2 ⟨⟨v,rfl,N⟩,hb2⟩
 have HX:=aa (And.intro N (HB.out.trans (hb2.mono HB.out.size)))
 clear N hb2 HO
 go_wp2
 go_ret
 exact⟨⟨v,rfl,HX.out.1⟩,HX.out.2⟩

theorem Num.digit {w:World}{v:Value}{d:Nat}(h:Num w v d)(hd:d<4294967296):∃a n c,v=.slice a n c∧((d=0∧n=0)∨(0<d∧n=1∧1≤c∧∃b off,a=some ⟨b,off,none⟩∧w.cell? ⟨b,off,none⟩=some (.int .u64 (d:Int)))):=by
 obtain⟨ds,hA,hD,ht,hv,_⟩:=h
 obtain⟨a,c,rfl,hle,_,hl⟩:=hA.form
 refine⟨a,ds.length,c,rfl,?_⟩
 match ds,hl,hD,ht,hv with
 | [],_,_,_,hv=>exact .inl ⟨by simpa [vb] using hv.symm,rfl⟩
 | [z],hl,hD,ht,hv=>
  have hz:z=d:=by simpa [vb] using hv
  subst hz
  have hz0:0<z:=by
   rcases Nat.eq_zero_or_pos z with h|h
   ·subst h;simp [tr] at ht
   ·exact h
  rcases hl with hl|⟨b,off,rfl,hc⟩
  ·cases hl
  ·have:=hc 0 (by simp)
   exact .inr ⟨hz0,rfl,hle,b,off,rfl,by simpa using this⟩
 | z :: y :: l,hl,hD,ht,hv=>
  exfalso
  have h:=dp hD ht 1 ((blen_le_iff _ _).2 (by rw [hv];exact hd))
  simp at h

theorem qp (x y:Nat):blen (x*y)≤blen x+blen y:=by
 refine (blen_le_iff _ _).2 ?_
 have h1:=(blen_le_iff x _).1 (Nat.le_refl _)
 have h2:=(blen_le_iff y _).1 (Nat.le_refl _)
 rw [Nat.pow_add]
 exact Nat.mul_lt_mul_of_lt_of_lt h1 h2

theorem pV {b:Nat}{D:List Nat}{k:Nat}(hb:2≤b)(hb2:b≤36)(hd:∀i,i<k→D.getD i 0<b):blen (dvr b D 0 k)≤6*k:=by
 rcases Nat.eq_zero_or_pos k with h|h
 ·subst h;simp [dvr,blen]
 ·have h1:=dC b D 0 (by omega) k (fun i hi=>by rw [Nat.zero_add];exact hd i hi)
  exact Nat.le_trans (b8 (Nat.le_of_lt h1)) (fq hb2 h)

theorem gm {b:Nat}{D E:List Nat}:∀ {n:Nat},(∀i,i<n→D.getD i 0=E.getD i 0)→dvr b D 0 n=dvr b E 0 n
 | 0,_=>rfl
 | n+1,h=>by rw [dvr,dvr,gm (fun i hi=>h i (by omega)),Nat.zero_add,h n (by omega)]



theorem aP (L:List Nat):(au (L.map fig)).size=L.length:=by
 have h:(au (L.map fig)).data.toList.length=L.length:=by rw [cP,List.length_map]
 exact h
end Go.Proofs.YtkhckcfikljjhaaGreatDoor
namespace Go.Proofs.YtkhckcfikljjhaaGreatDoor
open Lm

structure Top (a m f:Nat):Prop where
 low:9223372036854775808≤m
 high:m<18446744073709551616
 below:m*2 ^ f≤a*9223372036854775808
 above:a*9223372036854775808<(m+1)*2 ^ f

theorem iH {f E:Nat}(h:f<E):2*2 ^ f≤2 ^ E:=by
 rw [Nat.mul_comm,←Nat.pow_succ]
 exact Nat.pow_le_pow_right (by omega) h

theorem Pw.over {b n m f a lm E:Nat}(h:Pw b n m f)(t:Top a lm E)(hc:E<f∨(f=E∧lm<m)):a<b ^ n:=by
 have h1:m*2 ^ f≤b ^ n*9223372036854775808:=by
  rcases h with ⟨rfl,rfl,rfl⟩|⟨_,c,_,h⟩
  ·simp
  ·exact h.below
 have h2:=t.above
 have hr:=h.range
 have hl:=t.high
 refine Nat.lt_of_mul_lt_mul_right (a:=9223372036854775808) (Nat.lt_of_lt_of_le h2 (Nat.le_trans ?_ h1))
 rcases hc with hc|⟨rfl,hc⟩
 ·have h3:=iH hc
  have h4:(lm+1)*2 ^ E≤18446744073709551616*2 ^ E:=Nat.mul_le_mul_right _ (by omega)
  have h5:9223372036854775808*2 ^ f≤m*2 ^ f:=Nat.mul_le_mul_right _ hr.1
  omega
 ·exact Nat.mul_le_mul_right _ (by omega)

theorem Pw.under {b n m f a lm E:Nat}(h:Pw b n m f)(t:Top a lm E)(hn:n≤1125899906842624)(hw:m+4*n<18446744073709551616)(hc:f<E∨(f=E∧m+4*n≤lm)):b ^ n≤a:=by
 have h1:=h.above hn
 have h2:=t.below
 have hl:=t.low
 refine Nat.le_of_mul_le_mul_right (c:=9223372036854775808) (Nat.le_trans h1 (Nat.le_trans ?_ h2)) (by omega)
 rcases hc with hc|⟨rfl,hc⟩
 ·have h3:=iH hc
  have h4:(m+4*n)*2 ^ f≤18446744073709551616*2 ^ f:=Nat.mul_le_mul_right _ (by omega)
  have h5:9223372036854775808*2 ^ E≤lm*2 ^ E:=Nat.mul_le_mul_right _ hl
  omega
 ·exact Nat.mul_le_mul_right _ hc

theorem Top.of {a L:Nat}(h1:2 ^ (L - 1)≤a)(h2:a<2 ^ L)(hL:64<L):Top a (a / 2 ^ (L - 64)) (L - 64+63):=by
 obtain⟨e,rfl⟩:∃e,L=e+64:=⟨L - 64,by omega⟩
 rw [show e+64 - 64=e by omega]
 have hp:0<2 ^ e:=Nat.pow_pos (by omega)
 have e1:2 ^ (e+64 - 1)=9223372036854775808*2 ^ e:=by rw [show e+64 - 1=e+63 by omega,Nat.pow_add,Nat.mul_comm]
 have e2:2 ^ (e+64)=18446744073709551616*2 ^ e:=by rw [Nat.pow_add,Nat.mul_comm]
 have e3:2 ^ (e+63)=9223372036854775808*2 ^ e:=by rw [Nat.pow_add,Nat.mul_comm]
 rw [e1] at h1
 rw [e2] at h2
 have d1:=Nat.div_mul_le_self a (2 ^ e)
 have d2:=Nat.lt_div_mul_add (a:=a) hp
 refine⟨(Nat.le_div_iff_mul_le hp).2 h1,(Nat.div_lt_iff_lt_mul hp).2 h2,?_,?_⟩
 ·rw [e3]
  generalize a / 2 ^ e=q at *
  have e4:q*(9223372036854775808*2 ^ e)=q*2 ^ e*9223372036854775808:=by ac_rfl
  rw [e4]
  exact Nat.mul_le_mul_right _ d1
 ·rw [e3]
  generalize a / 2 ^ e=q at *
  have e4:(q+1)*(9223372036854775808*2 ^ e)=(q*2 ^ e+2 ^ e)*9223372036854775808:=by rw [Nat.add_mul q 1,Nat.one_mul,Nat.add_mul];ac_rfl
  rw [e4]
  exact Nat.mul_lt_mul_of_pos_right d2 (by omega)
end Go.Proofs.YtkhckcfikljjhaaGreatDoor
namespace Go.Proofs.YtkhckcfikljjhaaGreatDoor
open Go.RowKit
open Lm
attribute [local go_sem ↓] Go.wp_at_zero Go.wp_at_succ

theorem jq {X:List Nat}(h:Limbs X)(l:Nat)(hl:l<X.length):val X / 18446744073709551616 ^ l=X.getD l 0+18446744073709551616*(val X / 18446744073709551616 ^ (l+1)):=by
 have h1:X.getD l 0=val X / 18446744073709551616 ^ l % 18446744073709551616:=by
  revert l
  induction X with
  | nil=>intro l hl;simp at hl
  | cons a r ih=>
   intro l hl
   have ha:a<18446744073709551616:=h a (List.mem_cons_self ..)
   have hr:Limbs r:=fun z hz=>h z (List.mem_cons_of_mem _ hz)
   cases l with
   | zero=>simp [val];omega
   | succ l=>
    have:=ih hr l (by simpa using hl)
    simp only [List.getD_cons_succ,val]
    rw [this,Nat.pow_succ,Nat.mul_comm (18446744073709551616 ^ l),←Nat.div_div_eq_div_mul]
    congr 2
    omega
 rw [h1,Nat.pow_succ,←Nat.div_div_eq_div_mul]
 omega

theorem lp (x u s:Nat)(hs:s≤64):(x+18446744073709551616*u) / 2 ^ s=x / 2 ^ s+u*2 ^ (64 - s):=by
 have e:18446744073709551616*u=2 ^ s*(u*2 ^ (64 - s)):=by
  rw [Nat.mul_left_comm,←Nat.pow_add,show s+(64 - s)=64 by omega,Nat.mul_comm]
 rw [e,Nat.add_mul_div_left _ _ (Nat.pow_pos (by omega))]

theorem qB (h s l U:Nat)(hs:s≤64)(hl:l<2 ^ s)(hh:h*2 ^ s<18446744073709551616)(hU:U=h*2 ^ s+l):bits BinOp.or IntKind.u64 (l:Int) ((h*2 ^ s:Nat):Int)=(U:Int):=by
 have hll:l<18446744073709551616:=Nat.lt_of_lt_of_le hl (by rw [show (18446744073709551616:Nat)=2 ^ 64 from rfl];exact Nat.pow_le_pow_right (by omega) hs)
 rw [bits_or_u64_nat _ _ hll hh,Nat.or_comm,hU,Nat.mul_comm h,Nat.two_pow_add_eq_or_of_lt hl]

theorem lT (va:Value)(X:List Nat)(w:World)(hA:Arg w va X)(hL:64<blen (val X)) :
  Calls Tryz.prog 115 #[va] w fun e w'=>∃m f:Nat,e=.returned (.agg #[.int .u64 m,.int .i64 ((f:Int) - 63)])∧Top (val X) m f∧f+1=blen (val X)∧Below w.heap.size w w':=by
 have HL:=fun W (hA:Arg W va X)=>aE va X W hA
 obtain⟨ao,cap,rfl,hc,hm,hli⟩:=hA.form
 have hlim:=hA.limbs
 have hfew:=hA.few
 have hv:=val_lt hlim
 obtain⟨L,hLe⟩:∃L,blen (val X)=L:=⟨_,rfl⟩
 have hup:val X<2 ^ L:=(blen_le_iff _ _).1 (by omega)
 have hlo:2 ^ (L - 1)≤val X:=by
  rcases Nat.lt_or_ge (val X) (2 ^ (L - 1)) with h|h
  ·have:=(blen_le_iff _ _).2 h;omega
  ·exact h
 have htop:=Top.of hlo hup (by omega)
 have hLX:L≤64*X.length:=by rw [←hLe];exact (blen_le_iff _ _).2 (by rw [Nat.pow_mul];exact hv)
 rw [hLe]
 simp only [hLe] at HL
 rw [hLe] at hL
 obtain⟨l,s,hls,hs⟩:∃l s,L - 64=64*l+s∧s<64:=⟨(L - 64) / 64,(L - 64) % 64,by omega,by omega⟩
 have hll:l<X.length:=by omega
 have hdiv:val X / 2 ^ (L - 64)=(X.getD l 0+18446744073709551616*(val X / 18446744073709551616 ^ (l+1))) / 2 ^ s:=by
  rw [hls,Nat.pow_add,←Nat.div_div_eq_div_mul,Nat.pow_mul,←jq hlim l hll]
 rw [lp _ _ _ (by omega)] at hdiv
 have hx0:=limb_lt hlim l
 have hnext:s≠0→l+1<X.length∧val X / 18446744073709551616 ^ (l+1)=X.getD (l+1) 0∧X.getD (l+1) 0*2 ^ (64 - s)<18446744073709551616:=by
  intro h0
  have hl1:l+1<X.length:=by omega
  have hu:=jq hlim (l+1) hl1
  have hb:=htop.high
  rw [hdiv] at hb
  have hu2:val X / 18446744073709551616 ^ (l+1)*2 ^ (64 - s)<18446744073709551616:=Nat.lt_of_le_of_lt (Nat.le_add_left _ _) hb
  have hu3:val X / 18446744073709551616 ^ (l+1)<18446744073709551616:=by
   have:val X / 18446744073709551616 ^ (l+1)*1≤val X / 18446744073709551616 ^ (l+1)*2 ^ (64 - s):=Nat.mul_le_mul_left _ (Nat.pow_pos (by omega))
   omega
  have hu4:val X / 18446744073709551616 ^ (l+1)=X.getD (l+1) 0:=by omega
  refine⟨hl1,hu4,?_⟩
  rw [←hu4];exact hu2
 obtain⟨W,hW⟩:∃W,w.alloc (.cells #[.int .u64 0,.int .i64 0] 147)=W:=⟨_,rfl⟩
 have hbW:Below w.heap.size w W:=by rw [←hW];exact ak _ _
 have HLW:=HL W (hA.below hbW)
 obtain⟨b,off,rfl,hcell⟩:∃b off,ao=some ⟨b,off,none⟩∧∀k,k<X.length→W.cell? ⟨b,off+k,none⟩=some (.int .u64 ((X.getD k 0:Nat):Int)):=by
  rcases hli.below hbW with h|h
  ·rw [h] at hll;simp at hll
  ·exact h
 have hc0:=hcell l hll
 have hbox:W.heap[w.heap.size]?=some (.cells #[.int .u64 0,.int .i64 0] 147):=by rw [←hW];exact heap_alloc_new ..
 obtain⟨d0,d1⟩:=aT hbox
 have hfz:=d6 hbox
 obtain⟨E,hE,hE2⟩:∃E:Nat,(L:Int) - 64=(E:Int)∧L - 64=E:=⟨L - 64,by omega,rfl⟩
 have hq:(E:Int) / 64=(l:Int):=by omega
 have hr:(E:Int) % 64=(s:Int):=by omega
 have hq':(E:Int).tdiv 64=(l:Int):=by rw [Int.tdiv_eq_ediv_of_nonneg (by omega)];exact hq
 have hr':(E:Int).tmod 64=(s:Int):=by rw [Int.tmod_eq_emod_of_nonneg (by omega)];exact hr
 have hsh:((X.getD l 0:Nat):Int) / 2 ^ s=((X.getD l 0 / 2 ^ s:Nat):Int):=by rw [Int.natCast_ediv,Int.natCast_pow];rfl
 have hs0:(0:Int)≤(s:Int):=by omega
 have hs64:(s:Int)<64:=by omega
 have hl0:(0:Int)≤(l:Int):=by omega
 have hlX:(l:Int)<(X.length:Int):=by omega
 have hfx:((L - 64+63:Nat):Int) - 63=(E:Int):=by omega
 have HT:=aa htop
 have HB:=aa hbW
 have HBox:=aa hbox
 have hxs:X.getD l 0 / 2 ^ s<18446744073709551616:=Nat.lt_of_le_of_lt (Nat.div_le_self _ _) hx0
 by_cases hz:s=0
 ·subst hz
  rw [Nat.pow_zero,Nat.div_one,Nat.sub_zero,show (2:Nat) ^ 64=18446744073709551616 from rfl] at hdiv
  have hM:val X / 2 ^ (L - 64)=X.getD l 0:=by have hb:=htop.high;omega
  rw [hM] at htop
  have HM:=aa htop
  clear htop HT hM hdiv hnext hcell hbox hbW hA hli HL hup hlo hlim hv
  generalize X.getD l 0=M at *
  have R5:=dm HBox.out (a':=.int .u64 M) (b':=.int .i64 (E:Int))
  have HD:=aa (dE HB.out (g:=w.heap.size) (u0:=.int .u64 M) (u1:=.int .i64 (E:Int)) (Nat.le_refl _))
  go_enter Tryz.func115,Tryz.ntmps115
  go_wp2_with fail
  refine HLW.mono ?_
  rintro e wn ⟨rfl,hw⟩;rw [hw];clear hw wn HLW
  go_wp2
  generalize (W.setCell ⟨w.heap.size,0,none⟩ (.int .u64 M)).setCell ⟨w.heap.size,1,none⟩ (.int .i64 (E:Int))=w8 at *
  obtain⟨q0,q1⟩:=aT R5
  refine bodyPost_ret (v:=.agg #[.int .u64 M,.int .i64 (E:Int)]) (by simp [results,Tryz.results115,go_sem,q0,q1]) rfl ?_
  exact⟨M,L - 64+63,by rw [hfx],HM.out,by omega,HD.out⟩
 ·obtain⟨hl1,hu,hfit⟩:=hnext hz
  have hc1:=hcell (l+1) hl1
  rw [hu] at hdiv
  have hor:=qB (X.getD (l+1) 0) (64 - s) (X.getD l 0 / 2 ^ s) (val X / 2 ^ (L - 64)) (by omega) ((Nat.div_lt_iff_lt_mul (Nat.pow_pos (by omega))).2 (by rw [←Nat.pow_add,show 64 - s+s=64 by omega];exact hx0)) hfit (by rw [hdiv];omega)
  have hwr:=cV (X.getD (l+1) 0) (64 - s) (X.getD (l+1) 0*2 ^ (64 - s)) (Nat.mod_eq_of_lt hfit)
  obtain⟨t,ht⟩:∃t:Nat,64 - s=t:=⟨_,rfl⟩
  have hti:(64:Int) - (s:Int)=(t:Int):=by omega
  have htn:t<64:=by omega
  have hgt:(0:Int)<(s:Int):=by omega
  rw [ht] at hor hwr
  have HM:=aa htop
  clear htop HT hdiv hnext hcell hbox hbW hA hli HL hup hlo hlim hv hu hfit
  have hl1':(l:Int)+1<(X.length:Int):=by omega
  generalize val X / 2 ^ (L - 64)=M at *
  generalize X.getD (l+1) 0*2 ^ t=z at *
  generalize X.getD (l+1) 0=x1 at *
  generalize X.getD l 0 / 2 ^ s=y at *
  generalize X.getD l 0=x0 at *
  have R5:=dm HBox.out (a':=.int .u64 M) (b':=.int .i64 (E:Int))
  have HD:=aa (dE HB.out (g:=w.heap.size) (u0:=.int .u64 M) (u1:=.int .i64 (E:Int)) (Nat.le_refl _))
  go_enter Tryz.func115,Tryz.ntmps115
  go_wp2_with fail
  refine HLW.mono ?_
  rintro e wn ⟨rfl,hw⟩;rw [hw];clear hw wn HLW
  go_wp2
  generalize (W.setCell ⟨w.heap.size,0,none⟩ (.int .u64 M)).setCell ⟨w.heap.size,1,none⟩ (.int .i64 (E:Int))=w8 at *
  obtain⟨q0,q1⟩:=aT R5
  refine bodyPost_ret (v:=.agg #[.int .u64 M,.int .i64 (E:Int)]) (by simp [results,Tryz.results115,go_sem,q0,q1]) rfl ?_
  exact⟨M,L - 64+63,by rw [hfx],HM.out,by omega,HD.out⟩

theorem nd (b n m f a lm E:Nat)(c1 c2 c3:Value)(w:World)(hp:Pw b n m f)(ht:Top a lm E)(hn:n≤1125899906842624)
  (HS:∀W,Below w.heap.size w W→Calls Tryz.prog 117 #[c1,c2,c3] W fun e w'=>e=.returned (.bool (decide (b ^ n≤a)))∧Below W.heap.size W w') :
  Calls Tryz.prog 116 #[.agg #[.int .u64 m,.int .i64 ((f:Int) - 63)],.int .i64 n,.agg #[.int .u64 lm,.int .i64 ((E:Int) - 63)],.func (.func 117) #[] #[c1,c2,c3]] w fun e w'=>e=.returned (.bool (decide (b ^ n≤a)))∧Below w.heap.size w w':=by
 have hr:=hp.range
 have hl:=ht.high
 have hno:=fun h=>hp.over ht h
 have hyes:=fun h1 h2=>hp.under ht hn h1 h2
 have ba:=ak w (.cells #[.int .u64 m,.int .i64 ((f:Int) - 63)] 147)
 have bb:=ak (w.alloc (.cells #[.int .u64 m,.int .i64 ((f:Int) - 63)] 147)) (.cells #[.int .u64 lm,.int .i64 ((E:Int) - 63)] 147)
 have bab:=ba.trans (bb.mono ba.size)
 have HB:=aa bab
 have HS2:=HS _ bab
 have HNO:=aa hno
 have HYES:=aa hyes
 clear hno hyes ba bb bab HS hp ht
 by_cases h1:E<f
 ·have i1:(E:Int) - 63<(f:Int) - 63:=by omega
  have hd:decide (b ^ n≤a)=false:=decide_eq_false (by have:=HNO.out (.inl h1);omega)
  rw [hd]
  clear HS2 HNO HYES hd
  go_enter Tryz.func116,Tryz.ntmps116
  go_wp2
  go_ret
  exact⟨rfl,HB.out⟩
 ·by_cases h2:f=E∧lm<m
  ·obtain⟨rfl,h2⟩:=h2
   have i1:(lm:Int)<(m:Int):=by omega
   have hd:decide (b ^ n≤a)=false:=decide_eq_false (by have:=HNO.out (.inr ⟨rfl,h2⟩);omega)
   rw [hd]
   clear HS2 HNO HYES hd
   go_enter Tryz.func116,Tryz.ntmps116
   go_wp2
   go_ret
   exact⟨rfl,HB.out⟩
  ·have e4:(4:Int)*(n:Int)=((4*n:Nat):Int):=by omega
   have ha:=fun W=>bC m (4*n) W
   have hS0:(m+4*n) / 18446744073709551616=0∨(m+4*n) / 18446744073709551616=1:=by omega
   have hSl:(m+4*n) % 18446744073709551616<18446744073709551616:=by omega
   have n4:4*n<18446744073709551616:=by omega
   have hq:(m+4*n) / 18446744073709551616=0→m+4*n=(m+4*n) % 18446744073709551616:=by omega
   obtain⟨S,hS⟩:∃S,(m+4*n) % 18446744073709551616=S:=⟨_,rfl⟩
   obtain⟨cy,hcy⟩:∃cy,(m+4*n) / 18446744073709551616=cy:=⟨_,rfl⟩
   simp only [hS,hcy] at ha
   rw [hcy] at hS0
   rw [hS,hcy] at hq
   rw [hS] at hSl
   have HQ:=aa hq
   obtain⟨N4,hN4⟩:∃N4,4*n=N4:=⟨_,rfl⟩
   rw [hN4] at e4 n4
   simp only [hN4] at ha
   have HN4:=aa hN4
   have j1:¬((E:Int) - 63<(f:Int) - 63):=by omega
   clear hq hS hcy hN4
   by_cases hc:cy=0∧(f<E∨S≤lm)
   ·obtain⟨rfl,hc⟩:=hc
    have hd:decide (b ^ n≤a)=true:=decide_eq_true (HYES.out (by have:=HQ.out rfl;omega) (by have:=HQ.out rfl;omega))
    rw [hd]
    by_cases hfE:f<E
    ·have i1:(f:Int) - 63<(E:Int) - 63:=by omega
     have i2:¬((f:Int) - 63=(E:Int) - 63):=by omega
     have i3:(((f:Int) - 63) == ((E:Int) - 63))=false:=by rw [beq_eq_false_iff_ne];exact i2
     clear HS2 HNO HYES hd hS0 h1 h2
     go_enter Tryz.func116,Tryz.ntmps116
     go_wp2
     go_ret
     exact⟨rfl,HB.out⟩
    ·obtain rfl:f=E:=by omega
     have i1:¬((lm:Int)<(m:Int)):=by omega
     have i2:(S:Int)≤(lm:Int):=by omega
     clear HS2 HNO HYES hd hS0 h1 h2
     go_enter Tryz.func116,Tryz.ntmps116
     go_wp2
     go_ret
     exact⟨rfl,HB.out⟩
   ·generalize decide (b ^ n≤a)=r at *
    by_cases hfE:f<E
    ·have i1:(f:Int) - 63<(E:Int) - 63:=by omega
     have i2:¬((f:Int) - 63=(E:Int) - 63):=by omega
     have i3:(((f:Int) - 63) == ((E:Int) - 63))=false:=by rw [beq_eq_false_iff_ne];exact i2
     obtain rfl:cy=1:=by omega
     clear HNO HYES hS0 h1 h2 hc
     go_enter Tryz.func116,Tryz.ntmps116
     go_wp2_with fail
     refine HS2.mono ?_
     rintro e w2 ⟨rfl,hb2⟩
     have HB2:=aa (HB.out.trans (hb2.mono HB.out.size))
     clear HS2 hb2
     go_wp2
     go_ret
     exact⟨rfl,HB2.out⟩
    ·obtain rfl:f=E:=by omega
     have i1:¬((lm:Int)<(m:Int)):=by omega
     rcases hS0 with rfl|rfl
     ·have i2:¬((S:Int)≤(lm:Int)):=by omega
      clear HNO HYES h1 h2 hc
      go_enter Tryz.func116,Tryz.ntmps116
      go_wp2_with fail
      refine HS2.mono ?_
      rintro e w2 ⟨rfl,hb2⟩
      have HB2:=aa (HB.out.trans (hb2.mono HB.out.size))
      clear HS2 hb2
      go_wp2
      go_ret
      exact⟨rfl,HB2.out⟩
     ·clear HNO HYES h1 h2 hc
      go_enter Tryz.func116,Tryz.ntmps116
      go_wp2_with fail
      refine HS2.mono ?_
      rintro e w2 ⟨rfl,hb2⟩
      have HB2:=aa (HB.out.trans (hb2.mono HB.out.size))
      clear HS2 hb2
      go_wp2
      go_ret
      exact⟨rfl,HB2.out⟩
end Go.Proofs.YtkhckcfikljjhaaGreatDoor

