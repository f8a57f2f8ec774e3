/- The reference's numbers: Div. -/
import Derived.Test.YtdbjbbdhlpfhjaaGreatDoorB13
import Derived.Test.YtdbjbbdhlpfhjaaGreatDoorB11
import Derived.Deep.CutBlock
import Derived.Deep.DeepCutAuto
import Derived.Test.YtdbjbbdhlpfhjaaGreatDoorB12
import Derived.Test.YtdbjbbdhlpfhjaaGreatDoorB02
set_option maxRecDepth 20000
set_option maxHeartbeats 4000000
namespace Go.Proofs.YtdbjbbdhlpfhjaaGreatDoor
open Go.RowKit
open Lm
attribute [local go_sem ↓] Go.wp_at_zero Go.wp_at_succ

theorem dt {a b c:World}(h:Below a.heap.size a b)(k:Below b.heap.size b c):Below a.heap.size a c:=h.trans (k.mono h.size)

theorem Below.one (w:World)(o:Obj):Below w.heap.size w (w.alloc o):=(Below.refl _ _).alloc (Nat.le_refl _) _

theorem Blk.kept {w w':World}{b:Nat}{xs:List Nat}(h:Blk w b xs)(hb:Below w.heap.size w w'):Blk w' b xs:=by
 unfold Blk
 rw [hb.block b h.lt];exact h

theorem Arg.one (w:World)(z:Nat)(hz:z<18446744073709551616):Arg (w.alloc (.cells #[.int .u64 (z:Int)] 61)) (.slice (some ⟨w.heap.size,0,none⟩) 1 1) [z]:=by
 have hb:Blk (w.alloc (.cells #[.int .u64 (z:Int)] 61)) w.heap.size [z]:=by
  unfold Blk
  rw [heap_alloc_new]
  rfl
 exact⟨⟨_,_,rfl,Nat.le_refl _,by simp,.inr ⟨_,0,rfl,fun k hk=>by rw [Nat.zero_add];exact hb.cell k hk⟩⟩,by intro y hy;simp at hy;omega,by simp,fun n c e=>by cases e⟩

theorem ma (v1 v2:Value)(x y:Nat)(w:World)(h1:Num w v1 x)(h2:Num w v2 y)(hy:y≠0)(f1:blen x≤1125899906840000)(f2:blen y≤1125899906810000) :
  Calls Tryz.prog 59 #[v1,v2] w fun e w'=>(∃vq vr,e=.returned (.tuple #[vq,vr])∧Num w' vq (x / y)∧Num w' vr (x % y)∧New w.heap.size vq∧New w.heap.size vr)∧Below w.heap.size w w':=by
 obtain⟨X,A1,hX,hXt,rfl,_⟩:=h1
 have lX:=ga hX hXt 35184372088750 (by omega)
 obtain⟨a1,c1,rfl,hc1,hm1,L1⟩:=A1.form
 obtain⟨i0,hi,hz0,hz1,hz2⟩:=info_parts Tryz.infoU
 have NY:=ac h2
 have F2:=ac f2
 have HY0:=ac hy
 clear f1 f2 hXt A1 h2 hy
 go_enter Tryz.func59,Tryz.ntmps59
 go_wp2_with (at_make;refine wpList_make_full _ rfl _ _ 30 rfl w.heap.size 61 i0 (.int .u64 0) 1 Tryz.underlying30 hi hz0 hz1 .i64 .i64 _ _ X.length rfl rfl (by omega) (by omega) (by rw [hz2];omega) (by unfold maxLen;omega) (Nat.le_refl _) ?_;intro w1 hown hgrow)
 have hb1:=Blk.made hown
 have hbel:Below w.heap.size w w1:=(Below.refl _ _).grown hgrow (Nat.le_refl _) (fun k hk=>by cases hk)
 clear hown hgrow hi hz0 hz1 hz2
 go_loopw [6,8] (fun r i wr=>∃(k R:Nat) (out:List Nat),k≤X.length∧i=.int .i64 ((k:Int) - 1)∧Num wr r R∧New (w.heap.size+1) r∧R<y∧out.length=X.length∧Digs 4294967296 out∧Blk wr w.heap.size out∧Below w.heap.size w wr ∧
   vb 4294967296 (X.drop k)=vb 4294967296 (out.drop k)*y+R) (fun _ i _=>(intOf i+1).toNat)
 case atStart=>exact⟨X.length,0,_,Nat.le_refl _,rfl,Num.nil _,New.nil _ _ _,by have:=HY0.out;omega,by simp,digs_replicate (by omega) _,hb1,hbel,by simp [vb]⟩
 case round=>
  obtain⟨k,R,out,hk,rfl,hnr,hnw0,hR,hlen,hdo,hblk,hbl,hval⟩:=hrel
  clear hb1 hbel
  by_cases hk0:k=0
  ·subst hk0
   have hve:=pp _ y _ R hval hR
   rw [List.drop_zero,List.drop_zero] at hve
   have hA:=Ans.of_blk (base:=w.heap.size) (zs:=out) (Nat.le_refl _) hblk List.take_length.symm (Nat.le_refl _) (by omega) (digs_limbs hdo)
   have H:=eE w.heap.size _ _ _ (hA.arg (by omega)) hdo (by omega) (fun b off n c e=>by cases e;exact Nat.le_refl _)
   rw [hlen,hve.1] at H
   have HR:Hid (Num wr u6 (vb 4294967296 X % y)):=ac (by rw [←hve.2];exact hnr)
   have HL:=ac hbl
   have HNW:=ac (hnw0.mono (Nat.le_succ _))
   clear hval hblk hbl hX hA hve L1 hnr hnw0
   go_wp2_with fail
   refine H.mono ?_
   rintro e w2 ⟨⟨v',rfl,hnum,hnv⟩,rfl⟩
   have HN:=ac (And.intro hnum hnv)
   clear hnum hnv H
   go_wp2
   go_ret2
   exact⟨⟨v',u6,rfl,HN.out.1,HR.out,HN.out.2,HNW.out⟩,HL.out⟩
  ·obtain⟨j,rfl⟩:∃j,k=j+1:=⟨k - 1,by omega⟩
   rcases L1.below hbl with h0|⟨b,off,rfl,hcell⟩
   ·rw [h0] at hk;simp at hk
   ·have hck:=hcell j (by omega)
    have hbw:b<wr.heap.size:=aG.block (zs:=X) (.inr ⟨b,off,rfl,hcell⟩) (by omega)
    have ej:(((j+1:Nat):Int) - 1)=(j:Int):=by omega
    rw [ej]
    have z1:=dig_lt (by omega) hX j
    have HST:=ac (fun q R2 hq=>rk X out j y R q R2 (by omega) (by omega) hval hq)
    have HRL:=ac (qc y R (X.getD j 0) hR z1)
    have hfR:blen R+32≤1125899906840000:=by have:=jM hR;have:=F2.out;omega
    generalize X.getD j 0=x at *
    have HC:=ac (fun (u:World) (hu:Below wr.heap.size wr u)=>(show u.cell? ⟨b,off+j,none⟩=some (.int .u64 (x:Int)) by rw [hu.cell (p:=⟨b,off+j,none⟩) hbw];exact hck))
    have D0:Hid (Below wr.heap.size wr wr.drew):=ac ((Below.refl _ _).drew)
    obtain⟨RS,hRS⟩:∃RS,RS=R*2 ^ 32:=⟨_,rfl⟩
    have HSH:=ac (fun (u:World) (hu:Below wr.heap.size wr u)=>(by have h:=jf _ R 32 u (hnr.below hu) hfR;rw [←hRS] at h;exact h:Calls Tryz.prog 93 #[u6,.int .i64 32] u fun e w'=>(∃v',e=.returned v'∧Num w' v' RS)∧Below u.heap.size u w'))
    have ex:vb 4294967296 [x]=x:=by simp [vb]
    have HNO:=ac (fun (u:World) (v:Value) (hv:Arg u v [x])=>(by have h:=gf v [x] u hv (by intro z hz;simp at hz;omega) (by simp);rw [ex] at h;exact h:Calls Tryz.prog 91 #[v] u fun e w'=>(∃v',e=.returned v'∧Num u v' x)∧w'=u))
    have hfA:blen RS≤1125899906840000:=by rw [hRS];have:=jz R 32;omega
    have hfB:blen x≤1125899906840000:=by have:=(blen_le_iff x 32).2 (by omega);omega
    have HAD:=ac (fun (u:World) (va vb':Value) (na:Num u va RS) (nb:Num u vb' x)=>kL va vb' _ _ u na nb hfA hfB)
    have HB:=ac hblk
    have HL:=ac hbl
    rw [←hRS] at HST HRL
    have HRS:=ac hRS
    clear hRS
    have hx18:x<18446744073709551616:=by omega
    have hi1:(0:Int)≤(j:Int):=by omega
    have hi2:(j:Int)<(X.length:Int):=by omega
    have hnew:=World.new_ne wr ⟨b,off+j,none⟩ hck
    clear hval hblk hbl hcell hnr hnw0 hX L1 ex hfA hfB
    go_wp2
    go_region_held3 (fun w'=>w'.cell? ⟨b,off+j,none⟩=some (.int .u64 x)) (go_keep) (first
     | (go_at_call 93;refine (HSH.out _ (by first|exact D0.out|exact dt D0.out (Below.one _ _))).mono ?_;rintro e u1 ⟨⟨v1',rfl,N1⟩,b1⟩;(first | (have BU:=dt D0.out b1) | (have BU:=dt (dt D0.out (Below.one _ _)) b1));(have hkS:=HC.out u1 BU);(try replace N2:=N2.below b1))
     | (go_at_call 91;refine (HNO.out _ _ (by first|exact Arg.one u1 x hx18|exact Arg.one wr.drew x hx18|exact (Arg.one wr.drew x hx18).below b1)).mono ?_;rintro e u2 ⟨⟨v2',rfl,N2⟩,hw⟩;subst hw)
     | (go_at_call 55;refine (HAD.out _ _ _ (by first|exact N1|exact N1.below (Below.one _ _)) N2).mono ?_;rintro e u3 ⟨⟨v3,rfl,N3,nw3⟩,b3⟩;(first | (have B3:=dt BU b3) | (have B3:=dt (dt BU (Below.one _ _)) b3));(have hkS3:=HC.out u3 B3)))
    all_goals
     have N3':=ac N3
     have hsz3:w.heap.size<wr.heap.size:=HB.out.lt
     have NW3:Hid (New (w.heap.size+1) v3):=ac (nw3.mono (by first | (have:=BU.size;omega) | (have:=BU.size;simp;omega)))
     clear nw3 hsz3
     have BW:=ac (HL.out.trans (B3.mono HL.out.size))
     have HB3:=ac (HB.out.kept B3)
     clear N1 N2 b1 b3 BU hkS hkS3 N3 B3 HSH HNO HAD HC D0 HB HL hck hnew HRS hfR hx18 hi2 hi1
     obtain⟨R',hR'⟩:∃R',R'=RS+x:=⟨_,rfl⟩
     rw [←hR'] at N3' HRL HST
     clear hR'
     have HCMP:=gt v3 v2 R' y u3 N3'.out (NY.out.below BW.out)
     have hi1:(0:Int)≤(j:Int):=by omega
     have hi2:(j:Int)<(X.length:Int):=by omega
     by_cases hlt:R'<y
     ·have HST2:=ac (HST.out 0 R' (by omega))
      have hc:cmpN R' y=-1:=cmpN_lt hlt
      rw [hc] at HCMP
      go_wp2_with fail
      refine HCMP.mono ?_
      rintro e u4 ⟨rfl,hs⟩
      have BW4:=ac (BW.out.trans ((hs.below u3.heap.size).mono BW.out.size))
      have HN4:=ac (N3'.out.below (hs.below _))
      have hb4:=HB3.out.kept (hs.below _)
      have hfr:=hb4.free j
      have hco:=hb4.cell j (by omega)
      generalize out.getD j 0=o at *
      have HB4:=ac hb4
      have HLT:=ac hlt
      clear hb4 hs HCMP hc hlt HB3 BW N3' HST HRL
      go_wp2
      go_roundw
      case rel=>exact⟨j,R',out.set j 0,by omega,rfl,HN4.out.store NW3.out,NW3.out,HLT.out,by simp;omega,digs_set hdo _ _ (by omega),HB4.out.set j 0,BW4.out.setCell (Nat.le_refl _) _,HST2.out⟩
      case measure=>simp [intOf]
     ·have hd:decide (cmpN R' y ≥ 0)=true:=by
       unfold cmpN;rw [if_neg hlt];split <;> decide
      have hd2:decide (0≤cmpN R' y)=true:=hd
      have HGE:=ac hlt
      go_wp2_with fail
      refine HCMP.mono ?_
      rintro e u4 ⟨rfl,hs⟩
      generalize cmpN R' y=cc at *
      have BW4:=ac (BW.out.trans ((hs.below u3.heap.size).mono BW.out.size))
      have HN4:=ac (N3'.out.below (hs.below _))
      have HB4:=ac (HB3.out.kept (hs.below _))
      clear hs HCMP hlt HB3 BW N3'
      go_wp2
      go_loopw [6,9,10] (fun r q s wr2=>∃(t Q R2:Nat),t≤32∧s=.int .i64 ((t:Int) - 1)∧q=.int .u64 Q∧Num wr2 r R2∧New (w.heap.size+1) r∧R'=Q*y+R2∧R2<y*2 ^ t∧Q+2 ^ t≤4294967296∧Blk wr2 w.heap.size out∧Below w.heap.size w wr2) (fun _ _ s _=>(intOf s+1).toNat)
      case atStart=>exact⟨32,0,R',Nat.le_refl _,rfl,rfl,HN4.out,NW3.out,by omega,HRL.out,by decide,HB4.out,BW4.out⟩
      case round=>
       obtain⟨t,Q,R2,ht,rfl,rfl,hn2,hnw2,hsum,hR2,hQ,hblk2,hbl2⟩:=hrel
       clear HN4 HB4 BW4 hd hd2
       have HSUM:=ac hsum
       have HR2:=ac hR2
       have HQ:=ac hQ
       have HB5:=ac hblk2
       have HL5:=ac hbl2
       have HN5:=ac hn2
       have NW5:=ac hnw2
       clear hnw2 NW3
       clear hsum hR2 hQ
       by_cases ht0:t=0
       ·subst ht0
        have HST2:=ac (HST.out Q R2 HSUM.out)
        have bQ:Q<4294967296:=by have:=HQ.out;rw [Nat.pow_zero] at this;omega
        have HLT:Hid (R2<y):=ac (by have:=HR2.out;rwa [Nat.pow_zero,Nat.mul_one] at this)
        have hfr:=hblk2.free j
        have hco:=hblk2.cell j (by omega)
        generalize out.getD j 0=o at *
        clear hblk2 hbl2 hn2 HST HRL HSUM HQ HR2
        go_wp2
        go_roundw
        case rel=>exact⟨j,R2,out.set j Q,by omega,rfl,HN5.out.store NW5.out,NW5.out,HLT.out,by simp;omega,digs_set hdo _ _ bQ,HB5.out.set j Q,HL5.out.setCell (Nat.le_refl _) _,HST2.out⟩
        case measure=>simp [intOf]
       ·obtain⟨m,rfl⟩:∃m,t=m+1:=⟨t - 1,by omega⟩
        have em:(((m+1:Nat):Int) - 1)=(m:Int):=by omega
        rw [em]
        have HS:=jf v2 y m wr (NY.out.below hbl2) (by have:=F2.out;omega)
        have hfR2:blen R2≤1125899906840000:=by
         have h1:=jM HR2.out
         have h2:=jz y (m+1)
         have:=F2.out
         omega
        clear hblk2 hbl2 hn2
        go_wp2_with fail
        refine HS.mono ?_
        rintro e u5 ⟨⟨vx,rfl,Nx⟩,hb5⟩
        have HL6:=ac (HL5.out.trans (hb5.mono HL5.out.size))
        have HB6:=ac (HB5.out.kept hb5)
        have HN6:=ac (HN5.out.below hb5)
        have HCM:=gt u6 vx R2 (y*2 ^ m) u5 HN6.out Nx
        clear HS hb5 HL5 HB5 HN5
        by_cases hge:y*2 ^ m≤R2
        ·have hd:decide (cmpN R2 (y*2 ^ m) ≥ 0)=true:=by
          unfold cmpN;rw [if_neg (by omega)];split <;> decide
         have hd2:decide (0≤cmpN R2 (y*2 ^ m))=true:=hd
         have HSUM2:=ac (pF y R' R2 Q m HSUM.out hge)
         have HR3:=ac (nF y R2 m HR2.out hge)
         have HSB:=fun (u:World) (ha:Num u u6 R2) (hb:Num u vx (y*2 ^ m))=>iE u6 vx R2 (y*2 ^ m) u ha hb hge hfR2
         have HQ2:Hid (Q+2 ^ m+2 ^ m≤4294967296):=ac (by have:=HQ.out;rw [Nat.pow_succ] at this;omega)
         have hP0:0<2 ^ m:=Nat.two_pow_pos m
         have HN7:=ac Nx
         generalize cmpN R2 (y*2 ^ m)=cc at *
         generalize hYm:y*2 ^ m=Y2 at *
         have HYm:=ac hYm
         clear hYm
         go_wp2_with fail
         refine HCM.mono ?_
         rintro e u7 ⟨rfl,hs⟩
         have HL7:=ac (HL6.out.trans ((hs.below u5.heap.size).mono HL6.out.size))
         have HB7:=ac (HB6.out.kept (hs.below _))
         have HS7:=HSB u7 (HN6.out.below (hs.below _)) (HN7.out.below (hs.below _))
         clear HCM hs HL6 HB6 HN6 HN7 Nx HSB
         go_wp2_with fail
         refine HS7.mono ?_
         rintro e u8 ⟨⟨vr,rfl,Nr,nwr⟩,hb8⟩
         have HL8:=ac (HL7.out.trans (hb8.mono HL7.out.size))
         have HB8:=ac (HB7.out.kept hb8)
         have HN8:=ac Nr
         have NW8:Hid (New (w.heap.size+1) vr):=ac (nwr.mono HB7.out.lt)
         clear HS7 hb8 Nr nwr HL7 HB7 hge hd hd2
         obtain⟨P,hP⟩:∃P,P=2 ^ m:=⟨_,rfl⟩
         have HPm:=ac hP
         have eP:(2:Int) ^ m=(P:Int):=by rw [hP];push_cast;rfl
         have bP:Q+P+P≤4294967296:=by rw [hP];exact HQ2.out
         have bP0:0<P:=by rw [hP];exact hP0
         rw [←hP] at HSUM2
         clear hP hP0 HQ2
         have eQ:(Q:Int)+(P:Int)=((Q+P:Nat):Int):=by omega
         generalize Q+P=Q2 at *
         have wP:IntKind.u64.wrap (P:Int)=(P:Int):=by rw [IntKind.wrap_u64];omega
         have wQ:IntKind.u64.wrap (Q2:Int)=(Q2:Int):=by rw [IntKind.wrap_u64];omega
         go_wp2
         go_roundw
         case rel=>
          refine⟨m,Q2,R2 - Y2,by omega,rfl,rfl,HN8.out,NW8.out,HSUM2.out,?_,?_,HB8.out,HL8.out⟩
          ·rw [HYm.out];exact HR3.out
          ·rw [←HPm.out];exact bP
         case measure=>simp [intOf]
        ·have hlt2:R2<y*2 ^ m:=by omega
         have hc:cmpN R2 (y*2 ^ m)=-1:=cmpN_lt hlt2
         rw [hc] at HCM
         have HLT2:=ac hlt2
         have HQ2:Hid (Q+2 ^ m≤4294967296):=ac (by have:=HQ.out;rw [Nat.pow_succ] at this;omega)
         clear hlt2 hc hge Nx
         go_wp2_with fail
         refine HCM.mono ?_
         rintro e u7 ⟨rfl,hs⟩
         have HL7:=ac (HL6.out.trans ((hs.below u5.heap.size).mono HL6.out.size))
         have HB7:=ac (HB6.out.kept (hs.below _))
         have HN7:=ac (HN6.out.below (hs.below _))
         clear HCM hs HL6 HB6 HN6
         go_wp2
         go_roundw
         case rel=>exact⟨m,Q,R2,by omega,rfl,rfl,HN7.out,NW5.out,HSUM.out,HLT2.out,HQ2.out,HB7.out,HL7.out⟩
         case measure=>simp [intOf]

theorem jg (v1 v2:Value)(x y:Nat)(w:World)(h1:Num w v1 x)(h2:Num w v2 y)(hy:y≠0)(f1:blen x≤1125899906840000)(f2:blen y≤1125899906810000) :
  Calls Tryz.prog 59 #[v1,v2] w fun e w'=>(∃vq vr,e=.returned (.tuple #[vq,vr])∧Num w' vq (x / y)∧Num w' vr (x % y))∧Below w.heap.size w w':=
 (ma v1 v2 x y w h1 h2 hy f1 f2).mono fun _ _ h=>⟨h.1.elim fun vq h=>h.elim fun vr h=>⟨vq,vr,h.1,h.2.1,h.2.2.1⟩,h.2⟩

theorem d8 (x y:Nat):blen (x*y)≤blen x+blen y:=by
 refine (blen_le_iff _ _).2 ?_
 have h1:=(blen_le_iff x _).1 (Nat.le_refl _)
 have h2:=(blen_le_iff y _).1 (Nat.le_refl _)
 rw [Nat.pow_add]
 exact Nat.mul_lt_mul_of_lt_of_lt h1 h2

theorem aN {W0 W t:World}(h:Below W0.heap.size W0 W)(h2:Below W.heap.size W t):Below W0.heap.size W0 t:=h.trans (h2.mono h.size)

theorem iG (x:Nat)(h:x≠0):2 ^ (blen x - 1)≤x:=by
 rcases Nat.lt_or_ge x (2 ^ (blen x - 1)) with h1|h1
 ·have h2:=(blen_le_iff x (blen x - 1)).2 h1
  have h3:blen x=0:=by omega
  have h4:=(blen_le_iff x 0).1 (by omega)
  simp at h4
  exact absurd h4 h
 ·exact h1

theorem iq {x y k q n:Nat}(hy:y≠0)(hq:q≤x / y+k)(hk:k≤2)(hx:blen x≤n)(hyb:blen y≤n):blen q+blen y≤n+5:=by
 have h1:blen q≤blen (x / y)+2:=by
  refine (blen_le_iff _ _).2 ?_
  have h1:=(blen_le_iff (x / y) _).1 (Nat.le_refl _)
  rw [Nat.pow_add]
  have:=Nat.two_pow_pos (blen (x / y))
  omega
 have h2:blen (x / y)+blen y≤n+1:=by
  by_cases h0:x / y=0
  ·have:blen (x / y)≤0:=(blen_le_iff _ _).2 (by rw [h0];decide)
   omega
  ·have a:=iG _ h0
   have b:=iG _ hy
   have c:=Nat.mul_le_mul a b
   have d:=Nat.div_mul_le_self x y
   rw [←Nat.pow_add] at c
   have e:=(blen_le_iff x _).1 hx
   have f:2 ^ (blen (x / y) - 1+(blen y - 1))<2 ^ n:=by omega
   have g:=(Nat.pow_lt_pow_iff_right (a:=2) (by omega)).1 f
   omega
 omega

def flq (y z:Int):Int:=zz (decide (y<0) != decide (z<0)) (y.natAbs / z.natAbs) - if decide (y.natAbs % z.natAbs≠0) && (decide (y<0) != decide (z<0)) then 1 else 0

def fs (w:World)(y z:Int)(e:Ending)(w':World):Prop:=
 (∃b a n k b' a' n' k',e=.returned (.tuple #[.agg #[.bool b,.slice a n k],.agg #[.bool b',.slice a' n' k']])∧Zn w' (.agg #[.bool b,.slice a n k]) y∧Zn w' (.agg #[.bool b',.slice a' n' k']) z)∧Below w.heap.size w w'

theorem cb {w:World}{g:Nat}{p p':Bool}{a a':Option Addr}{n k n' k':Nat}{b1 b2:Bool}{u1 u2:Value}(h2:w.heap[g]?=some (.cells #[.bool p,.slice a n k] 32))(h3:w.heap[g+1]?=some (.cells #[.bool p',.slice a' n' k'] 32)) :
  ((((w.setCell ⟨g,0,none⟩ (.bool b1)).setCell ⟨g,1,none⟩ u1).setCell ⟨g+1,0,none⟩ (.bool b2)).setCell ⟨g+1,1,none⟩ u2).heap[g]?=some (.cells #[.bool b1,u1] 32) ∧
  ((((w.setCell ⟨g,0,none⟩ (.bool b1)).setCell ⟨g,1,none⟩ u1).setCell ⟨g+1,0,none⟩ (.bool b2)).setCell ⟨g+1,1,none⟩ u2).heap[g+1]?=some (.cells #[.bool b2,u2] 32) ∧
  (∀v z,Zn w v z→Zn ((((w.setCell ⟨g,0,none⟩ (.bool b1)).setCell ⟨g,1,none⟩ u1).setCell ⟨g+1,0,none⟩ (.bool b2)).setCell ⟨g+1,1,none⟩ u2) v z):=by
 have h4:=bJ (u0:=.bool b1) (u1:=u1) h3 (show g+1≠g by omega)
 exact⟨bJ (aH h2) (by omega),aH h4,fun v z hz=>(hz.duo h2).duo h4⟩

theorem fc (v1 v2:Value)(y z:Int)(w:World)(h1:Zn w v1 y)(h2:Zn w v2 z)(hz0:z≠0)(hf1:blen y.natAbs≤1125899906810000)(hf2:blen z.natAbs≤1125899906810000) :
  Calls Tryz.prog 25 #[v1,v2] w (fs w (flq y z) (y - flq y z*z)):=by
 obtain⟨b,a,n,k,rfl,hb,hn,hz⟩:=h1.parts
 obtain⟨b2,a2,n2,k2,rfl,hb2,hn2,hz2⟩:=h2.parts
 obtain⟨w0,hw0,hb0,c0,c1,c2,c3⟩:=dj w (.cells #[.bool b,.slice a n k] 32) (.cells #[.bool b2,.slice a2 n2 k2] 32) (.cells #[.bool false,.slice none 0 0] 32) (.cells #[.bool false,.slice none 0 0] 32)
 obtain⟨d0,d1⟩:=duo c0
 obtain⟨d2,d3⟩:=duo c1
 have HD:=jg _ _ y.natAbs z.natAbs w0 (hn.below hb0) (hn2.below hb0) (by omega) (by omega) (by omega)
 have HB0:=ac hb0
 have HC0:=ac c0
 have HC1:=ac c1
 have HC2:=ac c2
 have HC3:=ac c3
 have HZ1:=ac (h1.below hb0)
 have HZ2:=ac (h2.below hb0)
 obtain⟨sg,hsg,hsg2⟩:∃sg,(b != b2)=sg∧(!(b == b2))=sg:=⟨_,rfl,rfl⟩
 have hfl:flq y z=zz sg (y.natAbs / z.natAbs) - if decide (y.natAbs % z.natAbs≠0) && sg then 1 else 0:=by
  unfold flq
  rw [←hb,←hb2,hsg]
 have HFL:=ac hfl
 clear h1 h2 hn hn2 hb0 c0 c1 c2 c3 hb hb2 hz hz2 hfl
 go_enter Tryz.func25,Tryz.ntmps25
 go_wp2_with fail
 refine HD.mono ?_
 rintro e t1 ⟨⟨vq,vr,rfl,nq,nr⟩,g1⟩
 obtain⟨aq,mq,kq,rfl⟩:=nq.sl
 obtain⟨ar,mr,kr,rfl⟩:=nr.sl
 have HM:=cv sg _ _ t1 nq
 have HNR:=ac nr
 have HG1:=ac g1
 obtain⟨e0,e1⟩:=duo (ae g1 HC0.out)
 obtain⟨e2,e3⟩:=duo (ae g1 HC1.out)
 clear nq nr g1 HD d0 d1 d2 d3
 go_wp2_with fail
 refine HM.mono ?_
 rintro e t2 ⟨⟨bx,ax,mx,kx,rfl,hx⟩,g2⟩
 have g12:=aN HG1.out g2
 obtain⟨u2,hu2,hbu2,hxu2⟩:=aL t2 (.cells #[.bool bx,.slice ax mx kx] 32)
 have g13:=aN g12 hbu2
 have HG12:=ac g12
 have HZE:=gz _ (y.natAbs % z.natAbs) u2 (HNR.out.below (aN g2 hbu2))
 have HX:=ac (hx.below hbu2)
 have HBX:=ac hxu2
 have HG:=ac g13
 obtain⟨f0,f1⟩:=duo (ae g13 HC0.out)
 obtain⟨f2,f3⟩:=duo (ae g13 HC1.out)
 clear HM hx g2 g12 hbu2 hxu2 g13 e0 e1 e2 e3 HG1
 obtain⟨rz,hrz⟩:∃rz:Bool,((y.natAbs % z.natAbs) == 0)=rz:=⟨_,rfl⟩
 rw [hrz] at HZE
 go_wp2_with fail
 refine HZE.mono ?_
 rintro e wn ⟨rfl,hw⟩;rw [hw];clear hw wn HZE
 by_cases hc:rz=false∧sg=true
 ·obtain⟨rfl,rfl⟩:=hc
  have hfq:flq y z=zz true (y.natAbs / z.natAbs) - 1:=by
   rw [HFL.out]
   have h:¬y.natAbs % z.natAbs=0:=by
    intro h
    rw [h] at hrz
    cases hrz
   simp [h]
  have HQB:Hid (blen (flq y z).natAbs+blen z.natAbs≤1125899906840000):=ac (by
   have e:(flq y z).natAbs=y.natAbs / z.natAbs+1:=by
    rw [hfq]
    generalize y.natAbs / z.natAbs=q
    simp only [zz,if_true]
    omega
   rw [e]
   have h3:=iq (x:=y.natAbs) (y:=z.natAbs) (k:=1) (q:=y.natAbs / z.natAbs+1) (by omega) (Nat.le_refl _) (by omega) hf1 hf2
   omega)
  have HFQ:=ac hfq
  clear hfq hrz
  have I1:=dO 1 u2.drew (by omega) (by omega)
  have hbq:blen (zz true (y.natAbs / z.natAbs)).natAbs≤1125899906840000:=by
   rw [aB]
   have:=d9 (Nat.div_le_self y.natAbs z.natAbs)
   omega
  have hb1:blen (Int.natAbs 1)≤64:=by decide
  have S1:=ac (fun (W:World) (v:Value) (hg:Below u2.drew.heap.size u2.drew W) (hv:Zn W v 1)=>dk (.agg #[.bool bx,.slice ax mx kx]) v (zz true (y.natAbs / z.natAbs)) 1 W (HX.out.drew6.below hg) hv hbq (by omega))
  have HT2:=ac (show Below t2.heap.size t2 u2 by rw [←hu2];exact cn _ _)
  obtain⟨x0,x1⟩:=duo (show u2.drew.heap[t2.heap.size]?=some (.cells #[.bool bx,.slice ax mx kx] 32) from HBX.out)
  clear hbq
  go_upto_region 4 with fail
  go_cut [34] from 34 to 37 (fun _ wx=>∃(bX:Bool) (aX:Option Addr) (mX kX:Nat),wx.heap[t2.heap.size]?=some (.cells #[.bool bX,.slice aX mX kX] 32)∧Zn wx (.agg #[.bool bX,.slice aX mX kX]) (flq y z)∧Below t2.heap.size t2 wx)
  case first=>
   go_region_with (first
    | (go_at_call 27;refine I1.mono ?_;rintro e' s1 ⟨⟨bi,ai,mi,ki,rfl,yi⟩,hs1⟩;have y0:=ak hs1 x0;have y1:=ak hs1 x1)
    | (go_at_call 26;refine (S1.out s1 _ hs1 yi).mono ?_;rintro e' s2 ⟨⟨bs,as9,ms,ks,rfl,ys⟩,hs2⟩;have hzx:=ae hs2 (ae hs1 (show u2.drew.heap[t2.heap.size]?=some (.cells #[.bool bx,.slice ax mx kx] 32) from HBX.out));have hfx:=av hzx;obtain⟨w0',w1'⟩:=duo hzx))
   all_goals (go_wp2_with fail;go_meet)
   all_goals (refine⟨bs,as9,ms,ks,aH hzx,?_,aC (aN (aN HT2.out (Below.refl _ _).drew) (aN hs1 hs2)) (Nat.le_refl _)⟩;rw [HFQ.out];exact ys.duo hzx)
  case rest=>
   obtain⟨bX,aX,mX,kX,BXF,ZXF,gx⟩:=hcut
   have gwc:=aN HG12.out gx
   have hbd:Below wc.heap.size wc wc.drew:=(Below.refl _ _).drew
   have gd:=aN gwc hbd
   obtain⟨j0,j1⟩:=duo (ae gd HC0.out)
   obtain⟨j2,j3⟩:=duo (ae gd HC1.out)
   have hxd:=ae hbd BXF
   obtain⟨j4,j5⟩:=duo hxd
   have ZX:=ac (ZXF.below hbd)
   have HMU:=dn _ _ (flq y z) z wc.drew ZX.out (HZ2.out.below gd) (by have:=HQB.out;omega)
   have HSU:=ac (fun (W:World) (v:Value) (hg:Below wc.drew.heap.size wc.drew W) (hv:Zn W v (flq y z*z))=>dk (.agg #[.bool b,.slice a n k]) v y (flq y z*z) W ((HZ1.out.below gd).below hg) hv (by omega) (by have h1:=HQB.out;rw [Int.natAbs_mul];have h2:=d8 (flq y z).natAbs z.natAbs;omega))
   have hr2:=ae gd HC2.out
   have hr3:=ae gd HC3.out
   have HR2:=ac hr2
   have HR3:=ac hr3
   have HGD:=ac (aN HB0.out gd)
   have hlx:w.heap.size+3<t2.heap.size:=lt_of_block (ae HG12.out HC3.out)
   have so0:∀(W:World) (k:Nat) (u:Value) (k':Nat),(W.setCell ⟨w.heap.size+2,k,none⟩ u).cell? ⟨w.heap.size,k',none⟩=W.cell? ⟨w.heap.size,k',none⟩:=fun W k u k'=>aI (by omega)
   have so1:∀(W:World) (k:Nat) (u:Value) (k':Nat),(W.setCell ⟨w.heap.size+2,k,none⟩ u).cell? ⟨w.heap.size+1,k',none⟩=W.cell? ⟨w.heap.size+1,k',none⟩:=fun W k u k'=>aI (by omega)
   have so2:∀(W:World) (k:Nat) (u:Value) (k':Nat),(W.setCell ⟨w.heap.size+2,k,none⟩ u).cell? ⟨t2.heap.size,k',none⟩=W.cell? ⟨t2.heap.size,k',none⟩:=fun W k u k'=>aI (by omega)
   have so3:∀(W:World) (k:Nat) (u:Value) (k':Nat),(W.setCell ⟨w.heap.size+2,k,none⟩ u).cell? ⟨w.heap.size+3,k',none⟩=W.cell? ⟨w.heap.size+3,k',none⟩:=fun W k u k'=>aI (by omega)
   have sp0:∀(W:World) (k:Nat) (u:Value) (k':Nat),(W.setCell ⟨w.heap.size+3,k,none⟩ u).cell? ⟨w.heap.size,k',none⟩=W.cell? ⟨w.heap.size,k',none⟩:=fun W k u k'=>aI (by omega)
   have sp1:∀(W:World) (k:Nat) (u:Value) (k':Nat),(W.setCell ⟨w.heap.size+3,k,none⟩ u).cell? ⟨w.heap.size+1,k',none⟩=W.cell? ⟨w.heap.size+1,k',none⟩:=fun W k u k'=>aI (by omega)
   have sp2:∀(W:World) (k:Nat) (u:Value) (k':Nat),(W.setCell ⟨w.heap.size+3,k,none⟩ u).cell? ⟨t2.heap.size,k',none⟩=W.cell? ⟨t2.heap.size,k',none⟩:=fun W k u k'=>aI (by omega)
   clear hr2 hr3 hxd
   go_wp2
   go_region_held3 (fun w'=>w'.cell? ⟨w.heap.size,0,none⟩=some (.bool b)∧w'.cell? ⟨w.heap.size,1,none⟩=some (.slice a n k)∧w'.cell? ⟨w.heap.size+1,0,none⟩=some (.bool b2)∧w'.cell? ⟨w.heap.size+1,1,none⟩=some (.slice a2 n2 k2)∧w'.cell? ⟨t2.heap.size,0,none⟩=some (.bool bX)∧w'.cell? ⟨t2.heap.size,1,none⟩=some (.slice aX mX kX)) (go_keep) (first
    | (go_at_call 23;refine HMU.mono ?_;rintro e' s1 ⟨⟨bp,ap,mp,kp,rfl,yp⟩,hs1⟩;have l0:=ak hs1 j0;have l1:=ak hs1 j1;have l2:=ak hs1 j2;have l3:=ak hs1 j3;have l4:=ak hs1 j4;have l5:=ak hs1 j5)
    | (go_at_call 26;refine (HSU.out s1 _ hs1 yp).mono ?_;rintro e' s2 ⟨⟨br,ar9,mr9,kr9,rfl,yr⟩,hs2⟩;have q0:=ak hs2 l0;have q1:=ak hs2 l1;have q2:=ak hs2 l2;have q3:=ak hs2 l3;have q4:=ak hs2 l4;have q5:=ak hs2 l5;have hz2:=ae hs2 (ae hs1 HR2.out);have hz3:=ae hs2 (ae hs1 HR3.out);have hf2':=av hz2;have hf3':=av hz3;obtain⟨m0,m1⟩:=duo hz2;obtain⟨m2,m3⟩:=duo hz3))
   have gs:=aN hs1 hs2
   have hq4:=cb (g:=w.heap.size+2) (b1:=bX) (u1:=.slice aX mX kX) (b2:=br) (u2:=.slice ar9 mr9 kr9) hz2 hz3
   have HE:=ac (And.intro (hq4.2.2 _ _ (ZX.out.below gs)) (And.intro (hq4.2.2 _ _ yr) (bj (aN HGD.out gs) (g:=w.heap.size+2) (u0:=.bool bX) (u1:=.slice aX mX kX) (u2:=.bool br) (u3:=.slice ar9 mr9 kr9) (by omega))))
   obtain⟨R5,R6,_⟩:=hq4
   clear so0 so1 so2 so3 sp0 sp1 sp2 hz2 hz3 hf2' hf3' m0 m1 m2 m3 q0 q1 q2 q3 q4 q5 l0 l1 l2 l3 l4 l5 yr yp hs1 hs2 gs
   generalize (((s2.setCell ⟨w.heap.size+2,0,none⟩ (.bool bX)).setCell ⟨w.heap.size+2,1,none⟩ (.slice aX mX kX)).setCell ⟨w.heap.size+2+1,0,none⟩ (.bool br)).setCell ⟨w.heap.size+2+1,1,none⟩ (.slice ar9 mr9 kr9)=w5 at *
   obtain⟨p0,p1⟩:=duo R5
   obtain⟨p2,p3⟩:=duo R6
   go_wp2
   refine bodyPost_ret (v:=.tuple #[.agg #[.bool bX,.slice aX mX kX],.agg #[.bool br,.slice ar9 mr9 kr9]]) (by simp [results,Tryz.results25,go_sem,p0,p1,p2,p3]) rfl ?_
   exact⟨⟨_,_,_,_,_,_,_,_,rfl,HE.out.1,HE.out.2.1⟩,HE.out.2.2⟩
 ·have hcd:(!rz && sg)=false:=by
   rcases rz with _ | _ <;> rcases sg with _ | _ <;> simp_all
  have hfq:flq y z=zz sg (y.natAbs / z.natAbs):=by
   rw [HFL.out]
   have:(decide (y.natAbs % z.natAbs≠0) && sg)=false:=by
    rw [←hcd,←hrz]
    congr 1
    by_cases h:y.natAbs % z.natAbs=0 <;> simp [h]
   rw [this];simp
  have HQB:Hid (blen (flq y z).natAbs+blen z.natAbs≤1125899906840000):=ac (by
   rw [hfq,aB]
   have h3:=iq (x:=y.natAbs) (y:=z.natAbs) (k:=0) (q:=y.natAbs / z.natAbs) (by omega) (Nat.le_refl _) (by omega) hf1 hf2
   omega)
  have hX2:=HX.out
  rw [←hfq] at hX2
  have ZXF:=hX2
  have BXF:=HBX.out
  obtain⟨bX,rfl⟩:∃bX,bX=bx:=⟨_,rfl⟩
  obtain⟨aX,rfl⟩:∃aX,aX=ax:=⟨_,rfl⟩
  obtain⟨mX,rfl⟩:∃mX,mX=mx:=⟨_,rfl⟩
  obtain⟨kX,rfl⟩:∃kX,kX=kx:=⟨_,rfl⟩
  cases rz <;> cases sg <;> (try (exact absurd ⟨rfl,rfl⟩ hc))
  all_goals clear hcd hc hfq hX2
  ·have hbd:Below u2.heap.size u2 u2.drew:=(Below.refl _ _).drew
   have gd:=aN HG.out hbd
   obtain⟨j0,j1⟩:=duo (ae gd HC0.out)
   obtain⟨j2,j3⟩:=duo (ae gd HC1.out)
   have hxd:=ae hbd BXF
   obtain⟨j4,j5⟩:=duo hxd
   have ZX:=ac (ZXF.below hbd)
   have HMU:=dn _ _ (flq y z) z u2.drew ZX.out (HZ2.out.below gd) (by have:=HQB.out;omega)
   have HSU:=ac (fun (W:World) (v:Value) (hg:Below u2.drew.heap.size u2.drew W) (hv:Zn W v (flq y z*z))=>dk (.agg #[.bool b,.slice a n k]) v y (flq y z*z) W ((HZ1.out.below gd).below hg) hv (by omega) (by have h1:=HQB.out;rw [Int.natAbs_mul];have h2:=d8 (flq y z).natAbs z.natAbs;omega))
   have hr2:=ae gd HC2.out
   have hr3:=ae gd HC3.out
   have HR2:=ac hr2
   have HR3:=ac hr3
   have HGD:=ac (aN HB0.out gd)
   have hlx:w.heap.size+3<t2.heap.size:=lt_of_block (ae HG12.out HC3.out)
   have so0:∀(W:World) (k:Nat) (u:Value) (k':Nat),(W.setCell ⟨w.heap.size+2,k,none⟩ u).cell? ⟨w.heap.size,k',none⟩=W.cell? ⟨w.heap.size,k',none⟩:=fun W k u k'=>aI (by omega)
   have so1:∀(W:World) (k:Nat) (u:Value) (k':Nat),(W.setCell ⟨w.heap.size+2,k,none⟩ u).cell? ⟨w.heap.size+1,k',none⟩=W.cell? ⟨w.heap.size+1,k',none⟩:=fun W k u k'=>aI (by omega)
   have so2:∀(W:World) (k:Nat) (u:Value) (k':Nat),(W.setCell ⟨w.heap.size+2,k,none⟩ u).cell? ⟨t2.heap.size,k',none⟩=W.cell? ⟨t2.heap.size,k',none⟩:=fun W k u k'=>aI (by omega)
   have so3:∀(W:World) (k:Nat) (u:Value) (k':Nat),(W.setCell ⟨w.heap.size+2,k,none⟩ u).cell? ⟨w.heap.size+3,k',none⟩=W.cell? ⟨w.heap.size+3,k',none⟩:=fun W k u k'=>aI (by omega)
   have sp0:∀(W:World) (k:Nat) (u:Value) (k':Nat),(W.setCell ⟨w.heap.size+3,k,none⟩ u).cell? ⟨w.heap.size,k',none⟩=W.cell? ⟨w.heap.size,k',none⟩:=fun W k u k'=>aI (by omega)
   have sp1:∀(W:World) (k:Nat) (u:Value) (k':Nat),(W.setCell ⟨w.heap.size+3,k,none⟩ u).cell? ⟨w.heap.size+1,k',none⟩=W.cell? ⟨w.heap.size+1,k',none⟩:=fun W k u k'=>aI (by omega)
   have sp2:∀(W:World) (k:Nat) (u:Value) (k':Nat),(W.setCell ⟨w.heap.size+3,k,none⟩ u).cell? ⟨t2.heap.size,k',none⟩=W.cell? ⟨t2.heap.size,k',none⟩:=fun W k u k'=>aI (by omega)
   clear hr2 hr3 hxd
   go_wp2
   go_region_held3 (fun w'=>w'.cell? ⟨w.heap.size,0,none⟩=some (.bool b)∧w'.cell? ⟨w.heap.size,1,none⟩=some (.slice a n k)∧w'.cell? ⟨w.heap.size+1,0,none⟩=some (.bool b2)∧w'.cell? ⟨w.heap.size+1,1,none⟩=some (.slice a2 n2 k2)∧w'.cell? ⟨t2.heap.size,0,none⟩=some (.bool bX)∧w'.cell? ⟨t2.heap.size,1,none⟩=some (.slice aX mX kX)) (go_keep) (first
    | (go_at_call 23;refine HMU.mono ?_;rintro e' s1 ⟨⟨bp,ap,mp,kp,rfl,yp⟩,hs1⟩;have l0:=ak hs1 j0;have l1:=ak hs1 j1;have l2:=ak hs1 j2;have l3:=ak hs1 j3;have l4:=ak hs1 j4;have l5:=ak hs1 j5)
    | (go_at_call 26;refine (HSU.out s1 _ hs1 yp).mono ?_;rintro e' s2 ⟨⟨br,ar9,mr9,kr9,rfl,yr⟩,hs2⟩;have q0:=ak hs2 l0;have q1:=ak hs2 l1;have q2:=ak hs2 l2;have q3:=ak hs2 l3;have q4:=ak hs2 l4;have q5:=ak hs2 l5;have hz2:=ae hs2 (ae hs1 HR2.out);have hz3:=ae hs2 (ae hs1 HR3.out);have hf2':=av hz2;have hf3':=av hz3;obtain⟨m0,m1⟩:=duo hz2;obtain⟨m2,m3⟩:=duo hz3))
   have gs:=aN hs1 hs2
   have hq4:=cb (g:=w.heap.size+2) (b1:=bX) (u1:=.slice aX mX kX) (b2:=br) (u2:=.slice ar9 mr9 kr9) hz2 hz3
   have HE:=ac (And.intro (hq4.2.2 _ _ (ZX.out.below gs)) (And.intro (hq4.2.2 _ _ yr) (bj (aN HGD.out gs) (g:=w.heap.size+2) (u0:=.bool bX) (u1:=.slice aX mX kX) (u2:=.bool br) (u3:=.slice ar9 mr9 kr9) (by omega))))
   obtain⟨R5,R6,_⟩:=hq4
   clear so0 so1 so2 so3 sp0 sp1 sp2 hz2 hz3 hf2' hf3' m0 m1 m2 m3 q0 q1 q2 q3 q4 q5 l0 l1 l2 l3 l4 l5 yr yp hs1 hs2 gs
   generalize (((s2.setCell ⟨w.heap.size+2,0,none⟩ (.bool bX)).setCell ⟨w.heap.size+2,1,none⟩ (.slice aX mX kX)).setCell ⟨w.heap.size+2+1,0,none⟩ (.bool br)).setCell ⟨w.heap.size+2+1,1,none⟩ (.slice ar9 mr9 kr9)=w5 at *
   obtain⟨p0,p1⟩:=duo R5
   obtain⟨p2,p3⟩:=duo R6
   go_wp2
   refine bodyPost_ret (v:=.tuple #[.agg #[.bool bX,.slice aX mX kX],.agg #[.bool br,.slice ar9 mr9 kr9]]) (by simp [results,Tryz.results25,go_sem,p0,p1,p2,p3]) rfl ?_
   exact⟨⟨_,_,_,_,_,_,_,_,rfl,HE.out.1,HE.out.2.1⟩,HE.out.2.2⟩
  ·have hbd:Below u2.heap.size u2 u2.drew:=(Below.refl _ _).drew
   have gd:=aN HG.out hbd
   obtain⟨j0,j1⟩:=duo (ae gd HC0.out)
   obtain⟨j2,j3⟩:=duo (ae gd HC1.out)
   have hxd:=ae hbd BXF
   obtain⟨j4,j5⟩:=duo hxd
   have ZX:=ac (ZXF.below hbd)
   have HMU:=dn _ _ (flq y z) z u2.drew ZX.out (HZ2.out.below gd) (by have:=HQB.out;omega)
   have HSU:=ac (fun (W:World) (v:Value) (hg:Below u2.drew.heap.size u2.drew W) (hv:Zn W v (flq y z*z))=>dk (.agg #[.bool b,.slice a n k]) v y (flq y z*z) W ((HZ1.out.below gd).below hg) hv (by omega) (by have h1:=HQB.out;rw [Int.natAbs_mul];have h2:=d8 (flq y z).natAbs z.natAbs;omega))
   have hr2:=ae gd HC2.out
   have hr3:=ae gd HC3.out
   have HR2:=ac hr2
   have HR3:=ac hr3
   have HGD:=ac (aN HB0.out gd)
   have hlx:w.heap.size+3<t2.heap.size:=lt_of_block (ae HG12.out HC3.out)
   have so0:∀(W:World) (k:Nat) (u:Value) (k':Nat),(W.setCell ⟨w.heap.size+2,k,none⟩ u).cell? ⟨w.heap.size,k',none⟩=W.cell? ⟨w.heap.size,k',none⟩:=fun W k u k'=>aI (by omega)
   have so1:∀(W:World) (k:Nat) (u:Value) (k':Nat),(W.setCell ⟨w.heap.size+2,k,none⟩ u).cell? ⟨w.heap.size+1,k',none⟩=W.cell? ⟨w.heap.size+1,k',none⟩:=fun W k u k'=>aI (by omega)
   have so2:∀(W:World) (k:Nat) (u:Value) (k':Nat),(W.setCell ⟨w.heap.size+2,k,none⟩ u).cell? ⟨t2.heap.size,k',none⟩=W.cell? ⟨t2.heap.size,k',none⟩:=fun W k u k'=>aI (by omega)
   have so3:∀(W:World) (k:Nat) (u:Value) (k':Nat),(W.setCell ⟨w.heap.size+2,k,none⟩ u).cell? ⟨w.heap.size+3,k',none⟩=W.cell? ⟨w.heap.size+3,k',none⟩:=fun W k u k'=>aI (by omega)
   have sp0:∀(W:World) (k:Nat) (u:Value) (k':Nat),(W.setCell ⟨w.heap.size+3,k,none⟩ u).cell? ⟨w.heap.size,k',none⟩=W.cell? ⟨w.heap.size,k',none⟩:=fun W k u k'=>aI (by omega)
   have sp1:∀(W:World) (k:Nat) (u:Value) (k':Nat),(W.setCell ⟨w.heap.size+3,k,none⟩ u).cell? ⟨w.heap.size+1,k',none⟩=W.cell? ⟨w.heap.size+1,k',none⟩:=fun W k u k'=>aI (by omega)
   have sp2:∀(W:World) (k:Nat) (u:Value) (k':Nat),(W.setCell ⟨w.heap.size+3,k,none⟩ u).cell? ⟨t2.heap.size,k',none⟩=W.cell? ⟨t2.heap.size,k',none⟩:=fun W k u k'=>aI (by omega)
   clear hr2 hr3 hxd
   go_wp2
   go_region_held3 (fun w'=>w'.cell? ⟨w.heap.size,0,none⟩=some (.bool b)∧w'.cell? ⟨w.heap.size,1,none⟩=some (.slice a n k)∧w'.cell? ⟨w.heap.size+1,0,none⟩=some (.bool b2)∧w'.cell? ⟨w.heap.size+1,1,none⟩=some (.slice a2 n2 k2)∧w'.cell? ⟨t2.heap.size,0,none⟩=some (.bool bX)∧w'.cell? ⟨t2.heap.size,1,none⟩=some (.slice aX mX kX)) (go_keep) (first
    | (go_at_call 23;refine HMU.mono ?_;rintro e' s1 ⟨⟨bp,ap,mp,kp,rfl,yp⟩,hs1⟩;have l0:=ak hs1 j0;have l1:=ak hs1 j1;have l2:=ak hs1 j2;have l3:=ak hs1 j3;have l4:=ak hs1 j4;have l5:=ak hs1 j5)
    | (go_at_call 26;refine (HSU.out s1 _ hs1 yp).mono ?_;rintro e' s2 ⟨⟨br,ar9,mr9,kr9,rfl,yr⟩,hs2⟩;have q0:=ak hs2 l0;have q1:=ak hs2 l1;have q2:=ak hs2 l2;have q3:=ak hs2 l3;have q4:=ak hs2 l4;have q5:=ak hs2 l5;have hz2:=ae hs2 (ae hs1 HR2.out);have hz3:=ae hs2 (ae hs1 HR3.out);have hf2':=av hz2;have hf3':=av hz3;obtain⟨m0,m1⟩:=duo hz2;obtain⟨m2,m3⟩:=duo hz3))
   have gs:=aN hs1 hs2
   have hq4:=cb (g:=w.heap.size+2) (b1:=bX) (u1:=.slice aX mX kX) (b2:=br) (u2:=.slice ar9 mr9 kr9) hz2 hz3
   have HE:=ac (And.intro (hq4.2.2 _ _ (ZX.out.below gs)) (And.intro (hq4.2.2 _ _ yr) (bj (aN HGD.out gs) (g:=w.heap.size+2) (u0:=.bool bX) (u1:=.slice aX mX kX) (u2:=.bool br) (u3:=.slice ar9 mr9 kr9) (by omega))))
   obtain⟨R5,R6,_⟩:=hq4
   clear so0 so1 so2 so3 sp0 sp1 sp2 hz2 hz3 hf2' hf3' m0 m1 m2 m3 q0 q1 q2 q3 q4 q5 l0 l1 l2 l3 l4 l5 yr yp hs1 hs2 gs
   generalize (((s2.setCell ⟨w.heap.size+2,0,none⟩ (.bool bX)).setCell ⟨w.heap.size+2,1,none⟩ (.slice aX mX kX)).setCell ⟨w.heap.size+2+1,0,none⟩ (.bool br)).setCell ⟨w.heap.size+2+1,1,none⟩ (.slice ar9 mr9 kr9)=w5 at *
   obtain⟨p0,p1⟩:=duo R5
   obtain⟨p2,p3⟩:=duo R6
   go_wp2
   refine bodyPost_ret (v:=.tuple #[.agg #[.bool bX,.slice aX mX kX],.agg #[.bool br,.slice ar9 mr9 kr9]]) (by simp [results,Tryz.results25,go_sem,p0,p1,p2,p3]) rfl ?_
   exact⟨⟨_,_,_,_,_,_,_,_,rfl,HE.out.1,HE.out.2.1⟩,HE.out.2.2⟩
  ·have hbd:Below u2.heap.size u2 u2.drew:=(Below.refl _ _).drew
   have gd:=aN HG.out hbd
   obtain⟨j0,j1⟩:=duo (ae gd HC0.out)
   obtain⟨j2,j3⟩:=duo (ae gd HC1.out)
   have hxd:=ae hbd BXF
   obtain⟨j4,j5⟩:=duo hxd
   have ZX:=ac (ZXF.below hbd)
   have HMU:=dn _ _ (flq y z) z u2.drew ZX.out (HZ2.out.below gd) (by have:=HQB.out;omega)
   have HSU:=ac (fun (W:World) (v:Value) (hg:Below u2.drew.heap.size u2.drew W) (hv:Zn W v (flq y z*z))=>dk (.agg #[.bool b,.slice a n k]) v y (flq y z*z) W ((HZ1.out.below gd).below hg) hv (by omega) (by have h1:=HQB.out;rw [Int.natAbs_mul];have h2:=d8 (flq y z).natAbs z.natAbs;omega))
   have hr2:=ae gd HC2.out
   have hr3:=ae gd HC3.out
   have HR2:=ac hr2
   have HR3:=ac hr3
   have HGD:=ac (aN HB0.out gd)
   have hlx:w.heap.size+3<t2.heap.size:=lt_of_block (ae HG12.out HC3.out)
   have so0:∀(W:World) (k:Nat) (u:Value) (k':Nat),(W.setCell ⟨w.heap.size+2,k,none⟩ u).cell? ⟨w.heap.size,k',none⟩=W.cell? ⟨w.heap.size,k',none⟩:=fun W k u k'=>aI (by omega)
   have so1:∀(W:World) (k:Nat) (u:Value) (k':Nat),(W.setCell ⟨w.heap.size+2,k,none⟩ u).cell? ⟨w.heap.size+1,k',none⟩=W.cell? ⟨w.heap.size+1,k',none⟩:=fun W k u k'=>aI (by omega)
   have so2:∀(W:World) (k:Nat) (u:Value) (k':Nat),(W.setCell ⟨w.heap.size+2,k,none⟩ u).cell? ⟨t2.heap.size,k',none⟩=W.cell? ⟨t2.heap.size,k',none⟩:=fun W k u k'=>aI (by omega)
   have so3:∀(W:World) (k:Nat) (u:Value) (k':Nat),(W.setCell ⟨w.heap.size+2,k,none⟩ u).cell? ⟨w.heap.size+3,k',none⟩=W.cell? ⟨w.heap.size+3,k',none⟩:=fun W k u k'=>aI (by omega)
   have sp0:∀(W:World) (k:Nat) (u:Value) (k':Nat),(W.setCell ⟨w.heap.size+3,k,none⟩ u).cell? ⟨w.heap.size,k',none⟩=W.cell? ⟨w.heap.size,k',none⟩:=fun W k u k'=>aI (by omega)
   have sp1:∀(W:World) (k:Nat) (u:Value) (k':Nat),(W.setCell ⟨w.heap.size+3,k,none⟩ u).cell? ⟨w.heap.size+1,k',none⟩=W.cell? ⟨w.heap.size+1,k',none⟩:=fun W k u k'=>aI (by omega)
   have sp2:∀(W:World) (k:Nat) (u:Value) (k':Nat),(W.setCell ⟨w.heap.size+3,k,none⟩ u).cell? ⟨t2.heap.size,k',none⟩=W.cell? ⟨t2.heap.size,k',none⟩:=fun W k u k'=>aI (by omega)
   clear hr2 hr3 hxd
   go_wp2
   go_region_held3 (fun w'=>w'.cell? ⟨w.heap.size,0,none⟩=some (.bool b)∧w'.cell? ⟨w.heap.size,1,none⟩=some (.slice a n k)∧w'.cell? ⟨w.heap.size+1,0,none⟩=some (.bool b2)∧w'.cell? ⟨w.heap.size+1,1,none⟩=some (.slice a2 n2 k2)∧w'.cell? ⟨t2.heap.size,0,none⟩=some (.bool bX)∧w'.cell? ⟨t2.heap.size,1,none⟩=some (.slice aX mX kX)) (go_keep) (first
    | (go_at_call 23;refine HMU.mono ?_;rintro e' s1 ⟨⟨bp,ap,mp,kp,rfl,yp⟩,hs1⟩;have l0:=ak hs1 j0;have l1:=ak hs1 j1;have l2:=ak hs1 j2;have l3:=ak hs1 j3;have l4:=ak hs1 j4;have l5:=ak hs1 j5)
    | (go_at_call 26;refine (HSU.out s1 _ hs1 yp).mono ?_;rintro e' s2 ⟨⟨br,ar9,mr9,kr9,rfl,yr⟩,hs2⟩;have q0:=ak hs2 l0;have q1:=ak hs2 l1;have q2:=ak hs2 l2;have q3:=ak hs2 l3;have q4:=ak hs2 l4;have q5:=ak hs2 l5;have hz2:=ae hs2 (ae hs1 HR2.out);have hz3:=ae hs2 (ae hs1 HR3.out);have hf2':=av hz2;have hf3':=av hz3;obtain⟨m0,m1⟩:=duo hz2;obtain⟨m2,m3⟩:=duo hz3))
   have gs:=aN hs1 hs2
   have hq4:=cb (g:=w.heap.size+2) (b1:=bX) (u1:=.slice aX mX kX) (b2:=br) (u2:=.slice ar9 mr9 kr9) hz2 hz3
   have HE:=ac (And.intro (hq4.2.2 _ _ (ZX.out.below gs)) (And.intro (hq4.2.2 _ _ yr) (bj (aN HGD.out gs) (g:=w.heap.size+2) (u0:=.bool bX) (u1:=.slice aX mX kX) (u2:=.bool br) (u3:=.slice ar9 mr9 kr9) (by omega))))
   obtain⟨R5,R6,_⟩:=hq4
   clear so0 so1 so2 so3 sp0 sp1 sp2 hz2 hz3 hf2' hf3' m0 m1 m2 m3 q0 q1 q2 q3 q4 q5 l0 l1 l2 l3 l4 l5 yr yp hs1 hs2 gs
   generalize (((s2.setCell ⟨w.heap.size+2,0,none⟩ (.bool bX)).setCell ⟨w.heap.size+2,1,none⟩ (.slice aX mX kX)).setCell ⟨w.heap.size+2+1,0,none⟩ (.bool br)).setCell ⟨w.heap.size+2+1,1,none⟩ (.slice ar9 mr9 kr9)=w5 at *
   obtain⟨p0,p1⟩:=duo R5
   obtain⟨p2,p3⟩:=duo R6
   go_wp2
   refine bodyPost_ret (v:=.tuple #[.agg #[.bool bX,.slice aX mX kX],.agg #[.bool br,.slice ar9 mr9 kr9]]) (by simp [results,Tryz.results25,go_sem,p0,p1,p2,p3]) rfl ?_
   exact⟨⟨_,_,_,_,_,_,_,_,rfl,HE.out.1,HE.out.2.1⟩,HE.out.2.2⟩

theorem pP (y z:Int):(flq y z).natAbs≤y.natAbs / z.natAbs+1:=by
 unfold flq
 generalize y.natAbs / z.natAbs=q
 generalize (decide (y<0) != decide (z<0))=s
 generalize decide (y.natAbs % z.natAbs≠0)=t
 cases s <;> cases t <;> simp [zz] <;> omega

theorem rT {x q k:Nat}(h:q≤x+k)(hk:k≤2):blen q≤blen x+2:=by
 refine (blen_le_iff _ _).2 ?_
 have h1:=(blen_le_iff x _).1 (Nat.le_refl _)
 rw [Nat.pow_add]
 have:=Nat.two_pow_pos (blen x)
 omega

def ceq (y z:Int):Int:=if y - flq y z*z=0 then flq y z else flq y z+1

theorem qL (v1 v2:Value)(y z:Int)(w:World)(h1:Zn w v1 y)(h2:Zn w v2 z)(hz0:z≠0)(hf1:blen y.natAbs≤1125899906810000)(hf2:blen z.natAbs≤1125899906810000) :
  Calls Tryz.prog 89 #[v1,v2] w (fs w (ceq y z) (y - ceq y z*z)):=by
 obtain⟨b,a,n,k,rfl,hb,hn,hz⟩:=h1.parts
 obtain⟨b2,a2,n2,k2,rfl,hb2,hn2,hz2⟩:=h2.parts
 obtain⟨w0,hw0,hb0,c0,c1,c2,c3⟩:=dj w (.cells #[.bool b,.slice a n k] 32) (.cells #[.bool b2,.slice a2 n2 k2] 32) (.cells #[.bool false,.slice none 0 0] 32) (.cells #[.bool false,.slice none 0 0] 32)
 obtain⟨d0,d1⟩:=duo c0
 obtain⟨d2,d3⟩:=duo c1
 have HD:=fc _ _ y z w0 (h1.below hb0) (h2.below hb0) hz0 hf1 hf2
 have HB0:=ac hb0
 have HC0:=ac c0
 have HC1:=ac c1
 have HC2:=ac c2
 have HC3:=ac c3
 have HZ1:=ac (h1.below hb0)
 have HZ2:=ac (h2.below hb0)
 have hfq:=pP y z
 have hdq:=Nat.div_le_self y.natAbs z.natAbs
 have hbq:=rT (x:=y.natAbs) (q:=(flq y z).natAbs) (k:=1) (by omega) (by omega)
 clear h1 h2 hn hn2 hb0 c0 c1 c2 c3 hb hb2 hz hz2
 by_cases hr0:y - flq y z*z=0
 ·have hce:ceq y z=flq y z:=if_pos hr0
  rw [hce]
  go_enter Tryz.func89,Tryz.ntmps89
  go_wp2_with fail
  refine HD.mono ?_
  rintro e t1 ⟨⟨bX,aX,mX,kX,br,ar9,mr9,kr9,rfl,zq,zr⟩,g1⟩
  obtain⟨u2,hu2,hbu2,hxu,hyu⟩:=bD t1 (.cells #[.bool bX,.slice aX mX kX] 32) (.cells #[.bool br,.slice ar9 mr9 kr9] 32)
  obtain⟨e0,e1⟩:=duo hyu
  have HS:=dp _ _ u2 (zr.below hbu2)
  rw [hr0,Int.sign_zero] at HS
  have HZQ:=ac (zq.below hbu2)
  have HZR:=ac (zr.below hbu2)
  have HXU:=ac hxu
  have HYU:=ac hyu
  have HG:=ac (aN g1 hbu2)
  have HG1:=ac g1
  clear HD d0 d1 d2 d3 zq zr hbu2 hxu hyu g1
  go_wp2_with fail
  refine HS.mono ?_
  rintro e t3 ⟨rfl,g3⟩
  have gg:=aN HG.out g3
  obtain⟨f0,f1⟩:=duo (ae g3 HXU.out)
  obtain⟨f2,f3⟩:=duo (ae g3 HYU.out)
  have hz2:=ae gg HC2.out
  have hz3:=ae gg HC3.out
  have hf2':=av hz2
  have hf3':=av hz3
  obtain⟨m0,m1⟩:=duo hz2
  obtain⟨m2,m3⟩:=duo hz3
  have hlx:w.heap.size+3<t1.heap.size:=lt_of_block (ae HG1.out HC3.out)
  have so1:∀(W:World) (k:Nat) (u:Value) (k':Nat),(W.setCell ⟨w.heap.size+2,k,none⟩ u).cell? ⟨t1.heap.size,k',none⟩=W.cell? ⟨t1.heap.size,k',none⟩:=fun W k u k'=>aI (by omega)
  have so2:∀(W:World) (k:Nat) (u:Value) (k':Nat),(W.setCell ⟨w.heap.size+2,k,none⟩ u).cell? ⟨t1.heap.size+1,k',none⟩=W.cell? ⟨t1.heap.size+1,k',none⟩:=fun W k u k'=>aI (by omega)
  have so3:∀(W:World) (k:Nat) (u:Value) (k':Nat),(W.setCell ⟨w.heap.size+2,k,none⟩ u).cell? ⟨w.heap.size+3,k',none⟩=W.cell? ⟨w.heap.size+3,k',none⟩:=fun W k u k'=>aI (by omega)
  have so4:∀(W:World) (k:Nat) (u:Value) (k':Nat),(W.setCell ⟨w.heap.size+3,k,none⟩ u).cell? ⟨t1.heap.size,k',none⟩=W.cell? ⟨t1.heap.size,k',none⟩:=fun W k u k'=>aI (by omega)
  have so5:∀(W:World) (k:Nat) (u:Value) (k':Nat),(W.setCell ⟨w.heap.size+3,k,none⟩ u).cell? ⟨t1.heap.size+1,k',none⟩=W.cell? ⟨t1.heap.size+1,k',none⟩:=fun W k u k'=>aI (by omega)
  have so6:∀(W:World) (k:Nat) (u:Value) (k':Nat),(W.setCell ⟨w.heap.size+3,k,none⟩ u).cell? ⟨w.heap.size+2,k',none⟩=W.cell? ⟨w.heap.size+2,k',none⟩:=fun W k u k'=>aI (by omega)
  have hq4:=cb (g:=w.heap.size+2) (b1:=bX) (u1:=.slice aX mX kX) (b2:=br) (u2:=.slice ar9 mr9 kr9) hz2 hz3
  have HE:=ac (And.intro (hq4.2.2 _ _ (HZQ.out.below g3)) (And.intro (hq4.2.2 _ _ (HZR.out.below g3)) (bj (aN HB0.out gg) (g:=w.heap.size+2) (u0:=.bool bX) (u1:=.slice aX mX kX) (u2:=.bool br) (u3:=.slice ar9 mr9 kr9) (by omega))))
  obtain⟨R5,R6,_⟩:=hq4
  clear hz2 hz3 gg g3 HS HG
  go_wp2
  go_region
  all_goals (
   clear so1 so2 so3 so4 so5 so6 hf2' hf3' m0 m1 m2 m3 f0 f1 f2 f3
   generalize (((t3.setCell ⟨w.heap.size+2,0,none⟩ (.bool bX)).setCell ⟨w.heap.size+2,1,none⟩ (.slice aX mX kX)).setCell ⟨w.heap.size+2+1,0,none⟩ (.bool br)).setCell ⟨w.heap.size+2+1,1,none⟩ (.slice ar9 mr9 kr9)=w5 at *
   obtain⟨p0,p1⟩:=duo (show w5.drew.heap[w.heap.size+2]?=_ from R5)
   obtain⟨p2,p3⟩:=duo (show w5.drew.heap[w.heap.size+2+1]?=_ from R6)
   go_wp2
   refine bodyPost_ret (v:=.tuple #[.agg #[.bool bX,.slice aX mX kX],.agg #[.bool br,.slice ar9 mr9 kr9]]) (by simp [results,Tryz.results89,go_sem,p0,p1,p2,p3]) rfl ?_
   exact⟨⟨_,_,_,_,_,_,_,_,rfl,HE.out.1.drew6,HE.out.2.1.drew6⟩,HE.out.2.2.drew⟩)
 ·have hce:ceq y z=flq y z+1:=if_neg hr0
  have HQB:Hid (blen (ceq y z).natAbs+blen z.natAbs≤1125899906840000):=ac (by
   have h:=iq (x:=y.natAbs) (y:=z.natAbs) (q:=(ceq y z).natAbs) (k:=2) (by omega) (by rw [hce];omega) (by omega) hf1 hf2
   omega)
  have HFQ:=ac hce
  obtain⟨rs,hrs,hrs0⟩:∃rs:Int,(y - flq y z*z).sign=rs∧(rs == 0)=false:=⟨_,rfl,by
   rw [beq_eq_false_iff_ne]
   exact fun h=>hr0 (Int.sign_eq_zero_iff_zero.1 h)⟩
  clear hce hr0
  go_enter Tryz.func89,Tryz.ntmps89
  go_wp2_with fail
  refine HD.mono ?_
  rintro e t1 ⟨⟨bx,ax,mx,kx,br0,ar0,mr0,kr0,rfl,zq,zr⟩,g1⟩
  obtain⟨u2,hu2,hbu2,hxu,hyu⟩:=bD t1 (.cells #[.bool bx,.slice ax mx kx] 32) (.cells #[.bool br0,.slice ar0 mr0 kr0] 32)
  obtain⟨e0,e1⟩:=duo hyu
  have HS:=dp _ _ u2 (zr.below hbu2)
  rw [hrs] at HS
  have HZQ:=ac (zq.below hbu2)
  have HXU:=ac hxu
  have HU2:=ac hbu2
  have HG1:=ac g1
  clear HD d0 d1 d2 d3 zq zr hbu2 hxu hyu g1 hrs
  go_wp2_with fail
  refine HS.mono ?_
  rintro e t3 ⟨rfl,g3⟩
  have HG3:=ac (aN HU2.out g3)
  have HX3:=ac (ae g3 HXU.out)
  have HZ3:=ac (HZQ.out.below g3)
  have I1:=dO 1 t3.drew (by omega) (by omega)
  have hb1:blen (Int.natAbs 1)≤64:=by decide
  have S1:=ac (fun (W:World) (v:Value) (hg:Below t3.drew.heap.size t3.drew W) (hv:Zn W v 1)=>j9 (.agg #[.bool bx,.slice ax mx kx]) v (flq y z) 1 W (HZ3.out.drew6.below hg) hv (by omega) (by omega))
  obtain⟨x0,x1⟩:=duo (show t3.drew.heap[t1.heap.size]?=some (.cells #[.bool bx,.slice ax mx kx] 32) from HX3.out)
  clear g3 HS HZQ HXU e0 e1 hu2
  go_upto_region 4 with fail
  go_cut [19] from 19 to 22 (fun _ wx=>∃(bX:Bool) (aX:Option Addr) (mX kX:Nat),wx.heap[t1.heap.size]?=some (.cells #[.bool bX,.slice aX mX kX] 32)∧Zn wx (.agg #[.bool bX,.slice aX mX kX]) (ceq y z)∧Below t1.heap.size t1 wx)
  case first=>
   go_region_with (first
    | (go_at_call 27;refine I1.mono ?_;rintro e' s1 ⟨⟨bi,ai,mi,ki,rfl,yi⟩,hs1⟩;have y0:=ak hs1 x0;have y1:=ak hs1 x1)
    | (go_at_call 22;refine (S1.out s1 _ hs1 yi).mono ?_;rintro e' s2 ⟨⟨bs,as9,ms,ks,rfl,ys⟩,hs2⟩;have hzx:=ae hs2 (ae hs1 (show t3.drew.heap[t1.heap.size]?=some (.cells #[.bool bx,.slice ax mx kx] 32) from HX3.out));have hfx:=av hzx;obtain⟨w0',w1'⟩:=duo hzx))
   all_goals (go_wp2_with fail;go_meet)
   all_goals (refine⟨bs,as9,ms,ks,aH hzx,?_,aC (aN (aN HG3.out (Below.refl _ _).drew) (aN hs1 hs2)) (Nat.le_refl _)⟩;rw [HFQ.out];exact ys.duo hzx)
  case rest=>
   obtain⟨bX,aX,mX,kX,BXF,ZXF,gx⟩:=hcut
   have gwc:=aN HG1.out gx
   have hbd:Below wc.heap.size wc wc.drew:=(Below.refl _ _).drew
   have gd:=aN gwc hbd
   obtain⟨j0,j1⟩:=duo (ae gd HC0.out)
   obtain⟨j2,j3⟩:=duo (ae gd HC1.out)
   have hxd:=ae hbd BXF
   obtain⟨j4,j5⟩:=duo hxd
   have ZX:=ac (ZXF.below hbd)
   have HMU:=dn _ _ (ceq y z) z wc.drew ZX.out (HZ2.out.below gd) (by have:=HQB.out;omega)
   have HSU:=ac (fun (W:World) (v:Value) (hg:Below wc.drew.heap.size wc.drew W) (hv:Zn W v (ceq y z*z))=>dk (.agg #[.bool b,.slice a n k]) v y (ceq y z*z) W ((HZ1.out.below gd).below hg) hv (by omega) (by have h1:=HQB.out;rw [Int.natAbs_mul];have h2:=d8 (ceq y z).natAbs z.natAbs;omega))
   have hr2:=ae gd HC2.out
   have hr3:=ae gd HC3.out
   have HR2:=ac hr2
   have HR3:=ac hr3
   have HGD:=ac (aN HB0.out gd)
   have hlx:w.heap.size+3<t1.heap.size:=lt_of_block (ae HG1.out HC3.out)
   have so0:∀(W:World) (k:Nat) (u:Value) (k':Nat),(W.setCell ⟨w.heap.size+2,k,none⟩ u).cell? ⟨w.heap.size,k',none⟩=W.cell? ⟨w.heap.size,k',none⟩:=fun W k u k'=>aI (by omega)
   have so1:∀(W:World) (k:Nat) (u:Value) (k':Nat),(W.setCell ⟨w.heap.size+2,k,none⟩ u).cell? ⟨w.heap.size+1,k',none⟩=W.cell? ⟨w.heap.size+1,k',none⟩:=fun W k u k'=>aI (by omega)
   have so2:∀(W:World) (k:Nat) (u:Value) (k':Nat),(W.setCell ⟨w.heap.size+2,k,none⟩ u).cell? ⟨t1.heap.size,k',none⟩=W.cell? ⟨t1.heap.size,k',none⟩:=fun W k u k'=>aI (by omega)
   have so3:∀(W:World) (k:Nat) (u:Value) (k':Nat),(W.setCell ⟨w.heap.size+2,k,none⟩ u).cell? ⟨w.heap.size+3,k',none⟩=W.cell? ⟨w.heap.size+3,k',none⟩:=fun W k u k'=>aI (by omega)
   have sp0:∀(W:World) (k:Nat) (u:Value) (k':Nat),(W.setCell ⟨w.heap.size+3,k,none⟩ u).cell? ⟨w.heap.size,k',none⟩=W.cell? ⟨w.heap.size,k',none⟩:=fun W k u k'=>aI (by omega)
   have sp1:∀(W:World) (k:Nat) (u:Value) (k':Nat),(W.setCell ⟨w.heap.size+3,k,none⟩ u).cell? ⟨w.heap.size+1,k',none⟩=W.cell? ⟨w.heap.size+1,k',none⟩:=fun W k u k'=>aI (by omega)
   have sp2:∀(W:World) (k:Nat) (u:Value) (k':Nat),(W.setCell ⟨w.heap.size+3,k,none⟩ u).cell? ⟨t1.heap.size,k',none⟩=W.cell? ⟨t1.heap.size,k',none⟩:=fun W k u k'=>aI (by omega)
   clear hr2 hr3 hxd
   go_wp2
   go_region_held3 (fun w'=>w'.cell? ⟨w.heap.size,0,none⟩=some (.bool b)∧w'.cell? ⟨w.heap.size,1,none⟩=some (.slice a n k)∧w'.cell? ⟨w.heap.size+1,0,none⟩=some (.bool b2)∧w'.cell? ⟨w.heap.size+1,1,none⟩=some (.slice a2 n2 k2)∧w'.cell? ⟨t1.heap.size,0,none⟩=some (.bool bX)∧w'.cell? ⟨t1.heap.size,1,none⟩=some (.slice aX mX kX)) (go_keep) (first
    | (go_at_call 23;refine HMU.mono ?_;rintro e' s1 ⟨⟨bp,ap,mp,kp,rfl,yp⟩,hs1⟩;have l0:=ak hs1 j0;have l1:=ak hs1 j1;have l2:=ak hs1 j2;have l3:=ak hs1 j3;have l4:=ak hs1 j4;have l5:=ak hs1 j5)
    | (go_at_call 26;refine (HSU.out s1 _ hs1 yp).mono ?_;rintro e' s2 ⟨⟨br,ar9,mr9,kr9,rfl,yr⟩,hs2⟩;have q0:=ak hs2 l0;have q1:=ak hs2 l1;have q2:=ak hs2 l2;have q3:=ak hs2 l3;have q4:=ak hs2 l4;have q5:=ak hs2 l5;have hz2:=ae hs2 (ae hs1 HR2.out);have hz3:=ae hs2 (ae hs1 HR3.out);have hf2':=av hz2;have hf3':=av hz3;obtain⟨m0,m1⟩:=duo hz2;obtain⟨m2,m3⟩:=duo hz3))
   have gs:=aN hs1 hs2
   have hq4:=cb (g:=w.heap.size+2) (b1:=bX) (u1:=.slice aX mX kX) (b2:=br) (u2:=.slice ar9 mr9 kr9) hz2 hz3
   have HE:=ac (And.intro (hq4.2.2 _ _ (ZX.out.below gs)) (And.intro (hq4.2.2 _ _ yr) (bj (aN HGD.out gs) (g:=w.heap.size+2) (u0:=.bool bX) (u1:=.slice aX mX kX) (u2:=.bool br) (u3:=.slice ar9 mr9 kr9) (by omega))))
   obtain⟨R5,R6,_⟩:=hq4
   clear so0 so1 so2 so3 sp0 sp1 sp2 hz2 hz3 hf2' hf3' m0 m1 m2 m3 q0 q1 q2 q3 q4 q5 l0 l1 l2 l3 l4 l5 yr yp hs1 hs2 gs
   generalize (((s2.setCell ⟨w.heap.size+2,0,none⟩ (.bool bX)).setCell ⟨w.heap.size+2,1,none⟩ (.slice aX mX kX)).setCell ⟨w.heap.size+2+1,0,none⟩ (.bool br)).setCell ⟨w.heap.size+2+1,1,none⟩ (.slice ar9 mr9 kr9)=w5 at *
   obtain⟨p0,p1⟩:=duo R5
   obtain⟨p2,p3⟩:=duo R6
   go_wp2
   refine bodyPost_ret (v:=.tuple #[.agg #[.bool bX,.slice aX mX kX],.agg #[.bool br,.slice ar9 mr9 kr9]]) (by simp [results,Tryz.results89,go_sem,p0,p1,p2,p3]) rfl ?_
   exact⟨⟨_,_,_,_,_,_,_,_,rfl,HE.out.1,HE.out.2.1⟩,HE.out.2.2⟩

def euq (y z:Int):Int:=if z<0 then ceq y z else flq y z

theorem jT (v1 v2:Value)(y z:Int)(w:World)(h1:Zn w v1 y)(h2:Zn w v2 z)(hz0:z≠0)(hf1:blen y.natAbs≤1125899906810000)(hf2:blen z.natAbs≤1125899906810000) :
  Calls Tryz.prog 50 #[v1,v2] w (fs w (euq y z) (y - euq y z*z)):=by
 obtain⟨b,a,n,k,rfl,hb,hn,hz⟩:=h1.parts
 obtain⟨b2,a2,n2,k2,rfl,hb2,hn2,hz2⟩:=h2.parts
 obtain⟨w0,hw0,hb0,c0,c1,c2,c3⟩:=dj w (.cells #[.bool b,.slice a n k] 32) (.cells #[.bool b2,.slice a2 n2 k2] 32) (.cells #[.bool false,.slice none 0 0] 32) (.cells #[.bool false,.slice none 0 0] 32)
 obtain⟨d0,d1⟩:=duo c0
 obtain⟨d2,d3⟩:=duo c1
 have HFL:=fc _ _ y z w0 (h1.below hb0) (h2.below hb0) hz0 hf1 hf2
 have HCE:=qL _ _ y z w0 (h1.below hb0) (h2.below hb0) hz0 hf1 hf2
 have HB0:=ac hb0
 have HC2:=ac c2
 have HC3:=ac c3
 clear h1 h2 hn hn2 hb0 c0 c1 c2 c3 hz hz2
 unfold euq
 by_cases hneg:z<0
 ·rw [if_pos hneg]
  rw [decide_eq_true hneg] at hb2
  subst hb2
  clear hb
  go_enter Tryz.func50,Tryz.ntmps50
  go_wp2_with fail
  refine HCE.mono ?_
  rintro e t1 ⟨⟨bX,aX,mX,kX,br,ar9,mr9,kr9,rfl,zq,zr⟩,g1⟩
  have hz2:=ae g1 HC2.out
  have hz3:=ae g1 HC3.out
  have hf2':=av hz2
  have hf3':=av hz3
  obtain⟨m0,m1⟩:=duo hz2
  obtain⟨m2,m3⟩:=duo hz3
  have hq4:=cb (g:=w.heap.size+2) (b1:=bX) (u1:=.slice aX mX kX) (b2:=br) (u2:=.slice ar9 mr9 kr9) hz2 hz3
  have HE:=ac (And.intro (hq4.2.2 _ _ zq) (And.intro (hq4.2.2 _ _ zr) (bj (aN HB0.out g1) (g:=w.heap.size+2) (u0:=.bool bX) (u1:=.slice aX mX kX) (u2:=.bool br) (u3:=.slice ar9 mr9 kr9) (by omega))))
  obtain⟨R5,R6,_⟩:=hq4
  clear hz2 hz3 g1 zq zr hw0 d0 d1 d2 d3 HFL HCE
  go_wp2
  generalize (((t1.setCell ⟨w.heap.size+2,0,none⟩ (.bool bX)).setCell ⟨w.heap.size+2,1,none⟩ (.slice aX mX kX)).setCell ⟨w.heap.size+2+1,0,none⟩ (.bool br)).setCell ⟨w.heap.size+2+1,1,none⟩ (.slice ar9 mr9 kr9)=w5 at *
  obtain⟨p0,p1⟩:=duo R5
  obtain⟨p2,p3⟩:=duo R6
  refine bodyPost_ret (v:=.tuple #[.agg #[.bool bX,.slice aX mX kX],.agg #[.bool br,.slice ar9 mr9 kr9]]) (by simp [results,Tryz.results50,go_sem,p0,p1,p2,p3]) rfl ?_
  exact⟨⟨_,_,_,_,_,_,_,_,rfl,HE.out.1,HE.out.2.1⟩,HE.out.2.2⟩
 ·rw [if_neg hneg]
  rw [decide_eq_false hneg] at hb2
  subst hb2
  clear hb
  go_enter Tryz.func50,Tryz.ntmps50
  go_wp2_with fail
  refine HFL.mono ?_
  rintro e t1 ⟨⟨bX,aX,mX,kX,br,ar9,mr9,kr9,rfl,zq,zr⟩,g1⟩
  have hz2:=ae g1 HC2.out
  have hz3:=ae g1 HC3.out
  have hf2':=av hz2
  have hf3':=av hz3
  obtain⟨m0,m1⟩:=duo hz2
  obtain⟨m2,m3⟩:=duo hz3
  have hq4:=cb (g:=w.heap.size+2) (b1:=bX) (u1:=.slice aX mX kX) (b2:=br) (u2:=.slice ar9 mr9 kr9) hz2 hz3
  have HE:=ac (And.intro (hq4.2.2 _ _ zq) (And.intro (hq4.2.2 _ _ zr) (bj (aN HB0.out g1) (g:=w.heap.size+2) (u0:=.bool bX) (u1:=.slice aX mX kX) (u2:=.bool br) (u3:=.slice ar9 mr9 kr9) (by omega))))
  obtain⟨R5,R6,_⟩:=hq4
  clear hz2 hz3 g1 zq zr hw0 d0 d1 d2 d3 HFL HCE
  go_wp2
  generalize (((t1.setCell ⟨w.heap.size+2,0,none⟩ (.bool bX)).setCell ⟨w.heap.size+2,1,none⟩ (.slice aX mX kX)).setCell ⟨w.heap.size+2+1,0,none⟩ (.bool br)).setCell ⟨w.heap.size+2+1,1,none⟩ (.slice ar9 mr9 kr9)=w5 at *
  obtain⟨p0,p1⟩:=duo R5
  obtain⟨p2,p3⟩:=duo R6
  refine bodyPost_ret (v:=.tuple #[.agg #[.bool bX,.slice aX mX kX],.agg #[.bool br,.slice ar9 mr9 kr9]]) (by simp [results,Tryz.results50,go_sem,p0,p1,p2,p3]) rfl ?_
  exact⟨⟨_,_,_,_,_,_,_,_,rfl,HE.out.1,HE.out.2.1⟩,HE.out.2.2⟩


end Go.Proofs.YtdbjbbdhlpfhjaaGreatDoor

