/- The reference's numbers: Zero, Shl. -/
import Derived.Test.YteehipcoeocojaaGreatDoorB09
import Derived.Test.YteehipcoeocojaaGreatDoorB02
import Derived.Test.YteehipcoeocojaaGreatDoorB04
import Derived.Test.YteehipcoeocojaaGreatDoorB03
import Derived.Maps.AppendAt
import Derived.Laws.DeepStrings4
import Derived.Deep.RegionHeld3
import Derived.Test.YteehipcoeocojaaGreatDoorB01
set_option maxRecDepth 20000
set_option maxHeartbeats 4000000
namespace Go.Proofs.YteehipcoeocojaaGreatDoor
open Go.RowKit
open Lm
attribute [local go_sem ↓] Go.wp_at_zero Go.wp_at_succ

theorem Num.zero_iff {w:World}{v:Value}{x:Nat}(h:Num w v x):∃ao n cap,v=.slice ao n cap∧((n:Int) == 0)=(x == 0):=by
 obtain⟨ds,A,hd,ht,rfl,_⟩:=h
 obtain⟨ao,cap,hv,_⟩:=A.form
 refine⟨ao,ds.length,cap,hv,?_⟩
 by_cases h0:ds=[]
 ·subst h0;rfl
 ·have h1:0<ds.length:=List.length_pos_iff.2 h0
  have h2:vb 4294967296 ds≠0:=fun e=>h0 (vb_tail_zero (by omega) ht e)
  have e1:((ds.length:Int) == 0)=false:=by rw [beq_eq_false_iff_ne];omega
  have e2:(vb 4294967296 ds == 0)=false:=by rw [beq_eq_false_iff_ne];exact h2
  rw [e1,e2]

theorem gB (v:Value)(x:Nat)(w:World)(h:Num w v x):Calls Tryz.prog 36 #[v] w fun e w'=>e=.returned (.bool (x == 0))∧w'=w:=by
 obtain⟨ao,n,cap,rfl,he⟩:=h.zero_iff
 clear h
 go_enter Tryz.func36,Tryz.ntmps36
 go_wp2
 go_ret
 exact⟨rfl,rfl⟩

theorem gG (n k:Nat):(List.replicate n 0).getD k 0=0:=by
 by_cases h:k<n
 ·simp [List.getD,h]
 ·simp [List.getD,h]

theorem jB (B n:Nat):vb B (List.replicate n 0)=0:=by
 induction n with
 | zero=>rfl
 | succ n ih=>rw [List.replicate_succ,vb,ih];simp

theorem jc (out:List Nat)(k d t:Nat)(h:k+1<out.length):((out.set k t).set (k+1) d).getD (k+1) 0=d:=by
 simp [List.getD,h]

theorem kQ (x s:Nat)(h:x*2 ^ s<18446744073709551616):IntKind.u64.wrap ((x:Int)*2 ^ s)=((x*2 ^ s:Nat):Int):=by
 rw [IntKind.wrap_u64]
 have e:(x:Int)*2 ^ s=((x*2 ^ s:Nat):Int):=by push_cast;rfl
 rw [e];omega

theorem kR (out:List Nat)(i j a b:Nat):((out.set i a).set j b).length=out.length:=by simp

theorem eo (v:Value)(x n:Nat)(w:World)(h:Num w v x)(hf:blen x+n≤1125899906840000) :
  Calls Tryz.prog 60 #[v,.int .i64 n] w fun e w'=>(∃v',e=.returned v'∧Num w' v' (x*2 ^ n))∧Below w.heap.size w w':=by
 obtain⟨X,A,hX,hXt,rfl,_⟩:=h
 obtain⟨a1,c1,rfl,hc1,hm1,L1⟩:=A.form
 by_cases h0:X.length=0
 ·have hx:X=[]:=List.length_eq_zero_iff.1 h0
  subst hx
  clear A L1 hX hXt hf
  go_enter Tryz.func60,Tryz.ntmps60
  go_wp2
  go_ret
  refine⟨⟨_,rfl,?_⟩,Below.refl _ _⟩
  rw [vb,Nat.zero_mul]
  exact Num.nil w
 ·obtain⟨i0,hi,hz0,hz1,hz2⟩:=info_parts Tryz.infoU
  obtain⟨q,s,hs,hnq⟩:∃q s,s<32∧n=q*32+s:=⟨n / 32,n % 32,by omega,by omega⟩
  have lX:X.length+q≤35184372088752:=by
   obtain⟨m,hm⟩:∃m,X.length=m+1:=⟨X.length - 1,by omega⟩
   have h1:=blen_vb hX hXt m hm
   omega
  have eq1:(n:Int) / 32=(q:Int):=by omega
  have eq2:(n:Int) % 32=(s:Int):=by omega
  have HN:Hid (n=q*32+s):=hnq
  rcases L1 with h' | ⟨b,off,rfl,hcell⟩
  ·exact absurd (by rw [h'];rfl) h0
  ·have hbw:b<w.heap.size:=ah.block (zs:=X) (.inr ⟨b,off,rfl,hcell⟩) (by omega)
   have hln:((X.length:Int) == 0)=false:=by rw [beq_eq_false_iff_ne];omega
   clear hnq hf A
   go_enter Tryz.func60,Tryz.ntmps60
   go_wp2_with (at_make;refine wpList_make_full _ rfl _ _ 26 rfl w.heap.size 63 i0 (.int .u64 0) 1 Tryz.underlying26 hi hz0 hz1 .i64 .i64 _ _ (X.length+q+1) rfl rfl (by omega) (by omega) (by rw [hz2];omega) (by unfold maxLen;omega) (Nat.le_refl _) ?_;intro w1 hown hgrow)
   have hb1:=Blk.made hown
   have hbel:Below w.heap.size w w1:=(Below.refl _ _).grown hgrow (Nat.le_refl _) (fun k hk=>by cases hk)
   clear hown hgrow hi hz0 hz1 hz2
   go_loopw [23] (fun i wr=>∃(k:Nat) (out:List Nat),k≤X.length∧i=.int .i64 k∧out.length=X.length+q+1∧Digs 4294967296 out∧out.getD (q+k) 0<2 ^ s∧Blk wr w.heap.size out∧Below w.heap.size w wr ∧
     vb 4294967296 (out.take (q+k+1))=vb 4294967296 (X.take k)*2 ^ n) (fun i _=>X.length - (intOf i).toNat)
   case atStart=>exact⟨0,_,Nat.zero_le _,rfl,by simp,digs_replicate (by omega) _,by rw [gG];exact Nat.two_pow_pos _,hb1,hbel,by rw [List.take_replicate,jB];simp [vb]⟩
   case round=>
    obtain⟨k,out,hk,rfl,hlen,hdo,hlow,hblk,hbl,hval⟩:=hrel
    clear hb1 hbel
    have HB:=aa hblk
    have HL:=aa hbl
    by_cases hkl:k<X.length
    ·have hck:wr.cell? ⟨b,off+k,none⟩=some (.int .u64 ((X.getD k 0:Nat):Int)):=by rw [hbl.cell (p:=⟨b,off+k,none⟩) hbw];exact hcell k hkl
     have hne1:¬b=w.heap.size:=by omega
     have hne2:¬w.heap.size=b:=by omega
     have hfr:=hblk.free (k+q)
     have hco:=hblk.cell (k+q) (by omega)
     have hfr1:=hblk.free (k+q+1)
     have hco1:=hblk.cell (k+q+1) (by omega)
     have HV:=aa (gE X out q s k n HN.out (by omega) hval)
     have z1:=dig_lt (by omega) hX k
     have b1:=la (X.getD k 0) s (out.getD (q+k) 0) (by omega) hlow
     have b2:=ij (X.getD k 0) s z1
     have b3:=j6 (X.getD k 0) s z1 hs
     have hdd:=aa (digs_set (digs_set hdo (q+k) _ b1) (q+k+1) (X.getD k 0*2 ^ s / 4294967296) (by omega))
     have hge:=aa (show ((out.set (q+k) (out.getD (q+k) 0+X.getD k 0*2 ^ s % 4294967296)).set (q+k+1) (X.getD k 0*2 ^ s / 4294967296)).getD (q+(k+1)) 0<2 ^ s by rw [show q+(k+1)=q+k+1 by omega,jc _ _ _ _ (by omega)];exact b2)
     generalize X.getD k 0=x at *
     rw [Nat.add_comm q k] at *
     generalize out.getD (k+q) 0=o at *
     generalize out.getD (k+q+1) 0=o1 at *
     have w0:IntKind.u64.wrap ((x:Int)*2 ^ s)=((x*2 ^ s:Nat):Int):=kQ x s b3
     generalize x*2 ^ s=T at *
     have e1:(T:Int) % 4294967296=((T % 4294967296:Nat):Int):=by omega
     have e2:(T:Int) / 4294967296=((T / 4294967296:Nat):Int):=by omega
     have b4:T / 4294967296<4294967296:=by omega
     generalize T % 4294967296=m at *
     generalize T / 4294967296=d at *
     have e3:(o:Int)+(m:Int)=((o+m:Nat):Int):=by omega
     generalize o+m=t at *
     have e4:IntKind.u64.wrap (t:Int)=(t:Int):=by rw [IntKind.wrap_u64];omega
     clear hval hblk hbl hcell
     go_wp2
     go_region
     go_wp2
     go_roundw
     case rel=>exact⟨k+1,(out.set (k+q) t).set (k+q+1) d,by omega,by go_num,by rw [kR];exact hlen,hdd.out,hge.out,(HB.out.set (k+q) t).set (k+q+1) d,((HL.out.setCell (Nat.le_refl _) _).setCell (Nat.le_refl _) _).drew,by rw [show q+(k+1)+1=k+q+1+1 by omega];exact HV.out⟩
     case measure=>simp [intOf];omega
    ·have ek:k=X.length:=by omega
     subst ek
     have hve:vb 4294967296 out=vb 4294967296 X*2 ^ n:=by
      rw [List.take_of_length_le (by omega),List.take_length] at hval;exact hval
     have hA:=Ans.of_blk (base:=w.heap.size) (zs:=out) (Nat.le_refl _) hblk List.take_length.symm (Nat.le_refl _) (by omega) (digs_limbs hdo)
     have H:=dJ _ _ _ (hA.arg (by omega)) hdo (by omega)
     rw [hlen,hve] at H
     clear hval hblk hbl hX hA hve HB hcell
     go_wp2_with fail
     refine H.mono ?_
     rintro e w2 ⟨⟨v',rfl,hnum⟩,rfl⟩
     have HN:=aa hnum
     clear hnum H
     go_wp2
     go_ret
     exact⟨⟨v',rfl,HN.out⟩,HL.out⟩
end Go.Proofs.YteehipcoeocojaaGreatDoor
namespace Go.Proofs.YteehipcoeocojaaGreatDoor
open Lm
end Go.Proofs.YteehipcoeocojaaGreatDoor
namespace Go.Proofs.YteehipcoeocojaaGreatDoor
open Go.RowKit
open Lm
attribute [local go_sem ↓] Go.wp_at_zero Go.wp_at_succ
end Go.Proofs.YteehipcoeocojaaGreatDoor
namespace Go.Proofs.YteehipcoeocojaaGreatDoor
open Lm

theorem gk (B:Nat)(X:List Nat)(j:Nat)(h:j<X.length):vb B (X.drop j)=X.getD j 0+B*vb B (X.drop (j+1)):=by
 rw [List.drop_eq_getElem_cons h,vb]
 simp [List.getD,h]

theorem mG (B:Nat)(out:List Nat)(j q:Nat)(h:j<out.length):vb B ((out.set j q).drop j)=q+B*vb B (out.drop (j+1)):=by
 rw [gk B _ j (by simpa using h)]
 congr 1
 ·simp [List.getD,h]
 ·congr 2
  rw [List.drop_set_of_lt (by omega)]

theorem mg (X out:List Nat)(j y R q R2:Nat)(hX:j<X.length)(ho:j<out.length)
  (h:vb 4294967296 (X.drop (j+1))=vb 4294967296 (out.drop (j+1))*y+R) (hq:R*2 ^ 32+X.getD j 0=q*y+R2) :
  vb 4294967296 (X.drop j)=vb 4294967296 ((out.set j q).drop j)*y+R2:=by
 rw [gk _ X j hX,mG _ _ _ _ ho,h]
 have e:(2:Nat) ^ 32=4294967296:=by decide
 rw [e] at hq
 generalize vb 4294967296 (out.drop (j+1))=V at *
 generalize X.getD j 0=x at *
 grind

theorem ie (y R t:Nat)(h:R<y*2 ^ (t+1))(hge:y*2 ^ t≤R):R - y*2 ^ t<y*2 ^ t:=by
 rw [Nat.pow_succ,←Nat.mul_assoc] at h
 omega

theorem jn (y R R2 q t:Nat)(h:R=q*y+R2)(hge:y*2 ^ t≤R2):R=(q+2 ^ t)*y+(R2 - y*2 ^ t):=by
 rw [Nat.add_mul,Nat.mul_comm (2 ^ t) y]
 omega

theorem jb (y R x:Nat)(hR:R<y)(hx:x<4294967296):R*2 ^ 32+x<y*2 ^ 32:=by
 have h1:(R+1)*2 ^ 32≤y*2 ^ 32:=Nat.mul_le_mul_right _ hR
 have e:(2:Nat) ^ 32=4294967296:=by decide
 rw [Nat.add_mul,Nat.one_mul] at h1
 omega

theorem lA (x y V R:Nat)(h:x=V*y+R)(hR:R<y):V=x / y∧R=x % y:=by
 subst h
 rw [Nat.mul_comm]
 refine⟨?_,?_⟩
 ·rw [Nat.mul_add_div (by omega),Nat.div_eq_of_lt hR,Nat.add_zero]
 ·rw [Nat.mul_add_mod,Nat.mod_eq_of_lt hR]

theorem eY {a b:Nat}(h:a<b):blen a≤blen b:=blen_mono (Nat.le_of_lt h)

theorem f8 (y n:Nat):blen (y*2 ^ n)≤blen y+n:=by
 rw [blen_le_iff,Nat.pow_add]
 exact Nat.mul_lt_mul_of_pos_right ((blen_le_iff _ _).1 (Nat.le_refl _)) (Nat.two_pow_pos _)
end Go.Proofs.YteehipcoeocojaaGreatDoor
namespace Go.Proofs.YteehipcoeocojaaGreatDoor
open Go.RowKit
open Lm
attribute [local go_sem ↓] Go.wp_at_zero Go.wp_at_succ

theorem bO {a b c:World}(h:Below a.heap.size a b)(k:Below b.heap.size b c):Below a.heap.size a c:=h.trans (k.mono h.size)

theorem Below.one (w:World)(o:Obj):Below w.heap.size w (w.alloc o):=(Below.refl _ _).alloc (Nat.le_refl _) _

theorem Blk.kept {w w':World}{b:Nat}{xs:List Nat}(h:Blk w b xs)(hb:Below w.heap.size w w'):Blk w' b xs:=by
 unfold Blk
 rw [hb.block b h.lt];exact h

theorem Arg.one (w:World)(z:Nat)(hz:z<18446744073709551616):Arg (w.alloc (.cells #[.int .u64 (z:Int)] 63)) (.slice (some ⟨w.heap.size,0,none⟩) 1 1) [z]:=by
 have hb:Blk (w.alloc (.cells #[.int .u64 (z:Int)] 63)) w.heap.size [z]:=by
  unfold Blk
  rw [heap_alloc_new]
  rfl
 exact⟨⟨_,_,rfl,Nat.le_refl _,by simp,.inr ⟨_,0,rfl,fun k hk=>by rw [Nat.zero_add];exact hb.cell k hk⟩⟩,by intro y hy;simp at hy;omega,by simp,fun n c e=>by cases e⟩

theorem i9 (v1 v2:Value)(x y:Nat)(w:World)(h1:Num w v1 x)(h2:Num w v2 y)(hy:y≠0)(f1:blen x≤1125899906840000)(f2:blen y≤1125899906810000) :
  Calls Tryz.prog 37 #[v1,v2] w fun e w'=>(∃vq vr,e=.returned (.tuple #[vq,vr])∧Num w' vq (x / y)∧Num w' vr (x % y)∧New w.heap.size vq∧New w.heap.size vr)∧Below w.heap.size w w':=by
 obtain⟨X,A1,hX,hXt,rfl,_⟩:=h1
 have lX:=ch hX hXt 35184372088750 (by omega)
 obtain⟨a1,c1,rfl,hc1,hm1,L1⟩:=A1.form
 obtain⟨i0,hi,hz0,hz1,hz2⟩:=info_parts Tryz.infoU
 have NY:=aa h2
 have F2:=aa f2
 have HY0:=aa hy
 clear f1 f2 hXt A1 h2 hy
 go_enter Tryz.func37,Tryz.ntmps37
 go_wp2_with (at_make;refine wpList_make_full _ rfl _ _ 26 rfl w.heap.size 63 i0 (.int .u64 0) 1 Tryz.underlying26 hi hz0 hz1 .i64 .i64 _ _ X.length rfl rfl (by omega) (by omega) (by rw [hz2];omega) (by unfold maxLen;omega) (Nat.le_refl _) ?_;intro w1 hown hgrow)
 have hb1:=Blk.made hown
 have hbel:Below w.heap.size w w1:=(Below.refl _ _).grown hgrow (Nat.le_refl _) (fun k hk=>by cases hk)
 clear hown hgrow hi hz0 hz1 hz2
 go_loopw [6,8] (fun r i wr=>∃(k R:Nat) (out:List Nat),k≤X.length∧i=.int .i64 ((k:Int) - 1)∧Num wr r R∧New (w.heap.size+1) r∧R<y∧out.length=X.length∧Digs 4294967296 out∧Blk wr w.heap.size out∧Below w.heap.size w wr ∧
   vb 4294967296 (X.drop k)=vb 4294967296 (out.drop k)*y+R) (fun _ i _=>(intOf i+1).toNat)
 case atStart=>exact⟨X.length,0,_,Nat.le_refl _,rfl,Num.nil _,New.nil _ _ _,by have:=HY0.out;omega,by simp,digs_replicate (by omega) _,hb1,hbel,by simp [vb]⟩
 case round=>
  obtain⟨k,R,out,hk,rfl,hnr,hnw0,hR,hlen,hdo,hblk,hbl,hval⟩:=hrel
  clear hb1 hbel
  by_cases hk0:k=0
  ·subst hk0
   have hve:=lA _ y _ R hval hR
   rw [List.drop_zero,List.drop_zero] at hve
   have hA:=Ans.of_blk (base:=w.heap.size) (zs:=out) (Nat.le_refl _) hblk List.take_length.symm (Nat.le_refl _) (by omega) (digs_limbs hdo)
   have H:=cC w.heap.size _ _ _ (hA.arg (by omega)) hdo (by omega) (fun b off n c e=>by cases e;exact Nat.le_refl _)
   rw [hlen,hve.1] at H
   have HR:Hid (Num wr u6 (vb 4294967296 X % y)):=aa (by rw [←hve.2];exact hnr)
   have HL:=aa hbl
   have HNW:=aa (hnw0.mono (Nat.le_succ _))
   clear hval hblk hbl hX hA hve L1 hnr hnw0
   go_wp2_with fail
   refine H.mono ?_
   rintro e w2 ⟨⟨v',rfl,hnum,hnv⟩,rfl⟩
   have HN:=aa (And.intro hnum hnv)
   clear hnum hnv H
   go_wp2
   go_ret2
   exact⟨⟨v',u6,rfl,HN.out.1,HR.out,HN.out.2,HNW.out⟩,HL.out⟩
  ·obtain⟨j,rfl⟩:∃j,k=j+1:=⟨k - 1,by omega⟩
   rcases L1.below hbl with h0|⟨b,off,rfl,hcell⟩
   ·rw [h0] at hk;simp at hk
   ·have hck:=hcell j (by omega)
    have hbw:b<wr.heap.size:=ah.block (zs:=X) (.inr ⟨b,off,rfl,hcell⟩) (by omega)
    have ej:(((j+1:Nat):Int) - 1)=(j:Int):=by omega
    rw [ej]
    have z1:=dig_lt (by omega) hX j
    have HST:=aa (fun q R2 hq=>mg X out j y R q R2 (by omega) (by omega) hval hq)
    have HRL:=aa (jb y R (X.getD j 0) hR z1)
    have hfR:blen R+32≤1125899906840000:=by have:=eY hR;have:=F2.out;omega
    generalize X.getD j 0=x at *
    have HC:=aa (fun (u:World) (hu:Below wr.heap.size wr u)=>(show u.cell? ⟨b,off+j,none⟩=some (.int .u64 (x:Int)) by rw [hu.cell (p:=⟨b,off+j,none⟩) hbw];exact hck))
    have D0:Hid (Below wr.heap.size wr wr.drew):=aa ((Below.refl _ _).drew)
    obtain⟨RS,hRS⟩:∃RS,RS=R*2 ^ 32:=⟨_,rfl⟩
    have HSH:=aa (fun (u:World) (hu:Below wr.heap.size wr u)=>(by have h:=eo _ R 32 u (hnr.below hu) hfR;rw [←hRS] at h;exact h:Calls Tryz.prog 60 #[u6,.int .i64 32] u fun e w'=>(∃v',e=.returned v'∧Num w' v' RS)∧Below u.heap.size u w'))
    have ex:vb 4294967296 [x]=x:=by simp [vb]
    have HNO:=aa (fun (u:World) (v:Value) (hv:Arg u v [x])=>(by have h:=dJ v [x] u hv (by intro z hz;simp at hz;omega) (by simp);rw [ex] at h;exact h:Calls Tryz.prog 30 #[v] u fun e w'=>(∃v',e=.returned v'∧Num u v' x)∧w'=u))
    have hfA:blen RS≤1125899906840000:=by rw [hRS];have:=f8 R 32;omega
    have hfB:blen x≤1125899906840000:=by have:=(blen_le_iff x 32).2 (by omega);omega
    have HAD:=aa (fun (u:World) (va vb':Value) (na:Num u va RS) (nb:Num u vb' x)=>gp va vb' _ _ u na nb hfA hfB)
    have HB:=aa hblk
    have HL:=aa hbl
    rw [←hRS] at HST HRL
    have HRS:=aa hRS
    clear hRS
    have hx18:x<18446744073709551616:=by omega
    have hi1:(0:Int)≤(j:Int):=by omega
    have hi2:(j:Int)<(X.length:Int):=by omega
    have hnew:=World.new_ne wr ⟨b,off+j,none⟩ hck
    clear hval hblk hbl hcell hnr hnw0 hX L1 ex hfA hfB
    go_wp2
    go_region_held3 (fun w'=>w'.cell? ⟨b,off+j,none⟩=some (.int .u64 x)) (go_keep) (first
     | (go_at_call 60;refine (HSH.out _ (by first|exact D0.out|exact bO D0.out (Below.one _ _))).mono ?_;rintro e u1 ⟨⟨v1',rfl,N1⟩,b1⟩;(first | (have BU:=bO D0.out b1) | (have BU:=bO (bO D0.out (Below.one _ _)) b1));(have hkS:=HC.out u1 BU);(try replace N2:=N2.below b1))
     | (go_at_call 30;refine (HNO.out _ _ (by first|exact Arg.one u1 x hx18|exact Arg.one wr.drew x hx18|exact (Arg.one wr.drew x hx18).below b1)).mono ?_;rintro e u2 ⟨⟨v2',rfl,N2⟩,hw⟩;subst hw)
     | (go_at_call 44;refine (HAD.out _ _ _ (by first|exact N1|exact N1.below (Below.one _ _)) N2).mono ?_;rintro e u3 ⟨⟨v3,rfl,N3,nw3⟩,b3⟩;(first | (have B3:=bO BU b3) | (have B3:=bO (bO BU (Below.one _ _)) b3));(have hkS3:=HC.out u3 B3)))
    all_goals
     have N3':=aa N3
     have hsz3:w.heap.size<wr.heap.size:=HB.out.lt
     have NW3:Hid (New (w.heap.size+1) v3):=aa (nw3.mono (by first | (have:=BU.size;omega) | (have:=BU.size;simp;omega)))
     clear nw3 hsz3
     have BW:=aa (HL.out.trans (B3.mono HL.out.size))
     have HB3:=aa (HB.out.kept B3)
     clear N1 N2 b1 b3 BU hkS hkS3 N3 B3 HSH HNO HAD HC D0 HB HL hck hnew HRS hfR hx18 hi2 hi1
     obtain⟨R',hR'⟩:∃R',R'=RS+x:=⟨_,rfl⟩
     rw [←hR'] at N3' HRL HST
     clear hR'
     have HCMP:=fR v3 v2 R' y u3 N3'.out (NY.out.below BW.out)
     have hi1:(0:Int)≤(j:Int):=by omega
     have hi2:(j:Int)<(X.length:Int):=by omega
     by_cases hlt:R'<y
     ·have HST2:=aa (HST.out 0 R' (by omega))
      have hc:cmpN R' y=-1:=cmpN_lt hlt
      rw [hc] at HCMP
      go_wp2_with fail
      refine HCMP.mono ?_
      rintro e u4 ⟨rfl,hs⟩
      have BW4:=aa (BW.out.trans ((hs.below u3.heap.size).mono BW.out.size))
      have HN4:=aa (N3'.out.below (hs.below _))
      have hb4:=HB3.out.kept (hs.below _)
      have hfr:=hb4.free j
      have hco:=hb4.cell j (by omega)
      generalize out.getD j 0=o at *
      have HB4:=aa hb4
      have HLT:=aa hlt
      clear hb4 hs HCMP hc hlt HB3 BW N3' HST HRL
      go_wp2
      go_roundw
      case rel=>exact⟨j,R',out.set j 0,by omega,rfl,HN4.out.store NW3.out,NW3.out,HLT.out,by simp;omega,digs_set hdo _ _ (by omega),HB4.out.set j 0,BW4.out.setCell (Nat.le_refl _) _,HST2.out⟩
      case measure=>simp [intOf]
     ·have hd:decide (cmpN R' y ≥ 0)=true:=by
       unfold cmpN;rw [if_neg hlt];split <;> decide
      have hd2:decide (0≤cmpN R' y)=true:=hd
      have HGE:=aa hlt
      go_wp2_with fail
      refine HCMP.mono ?_
      rintro e u4 ⟨rfl,hs⟩
      generalize cmpN R' y=cc at *
      have BW4:=aa (BW.out.trans ((hs.below u3.heap.size).mono BW.out.size))
      have HN4:=aa (N3'.out.below (hs.below _))
      have HB4:=aa (HB3.out.kept (hs.below _))
      clear hs HCMP hlt HB3 BW N3'
      go_wp2
      go_loopw [6,9,10] (fun r q s wr2=>∃(t Q R2:Nat),t≤32∧s=.int .i64 ((t:Int) - 1)∧q=.int .u64 Q∧Num wr2 r R2∧New (w.heap.size+1) r∧R'=Q*y+R2∧R2<y*2 ^ t∧Q+2 ^ t≤4294967296∧Blk wr2 w.heap.size out∧Below w.heap.size w wr2) (fun _ _ s _=>(intOf s+1).toNat)
      case atStart=>exact⟨32,0,R',Nat.le_refl _,rfl,rfl,HN4.out,NW3.out,by omega,HRL.out,by decide,HB4.out,BW4.out⟩
      case round=>
       obtain⟨t,Q,R2,ht,rfl,rfl,hn2,hnw2,hsum,hR2,hQ,hblk2,hbl2⟩:=hrel
       clear HN4 HB4 BW4 hd hd2
       have HSUM:=aa hsum
       have HR2:=aa hR2
       have HQ:=aa hQ
       have HB5:=aa hblk2
       have HL5:=aa hbl2
       have HN5:=aa hn2
       have NW5:=aa hnw2
       clear hnw2 NW3
       clear hsum hR2 hQ
       by_cases ht0:t=0
       ·subst ht0
        have HST2:=aa (HST.out Q R2 HSUM.out)
        have bQ:Q<4294967296:=by have:=HQ.out;rw [Nat.pow_zero] at this;omega
        have HLT:Hid (R2<y):=aa (by have:=HR2.out;rwa [Nat.pow_zero,Nat.mul_one] at this)
        have hfr:=hblk2.free j
        have hco:=hblk2.cell j (by omega)
        generalize out.getD j 0=o at *
        clear hblk2 hbl2 hn2 HST HRL HSUM HQ HR2
        go_wp2
        go_roundw
        case rel=>exact⟨j,R2,out.set j Q,by omega,rfl,HN5.out.store NW5.out,NW5.out,HLT.out,by simp;omega,digs_set hdo _ _ bQ,HB5.out.set j Q,HL5.out.setCell (Nat.le_refl _) _,HST2.out⟩
        case measure=>simp [intOf]
       ·obtain⟨m,rfl⟩:∃m,t=m+1:=⟨t - 1,by omega⟩
        have em:(((m+1:Nat):Int) - 1)=(m:Int):=by omega
        rw [em]
        have HS:=eo v2 y m wr (NY.out.below hbl2) (by have:=F2.out;omega)
        have hfR2:blen R2≤1125899906840000:=by
         have h1:=eY HR2.out
         have h2:=f8 y (m+1)
         have:=F2.out
         omega
        clear hblk2 hbl2 hn2
        go_wp2_with fail
        refine HS.mono ?_
        rintro e u5 ⟨⟨vx,rfl,Nx⟩,hb5⟩
        have HL6:=aa (HL5.out.trans (hb5.mono HL5.out.size))
        have HB6:=aa (HB5.out.kept hb5)
        have HN6:=aa (HN5.out.below hb5)
        have HCM:=fR u6 vx R2 (y*2 ^ m) u5 HN6.out Nx
        clear HS hb5 HL5 HB5 HN5
        by_cases hge:y*2 ^ m≤R2
        ·have hd:decide (cmpN R2 (y*2 ^ m) ≥ 0)=true:=by
          unfold cmpN;rw [if_neg (by omega)];split <;> decide
         have hd2:decide (0≤cmpN R2 (y*2 ^ m))=true:=hd
         have HSUM2:=aa (jn y R' R2 Q m HSUM.out hge)
         have HR3:=aa (ie y R2 m HR2.out hge)
         have HSB:=fun (u:World) (ha:Num u u6 R2) (hb:Num u vx (y*2 ^ m))=>iE u6 vx R2 (y*2 ^ m) u ha hb hge hfR2
         have HQ2:Hid (Q+2 ^ m+2 ^ m≤4294967296):=aa (by have:=HQ.out;rw [Nat.pow_succ] at this;omega)
         have hP0:0<2 ^ m:=Nat.two_pow_pos m
         have HN7:=aa Nx
         generalize cmpN R2 (y*2 ^ m)=cc at *
         generalize hYm:y*2 ^ m=Y2 at *
         have HYm:=aa hYm
         clear hYm
         go_wp2_with fail
         refine HCM.mono ?_
         rintro e u7 ⟨rfl,hs⟩
         have HL7:=aa (HL6.out.trans ((hs.below u5.heap.size).mono HL6.out.size))
         have HB7:=aa (HB6.out.kept (hs.below _))
         have HS7:=HSB u7 (HN6.out.below (hs.below _)) (HN7.out.below (hs.below _))
         clear HCM hs HL6 HB6 HN6 HN7 Nx HSB
         go_wp2_with fail
         refine HS7.mono ?_
         rintro e u8 ⟨⟨vr,rfl,Nr,nwr⟩,hb8⟩
         have HL8:=aa (HL7.out.trans (hb8.mono HL7.out.size))
         have HB8:=aa (HB7.out.kept hb8)
         have HN8:=aa Nr
         have NW8:Hid (New (w.heap.size+1) vr):=aa (nwr.mono HB7.out.lt)
         clear HS7 hb8 Nr nwr HL7 HB7 hge hd hd2
         obtain⟨P,hP⟩:∃P,P=2 ^ m:=⟨_,rfl⟩
         have HPm:=aa hP
         have eP:(2:Int) ^ m=(P:Int):=by rw [hP];push_cast;rfl
         have bP:Q+P+P≤4294967296:=by rw [hP];exact HQ2.out
         have bP0:0<P:=by rw [hP];exact hP0
         rw [←hP] at HSUM2
         clear hP hP0 HQ2
         have eQ:(Q:Int)+(P:Int)=((Q+P:Nat):Int):=by omega
         generalize Q+P=Q2 at *
         have wP:IntKind.u64.wrap (P:Int)=(P:Int):=by rw [IntKind.wrap_u64];omega
         have wQ:IntKind.u64.wrap (Q2:Int)=(Q2:Int):=by rw [IntKind.wrap_u64];omega
         go_wp2
         go_roundw
         case rel=>
          refine⟨m,Q2,R2 - Y2,by omega,rfl,rfl,HN8.out,NW8.out,HSUM2.out,?_,?_,HB8.out,HL8.out⟩
          ·rw [HYm.out];exact HR3.out
          ·rw [←HPm.out];exact bP
         case measure=>simp [intOf]
        ·have hlt2:R2<y*2 ^ m:=by omega
         have hc:cmpN R2 (y*2 ^ m)=-1:=cmpN_lt hlt2
         rw [hc] at HCM
         have HLT2:=aa hlt2
         have HQ2:Hid (Q+2 ^ m≤4294967296):=aa (by have:=HQ.out;rw [Nat.pow_succ] at this;omega)
         clear hlt2 hc hge Nx
         go_wp2_with fail
         refine HCM.mono ?_
         rintro e u7 ⟨rfl,hs⟩
         have HL7:=aa (HL6.out.trans ((hs.below u5.heap.size).mono HL6.out.size))
         have HB7:=aa (HB6.out.kept (hs.below _))
         have HN7:=aa (HN6.out.below (hs.below _))
         clear HCM hs HL6 HB6 HN6
         go_wp2
         go_roundw
         case rel=>exact⟨m,Q,R2,by omega,rfl,rfl,HN7.out,NW5.out,HSUM.out,HLT2.out,HQ2.out,HB7.out,HL7.out⟩
         case measure=>simp [intOf]

theorem jj (c:Nat)(w:World)(hc:c<9223372036854775808):Calls Tryz.prog 35 #[.int .i64 c] w fun e w'=>(∃v,e=.returned v∧Num w' v c)∧Below w.heap.size w w':=by
 have hA:=Arg.lits w [c] #[.int .u64 (c:Int)] 1 rfl rfl (by intro z hz;simp at hz;omega) (by simp)
 have hb:Below w.heap.size w (w.alloc (.cells #[.int .u64 (c:Int)] 63)):=(Below.refl _ _).alloc (Nat.le_refl _) _
 have HO:=cX _ [c] _ hA (by simp)
 rw [show val [c]=c by simp [val]] at HO
 have HB:=aa hb
 clear hA hb
 go_enter Tryz.func35,Tryz.ntmps35
 go_wp2_with fail
 refine HO.mono ?_
 rintro e w2 ⟨⟨v,rfl,N⟩,hb2⟩
 have HX:=aa (And.intro N (HB.out.trans (hb2.mono HB.out.size)))
 clear N hb2 HO
 go_wp2
 go_ret
 exact⟨⟨v,rfl,HX.out.1⟩,HX.out.2⟩

def iv5 (z:Nat):Value:=.int .i64 (z:Int)

def IL5 (w:World)(base:Nat)(v:Value)(L:List Nat):Prop:=w.ownsRow base 3 1 v L.length (L.map iv5)

theorem iH:(Tryz.prog.info? 3).map (fun i=>(i.zero,i.size,i.bytes))=some (some (.int .i64 0),1,8):=by kernel_rfl

theorem IL5.below {w w':World}{base:Nat}{v:Value}{L:List Nat}(h:IL5 w base v L)(hb:Below w.heap.size w w'):IL5 w' base v L:=fF h hb

theorem IL5.cells {w:World}{base:Nat}{a:Option Addr}{n c:Nat}{L:List Nat}(h:IL5 w base (.slice a n c) L)(hL:0<L.length):n=L.length∧∃g,a=some ⟨g,0,none⟩∧g<w.heap.size∧n≤c∧c≤9223372036854775807∧∀i,i<L.length→w.cell? ⟨g,i,none⟩=some (.int .i64 ((L.getD i 0:Nat):Int)):=by
 obtain⟨h1,h2⟩:=h
 rcases h2 with ⟨h2,h3⟩|⟨g,cap,cur,hv,hge,hh,hle,hml,hsz,htk⟩
 ·omega
 ·cases hv
  refine⟨rfl,g,rfl,lt_of_block hh,hle,by have:maxLen=9223372036854775807:=rfl;omega,fun i hi=>?_⟩
  have e:(L.map iv5)[i]?=cur.toList[i]?:=by rw [←htk,List.getElem?_take,if_pos (by omega)]
  have e2:w.cell? ⟨g,i,none⟩=(L.map iv5)[i]?:=by rw [e];simp [World.cell?,hh]
  rw [e2,List.getElem?_map,List.getElem?_eq_getElem hi]
  simp [iv5,List.getD,hi]

def aP (b:Nat):Nat→Nat→List Nat
 | 0,_=>[]
 | k+1,x=>aP b k x ++ [x / b ^ k % b]

theorem bN (b k x:Nat):(aP b k x).length=k:=by
 induction k with
 | zero=>rfl
 | succ k ih=>simp [aP,ih]

theorem ml (b k x:Nat):∀i,i<k→(aP b k x).getD i 0=x / b ^ i % b:=by
 induction k with
 | zero=>intro i h;omega
 | succ k ih=>
  intro i h
  simp only [aP,List.getD,List.getElem?_append,bN]
  by_cases hi:i<k
  ·rw [if_pos hi];exact ih i hi
  ·obtain rfl:i=k:=by omega
   rw [if_neg hi];simp

theorem fw (b k x j:Nat)(h:j<k):(digs b k x).take (j+1)=(digs b k x).take j ++ [x / b ^ (k - 1 - j) % b]:=by
 have hl:j<(digs b k x).length:=by rw [aI];exact h
 rw [List.take_succ_eq_append_getElem hl]
 have e:(digs b k x)[j]=(digs b k x).getD j 0:=by simp [List.getD,hl]
 rw [e,dh b k x j h]

theorem Num.grown5 {w w':World}{v:Value}{x B:Nat}{row:Option Nat}(h:Num w v x)(hg:w.grownBy w' row)(hn:New B v)(hr:∀g,row=some g→g<B):Num w' v x:=by
 obtain⟨ds,hA,h2⟩:=h
 refine⟨ds,?_,h2⟩
 obtain⟨ao,cap,e1,e2,e3,e4⟩:=hA.form
 refine⟨⟨ao,cap,e1,e2,e3,?_⟩,hA.limbs,hA.few,hA.nz⟩
 rcases e4 with e4|⟨b,off,rfl,hc⟩
 ·exact .inl e4
 ·refine .inr ⟨b,off,rfl,fun k hk=>?_⟩
  have hck:=hc k hk
  have hbl:b<w.heap.size:=by
   rcases Nat.lt_or_ge b w.heap.size with h' | h'
   ·exact h'
   ·simp [World.cell?,Array.getElem?_eq_none h'] at hck
  rw [World.cell?_of_block (a:=⟨b,off+k,none⟩) (hg.block b hbl (fun e=>by have h1:=hr b e.symm;have h3:=hn b off _ _ e1;omega))]
  exact hck

theorem Num.digit {w:World}{v:Value}{d:Nat}(h:Num w v d)(hd:d<4294967296):∃a n c,v=.slice a n c∧((d=0∧n=0)∨(0<d∧n=1∧1≤c∧∃b off,a=some ⟨b,off,none⟩∧w.cell? ⟨b,off,none⟩=some (.int .u64 (d:Int)))):=by
 obtain⟨ds,hA,hD,ht,hv,_⟩:=h
 obtain⟨a,c,rfl,hle,_,hl⟩:=hA.form
 refine⟨a,ds.length,c,rfl,?_⟩
 match ds,hl,hD,ht,hv with
 | [],_,_,_,hv=>exact .inl ⟨by simpa [vb] using hv.symm,rfl⟩
 | [z],hl,hD,ht,hv=>
  have hz:z=d:=by simpa [vb] using hv
  subst hz
  have hz0:0<z:=by
   rcases Nat.eq_zero_or_pos z with h|h
   ·subst h;simp [tr] at ht
   ·exact h
  rcases hl with hl|⟨b,off,rfl,hc⟩
  ·cases hl
  ·have:=hc 0 (by simp)
   exact .inr ⟨hz0,rfl,hle,b,off,rfl,by simpa using this⟩
 | z :: y :: l,hl,hD,ht,hv=>
  exfalso
  have h:=ch hD ht 1 ((blen_le_iff _ _).2 (by rw [hv];exact hd))
  simp at h

def dt:Value→Nat
 | .slice _ n _=>n
 | _=>0

def ma (b x:Nat)(w:World)(e:Ending)(w':World):Prop:=
 (∃a n c,e=.returned (.tuple #[.slice a n c,.int .i64 0])∧IL5 w' w.heap.size (.slice a n c) (digs b n x)∧aq b x n)∧Below w.heap.size w w'

theorem lS (v:Value)(x b:Nat)(w:World)(h:Num w v x)(hb:2≤b)(hb2:b≤36)(hx:blen x≤67108864) :
  Calls Tryz.prog 15 #[v,.int .i64 b] w (ma b x w):=by
 obtain⟨i0,hi,hz0,hz1,hz2⟩:=info_parts iH
 have C0:=jj b w (by omega)
 have i1:¬((b:Int)<2):=by omega
 have i2:¬((36:Int)<(b:Int)):=by omega
 have HN:=aa h
 have HX:=aa hx
 clear h hx
 go_enter Tryz.func15,Tryz.ntmps15
 go_wp2_with fail
 refine C0.mono ?_
 rintro e w1 ⟨⟨vb',rfl,hNb⟩,hb1⟩
 have HNB:=aa hNb
 have HB1:=aa hb1
 have HN1:=aa (HN.out.below hb1)
 clear C0 hNb hb1
 go_wp2
 go_loopw [0,7] (fun u l wr=>∃(k:Nat) (va:Value) (a7:Option Addr) (c7:Nat),u=va∧l=.slice a7 k c7∧Num wr va (x / b ^ k)∧IL5 wr w1.heap.size (.slice a7 k c7) (aP b k x)∧(k=0∨b ^ (k - 1)≤x)∧k≤67108864∧Below w1.heap.size w1 wr) (fun _ l _=>67108865 - dt l)
 case atStart=>exact⟨0,v,none,0,rfl,rfl,by rw [Nat.pow_zero,Nat.div_one];exact HN1.out,World.ownsRow_nil _ _ _ _,.inl rfl,Nat.zero_le _,Below.refl _ _⟩
 case round=>
  obtain⟨k,va,a7,c7,rfl,rfl,hNu,hIL,hk0,hkb,hbr⟩:=hrel
  have HBR:=aa hbr
  have Z:=gB _ _ wr hNu
  clear hbr HN1
  by_cases hz:x / b ^ k=0
  ·rw [hz] at Z
   have hxk:x<b ^ k:=by
    rcases Nat.lt_or_ge x (b ^ k) with h|h
    ·exact h
    ·have:=Nat.div_pos h (Nat.pow_pos (by omega));omega
   by_cases hk:k=0
   ·subst hk
    have hx0:x=0:=by rw [Nat.pow_zero] at hxk;omega
    obtain⟨w4,hw4⟩:∃W,wr.alloc (.cells #[.int .i64 0] 3)=W:=⟨_,rfl⟩
    have hb4:Below wr.heap.size wr w4:=by rw [←hw4];exact ac _ _
    have hbw:Below w.heap.size w wr:=HB1.out.trans (HBR.out.mono HB1.out.size)
    have HI:Hid (IL5 w4 w.heap.size (.slice (some ⟨wr.heap.size,0,none⟩) 1 1) (digs b 1 x)):=aa (by
     rw [hx0]
     refine⟨by simp [digs],.inr ⟨wr.heap.size,1,#[.int .i64 0],rfl,hbw.size,by rw [←hw4];exact heap_alloc_new ..,Nat.le_refl _,by unfold maxLen;omega,rfl,by simp [digs,iv5]⟩⟩)
    have HB4:=aa (hbw.trans (hb4.mono hbw.size))
    have HH:Hid (aq b x 1):=aa ⟨Nat.le_refl _,by rw [hx0,Nat.pow_one];omega,.inl rfl⟩
    clear hIL hNu hxk hx0 hb4 hbw
    go_wp2_with fail
    refine Z.mono ?_
    rintro e wn ⟨rfl,hw⟩;rw [hw];clear hw wn Z
    go_wp2
    go_ret2
    exact⟨⟨_,1,1,rfl,HI.out,HH.out⟩,HB4.out⟩
   ·have HH:Hid (aq b x k):=aa ⟨by omega,hxk,.inr (hk0.resolve_left hk)⟩
    obtain⟨hq9,g,ha7,hg7,hkc,hcm,hcells⟩:=hIL.cells (by rw [bN];omega)
    subst ha7
    rw [bN] at hcells
    clear hq9
    have HC:=aa hcells
    have hkz:((k:Int) == 0)=false:=by rw [beq_eq_false_iff_ne];omega
    clear hIL hNu hxk hcells hz
    go_wp2_with fail
    refine Z.mono ?_
    rintro e wn ⟨rfl,hw⟩;rw [hw];clear hw wn Z
    go_wp2
    rename World=>wo
    go_loopw [10,11] (fun o i w2=>∃(j:Nat) (ao:Option Addr) (co:Nat),o=.slice ao j co∧i=.int .i64 ((k:Int) - (j:Int) - 1)∧j≤k∧w2.ownsRow wo.heap.size 3 1 (.slice ao j co) j (((digs b k x).take j).map iv5)∧Below wo.heap.size wo w2) (fun _ i _=>(intOf i+1).toNat)
    case atStart=>exact⟨0,none,0,rfl,by simp,Nat.zero_le _,World.ownsRow_nil _ _ _ _,Below.refl _ _⟩
    case round=>
     obtain⟨j,ao,co,rfl,rfl,hj,hown,hb2'⟩:=hrel
     have HB2:=aa hb2'
     by_cases hjk:j=k
     ·subst hjk
      have HI:Hid (IL5 wr w.heap.size (.slice ao j co) (digs b j x)):=aa (by
       have h:=hown
       rw [show (digs b j x).take j=digs b j x from List.take_of_length_le (by rw [aI];exact Nat.le_refl _)] at h
       obtain⟨q1,q2⟩:=h
       refine⟨by rw [aI];exact q1,?_⟩
       rcases q2 with ⟨_,q2⟩|⟨g',cap,cur,e1,e2,q⟩
       ·omega
       ·rw [aI]
        exact .inr ⟨g',cap,cur,e1,Nat.le_trans (Nat.le_trans HB1.out.size HBR.out.size) e2,q⟩)
      have HBE:=aa (HB1.out.trans ((HBR.out.trans (HB2.out.mono HBR.out.size)).mono HB1.out.size))
      have ej:(j:Int) - (j:Int) - 1=-1:=by omega
      rw [ej]
      clear hown hb2'
      go_wp2
      go_ret2
      exact⟨⟨_,_,_,rfl,HI.out,HH.out⟩,HBE.out⟩
     ·obtain⟨i,hi9,hii⟩:∃i:Nat,i+j+1=k∧(k:Int) - (j:Int) - 1=(i:Int):=⟨k - j - 1,by omega,by omega⟩
      rw [hii]
      have hc:=HC.out i (by omega)
      rw [ml b k x i (by omega)] at hc
      have hc2:wr.cell? ⟨g,i,none⟩=some (.int .i64 ((x / b ^ i % b:Nat):Int)):=by rw [HB2.out.cell (p:=⟨g,i,none⟩) hg7];exact hc
      have HDT:Hid (((digs b k x).take (j+1)).map iv5=((digs b k x).take j).map iv5 ++ [.int .i64 ((x / b ^ i % b:Nat):Int)]):=aa (by
       rw [fw b k x j (by omega),List.map_append,show k - 1 - j=i by omega]
       rfl)
      generalize x / b ^ i % b=d at *
      have hik:i<k:=by omega
      have hgg:=cm hown
      have HGG:=aa hgg
      have HOW:=aa hown
      have hsz:=hb2'.size
      clear hown hb2' hc hgg
      go_wp2_with (at_builtin;refine wpList_append_own _ rfl _ _ 33 rfl wo.heap.size 3 i0 (.int .i64 0) 1 8 Tryz.underlying33 hi hz0 hz1 hz2 rfl (by decide) (.slice ao j co) j (((digs b k x).take j).map iv5) rfl (HOW.out.alloc _) ⟨wr.heap.size,0,none⟩ 1 1 [.int .i64 (d:Int)] rfl rfl (cg [.int .i64 (d:Int)] 3) (by intro u hu;simp at hu;subst hu;rfl) (by unfold maxLen;omega) (by omega) (by simp;omega) ?_;intro v' w' hown hgrow _)
      have HB9:Hid (Below wo.heap.size wo w'):=aa ((HB2.out.alloc hsz _).grown hgrow (by simp;omega) HGG.out)
      have HO9:Hid (w'.ownsRow wo.heap.size 3 1 v' (j+1) (((digs b k x).take (j+1)).map iv5)):=aa (by rw [HDT.out];exact hown)
      obtain⟨a9,c9,he9⟩:∃a9 c9,v'=.slice a9 (j+1) c9:=by
       rcases HO9.out.2 with ⟨h1,h2⟩|⟨g,cap,cur,h1,_⟩
       ·omega
       ·exact⟨_,_,h1⟩
      subst he9
      clear hown hgrow HOW HDT hc2
      go_wp2
      go_roundw
      case rel=>exact⟨j+1,a9,c9,rfl,by congr 1;omega,by omega,HO9.out,HB9.out⟩
      case measure=>simp [intOf]
  ·have hkx:b ^ k≤x:=by
    rcases Nat.lt_or_ge x (b ^ k) with h|h
    ·exact absurd (Nat.div_eq_of_lt h) hz
    ·exact h
   have hkl:k<67108864:=by
    have h4:2 ^ k≤x:=Nat.le_trans (Nat.pow_le_pow_left hb _) hkx
    have h5:x<2 ^ blen x:=(blen_le_iff _ _).1 (Nat.le_refl _)
    have h6:=(Nat.pow_lt_pow_iff_right (by omega:1<2)).1 (Nat.lt_of_le_of_lt h4 h5)
    have:=HX.out
    omega
   rw [show (x / b ^ k == 0)=false by rw [beq_eq_false_iff_ne];exact hz] at Z
   have hbq9:blen (x / b ^ k)≤67108864:=Nat.le_trans (df (Nat.div_le_self _ _)) HX.out
   have hbb:blen b≤64:=(blen_le_iff _ _).2 (by omega)
   have D:=i9 _ vb' (x / b ^ k) b wr hNu (HNB.out.below HBR.out) (by omega) (by omega) (by omega)
   rw [Nat.div_div_eq_div_mul,←Nat.pow_succ] at D
   obtain⟨d,hd⟩:∃d,x / b ^ k % b=d:=⟨_,rfl⟩
   have hd36:d<36:=by rw [←hd];exact Nat.lt_of_lt_of_le (Nat.mod_lt _ (by omega)) hb2
   rw [hd] at D
   have HDV:=aa hd
   have HKX:=aa hkx
   clear hz hkx hd hbq9 hbb hNu
   go_wp2_with fail
   refine Z.mono ?_
   rintro e wn ⟨rfl,hw⟩;rw [hw];clear hw wn Z
   go_wp2_with fail
   refine D.mono ?_
   rintro e w3 ⟨⟨vq,vr,rfl,nq,nr,nw,_⟩,hbq⟩
   obtain⟨ar,n,cr,rfl,hcase⟩:=nr.digit (by omega)
   have hbz:Below w3.heap.size w3 w3:=Below.refl _ _
   rcases hcase with ⟨hd0,rfl⟩|⟨hd0,rfl,hcr,bb,off,rfl,hcell⟩
   ·subst hd0
    clear D nr
    have hPO:=aa (hIL.below hbq)
    have hgl:=bV hIL
    have hgg:=cm hIL
    have hnq:=nq.below hbz
    have hQB:w1.heap.size≤w3.heap.size:=Nat.le_trans HBR.out.size hbq.size
    have HST:=aa (fun (w':World) (row:Option Nat) (hrow:row=(Value.slice a7 k c7).ownBlock) (hg:(w3.alloc (.cells #[.int .i64 0] 3)).grownBy w' row)=>(hnq.below (ac w3 (.cells #[.int .i64 0] 3))).grown5 hg nw (fun g e=>by rw [hrow] at e;exact hgl g e))
    have HBQ:=aa (HBR.out.trans (hbq.mono HBR.out.size))
    have HGG:=aa hgg
    clear hIL hgl hgg nq hnq hbq hbz nw
    go_wp2_with (at_builtin;refine wpList_append_own _ rfl _ _ 33 rfl w1.heap.size 3 i0 (.int .i64 0) 1 8 Tryz.underlying33 hi hz0 hz1 hz2 rfl (by decide) (.slice a7 k c7) k ((aP b k x).map iv5) rfl (by have h:=hPO.out;unfold IL5 at h;rw [bN] at h;exact h.alloc _) ⟨w3.heap.size,0,none⟩ 1 1 [.int .i64 0] rfl rfl (cg [.int .i64 0] 3) (by intro u hu;simp at hu;subst hu;rfl) (by unfold maxLen;omega) (by omega) (by simp;omega) ?_;intro v' w' hown hgrow _)
    have HN9:=aa (HST.out w' _ rfl hgrow)
    have HB9:Hid (Below w1.heap.size w1 w'):=aa ((HBQ.out.alloc hQB _).grown hgrow (by simp;omega) HGG.out)
    have HO9:Hid (w'.ownsRow w1.heap.size 3 1 v' (k+1) ((aP b (k+1) x).map iv5)):=aa (by
     rw [aP,List.map_append,HDV.out]
     exact hown)
    clear hown hgrow HST hPO
    obtain⟨a9,c9,he9⟩:∃a9 c9,v'=.slice a9 (k+1) c9:=by
     rcases HO9.out.2 with ⟨h1,h2⟩|⟨g,cap,cur,h1,_⟩
     ·omega
     ·exact⟨_,_,h1⟩
    subst he9
    go_wp2
    go_roundw
    case rel=>exact⟨k+1,_,a9,c9,rfl,rfl,HN9.out,by unfold IL5;rw [bN];exact HO9.out,.inr (by rw [Nat.add_sub_cancel];exact HKX.out),by omega,HB9.out⟩
    case measure=>simp [dt];omega
   ·clear D nr
    have hPO:=aa (hIL.below hbq)
    have hgl:=bV hIL
    have hgg:=cm hIL
    have hnq:=nq.below hbz
    have hQB:w1.heap.size≤w3.heap.size:=Nat.le_trans HBR.out.size hbq.size
    have HST:=aa (fun (w':World) (row:Option Nat) (hrow:row=(Value.slice a7 k c7).ownBlock) (hg:(w3.alloc (.cells #[.int .i64 (d:Int)] 3)).grownBy w' row)=>(hnq.below (ac w3 (.cells #[.int .i64 (d:Int)] 3))).grown5 hg nw (fun g e=>by rw [hrow] at e;exact hgl g e))
    have HBQ:=aa (HBR.out.trans (hbq.mono HBR.out.size))
    have HGG:=aa hgg
    clear hIL hgl hgg nq hnq hbq hbz nw
    go_wp2_with (at_builtin;refine wpList_append_own _ rfl _ _ 33 rfl w1.heap.size 3 i0 (.int .i64 0) 1 8 Tryz.underlying33 hi hz0 hz1 hz2 rfl (by decide) (.slice a7 k c7) k ((aP b k x).map iv5) rfl (by have h:=hPO.out;unfold IL5 at h;rw [bN] at h;exact h.alloc _) ⟨w3.heap.size,0,none⟩ 1 1 [.int .i64 (d:Int)] rfl rfl (cg [.int .i64 (d:Int)] 3) (by intro u hu;simp at hu;subst hu;rfl) (by unfold maxLen;omega) (by omega) (by simp;omega) ?_;intro v' w' hown hgrow _)
    have HN9:=aa (HST.out w' _ rfl hgrow)
    have HB9:Hid (Below w1.heap.size w1 w'):=aa ((HBQ.out.alloc hQB _).grown hgrow (by simp;omega) HGG.out)
    have HO9:Hid (w'.ownsRow w1.heap.size 3 1 v' (k+1) ((aP b (k+1) x).map iv5)):=aa (by
     rw [aP,List.map_append,HDV.out]
     exact hown)
    clear hown hgrow HST hPO
    obtain⟨a9,c9,he9⟩:∃a9 c9,v'=.slice a9 (k+1) c9:=by
     rcases HO9.out.2 with ⟨h1,h2⟩|⟨g,cap,cur,h1,_⟩
     ·omega
     ·exact⟨_,_,h1⟩
    subst he9
    go_wp2
    go_roundw
    case rel=>exact⟨k+1,_,a9,c9,rfl,rfl,HN9.out,by unfold IL5;rw [bN];exact HO9.out,.inr (by rw [Nat.add_sub_cancel];exact HKX.out),by omega,HB9.out⟩
    case measure=>simp [dt];omega

def SG5:ByteArray:=ByteArray.mk #[48,49,50,51,52,53,54,55,56,57,97,98,99,100,101,102,103,104,105,106,107,108,109,110,111,112,113,114,115,116,117,118,119,120,121,122]

theorem kK:∀d:Fin 36,(SG5.extract d.1 (d.1+1)).data.toList=[sgn d.1]:=by decide +kernel

theorem jD (L:List Nat)(d:Nat)(o:ByteArray)(h:o.data.toList=[sgn d]):an (L.map fig) ++ o=an ((L ++ [d]).map fig):=by
 apply ByteArray.ext
 apply Array.toList_inj.1
 rw [ByteArray.data_append,Array.toList_append,dF,dF,h]
 simp

theorem dM (L:List Nat):(an (L.map fig)).size=L.length:=by
 have h:(an (L.map fig)).data.toList.length=L.length:=by rw [dF,List.length_map]
 exact h

def RPr (b x:Nat)(w:World)(e:Ending)(w':World):Prop:=
 ∃n,e=.returned (.tuple #[.string (an ((digs b n x).map fig)),.int .i64 0])∧aq b x n∧Below w.heap.size w w'

theorem fI (v:Value)(x b:Nat)(w:World)(h:Num w v x)(hb:2≤b)(hb2:b≤36)(hx:blen x≤67108864) :
  Calls Tryz.prog 14 #[v,.int .i64 b] w (RPr b x w):=by
 have C:=lS v x b w h hb hb2 hx
 clear h
 go_enter Tryz.func14,Tryz.ntmps14
 go_wp2_with fail
 refine C.mono ?_
 rintro e w1 ⟨⟨a,n,c,rfl,hI,hH⟩,hb1⟩
 have hn1:1≤n:=hH.1
 have hnb:n≤67108865:=by
  rcases hH.2.2 with h3|h3
  ·omega
  ·have h4:2 ^ (n - 1)≤x:=Nat.le_trans (Nat.pow_le_pow_left hb _) h3
   have h5:x<2 ^ blen x:=(blen_le_iff _ _).1 (Nat.le_refl _)
   have h6:=(Nat.pow_lt_pow_iff_right (by omega:1<2)).1 (Nat.lt_of_le_of_lt h4 h5)
   omega
 obtain⟨hq9,g,ha,hg,hnc,hcm,hcells⟩:=hI.cells (by rw [aI];omega)
 subst ha
 rw [aI] at hcells
 have HC:=aa hcells
 have HH:=aa hH
 have HB1:=aa hb1
 clear C hI hH hb1 hq9 hcells
 go_wp2
 go_loopw [8,19] (fun sv i wr=>∃(j:Nat) (S:ByteArray),sv=.string S∧i=.int .i64 j∧j≤n∧S=an (((digs b n x).take j).map fig)∧Below w1.heap.size w1 wr) (fun _ i _=>n - (intOf i).toNat)
 case atStart=>exact⟨0,_,rfl,rfl,Nat.zero_le _,rfl,Below.refl _ _⟩
 case round=>
  obtain⟨j,S,rfl,rfl,hj,hS,hbr⟩:=hrel
  by_cases hjn:j<n
  ·have hc:=HC.out j hjn
   rw [dh b n x j hjn,←hbr.cell (p:=⟨g,j,none⟩) hg] at hc
   have HT:=fw b n x j hjn
   obtain⟨d,hd⟩:∃d,x / b ^ (n - 1 - j) % b=d:=⟨_,rfl⟩
   have hd36:d<36:=by rw [←hd];exact Nat.lt_of_lt_of_le (Nat.mod_lt _ (by omega)) hb2
   rw [hd] at hc HT
   obtain⟨d1,hd1,hd1n⟩:∃d1:Nat,(d:Int)+1=(d1:Int)∧d1=d+1:=⟨d+1,by omega,rfl⟩
   obtain⟨ONE,hone⟩:∃o,(ByteArray.mk #[48,49,50,51,52,53,54,55,56,57,97,98,99,100,101,102,103,104,105,106,107,108,109,110,111,112,113,114,115,116,117,118,119,120,121,122]).extract d d1=o:=⟨_,rfl⟩
   have hol:ONE.data.toList=[sgn d]:=by rw [←hone,hd1n];exact kK ⟨d,hd36⟩
   have hos:ONE.size=1:=by
    have h:ONE.data.toList.length=1:=by rw [hol];rfl
    exact h
   have hSs:S.size=j:=by rw [hS,dM,List.length_take,aI];omega
   have hSn:=jD ((digs b n x).take j) d ONE hol
   rw [←HT,←hS] at hSn
   obtain⟨S2,hS2⟩:∃S2,S ++ ONE=S2:=⟨_,rfl⟩
   have HS2:Hid (S2=an (((digs b n x).take (j+1)).map fig)):=aa (by rw [←hS2];exact hSn)
   have hd1b:d1≤36:=by omega
   have hdd:d≤d1:=by omega
   have HBR:=aa hbr
   clear hbr hS HT hd hol hSn hd1n
   go_wp2
   go_roundw
   case rel=>exact⟨j+1,S2,rfl,by go_num,by omega,HS2.out,HBR.out⟩
   case measure=>simp [intOf];omega
  ·obtain rfl:j=n:=by omega
   have HS:Hid (S=an ((digs b j x).map fig)):=aa (by rw [hS,List.take_of_length_le (by rw [aI];exact Nat.le_refl _)])
   have HBE:=aa (HB1.out.trans (hbr.mono HB1.out.size))
   clear hS hbr
   go_wp2
   go_ret2
   exact⟨j,by rw [←HS.out];rfl,HH.out,HBE.out⟩

theorem jt (b n:Nat)(w:World)(hT:Tab w)(hb:2≤b)(hb2:b≤36)(hn:n≤1125899906842624) :
  Calls Tryz.prog 51 #[.int .i64 b,.int .i64 n] w fun e w'=>(∃v,e=.returned v∧be w' v b n)∧Below w.heap.size w w':=by
 obtain⟨t,htl,ht5⟩:=fy b hb hb2
 obtain⟨F,hF⟩:∃F,b / 2 ^ t=F:=⟨_,rfl⟩
 have hbF:b=2 ^ t*F:=by rw [←hF];exact (Nat.mul_div_cancel' (Nat.dvd_of_mod_eq_zero htl.1)).symm
 have hF1:1≤F:=by
  rcases Nat.eq_zero_or_pos F with h|h
  ·rw [h] at hbF;omega
  ·exact h
 have hF2:F≤36:=by rw [←hF];exact Nat.le_trans (Nat.div_le_self _ _) hb2
 have HLN:=fun W=>Tryz.bits_Len (F:Int) W (by omega) (by omega)
 simp only [Int.toNat_natCast] at HLN
 obtain⟨K,hK⟩:∃K,Lib.bitLen F=K:=⟨_,rfl⟩
 have hKF:F<2 ^ K:=by rw [←hK];exact (Lib.bitLenAux_bounds 64 F (by omega) (by omega)).2.2
 have hK6:K≤6:=by rw [←hK];exact Lib.bitLen_le F 6 (by omega) (by omega)
 have hK1:1≤K:=by
  rcases Nat.eq_zero_or_pos K with h|h
  ·rw [h] at hKF;omega
  ·exact h
 rw [hK] at HLN
 obtain⟨i0,hi,hz0,hz1,hz2⟩:=info_parts my
 have HT:=aa hT
 have HBF:=aa hbF
 have HKF:=aa hKF
 have HTL:=aa htl
 have HLN2:=aa HLN
 have hsh:(b:Int) / 2 ^ t=(F:Int):=by rw [←hF];simp
 have t64:t<64:=by omega
 obtain⟨Q,hQ,hQK⟩:∃Q:Nat,(67108864:Int).tdiv (K:Int)=(Q:Int)∧Q*K≤67108864:=⟨67108864 / K,by rfl,Nat.div_mul_le_self _ _⟩
 have HQK:=aa hQK
 have kz:((K:Int) == 0)=false:=by rw [beq_eq_false_iff_ne];omega
 have hQ67:Q≤67108864:=Nat.le_trans (Nat.le_mul_of_pos_right _ (by omega)) hQK
 clear hbF hKF htl hT hF hK hQK HLN
 go_enter Tryz.func51,Tryz.ntmps51
 go_wp2
 go_loopw [5] (fun i wr=>∃k:Nat,i=.int .i64 k∧k≤n∧(1≤n→1≤k)∧Below w.heap.size w wr) (fun i _=>(intOf i).toNat)
 case atStart=>exact⟨n,rfl,Nat.le_refl _,fun h=>h,Below.refl _ _⟩
 case round=>
  obtain⟨k,rfl,hk,hk1,hbr⟩:=hrel
  by_cases hk10:1024<k
  ·have i1:(1024:Int)<(k:Int):=by omega
   obtain⟨k9,hk9⟩:∃k9:Nat,(k:Int)+1=(k9:Int):=⟨k+1,by omega⟩
   obtain⟨q,hq,hq2⟩:∃q:Nat,((k9:Nat):Int).tdiv 2=(q:Int)∧q=k9 / 2:=⟨k9 / 2,rfl,rfl⟩
   have hql:q<k∧1≤q:=by omega
   have HBR:=aa hbr
   have HQ2:=aa hq2
   have HK1:=aa hk1
   clear hbr hk1 hq2
   go_wp2
   go_roundw
   case rel=>exact⟨q,rfl,by omega,fun _=>by omega,HBR.out⟩
   case measure=>simp [intOf];omega
  ·have i1:¬(1024:Int)<(k:Int):=by omega
   obtain⟨k4,hk4⟩:∃k4:Nat,(k:Int)+64=(k4:Int):=⟨k+64,by omega⟩
   obtain⟨k3,hk3⟩:∃k3:Nat,(k4:Int) - 1=(k3:Int):=⟨k4 - 1,by omega⟩
   obtain⟨q,hq,hq2⟩:∃q:Nat,((k3:Nat):Int).tdiv 64=(q:Int)∧q=k3 / 64:=⟨k3 / 64,rfl,rfl⟩
   obtain⟨W0,hW0⟩:∃W0:Nat,(q:Int)*64=(W0:Int):=⟨q*64,by omega⟩
   have hqb:q≤16:=by omega
   have hWb:W0≤1024:=by omega
   have hW9:W0≤2000∧(1≤n→64≤W0)∧W0 % 64=0:=by omega
   have T1:=tzb b t wr hb2 HTL.out (HT.out.below hbr)
   have L1:=HLN2.out wr
   obtain⟨mo,hmo,hmo1,hmo2⟩:∃mo:Int,min ((n:Int) - 1) (Q:Int)=mo∧mo≤(n:Int) - 1∧mo≤Q:=⟨_,rfl,by omega,by omega⟩
   have HBR:=aa hbr
   have HW9:=aa hW9
   clear hbr hk1 hW9 hq2
   go_wp2_with fail
   refine T1.mono ?_
   rintro e wn ⟨rfl,hw⟩;rw [hw];clear hw wn T1
   go_wp2_with fail
   refine L1.mono ?_
   rintro e wn ⟨rfl,hw⟩;rw [hw];clear hw wn L1
   go_wp2
   go_loopw [9,10] (fun v i wr=>∃(l:List (Nat × Value × Nat)) (W:Nat) (av:Option Addr) (cv:Nat),v=.slice av l.length cv∧i=.int .i64 W∧PSt w.heap.size F t n wr (.slice av l.length cv) l∧W % 64=0∧(1≤n→64≤W)∧W≤134217728∧l.length≤W∧(l=[]∨∃l0 d ol s0,l=l0 ++ [(d,ol,s0)]∧W=2*d)∧Below w.heap.size w wr) (fun _ i _=>134217729 - (intOf i).toNat)
   case atStart=>exact⟨[],W0,none,0,rfl,rfl,⟨World.ownsRow_nil _ _ _ _,fun p hp=>by cases hp⟩,HW9.out.2.2,HW9.out.2.1,by have:=HW9.out.1;omega,Nat.zero_le _,.inl rfl,HBR.out⟩
   case round=>
    obtain⟨l,W,av,cv,rfl,rfl,hP,hW64,hW1,hW2,hlW,hlast,hbr2⟩:=hrel
    have HBR2:=aa hbr2
    clear hbr2 HBR HW9 hk4 hk3 hq hW0
    by_cases hWm:(W:Int)≤mo
    ·have hn1:1≤n:=by omega
     have hW3:=hW1 hn1
     have hWQ:W≤Q:=by omega
     have hbl:blen (F ^ W)≤67108864:=by
      have h1:F ^ W<2 ^ (K*W):=by rw [Nat.pow_mul];exact Nat.pow_lt_pow_left HKF.out (by omega)
      have h2:=(blen_le_iff _ _).2 h1
      have h3:K*W≤K*Q:=Nat.mul_le_mul_left _ hWQ
      have h4:=HQK.out
      rw [Nat.mul_comm] at h4
      omega
     obtain⟨m9,hm9⟩:∃m9,W=64*m9:=⟨W / 64,by omega⟩
     obtain⟨s,hs⟩:∃s,64*s=t*W:=⟨t*m9,by rw [hm9,Nat.mul_left_comm]⟩
     clear hm9
     have hsb:t*W≤5*W:=Nat.mul_le_mul_right _ ht5
     obtain⟨TW,hTW,hTW2⟩:∃TW:Nat,(t:Int)*(W:Int)=(TW:Int)∧TW=t*W:=⟨t*W,by simp,rfl⟩
     have hTs:(TW:Int).tdiv 64=(s:Int):=by rw [hTW2,←hs];show ((64*s / 64:Nat):Int)=_;rw [Nat.mul_div_cancel_left _ (by omega)]
     have hTW5:TW≤671088640:=by omega
     obtain⟨W2,hW2i⟩:∃W2:Nat,(W:Int)*2=(W2:Int):=⟨W*2,by omega⟩
     have hs9:s≤671088640:=by omega
     clear hTW2
     rcases hlast with hl0|⟨l0,d,ol,s0,hl0,hd⟩
     ·have hlz:((l.length:Int) == 0)=true:=by rw [hl0];rfl
      clear hl0
      have C1:=cu F wr (by omega)
      go_wp2_with fail
      refine C1.mono ?_
      rintro e w1 ⟨⟨v1,rfl,A1⟩,hb1⟩
      have hl1:(tr [F]).length≤1:=tr_length_le [F]
      have C2:=dk v1 (tr [F]) W w1 (A1.arg (by omega)) ((HT.out.below HBR2.out).below hb1) (by omega) (by omega)
      rw [show val (tr [F])=F by rw [val_tr];simp [val]] at C2
      clear C1 A1
      go_wp2_with fail
      refine C2.mono ?_
      rintro e w2 ⟨hb2,vo,c,O,rfl,AO,hcase⟩
      rcases hcase with ⟨rfl,hvO,hno,_⟩|⟨_,_,hbad⟩
      ·have hbq:=bt5 hb1 hb2
       have hb1s:=hb1.size
       clear C2 hb1 hb2
       have hOl:O.length≤1048576:=ck hno (by rw [hvO];exact hbl)
       obtain⟨ao,co,rfl,_,_,_⟩:=(AO.arg (by omega)).form
       have hPq:=hP.below hbq
       have hPO:=aa hPq.1
       have hQB:w.heap.size≤w2.heap.size:=Nat.le_trans HBR2.out.size hbq.size
       have HST:=aa (fun (v':Value) (w':World) (h1:w'.ownsRow w.heap.size 88 3 v' (l.length+1) (aw l ++ [.int .i64 W,.slice ao O.length co,.int .i64 s])) (h2:(w2.alloc (.cells #[.int .i64 W,.slice ao O.length co,.int .i64 s] 88)).grownBy w' (Value.slice av l.length cv).ownBlock) (h3:v'.ownBlock=(Value.slice av l.length cv).ownBlock∨v'.ownBlock=some (w2.alloc (.cells #[.int .i64 W,.slice ao O.length co,.int .i64 s] 88)).heap.size)=>hPq.step AO (fun g hg=>Nat.lt_of_lt_of_le (bV hP.1 g hg) hb1s) hvO hs (by omega) (by omega) hOl (by rw [hvO];exact hbl) h1 h2 h3)
       have HLT:=aa (fun g hg=>(bV hP.1 g hg))
       have HBQ:=aa (HBR2.out.trans (hbq.mono HBR2.out.size))
       have HVB:Hid (∀g,(Value.slice av l.length cv).ownBlock=some g→w.heap.size≤g):=aa (cm hP.1)
       clear hP hPq AO hbq hvO hno
       go_wp2_with (at_builtin;refine wpList_append_own_at _ rfl _ _ 84 rfl w.heap.size 88 i0 (.agg #[.int .i64 0,.slice none 0 0,.int .i64 0]) 3 40 Tryz.underlying84 hi hz0 hz1 hz2 rfl (by decide) (.slice av l.length cv) l.length (aw l) rfl (hPO.out.alloc _) ⟨w2.heap.size,0,none⟩ 1 1 [.int .i64 W,.slice ao O.length co,.int .i64 s] rfl rfl (cg [.int .i64 W,.slice ao O.length co,.int .i64 s] 88) (by intro u hu;simp at hu;rcases hu with rfl|rfl|rfl <;> rfl) (by unfold maxLen;omega) (by omega) (by simp;omega) ?_;intro v' w' hown hgrow _ hat)
       have hst:=HST.out v' w' hown hgrow hat
       have HS9:=aa hst
       have HB9:Hid (Below w.heap.size w w'):=aa ((HBQ.out.alloc hQB _).grown hgrow (by simp;omega) HVB.out)
       clear hown hgrow hat hst HST hPO
       go_wp2
       go_roundw
       case rel=>
        obtain⟨a9,c9,he9⟩:∃a9 c9,v'=.slice a9 (l ++ [(W,Value.slice ao O.length co,s)]).length c9:=by
         rcases HS9.out.1.2 with ⟨h1,h2⟩|⟨g,cap,cur,h1,_⟩
         ·exact⟨none,0,by rw [h1,h2]⟩
         ·exact⟨_,_,h1⟩
        subst he9
        exact⟨l ++ [(W,.slice ao O.length co,s)],W2,a9,c9,rfl,rfl,HS9.out,by omega,fun _=>by omega,by omega,by simp;omega,.inr ⟨l,W,_,s,rfl,by omega⟩,HB9.out⟩
       case measure=>simp [intOf];omega
      ·exact absurd hbad (by omega)
     ·have hlen:l.length=l0.length+1:=by rw [hl0];simp
      have hat:=hP.at HBF.out hF1 ht5 hn
      rcases hat with ⟨_,h0⟩|⟨g,cap,he,hgl,hle,hcm,hrow⟩
      ·rw [h0] at hlen;simp at hlen
      ·cases he
       have hmem:(d,ol,s0) ∈ l:=by rw [hl0];simp
       obtain⟨q1,q2,q3,q4⟩:=hrow l0.length d ol s0 (by rw [hl0];simp)
       obtain⟨O0,AO0,hv0,_,_,_,hO0l,_,_⟩:=hP.2 _ hmem
       obtain⟨a1,c1,hol,_,_,_⟩:=(AO0.arg (by omega)).form
       replace hol:ol=.slice a1 O0.length c1:=hol
       subst hol
       have C2:=e9 _ O0 wr (AO0.arg (by omega)) (HT.out.below HBR2.out) (by omega)
       rw [hv0,show F ^ (d,Value.slice a1 O0.length c1,s0).1=F ^ d from rfl,←Nat.pow_add,show d+d=W by omega] at C2
       obtain⟨j,hj,hji⟩:∃j:Nat,j=l0.length∧(l.length:Int) - 1=(j:Int):=⟨l0.length,rfl,by omega⟩
       rw [←hj] at q2
       have hjl:j<l.length:=by omega
       have hlz:((l.length:Int) == 0)=false:=by rw [beq_eq_false_iff_ne];omega
       have hl9:l.length≤9223372036854775807:=by omega
       have HL0:=aa hl0
       clear AO0 hv0 hl0 hmem hrow q1 q3 q4 hj hlen hgl hd
       go_wp2_with fail
       refine C2.mono ?_
       rintro e w2 ⟨hb2,vo,c,O,rfl,AO,hcase⟩
       rcases hcase with ⟨rfl,hvO,hno,_⟩|⟨_,_,hbad⟩
       ·have hbq:=hb2
        clear C2 hb2
        have hOl:O.length≤1048576:=ck hno (by rw [hvO];exact hbl)
        obtain⟨ao,co,rfl,_,_,_⟩:=(AO.arg (by omega)).form
        have hPq:=hP.below hbq
        have hPO:=aa hPq.1
        have hQB:w.heap.size≤w2.heap.size:=Nat.le_trans HBR2.out.size hbq.size
        have HST:=aa (fun (v':Value) (w':World) (h1:w'.ownsRow w.heap.size 88 3 v' (l.length+1) (aw l ++ [.int .i64 W,.slice ao O.length co,.int .i64 s])) (h2:(w2.alloc (.cells #[.int .i64 W,.slice ao O.length co,.int .i64 s] 88)).grownBy w' (Value.slice (some ⟨g,0,none⟩) l.length cv).ownBlock) (h3:v'.ownBlock=(Value.slice (some ⟨g,0,none⟩) l.length cv).ownBlock∨v'.ownBlock=some (w2.alloc (.cells #[.int .i64 W,.slice ao O.length co,.int .i64 s] 88)).heap.size)=>hPq.step AO (fun g hg=>Nat.lt_of_lt_of_le (bV hP.1 g hg) (Nat.le_refl _)) hvO hs (by omega) (by omega) hOl (by rw [hvO];exact hbl) h1 h2 h3)
        have HLT:=aa (fun g hg=>(bV hP.1 g hg))
        have HBQ:=aa (HBR2.out.trans (hbq.mono HBR2.out.size))
        have HVB:Hid (∀g8,(Value.slice (some ⟨g,0,none⟩) l.length cv).ownBlock=some g8→w.heap.size≤g8):=aa (cm hP.1)
        clear hP hPq AO hbq hvO hno
        go_wp2_with (at_builtin;refine wpList_append_own_at _ rfl _ _ 84 rfl w.heap.size 88 i0 (.agg #[.int .i64 0,.slice none 0 0,.int .i64 0]) 3 40 Tryz.underlying84 hi hz0 hz1 hz2 rfl (by decide) (.slice (some ⟨g,0,none⟩) l.length cv) l.length (aw l) rfl (hPO.out.alloc _) ⟨w2.heap.size,0,none⟩ 1 1 [.int .i64 W,.slice ao O.length co,.int .i64 s] rfl rfl (cg [.int .i64 W,.slice ao O.length co,.int .i64 s] 88) (by intro u hu;simp at hu;rcases hu with rfl|rfl|rfl <;> rfl) (by unfold maxLen;omega) (by omega) (by simp;omega) ?_;intro v' w' hown hgrow _ hat)
        have hst:=HST.out v' w' hown hgrow hat
        have HS9:=aa hst
        have HB9:Hid (Below w.heap.size w w'):=aa ((HBQ.out.alloc hQB _).grown hgrow (by simp;omega) HVB.out)
        clear hown hgrow hat hst HST hPO
        go_wp2
        go_roundw
        case rel=>
         obtain⟨a9,c9,he9⟩:∃a9 c9,v'=.slice a9 (l ++ [(W,Value.slice ao O.length co,s)]).length c9:=by
          rcases HS9.out.1.2 with ⟨h1,h2⟩|⟨g,cap,cur,h1,_⟩
          ·exact⟨none,0,by rw [h1,h2]⟩
          ·exact⟨_,_,h1⟩
         subst he9
         exact⟨l ++ [(W,.slice ao O.length co,s)],W2,a9,c9,rfl,rfl,HS9.out,by omega,fun _=>by omega,by omega,by simp;omega,.inr ⟨l,W,_,s,rfl,by omega⟩,HB9.out⟩
        case measure=>simp [intOf];omega
       ·exact absurd hbad (by omega)
    ·have HP9:=aa (hP.pows HBF.out hF1 ht5 hn)
     clear hP hlast
     go_wp2
     go_ret
     exact⟨⟨_,rfl,HP9.out⟩,HBR2.out⟩

theorem bC {w w':World}{g:Nat}{v:Value}(hb:Below w.heap.size w w')(h:w.cell? ⟨g,0,none⟩=some v):w'.cell? ⟨g,0,none⟩=some v:=by
 rw [hb.cell (p:=⟨g,0,none⟩) ?_]
 ·exact h
 ·rcases Nat.lt_or_ge g w.heap.size with h' | h'
  ·exact h'
  ·simp [World.cell?,Array.getElem?_eq_none h'] at h

theorem bm {w w':World}{gd:Nat}{D:List Nat}(hB:Byt w gd D)(hf:Fr gd w w'){b k:Nat}{u:Value}(h:w.cell? ⟨b,k,none⟩=some u)(hu:∀z,u≠.int .u8 z):w'.cell? ⟨b,k,none⟩=some u:=by
 have hbl:b<w.heap.size:=by
  rcases Nat.lt_or_ge b w.heap.size with h' | h'
  ·exact h'
  ·simp [World.cell?,Array.getElem?_eq_none h'] at h
 by_cases hb:b=gd
 ·subst hb
  exfalso
  have hh:w.heap[b]?=some (.cells (D.map bv).toArray 5 (0,0)):=hB
  simp only [World.cell?,hh] at h
  simp only [List.getElem?_toArray,List.getElem?_map] at h
  obtain⟨z,_,rfl⟩:=Option.map_eq_some_iff.1 h
  exact hu _ rfl
 ·rw [World.cell?_of_block (a:=⟨b,k,none⟩) (hf.block b hbl hb)];exact h

theorem Arg.fr5 {w w':World}{gd:Nat}{D X:List Nat}{v:Value}(h:Arg w v X)(hB:Byt w gd D)(hf:Fr gd w w'):Arg w' v X:=by
 obtain⟨ao,cap,h1,h2,h3,h4⟩:=h.form
 refine⟨⟨ao,cap,h1,h2,h3,?_⟩,h.limbs,h.few,h.nz⟩
 rcases h4 with h4|⟨b,off,rfl,hc⟩
 ·exact .inl h4
 ·exact .inr ⟨b,off,rfl,fun k hk=>bm hB hf (hc k hk) (fun z e=>by cases e)⟩

theorem bt.fr5 {w w':World}{gd b n:Nat}{D:List Nat}{p:Nat × Value × Nat}(h:bt w b n p)(hB:Byt w gd D)(hf:Fr gd w w'):bt w' b n p:=by
 obtain⟨a,O,c,h1,h2,h3⟩:=h
 exact⟨a,O,c,h1,h2.fr5 hB hf,h3⟩

theorem aW.fr5 {w w':World}{gd:Nat}{D:List Nat}{v:Value}{l:List (Nat × Value × Nat)}(h:aW w v l)(hB:Byt w gd D)(hf:Fr gd w w'):aW w' v l:=by
 rcases h with h|⟨g,cap,h1,h2,h3,h4,h5⟩
 ·exact .inl h
 ·refine .inr ⟨g,cap,h1,Nat.lt_of_lt_of_le h2 hf.size,h3,h4,fun i d o s hi=>?_⟩
  obtain⟨q1,q2,q3,q4,q5,a,n',c,rfl⟩:=h5 i d o s hi
  exact⟨bm hB hf q1 (fun z e=>by cases e),bm hB hf q2 (fun z e=>by cases e),bm hB hf q3 (fun z e=>by cases e),q4,q5,a,n',c,rfl⟩

theorem be.fr5 {w w':World}{gd b n:Nat}{D:List Nat}{v:Value}(h:be w v b n)(hB:Byt w gd D)(hf:Fr gd w w'):be w' v b n:=by
 obtain⟨l,h1,h2⟩:=h
 exact⟨l,h1.fr5 hB hf,fun p hp=>(h2 p hp).fr5 hB hf⟩

theorem Tab.fr5 {w w':World}{gd:Nat}(h:Tab w)(hf:Fr gd w w')(hne:1≠gd):Tab w':=
 ⟨Nat.lt_of_lt_of_le h.1 hf.size,fun i hi=>by rw [World.cell?_of_block (a:=⟨1,i,none⟩) (hf.block _ h.1 hne)];exact h.2 i hi⟩

theorem aC.both {b x o h d n:Nat}{D D1 D2:List Nat}(hn:n=h+d)(h1:aC b (x / b ^ d) o h 0 D D1)(h2:aC b (x % b ^ d) (o+h) d 0 D1 D2):aC b x o n 0 D D2:=by
 refine⟨h2.len.trans h1.len,fun i _ hi=>?_,fun k hk=>?_⟩
 ·by_cases hih:i<h
  ·rw [h2.same (o+i) (.inl (by omega)),h1.digs i (Nat.zero_le _) hih,Nat.div_div_eq_div_mul,←Nat.pow_add,show d+(h - 1 - i)=n - 1 - i by omega]
  ·obtain⟨j,rfl⟩:∃j,i=h+j:=⟨i - h,by omega⟩
   rw [←Nat.add_assoc,h2.digs j (Nat.zero_le _) (by omega)]
   have e:=ee x b 0 d (d - 1 - j) (by omega)
   rw [Nat.zero_mul,Nat.pow_zero,Nat.div_one,Nat.zero_add] at e
   rw [e,show d - 1 - j=n - 1 - (h+j) by omega]
 ·rw [h2.same k (by omega),h1.same k (by omega)]

theorem de (gl gb gw gd b N:Nat)(vl:Value)(hb:2≤b)(hb2:b≤36)(hNB:b ^ (N - 1)<18446744073709551616 ^ 1048576)(htab:1≠gd):∀(M n o cap:Nat) (D:List Nat) (va:Value) (X:List Nat) (w:World),n<M →
  Byt w gd D→o+n≤D.length→n≤cap→cap≤9223372036854775807→n≤N→Arg w va X→X.length≤1048576→((∃b' off c,va=.slice (some ⟨b',off,none⟩) X.length c)∨n≤1)→Tab w →
  w.cell? ⟨gl,0,none⟩=some vl→w.cell? ⟨gb,0,none⟩=some (.int .i64 b)→w.cell? ⟨gw,0,none⟩=some (.func (.func 52) #[] #[.pointer (some ⟨gl,0,none⟩),.pointer (some ⟨gb,0,none⟩),.pointer (some ⟨gw,0,none⟩)])→(∀z,vl≠.int .u8 z)→be w vl b N →
  Calls Tryz.prog 52 #[.slice (some ⟨gd,o,none⟩) n cap,va,.pointer (some ⟨gl,0,none⟩),.pointer (some ⟨gb,0,none⟩),.pointer (some ⟨gw,0,none⟩)] w (ei b (val X) o n gd D w)
 | 0,n,o,cap,D,va,X,w,h,_,_,_,_,_,_,_,_,_,_,_,_,_,_=>absurd h (Nat.not_lt_zero n)
 | M+1,n,o,cap,D,va,X,w,hM,hD,ho,hnc,hcm,hnN,hA,hXl,hpl,hT,cl,cb,cw,hvl,hP=>by
  have HPP:=aa hP
  obtain⟨l,hPA,hPO⟩:=hP
  have C:=iC vl n l w hPA
  have HD:=aa hD
  have HA:=aa hA
  have HT:=aa hT
  have HPA:=aa hPA
  have HPO:=aa hPO
  clear hD hA hT hPA hPO
  go_enter Tryz.func52,Tryz.ntmps52
  go_wp2_with fail
  refine C.mono ?_
  rintro e w1 ⟨hcase,hb1⟩
  rcases hcase with ⟨i,d,ov,s,hli,hdn,_,he⟩|⟨_,he⟩
  ·obtain⟨a1,O,c1,hov,hAO,hpw,hd1,hdN,hO0,hOl,hOb,hs9⟩:=HPO.out _ (List.mem_of_getElem? hli)
   replace hov:ov=.slice a1 O.length c1:=hov
   replace hAO:Arg w ov O:=hAO
   replace hpw:18446744073709551616 ^ s*val O=b ^ d:=hpw
   replace hd1:1≤d:=hd1
   replace hdN:d<N:=hdN
   replace hs9:s≤1125899906842624:=hs9
   subst hov
   subst he
   obtain⟨b',off,c,rfl⟩:∃b' off c,va=.slice (some ⟨b',off,none⟩) X.length c:=by
    rcases hpl with h|h
    ·exact h
    ·omega
   have hpB:18446744073709551616 ^ s*val O<18446744073709551616 ^ 1048576:=by
    rw [hpw]
    exact Nat.lt_of_le_of_lt (Nat.pow_le_pow_right (by omega) (by omega)) hNB
   have hs1:s≤1048576:=by
    have h1:18446744073709551616 ^ s≤18446744073709551616 ^ s*val O:=Nat.le_mul_of_pos_right _ (by omega)
    exact Nat.le_of_lt ((Nat.pow_lt_pow_iff_right (by omega)).1 (Nat.lt_of_le_of_lt h1 hpB))
   obtain⟨w2,hw2⟩:∃W,w1.alloc (.cells #[.int .i64 d,.slice a1 O.length c1,.int .i64 s] 88)=W:=⟨_,rfl⟩
   have hb2':Below w1.heap.size w1 w2:=by rw [←hw2];exact ac _ _
   have hx2:w2.heap[w1.heap.size]?=some (.cells #[.int .i64 d,.slice a1 O.length c1,.int .i64 s] 88):=by rw [←hw2];exact heap_alloc_new ..
   have hB2:=bt5 hb1 hb2'
   obtain⟨k0,k1,k2⟩:=tri hx2
   have C2:=jO d s a1 c1 b' off c O X w2 (hAO.below hB2) (HA.out.below hB2) (HT.out.below hB2) hXl hO0 (by omega) hOb hs1 hpB
   rw [hpw] at C2
   have HX2:=aa hx2
   have HB2:=aa hB2
   clear C hb1 hb2' hx2 hB2 hAO hpw hpB hO0 hOb hs9 HPO HPA hli
   go_wp2_with fail
   refine C2.mono ?_
   rintro e w3 ⟨⟨g1,n1,e1,g2,n2,e2,H,Lw,hgg,rfl,AH,AL,hvH,hvL,hHl,hLl⟩,hb3⟩
   obtain⟨h,hh,hhi⟩:∃h:Nat,n=h+d∧(n:Int) - (d:Int)=(h:Int):=⟨n - d,by omega,by omega⟩
   have hB3:=bt5 HB2.out hb3
   have hc3:=(hb3.block w1.heap.size (lt_of_block HX2.out)).trans HX2.out
   obtain⟨j0,j1,j2⟩:=tri hc3
   have hn1:n1=H.length:=by obtain⟨_,_,e,_⟩:=AH.form;cases e;rfl
   have hn2:n2=Lw.length:=by obtain⟨_,_,e,_⟩:=AL.form;cases e;rfl
   subst hn1
   subst hn2
   have g3:Below w.heap.size w w3.drew:=hB3.drew
   have hD3:Byt w3.drew gd D:=HD.out.below g3 HD.out.lt
   have hwl:w.heap.size≤w3.heap.size:=hB3.size
   have cw3:w3.drew.cell? ⟨gw,0,none⟩=some (.func (.func 52) #[] #[.pointer (some ⟨gl,0,none⟩),.pointer (some ⟨gb,0,none⟩),.pointer (some ⟨gw,0,none⟩)]):=bC g3 cw
   have I1:=de gl gb gw gd b N vl hb hb2 hNB htab M h o cap D _ H w3.drew (by omega) hD3 (by omega) (by omega) hcm (by omega) (AH.below (Below.refl _ _).drew) (by omega) (.inl ⟨_,_,_,rfl⟩) (HT.out.below g3) (bC g3 cl) (bC g3 cb) cw3 hvl (HPP.out.below g3)
   have hcap0:¬cap=h:=by omega
   have hhn:h≤n:=by omega
   have hhc:h≤cap:=by omega
   have hnh:n - h=d:=by omega
   have HAL:=aa AL
   have HVV:=aa (And.intro hvH hvL)
   have HD3:=aa hD3
   have HG3:=aa g3
   have HHD:=aa hh
   clear C2 hb3 hB3 hc3 AH AL hvH hvL hD3 g3 HB2 HX2 k0 k1 k2 hh
   go_upto_region 5 with fail
   go_region_held3 (fun w'=>w'.cell? ⟨gw,0,none⟩=some (.func (.func 52) #[] #[.pointer (some ⟨gl,0,none⟩),.pointer (some ⟨gb,0,none⟩),.pointer (some ⟨gw,0,none⟩)])) (first|with_reducible exact cw4|with_reducible exact cw3) (first
    | (go_at_call 52;refine I1.mono ?_;rintro e' w4 ⟨rfl,D1,hD1,hW1,hF1⟩;have cw4:=bm HD3.out hF1 cw3 (fun z e=>by cases e)))
   have F4:Fr gd w3.drew w4.drew:=hF1.drew
   have hD4:Byt w4.drew gd D1:=hD1.below (B:=gd+1) ((Below.refl (gd+1) w4).drew) (by omega)
   have cw5:w4.drew.cell? ⟨gw,0,none⟩=some (.func (.func 52) #[] #[.pointer (some ⟨gl,0,none⟩),.pointer (some ⟨gb,0,none⟩),.pointer (some ⟨gw,0,none⟩)]):=bm HD3.out F4 cw3 (fun z e=>by cases e)
   have I2:=de gl gb gw gd b N vl hb hb2 hNB htab M d (o+h) (cap - h) D1 _ Lw w4.drew (by omega) hD4 (by rw [hW1.len];omega) (by omega) (by omega) (by omega) ((HAL.out.below (Below.refl _ _).drew).fr5 HD3.out F4) hLl (.inl ⟨_,_,_,rfl⟩) ((HT.out.below HG3.out).fr5 F4 htab) (bm HD3.out F4 (bC HG3.out cl) hvl) (bm HD3.out F4 (bC HG3.out cb) (fun z e=>by cases e)) cw5 hvl ((HPP.out.below HG3.out).fr5 HD3.out F4)
   have HD4:=aa hD4
   have HW1:=aa hW1
   have HF4:=aa F4
   clear I1 hF1 hD1 hW1 hD4 F4 cw3 cw4
   go_upto_region 6 with fail
   go_region_held3 (fun w'=>w'.cell? ⟨gw,0,none⟩=some (.func (.func 52) #[] #[.pointer (some ⟨gl,0,none⟩),.pointer (some ⟨gb,0,none⟩),.pointer (some ⟨gw,0,none⟩)])) (first|with_reducible exact cw6|with_reducible exact cw5) (first
    | (go_at_call 52;refine I2.mono ?_;rintro e' w5 ⟨rfl,D2,hD2,hW2,hF2⟩;have cw6:=bm HD4.out hF2 cw5 (fun z e=>by cases e)))
   have hfin:aC b (val X) o n 0 D D2:=by
    have q1:=HW1.out
    rw [HVV.out.1] at q1
    rw [HVV.out.2] at hW2
    exact aC.both HHD.out q1 hW2
   have HF:=aa (And.intro hD2 (And.intro hfin ((Fr.of_below (bz:=gd) HG3.out).trans (HF4.out.trans hF2))))
   clear I2 hD2 hW2 hF2 hfin cw5 cw6
   go_wp2
   go_end0
   exact⟨rfl,D2,HF.out⟩
  ·obtain⟨x0,a0,n0,c0,y0,rfl,_⟩:∃(x0:Int) (a0:Option Addr) (n0 c0:Nat) (y0:Int),e=.returned (.tuple #[.agg #[.int .i64 x0,.slice a0 n0 c0,.int .i64 y0],.bool false])∧True:=⟨0,none,0,0,0,he,trivial⟩
   clear he
   obtain⟨w2,hw2⟩:∃W,w1.alloc (.cells #[.int .i64 x0,.slice a0 n0 c0,.int .i64 y0] 88)=W:=⟨_,rfl⟩
   have hb2':Below w1.heap.size w1 w2:=by rw [←hw2];exact ac _ _
   have hB2:=bt5 hb1 hb2'
   have cb2:=bC hB2 cb
   have C2:=kW gd o n cap b D va X w2 (HD.out.below hB2 HD.out.lt) ho hnc hcm (HA.out.below hB2) (by omega) hb hb2
   have HB2:=aa hB2
   clear C hb1 hb2' hB2 HPO HPA
   go_wp2_with fail
   refine C2.mono ?_
   rintro e w3 ⟨rfl,D',hD',hW',hF'⟩
   have HF:=aa (And.intro hD' (And.intro hW' ((Fr.of_below (bz:=gd) HB2.out).trans hF')))
   clear C2 hD' hW' hF'
   go_wp2
   go_end0
   exact⟨rfl,D',HF.out⟩

theorem fa {b n:Nat}(hb2:b≤36)(hn:1≤n):blen (b ^ n)≤6*n:=by
 have h1:b ^ n<2 ^ (6*n):=by rw [Nat.pow_mul];exact Nat.pow_lt_pow_left (by omega) (by omega)
 exact (blen_le_iff _ _).2 h1

theorem jr {b n m x:Nat}(hb:0<b)(hm:m≤n):(b ^ (n - m)≤x / b ^ m) ↔ b ^ n≤x:=by
 rw [Nat.le_div_iff_mul_le (Nat.pow_pos hb),←Nat.pow_add,Nat.sub_add_cancel hm]

theorem gm (va:Value)(X:List Nat)(b n:Nat)(w:World)(hA:Arg w va X)(hT:Tab w)(hl:X.length≤1048576)(hb:2≤b)(hb2:b≤36)(hn:n≤1125899906842624) :
  Calls Tryz.prog 90 #[va,.int .u64 b,.int .i64 n] w fun e w'=>e=.returned (.bool (decide (b ^ n≤val X)))∧Below w.heap.size w w':=by
 obtain⟨r,hr⟩:∃r,decide (b ^ n≤val X)=r:=⟨_,rfl⟩
 rw [hr]
 have HA:=aa hA
 have HT:=aa hT
 have HR:=aa hr
 clear hA hT hr
 go_enter Tryz.func90,Tryz.ntmps90
 go_wp2
 go_loopw [0,2] (fun v i wr=>∃(va':Value) (X':List Nat) (n':Nat),v=va'∧i=.int .i64 n'∧Arg wr va' X'∧X'.length≤1048576∧n'≤n∧decide (b ^ n'≤val X')=r∧Below w.heap.size w wr) (fun _ i _=>(intOf i).toNat)
 case atStart=>exact⟨va,X,n,rfl,rfl,HA.out,hl,Nat.le_refl _,HR.out,Below.refl _ _⟩
 case round=>
  obtain⟨va',X',n',rfl,rfl,hA',hl',hn',hr',hbr⟩:=hrel
  have C1:=cu b wr (by omega)
  have hl1:(tr [b]).length≤1:=tr_length_le [b]
  have hvb:val (tr [b])=b:=by rw [val_tr];simp [val]
  have HA':=aa hA'
  have HR':=aa hr'
  have HBR:=aa hbr
  have HVB:=aa hvb
  clear HA hA' hr' hbr hvb
  go_wp2_with fail
  refine C1.mono ?_
  rintro e w1 ⟨⟨v1,rfl,A1⟩,hb1⟩
  have hB1:=bt5 HBR.out hb1
  have C2:=dk v1 (tr [b]) n' w1 (A1.arg (by omega)) (HT.out.below hB1) (by omega) (by omega)
  rw [HVB.out] at C2
  have HB1:=aa hb1
  clear C1 A1 hb1 hB1
  go_wp2_with fail
  refine C2.mono ?_
  rintro e w2 ⟨hb2',vo,c,O,rfl,AO,hcase⟩
  have hB2:=bt5 HB1.out hb2'
  rcases hcase with ⟨rfl,hvO,hno,hbl⟩|⟨rfl,_,hbig⟩
  ·have hOl:O.length≤1048576:=ck hno (by rw [hvO];exact hbl)
   have C3:=dC _ _ X' O w2 (HA'.out.below hB2) (AO.arg (by omega))
   rw [hvO] at C3
   obtain⟨cc,hcc,hcd⟩:∃cc:Int,cmpN (val X') (b ^ n')=cc∧decide (0≤cc)=r:=by
    refine⟨_,rfl,?_⟩
    rw [←HR'.out]
    apply decide_eq_decide.2
    unfold cmpN
    split
    ·omega
    ·split <;> omega
   rw [hcc] at C3
   have HB2:=aa (bt5 HBR.out hB2)
   clear C2 hb2' hB2 AO hvO hno hbl hcc HB1 HR'
   go_wp2_with fail
   refine C3.mono ?_
   rintro e w3 ⟨rfl,hs3⟩
   have HB3:=aa (bt5 HB2.out (hs3.below _))
   clear C3 hs3
   go_wp2
   go_ret
   exact⟨rfl,HB3.out⟩
  ·have hn8:11184810<n':=by
    rcases Nat.eq_zero_or_pos n' with h|h
    ·subst h
     have h1:blen (b ^ 0)≤64:=(blen_le_iff _ 64).2 (by simp)
     omega
    ·have:=fa (n:=n') hb2 h;omega
   have C3:=cu b w2 (by omega)
   have HB2:=aa hB2
   clear C2 hb2' hB2 AO hbig HB1
   go_wp2_with fail
   refine C3.mono ?_
   rintro e w3 ⟨⟨v3,rfl,A3⟩,hb3⟩
   have hB3:=bt5 HB2.out hb3
   obtain⟨m8,hm8,hm9⟩:∃m8:Nat,m8=8388608∧(m8:Int)=8388608:=⟨_,rfl,rfl⟩
   have C4:Calls Tryz.prog 76 #[v3,.int .i64 8388608] w3 fun e w'=>Below w3.heap.size w3 w'∧Res w' w3.heap.size e (b ^ m8):=by
    have h:=dk v3 (tr [b]) m8 w3 (A3.arg (by omega)) (HT.out.below (bt5 HBR.out hB3)) (by omega) (by omega)
    rw [HVB.out,hm9] at h
    exact h
   have hbs:blen (b ^ m8)≤67108864:=by have:=fa (n:=m8) hb2 (by omega);omega
   have HM8:=aa (And.intro hm8 hbs)
   have HB3:=aa hB3
   clear C3 A3 hb3 hB3 HB2 hm8 hm9 hbs
   go_wp2_with fail
   refine C4.mono ?_
   rintro e w4 ⟨hb4,v4,c4,O4,rfl,A4,hcase⟩
   have hB4:=bt5 HB3.out hb4
   rcases hcase with ⟨rfl,hv4,hn4,hbl4⟩|⟨_,_,hbad⟩
   ·have hO4:O4.length≤1048576:=ck hn4 (by rw [hv4];exact hbl4)
    have hp4:val O4≠0:=by rw [hv4];exact Nat.pos_iff_ne_zero.1 (Nat.pow_pos (by omega))
    have C5:=fN _ v4 X' O4 w4 (HA'.out.below hB4) (A4.arg (by omega)) (HT.out.below (bt5 HBR.out hB4)) hl' hp4 (by omega) (by rw [hv4];exact hbl4)
    rw [hv4] at C5
    have HB4:=aa (bt5 HBR.out hB4)
    clear C4 hb4 A4 hv4 hn4 hbl4 hB4 HB3 hp4
    obtain⟨n9,hn9⟩:∃n9:Nat,(n':Int) - 8388608=(n9:Int):=⟨n' - 8388608,by omega⟩
    go_wp2_with fail
    refine C5.mono ?_
    rintro e w5 ⟨⟨vr,Q,R,rfl,AQ,_,hvQ,_,hlQ,_⟩,hb5⟩
    have HQ:Hid (decide (b ^ n9≤val Q)=r):=aa (by
     rw [←HR'.out,hvQ]
     apply decide_eq_decide.2
     have h:=jr (b:=b) (n:=n') (m:=m8) (x:=val X') (by omega) (by have:=HM8.out.1;omega)
     rw [show n' - m8=n9 by have:=HM8.out.1;omega] at h
     exact h)
    have HAQ:=aa AQ
    have HLQ:=aa hlQ
    have HB5:=aa (bt5 HB4.out hb5)
    clear C5 AQ hvQ hlQ hb5 HB4 HR' HM8
    go_wp2
    go_roundw
    case rel=>exact⟨_,Q,n9,rfl,rfl,HAQ.out,by have:=HLQ.out;omega,by omega,HQ.out,HB5.out⟩
    case measure=>simp [intOf];omega
   ·exact absurd hbad (by have:=HM8.out.2;omega)

theorem aQ {w:World}{g:Nat}{u:Value}{t:TypeId}(h:w.heap[g]?=some (.cells #[u] t)):w.cell? ⟨g,0,none⟩=some u:=by simp [World.cell?,h]

theorem jg (ga gb gn:Nat)(va:Value)(X:List Nat)(b n:Nat)(w:World)(ca:w.cell? ⟨ga,0,none⟩=some va)(cb:w.cell? ⟨gb,0,none⟩=some (.int .u64 b))(cn:w.cell? ⟨gn,0,none⟩=some (.int .i64 n))(hA:Arg w va X)(hT:Tab w)(hl:X.length≤1048576)(hb:2≤b)(hb2:b≤36)(hn:n≤1125899906842624) :
  Calls Tryz.prog 89 #[.pointer (some ⟨ga,0,none⟩),.pointer (some ⟨gb,0,none⟩),.pointer (some ⟨gn,0,none⟩)] w fun e w'=>e=.returned (.bool (decide (b ^ n≤val X)))∧Below w.heap.size w w':=by
 have C:=gm va X b n w hA hT hl hb hb2 hn
 obtain⟨ao,cap,rfl,_,_,_⟩:=hA.form
 generalize decide (b ^ n≤val X)=r at *
 clear hA hT
 go_enter Tryz.func89,Tryz.ntmps89
 go_wp2_with fail
 refine C.mono ?_
 rintro e w1 ⟨rfl,hb1⟩
 have HB:=aa hb1
 clear C hb1
 go_wp2
 go_ret
 exact⟨rfl,HB.out⟩
end Go.Proofs.YteehipcoeocojaaGreatDoor

