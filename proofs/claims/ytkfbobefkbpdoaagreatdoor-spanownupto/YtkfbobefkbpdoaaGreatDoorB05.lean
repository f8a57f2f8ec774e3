/- The reference's numbers: Zero, Shl. -/
import Derived.Test.YtkfbobefkbpdoaaGreatDoorB04
import Derived.Test.YtkfbobefkbpdoaaGreatDoorB02
import Derived.Deep.RegionHeld3
import Derived.Test.YtkfbobefkbpdoaaGreatDoorB01
import Derived.Test.YtkfbobefkbpdoaaGreatDoorB03
set_option maxRecDepth 20000
set_option maxHeartbeats 2000000
namespace Go.Proofs.YtkfbobefkbpdoaaGreatDoor
open Go.RowKit
open Lm
attribute [local go_sem ↓] Go.wp_at_zero Go.wp_at_succ

theorem Num.zero_iff {w:World}{v:Value}{x:Nat}(h:Num w v x):∃ao n cap,v=.slice ao n cap∧((n:Int) == 0)=(x == 0):=by
 obtain⟨ds,A,hd,ht,rfl,_⟩:=h
 obtain⟨ao,cap,hv,_⟩:=A.form
 refine⟨ao,ds.length,cap,hv,?_⟩
 by_cases h0:ds=[]
 ·subst h0;rfl
 ·have h1:0<ds.length:=List.length_pos_iff.2 h0
  have h2:vb 4294967296 ds≠0:=fun e=>h0 (vb_tail_zero (by omega) ht e)
  have e1:((ds.length:Int) == 0)=false:=by rw [beq_eq_false_iff_ne];omega
  have e2:(vb 4294967296 ds == 0)=false:=by rw [beq_eq_false_iff_ne];exact h2
  rw [e1,e2]

theorem ik (v:Value)(x:Nat)(w:World)(h:Num w v x):Calls Tryz.prog 32 #[v] w fun e w'=>e=.returned (.bool (x == 0))∧w'=w:=by
 obtain⟨ao,n,cap,rfl,he⟩:=h.zero_iff
 clear h
 go_enter Tryz.func32,Tryz.ntmps32
 go_wp2
 go_ret
 exact⟨rfl,rfl⟩

theorem ky (n k:Nat):(List.replicate n 0).getD k 0=0:=by
 by_cases h:k<n
 ·simp [List.getD,h]
 ·simp [List.getD,h]

theorem kS (B n:Nat):vb B (List.replicate n 0)=0:=by
 induction n with
 | zero=>rfl
 | succ n ih=>rw [List.replicate_succ,vb,ih];simp

theorem sA (out:List Nat)(k d t:Nat)(h:k+1<out.length):((out.set k t).set (k+1) d).getD (k+1) 0=d:=by
 simp [List.getD,h]

theorem ql (x s:Nat)(h:x*2 ^ s<18446744073709551616):IntKind.u64.wrap ((x:Int)*2 ^ s)=((x*2 ^ s:Nat):Int):=by
 rw [IntKind.wrap_u64]
 have e:(x:Int)*2 ^ s=((x*2 ^ s:Nat):Int):=by push_cast;rfl
 rw [e];omega

theorem oy (out:List Nat)(i j a b:Nat):((out.set i a).set j b).length=out.length:=by simp

theorem cY (v:Value)(x n:Nat)(w:World)(h:Num w v x)(hf:blen x+n≤1125899906840000) :
  Calls Tryz.prog 61 #[v,.int .i64 n] w fun e w'=>(∃v',e=.returned v'∧Num w' v' (x*2 ^ n))∧Below w.heap.size w w':=by
 obtain⟨X,A,hX,hXt,rfl,_⟩:=h
 obtain⟨a1,c1,rfl,hc1,hm1,L1⟩:=A.form
 by_cases h0:X.length=0
 ·have hx:X=[]:=List.length_eq_zero_iff.1 h0
  subst hx
  clear A L1 hX hXt hf
  go_enter Tryz.func61,Tryz.ntmps61
  go_wp2
  go_ret
  refine⟨⟨_,rfl,?_⟩,Below.refl _ _⟩
  rw [vb,Nat.zero_mul]
  exact Num.nil w
 ·obtain⟨i0,hi,hz0,hz1,hz2⟩:=info_parts Tryz.infoU
  obtain⟨q,s,hs,hnq⟩:∃q s,s<32∧n=q*32+s:=⟨n / 32,n % 32,by omega,by omega⟩
  have lX:X.length+q≤35184372088752:=by
   obtain⟨m,hm⟩:∃m,X.length=m+1:=⟨X.length - 1,by omega⟩
   have h1:=blen_vb hX hXt m hm
   omega
  have eq1:(n:Int) / 32=(q:Int):=by omega
  have eq2:(n:Int) % 32=(s:Int):=by omega
  have HN:Hid (n=q*32+s):=hnq
  rcases L1 with h' | ⟨b,off,rfl,hcell⟩
  ·exact absurd (by rw [h'];rfl) h0
  ·have hbw:b<w.heap.size:=aC.block (zs:=X) (.inr ⟨b,off,rfl,hcell⟩) (by omega)
   have hln:((X.length:Int) == 0)=false:=by rw [beq_eq_false_iff_ne];omega
   clear hnq hf A
   go_enter Tryz.func61,Tryz.ntmps61
   go_wp2_with (at_make;refine wpList_make_full _ rfl _ _ 27 rfl w.heap.size 51 i0 (.int .u64 0) 1 Tryz.underlying27 hi hz0 hz1 .i64 .i64 _ _ (X.length+q+1) rfl rfl (by omega) (by omega) (by rw [hz2];omega) (by unfold maxLen;omega) (Nat.le_refl _) ?_;intro w1 hown hgrow)
   have hb1:=Blk.made hown
   have hbel:Below w.heap.size w w1:=(Below.refl _ _).grown hgrow (Nat.le_refl _) (fun k hk=>by cases hk)
   clear hown hgrow hi hz0 hz1 hz2
   go_loopw [23] (fun i wr=>∃(k:Nat) (out:List Nat),k≤X.length∧i=.int .i64 k∧out.length=X.length+q+1∧Digs 4294967296 out∧out.getD (q+k) 0<2 ^ s∧Blk wr w.heap.size out∧Below w.heap.size w wr ∧
     vb 4294967296 (out.take (q+k+1))=vb 4294967296 (X.take k)*2 ^ n) (fun i _=>X.length - (intOf i).toNat)
   case atStart=>exact⟨0,_,Nat.zero_le _,rfl,by simp,digs_replicate (by omega) _,by rw [ky];exact Nat.two_pow_pos _,hb1,hbel,by rw [List.take_replicate,kS];simp [vb]⟩
   case round=>
    obtain⟨k,out,hk,rfl,hlen,hdo,hlow,hblk,hbl,hval⟩:=hrel
    clear hb1 hbel
    have HB:=ab hblk
    have HL:=ab hbl
    by_cases hkl:k<X.length
    ·have hck:wr.cell? ⟨b,off+k,none⟩=some (.int .u64 ((X.getD k 0:Nat):Int)):=by rw [hbl.cell (p:=⟨b,off+k,none⟩) hbw];exact hcell k hkl
     have hne1:¬b=w.heap.size:=by omega
     have hne2:¬w.heap.size=b:=by omega
     have hfr:=hblk.free (k+q)
     have hco:=hblk.cell (k+q) (by omega)
     have hfr1:=hblk.free (k+q+1)
     have hco1:=hblk.cell (k+q+1) (by omega)
     have HV:=ab (mZ X out q s k n HN.out (by omega) hval)
     have z1:=dig_lt (by omega) hX k
     have b1:=qc (X.getD k 0) s (out.getD (q+k) 0) (by omega) hlow
     have b2:=sj (X.getD k 0) s z1
     have b3:=qy (X.getD k 0) s z1 hs
     have hdd:=ab (digs_set (digs_set hdo (q+k) _ b1) (q+k+1) (X.getD k 0*2 ^ s / 4294967296) (by omega))
     have hge:=ab (show ((out.set (q+k) (out.getD (q+k) 0+X.getD k 0*2 ^ s % 4294967296)).set (q+k+1) (X.getD k 0*2 ^ s / 4294967296)).getD (q+(k+1)) 0<2 ^ s by rw [show q+(k+1)=q+k+1 by omega,sA _ _ _ _ (by omega)];exact b2)
     generalize X.getD k 0=x at *
     rw [Nat.add_comm q k] at *
     generalize out.getD (k+q) 0=o at *
     generalize out.getD (k+q+1) 0=o1 at *
     have w0:IntKind.u64.wrap ((x:Int)*2 ^ s)=((x*2 ^ s:Nat):Int):=ql x s b3
     generalize x*2 ^ s=T at *
     have e1:(T:Int) % 4294967296=((T % 4294967296:Nat):Int):=by omega
     have e2:(T:Int) / 4294967296=((T / 4294967296:Nat):Int):=by omega
     have b4:T / 4294967296<4294967296:=by omega
     generalize T % 4294967296=m at *
     generalize T / 4294967296=d at *
     have e3:(o:Int)+(m:Int)=((o+m:Nat):Int):=by omega
     generalize o+m=t at *
     have e4:IntKind.u64.wrap (t:Int)=(t:Int):=by rw [IntKind.wrap_u64];omega
     clear hval hblk hbl hcell
     go_wp2
     go_region
     go_wp2
     go_roundw
     case rel=>exact⟨k+1,(out.set (k+q) t).set (k+q+1) d,by omega,by go_num,by rw [oy];exact hlen,hdd.out,hge.out,(HB.out.set (k+q) t).set (k+q+1) d,((HL.out.setCell (Nat.le_refl _) _).setCell (Nat.le_refl _) _).drew,by rw [show q+(k+1)+1=k+q+1+1 by omega];exact HV.out⟩
     case measure=>simp [intOf];omega
    ·have ek:k=X.length:=by omega
     subst ek
     have hve:vb 4294967296 out=vb 4294967296 X*2 ^ n:=by
      rw [List.take_of_length_le (by omega),List.take_length] at hval;exact hval
     have hA:=Ans.of_blk (base:=w.heap.size) (zs:=out) (Nat.le_refl _) hblk List.take_length.symm (Nat.le_refl _) (by omega) (digs_limbs hdo)
     have H:=dw _ _ _ (hA.arg (by omega)) hdo (by omega)
     rw [hlen,hve] at H
     clear hval hblk hbl hX hA hve HB hcell
     go_wp2_with fail
     refine H.mono ?_
     rintro e w2 ⟨⟨v',rfl,hnum⟩,rfl⟩
     have HN:=ab hnum
     clear hnum H
     go_wp2
     go_ret
     exact⟨⟨v',rfl,HN.out⟩,HL.out⟩

theorem sw (v:Value)(x n:Nat)(w:World)(h:Num w v x)(hf:blen x≤1125899906840000)(hn:n≤4611686018427387904) :
  Calls Tryz.prog 56 #[v,.int .i64 n] w fun e w'=>(∃v',e=.returned v'∧Num w' v' (x / 2 ^ n))∧Below w.heap.size w w':=by
 obtain⟨X,A,hX,hXt,rfl,_⟩:=h
 have lX:=dY hX hXt 35184372088750 (by omega)
 clear hf
 obtain⟨a1,c1,rfl,hc1,hm1,L1⟩:=A.form
 by_cases h0:X.length≤n / 32
 ·have hx:=ab (mO X n hX h0)
  obtain⟨q,hq⟩:∃q,q=n / 32:=⟨_,rfl⟩
  have eq1:(n:Int) / 32=(q:Int):=by omega
  have h1:(X.length:Int)≤(q:Int):=by omega
  clear A L1 hX hXt hq h0
  go_enter Tryz.func56,Tryz.ntmps56
  go_wp2
  go_ret
  refine⟨⟨_,rfl,?_⟩,Below.refl _ _⟩
  rw [hx.out]
  exact Num.nil w
 ·obtain⟨i0,hi,hz0,hz1,hz2⟩:=info_parts Tryz.infoU
  obtain⟨q,s,hs,hnq⟩:∃q s,s<32∧n=q*32+s:=⟨n / 32,n % 32,by omega,by omega⟩
  have hq:q<X.length:=by omega
  have eq1:(n:Int) / 32=(q:Int):=by omega
  have eq2:(n:Int) % 32=(s:Int):=by omega
  have HN:Hid (n=q*32+s):=hnq
  have hd0:decide ((X.length:Int)≤(q:Int))=false:=decide_eq_false (by omega)
  rcases L1 with h' | ⟨b,off,rfl,hcell⟩
  ·rw [h'] at hq;simp at hq
  ·have hbw:b<w.heap.size:=aC.block (zs:=X) (.inr ⟨b,off,rfl,hcell⟩) (by omega)
   clear hnq h0
   have hlL:(bL s (X.drop q)).length=X.length - q:=by rw [kn,List.length_drop]
   have eL:(X.length:Int) - (q:Int)=((X.length - q:Nat):Int):=by omega
   obtain⟨M,hM⟩:∃M,M=X.length - q:=⟨_,rfl⟩
   rw [←hM] at hlL eL
   have hM1:M+q≤X.length:=by omega
   have hM2:X.length≤M+q:=by omega
   clear hM
   go_enter Tryz.func56,Tryz.ntmps56
   go_wp2_with (at_make;refine wpList_make_full _ rfl _ _ 27 rfl w.heap.size 51 i0 (.int .u64 0) 1 Tryz.underlying27 hi hz0 hz1 .i64 .i64 _ _ M rfl rfl (by omega) (by omega) (by rw [hz2];omega) (by unfold maxLen;omega) (Nat.le_refl _) ?_;intro w1 hown hgrow)
   have hb1:=Blk.made hown
   have hbel:Below w.heap.size w w1:=(Below.refl _ _).grown hgrow (Nat.le_refl _) (fun k hk=>by cases hk)
   clear hown hgrow hi hz0 hz1 hz2
   rw [eq2]
   go_loopw [24] (fun i wr=>∃(k:Nat) (out:List Nat),k≤M∧i=.int .i64 k∧out.length=M∧Digs 4294967296 out∧Blk wr w.heap.size out∧Below w.heap.size w wr ∧
     out.take k=(bL s (X.drop q)).take k) (fun i _=>M - (intOf i).toNat)
   case atStart=>exact⟨0,_,Nat.zero_le _,rfl,by simp,digs_replicate (by omega) _,hb1,hbel,rfl⟩
   case round=>
    obtain⟨k,out,hk,rfl,hlen,hdo,hblk,hbl,hval⟩:=hrel
    clear hb1 hbel
    have HB:=ab hblk
    have HL:=ab hbl
    by_cases hkl:k<M
    ·have hj:k+q<X.length:=by omega
     have ej:(k:Int)+(q:Int)=((k+q:Nat):Int):=by omega
     have wj:IntKind.i64.wrap ((k+q:Nat):Int)=((k+q:Nat):Int):=by rw [IntKind.wrap_i64];omega
     have wq:IntKind.i64.wrap (q:Int)=(q:Int):=by rw [IntKind.wrap_i64];omega
     have wj1:IntKind.i64.wrap (((k+q:Nat):Int)+1)=((k+q:Nat):Int)+1:=by rw [IntKind.wrap_i64];omega
     have hi1:(0:Int)≤((k+q:Nat):Int):=by omega
     have hi2:((k+q:Nat):Int)<(X.length:Int):=by omega
     have hck:wr.cell? ⟨b,off+(k+q),none⟩=some (.int .u64 ((X.getD (k+q) 0:Nat):Int)):=by rw [hbl.cell (p:=⟨b,off+(k+q),none⟩) hbw];exact hcell (k+q) (by omega)
     have ec:((k+q+1:Nat):Int)=((k+q:Nat):Int)+1:=by omega
     have H2:=dp _ X (k+q+1) wr.drew (A.below hbl.drew)
     rw [ec] at H2
     clear ec
     have hne1:¬b=w.heap.size:=by omega
     have hne2:¬w.heap.size=b:=by omega
     have hfr:=hblk.free k
     have hco:=hblk.cell k (by omega)
     generalize out.getD k 0=o at *
     have z1:=dig_lt (by omega) hX (k+q)
     have z2:=dig_lt (by omega) hX (k+q+1)
     have hg:=my s (X.drop q) k (by rw [List.length_drop];omega)
     have eg:∀j,(X.drop q).getD j 0=X.getD (j+q) 0:=fun j=>by simp [List.getD,Nat.add_comm]
     rw [eg,eg,show k+1+q=k+q+1 by omega] at hg
     have HV:=ab (ri out (bL s (X.drop q)) k (by omega) (by omega) hval)
     rw [hg] at HV
     clear hg eg
     generalize X.getD (k+q) 0=x at *
     generalize X.getD (k+q+1) 0=y at *
     have bm:(x+y*4294967296) / 2 ^ s % 4294967296<4294967296:=Nat.mod_lt _ (by omega)
     have e0:(y:Int)*4294967296=((y*4294967296:Nat):Int):=by omega
     have by1:y*4294967296≤18446744069414584320:=by omega
     generalize y*4294967296=Y at *
     have e1:(x:Int)+(Y:Int)=((x+Y:Nat):Int):=by omega
     have by2:x+Y<18446744073709551616:=by omega
     generalize x+Y=T at *
     have e2:(T:Int) / 2 ^ s=((T / 2 ^ s:Nat):Int):=by push_cast;rfl
     generalize T / 2 ^ s=D at *
     have e3:(D:Int) % 4294967296=((D % 4294967296:Nat):Int):=by omega
     generalize D % 4294967296=m at *
     have wY:IntKind.u64.wrap (Y:Int)=(Y:Int):=by rw [IntKind.wrap_u64];omega
     have wT:IntKind.u64.wrap (T:Int)=(T:Int):=by rw [IntKind.wrap_u64];omega
     generalize k+q=j at *
     clear hval hblk hbl hcell A hX
     go_wp2
     go_region_held3 (fun w'=>w'.cell? ⟨b,off+j,none⟩=some (.int .u64 x)) (go_keep) (first | (go_at_call 81;refine H2.mono ?_;rintro e w2 ⟨rfl,rfl⟩))
     go_wp2
     go_roundw
     case rel=>exact⟨k+1,out.set k m,by omega,by go_num,by simp;omega,digs_set hdo _ _ bm,HB.out.set k m,(HL.out.setCell (Nat.le_refl _) _).drew,HV.out⟩
     case measure=>simp [intOf];omega
    ·have ek:k=M:=by omega
     subst ek
     have hve:vb 4294967296 out=vb 4294967296 X / 2 ^ n:=by
      rw [List.take_of_length_le (by omega),List.take_of_length_le (by omega)] at hval
      rw [hval,p9 X q s hX (by omega) hs,←HN.out]
     have hA:=Ans.of_blk (base:=w.heap.size) (zs:=out) (Nat.le_refl _) hblk List.take_length.symm (Nat.le_refl _) (by omega) (digs_limbs hdo)
     have H:=dw _ _ _ (hA.arg (by omega)) hdo (by omega)
     rw [hlen,hve] at H
     clear hval hblk hbl hX hA hve HB hcell A
     go_wp2_with fail
     refine H.mono ?_
     rintro e w2 ⟨⟨v',rfl,hnum⟩,rfl⟩
     have HN:=ab hnum
     clear hnum H
     go_wp2
     go_ret
     exact⟨⟨v',rfl,HN.out⟩,HL.out⟩

def Zn (w:World)(v:Value)(z:Int):Prop:=∃u,v=.agg #[.bool (decide (z<0)),u]∧Num w u z.natAbs

theorem Zn.below {w w':World}{v:Value}{z:Int}(h:Zn w v z)(hb:Below w.heap.size w w'):Zn w' v z:=by
 obtain⟨u,h1,h2⟩:=h
 exact⟨u,h1,h2.below hb⟩

theorem Num.sl {w:World}{v:Value}{x:Nat}(h:Num w v x):∃a n c,v=.slice a n c:=by
 obtain⟨ds,hA,_⟩:=h
 obtain⟨a,c,e,_⟩:=hA.form
 exact⟨a,_,c,e⟩

theorem pR (b:Bool)(x:Nat):(b && !(x == 0))=decide (zz b x<0):=by
 cases b
 ·simp [zz]
 ·simp only [Bool.true_and,zz,if_true]
  by_cases h:x=0
  ·subst h;rfl
  ·have h1:(x == 0)=false:=by simpa using h
   rw [h1]
   exact (decide_eq_true (by omega)).symm

theorem nO (b:Bool)(u:Value)(x:Nat)(w:World)(h:Num w u x) :
  Calls Tryz.prog 57 #[.bool b,u] w fun e w'=>(∃v,e=.returned v∧Zn w' v (zz b x))∧Below w.heap.size w w':=by
 obtain⟨a,n,c,rfl⟩:=h.sl
 cases b
 ·have HB:=ab (bI w (.cells #[.bool false,.slice a n c] 29))
  have HN:=ab (h.below HB.out)
  clear h
  go_enter Tryz.func57,Tryz.ntmps57
  go_wp2
  go_returns
  exact⟨⟨_,rfl,.slice a n c,by simp [zz],by rw [aV];exact HN.out⟩,HB.out⟩
 ·obtain⟨w0,hw0⟩:∃w0,w.alloc (.cells #[.bool false,.slice none 0 0] 29)=w0:=⟨_,rfl⟩
  have hb0:Below w.heap.size w w0:=by rw [←hw0];exact bI _ _
  have h0:w0.heap[w.heap.size]?=some (.cells #[.bool false,.slice none 0 0] 29):=by rw [←hw0];exact heap_alloc_new ..
  have hf0:=aB h0
  obtain⟨k0,k1⟩:=duo h0
  have HZ:=ik _ x w0 (h.below hb0)
  obtain⟨t,ht⟩:∃t:Bool,(!(x == 0))=t:=⟨_,rfl⟩
  have hzt:=pR true x
  rw [Bool.true_and,ht] at hzt
  have ht2:(x == 0)=!t:=by rw [←ht,Bool.not_not]
  rw [ht2] at HZ
  have HN:=ab h
  have HB0:=ab hb0
  have HBX:=ab h0
  have HZT:=ab hzt
  clear h hb0 h0 ht ht2 hzt
  go_enter Tryz.func57,Tryz.ntmps57
  go_wp2_with fail
  refine HZ.mono ?_
  rintro e wn ⟨rfl,hw⟩;rw [hw];clear hw wn HZ
  go_wp2
  have R5:=aP HBX.out (a':=.bool t) (b':=.slice a n c)
  have HD:=ab (aO HB0.out (g:=w.heap.size) (u0:=.bool t) (u1:=.slice a n c) (Nat.le_refl _))
  generalize (w0.setCell ⟨w.heap.size,0,none⟩ (.bool t)).setCell ⟨w.heap.size,1,none⟩ (.slice a n c)=w5 at *
  obtain⟨q0,q1⟩:=duo R5
  refine bodyPost_ret (v:=.agg #[.bool t,.slice a n c]) (by simp [results,Tryz.results57,go_sem,q0,q1]) rfl ?_
  exact⟨⟨_,rfl,_,by rw [HZT.out],by rw [aV];exact HN.out.below HD.out⟩,HD.out⟩

theorem Zn.sl {w:World}{v:Value}{z:Int}(h:Zn w v z):∃b a n k,v=.agg #[.bool b,.slice a n k]:=by
 obtain⟨u,h1,h2⟩:=h
 obtain⟨a,n,k,rfl⟩:=h2.sl
 exact⟨_,_,_,_,h1⟩

theorem aw {w:World}{g k g' k':Nat}{u:Value}(h:g≠g'):(w.setCell ⟨g,k,none⟩ u).cell? ⟨g',k',none⟩=w.cell? ⟨g',k',none⟩:=by
 simp only [World.cell?]
 rw [Below.heap_setCell _ _ _ _ (by exact Ne.symm h)]

theorem aC.box {w:World}{ao:Option Addr}{zs:List Nat}{g o:Nat}{p:Bool}{a:Option Addr}{n c:Nat}{t:TypeId}{u:Value}(h:aC w ao zs)(hl:w.heap[g]?=some (.cells #[.bool p,.slice a n c] t)):aC (w.setCell ⟨g,o,none⟩ u) ao zs:=by
 rcases h with h|⟨b,off,rfl,hc⟩
 ·exact .inl h
 ·rcases Nat.eq_zero_or_pos zs.length with h0|h0
  ·exact .inl (List.eq_nil_of_length_eq_zero h0)
  ·refine .inr ⟨b,off,rfl,fun k hk=>?_⟩
   rw [aw]
   ·exact hc k hk
   ·rintro rfl
    have h1:=hc 0 h0
    rw [Nat.add_zero] at h1
    simp only [World.cell?,hl] at h1
    match off,h1 with
    | 0,h1=>simp at h1
    | 1,h1=>simp at h1
    | k+2,h1=>simp at h1

theorem Arg.box {w:World}{v:Value}{zs:List Nat}{g o:Nat}{p:Bool}{a:Option Addr}{n c:Nat}{t:TypeId}{u:Value}(h:Arg w v zs)(hl:w.heap[g]?=some (.cells #[.bool p,.slice a n c] t)):Arg (w.setCell ⟨g,o,none⟩ u) v zs:=by
 obtain⟨ao,cap,h1,h2,h3,h4⟩:=h.form
 exact⟨⟨ao,cap,h1,h2,h3,h4.box hl⟩,h.limbs,h.few,h.nz⟩

theorem Arg.duo {w:World}{v:Value}{zs:List Nat}{g:Nat}{p:Bool}{a:Option Addr}{n c:Nat}{t:TypeId}{p1:Bool}{r1:Value}(h:Arg w v zs)(hl:w.heap[g]?=some (.cells #[.bool p,.slice a n c] t)):Arg ((w.setCell ⟨g,0,none⟩ (.bool p1)).setCell ⟨g,1,none⟩ r1) v zs:=
 (h.box hl).box (az hl (.bool p1))

theorem Num.duo {w:World}{v:Value}{x g:Nat}{p:Bool}{a:Option Addr}{n c:Nat}{t:TypeId}{p1:Bool}{r1:Value}(h:Num w v x)(hl:w.heap[g]?=some (.cells #[.bool p,.slice a n c] t)):Num ((w.setCell ⟨g,0,none⟩ (.bool p1)).setCell ⟨g,1,none⟩ r1) v x:=by
 obtain⟨ds,hA,hr⟩:=h
 exact⟨ds,hA.duo hl,hr⟩

theorem Zn.duo {w:World}{v:Value}{z:Int}{g:Nat}{p:Bool}{a:Option Addr}{n c:Nat}{t:TypeId}{p1:Bool}{r1:Value}(h:Zn w v z)(hl:w.heap[g]?=some (.cells #[.bool p,.slice a n c] t)):Zn ((w.setCell ⟨g,0,none⟩ (.bool p1)).setCell ⟨g,1,none⟩ r1) v z:=by
 obtain⟨u,h1,h2⟩:=h
 exact⟨u,h1,h2.duo hl⟩

def cv (w:World)(z:Int)(e:Ending)(w':World):Prop:=(∃b a n k,e=.returned (.agg #[.bool b,.slice a n k])∧Zn w' (.agg #[.bool b,.slice a n k]) z)∧Below w.heap.size w w'

theorem bK (b:Bool)(u:Value)(x:Nat)(w:World)(h:Num w u x):Calls Tryz.prog 57 #[.bool b,u] w (cv w (zz b x)):=by
 refine (nO b u x w h).mono ?_
 rintro e w' ⟨⟨v,rfl,hz⟩,hb⟩
 obtain⟨b,a,n,k,rfl⟩:=hz.sl
 exact⟨⟨b,a,n,k,rfl,hz⟩,hb⟩

theorem rL (b:Bool)(v:Value)(X:List Nat)(w:World)(hA:Arg w v X)(hf:X.length≤17592186044416) :
  Calls Tryz.prog 35 #[.bool b,v] w (cv w (zz b (val X))):=by
 obtain⟨a,n,rfl,_,_,_⟩:=hA.form
 obtain⟨w0,hw0,hb0,hx0⟩:=ag w (.cells #[.bool false,.slice none 0 0] 29)
 have HO:=gV _ X w0 (hA.below hb0) hf
 have HB0:=ab hb0
 have HX0:=ab hx0
 clear hA hb0 hx0
 go_enter Tryz.func35,Tryz.ntmps35
 go_wp2_with fail
 refine HO.mono ?_
 rintro e w1 ⟨⟨v1,rfl,hn⟩,hb1⟩
 have HM:=bK b v1 (val X) w1 hn
 have HW1:=ab hb1
 obtain⟨a2,n2,k2,rfl⟩:=hn.sl
 clear hn hb1 HO
 go_wp2_with fail
 refine HM.mono ?_
 rintro e w2 ⟨⟨b1,a1,n1,k1,rfl,hzn⟩,hb2⟩
 have HZN:=ab hzn
 have HW:=ab (HW1.out.trans (hb2.mono HW1.out.size))
 clear hzn hb2 HM hw0
 have hbx:=ac HW.out HX0.out
 have hf1:=aB hbx
 obtain⟨l0,l1⟩:=duo hbx
 have HBX:=ab hbx
 have HBE:=ab (HB0.out.trans (HW.out.mono HB0.out.size))
 clear hbx
 go_wp2
 have R5:=aP HBX.out (a':=.bool b1) (b':=.slice a1 n1 k1)
 have HD:=ab (And.intro (HZN.out.duo (p1:=b1) (r1:=.slice a1 n1 k1) HBX.out) (aO HBE.out (g:=w.heap.size) (u0:=.bool b1) (u1:=.slice a1 n1 k1) (by omega)))
 generalize (w2.setCell ⟨w.heap.size,0,none⟩ (.bool b1)).setCell ⟨w.heap.size,1,none⟩ (.slice a1 n1 k1)=w5 at *
 obtain⟨q0,q1⟩:=duo R5
 refine bodyPost_ret (v:=.agg #[.bool b1,.slice a1 n1 k1]) (by simp [results,Tryz.results35,go_sem,q0,q1]) rfl ?_
 exact⟨⟨_,_,_,_,rfl,HD.out.1⟩,HD.out.2⟩
end Go.Proofs.YtkfbobefkbpdoaaGreatDoor
namespace Go.Proofs.YtkfbobefkbpdoaaGreatDoor
open Lm

theorem kT (B:Nat):∀(out:List Nat) (j n z:Nat),j<n→n≤out.length→vb B ((out.set j z).take n)+B ^ j*out.getD j 0=vb B (out.take n)+B ^ j*z
 | [],j,n,z,h1,h2=>by simp at h2;omega
 | a :: r,0,n+1,z,_,_=>by
  simp only [List.set_cons_zero,List.take_succ_cons,vb,List.getD_cons_zero,Nat.pow_zero,Nat.one_mul]
  omega
 | a :: r,j+1,n+1,z,h1,h2=>by
  have ih:=kT B r j n z (by omega) (by simpa using h2)
  simp only [List.set_cons_succ,List.take_succ_cons,vb,List.getD_cons_succ]
  rw [show B ^ (j+1)=B*B ^ j by rw [Nat.pow_succ,Nat.mul_comm]]
  grind

theorem nT (B:Nat)(Y out:List Nat)(i k n x cy s V:Nat)(hk:i+k<n)(hn:n≤out.length)
  (h:vb B (out.take n)+cy*B ^ (i+k)=V+B ^ i*(x*vb B (Y.take k))) (hs:s=x*Y.getD k 0+out.getD (i+k) 0+cy) :
  vb B ((out.set (i+k) (s % B)).take n)+s / B*B ^ (i+(k+1))=V+B ^ i*(x*vb B (Y.take (k+1))):=by
 have h1:=kT B out (i+k) n (s % B) hk hn
 have h2:=Nat.mod_add_div s B
 rw [vb_take_next Y k]
 have e1:B ^ (i+(k+1))=B ^ (i+k)*B:=by rw [←Nat.add_assoc,Nat.pow_succ]
 have e2:B ^ (i+k)=B ^ i*B ^ k:=Nat.pow_add _ _ _
 rw [e1]
 rw [e2] at h h1 ⊢
 generalize out.getD (i+k) 0=o at *
 generalize Y.getD k 0=y at *
 generalize vb B (Y.take k)=U at *
 generalize vb B (out.take n)=W at *
 generalize vb B ((out.set (i+k) (s % B)).take n)=W' at *
 generalize s % B=m at *
 generalize s / B=d at *
 generalize B ^ i=I at *
 generalize B ^ k=K at *
 subst hs
 grind

theorem nX (B:Nat)(X Y out0 out:List Nat)(i x cy:Nat)(hx:x=X.getD i 0)(hn:i+Y.length<out.length)
  (h0:vb B (out0.take (i+Y.length))=vb B (X.take i)*vb B Y)
  (h:vb B (out.take (i+Y.length))+cy*B ^ (i+Y.length)=vb B (out0.take (i+Y.length))+B ^ i*(x*vb B (Y.take Y.length))) :
  vb B ((out.set (i+Y.length) cy).take (i+1+Y.length))=vb B (X.take (i+1))*vb B Y:=by
 rw [show i+1+Y.length=i+Y.length+1 by omega,vb_set_succ _ _ _ hn,vb_take_next X i,←hx]
 rw [List.take_length,h0] at h
 grind

theorem qP (x y o cy:Nat)(hx:x<4294967296)(hy:y<4294967296)(ho:o<4294967296)(hc:cy<4294967296):x*y≤18446744065119617025∧x*y+o+cy<18446744073709551616:=by
 have:=Nat.mul_le_mul (Nat.le_sub_one_of_lt hx) (Nat.le_sub_one_of_lt hy)
 omega
end Go.Proofs.YtkfbobefkbpdoaaGreatDoor
namespace Go.Proofs.YtkfbobefkbpdoaaGreatDoor
open Go.RowKit
open Lm
attribute [local go_sem ↓] Go.wp_at_zero Go.wp_at_succ

theorem kI (out:List Nat)(j n z:Nat)(h:j≠n):(out.set j z).getD n 0=out.getD n 0:=by
 simp [List.getD,h]

theorem jy {ds:List Nat}(hd:Digs 4294967296 ds)(ht:tr ds=ds):ds.length*32≤blen (vb 4294967296 ds)+31:=by
 rcases Nat.eq_zero_or_pos ds.length with h|h
 ·omega
 ·obtain⟨m,hm⟩:∃m,ds.length=m+1:=⟨ds.length - 1,by omega⟩
  have h1:=blen_vb hd ht m hm
  have h2:=blen_half _ (tr_last' ds m ht hm)
  omega

theorem px (v1 v2:Value)(x y:Nat)(w:World)(h1:Num w v1 x)(h2:Num w v2 y)(hf:blen x+blen y≤1125899906840000) :
  Calls Tryz.prog 77 #[v1,v2] w fun e w'=>(∃v',e=.returned v'∧Num w' v' (x*y))∧Below w.heap.size w w':=by
 obtain⟨X,A1,hX,hXt,rfl,_⟩:=h1
 obtain⟨Y,A2,hY,hYt,rfl,_⟩:=h2
 have lX:=jy hX hXt
 have lY:=jy hY hYt
 have lXY:X.length+Y.length≤35184372088752:=by omega
 obtain⟨a1,c1,rfl,hc1,hm1,L1⟩:=A1.form
 obtain⟨a2,c2,rfl,hc2,hm2,L2⟩:=A2.form
 obtain⟨i0,hi,hz0,hz1,hz2⟩:=info_parts Tryz.infoU
 clear hf hXt hYt lX lY A1 A2
 obtain⟨N,hN1,hN2,eN⟩:∃N,N≤X.length+Y.length+1∧X.length+Y.length+1≤N∧(X.length:Int)+(Y.length:Int)+1=(N:Int):=⟨X.length+Y.length+1,by omega,by omega,by omega⟩
 go_enter Tryz.func77,Tryz.ntmps77
 go_wp2_with (at_make;refine wpList_make_full _ rfl _ _ 27 rfl w.heap.size 51 i0 (.int .u64 0) 1 Tryz.underlying27 hi hz0 hz1 .i64 .i64 _ _ N rfl rfl (by omega) (by omega) (by rw [hz2];omega) (by unfold maxLen;omega) (Nat.le_refl _) ?_;intro w1 hown hgrow)
 have hb1:=Blk.made hown
 have hbel:Below w.heap.size w w1:=(Below.refl _ _).grown hgrow (Nat.le_refl _) (fun k hk=>by cases hk)
 clear hown hgrow hi hz0 hz1 hz2
 go_loopw [21] (fun i wr=>∃(k:Nat) (out:List Nat),k≤X.length∧i=.int .i64 k∧out.length=N∧out.getD (X.length+Y.length) 0=0∧Digs 4294967296 out∧Blk wr w.heap.size out∧Below w.heap.size w wr ∧
   vb 4294967296 (out.take (k+Y.length))=vb 4294967296 (X.take k)*vb 4294967296 Y) (fun i _=>X.length - (intOf i).toNat)
 case atStart=>exact⟨0,_,Nat.zero_le _,rfl,by simp,ky _ _,digs_replicate (by omega) _,hb1,hbel,by rw [List.take_replicate,kS];simp [vb]⟩
 case round=>
  obtain⟨k,out,hk,rfl,hlen,htop,hdo,hblk,hbl,hval⟩:=hrel
  clear hb1 hbel
  have HT:=ab htop
  by_cases hkl:k<X.length
  ·rcases L1.below hbl with h0|⟨b,off,rfl,hcell⟩
   ·rw [h0] at hkl;simp at hkl
   ·have hck:=hcell k hkl
    have z1:=dig_lt (by omega) hX k
    have HX:Hid (X.getD k 0=X.getD k 0):=rfl
    obtain⟨x,hx⟩:∃x,x=X.getD k 0:=⟨_,rfl⟩
    rw [←hx] at hck z1
    have HXX:=ab hx
    have HV:=ab hval
    have HB:=ab hblk
    have HL:=ab hbl
    have HY:=ab hY
    clear hx htop hval hblk hbl hcell L1 hX HX hY
    go_wp2
    go_loopw [8,28] (fun c i wr2=>∃(j cy:Nat) (out2:List Nat),j≤Y.length∧i=.int .i64 j∧c=.int .u64 cy∧cy<4294967296∧out2.length=N∧out2.getD (X.length+Y.length) 0=0∧Digs 4294967296 out2∧Blk wr2 w.heap.size out2∧Below w.heap.size w wr2 ∧
      vb 4294967296 (out2.take (k+Y.length))+cy*4294967296 ^ (k+j)=vb 4294967296 (out.take (k+Y.length))+4294967296 ^ k*(x*vb 4294967296 (Y.take j))) (fun _ i _=>Y.length - (intOf i).toNat)
    case atStart=>exact⟨0,0,out,Nat.zero_le _,rfl,rfl,by omega,hlen,HT.out,hdo,HB.out,HL.out,by simp [vb]⟩
    case round=>
     obtain⟨j,cy,out2,hj,rfl,rfl,hcy,hlen2,htop2,hdo2,hblk,hbl,hval2⟩:=hrel
     have HT2:=ab htop2
     clear htop2
     by_cases hjl:j<Y.length
     ·rcases L2.below hbl with h0|⟨b2,off2,rfl,hcell⟩
      ·rw [h0] at hjl;simp at hjl
      ·have hcj:=hcell j hjl
       have hbw:=aC.block (L2:aC w (some ⟨b2,off2,none⟩) Y) (by omega)
       have hne1:¬b2=w.heap.size:=by omega
       have hne2:¬w.heap.size=b2:=by omega
       have z2:=dig_lt (by omega) HY.out j
       have hfr:=hblk.free (k+j)
       have hco:=hblk.cell (k+j) (by omega)
       have z3:=dig_lt (by omega) hdo2 (k+j)
       obtain⟨bP,bS⟩:=qP x (Y.getD j 0) (out2.getD (k+j) 0) cy z1 z2 z3 hcy
       have HV2:=ab (nT 4294967296 Y out2 k j (k+Y.length) x cy _ _ (by omega) (by omega) hval2 rfl)
       generalize Y.getD j 0=y at *
       generalize out2.getD (k+j) 0=o at *
       have e0:(x:Int)*(y:Int)=((x*y:Nat):Int):=by push_cast;rfl
       generalize x*y=P at *
       have e1:(P:Int)+(o:Int)=((P+o:Nat):Int):=by omega
       have b1:P+o<18446744073709551616:=by omega
       generalize P+o=S1 at *
       have e2:(S1:Int)+(cy:Int)=((S1+cy:Nat):Int):=by omega
       generalize S1+cy=S at *
       have e3:(S:Int) % 4294967296=((S % 4294967296:Nat):Int):=by omega
       have e4:(S:Int) / 4294967296=((S / 4294967296:Nat):Int):=by omega
       have bm:S % 4294967296<4294967296:=by omega
       have bd:S / 4294967296<4294967296:=by omega
       generalize S % 4294967296=m at *
       generalize S / 4294967296=d at *
       have HB2:=ab hblk
       have HL2:=ab hbl
       clear hval2 hblk hbl hcell L2 HB HL HV
       go_wp2
       go_roundw
       case rel=>exact⟨j+1,d,out2.set (k+j) m,by omega,by go_num,rfl,bd,by simp;omega,by rw [kI _ _ _ _ (by omega)];exact HT2.out,digs_set hdo2 _ _ bm,HB2.out.set (k+j) m,HL2.out.setCell (Nat.le_refl _) _,HV2.out⟩
       case measure=>simp [intOf];omega
     ·have ej:j=Y.length:=by omega
      subst ej
      have HV3:=ab (nX 4294967296 X Y out out2 k x cy HXX.out (by omega) HV.out hval2)
      have hfr:=hblk.free (k+Y.length)
      have hco:=hblk.cell (k+Y.length) (by omega)
      generalize out2.getD (k+Y.length) 0=o at *
      have HB2:=ab hblk
      have HL2:=ab hbl
      clear hval2 hblk hbl L2 HB HL HV
      go_wp2
      go_roundw
      case rel=>exact⟨k+1,out2.set (k+Y.length) cy,by omega,by go_num,by simp;omega,by rw [kI _ _ _ _ (by omega)];exact HT2.out,digs_set hdo2 _ _ hcy,HB2.out.set _ cy,HL2.out.setCell (Nat.le_refl _) _,HV3.out⟩
      case measure=>simp [intOf];omega
  ·have ek:k=X.length:=by omega
   subst ek
   have hA:=Ans.of_blk (base:=w.heap.size) (zs:=out) (Nat.le_refl _) hblk List.take_length.symm (Nat.le_refl _) (by omega) (digs_limbs hdo)
   have H:=dw _ _ _ (hA.arg (by omega)) hdo (by omega)
   have HL:=ab hbl
   have hve:vb 4294967296 out=vb 4294967296 X*vb 4294967296 Y:=by
    rw [List.take_length] at hval
    rw [←hval,←cl (X.length+Y.length+1) (by omega:out.length≤_),vb_take_next,htop];simp
   rw [hlen,hve] at H
   clear hval hblk hbl hX hY hA hve L1 L2
   go_wp2_with fail
   refine H.mono ?_
   rintro e w2 ⟨⟨v',rfl,hnum⟩,rfl⟩
   have HN:=ab hnum
   clear hnum H
   go_wp2
   go_ret
   exact⟨⟨v',rfl,HN.out⟩,HL.out⟩

theorem Zn.parts {w:World}{v:Value}{z:Int}(h:Zn w v z):∃b a n k,v=.agg #[.bool b,.slice a n k]∧b=decide (z<0)∧Num w (.slice a n k) z.natAbs∧z=zz b z.natAbs:=by
 obtain⟨u,h1,h2⟩:=h
 obtain⟨a,n,k,rfl⟩:=h2.sl
 exact⟨_,a,n,k,h1,rfl,h2,(cL z).symm⟩

theorem Num.drew6 {w:World}{v:Value}{x:Nat}(h:Num w v x):Num w.drew v x:=h.below (Below.refl _ _).drew
theorem Zn.drew6 {w:World}{v:Value}{z:Int}(h:Zn w v z):Zn w.drew v z:=h.below (Below.refl _ _).drew
theorem ck {w w':World}(h:Below w.drew.heap.size w.drew w'):Below w.heap.size w w':=(Below.refl w.heap.size w).drew.trans h

theorem af {w w':World}{g o:Nat}{v:Value}(hb:Below w.heap.size w w')(h:w.cell? ⟨g,o,none⟩=some v):w'.cell? ⟨g,o,none⟩=some v:=by
 rw [hb.cell (p:=⟨g,o,none⟩) ?_]
 ·exact h
 ·show g<w.heap.size
  rcases Nat.lt_or_ge g w.heap.size with h' | h'
  ·exact h'
  ·simp [World.cell?,Array.getElem?_eq_none h'] at h

theorem pP (v:Value)(z:Int)(w:World)(h:Zn w v z):Calls Tryz.prog 101 #[v] w (cv w (-z)):=by
 obtain⟨b,a,n,k,rfl,hb,hn,hz⟩:=h.parts
 obtain⟨w0,hw0,hb0,h0,hx0⟩:=al w (.cells #[.bool b,.slice a n k] 29) (.cells #[.bool false,.slice none 0 0] 29)
 obtain⟨k0,k1⟩:=duo h0
 have HM:=bK (!b) _ z.natAbs w0 (hn.below hb0)
 rw [sy,←hz] at HM
 have HB0:=ab hb0
 have HX0:=ab hx0
 clear h hb hn hz hb0 h0 hx0
 go_enter Tryz.func101,Tryz.ntmps101
 go_wp2_with fail
 refine HM.mono ?_
 rintro e w1 ⟨⟨b1,a1,n1,k1,rfl,hzn⟩,hb1⟩
 have HZN:=ab hzn
 have HW:=ab hb1
 clear hzn hb1 HM hw0 k0
 have hbx:=ac HW.out HX0.out
 have hf1:=aB hbx
 obtain⟨l0,l1⟩:=duo hbx
 have HBX:=ab hbx
 have HBE:=ab (HB0.out.trans (HW.out.mono HB0.out.size))
 clear hbx
 go_wp2
 have R5:=aP HBX.out (a':=.bool b1) (b':=.slice a1 n1 k1)
 have HD:=ab (And.intro (HZN.out.duo (p1:=b1) (r1:=.slice a1 n1 k1) HBX.out) (aO HBE.out (g:=w.heap.size+1) (u0:=.bool b1) (u1:=.slice a1 n1 k1) (by omega)))
 generalize (w1.setCell ⟨w.heap.size+1,0,none⟩ (.bool b1)).setCell ⟨w.heap.size+1,1,none⟩ (.slice a1 n1 k1)=w5 at *
 obtain⟨q0,q1⟩:=duo R5
 refine bodyPost_ret (v:=.agg #[.bool b1,.slice a1 n1 k1]) (by simp [results,Tryz.results101,go_sem,q0,q1]) rfl ?_
 exact⟨⟨_,_,_,_,rfl,HD.out.1⟩,HD.out.2⟩

theorem qN {w:World}{v u:Value}{x:Nat}{rs:List Nat}(hn:Num w v x)(ha:Arg w u rs)(ht:tr rs=rs)(hv:val rs=x)(hf:blen x≤1125899906842624) :
  Calls Tryz.prog 67 #[v,u] w fun e w'=>e=.returned (.bool true)∧Below w.heap.size w w':=nL v u x rs w hn ha ht hv hf

theorem sJ (v:Value)(z:Int)(u:Value)(rs:List Nat)(w:World)(h:Zn w v z)(ha:Arg w u rs)(ht:tr rs=rs)(hv:val rs=z.natAbs)(hf:blen z.natAbs≤1125899906842624) :
  Calls Tryz.prog 41 #[v,.bool (decide (z<0)),u] w fun e w'=>e=.returned (.bool true)∧Below w.heap.size w w':=by
 obtain⟨b,a,n,k,rfl,hb,hn,hz⟩:=h.parts
 rw [←hb]
 obtain⟨w0,hw0,hb0,h0⟩:=ag w (.cells #[.bool b,.slice a n k] 29)
 obtain⟨k0,k1⟩:=duo h0
 obtain⟨a2,k2,rfl,_,_,_⟩:=ha.form
 have HI:=qN (hn.below hb0) (ha.below hb0) ht hv hf
 have HB0:=ab hb0
 clear h hn hz hb0 h0 ha hb hv hf ht
 have hbb:(b == b)=true:=by simp
 go_enter Tryz.func41,Tryz.ntmps41
 go_wp2_with fail
 refine HI.mono ?_
 rintro e w1 ⟨rfl,hb1⟩
 have HB1:=ab (HB0.out.trans (hb1.mono HB0.out.size))
 clear hb1 HI
 go_wp2
 go_ret
 exact⟨rfl,HB1.out⟩

theorem bn (v:Value)(z:Int)(w:World)(h:Zn w v z):Calls Tryz.prog 13 #[v] w fun e w'=>e=.returned (.int .i64 z.sign)∧Below w.heap.size w w':=by
 obtain⟨b,a,n,k,rfl,hb,hn,hz⟩:=h.parts
 obtain⟨w0,hw0,hb0,h0⟩:=ag w (.cells #[.bool b,.slice a n k] 29)
 obtain⟨k0,k1⟩:=duo h0
 have HZ:=ik _ z.natAbs w0 (hn.below hb0)
 have HB0:=ab hb0
 clear h hn hb0 h0 hz
 by_cases hneg:z<0
 ·rw [decide_eq_true hneg] at hb
  subst hb
  rw [Int.sign_eq_neg_one_of_neg hneg]
  go_enter Tryz.func13,Tryz.ntmps13
  go_wp2
  go_ret
  exact⟨rfl,HB0.out⟩
 ·rw [decide_eq_false hneg] at hb
  subst hb
  by_cases h0:z=0
  ·subst h0
   rw [Int.sign_zero]
   simp only [Int.natAbs_zero,beq_self_eq_true] at HZ
   go_enter Tryz.func13,Tryz.ntmps13
   go_wp2_with fail
   refine HZ.mono ?_
   rintro e wn ⟨rfl,hw⟩;rw [hw];clear hw wn HZ
   go_wp2
   go_ret
   exact⟨rfl,HB0.out⟩
  ·rw [Int.sign_eq_one_of_pos (by omega)]
   have hne:(z.natAbs == 0)=false:=by rw [beq_eq_false_iff_ne];omega
   rw [hne] at HZ
   go_enter Tryz.func13,Tryz.ntmps13
   go_wp2_with fail
   refine HZ.mono ?_
   rintro e wn ⟨rfl,hw⟩;rw [hw];clear hw wn HZ
   go_wp2
   go_ret
   exact⟨rfl,HB0.out⟩

def am (y z:Int):Int:=if y<z then -1 else if z<y then 1 else 0

theorem oU (b:Bool)(x y:Nat):am (zz b x) (zz b y)=if b then -(cmpN x y) else cmpN x y:=by
 unfold am cmpN
 cases b
 ·simp only [zz,Bool.false_eq_true,if_false]
  split <;> split <;> (try split) <;> omega
 ·simp only [zz,if_true]
  split <;> split <;> (try split) <;> (try split) <;> omega

theorem lw (v1 v2:Value)(y z:Int)(w:World)(h1:Zn w v1 y)(h2:Zn w v2 z) :
  Calls Tryz.prog 37 #[v1,v2] w fun e w'=>e=.returned (.int .i64 (am y z))∧Below w.heap.size w w':=by
 obtain⟨b,a,n,k,rfl,hb,hn,hz⟩:=h1.parts
 obtain⟨b2,a2,n2,k2,rfl,hb2,hn2,hz2⟩:=h2.parts
 obtain⟨w0,hw0,hb0,h0,h1'⟩:=al w (.cells #[.bool b,.slice a n k] 29) (.cells #[.bool b2,.slice a2 n2 k2] 29)
 obtain⟨c0,c1⟩:=duo h0
 obtain⟨c2,c3⟩:=duo h1'
 have HC:=dD _ _ y.natAbs z.natAbs w0 (hn.below hb0) (hn2.below hb0)
 have HB0:=ab hb0
 have HK0:=ab h0
 have hcs:=oU b y.natAbs z.natAbs
 rw [←hz] at hcs
 have hds:b≠b2→am y z=if b then -1 else 1:=by
  intro hne
  unfold am
  rw [hb,hb2] at hne
  rw [hb]
  by_cases h:y<0
  ·have:¬z<0:=fun h'=>hne (by rw [decide_eq_true h,decide_eq_true h'])
   rw [if_pos (by omega),if_pos (by simpa using h)]
  ·have:z<0:=by
    by_cases h':z<0
    ·exact h'
    ·exact absurd (by rw [decide_eq_false h,decide_eq_false h']) hne
   rw [if_neg (by omega),if_pos (by omega),if_neg (by simpa using h)]
 have hse:b=b2→am y z=if b then -(cmpN y.natAbs z.natAbs) else cmpN y.natAbs z.natAbs:=by
  intro he
  rw [←he] at hz2
  rw [←hz2] at hcs
  exact hcs
 clear h1 h2 hn hn2 hb0 h0 h1' hcs hz hz2 hb hb2
 have hcb:cmpN y.natAbs z.natAbs=-1∨cmpN y.natAbs z.natAbs=0∨cmpN y.natAbs z.natAbs=1:=by
  unfold cmpN
  split
  ·simp
  ·split <;> simp
 generalize cmpN y.natAbs z.natAbs=c at *
 cases b <;> cases b2
 ·have e:=hse rfl
  rw [if_neg (by simp)] at e
  rw [e]
  clear hse hds e
  go_enter Tryz.func37,Tryz.ntmps37
  go_wp2_with fail
  refine HC.mono ?_
  rintro e w1 ⟨rfl,hs⟩
  obtain⟨d0,d1⟩:=duo (ac (hs.below _) HK0.out)
  have HB1:=ab (HB0.out.trans ((hs.below _:Below w0.heap.size w0 w1).mono HB0.out.size))
  clear hs HC c0 c1 c2 c3
  go_wp2
  go_ret
  exact⟨rfl,HB1.out⟩
 ·have e:=hds (by simp)
  rw [if_neg (by simp)] at e
  rw [e]
  clear hse hds e HC
  go_enter Tryz.func37,Tryz.ntmps37
  go_wp2
  go_ret
  exact⟨rfl,HB0.out⟩
 ·have e:=hds (by simp)
  rw [if_pos rfl] at e
  rw [e]
  clear hse hds e HC
  go_enter Tryz.func37,Tryz.ntmps37
  go_wp2
  go_ret
  exact⟨rfl,HB0.out⟩
 ·have e:=hse rfl
  rw [if_pos rfl] at e
  rw [e]
  obtain⟨m,hm⟩:∃m:Int,-c=m:=⟨_,rfl⟩
  have wm:IntKind.i64.wrap m=m:=by rw [IntKind.wrap_i64];omega
  rw [hm]
  clear hse hds e
  go_enter Tryz.func37,Tryz.ntmps37
  go_wp2_with fail
  refine HC.mono ?_
  rintro e w1 ⟨rfl,hs⟩
  obtain⟨d0,d1⟩:=duo (ac (hs.below _) HK0.out)
  have HB1:=ab (HB0.out.trans ((hs.below _:Below w0.heap.size w0 w1).mono HB0.out.size))
  clear hs HC c0 c1 c2 c3
  go_wp2
  go_ret
  exact⟨rfl,HB1.out⟩

theorem cQ (v1 v2:Value)(y z:Int)(w:World)(h1:Zn w v1 y)(h2:Zn w v2 z)(hf:blen y.natAbs+blen z.natAbs≤1125899906840000) :
  Calls Tryz.prog 51 #[v1,v2] w (cv w (y*z)):=by
 obtain⟨b,a,n,k,rfl,hb,hn,hz⟩:=h1.parts
 obtain⟨b2,a2,n2,k2,rfl,hb2,hn2,hz2⟩:=h2.parts
 obtain⟨w0,hw0,hb0,h0,h1',hx0⟩:=aM w (.cells #[.bool b,.slice a n k] 29) (.cells #[.bool b2,.slice a2 n2 k2] 29) (.cells #[.bool false,.slice none 0 0] 29)
 obtain⟨c0,c1⟩:=duo h0
 obtain⟨c2,c3⟩:=duo h1'
 have HM:=px _ _ y.natAbs z.natAbs w0.drew (hn.below hb0).drew6 (hn2.below hb0).drew6 hf
 obtain⟨sg,hsg,hsg2⟩:∃sg,(b != b2)=sg∧(!(b == b2))=sg:=⟨_,rfl,rfl⟩
 have HEQ:Hid (zz sg (y.natAbs*z.natAbs)=y*z):=by
  refine ab ?_
  rw [←hsg,←jW,←hz,←hz2]
 have HMK:=ab (fun (w1:World) (v:Value) (hv:Num w1 v (y.natAbs*z.natAbs))=>bK sg v _ w1 hv)
 have HB0:=ab hb0
 have HX0:=ab hx0
 have HK0:=ab (show w0.drew.heap[w.heap.size]?=some (.cells #[.bool b,.slice a n k] 29) from h0)
 have HK1:=ab (show w0.drew.heap[w.heap.size+1]?=some (.cells #[.bool b2,.slice a2 n2 k2] 29) from h1')
 have HXD:=ab (show w0.drew.heap[w.heap.size+2]?=some (.cells #[.bool false,.slice none 0 0] 29) from hx0)
 have hso:∀(W:World) (k:Nat) (u:Value) (k':Nat),(W.setCell ⟨w.heap.size+2,k,none⟩ u).cell? ⟨w.heap.size,k',none⟩=W.cell? ⟨w.heap.size,k',none⟩:=fun W k u k'=>aw (by omega)
 have hso2:∀(W:World) (k:Nat) (u:Value) (k':Nat),(W.setCell ⟨w.heap.size+2,k,none⟩ u).cell? ⟨w.heap.size+1,k',none⟩=W.cell? ⟨w.heap.size+1,k',none⟩:=fun W k u k'=>aw (by omega)
 obtain⟨d0,d1⟩:=duo HK0.out
 obtain⟨d2,d3⟩:=duo HK1.out
 clear h1 h2 hn hn2 hb hb2 hz hz2 hb0 h0 h1' hx0 hsg
 go_enter Tryz.func51,Tryz.ntmps51
 go_wp2
 go_region_held3 (fun w'=>w'.cell? ⟨w.heap.size,0,none⟩=some (.bool b)∧w'.cell? ⟨w.heap.size,1,none⟩=some (.slice a n k)∧w'.cell? ⟨w.heap.size+1,0,none⟩=some (.bool b2)∧w'.cell? ⟨w.heap.size+1,1,none⟩=some (.slice a2 n2 k2)) (go_keep) (first
  | (go_at_call 77;refine HM.mono ?_;rintro e' w1 ⟨⟨v1,rfl,N1⟩,hb1⟩;have x0:=af hb1 d0;have x1:=af hb1 d1;have x2:=af hb1 d2;have x3:=af hb1 d3)
  | (go_at_call 57;refine (HMK.out w1 _ N1).mono ?_;rintro e' w2 ⟨⟨b1,a1,n1,k1,rfl,hzn⟩,hb2⟩;have y0:=af hb2 x0;have y1:=af hb2 x1;have y2:=af hb2 x2;have y3:=af hb2 x3;have hz4:=ac hb2 (ac hb1 HXD.out);have hf4:=aB hz4;obtain⟨t0,t1⟩:=duo hz4))
 have hb1':=ck hb1
 rw [HEQ.out] at hzn
 have HZN:=ab hzn
 have HBX:=ab hz4
 have HBE:=ab (HB0.out.trans ((hb1'.trans (hb2.mono hb1'.size)).mono HB0.out.size))
 have R5:=aP HBX.out (a':=.bool b1) (b':=.slice a1 n1 k1)
 have HD:=ab (And.intro (HZN.out.duo (p1:=b1) (r1:=.slice a1 n1 k1) HBX.out) (aO HBE.out (g:=w.heap.size+2) (u0:=.bool b1) (u1:=.slice a1 n1 k1) (by omega)))
 clear hso hso2 hf4 t0 t1 y0 y1 y2 y3 x0 x1 x2 x3 hz4 N1 hb1 hb1' hb2 hzn
 generalize (w2.setCell ⟨w.heap.size+2,0,none⟩ (.bool b1)).setCell ⟨w.heap.size+2,1,none⟩ (.slice a1 n1 k1)=w5 at *
 obtain⟨q0,q1⟩:=duo R5
 go_wp2
 refine bodyPost_ret (v:=.agg #[.bool b1,.slice a1 n1 k1]) (by simp [results,Tryz.results51,go_sem,q0,q1]) rfl ?_
 exact⟨⟨_,_,_,_,rfl,HD.out.1⟩,HD.out.2⟩

theorem iA (v1 v2:Value)(y z:Int)(w:World)(h1:Zn w v1 y)(h2:Zn w v2 z)(hf1:blen y.natAbs≤1125899906840000)(hf2:blen z.natAbs≤1125899906840000) :
  Calls Tryz.prog 98 #[v1,v2] w (cv w (y+z)):=by
 obtain⟨b,a,n,k,rfl,hb,hn,hz⟩:=h1.parts
 obtain⟨b2,a2,n2,k2,rfl,hb2,hn2,hz2⟩:=h2.parts
 obtain⟨w0,hw0,hb0,h0,h1',hx0⟩:=aM w (.cells #[.bool b,.slice a n k] 29) (.cells #[.bool b2,.slice a2 n2 k2] 29) (.cells #[.bool false,.slice none 0 0] 29)
 obtain⟨c0,c1⟩:=duo h0
 obtain⟨c2,c3⟩:=duo h1'
 have HB0:=ab hb0
 have HX0:=ab hx0
 have hso:∀(W:World) (k:Nat) (u:Value) (k':Nat),(W.setCell ⟨w.heap.size+2,k,none⟩ u).cell? ⟨w.heap.size,k',none⟩=W.cell? ⟨w.heap.size,k',none⟩:=fun W k u k'=>aw (by omega)
 have hso2:∀(W:World) (k:Nat) (u:Value) (k':Nat),(W.setCell ⟨w.heap.size+2,k,none⟩ u).cell? ⟨w.heap.size+1,k',none⟩=W.cell? ⟨w.heap.size+1,k',none⟩:=fun W k u k'=>aw (by omega)
 cases b <;> cases b2
 ·have HM:=lp _ _ y.natAbs z.natAbs w0.drew (hn.below hb0).drew6 (hn2.below hb0).drew6 hf1 hf2
  have HEQ:Hid (zz false (y.natAbs+z.natAbs)=y+z):=by
   refine ab ?_
   rw [←gW,←hz,←hz2]
  have HMK:=ab (fun (w1:World) (v:Value) (hv:Num w1 v (y.natAbs+z.natAbs))=>bK false v _ w1 hv)
  have HXD:=ab (show w0.drew.heap[w.heap.size+2]?=some (.cells #[.bool false,.slice none 0 0] 29) from hx0)
  obtain⟨d0,d1⟩:=duo (show w0.drew.heap[w.heap.size]?=some (.cells #[.bool false,.slice a n k] 29) from h0)
  obtain⟨d2,d3⟩:=duo (show w0.drew.heap[w.heap.size+1]?=some (.cells #[.bool false,.slice a2 n2 k2] 29) from h1')
  clear h1 h2 hn hn2 hb hb2 hz hz2 hb0 h0 h1' hx0
  go_enter Tryz.func98,Tryz.ntmps98
  go_wp2
  go_region_held3 (fun w'=>w'.cell? ⟨w.heap.size,0,none⟩=some (.bool false)∧w'.cell? ⟨w.heap.size,1,none⟩=some (.slice a n k)∧w'.cell? ⟨w.heap.size+1,0,none⟩=some (.bool false)∧w'.cell? ⟨w.heap.size+1,1,none⟩=some (.slice a2 n2 k2)) (go_keep) (first
   | (go_at_call 99;refine HM.mono ?_;rintro e' w1 ⟨⟨v1,rfl,N1⟩,hb1⟩;have x0:=af hb1 d0;have x1:=af hb1 d1;have x2:=af hb1 d2;have x3:=af hb1 d3)
   | (go_at_call 57;refine (HMK.out w1 _ N1).mono ?_;rintro e' w2 ⟨⟨b1,a1,n1,k1,rfl,hzn⟩,hb2⟩;have y0:=af hb2 x0;have y1:=af hb2 x1;have y2:=af hb2 x2;have y3:=af hb2 x3;have hz4:=ac hb2 (ac hb1 HXD.out);have hf4:=aB hz4;obtain⟨t0,t1⟩:=duo hz4))
  have hb1':=ck hb1
  rw [HEQ.out] at hzn
  have HZN:=ab hzn
  have HBX:=ab hz4
  have HBE:=ab (HB0.out.trans ((hb1'.trans (hb2.mono hb1'.size)).mono HB0.out.size))
  have R5:=aP HBX.out (a':=.bool b1) (b':=.slice a1 n1 k1)
  have HD:=ab (And.intro (HZN.out.duo (p1:=b1) (r1:=.slice a1 n1 k1) HBX.out) (aO HBE.out (g:=w.heap.size+2) (u0:=.bool b1) (u1:=.slice a1 n1 k1) (by omega)))
  clear hso hso2 hf4 t0 t1 y0 y1 y2 y3 x0 x1 x2 x3 hz4 N1 hb1 hb1' hb2 hzn
  generalize (w2.setCell ⟨w.heap.size+2,0,none⟩ (.bool b1)).setCell ⟨w.heap.size+2,1,none⟩ (.slice a1 n1 k1)=w5 at *
  obtain⟨q0,q1⟩:=duo R5
  go_wp2
  refine bodyPost_ret (v:=.agg #[.bool b1,.slice a1 n1 k1]) (by simp [results,Tryz.results98,go_sem,q0,q1]) rfl ?_
  exact⟨⟨_,_,_,_,rfl,HD.out.1⟩,HD.out.2⟩
 ·have HC:=dD _ _ y.natAbs z.natAbs w0 (hn.below hb0) (hn2.below hb0)
  have HN:=ab (hn.below hb0)
  have HN2:=ab (hn2.below hb0)
  have HK0:=ab h0
  have HK1:=ab h1'
  clear h1 h2 hn hn2 hb hb2 hb0 h0 h1' hx0
  by_cases hle:z.natAbs≤y.natAbs
  ·obtain⟨cc,hcc,hc0⟩:∃cc:Int,cmpN y.natAbs z.natAbs=cc∧0≤cc:=⟨_,rfl,by unfold cmpN;rw [if_neg (by omega)];split <;> omega⟩
   rw [hcc] at HC
   clear hcc
   have hz9:=gm false (x:=y.natAbs) (y:=z.natAbs) (by omega)
   rw [show (!false)=true from rfl,←hz,←hz2] at hz9
   have HEQ:Hid (zz false (y.natAbs - z.natAbs)=y+z):=ab hz9.symm
   have HMK:=ab (fun (w1:World) (v:Value) (hv:Num w1 v (y.natAbs - z.natAbs))=>bK false v _ w1 hv)
   have HLE:=ab hle
   clear hz hz2 hz9 hle
   go_enter Tryz.func98,Tryz.ntmps98
   go_wp2_with fail
   refine HC.mono ?_
   rintro e ws ⟨rfl,hs⟩
   have hbs:Below w0.heap.size w0 ws:=hs.below _
   have hbw:=HB0.out.trans (hbs.mono HB0.out.size)
   have HM:=fO _ _ y.natAbs z.natAbs ws.drew (HN.out.below hbs).drew6 (HN2.out.below hbs).drew6 (by have:=HLE.out;omega) hf1
   have HXD:=ab (show ws.drew.heap[w.heap.size+2]?=some (.cells #[.bool false,.slice none 0 0] 29) from ac hbs.drew HX0.out)
   obtain⟨d0,d1⟩:=duo (show ws.drew.heap[w.heap.size]?=some (.cells #[.bool false,.slice a n k] 29) from ac hbs.drew HK0.out)
   obtain⟨d2,d3⟩:=duo (show ws.drew.heap[w.heap.size+1]?=some (.cells #[.bool true,.slice a2 n2 k2] 29) from ac hbs.drew HK1.out)
   obtain⟨f0,f1⟩:=duo (ac hbs HK0.out)
   obtain⟨f2,f3⟩:=duo (ac hbs HK1.out)
   clear HB0
   have HB0:=ab hbw
   clear hbs hs HC hbw c0 c1 c2 c3
   go_wp2
   go_region_held3 (fun w'=>w'.cell? ⟨w.heap.size,0,none⟩=some (.bool false)∧w'.cell? ⟨w.heap.size,1,none⟩=some (.slice a n k)∧w'.cell? ⟨w.heap.size+1,0,none⟩=some (.bool true)∧w'.cell? ⟨w.heap.size+1,1,none⟩=some (.slice a2 n2 k2)) (go_keep) (first
    | (go_at_call 100;refine HM.mono ?_;rintro e' w1 ⟨⟨v1,rfl,N1⟩,hb1⟩;have x0:=af hb1 d0;have x1:=af hb1 d1;have x2:=af hb1 d2;have x3:=af hb1 d3)
    | (go_at_call 57;refine (HMK.out w1 _ N1).mono ?_;rintro e' w2 ⟨⟨b1,a1,n1,k1,rfl,hzn⟩,hb2⟩;have y0:=af hb2 x0;have y1:=af hb2 x1;have y2:=af hb2 x2;have y3:=af hb2 x3;have hz4:=ac hb2 (ac hb1 HXD.out);have hf4:=aB hz4;obtain⟨t0,t1⟩:=duo hz4))
   have hb1':=ck hb1
   rw [HEQ.out] at hzn
   have HZN:=ab hzn
   have HBX:=ab hz4
   have HBE:=ab (HB0.out.trans ((hb1'.trans (hb2.mono hb1'.size)).mono HB0.out.size))
   have R5:=aP HBX.out (a':=.bool b1) (b':=.slice a1 n1 k1)
   have HD:=ab (And.intro (HZN.out.duo (p1:=b1) (r1:=.slice a1 n1 k1) HBX.out) (aO HBE.out (g:=w.heap.size+2) (u0:=.bool b1) (u1:=.slice a1 n1 k1) (by omega)))
   clear hso hso2 hf4 t0 t1 y0 y1 y2 y3 x0 x1 x2 x3 hz4 N1 hb1 hb1' hb2 hzn
   generalize (w2.setCell ⟨w.heap.size+2,0,none⟩ (.bool b1)).setCell ⟨w.heap.size+2,1,none⟩ (.slice a1 n1 k1)=w5 at *
   obtain⟨q0,q1⟩:=duo R5
   go_wp2
   refine bodyPost_ret (v:=.agg #[.bool b1,.slice a1 n1 k1]) (by simp [results,Tryz.results98,go_sem,q0,q1]) rfl ?_
   exact⟨⟨_,_,_,_,rfl,HD.out.1⟩,HD.out.2⟩
  ·rw [cmpN_lt (by omega)] at HC
   have hz9:=gS false (x:=y.natAbs) (y:=z.natAbs) (by omega)
   rw [show (!false)=true from rfl,←hz,←hz2] at hz9
   have HEQ:Hid (zz true (z.natAbs - y.natAbs)=y+z):=ab hz9.symm
   have HMK:=ab (fun (w1:World) (v:Value) (hv:Num w1 v (z.natAbs - y.natAbs))=>bK true v _ w1 hv)
   have HLE:=ab hle
   clear hz hz2 hz9 hle
   go_enter Tryz.func98,Tryz.ntmps98
   go_wp2_with fail
   refine HC.mono ?_
   rintro e ws ⟨rfl,hs⟩
   have hbs:Below w0.heap.size w0 ws:=hs.below _
   have hbw:=HB0.out.trans (hbs.mono HB0.out.size)
   have HM:=fO _ _ z.natAbs y.natAbs ws.drew (HN2.out.below hbs).drew6 (HN.out.below hbs).drew6 (by have:=HLE.out;omega) hf2
   have HXD:=ab (show ws.drew.heap[w.heap.size+2]?=some (.cells #[.bool false,.slice none 0 0] 29) from ac hbs.drew HX0.out)
   obtain⟨d0,d1⟩:=duo (show ws.drew.heap[w.heap.size]?=some (.cells #[.bool false,.slice a n k] 29) from ac hbs.drew HK0.out)
   obtain⟨d2,d3⟩:=duo (show ws.drew.heap[w.heap.size+1]?=some (.cells #[.bool true,.slice a2 n2 k2] 29) from ac hbs.drew HK1.out)
   obtain⟨f0,f1⟩:=duo (ac hbs HK0.out)
   obtain⟨f2,f3⟩:=duo (ac hbs HK1.out)
   clear HB0
   have HB0:=ab hbw
   clear hbs hs HC hbw c0 c1 c2 c3
   go_wp2
   go_region_held3 (fun w'=>w'.cell? ⟨w.heap.size,0,none⟩=some (.bool false)∧w'.cell? ⟨w.heap.size,1,none⟩=some (.slice a n k)∧w'.cell? ⟨w.heap.size+1,0,none⟩=some (.bool true)∧w'.cell? ⟨w.heap.size+1,1,none⟩=some (.slice a2 n2 k2)) (go_keep) (first
    | (go_at_call 100;refine HM.mono ?_;rintro e' w1 ⟨⟨v1,rfl,N1⟩,hb1⟩;have x0:=af hb1 d0;have x1:=af hb1 d1;have x2:=af hb1 d2;have x3:=af hb1 d3)
    | (go_at_call 57;refine (HMK.out w1 _ N1).mono ?_;rintro e' w2 ⟨⟨b1,a1,n1,k1,rfl,hzn⟩,hb2⟩;have y0:=af hb2 x0;have y1:=af hb2 x1;have y2:=af hb2 x2;have y3:=af hb2 x3;have hz4:=ac hb2 (ac hb1 HXD.out);have hf4:=aB hz4;obtain⟨t0,t1⟩:=duo hz4))
   have hb1':=ck hb1
   rw [HEQ.out] at hzn
   have HZN:=ab hzn
   have HBX:=ab hz4
   have HBE:=ab (HB0.out.trans ((hb1'.trans (hb2.mono hb1'.size)).mono HB0.out.size))
   have R5:=aP HBX.out (a':=.bool b1) (b':=.slice a1 n1 k1)
   have HD:=ab (And.intro (HZN.out.duo (p1:=b1) (r1:=.slice a1 n1 k1) HBX.out) (aO HBE.out (g:=w.heap.size+2) (u0:=.bool b1) (u1:=.slice a1 n1 k1) (by omega)))
   clear hso hso2 hf4 t0 t1 y0 y1 y2 y3 x0 x1 x2 x3 hz4 N1 hb1 hb1' hb2 hzn
   generalize (w2.setCell ⟨w.heap.size+2,0,none⟩ (.bool b1)).setCell ⟨w.heap.size+2,1,none⟩ (.slice a1 n1 k1)=w5 at *
   obtain⟨q0,q1⟩:=duo R5
   go_wp2
   refine bodyPost_ret (v:=.agg #[.bool b1,.slice a1 n1 k1]) (by simp [results,Tryz.results98,go_sem,q0,q1]) rfl ?_
   exact⟨⟨_,_,_,_,rfl,HD.out.1⟩,HD.out.2⟩
 ·have HC:=dD _ _ y.natAbs z.natAbs w0 (hn.below hb0) (hn2.below hb0)
  have HN:=ab (hn.below hb0)
  have HN2:=ab (hn2.below hb0)
  have HK0:=ab h0
  have HK1:=ab h1'
  clear h1 h2 hn hn2 hb hb2 hb0 h0 h1' hx0
  by_cases hle:z.natAbs≤y.natAbs
  ·obtain⟨cc,hcc,hc0⟩:∃cc:Int,cmpN y.natAbs z.natAbs=cc∧0≤cc:=⟨_,rfl,by unfold cmpN;rw [if_neg (by omega)];split <;> omega⟩
   rw [hcc] at HC
   clear hcc
   have hz9:=gm true (x:=y.natAbs) (y:=z.natAbs) (by omega)
   rw [show (!true)=false from rfl,←hz,←hz2] at hz9
   have HEQ:Hid (zz true (y.natAbs - z.natAbs)=y+z):=ab hz9.symm
   have HMK:=ab (fun (w1:World) (v:Value) (hv:Num w1 v (y.natAbs - z.natAbs))=>bK true v _ w1 hv)
   have HLE:=ab hle
   clear hz hz2 hz9 hle
   go_enter Tryz.func98,Tryz.ntmps98
   go_wp2_with fail
   refine HC.mono ?_
   rintro e ws ⟨rfl,hs⟩
   have hbs:Below w0.heap.size w0 ws:=hs.below _
   have hbw:=HB0.out.trans (hbs.mono HB0.out.size)
   have HM:=fO _ _ y.natAbs z.natAbs ws.drew (HN.out.below hbs).drew6 (HN2.out.below hbs).drew6 (by have:=HLE.out;omega) hf1
   have HXD:=ab (show ws.drew.heap[w.heap.size+2]?=some (.cells #[.bool false,.slice none 0 0] 29) from ac hbs.drew HX0.out)
   obtain⟨d0,d1⟩:=duo (show ws.drew.heap[w.heap.size]?=some (.cells #[.bool true,.slice a n k] 29) from ac hbs.drew HK0.out)
   obtain⟨d2,d3⟩:=duo (show ws.drew.heap[w.heap.size+1]?=some (.cells #[.bool false,.slice a2 n2 k2] 29) from ac hbs.drew HK1.out)
   obtain⟨f0,f1⟩:=duo (ac hbs HK0.out)
   obtain⟨f2,f3⟩:=duo (ac hbs HK1.out)
   clear HB0
   have HB0:=ab hbw
   clear hbs hs HC hbw c0 c1 c2 c3
   go_wp2
   go_region_held3 (fun w'=>w'.cell? ⟨w.heap.size,0,none⟩=some (.bool true)∧w'.cell? ⟨w.heap.size,1,none⟩=some (.slice a n k)∧w'.cell? ⟨w.heap.size+1,0,none⟩=some (.bool false)∧w'.cell? ⟨w.heap.size+1,1,none⟩=some (.slice a2 n2 k2)) (go_keep) (first
    | (go_at_call 100;refine HM.mono ?_;rintro e' w1 ⟨⟨v1,rfl,N1⟩,hb1⟩;have x0:=af hb1 d0;have x1:=af hb1 d1;have x2:=af hb1 d2;have x3:=af hb1 d3)
    | (go_at_call 57;refine (HMK.out w1 _ N1).mono ?_;rintro e' w2 ⟨⟨b1,a1,n1,k1,rfl,hzn⟩,hb2⟩;have y0:=af hb2 x0;have y1:=af hb2 x1;have y2:=af hb2 x2;have y3:=af hb2 x3;have hz4:=ac hb2 (ac hb1 HXD.out);have hf4:=aB hz4;obtain⟨t0,t1⟩:=duo hz4))
   have hb1':=ck hb1
   rw [HEQ.out] at hzn
   have HZN:=ab hzn
   have HBX:=ab hz4
   have HBE:=ab (HB0.out.trans ((hb1'.trans (hb2.mono hb1'.size)).mono HB0.out.size))
   have R5:=aP HBX.out (a':=.bool b1) (b':=.slice a1 n1 k1)
   have HD:=ab (And.intro (HZN.out.duo (p1:=b1) (r1:=.slice a1 n1 k1) HBX.out) (aO HBE.out (g:=w.heap.size+2) (u0:=.bool b1) (u1:=.slice a1 n1 k1) (by omega)))
   clear hso hso2 hf4 t0 t1 y0 y1 y2 y3 x0 x1 x2 x3 hz4 N1 hb1 hb1' hb2 hzn
   generalize (w2.setCell ⟨w.heap.size+2,0,none⟩ (.bool b1)).setCell ⟨w.heap.size+2,1,none⟩ (.slice a1 n1 k1)=w5 at *
   obtain⟨q0,q1⟩:=duo R5
   go_wp2
   refine bodyPost_ret (v:=.agg #[.bool b1,.slice a1 n1 k1]) (by simp [results,Tryz.results98,go_sem,q0,q1]) rfl ?_
   exact⟨⟨_,_,_,_,rfl,HD.out.1⟩,HD.out.2⟩
  ·rw [cmpN_lt (by omega)] at HC
   have hz9:=gS true (x:=y.natAbs) (y:=z.natAbs) (by omega)
   rw [show (!true)=false from rfl,←hz,←hz2] at hz9
   have HEQ:Hid (zz false (z.natAbs - y.natAbs)=y+z):=ab hz9.symm
   have HMK:=ab (fun (w1:World) (v:Value) (hv:Num w1 v (z.natAbs - y.natAbs))=>bK false v _ w1 hv)
   have HLE:=ab hle
   clear hz hz2 hz9 hle
   go_enter Tryz.func98,Tryz.ntmps98
   go_wp2_with fail
   refine HC.mono ?_
   rintro e ws ⟨rfl,hs⟩
   have hbs:Below w0.heap.size w0 ws:=hs.below _
   have hbw:=HB0.out.trans (hbs.mono HB0.out.size)
   have HM:=fO _ _ z.natAbs y.natAbs ws.drew (HN2.out.below hbs).drew6 (HN.out.below hbs).drew6 (by have:=HLE.out;omega) hf2
   have HXD:=ab (show ws.drew.heap[w.heap.size+2]?=some (.cells #[.bool false,.slice none 0 0] 29) from ac hbs.drew HX0.out)
   obtain⟨d0,d1⟩:=duo (show ws.drew.heap[w.heap.size]?=some (.cells #[.bool true,.slice a n k] 29) from ac hbs.drew HK0.out)
   obtain⟨d2,d3⟩:=duo (show ws.drew.heap[w.heap.size+1]?=some (.cells #[.bool false,.slice a2 n2 k2] 29) from ac hbs.drew HK1.out)
   obtain⟨f0,f1⟩:=duo (ac hbs HK0.out)
   obtain⟨f2,f3⟩:=duo (ac hbs HK1.out)
   clear HB0
   have HB0:=ab hbw
   clear hbs hs HC hbw c0 c1 c2 c3
   go_wp2
   go_region_held3 (fun w'=>w'.cell? ⟨w.heap.size,0,none⟩=some (.bool true)∧w'.cell? ⟨w.heap.size,1,none⟩=some (.slice a n k)∧w'.cell? ⟨w.heap.size+1,0,none⟩=some (.bool false)∧w'.cell? ⟨w.heap.size+1,1,none⟩=some (.slice a2 n2 k2)) (go_keep) (first
    | (go_at_call 100;refine HM.mono ?_;rintro e' w1 ⟨⟨v1,rfl,N1⟩,hb1⟩;have x0:=af hb1 d0;have x1:=af hb1 d1;have x2:=af hb1 d2;have x3:=af hb1 d3)
    | (go_at_call 57;refine (HMK.out w1 _ N1).mono ?_;rintro e' w2 ⟨⟨b1,a1,n1,k1,rfl,hzn⟩,hb2⟩;have y0:=af hb2 x0;have y1:=af hb2 x1;have y2:=af hb2 x2;have y3:=af hb2 x3;have hz4:=ac hb2 (ac hb1 HXD.out);have hf4:=aB hz4;obtain⟨t0,t1⟩:=duo hz4))
   have hb1':=ck hb1
   rw [HEQ.out] at hzn
   have HZN:=ab hzn
   have HBX:=ab hz4
   have HBE:=ab (HB0.out.trans ((hb1'.trans (hb2.mono hb1'.size)).mono HB0.out.size))
   have R5:=aP HBX.out (a':=.bool b1) (b':=.slice a1 n1 k1)
   have HD:=ab (And.intro (HZN.out.duo (p1:=b1) (r1:=.slice a1 n1 k1) HBX.out) (aO HBE.out (g:=w.heap.size+2) (u0:=.bool b1) (u1:=.slice a1 n1 k1) (by omega)))
   clear hso hso2 hf4 t0 t1 y0 y1 y2 y3 x0 x1 x2 x3 hz4 N1 hb1 hb1' hb2 hzn
   generalize (w2.setCell ⟨w.heap.size+2,0,none⟩ (.bool b1)).setCell ⟨w.heap.size+2,1,none⟩ (.slice a1 n1 k1)=w5 at *
   obtain⟨q0,q1⟩:=duo R5
   go_wp2
   refine bodyPost_ret (v:=.agg #[.bool b1,.slice a1 n1 k1]) (by simp [results,Tryz.results98,go_sem,q0,q1]) rfl ?_
   exact⟨⟨_,_,_,_,rfl,HD.out.1⟩,HD.out.2⟩
 ·have HM:=lp _ _ y.natAbs z.natAbs w0.drew (hn.below hb0).drew6 (hn2.below hb0).drew6 hf1 hf2
  have HEQ:Hid (zz true (y.natAbs+z.natAbs)=y+z):=by
   refine ab ?_
   rw [←gW,←hz,←hz2]
  have HMK:=ab (fun (w1:World) (v:Value) (hv:Num w1 v (y.natAbs+z.natAbs))=>bK true v _ w1 hv)
  have HXD:=ab (show w0.drew.heap[w.heap.size+2]?=some (.cells #[.bool false,.slice none 0 0] 29) from hx0)
  obtain⟨d0,d1⟩:=duo (show w0.drew.heap[w.heap.size]?=some (.cells #[.bool true,.slice a n k] 29) from h0)
  obtain⟨d2,d3⟩:=duo (show w0.drew.heap[w.heap.size+1]?=some (.cells #[.bool true,.slice a2 n2 k2] 29) from h1')
  clear h1 h2 hn hn2 hb hb2 hz hz2 hb0 h0 h1' hx0
  go_enter Tryz.func98,Tryz.ntmps98
  go_wp2
  go_region_held3 (fun w'=>w'.cell? ⟨w.heap.size,0,none⟩=some (.bool true)∧w'.cell? ⟨w.heap.size,1,none⟩=some (.slice a n k)∧w'.cell? ⟨w.heap.size+1,0,none⟩=some (.bool true)∧w'.cell? ⟨w.heap.size+1,1,none⟩=some (.slice a2 n2 k2)) (go_keep) (first
   | (go_at_call 99;refine HM.mono ?_;rintro e' w1 ⟨⟨v1,rfl,N1⟩,hb1⟩;have x0:=af hb1 d0;have x1:=af hb1 d1;have x2:=af hb1 d2;have x3:=af hb1 d3)
   | (go_at_call 57;refine (HMK.out w1 _ N1).mono ?_;rintro e' w2 ⟨⟨b1,a1,n1,k1,rfl,hzn⟩,hb2⟩;have y0:=af hb2 x0;have y1:=af hb2 x1;have y2:=af hb2 x2;have y3:=af hb2 x3;have hz4:=ac hb2 (ac hb1 HXD.out);have hf4:=aB hz4;obtain⟨t0,t1⟩:=duo hz4))
  have hb1':=ck hb1
  rw [HEQ.out] at hzn
  have HZN:=ab hzn
  have HBX:=ab hz4
  have HBE:=ab (HB0.out.trans ((hb1'.trans (hb2.mono hb1'.size)).mono HB0.out.size))
  have R5:=aP HBX.out (a':=.bool b1) (b':=.slice a1 n1 k1)
  have HD:=ab (And.intro (HZN.out.duo (p1:=b1) (r1:=.slice a1 n1 k1) HBX.out) (aO HBE.out (g:=w.heap.size+2) (u0:=.bool b1) (u1:=.slice a1 n1 k1) (by omega)))
  clear hso hso2 hf4 t0 t1 y0 y1 y2 y3 x0 x1 x2 x3 hz4 N1 hb1 hb1' hb2 hzn
  generalize (w2.setCell ⟨w.heap.size+2,0,none⟩ (.bool b1)).setCell ⟨w.heap.size+2,1,none⟩ (.slice a1 n1 k1)=w5 at *
  obtain⟨q0,q1⟩:=duo R5
  go_wp2
  refine bodyPost_ret (v:=.agg #[.bool b1,.slice a1 n1 k1]) (by simp [results,Tryz.results98,go_sem,q0,q1]) rfl ?_
  exact⟨⟨_,_,_,_,rfl,HD.out.1⟩,HD.out.2⟩

theorem cH (v1 v2:Value)(y z:Int)(w:World)(h1:Zn w v1 y)(h2:Zn w v2 z)(hf1:blen y.natAbs≤1125899906840000)(hf2:blen z.natAbs≤1125899906840000) :
  Calls Tryz.prog 84 #[v1,v2] w (cv w (y - z)):=by
 obtain⟨b,a,n,k,rfl,hb,hn,hz⟩:=h1.parts
 obtain⟨b2,a2,n2,k2,rfl,hb2,hn2,hz2⟩:=h2.parts
 obtain⟨w0,hw0,hb0,h0,h1',hx0⟩:=aM w (.cells #[.bool b,.slice a n k] 29) (.cells #[.bool b2,.slice a2 n2 k2] 29) (.cells #[.bool false,.slice none 0 0] 29)
 obtain⟨c0,c1⟩:=duo h0
 obtain⟨c2,c3⟩:=duo h1'
 have HB0:=ab hb0
 have HX0:=ab hx0
 have hso:∀(W:World) (k:Nat) (u:Value) (k':Nat),(W.setCell ⟨w.heap.size+2,k,none⟩ u).cell? ⟨w.heap.size,k',none⟩=W.cell? ⟨w.heap.size,k',none⟩:=fun W k u k'=>aw (by omega)
 have hso2:∀(W:World) (k:Nat) (u:Value) (k':Nat),(W.setCell ⟨w.heap.size+2,k,none⟩ u).cell? ⟨w.heap.size+1,k',none⟩=W.cell? ⟨w.heap.size+1,k',none⟩:=fun W k u k'=>aw (by omega)
 have HM:=pP _ z w0.drew (h2.below hb0).drew6
 have HZ1:=ab (h1.below hb0).drew6
 have HEQ:Hid (y+-z=y - z):=ab (by omega)
 have HMK:=ab (fun (w1:World) (v:Value) (hb1:Below w0.drew.heap.size w0.drew w1) (hv:Zn w1 v (-z))=>iA _ v y (-z) w1 (HZ1.out.below hb1) hv hf1 (by rw [Int.natAbs_neg];exact hf2))
 have HXD:=ab (show w0.drew.heap[w.heap.size+2]?=some (.cells #[.bool false,.slice none 0 0] 29) from hx0)
 obtain⟨d0,d1⟩:=duo (show w0.drew.heap[w.heap.size]?=some (.cells #[.bool b,.slice a n k] 29) from h0)
 obtain⟨d2,d3⟩:=duo (show w0.drew.heap[w.heap.size+1]?=some (.cells #[.bool b2,.slice a2 n2 k2] 29) from h1')
 clear h1 h2 hn hn2 hb hb2 hz hz2 hb0 h0 h1' hx0
 go_enter Tryz.func84,Tryz.ntmps84
 go_wp2
 go_region_held3 (fun w'=>w'.cell? ⟨w.heap.size,0,none⟩=some (.bool b)∧w'.cell? ⟨w.heap.size,1,none⟩=some (.slice a n k)∧w'.cell? ⟨w.heap.size+1,0,none⟩=some (.bool b2)∧w'.cell? ⟨w.heap.size+1,1,none⟩=some (.slice a2 n2 k2)) (go_keep) (first
  | (go_at_call 101;refine HM.mono ?_;rintro e' w1 ⟨⟨b9,a9,n9,k9,rfl,N1⟩,hb1⟩;have x0:=af hb1 d0;have x1:=af hb1 d1;have x2:=af hb1 d2;have x3:=af hb1 d3)
  | (go_at_call 98;refine (HMK.out w1 _ hb1 N1).mono ?_;rintro e' w2 ⟨⟨b1,a1,n1,k1,rfl,hzn⟩,hb2⟩;have y0:=af hb2 x0;have y1:=af hb2 x1;have y2:=af hb2 x2;have y3:=af hb2 x3;have hz4:=ac hb2 (ac hb1 HXD.out);have hf4:=aB hz4;obtain⟨t0,t1⟩:=duo hz4))
 have hb1':=ck hb1
 rw [HEQ.out] at hzn
 have HZN:=ab hzn
 have HBX:=ab hz4
 have HBE:=ab (HB0.out.trans ((hb1'.trans (hb2.mono hb1'.size)).mono HB0.out.size))
 have R5:=aP HBX.out (a':=.bool b1) (b':=.slice a1 n1 k1)
 have HD:=ab (And.intro (HZN.out.duo (p1:=b1) (r1:=.slice a1 n1 k1) HBX.out) (aO HBE.out (g:=w.heap.size+2) (u0:=.bool b1) (u1:=.slice a1 n1 k1) (by omega)))
 clear hso hso2 hf4 t0 t1 y0 y1 y2 y3 x0 x1 x2 x3 hz4 N1 hb1 hb1' hb2 hzn
 generalize (w2.setCell ⟨w.heap.size+2,0,none⟩ (.bool b1)).setCell ⟨w.heap.size+2,1,none⟩ (.slice a1 n1 k1)=w5 at *
 obtain⟨q0,q1⟩:=duo R5
 go_wp2
 refine bodyPost_ret (v:=.agg #[.bool b1,.slice a1 n1 k1]) (by simp [results,Tryz.results84,go_sem,q0,q1]) rfl ?_
 exact⟨⟨_,_,_,_,rfl,HD.out.1⟩,HD.out.2⟩
end Go.Proofs.YtkfbobefkbpdoaaGreatDoor
namespace Go.Proofs.YtkfbobefkbpdoaaGreatDoor
open Go.RowKit
open Lm

theorem Blk.lits (w:World)(zs:List Nat)(cs:Array Value)(t:TypeId)(ht:t=51)(h:cs=(zs.map lv).toArray):Blk (w.alloc (.cells cs t)) w.heap.size zs:=by
 subst h;subst ht
 unfold Blk
 rw [heap_alloc_new]

theorem Arg.lits (w:World)(zs:List Nat)(cs:Array Value)(n:Nat)(hn:n=zs.length)(h:cs=(zs.map lv).toArray)(hl:Limbs zs)(hf:zs.length≤1000):Arg (w.alloc (.cells cs 51)) (.slice (some ⟨w.heap.size,0,none⟩) n n) zs:=by
 subst hn
 have hb:=Blk.lits w zs cs _ rfl h
 exact⟨⟨_,_,rfl,Nat.le_refl _,by omega,.inr ⟨_,0,rfl,fun k hk=>by rw [Nat.zero_add];exact hb.cell k hk⟩⟩,hl,by omega,fun n c e=>by cases e⟩
end Go.Proofs.YtkfbobefkbpdoaaGreatDoor
namespace Go.Proofs.YtkfbobefkbpdoaaGreatDoor
open Go.RowKit
open Lm
attribute [local go_sem ↓] Go.wp_at_zero Go.wp_at_succ

theorem fA (c:Nat)(w:World)(hc:c<9223372036854775808):Calls Tryz.prog 63 #[.int .i64 c] w fun e w'=>(∃v,e=.returned v∧Num w' v c)∧Below w.heap.size w w':=by
 have hA:=Arg.lits w [c] #[.int .u64 (c:Int)] 1 rfl rfl (by intro z hz;simp at hz;omega) (by simp)
 have hb:Below w.heap.size w (w.alloc (.cells #[.int .u64 (c:Int)] 51)):=(Below.refl _ _).alloc (Nat.le_refl _) _
 have HO:=gV _ [c] _ hA (by simp)
 rw [show val [c]=c by simp [val]] at HO
 have HB:=ab hb
 clear hA hb
 go_enter Tryz.func63,Tryz.ntmps63
 go_wp2_with fail
 refine HO.mono ?_
 rintro e w2 ⟨⟨v,rfl,N⟩,hb2⟩
 have HX:=ab (And.intro N (HB.out.trans (hb2.mono HB.out.size)))
 clear N hb2 HO
 go_wp2
 go_ret
 exact⟨⟨v,rfl,HX.out.1⟩,HX.out.2⟩

theorem fz (n:Int)(w:World)(h1:-9223372036854775808≤n)(h2:n≤9223372036854775807) :
  Calls Tryz.prog 40 #[.int .i64 n] w (cv w n):=by
 obtain⟨w0,hw0,hb0,hx0⟩:=ag w (.cells #[.bool false,.slice none 0 0] 29)
 have HB0:=ab hb0
 have HX0:=ab hx0
 by_cases hn:n<0
 ·obtain⟨x,hx,hx2⟩:∃x:Nat,n=-(x:Int)∧x<18446744073709551616:=⟨n.natAbs,by omega,by omega⟩
  have q1:IntKind.i64.wrap (n+1)=n+1:=by rw [IntKind.wrap_i64];omega
  have q2:IntKind.i64.wrap (-(n+1))=-(n+1):=by rw [IntKind.wrap_i64];omega
  have q3:IntKind.u64.wrap (-(n+1))=-(n+1):=by rw [IntKind.wrap_u64];omega
  have q4:IntKind.u64.wrap (-(n+1)+1)=(x:Int):=by rw [IntKind.wrap_u64];omega
  obtain⟨w6,hw6,hb6,hx6⟩:=ag w0 (.cells #[.int .u64 x] 51)
  have hblk:Blk w6 w0.heap.size [x]:=hx6
  have A6:=Ans.of_blk (base:=w0.heap.size) (zs:=[x]) (Nat.le_refl _) hblk (by simp) (by simp) (by simp) (by intro z hz;simp at hz;omega)
  have HO:=gV (.slice (some ⟨w0.heap.size,0,none⟩) 1 1) [x] w6 (A6.arg (by simp)) (by simp)
  rw [show val [x]=x from by simp [val]] at HO
  have HB6:=ab hb6
  have ez:zz true x=n:=by simp [zz];omega
  have HEZ:=ab ez
  clear hb0 hx0 hb6 hx6 hblk A6 hx ez
  go_enter Tryz.func40,Tryz.ntmps40
  go_wp2_with fail
  refine HO.mono ?_
  rintro e w1 ⟨⟨v1,rfl,hn1⟩,hb1⟩
  have HM:=bK true v1 x w1 hn1
  rw [HEZ.out] at HM
  have HW1:=ab (HB6.out.trans (hb1.mono HB6.out.size))
  obtain⟨a2,n2,k2,rfl⟩:=hn1.sl
  clear hn1 hb1 HO
  go_wp2_with fail
  refine HM.mono ?_
  rintro e w2 ⟨⟨b1,a1,n1,k1,rfl,hzn⟩,hb2⟩
  have HZN:=ab hzn
  have HW:=ab (HW1.out.trans (hb2.mono HW1.out.size))
  clear hzn hb2 HM hw0 hw6
  have hbx:=ac HW.out HX0.out
  have hf1:=aB hbx
  obtain⟨l0,l1⟩:=duo hbx
  have HBX:=ab hbx
  have HBE:=ab (HB0.out.trans (HW.out.mono HB0.out.size))
  clear hbx
  go_wp2
  have R5:=aP HBX.out (a':=.bool b1) (b':=.slice a1 n1 k1)
  have HD:=ab (And.intro (HZN.out.duo (p1:=b1) (r1:=.slice a1 n1 k1) HBX.out) (aO HBE.out (g:=w.heap.size) (u0:=.bool b1) (u1:=.slice a1 n1 k1) (by omega)))
  generalize (w2.setCell ⟨w.heap.size,0,none⟩ (.bool b1)).setCell ⟨w.heap.size,1,none⟩ (.slice a1 n1 k1)=w5 at *
  obtain⟨q0,q1⟩:=duo R5
  refine bodyPost_ret (v:=.agg #[.bool b1,.slice a1 n1 k1]) (by simp [results,Tryz.results40,go_sem,q0,q1]) rfl ?_
  exact⟨⟨_,_,_,_,rfl,HD.out.1⟩,HD.out.2⟩
 ·obtain⟨x,hx,hx2⟩:∃x:Nat,n=(x:Int)∧x<9223372036854775808:=⟨n.natAbs,by omega,by omega⟩
  subst hx
  have HO:=fA x w0 hx2
  have ez:zz false x=(x:Int):=by simp [zz]
  have HEZ:=ab ez
  clear hb0 hx0 ez
  go_enter Tryz.func40,Tryz.ntmps40
  go_wp2_with fail
  refine HO.mono ?_
  rintro e w1 ⟨⟨v1,rfl,hn1⟩,hb1⟩
  have HM:=bK false v1 x w1 hn1
  rw [HEZ.out] at HM
  have HW1:=ab hb1
  obtain⟨a2,n2,k2,rfl⟩:=hn1.sl
  clear hn1 hb1 HO
  go_wp2_with fail
  refine HM.mono ?_
  rintro e w2 ⟨⟨b1,a1,n1,k1,rfl,hzn⟩,hb2⟩
  have HZN:=ab hzn
  have HW:=ab (HW1.out.trans (hb2.mono HW1.out.size))
  clear hzn hb2 HM hw0
  have hbx:=ac HW.out HX0.out
  have hf1:=aB hbx
  obtain⟨l0,l1⟩:=duo hbx
  have HBX:=ab hbx
  have HBE:=ab (HB0.out.trans (HW.out.mono HB0.out.size))
  clear hbx
  go_wp2
  have R5:=aP HBX.out (a':=.bool b1) (b':=.slice a1 n1 k1)
  have HD:=ab (And.intro (HZN.out.duo (p1:=b1) (r1:=.slice a1 n1 k1) HBX.out) (aO HBE.out (g:=w.heap.size) (u0:=.bool b1) (u1:=.slice a1 n1 k1) (by omega)))
  generalize (w2.setCell ⟨w.heap.size,0,none⟩ (.bool b1)).setCell ⟨w.heap.size,1,none⟩ (.slice a1 n1 k1)=w5 at *
  obtain⟨q0,q1⟩:=duo R5
  refine bodyPost_ret (v:=.agg #[.bool b1,.slice a1 n1 k1]) (by simp [results,Tryz.results40,go_sem,q0,q1]) rfl ?_
  exact⟨⟨_,_,_,_,rfl,HD.out.1⟩,HD.out.2⟩

def Dn (w:World)(b:Bool)(v:Value)(M:Int):Prop:=b=decide (M<0)∧Num w v M.natAbs

def cU (w:World)(M E:Int)(e:Ending)(w':World):Prop:=(∃b a n k,e=.returned (.agg #[.bool b,.slice a n k,.int .i64 E])∧Dn w' b (.slice a n k) M)∧Below w.heap.size w w'

theorem Dn.below {w w':World}{b:Bool}{v:Value}{M:Int}(h:Dn w b v M)(hb:Below w.heap.size w w'):Dn w' b v M:=⟨h.1,h.2.below hb⟩

theorem Num.tri8 {w:World}{v:Value}{x:Nat}{g:Nat}{p:Bool}{a:Option Addr}{n c:Nat}{e:Int}{t:TypeId}(h:Num w v x)(hl:w.heap[g]?=some (.cells #[.bool p,.slice a n c,.int .i64 e] t))(p1:Bool)(a1:Option Addr)(n1 c1:Nat)(u2:Value):Num (((w.setCell ⟨g,0,none⟩ (.bool p1)).setCell ⟨g,1,none⟩ (.slice a1 n1 c1)).setCell ⟨g,2,none⟩ u2) v x:=by
 obtain⟨ds,h1,h2⟩:=h
 exact⟨ds,h1.tri8 hl p1 a1 n1 c1 u2,h2⟩

theorem Dn.tri8 {w:World}{b:Bool}{v:Value}{M:Int}{g:Nat}{p:Bool}{a:Option Addr}{n c:Nat}{e:Int}{t:TypeId}(h:Dn w b v M)(hl:w.heap[g]?=some (.cells #[.bool p,.slice a n c,.int .i64 e] t))(p1:Bool)(a1:Option Addr)(n1 c1:Nat)(u2:Value):Dn (((w.setCell ⟨g,0,none⟩ (.bool p1)).setCell ⟨g,1,none⟩ (.slice a1 n1 c1)).setCell ⟨g,2,none⟩ u2) b v M:=
 ⟨h.1,h.2.tri8 hl p1 a1 n1 c1 u2⟩

theorem Num.nil8 (w:World):Num w (.slice none 0 0) 0:=⟨[],⟨⟨none,0,rfl,by simp,by simp,.inl rfl⟩,(by intro z hz;cases hz),by simp,fun n c e=>by cases e;rfl⟩,(by intro z hz;cases hz),rfl,rfl,by simp⟩

theorem dF (b:Bool)(a:Option Addr)(n c:Nat)(z ex:Int)(w:World)(hZ:Zn w (.agg #[.bool b,.slice a n c]) z)(hbl:blen z.natAbs≤1125899906840000)(h1:-4611686018427387904≤ex)(h2:ex≤4611686018427387904) :
  Calls Tryz.prog 34 #[.agg #[.bool b,.slice a n c],.int .i64 ex] w (cU w (omz z) (oe z ex)):=by
 obtain⟨w0,hw0,hb0,h0,h1'⟩:=al w (.cells #[.bool b,.slice a n c] 29) (.cells #[.bool false,.slice none 0 0,.int .i64 0] 31)
 obtain⟨k0,k1⟩:=duo h0
 have HS:=bn _ z w0 (hZ.below hb0)
 have H0:=ab h0
 have H1:=ab h1'
 have HB:=ab hb0
 obtain⟨u,e1,hnum⟩:=hZ
 have e2:b=decide (z<0)∧.slice a n c=u:=by
  have:=congrArg Value.cells e1
  simp [Value.cells] at this
  exact this
 obtain⟨hbz,rfl⟩:=e2
 have HNU:=ab hnum
 clear h0 h1' hb0 e1 hnum
 by_cases hz:z=0
 ·subst hz
  have hom:omz 0=0:=bC
  have hoe:oe 0 ex=0:=by simp [oe]
  rw [hom,hoe]
  rw [show Int.sign 0=0 from rfl] at HS
  clear hom hoe hbz HNU
  go_enter Tryz.func34,Tryz.ntmps34
  go_wp2_with fail
  refine HS.mono ?_
  rintro e t1 ⟨rfl,g1⟩
  have HC1:=ab (ac g1 H1.out)
  have HG:=ab (ae HB.out g1)
  have hf1:=ak HC1.out
  obtain⟨m0,m1,m2⟩:=tri8 HC1.out
  clear g1 HS
  go_wp2
  have T3:=ay HC1.out (.bool false) (.slice none 0 0) (.int .i64 0)
  have T4:=an HG.out (show w.heap.size≤w.heap.size+1 by omega) (.bool false) (.slice none 0 0) (.int .i64 0)
  obtain⟨p0,p1,p2⟩:=tri8 T3
  have HE:=ab T4
  clear T3 T4
  generalize ((t1.setCell ⟨w.heap.size+1,0,none⟩ (.bool false)).setCell ⟨w.heap.size+1,1,none⟩ (.slice none 0 0)).setCell ⟨w.heap.size+1,2,none⟩ (.int .i64 0)=w5 at *
  refine bodyPost_ret (v:=.agg #[.bool false,.slice none 0 0,.int .i64 0]) (by simp [results,Tryz.results34,go_sem,p0,p1,p2]) rfl ?_
  exact⟨⟨false,none,0,0,rfl,rfl,Num.nil8 _⟩,HE.out⟩
 ·have hs0:(z.sign == 0)=false:=by
   rw [beq_eq_false_iff_ne]
   intro h;exact hz (Int.sign_eq_zero_iff_zero.1 h)
  obtain⟨t,ht⟩:∃t,t=tl z.natAbs:=⟨_,rfl⟩
  have htl:=fV (x:=z.natAbs) (by omega)
  rw [←ht] at htl
  have htb:=eB z.natAbs
  rw [←ht] at htb
  have hom:(omz z).natAbs=z.natAbs / 2 ^ t:=by rw [ct,ht];rfl
  have hoe:oe z ex=ex+(t:Int):=by unfold oe;rw [if_neg hz,ht]
  have hob:b=decide (omz z<0):=by rw [hbz];exact decide_eq_decide.2 (rE z).symm
  have wk:IntKind.i64.wrap (ex+(t:Int))=ex+(t:Int):=by rw [IntKind.wrap_i64];omega
  have HT:=ab (fun (W:World) (hg:Below w.heap.size w W)=>ry (.slice a n c) z.natAbs t W (HNU.out.below hg) (.inr htl))
  have HSH:=ab (fun (W:World) (hg:Below w.heap.size w W)=>sw (.slice a n c) z.natAbs t W (HNU.out.below hg) hbl (by omega))
  rw [←hom] at HSH
  rw [hoe]
  have HOB:=ab hob
  generalize omz z=M at *
  generalize z.sign=sg' at *
  generalize hs:ex+(t:Int)=s at *
  have hs2:ex+(t:Int)=s:=hs
  clear hs hoe hob hom htl htb ht HNU hbz hz hbl
  go_enter Tryz.func34,Tryz.ntmps34
  go_wp2_with fail
  refine HS.mono ?_
  rintro e t1 ⟨rfl,g1⟩
  have c0:=ac g1 H0.out
  have HC1:=ab (ac g1 H1.out)
  have G1:=ae HB.out g1
  obtain⟨k0,k1⟩:=duo c0
  have HC0:=ab c0
  have HG:=ab G1
  have HTT:=HT.out t1 G1
  clear g1 HS c0 G1 H0 H1 HT
  go_wp2_with fail
  refine HTT.mono ?_
  rintro e wn ⟨rfl,hw⟩;rw [hw];clear hw wn HTT
  have gd:Below w.heap.size w t1.drew:=HG.out.drew
  have g0:Below t1.drew.heap.size t1.drew t1.drew:=Below.refl _ _
  have HR:=HSH.out t1.drew gd
  have KS:=ab (fun (W:World) (hg:Below t1.drew.heap.size t1.drew W)=>show W.cell? ⟨w.heap.size,0,none⟩=some (.bool b)∧W.cell? ⟨w.heap.size,1,none⟩=some (.slice a n c) from duo (ac hg (show t1.drew.heap[w.heap.size]?=some (.cells #[.bool b,.slice a n c] 29) from HC0.out)))
  have so:∀(W:World) (k:Nat) (u:Value) (k':Nat),(W.setCell ⟨w.heap.size+1,k,none⟩ u).cell? ⟨w.heap.size,k',none⟩=W.cell? ⟨w.heap.size,k',none⟩:=fun W k u k'=>aZ (by omega)
  have HD:=ab gd
  clear gd HSH
  go_wp2
  go_region_held3 (fun w'=>w'.cell? ⟨w.heap.size,0,none⟩=some (.bool b)∧w'.cell? ⟨w.heap.size,1,none⟩=some (.slice a n c)) (first|with_reducible exact KS.out _ g1|with_reducible exact KS.out _ g0 | (refine⟨?_,?_⟩ <;> (rw [so,so,so];first|exact (KS.out _ g1).1|exact (KS.out _ g1).2))) (first
   | (go_at_call 56;refine HR.mono ?_;rintro e' t2 ⟨⟨v2,rfl,N2⟩,g1⟩;obtain⟨a2,n2,c2,rfl⟩:=N2.sl;have hz:=ac g1 (show t1.drew.heap[w.heap.size+1]?=some (.cells #[.bool false,.slice none 0 0,.int .i64 0] 31) from HC1.out);have hf:=ak hz;obtain⟨m0,m1,m2⟩:=tri8 hz))
  have T3:=ay hz (.bool b) (.slice a2 n2 c2) (.int .i64 s)
  have T4:=an (ae HD.out g1) (show w.heap.size≤w.heap.size+1 by omega) (.bool b) (.slice a2 n2 c2) (.int .i64 s)
  have T5:=N2.tri8 hz b a2 n2 c2 (.int .i64 s)
  obtain⟨p0,p1,p2⟩:=tri8 T3
  have HE:=ab (And.intro T5 T4)
  clear T3 T4 T5 so m0 m1 m2 hf KS g0 g1 HR hz N2
  generalize ((t2.setCell ⟨w.heap.size+1,0,none⟩ (.bool b)).setCell ⟨w.heap.size+1,1,none⟩ (.slice a2 n2 c2)).setCell ⟨w.heap.size+1,2,none⟩ (.int .i64 s)=w5 at *
  go_wp2
  refine bodyPost_ret (v:=.agg #[.bool b,.slice a2 n2 c2,.int .i64 s]) (by simp [results,Tryz.results34,go_sem,p0,p1,p2]) rfl ?_
  exact⟨⟨_,_,_,_,rfl,HOB.out,HE.out.1⟩,HE.out.2⟩

theorem eF (x ex:Int)(w:World)(hx1:-9223372036854775808≤x)(hx2:x≤9223372036854775807)(h1:-4611686018427387904≤ex)(h2:ex≤4611686018427387904) :
  Calls Tryz.prog 20 #[.int .i64 x,.int .i64 ex] w (cU w (omz x) (oe x ex)):=by
 obtain⟨w0,hw0,hb0,h0⟩:=ag w (.cells #[.bool false,.slice none 0 0,.int .i64 0] 31)
 have HI:=fz x w0 hx1 hx2
 have hxa:x.natAbs≤9223372036854775808:=by omega
 have hbl:blen x.natAbs≤64:=(blen_le_iff _ _).2 (Nat.lt_of_le_of_lt hxa (by decide))
 have HO:=ab (fun (W:World) (b:Bool) (a:Option Addr) (n c:Nat) (hz:Zn W (.agg #[.bool b,.slice a n c]) x)=>dF b a n c x ex W hz (by omega) h1 h2)
 have H0:=ab h0
 have HB:=ab hb0
 generalize omz x=M at *
 generalize oe x ex=E at *
 clear h0 hb0 hbl hxa
 go_enter Tryz.func20,Tryz.ntmps20
 go_wp2_with fail
 refine HI.mono ?_
 rintro e t1 ⟨⟨b1,a1,n1,c1,rfl,z1⟩,g1⟩
 have HH:=HO.out t1 b1 a1 n1 c1 z1
 have HC0:=ab (ac g1 H0.out)
 have HG1:=ab (ae HB.out g1)
 clear g1 HI z1
 go_wp2_with fail
 refine HH.mono ?_
 rintro e t2 ⟨⟨b2,a2,n2,c2,rfl,d2⟩,g2⟩
 have HC1:=ab (ac g2 HC0.out)
 have HG:=ab (ae HG1.out g2)
 have HDR:=ab d2
 have hf1:=ak HC1.out
 obtain⟨m0,m1,m2⟩:=tri8 HC1.out
 clear g2 HH d2 HC0
 go_wp2
 have T3:=ay HC1.out (.bool b2) (.slice a2 n2 c2) (.int .i64 E)
 have T4:=an HG.out (Nat.le_refl w.heap.size) (.bool b2) (.slice a2 n2 c2) (.int .i64 E)
 have T5:=HDR.out.tri8 HC1.out b2 a2 n2 c2 (.int .i64 E)
 obtain⟨p0,p1,p2⟩:=tri8 T3
 have HE:=ab (And.intro T5 T4)
 clear T3 T4 T5
 generalize ((t2.setCell ⟨w.heap.size,0,none⟩ (.bool b2)).setCell ⟨w.heap.size,1,none⟩ (.slice a2 n2 c2)).setCell ⟨w.heap.size,2,none⟩ (.int .i64 E)=w5 at *
 refine bodyPost_ret (v:=.agg #[.bool b2,.slice a2 n2 c2,.int .i64 E]) (by simp [results,Tryz.results20,go_sem,p0,p1,p2]) rfl ?_
 exact⟨⟨_,_,_,_,rfl,HE.out.1⟩,HE.out.2⟩

theorem jS (b:Bool)(a:Option Addr)(n c:Nat)(M E:Int)(u:Value)(rs:List Nat)(w:World)(h:Dn w b (.slice a n c) M)(ha:Arg w u rs)(ht:tr rs=rs)(hv:val rs=M.natAbs)(hf:blen M.natAbs≤1125899906842624) :
  Calls Tryz.prog 21 #[.agg #[.bool b,.slice a n c,.int .i64 E],.bool b,u,.int .i64 E] w fun e w'=>e=.returned (.bool true)∧Below w.heap.size w w':=by
 obtain⟨w0,hw0,hb0,h0⟩:=ag w (.cells #[.bool b,.slice a n c,.int .i64 E] 31)
 obtain⟨k0,k1,k2⟩:=tri8 h0
 have hzn:Zn w0 (.agg #[.bool b,.slice a n c]) M:=⟨.slice a n c,by rw [h.1],h.2.below hb0⟩
 have HI:=sJ _ M u rs w0 hzn (ha.below hb0) ht hv hf
 rw [←h.1] at HI
 obtain⟨au,cu,rfl,_,_,_⟩:=ha.form
 have hbe:((E:Int) == E)=true:=by simp
 have H0:=ab h0
 have HB:=ab hb0
 clear h0 hb0 hzn h ha ht hv hf
 go_enter Tryz.func21,Tryz.ntmps21
 go_wp2_with fail
 refine HI.mono ?_
 rintro e t1 ⟨rfl,g1⟩
 obtain⟨l0,l1,l2⟩:=tri8 (ac g1 H0.out)
 have HG:=ab (ae HB.out g1)
 clear g1 HI
 go_wp2
 go_ret
 exact⟨rfl,HG.out⟩



theorem su {X:List Nat}(h:Limbs X):blen (val X)≤64*X.length:=by rw [blen_le_iff,Nat.mul_comm,←W_pow];exact val_lt h
end Go.Proofs.YtkfbobefkbpdoaaGreatDoor

