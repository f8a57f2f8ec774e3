/- Package mul: whole, of two numbers above 0. -/
import Derived.Test.YtcbpdngogkbndaaGreatDoorB03
import Derived.Test.YtcbpdngogkbndaaGreatDoorB01
import Derived.Deep.RegionHeld3
import Derived.Test.YtcbpdngogkbndaaGreatDoorB02
import Derived.Handy
import Derived.Deep.QuietTactic
import Derived.BigQuiet
set_option maxRecDepth 20000
set_option maxHeartbeats 1000000
namespace Go.Proofs.YtcbpdngogkbndaaGreatDoor
open Go.RowKit
open Lm

def be (v:Value)(bz:Nat):Prop:=∀b off n c,v=.slice (some ⟨b,off,none⟩) n c→b≠bz

theorem be.off {v:Value}{bz:Nat}(h:be v bz)(lo hi:Nat):Off v bz lo hi:=fun b off n c e=>.inl (h b off n c e)

def bB (H T:Int)(X Y:List Nat):Prop:=
 ∀(bz zo cap:Nat) (Z:List Nat) (va vb:Value) (w:World),Blk w bz Z→Limbs Z→Arg w va X→Arg w vb Y→be va bz→be vb bz →
  zo+(X.length+Y.length)≤Z.length→X.length+Y.length≤cap→cap≤9223372036854775807 →
  Calls Tryz.prog 131 #[way H T,.slice (some ⟨bz,zo,none⟩) (X.length+Y.length) cap,va,vb] w (au bz zo (X.length+Y.length) Z w (val X*val Y))

theorem d9 (H T:Int)(X Y:List Nat)(hs:(X.length<Y.length∧(X.length:Int)<H∧(X.length:Int)<T)∨(Y.length≤X.length∧(Y.length:Int)<H∧(Y.length:Int)<T)):bB H T X Y:=
 fun bz zo cap Z va vb w h1 h2 h3 h4 h5 h6 h7 h8 h9=>iE H T bz zo cap Z va vb X Y w h1 h2 h3 h4 (h5.off _ _) (h6.off _ _) h7 h8 h9 hs

theorem Arg.drop {w:World}{b off n cap:Nat}{X:List Nat}(h:Arg w (.slice (some ⟨b,off,none⟩) n cap) X)(i:Nat)(hi:i≤n):Arg w (.slice (some ⟨b,off+i,none⟩) (n - i) (cap - i)) (X.drop i):=by
 obtain⟨ao,c,h1,h2,h3,h4⟩:=h.form
 cases h1
 have hl:(X.drop i).length=X.length - i:=by simp
 refine⟨⟨_,_,by rw [hl],by rw [hl];omega,by omega,?_⟩,fun z hz=>h.limbs z (List.mem_of_mem_drop hz),by rw [hl];have:=h.few;omega,fun n c e=>by cases e⟩
 rcases h4 with h4|⟨b',off',he,hc⟩
 ·subst h4;exact .inl (by simp)
 ·cases he
  refine .inr ⟨b,off+i,rfl,fun k hk=>?_⟩
  rw [hl] at hk
  rw [Nat.add_assoc,hc (i+k) (by omega)]
  simp [List.getD]

theorem d6 (X:List Nat):aK X≤X.length:=by
 induction X with
 | nil=>simp [aK]
 | cons z r ih=>
  rw [aK]
  split
  ·split
   ·simp
   ·simp;omega
  ·simp

theorem dP (X:List Nat):val X=18446744073709551616 ^ aK X*val (X.drop (aK X)):=by
 induction X with
 | nil=>simp [aK,val]
 | cons z r ih=>
  rw [aK]
  by_cases hz:z=0
  ·subst hz
   rw [if_pos rfl]
   by_cases hr:val r=0
   ·rw [if_pos hr];simp
   ·rw [if_neg hr,val,List.drop_succ_cons]
    conv=>lhs;rw [ih]
    rw [Nat.pow_succ,Nat.zero_add]
    grind
  ·rw [if_neg hz];simp

theorem fh (X:List Nat)(h:val X≠0):aK X<X.length:=by
 refine Nat.lt_of_not_le fun hle=>h ?_
 rw [dP,List.drop_of_length_le hle];simp [val]

theorem iI (Z:List Nat)(X Y:List Nat)(i j n:Nat)(hi:i≤X.length)(hj:j≤Y.length)(hn:n=X.length+Y.length)(h1:val X=18446744073709551616 ^ i*val (X.drop i))(h2:val Y=18446744073709551616 ^ j*val (Y.drop j))
  (ho:Out (List.replicate n 0) Z (i+j) (i+j+(X.length - i+(Y.length - j)))) (hs:sv Z (i+j) (X.length - i+(Y.length - j))=val (X.drop i)*val (Y.drop j)):val Z=val X*val Y:=by
 have hl:Z.length=n:=by rw [ho.len];simp
 have e0:sv Z 0 (i+j)=0:=by
  rw [ho.sv 0 (i+j) (by omega)]
  unfold sv seg
  rw [List.drop_replicate,List.take_replicate,val_replicate]
 have e1:sv Z 0 (i+j+(X.length - i+(Y.length - j)))=val Z:=by
  rw [show i+j+(X.length - i+(Y.length - j))=Z.length by omega,aR]
 rw [ag _ _ _ _ (by omega),e0,Nat.zero_add,Nat.zero_add,hs] at e1
 rw [←e1,h1,h2,Nat.pow_add]
 have:∀a b c d:Nat,a*b*(c*d)=a*c*(b*d):=fun a b c d=>by grind
 rw [this]

def hC (v u:Value):Prop:=(∀bz lo hi,Off u bz lo hi→Off v bz lo hi)∧∀bz,be u bz→be v bz

theorem Arg.cut {w:World}{b off n cap:Nat}{X:List Nat}(h:Arg w (.slice (some ⟨b,off,none⟩) n cap) X)(i m:Nat)(hi:i+m≤n):Arg w (.slice (some ⟨b,off+i,none⟩) m (cap - i)) ((X.drop i).take m):=by
 obtain⟨ao,c,h1,h2,h3,h4⟩:=h.form
 cases h1
 have hl:((X.drop i).take m).length=m:=by simp;omega
 refine⟨⟨_,_,by rw [hl],by rw [hl];omega,by omega,?_⟩,fun z hz=>h.limbs z (List.mem_of_mem_drop (List.mem_of_mem_take hz)),by rw [hl];have:=h.few;omega,fun n c e=>by cases e⟩
 rcases h4 with h4|⟨b',off',he,hc⟩
 ·subst h4;exact .inl (by simp)
 ·cases he
  refine .inr ⟨b,off+i,rfl,fun k hk=>?_⟩
  rw [hl] at hk
  rw [Nat.add_assoc,hc (i+k) (by omega)]
  simp [List.getD,hk]

theorem go (b off n cap i m:Nat)(hi:i+m≤n):hC (.slice (some ⟨b,off+i,none⟩) m (cap - i)) (.slice (some ⟨b,off,none⟩) n cap):=⟨fun bz lo hi' h b' off' n' c' e=>by
 cases e
 rcases h b off n cap rfl with h1|h1|h1
 ·exact .inl h1
 ·exact .inr (.inl (by omega))
 ·exact .inr (.inr (by omega)),fun bz h b' off' n' c' e=>by
 cases e
 exact h b off n cap rfl⟩

theorem iP (b off cap at' m:Nat)(X:List Nat)(w:World)(hA:Arg w (.slice (some ⟨b,off,none⟩) X.length cap) X)(hat:at'<X.length)(hm:m≤1125899906842624) :
  Calls Tryz.prog 149 #[.slice (some ⟨b,off,none⟩) X.length cap,.int .i64 at',.int .i64 m] w fun e w'=>(∃v,e=.returned v∧Arg w v ((X.drop at').take m)∧hC v (.slice (some ⟨b,off,none⟩) X.length cap))∧w'=w:=by
 have hX:=hA.few
 obtain⟨_,_,e0,hcc,hcm,_⟩:=hA.form
 cases e0
 have i1:(at':Int)<(X.length:Int):=by omega
 have i2:(0:Int)≤(at':Int):=by omega
 have k1:¬cap=at':=by omega
 have m1:min (at':Int) (X.length:Int)=(at':Int):=by omega
 by_cases h:at'+m≤X.length
 ·have HA:=aa (hA.cut at' m h)
  have HW:=aa (go b off X.length cap at' m h)
  obtain⟨s,es,hs1,hs2,es2⟩:∃s:Nat,(at':Int)+(m:Int)=(s:Int)∧s≤X.length∧at'≤s∧s - at'=m:=⟨at'+m,by omega,h,by omega,by omega⟩
  have i3:(s:Int)≤(X.length:Int):=by omega
  have i4:(at':Int)≤(s:Int):=by omega
  have m2:min (s:Int) (X.length:Int)=(s:Int):=by omega
  clear hA h
  go_enter Tryz.func149,Tryz.ntmps149
  go_wp2
  go_ret
  exact⟨⟨_,rfl,HA.out,HW.out⟩,rfl⟩
 ·have et:(X.drop at').take m=(X.drop at').take (X.length - at'):=by
   rw [List.take_of_length_le (by simp;omega),List.take_of_length_le (by simp)]
  have HA:=aa (hA.cut at' (X.length - at') (by omega))
  rw [←et] at HA
  have HW:=aa (go b off X.length cap at' (X.length - at') (by omega))
  obtain⟨s,es,hs1⟩:∃s:Nat,(at':Int)+(m:Int)=(s:Int)∧X.length≤s:=⟨at'+m,by omega,by omega⟩
  have m2:min (s:Int) (X.length:Int)=(X.length:Int):=by omega
  have i4:(at':Int)≤(X.length:Int):=by omega
  clear hA h et
  go_enter Tryz.func149,Tryz.ntmps149
  go_wp2
  go_ret
  exact⟨⟨_,rfl,HA.out,HW.out⟩,rfl⟩

theorem mg (X:List Nat)(t l y:Nat):val (X.take (t+l))*y=val (X.take t)*y+18446744073709551616 ^ t*(val ((X.drop t).take l)*y)∨X.length<t:=by
 by_cases h:t≤X.length
 ·left
  rw [List.take_add,val_append,List.length_take,Nat.min_eq_left h,Nat.add_mul,Nat.mul_assoc]
 ·exact .inr (by omega)

theorem ou (X:List Nat)(t:Nat):val (X.take t)≤val X:=by
 conv=>rhs;rw [←List.take_append_drop t X,val_append]
 omega

theorem fs (Z:List Nat)(o t n p tot:Nat)(ht:t≤n)(ho:o+n≤Z.length)(h:sv Z o n+18446744073709551616 ^ t*p≤tot)(htot:tot<18446744073709551616 ^ n):sv Z (o+t) (n - t)+p<18446744073709551616 ^ (n - t):=by
 obtain⟨d,rfl⟩:∃d,n=t+d:=⟨n - t,by omega⟩
 rw [ag _ _ _ _ (by omega)] at h
 rw [Nat.pow_add] at htot
 rw [Nat.add_sub_cancel_left]
 have h2:18446744073709551616 ^ t*(sv Z (o+t) d+p)<18446744073709551616 ^ t*18446744073709551616 ^ d:=by
  rw [Nat.mul_add];omega
 exact Nat.lt_of_mul_lt_mul_left h2

theorem d8 (Z Z':List Nat)(o t n p:Nat)(ht:t≤n)(ho:o+n≤Z.length)(hO:Out Z Z' (o+t) (o+n))(h:sv Z' (o+t) (n - t)=sv Z (o+t) (n - t)+p):sv Z' o n=sv Z o n+18446744073709551616 ^ t*p:=by
 obtain⟨d,rfl⟩:∃d,n=t+d:=⟨n - t,by omega⟩
 rw [Nat.add_sub_cancel_left] at h
 rw [ag Z' _ _ _ (by rw [hO.len];omega),ag Z _ _ _ (by omega),h,hO.sv o t (by omega),Nat.mul_add]
 omega
end Go.Proofs.YtcbpdngogkbndaaGreatDoor
namespace Go.Proofs.YtcbpdngogkbndaaGreatDoor
open Go.RowKit
open Lm
attribute [local go_sem ↓] Go.wp_at_zero Go.wp_at_succ

theorem fg (bz zo n cap:Nat)(Z:List Nat)(w:World)(hB:Blk w bz Z)(hLZ:Limbs Z)(hzo:zo+n≤Z.length) :
  ∃(w1:World) (Z1:List Nat),(∀ty,(Builtin.clear_ #[25] ty #[.slice (some ⟨bz,zo,none⟩) n cap]).run Tryz.prog w=.ok (.tuple #[]) w1)∧Out Z Z1 zo (zo+n)∧Limbs Z1∧Blk w1 bz Z1∧Fr bz w w1∧sv Z1 zo n=0:=by
 rcases Nat.eq_zero_or_pos n with h0|h0
 ·subst h0
  exact⟨w,Z,fun ty=>ft _ _ _ _,Out.refl _ _ _,hLZ,hB,Fr.refl _ _,aH _ _⟩
 ·have hlr:(List.replicate n 0).length=n:=by simp
  have e1:=bN (List.replicate n 0) Z zo
  have e2:=cd (List.replicate n 0) Z zo (by rw [hlr];exact hzo)
  rw [hlr] at e1 e2
  exact⟨_,lay Z zo (List.replicate n 0),fun ty=>di bz zo _ cap Z w ty hB hzo h0,e1,bW _ (limbs_replicate _) _ _ hLZ,Blk.setCells _ _ hB,(Fr.refl _ _).setCells _ _,by rw [e2,val_replicate]⟩

theorem Fr.blk {bz g:Nat}{w w':World}{M:List Nat}(h:Fr bz w w')(hb:Blk w g M)(hne:g≠bz):Blk w' g M:=by
 unfold Blk
 rw [h.block g hb.lt hne];exact hb

theorem Blk.below' {w w':World}{b:Nat}{xs:List Nat}(h:Blk w b xs)(hb:Below w.heap.size w w'):Blk w' b xs:=by
 unfold Blk
 rw [hb.block b h.lt];exact h

theorem Fr.other {bz g:Nat}{w a b:World}(h:Fr bz w a)(k:Fr g a b)(hg:w.heap.size≤g):Fr bz w b:=
 ⟨k.os.trans h.os,k.tape.trans h.tape,k.output.trans h.output,Nat.le_trans h.size k.size,fun i h1 h2=>(k.block i (Nat.lt_of_lt_of_le h1 h.size) (by omega)).trans (h.block i h1 h2)⟩

theorem Arg.block {w:World}{b off n c:Nat}{X:List Nat}(h:Arg w (.slice (some ⟨b,off,none⟩) n c) X)(h0:0<X.length):b<w.heap.size:=by
 obtain⟨ao,cc,e,_,_,hl⟩:=h.form
 cases e
 exact ak.block hl h0

theorem Off.far {v:Value}{g lo hi:Nat}{w:World}{X:List Nat}(hA:Arg w v X)(h0:0<X.length)(hg:w.heap.size≤g):Off v g lo hi:=fun b off n c e=>by
 subst e
 have:=hA.block h0
 exact .inl (by omega)

theorem be.far {v:Value}{g:Nat}{w:World}{X:List Nat}(hA:Arg w v X)(h0:0<X.length)(hg:w.heap.size≤g):be v g:=fun b off n c e=>by
 subst e
 have:=hA.block h0
 omega

theorem Blk.take_arg {w:World}{g:Nat}{M:List Nat}(h:Blk w g M)(hl:Limbs M)(s cap:Nat)(hs:s≤M.length)(hc:s≤cap)(hm:cap≤1125899906842624):Arg w (.slice (some ⟨g,0,none⟩) s cap) (M.take s):=by
 have e:(M.take s).length=s:=by simp;omega
 refine⟨⟨_,cap,by rw [e],by omega,by omega,.inr ⟨g,0,rfl,fun k hk=>?_⟩⟩,fun z hz=>hl z (List.mem_of_mem_take hz),by omega,fun n c e=>by cases e⟩
 rw [e] at hk
 rw [Nat.zero_add,h.cell k (by omega)]
 simp [List.getD,hk]

theorem mt (M:List Nat)(s:Nat):val (M.take s)=sv M 0 s:=by simp [sv,seg]

theorem dS (H T:Int)(bz zo cap:Nat)(Z:List Nat)(va vb:Value)(X Y:List Nat)(w:World)(hB:Blk w bz Z)(hLZ:Limbs Z)(hA:Arg w va X)(hA2:Arg w vb Y)
  (ho:Off va bz zo (zo+(X.length+Y.length))) (ho2:Off vb bz zo (zo+(X.length+Y.length))) (hzo:zo+(X.length+Y.length)≤Z.length) (hc1:X.length+Y.length≤cap) (hc2:cap≤9223372036854775807)
  (hY:0<Y.length) (hlY:Y.length≤17592186044000) (hI:∀t,t<X.length→bB H T ((X.drop t).take Y.length) Y) :
  Calls Tryz.prog 138 #[way H T,.slice (some ⟨bz,zo,none⟩) (X.length+Y.length) cap,va,vb] w (au bz zo (X.length+Y.length) Z w (val X*val Y)):=by
 generalize hn:X.length+Y.length=n at *
 have hn1:n≤X.length+Y.length:=by omega
 have hn2:X.length+Y.length≤n:=by omega
 have HEN:=aa hn
 clear hn
 unfold way
 obtain⟨a1,c1,rfl,hcc1,hcm1,hl1⟩:=hA.form
 obtain⟨a2,c2,rfl,hcc2,hcm2,hl2⟩:=hA2.form
 have fX:=hA.few
 obtain⟨i0,hi,hz0,hz1,hz2⟩:=info_parts Tryz.infoU
 obtain⟨w1,hw1⟩:∃w1,w1=w.alloc (.cells #[.int .i64 H,.int .i64 T] 135):=⟨_,rfl⟩
 have hbel1:Below w.heap.size w w1:=by rw [hw1];exact (Below.refl _ _).alloc (Nat.le_refl _) _
 have hs1:w1.heap.size=w.heap.size+1:=by rw [hw1];simp
 have hb1:w1.heap[w.heap.size]?=some (.cells #[.int .i64 H,.int .i64 T] 135):=by rw [hw1];exact heap_alloc_new ..
 have hbz:=hB.lt
 have hB1:Blk w1 bz Z:=by rw [hw1];exact hB.alloc _
 obtain⟨w2,Z2,hrun,hO2,hL2,hB2,hF2,hS2⟩:=fg bz zo n cap Z w1 hB1 hLZ hzo
 have hbx2:w2.heap[w.heap.size]?=some (.cells #[.int .i64 H,.int .i64 T] 135):=by rw [hF2.block w.heap.size (by omega) (by omega)];exact hb1
 have HF02:=aa ((Fr.of_below (bz:=bz) hbel1).trans hF2)
 have hs2:=hF2.size
 have HW1:=aa hw1
 have HO2:=aa hO2
 have HB2:=aa hB2
 have HX2:=aa hbx2
 have HS2:=aa hS2
 have HII:=aa hI
 have HHA:=aa hA
 have HHA2:=aa hA2
 have HOF:=aa ho
 have HOF2:=aa ho2
 have HB0:=aa hB
 have mX:=val_lt hA.limbs
 have mY:=val_lt hA2.limbs
 have HTOT:Hid (val X*val Y<18446744073709551616 ^ (X.length+Y.length)):=aa (by rw [Nat.pow_add];exact Nat.mul_lt_mul'' mX mY)
 clear hw1 hbel1 hb1 hB1 hO2 hB2 hbx2 hF2 hS2 hI hA hA2 ho ho2 hl1 hl2 mX mY hB hLZ
 obtain⟨L,hL1,eL⟩:∃L:Nat,L=2*Y.length∧(2:Int)*(Y.length:Int)=(L:Int):=⟨2*Y.length,rfl,by omega⟩
 have hLa:L≤2*Y.length:=by omega
 have hLb:2*Y.length≤L:=by omega
 clear hL1
 rw [HW1.out] at hrun
 go_enter Tryz.func138,Tryz.ntmps138
 go_wp2_with (at_make;refine wpList_make_full _ rfl _ _ 25 rfl w2.heap.size 60 i0 (.int .u64 0) 1 Tryz.underlying25 hi hz0 hz1 .i64 .i64 _ _ L rfl rfl (by omega) (by omega) (by rw [hz2];omega) (by unfold maxLen;omega) (Nat.le_refl _) ?_;intro w3 hown hgrow)
 have hm3:=Blk.made hown
 have hbel3:Below w2.heap.size w2 w3:=(Below.refl _ _).grown hgrow (Nat.le_refl _) (fun k hk=>by cases hk)
 obtain⟨g,hg⟩:∃g,g=w2.heap.size:=⟨_,rfl⟩
 rw [←hg] at hm3 ⊢
 have hgw:w.heap.size<g:=by omega
 have hgbz:g≠bz:=by omega
 have HB3:Hid (Blk w3 bz Z2):=aa (HB2.out.below' hbel3)
 have HX3:Hid (w3.heap[w.heap.size]?=some (.cells #[.int .i64 H,.int .i64 T] 135)):=aa (by rw [hbel3.block w.heap.size (by omega)];exact HX2.out)
 have HF3:Hid (Fr bz w w3):=aa (HF02.out.trans (Fr.of_below hbel3))
 clear hown hgrow hi hz0 hz1 hz2 hg hbel3 HB2 HX2 HF02 hrun HW1
 go_loopw [9] (fun i wr=>∃(t:Nat) (Z' M:List Nat),t≤n∧i=.int .i64 t∧Out Z Z' zo (zo+n)∧Limbs Z'∧Blk wr bz Z'∧M.length=L∧Limbs M∧Blk wr g M∧wr.heap[w.heap.size]?=some (.cells #[.int .i64 H,.int .i64 T] 135)∧Fr bz w wr ∧
   sv Z' zo n=val (X.take t)*val Y) (fun i _=>X.length - (intOf i).toNat)
 case atStart=>exact⟨0,Z2,_,Nat.zero_le _,rfl,HO2.out,hL2,HB3.out,by simp,limbs_replicate _,hm3,HX3.out,HF3.out,by rw [HS2.out];simp [val]⟩
 case round=>
  obtain⟨t,Z',M,htn,rfl,hout,hlz,hblk,hML,hMl,hM,hbx,hfr0,hval⟩:=hrel
  clear HB3 HX3 HF3 hm3 HO2 hL2 HS2
  have hl:=hout.len
  by_cases htl:t<X.length
  ·have hAX:=HHA.out.fr HOF.out hfr0 HB0.out hblk hout
   have hAY:=HHA2.out.fr HOF2.out hfr0 HB0.out hblk hout
   obtain⟨ao,cc,e0,_,_,hlx⟩:=hAX.form
   cases e0
   rcases hlx with h0|⟨b,off,rfl,_⟩
   ·rw [h0] at htl;simp at htl
   have HP:=iP b off c1 t Y.length X wr hAX htl (by omega)
   have lP:((X.drop t).take Y.length).length≤Y.length:=by simp;omega
   have hstep:=(mg X t Y.length (val Y)).resolve_right (by omega)
   have htot2:val (X.take (t+Y.length))*val Y≤val X*val Y:=Nat.mul_le_mul_right _ (ou X _)
   have hIP:=HII.out t htl
   have hOg:be (.slice (some ⟨b,off,none⟩) X.length c1) g:=be.far HHA.out (by omega) (by omega)
   have hOg2:be (.slice a2 Y.length c2) g:=be.far HHA2.out hY (by omega)
   have hc0:wr.cell? ⟨w.heap.size,0,none⟩=some (.int .i64 H):=by simp [World.cell?,hbx]
   have hc1':wr.cell? ⟨w.heap.size,1,none⟩=some (.int .i64 T):=by simp [World.cell?,hbx]
   generalize (X.drop t).take Y.length=P at *
   have HST:=aa hstep
   have HT2:=aa htot2
   have HV:=aa hval
   have HBX:=aa hbx
   have HHM:=aa hM
   have HBK:=aa hblk
   have HFR:=aa hfr0
   have HO:=aa hout
   have HAY:=aa hAY
   clear hstep htot2 hval hbx hAX hblk hfr0 hout hAY
   go_wp2_with fail
   refine HP.mono ?_
   rintro e w4 ⟨⟨v,rfl,AP,HWi⟩,hw⟩
   subst hw
   obtain⟨ap,cp,rfl,hcp1,hcp2,_⟩:=AP.form
   have HI:=hIP g 0 L M _ _ w4 hM hMl AP HAY.out (HWi.2 _ hOg) hOg2 (by omega) (by omega) (by omega)
   obtain⟨s,es1,es2,hs1,hs2⟩:∃s:Nat,P.length+Y.length=s∧(P.length:Int)+(Y.length:Int)=(s:Int)∧s≤L∧P.length+Y.length≤s:=⟨_,rfl,by omega,by omega,Nat.le_refl _⟩
   rw [es1] at HI
   unfold way at HI
   have is1:(s:Int)≤(L:Int):=by omega
   have is0:(0:Int)≤(s:Int):=by omega
   clear es1 HP hOg hOg2 AP HWi hM
   go_wp2_with fail
   refine HI.mono ?_
   rintro e w5 ⟨rfl,M',hO5,hl5,hB5,hF5,hv5⟩
   have hB5z:=hF5.blk HBK.out (Ne.symm hgbz)
   have hbx5:w5.heap[w.heap.size]?=some (.cells #[.int .i64 H,.int .i64 T] 135):=by
    rw [hF5.block w.heap.size (by have:=HHM.out.lt;omega) (by omega)];exact HBX.out
   have hM5:M'.length=L:=by rw [hO5.len];exact hML
   have hle5:sv Z' zo n+18446744073709551616 ^ t*(val P*val Y)≤val X*val Y:=by
    rw [HV.out,←HST.out];exact HT2.out
   have hvt:val (M'.take s)=val P*val Y:=by rw [mt,hv5]
   have hfit:=fs Z' zo t n (val P*val Y) _ (by omega) (by omega) hle5 (by rw [←HEN.out];exact HTOT.out)
   have HPl:=cz bz (zo+t) (n - t) (cap - t) Z' _ (M'.take s) w5 hB5z hlz (hB5.take_arg hl5 s L (by omega) (by omega) (by omega)) (fun b' off' n' c' e=>by cases e;exact .inl hgbz) (by omega) (by omega) (by omega) (by rw [hvt];exact hfit)
   rw [hvt] at HPl
   have HF5:=aa (HFR.out.other hF5 (by omega))
   have HB5:=aa hB5
   have HX5:=aa hbx5
   have k9:¬cap=t:=by omega
   have it1:(t:Int)≤(n:Int):=by omega
   have it0:(0:Int)≤(t:Int):=by omega
   clear hO5 hB5 hF5 hv5 hB5z hbx5 hle5 hvt hfit HI HBX HHM HBK HFR hc0 hc1'
   go_wp2_with fail
   refine HPl.mono ?_
   rintro e w6 ⟨rfl,Z'',hO6,hl6,hB6,hF6,hv6⟩
   rw [show zo+t+(n - t)=zo+n by omega] at hO6
   have HV6:=aa (d8 Z' Z'' zo t n _ (by omega) (by omega) hO6 hv6)
   rw [HV.out,←HST.out] at HV6
   have HO6:=aa (HO.out.trans (hO6.wider (by omega) (Nat.le_refl _)))
   have HB6:=aa hB6
   have HM6:=aa (hF6.blk HB5.out hgbz)
   have HX6:Hid (w6.heap[w.heap.size]?=some (.cells #[.int .i64 H,.int .i64 T] 135)):=aa (by rw [hF6.block w.heap.size (by have:=HB5.out.lt;omega) (by omega)];exact HX5.out)
   have HF6:=aa (HF5.out.trans hF6)
   clear hO6 hB6 hF6 hv6 HPl HV HST HT2
   go_wp2
   go_roundw
   case rel=>exact⟨t+Y.length,Z'',M',by omega,by go_num,HO6.out,hl6,HB6.out,hM5,hl5,HM6.out,HX6.out,HF6.out,HV6.out⟩
   case measure=>simp [intOf];omega
  ·have HV:Hid (sv Z' zo n=val X*val Y):=aa (by rw [hval,List.take_of_length_le (by omega)])
   have HD:=aa (And.intro hout (And.intro hlz (And.intro hblk hfr0)))
   clear hout hlz hblk hM hbx hfr0 hval hMl hML
   go_wp2
   go_end0
   exact⟨rfl,Z',HD.out.1,HD.out.2.1,HD.out.2.2.1,HD.out.2.2.2,HV.out⟩
end Go.Proofs.YtcbpdngogkbndaaGreatDoor
namespace Go.Proofs.YtcbpdngogkbndaaGreatDoor
open Go.RowKit
open Lm

def fI (w:World)(n p:Nat)(e:Ending)(w':World):Prop:=
 ∃(g:Nat) (Z':List Nat),e=.returned (.slice (some ⟨g,0,none⟩) n n)∧w.heap.size≤g∧Z'.length=n∧Limbs Z'∧Blk w' g Z'∧val Z'=p∧Below w.heap.size w w'

theorem n6 (H T:Int)(va vb:Value)(X Y:List Nat)(w:World)(hA:Arg w va X)(hA2:Arg w vb Y)(hX:0<X.length)(hY:0<Y.length)(hf:X.length+Y.length≤35184372088831)(hI:bB H T X Y) :
  Calls Tryz.prog 142 #[way H T,va,vb] w (fI w (X.length+Y.length) (val X*val Y)):=by
 unfold way
 obtain⟨a1,c1,rfl,hcc1,hcm1,_⟩:=hA.form
 obtain⟨a2,c2,rfl,hcc2,hcm2,_⟩:=hA2.form
 obtain⟨i0,hi,hz0,hz1,hz2⟩:=info_parts Tryz.infoU
 obtain⟨w1,hw1⟩:∃w1,w1=w.alloc (.cells #[.int .i64 H,.int .i64 T] 135):=⟨_,rfl⟩
 have hbel1:Below w.heap.size w w1:=by rw [hw1];exact (Below.refl _ _).alloc (Nat.le_refl _) _
 have hs1:w1.heap.size=w.heap.size+1:=by rw [hw1];simp
 have hb1:w1.heap[w.heap.size]?=some (.cells #[.int .i64 H,.int .i64 T] 135):=by rw [hw1];exact heap_alloc_new ..
 have HW1:=aa hw1
 have B1:=aa hbel1
 have HX1:=aa hb1
 clear hw1 hbel1 hb1
 obtain⟨n,hn,en⟩:∃n:Nat,X.length+Y.length=n∧(X.length:Int)+(Y.length:Int)=(n:Int):=⟨_,rfl,by omega⟩
 rw [hn]
 have hn1:n≤35184372088831:=by omega
 have HN:=aa hn
 clear hn
 go_enter Tryz.func142,Tryz.ntmps142
 go_wp2_with (at_make;(rw [←HW1.out];refine wpList_make_full _ rfl _ _ 25 rfl w1.heap.size 60 i0 (.int .u64 0) 1 Tryz.underlying25 hi hz0 hz1 .i64 .i64 _ _ n rfl rfl (by omega) (by omega) (by rw [hz2];omega) (by unfold maxLen;omega) (Nat.le_refl _) ?_;intro w3 hown hgrow;have hm3:=Blk.made hown;have hbel3:Below w1.heap.size w1 w3:=(Below.refl _ _).grown hgrow (Nat.le_refl _) (fun k hk=>by cases hk);have hbx3:w3.heap[w.heap.size]?=some (.cells #[.int .i64 H,.int .i64 T] 135):=(hbel3.block w.heap.size (by omega)).trans HX1.out;have hc0:w3.cell? ⟨w.heap.size,0,none⟩=some (.int .i64 H):=(by simp [World.cell?,hbx3]);have hc1:w3.cell? ⟨w.heap.size,1,none⟩=some (.int .i64 T):=(by simp [World.cell?,hbx3]);clear hown hgrow hbx3))
 rw [hs1] at hm3
 have B3:Hid (Below w.heap.size w w3):=aa (B1.out.trans (hbel3.mono B1.out.size))
 obtain⟨g,hg⟩:∃g,g=w.heap.size+1:=⟨_,rfl⟩
 rw [←hg] at hm3 ⊢
 have HI:=hI g 0 n (List.replicate n 0) _ _ w3 hm3 (limbs_replicate _) (hA.below B3.out) (hA2.below B3.out) (be.far hA hX (by omega)) (be.far hA2 hY (by omega)) (by simp;have:=HN.out;omega) (by have:=HN.out;omega) (by omega)
 rw [HN.out] at HI
 unfold way at HI
 have HG:=aa hg
 clear hg hm3 hbel3 hA hA2 hI
 go_wp2_with fail
 refine HI.mono ?_
 rintro e w5 ⟨rfl,Z',hO5,hl5,hB5,hF5,hv5⟩
 have hlen:Z'.length=n:=by rw [hO5.len];simp
 have hv:val Z'=val X*val Y:=by rw [←hv5,←hlen,aR]
 have HD:Hid (w.heap.size≤g∧Z'.length=n∧Limbs Z'∧Blk w5 g Z'∧val Z'=val X*val Y∧Below w.heap.size w w5):=aa ⟨by have:=HG.out;omega,hlen,hl5,hB5,hv,B3.out.trans (hF5.below (by have:=HG.out;omega) B3.out.size)⟩
 clear hO5 hl5 hB5 hF5 hv5 hv hlen HI B3
 go_wp2
 go_ret
 exact⟨g,Z',rfl,HD.out⟩

theorem jR (a0 a1 b0 b1 da db:Nat)(ha:da=if a0<a1 then a1 - a0 else a0 - a1)(hb:db=if b0<b1 then b1 - b0 else b0 - b1) :
  (if decide (a0<a1)≠decide (b0<b1) then a0*b0+a1*b1+da*db else a0*b0+a1*b1 - da*db)=a0*b1+a1*b0:=by
 subst ha;subst hb
 by_cases h1:a0<a1 <;> by_cases h2:b0<b1
 ·obtain⟨p,rfl⟩:∃p,a1=a0+p:=⟨a1 - a0,by omega⟩
  obtain⟨q,rfl⟩:∃q,b1=b0+q:=⟨b1 - b0,by omega⟩
  simp only [h1,h2,decide_true,if_true,ne_eq,not_true_eq_false,if_false,Nat.add_sub_cancel_left]
  have:a0*b0+(a0+p)*(b0+q)=a0*(b0+q)+(a0+p)*b0+p*q:=by grind
  omega
 ·obtain⟨p,rfl⟩:∃p,a1=a0+p:=⟨a1 - a0,by omega⟩
  obtain⟨q,rfl⟩:∃q,b0=b1+q:=⟨b0 - b1,by omega⟩
  simp only [h1,h2,decide_true,decide_false,if_true,if_false,ne_eq,Bool.true_eq_false,not_false_eq_true,Nat.add_sub_cancel_left]
  grind
 ·obtain⟨p,rfl⟩:∃p,a0=a1+p:=⟨a0 - a1,by omega⟩
  obtain⟨q,rfl⟩:∃q,b1=b0+q:=⟨b1 - b0,by omega⟩
  simp only [h1,h2,decide_true,decide_false,if_true,if_false,ne_eq,Bool.false_eq_true,not_false_eq_true,Nat.add_sub_cancel_left]
  grind
 ·obtain⟨p,rfl⟩:∃p,a0=a1+p:=⟨a0 - a1,by omega⟩
  obtain⟨q,rfl⟩:∃q,b0=b1+q:=⟨b0 - b1,by omega⟩
  simp only [h1,h2,decide_false,if_false,ne_eq,not_true_eq_false,Nat.add_sub_cancel_left]
  have:(a1+p)*(b1+q)+a1*b1=(a1+p)*b1+a1*(b1+q)+p*q:=by grind
  omega

theorem Arg.drew {w:World}{v:Value}{zs:List Nat}(h:Arg w v zs):Arg w.drew v zs:=h.below (Below.refl _ _).drew

theorem Arg.front {w:World}{b off n cap:Nat}{X:List Nat}(h:Arg w (.slice (some ⟨b,off,none⟩) n cap) X)(m:Nat)(hm:m≤n):Arg w (.slice (some ⟨b,off,none⟩) m cap) (X.take m):=h.cut 0 m (by omega)

theorem bk (X:List Nat)(h:Nat)(hh:h≤X.length):val X=val (X.take h)+18446744073709551616 ^ h*val (X.drop h):=by
 conv=>lhs;rw [←List.take_append_drop h X,val_append]
 rw [List.length_take,Nat.min_eq_left hh]

theorem bM {X:List Nat}(hX:Limbs X)(h:Nat)(hh:h≤X.length):val (X.take h)<18446744073709551616 ^ h:=by
 have:=val_lt (zs:=X.take h) (fun z hz=>hX z (List.mem_of_mem_take hz))
 rwa [List.length_take,Nat.min_eq_left hh] at this

theorem cS {X:List Nat}(hX:Limbs X)(h m:Nat)(hh:X.length≤h+m):val (X.drop h)<18446744073709551616 ^ m:=by
 have h1:=val_lt (zs:=X.drop h) (fun z hz=>hX z (List.mem_of_mem_drop hz))
 refine Nat.lt_of_lt_of_le h1 (Nat.pow_le_pow_right (by omega) ?_)
 simp;omega

theorem Fr.undrew {bz:Nat}{w w':World}(h:Fr bz w.drew w'):Fr bz w w':=⟨h.os,h.tape,h.output,h.size,h.block⟩

theorem Arg.frb {w w':World}{b off n c bz:Nat}{X:List Nat}(h:Arg w (.slice (some ⟨b,off,none⟩) n c) X)(hf:Fr bz w w')(hb:b≠bz):Arg w' (.slice (some ⟨b,off,none⟩) n c) X:=by
 obtain⟨ao,cc,e,h2,h3,hl⟩:=h.form
 cases e
 refine⟨⟨_,_,rfl,h2,h3,?_⟩,h.limbs,h.few,h.nz⟩
 rcases hl with h0|⟨b',off',e,hc⟩
 ·exact .inl h0
 ·cases e
  rcases Nat.eq_zero_or_pos X.length with h0|h0
  ·exact .inl (List.length_eq_zero_iff.1 h0)
  ·have hlt:b<w.heap.size:=ak.block (zs:=X) (.inr ⟨b,off,rfl,hc⟩) h0
   refine .inr ⟨b,off,rfl,fun k hk=>?_⟩
   rw [World.cell?_of_block (w:=w) (hf.block b hlt hb)]
   exact hc k hk

theorem Blk.seg_arg {w:World}{g:Nat}{M:List Nat}(h:Blk w g M)(hl:Limbs M)(o n cap:Nat)(hs:o+n≤M.length)(hc:n≤cap)(hm:cap≤9223372036854775807)(hn:n≤1125899906842624):Arg w (.slice (some ⟨g,o,none⟩) n cap) (seg M o n):=by
 have e:=aT M o n hs
 refine⟨⟨_,cap,by rw [e],by omega,hm,.inr ⟨g,o,rfl,fun k hk=>?_⟩⟩,cV hl o n,by omega,fun n c e=>by cases e⟩
 rw [e] at hk
 rw [h.cell (o+k) (by omega),cN _ _ _ _ hk]

theorem nN (n k:Nat):(List.replicate n 0).getD k 0=0:=by
 by_cases h:k<n
 ·simp [List.getD,h]
 ·simp [List.getD,h]

theorem fH (h d:Nat)(e:d=h+h):18446744073709551616 ^ d=18446744073709551616 ^ h*18446744073709551616 ^ h:=by
 rw [e,Nat.pow_add]

theorem gO {a b d:Nat}(ha:a<18446744073709551616 ^ d)(hb:b<18446744073709551616 ^ d):a+b<18446744073709551616 ^ (d+1):=by
 rw [Nat.pow_succ]
 generalize (18446744073709551616:Nat) ^ d=P at *
 omega

theorem kA (a0 a1 b0 b1 da db:Nat)(ha:da=if a0<a1 then a1 - a0 else a0 - a1)(hb:db=if b0<b1 then b1 - b0 else b0 - b1)(h:decide (a0<a1)=decide (b0<b1)):da*db≤a0*b0+a1*b1:=by
 subst ha;subst hb
 by_cases h1:a0<a1
 ·have h2:b0<b1:=by simpa [h1] using h
  rw [if_pos h1,if_pos h2]
  exact Nat.le_trans (Nat.mul_le_mul (Nat.sub_le _ _) (Nat.sub_le _ _)) (Nat.le_add_left _ _)
 ·have h2:¬b0<b1:=by simpa [h1] using h
  rw [if_neg h1,if_neg h2]
  exact Nat.le_trans (Nat.mul_le_mul (Nat.sub_le _ _) (Nat.sub_le _ _)) (Nat.le_add_right _ _)

theorem mF (a0 a1 b0 b1 P:Nat):(a0+P*a1)*(b0+P*b1)=a0*b0+P*P*(a1*b1)+P*(a0*b1+a1*b0):=by grind

theorem gT (H T:Int)(bz zo cap h:Nat)(Z:List Nat)(b off c1 b2 off2 c2:Nat)(X Y:List Nat)(w:World)(hB:Blk w bz Z)(hLZ:Limbs Z)
  (hA:Arg w (.slice (some ⟨b,off,none⟩) X.length c1) X) (hA2:Arg w (.slice (some ⟨b2,off2,none⟩) Y.length c2) Y) (hb:b≠bz) (hb2:b2≠bz)
  (hzo:zo+(X.length+Y.length)≤Z.length) (hc1:X.length+Y.length≤cap) (hc2:cap≤9223372036854775807) (hh0:0<h) (hhY:h<Y.length) (hYX:Y.length≤X.length) (hXh:X.length≤2*h) (hlX:X.length≤4398046511103)
  (hI:∀P Q:List Nat,P.length+Q.length<X.length+Y.length→bB H T P Q) :
  Calls Tryz.prog 137 #[way H T,.slice (some ⟨bz,zo,none⟩) (X.length+Y.length) cap,.slice (some ⟨b,off,none⟩) X.length c1,.slice (some ⟨b2,off2,none⟩) Y.length c2,.int .i64 h] w (au bz zo (X.length+Y.length) Z w (val X*val Y)):=by
 unfold way
 obtain⟨_,_,e0,hcc1,hcm1,_⟩:=hA.form
 cases e0
 obtain⟨_,_,e0,hcc2,hcm2,_⟩:=hA2.form
 cases e0
 obtain⟨i0,hi,hz0,hz1,hz2⟩:=info_parts Tryz.infoU
 have hbz:=hB.lt
 have hbw:=hA.block (by omega)
 have hbw2:=hA2.block (by omega)
 obtain⟨w1,hw1⟩:∃w1,w1=w.alloc (.cells #[.int .i64 H,.int .i64 T] 135):=⟨_,rfl⟩
 have hbel1:Below w.heap.size w w1:=by rw [hw1];exact (Below.refl _ _).alloc (Nat.le_refl _) _
 have hs1:w1.heap.size=w.heap.size+1:=by rw [hw1];simp
 have hb1:w1.heap[w.heap.size]?=some (.cells #[.int .i64 H,.int .i64 T] 135):=by rw [hw1];exact heap_alloc_new ..
 have HW1:=aa hw1
 have HX1:=aa hb1
 have HB1:=aa (hB.below' hbel1)
 have HA1:=aa (hA.below hbel1)
 have HA2:=aa (hA2.below hbel1)
 have HF1:=aa (Fr.of_below (bz:=bz) hbel1)
 have HII:=aa hI
 clear hw1 hbel1 hb1 hB hA hA2 hI
 obtain⟨n,hn⟩:∃n:Nat,X.length+Y.length=n:=⟨_,rfl⟩
 have hn1:n≤X.length+Y.length:=by omega
 have hn2:X.length+Y.length≤n:=by omega
 rw [hn] at hzo hc1 HII ⊢
 have HN:=aa hn
 clear hn
 obtain⟨d,ed,hd1,hd2⟩:∃d:Nat,(2:Int)*(h:Int)=(d:Int)∧d≤2*h∧2*h≤d:=⟨2*h,by omega,by omega,by omega⟩
 obtain⟨R,eR,hR1,hR2⟩:∃R:Nat,(4:Int)*(h:Int)+1=(R:Int)∧R≤4*h+1∧4*h+1≤R:=⟨4*h+1,by omega,by omega,by omega⟩
 have wd:IntKind.i64.wrap (d:Int)=(d:Int):=by rw [IntKind.wrap_i64];omega
 have kd0:(0:Int)≤(d:Int):=by omega
 have kd1:(d:Int)≤(n:Int):=by omega
 have kd2:¬cap=d:=by omega
 have kd3:(d:Int)≤(cap:Int):=by omega
 go_enter Tryz.func137,Tryz.ntmps137
 go_wp2_with fail
 rw [←HW1.out]
 go_region
 go_wp2_with (at_make;refine wpList_make_full _ rfl _ _ 25 rfl w1.drew.heap.size 60 i0 (.int .u64 0) 1 Tryz.underlying25 hi hz0 hz1 .i64 .i64 _ _ R rfl rfl (by omega) (by omega) (by rw [hz2];omega) (by unfold maxLen;omega) (Nat.le_refl _) ?_;intro w3 hown hgrow)
 have hm3:Blk w3 (w.heap.size+1) (List.replicate R 0):=by rw [←hs1];exact Blk.made hown
 have hbel3:Below w1.heap.size w1 w3:=((Below.refl _ _).drew).grown hgrow (Nat.le_refl _) (fun k hk=>by cases hk)
 have HB3:=aa (HB1.out.below' hbel3)
 have HX3:Hid (w3.heap[w.heap.size]?=some (.cells #[.int .i64 H,.int .i64 T] 135)):=aa (by rw [hbel3.block w.heap.size (by omega)];exact HX1.out)
 have HF3:Hid (Fr bz w w3):=aa (HF1.out.trans (Fr.of_below hbel3))
 have HA3:=aa (HA1.out.below hbel3)
 have HA23:=aa (HA2.out.below hbel3)
 obtain⟨g,hg⟩:∃g,g=w.heap.size+1:=⟨_,rfl⟩
 rw [←hg] at hm3 ⊢
 have hgw:w.heap.size<g:=by omega
 have HM3:=aa hm3
 clear hown hgrow hi hz0 hz1 hz2 hbel3 HB1 HX1 HF1 HA1 HA2 HW1 hg hm3 hs1
 have mX:=HA3.out.limbs
 have mY:=HA23.out.limbs
 have kr1:(d:Int)≤(R:Int):=by omega
 have kr2:¬R=d:=by omega
 have kh0:(0:Int)≤(h:Int):=by omega
 have kh1:(h:Int)≤(d:Int):=by omega
 have kh2:(h:Int)≤(X.length:Int):=by omega
 have kh3:(h:Int)≤(Y.length:Int):=by omega
 have kh4:¬c1=h:=by omega
 have kh5:¬c2=h:=by omega
 have kh6:¬cap=h:=by omega
 have kh7:(h:Int)≤(c1:Int):=by omega
 have kh8:(h:Int)≤(c2:Int):=by omega
 have kh9:(h:Int)≤(cap:Int):=by omega
 have HAP:=ep bz zo h cap Z _ _ (X.take h) (X.drop h) w3.drew.drew HB3.out hLZ (HA3.out.front h (by omega)).drew.drew (HA3.out.drop h (by omega)).drew.drew
  (fun b' off' n' c' e=>by cases e;exact .inl hb) (fun b' off' n' c' e=>by cases e;exact .inl hb) (by omega) (by omega) hc2 (bM mX h (by omega)) (cS mX h h (by omega))
 go_wp2
 go_region
 go_wp2
 go_region_held3 (fun _=>True) (trivial) (first | (go_at_call 148;refine HAP.mono ?_;rintro e w4 ⟨rfl,Z1,p1,p2,p3,p4,p5⟩))
 have F4:=aa p4.undrew.undrew
 obtain⟨da,hda⟩:∃da,da=(if val (X.take h)<val (X.drop h) then val (X.drop h) - val (X.take h) else val (X.take h) - val (X.drop h)):=⟨_,rfl⟩
 rw [←hda] at p5
 have HDA:=aa hda
 have hbzg:bz≠g:=by omega
 have HM4:=aa (F4.out.blk HM3.out (Ne.symm hbzg))
 have HX4:Hid (w4.heap[w.heap.size]?=some (.cells #[.int .i64 H,.int .i64 T] 135)):=aa (by rw [F4.out.block w.heap.size (by have:=HM3.out.lt;omega) (by omega)];exact HX3.out)
 have HA4:=aa (HA3.out.frb F4.out hb)
 have HA24:=aa (HA23.out.frb F4.out hb2)
 have HF4:=aa (HF3.out.trans F4.out)
 have O1:=aa p1
 have S1:=aa p5
 have l1:=p1.len
 have edh:d - h=h:=by omega
 have HAP2:=ep bz (zo+h) h (cap - h) Z1 _ _ (Y.take h) (Y.drop h) w4.drew p3 p2 (HA24.out.front h (by omega)).drew (HA24.out.drop h (by omega)).drew
  (fun b' off' n' c' e=>by cases e;exact .inl hb2) (fun b' off' n' c' e=>by cases e;exact .inl hb2) (by omega) (by omega) (by omega) (bM mY h (by omega)) (cS mY h h (by omega))
 clear p1 p2 p3 p4 p5 hda HAP HB3 HX3 HF3 HA3 HA23 HM3 F4
 generalize hsa:decide (val (X.take h)<val (X.drop h))=sa at *
 have HSA:=aa hsa
 clear hsa
 go_wp2
 go_region_held3 (fun _=>True) (trivial) (first | (go_at_call 148;refine HAP2.mono ?_;rintro e w5 ⟨rfl,Z2,p1,p2,p3,p4,p5⟩))
 have F5:=aa p4.undrew
 obtain⟨db,hdb⟩:∃db,db=(if val (Y.take h)<val (Y.drop h) then val (Y.drop h) - val (Y.take h) else val (Y.take h) - val (Y.drop h)):=⟨_,rfl⟩
 rw [←hdb] at p5
 have HDB:=aa hdb
 have HM5:=aa (F5.out.blk HM4.out (Ne.symm hbzg))
 have HX5:Hid (w5.heap[w.heap.size]?=some (.cells #[.int .i64 H,.int .i64 T] 135)):=aa (by rw [F5.out.block w.heap.size (by have:=HM4.out.lt;omega) (by omega)];exact HX4.out)
 have HA5:=aa (HA4.out.frb F5.out hb)
 have HA25:=aa (HA24.out.frb F5.out hb2)
 have HF5:=aa (HF4.out.trans F5.out)
 have O2:=aa (O1.out.wider (lo':=zo) (hi':=zo+n) (Nat.le_refl _) (by omega) |>.trans (p1.wider (by omega) (by omega)))
 have S2a:Hid (sv Z2 zo h=da):=aa (by rw [p1.sv zo h (by omega)];exact S1.out)
 have S2b:=aa p5
 have HB5:=aa p3
 have HL5:=aa p2
 have l2:Z2.length=Z.length:=O2.out.len
 have sg1:=aT Z2 zo h (by omega)
 have sg2:=aT Z2 (zo+h) h (by omega)
 have HI3:=HII.out (seg Z2 zo h) (seg Z2 (zo+h) h) (by rw [sg1,sg2];omega) g 0 R (List.replicate R 0) _ _ w5.drew HM5.out (limbs_replicate _) (p3.seg_arg p2 zo h cap (by omega) (by omega) (by omega) (by omega)).drew (p3.seg_arg p2 (zo+h) h (cap - h) (by omega) (by omega) (by omega) (by omega)).drew
  (fun b' off' n' c' e=>by cases e;exact hbzg) (fun b' off' n' c' e=>by cases e;exact hbzg) (by rw [sg1,sg2];simp;omega) (by rw [sg1,sg2];omega) (by omega)
 rw [sg1,sg2,show h+h=d by omega,show val (seg Z2 zo h)=da from S2a.out,show val (seg Z2 (zo+h) h)=db from S2b.out] at HI3
 unfold way at HI3
 have HK:=aa (fun (w7:World) (hF:Fr g w5.drew w7)=>(by
  have e:w7.heap[w.heap.size]?=some (.cells #[.int .i64 H,.int .i64 T] 135):=by rw [hF.block w.heap.size (by show _<w5.heap.size;have:=HM5.out.lt;omega) (by omega)];exact HX5.out
  exact⟨by simp [World.cell?,e],by simp [World.cell?,e]⟩:w7.cell? ⟨w.heap.size,0,none⟩=some (.int .i64 H)∧w7.cell? ⟨w.heap.size,1,none⟩=some (.int .i64 T)))
 have hq0:w5.cell? ⟨w.heap.size,0,none⟩=some (.int .i64 H):=by have e:=HX5.out;simp [World.cell?,e]
 have hq1:w5.cell? ⟨w.heap.size,1,none⟩=some (.int .i64 T):=by have e:=HX5.out;simp [World.cell?,e]
 clear p1 p2 p3 p4 p5 hdb HAP2 HM4 HX4 HA4 HA24 HF4 F5 O1 S1 sg1 sg2 S2a S2b l1
 generalize hsb:decide (val (Y.take h)<val (Y.drop h))=sb at *
 have HSB:=aa hsb
 clear hsb
 go_wp2
 go_region_held3 (fun w'=>w'.cell? ⟨w.heap.size,0,none⟩=some (.int .i64 H)∧w'.cell? ⟨w.heap.size,1,none⟩=some (.int .i64 T)) (go_keep) (first | (go_at_call 131;refine HI3.mono ?_;rintro e w6 ⟨rfl,M1,p1,p2,p3,p4,p5⟩;obtain⟨hk0,hk1⟩:=HK.out w6 p4))
 rw [Nat.zero_add] at p1
 have HB6:=aa (p4.undrew.blk HB5.out hbzg)
 have HX6:Hid (w6.heap[w.heap.size]?=some (.cells #[.int .i64 H,.int .i64 T] 135)):=aa (by rw [p4.block w.heap.size (by show _<w5.heap.size;have:=HM5.out.lt;omega) (by omega)];exact HX5.out)
 have HA6:=aa (HA5.out.frb p4.undrew (by omega))
 have HA26:=aa (HA25.out.frb p4.undrew (by omega))
 have HF6:=aa (HF5.out.other p4.undrew (by omega))
 have OM1:=aa p1
 have LM1:=aa p2
 have BM1:=aa p3
 have SM1:=aa p5
 have tk1:(X.take h).length=h:=by simp;omega
 have tk2:(Y.take h).length=h:=by simp;omega
 have HI4:=HII.out (X.take h) (Y.take h) (by rw [tk1,tk2];omega) bz zo cap Z2 _ _ w6.drew HB6.out HL5.out (HA6.out.front h (by omega)).drew (HA26.out.front h (by omega)).drew
  (fun b' off' n' c' e=>by cases e;exact hb) (fun b' off' n' c' e=>by cases e;exact hb2) (by rw [tk1,tk2];omega) (by rw [tk1,tk2];omega) (by omega)
 rw [tk1,tk2,show h+h=d by omega] at HI4
 unfold way at HI4
 have HK6:=aa (fun (w7:World) (hF:Fr bz w6.drew w7)=>(by
  have e:w7.heap[w.heap.size]?=some (.cells #[.int .i64 H,.int .i64 T] 135):=by rw [hF.block w.heap.size (by show _<w6.heap.size;have:=BM1.out.lt;omega) (by omega)];exact HX6.out
  exact⟨e,by simp [World.cell?,e],by simp [World.cell?,e]⟩:w7.heap[w.heap.size]?=some (.cells #[.int .i64 H,.int .i64 T] 135)∧w7.cell? ⟨w.heap.size,0,none⟩=some (.int .i64 H)∧w7.cell? ⟨w.heap.size,1,none⟩=some (.int .i64 T)))
 clear p1 p2 p3 p4 p5 HI3 HK hq0 hq1 HM5 HX5 HA5 HA25 HF5 HB5 tk1 tk2
 go_wp2
 go_region_held3 (fun w'=>w'.cell? ⟨w.heap.size,0,none⟩=some (.int .i64 H)∧w'.cell? ⟨w.heap.size,1,none⟩=some (.int .i64 T)) (go_keep) (first | (go_at_call 131;refine HI4.mono ?_;rintro e w7 ⟨rfl,Z3,p1,p2,p3,p4,p5⟩;obtain⟨hx7,hk2,hk3⟩:=HK6.out w7 p4))
 have HX7:=aa hx7
 have HA7:=aa (HA6.out.frb p4.undrew hb)
 have HA27:=aa (HA26.out.frb p4.undrew hb2)
 have HF7:=aa (HF6.out.trans p4.undrew)
 have BM7:=aa (p4.undrew.blk BM1.out (Ne.symm hbzg))
 have O3:=aa (O2.out.trans (p1.wider (Nat.le_refl _) (by omega)))
 have S3:=aa p5
 have l3:Z3.length=Z.length:=O3.out.len
 have HI5:=HII.out (X.drop h) (Y.drop h) (by simp;omega) bz (zo+d) (cap - d) Z3 _ _ w7.drew p3 p2 (HA7.out.drop h (by omega)).drew (HA27.out.drop h (by omega)).drew
  (fun b' off' n' c' e=>by cases e;exact hb) (fun b' off' n' c' e=>by cases e;exact hb2) (by simp;omega) (by simp;omega) (by omega)
 rw [List.length_drop,List.length_drop,show X.length - h+(Y.length - h)=n - d by omega] at HI5
 unfold way at HI5
 have HK7:=aa (fun (w8:World) (hF:Fr bz w7.drew w8)=>(by
  have e:w8.heap[w.heap.size]?=some (.cells #[.int .i64 H,.int .i64 T] 135):=by rw [hF.block w.heap.size (by show _<w7.heap.size;have:=BM7.out.lt;omega) (by omega)];exact HX7.out
  exact⟨by simp [World.cell?,e],by simp [World.cell?,e]⟩:w8.cell? ⟨w.heap.size,0,none⟩=some (.int .i64 H)∧w8.cell? ⟨w.heap.size,1,none⟩=some (.int .i64 T)))
 clear p1 p2 p3 p4 p5 hx7 HI4 HK6 hk0 hk1 HA6 HA26 HF6 BM1 O2 HX6 HB6 l2
 go_wp2
 go_region_held3 (fun w'=>w'.cell? ⟨w.heap.size,0,none⟩=some (.int .i64 H)∧w'.cell? ⟨w.heap.size,1,none⟩=some (.int .i64 T)) (go_keep) (first | (go_at_call 131;refine HI5.mono ?_;rintro e w8 ⟨rfl,Z4,p1,p2,p3,p4,p5⟩;obtain⟨hk4,hk5⟩:=HK7.out w8 p4))
 rw [show zo+d+(n - d)=zo+n by omega] at p1
 have HA0:=bM mX h (by omega)
 have HA1:=cS mX h h (by omega)
 have HB0:=bM mY h (by omega)
 have HB1:=cS mY h h (by omega)
 have vX:=bk X h (by omega)
 have vY:=bk Y h (by omega)
 have O4:=aa (O3.out.trans (p1.wider (by omega) (Nat.le_refl _)))
 have S4a:Hid (sv Z4 zo d=val (X.take h)*val (Y.take h)):=aa (by rw [p1.sv zo d (by omega)];exact S3.out)
 have S4b:=aa p5
 have HF8:=aa (HF7.out.trans p4.undrew)
 have BM8:=aa (p4.undrew.blk BM7.out (Ne.symm hbzg))
 have l4:Z4.length=Z.length:=O4.out.len
 have lM1:M1.length=R:=by rw [OM1.out.len];simp
 have sg:=aT Z4 zo d (by omega)
 have hcp:=fun ty=>d5 g d (R - d) (R - d) M1 (some ⟨bz,zo,none⟩) cap (seg Z4 zo d) w8 ty BM8.out (by omega) (.inr ⟨bz,zo,rfl,fun k hk=>by rw [sg] at hk;rw [p3.cell (zo+k) (by omega),cN _ _ _ _ hk]⟩) (by rw [sg];omega)
 have OM2:=bN (seg Z4 zo d) M1 d
 have SM2:=cd (seg Z4 zo d) M1 d (by rw [sg];omega)
 have LM2:=bW (seg Z4 zo d) (cV p2 _ _) M1 d LM1.out
 have BM2:=Blk.setCells (seg Z4 zo d) d BM8.out
 have FM2:=(Fr.refl g w8).setCells ((seg Z4 zo d).map lv) d
 rw [sg] at hcp OM2 SM2
 rw [show val (seg Z4 zo d)=val (X.take h)*val (Y.take h) from S4a.out] at SM2
 obtain⟨w9,hw9⟩:∃w9,w9=w8.setCells g d ((seg Z4 zo d).map lv):=⟨_,rfl⟩
 rw [←hw9] at BM2 FM2 hcp
 clear hw9 sg
 generalize lay M1 d (seg Z4 zo d)=M2 at *
 have B9:=aa (FM2.blk p3 hbzg)
 have L4:=aa p2
 have eRd:R - d=d+1:=by omega
 have top0:M2.getD (d+d) 0=0:=by
  rw [OM2.same (d+d) (by omega),OM1.out.same (d+d) (by omega),nN]
 have SM2':sv M2 d (R - d)=val (X.take h)*val (Y.take h):=by
  rw [eRd,cn _ _ _ (by rw [OM2.len];omega),SM2,top0,Nat.mul_zero,Nat.add_zero]
 have pw:=fH h d (by omega)
 have hp0:val (X.take h)*val (Y.take h)<18446744073709551616 ^ d:=by rw [pw];exact Nat.mul_lt_mul'' HA0 HB0
 have hp1:val (X.drop h)*val (Y.drop h)<18446744073709551616 ^ d:=by rw [pw];exact Nat.mul_lt_mul'' HA1 HB1
 have hp2:val (X.take h)*val (Y.drop h)<18446744073709551616 ^ d:=by rw [pw];exact Nat.mul_lt_mul'' HA0 HB1
 have hp3:val (X.drop h)*val (Y.take h)<18446744073709551616 ^ d:=by rw [pw];exact Nat.mul_lt_mul'' HA1 HB0
 have HP1:=cz g d (R - d) (R - d) M2 _ (seg Z4 (zo+d) (n - d)) w9 BM2 LM2 (B9.out.seg_arg p2 (zo+d) (n - d) (cap - d) (by omega) (by omega) (by omega) (by omega)) (fun b' off' n' c' e=>by cases e;exact .inl hbzg) (by rw [OM2.len];omega) (Nat.le_refl _) (by omega)
  (by rw [SM2',show val (seg Z4 (zo+d) (n - d))=_ from S4b.out,eRd];exact gO hp0 hp1)
 rw [SM2',show val (seg Z4 (zo+d) (n - d))=_ from S4b.out] at HP1
 have F9:=aa ((HF8.out).other FM2 (by omega))
 have OM2h:=aa OM2
 have HERD:=aa eRd
 clear eRd top0 pw
 clear p1 p2 p3 p4 p5 HI5 HK7 hk2 hk3 hk4 hk5 HA7 HA27 HF7 BM7 O3 HX7 l3 S3 BM8 SM2 SM2' BM2 FM2 OM2 HF8
 go_wp2_with fail
 refine HP1.mono ?_
 rintro e w10 ⟨rfl,M3,p1,p2,p3,p4,p5⟩
 have lM2:=OM2h.out.len
 have lM3:=p1.len
 have B10:=aa (p4.blk B9.out hbzg)
 have SX:sv M3 0 d=da*db:=by rw [p1.sv 0 d (by omega),OM2h.out.sv 0 d (by omega)];exact SM1.out
 have F10:=aa (F9.out.other p4 (by omega))
 have HACR:=p3.seg_arg p2 0 d R (by omega) (by omega) (by omega) (by omega)
 have hOacr:Off (.slice (some ⟨g,0,none⟩) d R) g d (d+(R - d)):=fun b' off' n' c' e=>by cases e;exact .inr (.inl (by omega))
 have hfit2:val (X.take h)*val (Y.drop h)+val (X.drop h)*val (Y.take h)<18446744073709551616 ^ (R - d):=by rw [HERD.out];exact gO hp2 hp3
 have hmid:=jR _ _ _ _ da db HDA.out HDB.out
 have hkl:=kA _ _ _ _ da db HDA.out HDB.out
 rw [HSA.out,HSB.out] at hmid hkl
 have HPlus:=fun (hf:sv M3 d (R - d)+val (seg M3 0 d)<18446744073709551616 ^ (R - d))=>cz g d (R - d) (R - d) M3 _ (seg M3 0 d) w10 p3 p2 HACR hOacr (by omega) (Nat.le_refl _) (by omega) hf
 have HMinus:=fun (hf:val (seg M3 0 d)≤sv M3 d (R - d))=>dZ g d (R - d) (R - d) M3 _ (seg M3 0 d) w10 p3 p2 HACR hOacr (by omega) (Nat.le_refl _) (by omega) hf
 rw [show val (seg M3 0 d)=da*db from SX,p5] at HPlus HMinus
 have TOT:Hid (val X*val Y=val (X.take h)*val (Y.take h)+18446744073709551616 ^ d*(val (X.drop h)*val (Y.drop h))+18446744073709551616 ^ h*(val (X.take h)*val (Y.drop h)+val (X.drop h)*val (Y.take h))):=aa (by
  rw [vX,vY,mF,fH h d (by omega)])
 have S4n:sv Z4 zo n=val (X.take h)*val (Y.take h)+18446744073709551616 ^ d*(val (X.drop h)*val (Y.drop h)):=by
  rw [show n=d+(n - d) by omega,ag _ _ _ _ (by omega),S4a.out]
  rw [S4b.out]
 have hXY:val X*val Y<18446744073709551616 ^ n:=by
  rw [←HN.out,Nat.pow_add];exact Nat.mul_lt_mul'' (val_lt mX) (val_lt mY)
 have hfit3:=fs Z4 zo h n (val (X.take h)*val (Y.drop h)+val (X.drop h)*val (Y.take h)) (val X*val Y) (by omega) (by omega) (by rw [S4n,TOT.out];exact Nat.le_refl _) hXY
 have HEND:=aa (fun (w11 w12:World) (M4 Z5:List Nat) (q4:Fr g w10 w11) (r1:Out Z4 Z5 (zo+h) (zo+h+(n - h))) (r2:Limbs Z5) (r3:Blk w12 bz Z5) (r4:Fr bz w11 w12) (r5:sv Z5 (zo+h) (n - h)=sv Z4 (zo+h) (n - h)+(val (X.take h)*val (Y.drop h)+val (X.drop h)*val (Y.take h)))=>(by
  rw [show zo+h+(n - h)=zo+n by omega] at r1
  refine⟨rfl,Z5,O4.out.trans (r1.wider (by omega) (Nat.le_refl _)),r2,r3,(F10.out.other q4 (by omega)).trans r4,?_⟩
  rw [d8 Z4 Z5 zo h n _ (by omega) (by omega) r1 r5,S4n,TOT.out]:au bz zo n Z w (val X*val Y) (.returned (.tuple #[])) w12))
 have HLAST:=aa (fun (w11:World) (M4:List Nat) (q1:Out M3 M4 d (d+(R - d))) (q2:Limbs M4) (q3:Blk w11 g M4) (q4:Fr g w10 w11) (q5:sv M4 d (R - d)=(val (X.take h)*val (Y.drop h)+val (X.drop h)*val (Y.take h)))=>(by
  have hv:val (seg M4 d (R - d))=(val (X.take h)*val (Y.drop h)+val (X.drop h)*val (Y.take h)):=q5
  have h1:=cz bz (zo+h) (n - h) (cap - h) Z4 _ (seg M4 d (R - d)) w11 (q4.blk B10.out hbzg) L4.out (q3.seg_arg q2 d (R - d) (R - d) (by rw [q1.len];omega) (Nat.le_refl _) (by omega) (by omega)) (fun b' off' n' c' e=>by cases e;exact .inl (Ne.symm hbzg)) (by omega) (by omega) (by omega) (by rw [hv];exact hfit3)
  rw [hv] at h1
  exact h1:Calls Tryz.prog 143 #[.slice (some ⟨bz,zo+h,none⟩) (n - h) (cap - h),.slice (some ⟨g,d,none⟩) (R - d) (R - d)] w11 (au bz (zo+h) (n - h) Z4 w11 (sv Z4 (zo+h) (n - h)+(val (X.take h)*val (Y.drop h)+val (X.drop h)*val (Y.take h))))))
 clear S4n hXY hfit3 TOT p1 p2 p3 p4 p5 HP1 hcp HACR hOacr SX vX vY HA0 HA1 HB0 HB1 hp0 hp1
 cases sa <;> cases sb
 ·have hm':val (X.take h)*val (Y.take h)+val (X.drop h)*val (Y.drop h) - da*db=val (X.take h)*val (Y.drop h)+val (X.drop h)*val (Y.take h):=by simpa using hmid
  have hm:=HMinus (hkl rfl)
  rw [hm'] at hm
  clear hm'
  have HM:=hm
  clear HPlus HMinus hmid hkl hm hfit2
  go_wp2_with fail
  refine HM.mono ?_
  rintro e w11 ⟨rfl,M4,q1,q2,q3,q4,q5⟩
  have HL:=HLAST.out w11 M4 q1 q2 q3 q4 q5
  have HQ:=aa q4
  clear q1 q2 q3 q4 q5 HM
  go_wp2_with fail
  refine HL.mono ?_
  rintro e w12 ⟨rfl,Z5,r1,r2,r3,r4,r5⟩
  have HR:=aa (HEND.out w11 w12 M4 Z5 HQ.out r1 r2 r3 r4 r5)
  clear r1 r2 r3 r4 r5 HL
  go_wp2
  go_end0
  exact HR.out
 ·have hm':val (X.take h)*val (Y.take h)+val (X.drop h)*val (Y.drop h)+da*db=val (X.take h)*val (Y.drop h)+val (X.drop h)*val (Y.take h):=by simpa using hmid
  have hm:=HPlus (by rw [hm'];exact hfit2)
  rw [hm'] at hm
  clear hm'
  have HM:=hm
  clear HPlus HMinus hmid hkl hm hfit2
  go_wp2_with fail
  refine HM.mono ?_
  rintro e w11 ⟨rfl,M4,q1,q2,q3,q4,q5⟩
  have HL:=HLAST.out w11 M4 q1 q2 q3 q4 q5
  have HQ:=aa q4
  clear q1 q2 q3 q4 q5 HM
  go_wp2_with fail
  refine HL.mono ?_
  rintro e w12 ⟨rfl,Z5,r1,r2,r3,r4,r5⟩
  have HR:=aa (HEND.out w11 w12 M4 Z5 HQ.out r1 r2 r3 r4 r5)
  clear r1 r2 r3 r4 r5 HL
  go_wp2
  go_end0
  exact HR.out
 ·have hm':val (X.take h)*val (Y.take h)+val (X.drop h)*val (Y.drop h)+da*db=val (X.take h)*val (Y.drop h)+val (X.drop h)*val (Y.take h):=by simpa using hmid
  have hm:=HPlus (by rw [hm'];exact hfit2)
  rw [hm'] at hm
  clear hm'
  have HM:=hm
  clear HPlus HMinus hmid hkl hm hfit2
  go_wp2_with fail
  refine HM.mono ?_
  rintro e w11 ⟨rfl,M4,q1,q2,q3,q4,q5⟩
  have HL:=HLAST.out w11 M4 q1 q2 q3 q4 q5
  have HQ:=aa q4
  clear q1 q2 q3 q4 q5 HM
  go_wp2_with fail
  refine HL.mono ?_
  rintro e w12 ⟨rfl,Z5,r1,r2,r3,r4,r5⟩
  have HR:=aa (HEND.out w11 w12 M4 Z5 HQ.out r1 r2 r3 r4 r5)
  clear r1 r2 r3 r4 r5 HL
  go_wp2
  go_end0
  exact HR.out
 ·have hm':val (X.take h)*val (Y.take h)+val (X.drop h)*val (Y.drop h) - da*db=val (X.take h)*val (Y.drop h)+val (X.drop h)*val (Y.take h):=by simpa using hmid
  have hm:=HMinus (hkl rfl)
  rw [hm'] at hm
  clear hm'
  have HM:=hm
  clear HPlus HMinus hmid hkl hm hfit2
  go_wp2_with fail
  refine HM.mono ?_
  rintro e w11 ⟨rfl,M4,q1,q2,q3,q4,q5⟩
  have HL:=HLAST.out w11 M4 q1 q2 q3 q4 q5
  have HQ:=aa q4
  clear q1 q2 q3 q4 q5 HM
  go_wp2_with fail
  refine HL.mono ?_
  rintro e w12 ⟨rfl,Z5,r1,r2,r3,r4,r5⟩
  have HR:=aa (HEND.out w11 w12 M4 Z5 HQ.out r1 r2 r3 r4 r5)
  clear r1 r2 r3 r4 r5 HL
  go_wp2
  go_end0
  exact HR.out
end Go.Proofs.YtcbpdngogkbndaaGreatDoor
namespace Go.Proofs.YtcbpdngogkbndaaGreatDoor
open Lm

theorem ib (x0 x1 x2 y0 y1 y2:Nat):(x0+x1+x2)*(y0+y1+y2)=(x0*y0+(x0*y2+x1*y1+x2*y0)+x2*y2)+((x0*y1+x1*y0)+(x1*y2+x2*y1)):=by grind

theorem gv (x0 x1 x2 y0 y1 y2:Nat):(x0+x1*2+x2*4)*(y0+y1*2+y2*4)=x0*y0+2*(x0*y1+x1*y0)+4*(x0*y2+x1*y1+x2*y0)+8*(x1*y2+x2*y1)+16*(x2*y2):=by grind

theorem gX (x0 x1 x2 y0 y1 y2 dx dy:Nat)(hx:dx=if x0+x2<x1 then x1 - (x0+x2) else x0+x2 - x1)(hy:dy=if y0+y2<y1 then y1 - (y0+y2) else y0+y2 - y1) :
  dx*dy+(x0+x1+x2)*(y0+y1+y2)=2*(if decide (x0+x2<x1)=decide (y0+y2<y1) then (x0*y0+(x0*y2+x1*y1+x2*y0)+x2*y2) else ((x0*y1+x1*y0)+(x1*y2+x2*y1))):=by
 subst hx;subst hy
 by_cases h1:x0+x2<x1 <;> by_cases h2:y0+y2<y1
 ·obtain⟨p,rfl⟩:∃p,x1=x0+x2+p:=⟨x1 - (x0+x2),by omega⟩
  obtain⟨q,rfl⟩:∃q,y1=y0+y2+q:=⟨y1 - (y0+y2),by omega⟩
  simp only [h1,h2,decide_true,if_true,Nat.add_sub_cancel_left]
  grind
 ·obtain⟨p,rfl⟩:∃p,x1=x0+x2+p:=⟨x1 - (x0+x2),by omega⟩
  obtain⟨q,hq⟩:∃q,y0+y2=y1+q:=⟨y0+y2 - y1,by omega⟩
  have e:y0+y2 - y1=q:=by omega
  simp only [h1,h2,decide_true,decide_false,if_true,if_false,Nat.add_sub_cancel_left,Bool.true_eq_false,e]
  grind
 ·obtain⟨p,hp⟩:∃p,x0+x2=x1+p:=⟨x0+x2 - x1,by omega⟩
  obtain⟨q,rfl⟩:∃q,y1=y0+y2+q:=⟨y1 - (y0+y2),by omega⟩
  have e:x0+x2 - x1=p:=by omega
  simp only [h1,h2,decide_true,decide_false,if_true,if_false,Nat.add_sub_cancel_left,Bool.false_eq_true,e]
  grind
 ·obtain⟨p,hp⟩:∃p,x0+x2=x1+p:=⟨x0+x2 - x1,by omega⟩
  obtain⟨q,hq⟩:∃q,y0+y2=y1+q:=⟨y0+y2 - y1,by omega⟩
  have e:x0+x2 - x1=p:=by omega
  have e2:y0+y2 - y1=q:=by omega
  simp only [h1,h2,decide_false,if_true,if_false,e,e2]
  grind

theorem gC (x0 x1 x2 y0 y1 y2 P:Nat):(x0+P*x1+P*P*x2)*(y0+P*y1+P*P*y2) =
  x0*y0+P*P*(P*P)*(x2*y2)+P*(x0*y1+x1*y0)+P*P*(x0*y2+x1*y1+x2*y0)+P*P*P*(x1*y2+x2*y1):=by grind
end Go.Proofs.YtcbpdngogkbndaaGreatDoor
namespace Go.Proofs.YtcbpdngogkbndaaGreatDoor
open Go.RowKit
open Lm

theorem iy (b off n cap at' m:Nat)(w:World)(_hn:n≤1125899906842624)(hcc:n≤cap)(hcm:cap≤9223372036854775807)(h:at'+m≤n)(hat:at'<cap) :
  Calls Tryz.prog 149 #[.slice (some ⟨b,off,none⟩) n cap,.int .i64 at',.int .i64 m] w fun e w'=>e=.returned (.slice (some ⟨b,off+at',none⟩) m (cap - at'))∧w'=w:=by
 have i2:(0:Int)≤(at':Int):=by omega
 have k1:¬cap=at':=by omega
 have m1:min (at':Int) (n:Int)=(at':Int):=by omega
 obtain⟨s,es,hs1,hs2,es2⟩:∃s:Nat,(at':Int)+(m:Int)=(s:Int)∧s≤n∧at'≤s∧s - at'=m:=⟨at'+m,by omega,h,by omega,by omega⟩
 have i3:(s:Int)≤(n:Int):=by omega
 have i4:(at':Int)≤(s:Int):=by omega
 have m2:min (s:Int) (n:Int)=(s:Int):=by omega
 clear h
 go_enter Tryz.func149,Tryz.ntmps149
 go_wp2
 go_ret
 exact⟨rfl,rfl⟩

theorem jL (b off n cap at' m:Nat)(hn:n≤1125899906842624)(hcc:n≤cap)(hcm:cap≤9223372036854775807)(hm:m≤1125899906842624)(h1:at'≤n)(h2:n≤at'+m) :
  ∃off2 cap2,(off2=off+at'∨n=at')∧n - at'≤cap2∧cap2≤cap∧∀w,Calls Tryz.prog 149 #[.slice (some ⟨b,off,none⟩) n cap,.int .i64 at',.int .i64 m] w fun e w'=>e=.returned (.slice (some ⟨b,off2,none⟩) (n - at') cap2)∧w'=w:=by
 have i2:(0:Int)≤(at':Int):=by omega
 have m1:min (at':Int) (n:Int)=(at':Int):=by omega
 obtain⟨s,es,hs1⟩:∃s:Nat,(at':Int)+(m:Int)=(s:Int)∧n≤s:=⟨at'+m,by omega,by omega⟩
 have m2:min (s:Int) (n:Int)=(n:Int):=by omega
 have i4:(at':Int)≤(n:Int):=by omega
 clear h2
 by_cases k1:cap=at'
 ·have e1:n=at':=by omega
  subst e1
  subst k1
  refine⟨off,0,.inr rfl,by omega,by omega,fun w=>?_⟩
  have e2:cap - cap=0:=by omega
  rw [e2]
  clear m1 h1 i4
  have m1:min (cap:Int) (cap:Int)=(cap:Int):=by omega
  go_enter Tryz.func149,Tryz.ntmps149
  go_wp2
  go_ret
  exact⟨rfl,rfl⟩
 ·refine⟨off+at',cap - at',.inl rfl,by omega,by omega,fun w=>?_⟩
  go_enter Tryz.func149,Tryz.ntmps149
  go_wp2
  go_ret
  exact⟨rfl,rfl⟩

theorem dB (g n at' m:Nat)(w:World)(hn:n≤1125899906842624)(h:at'+m≤n)(h0:0<m) :
  Calls Tryz.prog 149 #[.slice (some ⟨g,0,none⟩) n n,.int .i64 at',.int .i64 m] w fun e w'=>e=.returned (.slice (some ⟨g,at',none⟩) m (n - at'))∧w'=w:=by
 have:=iy g 0 n n at' m w hn (Nat.le_refl _) (by omega) h (by omega)
 rwa [Nat.zero_add] at this

theorem lR (g n m:Nat)(w:World)(hn:n≤1125899906842624)(h:m≤n)(h0:0<m) :
  Calls Tryz.prog 149 #[.slice (some ⟨g,0,none⟩) n n,.int .i64 0,.int .i64 m] w fun e w'=>e=.returned (.slice (some ⟨g,0,none⟩) m n)∧w'=w:=
 dB g n 0 m w hn (by omega) h0

structure Q4 (M:List Nat)(m d2 d3 e0 e1 e2 e3:Nat):Prop where
 h2:d2=m+m
 h3:d3=m+m+m
 len:M.length=m+m+m+m
 limbs:Limbs M
 v0:sv M 0 m=e0
 v1:sv M m m=e1
 v2:sv M d2 m=e2
 v3:sv M d3 m=e3

theorem Q4.at0 {M M':List Nat}{m d2 d3 e0 e1 e2 e3 e:Nat}(h:Q4 M m d2 d3 e0 e1 e2 e3)(ho:Out M M' 0 m)(hl:Limbs M')(hv:sv M' 0 m=e):Q4 M' m d2 d3 e e1 e2 e3:=by
 obtain⟨a,b,c,_,v0,v1,v2,v3⟩:=h
 exact⟨a,b,by rw [ho.len,c],hl,hv,by rw [ho.sv m m (by omega),v1],by rw [ho.sv d2 m (by omega),v2],by rw [ho.sv d3 m (by omega),v3]⟩

theorem Q4.at1 {M M':List Nat}{m d2 d3 e0 e1 e2 e3 e:Nat}(h:Q4 M m d2 d3 e0 e1 e2 e3)(ho:Out M M' m (m+m))(hl:Limbs M')(hv:sv M' m m=e):Q4 M' m d2 d3 e0 e e2 e3:=by
 obtain⟨a,b,c,_,v0,v1,v2,v3⟩:=h
 exact⟨a,b,by rw [ho.len,c],hl,by rw [ho.sv 0 m (by omega),v0],hv,by rw [ho.sv d2 m (by omega),v2],by rw [ho.sv d3 m (by omega),v3]⟩

theorem Q4.at2 {M M':List Nat}{m d2 d3 e0 e1 e2 e3 e:Nat}(h:Q4 M m d2 d3 e0 e1 e2 e3)(ho:Out M M' d2 (d2+m))(hl:Limbs M')(hv:sv M' d2 m=e):Q4 M' m d2 d3 e0 e1 e e3:=by
 obtain⟨a,b,c,_,v0,v1,v2,v3⟩:=h
 exact⟨a,b,by rw [ho.len,c],hl,by rw [ho.sv 0 m (by omega),v0],by rw [ho.sv m m (by omega),v1],hv,by rw [ho.sv d3 m (by omega),v3]⟩

theorem Q4.at3 {M M':List Nat}{m d2 d3 e0 e1 e2 e3 e:Nat}(h:Q4 M m d2 d3 e0 e1 e2 e3)(ho:Out M M' d3 (d3+m))(hl:Limbs M')(hv:sv M' d3 m=e):Q4 M' m d2 d3 e0 e1 e2 e:=by
 obtain⟨a,b,c,_,v0,v1,v2,v3⟩:=h
 exact⟨a,b,by rw [ho.len,c],hl,by rw [ho.sv 0 m (by omega),v0],by rw [ho.sv m m (by omega),v1],by rw [ho.sv d2 m (by omega),v2],hv⟩

theorem aV (n o m:Nat):sv (List.replicate n 0) o m=0:=by
 unfold sv seg
 rw [List.drop_replicate,List.take_replicate,val_replicate]

theorem Q4.zero (m d2 d3 R:Nat)(h2:d2=m+m)(h3:d3=m+m+m)(hR:R=m+m+m+m):Q4 (List.replicate R 0) m d2 d3 0 0 0 0:=
 ⟨h2,h3,by simp [hR],limbs_replicate _,aV _ _ _,aV _ _ _,aV _ _ _,aV _ _ _⟩

theorem lI (M X:List Nat)(o m:Nat)(h0:sv M o m=0)(hX:X.length≤m)(hl:o+m≤M.length):sv (lay M o X) o m=val X:=by
 obtain⟨d,rfl⟩:∃d,m=X.length+d:=⟨m - X.length,by omega⟩
 rw [ag _ _ _ _ (by omega)] at h0
 rw [ag _ _ _ _ (by rw [dg];omega),cd _ _ _ (by omega),(bN X M o).sv (o+X.length) d (by omega)]
 omega

theorem Arg.recap {w:World}{b off n cap:Nat}{X:List Nat}(h:Arg w (.slice (some ⟨b,off,none⟩) n cap) X)(cap':Nat)(h1:n≤cap')(h2:cap'≤9223372036854775807):Arg w (.slice (some ⟨b,off,none⟩) n cap') X:=by
 obtain⟨ao,c,e,_,_,hl⟩:=h.form
 cases e
 exact⟨⟨_,_,rfl,h1,h2,hl⟩,h.limbs,h.few,fun n c e=>by cases e⟩

theorem gY {w:World}{b off cap q off2 cap2:Nat}{X:List Nat}(hA:Arg w (.slice (some ⟨b,off,none⟩) X.length cap) X)(ho:off2=off+q∨X.length=q)(hq:q≤X.length)(h1:X.length - q≤cap2)(h2:cap2≤cap):Arg w (.slice (some ⟨b,off2,none⟩) (X.length - q) cap2) (X.drop q):=by
 obtain⟨_,_,e,_,hm,_⟩:=hA.form
 cases e
 rcases ho with rfl|rfl
 ·exact (hA.drop q hq).recap cap2 h1 (by omega)
 ·rw [List.drop_length,Nat.sub_self]
  exact⟨⟨_,_,rfl,by simp,by omega,.inl rfl⟩,(by intro z hz;cases hz),by simp,fun n c e=>by cases e⟩

theorem aZ (g o n cap:Nat)(M:List Nat)(a1:Option Addr)(c1:Nat)(P:List Nat)(w:World)(hB:Blk w g M)(hl:Limbs M)(hLP:Limbs P)(h0:sv M o n=0)(ho:o+n≤M.length)(hP:P.length≤n)(hL:ak w a1 P) :
  ∃(w':World) (M':List Nat),(∀ty,(Builtin.copy_ #[25,25] ty #[.slice (some ⟨g,o,none⟩) n cap,.slice a1 P.length c1]).run Tryz.prog w=.ok (.int .i64 (P.length:Int)) w')∧Blk w' g M'∧Limbs M'∧Fr g w w'∧Out M M' o (o+n)∧sv M' o n=val P:=
 ⟨_,lay M o P,fun ty=>d5 g o n cap M a1 c1 P w ty hB ho hL hP,Blk.setCells P o hB,bW P hLP M o hl,(Fr.refl g w).setCells (P.map lv) o,(bN P M o).wider (Nat.le_refl _) (by omega),lI M P o n h0 hP ho⟩

theorem ak.arg {w:World}{b off n cap:Nat}{X:List Nat}(h:Arg w (.slice (some ⟨b,off,none⟩) n cap) X):ak w (some ⟨b,off,none⟩) X:=by
 obtain⟨_,_,e,_,_,hl⟩:=h.form
 cases e
 exact hl

theorem aF {w:World}{h:Nat}{a b c d:Value}{t:TypeId}(e:w.heap[h]?=some (.cells #[a,b,c,d] t)):w.cell? ⟨h,0,none⟩=some a∧w.cell? ⟨h,1,none⟩=some b∧w.cell? ⟨h,2,none⟩=some c∧w.cell? ⟨h,3,none⟩=some d:=
 ⟨by simp [World.cell?,e],by simp [World.cell?,e],by simp [World.cell?,e],by simp [World.cell?,e]⟩

theorem gU {w:World}{h:Nat}{a b c d:Value}{t:TypeId}(e:w.heap[h]?=some (.cells #[a,b,c,d] t)):∀k,w.frozen? ⟨h,k,none⟩=false:=fun k=>by simp [World.frozen?,e]

theorem lA {w:World}{h:Nat}{a b c d:Value}{t:TypeId}(e:w.heap[h]?=some (.cells #[a,b,c,d] t))(u:Value):(w.setCell ⟨h,3,none⟩ u).heap[h]?=some (.cells #[a,b,c,u] t):=by
 have hlt:=lt_of_block e
 have h':w.heap[h]=.cells #[a,b,c,d] t:=by simpa [Array.getElem?_eq_getElem hlt] using e
 show (w.heap.modify h _)[h]?=_
 rw [Array.getElem?_eq_getElem (by simpa using hlt),Array.getElem_modify_self,h']
 rfl

theorem jv {w:World}{h:Nat}{a b c d a' b' c' d':Value}{t:TypeId}(e:w.heap[h]?=some (.cells #[a,b,c,d] t)) :
  ((((w.setCell ⟨h,0,none⟩ a').setCell ⟨h,1,none⟩ b').setCell ⟨h,2,none⟩ c').setCell ⟨h,3,none⟩ d').heap[h]?=some (.cells #[a',b',c',d'] t):=
 bF (bF (bF (bF e a') b') c') d'

def lL (w:World)(s x0 x1 x2:Nat)(e:Ending)(w':World):Prop:=
 ∃(g m d2 d3 R e0:Nat) (M:List Nat),m=s+1∧R=m+m+m+m ∧
  e=.returned (.agg #[.slice (some ⟨g,m,none⟩) m (R - m),.slice (some ⟨g,d2,none⟩) m (R - d2),.slice (some ⟨g,d3,none⟩) m (R - d3),.bool (decide (x0+x2<x1))]) ∧
  w.heap.size≤g∧Blk w' g M∧Below w.heap.size w w'∧Q4 M m d2 d3 e0 (x0+x1+x2) (x0+x1*2+x2*4) (if x0+x2<x1 then x1 - (x0+x2) else x0+x2 - x1)

theorem ms (x0 x1 x2 s m:Nat)(h0:x0<18446744073709551616 ^ s)(h1:x1<18446744073709551616 ^ s)(h2:x2<18446744073709551616 ^ s)(hm:m=s+1) :
  x0+x2<18446744073709551616 ^ m∧x0+x2+x1<18446744073709551616 ^ m∧x1<18446744073709551616 ^ m∧x0+x1*2<18446744073709551616 ^ m∧x0+x1*2+x2*4<18446744073709551616 ^ m:=by
 subst hm
 rw [Nat.pow_succ]
 generalize (18446744073709551616:Nat) ^ s=P at *
 omega

theorem dR (b off c1 s:Nat)(X:List Nat)(w:World)(hA:Arg w (.slice (some ⟨b,off,none⟩) X.length c1) X)(hs0:0<s)(hs1:2*s≤X.length)(hs2:X.length≤3*s)(hlX:X.length≤4398046511103) :
  Calls Tryz.prog 141 #[.slice (some ⟨b,off,none⟩) X.length c1,.int .i64 s] w (lL w s (val (X.take s)) (val ((X.drop s).take s)) (val (X.drop (2*s)))):=by
 obtain⟨_,_,e0,hcc1,hcm1,_⟩:=hA.form
 cases e0
 have hX:=hA.few
 have hbw:=hA.block (by omega)
 obtain⟨i0,hi,hz0,hz1,hz2⟩:=info_parts Tryz.infoU
 obtain⟨m,em,hm1,hm2⟩:∃m:Nat,(s:Int)+1=(m:Int)∧m≤s+1∧s+1≤m:=⟨s+1,by omega,by omega,by omega⟩
 obtain⟨R,eR,hR1,hR2⟩:∃R:Nat,(4:Int)*(m:Int)=(R:Int)∧R≤4*m∧4*m≤R:=⟨4*m,by omega,by omega,by omega⟩
 obtain⟨q,eq,hq1,hq2⟩:∃q:Nat,(2:Int)*(s:Int)=(q:Int)∧q≤2*s∧2*s≤q:=⟨2*s,by omega,by omega,by omega⟩
 obtain⟨d2,ed2,hd2a,hd2b⟩:∃d:Nat,(2:Int)*(m:Int)=(d:Int)∧d≤2*m∧2*m≤d:=⟨2*m,by omega,by omega,by omega⟩
 obtain⟨d3,ed3,hd3a,hd3b⟩:∃d:Nat,(3:Int)*(m:Int)=(d:Int)∧d≤3*m∧3*m≤d:=⟨3*m,by omega,by omega,by omega⟩
 have wq:IntKind.i64.wrap (q:Int)=(q:Int):=by rw [IntKind.wrap_i64];omega
 have ks0:(0:Int)≤(s:Int):=by omega
 have ks1:(s:Int)≤(X.length:Int):=by omega
 have ks2:(s:Int)≤(c1:Int):=by omega
 have HP1:=fun w=>iy b off X.length c1 s s w hX hcc1 hcm1 (by omega) (by omega)
 obtain⟨off2,cap2,ho2,hp2a,hp2b,HP2⟩:=jL b off X.length c1 q s hX hcc1 hcm1 (by omega) (by omega) (by omega)
 have HO2:=aa ho2
 clear ho2
 go_enter Tryz.func141,Tryz.ntmps141
 go_wp2
 go_quiet (first | (go_at_call_of 149 q;exact Calls.quiet_of_same (HP2 _)) | (go_at_call 149;exact Calls.quiet_of_same (HP1 _)))
 clear HP1 HP2
 obtain⟨w1,hw1⟩:∃w1,w1=(w.alloc (.cells #[.slice none 0 0,.slice none 0 0,.slice none 0 0,.bool false] 144)).drewN nq:=⟨_,rfl⟩
 have hbel1:Below w.heap.size w w1:=by rw [hw1];exact gj ((Below.refl _ _).alloc (Nat.le_refl _) _) _
 have hs1:w1.heap.size=w.heap.size+1:=by rw [hw1];exact World.size_alloc _ _
 have hb1:w1.heap[w.heap.size]?=some (.cells #[.slice none 0 0,.slice none 0 0,.slice none 0 0,.bool false] 144):=by rw [hw1];exact heap_alloc_new ..
 rw [←hw1]
 have HX1:=aa hb1
 have HB1:=aa hbel1
 clear hw1 hb1 hbel1
 go_wp2_with (at_make;refine wpList_make_full _ rfl _ _ 25 rfl w1.heap.size 60 i0 (.int .u64 0) 1 Tryz.underlying25 hi hz0 hz1 .i64 .i64 _ _ R rfl rfl (by omega) (by omega) (by rw [hz2];omega) (by unfold maxLen;omega) (Nat.le_refl _) ?_;intro w3 hown hgrow)
 have hm3:Blk w3 (w.heap.size+1) (List.replicate R 0):=by rw [←hs1];exact Blk.made hown
 have hbel3:Below w1.heap.size w1 w3:=(Below.refl _ _).grown hgrow (Nat.le_refl _) (fun k hk=>by cases hk)
 have hX3:w3.heap[w.heap.size]?=some (.cells #[.slice none 0 0,.slice none 0 0,.slice none 0 0,.bool false] 144):=by rw [hbel3.block w.heap.size (by omega)];exact HX1.out
 have HB3:=aa (HB1.out.trans (hbel3.mono HB1.out.size))
 obtain⟨g,hg⟩:∃g,g=w.heap.size+1:=⟨_,rfl⟩
 rw [←hg] at hm3 ⊢
 have hgw:w.heap.size<g:=by omega
 have HX3:=aa hX3
 have HM3:=aa hm3
 have HG:=aa hg
 clear hown hgrow hi hz0 hz1 hz2 hbel3 HX1 HB1 hs1 hX3 hm3 hg
 refine (lR g R m w3 (by omega) (by omega) (by omega)).mono ?_
 rintro e w4 ⟨rfl,hw⟩;subst hw
 go_wp2_with fail
 refine (dB g R m m w4 (by omega) (by omega) (by omega)).mono ?_
 rintro e w5 ⟨rfl,hw⟩;subst hw
 go_wp2_with fail
 refine (dB g R d2 m w5 (by omega) (by omega) (by omega)).mono ?_
 rintro e w6 ⟨rfl,hw⟩;subst hw
 go_wp2_with fail
 refine (dB g R d3 m w6 (by omega) (by omega) (by omega)).mono ?_
 rintro e w7 ⟨rfl,hw⟩;subst hw
 obtain⟨w8,hw8⟩:∃w8,w8=w7.alloc (.cells #[.slice (some ⟨g,m,none⟩) m (R - m),.slice (some ⟨g,d2,none⟩) m (R - d2),.slice (some ⟨g,d3,none⟩) m (R - d3),.bool false] 144):=⟨_,rfl⟩
 obtain⟨h,hh⟩:∃h,h=w7.heap.size:=⟨_,rfl⟩
 have hbel8:Below w7.heap.size w7 w8:=by rw [hw8];exact (Below.refl _ _).alloc (Nat.le_refl _) _
 have hgh:g<h:=by rw [hh];exact HM3.out.lt
 have BX8:=aa (show w8.heap[h]?=some (.cells #[.slice (some ⟨g,m,none⟩) m (R - m),.slice (some ⟨g,d2,none⟩) m (R - d2),.slice (some ⟨g,d3,none⟩) m (R - d3),.bool false] 144) by rw [hw8,hh];exact heap_alloc_new ..)
 have RX8:=aa (show w8.heap[w.heap.size]?=some (.cells #[.slice none 0 0,.slice none 0 0,.slice none 0 0,.bool false] 144) by rw [hbel8.block w.heap.size (by have:=HM3.out.lt;omega)];exact HX3.out)
 have B8:=HM3.out.below' hbel8
 have W8:=aa (HB3.out.trans (hbel8.mono HB3.out.size))
 have hbg:b≠g:=by omega
 have hsz8:h<w8.heap.size:=by rw [hw8,hh,World.size_alloc];omega
 have Q0:=Q4.zero m d2 d3 R (by omega) (by omega) (by omega)
 have A8:=hA.below W8.out
 have hq:q=2*s:=by omega
 rw [←hq]
 have lP0:(X.take s).length=s:=by simp;omega
 have fx0:=bM hA.limbs s (by omega)
 have fx1:val ((X.drop s).take s)<18446744073709551616 ^ s:=by
  have:=val_lt (hA.cut s s (by omega)).limbs
  rwa [show ((X.drop s).take s).length=s by simp;omega] at this
 have fx2:=cS hA.limbs q s (by omega)
 have HFIT:=aa (ms _ _ _ s m fx0 fx1 fx2 (by omega))
 have HEM:=aa (show m=s+1 by omega)
 obtain⟨w9,M1,hcp,B9,L9,F9,O9,S9⟩:=aZ g 0 m R _ (some ⟨b,off,none⟩) c1 (X.take s) w8 B8 Q0.limbs (A8.front s (by omega)).limbs Q0.v0 (by rw [Q0.len];omega) (by rw [lP0];omega) (ak.arg (A8.front s (by omega)))
 rw [lP0] at hcp
 rw [Nat.zero_add] at O9
 have Q1:=Q0.at0 O9 L9 S9
 have BX9:=aa ((F9.block h hsz8 (by omega)).trans BX8.out)
 have RX9:=aa ((F9.block w.heap.size (by omega) (by omega)).trans RX8.out)
 have W9:=aa (W8.out.trans (F9.below (by omega) W8.out.size))
 have hq':q≤X.length:=by omega
 have HS2:=cz g 0 m R M1 _ (X.drop q) w9 B9 L9 (gY (hA.below W9.out) HO2.out hq' hp2a hp2b) (fun b' off' n' c' e=>by cases e;exact .inl hbg) (by rw [Q1.len];omega) (by omega) (by omega) (by rw [Q1.v0];exact HFIT.out.1)
 rw [Q1.v0] at HS2
 have HQ1:=aa Q1
 have hsz9:h<w9.heap.size:=by have:=F9.size;omega
 have HW8:=aa hw8
 have HHH:=aa hh
 rw [hw8] at hcp
 clear B8 BX8 RX8 W8 A8 Q0 Q1 S9 O9 L9 F9 HM3 HX3 HB3 hbel8 hw8 hh hsz8 lP0 fx0 fx1 fx2 hq
 have HAA:=aa hA
 have HB9:=aa B9
 clear hA B9
 go_wp2_with fail
 rw [←HHH.out]
 refine HS2.mono ?_
 rintro e w10 ⟨rfl,M2,O10,L10,B10,F10,S10⟩
 rw [Nat.zero_add] at O10
 have Q2:=HQ1.out.at0 O10 L10 S10
 have BX10:=aa ((F10.block h hsz9 (by omega)).trans BX9.out)
 have RX10:=aa ((F10.block w.heap.size (by omega) (by omega)).trans RX9.out)
 have W10:=aa (W9.out.trans (F10.below (by omega) W9.out.size))
 have hsz10:h<w10.heap.size:=by have:=F10.size;omega
 have sg2:=aT M2 0 m (by rw [Q2.len];omega)
 clear hcp HS2 HQ1 O10 S10 F10 BX9 RX9 W9 hsz9 HB9 HW8
 obtain⟨w11,M3,hcp,B11,L11,F11,O11,S11⟩:=aZ g m m (R - m) M2 (some ⟨g,0,none⟩) R (seg M2 0 m) w10 B10 L10 (cV L10 _ _) Q2.v1 (by rw [Q2.len];omega) (by rw [sg2];omega) (ak.arg (B10.seg_arg L10 0 m R (by rw [Q2.len];omega) (by omega) (by omega) (by omega)))
 rw [sg2] at hcp
 have Q3:=Q2.at1 O11 L11 (S11.trans Q2.v0)
 have BX11:=aa ((F11.block h hsz10 (by omega)).trans BX10.out)
 have RX11:=aa ((F11.block w.heap.size (by omega) (by omega)).trans RX10.out)
 have W11:=aa (W10.out.trans (F11.below (by omega) W10.out.size))
 have hsz11:h<w11.heap.size:=by have:=F11.size;omega
 have HS4:=cz g m m (R - m) M3 _ ((X.drop s).take s) w11 B11 L11 ((HAA.out.cut s s (by omega)).below W11.out) (fun b' off' n' c' e=>by cases e;exact .inl hbg) (by rw [Q3.len];omega) (by omega) (by omega) (by rw [Q3.v1];exact HFIT.out.2.1)
 rw [Q3.v1] at HS4
 have HQ3:=aa Q3
 have HF11:=aa F11.size
 clear Q2 sg2 B10 L10 L11 F11 O11 S11 RX10 W10 B11 Q3
 obtain⟨hk0,_,_,_⟩:=aF BX10.out
 obtain⟨hj0,_,_,_⟩:=aF BX11.out
 go_wp2_with fail
 refine HS4.mono ?_
 rintro e w12 ⟨rfl,M4,O12,L12,B12,F12,S12⟩
 have Q4':=HQ3.out.at1 O12 L12 S12
 have BX12:=aa ((F12.block h hsz11 (by omega)).trans BX11.out)
 have RX12:=aa ((F12.block w.heap.size (by omega) (by omega)).trans RX11.out)
 have W12:=aa (W11.out.trans (F12.below (by omega) W11.out.size))
 have hsz12:h<w12.heap.size:=by have:=F12.size;omega
 clear hcp HS4 HQ3 O12 S12 F12 BX11 RX11 W11 hsz11 hk0 hj0 BX10 hsz10 HF11
 have HS5:=ep g d3 m (R - d3) M4 _ _ (seg M4 0 m) ((X.drop s).take s) w12 B12 L12 (B12.seg_arg L12 0 m R (by rw [Q4'.len];omega) (by omega) (by omega) (by omega)) ((HAA.out.cut s s (by omega)).below W12.out) (fun b' off' n' c' e=>by cases e;exact .inr (.inl (by omega))) (fun b' off' n' c' e=>by cases e;exact .inl hbg) (by rw [Q4'.len];omega) (by omega) (by omega) (by rw [show val (seg M4 0 m)=_ from Q4'.v0];exact HFIT.out.1) HFIT.out.2.2.1
 rw [show val (seg M4 0 m)=_ from Q4'.v0] at HS5
 obtain⟨hk0,_,hk2,_⟩:=aF BX12.out
 have HQ4:=aa Q4'
 clear Q4' B12 L12
 go_wp2_with fail
 refine HS5.mono ?_
 rintro e w13 ⟨rfl,M5,O13,L13,B13,F13,S13⟩
 have Q5:=HQ4.out.at3 O13 L13 S13
 have BX13:=aa ((F13.block h hsz12 (by omega)).trans BX12.out)
 have RX13:=aa ((F13.block w.heap.size (by omega) (by omega)).trans RX12.out)
 have W13:=aa (W12.out.trans (F13.below (by omega) W12.out.size))
 have hsz13:h<w13.heap.size:=by have:=F13.size;omega
 clear HS5 HQ4 O13 S13 F13 BX12 RX12 W12 hsz12 hk0 hk2
 generalize hβ:decide (val (X.take s)+val (X.drop q)<val ((X.drop s).take s))=β at *
 obtain⟨w14,hw14⟩:∃w14,w14=w13.setCell ⟨h,3,none⟩ (.bool β):=⟨_,rfl⟩
 have BX14:=aa (show w14.heap[h]?=some (.cells #[.slice (some ⟨g,m,none⟩) m (R - m),.slice (some ⟨g,d2,none⟩) m (R - d2),.slice (some ⟨g,d3,none⟩) m (R - d3),.bool β] 144) by rw [hw14];exact lA BX13.out _)
 have RX14:=aa (show w14.heap[w.heap.size]?=some (.cells #[.slice none 0 0,.slice none 0 0,.slice none 0 0,.bool false] 144) by rw [hw14,Below.heap_setCell _ _ _ _ (by show w.heap.size≠h;omega)];exact RX13.out)
 have W14:=aa (show Below w.heap.size w w14 by rw [hw14];exact W13.out.setCell (by show w.heap.size≤h;omega) _)
 have B14:Blk w14 g M5:=by rw [hw14];exact B13.other _ _ (by show g≠h;omega)
 have hsz14:h<w14.heap.size:=by rw [hw14];simpa using hsz13
 have lP0:(X.take s).length=s:=by simp;omega
 obtain⟨w15,M6,hcp,B15,L15,F15,O15,S15⟩:=aZ g d2 m (R - d2) M5 (some ⟨b,off,none⟩) c1 (X.take s) w14 B14 L13 (HAA.out.front s (by omega)).limbs Q5.v2 (by rw [Q5.len];omega) (by rw [lP0];omega) (ak.arg ((HAA.out.front s (by omega)).below W14.out))
 rw [lP0] at hcp
 have Q6:=Q5.at2 O15 L15 S15
 have BX15:=aa ((F15.block h hsz14 (by omega)).trans BX14.out)
 have RX15:=aa ((F15.block w.heap.size (by omega) (by omega)).trans RX14.out)
 have W15:=aa (W14.out.trans (F15.below (by omega) W14.out.size))
 have hsz15:h<w15.heap.size:=by have:=F15.size;omega
 have HS7:=fC g d2 m (R - d2) M6 _ ((X.drop s).take s) 2 w15 B15 L15 ((HAA.out.cut s s (by omega)).below W15.out) (fun b' off' n' c' e=>by cases e;exact .inl hbg) (by simp;omega) (by rw [Q6.len];omega) (by omega) (by omega) (by omega) (by rw [Q6.v2];exact HFIT.out.2.2.2.1)
 rw [Q6.v2,show ((2:Nat):Int)=2 from rfl] at HS7
 have HQ6:=aa Q6
 obtain⟨_,_,_,hk3⟩:=aF BX13.out
 have hf13:=gU BX13.out 3
 obtain⟨_,hj1,_,_⟩:=aF BX14.out
 obtain⟨_,hi1,_,_⟩:=aF BX15.out
 rw [hw14] at hcp hj1
 have HW14:=aa hw14
 have Hβ:=aa hβ
 clear Q5 Q6 B13 L13 B14 L15 F15 O15 S15 RX13 RX14 W13 W14 B15 lP0 hw14 hβ BX14 hsz14
 go_wp2_with fail
 refine HS7.mono ?_
 rintro e w16 ⟨rfl,M7,O16,L16,B16,F16,S16⟩
 have Q7:=HQ6.out.at2 O16 L16 S16
 have BX16:=aa ((F16.block h hsz15 (by omega)).trans BX15.out)
 have RX16:=aa ((F16.block w.heap.size (by omega) (by omega)).trans RX15.out)
 have W16:=aa (W15.out.trans (F16.below (by omega) W15.out.size))
 have hsz16:h<w16.heap.size:=by have:=F16.size;omega
 clear hcp HS7 HQ6 O16 S16 F16 BX15 RX15 W15 hsz15 hk3 hf13 hj1 hi1 HW14 hsz13 BX13
 have HS8:=fC g d2 m (R - d2) M7 _ (X.drop q) 4 w16 B16 L16 (gY (HAA.out.below W16.out) HO2.out hq' hp2a hp2b) (fun b' off' n' c' e=>by cases e;exact .inl hbg) (by simp;omega) (by rw [Q7.len];omega) (by omega) (by omega) (by omega) (by rw [Q7.v2];exact HFIT.out.2.2.2.2)
 rw [Q7.v2,show ((4:Nat):Int)=4 from rfl] at HS8
 obtain⟨_,hk1,_,_⟩:=aF BX16.out
 have HQ7:=aa Q7
 clear Q7 B16 L16
 go_wp2_with fail
 refine HS8.mono ?_
 rintro e w17 ⟨rfl,M8,O17,L17,B17,F17,S17⟩
 have Q8:=HQ7.out.at2 O17 L17 S17
 have BX17:=aa ((F17.block h hsz16 (by omega)).trans BX16.out)
 have RX17:=aa ((F17.block w.heap.size (by omega) (by omega)).trans RX16.out)
 have W17:=aa (W16.out.trans (F17.below (by omega) W16.out.size))
 clear HS8 HQ7 O17 L17 S17 F17 BX16 RX16 W16 hsz16 hk1
 obtain⟨hk0,hk1,hk2,hk3⟩:=aF BX17.out
 obtain⟨hr0,hr1,hr2,hr3⟩:=aF RX17.out
 have hf:=gU RX17.out
 have HQ8:=aa Q8
 have HB17:=aa B17
 clear Q8 B17
 go_wp2
 have R18:=jv RX17.out (a':=.slice (some ⟨g,m,none⟩) m (R - m)) (b':=.slice (some ⟨g,d2,none⟩) m (R - d2)) (c':=.slice (some ⟨g,d3,none⟩) m (R - d3)) (d':=.bool β)
 have hne:g≠w.heap.size:=by omega
 have B18:=(((HB17.out.other ⟨w.heap.size,0,none⟩ (.slice (some ⟨g,m,none⟩) m (R - m)) hne).other ⟨w.heap.size,1,none⟩ (.slice (some ⟨g,d2,none⟩) m (R - d2)) hne).other ⟨w.heap.size,2,none⟩ (.slice (some ⟨g,d3,none⟩) m (R - d3)) hne).other ⟨w.heap.size,3,none⟩ (.bool β) hne
 have W18:=(((W17.out.setCell (p:=⟨w.heap.size,0,none⟩) (Nat.le_refl _) (.slice (some ⟨g,m,none⟩) m (R - m))).setCell (p:=⟨w.heap.size,1,none⟩) (Nat.le_refl _) (.slice (some ⟨g,d2,none⟩) m (R - d2))).setCell (p:=⟨w.heap.size,2,none⟩) (Nat.le_refl _) (.slice (some ⟨g,d3,none⟩) m (R - d3))).setCell (p:=⟨w.heap.size,3,none⟩) (Nat.le_refl _) (.bool β)
 generalize (((w17.setCell ⟨w.heap.size,0,none⟩ (.slice (some ⟨g,m,none⟩) m (R - m))).setCell ⟨w.heap.size,1,none⟩ (.slice (some ⟨g,d2,none⟩) m (R - d2))).setCell ⟨w.heap.size,2,none⟩ (.slice (some ⟨g,d3,none⟩) m (R - d3))).setCell ⟨w.heap.size,3,none⟩ (.bool β)=w18 at *
 clear hk0 hk1 hk2 hk3 hr0 hr1 hr2 hr3 hf
 obtain⟨hk0,hk1,hk2,hk3⟩:=aF R18
 have HD:=aa (And.intro B18 W18)
 clear R18 B18 W18
 refine bodyPost_ret (v:=.agg #[.slice (some ⟨g,m,none⟩) m (R - m),.slice (some ⟨g,d2,none⟩) m (R - d2),.slice (some ⟨g,d3,none⟩) m (R - d3),.bool β]) (by simp [results,Tryz.results141,go_sem,hk0,hk1,hk2,hk3]) rfl ?_
 have hq:2*s=q:=by omega
 rw [hq]
 obtain⟨a1,a2,a3,a4,a5,a6,a7,a8⟩:=HQ8.out
 exact⟨g,m,d2,d3,R,_,M8,HEM.out,by omega,by rw [Hβ.out],by omega,HD.out.1,HD.out.2,a1,a2,a3,a4,a5,by rw [a6];omega,a7,a8⟩
end Go.Proofs.YtcbpdngogkbndaaGreatDoor

