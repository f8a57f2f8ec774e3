/- Package div: divisorOf. -/
import Derived.Test.YtcbpdngogkbndaaGreatDoorB08
import Derived.Test.YtcbpdngogkbndaaGreatDoorB05
import Derived.Test.YtcbpdngogkbndaaGreatDoorB02
set_option maxRecDepth 20000
set_option maxHeartbeats 2000000
namespace Go.Proofs.YtcbpdngogkbndaaGreatDoor
open Go.RowKit
open Lm
attribute [local go_sem ↓] Go.wp_at_zero Go.wp_at_succ

theorem nU {Y V:List Nat}{j s cy:Nat}(hY:Limbs Y)(lY:Y.length=j+1)(hV:Limbs V)(lV:V.length=j+1)(h1:9223372036854775808≤Y.getD j 0*2 ^ s)(h2:Y.getD j 0*2 ^ s<18446744073709551616)(hs:s<64)
  (e:val V+cy*18446744073709551616 ^ (j+1)=val Y*2 ^ s):cy=0∧9223372036854775808≤V.getD j 0:=by
 have a1:=val_take_next Y j
 rw [←lY,List.take_length] at a1
 have a2:=bM hY j (by omega)
 have b1:=val_take_next V j
 rw [←lV,List.take_length] at b1
 have b2:=bM hV j (by omega)
 have hp:2 ^ (64 - s)*2 ^ s=18446744073709551616:=by rw [←Nat.pow_add,show 64 - s+s=64 by omega]
 have h3:(Y.getD j 0+1)*2 ^ s≤18446744073709551616:=by
  rw [←hp] at h2 ⊢
  exact Nat.mul_le_mul_right _ (Nat.succ_le_of_lt (Nat.lt_of_mul_lt_mul_right h2))
 rw [Nat.add_mul,Nat.one_mul] at h3
 rw [a1,b1,Nat.pow_succ] at e
 generalize val (Y.take j)=a at *
 generalize val (V.take j)=b at *
 generalize Y.getD j 0=t at *
 generalize V.getD j 0=v at *
 generalize (18446744073709551616:Nat) ^ j=W at *
 generalize (2:Nat) ^ s=S at *
 rw [Nat.add_mul,Nat.mul_assoc] at e
 generalize t*S=x at *
 have hS:0<S:=by
  rcases Nat.eq_zero_or_pos S with h|h
  ·subst h;omega
  ·exact h
 have c1:a*S<W*S:=Nat.mul_lt_mul_of_pos_right a2 hS
 have c2:W*x+W*S≤W*18446744073709551616:=by rw [←Nat.mul_add];exact Nat.mul_le_mul_left _ h3
 have hc:cy=0:=by
  rcases Nat.eq_zero_or_pos cy with h|h
  ·exact h
  ·have:=Nat.mul_le_mul_right (W*18446744073709551616) h
   omega
 subst hc
 refine⟨rfl,Nat.le_of_not_lt fun h=>?_⟩
 have c3:=Nat.mul_le_mul_left W (Nat.succ_le_of_lt h)
 rw [Nat.succ_eq_add_one,Nat.mul_add,Nat.mul_one] at c3
 have c4:=Nat.mul_le_mul_left W h1
 omega

def Dvs (w:World)(base:Nat)(v:Value)(B n:Nat):Prop:=
 ∃(g nn s j h:Nat) (V:List Nat),v=.agg #[.slice (some ⟨g,0,none⟩) V.length V.length,.int .i64 nn,.int .i64 s]∧base≤g∧Blk w g V∧Limbs V∧V.length=j+1∧9223372036854775808≤V.getD j 0∧s<64∧val V=h*2 ^ s∧B=h*18446744073709551616 ^ nn∧nn+V.length=n∧n≤35184372088000

theorem bV {w:World}{h:Nat}{a b c:Value}{t:TypeId}(e:w.heap[h]?=some (.cells #[a,b,c] t)):w.cell? ⟨h,0,none⟩=some a∧w.cell? ⟨h,1,none⟩=some b∧w.cell? ⟨h,2,none⟩=some c:=
 ⟨by simp [World.cell?,e],by simp [World.cell?,e],by simp [World.cell?,e]⟩

theorem om {w:World}{h:Nat}{a b c:Value}{t:TypeId}(e:w.heap[h]?=some (.cells #[a,b,c] t)):∀k,w.frozen? ⟨h,k,none⟩=false:=fun k=>by simp [World.frozen?,e]

theorem iT {w:World}{h:Nat}{a b c a' b' c':Value}{t:TypeId}(e:w.heap[h]?=some (.cells #[a,b,c] t)) :
  (((w.setCell ⟨h,0,none⟩ a').setCell ⟨h,1,none⟩ b').setCell ⟨h,2,none⟩ c').heap[h]?=some (.cells #[a',b',c'] t):=
 bF (bF (bF e a') b') c'

theorem ju {B:Nat}{w w':World}(hb:Below B w w'){b o:Nat}{v:Value}(h:w.cell? ⟨b,o,none⟩=some v)(hlt:b<B):w'.cell? ⟨b,o,none⟩=some v:=by
 rw [World.cell?_of_block (w:=w) (hb.block b hlt)];exact h

theorem gZ (vb:Value)(X:List Nat)(w:World)(hA:Arg w vb X)(hT:Tab w)(hX0:val X≠0)(hfew:X.length≤35184372088000) :
  Calls Tryz.prog 105 #[vb] w fun e w'=>(∃v,e=.returned v∧Dvs w' w.heap.size v (val X) (tr X).length)∧Below w.heap.size w w':=by
 obtain⟨a0,cap,rfl,hcc,hcm,hl⟩:=hA.form
 obtain⟨b,off,rfl⟩:∃b off,a0=some ⟨b,off,none⟩:=by
  rcases hl with h0|⟨b,off,e,_⟩
  ·subst h0;exact absurd rfl hX0
  ·exact⟨b,off,e⟩
 have hle:=tr_length_le X
 obtain⟨w0,hw0⟩:∃w0,w0=w.alloc (.cells #[.slice none 0 0,.int .i64 0,.int .i64 0] 128):=⟨_,rfl⟩
 have hbel0:Below w.heap.size w w0:=by rw [hw0];exact (Below.refl _ _).alloc (Nat.le_refl _) _
 have hs0:w0.heap.size=w.heap.size+1:=by rw [hw0];exact World.size_alloc _ _
 have hb0:w0.heap[w.heap.size]?=some (.cells #[.slice none 0 0,.int .i64 0,.int .i64 0] 128):=by rw [hw0];exact heap_alloc_new ..
 have H1:=ce _ cap X w0 hcc hcm (hl.below hbel0)
 have A0:=(hA.below hbel0).trim
 have H2:=dh _ (tr X) w0 A0 (hT.below hbel0)
 rw [←val_tr X] at hX0 ⊢
 have htt:=tr_tr X
 generalize tr X=T at *
 have hlow:=fh T hX0
 have hval:=dP T
 generalize aK T=nn at *
 obtain⟨R,hR1,hR2⟩:∃R:Nat,T.length - nn=R∧T.length=nn+R:=⟨_,rfl,by omega⟩
 obtain⟨j,hj⟩:∃j,R=j+1:=⟨R - 1,by omega⟩
 have HW0:=aa hw0
 have htop:=tr_last' T (nn+j) htt (by omega)
 have lD:(T.drop nn).length=R:=by rw [List.length_drop];omega
 have gD:(T.drop nn).getD j 0=T.getD (nn+j) 0:=by simp only [List.getD,List.getElem?_drop]
 have AD:=A0.drop nn (by omega)
 rw [hR1] at AD
 have hcell:w0.cell? ⟨b,off+nn+j,none⟩=some (.int .u64 ((T.getD (nn+j) 0:Nat):Int)):=by
  obtain⟨_,_,e,_,_,hl⟩:=AD.form
  cases e
  rcases hl with h0|⟨b',off',e,hc⟩
  ·have:=congrArg List.length h0
   rw [List.length_drop] at this
   simp at this;omega
  ·cases e
   rw [←gD]
   exact hc j (by rw [List.length_drop];omega)
 have hyl:=limb_lt A0.limbs (nn+j)
 have HD:=aa (And.intro AD (And.intro lD gD))
 have HH:=aa (And.intro hval (And.intro hR2 hj))
 obtain⟨i0,hi,hz0,hz1,hz2⟩:=info_parts Tryz.infoU
 have HBX:=aa hb0
 have HBL:=aa hbel0
 have hbw:b<w.heap.size:=hA.block (by
  refine Nat.lt_of_lt_of_le ?_ hle
  omega)
 have hcne:¬cap=nn:=by omega
 have ej:(R:Int) - 1=(j:Int):=by omega
 have k0:(0:Int)≤(nn:Int):=by omega
 have k1:(nn:Int)≤(T.length:Int):=by omega
 have k2:(0:Int)≤(j:Int):=by omega
 have k3:(j:Int)<(R:Int):=by omega
 have hRl:R≤T.length:=by omega
 generalize T.getD (nn+j) 0=y at *
 have HLZ:=fun w=>Tryz.bits_LeadingZeros64 (y:Int) w (by omega) (by omega)
 rw [Int.toNat_natCast] at HLZ
 obtain⟨n1,n2,n3,n4⟩:=norm_y y (by omega) hyl
 obtain⟨s,hs⟩:∃s,s=64 - Lib.bitLen y:=⟨_,rfl⟩
 have hsI:(64:Int) - (Lib.bitLen y:Int)=(s:Int):=by omega
 rw [←hs] at n3 n4
 have hs63:s<64:=by omega
 have HN:=aa (And.intro n3 n4)
 have HTT:=aa htt
 clear hw0 hl hs n1 n2 n3 n4 AD hval hb0 hbel0 A0 lD gD hj htt hX0 hT hA hR2
 go_enter Tryz.func105,Tryz.ntmps105
 go_wp2_with fail
 rw [←HW0.out]
 refine H1.mono ?_
 rintro e wn ⟨rfl,hw⟩;rw [hw];clear hw wn H1
 go_wp2_with fail
 refine H2.mono ?_
 rintro e wn ⟨⟨t,ht,rfl⟩,hw⟩;rw [hw];clear hw wn H2
 have etl:((nn*64+t:Nat):Int) / 64=(nn:Int):=by omega
 have HT2:=aa ht
 clear ht
 generalize nn*64+t=tl at *
 go_wp2_with (at_make;refine wpList_make_full _ rfl _ _ 25 rfl w0.heap.size 60 i0 (.int .u64 0) 1 Tryz.underlying25 hi hz0 hz1 .i64 .i64 _ _ R rfl rfl (by omega) (by omega) (by rw [hz2];omega) (by unfold maxLen;omega) (Nat.le_refl _) ?_;intro w3 hown hgrow;have hcell3:=ju ((Below.refl w0.heap.size w0).grown hgrow (Nat.le_refl _) (fun k hk=>by cases hk)) hcell (by omega))
 have hm3:Blk w3 w0.heap.size (List.replicate R 0):=Blk.made hown
 have hbel3:Below w0.heap.size w0 w3:=(Below.refl _ _).grown hgrow (Nat.le_refl _) (fun k hk=>by cases hk)
 have HX3:=aa (show w3.heap[w.heap.size]?=some (.cells #[.slice none 0 0,.int .i64 0,.int .i64 0] 128) by rw [hbel3.block w.heap.size (by omega)];exact HBX.out)
 have HB3:=aa (HBL.out.trans (hbel3.mono HBL.out.size))
 obtain⟨g,hg⟩:∃g,g=w.heap.size+1:=⟨_,rfl⟩
 rw [hs0,←hg] at hm3
 rw [←hg]
 have hgw:w.heap.size<g:=by omega
 have HSU:=gW g 0 R R (List.replicate R 0) _ (T.drop nn) s w3 hm3 (limbs_replicate _) (HD.out.1.below hbel3) (fun b' off' n' c' e=>by cases e;exact .inl (by omega)) (by simp) (Nat.le_refl _) (by omega) (by rw [HD.out.2.1];omega) hs63
 have hsz3:w.heap.size<w3.heap.size:=by have:=hm3.lt;omega
 clear hown hgrow hi hz0 hz1 hz2 hbel3 hm3 hcell hg HBX HBL hs0
 refine (HLZ _).mono ?_
 rintro e wn ⟨rfl,hw⟩;rw [hw];clear hw wn HLZ
 go_wp2_with fail
 refine HSU.mono ?_
 rintro e w4 ⟨cy,Z4,hcy,rfl,O4,L4,B4,F4,S4⟩
 have HRES:Hid (Dvs w4 w.heap.size (.agg #[.slice (some ⟨g,0,none⟩) R R,.int .i64 nn,.int .i64 s]) (val T) T.length):=by
  obtain⟨AD,lD,gD⟩:=HD.out
  obtain⟨hval,hR2,hj⟩:=HH.out
  have l4:Z4.length=R:=by rw [O4.len,List.length_replicate]
  rw [lD] at S4
  have s5:sv Z4 0 R=val Z4:=bh l4
  rw [s5,hj] at S4
  rw [←gD] at HN
  obtain⟨c0,ht⟩:=nU AD.limbs (by rw [lD,hj]) L4 (by rw [l4,hj]) HN.out.1 HN.out.2 hs63 S4
  subst c0
  exact aa ⟨g,nn,s,j,val (T.drop nn),Z4,by rw [l4],by omega,B4,L4,by rw [l4,hj],ht,hs63,by omega,by rw [Nat.mul_comm];exact hval,by rw [l4];omega,by omega⟩
 have hcy2:cy<18446744073709551616:=by
  have:=Nat.pow_le_pow_right (n:=2) (by omega) (Nat.le_of_lt hs63)
  omega
 have RX4:=aa ((F4.block w.heap.size hsz3 (by omega)).trans HX3.out)
 have W4:=aa (HB3.out.trans (F4.below (by omega) HB3.out.size))
 clear O4 L4 B4 F4 S4 HSU hcell3 HX3 HB3 HD HH HN hcy
 obtain⟨hr0,hr1,hr2⟩:=bV RX4.out
 have hf:=om RX4.out
 go_wp2
 have R5:=iT RX4.out (a':=.slice (some ⟨g,0,none⟩) R R) (b':=.int .i64 nn) (c':=.int .i64 s)
 have hne:g≠w.heap.size:=by omega
 have HRES5:Hid (Dvs (((w4.setCell ⟨w.heap.size,0,none⟩ (.slice (some ⟨g,0,none⟩) R R)).setCell ⟨w.heap.size,1,none⟩ (.int .i64 nn)).setCell ⟨w.heap.size,2,none⟩ (.int .i64 s)) w.heap.size (.agg #[.slice (some ⟨g,0,none⟩) R R,.int .i64 nn,.int .i64 s]) (val T) T.length):=by
  obtain⟨g',nn',s',j',k',V,h1,h2,h3,h4⟩:=HRES.out
  have e1:g'=g:=by
   injection h1 with h1
   have:=congrArg (fun a=>a[0]?) h1
   simp at this
   exact this.1.symm
  subst e1
  exact aa ⟨g',nn',s',j',k',V,h1,h2,((h3.other ⟨w.heap.size,0,none⟩ _ hne).other ⟨w.heap.size,1,none⟩ _ hne).other ⟨w.heap.size,2,none⟩ _ hne,h4⟩
 have W5:=aa (((W4.out.setCell (p:=⟨w.heap.size,0,none⟩) (Nat.le_refl _) (.slice (some ⟨g,0,none⟩) R R)).setCell (p:=⟨w.heap.size,1,none⟩) (Nat.le_refl _) (.int .i64 nn)).setCell (p:=⟨w.heap.size,2,none⟩) (Nat.le_refl _) (.int .i64 s))
 generalize ((w4.setCell ⟨w.heap.size,0,none⟩ (.slice (some ⟨g,0,none⟩) R R)).setCell ⟨w.heap.size,1,none⟩ (.int .i64 nn)).setCell ⟨w.heap.size,2,none⟩ (.int .i64 s)=w5 at *
 clear hr0 hr1 hr2 hf
 obtain⟨hk0,hk1,hk2⟩:=bV R5
 clear R5 RX4 HRES W4
 refine bodyPost_ret (v:=.agg #[.slice (some ⟨g,0,none⟩) R R,.int .i64 nn,.int .i64 s]) (by simp [results,Tryz.results105,go_sem,hk0,hk1,hk2]) rfl ?_
 exact⟨⟨_,rfl,HRES5.out⟩,W5.out⟩

theorem mr {hx Bh S q R lo P:Nat}(hS:0<S)(e:q*(Bh*S)+R=hx*S)(hR:R<Bh*S)(hlo:lo<P) :
  q=(lo+P*hx) / (Bh*P)∧lo+P*(R / S)=(lo+P*hx) % (Bh*P):=by
 have h1:R=(hx - q*Bh)*S:=by
  rw [Nat.sub_mul,←e,←Nat.mul_assoc];omega
 have hle:q*Bh≤hx:=by
  refine Nat.le_of_mul_le_mul_right ?_ hS
  rw [Nat.mul_assoc];omega
 obtain⟨r,rfl⟩:∃r,hx=q*Bh+r:=⟨hx - q*Bh,by omega⟩
 rw [Nat.add_sub_cancel_left] at h1
 subst h1
 rw [Nat.mul_div_cancel _ hS]
 have hr:r<Bh:=Nat.lt_of_mul_lt_mul_right hR
 have h2:lo+P*(q*Bh+r)=Bh*P*q+(lo+P*r):=by
  rw [Nat.mul_add,show P*(q*Bh)=Bh*P*q by rw [Nat.mul_comm q Bh,←Nat.mul_assoc,Nat.mul_comm P Bh]]
  omega
 have h3:lo+P*r<Bh*P:=by
  have:=Nat.mul_le_mul_left P (Nat.succ_le_of_lt hr)
  rw [Nat.succ_eq_add_one,Nat.mul_add,Nat.mul_one,Nat.mul_comm P Bh] at this
  omega
 rw [h2,Nat.mul_add_div (by omega),Nat.mul_add_mod,Nat.div_eq_of_lt h3,Nat.mod_eq_of_lt h3]
 exact⟨rfl,rfl⟩

def dl (w:World)(x B k:Nat)(e:Ending)(w':World):Prop:=
 (∃(vq vr:Value) (qs rs:List Nat) (mid:Nat),e=.returned (.tuple #[vq,vr])∧Ans w' w.heap.size vq qs∧(w.heap.size≤mid∧mid≤w'.heap.size)∧(∀g,vq.ownBlock=some g→g<mid)∧Ans w' mid vr rs ∧
  val qs=x / B∧val rs=x % B∧qs.length≤k∧rs.length≤k∧(B≤x→1≤rs.length))∧Below w.heap.size w w'

theorem Dvs.ge {V:List Nat}{j s h nn:Nat}(lV:V.length=j+1)(ht:9223372036854775808≤V.getD j 0)(hs:s<64)(e:val V=h*2 ^ s):18446744073709551616 ^ (nn+j)≤h*18446744073709551616 ^ nn∧9223372036854775808*18446744073709551616 ^ j≤val V∧0<h:=by
 have a1:=val_take_next V j
 rw [←lV,List.take_length] at a1
 have b1:9223372036854775808*18446744073709551616 ^ j≤val V:=by
  rw [a1,Nat.mul_comm]
  exact Nat.le_trans (Nat.mul_le_mul_left _ ht) (Nat.le_add_left _ _)
 have hp:2 ^ s≤9223372036854775808:=Nat.pow_le_pow_right (n:=2) (by omega) (show s≤63 by omega)
 have hpos:=Nat.pow_pos (n:=j) (show 0<18446744073709551616 by omega)
 have b2:18446744073709551616 ^ j≤h:=by
  rw [e] at b1
  refine Nat.le_of_not_lt fun hl=>?_
  have c1:=Nat.mul_lt_mul_of_lt_of_le hl hp (by omega)
  rw [Nat.mul_comm] at b1
  omega
 refine⟨?_,b1,by omega⟩
 rw [Nat.pow_add,Nat.mul_comm]
 exact Nat.mul_le_mul_right _ b2

theorem kW (va vd:Value)(X:List Nat)(base B n:Nat)(w:World)(hA:Arg w va X)(hD:Dvs w base vd B n)(hn:(tr X).length<n)(hfew:X.length≤17592186044416) :
  Calls Tryz.prog 106 #[vd,va] w (dl w (val X) B X.length):=by
 obtain⟨a0,cap,rfl,hcc,hcm,hl⟩:=hA.form
 obtain⟨g,nn,s,j,h,V,rfl,hg,hV,lV,hj,ht,hs,eV,eB,en,hnf⟩:=hD
 obtain⟨g1,g2,g3⟩:=Dvs.ge (nn:=nn) hj ht hs eV
 obtain⟨w0,hw0⟩:∃w0,w0=w.alloc (.cells #[.slice (some ⟨g,0,none⟩) V.length V.length,.int .i64 nn,.int .i64 s] 128):=⟨_,rfl⟩
 have hbel0:Below w.heap.size w w0:=by rw [hw0];exact (Below.refl _ _).alloc (Nat.le_refl _) _
 have hs0:w0.heap.size=w.heap.size+1:=by rw [hw0];exact World.size_alloc _ _
 have hb0:w0.heap[w.heap.size]?=some (.cells #[.slice (some ⟨g,0,none⟩) V.length V.length,.int .i64 nn,.int .i64 s] 128):=by rw [hw0];exact heap_alloc_new ..
 have H1:=ce _ cap X w0 hcc hcm (hl.below hbel0)
 have A0:=(hA.below hbel0).trim
 have hle:=tr_length_le X
 have H2:=iZ _ (tr X) w0 A0 (by omega)
 rw [tr_tr] at H2
 have hlt:val X<B:=by
  have h1:=val_lt A0.limbs
  rw [val_tr] at h1
  have h2:=Nat.pow_le_pow_right (n:=18446744073709551616) (by omega) (show (tr X).length≤nn+j by omega)
  rw [eB];omega
 have HV:Hid (val (tr X)=val X % B∧0=val X / B):=aa ⟨by rw [val_tr,Nat.mod_eq_of_lt hlt],(Nat.div_eq_of_lt hlt).symm⟩
 have HLT:=aa hlt
 have HW0:=aa hw0
 obtain⟨hk0,hk1,_⟩:=bV hb0
 have eN:(nn:Int)+(V.length:Int)=(n:Int):=by omega
 have k1:((tr X).length:Int)<(n:Int):=by omega
 have HBL:=aa hbel0
 clear hV lV hj ht eV eB g1 g2 g3 hlt A0 hl hA hb0 hw0 en
 go_enter Tryz.func106,Tryz.ntmps106
 go_wp2_with fail
 rw [←HW0.out]
 refine H1.mono ?_
 rintro e wn ⟨rfl,hw⟩;rw [hw];clear hw wn H1
 go_wp2_with fail
 refine H2.mono ?_
 rintro e w2 ⟨⟨v,rfl,An⟩,hb2⟩
 have HX:Hid (dl w (val X) B X.length (.returned (.tuple #[.slice none 0 0,v])) w2):=by
  have hbb:=HBL.out.trans (hb2.mono HBL.out.size)
  exact aa ⟨⟨_,v,[],tr X,w.heap.size,rfl,Ans.nil _ _,⟨Nat.le_refl _,hbb.size⟩,(fun g e=>(by cases e)),An.base HBL.out.size,HV.out.2,HV.out.1,Nat.zero_le _,hle,fun h=>absurd h (Nat.not_le_of_lt HLT.out)⟩,hbb⟩
 clear An hb2 H2 HV
 go_wp2
 go_ret2
 exact HX.out

theorem kj {U V:List Nat}{j m L H s h:Nat}(lU:U.length=H+1)(hL:L=j+1)(hm:H+1=m+L)(e:val U=h*2 ^ s)(hh:h<18446744073709551616 ^ H)(hs:s<64)(hV:9223372036854775808*18446744073709551616 ^ j≤val V) :
  sv U (0+m) L<val V:=by
 have s1:=ag U 0 m L (by omega)
 rw [←hm,←lU,aR,e] at s1
 have hp:2 ^ s≤9223372036854775808:=Nat.pow_le_pow_right (n:=2) (by omega) (show s≤63 by omega)
 have hH:18446744073709551616 ^ H=18446744073709551616 ^ m*18446744073709551616 ^ j:=by rw [←Nat.pow_add];congr 1;omega
 have hpos:=Nat.pow_pos (n:=m) (show 0<18446744073709551616 by omega)
 have c1:h*2 ^ s<18446744073709551616 ^ H*9223372036854775808:=Nat.mul_lt_mul_of_lt_of_le hh hp (by omega)
 rw [hH,Nat.mul_assoc,Nat.mul_comm (18446744073709551616 ^ j)] at c1
 refine Nat.lt_of_lt_of_le ?_ hV
 refine Nat.lt_of_mul_lt_mul_left (a:=18446744073709551616 ^ m) ?_
 omega

theorem jQ (va vd:Value)(X:List Nat)(base B n:Nat)(w:World)(hA:Arg w va X)(hD:Dvs w base vd B n)(hT:Tab w)(hn:n≤(tr X).length)(hfew:X.length≤17592186044416) :
  Calls Tryz.prog 106 #[vd,va] w (dl w (val X) B X.length):=by
 obtain⟨a0,cap,rfl,hcc,hcm,hl⟩:=hA.form
 obtain⟨g,nn,s,j,h,V,rfl,hg,hV,lV,hj,ht,hs,eV,eB,en,hnf⟩:=hD
 obtain⟨g1,g2,g3⟩:=Dvs.ge (nn:=nn) hj ht hs eV
 have hle:=tr_length_le X
 obtain⟨b,off,rfl⟩:∃b off,a0=some ⟨b,off,none⟩:=by
  rcases hl with h0|⟨b,off,e,_⟩
  ·subst h0
   have:(tr []).length=0:=rfl
   omega
  ·exact⟨b,off,e⟩
 obtain⟨w0,hw0⟩:∃w0,w0=w.alloc (.cells #[.slice (some ⟨g,0,none⟩) V.length V.length,.int .i64 nn,.int .i64 s] 128):=⟨_,rfl⟩
 have hbel0:Below w.heap.size w w0:=by rw [hw0];exact (Below.refl _ _).alloc (Nat.le_refl _) _
 have hs0:w0.heap.size=w.heap.size+1:=by rw [hw0];exact World.size_alloc _ _
 have hb0:w0.heap[w.heap.size]?=some (.cells #[.slice (some ⟨g,0,none⟩) V.length V.length,.int .i64 nn,.int .i64 s] 128):=by rw [hw0];exact heap_alloc_new ..
 have H1:=ce _ cap X w0 hcc hcm (hl.below hbel0)
 have A0:=hA.trim
 rw [←val_tr X]
 have hbw:b<w.heap.size:=hA.block (by omega)
 generalize tr X=T at *
 have HOK:=nQ (V.length+1) V (Nat.lt_succ_self _) j hj ht
 obtain⟨L,hL⟩:∃L,V.length=L:=⟨_,rfl⟩
 obtain⟨H,hH1,hH2⟩:∃H:Nat,T.length - nn=H∧T.length=nn+H:=⟨_,rfl,by omega⟩
 obtain⟨H',eH,hH'1,hH'2⟩:∃H':Nat,(H:Int)+1=(H':Int)∧H'≤H+1∧H+1≤H':=⟨H+1,by omega,by omega,by omega⟩
 obtain⟨m,em,hm1,hm2⟩:∃m:Nat,(H':Int) - (L:Int)=(m:Int)∧m+L≤H'∧H'≤m+L:=⟨H' - L,by omega,by omega,by omega⟩
 have eN:(nn:Int)+(L:Int)=(n:Int):=by omega
 have HV:=aa (And.intro hV (And.intro lV (And.intro hj (And.intro ht (And.intro hL HOK)))))
 have HE:=aa (And.intro eV (And.intro eB (And.intro g2 g3)))
 have HN:=aa (And.intro en hH2)
 have HA:=aa A0
 have HTT:=aa hT
 have HW0:=aa hw0
 have HBL:=aa hbel0
 rw [hL] at hb0 HW0 hw0 ⊢
 have HBX:=aa hb0
 obtain⟨hk0,hk1,hk2⟩:=bV hb0
 have hgw:g<w.heap.size:=hV.lt
 have hcne:¬cap=nn:=by omega
 have c0:(0:Int)≤(nn:Int):=by omega
 have c1:(nn:Int)≤(T.length:Int):=by omega
 have c2:(nn:Int)≤(cap:Int):=by omega
 have c3:¬((T.length:Int)<(n:Int)):=by omega
 have c4:L≤H:=by omega
 have c5:0<L:=by omega
 have c6:H≤17592186044416:=by omega
 have c7:nn+L≤n:=by omega
 have c8:n≤nn+L:=by omega
 have c9:nn+H≤T.length:=by omega
 obtain⟨i0,hi,hz0,hz1,hz2⟩:=info_parts Tryz.infoU
 clear hl hA A0 hT hw0 hbel0 hV lV hj ht HOK eV eB g1 g2 g3 en hH2 hb0 hL hn
 go_enter Tryz.func106,Tryz.ntmps106
 go_wp2_with fail
 rw [←HW0.out]
 refine H1.mono ?_
 rintro e wn ⟨rfl,hw⟩;rw [hw];clear hw wn H1
 go_wp2
 go_quiet (fail)
 obtain⟨w1,hw1⟩:∃w1,w1=w0.drewN nq:=⟨_,rfl⟩
 have hx1:w1.heap[w.heap.size]?=some (.cells #[.slice (some ⟨g,0,none⟩) L L,.int .i64 nn,.int .i64 s] 128):=by rw [hw1];exact HBX.out
 have hbel1:Below w.heap.size w w1:=by rw [hw1];exact gj HBL.out _
 have hs1:w1.heap.size=w.heap.size+1:=by rw [hw1];exact hs0
 rw [←hw1]
 have HX1:=aa hx1
 have HB1:=aa hbel1
 clear hw1 hx1 hbel1 HBL HBX hk0 hk1 hk2 hs0 HW0
 go_wp2_with (at_make;refine wpList_make_full _ rfl _ _ 25 rfl w1.heap.size 60 i0 (.int .u64 0) 1 Tryz.underlying25 hi hz0 hz1 .i64 .i64 _ _ H' rfl rfl (by omega) (by omega) (by rw [hz2];omega) (by unfold maxLen;omega) (Nat.le_refl _) ?_;intro w2 hown hgrow;obtain⟨hk0,hk1,hk2⟩:=bV ((((Below.refl w1.heap.size w1).grown hgrow (Nat.le_refl _) (fun k hk=>by cases hk)).block w.heap.size (by omega)).trans HX1.out))
 have hm2':Blk w2 w1.heap.size (List.replicate H' 0):=Blk.made hown
 have hbel2:Below w1.heap.size w1 w2:=(Below.refl _ _).grown hgrow (Nat.le_refl _) (fun k hk=>by cases hk)
 have HX2:=aa ((hbel2.block w.heap.size (by omega)).trans HX1.out)
 have HB2:=aa (HB1.out.trans (hbel2.mono HB1.out.size))
 obtain⟨gu,hgu⟩:∃gu,gu=w.heap.size+1:=⟨_,rfl⟩
 rw [hs1,←hgu] at hm2'
 rw [←hgu]
 have hgw2:w.heap.size<gu:=by omega
 have hsz2:gu<w2.heap.size:=hm2'.lt
 have AH:=HA.out.drop nn (by omega)
 rw [hH1] at AH
 have lD:(T.drop nn).length=H:=by rw [List.length_drop];exact hH1
 have HSU:=gW gu 0 H' H' (List.replicate H' 0) _ (T.drop nn) s w2 hm2' (limbs_replicate _) (AH.below HB2.out) (fun b' off' n' c' e=>by cases e;exact .inl (by omega)) (by simp) (Nat.le_refl _) (by omega) (by rw [lD];omega) hs
 have HAH:=aa (And.intro AH lD)
 have HGU:=aa hgu
 clear hown hgrow hbel2 hm2' HX1 HB1 hs1 AH lD hgu
 refine HSU.mono ?_
 rintro e w3 ⟨cy,Z3,hcy,rfl,O3,L3,B3,F3,S3⟩
 have hcy2:cy<18446744073709551616:=by
  have:=Nat.pow_le_pow_right (n:=2) (by omega) (Nat.le_of_lt hs)
  omega
 have l3:Z3.length=H':=by rw [O3.len,List.length_replicate]
 have fr3:=B3.free (0+H)
 have cl3:=B3.cell (0+H) (by omega)
 rw [Nat.zero_add] at fr3 cl3
 have B4:=B3.set H cy
 have F4:=F3.setCell H (.int .u64 (cy:Int))
 have HU4:Hid (val (Z3.set H cy)=val (T.drop nn)*2 ^ s):=by
  have e1:=bZ Z3 0 H cy (by omega)
  rw [Nat.zero_add,show H+1=H' by omega] at e1
  rw [HAH.out.2] at S3
  have e2:sv (Z3.set H cy) 0 H'=val (Z3.set H cy):=bh (by rw [List.length_set];exact l3)
  rw [e2] at e1
  rw [e1,←S3,Nat.mul_comm cy]
  exact aa rfl
 have L4:=limbs_set L3 H cy hcy2
 have l4:(Z3.set H cy).length=H':=by rw [List.length_set];exact l3
 obtain⟨w4,hw4⟩:∃w4,w4=w3.setCell ⟨gu,H,none⟩ (.int .u64 (cy:Int)):=⟨_,rfl⟩
 rw [←hw4] at B4 F4
 have HX4:=aa ((F4.block w.heap.size (by omega) (by omega)).trans HX2.out)
 have HB4:=aa (HB2.out.trans (F4.below (by omega) HB2.out.size))
 have hsz4:gu<w4.heap.size:=B4.lt
 generalize Z3.set H cy=U4 at *
 generalize Z3.getD H 0=z3 at *
 have HU:=aa (And.intro B4 (And.intro L4 l4))
 have HW4:=aa hw4
 clear HSU O3 L3 B3 F3 S3 l3 B4 F4 L4 l4 HX2 HB2 hk0 hk1 hk2
 have d1:(0:Int)≤(H:Int):=by omega
 have d2:(H:Int)<(H':Int):=by omega
 obtain⟨hk0,_,_⟩:=bV HX4.out
 rw [HW4.out] at hk0
 go_wp2_with (at_make;rw [←HW4.out];refine wpList_make_full _ rfl _ _ 25 rfl w4.heap.size 60 i0 (.int .u64 0) 1 Tryz.underlying25 hi hz0 hz1 .i64 .i64 _ _ m rfl rfl (by omega) (by omega) (by rw [hz2];omega) (by unfold maxLen;omega) (Nat.le_refl _) ?_;intro w5 hown hgrow;obtain⟨hk0,hk1,hk2⟩:=bV ((((Below.refl w4.heap.size w4).grown hgrow (Nat.le_refl _) (fun k hk=>by cases hk)).block w.heap.size (by omega)).trans HX4.out))
 obtain⟨B4,L4,l4⟩:=HU.out
 obtain⟨hV,lV,hj,ht,hL,HOK⟩:=HV.out
 have hm5:Blk w5 w4.heap.size (List.replicate m 0):=Blk.made hown
 have hbel5:Below w4.heap.size w4 w5:=(Below.refl _ _).grown hgrow (Nat.le_refl _) (fun k hk=>by cases hk)
 have HX5:=aa ((hbel5.block w.heap.size (by omega)).trans HX4.out)
 have HB5:=aa (HB4.out.trans (hbel5.mono HB4.out.size))
 have hs4:w4.heap.size=w3.heap.size:=by rw [HW4.out];simp
 obtain⟨gq,hgq⟩:∃gq,gq=w3.heap.size:=⟨_,rfl⟩
 rw [hs4,←hgq] at hm5
 rw [←hgq]
 have hgq2:gu<gq:=by omega
 have hsz5:gq<w5.heap.size:=hm5.lt
 have AV:Arg w5 (.slice (some ⟨g,0,none⟩) V.length L) V:=by
  have h:=(hV.below HB5.out hgw).seg_arg lV 0 V.length L (by omega) (by omega) (by omega) (by omega)
  rw [show seg V 0 V.length=V by simp [seg]] at h
  exact h
 have htab:=HTT.out.1
 have HDV:=HOK gq 0 m m gu 0 H' g 0 L (List.replicate m 0) U4 w5 hm5 (limbs_replicate _) (B4.below hbel5 (by omega)) L4 AV (HTT.out.below HB5.out) (by omega) (by omega) (by omega) (by omega) (by omega) (by simp) (Nat.le_refl _) (by omega) (by rw [l4,hL];omega) (by rw [hL];omega) (by omega) (by rw [hL];omega)
  (by rw [hL];exact kj (H:=H) (j:=j) (by rw [l4];omega) (by omega) (by omega) HU4.out (by have:=val_lt HAH.out.1.limbs;rw [HAH.out.2] at this;exact this) hs HE.out.2.2.1)
 rw [hL,show m+L=H' by omega] at HDV
 have HLIM:=aa (And.intro hL (And.intro hj l4))
 have hgqs:=hgq
 clear hown hgrow hbel5 hm5 hs4 AV B4 L4 l4 hV lV hj ht hL HOK HX4 HB4 HV HU htab hgq hgqs
 refine HDV.mono ?_
 rintro e w6 ⟨he,Q6,U6,hrel⟩
 subst he
 have HX6:=aa ((hrel.fr.block w.heap.size (by omega) (by omega) (by omega)).trans HX5.out)
 have HB6:=aa (show Below w.heap.size w w6 from ⟨hrel.fr.os.trans HB5.out.os,hrel.fr.tape.trans HB5.out.tape,hrel.fr.output.trans HB5.out.output,Nat.le_trans HB5.out.size hrel.fr.size,fun k hk=>(hrel.fr.block k (by omega) (by omega) (by omega)).trans (HB5.out.block k hk)⟩)
 have hsz6:gq<w6.heap.size:=hrel.blkQ.lt
 have HR6:=aa hrel
 clear hrel HDV hk0 hk1 hk2 HX5 HB5
 obtain⟨hk0,hk1,hk2⟩:=bV HX6.out
 have lTk:(T.take nn).length=nn:=by rw [List.length_take];omega
 go_wp2_with (at_make;refine wpList_make_full _ rfl _ _ 25 rfl w6.heap.size 60 i0 (.int .u64 0) 1 Tryz.underlying25 hi hz0 hz1 .i64 .i64 _ _ n rfl rfl (by omega) (by omega) (by rw [hz2];omega) (by unfold maxLen;omega) (Nat.le_refl _) ?_;intro w7 hown hgrow;obtain⟨w8,M8,hcp,B8,L8,F8,O8,S8⟩:=aZ w6.heap.size 0 n n (List.replicate n 0) (some ⟨b,off,none⟩) cap (T.take nn) w7 (Blk.made hown) (limbs_replicate _) (HA.out.front nn (by omega)).limbs (aV n 0 n) (by simp) (by rw [lTk];omega) (ak.arg ((HA.out.front nn (by omega)).below (HB6.out.trans (((Below.refl w6.heap.size w6).grown hgrow (Nat.le_refl _) (fun k hk=>by cases hk)).mono HB6.out.size))));rw [lTk] at hcp)
 have hbel7:Below w6.heap.size w6 w7:=(Below.refl _ _).grown hgrow (Nat.le_refl _) (fun k hk=>by cases hk)
 have hsz7:=hbel7.size
 obtain⟨gr,hgr⟩:∃gr,gr=w6.heap.size:=⟨_,rfl⟩
 rw [←hgr] at B8 F8 hcp ⊢
 have HB8:=aa (HB6.out.trans ((hbel7.mono HB6.out.size).trans (F8.below (by omega) (by omega))))
 have HX8:=aa ((F8.block w.heap.size (by omega) (by omega)).trans ((hbel7.block w.heap.size (by omega)).trans HX6.out))
 have yl:n - nn=L:=by omega
 have hcn:¬n=nn:=by omega
 have f0:(nn:Int)≤(n:Int):=by omega
 have f1:(0:Int)≤(L:Int):=by omega
 have f2:(L:Int)≤(H':Int):=by omega
 have o6:=HR6.out.outU
 have l6:U6.length=H':=by rw [o6.len];exact HLIM.out.2.2
 have q6:Q6.length=m:=by rw [HR6.out.outQ.len,List.length_replicate]
 have BU8:=(HR6.out.blkU.below hbel7 (by omega)).frb F8 (by omega)
 have BQ8:=(HR6.out.blkQ.below hbel7 (by omega)).frb F8 (by omega)
 have lM:M8.length=n:=by rw [O8.len,List.length_replicate]
 have HSD:=nE gr nn L L M8 (.slice (some ⟨gu,0,none⟩) L H') (seg U6 0 L) s w8.drew (B8.below (Below.refl _ _).drew B8.lt) L8 (BU8.seg_arg HR6.out.limU 0 L H' (by omega) (by omega) (by omega) (by omega)).drew (ae (by omega) _ _) (by omega) (Nat.le_refl _) (by omega) (by rw [aT _ _ _ (by omega)];exact Nat.le_refl _) (by rw [aT _ _ _ (by omega)];exact Nat.le_refl _) hs
 have H8:=aa (And.intro L8 (And.intro O8 (And.intro S8 (And.intro lM (And.intro q6 BQ8)))))
 obtain⟨hj0,hj1,hj2⟩:=bV HX8.out
 have hsz8:=B8.lt
 have hgr2:gq<gr:=by omega
 clear hgr hown hgrow hbel7 hcp B8 F8 L8 O8 S8 lM o6 l6 q6 BU8 BQ8 HX6 HB6 hk0 hk1 hk2 hi hz0 hz1 hz2
 have hszb:w.heap.size<w8.drew.heap.size:=by show w.heap.size<w8.heap.size;omega
 have hneb:w.heap.size≠gr:=by omega
 go_region_held3 (fun w'=>w'.cell? ⟨w.heap.size,0,none⟩=some (.slice (some ⟨g,0,none⟩) L L)∧w'.cell? ⟨w.heap.size,1,none⟩=some (.int .i64 nn)∧w'.cell? ⟨w.heap.size,2,none⟩=some (.int .i64 s)) (go_keep) (first
  | (go_at_call 115;refine HSD.mono ?_;rintro e w9 ⟨he,M9,O9,L9,B9,F9,S9⟩;subst he;obtain⟨hx0,hx1,hx2⟩:=bV ((F9.block w.heap.size hszb hneb).trans HX8.out)))
 have HEND:Hid (dl w (val T) B X.length (.returned (.tuple #[.slice (some ⟨gq,0,none⟩) m m,.slice (some ⟨gr,0,none⟩) n n])) w9):=by
  obtain⟨L8,O8,S8,lM,q6,BQ8⟩:=H8.out
  obtain⟨eV,eB,_,h0⟩:=HE.out
  have hr:=HR6.out
  have e1:=hr.eq
  have e2:=hr.lt
  simp only [Nat.add_zero,Nat.sub_zero] at e1 e2
  have l9:M9.length=n:=by rw [O9.len];exact lM
  rw [bh q6,show L+m=H' by omega,bh HLIM.out.2.2,HU4.out,eV] at e1
  rw [eV] at e2
  have vt:=bM HA.out.limbs nn (by omega)
  have s8:=ag M8 0 nn L (by omega)
  rw [show nn+L=n by omega,S8] at s8
  have hP:=bj L8 0 nn
  have s8':sv M8 0 nn=val (T.take nn):=by
   rcases Nat.eq_zero_or_pos (sv M8 (0+nn) L) with z|z
   ·rw [z,Nat.mul_zero] at s8;omega
   ·have:=Nat.mul_le_mul_left (18446744073709551616 ^ nn) z
    omega
  have s9:=ag M9 0 nn L (by omega)
  rw [show nn+L=n by omega,bh l9,O9.sv 0 nn (by omega),s8',Nat.zero_add,S9] at s9
  obtain⟨r1,r2⟩:=mr (Nat.two_pow_pos s) e1 e2 vt
  rw [←bk T nn (by omega),←eB] at r1 r2
  have A1:=Ans.of_blk (base:=w.heap.size) (zs:=Q6) (show w.heap.size≤gq by omega) (BQ8.frb F9.undrew (by omega)) List.take_length.symm (Nat.le_refl _) (by omega) hr.limQ
  have A2:=Ans.of_blk (base:=gr) (zs:=M9) (Nat.le_refl gr) B9 List.take_length.symm (Nat.le_refl _) (by omega) L9
  rw [q6] at A1
  rw [l9] at A2
  have hb9:Below w.heap.size w w9:=HB8.out.trans (F9.undrew.below (by omega) HB8.out.size)
  refine aa ⟨⟨_,_,Q6,M9,gr,rfl,A1,⟨by omega,Nat.le_of_lt B9.lt⟩,(fun g' e=>?_),A2,r1,?_,by omega,by omega,fun _=>by omega⟩,hb9⟩
  ·have:g'=gq:=by
    simp [Value.ownBlock] at e
    exact e.symm
   omega
  ·rw [s9];exact r2
 clear H8 HR6 O9 L9 B9 F9 S9 HSD hx0 hx1 hx2 hj0 hj1 hj2
 go_wp2
 go_ret2
 exact HEND.out

theorem gE (va vd:Value)(X:List Nat)(base B n:Nat)(w:World)(hA:Arg w va X)(hD:Dvs w base vd B n)(hT:Tab w)(hfew:X.length≤17592186044416) :
  Calls Tryz.prog 106 #[vd,va] w (dl w (val X) B X.length):=by
 by_cases h:(tr X).length<n
 ·exact kW va vd X base B n w hA hD h hfew
 ·exact jQ va vd X base B n w hA hD hT (by omega) hfew

def oo (w w':World)(e:Ending)(s t:Nat):Prop:=
 ∃v1 v2 c r1 r2 mid,e=.returned (.tuple #[v1,v2,.int .i64 c])∧Ans w' w.heap.size v1 r1∧(w.heap.size≤mid∧mid≤w'.heap.size)∧(∀g,v1.ownBlock=some g→g<mid)∧Ans w' mid v2 r2 ∧
  ((c=0∧val r1=s∧tr r1=r1∧val r2=t∧tr r2=r2∧blen s≤67108864∧blen t≤67108864)∨(c=3∧r1=[]∧r2=[]∧(67108864<blen s∨67108864<blen t)))

theorem mf (v:Value)(base:Nat)(xs:List Nat)(w:World)(h:Ans w base v xs)(hf:xs.length≤1125899906842624) :
  Calls Tryz.prog 107 #[v] w fun e w'=>w'=w∧∃v' c rs,e=.returned (.tuple #[v',.int .i64 c])∧Ans w base v' rs∧(∀g,v'.ownBlock=some g→v.ownBlock=some g)∧((c=0∧val rs=val xs∧tr rs=rs∧blen (val xs)≤67108864)∨(c=3∧rs=[]∧67108864<blen (val xs))):=by
 have ha:=h.arg hf
 obtain⟨ao,cap,rfl,hcap,hmax,hlies⟩:=ha.form
 have hle:=tr_length_le xs
 have H1:=ce _ cap xs w hcap hmax hlies
 have H2:=aQ _ _ _ ha
 have HA:Hid (Ans w base (.slice ao (tr xs).length cap) (tr xs)):=h.trim
 have HT:Hid (tr (tr xs)=tr xs∧val (tr xs)=val xs):=⟨tr_tr xs,val_tr xs⟩
 generalize tr xs=T at *
 generalize val xs=V at *
 generalize blen V=y at *
 clear hlies h ha
 by_cases hy:y≤67108864
 ·go_enter Tryz.func107,Tryz.ntmps107
  go_wp2_with fail
  refine H2.mono ?_
  rintro e w' ⟨rfl,rfl⟩
  go_wp2_with fail
  refine H1.mono ?_
  rintro e w' ⟨rfl,rfl⟩
  go_wp2
  go_ret2
  exact⟨rfl,_,_,T,rfl,HA.out,(fun g e=>by cases ao <;> exact e),.inl ⟨rfl,HT.out.2,HT.out.1,hy⟩⟩
 ·go_enter Tryz.func107,Tryz.ntmps107
  go_wp2_with fail
  refine H2.mono ?_
  rintro e w' ⟨rfl,rfl⟩
  go_wp2
  go_ret2
  exact⟨rfl,_,_,[],rfl,Ans.nil _ _,(fun g e=>(by cases e)),.inr ⟨rfl,rfl,by omega⟩⟩

theorem gS {x y k:Nat}(hy:0<y)(h:k+blen y<blen x):k<blen (x / y):=by
 refine Nat.lt_of_not_le fun hle=>?_
 have h1:=(blen_le_iff (x / y) k).1 hle
 have h2:y<2 ^ blen y:=(blen_le_iff y _).1 (Nat.le_refl _)
 have h3:x<2 ^ (k+blen y):=by
  rw [Nat.div_lt_iff_lt_mul hy] at h1
  rw [Nat.pow_add]
  exact Nat.lt_of_lt_of_le h1 (Nat.mul_le_mul_left _ (Nat.le_of_lt h2))
 have:=(blen_le_iff x _).2 h3
 omega

theorem kt (va vb:Value)(X Y:List Nat)(w:World)(hA:Arg w va X)(hA2:Arg w vb Y)(hT:Tab w)(hf1:X.length≤17592186044416)(hf2:Y.length≤17592186044416)(hY:val Y≠0) :
  Calls Tryz.prog 95 #[va,vb] w fun e w'=>oo w w' e (val X / val Y) (val X % val Y)∧Below w.heap.size w w':=by
 have HR:=iC va vb X Y w hA hA2
 have HDV:=gZ vb Y w hA2 hT hY (by omega)
 have HA:=aa hA
 have HT:=aa hT
 obtain⟨a1,c1,rfl,_,_,_⟩:=hA.form
 obtain⟨a2,c2,rfl,_,_,_⟩:=hA2.form
 have hr:bT (val X) (val Y)=if 67108864+blen (val Y)<blen (val X) then 3 else 0:=by unfold bT;rw [if_neg hY]
 rw [hr] at HR
 have HY:=aa (show 0<val Y by omega)
 clear hA hA2 hT hr hY
 by_cases hb:67108864+blen (val Y)<blen (val X)
 ·rw [if_pos hb] at HR
  have HX:Hid (67108864<blen (val X / val Y)):=aa (gS HY.out hb)
  clear HDV hb
  go_enter Tryz.func95,Tryz.ntmps95
  go_wp2_with fail
  refine HR.mono ?_
  rintro e wn ⟨rfl,hw⟩;subst hw
  clear HR
  go_wp2
  go_returns
  exact⟨⟨_,_,_,[],[],wn.heap.size,rfl,Ans.nil _ _,⟨Nat.le_refl _,Nat.le_refl _⟩,(fun g e=>(by cases e)),Ans.nil _ _,.inr ⟨rfl,rfl,rfl,.inl HX.out⟩⟩,Below.refl _ _⟩
 ·rw [if_neg hb] at HR
  clear hb
  go_enter Tryz.func95,Tryz.ntmps95
  go_wp2_with fail
  refine HR.mono ?_
  rintro e wn ⟨rfl,hw⟩;rw [hw];clear hw wn
  go_wp2_with fail
  refine HDV.mono ?_
  rintro e w1 ⟨⟨vd,rfl,hd⟩,hb1⟩
  have H1:=gE _ vd X _ _ _ w1 (HA.out.below hb1) hd (HT.out.below hb1) hf1
  have HB1:=aa hb1
  clear hd hb1 HDV HR
  go_wp2_with fail
  refine H1.mono ?_
  rintro e w2 ⟨⟨vq,vr,qs,rs,mid,rfl,A1,hmid,hq,A2,e1,e2,l1,l2,_⟩,hb2⟩
  have HQ:=mf vq w1.heap.size qs w2 A1 (by omega)
  have HRR:=gN vr mid rs w2 A2 (by omega)
  have HB2:=aa (HB1.out.trans (hb2.mono HB1.out.size))
  have HM:=aa (And.intro (Nat.le_trans HB1.out.size hmid.1) (And.intro hmid.2 hq))
  rw [e1] at HQ
  rw [e2] at HRR
  clear A1 A2 hmid hq e1 e2 l1 l2 hb2 H1
  go_wp2_with fail
  refine HQ.mono ?_
  rintro e w3 ⟨hw,v1,c1,r1,rfl,An1,hown,hres⟩;subst hw
  clear HQ
  rcases hres with ⟨rfl,ev1,tv1,bl1⟩|⟨rfl,rfl,bl1⟩
  ·have H1:=aa (And.intro An1 (And.intro hown (And.intro ev1 (And.intro tv1 bl1))))
   clear An1 hown ev1 tv1 bl1
   go_wp2_with fail
   refine HRR.mono ?_
   rintro e w4 ⟨hw,v2,c2,r2,rfl,An2,hres⟩;subst hw
   clear HRR
   rcases hres with ⟨rfl,ev2,tv2,bl2⟩|⟨rfl,rfl,bl2⟩
   ·have H2:=aa (And.intro An2 (And.intro ev2 (And.intro tv2 bl2)))
    clear An2 ev2 tv2 bl2
    go_wp2
    go_returns
    obtain⟨a1,a2,a3,a4,a5⟩:=H1.out
    obtain⟨b1,b2,b3,b4⟩:=H2.out
    exact⟨⟨v1,v2,_,r1,r2,mid,rfl,a1.base HB1.out.size,⟨HM.out.1,HM.out.2.1⟩,(fun g e=>HM.out.2.2 g (a2 g e)),b1,.inl ⟨rfl,a3,a4,b2,b3,a5,b4⟩⟩,HB2.out⟩
   ·have H2:=aa bl2
    clear An2 bl2
    go_wp2
    go_returns
    exact⟨⟨_,_,_,[],[],w.heap.size,rfl,Ans.nil _ _,⟨Nat.le_refl _,HB2.out.size⟩,(fun g e=>(by cases e)),Ans.nil _ _,.inr ⟨rfl,rfl,rfl,.inr H2.out⟩⟩,HB2.out⟩
  ·have H2:=aa bl1
   clear An1 hown bl1 HRR
   go_wp2
   go_returns
   exact⟨⟨_,_,_,[],[],w.heap.size,rfl,Ans.nil _ _,⟨Nat.le_refl _,HB2.out.size⟩,(fun g e=>(by cases e)),Ans.nil _ _,.inr ⟨rfl,rfl,rfl,.inl H2.out⟩⟩,HB2.out⟩

theorem ns (va vb:Value)(X Y:List Nat)(w:World)(hA:Arg w va X)(hA2:Arg w vb Y)(hT:Tab w)(hf1:X.length≤17592186044416)(hf2:Y.length≤17592186044416)(hY:val Y≠0) :
  Calls Tryz.prog 96 #[va,vb] w fun e w'=>Below w.heap.size w w'∧Res w' w.heap.size e (val X / val Y):=by
 have HR:=iC va vb X Y w hA hA2
 have HDV:=gZ vb Y w hA2 hT hY (by omega)
 have HA:=aa hA
 have HT:=aa hT
 obtain⟨a1,c1,rfl,_,_,_⟩:=hA.form
 obtain⟨a2,c2,rfl,_,_,_⟩:=hA2.form
 have hr:bT (val X) (val Y)=if 67108864+blen (val Y)<blen (val X) then 3 else 0:=by unfold bT;rw [if_neg hY]
 rw [hr] at HR
 have HY:=aa (show 0<val Y by omega)
 clear hA hA2 hT hr hY
 by_cases hb:67108864+blen (val Y)<blen (val X)
 ·rw [if_pos hb] at HR
  have HX:Hid (67108864<blen (val X / val Y)):=aa (gS HY.out hb)
  clear HDV hb
  go_enter Tryz.func96,Tryz.ntmps96
  go_wp2_with fail
  refine HR.mono ?_
  rintro e wn ⟨rfl,hw⟩;subst hw
  clear HR
  go_wp2
  go_returns
  exact⟨Below.refl _ _,_,_,[],rfl,Ans.nil _ _,.inr ⟨rfl,rfl,HX.out⟩⟩
 ·rw [if_neg hb] at HR
  clear hb
  go_enter Tryz.func96,Tryz.ntmps96
  go_wp2_with fail
  refine HR.mono ?_
  rintro e wn ⟨rfl,hw⟩;rw [hw];clear hw wn
  go_wp2_with fail
  refine HDV.mono ?_
  rintro e w1 ⟨⟨vd,rfl,hd⟩,hb1⟩
  have H1:=gE _ vd X _ _ _ w1 (HA.out.below hb1) hd (HT.out.below hb1) hf1
  have HB1:=aa hb1
  clear hd hb1 HDV HR
  go_wp2_with fail
  refine H1.mono ?_
  rintro e w2 ⟨⟨vq,vr,qs,rs,mid,rfl,A1,hmid,hq,A2,e1,e2,l1,l2,_⟩,hb2⟩
  have HQ:=gN vq w1.heap.size qs w2 A1 (by omega)
  have HB2:=aa (HB1.out.trans (hb2.mono HB1.out.size))
  rw [e1] at HQ
  clear A1 A2 hmid hq e1 e2 l1 l2 hb2 H1
  go_wp2_with fail
  refine HQ.mono ?_
  rintro e w3 ⟨hw,v1,c1,r1,rfl,An1,hres⟩;subst hw
  have H1:=aa (And.intro An1 hres)
  clear HQ An1 hres
  go_wp2
  go_returns
  exact⟨HB2.out,v1,_,r1,rfl,H1.out.1.base HB1.out.size,H1.out.2⟩

def WDone2 (w:World)(x y:Nat)(e:Ending)(w':World):Prop:=
 (∃v1 v2 r1 r2,e=.returned (.tuple #[v1,v2])∧Ans w' w.heap.size v1 r1∧Ans w' w.heap.size v2 r2∧val r1=x∧tr r1=r1∧val r2=y∧tr r2=r2∧(v1.ownBlock=none∨v1.ownBlock≠v2.ownBlock))∧Below w.heap.size w w'

theorem apart_of {w:World}{v1 v2:Value}{m:Nat}{r2:List Nat}(h:∀g,v1.ownBlock=some g→g<m)(h2:Ans w m v2 r2):v1.ownBlock=none∨v1.ownBlock≠v2.ownBlock:=by
 cases e:v1.ownBlock with
 | none=>exact .inl rfl
 | some g=>
  refine .inr fun e2=>?_
  have a:=h g e
  have b:=(h2.own.lt g e2.symm).1
  omega

theorem apart_of2 {w:World}{v1 v2:Value}{m:Nat}{r1:List Nat}(h:∀g,v2.ownBlock=some g→g<m)(h1:Ans w m v1 r1):v1.ownBlock=none∨v1.ownBlock≠v2.ownBlock:=by
 cases e:v1.ownBlock with
 | none=>exact .inl rfl
 | some g=>
  refine .inr fun e2=>?_
  have a:=h g e2.symm
  have b:=(h1.own.lt g e).1
  omega

namespace Lm

theorem both_partsW (x y K:Nat)(hK:0<K)(hy:0<y) :
  x / y=((x / K) % y*K+x % K) / y+K*((x / K) / y)∧x % y=((x / K) % y*K+x % K) % y∧((x / K) % y*K+x % K) / y<K:=by
 have h1:=Nat.div_add_mod x K
 have h2:=Nat.div_add_mod (x / K) y
 have h3:=Nat.mod_lt (x / K) hy
 have h4:x % K<K:=Nat.mod_lt x hK
 generalize x / K=H at *
 generalize x % K=l at *
 generalize H / y=q at *
 generalize H % y=r at *
 have e:x=(r*K+l)+y*(K*q):=by
  rw [←h1,←h2];grind
 refine⟨?_,?_,?_⟩
 ·rw [e,Nat.add_mul_div_left _ _ hy]
 ·rw [e,Nat.add_mul_mod_self_left]
 ·rw [Nat.div_lt_iff_lt_mul hy]
  have h5:=Nat.mul_le_mul_right K (Nat.succ_le_of_lt h3)
  rw [Nat.succ_mul,Nat.mul_comm y] at h5
  omega

theorem blen_quoW {x y:Nat}(hy:0<y)(n:Nat)(h:blen x≤n+blen y):blen (x / y)≤n+1:=by
 rw [blen_le_iff,Nat.div_lt_iff_lt_mul hy]
 have h1:x<2 ^ (n+blen y):=Nat.lt_of_lt_of_le ((blen_le_iff x _).1 (Nat.le_refl _)) (Nat.pow_le_pow_right (by omega) h)
 have h2:2 ^ (blen y - 1)≤y:=by
  refine Nat.le_of_not_lt fun hlt=>?_
  have h3:=(blen_le_iff y _).2 hlt
  have h4:0<blen y:=by
   rcases Nat.eq_zero_or_pos (blen y) with h0|h0
   ·have:=(blen_le_iff y 0).1 (by omega)
    omega
   ·exact h0
  omega
 have h4:0<blen y:=by
  rcases Nat.eq_zero_or_pos (blen y) with h0|h0
  ·have:=(blen_le_iff y 0).1 (by omega)
   omega
  ·exact h0
 have h5:2 ^ (n+blen y)=2 ^ (n+1)*2 ^ (blen y - 1):=by rw [←Nat.pow_add];congr 1;omega
 rw [h5] at h1
 exact Nat.lt_of_lt_of_le h1 (Nat.mul_le_mul_left _ h2)

end Lm

theorem wboth_near (va vb:Value)(X Y:List Nat)(w:World)(hA0:Arg w va X)(hB:Arg w vb Y)(hT:Tab w)(hx0:X.length≤17592186044000)(hy:Y.length≤17592186044000)(hy0:0<val Y)(hn:blen (val X)<67108864+blen (val Y)) :
  Calls Tryz.prog 88 #[va,vb] w (WDone2 w (val X / val Y) (val X % val Y)):=by
 obtain⟨a1,c1,rfl,T1,hA⟩:=hA0.wtrim
 have HT1:=T1 w (Below.refl _ _)
 have g1:=tr_length_le X
 rw [←val_tr X] at hn ⊢
 clear T1 hA0
 generalize tr X=P at *
 have hx:P.length≤17592186044000:=by omega
 have hq:=blen_quoW (x:=val P) hy0 67108863 (by omega)
 have L1:=aQ _ _ w hA
 have L2:=aQ _ _ w hB
 have hbx:blen (val P)≤P.length*64:=(blen_le_iff _ _).2 (by have:=val_lt hA.limbs;rw [W_pow] at this;exact this)
 have hby:blen (val Y)≤Y.length*64:=(blen_le_iff _ _).2 (by have:=val_lt hB.limbs;rw [W_pow] at this;exact this)
 obtain⟨d,hd⟩:∃d:Int,((blen (val P):Nat):Int) - ((blen (val Y):Nat):Int)=d:=⟨_,rfl⟩
 have i1:¬(67108864:Int)≤d:=by omega
 have wd:IntKind.i64.wrap d=d:=by rw [IntKind.wrap_i64];omega
 have wd2:IntKind.i64.wrap (((blen (val P):Nat):Int) - ((blen (val Y):Nat):Int))=d:=by rw [IntKind.wrap_i64];omega
 by_cases hs:blen (val Y)≤67108864
 ·have i2:((blen (val Y):Nat):Int)≤67108864:=by omega
  have HB:=kt _ vb P Y w hA hB hT (by omega) (by omega) (by omega)
  have hm:blen (val P % val Y)≤67108864:=by
   exact Nat.le_trans (blen_mono (Nat.le_of_lt (Nat.mod_lt (val P) hy0))) hs
  have HQ:=aa (And.intro hq hm)
  clear hA hB hT hq hm
  generalize val P / val Y=qq at *
  generalize val P % val Y=mm at *
  generalize blen (val P)=lx at *
  generalize blen (val Y)=ly at *
  go_enter Tryz.func88,Tryz.ntmps88
  go_wp2_with fail
  refine HT1.mono ?_
  rintro e wn ⟨rfl,hw⟩;rw [hw];clear hw wn HT1
  go_wp2_with fail
  refine L1.mono ?_
  rintro e wn ⟨rfl,hw⟩;rw [hw];clear hw wn L1
  go_wp2_with fail
  refine L2.mono ?_
  rintro e wn ⟨rfl,hw⟩;rw [hw];clear hw wn
  go_wp2_with fail
  refine L2.mono ?_
  rintro e wn ⟨rfl,hw⟩;rw [hw];clear hw wn
  go_wp2_with fail
  refine HB.mono ?_
  rintro e w1 ⟨⟨v1,v2,c,r1,r2,mid,rfl,a1,⟨m1,m2⟩,hlo,a2,hres⟩,hb⟩
  have hd2:WDone2 w qq mm (.returned (.tuple #[v1,v2])) w1:=by
   rcases hres with ⟨_,q1,q2,q3,q4,_⟩|⟨_,_,_,q4⟩
   ·exact⟨⟨v1,v2,r1,r2,rfl,a1,a2.base m1,q1,q2,q3,q4,apart_of hlo a2⟩,hb⟩
   ·have:=HQ.out;omega
  have HD:=aa hd2
  clear hres hd2 a1 a2 hb
  go_wp2
  go_returns
  exact HD.out
 ·have i2:¬((blen (val Y):Nat):Int)≤67108864:=by omega
  have HQ:=ns _ vb P Y w hA hB hT (by omega) (by omega) (by omega)
  have HA:=aa hA
  have HB:=aa hB
  have HT:=aa hT
  have HL:=aa (And.intro hq hy0)
  clear hA hB hT hq
  generalize hlx:blen (val P)=lx at *
  generalize hly:blen (val Y)=ly at *
  clear hlx hly
  go_enter Tryz.func88,Tryz.ntmps88
  go_wp2_with fail
  refine HT1.mono ?_
  rintro e wn ⟨rfl,hw⟩;rw [hw];clear hw wn HT1
  go_wp2_with fail
  refine L1.mono ?_
  rintro e wn ⟨rfl,hw⟩;rw [hw];clear hw wn L1
  go_wp2_with fail
  refine L2.mono ?_
  rintro e wn ⟨rfl,hw⟩;rw [hw];clear hw wn
  go_wp2_with fail
  refine L2.mono ?_
  rintro e wn ⟨rfl,hw⟩;rw [hw];clear hw wn
  go_wp2_with fail
  refine HQ.mono ?_
  rintro e w1 ⟨hb,v,c,rs,rfl,ha,hres⟩
  obtain⟨rfl,q1,q2⟩:c=0∧val rs=val P / val Y∧tr rs=rs:=by
   rcases hres with ⟨h1,h2,h3,_⟩|⟨_,_,q4⟩
   ·exact⟨h1,h2,h3⟩
   ·have:=HL.out.1;omega
  have hrl:rs.length≤P.length:=by
   rw [←q2]
   refine aG rs _ ?_
   rw [q1]
   exact Nat.lt_of_le_of_lt (Nat.div_le_self _ _) (val_lt HA.out.limbs)
  have HP:=jj (rs.length+Y.length+1) rs Y v vb w1 (by omega) (by omega) (ha.arg (by omega)) (HB.out.below hb) (HT.out.below hb)
  clear hres
  go_wp2_with fail
  refine HP.mono ?_
  rintro e w2 ⟨⟨v2,r2,rfl,a2,p1,p2⟩,hb2⟩
  have hmod:=Nat.div_add_mod (val P) (val Y)
  have hr2:r2.length≤1125899906842624:=by
   rw [←p2]
   refine Nat.le_trans (aG r2 P.length ?_) (by omega)
   rw [p1,q1,Nat.mul_comm]
   have:=val_lt HA.out.limbs
   omega
  have hbb:Below w.heap.size w w2:=hb.trans (hb2.mono hb.size)
  have HLS:=ga _ v2 P r2 w2 (HA.out.below hbb) (a2.arg hr2) (by omega) (by rw [p1,q1,Nat.mul_comm];omega)
  rw [p1,q1,Nat.mul_comm (val P / val Y),show val P - val Y*(val P / val Y)=val P % val Y by omega] at HLS
  have HV:=aa (And.intro (ha.below hb2) (And.intro q1 q2))
  have HBB:=aa hbb
  clear ha hb a2 p1 p2 hb2 hbb q1 q2 hmod hr2
  go_wp2_with fail
  refine HLS.mono ?_
  rintro e w3 ⟨⟨v3,r3,rfl,a3,p1,p2⟩,hb3⟩
  have HD:=aa (show WDone2 w (val P / val Y) (val P % val Y) (.returned (.tuple #[v,v3])) w3 from ⟨⟨v,v3,rs,r3,rfl,HV.out.1.below hb3,a3.base HBB.out.size,HV.out.2.1,HV.out.2.2,p1,p2,apart_of (fun g hg=>(HV.out.1.own.lt g hg).2) a3⟩,HBB.out.trans (hb3.mono HBB.out.size)⟩)
  clear a3 p1 p2 hb3 HV
  go_wp2
  go_returns
  exact HD.out

theorem wboth_any:∀(N:Nat) (X Y:List Nat) (va vb:Value) (w:World),blen (val X)≤N+blen (val Y)→Arg w va X→Arg w vb Y→Tab w→X.length≤17592186044000→Y.length≤17592186044000→0<val Y →
  Calls Tryz.prog 88 #[va,vb] w (WDone2 w (val X / val Y) (val X % val Y)):=by
 intro N
 induction N with
 | zero=>
  intro X Y va vb w hN hA hB hT hx hy hy0
  exact wboth_near va vb X Y w hA hB hT hx hy hy0 (by omega)
 | succ N ih=>
  intro X Y va vb w hN hA0 hB hT hx0 hy hy0
  by_cases hnear:blen (val X)<67108864+blen (val Y)
  ·exact wboth_near va vb X Y w hA0 hB hT hx0 hy hy0 hnear
  ·obtain⟨a1,c1,rfl,T1,hA⟩:=hA0.wtrim
   have HT1:=T1 w (Below.refl _ _)
   have g1:=tr_length_le X
   rw [←val_tr X] at hN hnear ⊢
   clear T1 hA0
   generalize tr X=P at *
   have hx:P.length≤17592186044000:=by omega
   have L1:=aQ _ _ w hA
   have L2:=aQ _ _ w hB
   have hbx:blen (val P)≤P.length*64:=(blen_le_iff _ _).2 (by have:=val_lt hA.limbs;rw [W_pow] at this;exact this)
   obtain⟨m,hm⟩:∃m,blen (val P) - blen (val Y)=m:=⟨_,rfl⟩
   obtain⟨k,hk⟩:∃k,m / 128=k:=⟨_,rfl⟩
   have em:((blen (val P):Nat):Int) - ((blen (val Y):Nat):Int)=(m:Int):=by omega
   have ek:(m:Int) / 128=(k:Int):=by omega
   have i1:(67108864:Int)≤(m:Int):=by omega
   have wm:IntKind.i64.wrap (m:Int)=(m:Int):=by rw [IntKind.wrap_i64];omega
   have hkP:k<P.length:=by omega
   have hk1:1≤k:=by omega
   obtain⟨b0,o0,rfl⟩:∃b off,a1=some ⟨b,off,none⟩:=by
    obtain⟨_,_,e,_,_,hl⟩:=hA.form
    cases e
    rcases hl with h0|⟨b,off,e,_⟩
    ·have hz:P.length=0:=by rw [h0];rfl
     omega
    ·exact⟨b,off,e⟩
   have hcap:P.length≤c1:=by obtain⟨_,_,e,h,_,_⟩:=hA.form;cases e;exact h
   have hcm:c1≤9223372036854775807:=by obtain⟨_,_,e,_,h,_⟩:=hA.form;cases e;exact h
   have vh:=bk P k (by omega)
   have lth:=val_lt (hA.front k (by omega)).limbs
   have lt1:(P.take k).length=k:=by simp;omega
   have ld1:(P.drop k).length=P.length - k:=by simp
   rw [lt1] at lth
   have edv:val P / 18446744073709551616 ^ k=val (P.drop k):=by
    rw [vh,Nat.add_mul_div_left _ _ (W_pos k),Nat.div_eq_of_lt lth,Nat.zero_add]
   have emd:val P % 18446744073709551616 ^ k=val (P.take k):=by
    rw [vh,Nat.add_mul_mod_self_left,Nat.mod_eq_of_lt lth]
   obtain⟨P1,P2,P3⟩:=both_partsW (val P) (val Y) (18446744073709551616 ^ k) (W_pos k) hy0
   rw [edv,emd] at P1 P2 P3
   have hbh:blen (val (P.drop k))≤N+blen (val Y):=by
    rw [←edv,blen_le_iff,Nat.div_lt_iff_lt_mul (W_pos k),W_pow,←Nat.pow_add]
    exact (blen_le_iff _ _).1 (by omega)
   have hbl:blen (val (P.take k)+18446744073709551616 ^ k*(val (P.drop k) % val Y))≤k*64+blen (val Y):=by
    rw [blen_le_iff,Nat.pow_add,←W_pow]
    have h1:=Nat.mod_lt (val (P.drop k)) hy0
    have h3:=(blen_le_iff (val Y) _).1 (Nat.le_refl _)
    generalize val (P.drop k) % val Y=R at *
    have h4:18446744073709551616 ^ k*(R+1)≤18446744073709551616 ^ k*2 ^ blen (val Y):=Nat.mul_le_mul_left _ (by omega)
    rw [Nat.mul_add,Nat.mul_one] at h4
    omega
   have HA:=aa hA
   have HB:=aa hB
   have HT:=aa hT
   have HP:=aa (And.intro P1 (And.intro P2 P3))
   have HBL:=aa (And.intro hbh hbl)
   have HIH:=aa ih
   have hlen2:k*64+blen (val Y)≤P.length*64:=by omega
   have hN2:k*64+blen (val Y)≤N+blen (val Y):=by omega
   have HI1:=ih (P.drop k) Y _ vb w hbh (hA.drop k (by omega)) hB hT (by omega) hy hy0
   have hne:¬c1=k:=by omega
   have hkc:k≤c1:=by omega
   clear P1 P2 P3 hbh hbl hA hB hT hm hk ih vh edv emd lth
   generalize hlx:blen (val P)=lx at *
   generalize hly:blen (val Y)=ly at *
   have HX:=aa (And.intro hlx hly)
   clear hlx hly
   go_enter Tryz.func88,Tryz.ntmps88
   go_wp2_with fail
   refine HT1.mono ?_
   rintro e wn ⟨rfl,hw⟩;rw [hw];clear hw wn HT1
   go_wp2_with fail
   refine L1.mono ?_
   rintro e wn ⟨rfl,hw⟩;rw [hw];clear hw wn L1
   go_wp2_with fail
   refine L2.mono ?_
   rintro e wn ⟨rfl,hw⟩;rw [hw];clear hw wn L2
   go_wp2_with fail
   refine HI1.mono ?_
   rintro e w2 ⟨⟨vh,vr,rh,rr,rfl,ah,ar,ph,th,pr,tr',_⟩,hb2⟩
   have HB2:=aa hb2
   have lrr:rr.length≤Y.length:=by
    rw [←tr']
    refine aG rr _ ?_
    rw [pr]
    exact Nat.lt_trans (Nat.mod_lt _ hy0) (val_lt HB.out.limbs)
   have HJ:=gd vr _ rr (P.take k) k w2 (ar.arg (by omega)) ((HA.out.front k (by omega)).below hb2) (by omega) (by omega) (by omega)
   rw [pr] at HJ
   have HAH:=aa (And.intro ah (And.intro ph th))
   clear ah ar ph th pr tr' hb2 HI1
   go_wp2_with fail
   refine HJ.mono ?_
   rintro e w4 ⟨⟨vj,rj,rfl,aj,pj,tj⟩,hb4⟩
   have HB4:=aa (HB2.out.trans (hb4.mono HB2.out.size))
   have hbj:blen (val rj)≤k*64+ly:=by rw [pj];exact HBL.out.2
   have lj:rj.length≤P.length:=cA tj rfl (by omega)
   have HI2:=HIH.out rj Y vj vb w4 (by rw [HX.out.2];omega) (aj.arg (by omega)) (HB.out.below HB4.out) (HT.out.below HB4.out) (by omega) hy hy0
   have pj2:val rj=val (P.drop k) % val Y*18446744073709551616 ^ k+val (P.take k):=by rw [pj,Nat.add_comm,Nat.mul_comm]
   rw [pj2,←HP.out.2.1] at HI2
   have HAH2:=aa (And.intro (HAH.out.1.below hb4) HAH.out.2)
   clear aj pj tj hb4 HJ hbj pj2
   go_wp2_with fail
   refine HI2.mono ?_
   rintro e w5 ⟨⟨vl,vr2,rl,rr2,rfl,al,ar2,pl,tl,pr2,tr2,_⟩,hb5⟩
   have HB5:=aa (HB4.out.trans (hb5.mono HB4.out.size))
   have lrh:rh.length≤P.length:=by
    rw [←HAH2.out.2.2]
    refine aG rh _ ?_
    rw [HAH2.out.2.1]
    refine Nat.lt_of_le_of_lt (Nat.div_le_self _ _) ?_
    have h:=val_lt (HA.out.drop k (by omega)).limbs
    rw [ld1] at h
    exact Nat.lt_of_lt_of_le h (Nat.pow_le_pow_right (by omega) (by omega))
   have lrl:rl.length≤k:=by
    rw [←tl]
    refine aG rl _ ?_
    rw [pl]
    exact HP.out.2.2
   have HJ2:=gd vh vl rh rl k w5 ((HAH2.out.1.below hb5).arg (by omega)) (al.arg (by omega)) (by omega) (by omega) lrl
   rw [pl,HAH2.out.2.1,←HP.out.1] at HJ2
   have HR2:=aa (And.intro ar2 (And.intro pr2 tr2))
   clear al ar2 pl tl pr2 tr2 hb5 HI2
   go_wp2_with fail
   refine HJ2.mono ?_
   rintro e w6 ⟨⟨vq,rq,rfl,aq,pq,tq⟩,hb6⟩
   have HD:=aa (show WDone2 w (val P / val Y) (val P % val Y) (.returned (.tuple #[vq,vr2])) w6 from ⟨⟨vq,vr2,rq,rr2,rfl,aq.base HB5.out.size,(HR2.out.1.base HB4.out.size).below hb6,pq,tq,HR2.out.2.1,HR2.out.2.2,apart_of2 (fun g hg=>(HR2.out.1.own.lt g hg).2) aq⟩,HB5.out.trans (hb6.mono HB5.out.size)⟩)
   clear aq pq tq hb6
   go_wp2
   go_returns
   exact HD.out

theorem f9 (v1 v2:Value)(x y:Nat)(w:World)(h1:Num w v1 x)(h2:Num w v2 y) :
  Calls Tryz.prog 79 #[v1,v2] w fun e w'=>e=.returned (.int .i64 (cmpN x y))∧ai w w':=by
 obtain⟨Z,hA1,hZ,hZt,rfl,hZl⟩:=h1
 obtain⟨Y,hA2,hY,hYt,rfl,hYl⟩:=h2
 obtain⟨a1,c1,rfl,hc1,hm1,L1⟩:=hA1.form
 obtain⟨a2,c2,rfl,hc2,hm2,L2⟩:=hA2.form
 clear hA1 hA2
 by_cases hl:Z.length=Y.length
 ·have HL:=aa hl.symm
  rw [←hl] at hc2 hYl ⊢
  clear hl
  have hne:((Z.length:Int) != (Z.length:Int))=false:=by simp
  go_enter Tryz.func79,Tryz.ntmps79
  go_wp2
  go_loopw [5] (fun i wr=>∃k:Nat,k≤Z.length∧i=.int .i64 ((k:Int) - 1)∧ai w wr∧cmpN (vb 4294967296 (Z.take k)) (vb 4294967296 (Y.take k))=cmpN (vb 4294967296 Z) (vb 4294967296 Y)) (fun i _=>(intOf i+1).toNat)
  case atStart=>exact⟨Z.length,Nat.le_refl _,by go_num,ai.refl _,by rw [List.take_length,←HL.out,List.take_length]⟩
  case round=>
   obtain⟨k,hk,rfl,hs,hv⟩:=hrel
   have HV:=aa hv
   have HS:=aa hs
   clear hv
   by_cases hk0:k=0
   ·subst hk0
    have HN:Hid (cmpN (vb 4294967296 Z) (vb 4294967296 Y)=0):=aa (by rw [←HV.out];rfl)
    clear HV L1 L2 hs
    go_wp2
    go_ret
    rw [HN.out]
    exact⟨rfl,HS.out⟩
   ·obtain⟨j,rfl⟩:∃j,k=j+1:=⟨k - 1,by omega⟩
    rcases L1.below (hs.below _) with h0|⟨b,off,rfl,hcell⟩
    ·simp [h0] at hk
    ·rcases L2.below (hs.below _) with h0|⟨b',off',rfl,hcell'⟩
     ·have:=HL.out;simp [h0] at this;omega
     ·have hck:=hcell j (by omega)
      have hck':=hcell' j (by have:=HL.out;omega)
      have ej:((j+1:Nat):Int) - 1=(j:Int):=by omega
      have ej2:(j:Int)+1 - 1=(j:Int):=by omega
      rw [ej]
      have hi1:(0:Int)≤(j:Int):=by omega
      have hi2:(j:Int)<(Z.length:Int):=by omega
      rcases Nat.lt_trichotomy (Z.getD j 0) (Y.getD j 0) with hxy|hxy|hxy
      ·have HN:Hid (cmpN (vb 4294967296 Z) (vb 4294967296 Y)=-1):=aa (by rw [←HV.out,vcmp_top hZ hY _ (by omega),cmpN_lt hxy])
       generalize Z.getD j 0=a at *
       generalize Y.getD j 0=c at *
       have i1:(a:Int)<(c:Int):=by omega
       clear hcell hcell' HV L1 L2 hs
       go_wp2
       go_quiet (fail)
       go_wp2
       go_ret
       rw [HN.out]
       exact⟨rfl,HS.out.drewN _⟩
      ·have HN:Hid (cmpN (vb 4294967296 (Z.take j)) (vb 4294967296 (Y.take j))=cmpN (vb 4294967296 Z) (vb 4294967296 Y)):=aa (by rw [←HV.out,vcmp_same _ hxy])
       rw [hxy] at hck
       generalize Y.getD j 0=c at *
       have hd1:decide ((c:Int)<(c:Int))=false:=decide_eq_false (by omega)
       clear hcell hcell' HV L1 L2 hs hxy
       go_wp2
       go_quiet (fail)
       go_wp2
       go_quiet (fail)
       go_wp2
       go_roundw
       case rel=>exact⟨j,by omega,by go_num,by first|exact (HS.out.drewN _).drewN _|exact HS.out.drewN _,HN.out⟩
       case measure=>simp [intOf]
      ·have HN:Hid (cmpN (vb 4294967296 Z) (vb 4294967296 Y)=1):=aa (by rw [←HV.out,vcmp_top hZ hY _ (by omega),cmpN_gt hxy])
       generalize Z.getD j 0=a at *
       generalize Y.getD j 0=c at *
       have i1:(c:Int)<(a:Int):=by omega
       have hd1:decide ((a:Int)<(c:Int))=false:=decide_eq_false (by omega)
       clear hcell hcell' HV L1 L2 hs
       go_wp2
       go_quiet (fail)
       go_wp2
       go_quiet (fail)
       go_wp2
       go_ret
       rw [HN.out]
       exact⟨rfl,by first|exact (HS.out.drewN _).drewN _|exact HS.out.drewN _⟩
 ·have hne:((Z.length:Int) != (Y.length:Int))=true:=by rw [bne_iff_ne];omega
  rcases Nat.lt_or_gt_of_ne hl with hlt|hlt
  ·rw [cmpN_lt (vb_shorter hZ hYt hlt)]
   have i1:(Z.length:Int)<(Y.length:Int):=by omega
   clear L1 L2
   go_enter Tryz.func79,Tryz.ntmps79
   go_wp2
   go_ret
   exact⟨rfl,ai.refl _⟩
  ·rw [cmpN_gt (vb_shorter hY hZt hlt)]
   have hd1:decide ((Z.length:Int)<(Y.length:Int))=false:=decide_eq_false (by omega)
   have i1:(Y.length:Int)<(Z.length:Int):=by omega
   clear L1 L2
   go_enter Tryz.func79,Tryz.ntmps79
   go_wp2
   go_ret
   exact⟨rfl,ai.refl _⟩

theorem eY {ds:List Nat}(hd:Digs 4294967296 ds)(ht:tr ds=ds)(L:Nat)(hb:blen (vb 4294967296 ds)≤32*L):ds.length≤L:=by
 refine Nat.le_of_not_lt fun hlt=>?_
 obtain⟨n,hn⟩:∃n,ds.length=n+1:=⟨ds.length - 1,by omega⟩
 have h1:=blen_vb hd ht n hn
 have h2:=blen_half _ (tr_last' ds n ht hn)
 omega

theorem ch {ds:List Nat}(n:Nat)(h:ds.length≤n):vb 4294967296 (ds.take n)=vb 4294967296 ds:=by rw [List.take_of_length_le h]

theorem f8 {X Y out:List Nat}(hX:Digs 4294967296 X)(hY:Digs 4294967296 Y)(n cy:Nat)(h1:X.length≤n)(h2:Y.length≤n)(ho:out.length=n+1)
  (h:vb 4294967296 (out.take (n+1))+cy*4294967296 ^ (n+1)=vb 4294967296 (X.take (n+1))+vb 4294967296 (Y.take (n+1))):vb 4294967296 out=vb 4294967296 X+vb 4294967296 Y:=by
 rw [ch _ (by omega),ch _ (by omega),ch _ (by omega)] at h
 have a:=vb_take_lt hX n
 have b:=vb_take_lt hY n
 rw [ch _ h1] at a
 rw [ch _ h2] at b
 rcases Nat.eq_zero_or_pos cy with h0|h0
 ·subst h0;omega
 ·exfalso
  have:=Nat.mul_le_mul_right (4294967296 ^ (n+1)) h0
  rw [Nat.pow_succ,B_pow] at this h
  omega

theorem nL (v1 v2:Value)(x y:Nat)(w:World)(h1:Num w v1 x)(h2:Num w v2 y)(f1:blen x≤1125899906840000)(f2:blen y≤1125899906840000) :
  Calls Tryz.prog 78 #[v1,v2] w fun e w'=>(∃v',e=.returned v'∧Num w' v' (x+y)∧New w.heap.size v')∧Below w.heap.size w w':=by
 obtain⟨X,A1,hX,hXt,rfl,_⟩:=h1
 obtain⟨Y,A2,hY,hYt,rfl,_⟩:=h2
 have lX:=eY hX hXt 35184372088750 (by omega)
 have lY:=eY hY hYt 35184372088750 (by omega)
 obtain⟨a1,c1,rfl,hc1,hm1,_⟩:=A1.form
 obtain⟨a2,c2,rfl,hc2,hm2,_⟩:=A2.form
 obtain⟨i0,hi,hz0,hz1,hz2⟩:=info_parts Tryz.infoU
 clear f1 f2 hXt hYt
 by_cases hl:X.length<Y.length
 ·have i1:(X.length:Int)<(Y.length:Int):=by omega
  go_enter Tryz.func78,Tryz.ntmps78
  go_wp2_with (at_make;refine wpList_make_full _ rfl _ _ 30 rfl w.heap.size 60 i0 (.int .u64 0) 1 Tryz.underlying30 hi hz0 hz1 .i64 .i64 _ _ (Y.length+1) rfl rfl (by omega) (by omega) (by rw [hz2];omega) (by unfold maxLen;omega) (Nat.le_refl _) ?_;intro w1 hown hgrow)
  have hb1:=Blk.made hown
  have hbel:Below w.heap.size w w1:=(Below.refl _ _).grown hgrow (Nat.le_refl _) (fun k hk=>by cases hk)
  clear hown hgrow hi hz0 hz1 hz2
  go_loopw [7,8] (fun c i wr=>∃(k cy:Nat) (out:List Nat),k≤Y.length+1∧i=.int .i64 k∧c=.int .u64 cy∧cy≤1∧out.length=Y.length+1∧Digs 4294967296 out∧Blk wr w.heap.size out∧Below w.heap.size w wr ∧
    vb 4294967296 (out.take k)+cy*4294967296 ^ k=vb 4294967296 (X.take k)+vb 4294967296 (Y.take k)) (fun _ i _=>Y.length+1 - (intOf i).toNat)
  case atStart=>exact⟨0,0,_,Nat.zero_le _,rfl,rfl,by omega,by simp,digs_replicate (by omega) _,hb1,hbel,by simp [vb]⟩
  case round=>
   obtain⟨k,cy,out,hk,rfl,rfl,hcy,hlen,hdo,hblk,hbl,hval⟩:=hrel
   clear hb1 hbel
   have HB:=aa hblk
   have HL:=aa hbl
   by_cases hkl:k≤Y.length
   ·have H1:=dw _ X k wr (A1.below hbl)
    have H2:=dw _ Y k wr (A2.below hbl)
    have hfr:=hblk.free k
    have hco:=hblk.cell k (by omega)
    generalize out.getD k 0=o at *
    have z1:=dig_lt (by omega) hX k
    have z2:=dig_lt (by omega) hY k
    have HV:=aa (vb_add_step X Y out k cy (by omega) hval)
    generalize X.getD k 0=x at *
    generalize Y.getD k 0=y at *
    have e0:(x:Int)+(y:Int)+(cy:Int)=((x+y+cy:Nat):Int):=by omega
    have b0:x+y+cy<18446744073709551616:=by omega
    have e1:((x+y+cy:Nat):Int) % 4294967296=(((x+y+cy) % 4294967296:Nat):Int):=by omega
    have e2:((x+y+cy:Nat):Int) / 4294967296=(((x+y+cy) / 4294967296:Nat):Int):=by omega
    have b1:(x+y+cy) % 4294967296<4294967296:=by omega
    have b2:(x+y+cy) / 4294967296≤1:=by omega
    generalize (x+y+cy) % 4294967296=m at *
    generalize (x+y+cy) / 4294967296=d at *
    generalize x+y+cy=s at *
    clear hval hblk hbl A1 A2 hX hY
    go_wp2_with fail
    refine H1.mono ?_
    rintro e w2 ⟨rfl,rfl⟩
    go_wp2_with fail
    refine H2.mono ?_
    rintro e w2 ⟨rfl,rfl⟩
    clear H1 H2
    go_wp2
    go_roundw
    case rel=>exact⟨k+1,d,out.set k m,by omega,by go_num,rfl,b2,by simp;omega,digs_set hdo _ _ b1,HB.out.set k m,HL.out.setCell (Nat.le_refl _) _,HV.out⟩
    case measure=>simp [intOf];omega
   ·have ek:k=Y.length+1:=by omega
    subst ek
    have hve:=f8 hX hY Y.length cy (by omega) (by omega) hlen hval
    have hA:=Ans.of_blk (base:=w.heap.size) (zs:=out) (Nat.le_refl _) hblk List.take_length.symm (Nat.le_refl _) (by omega) (digs_limbs hdo)
    have H:=dW w.heap.size _ _ _ (hA.arg (by omega)) hdo (by omega) (New.at _ _ _ _ _ (Nat.le_refl _))
    rw [hlen,hve] at H
    clear hval hblk hbl A1 A2 hX hY hA hve HB
    have hd1:decide ((Y.length:Int)+1≤(Y.length:Int))=false:=decide_eq_false (by omega)
    go_wp2_with fail
    refine H.mono ?_
    rintro e w2 ⟨⟨v',rfl,hnum,hnw⟩,rfl⟩
    have HN:=aa (And.intro hnum hnw)
    clear hnum hnw H
    go_wp2
    go_ret
    exact⟨⟨v',rfl,HN.out.1,HN.out.2⟩,HL.out⟩
 ·have hd0:decide ((X.length:Int)<(Y.length:Int))=false:=decide_eq_false (by omega)
  go_enter Tryz.func78,Tryz.ntmps78
  go_wp2_with (at_make;refine wpList_make_full _ rfl _ _ 30 rfl w.heap.size 60 i0 (.int .u64 0) 1 Tryz.underlying30 hi hz0 hz1 .i64 .i64 _ _ (X.length+1) rfl rfl (by omega) (by omega) (by rw [hz2];omega) (by unfold maxLen;omega) (Nat.le_refl _) ?_;intro w1 hown hgrow)
  have hb1:=Blk.made hown
  have hbel:Below w.heap.size w w1:=(Below.refl _ _).grown hgrow (Nat.le_refl _) (fun k hk=>by cases hk)
  clear hown hgrow hi hz0 hz1 hz2
  go_loopw [7,8] (fun c i wr=>∃(k cy:Nat) (out:List Nat),k≤X.length+1∧i=.int .i64 k∧c=.int .u64 cy∧cy≤1∧out.length=X.length+1∧Digs 4294967296 out∧Blk wr w.heap.size out∧Below w.heap.size w wr ∧
    vb 4294967296 (out.take k)+cy*4294967296 ^ k=vb 4294967296 (X.take k)+vb 4294967296 (Y.take k)) (fun _ i _=>X.length+1 - (intOf i).toNat)
  case atStart=>exact⟨0,0,_,Nat.zero_le _,rfl,rfl,by omega,by simp,digs_replicate (by omega) _,hb1,hbel,by simp [vb]⟩
  case round=>
   obtain⟨k,cy,out,hk,rfl,rfl,hcy,hlen,hdo,hblk,hbl,hval⟩:=hrel
   clear hb1 hbel
   have HB:=aa hblk
   have HL:=aa hbl
   by_cases hkl:k≤X.length
   ·have H1:=dw _ X k wr (A1.below hbl)
    have H2:=dw _ Y k wr (A2.below hbl)
    have hfr:=hblk.free k
    have hco:=hblk.cell k (by omega)
    generalize out.getD k 0=o at *
    have z1:=dig_lt (by omega) hX k
    have z2:=dig_lt (by omega) hY k
    have HV:=aa (vb_add_step X Y out k cy (by omega) hval)
    generalize X.getD k 0=x at *
    generalize Y.getD k 0=y at *
    have e0:(x:Int)+(y:Int)+(cy:Int)=((x+y+cy:Nat):Int):=by omega
    have b0:x+y+cy<18446744073709551616:=by omega
    have e1:((x+y+cy:Nat):Int) % 4294967296=(((x+y+cy) % 4294967296:Nat):Int):=by omega
    have e2:((x+y+cy:Nat):Int) / 4294967296=(((x+y+cy) / 4294967296:Nat):Int):=by omega
    have b1:(x+y+cy) % 4294967296<4294967296:=by omega
    have b2:(x+y+cy) / 4294967296≤1:=by omega
    generalize (x+y+cy) % 4294967296=m at *
    generalize (x+y+cy) / 4294967296=d at *
    generalize x+y+cy=s at *
    clear hval hblk hbl A1 A2 hX hY
    go_wp2_with fail
    refine H1.mono ?_
    rintro e w2 ⟨rfl,rfl⟩
    go_wp2_with fail
    refine H2.mono ?_
    rintro e w2 ⟨rfl,rfl⟩
    clear H1 H2
    go_wp2
    go_roundw
    case rel=>exact⟨k+1,d,out.set k m,by omega,by go_num,rfl,b2,by simp;omega,digs_set hdo _ _ b1,HB.out.set k m,HL.out.setCell (Nat.le_refl _) _,HV.out⟩
    case measure=>simp [intOf];omega
   ·have ek:k=X.length+1:=by omega
    subst ek
    have hve:=f8 hX hY X.length cy (by omega) (by omega) hlen hval
    have hA:=Ans.of_blk (base:=w.heap.size) (zs:=out) (Nat.le_refl _) hblk List.take_length.symm (Nat.le_refl _) (by omega) (digs_limbs hdo)
    have H:=dW w.heap.size _ _ _ (hA.arg (by omega)) hdo (by omega) (New.at _ _ _ _ _ (Nat.le_refl _))
    rw [hlen,hve] at H
    clear hval hblk hbl A1 A2 hX hY hA hve HB
    have hd1:decide ((X.length:Int)+1≤(X.length:Int))=false:=decide_eq_false (by omega)
    go_wp2_with fail
    refine H.mono ?_
    rintro e w2 ⟨⟨v',rfl,hnum,hnw⟩,rfl⟩
    have HN:=aa (And.intro hnum hnw)
    clear hnum hnw H
    go_wp2
    go_ret
    exact⟨⟨v',rfl,HN.out.1,HN.out.2⟩,HL.out⟩

theorem fU (v1 v2:Value)(x y:Nat)(w:World)(h1:Num w v1 x)(h2:Num w v2 y)(f1:blen x≤1125899906840000)(f2:blen y≤1125899906840000) :
  Calls Tryz.prog 78 #[v1,v2] w fun e w'=>(∃v',e=.returned v'∧Num w' v' (x+y))∧Below w.heap.size w w':=
 (nL v1 v2 x y w h1 h2 f1 f2).mono fun _ _ ⟨⟨v',h1,h2,_⟩,h3⟩=>⟨⟨v',h1,h2⟩,h3⟩

theorem kP {X Y out:List Nat}(ho:Digs 4294967296 out)(hl:out.length=X.length)(hyl:Y.length≤X.length)(hle:vb 4294967296 Y≤vb 4294967296 X)(bw:Nat)
  (h:vb 4294967296 (out.take X.length)+vb 4294967296 (Y.take X.length)=vb 4294967296 (X.take X.length)+bw*4294967296 ^ X.length):vb 4294967296 out=vb 4294967296 X - vb 4294967296 Y:=by
 rw [ch _ (by omega),ch _ hyl,List.take_length] at h
 have h1:=vb_take_lt ho X.length
 rw [ch _ (by omega)] at h1
 rcases Nat.eq_zero_or_pos bw with h0|h0
 ·subst h0;omega
 ·exfalso
  have:=Nat.mul_le_mul_right (4294967296 ^ X.length) h0
  rw [B_pow] at this h
  omega

theorem kL (v1 v2:Value)(x y:Nat)(w:World)(h1:Num w v1 x)(h2:Num w v2 y)(hle:y≤x)(f1:blen x≤1125899906840000) :
  Calls Tryz.prog 44 #[v1,v2] w fun e w'=>(∃v',e=.returned v'∧Num w' v' (x - y)∧New w.heap.size v')∧Below w.heap.size w w':=by
 obtain⟨X,A1,hX,hXt,rfl,_⟩:=h1
 obtain⟨Y,A2,hY,hYt,rfl,_⟩:=h2
 have lX:=eY hX hXt 35184372088750 (by omega)
 have hyl:Y.length≤X.length:=by
  refine Nat.le_of_not_lt fun h=>?_
  have:=vb_shorter hX hYt h
  omega
 obtain⟨a1,c1,rfl,hc1,hm1,L1⟩:=A1.form
 obtain⟨i0,hi,hz0,hz1,hz2⟩:=info_parts Tryz.infoU
 have HLE:=aa hle
 clear f1 hXt hYt hle
 go_enter Tryz.func44,Tryz.ntmps44
 go_wp2_with (at_make;refine wpList_make_full _ rfl _ _ 30 rfl w.heap.size 60 i0 (.int .u64 0) 1 Tryz.underlying30 hi hz0 hz1 .i64 .i64 _ _ X.length rfl rfl (by omega) (by omega) (by rw [hz2];omega) (by unfold maxLen;omega) (Nat.le_refl _) ?_;intro w1 hown hgrow)
 have hb1:=Blk.made hown
 have hbel:Below w.heap.size w w1:=(Below.refl _ _).grown hgrow (Nat.le_refl _) (fun k hk=>by cases hk)
 clear hown hgrow hi hz0 hz1 hz2
 go_loopw [6,14] (fun c i wr=>∃(k cy:Nat) (out:List Nat),k≤X.length∧i=.int .i64 k∧c=.int .u64 cy∧cy≤1∧out.length=X.length∧Digs 4294967296 out∧Blk wr w.heap.size out∧Below w.heap.size w wr ∧
   vb 4294967296 (out.take k)+vb 4294967296 (Y.take k)=vb 4294967296 (X.take k)+cy*4294967296 ^ k) (fun _ i _=>X.length - (intOf i).toNat)
 case atStart=>exact⟨0,0,_,Nat.zero_le _,rfl,rfl,by omega,by simp,digs_replicate (by omega) _,hb1,hbel,by simp [vb]⟩
 case round=>
  obtain⟨k,cy,out,hk,rfl,rfl,hcy,hlen,hdo,hblk,hbl,hval⟩:=hrel
  clear hb1 hbel
  have HB:=aa hblk
  have HL:=aa hbl
  by_cases hkl:k<X.length
  ·rcases L1.below hbl with h0|⟨b,off,rfl,hcell⟩
   ·simp [h0] at hkl
   ·have H2:=dw _ Y k wr.drew (A2.below hbl.drew)
    have hck:=hcell k hkl
    have hbw:=ak.block (L1:ak w (some ⟨b,off,none⟩) X) (by omega)
    have hne1:¬b=w.heap.size:=by omega
    have hne2:¬w.heap.size=b:=by omega
    have hfr:=hblk.free k
    have hco:=hblk.cell k (by omega)
    generalize out.getD k 0=o at *
    have z1:=dig_lt (by omega) hX k
    have z2:=dig_lt (by omega) hY k
    have HV:=aa (vb_sub_step X Y out k cy (by omega) z1 z2 hcy hval)
    generalize X.getD k 0=x at *
    generalize Y.getD k 0=y at *
    have w1:IntKind.u64.wrap ((x:Int)+4294967296)=((x+4294967296:Nat):Int):=by rw [IntKind.wrap_u64];omega
    have w2:IntKind.u64.wrap (((x+4294967296:Nat):Int) - (y:Int))=((x+4294967296 - y:Nat):Int):=by rw [IntKind.wrap_u64];omega
    have w3:IntKind.u64.wrap (((x+4294967296 - y:Nat):Int) - (cy:Int))=((x+4294967296 - y - cy:Nat):Int):=by rw [IntKind.wrap_u64];omega
    have e0:(x:Int)+4294967296=((x+4294967296:Nat):Int):=by omega
    have e1:((x+4294967296:Nat):Int) - (y:Int)=((x+4294967296 - y:Nat):Int):=by omega
    have e2:((x+4294967296 - y:Nat):Int) - (cy:Int)=((x+4294967296 - y - cy:Nat):Int):=by omega
    have b0:x+4294967296<18446744073709551616:=by omega
    have b1:x+4294967296 - y<18446744073709551616:=by omega
    have b2:x+4294967296 - y - cy<18446744073709551616:=by omega
    have e3:((x+4294967296 - y - cy:Nat):Int) % 4294967296=(((x+4294967296 - y - cy) % 4294967296:Nat):Int):=by omega
    have e4:((x+4294967296 - y - cy:Nat):Int) / 4294967296=(((x+4294967296 - y - cy) / 4294967296:Nat):Int):=by omega
    have b3:(x+4294967296 - y - cy) % 4294967296<4294967296:=by omega
    have b4:(x+4294967296 - y - cy) / 4294967296≤1:=by omega
    generalize (x+4294967296 - y - cy) % 4294967296=m at *
    generalize (x+4294967296 - y - cy) / 4294967296=d at *
    generalize x+4294967296 - y - cy=t3 at *
    generalize x+4294967296 - y=t2 at *
    generalize x+4294967296=t1 at *
    have e5:(1:Int) - (d:Int)=((1 - d:Nat):Int):=by omega
    have w4:IntKind.u64.wrap (t1:Int)=(t1:Int):=by rw [IntKind.wrap_u64];omega
    have w5:IntKind.u64.wrap (t2:Int)=(t2:Int):=by rw [IntKind.wrap_u64];omega
    have w6:IntKind.u64.wrap (t3:Int)=(t3:Int):=by rw [IntKind.wrap_u64];omega
    have hi1:(0:Int)≤(k:Int):=by omega
    have hi2:(k:Int)<(X.length:Int):=by omega
    clear hval hblk hbl A1 A2 hX hY hcell L1
    go_wp2
    go_region_held3 (fun w'=>w'.cell? ⟨b,off+k,none⟩=some (.int .u64 x)) (go_keep) (first | (go_at_call 75;refine H2.mono ?_;rintro e w2 ⟨rfl,rfl⟩))
    go_wp2
    go_roundw
    case rel=>exact⟨k+1,1 - d,out.set k m,by omega,by go_num,by go_num,by omega,by simp;omega,digs_set hdo _ _ b3,HB.out.set k m,(HL.out.setCell (Nat.le_refl _) _).drew,HV.out⟩
    case measure=>simp [intOf];omega
  ·have ek:k=X.length:=by omega
   subst ek
   have hve:=kP hdo hlen hyl HLE.out cy hval
   have hA:=Ans.of_blk (base:=w.heap.size) (zs:=out) (Nat.le_refl _) hblk List.take_length.symm (Nat.le_refl _) (by omega) (digs_limbs hdo)
   have H:=dW w.heap.size _ _ _ (hA.arg (by omega)) hdo (by omega) (New.at _ _ _ _ _ (Nat.le_refl _))
   rw [hlen,hve] at H
   clear hval hblk hbl A1 A2 hX hY hA hve HB L1
   go_wp2_with fail
   refine H.mono ?_
   rintro e w2 ⟨⟨v',rfl,hnum,hnw⟩,rfl⟩
   have HN:=aa (And.intro hnum hnw)
   clear hnum hnw H
   go_wp2
   go_ret
   exact⟨⟨v',rfl,HN.out.1,HN.out.2⟩,HL.out⟩

theorem dv (v1 v2:Value)(x y:Nat)(w:World)(h1:Num w v1 x)(h2:Num w v2 y)(hle:y≤x)(f1:blen x≤1125899906840000) :
  Calls Tryz.prog 44 #[v1,v2] w fun e w'=>(∃v',e=.returned v'∧Num w' v' (x - y))∧Below w.heap.size w w':=
 (kL v1 v2 x y w h1 h2 hle f1).mono fun _ _ ⟨⟨v',h1,h2,_⟩,h3⟩=>⟨⟨v',h1,h2⟩,h3⟩

theorem Num.zero_iff {w:World}{v:Value}{x:Nat}(h:Num w v x):∃ao n cap,v=.slice ao n cap∧((n:Int) == 0)=(x == 0):=by
 obtain⟨ds,A,hd,ht,rfl,_⟩:=h
 obtain⟨ao,cap,hv,_⟩:=A.form
 refine⟨ao,ds.length,cap,hv,?_⟩
 by_cases h0:ds=[]
 ·subst h0;rfl
 ·have h1:0<ds.length:=List.length_pos_iff.2 h0
  have h2:vb 4294967296 ds≠0:=fun e=>h0 (vb_tail_zero (by omega) ht e)
  have e1:((ds.length:Int) == 0)=false:=by rw [beq_eq_false_iff_ne];omega
  have e2:(vb 4294967296 ds == 0)=false:=by rw [beq_eq_false_iff_ne];exact h2
  rw [e1,e2]

theorem gb (v:Value)(x:Nat)(w:World)(h:Num w v x):Calls Tryz.prog 46 #[v] w fun e w'=>e=.returned (.bool (x == 0))∧w'=w:=by
 obtain⟨ao,n,cap,rfl,he⟩:=h.zero_iff
 clear h
 go_enter Tryz.func46,Tryz.ntmps46
 go_wp2
 go_ret
 exact⟨rfl,rfl⟩

theorem kZ (n k:Nat):(List.replicate n 0).getD k 0=0:=by
 by_cases h:k<n
 ·simp [List.getD,h]
 ·simp [List.getD,h]

theorem nP (B n:Nat):vb B (List.replicate n 0)=0:=by
 induction n with
 | zero=>rfl
 | succ n ih=>rw [List.replicate_succ,vb,ih];simp

theorem mO (out:List Nat)(k d t:Nat)(h:k+1<out.length):((out.set k t).set (k+1) d).getD (k+1) 0=d:=by
 simp [List.getD,h]

theorem lc (x s:Nat)(h:x*2 ^ s<18446744073709551616):IntKind.u64.wrap ((x:Int)*2 ^ s)=((x*2 ^ s:Nat):Int):=by
 rw [IntKind.wrap_u64]
 have e:(x:Int)*2 ^ s=((x*2 ^ s:Nat):Int):=by push_cast;rfl
 rw [e];omega

theorem kK (out:List Nat)(i j a b:Nat):((out.set i a).set j b).length=out.length:=by simp

theorem mp (v:Value)(x n:Nat)(w:World)(h:Num w v x)(hf:blen x+n≤1125899906840000) :
  Calls Tryz.prog 51 #[v,.int .i64 n] w fun e w'=>(∃v',e=.returned v'∧Num w' v' (x*2 ^ n))∧Below w.heap.size w w':=by
 obtain⟨X,A,hX,hXt,rfl,_⟩:=h
 obtain⟨a1,c1,rfl,hc1,hm1,L1⟩:=A.form
 by_cases h0:X.length=0
 ·have hx:X=[]:=List.length_eq_zero_iff.1 h0
  subst hx
  clear A L1 hX hXt hf
  go_enter Tryz.func51,Tryz.ntmps51
  go_wp2
  go_ret
  refine⟨⟨_,rfl,?_⟩,Below.refl _ _⟩
  rw [vb,Nat.zero_mul]
  exact Num.nil w
 ·obtain⟨i0,hi,hz0,hz1,hz2⟩:=info_parts Tryz.infoU
  obtain⟨q,s,hs,hnq⟩:∃q s,s<32∧n=q*32+s:=⟨n / 32,n % 32,by omega,by omega⟩
  have lX:X.length+q≤35184372088752:=by
   obtain⟨m,hm⟩:∃m,X.length=m+1:=⟨X.length - 1,by omega⟩
   have h1:=blen_vb hX hXt m hm
   omega
  have eq1:(n:Int) / 32=(q:Int):=by omega
  have eq2:(n:Int) % 32=(s:Int):=by omega
  have HN:Hid (n=q*32+s):=hnq
  rcases L1 with h' | ⟨b,off,rfl,hcell⟩
  ·exact absurd (by rw [h'];rfl) h0
  ·have hbw:b<w.heap.size:=ak.block (zs:=X) (.inr ⟨b,off,rfl,hcell⟩) (by omega)
   have hln:((X.length:Int) == 0)=false:=by rw [beq_eq_false_iff_ne];omega
   clear hnq hf A
   go_enter Tryz.func51,Tryz.ntmps51
   go_wp2_with (at_make;refine wpList_make_full _ rfl _ _ 30 rfl w.heap.size 60 i0 (.int .u64 0) 1 Tryz.underlying30 hi hz0 hz1 .i64 .i64 _ _ (X.length+q+1) rfl rfl (by omega) (by omega) (by rw [hz2];omega) (by unfold maxLen;omega) (Nat.le_refl _) ?_;intro w1 hown hgrow)
   have hb1:=Blk.made hown
   have hbel:Below w.heap.size w w1:=(Below.refl _ _).grown hgrow (Nat.le_refl _) (fun k hk=>by cases hk)
   clear hown hgrow hi hz0 hz1 hz2
   go_loopw [23] (fun i wr=>∃(k:Nat) (out:List Nat),k≤X.length∧i=.int .i64 k∧out.length=X.length+q+1∧Digs 4294967296 out∧out.getD (q+k) 0<2 ^ s∧Blk wr w.heap.size out∧Below w.heap.size w wr ∧
     vb 4294967296 (out.take (q+k+1))=vb 4294967296 (X.take k)*2 ^ n) (fun i _=>X.length - (intOf i).toNat)
   case atStart=>exact⟨0,_,Nat.zero_le _,rfl,by simp,digs_replicate (by omega) _,by rw [kZ];exact Nat.two_pow_pos _,hb1,hbel,by rw [List.take_replicate,nP];simp [vb]⟩
   case round=>
    obtain⟨k,out,hk,rfl,hlen,hdo,hlow,hblk,hbl,hval⟩:=hrel
    clear hb1 hbel
    have HB:=aa hblk
    have HL:=aa hbl
    by_cases hkl:k<X.length
    ·have hck:wr.cell? ⟨b,off+k,none⟩=some (.int .u64 ((X.getD k 0:Nat):Int)):=by rw [hbl.cell (p:=⟨b,off+k,none⟩) hbw];exact hcell k hkl
     have hne1:¬b=w.heap.size:=by omega
     have hne2:¬w.heap.size=b:=by omega
     have hfr:=hblk.free (k+q)
     have hco:=hblk.cell (k+q) (by omega)
     have hfr1:=hblk.free (k+q+1)
     have hco1:=hblk.cell (k+q+1) (by omega)
     have HV:=aa (jS X out q s k n HN.out (by omega) hval)
     have z1:=dig_lt (by omega) hX k
     have b1:=nW (X.getD k 0) s (out.getD (q+k) 0) (by omega) hlow
     have b2:=kR (X.getD k 0) s z1
     have b3:=mB (X.getD k 0) s z1 hs
     have hdd:=aa (digs_set (digs_set hdo (q+k) _ b1) (q+k+1) (X.getD k 0*2 ^ s / 4294967296) (by omega))
     have hge:=aa (show ((out.set (q+k) (out.getD (q+k) 0+X.getD k 0*2 ^ s % 4294967296)).set (q+k+1) (X.getD k 0*2 ^ s / 4294967296)).getD (q+(k+1)) 0<2 ^ s by rw [show q+(k+1)=q+k+1 by omega,mO _ _ _ _ (by omega)];exact b2)
     generalize X.getD k 0=x at *
     rw [Nat.add_comm q k] at *
     generalize out.getD (k+q) 0=o at *
     generalize out.getD (k+q+1) 0=o1 at *
     have w0:IntKind.u64.wrap ((x:Int)*2 ^ s)=((x*2 ^ s:Nat):Int):=lc x s b3
     generalize x*2 ^ s=T at *
     have e1:(T:Int) % 4294967296=((T % 4294967296:Nat):Int):=by omega
     have e2:(T:Int) / 4294967296=((T / 4294967296:Nat):Int):=by omega
     have b4:T / 4294967296<4294967296:=by omega
     generalize T % 4294967296=m at *
     generalize T / 4294967296=d at *
     have e3:(o:Int)+(m:Int)=((o+m:Nat):Int):=by omega
     generalize o+m=t at *
     have e4:IntKind.u64.wrap (t:Int)=(t:Int):=by rw [IntKind.wrap_u64];omega
     clear hval hblk hbl hcell
     go_wp2
     go_region
     go_wp2
     go_roundw
     case rel=>exact⟨k+1,(out.set (k+q) t).set (k+q+1) d,by omega,by go_num,by rw [kK];exact hlen,hdd.out,hge.out,(HB.out.set (k+q) t).set (k+q+1) d,((HL.out.setCell (Nat.le_refl _) _).setCell (Nat.le_refl _) _).drew,by rw [show q+(k+1)+1=k+q+1+1 by omega];exact HV.out⟩
     case measure=>simp [intOf];omega
    ·have ek:k=X.length:=by omega
     subst ek
     have hve:vb 4294967296 out=vb 4294967296 X*2 ^ n:=by
      rw [List.take_of_length_le (by omega),List.take_length] at hval;exact hval
     have hA:=Ans.of_blk (base:=w.heap.size) (zs:=out) (Nat.le_refl _) hblk List.take_length.symm (Nat.le_refl _) (by omega) (digs_limbs hdo)
     have H:=fD _ _ _ (hA.arg (by omega)) hdo (by omega)
     rw [hlen,hve] at H
     clear hval hblk hbl hX hA hve HB hcell
     go_wp2_with fail
     refine H.mono ?_
     rintro e w2 ⟨⟨v',rfl,hnum⟩,rfl⟩
     have HN:=aa hnum
     clear hnum H
     go_wp2
     go_ret
     exact⟨⟨v',rfl,HN.out⟩,HL.out⟩
end Go.Proofs.YtcbpdngogkbndaaGreatDoor

