/- Package div: product. -/
import Derived.Test.YtcbpdngogkbndaaGreatDoorB06
import Derived.Test.YtcbpdngogkbndaaGreatDoorB07
import Derived.Test.YtcbpdngogkbndaaGreatDoorB05
set_option maxRecDepth 20000
set_option maxHeartbeats 1000000
namespace Go.Proofs.YtcbpdngogkbndaaGreatDoor
open Go.RowKit
open Lm
attribute [local go_sem ↓] Go.wp_at_zero Go.wp_at_succ

theorem cm {w w':World}(h:Below w.drew.heap.size w.drew w'):Below w.heap.size w w':=⟨h.os,h.tape,h.output,h.size,h.block⟩

def de (w:World)(p:Nat)(e:Ending)(w':World):Prop:=
 (∃v rs,e=.returned v∧Ans w' w.heap.size v rs∧tr rs=rs∧val rs=p)∧Below w.heap.size w w'

theorem bs (X Y:List Nat)(hX:Limbs X)(hY:Limbs Y):val X*val Y<18446744073709551616 ^ (X.length+Y.length):=by
 rw [Nat.pow_add]
 have h1:=val_lt hX
 have h2:=val_lt hY
 rcases Nat.eq_zero_or_pos (val Y) with h|h
 ·rw [h,Nat.mul_zero];exact Nat.mul_pos (by omega) (by omega)
 ·exact Nat.mul_lt_mul_of_lt_of_lt h1 h2

theorem mU:∀(N:Nat) (X Y:List Nat) (va vb:Value) (w:World),X.length+Y.length<N→X.length+Y.length≤35184372088831→Arg w va X→Arg w vb Y→Tab w →
  Calls Tryz.prog 129 #[va,vb] w (de w (val X*val Y)):=by
 intro N
 induction N with
 | zero=>intro X Y va vb w h;omega
 | succ N ih=>
  intro X Y va vb w hN hfew hA hA2 hT
  obtain⟨a1,c1,rfl,hc1,hm1,hl1⟩:=hA.form
  obtain⟨a2,c2,rfl,hc2,hm2,hl2⟩:=hA2.form
  have T1:=ce a1 c1 X w hc1 hm1 hl1
  have T2:=ce a2 c2 Y w hc2 hm2 hl2
  have A1:=hA.trim
  have A2:=hA2.trim
  have m1:=limbs_tr hA.limbs
  have m2:=limbs_tr hA2.limbs
  have l1:=tr_length_le X
  have l2:=tr_length_le Y
  rw [←val_tr X,←val_tr Y]
  clear hA hA2 hl1 hl2
  generalize tr X=P at *
  generalize tr Y=R at *
  by_cases hsw:P.length<R.length
  ·have hsw2:(P.length:Int)<(R.length:Int):=by omega
   rw [Nat.mul_comm]
   have AL:=A2
   have AS:=A1
   have mL:=m2
   have mS:=m1
   have hfit:=bs R P mL mS
   by_cases hsm:R.length+P.length≤1048576
   ·have HM:=dV _ _ R P w AL AS hT (by omega)
    have hbl:blen (val R*val P)≤67108864:=by
     have:blen (val R*val P)≤64*(R.length+P.length):=(blen_le_iff _ _).2 (by rw [Nat.pow_mul];exact hfit)
     omega
    have hsm2:(R.length:Int)+(P.length:Int)≤1048576:=by omega
    clear AL AS hT hfit
    go_enter Tryz.func129,Tryz.ntmps129
    go_wp2_with fail
    refine T1.mono ?_
    rintro e wn ⟨rfl,hw⟩;rw [hw];clear hw wn
    go_wp2_with fail
    refine T2.mono ?_
    rintro e wn ⟨rfl,hw⟩;rw [hw];clear hw wn
    clear T1 T2
    go_wp2_with fail
    refine HM.mono ?_
    rintro e w2 ⟨hb,v,c,rs,rfl,hans,hres⟩
    have HX:Hid (de w (val R*val P) (.returned v) w2):=by
     rcases hres with ⟨_,hv,ht,_⟩|⟨_,_,hbig⟩
     ·exact⟨⟨v,rs,rfl,hans,ht,hv⟩,hb⟩
     ·omega
    clear hb hans hres HM
    go_wp2
    go_ret
    exact HX.out
   ·obtain⟨half,eh,hh1,hh2⟩:∃half:Nat,(R.length:Int) / 2=(half:Int)∧2*half≤R.length∧R.length≤2*half+1:=⟨R.length / 2,by omega,by omega,by omega⟩
    have hord:P.length≤R.length:=by omega
    obtain⟨K,eK,hK1,hK2⟩:∃K:Nat,(R.length:Int)+(P.length:Int)=(K:Int)∧K≤R.length+P.length∧R.length+P.length≤K:=⟨_,rfl,Nat.le_refl _,Nat.le_refl _⟩
    have hsm2:¬((K:Int)≤1048576):=by omega
    have hKb:K≤35184372088831:=by omega
    have HFIT:=aa hfit
    have HT:=aa hT
    have HAL:=aa AL
    have HAS:=aa AS
    have HMS:=aa (And.intro mL mS)
    obtain⟨bL,oL,rfl⟩:∃b off,a2=some ⟨b,off,none⟩:=by
     obtain⟨_,_,e,_,_,hl⟩:=AL.form
     cases e
     rcases hl with h0|⟨b,off,e,_⟩
     ·have hz:R.length=0:=by rw [h0];rfl
      omega
     ·exact⟨b,off,e⟩
    obtain⟨i0,hi,hz0,hz1,hz2⟩:=info_parts Tryz.infoU
    clear AL AS hT hfit A1 A2 mL mS m1 m2
    go_enter Tryz.func129,Tryz.ntmps129
    go_wp2_with fail
    refine T1.mono ?_
    rintro e wn ⟨rfl,hw⟩;rw [hw];clear hw wn
    go_wp2_with fail
    refine T2.mono ?_
    rintro e wn ⟨rfl,hw⟩;rw [hw];clear hw wn
    clear T1 T2
    go_wp2_with (at_make;refine wpList_make_full _ rfl _ _ 25 rfl w.heap.size 60 i0 (.int .u64 0) 1 Tryz.underlying25 hi hz0 hz1 .i64 .i64 _ _ K rfl rfl (by omega) (by omega) (by rw [hz2];omega) (by unfold maxLen;omega) (Nat.le_refl _) ?_;intro w1 hown hgrow)
    have hb1:=Blk.made hown
    have hbel:Below w.heap.size w w1:=(Below.refl _ _).grown hgrow (Nat.le_refl _) (fun k hk=>by cases hk)
    have HB1:=aa hb1
    have HBE:=aa hbel
    clear hown hgrow hi hz0 hz1 hz2 hb1 hbel
    have lt1:(R.take half).length=half:=by simp;omega
    have ld1:(R.drop half).length=R.length - half:=by simp
    have IH1:=ih (R.take half) P _ _ w1 (by omega) (by omega) ((HAL.out.below HBE.out).front half (by omega)) (HAS.out.below HBE.out) (HT.out.below HBE.out)
    go_wp2_with fail
    refine IH1.mono ?_
    rintro e w2 ⟨⟨v1,rs1,rfl,An1,t1,e1⟩,hb2⟩
    have mT:=(HAL.out.front half (by omega)).limbs
    have mD:=(HAL.out.drop half (by omega)).limbs
    have f1:=bs (R.take half) P mT HMS.out.2
    have f2:=bs (R.drop half) P mD HMS.out.2
    have r1:=aG rs1 (half+P.length) (by rw [e1];rw [lt1] at f1;exact f1)
    rw [t1] at r1
    have A1':=An1.arg (by omega)
    obtain⟨ao,co,rfl,_,_,hlo⟩:=A1'.form
    have B2:=HB1.out.below hb2 HB1.out.lt
    obtain⟨w3,M1,hcp,B3,L3,F3,O3,S3⟩:=aZ w.heap.size 0 K K (List.replicate K 0) ao co rs1 w2 B2 (limbs_replicate _) An1.limbs (aV K 0 K) (by simp) (by omega) hlo
    have HB3:Hid (Below w.heap.size w w3):=(HBE.out.trans (hb2.mono HBE.out.size)).trans (F3.below (Nat.le_refl _) (by have:=HBE.out.size;have:=hb2.size;omega))
    have IH2:=ih (R.drop half) P _ _ w3.drew (by omega) (by omega) ((HAL.out.below HB3.out).drop half (by omega)).drew (HAS.out.below HB3.out).drew (HT.out.below HB3.out.drew)
    have hch:¬K=half:=by omega
    have hcl:¬c2=half:=by omega
    have lM:M1.length=K:=by rw [O3.len];simp
    have HM1:=aa (And.intro L3 (And.intro S3 lM))
    have HE1:=aa e1
    have HBK:=aa B3
    have k1:(0:Int)≤(half:Int):=by omega
    have k2:(half:Int)≤(K:Int):=by omega
    have k3:(half:Int)≤(R.length:Int):=by omega
    have k4:(half:Int)≤(c2:Int):=by omega
    clear IH1 An1 hb2 A1' hlo B2 B3 L3 F3 O3 S3 lM e1 t1 mT mD f1 hN hfew
    go_wp2
    have HPP:=aa (fun (w4:World) (v2:Value) (rs2:List Nat) (An2:Ans w4 w3.drew.heap.size v2 rs2) (t2:tr rs2=rs2) (e2:val rs2=val (R.drop half)*val P) (hb4:Below w3.drew.heap.size w3.drew w4)=>
     show Calls Tryz.prog 126 #[.slice (some ⟨w.heap.size,half,none⟩) (K - half) (K - half),v2] w4 (eD w.heap.size half (K - half) M1 w4 (sv M1 half (K - half)+val rs2)) by
      have r2:=aG rs2 (R.length - half+P.length) (by rw [e2];rw [ld1] at f2;exact f2)
      rw [t2] at r2
      have hlt4:w.heap.size<w3.drew.heap.size:=HBK.out.lt
      exact dc w.heap.size half (K - half) (K - half) M1 v2 rs2 w4 (HBK.out.below (cm hb4) HBK.out.lt) HM1.out.1 (An2.arg (by omega)) (fun b off n c e=>by subst e;exact .inl (fun h=>by have:=(An2.own.lt b rfl).1;omega)) (by rw [HM1.out.2.2];omega) (Nat.le_refl _) (by omega) (by omega))
    go_region_held3 (fun _=>True) (trivial) (first
     | (go_at_call 129;refine IH2.mono ?_;rintro e w4 ⟨⟨v2,rs2,rfl,An2,t2,e2⟩,hb4⟩)
     | (go_at_call 126;refine (HPP.out _ _ _ An2 t2 e2 hb4).mono ?_;rintro e w5 ⟨c5,M2,hc5,rfl,O5,L5,B5,F5,S5⟩))
    have l5:M2.length=K:=by rw [O5.len,HM1.out.2.2]
    have HTR:=ce (some ⟨w.heap.size,0,none⟩) K M2 w5 (by omega) (by omega) (.inr ⟨_,0,rfl,fun j hj=>by rw [Nat.zero_add];exact B5.cell j hj⟩)
    rw [l5] at HTR
    have HVAL:Hid (val M2=val R*val P):=by
     refine aa ?_
     obtain⟨d,hd⟩:∃d,K=half+d:=⟨K - half,by omega⟩
     have s0:=ag M1 0 half d (by rw [HM1.out.2.2];omega)
     have s1:=ag M2 0 half d (by omega)
     have s2:=O5.sv 0 half (by omega)
     have s3:=HM1.out.2.1
     have s4:=bk R half (by omega)
     have s5:sv M2 0 (half+d)=val M2:=by rw [←hd,←l5,aR]
     have s6:K - half=d:=by omega
     have s7:=HFIT.out
     have s8:R.length+P.length=half+d:=by omega
     rw [s6] at S5
     rw [hd] at s3
     rw [s8,Nat.pow_add] at s7
     rw [Nat.zero_add] at s0 s1
     rw [HE1.out] at s3
     rw [e2] at S5
     rw [s4,Nat.add_mul,Nat.mul_assoc] at s7 ⊢
     rw [←s5,s1,s2]
     rw [s0] at s3
     generalize val (R.take half)*val P=a at *
     generalize val (R.drop half)*val P=b at *
     generalize sv M1 0 half=x at *
     generalize sv M1 half d=y at *
     generalize sv M2 half d=z at *
     generalize (18446744073709551616:Nat) ^ half=W at *
     generalize (18446744073709551616:Nat) ^ d=V at *
     have t1:W*z+W*(c5*V)=W*y+W*b:=by rw [←Nat.mul_add,←Nat.mul_add,S5]
     have t2:W*(c5*V)=c5*(W*V):=by rw [←Nat.mul_assoc,Nat.mul_comm W c5,Nat.mul_assoc]
     rw [t2] at t1
     rcases (by omega:c5=0∨c5=1) with rfl|rfl
     ·omega
     ·omega
    have HEND:Hid (de w (val R*val P) (.returned (.slice (some ⟨w.heap.size,0,none⟩) (tr M2).length K)) w5):=by
     have hb5:Below w.heap.size w w4:=HB3.out.trans ((cm hb4).mono HB3.out.size)
     have AM:=(Ans.of_blk (base:=w.heap.size) (zs:=M2) (Nat.le_refl _) B5 List.take_length.symm (Nat.le_refl _) (by omega) L5).trim
     rw [l5] at AM
     exact⟨⟨_,tr M2,rfl,AM,tr_tr _,by rw [val_tr];exact HVAL.out⟩,hb5.trans (F5.below (Nat.le_refl _) hb5.size)⟩
    clear An2 t2 e2 hb4 O5 L5 B5 F5 S5 HVAL HPP IH2 hcp
    go_wp2_with fail
    refine HTR.mono ?_
    rintro e w6 ⟨rfl,hw⟩;subst hw
    clear HTR
    go_wp2
    go_ret
    exact HEND.out
  ·have hsw2:¬((P.length:Int)<(R.length:Int)):=by omega
   have AL:=A1
   have AS:=A2
   have mL:=m1
   have mS:=m2
   have hfit:=bs P R mL mS
   by_cases hsm:P.length+R.length≤1048576
   ·have HM:=dV _ _ P R w AL AS hT (by omega)
    have hbl:blen (val P*val R)≤67108864:=by
     have:blen (val P*val R)≤64*(P.length+R.length):=(blen_le_iff _ _).2 (by rw [Nat.pow_mul];exact hfit)
     omega
    have hsm2:(P.length:Int)+(R.length:Int)≤1048576:=by omega
    clear AL AS hT hfit
    go_enter Tryz.func129,Tryz.ntmps129
    go_wp2_with fail
    refine T1.mono ?_
    rintro e wn ⟨rfl,hw⟩;rw [hw];clear hw wn
    go_wp2_with fail
    refine T2.mono ?_
    rintro e wn ⟨rfl,hw⟩;rw [hw];clear hw wn
    clear T1 T2
    go_wp2_with fail
    refine HM.mono ?_
    rintro e w2 ⟨hb,v,c,rs,rfl,hans,hres⟩
    have HX:Hid (de w (val P*val R) (.returned v) w2):=by
     rcases hres with ⟨_,hv,ht,_⟩|⟨_,_,hbig⟩
     ·exact⟨⟨v,rs,rfl,hans,ht,hv⟩,hb⟩
     ·omega
    clear hb hans hres HM
    go_wp2
    go_ret
    exact HX.out
   ·obtain⟨half,eh,hh1,hh2⟩:∃half:Nat,(P.length:Int) / 2=(half:Int)∧2*half≤P.length∧P.length≤2*half+1:=⟨P.length / 2,by omega,by omega,by omega⟩
    have hord:R.length≤P.length:=by omega
    obtain⟨K,eK,hK1,hK2⟩:∃K:Nat,(P.length:Int)+(R.length:Int)=(K:Int)∧K≤P.length+R.length∧P.length+R.length≤K:=⟨_,rfl,Nat.le_refl _,Nat.le_refl _⟩
    have hsm2:¬((K:Int)≤1048576):=by omega
    have hKb:K≤35184372088831:=by omega
    have HFIT:=aa hfit
    have HT:=aa hT
    have HAL:=aa AL
    have HAS:=aa AS
    have HMS:=aa (And.intro mL mS)
    obtain⟨bL,oL,rfl⟩:∃b off,a1=some ⟨b,off,none⟩:=by
     obtain⟨_,_,e,_,_,hl⟩:=AL.form
     cases e
     rcases hl with h0|⟨b,off,e,_⟩
     ·have hz:P.length=0:=by rw [h0];rfl
      omega
     ·exact⟨b,off,e⟩
    obtain⟨i0,hi,hz0,hz1,hz2⟩:=info_parts Tryz.infoU
    clear AL AS hT hfit A1 A2 mL mS m1 m2
    go_enter Tryz.func129,Tryz.ntmps129
    go_wp2_with fail
    refine T1.mono ?_
    rintro e wn ⟨rfl,hw⟩;rw [hw];clear hw wn
    go_wp2_with fail
    refine T2.mono ?_
    rintro e wn ⟨rfl,hw⟩;rw [hw];clear hw wn
    clear T1 T2
    go_wp2_with (at_make;refine wpList_make_full _ rfl _ _ 25 rfl w.heap.size 60 i0 (.int .u64 0) 1 Tryz.underlying25 hi hz0 hz1 .i64 .i64 _ _ K rfl rfl (by omega) (by omega) (by rw [hz2];omega) (by unfold maxLen;omega) (Nat.le_refl _) ?_;intro w1 hown hgrow)
    have hb1:=Blk.made hown
    have hbel:Below w.heap.size w w1:=(Below.refl _ _).grown hgrow (Nat.le_refl _) (fun k hk=>by cases hk)
    have HB1:=aa hb1
    have HBE:=aa hbel
    clear hown hgrow hi hz0 hz1 hz2 hb1 hbel
    have lt1:(P.take half).length=half:=by simp;omega
    have ld1:(P.drop half).length=P.length - half:=by simp
    have IH1:=ih (P.take half) R _ _ w1 (by omega) (by omega) ((HAL.out.below HBE.out).front half (by omega)) (HAS.out.below HBE.out) (HT.out.below HBE.out)
    go_wp2_with fail
    refine IH1.mono ?_
    rintro e w2 ⟨⟨v1,rs1,rfl,An1,t1,e1⟩,hb2⟩
    have mT:=(HAL.out.front half (by omega)).limbs
    have mD:=(HAL.out.drop half (by omega)).limbs
    have f1:=bs (P.take half) R mT HMS.out.2
    have f2:=bs (P.drop half) R mD HMS.out.2
    have r1:=aG rs1 (half+R.length) (by rw [e1];rw [lt1] at f1;exact f1)
    rw [t1] at r1
    have A1':=An1.arg (by omega)
    obtain⟨ao,co,rfl,_,_,hlo⟩:=A1'.form
    have B2:=HB1.out.below hb2 HB1.out.lt
    obtain⟨w3,M1,hcp,B3,L3,F3,O3,S3⟩:=aZ w.heap.size 0 K K (List.replicate K 0) ao co rs1 w2 B2 (limbs_replicate _) An1.limbs (aV K 0 K) (by simp) (by omega) hlo
    have HB3:Hid (Below w.heap.size w w3):=(HBE.out.trans (hb2.mono HBE.out.size)).trans (F3.below (Nat.le_refl _) (by have:=HBE.out.size;have:=hb2.size;omega))
    have IH2:=ih (P.drop half) R _ _ w3.drew (by omega) (by omega) ((HAL.out.below HB3.out).drop half (by omega)).drew (HAS.out.below HB3.out).drew (HT.out.below HB3.out.drew)
    have hch:¬K=half:=by omega
    have hcl:¬c1=half:=by omega
    have lM:M1.length=K:=by rw [O3.len];simp
    have HM1:=aa (And.intro L3 (And.intro S3 lM))
    have HE1:=aa e1
    have HBK:=aa B3
    have k1:(0:Int)≤(half:Int):=by omega
    have k2:(half:Int)≤(K:Int):=by omega
    have k3:(half:Int)≤(P.length:Int):=by omega
    have k4:(half:Int)≤(c1:Int):=by omega
    clear IH1 An1 hb2 A1' hlo B2 B3 L3 F3 O3 S3 lM e1 t1 mT mD f1 hN hfew
    go_wp2
    have HPP:=aa (fun (w4:World) (v2:Value) (rs2:List Nat) (An2:Ans w4 w3.drew.heap.size v2 rs2) (t2:tr rs2=rs2) (e2:val rs2=val (P.drop half)*val R) (hb4:Below w3.drew.heap.size w3.drew w4)=>
     show Calls Tryz.prog 126 #[.slice (some ⟨w.heap.size,half,none⟩) (K - half) (K - half),v2] w4 (eD w.heap.size half (K - half) M1 w4 (sv M1 half (K - half)+val rs2)) by
      have r2:=aG rs2 (P.length - half+R.length) (by rw [e2];rw [ld1] at f2;exact f2)
      rw [t2] at r2
      have hlt4:w.heap.size<w3.drew.heap.size:=HBK.out.lt
      exact dc w.heap.size half (K - half) (K - half) M1 v2 rs2 w4 (HBK.out.below (cm hb4) HBK.out.lt) HM1.out.1 (An2.arg (by omega)) (fun b off n c e=>by subst e;exact .inl (fun h=>by have:=(An2.own.lt b rfl).1;omega)) (by rw [HM1.out.2.2];omega) (Nat.le_refl _) (by omega) (by omega))
    go_region_held3 (fun _=>True) (trivial) (first
     | (go_at_call 129;refine IH2.mono ?_;rintro e w4 ⟨⟨v2,rs2,rfl,An2,t2,e2⟩,hb4⟩)
     | (go_at_call 126;refine (HPP.out _ _ _ An2 t2 e2 hb4).mono ?_;rintro e w5 ⟨c5,M2,hc5,rfl,O5,L5,B5,F5,S5⟩))
    have l5:M2.length=K:=by rw [O5.len,HM1.out.2.2]
    have HTR:=ce (some ⟨w.heap.size,0,none⟩) K M2 w5 (by omega) (by omega) (.inr ⟨_,0,rfl,fun j hj=>by rw [Nat.zero_add];exact B5.cell j hj⟩)
    rw [l5] at HTR
    have HVAL:Hid (val M2=val P*val R):=by
     refine aa ?_
     obtain⟨d,hd⟩:∃d,K=half+d:=⟨K - half,by omega⟩
     have s0:=ag M1 0 half d (by rw [HM1.out.2.2];omega)
     have s1:=ag M2 0 half d (by omega)
     have s2:=O5.sv 0 half (by omega)
     have s3:=HM1.out.2.1
     have s4:=bk P half (by omega)
     have s5:sv M2 0 (half+d)=val M2:=by rw [←hd,←l5,aR]
     have s6:K - half=d:=by omega
     have s7:=HFIT.out
     have s8:P.length+R.length=half+d:=by omega
     rw [s6] at S5
     rw [hd] at s3
     rw [s8,Nat.pow_add] at s7
     rw [Nat.zero_add] at s0 s1
     rw [HE1.out] at s3
     rw [e2] at S5
     rw [s4,Nat.add_mul,Nat.mul_assoc] at s7 ⊢
     rw [←s5,s1,s2]
     rw [s0] at s3
     generalize val (P.take half)*val R=a at *
     generalize val (P.drop half)*val R=b at *
     generalize sv M1 0 half=x at *
     generalize sv M1 half d=y at *
     generalize sv M2 half d=z at *
     generalize (18446744073709551616:Nat) ^ half=W at *
     generalize (18446744073709551616:Nat) ^ d=V at *
     have t1:W*z+W*(c5*V)=W*y+W*b:=by rw [←Nat.mul_add,←Nat.mul_add,S5]
     have t2:W*(c5*V)=c5*(W*V):=by rw [←Nat.mul_assoc,Nat.mul_comm W c5,Nat.mul_assoc]
     rw [t2] at t1
     rcases (by omega:c5=0∨c5=1) with rfl|rfl
     ·omega
     ·omega
    have HEND:Hid (de w (val P*val R) (.returned (.slice (some ⟨w.heap.size,0,none⟩) (tr M2).length K)) w5):=by
     have hb5:Below w.heap.size w w4:=HB3.out.trans ((cm hb4).mono HB3.out.size)
     have AM:=(Ans.of_blk (base:=w.heap.size) (zs:=M2) (Nat.le_refl _) B5 List.take_length.symm (Nat.le_refl _) (by omega) L5).trim
     rw [l5] at AM
     exact⟨⟨_,tr M2,rfl,AM,tr_tr _,by rw [val_tr];exact HVAL.out⟩,hb5.trans (F5.below (Nat.le_refl _) hb5.size)⟩
    clear An2 t2 e2 hb4 O5 L5 B5 F5 S5 HVAL HPP IH2 hcp
    go_wp2_with fail
    refine HTR.mono ?_
    rintro e w6 ⟨rfl,hw⟩;subst hw
    clear HTR
    go_wp2
    go_ret
    exact HEND.out

theorem jj:∀(N:Nat) (X Y:List Nat) (va vb:Value) (w:World),X.length+Y.length<N→X.length+Y.length≤35184372088830→Arg w va X→Arg w vb Y→Tab w →
  Calls Tryz.prog 97 #[va,vb] w (aP w (val X*val Y)):=by
 intro N
 induction N with
 | zero=>intro X Y va vb w h;omega
 | succ N ih=>
  intro X Y va vb w hN hfew hA hA2 hT
  obtain⟨a1,c1,rfl,hc1,hm1,hl1⟩:=hA.form
  obtain⟨a2,c2,rfl,hc2,hm2,hl2⟩:=hA2.form
  have T1:=dk a1 c1 X w hc1 hm1 hl1
  have T2:=dk a2 c2 Y w hc2 hm2 hl2
  have A1:=hA.trim
  have A2:=hA2.trim
  have m1:=limbs_tr hA.limbs
  have m2:=limbs_tr hA2.limbs
  have l1:=tr_length_le X
  have l2:=tr_length_le Y
  rw [←val_tr X,←val_tr Y]
  clear hA hA2 hl1 hl2
  generalize tr X=P at *
  generalize tr Y=R at *
  by_cases hsw:P.length<R.length
  ·have hsw2:(P.length:Int)<(R.length:Int):=by omega
   rw [Nat.mul_comm]
   have AL:=A2
   have AS:=A1
   have mL:=m2
   have mS:=m1
   have hfit:=bs R P mL mS
   by_cases hsm:R.length+P.length≤1048576
   ·have HM:=dV _ _ R P w AL AS hT (by omega)
    have hbl:blen (val R*val P)≤67108864:=by
     have:blen (val R*val P)≤64*(R.length+P.length):=(blen_le_iff _ _).2 (by rw [Nat.pow_mul];exact hfit)
     omega
    have hsm2:(R.length:Int)+(P.length:Int)≤1048576:=by omega
    clear AL AS hT hfit
    go_enter Tryz.func97,Tryz.ntmps97
    go_wp2_with fail
    refine T1.mono ?_
    rintro e wn ⟨rfl,hw⟩;rw [hw];clear hw wn
    go_wp2_with fail
    refine T2.mono ?_
    rintro e wn ⟨rfl,hw⟩;rw [hw];clear hw wn
    clear T1 T2
    go_wp2_with fail
    refine HM.mono ?_
    rintro e w2 ⟨hb,v,c,rs,rfl,hans,hres⟩
    have HX:Hid (aP w (val R*val P) (.returned v) w2):=by
     rcases hres with ⟨_,hv,ht,_⟩|⟨_,_,hbig⟩
     ·exact⟨⟨v,rs,rfl,hans,hv,ht⟩,hb⟩
     ·omega
    clear hb hans hres HM
    go_wp2
    go_ret
    exact HX.out
   ·obtain⟨half,eh,hh1,hh2⟩:∃half:Nat,(R.length:Int) / 2=(half:Int)∧2*half≤R.length∧R.length≤2*half+1:=⟨R.length / 2,by omega,by omega,by omega⟩
    have hord:P.length≤R.length:=by omega
    obtain⟨K0,eK,hK01,hK02⟩:∃K:Nat,(R.length:Int)+(P.length:Int)=(K:Int)∧K≤R.length+P.length∧R.length+P.length≤K:=⟨_,rfl,Nat.le_refl _,Nat.le_refl _⟩
    have hsm2:¬((K0:Int)≤1048576):=by omega
    obtain⟨K,eK1,hK1,hK2⟩:∃K:Nat,(K0:Int)+1=(K:Int)∧K≤R.length+P.length+1∧R.length+P.length+1≤K:=⟨K0+1,by omega,by omega,by omega⟩
    have hKb:K≤35184372088831:=by omega
    have HFIT:=aa hfit
    have HT:=aa hT
    have HAL:=aa AL
    have HAS:=aa AS
    have HMS:=aa (And.intro mL mS)
    obtain⟨bL,oL,rfl⟩:∃b off,a2=some ⟨b,off,none⟩:=by
     obtain⟨_,_,e,_,_,hl⟩:=AL.form
     cases e
     rcases hl with h0|⟨b,off,e,_⟩
     ·have hz:R.length=0:=by rw [h0];rfl
      omega
     ·exact⟨b,off,e⟩
    obtain⟨i0,hi,hz0,hz1,hz2⟩:=info_parts Tryz.infoU
    clear AL AS hT hfit A1 A2 mL mS m1 m2
    go_enter Tryz.func97,Tryz.ntmps97
    go_wp2_with fail
    refine T1.mono ?_
    rintro e wn ⟨rfl,hw⟩;rw [hw];clear hw wn
    go_wp2_with fail
    refine T2.mono ?_
    rintro e wn ⟨rfl,hw⟩;rw [hw];clear hw wn
    clear T1 T2
    go_wp2_with (at_make;refine wpList_make_full _ rfl _ _ 25 rfl w.heap.size 60 i0 (.int .u64 0) 1 Tryz.underlying25 hi hz0 hz1 .i64 .i64 _ _ K rfl rfl (by omega) (by omega) (by rw [hz2];omega) (by unfold maxLen;omega) (Nat.le_refl _) ?_;intro w1 hown hgrow)
    have hb1:=Blk.made hown
    have hbel:Below w.heap.size w w1:=(Below.refl _ _).grown hgrow (Nat.le_refl _) (fun k hk=>by cases hk)
    have HB1:=aa hb1
    have HBE:=aa hbel
    clear hown hgrow hi hz0 hz1 hz2 hb1 hbel
    have lt1:(R.take half).length=half:=by simp;omega
    have ld1:(R.drop half).length=R.length - half:=by simp
    have IH1:=ih (R.take half) P _ _ w1 (by omega) (by omega) ((HAL.out.below HBE.out).front half (by omega)) (HAS.out.below HBE.out) (HT.out.below HBE.out)
    go_wp2_with fail
    refine IH1.mono ?_
    rintro e w2 ⟨⟨v1,rs1,rfl,An1,e1,t1⟩,hb2⟩
    have mT:=(HAL.out.front half (by omega)).limbs
    have mD:=(HAL.out.drop half (by omega)).limbs
    have f1:=bs (R.take half) P mT HMS.out.2
    have f2:=bs (R.drop half) P mD HMS.out.2
    have r1:=aG rs1 (half+P.length) (by rw [e1];rw [lt1] at f1;exact f1)
    rw [t1] at r1
    have A1':=An1.arg (by omega)
    obtain⟨ao,co,rfl,_,_,hlo⟩:=A1'.form
    have B2:=HB1.out.below hb2 HB1.out.lt
    obtain⟨w3,M1,hcp,B3,L3,F3,O3,S3⟩:=aZ w.heap.size 0 K K (List.replicate K 0) ao co rs1 w2 B2 (limbs_replicate _) An1.limbs (aV K 0 K) (by simp) (by omega) hlo
    have HB3:Hid (Below w.heap.size w w3):=(HBE.out.trans (hb2.mono HBE.out.size)).trans (F3.below (Nat.le_refl _) (by have:=HBE.out.size;have:=hb2.size;omega))
    have IH2:=ih (R.drop half) P _ _ w3.drew (by omega) (by omega) ((HAL.out.below HB3.out).drop half (by omega)).drew (HAS.out.below HB3.out).drew (HT.out.below HB3.out.drew)
    have hch:¬K=half:=by omega
    have hcl:¬c2=half:=by omega
    have lM:M1.length=K:=by rw [O3.len];simp
    have HM1:=aa (And.intro L3 (And.intro S3 lM))
    have HE1:=aa e1
    have HBK:=aa B3
    have k1:(0:Int)≤(half:Int):=by omega
    have k2:(half:Int)≤(K:Int):=by omega
    have k3:(half:Int)≤(R.length:Int):=by omega
    have k4:(half:Int)≤(c2:Int):=by omega
    clear IH1 An1 hb2 A1' hlo B2 B3 L3 F3 O3 S3 lM e1 t1 mT mD f1 hN hfew
    go_wp2
    have HF2:Hid (sv M1 half (K - half)+val (R.drop half)*val P<18446744073709551616 ^ (K - half)):=by
     refine aa ?_
     obtain⟨d,hd⟩:∃d,K=half+(d+1):=⟨K - half - 1,by omega⟩
     have s0:=ag M1 0 half (d+1) (by rw [HM1.out.2.2];omega)
     have s3:=HM1.out.2.1
     have s4:=bk R half (by omega)
     have s6:K - half=d+1:=by omega
     have s7:=HFIT.out
     have s8:R.length+P.length=half+d:=by omega
     rw [hd] at s3
     rw [s8,Nat.pow_add] at s7
     rw [Nat.zero_add] at s0
     rw [HE1.out] at s3
     rw [s4,Nat.add_mul,Nat.mul_assoc] at s7
     rw [s0] at s3
     rw [s6,Nat.pow_succ]
     generalize val (R.take half)*val P=a at *
     generalize val (R.drop half)*val P=b at *
     generalize sv M1 0 half=x at *
     generalize sv M1 half (d+1)=y at *
     have hWp:=W_pos half
     generalize (18446744073709551616:Nat) ^ half=W at *
     generalize (18446744073709551616:Nat) ^ d=V at *
     have t1:W*(y+b)<W*V:=by rw [Nat.mul_add];omega
     have t2:=Nat.lt_of_mul_lt_mul_left t1
     omega
    have HPP:=aa (fun (w4:World) (v2:Value) (rs2:List Nat) (An2:Ans w4 w3.drew.heap.size v2 rs2) (t2:tr rs2=rs2) (e2:val rs2=val (R.drop half)*val P) (hb4:Below w3.drew.heap.size w3.drew w4)=>
     show Calls Tryz.prog 103 #[.slice (some ⟨w.heap.size,half,none⟩) (K - half) (K - half),v2] w4 (au w.heap.size half (K - half) M1 w4 (sv M1 half (K - half)+val rs2)) by
      have r2:=aG rs2 (R.length - half+P.length) (by rw [e2];rw [ld1] at f2;exact f2)
      rw [t2] at r2
      have hlt4:w.heap.size<w3.drew.heap.size:=HBK.out.lt
      exact dG w.heap.size half (K - half) (K - half) M1 v2 rs2 w4 (HBK.out.below (cm hb4) HBK.out.lt) HM1.out.1 (An2.arg (by omega)) (fun _ b off n c e=>by subst e;exact .inl (fun h=>by have:=(An2.own.lt b rfl).1;omega)) (by rw [HM1.out.2.2];omega) (Nat.le_refl _) (by omega) (by omega) (by rw [e2];exact HF2.out))
    go_region_held3 (fun _=>True) (trivial) (first
     | (go_at_call 97;refine IH2.mono ?_;rintro e w4 ⟨⟨v2,rs2,rfl,An2,e2,t2⟩,hb4⟩)
     | (go_at_call 103;refine (HPP.out _ _ _ An2 t2 e2 hb4).mono ?_;rintro e w5 ⟨rfl,M2,O5,L5,B5,F5,S5⟩))
    have l5:M2.length=K:=by rw [O5.len,HM1.out.2.2]
    have HTR:=dk (some ⟨w.heap.size,0,none⟩) K M2 w5 (by omega) (by omega) (.inr ⟨_,0,rfl,fun j hj=>by rw [Nat.zero_add];exact B5.cell j hj⟩)
    rw [l5] at HTR
    have HVAL:Hid (val M2=val R*val P):=by
     refine aa ?_
     obtain⟨d,hd⟩:∃d,K=half+d:=⟨K - half,by omega⟩
     have s0:=ag M1 0 half d (by rw [HM1.out.2.2];omega)
     have s1:=ag M2 0 half d (by omega)
     have s2:=O5.sv 0 half (by omega)
     have s3:=HM1.out.2.1
     have s4:=bk R half (by omega)
     have s5:sv M2 0 (half+d)=val M2:=by rw [←hd,←l5,aR]
     have s6:K - half=d:=by omega
     rw [s6] at S5
     rw [hd] at s3
     rw [Nat.zero_add] at s0 s1
     rw [HE1.out] at s3
     rw [e2] at S5
     rw [s4,Nat.add_mul,Nat.mul_assoc]
     rw [←s5,s1,s2,S5,Nat.mul_add]
     rw [s0] at s3
     omega
    have HEND:Hid (aP w (val R*val P) (.returned (.slice (some ⟨w.heap.size,0,none⟩) (tr M2).length K)) w5):=by
     have hb5:Below w.heap.size w w4:=HB3.out.trans ((cm hb4).mono HB3.out.size)
     have AM:=(Ans.of_blk (base:=w.heap.size) (zs:=M2) (Nat.le_refl _) B5 List.take_length.symm (Nat.le_refl _) (by omega) L5).trim
     rw [l5] at AM
     exact⟨⟨_,tr M2,rfl,AM,by rw [val_tr];exact HVAL.out,tr_tr _⟩,hb5.trans (F5.below (Nat.le_refl _) hb5.size)⟩
    clear An2 t2 e2 hb4 O5 L5 B5 F5 S5 HVAL HPP IH2 hcp
    go_wp2_with fail
    refine HTR.mono ?_
    rintro e w6 ⟨rfl,hw⟩;subst hw
    clear HTR
    go_wp2
    go_ret
    exact HEND.out
  ·have hsw2:¬((P.length:Int)<(R.length:Int)):=by omega
   have AL:=A1
   have AS:=A2
   have mL:=m1
   have mS:=m2
   have hfit:=bs P R mL mS
   by_cases hsm:P.length+R.length≤1048576
   ·have HM:=dV _ _ P R w AL AS hT (by omega)
    have hbl:blen (val P*val R)≤67108864:=by
     have:blen (val P*val R)≤64*(P.length+R.length):=(blen_le_iff _ _).2 (by rw [Nat.pow_mul];exact hfit)
     omega
    have hsm2:(P.length:Int)+(R.length:Int)≤1048576:=by omega
    clear AL AS hT hfit
    go_enter Tryz.func97,Tryz.ntmps97
    go_wp2_with fail
    refine T1.mono ?_
    rintro e wn ⟨rfl,hw⟩;rw [hw];clear hw wn
    go_wp2_with fail
    refine T2.mono ?_
    rintro e wn ⟨rfl,hw⟩;rw [hw];clear hw wn
    clear T1 T2
    go_wp2_with fail
    refine HM.mono ?_
    rintro e w2 ⟨hb,v,c,rs,rfl,hans,hres⟩
    have HX:Hid (aP w (val P*val R) (.returned v) w2):=by
     rcases hres with ⟨_,hv,ht,_⟩|⟨_,_,hbig⟩
     ·exact⟨⟨v,rs,rfl,hans,hv,ht⟩,hb⟩
     ·omega
    clear hb hans hres HM
    go_wp2
    go_ret
    exact HX.out
   ·obtain⟨half,eh,hh1,hh2⟩:∃half:Nat,(P.length:Int) / 2=(half:Int)∧2*half≤P.length∧P.length≤2*half+1:=⟨P.length / 2,by omega,by omega,by omega⟩
    have hord:R.length≤P.length:=by omega
    obtain⟨K0,eK,hK01,hK02⟩:∃K:Nat,(P.length:Int)+(R.length:Int)=(K:Int)∧K≤P.length+R.length∧P.length+R.length≤K:=⟨_,rfl,Nat.le_refl _,Nat.le_refl _⟩
    have hsm2:¬((K0:Int)≤1048576):=by omega
    obtain⟨K,eK1,hK1,hK2⟩:∃K:Nat,(K0:Int)+1=(K:Int)∧K≤P.length+R.length+1∧P.length+R.length+1≤K:=⟨K0+1,by omega,by omega,by omega⟩
    have hKb:K≤35184372088831:=by omega
    have HFIT:=aa hfit
    have HT:=aa hT
    have HAL:=aa AL
    have HAS:=aa AS
    have HMS:=aa (And.intro mL mS)
    obtain⟨bL,oL,rfl⟩:∃b off,a1=some ⟨b,off,none⟩:=by
     obtain⟨_,_,e,_,_,hl⟩:=AL.form
     cases e
     rcases hl with h0|⟨b,off,e,_⟩
     ·have hz:P.length=0:=by rw [h0];rfl
      omega
     ·exact⟨b,off,e⟩
    obtain⟨i0,hi,hz0,hz1,hz2⟩:=info_parts Tryz.infoU
    clear AL AS hT hfit A1 A2 mL mS m1 m2
    go_enter Tryz.func97,Tryz.ntmps97
    go_wp2_with fail
    refine T1.mono ?_
    rintro e wn ⟨rfl,hw⟩;rw [hw];clear hw wn
    go_wp2_with fail
    refine T2.mono ?_
    rintro e wn ⟨rfl,hw⟩;rw [hw];clear hw wn
    clear T1 T2
    go_wp2_with (at_make;refine wpList_make_full _ rfl _ _ 25 rfl w.heap.size 60 i0 (.int .u64 0) 1 Tryz.underlying25 hi hz0 hz1 .i64 .i64 _ _ K rfl rfl (by omega) (by omega) (by rw [hz2];omega) (by unfold maxLen;omega) (Nat.le_refl _) ?_;intro w1 hown hgrow)
    have hb1:=Blk.made hown
    have hbel:Below w.heap.size w w1:=(Below.refl _ _).grown hgrow (Nat.le_refl _) (fun k hk=>by cases hk)
    have HB1:=aa hb1
    have HBE:=aa hbel
    clear hown hgrow hi hz0 hz1 hz2 hb1 hbel
    have lt1:(P.take half).length=half:=by simp;omega
    have ld1:(P.drop half).length=P.length - half:=by simp
    have IH1:=ih (P.take half) R _ _ w1 (by omega) (by omega) ((HAL.out.below HBE.out).front half (by omega)) (HAS.out.below HBE.out) (HT.out.below HBE.out)
    go_wp2_with fail
    refine IH1.mono ?_
    rintro e w2 ⟨⟨v1,rs1,rfl,An1,e1,t1⟩,hb2⟩
    have mT:=(HAL.out.front half (by omega)).limbs
    have mD:=(HAL.out.drop half (by omega)).limbs
    have f1:=bs (P.take half) R mT HMS.out.2
    have f2:=bs (P.drop half) R mD HMS.out.2
    have r1:=aG rs1 (half+R.length) (by rw [e1];rw [lt1] at f1;exact f1)
    rw [t1] at r1
    have A1':=An1.arg (by omega)
    obtain⟨ao,co,rfl,_,_,hlo⟩:=A1'.form
    have B2:=HB1.out.below hb2 HB1.out.lt
    obtain⟨w3,M1,hcp,B3,L3,F3,O3,S3⟩:=aZ w.heap.size 0 K K (List.replicate K 0) ao co rs1 w2 B2 (limbs_replicate _) An1.limbs (aV K 0 K) (by simp) (by omega) hlo
    have HB3:Hid (Below w.heap.size w w3):=(HBE.out.trans (hb2.mono HBE.out.size)).trans (F3.below (Nat.le_refl _) (by have:=HBE.out.size;have:=hb2.size;omega))
    have IH2:=ih (P.drop half) R _ _ w3.drew (by omega) (by omega) ((HAL.out.below HB3.out).drop half (by omega)).drew (HAS.out.below HB3.out).drew (HT.out.below HB3.out.drew)
    have hch:¬K=half:=by omega
    have hcl:¬c1=half:=by omega
    have lM:M1.length=K:=by rw [O3.len];simp
    have HM1:=aa (And.intro L3 (And.intro S3 lM))
    have HE1:=aa e1
    have HBK:=aa B3
    have k1:(0:Int)≤(half:Int):=by omega
    have k2:(half:Int)≤(K:Int):=by omega
    have k3:(half:Int)≤(P.length:Int):=by omega
    have k4:(half:Int)≤(c1:Int):=by omega
    clear IH1 An1 hb2 A1' hlo B2 B3 L3 F3 O3 S3 lM e1 t1 mT mD f1 hN hfew
    go_wp2
    have HF2:Hid (sv M1 half (K - half)+val (P.drop half)*val R<18446744073709551616 ^ (K - half)):=by
     refine aa ?_
     obtain⟨d,hd⟩:∃d,K=half+(d+1):=⟨K - half - 1,by omega⟩
     have s0:=ag M1 0 half (d+1) (by rw [HM1.out.2.2];omega)
     have s3:=HM1.out.2.1
     have s4:=bk P half (by omega)
     have s6:K - half=d+1:=by omega
     have s7:=HFIT.out
     have s8:P.length+R.length=half+d:=by omega
     rw [hd] at s3
     rw [s8,Nat.pow_add] at s7
     rw [Nat.zero_add] at s0
     rw [HE1.out] at s3
     rw [s4,Nat.add_mul,Nat.mul_assoc] at s7
     rw [s0] at s3
     rw [s6,Nat.pow_succ]
     generalize val (P.take half)*val R=a at *
     generalize val (P.drop half)*val R=b at *
     generalize sv M1 0 half=x at *
     generalize sv M1 half (d+1)=y at *
     have hWp:=W_pos half
     generalize (18446744073709551616:Nat) ^ half=W at *
     generalize (18446744073709551616:Nat) ^ d=V at *
     have t1:W*(y+b)<W*V:=by rw [Nat.mul_add];omega
     have t2:=Nat.lt_of_mul_lt_mul_left t1
     omega
    have HPP:=aa (fun (w4:World) (v2:Value) (rs2:List Nat) (An2:Ans w4 w3.drew.heap.size v2 rs2) (t2:tr rs2=rs2) (e2:val rs2=val (P.drop half)*val R) (hb4:Below w3.drew.heap.size w3.drew w4)=>
     show Calls Tryz.prog 103 #[.slice (some ⟨w.heap.size,half,none⟩) (K - half) (K - half),v2] w4 (au w.heap.size half (K - half) M1 w4 (sv M1 half (K - half)+val rs2)) by
      have r2:=aG rs2 (P.length - half+R.length) (by rw [e2];rw [ld1] at f2;exact f2)
      rw [t2] at r2
      have hlt4:w.heap.size<w3.drew.heap.size:=HBK.out.lt
      exact dG w.heap.size half (K - half) (K - half) M1 v2 rs2 w4 (HBK.out.below (cm hb4) HBK.out.lt) HM1.out.1 (An2.arg (by omega)) (fun _ b off n c e=>by subst e;exact .inl (fun h=>by have:=(An2.own.lt b rfl).1;omega)) (by rw [HM1.out.2.2];omega) (Nat.le_refl _) (by omega) (by omega) (by rw [e2];exact HF2.out))
    go_region_held3 (fun _=>True) (trivial) (first
     | (go_at_call 97;refine IH2.mono ?_;rintro e w4 ⟨⟨v2,rs2,rfl,An2,e2,t2⟩,hb4⟩)
     | (go_at_call 103;refine (HPP.out _ _ _ An2 t2 e2 hb4).mono ?_;rintro e w5 ⟨rfl,M2,O5,L5,B5,F5,S5⟩))
    have l5:M2.length=K:=by rw [O5.len,HM1.out.2.2]
    have HTR:=dk (some ⟨w.heap.size,0,none⟩) K M2 w5 (by omega) (by omega) (.inr ⟨_,0,rfl,fun j hj=>by rw [Nat.zero_add];exact B5.cell j hj⟩)
    rw [l5] at HTR
    have HVAL:Hid (val M2=val P*val R):=by
     refine aa ?_
     obtain⟨d,hd⟩:∃d,K=half+d:=⟨K - half,by omega⟩
     have s0:=ag M1 0 half d (by rw [HM1.out.2.2];omega)
     have s1:=ag M2 0 half d (by omega)
     have s2:=O5.sv 0 half (by omega)
     have s3:=HM1.out.2.1
     have s4:=bk P half (by omega)
     have s5:sv M2 0 (half+d)=val M2:=by rw [←hd,←l5,aR]
     have s6:K - half=d:=by omega
     rw [s6] at S5
     rw [hd] at s3
     rw [Nat.zero_add] at s0 s1
     rw [HE1.out] at s3
     rw [e2] at S5
     rw [s4,Nat.add_mul,Nat.mul_assoc]
     rw [←s5,s1,s2,S5,Nat.mul_add]
     rw [s0] at s3
     omega
    have HEND:Hid (aP w (val P*val R) (.returned (.slice (some ⟨w.heap.size,0,none⟩) (tr M2).length K)) w5):=by
     have hb5:Below w.heap.size w w4:=HB3.out.trans ((cm hb4).mono HB3.out.size)
     have AM:=(Ans.of_blk (base:=w.heap.size) (zs:=M2) (Nat.le_refl _) B5 List.take_length.symm (Nat.le_refl _) (by omega) L5).trim
     rw [l5] at AM
     exact⟨⟨_,tr M2,rfl,AM,by rw [val_tr];exact HVAL.out,tr_tr _⟩,hb5.trans (F5.below (Nat.le_refl _) hb5.size)⟩
    clear An2 t2 e2 hb4 O5 L5 B5 F5 S5 HVAL HPP IH2 hcp
    go_wp2_with fail
    refine HTR.mono ?_
    rintro e w6 ⟨rfl,hw⟩;subst hw
    clear HTR
    go_wp2
    go_ret
    exact HEND.out

theorem mK {M:List Nat}{s u V:Nat}(hM:s+u≤M.length)(h:sv M 0 (s+u)=V)(hV:V<18446744073709551616 ^ s):sv M s u=0∧sv M 0 s=V:=by
 rw [ag M 0 s u (by omega),Nat.zero_add] at h
 have h0:sv M s u=0:=by
  rcases Nat.eq_zero_or_pos (sv M s u) with h1|h1
  ·exact h1
  ·have:=Nat.mul_le_mul_left (18446744073709551616 ^ s) h1
   omega
 rw [h0,Nat.mul_zero,Nat.add_zero] at h
 exact⟨h0,h⟩

theorem mV {M M' U:List Nat}{s o V:Nat}(hl:M'.length=s+U.length)(h0:sv M 0 s=V)(hO:Out M M' o (o+U.length))(hv:sv M' o U.length=val U)(ho:o=s∨(U.length=0∧o=0)):val M'=V+18446744073709551616 ^ s*val U:=by
 rw [←aR M',hl,ag M' 0 s U.length (by omega),Nat.zero_add]
 rcases ho with rfl|⟨hu,rfl⟩
 ·rw [hv,hO.sv 0 o (by omega),h0]
 ·have hU:U=[]:=List.eq_nil_of_length_eq_zero hu
  rw [hU] at hO ⊢
  rw [hO.sv 0 s (by simp),h0]
  simp [sv,seg,val]

theorem gd (va vb:Value)(X Y:List Nat)(n:Nat)(w:World)(hA:Arg w va X)(hB:Arg w vb Y)(hx:X.length≤17592186044416)(hn:n≤17592186044416)(hy:Y.length≤n) :
  Calls Tryz.prog 94 #[va,.int .i64 n,vb] w (aP w (val Y+18446744073709551616 ^ n*val X)):=by
 obtain⟨a5,c5,rfl,_,_,_⟩:=hA.form
 obtain⟨a6,c6,rfl,_,_,_⟩:=hB.form
 obtain⟨i0,hi,hz0,hz1,hz2⟩:=info_parts Tryz.infoU
 obtain⟨N,hN,hNi⟩:∃N,N=n+X.length∧(n:Int)+(X.length:Int)=(N:Int):=⟨_,rfl,by omega⟩
 have hNs:N - n=X.length:=by omega
 obtain⟨o5,hif5,ho5⟩:∃o5,(∀g:Nat,(if N=n then some (⟨g,0,none⟩:Addr) else some ⟨g,n,none⟩)=some ⟨g,o5,none⟩)∧((o5=n∨(X.length=0∧o5=0))∧o5+X.length≤N):=by
  by_cases h:N=n
  ·exact⟨0,fun g=>by rw [if_pos h],.inr ⟨by omega,rfl⟩,by omega⟩
  ·exact⟨n,fun g=>by rw [if_neg h],.inl rfl,by omega⟩
 have HA:=aa hA
 have HBa:=aa hB
 have HNN:=aa hN
 have HO5:=aa ho5
 have hsN:n≤N:=by omega
 have hyN:Y.length≤N:=by omega
 have hNb:N≤35184372088832:=by omega
 have hyv:val Y<18446744073709551616 ^ n:=Nat.lt_of_lt_of_le (val_lt hB.limbs) (Nat.pow_le_pow_right (by omega) hy)
 have HYV:=aa hyv
 clear hA hB hN ho5 hyv
 go_enter Tryz.func94,Tryz.ntmps94
 go_wp2_with (at_make;refine wpList_make_full _ rfl _ _ 25 rfl w.heap.size 60 i0 (.int .u64 0) 1 Tryz.underlying25 hi hz0 hz1 .i64 .i64 _ _ N rfl rfl (by omega) (by omega) (by rw [hz2];omega) (by unfold maxLen;omega) (Nat.le_refl _) ?_;intro w3 hown hgrow;have hbel3:Below w.heap.size w w3:=(Below.refl w.heap.size w).grown hgrow (Nat.le_refl _) (fun k hk=>by cases hk);obtain⟨w4,M4,hcp,B4,L4,F4,O4,S4⟩:=aZ w.heap.size 0 N N (List.replicate N 0) a6 c6 Y w3 (Blk.made hown) (limbs_replicate _) HBa.out.limbs (aV N 0 N) (by simp) (by omega) (HBa.out.below hbel3).wlies;have hbel4:Below w.heap.size w w4:=hbel3.trans (F4.below (Nat.le_refl _) hbel3.size);have hM4l:M4.length=N:=by rw [O4.len,List.length_replicate])
 obtain⟨z0,z1⟩:=mK (M:=M4) (s:=n) (u:=X.length) (by have:=HNN.out;omega) (by rw [←HNN.out];exact S4) HYV.out
 have hz5:sv M4 o5 X.length=0:=by
  rcases HO5.out.1 with h|⟨h,_⟩
  ·rw [h];exact z0
  ·rw [h];exact aH _ _
 obtain⟨w5,M5,hcp2,B5,L5,F5,O5,S5⟩:=aZ w.heap.size o5 X.length X.length M4 a5 c5 X w4 B4 L4 HA.out.limbs hz5 (by rw [hM4l];exact HO5.out.2) (Nat.le_refl _) (HA.out.below hbel4).wlies
 have hbel5:Below w.heap.size w w5:=hbel4.trans (F5.below (Nat.le_refl _) hbel4.size)
 have hM5l:M5.length=n+X.length:=by rw [O5.len,hM4l];exact HNN.out
 have hval:=mV hM5l z1 O5 S5 HO5.out.1
 have HR:=aP.trimmed (w:=w) (x:=val Y+18446744073709551616 ^ n*val X) (Nat.le_refl _) B5 L5 (by omega) hval hbel5
 rw [hM5l,←HNN.out] at HR
 clear hown hgrow hbel3 hbel4 hbel5 B4 L4 F4 O4 S4 B5 L5 F5 O5 S5 hval hz5 z0 z1 hM5l hi hz0 hz1 hz2
 go_wp2
 rw [hcp2]
 go_wp2_with fail
 refine HR.mono ?_
 rintro e w6 ⟨rfl,rfl,hd⟩
 have HD:=aa hd
 go_wp2
 go_returns
 exact HD.out
end Go.Proofs.YtcbpdngogkbndaaGreatDoor
namespace Go.Proofs.YtcbpdngogkbndaaGreatDoor
namespace Lm

theorem block_first {U V Uh Ul Vh Vl B q R H:Nat}(eU:U=Uh*B+Ul)(hUl:Ul<B)(eV:V=Vh*B+Vl)(hV:0<V)(e:q*Vh+R=Uh)(hc:R<Vh∨q=H - 1)(hUV:U<V*H):U / V≤q:=by
 have h1:=Nat.div_mul_le_self U V
 generalize hQ:U / V=Q at *
 rcases hc with hc|hc
 ·have h2:Q*Vh≤Uh:=by
   have h3:Q*Vh*B<(Uh+1)*B:=by
    have:Q*V=Q*Vh*B+Q*Vl:=by rw [eV,Nat.mul_add,Nat.mul_assoc]
    rw [Nat.add_mul,Nat.one_mul]
    omega
   have:=Nat.lt_of_mul_lt_mul_right h3
   omega
  refine Nat.le_of_not_lt fun h=>?_
  have h4:=Nat.mul_le_mul_right Vh (Nat.succ_le_of_lt h)
  rw [Nat.succ_eq_add_one,Nat.add_mul,Nat.one_mul] at h4
  omega
 ·have h2:Q<H:=by
   rw [←hQ,Nat.div_lt_iff_lt_mul hV,Nat.mul_comm];exact hUV
  omega

theorem block_turn {U V q X M:Nat}(hV:0<V)(h:X+q*V=U+1*M)(hX:X<M):U / V<q:=by
 rw [Nat.div_lt_iff_lt_mul hV]
 omega

theorem block_next {U V q X X' M c:Nat}(hq:1≤q)(h:X+q*V=U+1*M)(hp:X'+c*M=X+V)(hc:c≤1):X'+(q - 1)*V=U+(1 - c)*M:=by
 obtain⟨p,rfl⟩:∃p,q=p+1:=⟨q - 1,by omega⟩
 rw [Nat.add_mul,Nat.one_mul] at h
 rw [Nat.add_sub_cancel]
 rcases (by omega:c=0∨c=1) with rfl|rfl
 ·omega
 ·omega

theorem block_end {U V q X:Nat}(hV:0<V)(h:X+q*V=U+0*0)(hq:U / V≤q):q=U / V∧X=U % V:=by
 have h1:q≤U / V:=(Nat.le_div_iff_mul_le hV).2 (by omega)
 have h2:q=U / V:=by omega
 have h3:=Nat.div_add_mod U V
 rw [Nat.mul_comm,←h2] at h3
 exact⟨h2,by omega⟩

theorem block_take {U V Uh Ul Vh Vl B q R X M c:Nat}(eU:U=Uh*B+Ul)(eV:V=Vh*B+Vl)(e:q*Vh+R=Uh)(hm:X+q*Vl=R*B+Ul+c*M):X+q*V=U+c*M:=by
 have h1:q*V=q*Vh*B+q*Vl:=by rw [eV,Nat.mul_add,Nat.mul_assoc]
 rw [h1,eU,←e,Nat.add_mul]
 omega

end Lm
end Go.Proofs.YtcbpdngogkbndaaGreatDoor
namespace Go.Proofs.YtcbpdngogkbndaaGreatDoor
open Go.RowKit
open Lm

theorem aU.block {bq qo m bu uo n VV:Nat}{Q U:List Nat}{w wr w2:World}{k d:Nat}{Q' U' Q2 U2:List Nat}(h:aU bq qo m bu uo n VV Q U w wr (k+d) Q' U')(g:aU bq (qo+k) d bu (uo+k) n VV Q' U' wr w2 0 Q2 U2)
  (hk:k+d≤m) (hq:qo+m≤Q.length) (hu:uo+(m+n)≤U.length):aU bq qo m bu uo n VV Q U w w2 k Q2 U2:=by
 have hlQ:=h.outQ.len
 have hlU:=h.outU.len
 have hlQ2:=g.outQ.len
 have hlU2:=g.outU.len
 obtain⟨r,rfl⟩:∃r,m=k+d+r:=⟨m - (k+d),by omega⟩
 have e1:=h.eq
 have e2:=g.eq
 have t1:=h.top
 have t2:=g.top
 have l2:=g.lt
 rw [show k+d+r - (k+d)=r by omega] at e1 t1
 rw [Nat.sub_zero] at e2 t2
 rw [Nat.add_zero,Nat.add_zero] at e2
 rw [Nat.add_zero] at t2 l2
 have p1:=g.outQ
 have p2:=g.outU
 rw [Nat.add_zero] at p1 p2
 refine⟨?_,g.limQ,g.blkQ,?_,g.limU,g.blkU,h.fr.trans g.fr,?_,l2,?_⟩
 ·exact (h.outQ.wider (by omega) (Nat.le_refl _)).trans (p1.wider (Nat.le_refl _) (by omega))
 ·exact (h.outU.wider (by omega) (Nat.le_refl _)).trans (p2.wider (Nat.le_refl _) (by omega))
 ·rw [show k+d+r - k=d+r by omega,ag Q2 (qo+k) d r (by omega),p1.sv (qo+k+d) r (by omega)]
  rw [show n+(d+r)=d+(n+r) by omega,ag U (uo+k) d (n+r) (by omega),←h.outU.sv (uo+k) d (by omega)]
  rw [show qo+(k+d)=qo+k+d by omega,show uo+(k+d)=uo+k+d by omega] at e1
  rw [←e1]
  rw [show n+d=d+n by omega,ag U' (uo+k) d n (by omega)] at e2
  generalize sv Q2 (qo+k) d=a at *
  generalize sv U2 (uo+k) n=b at *
  generalize sv U' (uo+k) d=c at *
  generalize sv U' (uo+k+d) n=f at *
  generalize sv Q' (qo+k+d) r=x at *
  generalize (18446744073709551616:Nat) ^ d=W at *
  rw [Nat.add_mul,Nat.mul_add,Nat.mul_assoc]
  omega
 ·rw [show k+d+r - k=d+r by omega,ag U2 (uo+k+n) d r (by omega),t2,p2.sv (uo+k+n+d) r (by omega),show uo+k+n+d=uo+(k+d)+n by omega,t1,Nat.mul_zero]

theorem Tab.fr2 {w w':World}{b1 b2:Nat}(h:Tab w)(hf:Fr2 b1 b2 w w')(h1:0≠b1)(h2:0≠b2):Tab w':=
 ⟨Nat.lt_of_lt_of_le h.1 hf.size,fun i hi=>by rw [World.cell?_of_block (w:=w) (hf.block _ h.1 h1 h2)];exact h.2 i hi⟩

theorem fT:∀(a b:List Nat),a.length=b.length→Limbs a→Limbs b→val a=val b→a=b
 | [],[],_,_,_,_=>rfl
 | [],_ :: _,h,_,_,_=>by simp at h
 | _ :: _,[],h,_,_,_=>by simp at h
 | x :: a,y :: b,h,ha,hb,e=>by
  have h1:=ha x (by simp)
  have h2:=hb y (by simp)
  simp only [val] at e
  have h3:x=y:=by omega
  have h4:val a=val b:=by omega
  rw [h3,fT a b (by simpa using h) (fun z hz=>ha z (by simp [hz])) (fun z hz=>hb z (by simp [hz])) h4]

def rd (w:World)(b:Nat):List Nat:=match w.heap[b]? with
 | some (.cells a _ _)=>a.toList.map fun v=>(intOf v).toNat
 | _=>[]

theorem gM {w:World}{b:Nat}{Q:List Nat}(h:Blk w b Q):rd w b=Q:=by
 unfold Blk at h
 unfold rd
 rw [h]
 simp only [List.map_map]
 have:((fun v=>(intOf v).toNat) ∘ lv)=id:=by
  funext z
  simp [lv,intOf]
 rw [this]
 simp

def cY (bq qo bu uo m VV:Nat)(Q U:List Nat)(w:World)(e:Ending)(w':World):Prop:=
 e=.returned (.tuple #[])∧∃Q' U':List Nat,Out Q Q' qo (qo+m)∧Limbs Q'∧Blk w' bq Q'∧Out U U' uo (uo+(m+m))∧Limbs U'∧Blk w' bu U'∧Fr2 bq bu w w' ∧
  sv Q' qo m*VV+sv U' uo (m+m)=sv U uo (m+m)∧(sv U' uo (m+m)<VV∨sv Q' qo m=18446744073709551616 ^ m - 1)

theorem cB.guess {bq qo bu uo m VV:Nat}{Q U:List Nat}{w w':World}{e:Ending}(h:cB bq qo m bu uo m VV Q U w e w')(hu:uo+(m+m)≤U.length):cY bq qo bu uo m VV Q U w e w':=by
 obtain⟨he,Q',U',h⟩:=h
 have e1:=h.eq
 have e2:=h.top
 have e3:=h.lt
 have o1:=h.outQ
 have o2:=h.outU
 simp only [Nat.add_zero,Nat.sub_zero] at e1 e2 e3 o1 o2
 have e4:=ag U' uo m m (by rw [o2.len];omega)
 rw [e2,Nat.mul_zero,Nat.add_zero] at e4
 exact⟨he,Q',U',o1,h.limQ,h.blkQ,o2,h.limU,h.blkU,h.fr,by rw [e4];exact e1,.inl (by rw [e4];exact e3)⟩

theorem cY.same {bq qo bu uo m VV:Nat}{Q U:List Nat}{w wn w':World}{e:Ending}(h:cY bq qo bu uo m VV Q U wn e w')(hs:ai w wn):cY bq qo bu uo m VV Q U w e w':=by
 obtain⟨he,Q',U',h1,h2,h3,h4,h5,h6,h7,h8⟩:=h
 exact⟨he,Q',U',h1,h2,h3,h4,h5,h6,(Fr.left2 (Fr.same (bz:=bq) hs)).trans h7,h8⟩

def dU (V:List Nat):Prop:=
 ∀(bq qo m qcap bu uo ucap bv ov vcap:Nat) (Q U:List Nat) (w:World),Blk w bq Q→Limbs Q→Blk w bu U→Limbs U→Arg w (.slice (some ⟨bv,ov,none⟩) V.length vcap) V→Tab w→0≠bq→0≠bu →
  bq≠bu→bv≠bq→bv≠bu→qo+m≤Q.length→m≤qcap→qcap≤9223372036854775807→uo+(m+V.length)≤U.length→m+V.length≤ucap→ucap≤9223372036854775807→m+V.length≤35184372088831→sv U (uo+m) V.length<val V →
  Calls Tryz.prog 114 #[.slice (some ⟨bq,qo,none⟩) m qcap,.slice (some ⟨bu,uo,none⟩) (m+V.length) ucap,.slice (some ⟨bv,ov,none⟩) V.length vcap] w (cB bq qo m bu uo V.length (val V) Q U w)

theorem kN {Q' U':List Nat}{qo uo m VV lo hi X cy:Nat}(hQ:sv Q' qo m+1=18446744073709551616 ^ m)(hlo:lo<18446744073709551616 ^ m)(hV:VV<18446744073709551616 ^ m)(hX:X=lo+18446744073709551616 ^ m*hi)(he:hi=VV)(hm:1≤m)
  (hp:sv U' uo (m+m)+cy*18446744073709551616 ^ (m+m)=lo+VV):sv Q' qo m*VV+sv U' uo (m+m)=X:=by
 subst he
 rw [hX,←hQ]
 rw [Nat.pow_add] at hp
 have h2:2≤18446744073709551616 ^ m:=by
  have:=Nat.pow_le_pow_right (n:=18446744073709551616) (by omega) hm
  omega
 rw [←hQ] at hlo hV hp h2
 generalize sv Q' qo m=a at *
 generalize sv U' uo (m+m)=u at *
 have h3:cy=0:=by
  rcases Nat.eq_zero_or_pos cy with h|h
  ·exact h
  ·have h4:1*((a+1)*(a+1))≤cy*((a+1)*(a+1)):=Nat.mul_le_mul_right _ h
   have h5:2*(a+1)≤(a+1)*(a+1):=Nat.mul_le_mul_right _ h2
   omega
 subst h3
 rw [Nat.add_mul,Nat.one_mul]
 omega

structure bG (bq qo m bu uo n VV q0:Nat)(Q U:List Nat)(w wr:World)(un:Nat)(Q' U':List Nat):Prop where
 outQ:Out Q Q' qo (qo+m)
 limQ:Limbs Q'
 blkQ:Blk wr bq Q'
 outU:Out U U' uo (uo+(m+n))
 limU:Limbs U'
 blkU:Blk wr bu U'
 fr:Fr2 bq bu w wr
 eq:sv U' uo (m+n)+sv Q' qo m*VV=sv U uo (m+n)+un*18446744073709551616 ^ (m+n)
 ge:sv U uo (m+n) / VV≤sv Q' qo m

theorem bG.done {bq qo m bu uo n VV q0:Nat}{Q U:List Nat}{w wr:World}{Q' U':List Nat}(h:bG bq qo m bu uo n VV q0 Q U w wr 0 Q' U')(hV:0<VV)(hVn:VV≤18446744073709551616 ^ n)(hu:uo+(m+n)≤U.length) :
  cB bq qo m bu uo n VV Q U w (.returned (.tuple #[])) wr:=by
 have e1:=h.eq
 obtain⟨e2,e3⟩:=block_end hV (by simpa using e1) h.ge
 have e4:sv U' uo (m+n)<VV:=by rw [e3];exact Nat.mod_lt _ hV
 have e5:=ag U' uo n m (by rw [h.outU.len];omega)
 have e6:sv U' (uo+n) m=0:=by
  rcases Nat.eq_zero_or_pos (sv U' (uo+n) m) with h0|h0
  ·exact h0
  ·have:=Nat.mul_le_mul_left (18446744073709551616 ^ n) h0
   rw [Nat.add_comm n m] at e5
   omega
 rw [e6,Nat.mul_zero,Nat.add_zero,Nat.add_comm n m] at e5
 refine⟨rfl,Q',U',?_,h.limQ,h.blkQ,?_,h.limU,h.blkU,h.fr,?_,?_,?_⟩
 ·rw [Nat.add_zero];exact h.outQ
 ·rw [Nat.add_zero];exact h.outU
 ·rw [Nat.add_zero,Nat.add_zero,Nat.sub_zero,←e5,Nat.add_comm n m,Nat.add_comm];simpa using e1
 ·rw [Nat.add_zero,←e5];exact e4
 ·rw [Nat.add_zero,Nat.sub_zero];exact e6

theorem bG.next {bq qo m bu uo n VV q0:Nat}{Q U:List Nat}{w wr w2:World}{Q' U' Q2 U2:List Nat}{c b1:Nat}(h:bG bq qo m bu uo n VV q0 Q U w wr 1 Q' U')(hV:0<VV)
  (o1:Out Q' Q2 qo (qo+m)) (l1:Limbs Q2) (k1:Blk w2 bq Q2) (m1:sv Q2 qo m+1=sv Q' qo m+b1*18446744073709551616 ^ m) (hb:b1≤1)
  (o2:Out U' U2 uo (uo+(m+n))) (l2:Limbs U2) (k2:Blk w2 bu U2) (m2:sv U2 uo (m+n)+c*18446744073709551616 ^ (m+n)=sv U' uo (m+n)+VV) (hc:c≤1) (hf:Fr2 bq bu wr w2) :
  bG bq qo m bu uo n VV q0 Q U w w2 (1 - c) Q2 U2∧sv Q2 qo m<sv Q' qo m:=by
 have hX:=bj h.limU uo (m+n)
 have t:=block_turn hV h.eq hX
 have hq1:1≤sv Q' qo m:=Nat.lt_of_le_of_lt (Nat.zero_le _) t
 have hX2:=bj l1 qo m
 have hX3:=bj h.limQ qo m
 have hq2:sv Q2 qo m=sv Q' qo m - 1:=by
  rcases (by omega:b1=0∨b1=1) with rfl|rfl
  ·omega
  ·omega
 have e:=block_next hq1 h.eq m2 hc
 refine⟨⟨h.outQ.trans o1,l1,k1,h.outU.trans o2,l2,k2,h.fr.trans hf,by rw [hq2];exact e,by rw [hq2];exact Nat.le_sub_one_of_lt t⟩,by omega⟩

theorem bG.start {bq qo m bu uo n r VH VL:Nat}{Q U:List Nat}{w w2:World}{Q' U' U2:List Nat}{un:Nat}(hn:n=r+m)
  (o1:Out Q Q' qo (qo+m)) (l1:Limbs Q') (k1:Blk w2 bq Q') (o2:Out U U' (uo+r) (uo+r+(m+m))) (lU:Limbs U) (hu:uo+(m+n)≤U.length)
  (e1:sv Q' qo m*VH+sv U' (uo+r) (m+m)=sv U (uo+r) (m+m)) (hc:sv U' (uo+r) (m+m)<VH∨sv Q' qo m=18446744073709551616 ^ m - 1)
  (o3:Out U' U2 uo (uo+(m+n))) (l3:Limbs U2) (k3:Blk w2 bu U2) (e3:sv U2 uo (m+n)+sv Q' qo m*VL=sv U' uo (m+n)+un*18446744073709551616 ^ (m+n)) (hf:Fr2 bq bu w w2)
  (hV:0<VL+18446744073709551616 ^ r*VH) (hlt:sv U (uo+m) n<VL+18446744073709551616 ^ r*VH):bG bq qo m bu uo n (VL+18446744073709551616 ^ r*VH) 0 Q U w w2 un Q' U2:=by
 subst hn
 have s1:=ag U uo r (m+m) (by omega)
 have s2:=ag U' uo r (m+m) (by rw [o2.len];omega)
 rw [show r+(m+m)=m+(r+m) by omega] at s1 s2
 rw [o2.sv uo r (by omega)] at s2
 have s3:=ag U uo m (r+m) (by omega)
 have s4:=bj lU uo r
 have s5:=bj lU uo m
 rw [s2] at e3
 have eU:sv U uo (m+(r+m))=sv U (uo+r) (m+m)*18446744073709551616 ^ r+sv U uo r:=by rw [s1,Nat.mul_comm,Nat.add_comm]
 have eV:VL+18446744073709551616 ^ r*VH=VH*18446744073709551616 ^ r+VL:=by rw [Nat.mul_comm,Nat.add_comm]
 have hUV:sv U uo (m+(r+m))<(VL+18446744073709551616 ^ r*VH)*18446744073709551616 ^ m:=by
  rw [s3]
  have:=Nat.mul_le_mul_left (18446744073709551616 ^ m) (Nat.succ_le_of_lt hlt)
  rw [Nat.succ_eq_add_one,Nat.mul_add,Nat.mul_one,Nat.mul_comm _ (VL+18446744073709551616 ^ r*VH)] at this
  omega
 refine⟨o1,l1,k1,(o2.wider (by omega) (by omega)).trans o3,l3,k3,hf,?_,?_⟩
 ·exact block_take eU eV e1 (by rw [e3,Nat.mul_comm (sv U' (uo+r) (m+m))];omega)
 ·exact block_first eU s4 eV hV e1 hc hUV
end Go.Proofs.YtcbpdngogkbndaaGreatDoor
namespace Go.Proofs.YtcbpdngogkbndaaGreatDoor
open Go.RowKit
open Lm
attribute [local go_sem ↓] Go.wp_at_zero Go.wp_at_succ

theorem i7 (bq qo qcap bu uo ucap bv ov vcap m:Nat)(Q U V:List Nat)(w:World)(hok:dU V)
  (hQ:Blk w bq Q) (lQ:Limbs Q) (hU:Blk w bu U) (lU:Limbs U) (hV:Arg w (.slice (some ⟨bv,ov,none⟩) m vcap) V) (hT:Tab w) (t1:0≠bq) (t2:0≠bu) (lV:V.length=m) (hm:0<m)
  (n1:bq≠bu) (n2:bv≠bq) (n3:bv≠bu) (q1:qo+m≤Q.length) (q2:m≤qcap) (q3:qcap≤9223372036854775807) (u1:uo+(m+m)≤U.length) (u2:m+m≤ucap) (u3:ucap≤9223372036854775807)
  (few:m+m≤35184372088831) (hle:sv U (uo+m) m≤val V) :
  Calls Tryz.prog 127 #[.slice (some ⟨bq,qo,none⟩) m qcap,.slice (some ⟨bu,uo,none⟩) (m+m) ucap,.slice (some ⟨bv,ov,none⟩) m vcap] w (cY bq qo bu uo m (val V) Q U w):=by
 have HD:Hid (∀wn,ai w wn→sv U (uo+m) m<val V→Calls Tryz.prog 114 #[.slice (some ⟨bq,qo,none⟩) m qcap,.slice (some ⟨bu,uo,none⟩) (m+m) ucap,.slice (some ⟨bv,ov,none⟩) m vcap] wn (cB bq qo m bu uo m (val V) Q U wn)):=by
  intro wn hs h
  have H:=hok bq qo m qcap bu uo ucap bv ov vcap Q U wn (hQ.below (hs.below _) hQ.lt) lQ (hU.below (hs.below _) hU.lt) lU (by rw [lV];exact hV.below (hs.below _)) (hT.below (hs.below _)) t1 t2 n1 n2 n3 q1 q2 q3 (by rw [lV];exact u1) (by rw [lV];exact u2) u3 (by rw [lV];exact few) (by rw [lV];exact h)
  rw [lV] at H
  exact H
 obtain⟨_,_,e0,hvc,hvm,hlv⟩:=hV.form
 rw [lV] at e0 hvc
 cases e0
 have hcv:∀k,k<m→w.cell? ⟨bv,ov+k,none⟩=some (.int .u64 ((V.getD k 0:Nat):Int)):=by
  intro k hk
  rcases hlv with h0|⟨b,off,e,hc⟩
  ·rw [h0] at lV;simp at lV;omega
  ·cases e;exact hc k (by omega)
 have HVV:=aa (And.intro hV lV)
 have hcu:¬ucap=m:=by omega
 have y1:m+m - m=m:=by omega
 have HLE:=aa hle
 have HQ:=aa (And.intro hQ lQ)
 have HU:=aa (And.intro hU lU)
 clear hok hlv hV hT hle hQ lQ lU lV
 go_enter Tryz.func127,Tryz.ntmps127
 go_wp2
 go_loopw [15] (fun i wr=>∃k:Nat,k≤m∧i=.int .i64 k∧ai w wr∧∀i,i<k→U.getD (uo+m+i) 0=V.getD i 0) (fun i _=>m - (intOf i).toNat)
 case atStart=>exact⟨0,Nat.zero_le _,rfl,ai.refl _,fun i hi=>absurd hi (Nat.not_lt_zero _)⟩
 case round=>
  obtain⟨k,hk,rfl,hsame,hv⟩:=hrel
  have HEQ:=aa hv
  clear hv
  by_cases hkl:k<m
  ·have hck:wr.cell? ⟨bv,ov+k,none⟩=some (.int .u64 ((V.getD k 0:Nat):Int)):=by
    unfold World.cell?;rw [hsame.heap];exact hcv k hkl
   have hcu2:wr.cell? ⟨bu,uo+m+k,none⟩=some (.int .u64 ((U.getD (uo+m+k) 0:Nat):Int)):=(HU.out.1.below (hsame.below _) HU.out.1.lt).cell _ (by omega)
   clear hcv
   have hi1:(0:Int)≤(k:Int):=by omega
   have hi2:(k:Int)<(m:Int):=by omega
   by_cases hxy:U.getD (uo+m+k) 0=V.getD k 0
   ·have HN:Hid (∀i,i<k+1→U.getD (uo+m+i) 0=V.getD i 0):=aa (fun i hi=>by
     rcases (by omega:i<k∨i=k) with h|h
     ·exact HEQ.out i h
     ·subst h;exact hxy)
    rw [hxy] at hcu2
    generalize V.getD k 0=y at *
    clear hxy HEQ
    go_wp2
    go_quiet (fail)
    go_wp2
    go_roundw
    case rel=>exact⟨k+1,by omega,by go_num,hsame.drewN _,HN.out⟩
    case measure=>simp [intOf];omega
   ·have hne:(((U.getD (uo+m+k) 0:Nat):Int) != ((V.getD k 0:Nat):Int))=true:=by rw [bne_iff_ne];omega
    have hlt:sv U (uo+m) m<val V:=by
     refine Nat.lt_of_le_of_ne HLE.out fun e=>hxy ?_
     have e2:=fT (seg U (uo+m) m) V (by rw [aT _ _ _ (by omega),HVV.out.2]) (cV HU.out.2 _ _) HVV.out.1.limbs e
     rw [←cN U (uo+m) m k hkl,e2]
    have HDD:=aa (fun wn (hs:ai w wn)=>HD.out wn hs hlt)
    have HSM:=aa hsame
    clear hxy HEQ hlt HD
    generalize U.getD (uo+m+k) 0=x at *
    generalize V.getD k 0=y at *
    go_wp2
    go_quiet (fail)
    go_wp2_with fail
    refine (HDD.out _ (HSM.out.drewN _)).mono ?_
    intro e w2 hd
    have HG:=aa ((hd.guess u1).same (HSM.out.drewN _))
    have he:=hd.1
    subst he
    clear hd HDD
    go_wp2
    go_end0
    exact HG.out
  ·have ek:k=m:=by omega
   subst ek
   have HSM:=aa hsame
   have HBQ:=aa (HQ.out.1.below (hsame.below _) HQ.out.1.lt)
   have HBU:=aa (HU.out.1.below (hsame.below _) HU.out.1.lt)
   clear hcv HD hsame
   go_wp2
   rename World=>w1
   go_loopw [34] (fun i wq=>∃(t:Nat) (Q':List Nat),t≤k∧i=.int .i64 t∧Out Q Q' qo (qo+t)∧Limbs Q'∧Blk wq bq Q'∧Fr bq w1 wq∧sv Q' qo t+1=18446744073709551616 ^ t) (fun i _=>k - (intOf i).toNat)
   case atStart=>exact⟨0,Q,Nat.zero_le _,rfl,Out.refl _ _ _,HQ.out.2,HBQ.out,Fr.refl _ _,by rw [aH]⟩
   case round=>
    obtain⟨t,Q',ht,rfl,o1,l1,b1,f1,s1⟩:=hrel
    by_cases htl:t<k
    ·have hfr:=b1.free (qo+t)
     have hco:=b1.cell (qo+t) (by rw [o1.len];omega)
     have HX:Hid (Out Q (Q'.set (qo+t) 18446744073709551615) qo (qo+(t+1))∧Limbs (Q'.set (qo+t) 18446744073709551615)∧Blk (wr.setCell ⟨bq,qo+t,none⟩ (.int .u64 ((18446744073709551615:Nat):Int))) bq (Q'.set (qo+t) 18446744073709551615)∧Fr bq w1 (wr.setCell ⟨bq,qo+t,none⟩ (.int .u64 ((18446744073709551615:Nat):Int)))∧sv (Q'.set (qo+t) 18446744073709551615) qo (t+1)+1=18446744073709551616 ^ (t+1)):=by
      refine aa ⟨(o1.wider (Nat.le_refl _) (by omega)).set _ _ (by omega) (by omega),limbs_set l1 _ _ (by omega),b1.set _ _,f1.setCell _ _,?_⟩
      rw [bZ Q' qo t _ (by rw [o1.len];omega),Nat.pow_succ,←s1]
      omega
     generalize Q'.getD (qo+t) 0=oq at *
     clear o1 l1 b1 f1 s1
     go_wp2
     go_roundw
     case rel=>exact⟨t+1,_,by omega,by go_num,HX.out⟩
     case measure=>simp [intOf];omega
    ·have et:t=k:=by omega
     subst et
     have hbu:=HBU.out.frb f1 (Ne.symm n1)
     have hrun:=fun ty=>di bu (uo+t) t (ucap - t) U wr ty hbu (by omega) hm
     have e1:=bN (List.replicate t 0) U (uo+t)
     have e2:=cd (List.replicate t 0) U (uo+t) (by simp;omega)
     have e3:=bW (List.replicate t 0) (limbs_replicate _) U (uo+t) HU.out.2
     have hb2:=Blk.setCells (List.replicate t 0) (uo+t) hbu
     have hf2:=(Fr.refl bu wr).setCells ((List.replicate t 0).map lv) (uo+t)
     have hbq2:=b1.frb hf2 n1
     rw [List.length_replicate] at e1 e2
     rw [val_replicate] at e2
     obtain⟨w3,hw3⟩:∃w3,w3=wr.setCells bu (uo+t) ((List.replicate t 0).map lv):=⟨_,rfl⟩
     rw [←hw3] at hrun hb2 hf2 hbq2
     generalize lay U (uo+t) (List.replicate t 0)=U2 at *
     have F3:=aa ((Fr.left2 (b2:=bu) (Fr.same (bz:=bq) HSM.out)).trans (f1.left2.trans hf2.right2))
     have HP:=dc bu uo (t+t) ucap U2 _ V w3 hb2 e3 ((HVV.out.1.below (HSM.out.below _)).fr2 (f1.left2.trans hf2.right2) n2 n3) (ae n3 _ _) (by rw [e1.len];omega) u2 u3 (by rw [HVV.out.2];omega)
     have HX:=aa (And.intro o1 (And.intro l1 (And.intro hbq2 (And.intro s1 (And.intro e1 e2)))))
     clear hw3 o1 l1 b1 f1 s1 hbu e1 e2 e3 hb2 hf2 hbq2
     go_wp2_with fail
     refine HP.mono ?_
     rintro e w4 ⟨c4,U4,hc4,rfl,o4,l4,b4,f4,s4⟩
     have HG:Hid (cY bq qo bu uo t (val V) Q U w (.returned (.tuple #[])) w4):=by
      obtain⟨o1,l1,hbq2,s1,e1,e2⟩:=HX.out
      have hhi:sv U (uo+t) t=val V:=by
       unfold sv
       rw [gB (a:=seg U (uo+t) t) (b:=V) (by rw [aT _ _ _ (by omega),HVV.out.2]) (fun i hi=>by
        rw [aT _ _ _ (by omega)] at hi
        rw [cN _ _ _ _ hi];exact HEQ.out i hi)]
      have s5:=ag U2 uo t t (by rw [e1.len];omega)
      rw [e2,Nat.mul_zero,Nat.add_zero,e1.sv uo t (by omega)] at s5
      rw [s5] at s4
      refine aa ⟨rfl,Q',U4,o1,l1,hbq2.frb f4 n1,(e1.wider (by omega) (by omega)).trans o4,l4,b4,F3.out.trans f4.right2,?_,.inr (by omega)⟩
      exact kN s1 (bj HU.out.2 _ _) (by have:=val_lt HVV.out.1.limbs;rw [HVV.out.2] at this;exact this) (ag U uo t t (by omega)) hhi hm s4
     clear o4 l4 b4 f4 s4 HP HX
     go_wp2
     go_end0
     exact HG.out

theorem Fr2.undrew {b1 b2:Nat}{a w:World}(h:Fr2 b1 b2 a.drew w):Fr2 b1 b2 a w:=⟨h.os,h.tape,h.output,h.size,h.block⟩

theorem jJ {U V:List Nat}{o n r m:Nat}(hn:n=r+m)(lV:V.length=n)(hV:Limbs V)(hu:o+n≤U.length)(h:sv U o n<val V):sv U (o+r) m≤val (V.drop r):=by
 subst hn
 rw [ag U o r m (by omega),bk V r (by omega)] at h
 have h1:=bM hV r (by omega)
 refine Nat.le_of_not_lt fun h2=>?_
 have:=Nat.mul_le_mul_left (18446744073709551616 ^ r) (Nat.succ_le_of_lt h2)
 rw [Nat.succ_eq_add_one,Nat.mul_add,Nat.mul_one] at this
 omega

theorem lH (bq qo m qcap bu uo ucap bv ov vcap n r lu:Nat)(Q U V:List Nat)(w:World)(hok:dU (V.drop r))
  (hQ:Blk w bq Q) (lQ:Limbs Q) (hU:Blk w bu U) (lU:Limbs U) (hV:Arg w (.slice (some ⟨bv,ov,none⟩) n vcap) V) (hT:Tab w) (t1:0≠bq) (t2:0≠bu) (lV:V.length=n) (hm:0<m) (hr:0<r) (hn:n=r+m)
  (n1:bq≠bu) (n2:bv≠bq) (n3:bv≠bu) (q1:qo+m≤Q.length) (q2:m≤qcap) (q3:qcap≤9223372036854775807) (hlu:lu=m+n) (u1:uo+(m+n)≤U.length) (u2:m+n≤ucap) (u3:ucap≤9223372036854775807)
  (few:m+n≤35184372088831) (hV0:0<val V) (hlt:sv U (uo+m) n<val V) :
  Calls Tryz.prog 120 #[.slice (some ⟨bq,qo,none⟩) m qcap,.slice (some ⟨bu,uo,none⟩) lu ucap,.slice (some ⟨bv,ov,none⟩) n vcap] w (cB bq qo m bu uo n (val V) Q U w):=by
 obtain⟨_,_,e0,hvc,hvm,_⟩:=hV.form
 rw [lV] at e0 hvc
 cases e0
 have hbv:=hV.block (by omega)
 have ld:(V.drop r).length=m:=by rw [List.length_drop];omega
 have lt:(V.take r).length=r:=by rw [List.length_take];omega
 have HLE:=aa (jJ hn lV hV.limbs (by omega) hlt)
 have eV:=bk V r (by omega)
 have hcu:¬ucap=r:=by omega
 have hcv:¬vcap=r:=by omega
 have er:(n:Int) - (m:Int)=(r:Int):=by omega
 have y1:lu - r=m+m:=by omega
 have y2:n - r=m:=by omega
 have k1:(0:Int)≤(r:Int):=by omega
 have k2:(r:Int)≤(lu:Int):=by omega
 have k3:(r:Int)≤(n:Int):=by omega
 have k4:(r:Int)≤(ucap:Int):=by omega
 have k5:(r:Int)≤(vcap:Int):=by omega
 have HG:=i7 bq qo qcap bu (uo+r) (ucap - r) bv (ov+r) (vcap - r) m Q U (V.drop r) w.drew hok (hQ.below (Below.refl _ _).drew hQ.lt) lQ (hU.below (Below.refl _ _).drew hU.lt) lU (by have:=(hV.drop r (by omega)).drew;rw [y2] at this;exact this) (hT.below (Below.refl _ _).drew) t1 t2 ld hm n1 n2 n3 q1 q2 q3 (by omega) (by omega) (by omega) (by omega) (by rw [show uo+r+m=uo+m+r by omega];exact HLE.out)
 have HVA:=aa hV
 have HTT:=aa hT
 have H0:=aa (And.intro lU (And.intro lV (And.intro hn hlu)))
 have HV0:=aa (And.intro hV0 hlt)
 have HEV:=aa eV
 have hbq:=hQ.lt
 have hbu:=hU.lt
 clear hok hQ lQ hU lU hV hT lV hn hlt hV0 HLE ld eV hlu
 go_enter Tryz.func120,Tryz.ntmps120
 go_wp2
 go_region_held3 (fun _=>True) (trivial) (first
  | (go_at_call 127;refine HG.mono ?_;rintro e w2 ⟨he,Q',U',o1,l1,b1,o2,l2,b2,f2,e1,hc⟩;subst he))
 have F2:=aa f2.undrew
 have ls:(seg Q' qo m).length=m:=aT _ _ _ (by rw [o1.len];omega)
 have HPR:=mU (m+r+1) (seg Q' qo m) (V.take r) (.slice (some ⟨bq,qo,none⟩) m qcap) (.slice (some ⟨bv,ov,none⟩) r vcap) w2 (by omega) (by omega) (b1.seg_arg l1 qo m qcap (by rw [o1.len];omega) q2 q3 (by omega)) ((HVA.out.fr2 F2.out n2 n3).front r (by omega)) (HTT.out.fr2 F2.out t1 t2)
 have HB1:=aa (And.intro b1 (And.intro o1 l1))
 have HB2:=aa (And.intro b2 (And.intro o2 l2))
 have HE1:=aa (And.intro e1 hc)
 clear o1 l1 b1 o2 l2 b2 f2 e1 hc HG ls
 go_wp2_with fail
 refine HPR.mono ?_
 rintro e w3 ⟨⟨v1,rs1,rfl,An1,tr1,er1⟩,hb3⟩
 have hsz:=F2.out.size
 have fit:=bs (seg Q' qo m) (V.take r) (cV HB1.out.2.2 _ _) (fun z hz=>HVA.out.limbs z (List.mem_of_mem_take hz))
 rw [aT _ _ _ (by rw [HB1.out.2.1.len];omega),lt] at fit
 have r1:=aG rs1 (m+r) (by rw [er1];exact fit)
 rw [tr1] at r1
 have HM:=eG bu uo lu ucap U' v1 rs1 w3 (HB2.out.1.below hb3 HB2.out.1.lt) HB2.out.2.2 (An1.arg (by omega)) (fun b off n c e=>by subst e;exact .inl (fun h=>by have:=(An1.own.lt b rfl).1;have:=HB2.out.1.lt;omega)) (by rw [HB2.out.2.1.len,H0.out.2.2.2];omega) (by have:=H0.out.2.2.2;omega) u3 (by have:=H0.out.2.2.2;have:=H0.out.2.2.1;omega)
 have HB3:=aa hb3
 have HER:=aa er1
 clear An1 tr1 er1 hb3 HPR fit r1
 go_wp2_with fail
 refine HM.mono ?_
 rintro e w4 ⟨un,U2,hun,rfl,o4,l4,b4,f4,s4⟩
 have HREL:Hid (bG bq qo m bu uo n (val V) 0 Q U w w4 un Q' U2):=by
  obtain⟨b1,o1,l1⟩:=HB1.out
  obtain⟨b2,o2,l2⟩:=HB2.out
  obtain⟨e1,hc⟩:=HE1.out
  obtain⟨lU,lV,hn,hlu⟩:=H0.out
  rw [HER.out,hlu] at s4
  rw [hlu] at o4
  have hV0:=HV0.out.1
  have hlt:=HV0.out.2
  rw [HEV.out] at hV0 hlt ⊢
  exact aa (bG.start hn o1 l1 ((b1.below HB3.out b1.lt).frb f4 n1) o2 lU u1 e1 hc o4 l4 b4 s4 ((F2.out.trans (Fr.left2 (Fr.of_below HB3.out))).trans f4.right2) hV0 hlt)
 clear o4 l4 b4 f4 s4 HM HB1 HB2 HB3 HE1 HER F2
 go_wp2
 go_loopw [7] (fun u wr=>∃(un:Nat) (Q' U':List Nat),un≤1∧u=.int .u64 un∧bG bq qo m bu uo n (val V) 0 Q U w wr un Q' U') (fun _ wr=>sv (rd wr bq) qo m)
 case atStart=>exact⟨un,_,_,hun,rfl,HREL.out⟩
 case round=>
  obtain⟨un,Q2,U2,hun,rfl,hrel⟩:=hrel
  have HR:=aa hrel
  clear hrel HREL
  by_cases hu0:un=0
  ·subst hu0
   go_wp2
   go_end0
   exact HR.out.done HV0.out.1 (Nat.le_of_lt (by have:=val_lt HVA.out.limbs;rw [H0.out.2.1] at this;exact this)) u1
  ·have hu1:un=1:=by omega
   have hpos:(0:Int)<(un:Int):=by omega
   have hblq:=HR.out.blkQ.lt
   have HD:=eG bq qo m qcap Q2 (.slice (some ⟨wr.heap.size,0,none⟩) 1 1) [1] (wr.alloc (.cells #[.int .u64 1] 60)) (HR.out.blkQ.alloc _) HR.out.limQ
    (Arg.lits wr [1] #[.int .u64 1] 1 rfl rfl (by intro z hz;simp at hz;omega) (by simp)) (fun b off _ _ e=>by cases e;exact .inl (by omega)) (by rw [HR.out.outQ.len];omega) q2 q3 (by simp;omega)
   have HU1:=aa hu1
   clear hu1 hu0
   go_wp2_with fail
   refine HD.mono ?_
   rintro e w5 ⟨c5,Q5,hc5,rfl,o5,l5,b5,f5,s5⟩
   have F5:=aa (show Fr2 bq bu wr w5 from (Fr.left2 (Fr.of_below ((Below.refl _ _).alloc (Nat.le_refl _) _))).trans f5.left2)
   have bu5:=(HR.out.blkU.alloc (.cells #[.int .u64 1] 60)).frb f5 (Ne.symm n1)
   have HP:=dc bu uo lu ucap U2 (.slice (some ⟨bv,ov,none⟩) n vcap) V w5 bu5 HR.out.limU (HVA.out.fr2 (HR.out.fr.trans F5.out) n2 n3) (ae n3 _ _) (by rw [HR.out.outU.len,H0.out.2.2.2];omega) (by have:=H0.out.2.2.2;omega) u3 (by have:=H0.out.2.2.2;rw [H0.out.2.1];omega)
   have H5:=aa (And.intro o5 (And.intro l5 (And.intro b5 s5)))
   clear o5 l5 b5 f5 s5 HD bu5
   go_wp2_with fail
   refine HP.mono ?_
   rintro e w6 ⟨c6,U6,hc6,rfl,o6,l6,b6,f6,s6⟩
   have HN:Hid (bG bq qo m bu uo n (val V) 0 Q U w w6 (1 - c6) Q5 U6∧sv Q5 qo m<sv Q2 qo m):=by
    obtain⟨o5,l5,b5,s5⟩:=H5.out
    have h:=HR.out
    rw [HU1.out] at h
    rw [H0.out.2.2.2] at o6 s6
    rw [show val [1]=1 by simp [val]] at s5
    exact aa (h.next HV0.out.1 o5 l5 (b5.frb f6 n1) s5 hc5 o6 l6 b6 s6 hc6 (F5.out.trans f6.right2))
   have HRD:=aa (And.intro (gM HR.out.blkQ) (gM HN.out.1.blkQ))
   have eq1:(un:Int) - (c6:Int)=((1 - c6:Nat):Int):=by have:=HU1.out;omega
   have hle1:1 - c6≤1:=by omega
   generalize 1 - c6=u2 at *
   clear o6 l6 b6 f6 s6 HP H5 F5 HU1
   go_wp2
   go_roundw
   case rel=>exact⟨u2,Q5,U6,hle1,rfl,HN.out.1⟩
   case measure=>rw [HRD.out.1,HRD.out.2];exact HN.out.2

theorem aU.undrew {bq qo m bu uo n VV:Nat}{Q U:List Nat}{w wr:World}{k:Nat}{Q' U':List Nat}(h:aU bq qo m bu uo n VV Q U w.drew wr k Q' U'):aU bq qo m bu uo n VV Q U w wr k Q' U':=
 ⟨h.outQ,h.limQ,h.blkQ,h.outU,h.limU,h.blkU,h.fr.undrew,h.eq,h.lt,h.top⟩

theorem nQ:∀(N:Nat) (V:List Nat),V.length<N→∀j,V.length=j+1→9223372036854775808≤V.getD j 0→dU V:=by
 intro N
 induction N with
 | zero=>intro V h;omega
 | succ N ih=>
  intro V hN j hj ht bq qo m qcap bu uo ucap bv ov vcap Q U w hQ lQ hU lU hV hT t1 t2 n1 n2 n3 q1 q2 q3 u1 u2 u3 few hlt
  by_cases hs:m<60
  ·have hs2:(m:Int)<60:=by omega
   have HL:=fK bq qo m qcap bu uo ucap bv ov vcap j Q U V w hQ lQ hU lU hV hj ht n1 n2 n3 q1 q2 q3 u1 u2 u3 (by omega) hlt
   clear hV hT hQ lQ hU lU hlt ih hj hN ht
   go_enter Tryz.func114,Tryz.ntmps114
   go_wp2_with fail
   refine HL.mono ?_
   intro e w2 hd
   have he:=hd.1
   subst he
   have HX:=aa hd
   clear hd HL
   go_wp2
   go_end0
   exact HX.out
  ·by_cases hs':V.length<60
   ·have hs2:¬((m:Int)<60):=by omega
    have hs3:(V.length:Int)<60:=by omega
    have HL:=fK bq qo m qcap bu uo ucap bv ov vcap j Q U V w hQ lQ hU lU hV hj ht n1 n2 n3 q1 q2 q3 u1 u2 u3 (by omega) hlt
    clear hV hT hQ lQ hU lU hlt ih hj hN ht
    go_enter Tryz.func114,Tryz.ntmps114
    go_wp2_with fail
    refine HL.mono ?_
    intro e w2 hd
    have he:=hd.1
    subst he
    have HX:=aa hd
    clear hd HL
    go_wp2
    go_end0
    exact HX.out
   ·have hs2:¬((m:Int)<60):=by omega
    have hs3:¬((V.length:Int)<60):=by omega
    have hV0:0<val V:=by omega
    obtain⟨n,hn⟩:∃n,V.length=n:=⟨_,rfl⟩
    have HJ:=aa (And.intro hj (And.intro hn ht))
    rw [hn] at hV u1 u2 few hlt hs3 hN ⊢
    have HV0:=aa hV0
    have HIH:=aa (fun (V':List Nat) (h:V'.length<n)=>ih V' (by omega))
    have HTT:=aa hT
    have HVA:=aa hV
    have START:Hid (aU bq qo m bu uo n (val V) Q U w w m Q U):=⟨Out.refl _ _ _,lQ,hQ,Out.refl _ _ _,lU,hU,Fr2.refl _ _ _,by rw [Nat.sub_self,aH,Nat.zero_mul,Nat.zero_add,Nat.add_zero],hlt,by rw [Nat.sub_self,aH]⟩
    obtain⟨h,eh,hh1,hh2⟩:∃h:Nat,((n:Int)+1) / 2=(h:Int)∧2*h≤n+1∧n≤2*h:=⟨(n+1) / 2,by omega,by omega,by omega⟩
    clear hV hT hQ lQ hU lU hlt ih hj hn ht hV0
    go_enter Tryz.func114,Tryz.ntmps114
    go_wp2
    go_loopw [7] (fun t wr=>∃(k:Nat) (Q' U':List Nat),k≤m∧t=.int .i64 k∧aU bq qo m bu uo n (val V) Q U w wr k Q' U') (fun t _=>(intOf t).toNat)
    case atStart=>exact⟨m,Q,U,Nat.le_refl _,rfl,START.out⟩
    case round=>
     obtain⟨k,Q',U',hk,rfl,hrel⟩:=hrel
     have HR:=aa hrel
     clear hrel START
     by_cases hk0:k=0
     ·subst hk0
      go_wp2
      go_end0
      exact⟨rfl,Q',U',HR.out⟩
     ·have hkp:(0:Int)<(k:Int):=by omega
      clear hk0
      obtain⟨f,ef,hf1,hf2⟩:∃f:Nat,max ((k:Int) - (h:Int)) 0=(f:Int)∧f<k∧k≤f+h:=⟨k - h,by omega,by omega,by omega⟩
      obtain⟨kn,ekn,kn1,kn2⟩:∃kn:Nat,(k:Int)+(n:Int)=(kn:Int)∧kn≤k+n∧k+n≤kn:=⟨k+n,by omega,by omega,by omega⟩
      have wkn:IntKind.i64.wrap (kn:Int)=(kn:Int):=by rw [IntKind.wrap_i64];omega
      obtain⟨d,ed,hd0,hdn⟩:∃d,k=f+d∧0<d∧d≤h:=⟨k - f,by omega,by omega,by omega⟩
      have ld:(V.drop (n - d)).length=d:=by rw [List.length_drop,HJ.out.2.1];omega
      have HOK:dU (V.drop (n - d)):=HIH.out (V.drop (n - d)) (by omega) (d - 1) (by omega) (by
       have e:(V.drop (n - d)).getD (d - 1) 0=V.getD j 0:=by
        simp only [List.getD,List.getElem?_drop]
        rw [show n - d+(d - 1)=j by have:=HJ.out.1;have:=HJ.out.2.1;omega]
       rw [e];exact HJ.out.2.2)
      have hVr:=HVA.out.fr2 HR.out.fr n2 n3
      have HB:=lH bq (qo+f) d (qcap - f) bu (uo+f) (ucap - f) bv ov vcap n (n - d) (kn - f) Q' U' V wr.drew HOK
       (HR.out.blkQ.below (Below.refl _ _).drew HR.out.blkQ.lt) HR.out.limQ (HR.out.blkU.below (Below.refl _ _).drew HR.out.blkU.lt) HR.out.limU hVr.drew ((HTT.out.fr2 HR.out.fr t1 t2).below (Below.refl _ _).drew) t1 t2 HJ.out.2.1 hd0 (by omega) (by omega) n1 n2 n3
       (by rw [HR.out.outQ.len];omega) (by omega) (by omega) (by omega) (by rw [HR.out.outU.len];omega) (by omega) (by omega) (by omega) HV0.out (by rw [show uo+f+d=uo+k by omega];exact HR.out.lt)
      have g1:k - f=d:=by omega
      have hcq:¬qcap=f:=by omega
      have hcu:¬ucap=f:=by omega
      have k1:(0:Int)≤(f:Int):=by omega
      have k2:(f:Int)≤(k:Int):=by omega
      have k3:(k:Int)≤(qcap:Int):=by omega
      have k4:(f:Int)≤(kn:Int):=by omega
      have k5:(kn:Int)≤(ucap:Int):=by omega
      have HK:=aa ed
      clear ed
      go_wp2
      go_region_held3 (fun _=>True) (trivial) (first
       | (go_at_call 120;refine HB.mono ?_;rintro e w2 ⟨he,Q2,U2,hb2⟩;subst he))
      have HN:Hid (aU bq qo m bu uo n (val V) Q U w w2 f Q2 U2):=by
       have h:=HR.out
       rw [HK.out] at h
       exact aa (h.block hb2.undrew (by have:=HK.out;omega) q1 u1)
      clear hb2 HB
      go_wp2
      go_roundw
      case rel=>exact⟨f,Q2,U2,by omega,rfl,HN.out⟩
      case measure=>simp [intOf];omega
end Go.Proofs.YtcbpdngogkbndaaGreatDoor

