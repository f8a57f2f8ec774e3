/- The walk of the law NumeralPrints. -/
import Derived.Test.YteehipcoeocojaaGreatDoorB12
import Derived.Test.YteehipcoeocojaaGreatDoorB02
set_option maxRecDepth 20000
set_option maxHeartbeats 8000000
namespace Go.Proofs.YteehipcoeocojaaGreatDoor
open Go.RowKit
open Lm
attribute [local go_sem ↓] Go.wp_at_zero Go.wp_at_succ

theorem IRd.fr5 {w w':World}{g:Nat}{v:Value}{L:List Nat}(h:IRd w v L)(hf:Fr g w w')(hne:∀b,v.ownBlock=some b→b≠g):IRd w' v L:=by
 obtain⟨a,c,h1,h2,h3,h4⟩:=h
 refine⟨a,c,h1,h2,h3,?_⟩
 rcases h4 with h4|⟨b,rfl,h6,h7⟩
 ·exact .inl h4
 ·exact .inr ⟨b,rfl,Nat.lt_of_lt_of_le h6 hf.size,fun i hi=>by rw [World.cell?_of_block (a:=⟨b,i,none⟩) (hf.block b h6 (hne b (by rw [h1];rfl)))];exact h7 i hi⟩

theorem Fr.grown5 {w w':World}{g:Nat}(h:w.grownBy w' (some g)):Fr g w w':=⟨h.os,h.tape,h.output,h.size,fun k hk hne=>h.block k hk (fun e=>hne (Option.some.inj e))⟩

def aK (L:List Nat)(k:Nat):List Nat:=List.replicate k 99 ++ L.drop k

theorem dB (L:List Nat)(k:Nat)(h:k≤L.length):(aK L k).length=L.length:=by
 simp [aK];omega

theorem g5 (L:List Nat)(k:Nat)(h:k<L.length):(aK L k).set k 99=aK L (k+1):=by
 apply List.ext_getElem?
 intro i
 have hl:=dB L k (by omega)
 rw [List.getElem?_set]
 by_cases hik:k=i
 ·subst hik
  rw [if_pos rfl,hl,if_pos h]
  simp [aK,List.getElem?_append]
 ·rw [if_neg hik]
  simp only [aK,List.getElem?_append,List.length_replicate,List.getElem?_replicate,List.getElem?_drop]
  by_cases h1:i<k
  ·rw [if_pos h1,if_pos h1,if_pos (by omega:i<k+1),if_pos (by omega:i<k+1)]
  ·rw [if_neg h1,if_neg (by omega:¬i<k+1)]
   congr 1
   omega

theorem mC (va:Value)(X:List Nat)(b:Nat)(w:World)(hT:Tab w)(A0:Arg w va X)(s0:X.length≤1048576)(hb:2≤b)(hb2:b≤36) :
  Calls Tryz.prog 3 #[va,.int .i64 b] w fun e w'=>e=.returned (.bool true)∧Below w.heap.size w w':=by
 obtain⟨i0,hi,hz0,hz1,hz2⟩:=info_parts cL
 have C:=gt va X w A0 (by omega)
 have hbx:=cN A0.limbs s0
 have HX:=aa A0.limbs
 have HA:=aa A0
 have HT:=aa hT
 have HBX:=aa hbx
 clear hT A0 hbx
 go_enter Tryz.func3,Tryz.ntmps3
 go_wp2_with fail
 refine C.mono ?_
 rintro e w1 ⟨⟨vw,vp,rfl,hL,hP⟩,hb1⟩
 have C:=dM va X w1 (HA.out.below hb1) (by omega)
 have HL:=aa hL
 have HP:=aa hP
 have HB:=aa hb1
 clear hL hP hb1
 go_wp2_with fail
 refine C.mono ?_
 rintro e w2 ⟨⟨vx,rfl,hN⟩,hb2'⟩
 replace HB:=aa (bt5 HB.out hb2')
 replace HL:=aa (HL.out.below hb2')
 replace HP:=aa (HP.out.below hb2')
 have HN:=aa hN
 have C:=iZ vp (val X) b w2 hb hb2 (fT vp X b w2 HP.out (HT.out.below HB.out) s0 hb hb2)
 clear hN hb2'
 go_wp2_with fail
 refine C.mono ?_
 rintro e w3 ⟨D,rfl,hd,hg,hb3⟩
 obtain⟨n,hn⟩:∃n,D.length=n:=⟨_,rfl⟩
 have hDe:=d4 hn hg
 rw [hn] at hd
 subst hDe
 obtain⟨hn9,_⟩:=dw hb HX.out s0 rfl hd
 obtain⟨S,hS⟩:∃S,aI ((digs b n (val X)).map fig)=S:=⟨_,rfl⟩
 have hSs:S.size=n:=by rw [←hS,gJ,aw]
 rw [hS]
 have HS:=aa hS
 have HH:=aa hd
 have hn1:1≤n:=hd.1
 replace HB:=aa (bt5 HB.out hb3)
 replace HL:=aa (HL.out.below hb3)
 replace HP:=aa (HP.out.below hb3)
 replace HN:=aa (HN.out.below hb3)
 have C:=lW vp (val X) b w3 hb hb2 (gB vp X b w3 HP.out (HT.out.below HB.out) s0 hb hb2)
 clear hd hg hb3 hn hS
 go_wp2_with fail
 refine C.mono ?_
 rintro e w4 ⟨n',rfl,hd',hb4⟩
 obtain rfl:=hd'.unique hb HH.out
 replace HB:=aa (bt5 HB.out hb4)
 replace HL:=aa (HL.out.below hb4)
 replace HP:=aa (HP.out.below hb4)
 replace HN:=aa (HN.out.below hb4)
 have C:=gm vp X b w4 HP.out (HT.out.below HB.out) s0 hb hb2
 clear hd' hb4
 go_wp2_with fail
 refine C.mono ?_
 rintro e w5 ⟨⟨g1,n1,rfl,hI1,hg1,hd1,_⟩,hb5⟩
 obtain rfl:=hd1.unique hb HH.out
 have hw4:w.heap.size≤w4.heap.size:=HB.out.size
 have HI1:=aa hI1
 replace HB:=aa (bt5 HB.out hb5)
 replace HL:=aa (HL.out.below hb5)
 replace HP:=aa (HP.out.below hb5)
 replace HN:=aa (HN.out.below hb5)
 have hg1l:g1<w5.heap.size:=lt_of_block hI1
 have C:=gm vp X b w5 HP.out (HT.out.below HB.out) s0 hb hb2
 clear hd1 hb5 hI1
 go_wp2_with fail
 refine C.mono ?_
 rintro e w6 ⟨⟨g2,n2,rfl,hI2,hg2,hd2,_⟩,hb6⟩
 obtain rfl:=hd2.unique hb HH.out
 have HI2:=aa (hI2.rd (by rw [aw];omega))
 rw [aw] at HI2
 replace HB:=aa (bt5 HB.out hb6)
 replace HL:=aa (HL.out.below hb6)
 replace HN:=aa (HN.out.below hb6)
 replace HI1:Hid (IBk w6 g1 (digs b n2 (val X))):=aa ((hb6.block g1 hg1l).trans HI1.out)
 have hw56:w5.heap.size≤w6.heap.size:=hb6.size
 have C:=kp vx (val X) b w6 HN.out hb hb2 HBX.out
 clear hd2 hb6 hI2 HP
 go_wp2_with fail
 refine C.mono ?_
 rintro e w7 ⟨n3,rfl,hd3,hb7⟩
 obtain rfl:=hd3.unique hb HH.out
 rw [HS.out]
 replace HB:=aa (bt5 HB.out hb7)
 replace HL:=aa (HL.out.below hb7)
 replace HN:=aa (HN.out.below hb7)
 replace HI2:=aa (HI2.out.below hb7)
 replace HI1:Hid (IBk w7 g1 (digs b n3 (val X))):=aa ((hb7.block g1 (by omega)).trans HI1.out)
 have hw67:w6.heap.size≤w7.heap.size:=hb7.size
 have C:=f7 vx (val X) b w7 HN.out hb hb2 HBX.out
 clear hd3 hb7
 go_wp2_with fail
 refine C.mono ?_
 rintro e w8 ⟨⟨a4,n4,c4,rfl,hI4,hd4⟩,hb8⟩
 obtain rfl:=hd4.unique hb HH.out
 have hI4g:=bW hI4
 have HI4:=aa (hI4.rd (by rw [aw];omega))
 have HG4:=aa hI4g
 replace HB:=aa (bt5 HB.out hb8)
 replace HL:=aa (HL.out.below hb8)
 replace HI2:=aa (HI2.out.below hb8)
 replace HI1:Hid (IBk w8 g1 (digs b n4 (val X))):=aa ((hb8.block g1 (by omega)).trans HI1.out)
 clear hd4 hb8 hI4 hI4g HN
 have hI1r:=HI1.out.rd (by rw [aw];omega)
 rw [aw] at hI1r
 have C:=cR _ _ _ w8 hI1r HI4.out
 have hg1w:w.heap.size≤g1:=by omega
 clear hI1r
 go_wp2_with fail
 refine C.mono ?_
 rintro e w9 ⟨rfl,hb9⟩
 replace HB:=aa (bt5 HB.out hb9)
 replace HL:=aa (HL.out.below hb9)
 replace HI2:=aa (HI2.out.below hb9)
 replace HI4:=aa (HI4.out.below hb9)
 replace HI1:Hid (IBk w9 g1 (digs b n4 (val X))):=aa ((hb9.block g1 (lt_of_block HI1.out)).trans HI1.out)
 have C:=gf vw va X w9 HL.out (HA.out.below HB.out) (by omega)
 clear hb9
 go_wp2_with fail
 refine C.mono ?_
 rintro e wn ⟨rfl,hw⟩;rw [hw];clear hw wn C
 obtain⟨G,hG⟩:∃G,digs b n4 (val X)=G:=⟨_,rfl⟩
 have hGl:G.length=n4:=by rw [←hG,aw]
 rw [hG] at HI1 HI2 HI4
 have HGG:=aa hG
 clear HL hG
 go_wp2
 go_loopw [102] (fun i wr=>∃k:Nat,k≤n4∧i=.int .i64 k∧IBk wr g1 (aK G k)∧Fr g1 w9 wr) (fun i _=>n4 - (intOf i).toNat)
 case atStart=>exact⟨0,Nat.zero_le _,rfl,by rw [show aK G 0=G by simp [aK]];exact HI1.out,Fr.refl _ _⟩
 case round=>
  obtain⟨k,hk,rfl,hIb,hfr⟩:=hrel
  by_cases hkn:k<n4
  ·have hc:=hIb.cell k (by rw [dB G k (by omega)];omega)
   have hfz:=hIb.free k
   have HS9:Hid (IBk (wr.setCell ⟨g1,k,none⟩ (.int .i64 (99:Int))) g1 (aK G (k+1))):=aa (by rw [←g5 G k (by omega)];exact hIb.set k 99)
   have HF:=aa hfr
   generalize (aK G k).getD k 0=old at *
   clear hIb hfr
   go_wp2
   go_roundw
   case rel=>exact⟨k+1,by omega,by go_num,HS9.out,HF.out.setCell _ _⟩
   case measure=>simp [intOf];omega
  ·obtain rfl:k=n4:=by omega
   have hNl:(aK G k).length=k:=by rw [dB G k (by omega),hGl]
   have hil:IL5 wr w.heap.size (.slice (some ⟨g1,0,none⟩) k k) (aK G k):=by
    have h:=hIb.il (base:=w.heap.size) hg1w (by omega)
    rw [hNl] at h
    exact h
   unfold IL5 at hil
   rw [hNl] at hil
   have HIL:=aa hil
   have HFR:=aa hfr
   have hsz:w.heap.size≤wr.heap.size:=Nat.le_trans HB.out.size hfr.size
   obtain⟨n6,hn6,hn6i⟩:∃n6:Nat,n6=k+2∧(k:Int)+2=(n6:Int):=⟨k+2,rfl,by omega⟩
   clear hil hIb hfr hNl HI1
   go_wp2_with (at_builtin;refine wpList_append_own _ rfl _ _ 33 rfl w.heap.size 3 i0 (.int .i64 0) 1 8 Tryz.underlying33 hi hz0 hz1 hz2 rfl (by decide) (.slice (some ⟨g1,0,none⟩) k k) k ((aK G k).map iv5) rfl (HIL.out.alloc _) ⟨wr.heap.size,0,none⟩ 2 2 [.int .i64 98,.int .i64 97] rfl rfl (bK [.int .i64 98,.int .i64 97] 3) (by intro u hu;simp at hu;rcases hu with rfl|rfl <;> rfl) (by unfold maxLen;omega) (by omega) (by simp;omega) ?_;intro v' w' hown hgrow _)
   have hF:Fr g1 w9 w':=HFR.out.trans ((Fr.alloc g1 wr _).trans (Fr.grown5 hgrow))
   obtain⟨a9,c9,he9⟩:∃a9 c9,v'=.slice a9 (k+2) c9:=by
    rcases hown.2 with ⟨h1,h2⟩|⟨g,cap,cur,h1,_⟩
    ·omega
    ·exact⟨_,_,h1⟩
   subst he9
   have hm9:=HI2.out.fr5 hF (fun b e=>by simp [Value.ownBlock] at e;omega)
   have hd9:=HI4.out.fr5 hF (fun b e=>by have:=HG4.out b e;omega)
   have C:=cR _ _ _ w' hm9 hd9
   have HTW:=aa ((HT.out.below HB.out).fr5 hF (by have:=HT.out.1;omega))
   have HBW:=aa (HB.out.trans (hF.below hg1w HB.out.size))
   rw [←hn6]
   clear hown hgrow hF hm9 hd9 HIL HFR hn6
   go_wp2_with fail
   refine C.mono ?_
   rintro e wA ⟨rfl,hbA⟩
   have HBA:=aa (bt5 HBW.out hbA)
   have CL:=fI wA (HTW.out.below hbA)
   clear C hbA
   go_wp2_with fail
   refine CL.mono ?_
   rintro e wB ⟨rfl,hbB⟩
   have HBB:=aa (bt5 HBA.out hbB)
   clear CL hbB
   go_wp2
   go_ret
   exact⟨rfl,HBB.out⟩

theorem d9 (v:Value)(b:Int)(w:World)(h:b<2∨36<b) :
  Calls Tryz.prog 15 #[v,.int .i64 b] w fun e w'=>e=.returned (.tuple #[.slice none 0 0,.int .i64 50])∧w'=w:=by
 by_cases h1:b<2
 ·clear h
  go_enter Tryz.func15,Tryz.ntmps15
  go_wp2
  go_ret2
  exact⟨rfl,rfl⟩
 ·have h2:36<b:=by omega
  clear h
  go_enter Tryz.func15,Tryz.ntmps15
  go_wp2
  go_ret2
  exact⟨rfl,rfl⟩

theorem mf (v:Value)(b:Int)(w:World)(h:b<2∨36<b) :
  Calls Tryz.prog 14 #[v,.int .i64 b] w fun e w'=>e=.returned (.tuple #[.string ⟨#[]⟩,.int .i64 50])∧w'=w:=by
 have C:=d9 v b w h
 clear h
 go_enter Tryz.func14,Tryz.ntmps14
 go_wp2_with fail
 refine C.mono ?_
 rintro e wn ⟨rfl,hw⟩;rw [hw];clear hw wn C
 go_wp2
 refine wp_loop_rounds 1 ?_
 rw [rounds_succ]
 go_wp2
 go_ret2
 exact⟨rfl,rfl⟩

theorem iX (va:Value)(X:List Nat)(b:Int)(w:World)(hT:Tab w)(A0:Arg w va X)(s0:X.length≤1048576)(h:b<2∨36<b) :
  Calls Tryz.prog 3 #[va,.int .i64 b] w fun e w'=>e=.returned (.bool true)∧Below w.heap.size w w':=by
 obtain⟨i0,hi,hz0,hz1,hz2⟩:=info_parts cL
 have C:=gt va X w A0 (by omega)
 have HA:=aa A0
 have HT:=aa hT
 have Hh:=aa h
 clear hT A0 h
 go_enter Tryz.func3,Tryz.ntmps3
 go_wp2_with fail
 refine C.mono ?_
 rintro e w1 ⟨⟨vw,vp,rfl,hL,hP⟩,hb1⟩
 have C:=dM va X w1 (HA.out.below hb1) (by omega)
 have HL:=aa hL
 have HB:=aa hb1
 clear hL hP hb1
 go_wp2_with fail
 refine C.mono ?_
 rintro e w2 ⟨⟨vx,rfl,hN⟩,hb2'⟩
 replace HB:=aa (bt5 HB.out hb2')
 replace HL:=aa (HL.out.below hb2')
 clear hN hb2'
 have C:=mA vp b w2 Hh.out
 go_wp2_with fail
 refine C.mono ?_
 rintro e wn ⟨rfl,hw⟩;rw [hw];clear hw wn C
 have C:=iv vp b w2 Hh.out
 go_wp2_with fail
 refine C.mono ?_
 rintro e wn ⟨rfl,hw⟩;rw [hw];clear hw wn C
 have C:=fd vp b w2 Hh.out
 go_wp2_with fail
 refine C.mono ?_
 rintro e wn ⟨rfl,hw⟩;rw [hw];clear hw wn C
 have C:=fd vp b w2 Hh.out
 go_wp2_with fail
 refine C.mono ?_
 rintro e wn ⟨rfl,hw⟩;rw [hw];clear hw wn C
 have C:=mf vx b w2 Hh.out
 go_wp2_with fail
 refine C.mono ?_
 rintro e wn ⟨rfl,hw⟩;rw [hw];clear hw wn C
 have C:=d9 vx b w2 Hh.out
 go_wp2_with fail
 refine C.mono ?_
 rintro e wn ⟨rfl,hw⟩;rw [hw];clear hw wn C
 have C:=cR _ _ [] w2 (IRd.nil w2) (IRd.nil w2)
 go_wp2_with fail
 refine C.mono ?_
 rintro e w9 ⟨rfl,hb9⟩
 replace HB:=aa (bt5 HB.out hb9)
 replace HL:=aa (HL.out.below hb9)
 have C:=gf vw va X w9 HL.out (HA.out.below HB.out) (by omega)
 clear hb9
 go_wp2_with fail
 refine C.mono ?_
 rintro e wn ⟨rfl,hw⟩;rw [hw];clear hw wn C
 clear HL
 go_wp2
 refine wp_loop_rounds 1 ?_
 rw [rounds_succ]
 have hsz:w.heap.size≤w9.heap.size:=HB.out.size
 go_wp2_with (at_builtin;refine wpList_append_own _ rfl _ _ 33 rfl w.heap.size 3 i0 (.int .i64 0) 1 8 Tryz.underlying33 hi hz0 hz1 hz2 rfl (by decide) (.slice none 0 0) 0 [] rfl (World.ownsRow_nil _ _ _ _) ⟨w9.heap.size,0,none⟩ 2 2 [.int .i64 98,.int .i64 97] rfl rfl (bK [.int .i64 98,.int .i64 97] 3) (by intro u hu;simp at hu;rcases hu with rfl|rfl <;> rfl) (by unfold maxLen;omega) (by omega) (by simp;omega) ?_;intro v' w' hown hgrow _)
 obtain⟨a9,c9,he9⟩:∃a9 c9,v'=.slice a9 2 c9:=by
  rcases hown.2 with ⟨h1,h2⟩|⟨g,cap,cur,h1,_⟩
  ·omega
  ·exact⟨_,_,h1⟩
 subst he9
 have HBW:Hid (Below w.heap.size w w'):=aa ((HB.out.alloc hsz _).grown hgrow (by simp;omega) (fun k hk=>by cases hk))
 have C:=cR _ _ [] w' (IRd.nil w') (IRd.nil w')
 clear hown hgrow
 go_wp2_with fail
 refine C.mono ?_
 rintro e wA ⟨rfl,hbA⟩
 have HBA:=aa (bt5 HBW.out hbA)
 have CL:=fI wA (HT.out.below HBA.out)
 clear C hbA
 go_wp2_with fail
 refine CL.mono ?_
 rintro e wB ⟨rfl,hbB⟩
 have HBB:=aa (bt5 HBA.out hbB)
 clear CL hbB
 go_wp2
 go_ret
 exact⟨rfl,HBB.out⟩

theorem mr (v0:Value)(z0:List Nat)(k:Int)(w:World)(hT:Tab w)(A0:Arg w v0 z0)(s0:z0.length≤1048576)(_:-9223372036854775808≤k)(_:k≤9223372036854775807) :
  Calls Tryz.prog 3 #[v0,.int .i64 k] w fun e w'=>e=.returned (.bool true)∧Below w.heap.size w w':=by
 by_cases h:k<2∨36<k
 ·exact iX v0 z0 k w hT A0 s0 h
 ·obtain⟨b,rfl⟩:∃b:Nat,k=(b:Int):=⟨k.toNat,by omega⟩
  exact mC v0 z0 b w hT A0 s0 (by omega) (by omega)

end Go.Proofs.YteehipcoeocojaaGreatDoor
