/- The walk of the law WholeTexts. -/
import Derived.Test.YtkhckcfikljjhaaGreatDoorB14
import Derived.Test.YtkhckcfikljjhaaGreatDoorB15
import Derived.Test.YtkhckcfikljjhaaGreatDoorB16
namespace Go.Proofs.YtkhckcfikljjhaaGreatDoor
open Go.RowKit
open Lm
attribute [local go_sem ↓] Go.wp_at_zero Go.wp_at_succ

def dH (T:ByteArray)(w:World)(b:Bool)(a:Option Addr)(n k:Nat)(f:Int):Prop:=
 ∃z,Zn w (.agg #[.bool b,.slice a n k]) z∧((¬DgT (aF T)∧f=62)∨(DgT (aF T)∧f=0∧z=zz (isM T) (nmT (aF T))))

def dL (T:ByteArray)(w:World)(base:Nat)(b:Bool)(a:Option Addr)(n k:Nat)(c:Int):Prop:=
 (∃rs,Ans w base (.slice a n k) rs∧rs.length≤1048576)∧((¬DgT (aF T)∧b=false∧a=none∧n=0∧k=0∧c=62)∨(DgT (aF T)∧ZR w base b (.slice a n k) c (zz (isM T) (nmT (aF T)))))

theorem dH.below {T:ByteArray}{w w':World}{b:Bool}{a:Option Addr}{n k:Nat}{f:Int}(h:dH T w b a n k f)(hb:Below w.heap.size w w'):dH T w' b a n k f:=by
 obtain⟨z,h1,h2⟩:=h
 exact⟨z,h1.below hb,h2⟩

theorem dL.below {T:ByteArray}{w w':World}{base:Nat}{b:Bool}{a:Option Addr}{n k:Nat}{c:Int}(h:dL T w base b a n k c)(hb:Below w.heap.size w w'):dL T w' base b a n k c:=by
 obtain⟨⟨rs,h1,h3⟩,h2⟩:=h
 refine⟨⟨rs,h1.below hb,h3⟩,?_⟩
 rcases h2 with h2|⟨h2,h4⟩
 ·exact .inl h2
 ·exact .inr ⟨h2,h4.below hb⟩

theorem jY (T:ByteArray)(w:World)(hs:T.size≤1048576) :
  Calls Tryz.prog 6 #[.string T] w fun e w'=>(∃b a n k f,e=.returned (.tuple #[.agg #[.bool b,.slice a n k],.int .i64 f])∧dH T w' b a n k f)∧Below w.heap.size w w':=by
 refine (od T w hs).mono ?_
 rintro e w' ⟨h,hb⟩
 refine⟨?_,hb⟩
 rcases h with ⟨h1,h2⟩|⟨h1,b,a,n,k,h2,h3⟩
 ·exact⟨false,none,0,0,62,h2,0,⟨.slice none 0 0,rfl,Num.nil _⟩,.inl ⟨h1,rfl⟩⟩
 ·exact⟨b,a,n,k,0,h2,_,h3,.inr ⟨h1,rfl,rfl⟩⟩

theorem pT (T:ByteArray)(w:World)(hT:Tab w)(hs:T.size≤1048576) :
  Calls Tryz.prog 7 #[.string T] w fun e w'=>(∃b a n k c,e=.returned (.tuple #[.agg #[.bool b,.slice a n k],.int .i64 c])∧dL T w' w.heap.size b a n k c)∧Below w.heap.size w w':=by
 refine (nN T w hT hs).mono ?_
 rintro e w' ⟨h,hb⟩
 refine⟨?_,hb⟩
 rcases h with ⟨h1,h2⟩|⟨h1,b,a,n,k,c,h2,h3⟩
 ·exact⟨false,none,0,0,62,h2,⟨[],Ans.nil _ _,Nat.zero_le _⟩,.inl ⟨h1,rfl,rfl,rfl,rfl,rfl⟩⟩
 ·obtain⟨rs,hA,hc⟩:=id h3
  exact⟨b,a,n,k,c,h2,⟨rs,hA,ZR.few hc⟩,.inr ⟨h1,h3⟩⟩

theorem pD (T:ByteArray)(w:World)(base:Nat)(b:Bool)(a:Option Addr)(n k:Nat)(c:Int)(b2:Bool)(a2:Option Addr)(n2 k2:Nat)(f:Int)(h:dL T w base b a n k c)(hd:dH T w b2 a2 n2 k2 f) :
  Calls Tryz.prog 11 #[.agg #[.bool b,.slice a n k],.int .i64 c,.agg #[.bool b2,.slice a2 n2 k2],.int .i64 f] w fun e w'=>e=.returned (.bool true)∧Below w.heap.size w w':=by
 obtain⟨_,h⟩:=h
 obtain⟨z,hz,hd⟩:=hd
 rcases h with ⟨h1,rfl,rfl,rfl,rfl,rfl⟩|⟨h1,h2⟩
 ·rcases hd with ⟨_,rfl⟩|⟨h3,_⟩
  ·exact lZ 62 _ z w hz (by decide)
  ·exact absurd h3 h1
 ·rcases hd with ⟨h3,_⟩|⟨_,rfl,rfl⟩
  ·exact absurd h1 h3
  ·exact kJ b a n k c _ _ base w h2 hz

theorem ow (b:Bool)(v:Value)(X:List Nat)(n:Nat)(w:World)(hA:Arg w v X)(hT:Tab w)(hl:X.length≤1048576)(hn:aD 10 (val X) n) :
  Calls Tryz.prog 8 #[.agg #[.bool b,v]] w fun e w'=>e=.returned (.string (bh (zz b (val X)) n))∧Below w.heap.size w w':=
 (nI b v X w hA hT hl).mono fun e w' ⟨m,h1,h2,h3⟩=>⟨by rw [h1,h2.unique (by omega) hn],h3⟩

theorem kS (b:Bool)(a:Option Addr)(m c:Nat)(z:Int)(n:Nat)(w:World)(hz:Zn w (.agg #[.bool b,.slice a m c]) z)(hx:blen z.natAbs≤67108864)(hn:aD 10 z.natAbs n) :
  Calls Tryz.prog 9 #[.agg #[.bool b,.slice a m c]] w fun e w'=>e=.returned (.string (bh z n))∧Below w.heap.size w w':=
 (oK b a m c z w hz hx).mono fun e w' ⟨m,h1,h2,h3⟩=>⟨by rw [h1,h2.unique (by omega) hn],h3⟩

theorem m6 {W0 W:World}(h:Below W0.heap.size W0 W)(o:Obj):Below W0.heap.size W0 (W.alloc o):=h.alloc h.size _

set_option maxRecDepth 20000 in
set_option maxHeartbeats 8000000 in
theorem nU (b0:Bool)(v0:Value)(z0:List Nat)(T:ByteArray)(w:World)(hT:Tab w)(A0:Arg w v0 z0)(s0:z0.length≤1048576)(hs:T.size≤1048576) :
  Calls Tryz.prog 3 #[.agg #[.bool b0,v0],.string T] w fun e w'=>e=.returned (.bool true)∧Below w.heap.size w w':=by
 obtain⟨a0,n0,rfl,_,_,_⟩:=A0.form
 obtain⟨w0,hw0,hb0,h0⟩:=aM w (.cells #[.bool b0,.slice a0 z0.length n0] 24)
 have HBX:=aa ((Bx.nil w0).cons h0)
 have HA0:=aa (A0.below hb0)
 have HT:=aa (hT.below hb0)
 have HW:=aa hb0
 have hbl0:=e9 z0 A0.limbs
 obtain⟨N,hN⟩:=nj (val z0)
 have HN:=aa hN
 obtain⟨ca0,cb0⟩:=duo h0
 clear A0 hT hb0 h0 hN
 go_enter Tryz.func3,Tryz.ntmps3
 have C1:=nL b0 _ z0 w0 HA0.out (by omega)
 go_wp2_with fail
 refine C1.mono ?_
 rintro e w1 ⟨⟨aw,mw,nw,ax,mx,nx,rfl,hL,hP⟩,hb⟩
 have HL:=aa hL
 have HPx:=aa hP
 replace HBX:=aa (HBX.out.below hb)
 replace HA0:=aa (HA0.out.below hb)
 replace HT:=aa (HT.out.below hb)
 replace HW:=bU HW hb
 clear ca0 cb0 hL hP C1 hw0 hb
 obtain⟨u1,hu1,hbu,hxu⟩:=aM w1 (.cells #[.bool b0,.slice ax mx nx] 27)
 replace HBX:=aa (HBX.out.below hbu)
 replace HA0:=aa (HA0.out.below hbu)
 replace HT:=aa (HT.out.below hbu)
 replace HL:=aa (HL.out.below hbu)
 replace HPx:=aa (HPx.out.below hbu)
 replace HW:=bU HW hbu
 replace HBX:=aa (HBX.out.cons hxu)
 have C2:=jY T u1 hs
 clear hbu hxu
 go_wp2_with fail
 refine C2.mono ?_
 rintro e w2 ⟨⟨bm,am,nm,km,fm,rfl,hD⟩,hb⟩
 replace HBX:=aa (HBX.out.below hb)
 replace HA0:=aa (HA0.out.below hb)
 replace HT:=aa (HT.out.below hb)
 replace HL:=aa (HL.out.below hb)
 replace HPx:=aa (HPx.out.below hb)
 replace HW:=bU HW hb
 clear C2 hu1 hb
 obtain⟨u2,hu2,hbu,hxu⟩:=aM w2 (.cells #[.bool bm,.slice am nm km] 32)
 replace HBX:=aa (HBX.out.below hbu)
 replace HA0:=aa (HA0.out.below hbu)
 replace HT:=aa (HT.out.below hbu)
 replace HL:=aa (HL.out.below hbu)
 replace HPx:=aa (HPx.out.below hbu)
 replace HW:=bU HW hbu
 replace HBX:=aa (HBX.out.cons hxu)
 have HD:=aa (hD.below hbu)
 have HBB:Hid (Below u2.heap.size u2 u2):=aa (Below.refl _ _)
 have HLB:=HL
 have HAB:=HA0
 have HTB:=HT
 have HWB:=HW
 have C3:=pT T u2 HT.out hs
 clear hbu hxu hD
 go_wp2_with fail
 refine C3.mono ?_
 rintro e w3 ⟨⟨bp,ap,np,kp,cp,rfl,hP⟩,hb⟩
 replace HBX:=aa (HBX.out.below hb)
 replace HA0:=aa (HA0.out.below hb)
 replace HT:=aa (HT.out.below hb)
 replace HL:=aa (HL.out.below hb)
 replace HPx:=aa (HPx.out.below hb)
 replace HW:=bU HW hb
 replace HD:=aa (HD.out.below hb)
 replace HBB:=bU HBB hb
 have HP:=aa hP
 clear C3 hu2 hb hP
 obtain⟨u3,hu3,hbu,hxu⟩:=aM w3 (.cells #[.bool bp,.slice ap np kp] 27)
 replace HBX:=aa (HBX.out.below hbu)
 replace HA0:=aa (HA0.out.below hbu)
 replace HT:=aa (HT.out.below hbu)
 replace HL:=aa (HL.out.below hbu)
 replace HPx:=aa (HPx.out.below hbu)
 replace HW:=bU HW hbu
 replace HBX:=aa (HBX.out.cons hxu)
 replace HD:=aa (HD.out.below hbu)
 replace HBB:=bU HBB hbu
 replace HP:=aa (HP.out.below hbu)
 clear hbu hxu
 go_upto_region 4 with fail
 obtain⟨td,htd⟩:∃td,u3.drew=td:=⟨_,rfl⟩
 have hbd:Below u3.heap.size u3 td:=by rw [←htd];exact (Below.refl _ _).drew
 replace HBX:=aa (HBX.out.below hbd)
 replace HA0:=aa (HA0.out.below hbd)
 replace HT:=aa (HT.out.below hbd)
 replace HL:=aa (HL.out.below hbd)
 replace HPx:=aa (HPx.out.below hbd)
 replace HW:=bU HW hbd
 replace HD:=aa (HD.out.below hbd)
 replace HBB:=bU HBB hbd
 replace HP:=aa (HP.out.below hbd)
 obtain⟨⟨rp,hAp,hlp⟩,_⟩:=HP.out
 have HCH:=aa (aQ.one hAp HBB.out.size)
 have HLP:=aa hlp
 clear hbd hAp hlp
 obtain⟨S,hS⟩:∃S,bh (zz b0 (val z0)) N=S:=⟨_,rfl⟩
 have hss:(S.toList == S.toList)=true:=by simp
 have KW:Hid (∀W,Bx W _→_):=aa (fun (W:World) (h:Bx W [(w3.heap.size,Obj.cells #[.bool bp,.slice ap np kp] 27),(w2.heap.size,.cells #[.bool bm,.slice am nm km] 32),(w1.heap.size,.cells #[.bool b0,.slice ax mx nx] 27),(w.heap.size,.cells #[.bool b0,.slice a0 z0.length n0] 24)])=>
  show W.cell? ⟨w3.heap.size,0,none⟩=some (.bool bp)∧W.cell? ⟨w3.heap.size,1,none⟩=some (.slice ap np kp)∧W.cell? ⟨w2.heap.size,0,none⟩=some (.bool bm)∧W.cell? ⟨w2.heap.size,1,none⟩=some (.slice am nm km)∧W.cell? ⟨w1.heap.size,0,none⟩=some (.bool b0)∧W.cell? ⟨w1.heap.size,1,none⟩=some (.slice ax mx nx)∧W.cell? ⟨w.heap.size,0,none⟩=some (.bool b0)∧W.cell? ⟨w.heap.size,1,none⟩=some (.slice a0 z0.length n0) from
   ⟨(duo (h 0 _ _ rfl)).1,(duo (h 0 _ _ rfl)).2,(duo (h 1 _ _ rfl)).1,(duo (h 1 _ _ rfl)).2,(duo (h 2 _ _ rfl)).1,(duo (h 2 _ _ rfl)).2,(duo (h 3 _ _ rfl)).1,(duo (h 3 _ _ rfl)).2⟩)
 have KS:=aa (fun (W:World) (hg:Below td.heap.size td W)=>KW.out W (HBX.out.below hg))
 have KK:=aa (fun (W W' W2:World) (hg:Below td.heap.size td W) (hk:BK u2.heap.size W W') (h2:Below W'.heap.size W' W2)=>KW.out W2 (((HBX.out.below hg).bk hk (by rfl)).below h2))
 have g0:Below td.heap.size td td:=Below.refl _ _
 have K1:=aa (fun (W:World) (hg:Below td.heap.size td W)=>ow b0 _ z0 N W (HPx.out.below hg) (HT.out.below hg) s0 HN.out)
 have K2:=aa (fun (W:World) (hg:Below td.heap.size td W)=>nA b0 _ z0 W (HA0.out.below hg) (by omega))
 have K3:=aa (fun (W:World) (b:Bool) (a:Option Addr) (m c:Nat) (hz:Zn W (.agg #[.bool b,.slice a m c]) (zz b0 (val z0)))=>kS b a m c _ N W hz (by rw [aC];omega) (by rw [aC];exact HN.out))
 have K4:=aa (fun (W:World) (hg:Below td.heap.size td W)=>pD T W u2.heap.size bp ap np kp cp bm am nm km fm (HP.out.below hg) (HD.out.below hg))
 have K5:=aa (fun (W:World) (hg:Below td.heap.size td W)=>nO u2.heap.size [.slice ap np kp] [rp] W (HCH.out.below hg).aparts (by simp) (by have:=HLP.out;simp;omega) (Nat.le_trans HBB.out.size hg.size))
 have K6:=aa (fun (W:World) (hg:Below u2.heap.size u2 W)=>ou _ _ z0 W (HLB.out.below hg) (HAB.out.below hg) (by omega))
 have K7:=aa (fun (W:World) (hg:Below u2.heap.size u2 W)=>mJ W (HTB.out.below hg))
 rw [hS] at K1 K3
 clear hS hu3
 subst htd
 go_region_held3 (fun w'=>w'.cell? ⟨w3.heap.size,0,none⟩=some (.bool bp)∧w'.cell? ⟨w3.heap.size,1,none⟩=some (.slice ap np kp)∧w'.cell? ⟨w2.heap.size,0,none⟩=some (.bool bm)∧w'.cell? ⟨w2.heap.size,1,none⟩=some (.slice am nm km)∧w'.cell? ⟨w1.heap.size,0,none⟩=some (.bool b0)∧w'.cell? ⟨w1.heap.size,1,none⟩=some (.slice ax mx nx)∧w'.cell? ⟨w.heap.size,0,none⟩=some (.bool b0)∧w'.cell? ⟨w.heap.size,1,none⟩=some (.slice a0 z0.length n0)) (first|with_reducible exact KK.out _ _ _ g4 hk5 hb6|with_reducible exact KK.out _ _ _ g4 hk5 (Below.refl _ _) | with_reducible exact KS.out _ g4|with_reducible exact KS.out _ g3|with_reducible exact KS.out _ g2|with_reducible exact KS.out _ g1|with_reducible exact KS.out _ g0|with_reducible exact KS.out _ (m6 g4 _)) (first
  | (go_at_call 8;refine (K1.out _ g0).mono ?_;rintro e' t1 ⟨rfl,hb1⟩;have g1:=bt5 g0 hb1)
  | (go_at_call 10;refine (K2.out _ g1).mono ?_;rintro e' t2 ⟨⟨b2,a2,n2,k2,rfl,z2⟩,hb2⟩;have g2:=bt5 g1 hb2)
  | (go_at_call 9;refine (K3.out t2 b2 a2 n2 k2 z2).mono ?_;rintro e' t3 ⟨rfl,hb3⟩;have g3:=bt5 g2 hb3)
  | (go_at_call 11;refine (K4.out _ g3).mono ?_;rintro e' t4 ⟨rfl,hb4⟩;have g4:=bt5 g3 hb4)
  | (go_at_call 12;refine (K5.out _ g4).mono ?_;rintro e' t5 ⟨rfl,hk5⟩;have g5:=(bt5 HBB.out g4).trans hk5.below)
  | (go_at_call 13;refine (K6.out _ g5).mono ?_;rintro e' wn ⟨rfl,hw⟩;rw [hw];clear hw wn)
  | (go_at_call 14;refine (K7.out _ g5).mono ?_;rintro e' t6 ⟨rfl,hb6⟩))
 have HFIN:=aa (HWB.out.trans ((bt5 g5 hb6).mono HWB.out.size))
 clear hb1 hb2 hb3 hb4 hb6 hk5 g0 g1 g2 g3 g4 g5 KK KS
 go_wp2
 go_ret
 exact⟨rfl,HFIN.out⟩

end Go.Proofs.YtkhckcfikljjhaaGreatDoor
