/- Package div: guess. -/
import Derived.Test.YtcbpdngogkbndaaGreatDoorB05
import Derived.Test.YtcbpdngogkbndaaGreatDoorB04
import Derived.Test.YtcbpdngogkbndaaGreatDoorB03
import Derived.Test.YtcbpdngogkbndaaGreatDoorB01
set_option maxRecDepth 20000
set_option maxHeartbeats 1000000
namespace Go.Proofs.YtcbpdngogkbndaaGreatDoor
open Go.RowKit
open Lm
attribute [local go_sem ↓] Go.wp_at_zero Go.wp_at_succ

theorem i6 (U V:List Nat)(j:Nat)(hU:Limbs U)(hV:Limbs V)(lV:V.length=j+1)(lU:U.length=j+2) :
  Tops (val U) (val V) (U.getD (j+1) 0*18446744073709551616+U.getD j 0) (limbI U ((j:Int) - 1)) (V.getD j 0) (limbI V ((j:Int) - 1)):=by
 refine⟨?_,dN hU _,dN hV _⟩
 cases j with
 | zero=>
  refine⟨18446744073709551616,1,0,0,by omega,by omega,by omega,by omega,?_,?_⟩
  ·have h1:=val_drop_next U 0 (by omega)
   have h2:=val_drop_next U 1 (by omega)
   have h3:U.drop 2=[]:=List.drop_eq_nil_of_le (by omega)
   have h4:limbI U (((0:Nat):Int) - 1)=0:=by simp [limbI]
   rw [h3] at h2
   simp only [List.drop_zero,val,Nat.zero_add] at h1 h2
   rw [h4,h1,h2,Nat.zero_add]
   omega
  ·have h1:=val_drop_next V 0 (by omega)
   have h3:V.drop 1=[]:=List.drop_eq_nil_of_le (by omega)
   have h4:limbI V (((0:Nat):Int) - 1)=0:=by simp [limbI]
   simp only [List.drop_zero,Nat.zero_add,h3,val] at h1
   rw [h4,h1]
   omega
 | succ i=>
  refine⟨1,18446744073709551616 ^ i,val (U.take i),val (V.take i),by omega,Nat.pow_pos (by omega),val_take_lt hU i,val_take_lt hV i,?_,?_⟩
  ·have h0:=val_parts U i (by omega)
   have h1:=val_drop_next U i (by omega)
   have h2:=val_drop_next U (i+1) (by omega)
   have h5:=val_drop_next U (i+2) (by omega)
   have h3:U.drop (i+3)=[]:=List.drop_eq_nil_of_le (by omega)
   have h4:limbI U (((i+1:Nat):Int) - 1)=U.getD i 0:=by
    unfold limbI
    rw [if_neg (by omega)]
    congr 1
    omega
   rw [show i+2+1=i+3 from rfl,h3] at h5
   rw [show i+1+1=i+2 from rfl] at h2
   have h6:val ([]:List Nat)=0:=rfl
   rw [h6,Nat.mul_zero,Nat.add_zero] at h5
   rw [h4,h0,h1,h2,h5,show i+1+1=i+2 from rfl]
   generalize val (U.take i)=a
   generalize U.getD i 0=b
   generalize U.getD (i+1) 0=c
   generalize U.getD (i+2) 0=d
   generalize (18446744073709551616:Nat) ^ i=E
   generalize (18446744073709551616:Nat)=W
   grind
  ·have h0:=val_parts V i (by omega)
   have h1:=val_drop_next V i (by omega)
   have h2:=val_drop_next V (i+1) (by omega)
   have h3:V.drop (i+2)=[]:=List.drop_eq_nil_of_le (by omega)
   have h4:limbI V (((i+1:Nat):Int) - 1)=V.getD i 0:=by
    unfold limbI
    rw [if_neg (by omega)]
    congr 1
    omega
   rw [show i+1+1=i+2 from rfl,h3] at h2
   have h6:val ([]:List Nat)=0:=rfl
   rw [h6,Nat.mul_zero,Nat.add_zero] at h2
   rw [h4,h0,h1,h2]
   generalize val (V.take i)=a
   generalize V.getD i 0=b
   generalize V.getD (i+1) 0=c
   generalize (18446744073709551616:Nat) ^ i=E
   generalize (18446744073709551616:Nat)=W
   grind

theorem jH {U V uh ul u3 top next:Nat}(h:Tops U V (uh*18446744073709551616+ul) u3 top next)(huv:U<V*18446744073709551616):uh≤top:=by
 obtain⟨k,E,a,b,hk,hE,ha,hb,eU,eV⟩:=h.ex
 have hn:=h.next
 clear h
 refine Nat.le_of_not_lt fun hlt=>?_
 have h1:k*U<k*(V*18446744073709551616):=Nat.mul_lt_mul_of_pos_left huv hk
 rw [←Nat.mul_assoc,eU,eV] at h1
 have h2:top*18446744073709551616+next+1≤(top+1)*18446744073709551616:=by omega
 have h3:(top+1)*18446744073709551616≤uh*18446744073709551616+ul:=by omega
 clear hn huv
 generalize (18446744073709551616:Nat)=W at *
 generalize top*W+next=V2 at *
 generalize uh*W+ul=U2 at *
 have h4:(V2+1)*E*W≤U2*E*W:=Nat.mul_le_mul_right _ (Nat.mul_le_mul_right _ (by omega))
 have h5:(V2*E+b)*W≤(V2+1)*E*W:=Nat.mul_le_mul_right _ (by rw [Nat.add_mul];omega)
 have h6:U2*E*W≤(U2*W+u3)*E+a:=by
  have:(U2*W+u3)*E=U2*E*W+u3*E:=by grind
  omega
 omega

theorem np (vu vv:Value)(U V:List Nat)(j:Nat)(w:World)(hU:Arg w vu U)(hV:Arg w vv V)(lV:V.length=j+1)(lU:U.length=j+2)
  (ht:9223372036854775808≤V.getD j 0) (huv:val U<val V*18446744073709551616) :
  Calls Tryz.prog 124 #[vu,vv] w fun e w'=>(∃q:Nat,e=.returned (.int .u64 q)∧q<18446744073709551616∧(q=val U / val V∨q=val U / val V+1))∧ai w w':=by
 have hT:=i6 U V j hU.limbs hV.limbs lV lU
 have hh:=jH hT huv
 have HT:=aa hT
 have hvp:0<val V:=by
  rcases Nat.eq_zero_or_pos (val V) with h|h
  ·rw [h] at huv;omega
  ·exact h
 have HQ:Hid (val U / val V<18446744073709551616∧val U / val V*val V≤val U):=⟨by rw [Nat.div_lt_iff_lt_mul hvp,Nat.mul_comm];exact huv,Nat.div_mul_le_self _ _⟩
 have HVP:=aa hvp
 have hXU:=hU.few
 have hXV:=hV.few
 have z1:=limb_lt hU.limbs (j+1)
 have z2:=limb_lt hU.limbs j
 have z3:=limb_lt hV.limbs j
 have z4:=dN hU.limbs ((j:Int) - 1)
 have z5:=dN hV.limbs ((j:Int) - 1)
 obtain⟨a1,c1,rfl,hcc1,hcm1,hl1⟩:=hU.form
 obtain⟨a2,c2,rfl,hcc2,hcm2,hl2⟩:=hV.form
 have e2:(V.length:Int) - 2=(j:Int) - 1:=by omega
 have DU:Hid (∀w',ai w w'→Calls Tryz.prog 132 #[.slice a1 U.length c1,.int .i64 ((j:Int) - 1)] w' fun e w''=>e=.returned (.int .u64 ((limbI U ((j:Int) - 1):Nat):Int))∧w''=w'):=fun w' h=>ia a1 c1 U ((j:Int) - 1) w' hXU (by omega) (by omega) (hl1.below (h.below _))
 have D2:=fun n=>ia a2 c2 V ((j:Int) - 1) (w.drewN n) hXV (by omega) (by omega) (hl2.below (((ai.refl w).drewN n).below _))
 rcases hl1 with h0|⟨b,off,rfl,hcell⟩
 ·rw [h0] at lU;simp at lU
 rcases hl2 with h0|⟨b2,off2,rfl,hcell2⟩
 ·rw [h0] at lV;simp at lV
 have r1:w.cell? ⟨b,off+V.length,none⟩=some (.int .u64 ((U.getD (j+1) 0:Nat):Int)):=by rw [lV];exact hcell (j+1) (by omega)
 have r2:=hcell j (by omega)
 have r3:=hcell2 j (by omega)
 have e1:(V.length:Int) - 1=(j:Int):=by omega
 have k1:V.length<U.length:=by omega
 have k2:j<V.length:=by omega
 have k3:(V.length:Int)<(U.length:Int):=by omega
 have k4:(j:Int)<(V.length:Int):=by omega
 have k5:(j:Int)<(U.length:Int):=by omega
 have k7:(0:Int)≤(j:Int):=by omega
 have wj:IntKind.i64.wrap (j:Int)=(j:Int):=by rw [IntKind.wrap_i64];omega
 have k8:j<U.length:=by omega
 have k6:V.length≤1125899906842624:=hXV
 clear hcell hcell2 hU hV
 have HLV:=aa (And.intro lV lU)
 clear lV lU
 generalize hE1:limbI V ((j:Int) - 1)=next at *
 generalize hE2:limbI U ((j:Int) - 1)=u3 at *
 generalize hE3:U.getD (j+1) 0=uh at *
 generalize hE4:U.getD j 0=ul at *
 generalize hE5:V.getD j 0=top at *
 clear hE1 hE2 hE3 hE4 hE5 hT
 go_enter Tryz.func124,Tryz.ntmps124
 go_wp2
 go_quiet (first | (go_at_call 132;exact (D2 _).mono (fun _ _ h=>⟨h.1,_,h.2⟩)))
 have FG:=fun w'=>j2 uh ul top w' hh z2 z3 (by omega)
 obtain⟨w1,hw1⟩:∃w1,w1=w.drewN nq:=⟨_,rfl⟩
 have S1:=aa (show ai w w1 by rw [hw1];exact (ai.refl _).drewN _)
 replace r1:w1.cell? ⟨b,off+V.length,none⟩=some (.int .u64 (uh:Int)):=by rw [hw1];exact r1
 replace r2:w1.cell? ⟨b,off+j,none⟩=some (.int .u64 (ul:Int)):=by rw [hw1];exact r2
 have KC:Hid (∀w',ai w1.drew w'→w'.cell? ⟨b,off+V.length,none⟩=some (.int .u64 (uh:Int))∧w'.cell? ⟨b,off+j,none⟩=some (.int .u64 (ul:Int))):=fun w' h=>by
  have hh:w'.heap=w1.heap:=h.heap
  refine⟨?_,?_⟩
  ·rw [←r1];simp only [World.cell?,hh]
  ·rw [←r2];simp only [World.cell?,hh]
 rw [←hw1]
 clear hw1 D2 r3
 go_wp2
 go_region_held3 (fun w'=>w'.cell? ⟨b,off+V.length,none⟩=some (.int .u64 uh)∧w'.cell? ⟨b,off+j,none⟩=some (.int .u64 ul)) (go_keep) (first | (go_at_call 133;refine (FG _).mono ?_;rintro e w2 ⟨⟨q,r,o,rfl,hq,hr,ho,hqe,hql⟩,hs⟩;obtain⟨g1,g2⟩:=KC.out w2 hs))
 have S2:=aa (S1.out.drew.trans hs)
 have HI:Hid (val U / val V≤q):=by
  rcases hql with h|h
  ·have h1:=HT.out.first HQ.out.2
   have h2:val U / val V≤(uh*18446744073709551616+ul) / top:=(Nat.le_div_iff_mul_le (by omega)).2 h1
   exact Nat.le_trans h2 h
  ·have:=HQ.out.1
   show val U / val V≤q
   omega
 have HE:=aa hqe
 clear hqe hql hs S1 KC g1 g2 r1 r2 FG
 go_wp2
 go_loopw [8,9,10] (fun a b c wr=>∃q r o:Nat,a=.int .u64 q∧b=.int .u64 r∧c=.int .u64 o∧q<18446744073709551616∧r<18446744073709551616∧o≤1∧q*top+(r+o*18446744073709551616)=uh*18446744073709551616+ul∧val U / val V≤q∧ai w wr) (fun a _ _ _=>(intOf a).toNat)
 case atStart=>exact⟨q,r,o,rfl,rfl,rfl,hq,hr,ho,HE.out,HI.out,S2.out⟩
 case round=>
  clear S2 HE HI hq hr ho
  obtain⟨q,r,o,rfl,rfl,rfl,hq,hr,ho,hqe,hql,hs⟩:=hrel
  have HS:=aa hs
  have HE:=aa hqe
  have HI:=aa hql
  have DL:=DU.out wr hs
  have hmx:q*next<18446744073709551616*18446744073709551616:=by
   rcases Nat.eq_zero_or_pos next with h|h
   ·rw [h];omega
   ·exact Nat.mul_lt_mul_of_lt_of_lt hq z5
  have hsplit:q*(top*18446744073709551616+next)=q*top*18446744073709551616+q*next:=by rw [Nat.mul_add,Nat.mul_assoc]
  by_cases ho0:o=0
  ·subst ho0
   have hM:=Tryz.bits_Mul64 q next hq z5 wr
   have hPd:q*next / 18446744073709551616*18446744073709551616+q*next % 18446744073709551616=q*next:=by omega
   have hPh:q*next / 18446744073709551616<18446744073709551616:=by omega
   have hPl:q*next % 18446744073709551616<18446744073709551616:=by omega
   have hqe2:q*top+r=uh*18446744073709551616+ul:=by omega
   have HUP:Hid (q*next≤r*18446744073709551616+u3→q=val U / val V∨q=val U / val V+1):=fun hle=>by
    refine guess_end HVP.out HI.out (HT.out.up hq ht ?_)
    rw [hsplit]
    omega
   have HDN:Hid (r*18446744073709551616+u3<q*next→val U / val V<q):=fun hlt=>HT.out.down HQ.out.2 hqe2 hlt
   have HQ2:=aa hqe2
   clear hqe hql hsplit hmx hqe2 HE
   generalize hPP:q*next=PP at *
   clear hPP
   obtain⟨h,hh1⟩:∃h,PP / 18446744073709551616=h:=⟨_,rfl⟩
   obtain⟨l,hl1⟩:∃l,PP % 18446744073709551616=l:=⟨_,rfl⟩
   rw [hh1] at hPd hPh hM
   rw [hl1] at hPd hPl hM
   clear hh1 hl1
   have HPD:=aa hPd
   clear hPd
   by_cases c1:h<r
   ·have HEND:=aa (HUP.out (by have:=HPD.out;omega))
    have i1:(h:Int)<(r:Int):=by omega
    clear HUP HDN DL hs
    go_wp2_with fail
    refine hM.mono ?_
    rintro e w3 ⟨rfl,rfl⟩
    clear hM
    go_wp2
    go_ret
    exact⟨⟨q,rfl,hq,HEND.out⟩,HS.out⟩
   ·have i1:¬((h:Int)<(r:Int)):=by omega
    by_cases c2:h=r
    ·have i2:((h:Int) == (r:Int))=true:=by rw [beq_iff_eq];omega
     by_cases c3:l≤u3
     ·have HEND:=aa (HUP.out (by have:=HPD.out;rw [c2] at this;omega))
      have i3:(l:Int)≤(u3:Int):=by omega
      have HC2:=aa c2
      clear HUP HDN hs c2
      go_wp2_with fail
      refine hM.mono ?_
      rintro e w3 ⟨rfl,rfl⟩
      clear hM
      go_wp2_with fail
      refine DL.mono ?_
      rintro e w3 ⟨rfl,rfl⟩
      clear DL
      go_wp2
      go_ret
      exact⟨⟨q,rfl,hq,HEND.out⟩,HS.out⟩
     ·have HD:=aa (HDN.out (by have:=HPD.out;rw [c2] at this;omega))
      have i3:¬((l:Int)≤(u3:Int)):=by omega
      have HC2:=aa c2
      clear HUP HDN hs c2
      have ha:=bK r top
      have hq1:1≤q:=Nat.succ_le_of_lt (Nat.lt_of_le_of_lt (Nat.zero_le _) HD.out)
      have HSUM:Hid ((q - 1)*top+((r+top) % 18446744073709551616+(r+top) / 18446744073709551616*18446744073709551616)=uh*18446744073709551616+ul):=by
       refine aa ?_
       have e1:=HQ2.out
       have e2:(q - 1)*top+top=q*top:=by
        have:q - 1+1=q:=by omega
        rw [←this,Nat.add_mul,Nat.one_mul]
        simp
       have e3:(r+top) % 18446744073709551616+(r+top) / 18446744073709551616*18446744073709551616=r+top:=by omega
       rw [e3]
       generalize (q - 1)*top=x1 at *
       generalize q*top=x2 at *
       omega
      have y1:(r+top) % 18446744073709551616<18446744073709551616:=by omega
      have y2:(r+top) / 18446744073709551616≤1:=by omega
      generalize (r+top) % 18446744073709551616=r2 at *
      generalize (r+top) / 18446744073709551616=o2 at *
      have eq1:(q:Int) - 1=((q - 1:Nat):Int):=by omega
      have HQL:Hid (val U / val V≤q - 1∧q - 1<q):=⟨Nat.le_sub_one_of_lt HD.out,by omega⟩
      have hq2:q - 1<18446744073709551616:=by omega
      obtain⟨q2,hq2e⟩:∃q2,q - 1=q2:=⟨_,rfl⟩
      rw [hq2e] at eq1 HSUM HQL hq2
      clear hq2e
      go_wp2_with fail
      refine hM.mono ?_
      rintro e w3 ⟨rfl,rfl⟩
      clear hM
      go_wp2_with fail
      refine DL.mono ?_
      rintro e w3 ⟨rfl,rfl⟩
      clear DL
      go_wp2
      go_roundw
      case rel=>exact⟨q2,r2,o2,rfl,rfl,rfl,hq2,y1,y2,HSUM.out,HQL.out.1,HS.out⟩
      case measure=>have:=HQL.out.2;simp [intOf];omega
    ·have hrh:r*18446744073709551616+u3<PP:=by
      have hp:=HPD.out
      have hrh1:r+1≤h:=by omega
      omega
     have HD:=aa (HDN.out hrh)
     clear hrh
     have i2:((h:Int) == (r:Int))=false:=by rw [beq_eq_false_iff_ne];omega
     clear HUP HDN hs DL
     have ha:=bK r top
     have hq1:1≤q:=Nat.succ_le_of_lt (Nat.lt_of_le_of_lt (Nat.zero_le _) HD.out)
     have HSUM:Hid ((q - 1)*top+((r+top) % 18446744073709551616+(r+top) / 18446744073709551616*18446744073709551616)=uh*18446744073709551616+ul):=by
      refine aa ?_
      have e1:=HQ2.out
      have e2:(q - 1)*top+top=q*top:=by
       have:q - 1+1=q:=by omega
       rw [←this,Nat.add_mul,Nat.one_mul]
       simp
      have e3:(r+top) % 18446744073709551616+(r+top) / 18446744073709551616*18446744073709551616=r+top:=by omega
      rw [e3]
      generalize (q - 1)*top=x1 at *
      generalize q*top=x2 at *
      omega
     have y1:(r+top) % 18446744073709551616<18446744073709551616:=by omega
     have y2:(r+top) / 18446744073709551616≤1:=by omega
     generalize (r+top) % 18446744073709551616=r2 at *
     generalize (r+top) / 18446744073709551616=o2 at *
     have eq1:(q:Int) - 1=((q - 1:Nat):Int):=by omega
     have HQL:Hid (val U / val V≤q - 1∧q - 1<q):=⟨Nat.le_sub_one_of_lt HD.out,by omega⟩
     have hq2:q - 1<18446744073709551616:=by omega
     obtain⟨q2,hq2e⟩:∃q2,q - 1=q2:=⟨_,rfl⟩
     rw [hq2e] at eq1 HSUM HQL hq2
     clear hq2e
     go_wp2_with fail
     refine hM.mono ?_
     rintro e w3 ⟨rfl,rfl⟩
     clear hM
     go_wp2
     go_roundw
     case rel=>exact⟨q2,r2,o2,rfl,rfl,rfl,hq2,y1,y2,HSUM.out,HQL.out.1,HS.out⟩
     case measure=>have:=HQL.out.2;simp [intOf];omega
  ·have HEND:Hid (q=val U / val V∨q=val U / val V+1):=by
    refine guess_end HVP.out HI.out (HT.out.up hq ht ?_)
    rw [hsplit]
    have e:o=1:=by omega
    subst e
    omega
   have hne:((o:Int) == 0)=false:=by rw [beq_eq_false_iff_ne];omega
   clear hqe hql hs DL hsplit hmx
   go_wp2
   go_ret
   exact⟨⟨q,rfl,hq,HEND.out⟩,HS.out⟩
end Go.Proofs.YtcbpdngogkbndaaGreatDoor
namespace Go.Proofs.YtcbpdngogkbndaaGreatDoor
open Go.RowKit
open Lm

structure Fr2 (b1 b2:Nat)(w w':World):Prop where
 os:w'.os=w.os
 tape:w'.tape=w.tape
 output:w'.output=w.output
 size:w.heap.size≤w'.heap.size
 block:∀k,k<w.heap.size→k≠b1→k≠b2→w'.heap[k]?=w.heap[k]?

theorem Fr2.refl (b1 b2:Nat)(w:World):Fr2 b1 b2 w w:=⟨rfl,rfl,rfl,Nat.le_refl _,fun _ _ _ _=>rfl⟩

theorem Fr2.trans {b1 b2:Nat}{a b c:World}(h:Fr2 b1 b2 a b)(k:Fr2 b1 b2 b c):Fr2 b1 b2 a c:=
 ⟨k.os.trans h.os,k.tape.trans h.tape,k.output.trans h.output,Nat.le_trans h.size k.size,fun i h1 h2 h3=>(k.block i (Nat.lt_of_lt_of_le h1 h.size) h2 h3).trans (h.block i h1 h2 h3)⟩

theorem Fr.left2 {b1 b2:Nat}{w w':World}(h:Fr b1 w w'):Fr2 b1 b2 w w':=⟨h.os,h.tape,h.output,h.size,fun k h1 h2 _=>h.block k h1 h2⟩

theorem Fr.right2 {b1 b2:Nat}{w w':World}(h:Fr b2 w w'):Fr2 b1 b2 w w':=⟨h.os,h.tape,h.output,h.size,fun k h1 _ h3=>h.block k h1 h3⟩

theorem Blk.frb {w w':World}{b bz:Nat}{xs:List Nat}(h:Blk w b xs)(hf:Fr bz w w')(hne:b≠bz):Blk w' b xs:=(hf.block b h.lt hne).trans h

theorem je {S V q S1 X:Nat}(hV:0<V)(hq:q=S / V∨q=S / V+1)(h1:S1+V*q=S)(_hX:S1<X):q=S / V∧S1=S % V:=by
 have h2:=Nat.div_add_mod S V
 have h3:=Nat.mod_lt S hV
 rcases hq with h|h
 ·rw [h] at h1
  exact⟨h,by omega⟩
 ·rw [h,Nat.mul_add,Nat.mul_one] at h1
  omega

theorem mJ {S V q S1 S2 c X:Nat}(hV:0<V)(hq:q=S / V∨q=S / V+1)(h1:S1+V*q=S+1*X)(hX:S1<X)(h2:S2+c*X=S1+V)(hX2:S2<X)(hc:c≤1):q - 1=S / V∧1≤q∧S2=S % V:=by
 have h3:=Nat.div_add_mod S V
 have h4:=Nat.mod_lt S hV
 generalize S / V=d at *
 generalize S % V=r at *
 rcases hq with h|h
 ·rw [h] at h1
  omega
 ·rw [h,Nat.mul_add,Nat.mul_one] at h1
  generalize V*d=y at *
  refine⟨by omega,by omega,?_⟩
  rcases (by omega:c=0∨c=1) with rfl|rfl
  ·omega
  ·omega

structure aU (bq qo m bu uo n VV:Nat)(Q U:List Nat)(w wr:World)(k:Nat)(Q' U':List Nat):Prop where
 outQ:Out Q Q' (qo+k) (qo+m)
 limQ:Limbs Q'
 blkQ:Blk wr bq Q'
 outU:Out U U' (uo+k) (uo+(m+n))
 limU:Limbs U'
 blkU:Blk wr bu U'
 fr:Fr2 bq bu w wr
 eq:sv Q' (qo+k) (m - k)*VV+sv U' (uo+k) n=sv U (uo+k) (n+(m - k))
 lt:sv U' (uo+k) n<VV
 top:sv U' (uo+k+n) (m - k)=0

theorem aU.step {bq qo m bu uo n VV:Nat}{Q U:List Nat}{w wr w2:World}{i:Nat}{Q' U' U2:List Nat}(h:aU bq qo m bu uo n VV Q U w wr (i+1) Q' U')(hi:i<m)
  (hq:qo+m≤Q.length) (hu:uo+(m+n)≤U.length) (hV:0<VV) (hVn:VV≤18446744073709551616 ^ n) (qd:Nat) (hqd:qd<18446744073709551616) (e1:qd=sv U' (uo+i) (n+1) / VV)
  (hO:Out U' U2 (uo+i) (uo+i+(n+1))) (hL:Limbs U2) (e2:sv U2 (uo+i) (n+1)=sv U' (uo+i) (n+1) % VV)
  (hB:Blk w2 bu U2) (hBq:Blk w2 bq (Q'.set (qo+i) qd)) (hf:Fr2 bq bu wr w2):aU bq qo m bu uo n VV Q U w w2 i (Q'.set (qo+i) qd) U2:=by
 have hlQ:=h.outQ.len
 have hlU:=h.outU.len
 have hlU2:=hO.len
 have hr:sv U' (uo+i) (n+1) % VV<VV:=Nat.mod_lt _ hV
 have hsp:=ag U2 (uo+i) n 1 (by omega)
 have hone:=dX U2 (uo+i+n) (by omega)
 rw [hone] at hsp
 have htop:U2.getD (uo+i+n) 0=0:=by
  rcases Nat.eq_zero_or_pos (U2.getD (uo+i+n) 0) with h0|h0
  ·exact h0
  ·have:=Nat.mul_le_mul_left (18446744073709551616 ^ n) h0
   omega
 rw [htop,Nat.mul_zero] at hsp
 simp only [Nat.add_zero] at hsp
 have hS:=cj U' (uo+i) 0 (n+1) (by omega) (by omega)
 rw [Nat.add_zero,Nat.sub_zero,Nat.zero_add,Nat.add_sub_cancel] at hS
 have hUi:=h.outU.same (uo+i) (by omega)
 have hUs:=cj U (uo+i) 0 (n+(m - i)) (by omega) (by omega)
 rw [Nat.add_zero,Nat.sub_zero,Nat.zero_add,show n+(m - i) - 1=n+(m - (i+1)) by omega] at hUs
 have hQs:=cj (Q'.set (qo+i) qd) (qo+i) 0 (m - i) (by simp;omega) (by omega)
 rw [Nat.add_zero,Nat.sub_zero,Nat.zero_add,cE,if_pos ⟨rfl,by omega⟩,show m - i - 1=m - (i+1) by omega] at hQs
 have eO:Out Q' (Q'.set (qo+i) qd) (qo+i) (qo+(i+1)):=(Out.refl _ _ _).set _ _ (by omega) (by omega)
 rw [show qo+i+1=qo+(i+1) from rfl,eO.sv (qo+(i+1)) (m - (i+1)) (by omega)] at hQs
 refine⟨?_,limbs_set h.limQ _ _ hqd,hBq,?_,hL,hB,h.fr.trans hf,?_,?_,?_⟩
 ·exact (h.outQ.wider (by omega) (Nat.le_refl _)).set _ _ (by omega) (by omega)
 ·exact (h.outU.wider (by omega) (Nat.le_refl _)).trans (hO.wider (by omega) (by omega))
 ·rw [hQs,hUs,←hUi,←hsp,e2,show uo+i+1=uo+(i+1) from rfl,←h.eq]
  rw [show uo+i+1=uo+(i+1) from rfl] at hS
  have h5:=Nat.div_add_mod (sv U' (uo+i) (n+1)) VV
  rw [←e1] at h5
  generalize sv U' (uo+i) (n+1) % VV=r at *
  generalize sv U' (uo+i) (n+1)=S at *
  generalize sv Q' (qo+(i+1)) (m - (i+1))=a at *
  generalize sv U' (uo+(i+1)) n=b at *
  generalize U'.getD (uo+i) 0=c at *
  have e6:(qd+18446744073709551616*a)*VV=VV*qd+18446744073709551616*(a*VV):=by
   rw [Nat.add_mul,Nat.mul_comm qd,Nat.mul_assoc]
  rw [e6,Nat.mul_add]
  omega
 ·rw [←hsp,e2];exact hr
 ·have hc:=cj U2 (uo+i+n) 0 (m - i) (by omega) (by omega)
  rw [Nat.add_zero,Nat.sub_zero,Nat.zero_add,htop,Nat.zero_add,show m - i - 1=m - (i+1) by omega] at hc
  rw [hc,hO.sv (uo+i+n+1) (m - (i+1)) (by omega),show uo+i+n+1=uo+(i+1)+n by omega,h.top]

def bd (w:World)(g N v:Nat):Prop:=∃A:List Nat,Blk w g A∧Limbs A∧A.length=N∧val A=v

theorem bd.fr {w w':World}{g N v bz:Nat}(h:bd w g N v)(hf:Fr bz w w')(hne:g≠bz):bd w' g N v:=by
 obtain⟨A,h1,h2⟩:=h
 exact⟨A,hf.blk h1 hne,h2⟩

theorem bd.arg {w:World}{g N v:Nat}(h:bd w g N v)(hN:N≤1125899906842624):∃A:List Nat,Arg w (.slice (some ⟨g,0,none⟩) N N) A∧val A=v:=by
 obtain⟨A,h1,h2,h3,h4⟩:=h
 refine⟨A,?_,h4⟩
 have:=h1.take_arg h2 N N (by omega) (Nat.le_refl _) (by omega)
 rwa [List.take_of_length_le (by omega)] at this

theorem ae {g g' o n c:Nat}(h:g≠g'):∀lo hi,Off (.slice (some ⟨g,o,none⟩) n c) g' lo hi:=fun lo hi b off n c e=>by
 cases e
 exact .inl h

structure St3 (w0 ws w:World)(bz o e t N:Nat)(Z:List Nat)(vo ve vt:Nat):Prop where
 fr:Fr bz w0 w
 blk:Blk w bz Z
 lz:Limbs Z
 lt:bz<w0.heap.size
 no:w0.heap.size≤o
 ne:w0.heap.size≤e
 nt:w0.heap.size≤t
 oe:o≠e
 ot:o≠t
 et:e≠t
 ho:bd w o N vo
 he:bd w e N ve
 ht:bd w t N vt
 size:ws.heap.size≤w.heap.size
 keep:∀k,k<ws.heap.size→k≠bz→k≠o→k≠e→k≠t→w.heap[k]?=ws.heap[k]?

theorem St3.oe' {w0 ws w:World}{bz o e t N:Nat}{Z:List Nat}{vo ve vt:Nat}(h:St3 w0 ws w bz o e t N Z vo ve vt):St3 w0 ws w bz e o t N Z ve vo vt:=
 ⟨h.fr,h.blk,h.lz,h.lt,h.ne,h.no,h.nt,Ne.symm h.oe,h.et,h.ot,h.he,h.ho,h.ht,h.size,fun k a b c d e=>h.keep k a b d c e⟩

theorem St3.et' {w0 ws w:World}{bz o e t N:Nat}{Z:List Nat}{vo ve vt:Nat}(h:St3 w0 ws w bz o e t N Z vo ve vt):St3 w0 ws w bz o t e N Z vo vt ve:=
 ⟨h.fr,h.blk,h.lz,h.lt,h.no,h.nt,h.ne,h.ot,h.oe,Ne.symm h.et,h.ho,h.ht,h.he,h.size,fun k a b c d e=>h.keep k a b c e d⟩

theorem St3.up {w0 ws w:World}{bz o e t N:Nat}{Z:List Nat}{vo ve vt:Nat}(h:St3 w0 ws w bz o e t N Z vo ve vt){E:List Nat}{p:Nat}{en:Ending}{w':World}(hl:E.length=N)(hd:au e 0 N E w p en w') :
  en=.returned (.tuple #[])∧St3 w0 ws w' bz o e t N Z vo p vt:=by
 obtain⟨rfl,E',q1,q2,q3,q4,q5⟩:=hd
 have hlt:=h.lt
 have hne:=h.ne
 have hE:E'.length=N:=by rw [q1.len,hl]
 refine⟨rfl,h.fr.other q4 h.ne,q4.blk h.blk (by omega),h.lz,h.lt,h.no,h.ne,h.nt,h.oe,h.ot,h.et,h.ho.fr q4 h.oe,⟨E',q3,q2,hE,?_⟩,h.ht.fr q4 (Ne.symm h.et),Nat.le_trans h.size q4.size,fun k a b c d f=>(q4.block k (Nat.lt_of_lt_of_le a h.size) d).trans (h.keep k a b c d f)⟩
 rw [←q5,←hE,aR]

theorem St3.upz {w0 ws w:World}{bz o e t N:Nat}{Z:List Nat}{vo ve vt:Nat}(h:St3 w0 ws w bz o e t N Z vo ve vt){zo n p:Nat}{en:Ending}{w':World}(hd:au bz zo n Z w p en w') :
  en=.returned (.tuple #[])∧∃Z',St3 w0 ws w' bz o e t N Z' vo ve vt∧Out Z Z' zo (zo+n)∧sv Z' zo n=p:=by
 obtain⟨rfl,Z',q1,q2,q3,q4,q5⟩:=hd
 have hlt:=h.lt
 have h1:=h.no
 have h2:=h.ne
 have h3:=h.nt
 exact⟨rfl,Z',⟨h.fr.trans q4,q3,q2,h.lt,h.no,h.ne,h.nt,h.oe,h.ot,h.et,h.ho.fr q4 (by omega),h.he.fr q4 (by omega),h.ht.fr q4 (by omega),Nat.le_trans h.size q4.size,fun k a b c d f=>(q4.block k (Nat.lt_of_lt_of_le a h.size) b).trans (h.keep k a b c d f)⟩,q1,q5⟩

theorem bh {E:List Nat}{N:Nat}(h:E.length=N):sv E 0 N=val E:=by rw [←h,aR]

theorem St3.plus {w0 ws w:World}{bz o e t N:Nat}{Z:List Nat}{vo ve vt:Nat}(h:St3 w0 ws w bz o e t N Z vo ve vt)(hN:N≤1125899906842624)(p:Nat){va:Value}{A:List Nat}(hA:Arg w va A)(hoff:Off va e 0 (0+N))(hp:p=ve+val A)(hfit:p<18446744073709551616 ^ N) :
  Calls Tryz.prog 143 #[.slice (some ⟨e,0,none⟩) N N,va] w fun en w'=>en=.returned (.tuple #[])∧St3 w0 ws w' bz o e t N Z vo p vt:=by
 obtain⟨E,h1,h2,h3,h4⟩:=h.he
 have:=cz e 0 N N E va A w h1 h2 hA hoff (by omega) (Nat.le_refl _) (by omega) (by rw [bh h3,h4];omega)
 rw [bh h3,h4,←hp] at this
 exact this.mono fun en w' hd=>h.up h3 hd

theorem St3.minus {w0 ws w:World}{bz o e t N:Nat}{Z:List Nat}{vo ve vt:Nat}(h:St3 w0 ws w bz o e t N Z vo ve vt)(hN:N≤1125899906842624)(p:Nat){va:Value}{A:List Nat}(hA:Arg w va A)(hoff:Off va e 0 (0+N))(hp:ve=p+val A) :
  Calls Tryz.prog 145 #[.slice (some ⟨e,0,none⟩) N N,va] w fun en w'=>en=.returned (.tuple #[])∧St3 w0 ws w' bz o e t N Z vo p vt:=by
 obtain⟨E,h1,h2,h3,h4⟩:=h.he
 have:=dZ e 0 N N E va A w h1 h2 hA hoff (by omega) (Nat.le_refl _) (by omega) (by rw [bh h3,h4];omega)
 rw [bh h3,h4,show ve - val A=p by omega] at this
 exact this.mono fun en w' hd=>h.up h3 hd

theorem St3.minusTimes {w0 ws w:World}{bz o e t N:Nat}{Z:List Nat}{vo ve vt:Nat}(h:St3 w0 ws w bz o e t N Z vo ve vt)(hN:N≤1125899906842624)(p k:Nat){va:Value}{A:List Nat}(hA:Arg w va A)(hoff:Off va e 0 (0+N))(hp:ve=p+val A*k)(hk0:0<k)(hk:k<18446744073709551616) :
  Calls Tryz.prog 146 #[.slice (some ⟨e,0,none⟩) N N,va,.int .u64 k] w fun en w'=>en=.returned (.tuple #[])∧St3 w0 ws w' bz o e t N Z vo p vt:=by
 obtain⟨E,h1,h2,h3,h4⟩:=h.he
 have:=ka e 0 N N E va A k w h1 h2 hA hoff (by omega) (Nat.le_refl _) (by omega) hk0 hk (by rw [bh h3,h4];omega)
 rw [bh h3,h4,show ve - val A*k=p by omega] at this
 exact this.mono fun en w' hd=>h.up h3 hd

theorem St3.half {w0 ws w:World}{bz o e t N:Nat}{Z:List Nat}{vo ve vt:Nat}(h:St3 w0 ws w bz o e t N Z vo ve vt)(hN:N≤1125899906842624)(p:Nat)(hp:ve=2*p) :
  Calls Tryz.prog 144 #[.slice (some ⟨e,0,none⟩) N N] w fun en w'=>en=.returned (.tuple #[])∧St3 w0 ws w' bz o e t N Z vo p vt:=by
 obtain⟨E,h1,h2,h3,h4⟩:=h.he
 have:=nh e 0 N N E w h1 h2 (by omega) (Nat.le_refl _) (by omega)
 rw [bh h3,h4,show ve / 2=p by omega] at this
 exact this.mono fun en w' hd=>h.up h3 hd

theorem St3.third {w0 ws w:World}{bz o e t N:Nat}{Z:List Nat}{vo ve vt:Nat}(h:St3 w0 ws w bz o e t N Z vo ve vt)(hN:N≤1125899906842624)(p:Nat)(hp:ve=3*p) :
  Calls Tryz.prog 147 #[.slice (some ⟨e,0,none⟩) N N] w fun en w'=>en=.returned (.tuple #[])∧St3 w0 ws w' bz o e t N Z vo p vt:=by
 obtain⟨E,h1,h2,h3,h4⟩:=h.he
 have:=jE e 0 N N E w h1 h2 (by omega) (Nat.le_refl _) (by omega) (by rw [bh h3,h4];omega)
 rw [bh h3,h4,show ve / 3=p by omega] at this
 exact this.mono fun en w' hd=>h.up h3 hd

theorem St3.add {w0 ws w:World}{bz o e t N:Nat}{Z:List Nat}{vo ve vt:Nat}(h:St3 w0 ws w bz o e t N Z vo ve vt)(zo n k cap:Nat){va:Value}{A:List Nat}(hA:Arg w va A)(hoff:Off va bz (zo+k) (zo+k+(n - k)))(hk:k≤n)(hz:zo+n≤Z.length)(hc1:n - k≤cap)(hc2:cap≤9223372036854775807)
  (tot:Nat) (hle:sv Z zo n+18446744073709551616 ^ k*val A≤tot) (htot:tot<18446744073709551616 ^ n) :
  Calls Tryz.prog 143 #[.slice (some ⟨bz,zo+k,none⟩) (n - k) cap,va] w fun en w'=>en=.returned (.tuple #[])∧∃Z',St3 w0 ws w' bz o e t N Z' vo ve vt∧Out Z Z' zo (zo+n)∧sv Z' zo n=sv Z zo n+18446744073709551616 ^ k*val A:=by
 have hfit:=fs Z zo k n (val A) tot hk hz hle htot
 have:=cz bz (zo+k) (n - k) cap Z va A w h.blk h.lz hA hoff (by omega) hc1 hc2 hfit
 refine this.mono fun en w' hd=>?_
 obtain⟨he,Z',h1,h2,h3⟩:=h.upz hd
 rw [show zo+k+(n - k)=zo+n by omega] at h2
 exact⟨he,Z',h1,h2.wider (by omega) (Nat.le_refl _),d8 Z Z' zo k n _ hk hz h2 h3⟩
end Go.Proofs.YtcbpdngogkbndaaGreatDoor
namespace Go.Proofs.YtcbpdngogkbndaaGreatDoor
open Go.RowKit
open Lm
attribute [local go_sem ↓] Go.wp_at_zero Go.wp_at_succ

theorem Arg.fr2 {w w':World}{b off n c b1 b2:Nat}{X:List Nat}(h:Arg w (.slice (some ⟨b,off,none⟩) n c) X)(hf:Fr2 b1 b2 w w')(h1:b≠b1)(h2:b≠b2):Arg w' (.slice (some ⟨b,off,none⟩) n c) X:=by
 by_cases hb:b<w.heap.size
 ·obtain⟨ao,cap,e1,g1,g2,g3⟩:=h.form
  refine⟨⟨ao,cap,e1,g1,g2,?_⟩,h.limbs,h.few,h.nz⟩
  rcases g3 with h0|⟨b',off',rfl,hc⟩
  ·exact .inl h0
  ·cases e1
   refine .inr ⟨_,_,rfl,fun k hk=>?_⟩
   rw [World.cell?_of_block (w:=w) (hf.block b hb h1 h2)]
   exact hc k hk
 ·obtain⟨ao,cap,e1,g1,g2,g3⟩:=h.form
  refine⟨⟨ao,cap,e1,g1,g2,?_⟩,h.limbs,h.few,h.nz⟩
  rcases g3 with h0|⟨b',off',rfl,hc⟩
  ·exact .inl h0
  ·cases e1
   by_cases hX:X.length=0
   ·exact .inl (List.length_eq_zero_iff.1 hX)
   ·exact absurd (ak.block (zs:=X) (.inr ⟨_,_,rfl,hc⟩) (by omega)) hb

def cB (bq qo m bu uo n VV:Nat)(Q U:List Nat)(w:World)(e:Ending)(w':World):Prop:=
 e=.returned (.tuple #[])∧∃Q' U':List Nat,aU bq qo m bu uo n VV Q U w w' 0 Q' U'

theorem fK (bq qo m qcap bu uo ucap bv ov vcap j:Nat)(Q U V:List Nat)(w:World)
  (hQ:Blk w bq Q) (lQ:Limbs Q) (hU:Blk w bu U) (lU:Limbs U) (hV:Arg w (.slice (some ⟨bv,ov,none⟩) V.length vcap) V) (lV:V.length=j+1) (ht:9223372036854775808≤V.getD j 0)
  (n1:bq≠bu) (n2:bv≠bq) (n3:bv≠bu) (q1:qo+m≤Q.length) (q2:m≤qcap) (q3:qcap≤9223372036854775807) (u1:uo+(m+V.length)≤U.length) (u2:m+V.length≤ucap) (u3:ucap≤9223372036854775807)
  (few:m+V.length≤1125899906842623) (hlt:sv U (uo+m) V.length<val V) :
  Calls Tryz.prog 119 #[.slice (some ⟨bq,qo,none⟩) m qcap,.slice (some ⟨bu,uo,none⟩) (m+V.length) ucap,.slice (some ⟨bv,ov,none⟩) V.length vcap] w (cB bq qo m bu uo V.length (val V) Q U w):=by
 have HJ:=aa lV
 have HV0:Hid (0<val V∧val V≤18446744073709551616 ^ V.length):=⟨by omega,Nat.le_of_lt (val_lt hV.limbs)⟩
 have START:Hid (aU bq qo m bu uo V.length (val V) Q U w w m Q U):=⟨Out.refl _ _ _,lQ,hQ,Out.refl _ _ _,lU,hU,Fr2.refl _ _ _,by rw [Nat.sub_self,aH,Nat.zero_mul,Nat.zero_add,Nat.add_zero],hlt,by rw [Nat.sub_self,aH]⟩
 have HVA:=aa hV
 have vc:=hV.form
 clear lV hQ lQ hU lU hlt hV vc
 go_enter Tryz.func119,Tryz.ntmps119
 go_wp2
 go_loopw [6] (fun i wr=>∃(k:Nat) (Q' U':List Nat),k≤m∧i=.int .i64 ((k:Int) - 1)∧aU bq qo m bu uo V.length (val V) Q U w wr k Q' U') (fun i _=>(intOf i+1).toNat)
 case atStart=>exact⟨m,Q,U,Nat.le_refl _,rfl,START.out⟩
 case round=>
  obtain⟨k,Q',U',hk,rfl,hrel⟩:=hrel
  have HR:=aa hrel
  clear hrel START
  by_cases hk0:k=0
  ·subst hk0
   go_wp2
   go_end0
   exact⟨rfl,Q',U',HR.out⟩
  ·obtain⟨i,rfl⟩:∃i,k=i+1:=⟨k - 1,by omega⟩
   have ej:(((i+1:Nat):Int) - 1)=(i:Int):=by omega
   rw [ej]
   clear ej hk0
   have hcu:¬ucap=i:=by omega
   have y1:(0:Int)≤(i:Int):=by omega
   have y2:(i:Int)<(m:Int):=by omega
   have y3:(i:Int)+(V.length:Int)+1≤(ucap:Int):=by omega
   have y4:i+V.length+1 - i=V.length+1:=by omega
   have hsl:(seg U' (uo+i) (V.length+1)).length=V.length+1:=aT _ _ _ (by rw [HR.out.outU.len];omega)
   have hS:=cj U' (uo+i) 0 (V.length+1) (by rw [HR.out.outU.len];omega) (by omega)
   rw [Nat.add_zero,Nat.sub_zero,Nat.zero_add,Nat.add_sub_cancel,show uo+i+1=uo+(i+1) from rfl] at hS
   have hlim:=limb_lt HR.out.limU (uo+i)
   have hlow:=HR.out.lt
   have huv:val (seg U' (uo+i) (V.length+1))<val V*18446744073709551616:=by
    show sv U' (uo+i) (V.length+1)<_
    rw [hS];omega
   have hVr:=HVA.out.fr2 HR.out.fr n2 n3
   have HG:=np (.slice (some ⟨bu,uo+i,none⟩) (V.length+1) (ucap - i)) (.slice (some ⟨bv,ov,none⟩) V.length vcap) (seg U' (uo+i) (V.length+1)) V j wr
    (HR.out.blkU.seg_arg HR.out.limU (uo+i) (V.length+1) (ucap - i) (by rw [HR.out.outU.len];omega) (by omega) (by omega) (by omega)) hVr HJ.out (by have:=HJ.out;omega) ht huv
   have HS:=aa hsl
   clear hS hlim hlow huv hsl
   have HVR:=aa hVr
   clear hVr
   go_wp2_with fail
   refine HG.mono ?_
   rintro e w2 ⟨⟨qd,rfl,hqd,hqe⟩,hs⟩
   have HQE:Hid (qd=sv U' (uo+i) (V.length+1) / val V∨qd=sv U' (uo+i) (V.length+1) / val V+1):=hqe
   have bq2:=HR.out.blkQ.below (hs.below _) HR.out.blkQ.lt
   have bu2:=HR.out.blkU.below (hs.below _) HR.out.blkU.lt
   have f1:=bq2.free (qo+i)
   have c1:=bq2.cell (qo+i) (by rw [HR.out.outQ.len];omega)
   have bq3:=bq2.set (qo+i) qd
   have bu3:=bu2.other ⟨bq,qo+i,none⟩ (.int .u64 (qd:Int)) (Ne.symm n1)
   have F3:=aa (show Fr2 bq bu wr (w2.setCell ⟨bq,qo+i,none⟩ (.int .u64 (qd:Int))) from (Fr.of_below (hs.below _):Fr bq wr w2).left2.trans ((Fr.refl bq w2).setCell _ _).left2)
   have HM:=ml bu (uo+i) (V.length+1) (ucap - i) U' _ V qd _ bu3 HR.out.limU (HVR.out.fr2 F3.out n2 n3) (ae n3 _ _) (by rw [HR.out.outU.len];omega) (by omega) (by omega) hqd (by omega)
   have BQ3:=aa bq3
   generalize Q'.getD (qo+i) 0=oq at *
   clear hqe HG bq2 bu2 bq3 bu3 hs
   go_wp2_with fail
   refine HM.mono ?_
   rintro e w4 ⟨cy,U2,hcy,rfl,ho4,hl4,hb4,hf4,hv4⟩
   have hX1:=bj hl4 (uo+i) (V.length+1)
   have hX2:=bj HR.out.limU (uo+i) (V.length+1)
   have bq4:=BQ3.out.frb hf4 n1
   have F4:=aa (F3.out.trans hf4.right2)
   clear HM
   by_cases hc0:cy=0
   ·subst hc0
    obtain⟨k1,k2⟩:=je HV0.out.1 HQE.out (show _+val V*qd=_ by rw [hv4];omega) hX1
    have HSTEP:=aa (HR.out.step (by omega) q1 u1 HV0.out.1 HV0.out.2 qd hqd k1 ho4 hl4 k2 hb4 bq4 F4.out)
    clear ho4 hl4 hb4 hf4 hv4 hX1 hX2 bq4 k1 k2 F4 HR
    go_wp2
    go_roundw
    case rel=>exact⟨i,_,U2,by omega,rfl,HSTEP.out⟩
    case measure=>simp [intOf]
   ·have hc1:cy=1:=by omega
    have hpos:(0:Int)<(cy:Int):=by omega
    have hq1:1≤qd:=by
     rcases Nat.eq_zero_or_pos qd with h|h
     ·rw [h,hc1,Nat.mul_zero] at hv4
      omega
     ·exact h
    have lq:(Q'.set (qo+i) qd).length=Q.length:=by rw [List.length_set,HR.out.outQ.len]
    have f4:=bq4.free (qo+i)
    have c4:w4.cell? ⟨bq,qo+i,none⟩=some (.int .u64 (qd:Int)):=by
     have:=bq4.cell (qo+i) (by omega)
     rw [cE,if_pos ⟨rfl,by rw [HR.out.outQ.len];omega⟩] at this
     exact this
    have bq5:=bq4.set (qo+i) (qd - 1)
    rw [List.set_set] at bq5
    have bu5:=hb4.other ⟨bq,qo+i,none⟩ (.int .u64 ((qd - 1:Nat):Int)) (Ne.symm n1)
    have F5:=aa (F4.out.trans ((Fr.refl bq w4).setCell (qo+i) (.int .u64 ((qd - 1:Nat):Int))).left2)
    have HP:=dc bu (uo+i) (V.length+1) (ucap - i) U2 _ V _ bu5 hl4 (HVR.out.fr2 F5.out n2 n3) (ae n3 _ _) (by rw [ho4.len,HR.out.outU.len];omega) (by omega) (by omega) (by omega)
    have BQ5:=aa bq5
    have H4:=aa (And.intro ho4 (And.intro hl4 (And.intro hv4 hX1)))
    have eq1:(qd:Int) - 1=((qd - 1:Nat):Int):=by omega
    have hq2:qd - 1<18446744073709551616:=by omega
    obtain⟨q',hq'⟩:∃q',qd - 1=q':=⟨_,rfl⟩
    have HQ':=aa hq'
    rw [hq'] at eq1 hq2 HP BQ5 F5
    clear bq4 bq5 bu5 hq' hv4 ho4 hl4 hb4 hf4 hX1 hX2 F4 lq
    have HC1:=aa hc1
    clear hc1
    go_wp2_with fail
    refine HP.mono ?_
    rintro e w6 ⟨c6,U6,hc6,rfl,ho6,hl6,hb6,hf6,hv6⟩
    have hX6:=bj hl6 (uo+i) (V.length+1)
    obtain⟨k1,k2,k3⟩:=mJ HV0.out.1 HQE.out (show _+val V*qd=_+1*_ by rw [H4.out.2.2.1,HC1.out]) H4.out.2.2.2 hv6 hX6 hc6
    rw [HQ'.out] at k1
    have HSTEP:=aa (HR.out.step (by omega) q1 u1 HV0.out.1 HV0.out.2 q' hq2 k1 (H4.out.1.trans ho6) hl6 k3 hb6 (BQ5.out.frb hf6 n1) (F5.out.trans hf6.right2))
    clear ho6 hl6 hb6 hf6 hv6 hX6 k1 k2 k3 HP HR
    go_wp2
    go_roundw
    case rel=>exact⟨i,_,U6,by omega,rfl,HSTEP.out⟩
    case measure=>simp [intOf]
end Go.Proofs.YtcbpdngogkbndaaGreatDoor
namespace Go.Proofs.YtcbpdngogkbndaaGreatDoor
open Go.RowKit
open Lm

theorem gN (v:Value)(base:Nat)(xs:List Nat)(w:World)(h:Ans w base v xs)(hf:xs.length≤1125899906842624) :
  Calls Tryz.prog 107 #[v] w fun e w'=>w'=w∧Res w base e (val xs):=by
 have ha:=h.arg hf
 obtain⟨ao,cap,rfl,hcap,hmax,hlies⟩:=ha.form
 have hle:=tr_length_le xs
 have H1:=ce _ cap xs w hcap hmax hlies
 have H2:=aQ _ _ _ ha
 have HA:Hid (Ans w base (.slice ao (tr xs).length cap) (tr xs)):=h.trim
 have HT:Hid (tr (tr xs)=tr xs∧val (tr xs)=val xs):=⟨tr_tr xs,val_tr xs⟩
 unfold Res
 generalize tr xs=T at *
 generalize val xs=V at *
 generalize blen V=y at *
 clear hlies h ha
 by_cases hy:y≤67108864
 ·go_enter Tryz.func107,Tryz.ntmps107
  go_wp2_with fail
  refine H2.mono ?_
  rintro e w' ⟨rfl,rfl⟩
  go_wp2_with fail
  refine H1.mono ?_
  rintro e w' ⟨rfl,rfl⟩
  go_wp2
  go_ret2
  exact⟨rfl,_,_,T,rfl,HA.out,.inl ⟨rfl,HT.out.2,HT.out.1,hy⟩⟩
 ·go_enter Tryz.func107,Tryz.ntmps107
  go_wp2_with fail
  refine H2.mono ?_
  rintro e w' ⟨rfl,rfl⟩
  go_wp2
  go_ret2
  exact⟨rfl,_,_,[],rfl,Ans.nil _ _,.inr ⟨rfl,rfl,by omega⟩⟩

theorem oj (x:Nat):blen x=0 ↔ x=0:=by
 have:=blen_le_iff x 0
 simp at this
 omega

theorem nd (v:Value)(X:List Nat)(w:World)(h:Arg w v X) :
  Calls Tryz.prog 109 #[v] w fun e w'=>e=.returned (.bool (decide (val X=0)))∧w'=w:=by
 have H:=aQ _ _ w h
 have hz:=oj (val X)
 obtain⟨ao,cap,rfl,hcap,hmax,hl⟩:=h.form
 clear hl h
 generalize blen (val X)=y at *
 by_cases h0:val X=0
 ·rw [decide_eq_true h0]
  have e0:y=0:=hz.2 h0
  subst e0
  clear hz
  go_enter Tryz.func109,Tryz.ntmps109
  go_wp2_with fail
  refine H.mono ?_
  rintro e w2 ⟨rfl,rfl⟩
  clear H
  go_wp2
  go_ret
  exact⟨rfl,rfl⟩
 ·rw [decide_eq_false h0]
  have e0:y≠0:=fun e=>h0 (hz.1 e)
  have hne:((y:Int) == 0)=false:=by rw [beq_eq_false_iff_ne];omega
  clear hz e0
  go_enter Tryz.func109,Tryz.ntmps109
  go_wp2_with fail
  refine H.mono ?_
  rintro e w2 ⟨rfl,rfl⟩
  clear H
  go_wp2
  go_ret
  exact⟨rfl,rfl⟩

def bT (x y:Nat):Int:=if y=0 then 30 else if 67108864+blen y<blen x then 3 else 0

theorem iC (v1 v2:Value)(X Y:List Nat)(w:World)(h1:Arg w v1 X)(h2:Arg w v2 Y) :
  Calls Tryz.prog 104 #[v1,v2] w fun e w'=>e=.returned (.int .i64 (bT (val X) (val Y)))∧w'=w:=by
 have HZ:=nd _ _ w h2
 have L1:=aQ _ _ w h1
 have L2:=aQ _ _ w h2
 have b1:blen (val X)≤64*X.length:=(blen_le_iff _ _).2 (by have:=val_lt h1.limbs;rw [show (18446744073709551616:Nat)=2 ^ 64 from rfl,←Nat.pow_mul] at this;exact this)
 have b2:blen (val Y)≤64*Y.length:=(blen_le_iff _ _).2 (by have:=val_lt h2.limbs;rw [show (18446744073709551616:Nat)=2 ^ 64 from rfl,←Nat.pow_mul] at this;exact this)
 have c1:=h1.few
 have c2:=h2.few
 obtain⟨a1,d1,rfl,_,_,_⟩:=h1.form
 obtain⟨a2,d2,rfl,_,_,_⟩:=h2.form
 clear h1 h2
 by_cases h0:val Y=0
 ·have e:bT (val X) (val Y)=30:=if_pos h0
  rw [e]
  rw [decide_eq_true h0] at HZ
  clear L1 L2
  go_enter Tryz.func104,Tryz.ntmps104
  go_wp2_with fail
  refine HZ.mono ?_
  rintro e w2 ⟨rfl,rfl⟩
  clear HZ
  go_wp2
  go_ret
  exact⟨rfl,rfl⟩
 ·rw [decide_eq_false h0] at HZ
  by_cases hb:67108864+blen (val Y)<blen (val X)
  ·have e:bT (val X) (val Y)=3:=by unfold bT;rw [if_neg h0,if_pos hb]
   rw [e]
   clear h0 e
   generalize blen (val X)=x at *
   generalize blen (val Y)=y at *
   have i1:(67108864:Int)<(x:Int) - (y:Int):=by omega
   go_enter Tryz.func104,Tryz.ntmps104
   go_wp2_with fail
   refine HZ.mono ?_
   rintro e w2 ⟨rfl,rfl⟩
   clear HZ
   go_wp2_with fail
   refine L1.mono ?_
   rintro e w2 ⟨rfl,rfl⟩
   go_wp2_with fail
   refine L2.mono ?_
   rintro e w2 ⟨rfl,rfl⟩
   clear L1 L2
   go_wp2
   go_ret
   exact⟨rfl,rfl⟩
  ·have e:bT (val X) (val Y)=0:=by unfold bT;rw [if_neg h0,if_neg hb]
   rw [e]
   clear h0 e
   generalize blen (val X)=x at *
   generalize blen (val Y)=y at *
   have i1:¬((67108864:Int)<(x:Int) - (y:Int)):=by omega
   go_enter Tryz.func104,Tryz.ntmps104
   go_wp2_with fail
   refine HZ.mono ?_
   rintro e w2 ⟨rfl,rfl⟩
   clear HZ
   go_wp2_with fail
   refine L1.mono ?_
   rintro e w2 ⟨rfl,rfl⟩
   go_wp2_with fail
   refine L2.mono ?_
   rintro e w2 ⟨rfl,rfl⟩
   clear L1 L2
   go_wp2
   go_ret
   exact⟨rfl,rfl⟩
end Go.Proofs.YtcbpdngogkbndaaGreatDoor

