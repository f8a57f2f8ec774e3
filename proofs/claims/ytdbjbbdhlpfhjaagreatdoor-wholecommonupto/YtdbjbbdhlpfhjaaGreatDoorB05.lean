/- Package div: guess. -/
import Derived.Test.YtdbjbbdhlpfhjaaGreatDoorB04
import Derived.Test.YtdbjbbdhlpfhjaaGreatDoorB02
set_option maxRecDepth 20000
set_option maxHeartbeats 1000000
namespace Go.Proofs.YtdbjbbdhlpfhjaaGreatDoor
open Go.RowKit
open Lm
attribute [local go_sem ↓] Go.wp_at_zero Go.wp_at_succ

theorem pJ (U V:List Nat)(j:Nat)(hU:Limbs U)(hV:Limbs V)(lV:V.length=j+1)(lU:U.length=j+2) :
  Tops (val U) (val V) (U.getD (j+1) 0*18446744073709551616+U.getD j 0) (limbI U ((j:Int) - 1)) (V.getD j 0) (limbI V ((j:Int) - 1)):=by
 refine⟨?_,d6 hU _,d6 hV _⟩
 cases j with
 | zero=>
  refine⟨18446744073709551616,1,0,0,by omega,by omega,by omega,by omega,?_,?_⟩
  ·have h1:=val_drop_next U 0 (by omega)
   have h2:=val_drop_next U 1 (by omega)
   have h3:U.drop 2=[]:=List.drop_eq_nil_of_le (by omega)
   have h4:limbI U (((0:Nat):Int) - 1)=0:=by simp [limbI]
   rw [h3] at h2
   simp only [List.drop_zero,val,Nat.zero_add] at h1 h2
   rw [h4,h1,h2,Nat.zero_add]
   omega
  ·have h1:=val_drop_next V 0 (by omega)
   have h3:V.drop 1=[]:=List.drop_eq_nil_of_le (by omega)
   have h4:limbI V (((0:Nat):Int) - 1)=0:=by simp [limbI]
   simp only [List.drop_zero,Nat.zero_add,h3,val] at h1
   rw [h4,h1]
   omega
 | succ i=>
  refine⟨1,18446744073709551616 ^ i,val (U.take i),val (V.take i),by omega,Nat.pow_pos (by omega),val_take_lt hU i,val_take_lt hV i,?_,?_⟩
  ·have h0:=val_parts U i (by omega)
   have h1:=val_drop_next U i (by omega)
   have h2:=val_drop_next U (i+1) (by omega)
   have h5:=val_drop_next U (i+2) (by omega)
   have h3:U.drop (i+3)=[]:=List.drop_eq_nil_of_le (by omega)
   have h4:limbI U (((i+1:Nat):Int) - 1)=U.getD i 0:=by
    unfold limbI
    rw [if_neg (by omega)]
    congr 1
    omega
   rw [show i+2+1=i+3 from rfl,h3] at h5
   rw [show i+1+1=i+2 from rfl] at h2
   have h6:val ([]:List Nat)=0:=rfl
   rw [h6,Nat.mul_zero,Nat.add_zero] at h5
   rw [h4,h0,h1,h2,h5,show i+1+1=i+2 from rfl]
   generalize val (U.take i)=a
   generalize U.getD i 0=b
   generalize U.getD (i+1) 0=c
   generalize U.getD (i+2) 0=d
   generalize (18446744073709551616:Nat) ^ i=E
   generalize (18446744073709551616:Nat)=W
   grind
  ·have h0:=val_parts V i (by omega)
   have h1:=val_drop_next V i (by omega)
   have h2:=val_drop_next V (i+1) (by omega)
   have h3:V.drop (i+2)=[]:=List.drop_eq_nil_of_le (by omega)
   have h4:limbI V (((i+1:Nat):Int) - 1)=V.getD i 0:=by
    unfold limbI
    rw [if_neg (by omega)]
    congr 1
    omega
   rw [show i+1+1=i+2 from rfl,h3] at h2
   have h6:val ([]:List Nat)=0:=rfl
   rw [h6,Nat.mul_zero,Nat.add_zero] at h2
   rw [h4,h0,h1,h2]
   generalize val (V.take i)=a
   generalize V.getD i 0=b
   generalize V.getD (i+1) 0=c
   generalize (18446744073709551616:Nat) ^ i=E
   generalize (18446744073709551616:Nat)=W
   grind

theorem mc {U V uh ul u3 top next:Nat}(h:Tops U V (uh*18446744073709551616+ul) u3 top next)(huv:U<V*18446744073709551616):uh≤top:=by
 obtain⟨k,E,a,b,hk,hE,ha,hb,eU,eV⟩:=h.ex
 have hn:=h.next
 clear h
 refine Nat.le_of_not_lt fun hlt=>?_
 have h1:k*U<k*(V*18446744073709551616):=Nat.mul_lt_mul_of_pos_left huv hk
 rw [←Nat.mul_assoc,eU,eV] at h1
 have h2:top*18446744073709551616+next+1≤(top+1)*18446744073709551616:=by omega
 have h3:(top+1)*18446744073709551616≤uh*18446744073709551616+ul:=by omega
 clear hn huv
 generalize (18446744073709551616:Nat)=W at *
 generalize top*W+next=V2 at *
 generalize uh*W+ul=U2 at *
 have h4:(V2+1)*E*W≤U2*E*W:=Nat.mul_le_mul_right _ (Nat.mul_le_mul_right _ (by omega))
 have h5:(V2*E+b)*W≤(V2+1)*E*W:=Nat.mul_le_mul_right _ (by rw [Nat.add_mul];omega)
 have h6:U2*E*W≤(U2*W+u3)*E+a:=by
  have:(U2*W+u3)*E=U2*E*W+u3*E:=by grind
  omega
 omega

theorem oA (vu vv:Value)(U V:List Nat)(j:Nat)(w:World)(hU:Arg w vu U)(hV:Arg w vv V)(lV:V.length=j+1)(lU:U.length=j+2)
  (ht:9223372036854775808≤V.getD j 0) (huv:val U<val V*18446744073709551616) :
  Calls Tryz.prog 206 #[vu,vv] w fun e w'=>(∃q:Nat,e=.returned (.int .u64 q)∧q<18446744073709551616∧(q=val U / val V∨q=val U / val V+1))∧aA w w':=by
 have hT:=pJ U V j hU.limbs hV.limbs lV lU
 have hh:=mc hT huv
 have HT:=aa hT
 have hvp:0<val V:=by
  rcases Nat.eq_zero_or_pos (val V) with h|h
  ·rw [h] at huv;omega
  ·exact h
 have HQ:Hid (val U / val V<18446744073709551616∧val U / val V*val V≤val U):=⟨by rw [Nat.div_lt_iff_lt_mul hvp,Nat.mul_comm];exact huv,Nat.div_mul_le_self _ _⟩
 have HVP:=aa hvp
 have hXU:=hU.few
 have hXV:=hV.few
 have z1:=limb_lt hU.limbs (j+1)
 have z2:=limb_lt hU.limbs j
 have z3:=limb_lt hV.limbs j
 have z4:=d6 hU.limbs ((j:Int) - 1)
 have z5:=d6 hV.limbs ((j:Int) - 1)
 obtain⟨a1,c1,rfl,hcc1,hcm1,hl1⟩:=hU.form
 obtain⟨a2,c2,rfl,hcc2,hcm2,hl2⟩:=hV.form
 have e2:(V.length:Int) - 2=(j:Int) - 1:=by omega
 have DU:Hid (∀w',aA w w'→Calls Tryz.prog 156 #[.slice a1 U.length c1,.int .i64 ((j:Int) - 1)] w' fun e w''=>e=.returned (.int .u64 ((limbI U ((j:Int) - 1):Nat):Int))∧w''=w'):=fun w' h=>jd a1 c1 U ((j:Int) - 1) w' hXU (by omega) (by omega) (hl1.below (h.below _))
 have D2:=fun n=>jd a2 c2 V ((j:Int) - 1) (w.drewN n) hXV (by omega) (by omega) (hl2.below (((aA.refl w).drewN n).below _))
 rcases hl1 with h0|⟨b,off,rfl,hcell⟩
 ·rw [h0] at lU;simp at lU
 rcases hl2 with h0|⟨b2,off2,rfl,hcell2⟩
 ·rw [h0] at lV;simp at lV
 have r1:w.cell? ⟨b,off+V.length,none⟩=some (.int .u64 ((U.getD (j+1) 0:Nat):Int)):=by rw [lV];exact hcell (j+1) (by omega)
 have r2:=hcell j (by omega)
 have r3:=hcell2 j (by omega)
 have e1:(V.length:Int) - 1=(j:Int):=by omega
 have k1:V.length<U.length:=by omega
 have k2:j<V.length:=by omega
 have k3:(V.length:Int)<(U.length:Int):=by omega
 have k4:(j:Int)<(V.length:Int):=by omega
 have k5:(j:Int)<(U.length:Int):=by omega
 have k7:(0:Int)≤(j:Int):=by omega
 have wj:IntKind.i64.wrap (j:Int)=(j:Int):=by rw [IntKind.wrap_i64];omega
 have k8:j<U.length:=by omega
 have k6:V.length≤1125899906842624:=hXV
 clear hcell hcell2 hU hV
 have HLV:=aa (And.intro lV lU)
 clear lV lU
 generalize hE1:limbI V ((j:Int) - 1)=next at *
 generalize hE2:limbI U ((j:Int) - 1)=u3 at *
 generalize hE3:U.getD (j+1) 0=uh at *
 generalize hE4:U.getD j 0=ul at *
 generalize hE5:V.getD j 0=top at *
 clear hE1 hE2 hE3 hE4 hE5 hT
 go_enter Tryz.func206,Tryz.ntmps206
 go_wp2
 go_quiet (first | (go_at_call 156;exact (D2 _).mono (fun _ _ h=>⟨h.1,_,h.2⟩)))
 have FG:=fun w'=>pK uh ul top w' hh z2 z3 (by omega)
 obtain⟨w1,hw1⟩:∃w1,w1=w.drewN nq:=⟨_,rfl⟩
 have S1:=aa (show aA w w1 by rw [hw1];exact (aA.refl _).drewN _)
 replace r1:w1.cell? ⟨b,off+V.length,none⟩=some (.int .u64 (uh:Int)):=by rw [hw1];exact r1
 replace r2:w1.cell? ⟨b,off+j,none⟩=some (.int .u64 (ul:Int)):=by rw [hw1];exact r2
 have KC:Hid (∀w',aA w1.drew w'→w'.cell? ⟨b,off+V.length,none⟩=some (.int .u64 (uh:Int))∧w'.cell? ⟨b,off+j,none⟩=some (.int .u64 (ul:Int))):=fun w' h=>by
  have hh:w'.heap=w1.heap:=h.heap
  refine⟨?_,?_⟩
  ·rw [←r1];simp only [World.cell?,hh]
  ·rw [←r2];simp only [World.cell?,hh]
 rw [←hw1]
 clear hw1 D2 r3
 go_wp2
 go_region_held3 (fun w'=>w'.cell? ⟨b,off+V.length,none⟩=some (.int .u64 uh)∧w'.cell? ⟨b,off+j,none⟩=some (.int .u64 ul)) (go_keep) (first | (go_at_call 226;refine (FG _).mono ?_;rintro e w2 ⟨⟨q,r,o,rfl,hq,hr,ho,hqe,hql⟩,hs⟩;obtain⟨g1,g2⟩:=KC.out w2 hs))
 have S2:=aa (S1.out.drew.trans hs)
 have HI:Hid (val U / val V≤q):=by
  rcases hql with h|h
  ·have h1:=HT.out.first HQ.out.2
   have h2:val U / val V≤(uh*18446744073709551616+ul) / top:=(Nat.le_div_iff_mul_le (by omega)).2 h1
   exact Nat.le_trans h2 h
  ·have:=HQ.out.1
   show val U / val V≤q
   omega
 have HE:=aa hqe
 clear hqe hql hs S1 KC g1 g2 r1 r2 FG
 go_wp2
 go_loopw [8,9,10] (fun a b c wr=>∃q r o:Nat,a=.int .u64 q∧b=.int .u64 r∧c=.int .u64 o∧q<18446744073709551616∧r<18446744073709551616∧o≤1∧q*top+(r+o*18446744073709551616)=uh*18446744073709551616+ul∧val U / val V≤q∧aA w wr) (fun a _ _ _=>(intOf a).toNat)
 case atStart=>exact⟨q,r,o,rfl,rfl,rfl,hq,hr,ho,HE.out,HI.out,S2.out⟩
 case round=>
  clear S2 HE HI hq hr ho
  obtain⟨q,r,o,rfl,rfl,rfl,hq,hr,ho,hqe,hql,hs⟩:=hrel
  have HS:=aa hs
  have HE:=aa hqe
  have HI:=aa hql
  have DL:=DU.out wr hs
  have hmx:q*next<18446744073709551616*18446744073709551616:=by
   rcases Nat.eq_zero_or_pos next with h|h
   ·rw [h];omega
   ·exact Nat.mul_lt_mul_of_lt_of_lt hq z5
  have hsplit:q*(top*18446744073709551616+next)=q*top*18446744073709551616+q*next:=by rw [Nat.mul_add,Nat.mul_assoc]
  by_cases ho0:o=0
  ·subst ho0
   have hM:=Tryz.bits_Mul64 q next hq z5 wr
   have hPd:q*next / 18446744073709551616*18446744073709551616+q*next % 18446744073709551616=q*next:=by omega
   have hPh:q*next / 18446744073709551616<18446744073709551616:=by omega
   have hPl:q*next % 18446744073709551616<18446744073709551616:=by omega
   have hqe2:q*top+r=uh*18446744073709551616+ul:=by omega
   have HUP:Hid (q*next≤r*18446744073709551616+u3→q=val U / val V∨q=val U / val V+1):=fun hle=>by
    refine guess_end HVP.out HI.out (HT.out.up hq ht ?_)
    rw [hsplit]
    omega
   have HDN:Hid (r*18446744073709551616+u3<q*next→val U / val V<q):=fun hlt=>HT.out.down HQ.out.2 hqe2 hlt
   have HQ2:=aa hqe2
   clear hqe hql hsplit hmx hqe2 HE
   generalize hPP:q*next=PP at *
   clear hPP
   obtain⟨h,hh1⟩:∃h,PP / 18446744073709551616=h:=⟨_,rfl⟩
   obtain⟨l,hl1⟩:∃l,PP % 18446744073709551616=l:=⟨_,rfl⟩
   rw [hh1] at hPd hPh hM
   rw [hl1] at hPd hPl hM
   clear hh1 hl1
   have HPD:=aa hPd
   clear hPd
   by_cases c1:h<r
   ·have HEND:=aa (HUP.out (by have:=HPD.out;omega))
    have i1:(h:Int)<(r:Int):=by omega
    clear HUP HDN DL hs
    go_wp2_with fail
    refine hM.mono ?_
    rintro e w3 ⟨rfl,rfl⟩
    clear hM
    go_wp2
    go_ret
    exact⟨⟨q,rfl,hq,HEND.out⟩,HS.out⟩
   ·have i1:¬((h:Int)<(r:Int)):=by omega
    by_cases c2:h=r
    ·have i2:((h:Int) == (r:Int))=true:=by rw [beq_iff_eq];omega
     by_cases c3:l≤u3
     ·have HEND:=aa (HUP.out (by have:=HPD.out;rw [c2] at this;omega))
      have i3:(l:Int)≤(u3:Int):=by omega
      have HC2:=aa c2
      clear HUP HDN hs c2
      go_wp2_with fail
      refine hM.mono ?_
      rintro e w3 ⟨rfl,rfl⟩
      clear hM
      go_wp2_with fail
      refine DL.mono ?_
      rintro e w3 ⟨rfl,rfl⟩
      clear DL
      go_wp2
      go_ret
      exact⟨⟨q,rfl,hq,HEND.out⟩,HS.out⟩
     ·have HD:=aa (HDN.out (by have:=HPD.out;rw [c2] at this;omega))
      have i3:¬((l:Int)≤(u3:Int)):=by omega
      have HC2:=aa c2
      clear HUP HDN hs c2
      have ha:=bG r top
      have hq1:1≤q:=Nat.succ_le_of_lt (Nat.lt_of_le_of_lt (Nat.zero_le _) HD.out)
      have HSUM:Hid ((q - 1)*top+((r+top) % 18446744073709551616+(r+top) / 18446744073709551616*18446744073709551616)=uh*18446744073709551616+ul):=by
       refine aa ?_
       have e1:=HQ2.out
       have e2:(q - 1)*top+top=q*top:=by
        have:q - 1+1=q:=by omega
        rw [←this,Nat.add_mul,Nat.one_mul]
        simp
       have e3:(r+top) % 18446744073709551616+(r+top) / 18446744073709551616*18446744073709551616=r+top:=by omega
       rw [e3]
       generalize (q - 1)*top=x1 at *
       generalize q*top=x2 at *
       omega
      have y1:(r+top) % 18446744073709551616<18446744073709551616:=by omega
      have y2:(r+top) / 18446744073709551616≤1:=by omega
      generalize (r+top) % 18446744073709551616=r2 at *
      generalize (r+top) / 18446744073709551616=o2 at *
      have eq1:(q:Int) - 1=((q - 1:Nat):Int):=by omega
      have HQL:Hid (val U / val V≤q - 1∧q - 1<q):=⟨Nat.le_sub_one_of_lt HD.out,by omega⟩
      have hq2:q - 1<18446744073709551616:=by omega
      obtain⟨q2,hq2e⟩:∃q2,q - 1=q2:=⟨_,rfl⟩
      rw [hq2e] at eq1 HSUM HQL hq2
      clear hq2e
      go_wp2_with fail
      refine hM.mono ?_
      rintro e w3 ⟨rfl,rfl⟩
      clear hM
      go_wp2_with fail
      refine DL.mono ?_
      rintro e w3 ⟨rfl,rfl⟩
      clear DL
      go_wp2
      go_roundw
      case rel=>exact⟨q2,r2,o2,rfl,rfl,rfl,hq2,y1,y2,HSUM.out,HQL.out.1,HS.out⟩
      case measure=>have:=HQL.out.2;simp [intOf];omega
    ·have hrh:r*18446744073709551616+u3<PP:=by
      have hp:=HPD.out
      have hrh1:r+1≤h:=by omega
      omega
     have HD:=aa (HDN.out hrh)
     clear hrh
     have i2:((h:Int) == (r:Int))=false:=by rw [beq_eq_false_iff_ne];omega
     clear HUP HDN hs DL
     have ha:=bG r top
     have hq1:1≤q:=Nat.succ_le_of_lt (Nat.lt_of_le_of_lt (Nat.zero_le _) HD.out)
     have HSUM:Hid ((q - 1)*top+((r+top) % 18446744073709551616+(r+top) / 18446744073709551616*18446744073709551616)=uh*18446744073709551616+ul):=by
      refine aa ?_
      have e1:=HQ2.out
      have e2:(q - 1)*top+top=q*top:=by
       have:q - 1+1=q:=by omega
       rw [←this,Nat.add_mul,Nat.one_mul]
       simp
      have e3:(r+top) % 18446744073709551616+(r+top) / 18446744073709551616*18446744073709551616=r+top:=by omega
      rw [e3]
      generalize (q - 1)*top=x1 at *
      generalize q*top=x2 at *
      omega
     have y1:(r+top) % 18446744073709551616<18446744073709551616:=by omega
     have y2:(r+top) / 18446744073709551616≤1:=by omega
     generalize (r+top) % 18446744073709551616=r2 at *
     generalize (r+top) / 18446744073709551616=o2 at *
     have eq1:(q:Int) - 1=((q - 1:Nat):Int):=by omega
     have HQL:Hid (val U / val V≤q - 1∧q - 1<q):=⟨Nat.le_sub_one_of_lt HD.out,by omega⟩
     have hq2:q - 1<18446744073709551616:=by omega
     obtain⟨q2,hq2e⟩:∃q2,q - 1=q2:=⟨_,rfl⟩
     rw [hq2e] at eq1 HSUM HQL hq2
     clear hq2e
     go_wp2_with fail
     refine hM.mono ?_
     rintro e w3 ⟨rfl,rfl⟩
     clear hM
     go_wp2
     go_roundw
     case rel=>exact⟨q2,r2,o2,rfl,rfl,rfl,hq2,y1,y2,HSUM.out,HQL.out.1,HS.out⟩
     case measure=>have:=HQL.out.2;simp [intOf];omega
  ·have HEND:Hid (q=val U / val V∨q=val U / val V+1):=by
    refine guess_end HVP.out HI.out (HT.out.up hq ht ?_)
    rw [hsplit]
    have e:o=1:=by omega
    subst e
    omega
   have hne:((o:Int) == 0)=false:=by rw [beq_eq_false_iff_ne];omega
   clear hqe hql hs DL hsplit hmx
   go_wp2
   go_ret
   exact⟨⟨q,rfl,hq,HEND.out⟩,HS.out⟩

theorem mQ (v b:Nat)(hv:v<18446744073709551616)(hb:b≤2) :
  3*((v+18446744073709551616 - b) % 18446744073709551616*12297829382473034411 % 18446744073709551616)+b=v+((v+18446744073709551616 - b) % 18446744073709551616*12297829382473034411 % 18446744073709551616*3 / 18446744073709551616+bor v b 0)*18446744073709551616 ∧
  (v+18446744073709551616 - b) % 18446744073709551616*12297829382473034411 % 18446744073709551616*3 / 18446744073709551616+bor v b 0≤2 ∧
  (v+18446744073709551616 - b) % 18446744073709551616<18446744073709551616:=by
 have hr:(v+18446744073709551616 - b) % 18446744073709551616<18446744073709551616:=Nat.mod_lt _ (by omega)
 have hsub:=(iS v b hv (by omega)).1
 generalize (v+18446744073709551616 - b) % 18446744073709551616=r at *
 have ht:r*12297829382473034411 % 18446744073709551616<18446744073709551616:=Nat.mod_lt _ (by omega)
 have h3:r*12297829382473034411 % 18446744073709551616*3 % 18446744073709551616=r:=by omega
 generalize r*12297829382473034411 % 18446744073709551616=t at *
 generalize bor v b 0=u at *
 refine⟨by omega,by omega,hr⟩

theorem oy (Z Z':List Nat)(o k b b2 t:Nat)(hz:o+k<Z'.length)(hl:Z'.length=Z.length)(h:3*sv Z' o k=sv Z o k+b*18446744073709551616 ^ k)(hs:3*t+b=Z.getD (o+k) 0+b2*18446744073709551616) :
  3*sv (Z'.set (o+k) t) o (k+1)=sv Z o (k+1)+b2*18446744073709551616 ^ (k+1):=by
 rw [cY _ _ _ _ hz,dw Z o k (by omega),show (18446744073709551616:Nat) ^ (k+1)=18446744073709551616 ^ k*18446744073709551616 from Nat.pow_succ ..]
 generalize sv Z' o k=A at *
 generalize sv Z o k=B at *
 generalize Z.getD (o+k) 0=z at *
 generalize (18446744073709551616:Nat) ^ k=P at *
 generalize (18446744073709551616:Nat)=W at *
 grind

theorem mE (n:Nat):18446744073709551616 ^ n % 3=1:=by
 induction n with
 | zero=>rfl
 | succ n ih=>rw [Nat.pow_succ,Nat.mul_mod,ih]

theorem kS (q s b P:Nat)(hP:P % 3=1)(hs:s % 3=0)(hb:b≤2)(h:3*q=s+b*P):q=s / 3:=by
 have h1:(s+b*P) % 3=0:=by rw [←h];exact Nat.mul_mod_right 3 q
 have h2:(b*P) % 3=b % 3:=by rw [Nat.mul_mod,hP,Nat.mul_one,Nat.mod_mod]
 have h3:b=0:=by omega
 subst h3
 omega

theorem nJ (bz zo n cap:Nat)(Z:List Nat)(w:World)(hB:Blk w bz Z)(hLZ:Limbs Z)(hzo:zo+n≤Z.length)(hc1:n≤cap)(hc2:cap≤9223372036854775807)(h3:sv Z zo n % 3=0) :
  Calls Tryz.prog 219 #[.slice (some ⟨bz,zo,none⟩) n cap] w (aG bz zo n Z w (sv Z zo n / 3)):=by
 have HB0:=aa hB
 have HLZ:=aa hLZ
 have H3:=aa h3
 clear hB h3
 go_enter Tryz.func219,Tryz.ntmps219
 go_wp2
 go_loopw [2,11] (fun c i wr=>∃(k b:Nat) (Z':List Nat),k≤n∧i=.int .i64 k∧c=.int .u64 b∧b≤2∧Out Z Z' zo (zo+k)∧Limbs Z'∧Blk wr bz Z'∧Fr bz w wr ∧
   3*sv Z' zo k=sv Z zo k+b*18446744073709551616 ^ k) (fun _ i _=>n - (intOf i).toNat)
 case atStart=>exact⟨0,0,Z,Nat.zero_le _,rfl,rfl,by omega,Out.refl _ _ _,HLZ.out,HB0.out,Fr.refl _ _,by simp [aR]⟩
 case round=>
  obtain⟨k,b,Z',hk,rfl,rfl,hb,hout,hlz,hblk,hfr0,hval⟩:=hrel
  have hl:=hout.len
  have HV:=aa hval
  have HB:=aa hblk
  have HF:=aa hfr0
  have HO:=aa hout
  clear hval
  by_cases hkl:k<n
  ·have hfr:=hblk.free (zo+k)
   have hco:=hblk.cell (zo+k) (by omega)
   have z2:=limb_lt hlz (zo+k)
   have hsame:=hout.same (zo+k) (by omega)
   obtain⟨q1,q2,q3⟩:=mQ (Z'.getD (zo+k) 0) b z2 hb
   have HS:=aa (oy Z Z' zo k b _ _ (by omega) hl HV.out (by rw [←hsame];exact q1))
   have ha:=dE (Z'.getD (zo+k) 0) b
   generalize Z'.getD (zo+k) 0=v at *
   clear hsame q1
   generalize (v+18446744073709551616 - b) % 18446744073709551616=r at *
   generalize bor v b 0=u at *
   have ht:r*12297829382473034411 % 18446744073709551616<18446744073709551616:=Nat.mod_lt _ (by omega)
   have e1:IntKind.u64.wrap ((r:Int)*12297829382473034411)=((r*12297829382473034411 % 18446744073709551616:Nat):Int):=by rw [IntKind.wrap_u64];omega
   generalize r*12297829382473034411 % 18446744073709551616=t at *
   have hM:=fun w'=>Tryz.bits_Mul64 t 3 ht (by omega) w'
   generalize t*3 / 18446744073709551616=h1 at *
   have e2:(h1:Int)+(u:Int)=((h1+u:Nat):Int):=by omega
   generalize h1+u=c2 at *
   clear hblk hfr0 hout HV
   go_wp2_with fail
   refine (hM _).mono ?_
   rintro e w2 ⟨rfl,hw⟩
   subst hw
   clear hM
   go_wp2
   go_roundw
   case rel=>exact⟨k+1,c2,Z'.set (zo+k) t,by omega,by go_num,rfl,q2,(HO.out.wider (Nat.le_refl _) (by omega)).set _ _ (by omega) (by omega),limbs_set hlz _ _ ht,HB.out.set _ t,HF.out.setCell _ _,HS.out⟩
   case measure=>simp [intOf];omega
  ·have ek:k=n:=by omega
   subst ek
   have HE:=aa (kS _ _ b _ (mE k) H3.out hb HV.out)
   clear hblk hfr0 hout HV
   go_wp2
   go_end0
   exact⟨rfl,Z',HO.out,hlz,HB.out,HF.out,HE.out⟩
end Go.Proofs.YtdbjbbdhlpfhjaaGreatDoor
namespace Go.Proofs.YtdbjbbdhlpfhjaaGreatDoor
open Go.RowKit
open Lm

def ia (v u:Value):Prop:=(∀bz lo hi,Off u bz lo hi→Off v bz lo hi)∧∀bz,bK u bz→bK v bz

theorem Arg.cut {w:World}{b off n cap:Nat}{X:List Nat}(h:Arg w (.slice (some ⟨b,off,none⟩) n cap) X)(i m:Nat)(hi:i+m≤n):Arg w (.slice (some ⟨b,off+i,none⟩) m (cap - i)) ((X.drop i).take m):=by
 obtain⟨ao,c,h1,h2,h3,h4⟩:=h.form
 cases h1
 have hl:((X.drop i).take m).length=m:=by simp;omega
 refine⟨⟨_,_,by rw [hl],by rw [hl];omega,by omega,?_⟩,fun z hz=>h.limbs z (List.mem_of_mem_drop (List.mem_of_mem_take hz)),by rw [hl];have:=h.few;omega,fun n c e=>by cases e⟩
 rcases h4 with h4|⟨b',off',he,hc⟩
 ·subst h4;exact .inl (by simp)
 ·cases he
  refine .inr ⟨b,off+i,rfl,fun k hk=>?_⟩
  rw [hl] at hk
  rw [Nat.add_assoc,hc (i+k) (by omega)]
  simp [List.getD,hk]

theorem iQ (b off n cap i m:Nat)(hi:i+m≤n):ia (.slice (some ⟨b,off+i,none⟩) m (cap - i)) (.slice (some ⟨b,off,none⟩) n cap):=⟨fun bz lo hi' h b' off' n' c' e=>by
 cases e
 rcases h b off n cap rfl with h1|h1|h1
 ·exact .inl h1
 ·exact .inr (.inl (by omega))
 ·exact .inr (.inr (by omega)),fun bz h b' off' n' c' e=>by
 cases e
 exact h b off n cap rfl⟩

theorem nO (b off cap at' m:Nat)(X:List Nat)(w:World)(hA:Arg w (.slice (some ⟨b,off,none⟩) X.length cap) X)(hat:at'<X.length)(hm:m≤1125899906842624) :
  Calls Tryz.prog 221 #[.slice (some ⟨b,off,none⟩) X.length cap,.int .i64 at',.int .i64 m] w fun e w'=>(∃v,e=.returned v∧Arg w v ((X.drop at').take m)∧ia v (.slice (some ⟨b,off,none⟩) X.length cap))∧w'=w:=by
 have hX:=hA.few
 obtain⟨_,_,e0,hcc,hcm,_⟩:=hA.form
 cases e0
 have i1:(at':Int)<(X.length:Int):=by omega
 have i2:(0:Int)≤(at':Int):=by omega
 have k1:¬cap=at':=by omega
 have m1:min (at':Int) (X.length:Int)=(at':Int):=by omega
 by_cases h:at'+m≤X.length
 ·have HA:=aa (hA.cut at' m h)
  have HW:=aa (iQ b off X.length cap at' m h)
  obtain⟨s,es,hs1,hs2,es2⟩:∃s:Nat,(at':Int)+(m:Int)=(s:Int)∧s≤X.length∧at'≤s∧s - at'=m:=⟨at'+m,by omega,h,by omega,by omega⟩
  have i3:(s:Int)≤(X.length:Int):=by omega
  have i4:(at':Int)≤(s:Int):=by omega
  have m2:min (s:Int) (X.length:Int)=(s:Int):=by omega
  clear hA h
  go_enter Tryz.func221,Tryz.ntmps221
  go_wp2
  go_ret
  exact⟨⟨_,rfl,HA.out,HW.out⟩,rfl⟩
 ·have et:(X.drop at').take m=(X.drop at').take (X.length - at'):=by
   rw [List.take_of_length_le (by simp;omega),List.take_of_length_le (by simp)]
  have HA:=aa (hA.cut at' (X.length - at') (by omega))
  rw [←et] at HA
  have HW:=aa (iQ b off X.length cap at' (X.length - at') (by omega))
  obtain⟨s,es,hs1⟩:∃s:Nat,(at':Int)+(m:Int)=(s:Int)∧X.length≤s:=⟨at'+m,by omega,by omega⟩
  have m2:min (s:Int) (X.length:Int)=(X.length:Int):=by omega
  have i4:(at':Int)≤(X.length:Int):=by omega
  clear hA h et
  go_enter Tryz.func221,Tryz.ntmps221
  go_wp2
  go_ret
  exact⟨⟨_,rfl,HA.out,HW.out⟩,rfl⟩

theorem kF (X:List Nat)(t l y:Nat):val (X.take (t+l))*y=val (X.take t)*y+18446744073709551616 ^ t*(val ((X.drop t).take l)*y)∨X.length<t:=by
 by_cases h:t≤X.length
 ·left
  rw [List.take_add,val_append,List.length_take,Nat.min_eq_left h,Nat.add_mul,Nat.mul_assoc]
 ·exact .inr (by omega)

theorem oB (X:List Nat)(t:Nat):val (X.take t)≤val X:=by
 conv=>rhs;rw [←List.take_append_drop t X,val_append]
 omega

theorem gF (Z:List Nat)(o t n p tot:Nat)(ht:t≤n)(ho:o+n≤Z.length)(h:sv Z o n+18446744073709551616 ^ t*p≤tot)(htot:tot<18446744073709551616 ^ n):sv Z (o+t) (n - t)+p<18446744073709551616 ^ (n - t):=by
 obtain⟨d,rfl⟩:∃d,n=t+d:=⟨n - t,by omega⟩
 rw [aB _ _ _ _ (by omega)] at h
 rw [Nat.pow_add] at htot
 rw [Nat.add_sub_cancel_left]
 have h2:18446744073709551616 ^ t*(sv Z (o+t) d+p)<18446744073709551616 ^ t*18446744073709551616 ^ d:=by
  rw [Nat.mul_add];omega
 exact Nat.lt_of_mul_lt_mul_left h2

theorem gz (Z Z':List Nat)(o t n p:Nat)(ht:t≤n)(ho:o+n≤Z.length)(hO:Out Z Z' (o+t) (o+n))(h:sv Z' (o+t) (n - t)=sv Z (o+t) (n - t)+p):sv Z' o n=sv Z o n+18446744073709551616 ^ t*p:=by
 obtain⟨d,rfl⟩:∃d,n=t+d:=⟨n - t,by omega⟩
 rw [Nat.add_sub_cancel_left] at h
 rw [aB Z' _ _ _ (by rw [hO.len];omega),aB Z _ _ _ (by omega),h,hO.sv o t (by omega),Nat.mul_add]
 omega
end Go.Proofs.YtdbjbbdhlpfhjaaGreatDoor
namespace Go.Proofs.YtdbjbbdhlpfhjaaGreatDoor
open Go.RowKit
open Lm
attribute [local go_sem ↓] Go.wp_at_zero Go.wp_at_succ

theorem fC (bz zo n cap:Nat)(Z:List Nat)(w:World)(hB:Blk w bz Z)(hLZ:Limbs Z)(hzo:zo+n≤Z.length) :
  ∃(w1:World) (Z1:List Nat),(∀ty,(Builtin.clear_ #[25] ty #[.slice (some ⟨bz,zo,none⟩) n cap]).run Tryz.prog w=.ok (.tuple #[]) w1)∧Out Z Z1 zo (zo+n)∧Limbs Z1∧Blk w1 bz Z1∧Fr bz w w1∧sv Z1 zo n=0:=by
 rcases Nat.eq_zero_or_pos n with h0|h0
 ·subst h0
  exact⟨w,Z,fun ty=>fU _ _ _ _,Out.refl _ _ _,hLZ,hB,Fr.refl _ _,aR _ _⟩
 ·have hlr:(List.replicate n 0).length=n:=by simp
  have e1:=cq (List.replicate n 0) Z zo
  have e2:=cG (List.replicate n 0) Z zo (by rw [hlr];exact hzo)
  rw [hlr] at e1 e2
  exact⟨_,lay Z zo (List.replicate n 0),fun ty=>dQ bz zo _ cap Z w ty hB hzo h0,e1,cN _ (limbs_replicate _) _ _ hLZ,Blk.setCells _ _ hB,(Fr.refl _ _).setCells _ _,by rw [e2,val_replicate]⟩

theorem Fr.blk {bz g:Nat}{w w':World}{M:List Nat}(h:Fr bz w w')(hb:Blk w g M)(hne:g≠bz):Blk w' g M:=by
 unfold Blk
 rw [h.block g hb.lt hne];exact hb

theorem Blk.below' {w w':World}{b:Nat}{xs:List Nat}(h:Blk w b xs)(hb:Below w.heap.size w w'):Blk w' b xs:=by
 unfold Blk
 rw [hb.block b h.lt];exact h

theorem Fr.other {bz g:Nat}{w a b:World}(h:Fr bz w a)(k:Fr g a b)(hg:w.heap.size≤g):Fr bz w b:=
 ⟨k.os.trans h.os,k.tape.trans h.tape,k.output.trans h.output,Nat.le_trans h.size k.size,fun i h1 h2=>(k.block i (Nat.lt_of_lt_of_le h1 h.size) (by omega)).trans (h.block i h1 h2)⟩

theorem Arg.block {w:World}{b off n c:Nat}{X:List Nat}(h:Arg w (.slice (some ⟨b,off,none⟩) n c) X)(h0:0<X.length):b<w.heap.size:=by
 obtain⟨ao,cc,e,_,_,hl⟩:=h.form
 cases e
 exact aD.block hl h0

theorem Off.far {v:Value}{g lo hi:Nat}{w:World}{X:List Nat}(hA:Arg w v X)(h0:0<X.length)(hg:w.heap.size≤g):Off v g lo hi:=fun b off n c e=>by
 subst e
 have:=hA.block h0
 exact .inl (by omega)

theorem bK.far {v:Value}{g:Nat}{w:World}{X:List Nat}(hA:Arg w v X)(h0:0<X.length)(hg:w.heap.size≤g):bK v g:=fun b off n c e=>by
 subst e
 have:=hA.block h0
 omega

theorem Blk.take_arg {w:World}{g:Nat}{M:List Nat}(h:Blk w g M)(hl:Limbs M)(s cap:Nat)(hs:s≤M.length)(hc:s≤cap)(hm:cap≤1125899906842624):Arg w (.slice (some ⟨g,0,none⟩) s cap) (M.take s):=by
 have e:(M.take s).length=s:=by simp;omega
 refine⟨⟨_,cap,by rw [e],by omega,by omega,.inr ⟨g,0,rfl,fun k hk=>?_⟩⟩,fun z hz=>hl z (List.mem_of_mem_take hz),by omega,fun n c e=>by cases e⟩
 rw [e] at hk
 rw [Nat.zero_add,h.cell k (by omega)]
 simp [List.getD,hk]

theorem mF (M:List Nat)(s:Nat):val (M.take s)=sv M 0 s:=by simp [sv,seg]

theorem fg (H T:Int)(bz zo cap:Nat)(Z:List Nat)(va vb:Value)(X Y:List Nat)(w:World)(hB:Blk w bz Z)(hLZ:Limbs Z)(hA:Arg w va X)(hA2:Arg w vb Y)
  (ho:Off va bz zo (zo+(X.length+Y.length))) (ho2:Off vb bz zo (zo+(X.length+Y.length))) (hzo:zo+(X.length+Y.length)≤Z.length) (hc1:X.length+Y.length≤cap) (hc2:cap≤9223372036854775807)
  (hY:0<Y.length) (hlY:Y.length≤17592186044000) (hI:∀t,t<X.length→bV H T ((X.drop t).take Y.length) Y) :
  Calls Tryz.prog 193 #[way H T,.slice (some ⟨bz,zo,none⟩) (X.length+Y.length) cap,va,vb] w (aG bz zo (X.length+Y.length) Z w (val X*val Y)):=by
 generalize hn:X.length+Y.length=n at *
 have hn1:n≤X.length+Y.length:=by omega
 have hn2:X.length+Y.length≤n:=by omega
 have HEN:=aa hn
 clear hn
 unfold way
 obtain⟨a1,c1,rfl,hcc1,hcm1,hl1⟩:=hA.form
 obtain⟨a2,c2,rfl,hcc2,hcm2,hl2⟩:=hA2.form
 have fX:=hA.few
 obtain⟨i0,hi,hz0,hz1,hz2⟩:=info_parts Tryz.infoU
 obtain⟨w1,hw1⟩:∃w1,w1=w.alloc (.cells #[.int .i64 H,.int .i64 T] 117):=⟨_,rfl⟩
 have hbel1:Below w.heap.size w w1:=by rw [hw1];exact (Below.refl _ _).alloc (Nat.le_refl _) _
 have hs1:w1.heap.size=w.heap.size+1:=by rw [hw1];simp
 have hb1:w1.heap[w.heap.size]?=some (.cells #[.int .i64 H,.int .i64 T] 117):=by rw [hw1];exact heap_alloc_new ..
 have hbz:=hB.lt
 have hB1:Blk w1 bz Z:=by rw [hw1];exact hB.alloc _
 obtain⟨w2,Z2,hrun,hO2,hL2,hB2,hF2,hS2⟩:=fC bz zo n cap Z w1 hB1 hLZ hzo
 have hbx2:w2.heap[w.heap.size]?=some (.cells #[.int .i64 H,.int .i64 T] 117):=by rw [hF2.block w.heap.size (by omega) (by omega)];exact hb1
 have HF02:=aa ((Fr.of_below (bz:=bz) hbel1).trans hF2)
 have hs2:=hF2.size
 have HW1:=aa hw1
 have HO2:=aa hO2
 have HB2:=aa hB2
 have HX2:=aa hbx2
 have HS2:=aa hS2
 have HII:=aa hI
 have HHA:=aa hA
 have HHA2:=aa hA2
 have HOF:=aa ho
 have HOF2:=aa ho2
 have HB0:=aa hB
 have mX:=val_lt hA.limbs
 have mY:=val_lt hA2.limbs
 have HTOT:Hid (val X*val Y<18446744073709551616 ^ (X.length+Y.length)):=aa (by rw [Nat.pow_add];exact Nat.mul_lt_mul'' mX mY)
 clear hw1 hbel1 hb1 hB1 hO2 hB2 hbx2 hF2 hS2 hI hA hA2 ho ho2 hl1 hl2 mX mY hB hLZ
 obtain⟨L,hL1,eL⟩:∃L:Nat,L=2*Y.length∧(2:Int)*(Y.length:Int)=(L:Int):=⟨2*Y.length,rfl,by omega⟩
 have hLa:L≤2*Y.length:=by omega
 have hLb:2*Y.length≤L:=by omega
 clear hL1
 rw [HW1.out] at hrun
 go_enter Tryz.func193,Tryz.ntmps193
 go_wp2_with (at_make;refine wpList_make_full _ rfl _ _ 25 rfl w2.heap.size 61 i0 (.int .u64 0) 1 Tryz.underlying25 hi hz0 hz1 .i64 .i64 _ _ L rfl rfl (by omega) (by omega) (by rw [hz2];omega) (by unfold maxLen;omega) (Nat.le_refl _) ?_;intro w3 hown hgrow)
 have hm3:=Blk.made hown
 have hbel3:Below w2.heap.size w2 w3:=(Below.refl _ _).grown hgrow (Nat.le_refl _) (fun k hk=>by cases hk)
 obtain⟨g,hg⟩:∃g,g=w2.heap.size:=⟨_,rfl⟩
 rw [←hg] at hm3 ⊢
 have hgw:w.heap.size<g:=by omega
 have hgbz:g≠bz:=by omega
 have HB3:Hid (Blk w3 bz Z2):=aa (HB2.out.below' hbel3)
 have HX3:Hid (w3.heap[w.heap.size]?=some (.cells #[.int .i64 H,.int .i64 T] 117)):=aa (by rw [hbel3.block w.heap.size (by omega)];exact HX2.out)
 have HF3:Hid (Fr bz w w3):=aa (HF02.out.trans (Fr.of_below hbel3))
 clear hown hgrow hi hz0 hz1 hz2 hg hbel3 HB2 HX2 HF02 hrun HW1
 go_loopw [9] (fun i wr=>∃(t:Nat) (Z' M:List Nat),t≤n∧i=.int .i64 t∧Out Z Z' zo (zo+n)∧Limbs Z'∧Blk wr bz Z'∧M.length=L∧Limbs M∧Blk wr g M∧wr.heap[w.heap.size]?=some (.cells #[.int .i64 H,.int .i64 T] 117)∧Fr bz w wr ∧
   sv Z' zo n=val (X.take t)*val Y) (fun i _=>X.length - (intOf i).toNat)
 case atStart=>exact⟨0,Z2,_,Nat.zero_le _,rfl,HO2.out,hL2,HB3.out,by simp,limbs_replicate _,hm3,HX3.out,HF3.out,by rw [HS2.out];simp [val]⟩
 case round=>
  obtain⟨t,Z',M,htn,rfl,hout,hlz,hblk,hML,hMl,hM,hbx,hfr0,hval⟩:=hrel
  clear HB3 HX3 HF3 hm3 HO2 hL2 HS2
  have hl:=hout.len
  by_cases htl:t<X.length
  ·have hAX:=HHA.out.fr HOF.out hfr0 HB0.out hblk hout
   have hAY:=HHA2.out.fr HOF2.out hfr0 HB0.out hblk hout
   obtain⟨ao,cc,e0,_,_,hlx⟩:=hAX.form
   cases e0
   rcases hlx with h0|⟨b,off,rfl,_⟩
   ·rw [h0] at htl;simp at htl
   have HP:=nO b off c1 t Y.length X wr hAX htl (by omega)
   have lP:((X.drop t).take Y.length).length≤Y.length:=by simp;omega
   have hstep:=(kF X t Y.length (val Y)).resolve_right (by omega)
   have htot2:val (X.take (t+Y.length))*val Y≤val X*val Y:=Nat.mul_le_mul_right _ (oB X _)
   have hIP:=HII.out t htl
   have hOg:bK (.slice (some ⟨b,off,none⟩) X.length c1) g:=bK.far HHA.out (by omega) (by omega)
   have hOg2:bK (.slice a2 Y.length c2) g:=bK.far HHA2.out hY (by omega)
   have hc0:wr.cell? ⟨w.heap.size,0,none⟩=some (.int .i64 H):=by simp [World.cell?,hbx]
   have hc1':wr.cell? ⟨w.heap.size,1,none⟩=some (.int .i64 T):=by simp [World.cell?,hbx]
   generalize (X.drop t).take Y.length=P at *
   have HST:=aa hstep
   have HT2:=aa htot2
   have HV:=aa hval
   have HBX:=aa hbx
   have HHM:=aa hM
   have HBK:=aa hblk
   have HFR:=aa hfr0
   have HO:=aa hout
   have HAY:=aa hAY
   clear hstep htot2 hval hbx hAX hblk hfr0 hout hAY
   go_wp2_with fail
   refine HP.mono ?_
   rintro e w4 ⟨⟨v,rfl,AP,HWi⟩,hw⟩
   subst hw
   obtain⟨ap,cp,rfl,hcp1,hcp2,_⟩:=AP.form
   have HI:=hIP g 0 L M _ _ w4 hM hMl AP HAY.out (HWi.2 _ hOg) hOg2 (by omega) (by omega) (by omega)
   obtain⟨s,es1,es2,hs1,hs2⟩:∃s:Nat,P.length+Y.length=s∧(P.length:Int)+(Y.length:Int)=(s:Int)∧s≤L∧P.length+Y.length≤s:=⟨_,rfl,by omega,by omega,Nat.le_refl _⟩
   rw [es1] at HI
   unfold way at HI
   have is1:(s:Int)≤(L:Int):=by omega
   have is0:(0:Int)≤(s:Int):=by omega
   clear es1 HP hOg hOg2 AP HWi hM
   go_wp2_with fail
   refine HI.mono ?_
   rintro e w5 ⟨rfl,M',hO5,hl5,hB5,hF5,hv5⟩
   have hB5z:=hF5.blk HBK.out (Ne.symm hgbz)
   have hbx5:w5.heap[w.heap.size]?=some (.cells #[.int .i64 H,.int .i64 T] 117):=by
    rw [hF5.block w.heap.size (by have:=HHM.out.lt;omega) (by omega)];exact HBX.out
   have hM5:M'.length=L:=by rw [hO5.len];exact hML
   have hle5:sv Z' zo n+18446744073709551616 ^ t*(val P*val Y)≤val X*val Y:=by
    rw [HV.out,←HST.out];exact HT2.out
   have hvt:val (M'.take s)=val P*val Y:=by rw [mF,hv5]
   have hfit:=gF Z' zo t n (val P*val Y) _ (by omega) (by omega) hle5 (by rw [←HEN.out];exact HTOT.out)
   have HPl:=cV bz (zo+t) (n - t) (cap - t) Z' _ (M'.take s) w5 hB5z hlz (hB5.take_arg hl5 s L (by omega) (by omega) (by omega)) (fun b' off' n' c' e=>by cases e;exact .inl hgbz) (by omega) (by omega) (by omega) (by rw [hvt];exact hfit)
   rw [hvt] at HPl
   have HF5:=aa (HFR.out.other hF5 (by omega))
   have HB5:=aa hB5
   have HX5:=aa hbx5
   have k9:¬cap=t:=by omega
   have it1:(t:Int)≤(n:Int):=by omega
   have it0:(0:Int)≤(t:Int):=by omega
   clear hO5 hB5 hF5 hv5 hB5z hbx5 hle5 hvt hfit HI HBX HHM HBK HFR hc0 hc1'
   go_wp2_with fail
   refine HPl.mono ?_
   rintro e w6 ⟨rfl,Z'',hO6,hl6,hB6,hF6,hv6⟩
   rw [show zo+t+(n - t)=zo+n by omega] at hO6
   have HV6:=aa (gz Z' Z'' zo t n _ (by omega) (by omega) hO6 hv6)
   rw [HV.out,←HST.out] at HV6
   have HO6:=aa (HO.out.trans (hO6.wider (by omega) (Nat.le_refl _)))
   have HB6:=aa hB6
   have HM6:=aa (hF6.blk HB5.out hgbz)
   have HX6:Hid (w6.heap[w.heap.size]?=some (.cells #[.int .i64 H,.int .i64 T] 117)):=aa (by rw [hF6.block w.heap.size (by have:=HB5.out.lt;omega) (by omega)];exact HX5.out)
   have HF6:=aa (HF5.out.trans hF6)
   clear hO6 hB6 hF6 hv6 HPl HV HST HT2
   go_wp2
   go_roundw
   case rel=>exact⟨t+Y.length,Z'',M',by omega,by go_num,HO6.out,hl6,HB6.out,hM5,hl5,HM6.out,HX6.out,HF6.out,HV6.out⟩
   case measure=>simp [intOf];omega
  ·have HV:Hid (sv Z' zo n=val X*val Y):=aa (by rw [hval,List.take_of_length_le (by omega)])
   have HD:=aa (And.intro hout (And.intro hlz (And.intro hblk hfr0)))
   clear hout hlz hblk hM hbx hfr0 hval hMl hML
   go_wp2
   go_end0
   exact⟨rfl,Z',HD.out.1,HD.out.2.1,HD.out.2.2.1,HD.out.2.2.2,HV.out⟩
end Go.Proofs.YtdbjbbdhlpfhjaaGreatDoor
namespace Go.Proofs.YtdbjbbdhlpfhjaaGreatDoor
open Go.RowKit
open Lm

def iC (w:World)(n p:Nat)(e:Ending)(w':World):Prop:=
 ∃(g:Nat) (Z':List Nat),e=.returned (.slice (some ⟨g,0,none⟩) n n)∧w.heap.size≤g∧Z'.length=n∧Limbs Z'∧Blk w' g Z'∧val Z'=p∧Below w.heap.size w w'

theorem mb (H T:Int)(va vb:Value)(X Y:List Nat)(w:World)(hA:Arg w va X)(hA2:Arg w vb Y)(hX:0<X.length)(hY:0<Y.length)(hf:X.length+Y.length≤35184372088831)(hI:bV H T X Y) :
  Calls Tryz.prog 214 #[way H T,va,vb] w (iC w (X.length+Y.length) (val X*val Y)):=by
 unfold way
 obtain⟨a1,c1,rfl,hcc1,hcm1,_⟩:=hA.form
 obtain⟨a2,c2,rfl,hcc2,hcm2,_⟩:=hA2.form
 obtain⟨i0,hi,hz0,hz1,hz2⟩:=info_parts Tryz.infoU
 obtain⟨w1,hw1⟩:∃w1,w1=w.alloc (.cells #[.int .i64 H,.int .i64 T] 117):=⟨_,rfl⟩
 have hbel1:Below w.heap.size w w1:=by rw [hw1];exact (Below.refl _ _).alloc (Nat.le_refl _) _
 have hs1:w1.heap.size=w.heap.size+1:=by rw [hw1];simp
 have hb1:w1.heap[w.heap.size]?=some (.cells #[.int .i64 H,.int .i64 T] 117):=by rw [hw1];exact heap_alloc_new ..
 have HW1:=aa hw1
 have B1:=aa hbel1
 have HX1:=aa hb1
 clear hw1 hbel1 hb1
 obtain⟨n,hn,en⟩:∃n:Nat,X.length+Y.length=n∧(X.length:Int)+(Y.length:Int)=(n:Int):=⟨_,rfl,by omega⟩
 rw [hn]
 have hn1:n≤35184372088831:=by omega
 have HN:=aa hn
 clear hn
 go_enter Tryz.func214,Tryz.ntmps214
 go_wp2_with (at_make;(rw [←HW1.out];refine wpList_make_full _ rfl _ _ 25 rfl w1.heap.size 61 i0 (.int .u64 0) 1 Tryz.underlying25 hi hz0 hz1 .i64 .i64 _ _ n rfl rfl (by omega) (by omega) (by rw [hz2];omega) (by unfold maxLen;omega) (Nat.le_refl _) ?_;intro w3 hown hgrow;have hm3:=Blk.made hown;have hbel3:Below w1.heap.size w1 w3:=(Below.refl _ _).grown hgrow (Nat.le_refl _) (fun k hk=>by cases hk);have hbx3:w3.heap[w.heap.size]?=some (.cells #[.int .i64 H,.int .i64 T] 117):=(hbel3.block w.heap.size (by omega)).trans HX1.out;have hc0:w3.cell? ⟨w.heap.size,0,none⟩=some (.int .i64 H):=(by simp [World.cell?,hbx3]);have hc1:w3.cell? ⟨w.heap.size,1,none⟩=some (.int .i64 T):=(by simp [World.cell?,hbx3]);clear hown hgrow hbx3))
 rw [hs1] at hm3
 have B3:Hid (Below w.heap.size w w3):=aa (B1.out.trans (hbel3.mono B1.out.size))
 obtain⟨g,hg⟩:∃g,g=w.heap.size+1:=⟨_,rfl⟩
 rw [←hg] at hm3 ⊢
 have HI:=hI g 0 n (List.replicate n 0) _ _ w3 hm3 (limbs_replicate _) (hA.below B3.out) (hA2.below B3.out) (bK.far hA hX (by omega)) (bK.far hA2 hY (by omega)) (by simp;have:=HN.out;omega) (by have:=HN.out;omega) (by omega)
 rw [HN.out] at HI
 unfold way at HI
 have HG:=aa hg
 clear hg hm3 hbel3 hA hA2 hI
 go_wp2_with fail
 refine HI.mono ?_
 rintro e w5 ⟨rfl,Z',hO5,hl5,hB5,hF5,hv5⟩
 have hlen:Z'.length=n:=by rw [hO5.len];simp
 have hv:val Z'=val X*val Y:=by rw [←hv5,←hlen,bH]
 have HD:Hid (w.heap.size≤g∧Z'.length=n∧Limbs Z'∧Blk w5 g Z'∧val Z'=val X*val Y∧Below w.heap.size w w5):=aa ⟨by have:=HG.out;omega,hlen,hl5,hB5,hv,B3.out.trans (hF5.below (by have:=HG.out;omega) B3.out.size)⟩
 clear hO5 hl5 hB5 hF5 hv5 hv hlen HI B3
 go_wp2
 go_ret
 exact⟨g,Z',rfl,HD.out⟩

theorem mw (a0 a1 b0 b1 da db:Nat)(ha:da=if a0<a1 then a1 - a0 else a0 - a1)(hb:db=if b0<b1 then b1 - b0 else b0 - b1) :
  (if decide (a0<a1)≠decide (b0<b1) then a0*b0+a1*b1+da*db else a0*b0+a1*b1 - da*db)=a0*b1+a1*b0:=by
 subst ha;subst hb
 by_cases h1:a0<a1 <;> by_cases h2:b0<b1
 ·obtain⟨p,rfl⟩:∃p,a1=a0+p:=⟨a1 - a0,by omega⟩
  obtain⟨q,rfl⟩:∃q,b1=b0+q:=⟨b1 - b0,by omega⟩
  simp only [h1,h2,decide_true,if_true,ne_eq,not_true_eq_false,if_false,Nat.add_sub_cancel_left]
  have:a0*b0+(a0+p)*(b0+q)=a0*(b0+q)+(a0+p)*b0+p*q:=by grind
  omega
 ·obtain⟨p,rfl⟩:∃p,a1=a0+p:=⟨a1 - a0,by omega⟩
  obtain⟨q,rfl⟩:∃q,b0=b1+q:=⟨b0 - b1,by omega⟩
  simp only [h1,h2,decide_true,decide_false,if_true,if_false,ne_eq,Bool.true_eq_false,not_false_eq_true,Nat.add_sub_cancel_left]
  grind
 ·obtain⟨p,rfl⟩:∃p,a0=a1+p:=⟨a0 - a1,by omega⟩
  obtain⟨q,rfl⟩:∃q,b1=b0+q:=⟨b1 - b0,by omega⟩
  simp only [h1,h2,decide_true,decide_false,if_true,if_false,ne_eq,Bool.false_eq_true,not_false_eq_true,Nat.add_sub_cancel_left]
  grind
 ·obtain⟨p,rfl⟩:∃p,a0=a1+p:=⟨a0 - a1,by omega⟩
  obtain⟨q,rfl⟩:∃q,b0=b1+q:=⟨b0 - b1,by omega⟩
  simp only [h1,h2,decide_false,if_false,ne_eq,not_true_eq_false,Nat.add_sub_cancel_left]
  have:(a1+p)*(b1+q)+a1*b1=(a1+p)*b1+a1*(b1+q)+p*q:=by grind
  omega

theorem Arg.drew {w:World}{v:Value}{zs:List Nat}(h:Arg w v zs):Arg w.drew v zs:=h.below (Below.refl _ _).drew

theorem Arg.front {w:World}{b off n cap:Nat}{X:List Nat}(h:Arg w (.slice (some ⟨b,off,none⟩) n cap) X)(m:Nat)(hm:m≤n):Arg w (.slice (some ⟨b,off,none⟩) m cap) (X.take m):=h.cut 0 m (by omega)

theorem bJ (X:List Nat)(h:Nat)(hh:h≤X.length):val X=val (X.take h)+18446744073709551616 ^ h*val (X.drop h):=by
 conv=>lhs;rw [←List.take_append_drop h X,val_append]
 rw [List.length_take,Nat.min_eq_left hh]

theorem cm {X:List Nat}(hX:Limbs X)(h:Nat)(hh:h≤X.length):val (X.take h)<18446744073709551616 ^ h:=by
 have:=val_lt (zs:=X.take h) (fun z hz=>hX z (List.mem_of_mem_take hz))
 rwa [List.length_take,Nat.min_eq_left hh] at this

theorem dm {X:List Nat}(hX:Limbs X)(h m:Nat)(hh:X.length≤h+m):val (X.drop h)<18446744073709551616 ^ m:=by
 have h1:=val_lt (zs:=X.drop h) (fun z hz=>hX z (List.mem_of_mem_drop hz))
 refine Nat.lt_of_lt_of_le h1 (Nat.pow_le_pow_right (by omega) ?_)
 simp;omega

theorem Fr.undrew {bz:Nat}{w w':World}(h:Fr bz w.drew w'):Fr bz w w':=⟨h.os,h.tape,h.output,h.size,h.block⟩

theorem Arg.frb {w w':World}{b off n c bz:Nat}{X:List Nat}(h:Arg w (.slice (some ⟨b,off,none⟩) n c) X)(hf:Fr bz w w')(hb:b≠bz):Arg w' (.slice (some ⟨b,off,none⟩) n c) X:=by
 obtain⟨ao,cc,e,h2,h3,hl⟩:=h.form
 cases e
 refine⟨⟨_,_,rfl,h2,h3,?_⟩,h.limbs,h.few,h.nz⟩
 rcases hl with h0|⟨b',off',e,hc⟩
 ·exact .inl h0
 ·cases e
  rcases Nat.eq_zero_or_pos X.length with h0|h0
  ·exact .inl (List.length_eq_zero_iff.1 h0)
  ·have hlt:b<w.heap.size:=aD.block (zs:=X) (.inr ⟨b,off,rfl,hc⟩) h0
   refine .inr ⟨b,off,rfl,fun k hk=>?_⟩
   rw [World.cell?_of_block (w:=w) (hf.block b hlt hb)]
   exact hc k hk

theorem Blk.seg_arg {w:World}{g:Nat}{M:List Nat}(h:Blk w g M)(hl:Limbs M)(o n cap:Nat)(hs:o+n≤M.length)(hc:n≤cap)(hm:cap≤9223372036854775807)(hn:n≤1125899906842624):Arg w (.slice (some ⟨g,o,none⟩) n cap) (seg M o n):=by
 have e:=bk M o n hs
 refine⟨⟨_,cap,by rw [e],by omega,hm,.inr ⟨g,o,rfl,fun k hk=>?_⟩⟩,dj hl o n,by omega,fun n c e=>by cases e⟩
 rw [e] at hk
 rw [h.cell (o+k) (by omega),dA _ _ _ _ hk]

structure Fr2 (b1 b2:Nat)(w w':World):Prop where
 os:w'.os=w.os
 tape:w'.tape=w.tape
 output:w'.output=w.output
 size:w.heap.size≤w'.heap.size
 block:∀k,k<w.heap.size→k≠b1→k≠b2→w'.heap[k]?=w.heap[k]?

theorem Fr2.refl (b1 b2:Nat)(w:World):Fr2 b1 b2 w w:=⟨rfl,rfl,rfl,Nat.le_refl _,fun _ _ _ _=>rfl⟩

theorem Fr2.trans {b1 b2:Nat}{a b c:World}(h:Fr2 b1 b2 a b)(k:Fr2 b1 b2 b c):Fr2 b1 b2 a c:=
 ⟨k.os.trans h.os,k.tape.trans h.tape,k.output.trans h.output,Nat.le_trans h.size k.size,fun i h1 h2 h3=>(k.block i (Nat.lt_of_lt_of_le h1 h.size) h2 h3).trans (h.block i h1 h2 h3)⟩

theorem Fr.left2 {b1 b2:Nat}{w w':World}(h:Fr b1 w w'):Fr2 b1 b2 w w':=⟨h.os,h.tape,h.output,h.size,fun k h1 h2 _=>h.block k h1 h2⟩

theorem Fr.right2 {b1 b2:Nat}{w w':World}(h:Fr b2 w w'):Fr2 b1 b2 w w':=⟨h.os,h.tape,h.output,h.size,fun k h1 _ h3=>h.block k h1 h3⟩

theorem Blk.frb {w w':World}{b bz:Nat}{xs:List Nat}(h:Blk w b xs)(hf:Fr bz w w')(hne:b≠bz):Blk w' b xs:=(hf.block b h.lt hne).trans h

theorem lT {S V q S1 X:Nat}(hV:0<V)(hq:q=S / V∨q=S / V+1)(h1:S1+V*q=S)(_hX:S1<X):q=S / V∧S1=S % V:=by
 have h2:=Nat.div_add_mod S V
 have h3:=Nat.mod_lt S hV
 rcases hq with h|h
 ·rw [h] at h1
  exact⟨h,by omega⟩
 ·rw [h,Nat.mul_add,Nat.mul_one] at h1
  omega

theorem oc {S V q S1 S2 c X:Nat}(hV:0<V)(hq:q=S / V∨q=S / V+1)(h1:S1+V*q=S+1*X)(hX:S1<X)(h2:S2+c*X=S1+V)(hX2:S2<X)(hc:c≤1):q - 1=S / V∧1≤q∧S2=S % V:=by
 have h3:=Nat.div_add_mod S V
 have h4:=Nat.mod_lt S hV
 generalize S / V=d at *
 generalize S % V=r at *
 rcases hq with h|h
 ·rw [h] at h1
  omega
 ·rw [h,Nat.mul_add,Nat.mul_one] at h1
  generalize V*d=y at *
  refine⟨by omega,by omega,?_⟩
  rcases (by omega:c=0∨c=1) with rfl|rfl
  ·omega
  ·omega

structure bB (bq qo m bu uo n VV:Nat)(Q U:List Nat)(w wr:World)(k:Nat)(Q' U':List Nat):Prop where
 outQ:Out Q Q' (qo+k) (qo+m)
 limQ:Limbs Q'
 blkQ:Blk wr bq Q'
 outU:Out U U' (uo+k) (uo+(m+n))
 limU:Limbs U'
 blkU:Blk wr bu U'
 fr:Fr2 bq bu w wr
 eq:sv Q' (qo+k) (m - k)*VV+sv U' (uo+k) n=sv U (uo+k) (n+(m - k))
 lt:sv U' (uo+k) n<VV
 top:sv U' (uo+k+n) (m - k)=0

theorem bB.step {bq qo m bu uo n VV:Nat}{Q U:List Nat}{w wr w2:World}{i:Nat}{Q' U' U2:List Nat}(h:bB bq qo m bu uo n VV Q U w wr (i+1) Q' U')(hi:i<m)
  (hq:qo+m≤Q.length) (hu:uo+(m+n)≤U.length) (hV:0<VV) (hVn:VV≤18446744073709551616 ^ n) (qd:Nat) (hqd:qd<18446744073709551616) (e1:qd=sv U' (uo+i) (n+1) / VV)
  (hO:Out U' U2 (uo+i) (uo+i+(n+1))) (hL:Limbs U2) (e2:sv U2 (uo+i) (n+1)=sv U' (uo+i) (n+1) % VV)
  (hB:Blk w2 bu U2) (hBq:Blk w2 bq (Q'.set (qo+i) qd)) (hf:Fr2 bq bu wr w2):bB bq qo m bu uo n VV Q U w w2 i (Q'.set (qo+i) qd) U2:=by
 have hlQ:=h.outQ.len
 have hlU:=h.outU.len
 have hlU2:=hO.len
 have hr:sv U' (uo+i) (n+1) % VV<VV:=Nat.mod_lt _ hV
 have hsp:=aB U2 (uo+i) n 1 (by omega)
 have hone:=fw U2 (uo+i+n) (by omega)
 rw [hone] at hsp
 have htop:U2.getD (uo+i+n) 0=0:=by
  rcases Nat.eq_zero_or_pos (U2.getD (uo+i+n) 0) with h0|h0
  ·exact h0
  ·have:=Nat.mul_le_mul_left (18446744073709551616 ^ n) h0
   omega
 rw [htop,Nat.mul_zero] at hsp
 simp only [Nat.add_zero] at hsp
 have hS:=cU U' (uo+i) 0 (n+1) (by omega) (by omega)
 rw [Nat.add_zero,Nat.sub_zero,Nat.zero_add,Nat.add_sub_cancel] at hS
 have hUi:=h.outU.same (uo+i) (by omega)
 have hUs:=cU U (uo+i) 0 (n+(m - i)) (by omega) (by omega)
 rw [Nat.add_zero,Nat.sub_zero,Nat.zero_add,show n+(m - i) - 1=n+(m - (i+1)) by omega] at hUs
 have hQs:=cU (Q'.set (qo+i) qd) (qo+i) 0 (m - i) (by simp;omega) (by omega)
 rw [Nat.add_zero,Nat.sub_zero,Nat.zero_add,cQ,if_pos ⟨rfl,by omega⟩,show m - i - 1=m - (i+1) by omega] at hQs
 have eO:Out Q' (Q'.set (qo+i) qd) (qo+i) (qo+(i+1)):=(Out.refl _ _ _).set _ _ (by omega) (by omega)
 rw [show qo+i+1=qo+(i+1) from rfl,eO.sv (qo+(i+1)) (m - (i+1)) (by omega)] at hQs
 refine⟨?_,limbs_set h.limQ _ _ hqd,hBq,?_,hL,hB,h.fr.trans hf,?_,?_,?_⟩
 ·exact (h.outQ.wider (by omega) (Nat.le_refl _)).set _ _ (by omega) (by omega)
 ·exact (h.outU.wider (by omega) (Nat.le_refl _)).trans (hO.wider (by omega) (by omega))
 ·rw [hQs,hUs,←hUi,←hsp,e2,show uo+i+1=uo+(i+1) from rfl,←h.eq]
  rw [show uo+i+1=uo+(i+1) from rfl] at hS
  have h5:=Nat.div_add_mod (sv U' (uo+i) (n+1)) VV
  rw [←e1] at h5
  generalize sv U' (uo+i) (n+1) % VV=r at *
  generalize sv U' (uo+i) (n+1)=S at *
  generalize sv Q' (qo+(i+1)) (m - (i+1))=a at *
  generalize sv U' (uo+(i+1)) n=b at *
  generalize U'.getD (uo+i) 0=c at *
  have e6:(qd+18446744073709551616*a)*VV=VV*qd+18446744073709551616*(a*VV):=by
   rw [Nat.add_mul,Nat.mul_comm qd,Nat.mul_assoc]
  rw [e6,Nat.mul_add]
  omega
 ·rw [←hsp,e2];exact hr
 ·have hc:=cU U2 (uo+i+n) 0 (m - i) (by omega) (by omega)
  rw [Nat.add_zero,Nat.sub_zero,Nat.zero_add,htop,Nat.zero_add,show m - i - 1=m - (i+1) by omega] at hc
  rw [hc,hO.sv (uo+i+n+1) (m - (i+1)) (by omega),show uo+i+n+1=uo+(i+1)+n by omega,h.top]

theorem mv (n k:Nat):(List.replicate n 0).getD k 0=0:=by
 by_cases h:k<n
 ·simp [List.getD,h]
 ·simp [List.getD,h]

theorem iB (h d:Nat)(e:d=h+h):18446744073709551616 ^ d=18446744073709551616 ^ h*18446744073709551616 ^ h:=by
 rw [e,Nat.pow_add]

theorem jg {a b d:Nat}(ha:a<18446744073709551616 ^ d)(hb:b<18446744073709551616 ^ d):a+b<18446744073709551616 ^ (d+1):=by
 rw [Nat.pow_succ]
 generalize (18446744073709551616:Nat) ^ d=P at *
 omega

theorem nQ (a0 a1 b0 b1 da db:Nat)(ha:da=if a0<a1 then a1 - a0 else a0 - a1)(hb:db=if b0<b1 then b1 - b0 else b0 - b1)(h:decide (a0<a1)=decide (b0<b1)):da*db≤a0*b0+a1*b1:=by
 subst ha;subst hb
 by_cases h1:a0<a1
 ·have h2:b0<b1:=by simpa [h1] using h
  rw [if_pos h1,if_pos h2]
  exact Nat.le_trans (Nat.mul_le_mul (Nat.sub_le _ _) (Nat.sub_le _ _)) (Nat.le_add_left _ _)
 ·have h2:¬b0<b1:=by simpa [h1] using h
  rw [if_neg h1,if_neg h2]
  exact Nat.le_trans (Nat.mul_le_mul (Nat.sub_le _ _) (Nat.sub_le _ _)) (Nat.le_add_right _ _)

theorem jV (a0 a1 b0 b1 P:Nat):(a0+P*a1)*(b0+P*b1)=a0*b0+P*P*(a1*b1)+P*(a0*b1+a1*b0):=by grind

theorem jD (H T:Int)(bz zo cap h:Nat)(Z:List Nat)(b off c1 b2 off2 c2:Nat)(X Y:List Nat)(w:World)(hB:Blk w bz Z)(hLZ:Limbs Z)
  (hA:Arg w (.slice (some ⟨b,off,none⟩) X.length c1) X) (hA2:Arg w (.slice (some ⟨b2,off2,none⟩) Y.length c2) Y) (hb:b≠bz) (hb2:b2≠bz)
  (hzo:zo+(X.length+Y.length)≤Z.length) (hc1:X.length+Y.length≤cap) (hc2:cap≤9223372036854775807) (hh0:0<h) (hhY:h<Y.length) (hYX:Y.length≤X.length) (hXh:X.length≤2*h) (hlX:X.length≤4398046511103)
  (hI:∀P Q:List Nat,P.length+Q.length<X.length+Y.length→bV H T P Q) :
  Calls Tryz.prog 192 #[way H T,.slice (some ⟨bz,zo,none⟩) (X.length+Y.length) cap,.slice (some ⟨b,off,none⟩) X.length c1,.slice (some ⟨b2,off2,none⟩) Y.length c2,.int .i64 h] w (aG bz zo (X.length+Y.length) Z w (val X*val Y)):=by
 unfold way
 obtain⟨_,_,e0,hcc1,hcm1,_⟩:=hA.form
 cases e0
 obtain⟨_,_,e0,hcc2,hcm2,_⟩:=hA2.form
 cases e0
 obtain⟨i0,hi,hz0,hz1,hz2⟩:=info_parts Tryz.infoU
 have hbz:=hB.lt
 have hbw:=hA.block (by omega)
 have hbw2:=hA2.block (by omega)
 obtain⟨w1,hw1⟩:∃w1,w1=w.alloc (.cells #[.int .i64 H,.int .i64 T] 117):=⟨_,rfl⟩
 have hbel1:Below w.heap.size w w1:=by rw [hw1];exact (Below.refl _ _).alloc (Nat.le_refl _) _
 have hs1:w1.heap.size=w.heap.size+1:=by rw [hw1];simp
 have hb1:w1.heap[w.heap.size]?=some (.cells #[.int .i64 H,.int .i64 T] 117):=by rw [hw1];exact heap_alloc_new ..
 have HW1:=aa hw1
 have HX1:=aa hb1
 have HB1:=aa (hB.below' hbel1)
 have HA1:=aa (hA.below hbel1)
 have HA2:=aa (hA2.below hbel1)
 have HF1:=aa (Fr.of_below (bz:=bz) hbel1)
 have HII:=aa hI
 clear hw1 hbel1 hb1 hB hA hA2 hI
 obtain⟨n,hn⟩:∃n:Nat,X.length+Y.length=n:=⟨_,rfl⟩
 have hn1:n≤X.length+Y.length:=by omega
 have hn2:X.length+Y.length≤n:=by omega
 rw [hn] at hzo hc1 HII ⊢
 have HN:=aa hn
 clear hn
 obtain⟨d,ed,hd1,hd2⟩:∃d:Nat,(2:Int)*(h:Int)=(d:Int)∧d≤2*h∧2*h≤d:=⟨2*h,by omega,by omega,by omega⟩
 obtain⟨R,eR,hR1,hR2⟩:∃R:Nat,(4:Int)*(h:Int)+1=(R:Int)∧R≤4*h+1∧4*h+1≤R:=⟨4*h+1,by omega,by omega,by omega⟩
 have wd:IntKind.i64.wrap (d:Int)=(d:Int):=by rw [IntKind.wrap_i64];omega
 have kd0:(0:Int)≤(d:Int):=by omega
 have kd1:(d:Int)≤(n:Int):=by omega
 have kd2:¬cap=d:=by omega
 have kd3:(d:Int)≤(cap:Int):=by omega
 go_enter Tryz.func192,Tryz.ntmps192
 go_wp2_with fail
 rw [←HW1.out]
 go_region
 go_wp2_with (at_make;refine wpList_make_full _ rfl _ _ 25 rfl w1.drew.heap.size 61 i0 (.int .u64 0) 1 Tryz.underlying25 hi hz0 hz1 .i64 .i64 _ _ R rfl rfl (by omega) (by omega) (by rw [hz2];omega) (by unfold maxLen;omega) (Nat.le_refl _) ?_;intro w3 hown hgrow)
 have hm3:Blk w3 (w.heap.size+1) (List.replicate R 0):=by rw [←hs1];exact Blk.made hown
 have hbel3:Below w1.heap.size w1 w3:=((Below.refl _ _).drew).grown hgrow (Nat.le_refl _) (fun k hk=>by cases hk)
 have HB3:=aa (HB1.out.below' hbel3)
 have HX3:Hid (w3.heap[w.heap.size]?=some (.cells #[.int .i64 H,.int .i64 T] 117)):=aa (by rw [hbel3.block w.heap.size (by omega)];exact HX1.out)
 have HF3:Hid (Fr bz w w3):=aa (HF1.out.trans (Fr.of_below hbel3))
 have HA3:=aa (HA1.out.below hbel3)
 have HA23:=aa (HA2.out.below hbel3)
 obtain⟨g,hg⟩:∃g,g=w.heap.size+1:=⟨_,rfl⟩
 rw [←hg] at hm3 ⊢
 have hgw:w.heap.size<g:=by omega
 have HM3:=aa hm3
 clear hown hgrow hi hz0 hz1 hz2 hbel3 HB1 HX1 HF1 HA1 HA2 HW1 hg hm3 hs1
 have mX:=HA3.out.limbs
 have mY:=HA23.out.limbs
 have kr1:(d:Int)≤(R:Int):=by omega
 have kr2:¬R=d:=by omega
 have kh0:(0:Int)≤(h:Int):=by omega
 have kh1:(h:Int)≤(d:Int):=by omega
 have kh2:(h:Int)≤(X.length:Int):=by omega
 have kh3:(h:Int)≤(Y.length:Int):=by omega
 have kh4:¬c1=h:=by omega
 have kh5:¬c2=h:=by omega
 have kh6:¬cap=h:=by omega
 have kh7:(h:Int)≤(c1:Int):=by omega
 have kh8:(h:Int)≤(c2:Int):=by omega
 have kh9:(h:Int)≤(cap:Int):=by omega
 have HAP:=fS bz zo h cap Z _ _ (X.take h) (X.drop h) w3.drew.drew HB3.out hLZ (HA3.out.front h (by omega)).drew.drew (HA3.out.drop h (by omega)).drew.drew
  (fun b' off' n' c' e=>by cases e;exact .inl hb) (fun b' off' n' c' e=>by cases e;exact .inl hb) (by omega) (by omega) hc2 (cm mX h (by omega)) (dm mX h h (by omega))
 go_wp2
 go_region
 go_wp2
 go_region_held3 (fun _=>True) (trivial) (first | (go_at_call 220;refine HAP.mono ?_;rintro e w4 ⟨rfl,Z1,p1,p2,p3,p4,p5⟩))
 have F4:=aa p4.undrew.undrew
 obtain⟨da,hda⟩:∃da,da=(if val (X.take h)<val (X.drop h) then val (X.drop h) - val (X.take h) else val (X.take h) - val (X.drop h)):=⟨_,rfl⟩
 rw [←hda] at p5
 have HDA:=aa hda
 have hbzg:bz≠g:=by omega
 have HM4:=aa (F4.out.blk HM3.out (Ne.symm hbzg))
 have HX4:Hid (w4.heap[w.heap.size]?=some (.cells #[.int .i64 H,.int .i64 T] 117)):=aa (by rw [F4.out.block w.heap.size (by have:=HM3.out.lt;omega) (by omega)];exact HX3.out)
 have HA4:=aa (HA3.out.frb F4.out hb)
 have HA24:=aa (HA23.out.frb F4.out hb2)
 have HF4:=aa (HF3.out.trans F4.out)
 have O1:=aa p1
 have S1:=aa p5
 have l1:=p1.len
 have edh:d - h=h:=by omega
 have HAP2:=fS bz (zo+h) h (cap - h) Z1 _ _ (Y.take h) (Y.drop h) w4.drew p3 p2 (HA24.out.front h (by omega)).drew (HA24.out.drop h (by omega)).drew
  (fun b' off' n' c' e=>by cases e;exact .inl hb2) (fun b' off' n' c' e=>by cases e;exact .inl hb2) (by omega) (by omega) (by omega) (cm mY h (by omega)) (dm mY h h (by omega))
 clear p1 p2 p3 p4 p5 hda HAP HB3 HX3 HF3 HA3 HA23 HM3 F4
 generalize hsa:decide (val (X.take h)<val (X.drop h))=sa at *
 have HSA:=aa hsa
 clear hsa
 go_wp2
 go_region_held3 (fun _=>True) (trivial) (first | (go_at_call 220;refine HAP2.mono ?_;rintro e w5 ⟨rfl,Z2,p1,p2,p3,p4,p5⟩))
 have F5:=aa p4.undrew
 obtain⟨db,hdb⟩:∃db,db=(if val (Y.take h)<val (Y.drop h) then val (Y.drop h) - val (Y.take h) else val (Y.take h) - val (Y.drop h)):=⟨_,rfl⟩
 rw [←hdb] at p5
 have HDB:=aa hdb
 have HM5:=aa (F5.out.blk HM4.out (Ne.symm hbzg))
 have HX5:Hid (w5.heap[w.heap.size]?=some (.cells #[.int .i64 H,.int .i64 T] 117)):=aa (by rw [F5.out.block w.heap.size (by have:=HM4.out.lt;omega) (by omega)];exact HX4.out)
 have HA5:=aa (HA4.out.frb F5.out hb)
 have HA25:=aa (HA24.out.frb F5.out hb2)
 have HF5:=aa (HF4.out.trans F5.out)
 have O2:=aa (O1.out.wider (lo':=zo) (hi':=zo+n) (Nat.le_refl _) (by omega) |>.trans (p1.wider (by omega) (by omega)))
 have S2a:Hid (sv Z2 zo h=da):=aa (by rw [p1.sv zo h (by omega)];exact S1.out)
 have S2b:=aa p5
 have HB5:=aa p3
 have HL5:=aa p2
 have l2:Z2.length=Z.length:=O2.out.len
 have sg1:=bk Z2 zo h (by omega)
 have sg2:=bk Z2 (zo+h) h (by omega)
 have HI3:=HII.out (seg Z2 zo h) (seg Z2 (zo+h) h) (by rw [sg1,sg2];omega) g 0 R (List.replicate R 0) _ _ w5.drew HM5.out (limbs_replicate _) (p3.seg_arg p2 zo h cap (by omega) (by omega) (by omega) (by omega)).drew (p3.seg_arg p2 (zo+h) h (cap - h) (by omega) (by omega) (by omega) (by omega)).drew
  (fun b' off' n' c' e=>by cases e;exact hbzg) (fun b' off' n' c' e=>by cases e;exact hbzg) (by rw [sg1,sg2];simp;omega) (by rw [sg1,sg2];omega) (by omega)
 rw [sg1,sg2,show h+h=d by omega,show val (seg Z2 zo h)=da from S2a.out,show val (seg Z2 (zo+h) h)=db from S2b.out] at HI3
 unfold way at HI3
 have HK:=aa (fun (w7:World) (hF:Fr g w5.drew w7)=>(by
  have e:w7.heap[w.heap.size]?=some (.cells #[.int .i64 H,.int .i64 T] 117):=by rw [hF.block w.heap.size (by show _<w5.heap.size;have:=HM5.out.lt;omega) (by omega)];exact HX5.out
  exact⟨by simp [World.cell?,e],by simp [World.cell?,e]⟩:w7.cell? ⟨w.heap.size,0,none⟩=some (.int .i64 H)∧w7.cell? ⟨w.heap.size,1,none⟩=some (.int .i64 T)))
 have hq0:w5.cell? ⟨w.heap.size,0,none⟩=some (.int .i64 H):=by have e:=HX5.out;simp [World.cell?,e]
 have hq1:w5.cell? ⟨w.heap.size,1,none⟩=some (.int .i64 T):=by have e:=HX5.out;simp [World.cell?,e]
 clear p1 p2 p3 p4 p5 hdb HAP2 HM4 HX4 HA4 HA24 HF4 F5 O1 S1 sg1 sg2 S2a S2b l1
 generalize hsb:decide (val (Y.take h)<val (Y.drop h))=sb at *
 have HSB:=aa hsb
 clear hsb
 go_wp2
 go_region_held3 (fun w'=>w'.cell? ⟨w.heap.size,0,none⟩=some (.int .i64 H)∧w'.cell? ⟨w.heap.size,1,none⟩=some (.int .i64 T)) (go_keep) (first | (go_at_call 175;refine HI3.mono ?_;rintro e w6 ⟨rfl,M1,p1,p2,p3,p4,p5⟩;obtain⟨hk0,hk1⟩:=HK.out w6 p4))
 rw [Nat.zero_add] at p1
 have HB6:=aa (p4.undrew.blk HB5.out hbzg)
 have HX6:Hid (w6.heap[w.heap.size]?=some (.cells #[.int .i64 H,.int .i64 T] 117)):=aa (by rw [p4.block w.heap.size (by show _<w5.heap.size;have:=HM5.out.lt;omega) (by omega)];exact HX5.out)
 have HA6:=aa (HA5.out.frb p4.undrew (by omega))
 have HA26:=aa (HA25.out.frb p4.undrew (by omega))
 have HF6:=aa (HF5.out.other p4.undrew (by omega))
 have OM1:=aa p1
 have LM1:=aa p2
 have BM1:=aa p3
 have SM1:=aa p5
 have tk1:(X.take h).length=h:=by simp;omega
 have tk2:(Y.take h).length=h:=by simp;omega
 have HI4:=HII.out (X.take h) (Y.take h) (by rw [tk1,tk2];omega) bz zo cap Z2 _ _ w6.drew HB6.out HL5.out (HA6.out.front h (by omega)).drew (HA26.out.front h (by omega)).drew
  (fun b' off' n' c' e=>by cases e;exact hb) (fun b' off' n' c' e=>by cases e;exact hb2) (by rw [tk1,tk2];omega) (by rw [tk1,tk2];omega) (by omega)
 rw [tk1,tk2,show h+h=d by omega] at HI4
 unfold way at HI4
 have HK6:=aa (fun (w7:World) (hF:Fr bz w6.drew w7)=>(by
  have e:w7.heap[w.heap.size]?=some (.cells #[.int .i64 H,.int .i64 T] 117):=by rw [hF.block w.heap.size (by show _<w6.heap.size;have:=BM1.out.lt;omega) (by omega)];exact HX6.out
  exact⟨e,by simp [World.cell?,e],by simp [World.cell?,e]⟩:w7.heap[w.heap.size]?=some (.cells #[.int .i64 H,.int .i64 T] 117)∧w7.cell? ⟨w.heap.size,0,none⟩=some (.int .i64 H)∧w7.cell? ⟨w.heap.size,1,none⟩=some (.int .i64 T)))
 clear p1 p2 p3 p4 p5 HI3 HK hq0 hq1 HM5 HX5 HA5 HA25 HF5 HB5 tk1 tk2
 go_wp2
 go_region_held3 (fun w'=>w'.cell? ⟨w.heap.size,0,none⟩=some (.int .i64 H)∧w'.cell? ⟨w.heap.size,1,none⟩=some (.int .i64 T)) (go_keep) (first | (go_at_call 175;refine HI4.mono ?_;rintro e w7 ⟨rfl,Z3,p1,p2,p3,p4,p5⟩;obtain⟨hx7,hk2,hk3⟩:=HK6.out w7 p4))
 have HX7:=aa hx7
 have HA7:=aa (HA6.out.frb p4.undrew hb)
 have HA27:=aa (HA26.out.frb p4.undrew hb2)
 have HF7:=aa (HF6.out.trans p4.undrew)
 have BM7:=aa (p4.undrew.blk BM1.out (Ne.symm hbzg))
 have O3:=aa (O2.out.trans (p1.wider (Nat.le_refl _) (by omega)))
 have S3:=aa p5
 have l3:Z3.length=Z.length:=O3.out.len
 have HI5:=HII.out (X.drop h) (Y.drop h) (by simp;omega) bz (zo+d) (cap - d) Z3 _ _ w7.drew p3 p2 (HA7.out.drop h (by omega)).drew (HA27.out.drop h (by omega)).drew
  (fun b' off' n' c' e=>by cases e;exact hb) (fun b' off' n' c' e=>by cases e;exact hb2) (by simp;omega) (by simp;omega) (by omega)
 rw [List.length_drop,List.length_drop,show X.length - h+(Y.length - h)=n - d by omega] at HI5
 unfold way at HI5
 have HK7:=aa (fun (w8:World) (hF:Fr bz w7.drew w8)=>(by
  have e:w8.heap[w.heap.size]?=some (.cells #[.int .i64 H,.int .i64 T] 117):=by rw [hF.block w.heap.size (by show _<w7.heap.size;have:=BM7.out.lt;omega) (by omega)];exact HX7.out
  exact⟨by simp [World.cell?,e],by simp [World.cell?,e]⟩:w8.cell? ⟨w.heap.size,0,none⟩=some (.int .i64 H)∧w8.cell? ⟨w.heap.size,1,none⟩=some (.int .i64 T)))
 clear p1 p2 p3 p4 p5 hx7 HI4 HK6 hk0 hk1 HA6 HA26 HF6 BM1 O2 HX6 HB6 l2
 go_wp2
 go_region_held3 (fun w'=>w'.cell? ⟨w.heap.size,0,none⟩=some (.int .i64 H)∧w'.cell? ⟨w.heap.size,1,none⟩=some (.int .i64 T)) (go_keep) (first | (go_at_call 175;refine HI5.mono ?_;rintro e w8 ⟨rfl,Z4,p1,p2,p3,p4,p5⟩;obtain⟨hk4,hk5⟩:=HK7.out w8 p4))
 rw [show zo+d+(n - d)=zo+n by omega] at p1
 have HA0:=cm mX h (by omega)
 have HA1:=dm mX h h (by omega)
 have HB0:=cm mY h (by omega)
 have HB1:=dm mY h h (by omega)
 have vX:=bJ X h (by omega)
 have vY:=bJ Y h (by omega)
 have O4:=aa (O3.out.trans (p1.wider (by omega) (Nat.le_refl _)))
 have S4a:Hid (sv Z4 zo d=val (X.take h)*val (Y.take h)):=aa (by rw [p1.sv zo d (by omega)];exact S3.out)
 have S4b:=aa p5
 have HF8:=aa (HF7.out.trans p4.undrew)
 have BM8:=aa (p4.undrew.blk BM7.out (Ne.symm hbzg))
 have l4:Z4.length=Z.length:=O4.out.len
 have lM1:M1.length=R:=by rw [OM1.out.len];simp
 have sg:=bk Z4 zo d (by omega)
 have hcp:=fun ty=>d8 g d (R - d) (R - d) M1 (some ⟨bz,zo,none⟩) cap (seg Z4 zo d) w8 ty BM8.out (by omega) (.inr ⟨bz,zo,rfl,fun k hk=>by rw [sg] at hk;rw [p3.cell (zo+k) (by omega),dA _ _ _ _ hk]⟩) (by rw [sg];omega)
 have OM2:=cq (seg Z4 zo d) M1 d
 have SM2:=cG (seg Z4 zo d) M1 d (by rw [sg];omega)
 have LM2:=cN (seg Z4 zo d) (dj p2 _ _) M1 d LM1.out
 have BM2:=Blk.setCells (seg Z4 zo d) d BM8.out
 have FM2:=(Fr.refl g w8).setCells ((seg Z4 zo d).map lv) d
 rw [sg] at hcp OM2 SM2
 rw [show val (seg Z4 zo d)=val (X.take h)*val (Y.take h) from S4a.out] at SM2
 obtain⟨w9,hw9⟩:∃w9,w9=w8.setCells g d ((seg Z4 zo d).map lv):=⟨_,rfl⟩
 rw [←hw9] at BM2 FM2 hcp
 clear hw9 sg
 generalize lay M1 d (seg Z4 zo d)=M2 at *
 have B9:=aa (FM2.blk p3 hbzg)
 have L4:=aa p2
 have eRd:R - d=d+1:=by omega
 have top0:M2.getD (d+d) 0=0:=by
  rw [OM2.same (d+d) (by omega),OM1.out.same (d+d) (by omega),mv]
 have SM2':sv M2 d (R - d)=val (X.take h)*val (Y.take h):=by
  rw [eRd,dw _ _ _ (by rw [OM2.len];omega),SM2,top0,Nat.mul_zero,Nat.add_zero]
 have pw:=iB h d (by omega)
 have hp0:val (X.take h)*val (Y.take h)<18446744073709551616 ^ d:=by rw [pw];exact Nat.mul_lt_mul'' HA0 HB0
 have hp1:val (X.drop h)*val (Y.drop h)<18446744073709551616 ^ d:=by rw [pw];exact Nat.mul_lt_mul'' HA1 HB1
 have hp2:val (X.take h)*val (Y.drop h)<18446744073709551616 ^ d:=by rw [pw];exact Nat.mul_lt_mul'' HA0 HB1
 have hp3:val (X.drop h)*val (Y.take h)<18446744073709551616 ^ d:=by rw [pw];exact Nat.mul_lt_mul'' HA1 HB0
 have HP1:=cV g d (R - d) (R - d) M2 _ (seg Z4 (zo+d) (n - d)) w9 BM2 LM2 (B9.out.seg_arg p2 (zo+d) (n - d) (cap - d) (by omega) (by omega) (by omega) (by omega)) (fun b' off' n' c' e=>by cases e;exact .inl hbzg) (by rw [OM2.len];omega) (Nat.le_refl _) (by omega)
  (by rw [SM2',show val (seg Z4 (zo+d) (n - d))=_ from S4b.out,eRd];exact jg hp0 hp1)
 rw [SM2',show val (seg Z4 (zo+d) (n - d))=_ from S4b.out] at HP1
 have F9:=aa ((HF8.out).other FM2 (by omega))
 have OM2h:=aa OM2
 have HERD:=aa eRd
 clear eRd top0 pw
 clear p1 p2 p3 p4 p5 HI5 HK7 hk2 hk3 hk4 hk5 HA7 HA27 HF7 BM7 O3 HX7 l3 S3 BM8 SM2 SM2' BM2 FM2 OM2 HF8
 go_wp2_with fail
 refine HP1.mono ?_
 rintro e w10 ⟨rfl,M3,p1,p2,p3,p4,p5⟩
 have lM2:=OM2h.out.len
 have lM3:=p1.len
 have B10:=aa (p4.blk B9.out hbzg)
 have SX:sv M3 0 d=da*db:=by rw [p1.sv 0 d (by omega),OM2h.out.sv 0 d (by omega)];exact SM1.out
 have F10:=aa (F9.out.other p4 (by omega))
 have HACR:=p3.seg_arg p2 0 d R (by omega) (by omega) (by omega) (by omega)
 have hOacr:Off (.slice (some ⟨g,0,none⟩) d R) g d (d+(R - d)):=fun b' off' n' c' e=>by cases e;exact .inr (.inl (by omega))
 have hfit2:val (X.take h)*val (Y.drop h)+val (X.drop h)*val (Y.take h)<18446744073709551616 ^ (R - d):=by rw [HERD.out];exact jg hp2 hp3
 have hmid:=mw _ _ _ _ da db HDA.out HDB.out
 have hkl:=nQ _ _ _ _ da db HDA.out HDB.out
 rw [HSA.out,HSB.out] at hmid hkl
 have HPlus:=fun (hf:sv M3 d (R - d)+val (seg M3 0 d)<18446744073709551616 ^ (R - d))=>cV g d (R - d) (R - d) M3 _ (seg M3 0 d) w10 p3 p2 HACR hOacr (by omega) (Nat.le_refl _) (by omega) hf
 have HMinus:=fun (hf:val (seg M3 0 d)≤sv M3 d (R - d))=>eE g d (R - d) (R - d) M3 _ (seg M3 0 d) w10 p3 p2 HACR hOacr (by omega) (Nat.le_refl _) (by omega) hf
 rw [show val (seg M3 0 d)=da*db from SX,p5] at HPlus HMinus
 have TOT:Hid (val X*val Y=val (X.take h)*val (Y.take h)+18446744073709551616 ^ d*(val (X.drop h)*val (Y.drop h))+18446744073709551616 ^ h*(val (X.take h)*val (Y.drop h)+val (X.drop h)*val (Y.take h))):=aa (by
  rw [vX,vY,jV,iB h d (by omega)])
 have S4n:sv Z4 zo n=val (X.take h)*val (Y.take h)+18446744073709551616 ^ d*(val (X.drop h)*val (Y.drop h)):=by
  rw [show n=d+(n - d) by omega,aB _ _ _ _ (by omega),S4a.out]
  rw [S4b.out]
 have hXY:val X*val Y<18446744073709551616 ^ n:=by
  rw [←HN.out,Nat.pow_add];exact Nat.mul_lt_mul'' (val_lt mX) (val_lt mY)
 have hfit3:=gF Z4 zo h n (val (X.take h)*val (Y.drop h)+val (X.drop h)*val (Y.take h)) (val X*val Y) (by omega) (by omega) (by rw [S4n,TOT.out];exact Nat.le_refl _) hXY
 have HEND:=aa (fun (w11 w12:World) (M4 Z5:List Nat) (q4:Fr g w10 w11) (r1:Out Z4 Z5 (zo+h) (zo+h+(n - h))) (r2:Limbs Z5) (r3:Blk w12 bz Z5) (r4:Fr bz w11 w12) (r5:sv Z5 (zo+h) (n - h)=sv Z4 (zo+h) (n - h)+(val (X.take h)*val (Y.drop h)+val (X.drop h)*val (Y.take h)))=>(by
  rw [show zo+h+(n - h)=zo+n by omega] at r1
  refine⟨rfl,Z5,O4.out.trans (r1.wider (by omega) (Nat.le_refl _)),r2,r3,(F10.out.other q4 (by omega)).trans r4,?_⟩
  rw [gz Z4 Z5 zo h n _ (by omega) (by omega) r1 r5,S4n,TOT.out]:aG bz zo n Z w (val X*val Y) (.returned (.tuple #[])) w12))
 have HLAST:=aa (fun (w11:World) (M4:List Nat) (q1:Out M3 M4 d (d+(R - d))) (q2:Limbs M4) (q3:Blk w11 g M4) (q4:Fr g w10 w11) (q5:sv M4 d (R - d)=(val (X.take h)*val (Y.drop h)+val (X.drop h)*val (Y.take h)))=>(by
  have hv:val (seg M4 d (R - d))=(val (X.take h)*val (Y.drop h)+val (X.drop h)*val (Y.take h)):=q5
  have h1:=cV bz (zo+h) (n - h) (cap - h) Z4 _ (seg M4 d (R - d)) w11 (q4.blk B10.out hbzg) L4.out (q3.seg_arg q2 d (R - d) (R - d) (by rw [q1.len];omega) (Nat.le_refl _) (by omega) (by omega)) (fun b' off' n' c' e=>by cases e;exact .inl (Ne.symm hbzg)) (by omega) (by omega) (by omega) (by rw [hv];exact hfit3)
  rw [hv] at h1
  exact h1:Calls Tryz.prog 215 #[.slice (some ⟨bz,zo+h,none⟩) (n - h) (cap - h),.slice (some ⟨g,d,none⟩) (R - d) (R - d)] w11 (aG bz (zo+h) (n - h) Z4 w11 (sv Z4 (zo+h) (n - h)+(val (X.take h)*val (Y.drop h)+val (X.drop h)*val (Y.take h))))))
 clear S4n hXY hfit3 TOT p1 p2 p3 p4 p5 HP1 hcp HACR hOacr SX vX vY HA0 HA1 HB0 HB1 hp0 hp1
 cases sa <;> cases sb
 ·have hm':val (X.take h)*val (Y.take h)+val (X.drop h)*val (Y.drop h) - da*db=val (X.take h)*val (Y.drop h)+val (X.drop h)*val (Y.take h):=by simpa using hmid
  have hm:=HMinus (hkl rfl)
  rw [hm'] at hm
  clear hm'
  have HM:=hm
  clear HPlus HMinus hmid hkl hm hfit2
  go_wp2_with fail
  refine HM.mono ?_
  rintro e w11 ⟨rfl,M4,q1,q2,q3,q4,q5⟩
  have HL:=HLAST.out w11 M4 q1 q2 q3 q4 q5
  have HQ:=aa q4
  clear q1 q2 q3 q4 q5 HM
  go_wp2_with fail
  refine HL.mono ?_
  rintro e w12 ⟨rfl,Z5,r1,r2,r3,r4,r5⟩
  have HR:=aa (HEND.out w11 w12 M4 Z5 HQ.out r1 r2 r3 r4 r5)
  clear r1 r2 r3 r4 r5 HL
  go_wp2
  go_end0
  exact HR.out
 ·have hm':val (X.take h)*val (Y.take h)+val (X.drop h)*val (Y.drop h)+da*db=val (X.take h)*val (Y.drop h)+val (X.drop h)*val (Y.take h):=by simpa using hmid
  have hm:=HPlus (by rw [hm'];exact hfit2)
  rw [hm'] at hm
  clear hm'
  have HM:=hm
  clear HPlus HMinus hmid hkl hm hfit2
  go_wp2_with fail
  refine HM.mono ?_
  rintro e w11 ⟨rfl,M4,q1,q2,q3,q4,q5⟩
  have HL:=HLAST.out w11 M4 q1 q2 q3 q4 q5
  have HQ:=aa q4
  clear q1 q2 q3 q4 q5 HM
  go_wp2_with fail
  refine HL.mono ?_
  rintro e w12 ⟨rfl,Z5,r1,r2,r3,r4,r5⟩
  have HR:=aa (HEND.out w11 w12 M4 Z5 HQ.out r1 r2 r3 r4 r5)
  clear r1 r2 r3 r4 r5 HL
  go_wp2
  go_end0
  exact HR.out
 ·have hm':val (X.take h)*val (Y.take h)+val (X.drop h)*val (Y.drop h)+da*db=val (X.take h)*val (Y.drop h)+val (X.drop h)*val (Y.take h):=by simpa using hmid
  have hm:=HPlus (by rw [hm'];exact hfit2)
  rw [hm'] at hm
  clear hm'
  have HM:=hm
  clear HPlus HMinus hmid hkl hm hfit2
  go_wp2_with fail
  refine HM.mono ?_
  rintro e w11 ⟨rfl,M4,q1,q2,q3,q4,q5⟩
  have HL:=HLAST.out w11 M4 q1 q2 q3 q4 q5
  have HQ:=aa q4
  clear q1 q2 q3 q4 q5 HM
  go_wp2_with fail
  refine HL.mono ?_
  rintro e w12 ⟨rfl,Z5,r1,r2,r3,r4,r5⟩
  have HR:=aa (HEND.out w11 w12 M4 Z5 HQ.out r1 r2 r3 r4 r5)
  clear r1 r2 r3 r4 r5 HL
  go_wp2
  go_end0
  exact HR.out
 ·have hm':val (X.take h)*val (Y.take h)+val (X.drop h)*val (Y.drop h) - da*db=val (X.take h)*val (Y.drop h)+val (X.drop h)*val (Y.take h):=by simpa using hmid
  have hm:=HMinus (hkl rfl)
  rw [hm'] at hm
  clear hm'
  have HM:=hm
  clear HPlus HMinus hmid hkl hm hfit2
  go_wp2_with fail
  refine HM.mono ?_
  rintro e w11 ⟨rfl,M4,q1,q2,q3,q4,q5⟩
  have HL:=HLAST.out w11 M4 q1 q2 q3 q4 q5
  have HQ:=aa q4
  clear q1 q2 q3 q4 q5 HM
  go_wp2_with fail
  refine HL.mono ?_
  rintro e w12 ⟨rfl,Z5,r1,r2,r3,r4,r5⟩
  have HR:=aa (HEND.out w11 w12 M4 Z5 HQ.out r1 r2 r3 r4 r5)
  clear r1 r2 r3 r4 r5 HL
  go_wp2
  go_end0
  exact HR.out
end Go.Proofs.YtdbjbbdhlpfhjaaGreatDoor
namespace Go.Proofs.YtdbjbbdhlpfhjaaGreatDoor
open Lm

theorem jc (x0 x1 x2 y0 y1 y2:Nat):(x0+x1+x2)*(y0+y1+y2)=(x0*y0+(x0*y2+x1*y1+x2*y0)+x2*y2)+((x0*y1+x1*y0)+(x1*y2+x2*y1)):=by grind

theorem iv (x0 x1 x2 y0 y1 y2:Nat):(x0+x1*2+x2*4)*(y0+y1*2+y2*4)=x0*y0+2*(x0*y1+x1*y0)+4*(x0*y2+x1*y1+x2*y0)+8*(x1*y2+x2*y1)+16*(x2*y2):=by grind

theorem ja (x0 x1 x2 y0 y1 y2 dx dy:Nat)(hx:dx=if x0+x2<x1 then x1 - (x0+x2) else x0+x2 - x1)(hy:dy=if y0+y2<y1 then y1 - (y0+y2) else y0+y2 - y1) :
  dx*dy+(x0+x1+x2)*(y0+y1+y2)=2*(if decide (x0+x2<x1)=decide (y0+y2<y1) then (x0*y0+(x0*y2+x1*y1+x2*y0)+x2*y2) else ((x0*y1+x1*y0)+(x1*y2+x2*y1))):=by
 subst hx;subst hy
 by_cases h1:x0+x2<x1 <;> by_cases h2:y0+y2<y1
 ·obtain⟨p,rfl⟩:∃p,x1=x0+x2+p:=⟨x1 - (x0+x2),by omega⟩
  obtain⟨q,rfl⟩:∃q,y1=y0+y2+q:=⟨y1 - (y0+y2),by omega⟩
  simp only [h1,h2,decide_true,if_true,Nat.add_sub_cancel_left]
  grind
 ·obtain⟨p,rfl⟩:∃p,x1=x0+x2+p:=⟨x1 - (x0+x2),by omega⟩
  obtain⟨q,hq⟩:∃q,y0+y2=y1+q:=⟨y0+y2 - y1,by omega⟩
  have e:y0+y2 - y1=q:=by omega
  simp only [h1,h2,decide_true,decide_false,if_true,if_false,Nat.add_sub_cancel_left,Bool.true_eq_false,e]
  grind
 ·obtain⟨p,hp⟩:∃p,x0+x2=x1+p:=⟨x0+x2 - x1,by omega⟩
  obtain⟨q,rfl⟩:∃q,y1=y0+y2+q:=⟨y1 - (y0+y2),by omega⟩
  have e:x0+x2 - x1=p:=by omega
  simp only [h1,h2,decide_true,decide_false,if_true,if_false,Nat.add_sub_cancel_left,Bool.false_eq_true,e]
  grind
 ·obtain⟨p,hp⟩:∃p,x0+x2=x1+p:=⟨x0+x2 - x1,by omega⟩
  obtain⟨q,hq⟩:∃q,y0+y2=y1+q:=⟨y0+y2 - y1,by omega⟩
  have e:x0+x2 - x1=p:=by omega
  have e2:y0+y2 - y1=q:=by omega
  simp only [h1,h2,decide_false,if_true,if_false,e,e2]
  grind

theorem g9 (x0 x1 x2 y0 y1 y2 P:Nat):(x0+P*x1+P*P*x2)*(y0+P*y1+P*P*y2) =
  x0*y0+P*P*(P*P)*(x2*y2)+P*(x0*y1+x1*y0)+P*P*(x0*y2+x1*y1+x2*y0)+P*P*P*(x1*y2+x2*y1):=by grind
end Go.Proofs.YtdbjbbdhlpfhjaaGreatDoor
namespace Go.Proofs.YtdbjbbdhlpfhjaaGreatDoor
open Go.RowKit
open Lm

theorem gP (b off n cap at' m:Nat)(w:World)(_hn:n≤1125899906842624)(hcc:n≤cap)(hcm:cap≤9223372036854775807)(h:at'+m≤n)(hat:at'<cap) :
  Calls Tryz.prog 221 #[.slice (some ⟨b,off,none⟩) n cap,.int .i64 at',.int .i64 m] w fun e w'=>e=.returned (.slice (some ⟨b,off+at',none⟩) m (cap - at'))∧w'=w:=by
 have i2:(0:Int)≤(at':Int):=by omega
 have k1:¬cap=at':=by omega
 have m1:min (at':Int) (n:Int)=(at':Int):=by omega
 obtain⟨s,es,hs1,hs2,es2⟩:∃s:Nat,(at':Int)+(m:Int)=(s:Int)∧s≤n∧at'≤s∧s - at'=m:=⟨at'+m,by omega,h,by omega,by omega⟩
 have i3:(s:Int)≤(n:Int):=by omega
 have i4:(at':Int)≤(s:Int):=by omega
 have m2:min (s:Int) (n:Int)=(s:Int):=by omega
 clear h
 go_enter Tryz.func221,Tryz.ntmps221
 go_wp2
 go_ret
 exact⟨rfl,rfl⟩

theorem nj (b off n cap at' m:Nat)(hn:n≤1125899906842624)(hcc:n≤cap)(hcm:cap≤9223372036854775807)(hm:m≤1125899906842624)(h1:at'≤n)(h2:n≤at'+m) :
  ∃off2 cap2,(off2=off+at'∨n=at')∧n - at'≤cap2∧cap2≤cap∧∀w,Calls Tryz.prog 221 #[.slice (some ⟨b,off,none⟩) n cap,.int .i64 at',.int .i64 m] w fun e w'=>e=.returned (.slice (some ⟨b,off2,none⟩) (n - at') cap2)∧w'=w:=by
 have i2:(0:Int)≤(at':Int):=by omega
 have m1:min (at':Int) (n:Int)=(at':Int):=by omega
 obtain⟨s,es,hs1⟩:∃s:Nat,(at':Int)+(m:Int)=(s:Int)∧n≤s:=⟨at'+m,by omega,by omega⟩
 have m2:min (s:Int) (n:Int)=(n:Int):=by omega
 have i4:(at':Int)≤(n:Int):=by omega
 clear h2
 by_cases k1:cap=at'
 ·have e1:n=at':=by omega
  subst e1
  subst k1
  refine⟨off,0,.inr rfl,by omega,by omega,fun w=>?_⟩
  have e2:cap - cap=0:=by omega
  rw [e2]
  clear m1 h1 i4
  have m1:min (cap:Int) (cap:Int)=(cap:Int):=by omega
  go_enter Tryz.func221,Tryz.ntmps221
  go_wp2
  go_ret
  exact⟨rfl,rfl⟩
 ·refine⟨off+at',cap - at',.inl rfl,by omega,by omega,fun w=>?_⟩
  go_enter Tryz.func221,Tryz.ntmps221
  go_wp2
  go_ret
  exact⟨rfl,rfl⟩
end Go.Proofs.YtdbjbbdhlpfhjaaGreatDoor

