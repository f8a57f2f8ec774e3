/- The walk of the law WholeBack. -/
import Derived.Test.YtkhckcfikljjhaaGreatDoorB13
namespace Go.Proofs.YtkhckcfikljjhaaGreatDoor
open Go.RowKit
open Lm
attribute [local go_sem ↓] Go.wp_at_zero Go.wp_at_succ

def kL (T:ByteArray)(w:World)(e:Ending)(w':World):Prop:=
 (∃b a n k c,e=.returned (.tuple #[.agg #[.bool b,.slice a n k],.int .i64 c])∧(c≠0∨(c=0∧DgT (aG T)∧∃rs,Arg w' (.slice a n k) rs∧rs.length≤1048576∧zz b (val rs)=zz (isM T) (nmT (aG T))∧val rs=nmT (aG T))))∧Below w.heap.size w w'

theorem jh (T:ByteArray)(w:World)(hT:Tab w)(hs:T.size≤1048576):Calls Tryz.prog 7 #[.string T] w (kL T w):=by
 refine (fW T w hT hs).mono ?_
 rintro e w' ⟨h,hb⟩
 refine⟨?_,hb⟩
 rcases h with ⟨h1,h2⟩|⟨h1,b,a,n,k,c,h2,rs,hA,hc⟩
 ·exact⟨false,none,0,0,62,h2,.inl (by decide)⟩
 ·have hf:=ZR.few hc
  refine⟨b,a,n,k,c,h2,?_⟩
  rcases hc with ⟨rfl,hb9,hv,_,_⟩|⟨rfl,_⟩
  ·exact .inr ⟨rfl,h1,rs,hA.arg (by omega),hf,by rw [hb9,hv,dj],by rw [hv,ay]⟩
  ·exact .inl (by decide)

theorem jP (z:Int)(n:Nat)(w:World)(hT:Tab w)(hs:(aK z n).size≤1048576)(hn:aE 10 z.natAbs n)(hz:blen z.natAbs≤67108864) :
  Calls Tryz.prog 7 #[.string (aK z n)] w fun e w'=>(∃b a m k rs,e=.returned (.tuple #[.agg #[.bool b,.slice a m k],.int .i64 0])∧Arg w' (.slice a m k) rs∧rs.length≤1048576∧zz b (val rs)=z)∧Below w.heap.size w w':=by
 obtain⟨hm,hb⟩:=j4 hn
 refine (fW _ w hT hs).mono ?_
 rintro e w' ⟨h,hbl⟩
 refine⟨?_,hbl⟩
 rw [hm,hb,oI hn.1 hn.2.1,dj] at h
 rcases h with ⟨h1,_⟩|⟨_,b,a,m,k,c,h2,rs,hA,hc⟩
 ·exact absurd (d9 hn.1) h1
 ·have hf:=ZR.few hc
  rcases hc with ⟨rfl,hb9,hv,_,_⟩|⟨_,_,_,_,hbig⟩
  ·exact⟨b,a,m,k,rs,h2,hA.arg (by omega),hf,by rw [hb9,hv,dj]⟩
  ·omega

theorem ja {T:ByteArray}(h:DgT (aG T)):0<T.size:=Nat.lt_of_lt_of_le h.1 (dX T)

theorem lw {R:ByteArray}{M:Bool}{x:Nat}(hD:DgT R)(hx:nmT R=x):aK (zz M x) R.size=if M=true∧x≠0 then ⟨#[45]⟩ ++ R else R:=by
 have h:=dT hD
 rw [hx] at h
 by_cases hc:M=true∧x≠0
 ·rw [if_pos hc,dv _ (by obtain⟨rfl,h0⟩:=hc;simp [zz];omega),ay,←h]
 ·rw [if_neg hc,dZ _ (by cases M <;> simp [zz] <;> simp at hc <;> omega),ay,←h]

theorem la {R:ByteArray}(hD:DgT R)(h1:R.size=1∨byteN R 0≠48):nmT R=0 ↔ R.toList=[48]:=by
 have hH:=gO hD h1
 rw [Lib.toList_data]
 constructor
 ·intro h0
  have hn:R.size=1:=by
   rcases hH.2.2 with h|h
   ·exact h
   ·rw [h0] at h
    have:=Nat.pow_pos (n:=R.size - 1) (show 0<10 by omega)
    omega
  have ht:=dT hD
  rw [hn,h0] at ht
  rw [ht]
  decide
 ·intro h
  have hn:R.size=1:=by
   have h2:R.data.toList.length=1:=by rw [h];rfl
   exact h2
  have hb:byteN R 0=48:=by unfold byteN;rw [h];rfl
  unfold nmT
  rw [hn]
  show 0*10+(dgL R).getD (0+0) 0=0
  rw [Nat.add_zero,cj R 0 (by omega),hb]

set_option maxRecDepth 20000 in
set_option maxHeartbeats 8000000 in
theorem jA (b0:Bool)(v0:Value)(z0:List Nat)(T:ByteArray)(w:World)(hT:Tab w)(A0:Arg w v0 z0)(s0:z0.length≤1048576)(hs:T.size≤1048576) :
  Calls Tryz.prog 4 #[.agg #[.bool b0,v0],.string T] w fun e w'=>e=.returned (.bool true)∧Below w.heap.size w w':=by
 obtain⟨a0,n0,rfl,_,_,_⟩:=A0.form
 obtain⟨w0,hw0,hb0,h0⟩:=aI w (.cells #[.bool b0,.slice a0 z0.length n0] 24)
 have HBX:=aa ((Bx.nil w0).cons h0)
 have HA0:=aa (A0.below hb0)
 have HT:=aa (hT.below hb0)
 have HW:=aa hb0
 have hbl0:=eP z0 A0.limbs
 obtain⟨N,hN⟩:=nT (val z0)
 obtain⟨z,hz⟩:∃z,zz b0 (val z0)=z:=⟨_,rfl⟩
 have hza:z.natAbs=val z0:=by rw [←hz,ay]
 have HN:=aa hN
 have HZ:=aa (And.intro hz (And.intro hza (show aE 10 z.natAbs N by rw [hza];exact hN)))
 obtain⟨ca0,cb0⟩:=duo h0
 clear A0 hT hb0 h0 hN hz hza
 go_enter Tryz.func4,Tryz.ntmps4
 have C:=jt b0 a0 z0.length n0 w0
 go_wp2_with fail
 refine C.mono ?_
 rintro e w1 ⟨rfl,hb⟩
 replace HA0:=aa (HA0.out.below hb)
 replace HBX:=aa (HBX.out.below hb)
 replace HT:=aa (HT.out.below hb)
 replace HW:=bt HW hb
 clear ca0 cb0 C hw0 hb
 obtain⟨u1,hu1,hbu,hxu⟩:=aI w1 (.cells #[.bool b0,.slice a0 z0.length n0] 27)
 replace HA0:=aa (HA0.out.below hbu)
 replace HBX:=aa (HBX.out.below hbu)
 replace HT:=aa (HT.out.below hbu)
 replace HW:=bt HW hbu
 replace HBX:=aa (HBX.out.cons hxu)
 have C:=gT b0 _ z0 N u1 HA0.out HT.out s0 HN.out
 rw [HZ.out.1] at C
 obtain⟨ca0,cb0⟩:=duo hxu
 clear hbu hxu
 go_wp2_with fail
 refine C.mono ?_
 rintro e w2 ⟨rfl,hb⟩
 replace HA0:=aa (HA0.out.below hb)
 replace HBX:=aa (HBX.out.below hb)
 replace HT:=aa (HT.out.below hb)
 replace HW:=bt HW hb
 clear C hb ca0 cb0
 obtain⟨S,hS⟩:∃S,aK z N=S:=⟨_,rfl⟩
 rw [hS]
 obtain⟨sl,hsl⟩:∃sl,S.size=sl:=⟨_,rfl⟩
 rcases Nat.lt_or_ge 1048576 sl with hlen|hlen
 focus
  have hleni:¬((sl:Int)≤1048576):=by omega
  obtain⟨w4,hw4⟩:∃w4,w2=w4:=⟨_,rfl⟩
  subst hw4
  clear HBX
 rotate_left
 focus
  have hleni:(sl:Int)≤1048576:=by omega
  have C:=jP z N w2 HT.out (by rw [hS,hsl];exact hlen) HZ.out.2.2 (by rw [HZ.out.2.1];omega)
  rw [hS] at C
  go_wp2_with fail
  refine C.mono ?_
  rintro e w3 ⟨⟨b3,a3,n3,k3,r3,rfl,hA3,hl3,hz3⟩,hb⟩
  replace HA0:=aa (HA0.out.below hb)
  replace HBX:=aa (HBX.out.below hb)
  replace HT:=aa (HT.out.below hb)
  replace HW:=bt HW hb
  clear C hb
  obtain⟨u3,hu3,hbu,hxu⟩:=aI w3 (.cells #[.bool b3,.slice a3 n3 k3] 27)
  replace HA0:=aa (HA0.out.below hbu)
  replace HBX:=aa (HBX.out.below hbu)
  replace HT:=aa (HT.out.below hbu)
  replace HW:=bt HW hbu
  have hA3:=hA3.below hbu
  replace HBX:=aa (HBX.out.cons hxu)
  have CN:=dr 0 u3
  have C:=mG b0 _ z0 b3 _ r3 u3 HA0.out hA3 (by rw [HZ.out.1,hz3])
  obtain⟨ca0,cb0⟩:=duo hxu
  obtain⟨ca1,cb1⟩:=duo (HBX.out 1 _ _ rfl)
  clear hbu hxu hA3 hl3 hz3
  go_wp2_with fail
  refine CN.mono ?_
  rintro e wn ⟨rfl,hw⟩;rw [hw];clear hw wn
  go_wp2_with fail
  refine CN.mono ?_
  rintro e wn ⟨rfl,hw⟩;rw [hw];clear hw wn CN
  go_wp2_with fail
  refine C.mono ?_
  rintro e w4 ⟨rfl,hb⟩
  replace HT:=aa (HT.out.below hb)
  replace HW:=bt HW hb
  clear C hb ca0 cb0 ca1 cb1 hu3 HBX
 all_goals
  have C:=jh T _ HT.out hs
  go_wp2_with fail
  refine C.mono ?_
  rintro e w5 ⟨⟨b5,a5,n5,k5,c5,rfl,hcase⟩,hb⟩
  replace HT:=aa (HT.out.below hb)
  replace HW:=bt HW hb
  clear C hb
  obtain⟨u5,hu5,hbu,hxu⟩:=aI w5 (.cells #[.bool b5,.slice a5 n5 k5] 27)
  replace HT:=aa (HT.out.below hbu)
  replace HW:=bt HW hbu
  obtain⟨ca0,cb0⟩:=duo hxu
  rcases hcase with hc0|⟨hc0,hD,r5,hA5,hl5,hz5,hv5⟩
  ·have CN:=dr c5 u5
   have hne:(c5 == 0)=false:=by rw [beq_eq_false_iff_ne];exact hc0
   have CA:=iC u5 HT.out
   clear hbu hxu hc0
   go_wp2_with fail
   refine CN.mono ?_
   rintro e wn ⟨rfl,hw⟩;rw [hw];clear hw wn CN
   go_wp2_with fail
   refine CA.mono ?_
   rintro e w6 ⟨rfl,hb⟩
   replace HW:=bt HW hb
   clear CA hb
   go_wp2
   go_ret
   exact⟨rfl,HW.out⟩
  ·subst hc0
   have CN:=dr 0 u5
   have HA5:=aa (hA5.below hbu)
   have hT0:=ja hD
   have h0i:(0:Int)<(T.size:Int):=by omega
   have h1i:(1:Int)≤(T.size:Int):=by omega
   have hc:=dG T 0
   obtain⟨B,hB⟩:∃B,aG T=B:=⟨_,rfl⟩
   obtain⟨x,hx⟩:∃x,nmT B=x:=⟨_,rfl⟩
   rw [hB] at hD hz5 hv5
   rw [hx] at hz5 hv5
   have HDB:=aa (And.intro hD (And.intro hx (show B.size≤1048576 by rw [←hB];exact Nat.le_trans (dX T) hs)))
   have HL5:=aa hl5
   have HV5:=aa hv5
   obtain⟨c,hcc⟩:∃c,byteN T 0=c:=⟨_,rfl⟩
   rw [hcc] at hc
   clear hbu hxu hA5 hl5 hv5 hD hx
   have hways:(c=45∧((c:Int) == 45)=true∧True∧isM T=true∧T.extract 1 T.size=B)∨(c=43∧((c:Int) == 45)=false∧((c:Int) == 43)=true∧isM T=false∧T.extract 1 T.size=B)∨(True∧((c:Int) == 45)=false∧((c:Int) == 43)=false∧isM T=false∧B=T):=by
    by_cases h45:c=45
    ·obtain⟨h1,h2⟩:=ff hT0 (hcc.trans h45)
     exact .inl ⟨h45,by rw [beq_iff_eq];omega,trivial,h1,by rw [←h2,hB]⟩
    ·by_cases h43:c=43
     ·obtain⟨h1,h2⟩:=iJ hT0 (hcc.trans h43)
      exact .inr (.inl ⟨h43,by rw [beq_eq_false_iff_ne];omega,by rw [beq_iff_eq];omega,h1,by rw [←h2,hB]⟩)
     ·obtain⟨h1,h2⟩:=ft (T:=T) (by rw [hcc];exact h45) (by rw [hcc];exact h43)
      exact .inr (.inr ⟨trivial,by rw [beq_eq_false_iff_ne];omega,by rw [beq_eq_false_iff_ne];omega,h1,by rw [←hB,h2]⟩)
   clear hcc hB
   rcases hways with ⟨_,hq45,hq43,hM,hR⟩|⟨_,hq45,hq43,hM,hR⟩|⟨_,hq45,hq43,hM,hR⟩
   all_goals
    try (have hRR:B=T:=hR;subst hRR;clear hR)
    rw [hM] at hz5
    have HZ5:=aa hz5
    clear hz5 hM
    go_wp2_with fail
    refine CN.mono ?_
    rintro e wn ⟨rfl,hw⟩;rw [hw];clear hw wn CN
    go_wp2
    go_loop [1] (fun s=>∃R:ByteArray,s=.string R∧DgT R∧nmT R=x∧R.size≤1048576) (fun s=>iY s)
    case atStart=>exact⟨B,rfl,HDB.out.1,HDB.out.2.1,HDB.out.2.2⟩
    case round=>
     obtain⟨R,rfl,hD,hx,hRs⟩:=hrel
     have hR0:=hD.1
     have hd:=dG R 0
     obtain⟨d,hdd⟩:∃d,byteN R 0=d:=⟨_,rfl⟩
     rw [hdd] at hd
     obtain⟨l,hl⟩:∃l,R.size=l:=⟨_,rfl⟩
     rw [hl] at hRs hR0
     have hl0:(0:Int)<(l:Int):=by omega
     have hl2:(1:Int)≤(l:Int):=by omega
     by_cases hmore:1<l∧d=48
     ·have hl1:(1:Int)<(l:Int):=by omega
      have hq:((d:Int) == 48)=true:=by rw [beq_iff_eq];omega
      obtain⟨R2,hR2⟩:∃R2,R.extract 1 l=R2:=⟨_,rfl⟩
      have hR3:R2=R.extract 1 R.size:=by rw [hl,hR2]
      have HR2:=aa (And.intro (show DgT R2 by rw [hR3];exact jS hD (by omega)) (And.intro (show nmT R2=x by rw [hR3,np hD (by omega) (by omega)];exact hx) (show R2.size=l - 1 by rw [hR3,cO,hl])))
      have HL9:=aa hmore
      clear hD hx hdd hmore hR3
      go_wp2
      go_round
      case rel=>exact⟨R2,rfl,HR2.out.1,HR2.out.2.1,by have:=HR2.out.2.2;omega⟩
      case measure=>simp [iY];have:=HR2.out.2.2;have:=HL9.out;omega
     ·have hown:R.size=1∨byteN R 0≠48:=by omega
      have hn:=gO hD hown
      have hno:=la hD hown
      have hTX:=fun M=>lw (M:=M) hD hx
      rw [hx] at hn hno
      have C:=gT b5 _ r5 R.size u5 HA5.out HT.out HL5.out (by rw [HV5.out];exact hn)
      rw [HZ5.out,hTX] at C
      have K7:=aa (fun (W:World) (hg:Below u5.heap.size u5 W)=>iC W (HT.out.below hg))
      obtain⟨R2,hR2⟩:∃R2,(ByteArray.mk #[45]) ++ R=R2:=⟨_,rfl⟩
      rw [hR2] at C
      have h45:(ByteArray.mk #[45]).size=1:=rfl
      have hss1:(R.toList == R.toList)=true:=by simp
      have hss2:(R2.toList == R2.toList)=true:=by simp
      have hcases:¬((1:Int)<(l:Int))∨((1:Int)<(l:Int)∧((d:Int) == 48)=false):=by
       by_cases h1:1<l
       ·exact .inr ⟨by omega,by rw [beq_eq_false_iff_ne];omega⟩
       ·exact .inl (by omega)
      have hzero:(R.toList == [48])=decide (x=0):=by
       rw [Bool.eq_iff_iff,beq_iff_eq,decide_eq_true_iff]
       exact hno.symm
      clear hown hn hno hTX hD hx hdd hmore
      by_cases hx0:x=0
      all_goals
       first
        | (rw [decide_eq_true hx0] at hzero;rw [if_neg (fun h=>h.2 hx0)] at C)
        | (rw [decide_eq_false hx0] at hzero;first|rw [if_pos ⟨rfl,hx0⟩] at C|rw [if_neg (fun h=>by cases h.1)] at C)
       clear hx0
       rcases hcases with hli|⟨hli,hq⟩
       all_goals
        go_wp2_with fail
        refine C.mono ?_
        rintro e w6 ⟨rfl,hb6⟩
        have C:=K7.out w6 hb6
        replace HW:=bt HW hb6
        clear hb6 K7
        go_wp2_with fail
        refine C.mono ?_
        rintro e w7 ⟨rfl,hb7⟩
        replace HW:=bt HW hb7
        clear hb7 C
        go_wp2
        go_ret
        exact⟨rfl,HW.out⟩

end Go.Proofs.YtkhckcfikljjhaaGreatDoor
