/- The walk of the law NumeralParses. -/
import Derived.Test.YteehipcoeocojaaGreatDoorB09
import Derived.Test.YteehipcoeocojaaGreatDoorB02
import Derived.Test.YteehipcoeocojaaGreatDoorRows
import Derived.ProofKit
import Derived.OpenShut
import Derived.LaidMore
import Derived.Lay
import Derived.Stop.Joined
set_option maxRecDepth 20000
set_option maxHeartbeats 2000000
namespace Go.Proofs.YteehipcoeocojaaGreatDoor
open Go.RowKit
open Lm
attribute [local go_sem ↓] Go.wp_at_zero Go.wp_at_succ

theorem jP (T:ByteArray)(b:Int)(w:World)(h:b<2∨36<b) :
  Calls Tryz.prog 20 #[.string T,.int .i64 b] w fun e w'=>e=.returned (.tuple #[.slice none 0 0,.int .i64 50])∧Below w.heap.size w w':=by
 by_cases h1:b<2
 ·clear h
  go_enter Tryz.func20,Tryz.ntmps20
  go_wp2
  go_ret2
  exact⟨rfl,Below.refl _ _⟩
 ·have h2:36<b:=by omega
  clear h
  go_enter Tryz.func20,Tryz.ntmps20
  go_wp2
  go_ret2
  exact⟨rfl,Below.refl _ _⟩

theorem fi (T:ByteArray)(b:Nat)(w:World)(hb:2≤b)(hb2:b≤36)(h0:T.size=0) :
  Calls Tryz.prog 20 #[.string T,.int .i64 b] w fun e w'=>e=.returned (.tuple #[.slice none 0 0,.int .i64 51])∧Below w.heap.size w w':=by
 have hi36:¬(36<(b:Int)):=by omega
 have hi2:¬((b:Int)<2):=by omega
 go_enter Tryz.func20,Tryz.ntmps20
 go_wp2
 refine wp_loop_rounds 1 ?_
 rw [rounds_succ]
 go_wp2
 go_ret2
 exact⟨rfl,Below.refl _ _⟩

theorem iz (T:ByteArray)(k:Int)(w:World)(hT:Tab w)
  (HP:∀W,Below w.heap.size w W→Calls Tryz.prog 19 #[.string T,.int .i64 k] W fun e w'=>e=.returned (.tuple #[.slice none 0 0,.int .i64 50])∧Below W.heap.size W w')
  (HR:∀W,Below w.heap.size w W→Calls Tryz.prog 20 #[.string T,.int .i64 k] W fun e w'=>e=.returned (.tuple #[.slice none 0 0,.int .i64 50])∧Below W.heap.size W w') :
  Calls Tryz.prog 4 #[.string T,.int .i64 k] w fun e w'=>e=.returned (.bool true)∧Below w.heap.size w w':=by
 have C:=HP w (Below.refl _ _)
 have HHP:=aa HP
 have HHR:=aa HR
 have HT:=aa hT
 clear hT HP HR
 go_enter Tryz.func4,Tryz.ntmps4
 go_wp2_with fail
 refine C.mono ?_
 rintro e w1 ⟨rfl,hb1⟩
 have HB:=aa hb1
 have C:=HHP.out w1 HB.out
 clear hb1
 go_wp2_with fail
 refine C.mono ?_
 rintro e w2 ⟨rfl,hb2⟩
 replace HB:=aa (bt5 HB.out hb2)
 have C:=HHR.out w2 HB.out
 clear hb2
 go_wp2_with fail
 refine C.mono ?_
 rintro e w3 ⟨rfl,hb3⟩
 replace HB:=aa (bt5 HB.out hb3)
 have C:=jR (.slice none 0 0) w3
 clear hb3
 go_wp2_with fail
 refine C.mono ?_
 rintro e wn ⟨rfl,hw⟩;rw [hw];clear hw wn C
 have C:=cr w3.heap.size [.slice none 0 0,.slice none 0 0] [[],[]] w3 ⟨w3.heap.size,⟨Nat.le_refl _,Nat.le_refl _⟩,Ans.nil _ _,(fun g h=>by cases h),⟨w3.heap.size,⟨Nat.le_refl _,Nat.le_refl _⟩,Ans.nil _ _,(fun g h=>by cases h),trivial⟩⟩ (by simp) (by simp) (Nat.le_refl _)
 go_wp2_with fail
 refine C.mono ?_
 rintro e w4 ⟨rfl,hb4⟩
 replace HB:=aa (bt5 HB.out hb4)
 have C:=cU w4 (HT.out.below HB.out)
 clear hb4
 go_wp2_with fail
 refine C.mono ?_
 rintro e w5 ⟨rfl,hb5⟩
 replace HB:=aa (bt5 HB.out hb5)
 clear C hb5
 go_wp2
 go_ret
 exact⟨rfl,HB.out⟩

theorem d5 (T:ByteArray)(k:Int)(w:World)(hT:Tab w)
  (HP:∀W,Below w.heap.size w W→Calls Tryz.prog 19 #[.string T,.int .i64 k] W fun e w'=>e=.returned (.tuple #[.slice none 0 0,.int .i64 51])∧Below W.heap.size W w')
  (HR:∀W,Below w.heap.size w W→Calls Tryz.prog 20 #[.string T,.int .i64 k] W fun e w'=>e=.returned (.tuple #[.slice none 0 0,.int .i64 51])∧Below W.heap.size W w') :
  Calls Tryz.prog 4 #[.string T,.int .i64 k] w fun e w'=>e=.returned (.bool true)∧Below w.heap.size w w':=by
 have C:=HP w (Below.refl _ _)
 have HHP:=aa HP
 have HHR:=aa HR
 have HT:=aa hT
 clear hT HP HR
 go_enter Tryz.func4,Tryz.ntmps4
 go_wp2_with fail
 refine C.mono ?_
 rintro e w1 ⟨rfl,hb1⟩
 have HB:=aa hb1
 have C:=HHP.out w1 HB.out
 clear hb1
 go_wp2_with fail
 refine C.mono ?_
 rintro e w2 ⟨rfl,hb2⟩
 replace HB:=aa (bt5 HB.out hb2)
 have C:=HHR.out w2 HB.out
 clear hb2
 go_wp2_with fail
 refine C.mono ?_
 rintro e w3 ⟨rfl,hb3⟩
 replace HB:=aa (bt5 HB.out hb3)
 have C:=f8 (.slice none 0 0) w3
 clear hb3
 go_wp2_with fail
 refine C.mono ?_
 rintro e wn ⟨rfl,hw⟩;rw [hw];clear hw wn C
 have C:=cr w3.heap.size [.slice none 0 0,.slice none 0 0] [[],[]] w3 ⟨w3.heap.size,⟨Nat.le_refl _,Nat.le_refl _⟩,Ans.nil _ _,(fun g h=>by cases h),⟨w3.heap.size,⟨Nat.le_refl _,Nat.le_refl _⟩,Ans.nil _ _,(fun g h=>by cases h),trivial⟩⟩ (by simp) (by simp) (Nat.le_refl _)
 go_wp2_with fail
 refine C.mono ?_
 rintro e w4 ⟨rfl,hb4⟩
 replace HB:=aa (bt5 HB.out hb4)
 have C:=cU w4 (HT.out.below HB.out)
 clear hb4
 go_wp2_with fail
 refine C.mono ?_
 rintro e w5 ⟨rfl,hb5⟩
 replace HB:=aa (bt5 HB.out hb5)
 clear C hb5
 go_wp2
 go_ret
 exact⟨rfl,HB.out⟩

theorem jF (T:ByteArray)(b:Nat)(w:World)(hT:Tab w)(hs:T.size≤1048576)(hb:2≤b)(hb2:b≤36)(h0:0<T.size)(hok:∀i,i<T.size→0≤dgS T i∧dgS T i<(b:Int)) :
  Calls Tryz.prog 4 #[.string T,.int .i64 b] w fun e w'=>e=.returned (.bool true)∧Below w.heap.size w w':=by
 obtain⟨E,hE⟩:∃E:List Nat,∀i,i<T.size→((E.getD i 0:Nat):Int)=dgS T i:=⟨(List.range T.size).map fun i=>(dgS T i).toNat,fun i hi=>by
  have:=hok i hi
  simp [List.getD,hi]
  omega⟩
 have hEb:∀i,i<T.size→E.getD i 0<b:=fun i hi=>by have:=hE i hi;have:=hok i hi;omega
 obtain⟨X,hX⟩:∃X,dvr b E 0 T.size=X:=⟨_,rfl⟩
 have hXl:blen X≤6291456:=by
  have h:=fc (D:=E) (k:=T.size) hb hb2 hEb
  rw [hX] at h
  omega
 have HP:∀W,Tab W→Calls Tryz.prog 19 #[.string T,.int .i64 b] W fun e w'=>(∃v rs,e=.returned (.tuple #[v,.int .i64 0])∧Ans w' W.heap.size v rs∧val rs=X∧tr rs=rs∧rs.length≤1048576)∧Below W.heap.size W w':=fun W hTW=>
  (dW T b W hTW hb hb2 h0 (by omega)).mono fun e w' ⟨h1,h2⟩=>by
   refine⟨?_,h1⟩
   rcases h2 with ⟨i,hi,hbad,_⟩|⟨D,hl,hd,v,c,rs,he,hA,hc⟩
   ·have:=hok i hi;omega
   ·have hx:dvr b D 0 T.size=X:=by
     rw [←hX]
     exact cG fun i hi=>by have:=(hd i hi).1;have:=hE i hi;omega
    rw [hx] at hc
    have hf:=Res.few hA hc
    rcases hc with ⟨rfl,hv,ht,_⟩|⟨_,_,hbig⟩
    ·exact⟨v,rs,he,hA,hv,ht,hf⟩
    ·omega
 have HR:∀W:World,Calls Tryz.prog 20 #[.string T,.int .i64 b] W fun e w'=>(∃v,e=.returned (.tuple #[v,.int .i64 0])∧Num w' v X)∧Below W.heap.size W w':=fun W=>
  (dq T b W hb hb2 h0 (by omega)).mono fun e w' ⟨h1,h2⟩=>by
   refine⟨?_,h1⟩
   rw [cu] at h2
   have hr:∀i,i<T.size→rdS b T i=dgS T i:=fun i hi=>if_pos (hok i hi)
   rcases h2 with ⟨i,hi,hbad,_⟩|⟨D,v,hl,hd,he,hN⟩
   ·rw [ck b T _ i hi,hr i hi] at hbad
    have:=hok i hi;omega
   ·have hx:dvr b D 0 T.size=X:=by
     rw [←hX]
     exact cG fun i hi=>by
      have h3:=(hd i hi).1
      rw [ck b T _ i hi,hr i hi] at h3
      have:=hE i hi;omega
    rw [hx] at hN
    exact⟨v,he,hN⟩
 have C:=HP w hT
 have HHP:=aa HP
 have HHR:=aa HR
 have HT:=aa hT
 clear hT HP HR hok hE hEb hX
 go_enter Tryz.func4,Tryz.ntmps4
 go_wp2_with fail
 refine C.mono ?_
 rintro e w1 ⟨⟨v1,rs1,rfl,hA1,hv1,ht1,hf1⟩,hb1⟩
 have HB:=aa hb1
 have hsz1:w.heap.size≤w1.heap.size:=hb1.size
 have Ch:=aa (am.one hA1 hb1.size)
 have HA1:=aa hA1
 obtain⟨a1,n1,c1,rfl⟩:=hA1.slice
 have HV:=aa (And.intro hv1 (And.intro ht1 hf1))
 have C:=HHP.out w1 (HT.out.below HB.out)
 clear hb1 hA1 hv1 ht1 hf1
 go_wp2_with fail
 refine C.mono ?_
 rintro e w2 ⟨⟨v2,rs2,rfl,hA2,hv2,ht2,hf2⟩,hb2'⟩
 replace HB:=aa (bt5 HB.out hb2')
 replace Ch:=aa (am.snoc hb2' hA2 Ch.out hsz1)
 replace HA1:=aa (HA1.out.below hb2')
 obtain⟨a2,n2,c2,rfl⟩:=hA2.slice
 have HF2:=aa hf2
 have C:=HHR.out w2
 clear hb2' hA2 hv2 ht2 hf2
 go_wp2_with fail
 refine C.mono ?_
 rintro e w3 ⟨⟨vx,rfl,hN⟩,hb3⟩
 replace HB:=aa (bt5 HB.out hb3)
 replace Ch:=aa (Ch.out.below hb3)
 replace HA1:=aa (HA1.out.below hb3)
 have C:=jA _ vx rs1 X w3 (HA1.out.arg (by have:=HV.out.2.2;omega)) hN HV.out.1 HV.out.2.1 (by omega)
 clear hN hb3
 go_wp2_with fail
 refine C.mono ?_
 rintro e w4 ⟨rfl,hb4⟩
 replace HB:=aa (bt5 HB.out hb4)
 replace Ch:=aa (Ch.out.below hb4)
 have C:=cr w.heap.size [.slice a1 n1 c1,.slice a2 n2 c2] [rs1,rs2] w4 Ch.out (by simp) (by have:=HV.out.2.2;have:=HF2.out;simp;omega) HB.out.size
 clear hb4
 go_wp2_with fail
 refine C.mono ?_
 rintro e w5 ⟨rfl,hb5⟩
 replace HB:Hid (Below w.heap.size w w5):=aa (HB.out.trans hb5)
 have C:=cU w5 (HT.out.below HB.out)
 clear hb5 Ch HA1
 go_wp2_with fail
 refine C.mono ?_
 rintro e w6 ⟨rfl,hb6⟩
 replace HB:=aa (bt5 HB.out hb6)
 clear C hb6
 go_wp2
 go_ret
 exact⟨rfl,HB.out⟩

theorem gN (T:ByteArray)(k:Int)(w:World)(hT:Tab w)(hs:T.size≤1048576)(_:-9223372036854775808≤k)(_:k≤9223372036854775807) :
  Calls Tryz.prog 4 #[.string T,.int .i64 k] w fun e w'=>e=.returned (.bool true)∧Below w.heap.size w w':=by
 by_cases h:k<2∨36<k
 ·exact iz T k w hT (fun W _=>fy T k W h) (fun W _=>jP T k W h)
 ·obtain⟨b,rfl⟩:∃b:Nat,k=(b:Int):=⟨k.toNat,by omega⟩
  have hb:2≤b:=by omega
  have hb2:b≤36:=by omega
  rcases Nat.eq_zero_or_pos T.size with h0|h0
  ·exact d5 T b w hT (fun W _=>fO T b W hb hb2 h0) (fun W _=>fi T b W hb hb2 h0)
  ·by_cases hbad:∃i,i<T.size∧(dgS T i<0∨(b:Int)≤dgS T i)
   ·obtain⟨j,hj,hj2⟩:=hbad
    refine d5 T b w hT (fun W hW=>(dW T b W (hT.below hW) hb hb2 h0 (by omega)).mono fun e w' ⟨h1,h2⟩=>⟨?_,h1⟩) (fun W hW=>(dq T b W hb hb2 h0 (by omega)).mono fun e w' ⟨h1,h2⟩=>⟨?_,h1⟩)
    ·rcases h2 with ⟨_,_,_,he⟩|⟨D,hl,hd,_⟩
     ·exact he
     ·have:=hd j hj;omega
    ·rcases h2 with ⟨_,_,_,he⟩|⟨D,v,hl,hd,_⟩
     ·exact he
     ·rw [cu] at hd
      have h3:=hd j hj
      rw [ck b T _ j hj,rdS,if_neg (by omega)] at h3
      omega
   ·exact jF T b w hT hs hb hb2 h0 (fun i hi=>by
     rcases Int.lt_or_le (dgS T i) 0 with h1|h1
     ·exact absurd ⟨i,hi,.inl h1⟩ hbad
     ·rcases Int.lt_or_le (dgS T i) b with h2|h2
      ·exact⟨h1,h2⟩
      ·exact absurd ⟨i,hi,.inr h2⟩ hbad)
end Go.Proofs.YteehipcoeocojaaGreatDoor
namespace Go.Proofs.YteehipcoeocojaaGreatDoor
open Go.ChangeShapes Go.WideShapes Go.ChangeAt Go.RowKit

def bZ:List (String × DataW Unit):=[("math/bits.deBruijn32tab",Rows.laid_math_bits_deBruijn32tab),("math/bits.deBruijn64tab",Rows.laid_math_bits_deBruijn64tab)]

theorem gD:(Rows.laid_math_bits_deBruijn64tab:DataW Unit)=.agg (az.map fun n=>.lit (.int .u8 ((n:Nat):Int))):=by kernel_rfl

theorem iA {W:World}(h:laidMetH Tryz.prog bZ W):Tab W:=by
 rw [MakeChecks.laidMetH_plain _ _ _ (by kernel_rfl)] at h
 obtain⟨ps,⟨_,_,_,_,_,_,_,_,_,_,⟨g,t,cs,fuel,p,q,hg,ht,hv,hd,_,_⟩,_⟩,_,_⟩:=h
 obtain rfl:=Option.some.inj ((show Tryz.prog.globalNamed "math/bits.deBruijn64tab"=some 1 by kernel_rfl).symm.trans hg)
 obtain rfl:=Option.some.inj ((show (Tryz.prog.globals[1]?).map (·.type)=some 147 by kernel_rfl).symm.trans ht)
 obtain⟨xs,m,_,ex,_,hl,hel⟩:=DataW.trod_array Tryz.underlying147 hd
 have c5:Tryz.prog.cellsOf 5=1:=by kernel_rfl
 have hcell:∀r,r<64→W.cell? ⟨1,r,none⟩=some (.int .u8 ((az.getD r 0:Nat):Int)):=by
  intro r hr
  have hE:=hel r hr
  rw [c5,Nat.mul_one,List.getElem?_eq_getElem (by omega)] at hE
  obtain⟨z,e1,e2,_⟩:=DataW.trod_int Tryz.underlying5 hE
  have hlen:az.length=64:=by kernel_rfl
  rw [gD] at ex
  have e3:(xs.map (·.1))=az.map fun n=>.lit (.int .u8 ((n:Nat):Int)):=(DataW.agg.inj (Prod.mk.inj ex).1).symm
  have e4:(xs.map (·.1))[r]?=(az.map fun n=>(DataW.lit (.int .u8 ((n:Nat):Int)):DataW Unit))[r]?:=by rw [e3]
  rw [List.getElem?_map,List.getElem?_map,List.getElem?_eq_getElem (by omega:r<xs.length),List.getElem?_eq_getElem (by omega:r<az.length),e2] at e4
  have hz:z=((az.getD r 0:Nat):Int):=by
   simp only [Option.map_some,Option.some.injEq,DataW.lit.injEq,Lit.int.injEq,true_and] at e4
   rw [e4,List.getD,List.getElem?_eq_getElem (by omega:r<az.length)];rfl
  rw [World.var?_cell hg hv r,←hz]
  have:cs.toList[r]?=some (.int .u8 z):=by
   have h0:((cs.toList.drop r).take 1)[0]?=some (.int .u8 z):=by rw [e1];rfl
   simpa using h0
  simpa using this
 refine⟨?_,hcell⟩
 have h0:=hcell 0 (by omega)
 rcases Nat.lt_or_ge 1 W.heap.size with h|h
 ·exact h
 ·simp [World.cell?,Array.getElem?_eq_none h] at h0
end Go.Proofs.YteehipcoeocojaaGreatDoor

