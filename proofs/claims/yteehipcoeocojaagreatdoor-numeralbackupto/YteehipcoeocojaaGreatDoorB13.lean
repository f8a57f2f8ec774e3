/- The walk of the law NumeralBack. -/
import Derived.Test.YteehipcoeocojaaGreatDoorB12
import Derived.Test.YteehipcoeocojaaGreatDoorRows
import Derived.Test.YteehipcoeocojaaGreatDoorB02
import Derived.ProofKit
import Derived.OpenShut
import Derived.LaidMore
import Derived.Lay
import Derived.Stop.Joined
namespace Go.Proofs.YteehipcoeocojaaGreatDoor
open Go.RowKit
open Lm
attribute [local go_sem ↓] Go.wp_at_zero Go.wp_at_succ

theorem kb (k:Int)(w:World)(_:-9223372036854775808≤k)(_:k≤9223372036854775807):∃b:Nat,2≤b∧b≤36∧Calls Tryz.prog 27 #[.int .i64 k] w fun e w'=>e=.returned (.int .i64 b)∧w'=w:=by
 obtain⟨r,hr,hr1,hr2⟩:∃r:Int,k.tmod 35=r∧-35<r∧r<35:=⟨_,rfl,Int.lt_tmod_of_pos k (by omega),Int.tmod_lt_of_pos k (by omega)⟩
 by_cases h0:r<0
 ·obtain⟨r5,hr5⟩:∃r5:Int,r+35=r5:=⟨_,rfl⟩
  obtain⟨bb,hbb⟩:∃bb:Nat,r5+2=(bb:Int):=⟨(r5+2).toNat,by omega⟩
  have hx1:0<r5∧r5<35:=by omega
  refine⟨bb,by omega,by omega,?_⟩
  go_enter Tryz.func27,Tryz.ntmps27
  go_wp2
  go_ret
  exact⟨rfl,rfl⟩
 ·obtain⟨bb,hbb⟩:∃bb:Nat,r+2=(bb:Int):=⟨(r+2).toNat,by omega⟩
  refine⟨bb,by omega,by omega,?_⟩
  go_enter Tryz.func27,Tryz.ntmps27
  go_wp2
  go_ret
  exact⟨rfl,rfl⟩

theorem e8 (x:Nat):cmpN x x=0:=by simp [cmpN]

set_option maxRecDepth 20000 in
set_option maxHeartbeats 8000000 in
theorem my (v0:Value)(X:List Nat)(k:Int)(q:Int)(w:World)(hT:Tab w)(A0:Arg w v0 X)(s0:X.length≤1048576)(h1:-9223372036854775808≤k)(h2:k≤9223372036854775807)(h3:0≤q)(h4:q<18446744073709551616) :
  Calls Tryz.prog 7 #[v0,.int .i64 k,.int .u64 q] w fun e w'=>e=.returned (.bool true)∧Below w.heap.size w w':=by
 obtain⟨b,hb,hb2,HR⟩:=kb k w h1 h2
 obtain⟨q,rfl⟩:∃q':Nat,q=(q':Int):=⟨q.toNat,by omega⟩
 obtain⟨m,hm,hm50⟩:∃m:Nat,(q:Int).tmod 50=(m:Int)∧m<50:=⟨q % 50,rfl,by omega⟩
 have hbx:=cC A0.limbs s0
 have CL:=ar v0 X w A0
 have HLM:=aa A0.limbs
 obtain⟨lx,hlx⟩:∃lx,blen (val X)=lx:=⟨_,rfl⟩
 have HBX:=aa hbx
 rw [hlx] at CL hbx
 have hbi:¬((67108864:Int)<(lx:Int)):=by omega
 have hbi2:decide ((67108864:Int)<(lx:Int))=false:=decide_eq_false hbi
 have hbi3:¬(67108864<lx):=by omega
 have P1:=fR v0 (val X) b w hb hb2 (dc v0 X b w A0 hT s0 hb hb2)
 have HA:=aa A0
 have HT:=aa hT
 clear hT A0 hlx hbx
 go_enter Tryz.func7,Tryz.ntmps7
 go_wp2_with fail
 refine HR.mono ?_
 rintro e wn ⟨rfl,hw⟩;rw [hw];clear hw wn HR
 go_wp2_with fail
 refine CL.mono ?_
 rintro e wn ⟨rfl,hw⟩;rw [hw];clear hw wn CL
 go_wp2_with fail
 refine P1.mono ?_
 rintro e w1 ⟨D,rfl,hd,hg,hb1⟩
 obtain⟨n,hn⟩:∃n,D.length=n:=⟨_,rfl⟩
 have hDe:=dz hn hg
 rw [hn] at hd
 subst hDe
 obtain⟨hn9,_⟩:=dE hb HLM.out s0 rfl hd
 obtain⟨S,hS⟩:∃S,aE ((digs b n (val X)).map fig)=S:=⟨_,rfl⟩
 have hSs:S.size=n:=by rw [←hS,fv,aP]
 rw [hS]
 have HH:=aa hd
 have HB:=aa hb1
 have C:=gc 0 n (val X) b w1 (HT.out.below HB.out) hb hb2 hd HBX.out hn9 (by omega)
 rw [d5,hS] at C
 have HS:=aa (And.intro hS hSs)
 clear P1 hd hg hb1 hn hS hSs
 go_wp2_with fail
 refine C.mono ?_
 rintro e w2 ⟨⟨v2,r2,rfl,hA2,hv2,_,hf2⟩,hb2'⟩
 replace HB:=aa (bt5 HB.out hb2')
 have HA2:=aa (hA2.arg (by omega))
 have HV2:=aa hv2
 have C:=kD v0 X b w2 (HA.out.below HB.out) (HT.out.below HB.out) s0 hb hb2
 clear hA2 hv2 hf2 hb2'
 go_wp2_with fail
 refine C.mono ?_
 rintro e w3 ⟨⟨g3,n3,rfl,hI3,_,hd3,_⟩,hb3⟩
 obtain rfl:=hd3.unique hb HH.out
 replace HB:=aa (bt5 HB.out hb3)
 replace HA2:=aa (HA2.out.below hb3)
 have C:=jX g3 n3 (val X) b w3 (HT.out.below HB.out) hI3 hb hb2 HH.out HBX.out hn9
 clear hI3 hd3 hb3
 go_wp2_with fail
 refine C.mono ?_
 rintro e w4 ⟨⟨v4,r4,rfl,hA4,hv4,_,hf4⟩,hb4⟩
 replace HB:=aa (bt5 HB.out hb4)
 replace HA2:=aa (HA2.out.below hb4)
 have HA4:=aa (hA4.arg (by omega))
 have HV4:=aa hv4
 have C:=bY v2 v0 r2 X w4 HA2.out (HA.out.below HB.out)
 rw [HV2.out,e8] at C
 clear hA4 hv4 hf4 hb4
 go_wp2_with fail
 refine C.mono ?_
 rintro e w5 ⟨rfl,hs5⟩
 have hb5:=hs5.top
 replace HB:=aa (bt5 HB.out hb5)
 replace HA4:=aa (HA4.out.below hb5)
 have C:=bY v4 v0 r4 X w5 HA4.out (HA.out.below HB.out)
 rw [HV4.out,e8] at C
 clear hs5 hb5
 go_wp2_with fail
 refine C.mono ?_
 rintro e w6 ⟨rfl,hs6⟩
 replace HB:=aa (bt5 HB.out hs6.top)
 have hSs:=HS.out.2
 have hne:((n3:Int) != (n3:Int))=false:=by simp
 clear C hs6 HA2 HA4 HV2 HV4
 go_wp2
 go_loopw [15,16] (fun sv i wr=>∃(j:Nat) (T:ByteArray),sv=.string T∧i=.int .u64 j∧T=aH j S∧j≤m∧Below w6.heap.size w6 wr) (fun _ i _=>m - (intOf i).toNat)
 case atStart=>exact⟨0,S,rfl,rfl,(d5 S).symm,Nat.zero_le _,Below.refl _ _⟩
 case round=>
  obtain⟨j,T,rfl,rfl,hTe,hj,hbr⟩:=hrel
  have hTs:T.size=j+n3:=by rw [hTe,e9,HS.out.2]
  have HTE:=aa hTe
  have HBR:=aa hbr
  clear hTe hbr
  by_cases hjm:j<m
  ·have hci:(j:Int)<(m:Int):=by omega
   obtain⟨T2,hT2⟩:∃T2,(ByteArray.mk #[48]) ++ T=T2:=⟨_,rfl⟩
   have HT2:Hid (T2=aH (j+1) S):=aa (by rw [←hT2,HTE.out,jW])
   have h1s:(ByteArray.mk #[48]).size=1:=rfl
   obtain⟨tl,htl⟩:∃tl,T.size=tl:=⟨_,rfl⟩
   rw [htl] at hTs
   have htb:tl≤70000000:=by omega
   clear hTs
   go_wp2
   go_roundw
   case rel=>exact⟨j+1,T2,rfl,by go_num,HT2.out,by omega,HBR.out⟩
   case measure=>simp [intOf];omega
  ·obtain rfl:j=m:=by omega
   have hci:¬((j:Int)<(j:Int)):=by omega
   replace HB:=aa (bt5 HB.out HBR.out)
   have C:=gc j n3 (val X) b wr (HT.out.below HB.out) hb hb2 HH.out HBX.out hn9 (by omega)
   rw [HS.out.1,←HTE.out] at C
   clear hTs HBR
   go_wp2_with fail
   refine C.mono ?_
   rintro e w7 ⟨⟨v7,r7,rfl,hA7,hv7,_,hf7⟩,hb7⟩
   replace HB:=aa (bt5 HB.out hb7)
   have C:=fR v7 (val r7) b w7 hb hb2 (dc v7 r7 b w7 (hA7.arg (by omega)) (HT.out.below HB.out) hf7 hb hb2)
   rw [hv7] at C
   clear hA7 hv7 hf7 hb7
   go_wp2_with fail
   refine C.mono ?_
   rintro e w8 ⟨D8,rfl,hd8,hg8,hb8⟩
   have hl8:=hd8.unique hb HH.out
   have hDe:=dz hl8 hg8
   rw [hDe,HS.out.1]
   replace HB:=aa (bt5 HB.out hb8)
   have C:=ib w8 (HT.out.below HB.out)
   have hss:(S.toList == S.toList)=true:=by simp
   clear hd8 hg8 hb8 hl8 hDe
   go_wp2_with fail
   refine C.mono ?_
   rintro e w9 ⟨rfl,hb9⟩
   replace HB:=aa (bt5 HB.out hb9)
   clear C hb9
   go_wp2
   go_ret
   exact⟨rfl,HB.out⟩
end Go.Proofs.YteehipcoeocojaaGreatDoor
namespace Go.Proofs.YteehipcoeocojaaGreatDoor
open Go.ChangeShapes Go.WideShapes Go.ChangeAt Go.RowKit

def cV:List (String × DataW Unit):=[("math/bits.deBruijn32tab",Rows.laid_math_bits_deBruijn32tab),("math/bits.deBruijn64tab",Rows.laid_math_bits_deBruijn64tab)]

theorem jD:(Rows.laid_math_bits_deBruijn64tab:DataW Unit)=.agg (aD.map fun n=>.lit (.int .u8 ((n:Nat):Int))):=by kernel_rfl

theorem jF {W:World}(h:laidMetH Tryz.prog cV W):Tab W:=by
 rw [MakeChecks.laidMetH_plain _ _ _ (by kernel_rfl)] at h
 obtain⟨ps,⟨_,_,_,_,_,_,_,_,_,_,⟨g,t,cs,fuel,p,q,hg,ht,hv,hd,_,_⟩,_⟩,_,_⟩:=h
 obtain rfl:=Option.some.inj ((show Tryz.prog.globalNamed "math/bits.deBruijn64tab"=some 1 by kernel_rfl).symm.trans hg)
 obtain rfl:=Option.some.inj ((show (Tryz.prog.globals[1]?).map (·.type)=some 147 by kernel_rfl).symm.trans ht)
 obtain⟨xs,m,_,ex,_,hl,hel⟩:=DataW.trod_array Tryz.underlying147 hd
 have c5:Tryz.prog.cellsOf 5=1:=by kernel_rfl
 have hcell:∀r,r<64→W.cell? ⟨1,r,none⟩=some (.int .u8 ((aD.getD r 0:Nat):Int)):=by
  intro r hr
  have hE:=hel r hr
  rw [c5,Nat.mul_one,List.getElem?_eq_getElem (by omega)] at hE
  obtain⟨z,e1,e2,_⟩:=DataW.trod_int Tryz.underlying5 hE
  have hlen:aD.length=64:=by kernel_rfl
  rw [jD] at ex
  have e3:(xs.map (·.1))=aD.map fun n=>.lit (.int .u8 ((n:Nat):Int)):=(DataW.agg.inj (Prod.mk.inj ex).1).symm
  have e4:(xs.map (·.1))[r]?=(aD.map fun n=>(DataW.lit (.int .u8 ((n:Nat):Int)):DataW Unit))[r]?:=by rw [e3]
  rw [List.getElem?_map,List.getElem?_map,List.getElem?_eq_getElem (by omega:r<xs.length),List.getElem?_eq_getElem (by omega:r<aD.length),e2] at e4
  have hz:z=((aD.getD r 0:Nat):Int):=by
   simp only [Option.map_some,Option.some.injEq,DataW.lit.injEq,Lit.int.injEq,true_and] at e4
   rw [e4,List.getD,List.getElem?_eq_getElem (by omega:r<aD.length)];rfl
  rw [World.var?_cell hg hv r,←hz]
  have:cs.toList[r]?=some (.int .u8 z):=by
   have h0:((cs.toList.drop r).take 1)[0]?=some (.int .u8 z):=by rw [e1];rfl
   simpa using h0
  simpa using this
 refine⟨?_,hcell⟩
 have h0:=hcell 0 (by omega)
 rcases Nat.lt_or_ge 1 W.heap.size with h|h
 ·exact h
 ·simp [World.cell?,Array.getElem?_eq_none h] at h0
end Go.Proofs.YteehipcoeocojaaGreatDoor

