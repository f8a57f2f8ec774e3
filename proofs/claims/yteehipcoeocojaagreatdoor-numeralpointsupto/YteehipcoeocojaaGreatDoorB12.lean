/- The contract of strings.Repeat, as the kit's own shelf lays it at this translation. -/
import Derived.Shelf.Strings.Builder1
import Derived.Shelf.Strings.Builder2
import Derived.Shelf.Small.Bits
import Derived.Shelf.Small.Strs
import Derived.Shelf.Small.Wraps
import Derived.Shelf.Strings.BuilderF
import Derived.Shelf.Strconv.Itoa0
import Derived.Shelf.Strings.Search1
import Derived.Shelf.Strings.Prefix
import Derived.Shelf.Bits.Mul64
import Derived.Shelf.Strings.Repeat
import Derived.Ground.Names2Prog
import Derived.Shelf.Slices.SearchI
import Derived.Test.YteehipcoeocojaaGreatDoorProg
import Derived.Test.YteehipcoeocojaaGreatDoorB11
import Derived.Deep.QuietTactic
import Derived.BigQuiet
import Derived.Test.YteehipcoeocojaaGreatDoorB02
import Derived.Test.YteehipcoeocojaaGreatDoorRows
import Derived.Test.YteehipcoeocojaaGreatDoorB01
import Derived.ProofKit
import Derived.OpenShut
import Derived.LaidMore
import Derived.Lay
import Derived.Stop.Joined
set_option maxRecDepth 20000
set_option maxHeartbeats 4000000
namespace Go.Proofs
open Go.Shelf
def Tryz.lays105_ren:Go.Shelf.Ren:=⟨fun | 105=>46 | 212=>67 | 99=>68 | 165=>69 | 166=>70 | 170=>71 | 169=>72 | 263=>96 | 264=>97 | 206=>98 | 240=>99 | 241=>100 | 276=>116 | 277=>117|n=>n,fun | 9=>9 | 3=>3 | 4=>4 | 20=>20 | 0=>0 | 46=>57 | 109=>103 | 5=>5 | 72=>108 | 76=>112 | 51=>125 | 146=>137 | 53=>63 | 148=>139 | 70=>106 | 37=>67 | 75=>111 | 127=>141 | 164=>151 | 80=>114|n=>n,fun|n=>n⟩
theorem Tryz.lays105:Go.Proofs.Lays.n105 Tryz.prog Tryz.lays105_ren:={
 mixed:=by kernel_rfl
 f99:=Tryz.func68.trans (congrArg some (by kernel_rfl))
 f105:=Tryz.func46.trans (congrArg some (by kernel_rfl))
 f165:=Tryz.func69.trans (congrArg some (by kernel_rfl))
 f166:=Tryz.func70.trans (congrArg some (by kernel_rfl))
 f169:=Tryz.func72.trans (congrArg some (by kernel_rfl))
 f170:=Tryz.func71.trans (congrArg some (by kernel_rfl))
 f206:=Tryz.func98.trans (congrArg some (by kernel_rfl))
 f212:=Tryz.func67.trans (congrArg some (by kernel_rfl))
 f240:=Tryz.func99.trans (congrArg some (by kernel_rfl))
 f241:=Tryz.func100.trans (congrArg some (by kernel_rfl))
 f263:=Tryz.func96.trans (congrArg some (by kernel_rfl))
 f264:=Tryz.func97.trans (congrArg some (by kernel_rfl))
 f276:=Tryz.func116.trans (congrArg some (by kernel_rfl))
 f277:=Tryz.func117.trans (congrArg some (by kernel_rfl))
 t0:=Tryz.underlying0
 a0:=Tryz.isAgg0
 z0:=Tryz.sizeOf0
 v0:=Tryz.zeroValue0
 t3:=Tryz.underlying3
 a3:=Tryz.isAgg3
 z3:=Tryz.sizeOf3
 v3:=Tryz.zeroValue3
 t4:=Tryz.underlying4
 a4:=Tryz.isAgg4
 z4:=Tryz.sizeOf4
 v4:=Tryz.zeroValue4
 t5:=Tryz.underlying5
 a5:=Tryz.isAgg5
 z5:=Tryz.sizeOf5
 v5:=Tryz.zeroValue5
 t9:=Tryz.underlying9
 a9:=Tryz.isAgg9
 z9:=Tryz.sizeOf9
 v9:=Tryz.zeroValue9
 t20:=Tryz.underlying20
 a20:=Tryz.isAgg20
 z20:=Tryz.sizeOf20
 v20:=Tryz.zeroValue20
 t37:=Tryz.underlying67
 a37:=Tryz.isAgg67
 z37:=Tryz.sizeOf67
 v37:=Tryz.zeroValue67
 t46:=Tryz.underlying57
 a46:=Tryz.isAgg57
 z46:=Tryz.sizeOf57
 v46:=Tryz.zeroValue57
 t51:=Tryz.underlying125
 a51:=Tryz.isAgg125
 z51:=Tryz.sizeOf125
 v51:=Tryz.zeroValue125
 t53:=Tryz.underlying63
 a53:=Tryz.isAgg63
 z53:=Tryz.sizeOf63
 v53:=Tryz.zeroValue63
 t70:=Tryz.underlying106
 a70:=Tryz.isAgg106
 z70:=Tryz.sizeOf106
 v70:=Tryz.zeroValue106
 t72:=Tryz.underlying108
 a72:=Tryz.isAgg108
 z72:=Tryz.sizeOf108
 v72:=Tryz.zeroValue108
 t75:=Tryz.underlying111
 a75:=Tryz.isAgg111
 z75:=Tryz.sizeOf111
 v75:=Tryz.zeroValue111
 t76:=Tryz.underlying112
 a76:=Tryz.isAgg112
 z76:=Tryz.sizeOf112
 v76:=Tryz.zeroValue112
 t109:=Tryz.underlying103
 a109:=Tryz.isAgg103
 z109:=Tryz.sizeOf103
 v109:=Tryz.zeroValue103
 t127:=Tryz.underlying141
 a127:=Tryz.isAgg141
 z127:=Tryz.sizeOf141
 v127:=Tryz.zeroValue141
 t146:=Tryz.underlying137
 a146:=Tryz.isAgg137
 z146:=Tryz.sizeOf137
 v146:=Tryz.zeroValue137
 t148:=Tryz.underlying139
 a148:=Tryz.isAgg139
 z148:=Tryz.sizeOf139
 v148:=Tryz.zeroValue139
 t164:=Tryz.underlying151
 a164:=Tryz.isAgg151
 z164:=Tryz.sizeOf151
 v164:=Tryz.zeroValue151 }
theorem Tryz.Builder_Extra_105:Builder.Extra Tryz.prog Tryz.lays105_ren:={
 sizeBuilder:=by kernel_rfl
 liesBuilder:=by kernel_rfl
 t5:=Tryz.underlying5
 a5:=Tryz.isAgg5
 z5:=Tryz.sizeOf5
 v5:=Tryz.zeroValue5
 infoByte:=by kernel_rfl
 cellsByte:=by kernel_rfl
 sizeByte:=by kernel_rfl
 neB5:=by decide }
open Go.RowKit Go.Lib in
theorem Tryz.strings_Repeat_main (s:ByteArray)(c:Nat)(w:World)(hc2:2≤c)(hc:c≤9223372036854775807)(hlen:s.size*c≤140737488355328)(h0:0<s.size) :
  Calls Tryz.prog 46 #[.string s,.int .i64 c] w fun e w'=>e=.returned (.string ⟨(Lib.repeatL s.data.toList c).toArray⟩)∧Below w.heap.size w w':=Any.strings_Repeat_main Tryz.lays105 Tryz.Builder_Extra_105 s c w hc2 hc hlen h0
open Go.RowKit Go.Lib in
theorem Tryz.strings_Repeat_zero (s:ByteArray)(w:World) :
  Calls Tryz.prog 46 #[.string s,.int .i64 0] w fun e w'=>e=.returned (.string ⟨#[]⟩)∧w'=w:=Any.strings_Repeat_zero Tryz.lays105 s w
open Go.RowKit Go.Lib in
theorem Tryz.strings_Repeat_one (s:ByteArray)(w:World) :
  Calls Tryz.prog 46 #[.string s,.int .i64 1] w fun e w'=>e=.returned (.string s)∧w'=w:=Any.strings_Repeat_one Tryz.lays105 s w
open Go.RowKit Go.Lib in
theorem Tryz.strings_Repeat_empty (s:ByteArray)(c:Nat)(w:World)(hc2:2≤c)(hc:c≤9223372036854775807)(h0:s.size=0) :
  Calls Tryz.prog 46 #[.string s,.int .i64 c] w fun e w'=>e=.returned (.string ⟨#[]⟩)∧w'=w:=Any.strings_Repeat_empty Tryz.lays105 s c w hc2 hc h0
open Go.RowKit Go.Lib in
theorem Tryz.strings_Repeat_negative (s:ByteArray)(c:Int)(w:World)(hc:c<0) :
  Calls Tryz.prog 46 #[.string s,.int .i64 c] w fun e w'=>e=.panicked [{ v:=repeatPanic Tryz.lays105_ren "strings: negative Repeat count",recovered:=false }]∧w'=w:=Any.strings_Repeat_negative Tryz.lays105 s c w hc
open Go.RowKit Go.Lib in
theorem Tryz.strings_Repeat_overflow (s:ByteArray)(c:Nat)(w:World)(hc:c≤9223372036854775807)(hs:s.size≤9223372036854775807)(hbig:9223372036854775807<s.size*c) :
  Calls Tryz.prog 46 #[.string s,.int .i64 c] w fun e w'=>e=.panicked [{ v:=repeatPanic Tryz.lays105_ren "strings: Repeat output length overflow",recovered:=false }]∧w'=w:=Any.strings_Repeat_overflow Tryz.lays105 s c w hc hs hbig
open Go.RowKit Go.Lib in
theorem Tryz.strings_Repeat (s:ByteArray)(c:Nat)(w:World)(hc:c≤9223372036854775807)(hlen:s.size*c≤140737488355328) :
  Calls Tryz.prog 46 #[.string s,.int .i64 c] w fun e w'=>e=.returned (.string ⟨(Lib.repeatL s.data.toList c).toArray⟩)∧Below w.heap.size w w':=Any.strings_Repeat Tryz.lays105 Tryz.Builder_Extra_105 s c w hc hlen
end Go.Proofs

namespace Go.Proofs.YteehipcoeocojaaGreatDoor
open Go.RowKit
open Lm
attribute [local go_sem ↓] Go.wp_at_zero Go.wp_at_succ

def ax (k:Nat)(S:ByteArray):ByteArray:=⟨(List.replicate k 48 ++ S.data.toList).toArray⟩

theorem e8 (S:ByteArray):ax 0 S=S:=by
 apply ByteArray.ext
 simp [ax]

theorem cU (k:Nat)(S:ByteArray):(ax k S).size=k+S.size:=by
 show (List.replicate k 48 ++ S.data.toList).toArray.size=_
 rw [List.size_toArray,List.length_append,List.length_replicate]
 rfl

theorem mA (k:Nat)(S:ByteArray):(ByteArray.mk #[48]) ++ ax k S=ax (k+1) S:=by
 apply ByteArray.ext
 apply Array.toList_inj.1
 rw [ByteArray.data_append,Array.toList_append]
 simp [ax,List.replicate_succ]

theorem kU (k:Nat):Lib.repeatL [48] k=List.replicate k 48:=by
 induction k with
 | zero=>rfl
 | succ k ih=>simp [Lib.repeatL,ih,List.replicate_succ]

theorem kH (k:Nat)(S:ByteArray):(ByteArray.mk (Lib.repeatL [48] k).toArray) ++ S=ax k S:=by
 apply ByteArray.ext
 apply Array.toList_inj.1
 rw [ByteArray.data_append,Array.toList_append,kU]
 simp [ax]

def bj (T:ByteArray)(q:Nat):ByteArray:=if q=0 then T else (T.extract 0 (T.size - q) ++ ByteArray.mk #[46]) ++ T.extract (T.size - q) T.size

def dS:Value→Nat
 | .string s=>s.size
 | _=>0

theorem iB (v:Value)(x b q:Nat)(w:World)(h:Num w v x)(hb:2≤b)(hb2:b≤36)(hx:blen x≤67108864)(hq:q≤1048576) :
  Calls Tryz.prog 26 #[v,.int .i64 b,.int .i64 q] w fun e w'=>∃n,e=.returned (.tuple #[.string (bj (ax (q+1 - n) (an ((digs b n x).map fig))) q),.int .i64 0])∧aq b x n∧Below w.heap.size w w':=by
 have C:=fI v x b w h hb hb2 hx
 have i1:¬((q:Int)<0):=by omega
 have i2:¬((1048576:Int)<(q:Int)):=by omega
 clear h
 go_enter Tryz.func26,Tryz.ntmps26
 go_wp2_with fail
 refine C.mono ?_
 rintro e w1 ⟨n,rfl,hH,hb1⟩
 obtain⟨S,hS⟩:∃S,an ((digs b n x).map fig)=S:=⟨_,rfl⟩
 have hSs:S.size=n:=by rw [←hS,dM,aI]
 have hn1:n≤67108865:=by
  rcases hH.2.2 with h3|h3
  ·omega
  ·have h4:2 ^ (n - 1)≤x:=Nat.le_trans (Nat.pow_le_pow_left hb _) h3
   have h5:x<2 ^ blen x:=(blen_le_iff _ _).1 (Nat.le_refl _)
   have h6:=(Nat.pow_lt_pow_iff_right (by omega:1<2)).1 (Nat.lt_of_le_of_lt h4 h5)
   omega
 rw [hS]
 have HS:=aa hS
 have HH:=aa hH
 have HB1:=aa hb1
 have HSS:=aa hSs
 clear C hH hb1 hS hSs
 go_wp2
 go_loopw [8] (fun sv wr=>∃(k:Nat) (T:ByteArray),sv=.string T∧T=ax k S∧(k=0∨n+k≤q+1)∧Below w1.heap.size w1 wr) (fun sv _=>q+1 - dS sv)
 case atStart=>exact⟨0,S,rfl,(e8 S).symm,.inl rfl,Below.refl _ _⟩
 case round=>
  obtain⟨k,T,rfl,hTe,hk,hbr⟩:=hrel
  have hTs:T.size=k+n:=by rw [hTe,cU,HSS.out]
  have HTE:=aa hTe
  have HBR:=aa hbr
  clear hTe hbr
  obtain⟨m,hm,hm9⟩:∃m:Nat,T.size=m∧m=k+n:=⟨_,rfl,hTs⟩
  by_cases hle:m≤q
  ·have hci:(m:Int)≤(q:Int):=by omega
   obtain⟨T2,hT2⟩:∃T2,(ByteArray.mk #[48]) ++ T=T2:=⟨_,rfl⟩
   have HT2:Hid (T2=ax (k+1) S):=aa (by rw [←hT2,HTE.out,mA])
   have hT2s:T2.size=m+1:=by rw [HT2.out,cU,HSS.out];omega
   have h1s:(ByteArray.mk #[48]).size=1:=rfl
   have HM:=aa (And.intro hm (And.intro hm9 hT2s))
   clear hTs hT2s hm9
   go_wp2
   go_roundw
   case rel=>exact⟨k+1,T2,rfl,HT2.out,.inr (by have:=HM.out;omega),HBR.out⟩
   case measure=>simp [dS];have:=HM.out;omega
  ·have hci:¬((m:Int)≤(q:Int)):=by omega
   have hkq:k=q+1 - n:=by omega
   have HF:Hid (ax (q+1 - n) (an ((digs b n x).map fig))=T):=aa (by rw [HS.out,←hkq];exact HTE.out.symm)
   have HBE:=aa (bt5 HB1.out HBR.out)
   by_cases hq0:q=0
   ·subst hq0
    clear hTs hm9 hkq hk
    go_wp2
    go_ret2
    exact⟨n,by rw [HF.out];rfl,HH.out,HBE.out⟩
   ·have hqz:((q:Int) == 0)=false:=by rw [beq_eq_false_iff_ne];omega
    obtain⟨hh,hhi,hhn⟩:∃hh:Nat,(m:Int) - (q:Int)=(hh:Int)∧hh=m - q:=⟨m - q,by omega,rfl⟩
    have hhm:hh≤m:=by omega
    have hmb:m≤70000000:=by omega
    have hw1:IntKind.i64.wrap (hh:Int)=(hh:Int):=by rw [IntKind.wrap_i64];omega
    have hw2:IntKind.i64.wrap ((m:Int) - (q:Int))=(hh:Int):=by rw [hhi];exact hw1
    have hw3:(0:Int)≤(hh:Int):=by omega
    have hw4:(hh:Int)≤(m:Int):=by omega
    have hP:bj T q=(T.extract 0 hh ++ ByteArray.mk #[46]) ++ T.extract hh m:=by
     unfold bj
     rw [if_neg hq0,hm,←hhn]
    have HPT:=aa hP
    obtain⟨A1,hA1⟩:∃A1,T.extract 0 hh=A1:=⟨_,rfl⟩
    obtain⟨A2,hA2⟩:∃A2,T.extract hh m=A2:=⟨_,rfl⟩
    have hA1s:A1.size=hh:=by rw [←hA1,ByteArray.size_extract,hm];omega
    have hA2s:A2.size=q:=by rw [←hA2,ByteArray.size_extract,hm];omega
    obtain⟨B1,hB1⟩:∃B1,A1 ++ ByteArray.mk #[46]=B1:=⟨_,rfl⟩
    have hB1s:B1.size=hh+1:=by rw [←hB1,ByteArray.size_append,hA1s];rfl
    obtain⟨B2,hB2⟩:∃B2,B1 ++ A2=B2:=⟨_,rfl⟩
    have h46:(ByteArray.mk #[46]).size=1:=rfl
    rw [hA1,hA2,hB1,hB2] at hP
    replace HPT:=aa hP
    have HHN:=aa hhn
    clear hTs hm9 hkq hk hP hhn
    go_wp2
    go_region
    all_goals
     go_wp2
     go_ret2
     exact⟨n,by rw [HF.out,HPT.out];rfl,HH.out,by first|exact HBE.out|exact HBE.out.drew⟩

theorem gA (va:Value)(X:List Nat)(b q:Nat)(w:World)(hA:Arg w va X)(hT:Tab w)(hl:X.length≤1048576)(hb:2≤b)(hb2:b≤36)(hq:q≤1048576) :
  Calls Tryz.prog 25 #[va,.int .i64 b,.int .i64 q] w fun e w'=>∃n,e=.returned (.tuple #[.string (bj (ax (q+1 - n) (an ((digs b n (val X)).map fig))) q),.int .i64 0])∧aq b (val X) n∧Below w.heap.size w w':=by
 have HI:=fM b w hb hb2
 have HW:=ja va X b w hA hT hl hb hb2
 have i1:¬((q:Int)<0):=by omega
 have i2:¬((1048576:Int)<(q:Int)):=by omega
 have HX:=aa hA.limbs
 clear hA hT
 go_enter Tryz.func25,Tryz.ntmps25
 go_wp2_with fail
 refine HI.mono ?_
 rintro e wn ⟨rfl,hw⟩;rw [hw];clear hw wn HI
 go_wp2_with fail
 refine HW.mono ?_
 rintro e w1 ⟨gd,D,rfl,hg,hd,hH,hm,hdig,hbe⟩
 have HTX:=ka gd D.length D w1 hd (dw.small (by omega) hb2 hdig) (Nat.le_refl _) hm
 obtain⟨n,hn⟩:∃n,D.length=n:=⟨_,rfl⟩
 have hDe:=kr hn hdig
 rw [hn] at hH HTX
 obtain⟨hn9,_⟩:=fl hb HX.out hl rfl hH
 rw [hn]
 subst hDe
 have HH:=aa hH
 have HB:=aa hbe
 have HGD:=aa hg
 clear HW hd hH hbe hdig hm hg hn
 go_wp2_with fail
 refine HTX.mono ?_
 rintro e w2 ⟨rfl,hf⟩
 obtain⟨S,hS⟩:∃S,an ((digs b n (val X)).map fig)=S:=⟨_,rfl⟩
 have hSs:S.size=n:=by rw [←hS,dM,aI]
 rw [hS]
 have HS:=aa hS
 have HB2:=aa (HB.out.trans (hf.below (base:=w.heap.size) HGD.out (by have:=HB.out.size;omega)))
 clear HTX hf hS HB
 obtain⟨mi,hmi⟩:∃mi:Int,(q:Int)+1 - (n:Int)=mi:=⟨_,rfl⟩
 by_cases hpos:0<mi
 ·obtain⟨k,hk,hkn⟩:∃k:Nat,mi=(k:Int)∧k=q+1 - n:=⟨mi.toNat,by omega,by omega⟩
  subst hk
  obtain⟨Z,hZ⟩:∃Z,(ByteArray.mk #[48,49,50,51,52,53,54,55,56,57,97,98,99,100,101,102,103,104,105,106,107,108,109,110,111,112,113,114,115,116,117,118,119,120,121,122]).extract 0 1=Z:=⟨_,rfl⟩
  have hZl:Z.data.toList=[48]:=by rw [←hZ];rfl
  have hZs:Z.size=1:=by
   have h:Z.data.toList.length=1:=by rw [hZl];rfl
   exact h
  have R:=Tryz.strings_Repeat Z k w2 (by omega) (by rw [hZs];omega)
  rw [hZl] at R
  obtain⟨Rp,hRp⟩:∃Rp,ByteArray.mk (Lib.repeatL [48] k).toArray=Rp:=⟨_,rfl⟩
  rw [hRp] at R
  obtain⟨T,hT2⟩:∃T,Rp ++ S=T:=⟨_,rfl⟩
  have hTp:T=ax k S:=by rw [←hT2,←hRp,kH]
  have hRs:Rp.size=k:=by
   have h:=cU k S
   rw [←hTp,←hT2,ByteArray.size_append] at h
   omega
  obtain⟨m,hmm⟩:∃m,m=k+n:=⟨_,rfl⟩
  have hTs:T.size=m:=by rw [hTp,cU,hSs,hmm]
  have HF:Hid (ax (q+1 - n) (an ((digs b n (val X)).map fig))=T):=aa (by rw [HS.out,←hkn];exact hTp.symm)
  clear hTp hRp hkn
  go_wp2_with fail
  refine R.mono ?_
  rintro e w3 ⟨rfl,hb3⟩
  have HBE:=aa (HB2.out.trans (hb3.mono HB2.out.size))
  clear R hb3
  by_cases hq0:q=0
  ·subst hq0
   clear hTs hmm
   go_wp2
   go_ret2
   exact⟨n,by rw [HF.out];rfl,HH.out,HBE.out⟩
  ·have hqz:((q:Int) == 0)=false:=by rw [beq_eq_false_iff_ne];omega
   obtain⟨hh,hhi,hhn⟩:∃hh:Nat,(m:Int) - (q:Int)=(hh:Int)∧hh=m - q:=⟨m - q,by omega,rfl⟩
   have hhm:hh≤m:=by omega
   have hmb:m≤70000000:=by omega
   have hw1:IntKind.i64.wrap (hh:Int)=(hh:Int):=by rw [IntKind.wrap_i64];omega
   have hw2:IntKind.i64.wrap ((m:Int) - (q:Int))=(hh:Int):=by rw [hhi];exact hw1
   have hw3:(0:Int)≤(hh:Int):=by omega
   have hw4:(hh:Int)≤(m:Int):=by omega
   have hP:bj T q=(T.extract 0 hh ++ ByteArray.mk #[46]) ++ T.extract hh m:=by
    unfold bj
    rw [if_neg hq0,hTs,←hhn]
   obtain⟨A1,hA1⟩:∃A1,T.extract 0 hh=A1:=⟨_,rfl⟩
   obtain⟨A2,hA2⟩:∃A2,T.extract hh m=A2:=⟨_,rfl⟩
   have hA1s:A1.size=hh:=by rw [←hA1,ByteArray.size_extract,hTs];omega
   have hA2s:A2.size=q:=by rw [←hA2,ByteArray.size_extract,hTs];omega
   obtain⟨B1,hB1⟩:∃B1,A1 ++ ByteArray.mk #[46]=B1:=⟨_,rfl⟩
   have hB1s:B1.size=hh+1:=by rw [←hB1,ByteArray.size_append,hA1s];rfl
   obtain⟨B2,hB2⟩:∃B2,B1 ++ A2=B2:=⟨_,rfl⟩
   have h46:(ByteArray.mk #[46]).size=1:=rfl
   rw [hA1,hA2,hB1,hB2] at hP
   have HPT:=aa hP
   clear hP hhn hmm
   go_wp2
   go_region
   all_goals
    go_wp2
    go_ret2
    exact⟨n,by rw [HF.out,HPT.out];rfl,HH.out,by first|exact HBE.out|exact HBE.out.drew⟩
 ·obtain⟨T,hT2⟩:∃T,S=T:=⟨_,rfl⟩
  have HF:Hid (ax (q+1 - n) (an ((digs b n (val X)).map fig))=T):=aa (by rw [HS.out,show q+1 - n=0 by omega,e8];exact hT2)
  subst hT2
  have HBE:=HB2
  have hnl9:¬(0<(q:Int)+1 - (n:Int)):=by omega
  by_cases hq0:q=0
  ·subst hq0
   go_wp2
   go_ret2
   exact⟨n,by rw [HF.out];rfl,HH.out,HBE.out⟩
  ·have hqz:((q:Int) == 0)=false:=by rw [beq_eq_false_iff_ne];omega
   obtain⟨hh,hhi,hhn⟩:∃hh:Nat,(n:Int) - (q:Int)=(hh:Int)∧hh=n - q:=⟨n - q,by omega,rfl⟩
   have hhm:hh≤n:=by omega
   have hmb:n≤70000000:=by omega
   have hw1:IntKind.i64.wrap (hh:Int)=(hh:Int):=by rw [IntKind.wrap_i64];omega
   have hw2:IntKind.i64.wrap ((n:Int) - (q:Int))=(hh:Int):=by rw [hhi];exact hw1
   have hw3:(0:Int)≤(hh:Int):=by omega
   have hw4:(hh:Int)≤(n:Int):=by omega
   have hP:bj S q=(S.extract 0 hh ++ ByteArray.mk #[46]) ++ S.extract hh n:=by
    unfold bj
    rw [if_neg hq0,hSs,←hhn]
   obtain⟨A1,hA1⟩:∃A1,S.extract 0 hh=A1:=⟨_,rfl⟩
   obtain⟨A2,hA2⟩:∃A2,S.extract hh n=A2:=⟨_,rfl⟩
   have hA1s:A1.size=hh:=by rw [←hA1,ByteArray.size_extract,hSs];omega
   have hA2s:A2.size=q:=by rw [←hA2,ByteArray.size_extract,hSs];omega
   obtain⟨B1,hB1⟩:∃B1,A1 ++ ByteArray.mk #[46]=B1:=⟨_,rfl⟩
   have hB1s:B1.size=hh+1:=by rw [←hB1,ByteArray.size_append,hA1s];rfl
   obtain⟨B2,hB2⟩:∃B2,B1 ++ A2=B2:=⟨_,rfl⟩
   have h46:(ByteArray.mk #[46]).size=1:=rfl
   rw [hA1,hA2,hB1,hB2] at hP
   have HPT:=aa hP
   clear hP hhn
   go_wp2
   go_region
   all_goals
    go_wp2
    go_ret2
    exact⟨n,by rw [HF.out,HPT.out];rfl,HH.out,by first|exact HBE.out|exact HBE.out.drew⟩
end Go.Proofs.YteehipcoeocojaaGreatDoor
namespace Go.Proofs.YteehipcoeocojaaGreatDoor
open Go.RowKit
open Lm
attribute [local go_sem ↓] Go.wp_at_zero Go.wp_at_succ

theorem ev (w:World)(z:Nat)(hz:z<18446744073709551616):Arg (w.alloc (.cells #[.int .u64 (z:Int)] 63)) (.slice (some ⟨w.heap.size,0,none⟩) 1 1) [z]:=by
 have hb:Blk (w.alloc (.cells #[.int .u64 (z:Int)] 63)) w.heap.size [z]:=by
  unfold Blk
  rw [heap_alloc_new]
  rfl
 exact⟨⟨_,_,rfl,Nat.le_refl _,by simp,.inr ⟨_,0,rfl,fun k hk=>by rw [Nat.zero_add];exact hb.cell k hk⟩⟩,by intro y hy;simp at hy;omega,by simp,fun n c e=>by cases e⟩

theorem dI (w:World)(hT:Tab w):Calls Tryz.prog 18 #[] w fun e w'=>e=.returned (.bool true)∧Below w.heap.size w w':=by
 obtain⟨w0,hw0⟩:∃w0,w.alloc (.cells #[.int .u64 255] 63)=w0:=⟨_,rfl⟩
 have hb0:Below w.heap.size w w0:=by rw [←hw0];exact ac _ _
 have hA:Arg w0 (.slice (some ⟨w.heap.size,0,none⟩) 1 1) [255]:=by
  rw [←hw0]
  exact ev w 255 (by omega)
 have FP:=mw _ [255] w0 hA (hT.below hb0) (by decide) rfl
 have HW0:=aa hw0
 have HB0:=aa hb0
 have HT:=aa hT
 clear hT hw0 hb0 hA
 go_enter Tryz.func18,Tryz.ntmps18
 go_wp2_with fail
 rw [HW0.out]
 refine FP.mono ?_
 rintro e w1 ⟨rfl,hb1⟩
 have HB1:=bk HB0 hb1
 have FR:=gZ w1 (HT.out.below HB1.out)
 clear FP hb1
 go_wp2_with fail
 refine FR.mono ?_
 rintro e w2 ⟨⟨v,rfl,hA⟩,hb2⟩
 have HB2:=bk HB1 hb2
 obtain⟨ao,n,cap,rfl⟩:=hA.slice
 have hn:n=1:=by
  rcases hA.form with ⟨_,e⟩|⟨g,c,e,_⟩
  ·cases e
  ·injection e
 subst hn
 obtain⟨w3,hw3⟩:∃w3,w2.alloc (.cells #[.int .u64 255] 63)=w3:=⟨_,rfl⟩
 have hb3:Below w2.heap.size w2 w3:=by rw [←hw3];exact ac _ _
 have hA3:Arg w3 (.slice (some ⟨w2.heap.size,0,none⟩) 1 1) [255]:=by
  rw [←hw3]
  exact ev w2 255 (by omega)
 have FC:=dC _ _ [255] [255] w3 ((hA.below hb3).arg (by simp)) hA3
 rw [cmpN_self] at FC
 have HB3:=bk HB2 hb3
 have HW3:=aa hw3
 clear FR hA hb2 hb3 hw3 hA3
 go_wp2_with fail
 rw [HW3.out]
 refine FC.mono ?_
 rintro e w4 ⟨rfl,hsm⟩
 have HB4:=bk HB3 (hsm.below w3.heap.size)
 clear FC hsm
 go_wp2
 go_ret
 exact⟨rfl,HB4.out⟩

theorem iJ (v:Value)(b:Int)(w:World)(h:b<2∨36<b) :
  Calls Tryz.prog 15 #[v,.int .i64 b] w fun e w'=>e=.returned (.tuple #[.slice none 0 0,.int .i64 50])∧w'=w:=by
 by_cases h1:b<2
 ·clear h
  go_enter Tryz.func15,Tryz.ntmps15
  go_wp2
  go_ret2
  exact⟨rfl,rfl⟩
 ·have h2:36<b:=by omega
  clear h
  go_enter Tryz.func15,Tryz.ntmps15
  go_wp2
  go_ret2
  exact⟨rfl,rfl⟩

theorem gN (v:Value)(b:Int)(w:World)(h:b<2∨36<b) :
  Calls Tryz.prog 14 #[v,.int .i64 b] w fun e w'=>e=.returned (.tuple #[.string ⟨#[]⟩,.int .i64 50])∧w'=w:=by
 have C:=iJ v b w h
 clear h
 go_enter Tryz.func14,Tryz.ntmps14
 go_wp2_with fail
 refine C.mono ?_
 rintro e wn ⟨rfl,hw⟩;rw [hw];clear hw wn C
 go_wp2
 refine wp_loop_rounds 1 ?_
 rw [rounds_succ]
 go_wp2
 go_ret2
 exact⟨rfl,rfl⟩

theorem jy (va:Value)(b q:Int)(w:World)(h:b<2∨36<b) :
  Calls Tryz.prog 25 #[va,.int .i64 b,.int .i64 q] w fun e w'=>e=.returned (.tuple #[.string ⟨#[]⟩,.int .i64 50])∧w'=w:=by
 have HI:=iQ b w h
 clear h
 go_enter Tryz.func25,Tryz.ntmps25
 go_wp2_with fail
 refine HI.mono ?_
 rintro e wn ⟨rfl,hw⟩;rw [hw];clear hw wn HI
 go_wp2
 go_ret2
 exact⟨rfl,rfl⟩

theorem iX (va:Value)(b:Nat)(q:Int)(w:World)(hb:2≤b)(hb2:b≤36)(h:q<0∨1048576<q) :
  Calls Tryz.prog 25 #[va,.int .i64 b,.int .i64 q] w fun e w'=>e=.returned (.tuple #[.string ⟨#[]⟩,.int .i64 1])∧w'=w:=by
 have HI:=fM b w hb hb2
 by_cases h1:q<0
 ·clear h
  go_enter Tryz.func25,Tryz.ntmps25
  go_wp2_with fail
  refine HI.mono ?_
  rintro e wn ⟨rfl,hw⟩;rw [hw];clear hw wn HI
  go_wp2
  go_ret2
  exact⟨rfl,rfl⟩
 ·have h2:1048576<q:=by omega
  clear h
  go_enter Tryz.func25,Tryz.ntmps25
  go_wp2_with fail
  refine HI.mono ?_
  rintro e wn ⟨rfl,hw⟩;rw [hw];clear hw wn HI
  go_wp2
  go_ret2
  exact⟨rfl,rfl⟩

theorem mJ (v:Value)(b q:Int)(w:World)(h:b<2∨36<b) :
  Calls Tryz.prog 26 #[v,.int .i64 b,.int .i64 q] w fun e w'=>e=.returned (.tuple #[.string ⟨#[]⟩,.int .i64 50])∧w'=w:=by
 have C:=gN v b w h
 clear h
 go_enter Tryz.func26,Tryz.ntmps26
 go_wp2_with fail
 refine C.mono ?_
 rintro e wn ⟨rfl,hw⟩;rw [hw];clear hw wn C
 go_wp2
 go_ret2
 exact⟨rfl,rfl⟩

theorem ko (v:Value)(x b:Nat)(q:Int)(w:World)(hN:Num w v x)(hb:2≤b)(hb2:b≤36)(hx:blen x≤67108864)(h:q<0∨1048576<q) :
  Calls Tryz.prog 26 #[v,.int .i64 b,.int .i64 q] w fun e w'=>e=.returned (.tuple #[.string ⟨#[]⟩,.int .i64 1])∧Below w.heap.size w w':=by
 have C:=fI v x b w hN hb hb2 hx
 by_cases h1:q<0
 ·clear h hN
  go_enter Tryz.func26,Tryz.ntmps26
  go_wp2_with fail
  refine C.mono ?_
  rintro e w1 ⟨n,rfl,_,hb1⟩
  have HB:=aa hb1
  clear C hb1
  go_wp2
  go_ret2
  exact⟨rfl,HB.out⟩
 ·have h2:1048576<q:=by omega
  clear h hN
  go_enter Tryz.func26,Tryz.ntmps26
  go_wp2_with fail
  refine C.mono ?_
  rintro e w1 ⟨n,rfl,_,hb1⟩
  have HB:=aa hb1
  clear C hb1
  go_wp2
  go_ret2
  exact⟨rfl,HB.out⟩

theorem jA (va:Value)(X:List Nat)(b q:Int)(w:World)(hT:Tab w)(A0:Arg w va X)(s0:X.length≤1048576)(h:b<2∨36<b) :
  Calls Tryz.prog 6 #[va,.int .i64 b,.int .i64 q] w fun e w'=>e=.returned (.bool true)∧Below w.heap.size w w':=by
 have C:=jy va b q w h
 have hbx:=b8 A0.limbs s0
 have HA:=aa A0
 have HT:=aa hT
 clear hT A0
 go_enter Tryz.func6,Tryz.ntmps6
 go_wp2_with fail
 refine C.mono ?_
 rintro e w1 ⟨rfl,hw⟩
 have hb1:Below w.heap.size w w1:=by rw [hw];exact Below.refl _ _
 clear hw C
 have C:=cX va X w1 (HA.out.below hb1) (by omega)
 have HB:=aa hb1
 clear hb1
 go_wp2_with fail
 refine C.mono ?_
 rintro e w2 ⟨⟨vx,rfl,hN⟩,hb2'⟩
 replace HB:=aa (bt5 HB.out hb2')
 have C:=mJ vx b q w2 h
 clear hN hb2'
 go_wp2_with fail
 refine C.mono ?_
 rintro e w3 ⟨rfl,hw⟩
 replace HB:Hid (Below w.heap.size w w3):=aa (by rw [hw];exact HB.out)
 clear hw
 have CL:=dI w3 (HT.out.below HB.out)
 clear C
 go_wp2_with fail
 refine CL.mono ?_
 rintro e w4 ⟨rfl,hb4⟩
 have HBB:=aa (bt5 HB.out hb4)
 clear CL hb4
 go_wp2
 go_ret
 exact⟨rfl,HBB.out⟩

theorem kA (va:Value)(X:List Nat)(b:Nat)(q:Int)(w:World)(hT:Tab w)(A0:Arg w va X)(s0:X.length≤1048576)(hb:2≤b)(hb2:b≤36)(h:q<0∨1048576<q) :
  Calls Tryz.prog 6 #[va,.int .i64 b,.int .i64 q] w fun e w'=>e=.returned (.bool true)∧Below w.heap.size w w':=by
 have C:=iX va b q w hb hb2 h
 have hbx:=b8 A0.limbs s0
 have HA:=aa A0
 have HT:=aa hT
 clear hT A0
 go_enter Tryz.func6,Tryz.ntmps6
 go_wp2_with fail
 refine C.mono ?_
 rintro e w1 ⟨rfl,hw⟩
 have hb1:Below w.heap.size w w1:=by rw [hw];exact Below.refl _ _
 clear hw C
 have C:=cX va X w1 (HA.out.below hb1) (by omega)
 have HB:=aa hb1
 clear hb1
 go_wp2_with fail
 refine C.mono ?_
 rintro e w2 ⟨⟨vx,rfl,hN⟩,hb2'⟩
 replace HB:=aa (bt5 HB.out hb2')
 have C:=ko vx (val X) b q w2 hN hb hb2 hbx h
 clear hN hb2'
 go_wp2_with fail
 refine C.mono ?_
 rintro e w3 ⟨rfl,hb3⟩
 replace HB:=aa (bt5 HB.out hb3)
 clear hb3
 have CL:=dI w3 (HT.out.below HB.out)
 clear C
 go_wp2_with fail
 refine CL.mono ?_
 rintro e w4 ⟨rfl,hb4⟩
 have HBB:=aa (bt5 HB.out hb4)
 clear CL hb4
 go_wp2
 go_ret
 exact⟨rfl,HBB.out⟩

theorem hC (va:Value)(X:List Nat)(b q:Nat)(w:World)(hT:Tab w)(A0:Arg w va X)(s0:X.length≤1048576)(hb:2≤b)(hb2:b≤36)(hq:q≤1048576) :
  Calls Tryz.prog 6 #[va,.int .i64 b,.int .i64 q] w fun e w'=>e=.returned (.bool true)∧Below w.heap.size w w':=by
 have C:=gA va X b q w A0 hT s0 hb hb2 hq
 have hbx:=b8 A0.limbs s0
 have HA:=aa A0
 have HT:=aa hT
 clear hT A0
 go_enter Tryz.func6,Tryz.ntmps6
 go_wp2_with fail
 refine C.mono ?_
 rintro e w1 ⟨n,rfl,hd,hb1⟩
 have HH:=aa hd
 clear hd C
 have C:=cX va X w1 (HA.out.below hb1) (by omega)
 have HB:=aa hb1
 clear hb1
 go_wp2_with fail
 refine C.mono ?_
 rintro e w2 ⟨⟨vx,rfl,hN⟩,hb2'⟩
 replace HB:=aa (bt5 HB.out hb2')
 have C:=iB vx (val X) b q w2 hN hb hb2 hbx hq
 clear hN hb2'
 go_wp2_with fail
 refine C.mono ?_
 rintro e w3 ⟨n',rfl,hd',hb3⟩
 obtain rfl:=hd'.unique hb HH.out
 obtain⟨PT,hPT⟩:∃PT,bj (ax (q+1 - n') (an ((digs b n' (val X)).map fig))) q=PT:=⟨_,rfl⟩
 rw [hPT]
 replace HB:=aa (bt5 HB.out hb3)
 clear hb3 hd' hPT
 have CL:=dI w3 (HT.out.below HB.out)
 clear C
 go_wp2_with fail
 refine CL.mono ?_
 rintro e w4 ⟨rfl,hb4⟩
 have HBB:=aa (bt5 HB.out hb4)
 clear CL hb4
 go_wp2
 go_ret
 exact⟨rfl,HBB.out⟩

theorem mc (v0:Value)(z0:List Nat)(k q:Int)(w:World)(hT:Tab w)(A0:Arg w v0 z0)(s0:z0.length≤1048576)(_:-9223372036854775808≤k)(_:k≤9223372036854775807)(_:-9223372036854775808≤q)(_:q≤9223372036854775807) :
  Calls Tryz.prog 6 #[v0,.int .i64 k,.int .i64 q] w fun e w'=>e=.returned (.bool true)∧Below w.heap.size w w':=by
 by_cases h:k<2∨36<k
 ·exact jA v0 z0 k q w hT A0 s0 h
 ·obtain⟨b,rfl⟩:∃b:Nat,k=(b:Int):=⟨k.toNat,by omega⟩
  by_cases hq:q<0∨1048576<q
  ·exact kA v0 z0 b q w hT A0 s0 (by omega) (by omega) hq
  ·obtain⟨p,rfl⟩:∃p:Nat,q=(p:Int):=⟨q.toNat,by omega⟩
   exact hC v0 z0 b p w hT A0 s0 (by omega) (by omega) (by omega)
end Go.Proofs.YteehipcoeocojaaGreatDoor
namespace Go.Proofs.YteehipcoeocojaaGreatDoor
open Go.ChangeShapes Go.WideShapes Go.ChangeAt Go.RowKit

def cW:List (String × DataW Unit):=[("math/bits.deBruijn32tab",Rows.laid_math_bits_deBruijn32tab),("math/bits.deBruijn64tab",Rows.laid_math_bits_deBruijn64tab)]

theorem gz:(Rows.laid_math_bits_deBruijn64tab:DataW Unit)=.agg (aE.map fun n=>.lit (.int .u8 ((n:Nat):Int))):=by kernel_rfl

theorem gT {W:World}(h:laidMetH Tryz.prog cW W):Tab W:=by
 rw [MakeChecks.laidMetH_plain _ _ _ (by kernel_rfl)] at h
 obtain⟨ps,⟨_,_,_,_,_,_,_,_,_,_,⟨g,t,cs,fuel,p,q,hg,ht,hv,hd,_,_⟩,_⟩,_,_⟩:=h
 obtain rfl:=Option.some.inj ((show Tryz.prog.globalNamed "math/bits.deBruijn64tab"=some 1 by kernel_rfl).symm.trans hg)
 obtain rfl:=Option.some.inj ((show (Tryz.prog.globals[1]?).map (·.type)=some 147 by kernel_rfl).symm.trans ht)
 obtain⟨xs,m,_,ex,_,hl,hel⟩:=DataW.trod_array Tryz.underlying147 hd
 have c5:Tryz.prog.cellsOf 5=1:=by kernel_rfl
 have hcell:∀r,r<64→W.cell? ⟨1,r,none⟩=some (.int .u8 ((aE.getD r 0:Nat):Int)):=by
  intro r hr
  have hE:=hel r hr
  rw [c5,Nat.mul_one,List.getElem?_eq_getElem (by omega)] at hE
  obtain⟨z,e1,e2,_⟩:=DataW.trod_int Tryz.underlying5 hE
  have hlen:aE.length=64:=by kernel_rfl
  rw [gz] at ex
  have e3:(xs.map (·.1))=aE.map fun n=>.lit (.int .u8 ((n:Nat):Int)):=(DataW.agg.inj (Prod.mk.inj ex).1).symm
  have e4:(xs.map (·.1))[r]?=(aE.map fun n=>(DataW.lit (.int .u8 ((n:Nat):Int)):DataW Unit))[r]?:=by rw [e3]
  rw [List.getElem?_map,List.getElem?_map,List.getElem?_eq_getElem (by omega:r<xs.length),List.getElem?_eq_getElem (by omega:r<aE.length),e2] at e4
  have hz:z=((aE.getD r 0:Nat):Int):=by
   simp only [Option.map_some,Option.some.injEq,DataW.lit.injEq,Lit.int.injEq,true_and] at e4
   rw [e4,List.getD,List.getElem?_eq_getElem (by omega:r<aE.length)];rfl
  rw [World.var?_cell hg hv r,←hz]
  have:cs.toList[r]?=some (.int .u8 z):=by
   have h0:((cs.toList.drop r).take 1)[0]?=some (.int .u8 z):=by rw [e1];rfl
   simpa using h0
  simpa using this
 refine⟨?_,hcell⟩
 have h0:=hcell 0 (by omega)
 rcases Nat.lt_or_ge 1 W.heap.size with h|h
 ·exact h
 ·simp [World.cell?,Array.getElem?_eq_none h] at h0
end Go.Proofs.YteehipcoeocojaaGreatDoor

