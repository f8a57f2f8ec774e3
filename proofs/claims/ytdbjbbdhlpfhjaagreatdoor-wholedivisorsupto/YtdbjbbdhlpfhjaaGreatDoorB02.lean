/- Texts of the claim. -/
import Derived.Test.YtdbjbbdhlpfhjaaGreatDoorB01
import Derived.Laws.AppendOwnNone
import Derived.Deep.CutBlock
import Derived.Deep.DeepCutAuto
import Derived.Maps.AppendAt
import Derived.LoopN
import Derived.Handy
import Derived.Laws.IdiomStrings
import Derived.Lib.AppendZeros
import Derived.Lib.SliceRun
set_option maxRecDepth 100000
set_option maxHeartbeats 1000000
namespace Go.Proofs.YtdbjbbdhlpfhjaaGreatDoor
open Go.RowKit
open Lm
attribute [local go_sem ↓] Go.wp_at_zero Go.wp_at_succ

theorem mt (x k:Nat):((x:Int) / 2 ^ k)=((x / 2 ^ k:Nat):Int):=by
 rw [Int.natCast_ediv,Int.natCast_pow];rfl

theorem oI (x:Nat)(h:x<18446744073709551616):wrap64 (bits BinOp.and IntKind.u64 (x:Int) 1)=((x % 2:Nat):Int):=by
 have:=bits_and_u64_nat x 1 h (by omega)
 rw [show ((1:Nat):Int)=1 from rfl] at this
 rw [this,Nat.and_one_is_mod]
 unfold wrap64
 omega

theorem pB {w:World}{b off:Nat}{X:List Nat}(hc:∀k,k<X.length→w.cell? ⟨b,off+k,none⟩=some (.int .u64 ((X.getD k 0:Nat):Int)))(j:Nat)(u:Value)(hj:(X.map lv)[j]?=some u):w.cell? ((⟨b,off,none⟩:Addr).add j)=some u:=by
 rw [List.getElem?_map] at hj
 have hl:j<X.length:=by
  refine Nat.lt_of_not_le fun h=>?_
  rw [List.getElem?_eq_none h] at hj
  cases hj
 have:=hc j hl
 have e:X.getD j 0=X[j]:=by simp [List.getD,hl]
 rw [List.getElem?_eq_getElem hl] at hj
 cases hj
 have ea:(⟨b,off,none⟩:Addr).add j=⟨b,off+j,none⟩:=by simp [Addr.add]
 rw [ea,this,e];rfl

theorem mc (ao:Option Addr)(cap:Nat)(X:List Nat)(w:World)(hl:aG w ao X)(hX:Limbs X)(hf:X.length≤17592186044416) :
  Calls Tryz.prog 106 #[.slice ao X.length cap] w fun e w'=>(∃v,e=.returned v∧Ans w' w.heap.size v X)∧Below w.heap.size w w':=by
 obtain⟨i0,hi,hz0,hz1,hz2⟩:=info_parts Tryz.infoU
 have ho:w.ownsRow w.heap.size 61 1 (.slice none 0 0) 0 []:=World.ownsRow_nil _ _ _ _
 have key:∀ad:Addr,(∀j u,(X.map lv)[j]?=some u→w.cell? (ad.add j)=some u)→Calls Tryz.prog 106 #[.slice (some ad) X.length cap] w fun e w'=>(∃v,e=.returned v∧Ans w' w.heap.size v X)∧Below w.heap.size w w':=by
  intro ad hn
  have HX:=ac hX
  clear hX hl
  go_enter Tryz.func106,Tryz.ntmps106
  go_wp2_with (at_builtin;refine wpList_append_own _ rfl _ _ 25 rfl w.heap.size 61 i0 (.int .u64 0) 1 8 Tryz.underlying25 hi hz0 hz1 hz2 rfl (by decide) _ _ _ rfl ho ad X.length cap (X.map lv) rfl (by simp) hn (fd _) (by unfold maxLen;omega) (by omega) (Nat.le_refl _) ?_;intro v' w2 hown2 hgrow2 _)
  have HA:Hid (Ans w2 w.heap.size v' X):=by
   rw [Nat.zero_add,List.nil_append] at hown2
   exact⟨hown2,HX.out⟩
  have HB:Hid (Below w.heap.size w w2):=(Below.refl _ _).grown hgrow2 (Nat.le_refl _) (fun k hk=>by cases hk)
  clear hown2 hgrow2 ho hn
  go_wp2
  go_ret
  exact⟨⟨_,rfl,HA.out⟩,HB.out⟩
 rcases hl with h0|⟨b,off,rfl,hc⟩
 ·subst h0
  cases ao with
  | some ad=>exact key ad (fun j u h=>by simp at h)
  | none=>
   clear key ho hi hz0 hz1 hz2 hX
   go_enter Tryz.func106,Tryz.ntmps106
   go_wp2
   go_ret
   exact⟨⟨_,rfl,Ans.nil _ _⟩,Below.refl _ _⟩
 ·exact key _ (pB hc)

theorem gE (v:Value)(X:List Nat)(w:World)(hA:Arg w v X)(hf:X.length≤17592186044416) :
  Calls Tryz.prog 72 #[v] w fun e w'=>(∃v,e=.returned v∧Ans w' w.heap.size v (tr X))∧Below w.heap.size w w':=by
 obtain⟨a1,c1,rfl,hc1,hm1,hl1⟩:=hA.form
 have T1:=eG a1 c1 X w hc1 hm1 hl1
 have l1:=tr_length_le X
 have F:=mc a1 c1 (tr X) w hl1.tr (limbs_tr hA.limbs) (by omega)
 clear hl1 hA
 go_enter Tryz.func72,Tryz.ntmps72
 go_wp2_with fail
 refine T1.mono ?_
 rintro e w2 ⟨rfl,rfl⟩
 clear T1
 go_wp2_with fail
 refine F.mono ?_
 rintro e w3 ⟨⟨v,rfl,ha⟩,hb⟩
 have HA:=ac (And.intro ha hb)
 clear ha hb F
 go_wp2
 go_ret
 exact⟨⟨v,rfl,HA.out.1⟩,HA.out.2⟩

theorem rV (X:List Nat)(q s:Nat)(h:Limbs X)(hs:s<64):val X / 2 ^ (64*q+s) % 2=X.getD q 0 / 2 ^ s % 2:=by
 induction q generalizing X with
 | zero=>
  have h1:=iM X
  have h2:val X % 2 ^ 64=X.getD 0 0:=by
   have:=limb_lt h 0
   rw [show (2:Nat) ^ 64=18446744073709551616 from rfl]
   omega
  rw [Nat.mul_zero,Nat.zero_add,js,js,←h2,Nat.testBit_mod_two_pow]
  simp [hs]
 | succ q ih=>
  have h1:=iM X
  have h3:=limb_lt h 0
  have h2:val X / 2 ^ 64=val X.tail:=by
   rw [show (2:Nat) ^ 64=18446744073709551616 from rfl]
   omega
  have e:64*(q+1)+s=64+(64*q+s):=by omega
  rw [e,Nat.pow_add,←Nat.div_div_eq_div_mul,h2,ih X.tail (qI h),pT]

def dE (x:Nat)(i:Int):Nat:=if i<0 then 0 else x / 2 ^ i.toNat % 2

theorem rU (v:Value)(X:List Nat)(i:Int)(w:World)(hA:Arg w v X)(h1:-9223372036854775808≤i)(h2:i≤9223372036854775807) :
  Calls Tryz.prog 172 #[v,.int .i64 i] w fun e w'=>e=.returned (.int .i64 ((dE (val X) i:Nat):Int))∧w'=w:=by
 by_cases h0:i<0
 ·have e:dE (val X) i=0:=if_pos h0
  rw [e]
  clear hA
  go_enter Tryz.func172,Tryz.ntmps172
  go_wp2
  go_ret
  exact⟨rfl,rfl⟩
 ·obtain⟨n,rfl⟩:∃n:Nat,i=(n:Int):=⟨i.toNat,by omega⟩
  obtain⟨q,s,hq,hs⟩:∃q s:Nat,n=64*q+s∧s<64:=⟨n / 64,n % 64,by omega,by omega⟩
  have e:dE (val X) (n:Int)=X.getD q 0 / 2 ^ s % 2:=by
   unfold dE
   rw [if_neg h0,Int.toNat_natCast,hq]
   exact rV X q s hA.limbs hs
  rw [e]
  have i2:(n:Int) / 64=(q:Int):=by omega
  have i3:(n:Int) % 64=(s:Int):=by omega
  obtain⟨a1,c1,rfl,hc1,hm1,hl1⟩:=hA.form
  have L:=qw a1 c1 X q w hc1 hm1 hl1
  have z:=limb_lt hA.limbs q
  generalize X.getD q 0=d at *
  have HQ:=ac hq
  clear hl1 hA hq e
  go_enter Tryz.func172,Tryz.ntmps172
  go_wp2_with fail
  refine L.mono ?_
  rintro e w2 ⟨rfl,rfl⟩
  clear L
  go_wp2
  go_ret
  refine⟨j7 ?_,rfl⟩
  have hd3:d / 2 ^ s≤d:=Nat.div_le_self _ _
  have:=oI (d / 2 ^ s) (by omega)
  rw [←mt] at this
  rw [this]
end Go.Proofs.YtdbjbbdhlpfhjaaGreatDoor
namespace Go.Proofs.YtdbjbbdhlpfhjaaGreatDoor
namespace Lm

end Lm
end Go.Proofs.YtdbjbbdhlpfhjaaGreatDoor
namespace Go.Proofs.YtdbjbbdhlpfhjaaGreatDoor
open Go.RowKit
open Lm

theorem kP (x:Nat)(w:World)(hx:x<18446744073709551616) :
  Calls Tryz.prog 82 #[.int .u64 x] w fun e w'=>(∃v,e=.returned v∧Ans w' w.heap.size v (tr [x]))∧Below w.heap.size w w':=by
 by_cases h:x=0
 ·subst h
  have hz:(((0:Nat):Int) == 0)=true:=rfl
  go_enter Tryz.func82,Tryz.ntmps82
  go_wp2
  go_ret
  exact⟨⟨_,rfl,Ans.nil _ _⟩,Below.refl _ _⟩
 ·have hz:((x:Int) == 0)=false:=by rw [beq_eq_false_iff_ne];omega
  have e:tr [x]=[x]:=by simp [tr,h]
  rw [e]
  clear e h
  have hb:Blk (w.alloc (.cells #[.int .u64 (x:Int)] 61)) w.heap.size [x]:=by
   unfold Blk;rw [heap_alloc_new];rfl
  have HA:=ac (Ans.of_blk (base:=w.heap.size) (zs:=[x]) (Nat.le_refl _) hb rfl (Nat.le_refl _) (by simp) (by intro y hy;simp at hy;omega))
  clear hb
  go_enter Tryz.func82,Tryz.ntmps82
  go_wp2
  go_ret
  exact⟨⟨_,rfl,HA.out⟩,(Below.refl _ _).alloc (Nat.le_refl _) _⟩
end Go.Proofs.YtdbjbbdhlpfhjaaGreatDoor
namespace Go.Proofs.YtdbjbbdhlpfhjaaGreatDoor
namespace Lm

structure Knuth (U Y y1 u1 q r:Nat):Prop where
 sum:q*y1+r=U
 ge:(U*4294967296+u1) / Y≤q
 few:q≤4294967297
 small:r<4294967296

variable {U Y y1 y0 u1 q r:Nat}

theorem knuth_start (hY:Y=y1*4294967296+y0)(hy1:2147483648≤y1)(hy2:y1<4294967296)(hy0:y0<4294967296)(hu1:u1<4294967296)(hU:U<Y):Knuth U Y y1 u1 (U / y1) (U % y1):=by
 have hd:=Nat.div_add_mod U y1
 have hm:U % y1<y1:=Nat.mod_lt _ (by omega)
 have hs:U / y1*y1+U % y1=U:=by rw [Nat.mul_comm];exact hd
 clear hd
 generalize U / y1=q at *
 generalize U % y1=r at *
 refine⟨hs,?_,?_,by omega⟩
 ·have h1:(U*4294967296+u1) / Y<q+1:=by
   rw [Nat.div_lt_iff_lt_mul (by omega),hY,Nat.add_mul,Nat.mul_add,Nat.one_mul,←Nat.mul_assoc]
   omega
  omega
 ·refine Nat.le_of_not_lt fun h=>?_
  have h2:=Nat.mul_le_mul_right y1 (show 4294967298≤q by omega)
  omega

theorem knuth_mul (hY:Y=y1*4294967296+y0)(h:q*y1+r=U):q*Y+r*4294967296=U*4294967296+q*y0:=by
 rw [hY,Nat.mul_add,←h,Nat.add_mul,←Nat.mul_assoc];omega

theorem knuth_lt (hu1:u1<4294967296)(hU:U<Y):(U*4294967296+u1) / Y<4294967296:=by
 rw [Nat.div_lt_iff_lt_mul (by omega)]
 omega

theorem knuth_down (hY:Y=y1*4294967296+y0)(hu1:u1<4294967296)(hU:U<Y)(k:Knuth U Y y1 u1 q r)
  (hc:4294967296≤q∨r*4294967296+u1<q*y0):1≤q∧(U*4294967296+u1) / Y≤q - 1∧(q - 1)*y1+(r+y1)=U:=by
 have hlt:(U*4294967296+u1) / Y<q:=by
  rcases hc with hc|hc
  ·have h9:=knuth_lt hu1 hU
   revert h9 hc
   generalize (U*4294967296+u1) / Y=z
   clear k hY hU hu1
   intro hc h9
   omega
  ·rw [Nat.div_lt_iff_lt_mul (by omega)]
   have:=knuth_mul hY k.sum
   refine Nat.lt_of_add_lt_add_right (n:=r*4294967296) ?_
   rw [this,Nat.add_assoc,Nat.add_comm u1]
   exact Nat.add_lt_add_left hc _
 have hge:1≤q:=Nat.lt_of_le_of_lt (Nat.zero_le _) hlt
 refine⟨hge,Nat.le_sub_one_of_lt hlt,?_⟩
 have hq:q - 1+1=q:=by omega
 have:=k.sum
 rw [←hq,Nat.add_mul,Nat.one_mul] at this
 omega

theorem knuth_stop (hY:Y=y1*4294967296+y0)(k:Knuth U Y y1 u1 q r)(hy:0<Y)(h:q*y0≤r*4294967296+u1):q=(U*4294967296+u1) / Y:=by
 have:=knuth_mul hY k.sum
 have h2:q≤(U*4294967296+u1) / Y:=by
  rw [Nat.le_div_iff_mul_le hy];omega
 exact Nat.le_antisymm h2 k.ge

theorem knuth_break (hY:Y=y1*4294967296+y0)(hy:0<Y)(hy0:y0<4294967296)(hs:q*y1+r=U)(hge:(U*4294967296+u1) / Y≤q)(hq:q≤4294967296)(hr:4294967296≤r) :
  q=(U*4294967296+u1) / Y:=by
 have:=knuth_mul hY hs
 have h1:q*y0≤4294967296*4294967296:=Nat.mul_le_mul hq (by omega)
 have h2:q≤(U*4294967296+u1) / Y:=by
  rw [Nat.le_div_iff_mul_le hy];omega
 exact Nat.le_antisymm h2 hge

theorem knuth_key (V t Y N u0 q1 q0 r1 r0:Nat)(hV:V*t=N*4294967296+u0)(d1:Y*q1+r1=N)(d0:Y*q0+r0=r1*4294967296+u0) :
  V*t=Y*(q1*4294967296+q0)+r0:=by
 rw [hV,←d1,Nat.mul_add Y,←Nat.mul_assoc]
 omega

theorem knuth_whole (V y s N u0 q1 q0:Nat)(hy:0<y)(hV:V*2 ^ s=N*4294967296+u0)
  (h1:q1=N / (y*2 ^ s)) (h0:q0=(N % (y*2 ^ s)*4294967296+u0) / (y*2 ^ s)) :
  q1*4294967296+q0=V / y∧(N % (y*2 ^ s)*4294967296+u0) % (y*2 ^ s) / 2 ^ s=V % y:=by
 have hp:=Nat.two_pow_pos s
 have hY:0<y*2 ^ s:=Nat.mul_pos hy hp
 have d1:=Nat.div_add_mod N (y*2 ^ s)
 have d0:=Nat.div_add_mod (N % (y*2 ^ s)*4294967296+u0) (y*2 ^ s)
 have l0:=Nat.mod_lt (N % (y*2 ^ s)*4294967296+u0) hY
 rw [←h1] at d1
 rw [←h0] at d0
 have key:=knuth_key V (2 ^ s) (y*2 ^ s) N u0 q1 q0 _ _ hV d1 d0
 have hq:V*2 ^ s / (y*2 ^ s)=q1*4294967296+q0:=by
  rw [key,Nat.mul_add_div hY,Nat.div_eq_of_lt l0,Nat.add_zero]
 have hr:V*2 ^ s % (y*2 ^ s)=(N % (y*2 ^ s)*4294967296+u0) % (y*2 ^ s):=by
  rw [key,Nat.mul_add_mod,Nat.mod_mod]
 rw [Nat.mul_div_mul_right _ _ hp] at hq
 rw [Nat.mul_mod_mul_right] at hr
 exact⟨hq.symm,by rw [←hr,Nat.mul_div_cancel _ hp]⟩

theorem shift_whole (hi lo s:Nat)(hs:s≤64) :
  (hi*18446744073709551616+lo)*2 ^ s=((hi*2 ^ s+lo / 2 ^ (64 - s))*4294967296+lo*2 ^ s % 18446744073709551616 / 4294967296)*4294967296+lo*2 ^ s % 18446744073709551616 % 4294967296:=by
 rw [shr_mul lo s hs,Nat.add_mul,Nat.mul_right_comm]
 generalize hi*2 ^ s=a
 generalize lo*2 ^ s=b
 omega

theorem norm_y (y:Nat)(h0:0<y)(hy:y<18446744073709551616):1≤Lib.bitLen y∧Lib.bitLen y≤64∧9223372036854775808≤y*2 ^ (64 - Lib.bitLen y)∧y*2 ^ (64 - Lib.bitLen y)<18446744073709551616:=by
 obtain⟨h1,h2,h3⟩:=Lib.bitLenAux_bounds 64 y hy (by omega)
 have h4:=Lib.bitLen_le y 64 (by omega) hy
 have h1':1≤Lib.bitLen y:=h1
 have h2':2 ^ (Lib.bitLen y - 1)≤y:=h2
 have h3':y<2 ^ Lib.bitLen y:=h3
 generalize Lib.bitLen y=k at *
 refine⟨h1',h4,?_,?_⟩
 ·have:=Nat.mul_le_mul_right (2 ^ (64 - k)) h2'
  rw [←Nat.pow_add,show k - 1+(64 - k)=63 by omega] at this
  exact this
 ·have:=(Nat.mul_lt_mul_right (Nat.two_pow_pos (64 - k))).2 h3'
  rw [←Nat.pow_add,show k+(64 - k)=64 by omega] at this
  exact this

end Lm
end Go.Proofs.YtdbjbbdhlpfhjaaGreatDoor
namespace Go.Proofs.YtdbjbbdhlpfhjaaGreatDoor
open Go.RowKit
open Lm

theorem lS (lo y:Nat)(w:World)(hy:y<18446744073709551616)(h0:0<y)(hlo:lo<18446744073709551616) :
  Calls Tryz.prog 204 #[.int .u64 0,.int .u64 lo,.int .u64 y] w fun e w'=>e=.returned (.tuple #[.int .u64 ((lo / y:Nat):Int),.int .u64 ((lo % y:Nat):Int)])∧aD w w':=by
 have hz:((y:Int) == 0)=false:=by rw [beq_eq_false_iff_ne];omega
 have hz2:decide ((y:Int)≤0)=false:=by simp;omega
 have e1:(lo:Int) / (y:Int)=((lo / y:Nat):Int):=(Int.natCast_ediv _ _).symm
 have e2:(lo:Int) % (y:Int)=((lo % y:Nat):Int):=(Int.natCast_emod _ _).symm
 have e3:(lo:Int).tdiv (y:Int)=((lo / y:Nat):Int):=rfl
 have e4:(lo:Int).tmod (y:Int)=((lo % y:Nat):Int):=rfl
 have b1:lo / y<18446744073709551616:=Nat.lt_of_le_of_lt (Nat.div_le_self _ _) hlo
 have b2:lo % y<18446744073709551616:=Nat.lt_of_le_of_lt (Nat.mod_le _ _) hlo
 generalize lo / y=a at *
 generalize lo % y=b at *
 have h1:(1:Int)≤(y:Int):=by omega
 go_enter Tryz.func204,Tryz.ntmps204
 go_wp2
 go_quiet (fail)
 go_wp2
 go_ret2
 exact⟨rfl,(aD.refl _).drewN _⟩

theorem fo (x s r:Nat)(h:x*2 ^ s % 18446744073709551616=r):IntKind.u64.wrap ((x:Int)*2 ^ s)=(r:Int):=by
 rw [IntKind.wrap_u64]
 have:((x:Int)*2 ^ s)=((x*2 ^ s:Nat):Int):=by rw [Int.natCast_mul,Int.natCast_pow];rfl
 rw [this];omega

theorem jv (a:Nat)(ha:a<18446744073709551616):bits BinOp.and IntKind.u64 (a:Int) 4294967295=((a % 4294967296:Nat):Int):=by
 have h:=bits_and_u64_nat a 4294967295 ha (by omega)
 rw [show a &&& 4294967295=a % 4294967296 from Nat.and_two_pow_sub_one_eq_mod a 32] at h
 exact h

theorem iH (h s l U:Nat)(hs:s≤64)(hl:l<2 ^ s)(hh:h*2 ^ s<18446744073709551616)(hU:U=h*2 ^ s+l):bits BinOp.or IntKind.u64 ((h*2 ^ s:Nat):Int) (l:Int)=(U:Int):=by
 have hll:l<18446744073709551616:=Nat.lt_of_lt_of_le hl (by rw [show (18446744073709551616:Nat)=2 ^ 64 from rfl];exact Nat.pow_le_pow_right (by omega) hs)
 rw [bits_or_u64_nat _ _ hh hll,hU,Nat.mul_comm h,Nat.two_pow_add_eq_or_of_lt hl]

theorem jP (a b y q r:Nat)(hd:q*y+r=a*4294967296+b)(hr:r<18446744073709551616) :
  ∃a1 a2 a3:Nat,a1<18446744073709551616∧a2<18446744073709551616∧a3<18446744073709551616∧IntKind.u64.wrap ((a:Int)*4294967296)=(a1:Int)∧IntKind.u64.wrap ((a1:Int)+(b:Int))=(a2:Int) ∧
   IntKind.u64.wrap ((q:Int)*(y:Int))=(a3:Int)∧IntKind.u64.wrap ((a2:Int) - (a3:Int))=(r:Int):=by
 refine⟨a*4294967296 % 18446744073709551616,(a*4294967296 % 18446744073709551616+b) % 18446744073709551616,q*y % 18446744073709551616,Nat.mod_lt _ (by omega),Nat.mod_lt _ (by omega),Nat.mod_lt _ (by omega),?_,?_,?_,?_⟩
 ·rw [IntKind.wrap_u64];omega
 ·rw [IntKind.wrap_u64];omega
 ·rw [IntKind.wrap_u64,←Int.natCast_mul];omega
 ·rw [IntKind.wrap_u64]
  omega

theorem kZ (hi lo y:Nat)(w:World)(hy:y<18446744073709551616)(hhi0:0<hi)(hhi:hi<y)(hlo:lo<18446744073709551616) :
  Calls Tryz.prog 204 #[.int .u64 hi,.int .u64 lo,.int .u64 y] w fun e w'=>e=.returned (.tuple #[.int .u64 (((hi*18446744073709551616+lo) / y:Nat):Int),.int .u64 (((hi*18446744073709551616+lo) % y:Nat):Int)])∧aD w w':=by
 have hz:((y:Int) == 0)=false:=by rw [beq_eq_false_iff_ne];omega
 have hz1:((hi:Int) == 0)=false:=by rw [beq_eq_false_iff_ne];omega
 have hz2:decide ((y:Int)≤(hi:Int))=false:=by simp;omega
 have HLZ:=Tryz.bits_LeadingZeros64 (y:Int) w (by omega) (by omega)
 rw [Int.toNat_natCast] at HLZ
 obtain⟨n1,n2,n3,n4⟩:=norm_y y (by omega) hy
 obtain⟨s,hs⟩:∃s,s=64 - Lib.bitLen y:=⟨_,rfl⟩
 have hsI:(64:Int) - (Lib.bitLen y:Int)=(s:Int):=by omega
 rw [hsI] at HLZ
 rw [←hs] at n3 n4
 have hs63:s≤63:=by omega
 clear hs hsI n1 n2
 have hp:=Nat.two_pow_pos s
 have hhy:(hi+1)*2 ^ s≤y*2 ^ s:=Nat.mul_le_mul_right _ hhi
 rw [Nat.add_mul,Nat.one_mul] at hhy
 have hl1:=shr_lt lo s (by omega) hlo
 have HVV:=ac (shift_whole hi lo s (by omega))
 have r1:=fo y s (y*2 ^ s) (Nat.mod_eq_of_lt n4)
 have r4:=fo hi s (hi*2 ^ s) (Nat.mod_eq_of_lt (by omega))
 have r7:=iH hi s (lo / 2 ^ (64 - s)) (hi*2 ^ s+lo / 2 ^ (64 - s)) (by omega) hl1 (by omega) rfl
 have r8:=fo lo s (lo*2 ^ s % 18446744073709551616) rfl
 have r6:=walk_shr lo (64 - s)
 have HK:=ac (fun N u0 q1 q0=>knuth_whole (hi*18446744073709551616+lo) y s N u0 q1 q0 (by omega))
 have hUY:hi*2 ^ s+lo / 2 ^ (64 - s)<y*2 ^ s:=by omega
 have hu10:lo*2 ^ s % 18446744073709551616<18446744073709551616:=Nat.mod_lt _ (by omega)
 have r5:(64:Int) - (s:Int)=((64 - s:Nat):Int):=by omega
 have ht:64 - s≤64:=by omega
 have ht0:1≤64 - s:=by omega
 generalize lo*2 ^ s % 18446744073709551616=u10 at *
 generalize hU:hi*2 ^ s+lo / 2 ^ (64 - s)=U at *
 generalize lo / 2 ^ (64 - s)=l1 at *
 generalize 64 - s=t at *
 have hh1:hi*2 ^ s<18446744073709551616:=by omega
 generalize hi*2 ^ s=h1 at *
 have r3:=jv (y*2 ^ s) n4
 have r10:=jv u10 hu10
 generalize y*2 ^ s=Y at *
 have r2:(Y:Int) / 4294967296=((Y / 4294967296:Nat):Int):=by omega
 have r9:(u10:Int) / 4294967296=((u10 / 4294967296:Nat):Int):=by omega
 have hY:Y=Y / 4294967296*4294967296+Y % 4294967296:=by omega
 have k1:2147483648≤Y / 4294967296:=by omega
 have k2:Y / 4294967296<4294967296:=by omega
 have k3:Y % 4294967296<4294967296:=by omega
 have k4:u10 / 4294967296<4294967296:=by omega
 have k5:u10 % 4294967296<4294967296:=by omega
 generalize Y / 4294967296=y1 at *
 generalize Y % 4294967296=y0 at *
 generalize u10 / 4294967296=u1 at *
 generalize u10 % 4294967296=u0 at *
 have HY:=ac hY
 have hl1W:l1<18446744073709551616:=by omega
 have HU:Hid (h1+l1=U):=ac hU
 clear hU hY hl1 hp hhy
 have KS:=ac (knuth_start HY.out k1 k2 k3 k4 hUY)
 have r11:(U:Int) / (y1:Int)=((U / y1:Nat):Int):=(Int.natCast_ediv _ _).symm
 have r12:((U / y1:Nat):Int)*(y1:Int)=((U / y1*y1:Nat):Int):=(Int.natCast_mul _ _).symm
 have d1:U / y1*y1+U % y1=U:=KS.out.sum
 have hUW:U<18446744073709551616:=by omega
 have b1:U / y1<18446744073709551616:=Nat.lt_of_le_of_lt (Nat.div_le_self _ _) hUW
 generalize U / y1*y1=p1 at *
 generalize U / y1=q at *
 generalize U % y1=r at *
 have r13:(U:Int) - (p1:Int)=(r:Int):=by omega
 have hp1:p1≤U:=by omega
 have hy1p:(1:Int)≤(y1:Int):=by omega
 have D1:=ac d1
 clear d1
 go_enter Tryz.func204,Tryz.ntmps204
 go_wp2_with fail
 refine HLZ.mono ?_
 rintro e w1 ⟨rfl,rfl⟩
 clear HLZ
 go_upto_block 0 with fail
 clear r1 r2 r3 r4 r5 r6 r7 r8 r9 r10 r11 r12 r13 hz hz1 hz2
 go_cut [15,16] from 67 to 85 (fun a _ wc=>a=.int .u64 (((U*4294967296+u1) / Y:Nat):Int)∧wc=w1)
 case first=>
  go_wp2_with fail
  go_loop [15,16] (fun a b=>∃q r:Nat,a=.int .u64 q∧b=.int .u64 r∧Knuth U Y y1 u1 q r) (fun a _=>(intOf a).toNat)
  case atStart=>exact⟨_,_,rfl,rfl,KS.out⟩
  case round=>
   obtain⟨q,r,rfl,rfl,K⟩:=hrel
   have hq:=K.few
   have hr:=K.small
   obtain⟨r',hr'⟩:∃r',r'=r+y1:=⟨_,rfl⟩
   have hrI:(r:Int)+(y1:Int)=(r':Int):=by omega
   obtain⟨m0,hm0⟩:∃m0,m0=4294967296*r:=⟨_,rfl⟩
   have hmI0:(4294967296:Int)*(r:Int)=(m0:Int):=by omega
   obtain⟨m,hm⟩:∃m,m=m0+u1:=⟨_,rfl⟩
   have hmI:(m0:Int)+(u1:Int)=(m:Int):=by omega
   have hmW:m<18446744073709551616:=by omega
   have hmW0:m0<18446744073709551616:=by omega
   have hrW:r'<18446744073709551616:=by omega
   have HM:=ac (show m=r*4294967296+u1 by omega)
   have HR:=ac hr'
   have hrb:4294967296≤r'∨r'<4294967296:=by omega
   clear hr' hm0 hm
   by_cases c1:4294967296≤q
   ·obtain⟨g1,g2,g3⟩:=knuth_down HY.out k4 hUY K (.inl c1)
    rw [←HR.out] at g3
    have G2:=ac g2
    have G3:=ac g3
    have i1:(4294967296:Int)≤(q:Int):=by omega
    have i2:(q:Int)≤4294967297:=by omega
    rcases hrb with c2|c2
    ·have HQ:=ac (knuth_break HY.out (by omega) k3 G3.out G2.out (by omega) c2)
     have i4:(4294967296:Int)≤(r':Int):=by omega
     clear g1 g2 g3 K c1 c2 hq hr
     go_wp2
     go_meet
     case rel=>exact⟨by rw [←HQ.out];go_num,rfl⟩
    ·have i4:(r':Int)<4294967296:=by omega
     have hb2:decide ((4294967296:Int)≤(r':Int))=false:=decide_eq_false (by omega)
     clear g1 g2 g3 K c1 c2 hq hr
     go_wp2
     go_round
     case rel=>exact⟨q - 1,r',by go_num,rfl,G3.out,G2.out,by omega,by omega⟩
     case measure=>simp [intOf];omega
   ·obtain⟨p,hp⟩:∃p,p=q*y0:=⟨_,rfl⟩
    have hpI:(q:Int)*(y0:Int)=(p:Int):=by rw [hp];exact (Int.natCast_mul _ _).symm
    have hpW:p<18446744073709551616:=by
     rw [hp]
     have:=Nat.mul_le_mul (show q≤4294967295 by omega) (show y0≤4294967295 by omega)
     omega
    have HP:=ac hp
    clear hp
    have i1:(q:Int)<4294967296:=by omega
    have hb1:decide ((4294967296:Int)≤(q:Int))=false:=decide_eq_false (by omega)
    by_cases c3:m<p
    ·obtain⟨g1,g2,g3⟩:=knuth_down HY.out k4 hUY K (.inr (by rw [←HP.out,←HM.out];exact c3))
     rw [←HR.out] at g3
     have G2:=ac g2
     have G3:=ac g3
     have i2:(m:Int)<(p:Int):=by omega
     have i5:(1:Int)≤(q:Int):=by omega
     rcases hrb with c2|c2
     ·have HQ:=ac (knuth_break HY.out (by omega) k3 G3.out G2.out (by omega) c2)
      have i4:(4294967296:Int)≤(r':Int):=by omega
      clear g1 g2 g3 K c1 c2 c3 hq hr
      go_wp2
      go_meet
      case rel=>exact⟨by rw [←HQ.out];go_num,rfl⟩
     ·have i4:(r':Int)<4294967296:=by omega
      have hb2:decide ((4294967296:Int)≤(r':Int))=false:=decide_eq_false (by omega)
      clear g1 g2 g3 K c1 c2 c3 hq hr
      go_wp2
      go_round
      case rel=>exact⟨q - 1,r',by go_num,rfl,G3.out,G2.out,by omega,by omega⟩
      case measure=>simp [intOf];omega
    ·have HQ:=ac (knuth_stop HY.out K (by omega) (by rw [←HP.out,←HM.out];omega))
     have i2:(p:Int)≤(m:Int):=by omega
     have hb3:decide ((m:Int)<(p:Int))=false:=decide_eq_false (by omega)
     have hb4:decide (m<p)=false:=decide_eq_false c3
     clear K c1 c3 hq hr hrb
     go_wp2
     go_meet
     case rel=>exact⟨by rw [←HQ.out],rfl⟩
 case rest=>
  obtain⟨rfl,hwc⟩:=hcut
  have hwc':=hwc.symm
  subst hwc'
  clear hwc
  have hRY:(U*4294967296+u1) % Y<Y:=Nat.mod_lt _ (by omega)
  have hQ1b:=knuth_lt k4 hUY
  have hd1:=Nat.div_add_mod (U*4294967296+u1) Y
  rw [Nat.mul_comm] at hd1
  obtain⟨R1,hR1⟩:∃R1,R1=(U*4294967296+u1) % Y:=⟨_,rfl⟩
  obtain⟨Q1,hQ1⟩:∃Q1,Q1=(U*4294967296+u1) / Y:=⟨_,rfl⟩
  rw [←hR1] at hRY hd1
  rw [←hQ1] at hd1 hQ1b ⊢
  obtain⟨a1,a2,a3,t1,t2,t3,s1,s2,s3,s4⟩:=jP U u1 Y Q1 R1 hd1 (by omega)
  have HR1:=ac hR1
  have HQ1:=ac hQ1
  clear hR1 hQ1 hd1 KS D1
  have KS:=ac (knuth_start HY.out k1 k2 k3 k5 hRY)
  have r11:(R1:Int) / (y1:Int)=((R1 / y1:Nat):Int):=(Int.natCast_ediv _ _).symm
  have r12:((R1 / y1:Nat):Int)*(y1:Int)=((R1 / y1*y1:Nat):Int):=(Int.natCast_mul _ _).symm
  have d1:R1 / y1*y1+R1 % y1=R1:=KS.out.sum
  have hRW:R1<18446744073709551616:=by omega
  have b1':R1 / y1<18446744073709551616:=Nat.lt_of_le_of_lt (Nat.div_le_self _ _) hRW
  clear b1 hp1
  generalize R1 / y1*y1=p1' at *
  generalize R1 / y1=q' at *
  generalize R1 % y1=r' at *
  have r13:(R1:Int) - (p1':Int)=(r':Int):=by omega
  have hp1':p1'≤R1:=by omega
  clear d1
  go_upto_block 2 with fail
  clear r11 r12 r13 s1 s2 s3 s4 t1 t2 t3
  go_cut [18,16] from 102 to 120 (fun a _ wc=>a=.int .u64 (((R1*4294967296+u0) / Y:Nat):Int)∧wc=w1)
  case first=>
   go_wp2_with fail
   go_loop [18,16] (fun a b=>∃q r:Nat,a=.int .u64 q∧b=.int .u64 r∧Knuth R1 Y y1 u0 q r) (fun a _=>(intOf a).toNat)
   case atStart=>exact⟨_,_,rfl,rfl,KS.out⟩
   case round=>
    obtain⟨q,r,rfl,rfl,K⟩:=hrel
    have hq:=K.few
    have hr:=K.small
    obtain⟨r',hr'⟩:∃r',r'=r+y1:=⟨_,rfl⟩
    have hrI:(r:Int)+(y1:Int)=(r':Int):=by omega
    obtain⟨m0,hm0⟩:∃m0,m0=4294967296*r:=⟨_,rfl⟩
    have hmI0:(4294967296:Int)*(r:Int)=(m0:Int):=by omega
    obtain⟨m,hm⟩:∃m,m=m0+u0:=⟨_,rfl⟩
    have hmI:(m0:Int)+(u0:Int)=(m:Int):=by omega
    have hmW:m<18446744073709551616:=by omega
    have hmW0:m0<18446744073709551616:=by omega
    have hrW:r'<18446744073709551616:=by omega
    have HM:=ac (show m=r*4294967296+u0 by omega)
    have HR:=ac hr'
    have hrb:4294967296≤r'∨r'<4294967296:=by omega
    clear hr' hm0 hm
    by_cases c1:4294967296≤q
    ·obtain⟨g1,g2,g3⟩:=knuth_down HY.out k5 hRY K (.inl c1)
     rw [←HR.out] at g3
     have G2:=ac g2
     have G3:=ac g3
     have i1:(4294967296:Int)≤(q:Int):=by omega
     have i2:(q:Int)≤4294967297:=by omega
     rcases hrb with c2|c2
     ·have HQ:=ac (knuth_break HY.out (by omega) k3 G3.out G2.out (by omega) c2)
      have i4:(4294967296:Int)≤(r':Int):=by omega
      clear g1 g2 g3 K c1 c2 hq hr
      go_wp2
      go_meet
      case rel=>exact⟨by rw [←HQ.out];go_num,rfl⟩
     ·have i4:(r':Int)<4294967296:=by omega
      have hb2:decide ((4294967296:Int)≤(r':Int))=false:=decide_eq_false (by omega)
      clear g1 g2 g3 K c1 c2 hq hr
      go_wp2
      go_round
      case rel=>exact⟨q - 1,r',by go_num,rfl,G3.out,G2.out,by omega,by omega⟩
      case measure=>simp [intOf];omega
    ·obtain⟨p,hp⟩:∃p,p=q*y0:=⟨_,rfl⟩
     have hpI:(q:Int)*(y0:Int)=(p:Int):=by rw [hp];exact (Int.natCast_mul _ _).symm
     have hpW:p<18446744073709551616:=by
      rw [hp]
      have:=Nat.mul_le_mul (show q≤4294967295 by omega) (show y0≤4294967295 by omega)
      omega
     have HP:=ac hp
     clear hp
     have i1:(q:Int)<4294967296:=by omega
     have hb1:decide ((4294967296:Int)≤(q:Int))=false:=decide_eq_false (by omega)
     by_cases c3:m<p
     ·obtain⟨g1,g2,g3⟩:=knuth_down HY.out k5 hRY K (.inr (by rw [←HP.out,←HM.out];exact c3))
      rw [←HR.out] at g3
      have G2:=ac g2
      have G3:=ac g3
      have i2:(m:Int)<(p:Int):=by omega
      have i5:(1:Int)≤(q:Int):=by omega
      rcases hrb with c2|c2
      ·have HQ:=ac (knuth_break HY.out (by omega) k3 G3.out G2.out (by omega) c2)
       have i4:(4294967296:Int)≤(r':Int):=by omega
       clear g1 g2 g3 K c1 c2 c3 hq hr
       go_wp2
       go_meet
       case rel=>exact⟨by rw [←HQ.out];go_num,rfl⟩
      ·have i4:(r':Int)<4294967296:=by omega
       have hb2:decide ((4294967296:Int)≤(r':Int))=false:=decide_eq_false (by omega)
       clear g1 g2 g3 K c1 c2 c3 hq hr
       go_wp2
       go_round
       case rel=>exact⟨q - 1,r',by go_num,rfl,G3.out,G2.out,by omega,by omega⟩
       case measure=>simp [intOf];omega
     ·have HQ:=ac (knuth_stop HY.out K (by omega) (by rw [←HP.out,←HM.out];omega))
      have i2:(p:Int)≤(m:Int):=by omega
      have hb3:decide ((m:Int)<(p:Int))=false:=decide_eq_false (by omega)
      have hb4:decide (m<p)=false:=decide_eq_false c3
      clear K c1 c3 hq hr hrb
      go_wp2
      go_meet
      case rel=>exact⟨by rw [←HQ.out],rfl⟩
  case rest=>
   obtain⟨rfl,rfl⟩:=hcut
   have hRY0:(R1*4294967296+u0) % Y<Y:=Nat.mod_lt _ (by omega)
   have hQ0b:=knuth_lt k5 hRY
   have hd1:=Nat.div_add_mod (R1*4294967296+u0) Y
   rw [Nat.mul_comm] at hd1
   obtain⟨R0,hR0⟩:∃R0,R0=(R1*4294967296+u0) % Y:=⟨_,rfl⟩
   obtain⟨Q0,hQ0⟩:∃Q0,Q0=(R1*4294967296+u0) / Y:=⟨_,rfl⟩
   rw [←hR0] at hRY0 hd1
   rw [←hQ0] at hd1 hQ0b ⊢
   obtain⟨a1,a2,a3,t1,t2,t3,s1,s2,s3,s4⟩:=jP R1 u0 Y Q0 R0 hd1 (by omega)
   have hfin:=HK.out (U*4294967296+u1) u0 Q1 Q0 HVV.out HQ1.out (by rw [←HR1.out];exact hQ0)
   rw [←HR1.out,←hR0] at hfin
   have f1:(Q1:Int)*4294967296+(Q0:Int)=(((hi*18446744073709551616+lo) / y:Nat):Int):=by rw [←hfin.1];omega
   have f2:(R0:Int) / 2 ^ s=(((hi*18446744073709551616+lo) % y:Nat):Int):=by rw [←hfin.2];exact walk_shr R0 s
   have F1:=ac f1
   have F2:=ac f2
   have hQQ:((Q1:Int)*4294967296+(Q0:Int))<18446744073709551616:=by omega
   clear hR0 hQ0 hd1 KS hfin HK HVV f1 f2
   go_wp2
   go_ret2
   rw [←F1.out,←F2.out]
   exact⟨rfl,aD.refl _⟩

def bW (zs:List Nat):List Nat:=10855845 :: 10855845 :: (zs ++ [10855845,10855845])

theorem jD (zs:List Nat):(bW zs).length=zs.length+4:=by simp [bW]

theorem jC (zs:List Nat)(k:Nat)(h:k<zs.length):(bW zs).getD (k+2) 0=zs.getD k 0:=by
 simp [bW,List.getD,h,List.getElem?_append_left h]

theorem m9 (zs:List Nat)(k:Nat)(h:k<2):(bW zs).getD k 0=10855845:=by
 match k,h with
 | 0,_=>rfl
 | 1,_=>rfl

theorem rx (zs:List Nat)(k:Nat)(h1:zs.length+2≤k)(h2:k<zs.length+4):(bW zs).getD k 0=10855845:=by
 obtain⟨j,rfl⟩:∃j,k=zs.length+j+2:=⟨k - 2 - zs.length,by omega⟩
 match j,show j<2 by omega with
 | 0,_=>simp [bW,List.getD]
 | 1,_=>simp [bW,List.getD]

theorem gS (a b:List Nat)(x y:Nat):(a ++ x :: b).set a.length y=(a ++ [y]) ++ b:=by
 simp

def cT (m k:Nat):List Nat:=List.replicate k 10855845 ++ List.replicate (m - k) 0

theorem qU (m k:Nat)(h:k<m):(cT m k).set k 10855845=cT m (k+1):=by
 unfold cT
 have e:m - k=(m - (k+1))+1:=by omega
 rw [e,List.replicate_succ]
 have:=gS (List.replicate k 10855845) (List.replicate (m - (k+1)) 0) 0 10855845
 rw [List.length_replicate] at this
 rw [this,←List.replicate_succ']

theorem qu (m k:Nat)(h:k≤m):(cT m k).length=m:=by
 simp [cT];omega

def cD (zs:List Nat)(k:Nat):List Nat:=10855845 :: 10855845 :: (zs.take k ++ List.replicate (zs.length - k+2) 10855845)

theorem rn (zs:List Nat)(k:Nat)(h:k<zs.length):(cD zs k).set (k+2) (zs.getD k 0)=cD zs (k+1):=by
 unfold cD
 have e:zs.length - k+2=(zs.length - (k+1)+2)+1:=by omega
 rw [e,List.replicate_succ]
 have:=gS (zs.take k) (List.replicate (zs.length - (k+1)+2) 10855845) 10855845 (zs.getD k 0)
 have el:(zs.take k).length=k:=by simp;omega
 rw [el] at this
 simp only [List.set_cons_succ]
 rw [this,take_snoc zs k h]

theorem pM (zs:List Nat)(k:Nat)(h:k≤zs.length):(cD zs k).length=zs.length+4:=by
 simp [cD];omega

theorem oG (zs:List Nat):cD zs 0=cT (zs.length+4) (zs.length+4):=by
 simp [cD,cT,List.replicate_succ]

theorem ol (zs:List Nat):cD zs zs.length=bW zs:=by
 simp [cD,bW,List.replicate_succ]

theorem oz (v:Value)(zs:List Nat)(w:World)(h:Arg w v zs)(hf:zs.length≤35184372088000) :
  Calls Tryz.prog 37 #[v] w fun e w'=>e=.returned (.tuple #[.slice (some ⟨w.heap.size,0,none⟩) (zs.length+4) (zs.length+4),.slice (some ⟨w.heap.size,2,none⟩) zs.length (zs.length+2)])∧Blk w' w.heap.size (bW zs)∧Below w.heap.size w w':=by
 obtain⟨ao,cap,rfl,hcap,hmax,L1⟩:=h.form
 obtain⟨i0,hi,hz0,hz1,hz2⟩:=info_parts Tryz.infoU
 clear h
 go_enter Tryz.func37,Tryz.ntmps37
 go_wp2_with (at_make;refine wpList_make_full _ rfl _ _ 22 rfl w.heap.size 61 i0 (.int .u64 0) 1 Tryz.underlying22 hi hz0 hz1 .i64 .i64 _ _ (zs.length+4) rfl rfl (by omega) (by omega) (by rw [hz2];omega) (by unfold maxLen;omega) (Nat.le_refl _) ?_;intro w1 hown hgrow)
 have hb1:=Blk.made hown
 have hbel:Below w.heap.size w w1:=(Below.refl _ _).grown hgrow (Nat.le_refl _) (fun k hk=>by cases hk)
 clear hown hgrow hi hz0 hz1 hz2
 go_loopw [14] (fun i wr=>∃k:Nat,k≤zs.length+4∧i=.int .i64 k∧Blk wr w.heap.size (cT (zs.length+4) k)∧Below w.heap.size w wr) (fun i _=>zs.length+4 - (intOf i).toNat)
 case atStart=>exact⟨0,Nat.zero_le _,rfl,hb1,hbel⟩
 case round=>
  obtain⟨k,hk,rfl,hblk,hbl⟩:=hrel
  clear hb1 hbel
  by_cases hkl:k<zs.length+4
  ·have hfr:=hblk.free k
   have hco:=hblk.cell k (by rw [qu _ _ hk];exact hkl)
   generalize (cT (zs.length+4) k).getD k 0=o at *
   have HB:=ac (hblk.set k 10855845)
   have HL:=ac (hbl.setCell (p:=⟨w.heap.size,k,none⟩) (Nat.le_refl _) (.int .u64 10855845))
   clear hblk hbl L1
   go_wp2
   go_roundw
   case rel=>exact⟨k+1,by omega,by go_num,by rw [←qU _ _ hkl];exact HB.out,HL.out⟩
   case measure=>simp [intOf];omega
  ·have ek:k=zs.length+4:=by omega
   subst ek
   have HB:=ac hblk
   have HL:=ac hbl
   clear hblk hbl
   go_wp2
   go_loopw [23] (fun i wr=>∃k:Nat,k≤zs.length∧i=.int .i64 k∧Blk wr w.heap.size (cD zs k)∧Below w.heap.size w wr) (fun i _=>zs.length - (intOf i).toNat)
   case atStart=>exact⟨0,Nat.zero_le _,rfl,by rw [oG];exact HB.out,HL.out⟩
   case round=>
    obtain⟨k,hk,rfl,hblk,hbl⟩:=hrel
    clear HB HL
    by_cases hkl':k<zs.length
    ·rcases L1.below hbl with h0|⟨b,off,rfl,hcell⟩
     ·simp [h0] at hkl'
     ·have hck:=hcell k hkl'
      have hbw:=aG.block (L1:aG w (some ⟨b,off,none⟩) zs) (by omega)
      have hne1:¬b=w.heap.size:=by omega
      have hne2:¬w.heap.size=b:=by omega
      have hfr:=hblk.free (k+2)
      have hco:=hblk.cell (k+2) (by rw [pM _ _ hk];omega)
      generalize (cD zs k).getD (k+2) 0=o at *
      have HS:=ac (rn zs k hkl')
      have HB:=ac (fun z=>hblk.set (k+2) z)
      have HL:=ac hbl
      generalize zs.getD k 0=z at *
      clear hcell hblk hbl L1
      go_wp2
      go_roundw
      case rel=>exact⟨k+1,by omega,by go_num,by rw [←HS.out];exact HB.out z,HL.out.setCell (Nat.le_refl _) _⟩
      case measure=>simp [intOf];omega
    ·have ek:k=zs.length:=by omega
     subst ek
     rw [ol] at hblk
     have HB:=ac hblk
     have HL:=ac hbl
     have hi1:(0:Int)≤(zs.length:Int):=by omega
     clear hblk hbl L1
     go_wp2
     go_quiet (fail)
     go_wp2
     go_ret2
     exact⟨rfl,HB.out,((HL.out).trans ((aD.refl _).drewN _ |>.below _))⟩

theorem mM (g:Nat)(va:Value)(zs:List Nat)(w:World)(hb:Blk w g (bW zs))(ha:Arg w va zs)(hf:zs.length≤35184372088000) :
  Calls Tryz.prog 17 #[.slice (some ⟨g,0,none⟩) (zs.length+4) (zs.length+4),va] w fun e w'=>e=.returned (.bool true)∧w'=w:=by
 obtain⟨ao,cap,rfl,hcap,hmax,L1⟩:=ha.form
 have hn:((zs.length:Int)+4 != (zs.length:Int)+4)=false:=by simp
 clear ha
 go_enter Tryz.func17,Tryz.ntmps17
 go_wp2
 go_loop [15] (fun i=>∃k:Nat,k≤zs.length+4∧i=.int .i64 k) (fun i=>zs.length+4 - (intOf i).toNat)
 case atStart=>exact⟨0,Nat.zero_le _,rfl⟩
 case round=>
  obtain⟨k,hk,rfl⟩:=hrel
  by_cases hkl:k<zs.length+4
  ·have hck:=hb.cell k (by rw [jD];exact hkl)
   by_cases h2:k<2
   ·rw [m9 zs k h2] at hck
    have i1:(k:Int)<2:=by omega
    clear hb L1
    go_wp2
    go_round
    case rel=>exact⟨k+1,by omega,by go_num⟩
    case measure=>simp [intOf];omega
   ·by_cases h3:zs.length+2≤k
    ·rw [rx zs k h3 hkl] at hck
     have hd1:decide ((k:Int)<2)=false:=decide_eq_false (by omega)
     have i2:(zs.length:Int)+2≤(k:Int):=by omega
     clear hb L1
     go_wp2
     go_round
     case rel=>exact⟨k+1,by omega,by go_num⟩
     case measure=>simp [intOf];omega
    ·obtain⟨j,rfl⟩:∃j,k=j+2:=⟨k - 2,by omega⟩
     rw [jC zs j (by omega)] at hck
     rcases L1 with h0|⟨b,off,rfl,hcell⟩
     ·simp [h0] at h3
     ·have hcj:=hcell j (by omega)
      generalize zs.getD j 0=z at *
      have hne:((z:Int) != (z:Int))=false:=by simp
      have i1:((j+2:Nat):Int)=(j:Int)+2:=by omega
      have hd1:decide ((j:Int)+2<2)=false:=decide_eq_false (by omega)
      have hd2:decide ((zs.length:Int)+2≤(j:Int)+2)=false:=decide_eq_false (by omega)
      have i3:(j:Int)<(zs.length:Int):=by omega
      clear hb hcell
      go_wp2
      go_round
      case rel=>exact⟨j+2+1,by omega,by go_num⟩
      case measure=>simp [intOf];omega
  ·clear hb L1
   go_wp2
   go_ret
   exact⟨rfl,rfl⟩

abbrev aU:Value:=.slice none 0 0

def upd (rows:Nat→List Nat)(i:Nat)(r:List Nat):Nat→List Nat:=fun m=>if m=i then r else rows m

theorem cM (rows:Nat→List Nat)(i:Nat)(r:List Nat):upd rows i r i=r:=by simp [upd]

theorem de (rows:Nat→List Nat)(i m:Nat)(r:List Nat)(h:m≠i):upd rows i r m=rows m:=by simp [upd,h]

structure St (w:World)(base L:Nat)(vs:List Value)(rows:Nat→List Nat):Prop where
 list:w.heap[L]?=some (.cells vs.toArray 22 (0,0))
 row:∀i,i<vs.length→Ans w base (vs.getD i aU) (rows i)
 apart:∀i j,i<vs.length→j<vs.length→i≠j→(vs.getD i aU).ownBlock=none∨(vs.getD i aU).ownBlock≠(vs.getD j aU).ownBlock

theorem St.cell {w:World}{base L:Nat}{vs:List Value}{rows:Nat→List Nat}(h:St w base L vs rows)(i:Nat)(hi:i<vs.length):w.cell? ⟨L,i,none⟩=some (vs.getD i aU):=by
 simp [World.cell?,h.list,hi,List.getD]

theorem St.free {w:World}{base L:Nat}{vs:List Value}{rows:Nat→List Nat}(h:St w base L vs rows)(i:Nat):w.frozen? ⟨L,i,none⟩=false:=by
 simp [World.frozen?,h.list]

theorem Ans.ne {w:World}{base L:Nat}{v:Value}{zs:List Nat}{vs:Array Value}(h:Ans w base v zs)(hl:w.heap[L]?=some (.cells vs 22 (0,0))):v.ownBlock≠some L:=by
 obtain⟨_,h2⟩:=h.own
 rcases h2 with ⟨rfl,_⟩|⟨g,cap,cur,rfl,_,hh,_⟩
 ·simp [Value.ownBlock]
 ·intro e
  simp [Value.ownBlock] at e
  subst e
  rw [hl] at hh
  simp at hh

theorem Ans.stored {w:World}{base g cap:Nat}{zs:List Nat}(h:Ans w base (.slice (some ⟨g,0,none⟩) zs.length cap) zs)(j z:Nat)(hz:z<18446744073709551616):Ans (w.setCell ⟨g,j,none⟩ (.int .u64 (z:Int))) base (.slice (some ⟨g,0,none⟩) (zs.set j z).length cap) (zs.set j z):=by
 refine⟨?_,limbs_set h.limbs _ _ hz⟩
 have:=(h.own.stored j (.int .u64 (z:Int))).1
 rw [List.length_set,List.map_set]
 exact this

theorem St.store {w:World}{base L:Nat}{vs:List Value}{rows:Nat→List Nat}(h:St w base L vs rows)(i g cap:Nat)(hi:i<vs.length)(hv:vs.getD i aU=.slice (some ⟨g,0,none⟩) (rows i).length cap)(j z:Nat)(hz:z<18446744073709551616) :
  St (w.setCell ⟨g,j,none⟩ (.int .u64 (z:Int))) base L vs (upd rows i ((rows i).set j z)):=by
 have hri:=h.row i hi
 have hne:=hri.ne h.list
 rw [hv] at hne
 have hgL:L≠g:=fun e=>hne (by simp [Value.ownBlock,e])
 refine⟨?_,fun m hm=>?_,h.apart⟩
 ·rw [Below.heap_setCell _ _ _ _ hgL];exact h.list
 ·by_cases e:m=i
  ·subst e
   rw [cM,hv]
   rw [hv] at hri
   have:=hri.stored j z hz
   rw [List.length_set] at this
   exact this
  ·rw [de _ _ _ _ e]
   refine⟨ownsRow_setCell_other (h.row m hm).own ?_ _,(h.row m hm).limbs⟩
   have:=h.apart m i hm hi e
   rw [hv] at this
   rcases this with h1|h1
   ·rw [h1];simp
   ·simpa [Value.ownBlock] using h1

theorem qh (r:List Nat)(j c:Nat)(h:j<r.length):(List.replicate j c ++ r.drop j).set j c=List.replicate (j+1) c ++ r.drop (j+1):=by
 rw [List.drop_eq_getElem_cons h]
 have:=gS (List.replicate j c) (r.drop (j+1)) r[j] c
 rw [List.length_replicate] at this
 rw [this,←List.replicate_succ']

theorem o7 (r:List Nat)(j c:Nat)(h:j≤r.length):(List.replicate j c ++ r.drop j).length=r.length:=by
 simp;omega

def bU (b:Nat):List Nat:=[b,b+1,b+2,b+3,b+4]

theorem St.grow {w w2:World}{base L:Nat}{vs:List Value}{rows:Nat→List Nat}(h:St w base L vs rows)(k:Nat)(hk:k<vs.length)(o:Obj)(v':Value)(r:List Nat)
  (ho:w2.ownsRow base 61 1 v' r.length (r.map lv)) (hl:Limbs r) (hg:(w.alloc o).grownBy w2 (vs.getD k aU).ownBlock) (hat:v'.ownBlock=(vs.getD k aU).ownBlock∨v'.ownBlock=some (w.alloc o).heap.size) :
  St (w2.setCell ⟨L,k,none⟩ v') base L (vs.set k v') (upd rows k r):=by
 have hL:=lt_of_block h.list
 have hsz:(w.alloc o).heap.size=w.heap.size+1:=by simp
 have hneL:=(h.row k hk).ne h.list
 have hL2:w2.heap[L]?=some (.cells vs.toArray 22 (0,0)):=by
  have e1:(w.alloc o).heap[L]?=w.heap[L]?:=Below.heap_alloc w o L hL
  rw [hg.block L (by omega) (fun e=>hneL e.symm),e1];exact h.list
 have hneL':v'.ownBlock≠some L:=by
  rcases hat with e|e
  ·rw [e];exact hneL
  ·rw [e];intro e2;simp at e2;omega
 refine⟨?_,fun m hm=>?_,fun i j hi hj hij=>?_⟩
 ·have hlt:=lt_of_block hL2
  have h':w2.heap[L]=.cells vs.toArray 22 (0,0):=by simpa [Array.getElem?_eq_getElem hlt] using hL2
  show (w2.heap.modify L _)[L]?=_
  rw [Array.getElem?_eq_getElem (by simpa using hlt),Array.getElem_modify_self,h']
  simp
 ·rw [List.length_set] at hm
  by_cases e:m=k
  ·subst e
   have ev:(vs.set m v').getD m aU=v':=by simp [List.getD,hm]
   rw [cM,ev]
   exact⟨ownsRow_setCell_other ho hneL' _,hl⟩
  ·have ev:(vs.set k v').getD m aU=vs.getD m aU:=by
    simp [List.getD,List.getElem?_set_ne (Ne.symm e)]
   rw [de _ _ _ _ e,ev]
   have hr:=h.row m hm
   refine⟨ownsRow_setCell_other (((hr.own).alloc o).kept hg ?_) (hr.ne h.list) _,hr.limbs⟩
   exact h.apart m k hm hk e
 ·rw [List.length_set] at hi hj
  have hlt:∀m,m<vs.length→∀g,(vs.getD m aU).ownBlock=some g→g<w.heap.size:=fun m hm g hg=>((h.row m hm).own.lt g hg).2
  by_cases e1:i=k
  ·subst e1
   have ev:(vs.set i v').getD i aU=v':=by simp [List.getD,hi]
   have ev2:(vs.set i v').getD j aU=vs.getD j aU:=by simp [List.getD,List.getElem?_set_ne hij]
   rw [ev,ev2]
   rcases hat with e|e
   ·rw [e];exact h.apart i j hi hj hij
   ·right
    rw [e]
    intro e2
    have:=hlt j hj _ e2.symm
    omega
  ·by_cases e2:j=k
   ·subst e2
    have ev:(vs.set j v').getD j aU=v':=by simp [List.getD,hj]
    have ev2:(vs.set j v').getD i aU=vs.getD i aU:=by simp [List.getD,List.getElem?_set_ne (Ne.symm e1)]
    rw [ev,ev2]
    rcases hat with e|e
    ·rw [e];exact h.apart i j hi hj hij
    ·right
     rw [e]
     intro e3
     have:=hlt i hi _ e3
     omega
   ·have ev:(vs.set k v').getD i aU=vs.getD i aU:=by simp [List.getD,List.getElem?_set_ne (Ne.symm e1)]
    have ev2:(vs.set k v').getD j aU=vs.getD j aU:=by simp [List.getD,List.getElem?_set_ne (Ne.symm e2)]
    rw [ev,ev2]
    exact h.apart i j hi hj hij

theorem St.congr {w:World}{base L:Nat}{vs:List Value}{rows rows':Nat→List Nat}(h:St w base L vs rows)(he:∀i,i<vs.length→rows i=rows' i):St w base L vs rows':=
 ⟨h.list,fun i hi=>by rw [←he i hi];exact h.row i hi,h.apart⟩

def over (rows:Nat→List Nat)(m:Nat):List Nat:=List.replicate (rows m).length (m % 251+1)

def ct (rows:Nat→List Nat)(k m:Nat):List Nat:=if m<k then over rows m else rows m

theorem kU (rows:Nat→List Nat)(k m:Nat)(h:m≠k):ct rows k m=ct rows (k+1) m:=by
 unfold ct
 by_cases h1:m<k
 ·rw [if_pos h1,if_pos (by omega)]
 ·rw [if_neg h1,if_neg (by omega)]

theorem og (rows:Nat→List Nat)(k:Nat)(hk:k≤1000):Limbs (over rows k ++ bU (300+5*k)):=by
 intro z hz
 rcases List.mem_append.1 hz with h|h
 ·have:=List.eq_of_mem_replicate h
  omega
 ·simp only [bU,List.mem_cons,List.not_mem_nil,or_false] at h
  omega

theorem rN (rows:Nat→List Nat)(k j:Nat)(h:j<(rows k).length):(over rows k ++ bU (300+5*k)).getD j 0=k % 251+1:=by
 have hl:j<(over rows k).length:=by simpa [over] using h
 rw [List.getD,List.getElem?_append_left hl]
 simp [over,h]

theorem nK (rows:Nat→List Nat)(k j:Nat)(h:(rows k).length≤j)(h2:j<(rows k).length+5):(over rows k ++ bU (300+5*k)).getD j 0=300+5*k+(j - (rows k).length):=by
 obtain⟨i,rfl⟩:∃i,j=(rows k).length+i:=⟨j - (rows k).length,by omega⟩
 have hl:(over rows k).length≤(rows k).length+i:=by simp [over]
 rw [List.getD,List.getElem?_append_right hl]
 match i,show i<5 by omega with
 | 0,_=>simp [over,bU]
 | 1,_=>simp [over,bU]
 | 2,_=>simp [over,bU]
 | 3,_=>simp [over,bU]
 | 4,_=>simp [over,bU]

theorem o9 {w:World}{base e n:Nat}{v:Value}{xs:List Value}(h:w.ownsRow base e 1 v n xs)(hn:0<n):∃g cap,v=.slice (some ⟨g,0,none⟩) n cap:=by
 rcases h.2 with ⟨_,h0⟩|⟨g,cap,_,hv,_⟩
 ·omega
 ·exact⟨g,cap,hv⟩

theorem St.kept {w w2:World}{base L:Nat}{vs:List Value}{rows:Nat→List Nat}{v:Value}(h:St w base L vs rows)(k:Nat)(hk:k<vs.length)(hv:vs.getD k aU=v)(o:Obj)(hg:(w.alloc o).grownBy w2 v.ownBlock) :
  w2.cell? ⟨L,k,none⟩=some v∧w2.frozen? ⟨L,k,none⟩=false:=by
 have hL:=lt_of_block h.list
 have hneL:=(h.row k hk).ne h.list
 rw [hv] at hneL
 have hsz:(w.alloc o).heap.size=w.heap.size+1:=by simp
 have e:w2.heap[L]?=w.heap[L]?:=by
  rw [hg.block L (by omega) (fun e=>hneL e.symm)];exact Below.heap_alloc w o L hL
 refine⟨?_,?_⟩
 ·rw [World.cell?_of_block (w:=w) (a:=⟨L,k,none⟩) e,h.cell k hk,hv]
 ·rw [World.frozen?_of_block (w:=w) (a:=⟨L,k,none⟩) e];exact h.free k

theorem dw (zs:List Nat)(h:Limbs zs):blen (val zs)≤64*zs.length:=by
 rw [blen_le_iff,Nat.mul_comm]
 have:=val_lt h
 rwa [W_pow] at this

def dK (w:World)(vw:Value)(zs:List Nat):Prop:=∃g,vw=.slice (some ⟨g,0,none⟩) (zs.length+4) (zs.length+4)∧Blk w g (bW zs)

theorem dK.below {w w':World}{vw:Value}{zs:List Nat}(h:dK w vw zs)(hb:Below w.heap.size w w'):dK w' vw zs:=by
 obtain⟨g,h1,h2⟩:=h
 refine⟨g,h1,?_⟩
 unfold Blk
 rw [hb.block g h2.lt];exact h2

theorem p8 (v:Value)(zs:List Nat)(w:World)(h:Arg w v zs)(hf:zs.length≤35184372088000) :
  Calls Tryz.prog 37 #[v] w fun e w'=>(∃vw vp,e=.returned (.tuple #[vw,vp])∧dK w' vw zs∧Arg w' vp zs)∧Below w.heap.size w w':=by
 refine (oz v zs w h hf).mono ?_
 rintro e w' ⟨rfl,hb,hbel⟩
 refine⟨⟨_,_,rfl,⟨_,rfl,hb⟩,⟨_,_,rfl,by omega,by omega,.inr ⟨_,2,rfl,fun k hk=>?_⟩⟩,h.limbs,h.few,fun n c e=>by cases e⟩,hbel⟩
 rw [hb.cell (2+k) (by rw [jD];omega),Nat.add_comm 2 k,jC zs k hk]

theorem dW (vw va:Value)(zs:List Nat)(w:World)(hl:dK w vw zs)(ha:Arg w va zs)(hf:zs.length≤35184372088000) :
  Calls Tryz.prog 17 #[vw,va] w fun e w'=>e=.returned (.bool true)∧w'=w:=by
 obtain⟨g,rfl,hb⟩:=hl
 exact mM g va zs w hb ha hf
end Go.Proofs.YtdbjbbdhlpfhjaaGreatDoor
namespace Go.Proofs.YtdbjbbdhlpfhjaaGreatDoor
open Go.RowKit
open Lm
attribute [local go_sem ↓] Go.wp_at_zero Go.wp_at_succ

theorem mE (h:15<(ByteArray.mk #[48,49,50,51,52,53,54,55,56,57,97,98,99,100,101,102,103,104,105,106,107,108,109,110,111,112,113,114,115,116,117,118,119,120,121,122]).size):(ByteArray.mk #[48,49,50,51,52,53,54,55,56,57,97,98,99,100,101,102,103,104,105,106,107,108,109,110,111,112,113,114,115,116,117,118,119,120,121,122])[15]=102:=rfl

theorem ll (h:15<(ByteArray.mk #[48,49,50,51,52,53,54,55,56,57,97,98,99,100,101,102,103,104,105,106,107,108,109,110,111,112,113,114,115,116,117,118,119,120,121,122]).size):(ByteArray.mk #[48,49,50,51,52,53,54,55,56,57,97,98,99,100,101,102,103,104,105,106,107,108,109,110,111,112,113,114,115,116,117,118,119,120,121,122])[15].toNat=102:=rfl

attribute [local go_sem] mE ll
end Go.Proofs.YtdbjbbdhlpfhjaaGreatDoor
namespace Go.Proofs.YtdbjbbdhlpfhjaaGreatDoor
open Go.RowKit
open Lm
attribute [local go_sem ↓] Go.wp_at_zero Go.wp_at_succ

theorem gN {P:Program}(w:World)(a:Addr)(m:Mode)(f:Fn)(x y:Array Value):(store a (.func f x y) m).run P w=stored P w a (.func f x y) m:=run_store P w a _ m rfl

attribute [local go_sem] gN
end Go.Proofs.YtdbjbbdhlpfhjaaGreatDoor
namespace Go.Proofs.YtdbjbbdhlpfhjaaGreatDoor
open Go.RowKit
open Lm
attribute [local go_sem ↓] Go.wp_at_zero Go.wp_at_succ

theorem dR {w:World}{h:Nat}{a b:Value}{t:TypeId}(e:w.heap[h]?=some (.cells #[a,b] t)):w.cell? ⟨h,0,none⟩=some a∧w.cell? ⟨h,1,none⟩=some b:=
 ⟨by simp [World.cell?,e],by simp [World.cell?,e]⟩




end Go.Proofs.YtdbjbbdhlpfhjaaGreatDoor
namespace Go.Proofs.YtdbjbbdhlpfhjaaGreatDoor
open Lm

def seg (Z:List Nat)(o n:Nat):List Nat:=(Z.drop o).take n

def sv (Z:List Nat)(o n:Nat):Nat:=val (seg Z o n)

structure Out (Z Z':List Nat)(lo hi:Nat):Prop where
 len:Z'.length=Z.length
 same:∀k,k<lo∨hi≤k→Z'.getD k 0=Z.getD k 0

theorem Out.refl (Z:List Nat)(lo hi:Nat):Out Z Z lo hi:=⟨rfl,fun _ _=>rfl⟩

theorem Out.trans {Z Z' Z'':List Nat}{lo hi:Nat}(h:Out Z Z' lo hi)(k:Out Z' Z'' lo hi):Out Z Z'' lo hi:=
 ⟨k.len.trans h.len,fun j hj=>(k.same j hj).trans (h.same j hj)⟩

theorem Out.wider {Z Z':List Nat}{lo hi lo' hi':Nat}(h:Out Z Z' lo hi)(h1:lo'≤lo)(h2:hi≤hi'):Out Z Z' lo' hi':=
 ⟨h.len,fun k hk=>h.same k (by omega)⟩

theorem cW (Z:List Nat)(j k z:Nat):(Z.set j z).getD k 0=if j=k∧k<Z.length then z else Z.getD k 0:=by
 by_cases h:j=k
 ·subst h
  by_cases hl:j<Z.length
  ·simp [List.getD,hl]
  ·simp [List.getD,hl]
 ·simp [List.getD,h]

theorem Out.set {Z Z':List Nat}{lo hi:Nat}(h:Out Z Z' lo hi)(j z:Nat)(h1:lo≤j)(h2:j<hi):Out Z (Z'.set j z) lo hi:=
 ⟨by simp [h.len],fun k hk=>by rw [cW,if_neg (by omega)];exact h.same k hk⟩

theorem bK (Z:List Nat)(o n:Nat)(h:o+n≤Z.length):(seg Z o n).length=n:=by
 simp [seg];omega

theorem dD (Z:List Nat)(o n k:Nat)(h:k<n):(seg Z o n).getD k 0=Z.getD (o+k) 0:=by
 simp [seg,List.getD,h]

theorem jQ {a b:List Nat}(hl:a.length=b.length)(h:∀k,k<a.length→a.getD k 0=b.getD k 0):a=b:=by
 refine List.ext_getElem hl fun k h1 h2=>?_
 have:=h k h1
 simpa [List.getD,h1,h2] using this

theorem Out.seg {Z Z':List Nat}{lo hi:Nat}(h:Out Z Z' lo hi)(o n:Nat)(hd:o+n≤lo∨hi≤o):seg Z' o n=seg Z o n:=by
 have hl:(Go.Proofs.YtdbjbbdhlpfhjaaGreatDoor.seg Z' o n).length=(Go.Proofs.YtdbjbbdhlpfhjaaGreatDoor.seg Z o n).length:=by simp [Go.Proofs.YtdbjbbdhlpfhjaaGreatDoor.seg,h.len]
 refine jQ hl fun k hk=>?_
 have hk':k<n:=by simp [Go.Proofs.YtdbjbbdhlpfhjaaGreatDoor.seg] at hk;omega
 rw [dD _ _ _ _ hk',dD _ _ _ _ hk',h.same _ (by omega)]

theorem Out.sv {Z Z':List Nat}{lo hi:Nat}(h:Out Z Z' lo hi)(o n:Nat)(hd:o+n≤lo∨hi≤o):sv Z' o n=sv Z o n:=by
 unfold Go.Proofs.YtdbjbbdhlpfhjaaGreatDoor.sv;rw [h.seg o n hd]

theorem aW (Z:List Nat)(o:Nat):sv Z o 0=0:=by simp [sv,seg,val]

theorem aF (Z:List Nat)(o m n:Nat)(h:o+m≤Z.length):sv Z o (m+n)=sv Z o m+18446744073709551616 ^ m*sv Z (o+m) n:=by
 unfold sv
 have e:seg Z o (m+n)=seg Z o m ++ seg Z (o+m) n:=by
  unfold seg
  rw [List.take_add,List.drop_drop]
 rw [e,val_append,bK Z o m h]

theorem fp (Z:List Nat)(o:Nat)(h:o<Z.length):sv Z o 1=Z.getD o 0:=by
 unfold sv seg
 rw [List.drop_eq_getElem_cons h,List.take_succ_cons,List.take_zero,val,val]
 simp [List.getD,h]

theorem dU (Z:List Nat)(o i:Nat)(h:o+i<Z.length):sv Z o (i+1)=sv Z o i+18446744073709551616 ^ i*Z.getD (o+i) 0:=by
 rw [aF Z o i 1 (by omega),fp _ _ h]

theorem dS {Z:List Nat}(h:Limbs Z)(o n:Nat):Limbs (seg Z o n):=fun z hz=>h z (List.mem_of_mem_drop (List.mem_of_mem_take hz))

theorem cm {Z:List Nat}(h:Limbs Z)(o n:Nat):sv Z o n<18446744073709551616 ^ n:=by
 have h1:=val_lt (dS h o n)
 refine Nat.lt_of_lt_of_le h1 (Nat.pow_le_pow_right (by omega) ?_)
 simp [seg];omega

theorem dm (Z:List Nat)(o i z:Nat)(h:o+i<Z.length):sv (Z.set (o+i) z) o (i+1)=sv Z o i+18446744073709551616 ^ i*z:=by
 rw [dU _ _ _ (by simpa using h),cW,if_pos ⟨rfl,h⟩]
 have e:Out Z (Z.set (o+i) z) (o+i) (o+i+1):=(Out.refl _ _ _).set _ _ (by omega) (by omega)
 rw [e.sv o i (by omega)]

theorem ca (Z:List Nat):sv Z 0 Z.length=val Z:=by simp [sv,seg]

theorem lk (Z Z' X:List Nat)(o i m cy hi lo:Nat)(hz:o+i<Z'.length)(h0:Z'.getD (o+i) 0=Z.getD (o+i) 0)(hZ:Z'.length=Z.length)
  (h:sv Z' o i+cy*18446744073709551616 ^ i=sv Z o i+val (X.take i)*m)
  (hs:lo+hi*18446744073709551616=X.getD i 0*m+Z.getD (o+i) 0+cy) :
  sv (Z'.set (o+i) lo) o (i+1)+hi*18446744073709551616 ^ (i+1)=sv Z o (i+1)+val (X.take (i+1))*m:=by
 have:=h0
 rw [dm _ _ _ _ hz,dU Z o i (by omega),val_take_next X i,show (18446744073709551616:Nat) ^ (i+1)=18446744073709551616 ^ i*18446744073709551616 from Nat.pow_succ ..]
 generalize sv Z' o i=V' at *
 generalize sv Z o i=V at *
 generalize val (X.take i)=U at *
 generalize Z.getD (o+i) 0=z at *
 generalize X.getD i 0=x at *
 generalize (18446744073709551616:Nat) ^ i=P at *
 generalize (18446744073709551616:Nat)=W at *
 grind

theorem qr (x m z cy:Nat)(hx:x<18446744073709551616)(hm:m<18446744073709551616)(hz:z<18446744073709551616)(hc:cy<18446744073709551616) :
  x*m+z+cy<18446744073709551616*18446744073709551616:=by
 have h:=Nat.mul_le_mul (Nat.le_sub_one_of_lt hx) (Nat.le_sub_one_of_lt hm)
 omega
end Go.Proofs.YtdbjbbdhlpfhjaaGreatDoor
namespace Go.Proofs.YtdbjbbdhlpfhjaaGreatDoor
open Go.RowKit
open Lm

theorem rm (b off cap:Nat)(zs:List Nat)(w:World)(hcap:zs.length≤cap)(hmax:cap≤9223372036854775807)
  (hc:∀k,k<zs.length→w.cell? ⟨b,off+k,none⟩=some (.int .u64 ((zs.getD k 0:Nat):Int))) :
  Calls Tryz.prog 174 #[.slice (some ⟨b,off,none⟩) zs.length cap] w fun e w'=>e=.returned (.slice (some ⟨b,off,none⟩) (tr zs).length cap)∧w'=w:=by
 go_enter Tryz.func174,Tryz.ntmps174
 go_wp2
 go_loop [3] (fun n=>∃k:Nat,k≤zs.length∧n=.int .i64 k∧tr (zs.take k)=tr zs) (fun n=>(intOf n).toNat)
 case atStart=>exact⟨zs.length,Nat.le_refl _,rfl,by rw [List.take_length]⟩
 case round=>
  obtain⟨k,hk,rfl,ht⟩:=hrel
  have HT:Hid (tr (zs.take k)=tr zs):=ht
  clear ht
  by_cases h0:k=0
  ·subst h0
   go_wp2
   go_ret
   have e:=HT.out
   simp only [List.take_zero,tr] at e
   rw [←e]
   exact⟨rfl,rfl⟩
  ·obtain⟨j,rfl⟩:∃j,k=j+1:=⟨k - 1,by omega⟩
   have hcj:=hc j (by omega)
   clear hc
   by_cases hz:zs.getD j 0=0
   ·have HZ:Hid (tr (zs.take j)=tr zs):=by rw [←tr_step zs j (by omega) hz];exact HT.out
    rw [hz] at hcj
    clear hz HT
    go_wp2
    go_round
    case rel=>exact⟨j,by omega,by go_num,HZ.out⟩
    case measure=>simp [intOf]
   ·have HZ:Hid (tr zs=zs.take (j+1)):=by rw [←HT.out];exact tr_stop zs j (by omega) hz
    clear HT
    generalize zs.getD j 0=z at hcj hz
    have hne:((z:Int) == 0)=false:=by rw [beq_eq_false_iff_ne];omega
    clear hz
    go_wp2
    go_ret
    rw [HZ.out]
    have e:(zs.take (j+1)).length=j+1:=by simp;omega
    rw [e]
    exact⟨rfl,rfl⟩

theorem qR (ao:Option Addr)(cap:Nat)(w:World)(_hmax:cap≤9223372036854775807) :
  Calls Tryz.prog 174 #[.slice ao 0 cap] w fun e w'=>e=.returned (.slice ao 0 cap)∧w'=w:=by
 go_enter Tryz.func174,Tryz.ntmps174
 go_wp2
 refine wp_loop_rounds 1 ?_
 rw [rounds_succ]
 go_wp2
 go_ret
 exact⟨rfl,rfl⟩

theorem cz (ao:Option Addr)(cap:Nat)(zs:List Nat)(w:World)(hcap:zs.length≤cap)(hmax:cap≤9223372036854775807)(hl:aG w ao zs) :
  Calls Tryz.prog 174 #[.slice ao zs.length cap] w fun e w'=>e=.returned (.slice ao (tr zs).length cap)∧w'=w:=by
 rcases hl with rfl|⟨b,off,rfl,hc⟩
 ·exact qR ao cap w hmax
 ·exact rm b off cap zs w hcap hmax hc

structure Fr (bz:Nat)(w w':World):Prop where
 os:w'.os=w.os
 tape:w'.tape=w.tape
 output:w'.output=w.output
 size:w.heap.size≤w'.heap.size
 block:∀k,k<w.heap.size→k≠bz→w'.heap[k]?=w.heap[k]?

theorem Fr.refl (bz:Nat)(w:World):Fr bz w w:=⟨rfl,rfl,rfl,Nat.le_refl _,fun _ _ _=>rfl⟩

theorem Fr.trans {bz:Nat}{a b c:World}(h:Fr bz a b)(k:Fr bz b c):Fr bz a c:=
 ⟨k.os.trans h.os,k.tape.trans h.tape,k.output.trans h.output,Nat.le_trans h.size k.size,fun i h1 h2=>(k.block i (Nat.lt_of_lt_of_le h1 h.size) h2).trans (h.block i h1 h2)⟩

theorem Fr.setCell {bz:Nat}{a w:World}(h:Fr bz a w)(off:Nat)(u:Value):Fr bz a (w.setCell ⟨bz,off,none⟩ u):=
 ⟨h.os,h.tape,h.output,by simpa using h.size,fun k h1 h2=>(Below.heap_setCell w _ u k h2).trans (h.block k h1 h2)⟩

theorem Fr.drew {bz:Nat}{a w:World}(h:Fr bz a w):Fr bz a w.drew:=⟨h.os,h.tape,h.output,h.size,h.block⟩

theorem Fr.of_below {bz:Nat}{w w':World}(h:Below w.heap.size w w'):Fr bz w w':=⟨h.os,h.tape,h.output,h.size,fun k h1 _=>h.block k h1⟩

theorem Fr.below {bz base:Nat}{w w':World}(h:Fr bz w w')(h1:base≤bz)(h2:base≤w.heap.size):Below base w w':=
 ⟨h.os,h.tape,h.output,h.size,fun k hk=>h.block k (by omega) (by omega)⟩

def Off (v:Value)(bz lo hi:Nat):Prop:=∀b off n c,v=.slice (some ⟨b,off,none⟩) n c→b≠bz∨off+n≤lo∨hi≤off

theorem aG.fr {w w':World}{ao:Option Addr}{X Z Z':List Nat}{bz lo hi:Nat}(h:aG w ao X)(ho:∀b off,ao=some ⟨b,off,none⟩→b≠bz∨off+X.length≤lo∨hi≤off)
  (hf:Fr bz w w') (hb:Blk w bz Z) (hb':Blk w' bz Z') (hz:Out Z Z' lo hi):aG w' ao X:=by
 rcases h with h|⟨b,off,rfl,hc⟩
 ·exact .inl h
 ·rcases Nat.eq_zero_or_pos X.length with h0|h0
  ·exact .inl (List.length_eq_zero_iff.1 h0)
  refine .inr ⟨b,off,rfl,fun k hk=>?_⟩
  have hlt:b<w.heap.size:=aG.block (zs:=X) (.inr ⟨b,off,rfl,hc⟩) h0
  by_cases hbz:b=bz
  ·subst hbz
   have h1:=hc k hk
   have hin:off+k<Z.length:=by
    refine Nat.lt_of_not_le fun hle=>?_
    have:w.cell? ⟨b,off+k,none⟩=none:=by
     unfold Blk at hb
     simp [World.cell?,hb];omega
    rw [this] at h1;cases h1
   rw [hb.cell _ hin] at h1
   rw [hb'.cell _ (by rw [hz.len];exact hin),hz.same _ (by have:=ho b off rfl;omega)]
   exact h1
  ·have:=hf.block b hlt hbz
   rw [World.cell?_of_block (w:=w) this]
   exact hc k hk

theorem Arg.fr {w w':World}{v:Value}{X Z Z':List Nat}{bz lo hi:Nat}(h:Arg w v X)(ho:Off v bz lo hi)
  (hf:Fr bz w w') (hb:Blk w bz Z) (hb':Blk w' bz Z') (hz:Out Z Z' lo hi):Arg w' v X:=by
 obtain⟨ao,cap,h1,h2,h3,h4⟩:=h.form
 exact⟨⟨ao,cap,h1,h2,h3,h4.fr (fun b off e=>by subst e;exact ho b off _ _ h1) hf hb hb' hz⟩,h.limbs,h.few,h.nz⟩
end Go.Proofs.YtdbjbbdhlpfhjaaGreatDoor
namespace Go.Proofs.YtdbjbbdhlpfhjaaGreatDoor
open Go.RowKit
open Lm
attribute [local go_sem ↓] Go.wp_at_zero Go.wp_at_succ

theorem lg (P z cy:Nat)(h:P+z+cy<340282366920938463463374607431768211456)(_hz:z<18446744073709551616)(_hc:cy<18446744073709551616) :
  ((P % 18446744073709551616+z) % 18446744073709551616+cy) % 18446744073709551616+(P / 18446744073709551616+(P % 18446744073709551616+z) / 18446744073709551616+((P % 18446744073709551616+z) % 18446744073709551616+cy) / 18446744073709551616)*18446744073709551616=P+z+cy ∧
  P / 18446744073709551616+(P % 18446744073709551616+z) / 18446744073709551616<18446744073709551616 ∧
  P / 18446744073709551616+(P % 18446744073709551616+z) / 18446744073709551616+((P % 18446744073709551616+z) % 18446744073709551616+cy) / 18446744073709551616<18446744073709551616 ∧
  ((P % 18446744073709551616+z) % 18446744073709551616+cy) % 18446744073709551616<18446744073709551616:=by
 omega

theorem iY (bz zo cap:Nat)(Z:List Nat)(v1:Value)(X:List Nat)(m:Nat)(w:World)(hB:Blk w bz Z)(hLZ:Limbs Z)(hA:Arg w v1 X)(ho:Off v1 bz zo (zo+X.length))
  (hzo:zo+X.length≤Z.length) (hc1:X.length≤cap) (hc2:cap≤9223372036854775807) (hm:m<18446744073709551616) :
  Calls Tryz.prog 212 #[.slice (some ⟨bz,zo,none⟩) X.length cap,v1,.int .u64 m] w fun e w'=>∃(cy:Nat) (Z':List Nat),e=.returned (.int .u64 (cy:Int))∧cy<18446744073709551616 ∧
   Out Z Z' zo (zo+X.length)∧Limbs Z'∧Blk w' bz Z'∧Fr bz w w'∧sv Z' zo X.length+cy*18446744073709551616 ^ X.length=sv Z zo X.length+val X*m:=by
 obtain⟨a1,c1,rfl,hcc1,hcm1,hl1⟩:=hA.form
 have M1:=hA.limbs
 have hX:=hA.few
 have hao:∀b off,a1=some ⟨b,off,none⟩→b≠bz∨off+X.length≤zo∨zo+X.length≤off:=fun b off e=>by subst e;exact ho b off _ _ rfl
 clear ho hA
 go_enter Tryz.func212,Tryz.ntmps212
 go_wp2
 go_loopw [7,16] (fun c i wr=>∃(k cy:Nat) (Z':List Nat),k≤X.length∧i=.int .i64 k∧c=.int .u64 cy∧cy<18446744073709551616∧Out Z Z' zo (zo+k)∧Limbs Z'∧Blk wr bz Z'∧Fr bz w wr ∧
   sv Z' zo k+cy*18446744073709551616 ^ k=sv Z zo k+val (X.take k)*m) (fun _ i _=>X.length - (intOf i).toNat)
 case atStart=>exact⟨0,0,Z,Nat.zero_le _,rfl,rfl,by omega,Out.refl _ _ _,hLZ,hB,Fr.refl _ _,by simp [aW,val]⟩
 case round=>
  obtain⟨k,cy,Z',hk,rfl,rfl,hcy,hout,hlz,hblk,hfr0,hval⟩:=hrel
  have HV:=ac hval
  have HB:=ac hblk
  have HF:=ac hfr0
  have HO:=ac hout
  have hl:=hout.len
  clear hval
  by_cases hkl:k<X.length
  ·rcases hl1.fr hao hfr0 hB hblk (hout.wider (Nat.le_refl _) (by omega)) with h0|⟨b,off,rfl,hcell⟩
   ·rw [h0] at hkl;simp at hkl
   ·have hck:=hcell k hkl
    have hfr:=hblk.free (zo+k)
    have hco:=hblk.cell (zo+k) (by omega)
    have z1:=limb_lt M1 k
    have z2:=limb_lt hlz (zo+k)
    have hsame:=hout.same (zo+k) (by omega)
    have hft:=qr (X.getD k 0) m (Z'.getD (zo+k) 0) cy z1 hm z2 hcy
    have hlm:=lg (X.getD k 0*m) (Z'.getD (zo+k) 0) cy hft z2 hcy
    have HS:=ac (fun hi lo hs=>lk Z Z' X zo k m cy hi lo (by omega) hsame hl HV.out hs)
    rw [←hsame] at HS
    have ha1:=bO (X.getD k 0*m % 18446744073709551616) (Z'.getD (zo+k) 0)
    have ha2:=bO ((X.getD k 0*m % 18446744073709551616+Z'.getD (zo+k) 0) % 18446744073709551616) cy
    have hM:=Tryz.bits_Mul64 (X.getD k 0) m z1 hm wr
    generalize Z'.getD (zo+k) 0=z at *
    generalize X.getD k 0=x at *
    generalize hP:x*m=P at *
    clear hP hft hsame
    obtain⟨q1,q2,q3,q4⟩:=hlm
    have HS2:=ac (HS.out _ _ q1)
    clear HS q1
    generalize ((P % 18446744073709551616+z) % 18446744073709551616+cy) % 18446744073709551616=s at *
    generalize ((P % 18446744073709551616+z) % 18446744073709551616+cy) / 18446744073709551616=o2 at *
    generalize (P % 18446744073709551616+z) % 18446744073709551616=s1 at *
    generalize (P % 18446744073709551616+z) / 18446744073709551616=o1 at *
    generalize P / 18446744073709551616=h1 at *
    generalize P % 18446744073709551616=l1 at *
    have e1:(h1:Int)+(o1:Int)=((h1+o1:Nat):Int):=by omega
    generalize h1+o1=h2 at *
    have e2:(h2:Int)+(o2:Int)=((h2+o2:Nat):Int):=by omega
    generalize h2+o2=h3 at *
    clear hcell hblk hfr0 hout HV M1 hl1 hB hLZ
    go_wp2_with fail
    refine hM.mono ?_
    rintro e w2 ⟨rfl,rfl⟩
    clear hM
    go_wp2
    go_roundw
    case rel=>exact⟨k+1,h3,Z'.set (zo+k) s,by omega,by go_num,rfl,q3,(HO.out.wider (Nat.le_refl _) (by omega)).set _ _ (by omega) (by omega),limbs_set hlz _ _ q4,HB.out.set _ s,HF.out.setCell _ _,HS2.out⟩
    case measure=>simp [intOf];omega
  ·have ek:k=X.length:=by omega
   subst ek
   rw [List.take_length] at HV
   clear hblk hfr0 hout hl1 hB
   go_wp2
   go_ret
   exact⟨cy,Z',rfl,hcy,HO.out,hlz,HB.out,HF.out,HV.out⟩

def lay (Z:List Nat)(o:Nat):List Nat→List Nat
 | []=>Z
 | p :: r=>lay (Z.set o p) (o+1) r

theorem eZ (P:List Nat):∀(Z:List Nat) (o:Nat),(lay Z o P).length=Z.length:=by
 induction P with
 | nil=>intro Z o;rfl
 | cons p r ih=>intro Z o;rw [lay,ih];simp

theorem cB (P:List Nat):∀(Z:List Nat) (o:Nat),Out Z (lay Z o P) o (o+P.length):=by
 induction P with
 | nil=>intro Z o;exact Out.refl _ _ _
 | cons p r ih=>
  intro Z o
  have h1:Out Z (Z.set o p) o (o+(p :: r).length):=(Out.refl _ _ _).set _ _ (Nat.le_refl _) (by simp)
  exact h1.trans ((ih (Z.set o p) (o+1)).wider (by omega) (by simp;omega))

theorem cR (P:List Nat):∀(Z:List Nat) (o:Nat),o+P.length≤Z.length→sv (lay Z o P) o P.length=val P:=by
 induction P with
 | nil=>intro Z o _;exact aW _ _
 | cons p r ih=>
  intro Z o h
  have hl:o+r.length+1≤Z.length:=by simpa [Nat.add_assoc] using h
  rw [show (p :: r).length=1+r.length by simp;omega,aF _ _ _ _ (by rw [eZ];omega),fp _ _ (by rw [eZ];omega),lay,ih _ _ (by simp;omega)]
  have h2:=(cB r (Z.set o p) (o+1)).same o (by omega)
  rw [h2,cW,if_pos ⟨rfl,by omega⟩,val,Nat.pow_one]

theorem cU (P:List Nat)(hP:Limbs P):∀(Z:List Nat) (o:Nat),Limbs Z→Limbs (lay Z o P):=by
 induction P with
 | nil=>intro Z o h;exact h
 | cons p r ih=>intro Z o h;exact ih (fun z hz=>hP z (List.mem_cons_of_mem _ hz)) _ _ (limbs_set h _ _ (hP p (List.mem_cons_self ..)))

theorem Blk.setCells {b:Nat}(P:List Nat):∀ {w:World} {Z:List Nat} (o:Nat),Blk w b Z→Blk (w.setCells b o (P.map lv)) b (lay Z o P):=by
 induction P with
 | nil=>intro w Z o h;exact h
 | cons p r ih=>intro w Z o h;exact ih (o+1) (h.set o p)

theorem Fr.setCells {b:Nat}(P:List Value):∀ {a w:World} (o:Nat),Fr b a w→Fr b a (w.setCells b o P):=by
 induction P with
 | nil=>intro a w o h;exact h
 | cons p r ih=>intro a w o h;exact ih (o+1) (h.setCell o p)

theorem pW (w:World):(zeroValue 61).run Tryz.prog w=.ok (.int .u64 0) w:=by kernel_rfl

theorem ei (bz zo n cap:Nat)(Z:List Nat)(w:World)(ty:TypeId)(hB:Blk w bz Z)(hz:zo+n≤Z.length)(hn:0<n) :
  (Builtin.clear_ #[25] ty #[.slice (some ⟨bz,zo,none⟩) n cap]).run Tryz.prog w=.ok (.tuple #[]) (w.setCells bz zo ((List.replicate n 0).map lv)):=by
 rw [Lib.run_clear_slice w 25 61 ty (.int .u64 0) Tryz.underlying25 pW rfl rfl bz zo n cap hn (fun j hj=>by rw [hB.cell (zo+j) (by omega)];rfl) (fun j hj=>hB.free (zo+j)),List.map_replicate]
 rfl

theorem nj (Z Z2 X Y:List Nat)(o k m cy:Nat)(hl:Z2.length=Z.length)(hk:k<Y.length)(hZ:o+(X.length+Y.length)≤Z.length)(hm:m=Y.getD k 0)
  (h:sv Z o (k+X.length)=val X*val (Y.take k)) (ho:Out Z Z2 (o+k) (o+k+X.length))
  (h2:sv Z2 (o+k) X.length+cy*18446744073709551616 ^ X.length=sv Z (o+k) X.length+val X*m) :
  sv (Z2.set (o+(k+X.length)) cy) o (k+1+X.length)=val X*val (Y.take (k+1)):=by
 rw [show k+1+X.length=k+X.length+1 by omega,dm _ _ _ _ (by omega),aF _ _ _ _ (by omega),ho.sv o k (by omega),val_take_next Y k,←hm,Nat.pow_add]
 rw [aF _ _ _ _ (by omega)] at h
 generalize sv Z o k=A at *
 generalize sv Z2 (o+k) X.length=B2 at *
 generalize sv Z (o+k) X.length=B at *
 generalize val (Y.take k)=V at *
 generalize val X=U at *
 generalize (18446744073709551616:Nat) ^ k=K at *
 generalize (18446744073709551616:Nat) ^ X.length=L at *
 grind

theorem kh (bz zo cap:Nat)(Z:List Nat)(va vb:Value)(X Y:List Nat)(w:World)(hB:Blk w bz Z)(hLZ:Limbs Z)(hA:Arg w va X)(hA2:Arg w vb Y)
  (ho:Off va bz zo (zo+(X.length+Y.length))) (ho2:Off vb bz zo (zo+(X.length+Y.length))) (hzo:zo+(X.length+Y.length)≤Z.length) (hc1:X.length+Y.length≤cap) (hc2:cap≤9223372036854775807) :
  Calls Tryz.prog 190 #[.slice (some ⟨bz,zo,none⟩) (X.length+Y.length) cap,va,vb] w fun e w'=>e=.returned (.tuple #[])∧∃Z':List Nat,
   Out Z Z' zo (zo+(X.length+Y.length))∧Limbs Z'∧Blk w' bz Z'∧Fr bz w w'∧sv Z' zo (X.length+Y.length)=val X*val Y:=by
 obtain⟨a1,c1,rfl,hcc1,hcm1,hl1⟩:=hA.form
 obtain⟨a2,c2,rfl,hcc2,hcm2,hl2⟩:=hA2.form
 have hao2:∀b off,a2=some ⟨b,off,none⟩→b≠bz∨off+Y.length≤zo∨zo+(X.length+Y.length)≤off:=fun b off e=>by subst e;exact ho2 b off _ _ rfl
 have fX:=hA.few
 have fY:=hA2.few
 have mY:=hA2.limbs
 obtain⟨w1,Z1,hrun,hout1,hlz1,hb1,hf1,hs1⟩:∃(w1:World) (Z1:List Nat),(∀ty,(Builtin.clear_ #[25] ty #[.slice (some ⟨bz,zo,none⟩) (X.length+Y.length) cap]).run Tryz.prog w=.ok (.tuple #[]) w1)∧Out Z Z1 zo (zo+(X.length+Y.length))∧Limbs Z1∧Blk w1 bz Z1∧Fr bz w w1∧sv Z1 zo (X.length+Y.length)=0:=by
  rcases Nat.eq_zero_or_pos (X.length+Y.length) with h0|h0
  ·refine⟨w,Z,fun ty=>?_,Out.refl _ _ _,hLZ,hB,Fr.refl _ _,by rw [h0];exact aW _ _⟩
   rw [h0]
   simp [Builtin.clear_,run_underlying Tryz.underlying25]
  ·have hlr:(List.replicate (X.length+Y.length) 0).length=X.length+Y.length:=by simp
   have e1:=cB (List.replicate (X.length+Y.length) 0) Z zo
   have e2:=cR (List.replicate (X.length+Y.length) 0) Z zo (by rw [hlr];exact hzo)
   rw [hlr] at e1 e2
   exact⟨_,lay Z zo (List.replicate (X.length+Y.length) 0),fun ty=>ei bz zo _ cap Z w ty hB hzo h0,e1,cU _ (limbs_replicate _) _ _ hLZ,Blk.setCells _ _ hB,(Fr.refl _ _).setCells _ _,by rw [e2,val_replicate]⟩
 have hs0:sv Z1 zo X.length=0:=by
  rw [aF _ _ _ _ (by have:=hout1.len;omega)] at hs1;omega
 have HO1:=ac hout1
 have HF1:=ac hf1
 have HL1:=ac hb1
 clear hs1
 go_enter Tryz.func190,Tryz.ntmps190
 go_wp2
 go_loopw [11] (fun i wr=>∃(k:Nat) (Z':List Nat),k≤Y.length∧i=.int .i64 k∧Out Z Z' zo (zo+(X.length+Y.length))∧Limbs Z'∧Blk wr bz Z'∧Fr bz w wr ∧
   sv Z' zo (k+X.length)=val X*val (Y.take k)) (fun i _=>Y.length - (intOf i).toNat)
 case atStart=>exact⟨0,Z1,Nat.zero_le _,rfl,HO1.out,hlz1,HL1.out,HF1.out,by rw [Nat.zero_add,hs0];simp [val]⟩
 case round=>
  obtain⟨k,Z',hk,rfl,hout,hlz,hblk,hfr0,hval⟩:=hrel
  clear hrun hout1 hlz1 hb1 hf1 hs0 HO1 HF1 HL1
  by_cases hkl:k<Y.length
  ·rcases hl2.fr hao2 hfr0 hB hblk hout with h0|⟨b,off,rfl,hcell⟩
   ·rw [h0] at hkl;simp at hkl
   ·have hck:=hcell k hkl
    have z2:=limb_lt mY k
    have hlen:=hout.len
    have hA':Arg wr (.slice a1 X.length c1) X:=hA.fr ho hfr0 hB hblk hout
    have HM:=iY bz (zo+k) (cap - k) Z' _ X (Y.getD k 0) wr hblk hlz hA' (fun b off n c e=>by rcases ho b off n c e with h|h|h <;> omega) (by omega) (by omega) (by omega) z2
    have HS:=ac (fun Z2 cy hl2 hO2 h2=>nj Z' Z2 X Y zo k (Y.getD k 0) cy hl2 hkl (by omega) rfl hval hO2 h2)
    have HO:=ac hout
    have HF:=ac hfr0
    generalize Y.getD k 0=m at *
    obtain⟨t,ht1,ht2,e1,e2⟩:∃t:Nat,t≤k+X.length∧k+X.length≤t∧(k:Int)+(X.length:Int)=(t:Int)∧t - k=X.length:=⟨k+X.length,by omega,by omega,by omega,by omega⟩
    have hb1:(0:Int)≤(k:Int):=by omega
    have hkn:k≤k+X.length:=by omega
    have hkc:k+X.length≤cap:=by omega
    clear hcell hblk hfr0 hout hval hA hA2 ho ho2 hl1 hl2 hB hLZ mY hao2 hA'
    go_wp2_with fail
    refine HM.mono ?_
    rintro e w2 ⟨cy,Z2,rfl,hcy,hO2,hlz2,hb2,hf2,hv2⟩
    have HS2:=ac (HS.out Z2 cy hO2.len hO2 hv2)
    have hl2:=hO2.len
    have hfr:=hb2.free (zo+t)
    have hco:=hb2.cell (zo+t) (by omega)
    generalize Z2.getD (zo+t) 0=o at *
    have HB2:=ac hb2
    have HF2:=ac (HF.out.trans hf2)
    have HO2:=ac (HO.out.trans (hO2.wider (by omega) (by omega)))
    have ht3:t<X.length+Y.length:=by omega
    clear HM HS hO2 hb2 hf2 hv2 HF HO
    go_wp2
    go_roundw
    case rel=>
     refine⟨k+1,Z2.set (zo+t) cy,by omega,by go_num,HO2.out.set _ _ (by omega) (by omega),limbs_set hlz2 _ _ hcy,HB2.out.set _ cy,HF2.out.setCell _ _,?_⟩
     rw [show t=k+X.length by omega];exact HS2.out
    case measure=>simp [intOf];omega
  ·have ek:k=Y.length:=by omega
   subst ek
   rw [List.take_length,Nat.add_comm] at hval
   have HV:=ac hval
   have HB:=ac hblk
   have HF:=ac hfr0
   have HO:=ac hout
   clear hval hblk hfr0 hout hl1 hl2 hB hA hA2 ho ho2 hLZ
   go_wp2
   go_end0
   exact⟨rfl,Z',HO.out,hlz,HB.out,HF.out,HV.out⟩
end Go.Proofs.YtdbjbbdhlpfhjaaGreatDoor
namespace Go.Proofs.YtdbjbbdhlpfhjaaGreatDoor
open Go.RowKit
open Lm

def way (H T:Int):Value:=.agg #[.int .i64 H,.int .i64 T]

def aK (bz zo n:Nat)(Z:List Nat)(w:World)(p:Nat)(e:Ending)(w':World):Prop:=
 e=.returned (.tuple #[])∧∃Z':List Nat,Out Z Z' zo (zo+n)∧Limbs Z'∧Blk w' bz Z'∧Fr bz w w'∧sv Z' zo n=p

theorem aK.after {bz zo n:Nat}{Z:List Nat}{w w1:World}{p:Nat}{e:Ending}{w':World}(h:aK bz zo n Z w1 p e w')(hf:Fr bz w w1):aK bz zo n Z w p e w':=by
 obtain⟨he,Z',h1,h2,h3,h4,h5⟩:=h
 exact⟨he,Z',h1,h2,h3,hf.trans h4,h5⟩

theorem Blk.alloc {w:World}{b:Nat}{xs:List Nat}(h:Blk w b xs)(o:Obj):Blk (w.alloc o) b xs:=by
 unfold Blk
 rw [Below.heap_alloc w o b h.lt];exact h

theorem Fr.alloc (bz:Nat)(w:World)(o:Obj):Fr bz w (w.alloc o):=Fr.of_below ((Below.refl _ _).alloc (Nat.le_refl _) o)

theorem Arg.more {w:World}{v:Value}{zs:List Nat}(h:Arg w v zs)(o:Obj):Arg (w.alloc o) v zs:=h.below ((Below.refl _ _).alloc (Nat.le_refl _) _)

theorem rg (bz zo cap:Nat)(Z:List Nat)(va vb:Value)(X Y:List Nat)(w:World)(hB:Blk w bz Z)(hLZ:Limbs Z)(hA:Arg w va X)(hA2:Arg w vb Y)
  (ho:Off va bz zo (zo+(X.length+Y.length))) (ho2:Off vb bz zo (zo+(X.length+Y.length))) (hzo:zo+(X.length+Y.length)≤Z.length) (hc1:X.length+Y.length≤cap) (hc2:cap≤9223372036854775807) :
  Calls Tryz.prog 190 #[.slice (some ⟨bz,zo,none⟩) (X.length+Y.length) cap,vb,va] w (aK bz zo (X.length+Y.length) Z w (val X*val Y)):=by
 rw [Nat.add_comm X.length,Nat.mul_comm (val X)]
 rw [Nat.add_comm X.length] at ho ho2 hzo hc1
 exact kh bz zo cap Z vb va Y X w hB hLZ hA2 hA ho2 ho hzo hc1 hc2

theorem qC (H T:Int)(bz zo cap:Nat)(Z:List Nat)(va vb:Value)(X Y:List Nat)(w:World)(hB:Blk w bz Z)(hLZ:Limbs Z)(hA:Arg w va X)(hA2:Arg w vb Y)
  (ho:Off va bz zo (zo+(X.length+Y.length))) (ho2:Off vb bz zo (zo+(X.length+Y.length))) (hzo:zo+(X.length+Y.length)≤Z.length) (hc1:X.length+Y.length≤cap) (hc2:cap≤9223372036854775807)
  (hs:(X.length<Y.length∧(X.length:Int)<H∧(X.length:Int)<T)∨(Y.length≤X.length∧(Y.length:Int)<H∧(Y.length:Int)<T)) :
  Calls Tryz.prog 175 #[way H T,.slice (some ⟨bz,zo,none⟩) (X.length+Y.length) cap,va,vb] w (aK bz zo (X.length+Y.length) Z w (val X*val Y)):=by
 unfold way
 obtain⟨a1,c1,rfl,hcc1,hcm1,_⟩:=hA.form
 obtain⟨a2,c2,rfl,hcc2,hcm2,_⟩:=hA2.form
 have fX:=hA.few
 have fY:=hA2.few
 rcases hs with ⟨h1,h2,h3⟩|⟨h1,h2,h3⟩
 ·have i1:(X.length:Int)<(Y.length:Int):=by omega
  go_enter Tryz.func175,Tryz.ntmps175
  go_wp2_with fail
  refine (rg bz zo cap Z _ _ X Y _ (hB.alloc _) hLZ (hA.more _) (hA2.more _) ho ho2 hzo hc1 hc2).mono ?_
  rintro e w2 hd
  have HD:=ac (hd.after (Fr.alloc bz w _))
  obtain⟨he,_⟩:=hd
  subst he
  clear hA hA2 ho ho2 hB
  go_wp2
  go_end0
  exact HD.out
 ·have hd0:decide ((X.length:Int)<(Y.length:Int))=false:=decide_eq_false (by omega)
  go_enter Tryz.func175,Tryz.ntmps175
  go_wp2_with fail
  refine (kh bz zo cap Z _ _ X Y _ (hB.alloc _) hLZ (hA.more _) (hA2.more _) ho ho2 hzo hc1 hc2).mono ?_
  rintro e w2 hd
  have HD:=ac (aK.after hd (Fr.alloc bz w _))
  obtain⟨he,_⟩:=hd
  subst he
  clear hA hA2 ho ho2 hB
  go_wp2
  go_end0
  exact HD.out

def cJ (x y:Nat):Nat:=if x=0∨y=0 then 0 else blen x+blen y - 1

theorem lN (va vb:Value)(X Y:List Nat)(w:World)(hA:Arg w va X)(hA2:Arg w vb Y)(fX:X.length≤35184372088831)(fY:Y.length≤35184372088831) :
  Calls Tryz.prog 131 #[va,vb] w fun e w'=>e=.returned (.int .i64 ((cJ (val X) (val Y):Nat):Int))∧w'=w:=by
 have H1:=bB va X w hA
 have H2:=bB vb Y w hA2
 have b1:blen (val X)≤64*X.length:=by
  rw [blen_le_iff,Nat.mul_comm];have:=val_lt hA.limbs;rwa [W_pow] at this
 have b2:blen (val Y)≤64*Y.length:=by
  rw [blen_le_iff,Nat.mul_comm];have:=val_lt hA2.limbs;rwa [W_pow] at this
 have z1:blen (val X)=0 ↔ val X=0:=by
  unfold blen;split <;> simp [*]
 have z2:blen (val Y)=0 ↔ val Y=0:=by
  unfold blen;split <;> simp [*]
 have hL:cJ (val X) (val Y)=if blen (val X)=0∨blen (val Y)=0 then 0 else blen (val X)+blen (val Y) - 1:=by
  unfold cJ;simp only [z1,z2]
 rw [hL]
 clear hA hA2 z1 z2 hL
 generalize blen (val X)=x at *
 generalize blen (val Y)=y at *
 by_cases hx:x=0
 ·subst hx
  rw [if_pos (.inl rfl)]
  go_enter Tryz.func131,Tryz.ntmps131
  go_wp2_with fail
  refine H1.mono ?_
  rintro e w2 ⟨rfl,rfl⟩
  go_wp2_with fail
  refine H2.mono ?_
  rintro e w3 ⟨rfl,rfl⟩
  clear H1 H2
  go_wp2
  go_ret
  exact⟨rfl,rfl⟩
 ·have d1:((x:Int) == 0)=false:=by rw [beq_eq_false_iff_ne];omega
  by_cases hy:y=0
  ·subst hy
   rw [if_pos (.inr rfl)]
   go_enter Tryz.func131,Tryz.ntmps131
   go_wp2_with fail
   refine H1.mono ?_
   rintro e w2 ⟨rfl,rfl⟩
   go_wp2_with fail
   refine H2.mono ?_
   rintro e w3 ⟨rfl,rfl⟩
   clear H1 H2
   go_wp2
   go_ret
   exact⟨rfl,rfl⟩
  ·have d2:((y:Int) == 0)=false:=by rw [beq_eq_false_iff_ne];omega
   rw [if_neg (by omega)]
   have e1:(x:Int)+(y:Int) - 1=((x+y - 1:Nat):Int):=by omega
   generalize x+y - 1=t at *
   go_enter Tryz.func131,Tryz.ntmps131
   go_wp2_with fail
   refine H1.mono ?_
   rintro e w2 ⟨rfl,rfl⟩
   go_wp2_with fail
   refine H2.mono ?_
   rintro e w3 ⟨rfl,rfl⟩
   clear H1 H2
   go_wp2
   go_ret
   exact⟨rfl,rfl⟩
end Go.Proofs.YtdbjbbdhlpfhjaaGreatDoor

