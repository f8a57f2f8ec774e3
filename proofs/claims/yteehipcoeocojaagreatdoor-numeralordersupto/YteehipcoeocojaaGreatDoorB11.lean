/- The walk of the law NumeralOrders. -/
import Derived.Test.YteehipcoeocojaaGreatDoorB10
set_option maxRecDepth 20000
set_option maxHeartbeats 4000000
namespace Go.Proofs.YteehipcoeocojaaGreatDoor
open Go.RowKit
open Lm
attribute [local go_sem ↓] Go.wp_at_zero Go.wp_at_succ

theorem ix (k:Int)(w:World)(_:-9223372036854775808≤k)(_:k≤9223372036854775807):∃b:Nat,2≤b∧b≤36∧Calls Tryz.prog 27 #[.int .i64 k] w fun e w'=>e=.returned (.int .i64 b)∧w'=w:=by
 obtain⟨r,hr,hr1,hr2⟩:∃r:Int,k.tmod 35=r∧-35<r∧r<35:=⟨_,rfl,Int.lt_tmod_of_pos k (by omega),Int.tmod_lt_of_pos k (by omega)⟩
 by_cases h0:r<0
 ·obtain⟨r5,hr5⟩:∃r5:Int,r+35=r5:=⟨_,rfl⟩
  obtain⟨bb,hbb⟩:∃bb:Nat,r5+2=(bb:Int):=⟨(r5+2).toNat,by omega⟩
  have hx1:0<r5∧r5<35:=by omega
  refine⟨bb,by omega,by omega,?_⟩
  go_enter Tryz.func27,Tryz.ntmps27
  go_wp2
  go_ret
  exact⟨rfl,rfl⟩
 ·obtain⟨bb,hbb⟩:∃bb:Nat,r+2=(bb:Int):=⟨(r+2).toNat,by omega⟩
  refine⟨bb,by omega,by omega,?_⟩
  go_enter Tryz.func27,Tryz.ntmps27
  go_wp2
  go_ret
  exact⟨rfl,rfl⟩

structure kj (s t:ByteArray)(x y:Nat)(m n:Nat):Prop where
 l1:s.size=m
 l2:t.size=n
 less:m<n→x<y
 more:n<m→y<x
 ord:m=n→Op.bytesLess s.toList t.toList=decide (x<y)
 same:x=y→(s.toList == t.toList)=true∧m=n
 apart:x≠y→(s.toList == t.toList)=false

theorem di {b x y:Nat}{D E:List Nat}(hb:2≤b)(hb2:b≤36)(h1:au b x D.length)(h2:au b y E.length)(d1:∀i,i<D.length→D.getD i 0=x / b ^ (D.length - 1 - i) % b)(d2:∀i,i<E.length→E.getD i 0=y / b ^ (E.length - 1 - i) % b):kj (aq (D.map fig)) (aq (E.map fig)) x y D.length E.length:=by
 have e1:=eY rfl d1
 have e2:=eY rfl d2
 have q1:(aq (D.map fig)).toList=D.map sgn:=by rw [Lib.toList_data];exact cE D
 have q2:(aq (E.map fig)).toList=E.map sgn:=by rw [Lib.toList_data];exact cE E
 have s1:(aq (D.map fig)).size=D.length:=by
  have h:(aq (D.map fig)).data.toList.length=D.length:=by rw [cE,List.length_map]
  exact h
 have s2:(aq (E.map fig)).size=E.length:=by
  have h:(aq (E.map fig)).data.toList.length=E.length:=by rw [cE,List.length_map]
  exact h
 have up:∀ {x y m n:Nat},au b x m→au b y n→m<n→x<y:=by
  intro x y m n h1 h2 h
  rcases h2.2.2 with h3|h3
  ·have:=h1.1;omega
  ·exact Nat.lt_of_lt_of_le h1.2.1 (Nat.le_trans (Nat.pow_le_pow_right (by omega) (by omega)) h3)
 refine⟨s1,s2,fun h=>up h1 h2 h,fun h=>up h2 h1 h,fun h=>?_,fun h=>?_,fun h=>?_⟩
 ·rw [q1,q2,e1,e2,←h,jt b (by omega) hb2,Nat.mod_eq_of_lt h1.2.1,Nat.mod_eq_of_lt (by rw [h];exact h2.2.1)]
 ·subst h
  have hl:=h1.unique hb h2
  rw [q1,q2,e1,e2,hl]
  exact⟨by simp,rfl⟩
 ·rw [q1,q2]
  rw [beq_eq_false_iff_ne]
  intro h3
  have hl:D.length=E.length:=by simpa using congrArg List.length h3
  rw [e1,e2,←hl] at h3
  have h4:=kB b (by omega) hb2 x y D.length h3
  rw [Nat.mod_eq_of_lt h1.2.1,Nat.mod_eq_of_lt (by rw [hl];exact h2.2.1)] at h4
  exact h h4

theorem jg (b:Nat)(bi:Int)(va vb:Value)(X Y:List Nat)(w:World)(hb:2≤b)(hb2:b≤36)(hT:Tab w)(A0:Arg w va X)(s0:X.length≤1048576)(A1:Arg w vb Y)(s1:Y.length≤1048576)
  (HR:Calls Tryz.prog 27 #[.int .i64 bi] w fun e w'=>e=.returned (.int .i64 b)∧w'=w) (hxy:val X<val Y) :
  Calls Tryz.prog 8 #[va,vb,.int .i64 bi] w fun e w'=>e=.returned (.bool true)∧Below w.heap.size w w':=by
 have P1:=bQ va (val X) b w hb hb2 (bJ va X b w A0 hT s0 hb hb2)
 have HA0:=aa A0
 have HA1:=aa A1
 have HT:=aa hT
 clear hT A0 A1
 go_enter Tryz.func8,Tryz.ntmps8
 go_wp2_with fail
 refine HR.mono ?_
 rintro e wn ⟨rfl,hw⟩;rw [hw];clear hw wn HR
 go_wp2_with fail
 refine P1.mono ?_
 rintro e w1 ⟨D,rfl,hd1,hg1,hb1⟩
 have P2:=bQ vb (val Y) b w1 hb hb2 (bJ vb Y b w1 (HA1.out.below hb1) (HT.out.below hb1) s1 hb hb2)
 have H1:=aa (And.intro hd1 hg1)
 have HB1:=aa hb1
 clear P1 hd1 hg1 hb1
 go_wp2_with fail
 refine P2.mono ?_
 rintro e w2 ⟨E,rfl,hd2,hg2,hb2'⟩
 have TT:=di hb hb2 H1.out.1 hd2 H1.out.2 hg2
 have hB2:=HB1.out.trans (hb2'.mono HB1.out.size)
 have hC:=bN va vb X Y w2 (HA0.out.below hB2) (HA1.out.below hB2)
 obtain⟨s,hs⟩:∃s,aq (D.map fig)=s:=⟨_,rfl⟩
 obtain⟨t,ht⟩:∃t,aq (E.map fig)=t:=⟨_,rfl⟩
 rw [hs,ht] at TT
 rw [hs,ht]
 obtain⟨m,hm⟩:∃m,D.length=m:=⟨_,rfl⟩
 obtain⟨n,hn⟩:∃n,E.length=n:=⟨_,rfl⟩
 rw [hm,hn] at TT
 have z1:=TT.l1
 have z2:=TT.l2
 rw [cmpN_lt hxy] at hC
 rcases Nat.lt_trichotomy m n with h|h|h
 ·have hl:(s.size:Int)<(t.size:Int):=by omega
  clear z1 z2 h
  have HB2:=aa hB2
  have HTT:=aa TT
  clear P2 hd2 hg2 hb2' hB2 hs ht hm hn H1 TT HB1
  go_wp2_with fail
  refine hC.mono ?_
  rintro e w3 ⟨rfl,hs3⟩
  have HB3:=aa (HB2.out.trans ((hs3.below w2.heap.size).mono HB2.out.size))
  have HLV:=cd w3 (HT.out.below HB3.out)
  clear hC hs3
  go_wp2_with fail
  refine HLV.mono ?_
  rintro e w4 ⟨rfl,hb4⟩
  have HB4:=aa (HB3.out.trans (hb4.mono HB3.out.size))
  clear HLV hb4
  go_wp2
  go_ret
  exact⟨rfl,HB4.out⟩
 ·have hle:Op.bytesLess s.toList t.toList=true:=by rw [TT.ord h];exact decide_eq_true hxy
  have hlen:t.size=s.size:=by omega
  have hnl:¬((s.size:Int)<(s.size:Int)):=by omega
  clear z1 z2 h
  have HB2:=aa hB2
  have HTT:=aa TT
  clear P2 hd2 hg2 hb2' hB2 hs ht hm hn H1 TT HB1
  go_wp2_with fail
  refine hC.mono ?_
  rintro e w3 ⟨rfl,hs3⟩
  have HB3:=aa (HB2.out.trans ((hs3.below w2.heap.size).mono HB2.out.size))
  have HLV:=cd w3 (HT.out.below HB3.out)
  clear hC hs3
  go_wp2_with fail
  refine HLV.mono ?_
  rintro e w4 ⟨rfl,hb4⟩
  have HB4:=aa (HB3.out.trans (hb4.mono HB3.out.size))
  clear HLV hb4
  go_wp2
  go_ret
  exact⟨rfl,HB4.out⟩
 ·exact absurd (TT.more h) (by omega)

theorem kk (b:Nat)(bi:Int)(va vb:Value)(X Y:List Nat)(w:World)(hb:2≤b)(hb2:b≤36)(hT:Tab w)(A0:Arg w va X)(s0:X.length≤1048576)(A1:Arg w vb Y)(s1:Y.length≤1048576)
  (HR:Calls Tryz.prog 27 #[.int .i64 bi] w fun e w'=>e=.returned (.int .i64 b)∧w'=w) (hxy:val Y<val X) :
  Calls Tryz.prog 8 #[va,vb,.int .i64 bi] w fun e w'=>e=.returned (.bool true)∧Below w.heap.size w w':=by
 have P1:=bQ va (val X) b w hb hb2 (bJ va X b w A0 hT s0 hb hb2)
 have HA0:=aa A0
 have HA1:=aa A1
 have HT:=aa hT
 clear hT A0 A1
 go_enter Tryz.func8,Tryz.ntmps8
 go_wp2_with fail
 refine HR.mono ?_
 rintro e wn ⟨rfl,hw⟩;rw [hw];clear hw wn HR
 go_wp2_with fail
 refine P1.mono ?_
 rintro e w1 ⟨D,rfl,hd1,hg1,hb1⟩
 have P2:=bQ vb (val Y) b w1 hb hb2 (bJ vb Y b w1 (HA1.out.below hb1) (HT.out.below hb1) s1 hb hb2)
 have H1:=aa (And.intro hd1 hg1)
 have HB1:=aa hb1
 clear P1 hd1 hg1 hb1
 go_wp2_with fail
 refine P2.mono ?_
 rintro e w2 ⟨E,rfl,hd2,hg2,hb2'⟩
 have TT:=di hb hb2 H1.out.1 hd2 H1.out.2 hg2
 have hB2:=HB1.out.trans (hb2'.mono HB1.out.size)
 have hC:=bN va vb X Y w2 (HA0.out.below hB2) (HA1.out.below hB2)
 obtain⟨s,hs⟩:∃s,aq (D.map fig)=s:=⟨_,rfl⟩
 obtain⟨t,ht⟩:∃t,aq (E.map fig)=t:=⟨_,rfl⟩
 rw [hs,ht] at TT
 rw [hs,ht]
 obtain⟨m,hm⟩:∃m,D.length=m:=⟨_,rfl⟩
 obtain⟨n,hn⟩:∃n,E.length=n:=⟨_,rfl⟩
 rw [hm,hn] at TT
 have z1:=TT.l1
 have z2:=TT.l2
 rw [cmpN_gt hxy] at hC
 have hse:=TT.apart (by omega)
 rcases Nat.lt_trichotomy m n with h|h|h
 ·exact absurd (TT.less h) (by omega)
 ·have hle:Op.bytesLess s.toList t.toList=false:=by rw [TT.ord h];exact decide_eq_false (by omega)
  have hlen:t.size=s.size:=by omega
  have hnl:¬((s.size:Int)<(s.size:Int)):=by omega
  clear z1 z2 h
  have HB2:=aa hB2
  have HTT:=aa TT
  clear P2 hd2 hg2 hb2' hB2 hs ht hm hn H1 TT HB1
  go_wp2_with fail
  refine hC.mono ?_
  rintro e w3 ⟨rfl,hs3⟩
  have HB3:=aa (HB2.out.trans ((hs3.below w2.heap.size).mono HB2.out.size))
  have HLV:=cd w3 (HT.out.below HB3.out)
  clear hC hs3
  go_wp2_with fail
  refine HLV.mono ?_
  rintro e w4 ⟨rfl,hb4⟩
  have HB4:=aa (HB3.out.trans (hb4.mono HB3.out.size))
  clear HLV hb4
  go_wp2
  go_ret
  exact⟨rfl,HB4.out⟩
 ·have hl:¬((s.size:Int)<(t.size:Int)):=by omega
  have hne:((s.size:Int) == (t.size:Int))=false:=by rw [beq_eq_false_iff_ne];omega
  clear z1 z2 h
  have HB2:=aa hB2
  have HTT:=aa TT
  clear P2 hd2 hg2 hb2' hB2 hs ht hm hn H1 TT HB1
  go_wp2_with fail
  refine hC.mono ?_
  rintro e w3 ⟨rfl,hs3⟩
  have HB3:=aa (HB2.out.trans ((hs3.below w2.heap.size).mono HB2.out.size))
  have HLV:=cd w3 (HT.out.below HB3.out)
  clear hC hs3
  go_wp2_with fail
  refine HLV.mono ?_
  rintro e w4 ⟨rfl,hb4⟩
  have HB4:=aa (HB3.out.trans (hb4.mono HB3.out.size))
  clear HLV hb4
  go_wp2
  go_ret
  exact⟨rfl,HB4.out⟩

theorem kZ (b:Nat)(bi:Int)(va vb:Value)(X Y:List Nat)(w:World)(hb:2≤b)(hb2:b≤36)(hT:Tab w)(A0:Arg w va X)(s0:X.length≤1048576)(A1:Arg w vb Y)(s1:Y.length≤1048576)
  (HR:Calls Tryz.prog 27 #[.int .i64 bi] w fun e w'=>e=.returned (.int .i64 b)∧w'=w) (hxy:val X=val Y) :
  Calls Tryz.prog 8 #[va,vb,.int .i64 bi] w fun e w'=>e=.returned (.bool true)∧Below w.heap.size w w':=by
 have P1:=bQ va (val X) b w hb hb2 (bJ va X b w A0 hT s0 hb hb2)
 have HA0:=aa A0
 have HA1:=aa A1
 have HT:=aa hT
 clear hT A0 A1
 go_enter Tryz.func8,Tryz.ntmps8
 go_wp2_with fail
 refine HR.mono ?_
 rintro e wn ⟨rfl,hw⟩;rw [hw];clear hw wn HR
 go_wp2_with fail
 refine P1.mono ?_
 rintro e w1 ⟨D,rfl,hd1,hg1,hb1⟩
 have P2:=bQ vb (val Y) b w1 hb hb2 (bJ vb Y b w1 (HA1.out.below hb1) (HT.out.below hb1) s1 hb hb2)
 have H1:=aa (And.intro hd1 hg1)
 have HB1:=aa hb1
 clear P1 hd1 hg1 hb1
 go_wp2_with fail
 refine P2.mono ?_
 rintro e w2 ⟨E,rfl,hd2,hg2,hb2'⟩
 have TT:=di hb hb2 H1.out.1 hd2 H1.out.2 hg2
 have hB2:=HB1.out.trans (hb2'.mono HB1.out.size)
 have hC:=bN va vb X Y w2 (HA0.out.below hB2) (HA1.out.below hB2)
 obtain⟨s,hs⟩:∃s,aq (D.map fig)=s:=⟨_,rfl⟩
 obtain⟨t,ht⟩:∃t,aq (E.map fig)=t:=⟨_,rfl⟩
 rw [hs,ht] at TT
 rw [hs,ht]
 obtain⟨m,hm⟩:∃m,D.length=m:=⟨_,rfl⟩
 obtain⟨n,hn⟩:∃n,E.length=n:=⟨_,rfl⟩
 rw [hm,hn] at TT
 have z1:=TT.l1
 have z2:=TT.l2
 obtain⟨hse,hmn⟩:=TT.same hxy
 have hle:Op.bytesLess s.toList t.toList=false:=by rw [TT.ord hmn];exact decide_eq_false (by omega)
 have hlen:t.size=s.size:=by omega
 have hnl:¬((s.size:Int)<(s.size:Int)):=by omega
 rw [show cmpN (val X) (val Y)=0 by rw [hxy];simp [cmpN]] at hC
 clear z1 z2 hmn
 have HB2:=aa hB2
 have HTT:=aa TT
 clear P2 hd2 hg2 hb2' hB2 hs ht hm hn H1 TT HB1
 go_wp2_with fail
 refine hC.mono ?_
 rintro e w3 ⟨rfl,hs3⟩
 have HB3:=aa (HB2.out.trans ((hs3.below w2.heap.size).mono HB2.out.size))
 have HLV:=cd w3 (HT.out.below HB3.out)
 clear hC hs3
 go_wp2_with fail
 refine HLV.mono ?_
 rintro e w4 ⟨rfl,hb4⟩
 have HB4:=aa (HB3.out.trans (hb4.mono HB3.out.size))
 clear HLV hb4
 go_wp2
 go_ret
 exact⟨rfl,HB4.out⟩

theorem ib (v0:Value)(z0:List Nat)(v1:Value)(z1:List Nat)(k:Int)(w:World)(hT:Tab w)(A0:Arg w v0 z0)(s0:z0.length≤1048576)(A1:Arg w v1 z1)(s1:z1.length≤1048576)(h1:-9223372036854775808≤k)(h2:k≤9223372036854775807) :
  Calls Tryz.prog 8 #[v0,v1,.int .i64 k] w fun e w'=>e=.returned (.bool true)∧Below w.heap.size w w':=by
 obtain⟨b,hb,hb2,HR⟩:=ix k w h1 h2
 rcases Nat.lt_trichotomy (val z0) (val z1) with h|h|h
 ·exact jg b k v0 v1 z0 z1 w hb hb2 hT A0 s0 A1 s1 HR h
 ·exact kZ b k v0 v1 z0 z1 w hb hb2 hT A0 s0 A1 s1 HR h
 ·exact kk b k v0 v1 z0 z1 w hb hb2 hT A0 s0 A1 s1 HR h

end Go.Proofs.YteehipcoeocojaaGreatDoor
