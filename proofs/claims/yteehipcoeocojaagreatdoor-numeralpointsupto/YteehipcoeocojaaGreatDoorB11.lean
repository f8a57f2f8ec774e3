/- Package numeral: surelyBig, readFew of the laws' example. -/
import Derived.Test.YteehipcoeocojaaGreatDoorB03
import Derived.Test.YteehipcoeocojaaGreatDoorB09
import Derived.Test.YteehipcoeocojaaGreatDoorB10
import Derived.Deep.RegionHeld3
import Derived.Test.YteehipcoeocojaaGreatDoorB02
import Derived.Deep.QuietTactic
import Derived.BigQuiet
set_option maxRecDepth 20000
set_option maxHeartbeats 4000000
namespace Go.Proofs.YteehipcoeocojaaGreatDoor
open Go.RowKit
open Lm
attribute [local go_sem ↓] Go.wp_at_zero Go.wp_at_succ

theorem bB {w:World}{h:Nat}{a b a' b':Value}{t:TypeId}(e:w.heap[h]?=some (.cells #[a,b] t)):((w.setCell ⟨h,0,none⟩ a').setCell ⟨h,1,none⟩ b').heap[h]?=some (.cells #[a',b'] t):=
 aL (aL e a') b'

theorem aJ {w:World}{h g o:Nat}{x:Obj}{v:Value}(e:w.heap[h]?=some x)(hne:h≠g):(w.setCell ⟨g,o,none⟩ v).heap[h]?=some x:=by
 rw [Below.heap_setCell _ _ _ _ hne];exact e

theorem bF {B:Nat}{w0 w:World}{g:Nat}{u0 u1:Value}(h:Below B w0 w)(hg:B≤g):Below B w0 ((w.setCell ⟨g,0,none⟩ u0).setCell ⟨g,1,none⟩ u1):=
 (h.setCell (p:=⟨g,0,none⟩) hg u0).setCell (p:=⟨g,1,none⟩) hg u1

theorem j9 (w:World):Calls Tryz.prog 88 #[.int .u64 16,.int .i64 1] w fun e w'=>e=.returned (.agg #[.int .u64 9223372036854775808,.int .i64 (-59)])∧Below w.heap.size w w':=by
 have HLN:=fun W=>Tryz.bits_Len 1 W (by omega) (by omega)
 rw [show Lib.bitLen (1:Int).toNat=1 from rfl] at HLN
 obtain⟨w0,hw0⟩:∃w0,w.alloc (.cells #[.int .u64 0,.int .i64 0] 128)=w0:=⟨_,rfl⟩
 have hb0:Below w.heap.size w w0:=by rw [←hw0];exact ac _ _
 have h0:w0.heap[w.heap.size]?=some (.cells #[.int .u64 0,.int .i64 0] 128):=by rw [←hw0];exact heap_alloc_new ..
 have HW0:=aa hw0
 have HB0:=aa hb0
 have H0:=aa h0
 clear hw0 hb0 h0
 go_enter Tryz.func88,Tryz.ntmps88
 go_wp2_with fail
 rw [HW0.out]
 refine (fS w0).mono ?_
 rintro e w1 ⟨rfl,hb1⟩
 have HB1:=aa hb1
 clear hb1
 go_wp2_with fail
 refine (lx w1).mono ?_
 rintro e w2 ⟨rfl,hb2⟩
 have hb02:=HB1.out.trans (hb2.mono HB1.out.size)
 obtain⟨wa,hwa⟩:∃wa,w2.alloc (.cells #[.int .u64 9223372036854775808,.int .i64 (-63)] 128)=wa:=⟨_,rfl⟩
 have hsa:wa.heap.size=w2.heap.size+1:=by rw [←hwa];exact World.size_alloc _ _
 obtain⟨w3,hw3⟩:∃w3,wa.alloc (.cells #[.int .u64 9223372036854775808,.int .i64 (-59)] 128)=w3:=⟨_,rfl⟩
 have hba:Below w2.heap.size w2 wa:=by rw [←hwa];exact ac _ _
 have hb3:Below wa.heap.size wa w3:=by rw [←hw3];exact ac _ _
 have hb23:=hba.trans (hb3.mono hba.size)
 have k5:w3.heap[w2.heap.size]?=some (.cells #[.int .u64 9223372036854775808,.int .i64 (-63)] 128):=au hb3 (by rw [←hwa];exact heap_alloc_new ..)
 have k6:w3.heap[w2.heap.size+1]?=some (.cells #[.int .u64 9223372036854775808,.int .i64 (-59)] 128):=by
  have h:=heap_alloc_new wa (.cells #[.int .u64 9223372036854775808,.int .i64 (-59)] 128)
  rw [hsa,hw3] at h
  exact h
 have hb03:=hb02.trans (hb23.mono hb02.size)
 have k4:=au hb03 H0.out
 have HW3:=aa (show (w2.alloc (.cells #[.int .u64 9223372036854775808,.int .i64 (-63)] 128)).alloc (.cells #[.int .u64 9223372036854775808,.int .i64 (-59)] 128)=w3 by rw [hwa,hw3])
 have HB3:=aa (HB0.out.trans (hb03.mono HB0.out.size))
 have hlt:w.heap.size<w2.heap.size:=Nat.lt_of_lt_of_le (lt_of_block H0.out) hb02.size
 obtain⟨g,hg⟩:∃g,w2.heap.size=g:=⟨_,rfl⟩
 obtain⟨g6,hg6⟩:∃g6,g+1=g6:=⟨_,rfl⟩
 rw [hg] at k5 hlt
 rw [hg,hg6] at k6
 have HG:=aa (And.intro hg hg6)
 have hg6':g<g6:=by omega
 have HK:=aa (And.intro k4 (And.intro k5 k6))
 clear hb2 hb02 hwa hw3 hba hb3 hb23 hb03 hsa k4 k5 k6 hg hg6
 go_wp2_with fail
 rw [HW3.out]
 refine (HLN _).mono ?_
 rintro e wn ⟨rfl,hw⟩;rw [hw,HG.out.1,HG.out.2];clear hw wn HLN
 go_wp2
 refine wp_loop_rounds 2 ?_
 rw [rounds_succ]
 obtain⟨c50,c51⟩:=ak HK.out.2.1
 obtain⟨c60,c61⟩:=ak HK.out.2.2
 have F1:=fH (-63) (-63) (-126) (-62) (-63) w3 (by omega) (by omega) (by omega) (by omega) (by omega)
 go_wp2_with fail
 refine F1.mono ?_
 rintro e w4 ⟨rfl,hb4⟩
 have k5:=au hb4 HK.out.2.1
 have k6:=au hb4 HK.out.2.2
 have k4:=au hb4 HK.out.1
 have HB4:=aa (HB3.out.trans (hb4.mono HB3.out.size))
 have hf5:=bJ k5
 obtain⟨d50,d51⟩:=ak k5
 have s5:=bB k5 (a':=.int .u64 9223372036854775808) (b':=.int .i64 (-63))
 obtain⟨w5,hw5⟩:∃w5,(w4.setCell ⟨g,0,none⟩ (.int .u64 9223372036854775808)).setCell ⟨g,1,none⟩ (.int .i64 (-63))=w5:=⟨_,rfl⟩
 have s6:w5.heap[g6]?=some (.cells #[.int .u64 9223372036854775808,.int .i64 (-59)] 128):=by rw [←hw5];exact aJ (aJ k6 (by omega)) (by omega)
 have s4:w5.heap[w.heap.size]?=some (.cells #[.int .u64 0,.int .i64 0] 128):=by rw [←hw5];exact aJ (aJ k4 (by omega)) (by omega)
 have HB5:=aa (show Below w.heap.size w w5 by rw [←hw5];exact bF HB4.out (by omega))
 rw [hw5] at s5
 have x5:=ak s5
 have x6:=ak s6
 rw [←hw5] at x5 x6
 obtain⟨x50,x51⟩:=x5
 obtain⟨x60,x61⟩:=x6
 have F2:=fH (-63) (-59) (-122) (-58) (-59) w5 (by omega) (by omega) (by omega) (by omega) (by omega)
 have HW5:=aa hw5
 have HS:=aa (And.intro s4 s5)
 clear F1 hb4 k4 k5 k6 hw5 s4 s5 s6 HK c50 c51 c60 c61
 go_wp2_with fail
 rw [HW5.out]
 refine F2.mono ?_
 rintro e w6 ⟨rfl,hb6⟩
 have k5:=au hb6 HS.out.2
 have k4:=au hb6 HS.out.1
 have HB6:=aa (HB5.out.trans (hb6.mono HB5.out.size))
 clear x50 x51 x60 x61 hf5 d50 d51 F2 hb6
 have hf5:=bJ k5
 obtain⟨d50,d51⟩:=ak k5
 have s5:=bB k5 (a':=.int .u64 9223372036854775808) (b':=.int .i64 (-59))
 obtain⟨w7,hw7⟩:∃w7,(w6.setCell ⟨g,0,none⟩ (.int .u64 9223372036854775808)).setCell ⟨g,1,none⟩ (.int .i64 (-59))=w7:=⟨_,rfl⟩
 have s4:w7.heap[w.heap.size]?=some (.cells #[.int .u64 0,.int .i64 0] 128):=by rw [←hw7];exact aJ (aJ k4 (by omega)) (by omega)
 have HB7:=aa (show Below w.heap.size w w7 by rw [←hw7];exact bF HB6.out (by omega))
 rw [hw7] at s5
 have x5:=ak s5
 have x4:=ak s4
 have f4:=bJ s4
 rw [←hw7] at x5 x4 f4
 obtain⟨x50,x51⟩:=x5
 obtain⟨x40,x41⟩:=x4
 have HW7:=aa hw7
 have HS7:=aa s4
 clear k4 k5 hw7 s4 s5
 go_wp2
 rw [rounds_succ]
 go_wp2
 rw [HW7.out]
 have R5:=bB HS7.out (a':=.int .u64 9223372036854775808) (b':=.int .i64 (-59))
 have HD:=aa (bF HB7.out (g:=w.heap.size) (u0:=.int .u64 9223372036854775808) (u1:=.int .i64 (-59)) (Nat.le_refl _))
 clear x50 x51 x40 x41 f4 hf5 d50 d51
 generalize (w7.setCell ⟨w.heap.size,0,none⟩ (.int .u64 9223372036854775808)).setCell ⟨w.heap.size,1,none⟩ (.int .i64 (-59))=w8 at *
 obtain⟨q0,q1⟩:=ak R5
 refine bodyPost_ret (v:=.agg #[.int .u64 9223372036854775808,.int .i64 (-59)]) (by simp [results,Tryz.results88,go_sem,q0,q1]) rfl ?_
 exact⟨rfl,HD.out⟩

structure Nr (V m f c:Nat):Prop where
 low:9223372036854775808≤m
 high:m<18446744073709551616
 below:m*2 ^ f≤V*9223372036854775808
 cuts:V*9223372036854775808*9223372036854775807 ^ c≤m*2 ^ f*9223372036854775808 ^ c

theorem Nr.ge {V m f c:Nat}(h:Nr V m f c):2 ^ f≤V:=by
 have h1:=Nat.mul_le_mul_right (2 ^ f) h.low
 have h2:=h.below
 omega

def aG (P:Nat):Nat:=if P<170141183460469231731687303715884105728 then P / 9223372036854775808 else P / 18446744073709551616
def aB (P:Nat):Nat:=if P<170141183460469231731687303715884105728 then 0 else 1

theorem kg {m1 m2:Nat}(h1:9223372036854775808≤m1)(h1':m1<18446744073709551616)(h2:9223372036854775808≤m2)(h2':m2<18446744073709551616) :
  9223372036854775808≤aG (m1*m2)∧aG (m1*m2)<18446744073709551616∧aG (m1*m2)*2 ^ aB (m1*m2)*9223372036854775808≤m1*m2∧m1*m2*9223372036854775807≤aG (m1*m2)*2 ^ aB (m1*m2)*9223372036854775808*9223372036854775808:=by
 have a1:9223372036854775808*9223372036854775808≤m1*m2:=Nat.mul_le_mul h1 h2
 have a2:m1*m2<18446744073709551616*18446744073709551616:=Nat.mul_lt_mul_of_lt_of_lt h1' h2'
 generalize m1*m2=P at *
 unfold aG aB
 split
 ·rename_i h
  simp only [Nat.pow_zero,Nat.mul_one]
  omega
 ·rename_i h
  simp only [Nat.pow_one]
  omega

theorem jH (K m T F1 F2 m1 m2 V1 V2:Nat)(hK:0<K)(t3:m*T*K≤m1*m2)(b1:m1*F1*(m2*F2)≤V1*K*(V2*K)):m*(F1*F2*T)≤V1*V2*K:=by
 refine Nat.le_of_mul_le_mul_right (c:=K) ?_ hK
 have h1:=Nat.mul_le_mul_right (F1*F2) t3
 have e1:m*T*K*(F1*F2)=m*(F1*F2*T)*K:=by ac_rfl
 have e2:m1*m2*(F1*F2)=m1*F1*(m2*F2):=by ac_rfl
 have e3:V1*K*(V2*K)=V1*V2*K*K:=by ac_rfl
 omega

theorem md (K k m T F1 F2 m1 m2 V1 V2 k1 k2 K1 K2:Nat)(hK:0<K)(t4:m1*m2*k≤m*T*K*K)(b2:V1*K*k1*(V2*K*k2)≤m1*F1*K1*(m2*F2*K2)):V1*V2*K*(k1*k2*k)≤m*(F1*F2*T)*(K1*K2*K):=by
 refine Nat.le_of_mul_le_mul_right (c:=K) ?_ hK
 have h1:=Nat.mul_le_mul_right k b2
 have h2:=Nat.mul_le_mul_right (F1*F2*(K1*K2)) t4
 have e1:V1*V2*K*(k1*k2*k)*K=V1*K*k1*(V2*K*k2)*k:=by ac_rfl
 have e2:m1*F1*K1*(m2*F2*K2)*k=m1*m2*k*(F1*F2*(K1*K2)):=by ac_rfl
 have e3:m*T*K*K*(F1*F2*(K1*K2))=m*(F1*F2*T)*(K1*K2*K)*K:=by ac_rfl
 omega

theorem Nr.times {V1 m1 f1 c1 V2 m2 f2 c2:Nat}(h1:Nr V1 m1 f1 c1)(h2:Nr V2 m2 f2 c2):Nr (V1*V2) (aG (m1*m2)) (f1+f2+aB (m1*m2)) (c1+c2+1):=by
 obtain⟨t1,t2,t3,t4⟩:=kg h1.low h1.high h2.low h2.high
 have b1:=Nat.mul_le_mul h1.below h2.below
 have b2:=Nat.mul_le_mul h1.cuts h2.cuts
 generalize aG (m1*m2)=m at *
 obtain⟨T,hT⟩:∃T,2 ^ aB (m1*m2)=T:=⟨_,rfl⟩
 rw [hT] at t3 t4
 refine⟨t1,t2,?_,?_⟩
 ·rw [Nat.pow_add,Nat.pow_add,hT]
  exact jH _ _ _ _ _ _ _ _ _ (by omega) t3 b1
 ·rw [Nat.pow_add 2,Nat.pow_add 2,Nat.pow_add,Nat.pow_add,Nat.pow_add,Nat.pow_add,Nat.pow_one,Nat.pow_one,hT]
  exact md _ _ _ _ _ _ _ _ _ _ _ _ _ _ (by omega) t4 b2

theorem Nr.one_times {V m f c:Nat}(h:Nr V m f c):aG (9223372036854775808*m)=m∧aB (9223372036854775808*m)=0:=by
 have h1:=h.low
 have h2:=h.high
 unfold aG aB
 rw [if_pos (by omega),if_pos (by omega)]
 omega

theorem Nr.exact (v s:Nat)(h1:9223372036854775808≤v*2 ^ s)(h2:v*2 ^ s<18446744073709551616)(hs:s≤63):Nr v (v*2 ^ s) (63 - s) 0:=by
 have e:v*2 ^ s*2 ^ (63 - s)=v*9223372036854775808:=by
  rw [Nat.mul_assoc,←Nat.pow_add,show s+(63 - s)=63 by omega]
 exact⟨h1,h2,by rw [e];exact Nat.le_refl _,by rw [e];exact Nat.le_refl _⟩

theorem kf (K c:Nat)(hK:1≤K):K ^ c*K≤(K - 1) ^ c*K+c*K ^ c:=by
 obtain⟨k,rfl⟩:∃k,K=k+1:=⟨K - 1,by omega⟩
 rw [Nat.add_sub_cancel]
 induction c with
 | zero=>simp
 | succ c ih=>
  have hle:k ^ c≤(k+1) ^ c:=Nat.pow_le_pow_left (by omega) c
  have h1:=Nat.mul_le_mul_right k ih
  rw [Nat.pow_succ,Nat.pow_succ]
  generalize (k+1) ^ c=A at *
  generalize k ^ c=B at *
  have e1:A*(k+1)*(k+1)=A*(k+1)*k+A*(k+1):=by rw [Nat.mul_add,Nat.mul_one]
  have e2:(B*(k+1)+c*A)*k=B*k*(k+1)+c*(A*k):=by rw [Nat.add_mul];ac_rfl
  have e3:(c+1)*(A*(k+1))=c*(A*k)+c*A+A*(k+1):=by rw [Nat.add_mul,Nat.one_mul,Nat.mul_add,Nat.mul_one,Nat.mul_add]
  omega

theorem Nr.above {V m f c:Nat}(h:Nr V m f c)(hc:c≤1152921504606846976):V*9223372036854775808≤(m+4*c)*2 ^ f:=by
 have h1:=h.cuts
 have h2:=kf 9223372036854775808 c (by omega)
 rw [show 9223372036854775808 - 1=9223372036854775807 from rfl] at h2
 have hp:0<9223372036854775808 ^ c:=Nat.pow_pos (by omega)
 have hm:=h.high
 generalize (9223372036854775808:Nat) ^ c=A at *
 generalize (9223372036854775807:Nat) ^ c=B at *
 generalize 2 ^ f=F at *
 have h3:V*9223372036854775808*(9223372036854775808 - c)*A≤m*F*9223372036854775808*A:=by
  have h4:=Nat.mul_le_mul_left (V*9223372036854775808) h2
  have h5:=Nat.mul_le_mul_right 9223372036854775808 h1
  have e1:V*9223372036854775808*(A*9223372036854775808)=V*9223372036854775808*(9223372036854775808 - c)*A+V*9223372036854775808*(c*A):=by
   rw [Nat.mul_assoc _ (9223372036854775808 - c),←Nat.mul_add,←Nat.add_mul,Nat.sub_add_cancel (by omega),Nat.mul_comm A]
  have e2:V*9223372036854775808*(B*9223372036854775808+c*A)=V*9223372036854775808*B*9223372036854775808+V*9223372036854775808*(c*A):=by rw [Nat.mul_add,Nat.mul_assoc _ B]
  have e3:m*F*A*9223372036854775808=m*F*9223372036854775808*A:=by ac_rfl
  omega
 have h6:=Nat.le_of_mul_le_mul_right h3 hp
 refine Nat.le_of_mul_le_mul_right (c:=9223372036854775808 - c) ?_ (by omega)
 refine Nat.le_trans h6 ?_
 have e4:m*F*9223372036854775808=(m*9223372036854775808)*F:=by ac_rfl
 have e5:(m+4*c)*F*(9223372036854775808 - c)=((m+4*c)*(9223372036854775808 - c))*F:=by ac_rfl
 rw [e4,e5]
 refine Nat.mul_le_mul_right F ?_
 rw [Nat.mul_sub]
 have h7:(m+4*c)*c≤4*c*9223372036854775808:=by
  have h8:m+4*c≤4*9223372036854775808:=by omega
  have h9:=Nat.mul_le_mul_right c h8
  have e6:4*9223372036854775808*c=4*c*9223372036854775808:=by ac_rfl
  omega
 have e7:(m+4*c)*9223372036854775808=m*9223372036854775808+4*c*9223372036854775808:=Nat.add_mul _ _ _
 refine Nat.le_sub_of_add_le ?_
 rw [e7]
 exact Nat.add_le_add_left h7 _

theorem dW (m1 m2:Nat)(e1 e2:Int)(w:World)(h1':m1<18446744073709551616)(h2':m2<18446744073709551616)(b1:-1000≤e1)(b1':e1≤2305843009213693952)(b2:-1000≤e2)(b2':e2≤2305843009213693952) :
  Calls Tryz.prog 113 #[.agg #[.int .u64 m1,.int .i64 e1],.agg #[.int .u64 m2,.int .i64 e2]] w fun e w'=>e=.returned (.agg #[.int .u64 (aG (m1*m2):Nat),.int .i64 (e1+e2+63+(aB (m1*m2):Nat))])∧Below w.heap.size w w':=by
 have a2:m1*m2<18446744073709551616*18446744073709551616:=Nat.mul_lt_mul_of_lt_of_lt h1' h2'
 have hM:=fun W=>Tryz.bits_Mul64 m1 m2 h1' h2' W
 obtain⟨e3,he3⟩:∃e3:Int,e1+e2=e3:=⟨_,rfl⟩
 obtain⟨e4,he4⟩:∃e4:Int,e3+64=e4:=⟨_,rfl⟩
 have w3:IntKind.i64.wrap e3=e3:=by rw [IntKind.wrap_i64];omega
 have w4:IntKind.i64.wrap e4=e4:=by rw [IntKind.wrap_i64];omega
 generalize m1*m2=P at *
 have hHi:P / 18446744073709551616<18446744073709551616:=by omega
 have hLo:P % 18446744073709551616<18446744073709551616:=by omega
 unfold aG aB
 by_cases hP:P<170141183460469231731687303715884105728
 ·rw [if_pos hP,if_pos hP]
  obtain⟨e5,he5⟩:∃e5:Int,e4 - 1=e5:=⟨_,rfl⟩
  have w5:IntKind.i64.wrap e5=e5:=by rw [IntKind.wrap_i64];omega
  have hres:e3+63+((0:Nat):Int)=e5:=by omega
  rw [he3,hres]
  have q1:((P / 18446744073709551616:Nat):Int) / 9223372036854775808=0:=by omega
  obtain⟨l,hl,hl2⟩:∃l:Nat,((P % 18446744073709551616:Nat):Int) / 9223372036854775808=(l:Int)∧l<2:=⟨P % 18446744073709551616 / 9223372036854775808,by omega,by omega⟩
  have q2:=b9 (P / 18446744073709551616) 1 (P / 18446744073709551616*2) (by omega)
  have q3:=fE (P / 18446744073709551616) 1 l (P / 9223372036854775808) (by omega) (by omega) (by omega) (by omega)
  rw [Int.pow_one] at q2
  rw [Nat.pow_one] at q3
  generalize P / 9223372036854775808=R at *
  generalize P / 18446744073709551616=H at *
  generalize P % 18446744073709551616=Lo at *
  have q4:bits BinOp.or IntKind.u64 ((H:Int)*2) (l:Int)=(R:Int):=by have:=q3;push_cast at this;exact this
  clear q3
  have ba:=ac w (.cells #[.int .u64 m1,.int .i64 e1] 128)
  have bb:=ac (w.alloc (.cells #[.int .u64 m1,.int .i64 e1] 128)) (.cells #[.int .u64 m2,.int .i64 e2] 128)
  have bc:=ac ((w.alloc (.cells #[.int .u64 m1,.int .i64 e1] 128)).alloc (.cells #[.int .u64 m2,.int .i64 e2] 128)) (.cells #[.int .u64 R,.int .i64 e5] 128)
  have bab:=ba.trans (bb.mono ba.size)
  have HB:=aa (bab.trans (bc.mono bab.size))
  clear ba bb bc bab
  go_enter Tryz.func113,Tryz.ntmps113
  go_wp2_with fail
  refine (hM _).mono ?_
  rintro e wn ⟨rfl,hw⟩;rw [hw];clear hw wn hM
  go_wp2
  go_returns
  exact⟨rfl,HB.out⟩
 ·rw [if_neg hP,if_neg hP]
  have hres:e3+63+((1:Nat):Int)=e4:=by omega
  rw [he3,hres]
  have q1:((P / 18446744073709551616:Nat):Int) / 9223372036854775808=1:=by omega
  generalize P / 18446744073709551616=H at *
  generalize P % 18446744073709551616=Lo at *
  have ba:=ac w (.cells #[.int .u64 m1,.int .i64 e1] 128)
  have bb:=ac (w.alloc (.cells #[.int .u64 m1,.int .i64 e1] 128)) (.cells #[.int .u64 m2,.int .i64 e2] 128)
  have bc:=ac ((w.alloc (.cells #[.int .u64 m1,.int .i64 e1] 128)).alloc (.cells #[.int .u64 m2,.int .i64 e2] 128)) (.cells #[.int .u64 H,.int .i64 e4] 128)
  have bab:=ba.trans (bb.mono ba.size)
  have HB:=aa (bab.trans (bc.mono bab.size))
  clear ba bb bc bab
  go_enter Tryz.func113,Tryz.ntmps113
  go_wp2_with fail
  refine (hM _).mono ?_
  rintro e wn ⟨rfl,hw⟩;rw [hw];clear hw wn hM
  go_wp2
  go_returns
  exact⟨rfl,HB.out⟩

theorem fZ (v:Nat)(w:World)(hv:0<v)(hv2:v<18446744073709551616) :
  Calls Tryz.prog 112 #[.int .u64 v] w fun e w'=>∃m f:Nat,e=.returned (.agg #[.int .u64 m,.int .i64 ((f:Int) - 63)])∧Nr v m f 0∧f≤63∧Below w.heap.size w w':=by
 have HZ:=fun W=>Tryz.bits_LeadingZeros64 v W (by omega) (by omega)
 obtain⟨hb1,hb2,hb3⟩:1≤Lib.bitLen v∧2 ^ (Lib.bitLen v - 1)≤v∧v<2 ^ Lib.bitLen v:=Lib.bitLenAux_bounds 64 v hv2 (by omega)
 have hb64:Lib.bitLen v≤64:=Lib.bitLen_le v 64 (by omega) hv2
 obtain⟨s,hs,hs1,hs2⟩:∃s:Nat,64 - (Lib.bitLen v:Int)=(s:Int)∧Lib.bitLen v=64 - s∧s≤63:=⟨64 - Lib.bitLen v,by omega,by omega,by omega⟩
 simp only [Int.toNat_natCast,hs] at HZ
 rw [hs1] at hb2 hb3
 have h1:9223372036854775808≤v*2 ^ s:=by
  have:=Nat.mul_le_mul_right (2 ^ s) hb2
  rw [←Nat.pow_add,show 64 - s - 1+s=63 by omega] at this
  exact this
 have h2:v*2 ^ s<18446744073709551616:=by
  have:=Nat.mul_lt_mul_of_pos_right hb3 (show 0<2 ^ s from Nat.pow_pos (by omega))
  rw [←Nat.pow_add,show 64 - s+s=64 by omega] at this
  exact this
 have HN:=aa (Nr.exact v s h1 h2 hs2)
 have hw:=b9 v s (v*2 ^ s) (Nat.mod_eq_of_lt h2)
 have hsl:(s:Int)<64:=by omega
 have hs0:(0:Int)≤(s:Int):=by omega
 have he:((63 - s:Nat):Int) - 63=-(s:Int):=by omega
 generalize v*2 ^ s=m at *
 have HB:=aa (ac w (.cells #[.int .u64 m,.int .i64 (-(s:Int))] 128))
 clear hb1 hb2 hb3 hb64 hs hs1 h1 h2
 go_enter Tryz.func112,Tryz.ntmps112
 go_wp2_with fail
 refine (HZ _).mono ?_
 rintro e wn ⟨rfl,hw⟩;rw [hw];clear hw wn HZ
 go_wp2
 go_returns
 exact⟨m,63 - s,by rw [he],HN.out,by omega,HB.out⟩

def Pw (b q m f:Nat):Prop:=(q=0∧m=9223372036854775808∧f=0)∨(1≤q∧∃c,c+1≤q∧Nr (b ^ q) m f c)

theorem Pw.range {b q m f:Nat}(h:Pw b q m f):9223372036854775808≤m∧m<18446744073709551616:=by
 rcases h with ⟨_,rfl,_⟩|⟨_,c,_,h⟩
 ·omega
 ·exact⟨h.low,h.high⟩

theorem Pw.exp {b q m f:Nat}(hb:b≤64)(h:Pw b q m f):f≤6*q:=by
 rcases h with ⟨_,_,rfl⟩|⟨_,c,_,h⟩
 ·omega
 ·have h1:=h.ge
  have h2:b ^ q≤2 ^ (6*q):=by rw [Nat.pow_mul];exact Nat.pow_le_pow_left hb q
  exact (Nat.pow_le_pow_iff_right (show 1<2 by omega)).1 (Nat.le_trans h1 h2)

theorem Pw.sq {b q m f:Nat}(h:Pw b q m f):Pw b (2*q) (aG (m*m)) (f+f+aB (m*m)):=by
 rcases h with ⟨rfl,rfl,rfl⟩|⟨hq,c,hc,h⟩
 ·exact .inl ⟨rfl,by decide,by decide⟩
 ·refine .inr ⟨by omega,c+c+1,by omega,?_⟩
  rw [show 2*q=q+q by omega,Nat.pow_add]
  exact h.times h

theorem Pw.mul {b q m f mb fb:Nat}(h:Pw b q m f)(hb:Nr b mb fb 0):Pw b (q+1) (aG (m*mb)) (f+fb+aB (m*mb)):=by
 rcases h with ⟨rfl,rfl,rfl⟩|⟨hq,c,hc,h⟩
 ·obtain⟨e1,e2⟩:=hb.one_times
  rw [e1,e2]
  refine .inr ⟨by omega,0,by omega,?_⟩
  rw [Nat.zero_add,Nat.zero_add,Nat.add_zero,Nat.pow_one]
  exact hb
 ·refine .inr ⟨by omega,c+0+1,by omega,?_⟩
  rw [Nat.pow_succ]
  exact h.times hb

def bG (w:World)(g m:Nat)(f:Nat):Prop:=w.heap[g]?=some (.cells #[.int .u64 m,.int .i64 ((f:Int) - 63)] 128)

theorem jq (b n:Nat)(w:World)(hb:1≤b)(hb2:b≤64)(hn:n≤1125899906842624) :
  Calls Tryz.prog 88 #[.int .u64 b,.int .i64 n] w fun e w'=>∃m f:Nat,e=.returned (.agg #[.int .u64 m,.int .i64 ((f:Int) - 63)])∧Pw b n m f∧Below w.heap.size w w':=by
 have HLN:=fun W=>Tryz.bits_Len (n:Int) W (by omega) (by omega)
 simp only [Int.toNat_natCast] at HLN
 obtain⟨L,hL⟩:∃L,Lib.bitLen n=L:=⟨_,rfl⟩
 have hnl:n<2 ^ L:=by
  rw [←hL]
  rcases Nat.eq_zero_or_pos n with h|h
  ·subst h;decide
  ·exact (Lib.bitLenAux_bounds 64 n (by omega) (by omega)).2.2
 have hL64:L≤64:=by rw [←hL];exact Lib.bitLen_le n 64 (by omega) (by omega)
 rw [hL] at HLN
 have HN1:=fun W=>fZ 1 W (by omega) (by omega)
 have HNB:=fun W=>fZ b W (by omega) (by omega)
 obtain⟨w0,hw0⟩:∃w0,w.alloc (.cells #[.int .u64 0,.int .i64 0] 128)=w0:=⟨_,rfl⟩
 have hb0:Below w.heap.size w w0:=by rw [←hw0];exact ac _ _
 have h0:w0.heap[w.heap.size]?=some (.cells #[.int .u64 0,.int .i64 0] 128):=by rw [←hw0];exact heap_alloc_new ..
 have HW0:=aa hw0
 have HB0:=aa hb0
 have H0:=aa h0
 have HNL:=aa hnl
 clear hw0 hb0 h0 hL hnl
 go_enter Tryz.func88,Tryz.ntmps88
 go_wp2_with fail
 rw [HW0.out]
 refine (fS w0).mono ?_
 rintro e w1 ⟨rfl,hb1⟩
 have HB1:=aa hb1
 clear hb1 HN1
 go_wp2_with fail
 refine (HNB w1).mono ?_
 rintro e w2 ⟨mb,fb,rfl,hNb,hfb,hb2'⟩
 have hb02:=HB1.out.trans (hb2'.mono HB1.out.size)
 obtain⟨wa,hwa⟩:∃wa,w2.alloc (.cells #[.int .u64 9223372036854775808,.int .i64 (-63)] 128)=wa:=⟨_,rfl⟩
 have hsa:wa.heap.size=w2.heap.size+1:=by rw [←hwa];exact World.size_alloc _ _
 obtain⟨w3,hw3⟩:∃w3,wa.alloc (.cells #[.int .u64 mb,.int .i64 ((fb:Int) - 63)] 128)=w3:=⟨_,rfl⟩
 have hba:Below w2.heap.size w2 wa:=by rw [←hwa];exact ac _ _
 have hb3:Below wa.heap.size wa w3:=by rw [←hw3];exact ac _ _
 have hb23:=hba.trans (hb3.mono hba.size)
 have k5:bG w3 w2.heap.size 9223372036854775808 0:=au hb3 (by rw [←hwa];exact heap_alloc_new ..)
 have k6:bG w3 (w2.heap.size+1) mb fb:=by
  have h:=heap_alloc_new wa (.cells #[.int .u64 mb,.int .i64 ((fb:Int) - 63)] 128)
  rw [hsa,hw3] at h
  exact h
 have hb03:=hb02.trans (hb23.mono hb02.size)
 have k4:=au hb03 H0.out
 have HW3:=aa (show (w2.alloc (.cells #[.int .u64 9223372036854775808,.int .i64 (-63)] 128)).alloc (.cells #[.int .u64 mb,.int .i64 ((fb:Int) - 63)] 128)=w3 by rw [hwa,hw3])
 have HB3:=aa (HB0.out.trans (hb03.mono HB0.out.size))
 have hlt:w.heap.size<w2.heap.size:=Nat.lt_of_lt_of_le (lt_of_block H0.out) hb02.size
 obtain⟨g,hg⟩:∃g,w2.heap.size=g:=⟨_,rfl⟩
 obtain⟨g6,hg6⟩:∃g6,g+1=g6:=⟨_,rfl⟩
 rw [hg] at k5 hlt
 rw [hg,hg6] at k6
 have HG:=aa (And.intro hg hg6)
 have hg6':g<g6:=by omega
 have HK:=aa (And.intro k4 (And.intro k5 k6))
 have HNb:=aa hNb
 clear hb2' hb02 hwa hw3 hba hb3 hb23 hb03 hsa k4 k5 k6 hg hg6 hNb HNB
 go_wp2_with fail
 rw [HW3.out]
 refine (HLN _).mono ?_
 rintro e wn ⟨rfl,hw⟩;rw [hw,HG.out.1,HG.out.2];clear hw wn HLN
 go_wp2
 go_loopw [7] (fun i wr=>∃(k m f:Nat),i=.int .i64 ((k:Int) - 1)∧k≤L∧bG wr g m f∧Pw b (n / 2 ^ k) m f∧bG wr g6 mb fb∧wr.heap[w.heap.size]?=some (.cells #[.int .u64 0,.int .i64 0] 128)∧Below w.heap.size w wr) (fun i _=>(intOf i+1).toNat)
 case atStart=>
  exact⟨L,9223372036854775808,0,rfl,Nat.le_refl _,HK.out.2.1,by rw [Nat.div_eq_of_lt HNL.out];exact .inl ⟨rfl,rfl,rfl⟩,HK.out.2.2,HK.out.1,HB3.out⟩
 case round=>
  obtain⟨k,m,f,rfl,hk,hAt,hPw,hAt6,hRes,hbel⟩:=hrel
  have HAt:=aa hAt
  have HPw:=aa hPw
  have HAt6:=aa hAt6
  have HRes:=aa hRes
  have HBW:=aa hbel
  obtain⟨c0,c1⟩:=ak hAt
  clear hAt hPw hAt6 hRes hbel HK HB3
  by_cases hk0:k=0
  ·subst hk0
   obtain⟨d0,d1⟩:=ak HRes.out
   have hf:=bJ HRes.out
   go_wp2
   have R5:=bB HRes.out (a':=.int .u64 m) (b':=.int .i64 ((f:Int) - 63))
   have HD:=aa (bF HBW.out (g:=w.heap.size) (u0:=.int .u64 m) (u1:=.int .i64 ((f:Int) - 63)) (Nat.le_refl _))
   generalize (wr.setCell ⟨w.heap.size,0,none⟩ (.int .u64 m)).setCell ⟨w.heap.size,1,none⟩ (.int .i64 ((f:Int) - 63))=w8 at *
   obtain⟨q0,q1⟩:=ak R5
   refine bodyPost_ret (v:=.agg #[.int .u64 m,.int .i64 ((f:Int) - 63)]) (by simp [results,Tryz.results88,go_sem,q0,q1]) rfl ?_
   refine⟨m,f,rfl,?_,HD.out⟩
   have:=HPw.out
   rw [Nat.pow_zero,Nat.div_one] at this
   exact this
  ·obtain⟨j,rfl⟩:∃j,k=j+1:=⟨k - 1,by omega⟩
   have ej:(((j+1:Nat):Int) - 1)=(j:Int):=by omega
   rw [ej]
   have hj0:(0:Int)≤(j:Int):=by omega
   have hj64:j<64:=by omega
   have hst:=gg n j
   have hle:n / 2 ^ j≤n:=Nat.div_le_self _ _
   have hsh:(n:Int) / 2 ^ j=((n / 2 ^ j:Nat):Int):=by rw [Int.natCast_ediv,Int.natCast_pow];rfl
   have hand:=gh ((n / 2 ^ j:Nat):Int)
   have hm2:((n / 2 ^ j:Nat):Int) % 2=((n / 2 ^ j % 2:Nat):Int):=by omega
   rw [hm2] at hand
   have wj:IntKind.i64.wrap (((n / 2 ^ j:Nat)):Int)=(((n / 2 ^ j:Nat)):Int):=by rw [IntKind.wrap_i64];omega
   generalize n / 2 ^ (j+1)=p at *
   obtain⟨q,hq⟩:∃q,n / 2 ^ j=q:=⟨_,rfl⟩
   rw [hq] at hst hle hsh hand hm2 wj
   have HQD:=aa hq
   have HQ:=aa (And.intro hst hle)
   have hfe:=HPw.out.exp hb2
   have hr1:=HPw.out.range
   have F1:=dW m m ((f:Int) - 63) ((f:Int) - 63) wr hr1.2 hr1.2 (by omega) (by omega) (by omega) (by omega)
   have hsq:=HPw.out.sq
   obtain⟨f3,hf3,ef3⟩:∃f3:Nat,f+f+aB (m*m)=f3∧(f:Int) - 63+((f:Int) - 63)+63+(aB (m*m):Nat)=(f3:Int) - 63:=⟨_,rfl,by omega⟩
   rw [ef3] at F1
   rw [hf3] at hsq
   generalize aG (m*m)=m3 at *
   have HSQ:=aa hsq
   clear hq hst hfe hr1 hsq hf3 ef3 hk0 ej
   go_wp2_with fail
   refine F1.mono ?_
   rintro e w3' ⟨rfl,hb3⟩
   have k5:=au hb3 HAt.out
   have k6:=au hb3 HAt6.out
   have k4:=au hb3 HRes.out
   have hB3:=HBW.out.trans (hb3.mono HBW.out.size)
   have hf5:=bJ k5
   obtain⟨d50,d51⟩:=ak k5
   have s5:=bB k5 (a':=.int .u64 m3) (b':=.int .i64 ((f3:Int) - 63))
   obtain⟨w5,hw5⟩:∃w5,(w3'.setCell ⟨g,0,none⟩ (.int .u64 m3)).setCell ⟨g,1,none⟩ (.int .i64 ((f3:Int) - 63))=w5:=⟨_,rfl⟩
   have s6:bG w5 g6 mb fb:=by rw [←hw5];exact aJ (aJ k6 (by omega)) (by omega)
   have s4:w5.heap[w.heap.size]?=some (.cells #[.int .u64 0,.int .i64 0] 128):=by rw [←hw5];exact aJ (aJ k4 (by omega)) (by omega)
   have HB5:=aa (show Below w.heap.size w w5 by rw [←hw5];exact bF hB3 (by omega))
   rw [hw5] at s5
   have HS:=aa (And.intro s4 (And.intro (show bG w5 g m3 f3 from s5) s6))
   have HW5:=aa hw5
   clear F1 hb3 k4 k5 k6 hB3 c0 c1 HAt HAt6 HRes HBW HPw
   rcases Nat.mod_two_eq_zero_or_one q with h0|h1
   ·rw [h0] at hand
    have HEQ:Hid (2*p=q):=aa (by have:=HQ.out.1;omega)
    clear h0 hw5 s4 s5 s6
    go_wp2
    go_roundw
    case rel=>exact⟨j,m3,f3,rfl,by omega,by rw [HW5.out];exact HS.out.2.1,by rw [HQD.out,←HEQ.out];exact HSQ.out,by rw [HW5.out];exact HS.out.2.2,by rw [HW5.out];exact HS.out.1,by rw [HW5.out];exact HB5.out⟩
    case measure=>simp [intOf]
   ·rw [h1] at hand
    have HEQ:Hid (2*p+1=q):=aa (by have:=HQ.out.1;omega)
    have x5:=ak s5
    have x6:=ak s6
    rw [←hw5] at x5 x6
    obtain⟨x50,x51⟩:=x5
    obtain⟨x60,x61⟩:=x6
    have hfe:=HSQ.out.exp hb2
    have hr1:=HSQ.out.range
    have F2:=dW m3 mb ((f3:Int) - 63) ((fb:Int) - 63) w5 hr1.2 HNb.out.high (by omega) (by have:=HQ.out;omega) (by omega) (by omega)
    have hmu:=HSQ.out.mul HNb.out
    rw [HEQ.out] at hmu
    obtain⟨f4,hf4,ef4⟩:∃f4:Nat,f3+fb+aB (m3*mb)=f4∧(f3:Int) - 63+((fb:Int) - 63)+63+(aB (m3*mb):Nat)=(f4:Int) - 63:=⟨_,rfl,by omega⟩
    rw [ef4] at F2
    rw [hf4] at hmu
    generalize aG (m3*mb)=m4 at *
    have HMU:=aa hmu
    clear h1 hw5 s4 s5 s6 hfe hr1 hmu hf4 ef4
    go_wp2_with fail
    rw [HW5.out]
    refine F2.mono ?_
    rintro e w6 ⟨rfl,hb6⟩
    have k4:=au hb6 HS.out.1
    have k5:=au hb6 HS.out.2.1
    have k6:=au hb6 HS.out.2.2
    have hB6:=HB5.out.trans (hb6.mono HB5.out.size)
    clear x50 x51 x60 x61 hf5 d50 d51 F2 hb6
    have hf5:=bJ k5
    obtain⟨d50,d51⟩:=ak k5
    have t5:=bB k5 (a':=.int .u64 m4) (b':=.int .i64 ((f4:Int) - 63))
    obtain⟨w7,hw7⟩:∃w7,(w6.setCell ⟨g,0,none⟩ (.int .u64 m4)).setCell ⟨g,1,none⟩ (.int .i64 ((f4:Int) - 63))=w7:=⟨_,rfl⟩
    have t6:bG w7 g6 mb fb:=by rw [←hw7];exact aJ (aJ k6 (by omega)) (by omega)
    have t4:w7.heap[w.heap.size]?=some (.cells #[.int .u64 0,.int .i64 0] 128):=by rw [←hw7];exact aJ (aJ k4 (by omega)) (by omega)
    have HB7:=aa (show Below w.heap.size w w7 by rw [←hw7];exact bF hB6 (by omega))
    rw [hw7] at t5
    have HS7:=aa (And.intro t4 (And.intro (show bG w7 g m4 f4 from t5) t6))
    have HW7:=aa hw7
    clear k4 k5 k6 hw7 t4 t5 t6 hB6
    go_wp2
    go_roundw
    case rel=>exact⟨j,m4,f4,rfl,by omega,by rw [HW7.out];exact HS7.out.2.1,by rw [HQD.out];exact HMU.out,by rw [HW7.out];exact HS7.out.2.2,by rw [HW7.out];exact HS7.out.1,by rw [HW7.out];exact HB7.out⟩
    case measure=>simp [intOf]

theorem Pw.above {b q m f:Nat}(h:Pw b q m f)(hq:q≤1125899906842624):b ^ q*9223372036854775808≤(m+4*q)*2 ^ f:=by
 rcases h with ⟨rfl,rfl,rfl⟩|⟨_,c,hc,h⟩
 ·simp
 ·refine Nat.le_trans (h.above (by omega)) (Nat.mul_le_mul_right _ (by omega))
end Go.Proofs.YteehipcoeocojaaGreatDoor
namespace Go.Proofs.YteehipcoeocojaaGreatDoor
open Lm

structure Top (a m f:Nat):Prop where
 low:9223372036854775808≤m
 high:m<18446744073709551616
 below:m*2 ^ f≤a*9223372036854775808
 above:a*9223372036854775808<(m+1)*2 ^ f

theorem gj {f E:Nat}(h:f<E):2*2 ^ f≤2 ^ E:=by
 rw [Nat.mul_comm,←Nat.pow_succ]
 exact Nat.pow_le_pow_right (by omega) h

theorem Pw.over {b n m f a lm E:Nat}(h:Pw b n m f)(t:Top a lm E)(hc:E<f∨(f=E∧lm<m)):a<b ^ n:=by
 have h1:m*2 ^ f≤b ^ n*9223372036854775808:=by
  rcases h with ⟨rfl,rfl,rfl⟩|⟨_,c,_,h⟩
  ·simp
  ·exact h.below
 have h2:=t.above
 have hr:=h.range
 have hl:=t.high
 refine Nat.lt_of_mul_lt_mul_right (a:=9223372036854775808) (Nat.lt_of_lt_of_le h2 (Nat.le_trans ?_ h1))
 rcases hc with hc|⟨rfl,hc⟩
 ·have h3:=gj hc
  have h4:(lm+1)*2 ^ E≤18446744073709551616*2 ^ E:=Nat.mul_le_mul_right _ (by omega)
  have h5:9223372036854775808*2 ^ f≤m*2 ^ f:=Nat.mul_le_mul_right _ hr.1
  omega
 ·exact Nat.mul_le_mul_right _ (by omega)

theorem Pw.under {b n m f a lm E:Nat}(h:Pw b n m f)(t:Top a lm E)(hn:n≤1125899906842624)(hw:m+4*n<18446744073709551616)(hc:f<E∨(f=E∧m+4*n≤lm)):b ^ n≤a:=by
 have h1:=h.above hn
 have h2:=t.below
 have hl:=t.low
 refine Nat.le_of_mul_le_mul_right (c:=9223372036854775808) (Nat.le_trans h1 (Nat.le_trans ?_ h2)) (by omega)
 rcases hc with hc|⟨rfl,hc⟩
 ·have h3:=gj hc
  have h4:(m+4*n)*2 ^ f≤18446744073709551616*2 ^ f:=Nat.mul_le_mul_right _ (by omega)
  have h5:9223372036854775808*2 ^ E≤lm*2 ^ E:=Nat.mul_le_mul_right _ hl
  omega
 ·exact Nat.mul_le_mul_right _ hc

theorem Top.of {a L:Nat}(h1:2 ^ (L - 1)≤a)(h2:a<2 ^ L)(hL:64<L):Top a (a / 2 ^ (L - 64)) (L - 64+63):=by
 obtain⟨e,rfl⟩:∃e,L=e+64:=⟨L - 64,by omega⟩
 rw [show e+64 - 64=e by omega]
 have hp:0<2 ^ e:=Nat.pow_pos (by omega)
 have e1:2 ^ (e+64 - 1)=9223372036854775808*2 ^ e:=by rw [show e+64 - 1=e+63 by omega,Nat.pow_add,Nat.mul_comm]
 have e2:2 ^ (e+64)=18446744073709551616*2 ^ e:=by rw [Nat.pow_add,Nat.mul_comm]
 have e3:2 ^ (e+63)=9223372036854775808*2 ^ e:=by rw [Nat.pow_add,Nat.mul_comm]
 rw [e1] at h1
 rw [e2] at h2
 have d1:=Nat.div_mul_le_self a (2 ^ e)
 have d2:=Nat.lt_div_mul_add (a:=a) hp
 refine⟨(Nat.le_div_iff_mul_le hp).2 h1,(Nat.div_lt_iff_lt_mul hp).2 h2,?_,?_⟩
 ·rw [e3]
  generalize a / 2 ^ e=q at *
  have e4:q*(9223372036854775808*2 ^ e)=q*2 ^ e*9223372036854775808:=by ac_rfl
  rw [e4]
  exact Nat.mul_le_mul_right _ d1
 ·rw [e3]
  generalize a / 2 ^ e=q at *
  have e4:(q+1)*(9223372036854775808*2 ^ e)=(q*2 ^ e+2 ^ e)*9223372036854775808:=by rw [Nat.add_mul q 1,Nat.one_mul,Nat.add_mul];ac_rfl
  rw [e4]
  exact Nat.mul_lt_mul_of_pos_right d2 (by omega)
end Go.Proofs.YteehipcoeocojaaGreatDoor
namespace Go.Proofs.YteehipcoeocojaaGreatDoor
open Go.RowKit
open Lm
attribute [local go_sem ↓] Go.wp_at_zero Go.wp_at_succ

theorem fj {X:List Nat}(h:Limbs X)(l:Nat)(hl:l<X.length):val X / 18446744073709551616 ^ l=X.getD l 0+18446744073709551616*(val X / 18446744073709551616 ^ (l+1)):=by
 have h1:X.getD l 0=val X / 18446744073709551616 ^ l % 18446744073709551616:=by
  revert l
  induction X with
  | nil=>intro l hl;simp at hl
  | cons a r ih=>
   intro l hl
   have ha:a<18446744073709551616:=h a (List.mem_cons_self ..)
   have hr:Limbs r:=fun z hz=>h z (List.mem_cons_of_mem _ hz)
   cases l with
   | zero=>simp [val];omega
   | succ l=>
    have:=ih hr l (by simpa using hl)
    simp only [List.getD_cons_succ,val]
    rw [this,Nat.pow_succ,Nat.mul_comm (18446744073709551616 ^ l),←Nat.div_div_eq_div_mul]
    congr 2
    omega
 rw [h1,Nat.pow_succ,←Nat.div_div_eq_div_mul]
 omega

theorem iV (x u s:Nat)(hs:s≤64):(x+18446744073709551616*u) / 2 ^ s=x / 2 ^ s+u*2 ^ (64 - s):=by
 have e:18446744073709551616*u=2 ^ s*(u*2 ^ (64 - s)):=by
  rw [Nat.mul_left_comm,←Nat.pow_add,show s+(64 - s)=64 by omega,Nat.mul_comm]
 rw [e,Nat.add_mul_div_left _ _ (Nat.pow_pos (by omega))]

theorem ix (h s l U:Nat)(hs:s≤64)(hl:l<2 ^ s)(hh:h*2 ^ s<18446744073709551616)(hU:U=h*2 ^ s+l):bits BinOp.or IntKind.u64 (l:Int) ((h*2 ^ s:Nat):Int)=(U:Int):=by
 have hll:l<18446744073709551616:=Nat.lt_of_lt_of_le hl (by rw [show (18446744073709551616:Nat)=2 ^ 64 from rfl];exact Nat.pow_le_pow_right (by omega) hs)
 rw [bits_or_u64_nat _ _ hll hh,Nat.or_comm,hU,Nat.mul_comm h,Nat.two_pow_add_eq_or_of_lt hl]

theorem g5 (va:Value)(X:List Nat)(w:World)(hA:Arg w va X)(hL:64<blen (val X)) :
  Calls Tryz.prog 86 #[va] w fun e w'=>∃m f:Nat,e=.returned (.agg #[.int .u64 m,.int .i64 ((f:Int) - 63)])∧Top (val X) m f∧f+1=blen (val X)∧Below w.heap.size w w':=by
 have HL:=fun W (hA:Arg W va X)=>az va X W hA
 obtain⟨ao,cap,rfl,hc,hm,hli⟩:=hA.form
 have hlim:=hA.limbs
 have hfew:=hA.few
 have hv:=val_lt hlim
 obtain⟨L,hLe⟩:∃L,blen (val X)=L:=⟨_,rfl⟩
 have hup:val X<2 ^ L:=(blen_le_iff _ _).1 (by omega)
 have hlo:2 ^ (L - 1)≤val X:=by
  rcases Nat.lt_or_ge (val X) (2 ^ (L - 1)) with h|h
  ·have:=(blen_le_iff _ _).2 h;omega
  ·exact h
 have htop:=Top.of hlo hup (by omega)
 have hLX:L≤64*X.length:=by rw [←hLe];exact (blen_le_iff _ _).2 (by rw [Nat.pow_mul];exact hv)
 rw [hLe]
 simp only [hLe] at HL
 rw [hLe] at hL
 obtain⟨l,s,hls,hs⟩:∃l s,L - 64=64*l+s∧s<64:=⟨(L - 64) / 64,(L - 64) % 64,by omega,by omega⟩
 have hll:l<X.length:=by omega
 have hdiv:val X / 2 ^ (L - 64)=(X.getD l 0+18446744073709551616*(val X / 18446744073709551616 ^ (l+1))) / 2 ^ s:=by
  rw [hls,Nat.pow_add,←Nat.div_div_eq_div_mul,Nat.pow_mul,←fj hlim l hll]
 rw [iV _ _ _ (by omega)] at hdiv
 have hx0:=limb_lt hlim l
 have hnext:s≠0→l+1<X.length∧val X / 18446744073709551616 ^ (l+1)=X.getD (l+1) 0∧X.getD (l+1) 0*2 ^ (64 - s)<18446744073709551616:=by
  intro h0
  have hl1:l+1<X.length:=by omega
  have hu:=fj hlim (l+1) hl1
  have hb:=htop.high
  rw [hdiv] at hb
  have hu2:val X / 18446744073709551616 ^ (l+1)*2 ^ (64 - s)<18446744073709551616:=Nat.lt_of_le_of_lt (Nat.le_add_left _ _) hb
  have hu3:val X / 18446744073709551616 ^ (l+1)<18446744073709551616:=by
   have:val X / 18446744073709551616 ^ (l+1)*1≤val X / 18446744073709551616 ^ (l+1)*2 ^ (64 - s):=Nat.mul_le_mul_left _ (Nat.pow_pos (by omega))
   omega
  have hu4:val X / 18446744073709551616 ^ (l+1)=X.getD (l+1) 0:=by omega
  refine⟨hl1,hu4,?_⟩
  rw [←hu4];exact hu2
 obtain⟨W,hW⟩:∃W,w.alloc (.cells #[.int .u64 0,.int .i64 0] 128)=W:=⟨_,rfl⟩
 have hbW:Below w.heap.size w W:=by rw [←hW];exact ac _ _
 have HLW:=HL W (hA.below hbW)
 obtain⟨b,off,rfl,hcell⟩:∃b off,ao=some ⟨b,off,none⟩∧∀k,k<X.length→W.cell? ⟨b,off+k,none⟩=some (.int .u64 ((X.getD k 0:Nat):Int)):=by
  rcases hli.below hbW with h|h
  ·rw [h] at hll;simp at hll
  ·exact h
 have hc0:=hcell l hll
 have hbox:W.heap[w.heap.size]?=some (.cells #[.int .u64 0,.int .i64 0] 128):=by rw [←hW];exact heap_alloc_new ..
 obtain⟨d0,d1⟩:=ak hbox
 have hfz:=bJ hbox
 obtain⟨E,hE,hE2⟩:∃E:Nat,(L:Int) - 64=(E:Int)∧L - 64=E:=⟨L - 64,by omega,rfl⟩
 have hq:(E:Int) / 64=(l:Int):=by omega
 have hr:(E:Int) % 64=(s:Int):=by omega
 have hq':(E:Int).tdiv 64=(l:Int):=by rw [Int.tdiv_eq_ediv_of_nonneg (by omega)];exact hq
 have hr':(E:Int).tmod 64=(s:Int):=by rw [Int.tmod_eq_emod_of_nonneg (by omega)];exact hr
 have hsh:((X.getD l 0:Nat):Int) / 2 ^ s=((X.getD l 0 / 2 ^ s:Nat):Int):=by rw [Int.natCast_ediv,Int.natCast_pow];rfl
 have hs0:(0:Int)≤(s:Int):=by omega
 have hs64:(s:Int)<64:=by omega
 have hl0:(0:Int)≤(l:Int):=by omega
 have hlX:(l:Int)<(X.length:Int):=by omega
 have hfx:((L - 64+63:Nat):Int) - 63=(E:Int):=by omega
 have HT:=aa htop
 have HB:=aa hbW
 have HBox:=aa hbox
 have hxs:X.getD l 0 / 2 ^ s<18446744073709551616:=Nat.lt_of_le_of_lt (Nat.div_le_self _ _) hx0
 by_cases hz:s=0
 ·subst hz
  rw [Nat.pow_zero,Nat.div_one,Nat.sub_zero,show (2:Nat) ^ 64=18446744073709551616 from rfl] at hdiv
  have hM:val X / 2 ^ (L - 64)=X.getD l 0:=by have hb:=htop.high;omega
  rw [hM] at htop
  have HM:=aa htop
  clear htop HT hM hdiv hnext hcell hbox hbW hA hli HL hup hlo hlim hv
  generalize X.getD l 0=M at *
  have R5:=bB HBox.out (a':=.int .u64 M) (b':=.int .i64 (E:Int))
  have HD:=aa (bF HB.out (g:=w.heap.size) (u0:=.int .u64 M) (u1:=.int .i64 (E:Int)) (Nat.le_refl _))
  go_enter Tryz.func86,Tryz.ntmps86
  go_wp2_with fail
  refine HLW.mono ?_
  rintro e wn ⟨rfl,hw⟩;rw [hw];clear hw wn HLW
  go_wp2
  generalize (W.setCell ⟨w.heap.size,0,none⟩ (.int .u64 M)).setCell ⟨w.heap.size,1,none⟩ (.int .i64 (E:Int))=w8 at *
  obtain⟨q0,q1⟩:=ak R5
  refine bodyPost_ret (v:=.agg #[.int .u64 M,.int .i64 (E:Int)]) (by simp [results,Tryz.results86,go_sem,q0,q1]) rfl ?_
  exact⟨M,L - 64+63,by rw [hfx],HM.out,by omega,HD.out⟩
 ·obtain⟨hl1,hu,hfit⟩:=hnext hz
  have hc1:=hcell (l+1) hl1
  rw [hu] at hdiv
  have hor:=ix (X.getD (l+1) 0) (64 - s) (X.getD l 0 / 2 ^ s) (val X / 2 ^ (L - 64)) (by omega) ((Nat.div_lt_iff_lt_mul (Nat.pow_pos (by omega))).2 (by rw [←Nat.pow_add,show 64 - s+s=64 by omega];exact hx0)) hfit (by rw [hdiv];omega)
  have hwr:=b9 (X.getD (l+1) 0) (64 - s) (X.getD (l+1) 0*2 ^ (64 - s)) (Nat.mod_eq_of_lt hfit)
  obtain⟨t,ht⟩:∃t:Nat,64 - s=t:=⟨_,rfl⟩
  have hti:(64:Int) - (s:Int)=(t:Int):=by omega
  have htn:t<64:=by omega
  have hgt:(0:Int)<(s:Int):=by omega
  rw [ht] at hor hwr
  have HM:=aa htop
  clear htop HT hdiv hnext hcell hbox hbW hA hli HL hup hlo hlim hv hu hfit
  have hl1':(l:Int)+1<(X.length:Int):=by omega
  generalize val X / 2 ^ (L - 64)=M at *
  generalize X.getD (l+1) 0*2 ^ t=z at *
  generalize X.getD (l+1) 0=x1 at *
  generalize X.getD l 0 / 2 ^ s=y at *
  generalize X.getD l 0=x0 at *
  have R5:=bB HBox.out (a':=.int .u64 M) (b':=.int .i64 (E:Int))
  have HD:=aa (bF HB.out (g:=w.heap.size) (u0:=.int .u64 M) (u1:=.int .i64 (E:Int)) (Nat.le_refl _))
  go_enter Tryz.func86,Tryz.ntmps86
  go_wp2_with fail
  refine HLW.mono ?_
  rintro e wn ⟨rfl,hw⟩;rw [hw];clear hw wn HLW
  go_wp2
  generalize (W.setCell ⟨w.heap.size,0,none⟩ (.int .u64 M)).setCell ⟨w.heap.size,1,none⟩ (.int .i64 (E:Int))=w8 at *
  obtain⟨q0,q1⟩:=ak R5
  refine bodyPost_ret (v:=.agg #[.int .u64 M,.int .i64 (E:Int)]) (by simp [results,Tryz.results86,go_sem,q0,q1]) rfl ?_
  exact⟨M,L - 64+63,by rw [hfx],HM.out,by omega,HD.out⟩

theorem mh (b n m f a lm E:Nat)(c1 c2 c3:Value)(w:World)(hp:Pw b n m f)(ht:Top a lm E)(hn:n≤1125899906842624)
  (HS:∀W,Below w.heap.size w W→Calls Tryz.prog 89 #[c1,c2,c3] W fun e w'=>e=.returned (.bool (decide (b ^ n≤a)))∧Below W.heap.size W w') :
  Calls Tryz.prog 87 #[.agg #[.int .u64 m,.int .i64 ((f:Int) - 63)],.int .i64 n,.agg #[.int .u64 lm,.int .i64 ((E:Int) - 63)],.func (.func 89) #[] #[c1,c2,c3]] w fun e w'=>e=.returned (.bool (decide (b ^ n≤a)))∧Below w.heap.size w w':=by
 have hr:=hp.range
 have hl:=ht.high
 have hno:=fun h=>hp.over ht h
 have hyes:=fun h1 h2=>hp.under ht hn h1 h2
 have ba:=ac w (.cells #[.int .u64 m,.int .i64 ((f:Int) - 63)] 128)
 have bb:=ac (w.alloc (.cells #[.int .u64 m,.int .i64 ((f:Int) - 63)] 128)) (.cells #[.int .u64 lm,.int .i64 ((E:Int) - 63)] 128)
 have bab:=ba.trans (bb.mono ba.size)
 have HB:=aa bab
 have HS2:=HS _ bab
 have HNO:=aa hno
 have HYES:=aa hyes
 clear hno hyes ba bb bab HS hp ht
 by_cases h1:E<f
 ·have i1:(E:Int) - 63<(f:Int) - 63:=by omega
  have hd:decide (b ^ n≤a)=false:=decide_eq_false (by have:=HNO.out (.inl h1);omega)
  rw [hd]
  clear HS2 HNO HYES hd
  go_enter Tryz.func87,Tryz.ntmps87
  go_wp2
  go_ret
  exact⟨rfl,HB.out⟩
 ·by_cases h2:f=E∧lm<m
  ·obtain⟨rfl,h2⟩:=h2
   have i1:(lm:Int)<(m:Int):=by omega
   have hd:decide (b ^ n≤a)=false:=decide_eq_false (by have:=HNO.out (.inr ⟨rfl,h2⟩);omega)
   rw [hd]
   clear HS2 HNO HYES hd
   go_enter Tryz.func87,Tryz.ntmps87
   go_wp2
   go_ret
   exact⟨rfl,HB.out⟩
  ·have e4:(4:Int)*(n:Int)=((4*n:Nat):Int):=by omega
   have ha:=fun W=>aV m (4*n) W
   have hS0:(m+4*n) / 18446744073709551616=0∨(m+4*n) / 18446744073709551616=1:=by omega
   have hSl:(m+4*n) % 18446744073709551616<18446744073709551616:=by omega
   have n4:4*n<18446744073709551616:=by omega
   have hq:(m+4*n) / 18446744073709551616=0→m+4*n=(m+4*n) % 18446744073709551616:=by omega
   obtain⟨S,hS⟩:∃S,(m+4*n) % 18446744073709551616=S:=⟨_,rfl⟩
   obtain⟨cy,hcy⟩:∃cy,(m+4*n) / 18446744073709551616=cy:=⟨_,rfl⟩
   simp only [hS,hcy] at ha
   rw [hcy] at hS0
   rw [hS,hcy] at hq
   rw [hS] at hSl
   have HQ:=aa hq
   obtain⟨N4,hN4⟩:∃N4,4*n=N4:=⟨_,rfl⟩
   rw [hN4] at e4 n4
   simp only [hN4] at ha
   have HN4:=aa hN4
   have j1:¬((E:Int) - 63<(f:Int) - 63):=by omega
   clear hq hS hcy hN4
   by_cases hc:cy=0∧(f<E∨S≤lm)
   ·obtain⟨rfl,hc⟩:=hc
    have hd:decide (b ^ n≤a)=true:=decide_eq_true (HYES.out (by have:=HQ.out rfl;omega) (by have:=HQ.out rfl;omega))
    rw [hd]
    by_cases hfE:f<E
    ·have i1:(f:Int) - 63<(E:Int) - 63:=by omega
     have i2:¬((f:Int) - 63=(E:Int) - 63):=by omega
     have i3:(((f:Int) - 63) == ((E:Int) - 63))=false:=by rw [beq_eq_false_iff_ne];exact i2
     clear HS2 HNO HYES hd hS0 h1 h2
     go_enter Tryz.func87,Tryz.ntmps87
     go_wp2
     go_ret
     exact⟨rfl,HB.out⟩
    ·obtain rfl:f=E:=by omega
     have i1:¬((lm:Int)<(m:Int)):=by omega
     have i2:(S:Int)≤(lm:Int):=by omega
     clear HS2 HNO HYES hd hS0 h1 h2
     go_enter Tryz.func87,Tryz.ntmps87
     go_wp2
     go_ret
     exact⟨rfl,HB.out⟩
   ·generalize decide (b ^ n≤a)=r at *
    by_cases hfE:f<E
    ·have i1:(f:Int) - 63<(E:Int) - 63:=by omega
     have i2:¬((f:Int) - 63=(E:Int) - 63):=by omega
     have i3:(((f:Int) - 63) == ((E:Int) - 63))=false:=by rw [beq_eq_false_iff_ne];exact i2
     obtain rfl:cy=1:=by omega
     clear HNO HYES hS0 h1 h2 hc
     go_enter Tryz.func87,Tryz.ntmps87
     go_wp2_with fail
     refine HS2.mono ?_
     rintro e w2 ⟨rfl,hb2⟩
     have HB2:=aa (HB.out.trans (hb2.mono HB.out.size))
     clear HS2 hb2
     go_wp2
     go_ret
     exact⟨rfl,HB2.out⟩
    ·obtain rfl:f=E:=by omega
     have i1:¬((lm:Int)<(m:Int)):=by omega
     rcases hS0 with rfl|rfl
     ·have i2:¬((S:Int)≤(lm:Int)):=by omega
      clear HNO HYES h1 h2 hc
      go_enter Tryz.func87,Tryz.ntmps87
      go_wp2_with fail
      refine HS2.mono ?_
      rintro e w2 ⟨rfl,hb2⟩
      have HB2:=aa (HB.out.trans (hb2.mono HB.out.size))
      clear HS2 hb2
      go_wp2
      go_ret
      exact⟨rfl,HB2.out⟩
     ·clear HNO HYES h1 h2 hc
      go_enter Tryz.func87,Tryz.ntmps87
      go_wp2_with fail
      refine HS2.mono ?_
      rintro e w2 ⟨rfl,hb2⟩
      have HB2:=aa (HB.out.trans (hb2.mono HB.out.size))
      clear HS2 hb2
      go_wp2
      go_ret
      exact⟨rfl,HB2.out⟩

theorem kL (a b:Nat)(ha:a<4611686018427387904)(hb:b<4611686018427387904):bits .or .i64 (a:Int) (b:Int)=((a ||| b:Nat):Int):=by
 have hx:a ||| b<2 ^ 62:=Nat.or_lt_two_pow (by omega) (by omega)
 have h1:(BitVec.ofInt 64 (a:Int)).toNat=a:=by
  rw [BitVec.ofInt_natCast,BitVec.toNat_ofNat];exact Nat.mod_eq_of_lt (by omega)
 have h2:(BitVec.ofInt 64 (b:Int)).toNat=b:=by
  rw [BitVec.ofInt_natCast,BitVec.toNat_ofNat];exact Nat.mod_eq_of_lt (by omega)
 show IntKind.i64.wrap ((BitVec.ofInt 64 (a:Int) ||| BitVec.ofInt 64 (b:Int)).toNat:Int)=_
 rw [BitVec.toNat_or,h1,h2,IntKind.wrap_i64]
 omega

theorem iF {m p:Nat}(h:m % 2 ^ (p+1)=0):m ||| 2 ^ p=m+2 ^ p:=by
 have e:m=2 ^ (p+1)*(m / 2 ^ (p+1)):=(Nat.mul_div_cancel' (Nat.dvd_of_mod_eq_zero h)).symm
 rw [e]
 exact (Nat.two_pow_add_eq_or_of_lt (by rw [Nat.pow_succ];have:=Nat.two_pow_pos p;omega) _).symm

theorem kk {m p K:Nat}(h:m % 2 ^ (p+1)=0)(hm:m<2 ^ K)(hp:p+1≤K):m+2 ^ (p+1)≤2 ^ K:=by
 have e:m=m / 2 ^ (p+1)*2 ^ (p+1):=(Nat.div_mul_cancel (Nat.dvd_of_mod_eq_zero h)).symm
 have h4:m / 2 ^ (p+1)<2 ^ (K - (p+1)):=by
  refine Nat.lt_of_mul_lt_mul_right (a:=2 ^ (p+1)) ?_
  rw [←Nat.pow_add,show K - (p+1)+(p+1)=K by omega,←e]
  exact hm
 have h5:=Nat.mul_le_mul_right (2 ^ (p+1)) (Nat.succ_le_of_lt h4)
 rw [←Nat.pow_add,show K - (p+1)+(p+1)=K by omega,Nat.succ_mul,←e] at h5
 exact h5

theorem jV {m p:Nat}(h:m % 2 ^ (p+1)=0):m % 2 ^ p=0∧(m+2 ^ p) % 2 ^ p=0:=by
 have e:m=2 ^ p*(2*(m / 2 ^ (p+1))):=by
  have e:=(Nat.mul_div_cancel' (Nat.dvd_of_mod_eq_zero h)).symm
  rw [Nat.pow_succ,Nat.mul_assoc] at e
  rw [Nat.pow_succ]
  exact e
 refine⟨?_,?_⟩
 ·rw [e];exact Nat.mul_mod_right _ _
 ·rw [Nat.add_mod_right,e];exact Nat.mul_mod_right _ _

theorem fA {w:World}{g:Nat}{a b:Value}{t:TypeId}(h:w.heap[g]?=some (.cells #[a,b] t)):w.cell? ⟨g,0,none⟩=some a∧w.cell? ⟨g,1,none⟩=some b:=⟨by simp [World.cell?,h],by simp [World.cell?,h]⟩

theorem gS (va:Value)(X:List Nat)(b:Nat)(w:World)(hA:Arg w va X)(hT:Tab w)(hl:X.length≤1048576)(hb:2≤b)(hb2:b≤36)(hL:64<blen (val X)) :
  Calls Tryz.prog 59 #[va,.int .u64 b] w fun e w'=>∃n:Nat,e=.returned (.int .i64 n)∧b ^ n≤val X∧val X<b ^ (n+1)∧n≤1152921504606846976∧Below w.heap.size w w':=by
 obtain⟨ao,cap,rfl,_,_,_⟩:=hA.form
 obtain⟨w0,hw0⟩:∃W,(w.alloc (.cells #[.slice ao X.length cap] 23)).alloc (.cells #[.int .u64 b] 63)=W:=⟨_,rfl⟩
 have hb0:Below w.heap.size w w0:=by rw [←hw0];exact bt5 (ac _ _) (ac _ _)
 have x0:w0.heap[w.heap.size]?=some (.cells #[.slice ao X.length cap] 23):=by
  rw [←hw0]
  exact ((ac (w.alloc (.cells #[.slice ao X.length cap] 23)) (.cells #[.int .u64 b] 63)).block w.heap.size (by simp)).trans (heap_alloc_new ..)
 have x1:w0.heap[w.heap.size+1]?=some (.cells #[.int .u64 b] 63):=by
  rw [←hw0]
  have h:=heap_alloc_new (w.alloc (.cells #[.slice ao X.length cap] 23)) (.cells #[.int .u64 b] 63)
  rw [World.size_alloc] at h
  exact h
 have c0:=aQ x0
 have c1:=aQ x1
 have C1:=g5 _ X w0 (hA.below hb0) hL
 have hlen:=b8 hA.limbs hl
 obtain⟨L,hLe⟩:∃L,blen (val X)=L:=⟨_,rfl⟩
 have hup:val X<2 ^ L:=(blen_le_iff _ _).1 (by omega)
 have LV:=fun W (h:Arg W (.slice ao X.length cap) X)=>az _ X W h
 rw [hLe] at hlen hL LV
 have HLN:=fun W=>Tryz.bits_Len (L:Int) W (by omega) (by omega)
 simp only [Int.toNat_natCast] at HLN
 obtain⟨K,hK⟩:∃K,Lib.bitLen L=K:=⟨_,rfl⟩
 have hKL:L<2 ^ K:=by rw [←hK];exact (Lib.bitLenAux_bounds 64 L (by omega) (by omega)).2.2
 have hK27:K≤27:=by rw [←hK];exact Lib.bitLen_le L 27 (by omega) (by omega)
 rw [hK] at HLN
 have hpos:1≤val X:=by
  rcases Nat.eq_zero_or_pos (val X) with h|h
  ·rw [h] at hLe;rw [show blen 0=0 from rfl] at hLe;omega
  ·exact h
 have hst:val X<b ^ (2 ^ K):=Nat.lt_of_lt_of_le hup (Nat.le_trans (Nat.pow_le_pow_left hb L) (Nat.pow_le_pow_right (by omega) (Nat.le_of_lt hKL)))
 have HA:=aa (hA.below hb0)
 have HT:=aa (hT.below hb0)
 have HB0:=aa hb0
 have HST:=aa (And.intro hpos hst)
 have X0:=aa x0
 have X1:=aa x1
 have HLV:=aa LV
 have HLN2:=aa HLN
 clear hA hT hb0 hup hKL hpos hst x0 x1 LV HLN hLe hK
 go_enter Tryz.func59,Tryz.ntmps59
 go_wp2_with fail
 refine C1.mono ?_
 rintro e w1 ⟨lm,E,rfl,hTop,_,hb1⟩
 obtain⟨w2,hw2⟩:∃W,w1.alloc (.cells #[.int .u64 lm,.int .i64 ((E:Int) - 63)] 128)=W:=⟨_,rfl⟩
 have hb2':Below w1.heap.size w1 w2:=by rw [←hw2];exact ac _ _
 have x2:w2.heap[w1.heap.size]?=some (.cells #[.int .u64 lm,.int .i64 ((E:Int) - 63)] 128):=by rw [←hw2];exact heap_alloc_new ..
 have hB2:=bt5 hb1 hb2'
 have y0:=(hB2.block _ (lt_of_block X0.out)).trans X0.out
 have y1:=(hB2.block _ (lt_of_block X1.out)).trans X1.out
 have d0:=aQ y0
 have L1:=HLV.out w2 (HA.out.below hB2)
 have Y0:=aa y0
 have Y1:=aa y1
 have Y2:=aa x2
 have HB2:=aa (bt5 HB0.out hB2)
 have HA2:=aa (HA.out.below hB2)
 have HT2:=aa (HT.out.below hB2)
 have HTOP:=aa hTop
 clear C1 hb1 hb2' x2 hB2 y0 y1 X0 X1 HA HT HB0 HLV c0 c1 hTop hw0
 go_wp2_with fail
 refine L1.mono ?_
 rintro e wn ⟨rfl,hw⟩;rw [hw];clear hw wn L1
 have L2:=HLN2.out w2
 go_wp2_with fail
 refine L2.mono ?_
 rintro e wn ⟨rfl,hw⟩;rw [hw];clear hw wn L2
 go_wp2
 clear hw2 d0
 go_loopw [6,7] (fun mv bv wr=>∃m q:Nat,mv=.int .i64 m∧bv=.int .i64 ((q:Int) - 1)∧q≤K∧m % 2 ^ q=0∧m<2 ^ K∧b ^ m≤val X∧val X<b ^ (m+2 ^ q)∧Below w2.heap.size w2 wr) (fun _ bv _=>(intOf bv+1).toNat)
 case atStart=>exact⟨0,K,rfl,rfl,Nat.le_refl _,Nat.zero_mod _,Nat.two_pow_pos _,by rw [Nat.pow_zero];exact HST.out.1,by rw [Nat.zero_add];exact HST.out.2,Below.refl _ _⟩
 case round=>
  obtain⟨m,q,rfl,rfl,hqK,hmq,hmK,hlo,hhi,hbr⟩:=hrel
  have h27:2 ^ K≤134217728:=Nat.pow_le_pow_right (n:=2) (j:=27) (by omega) hK27
  rcases Nat.eq_zero_or_pos q with hq0|hq0
  ·subst hq0
   have HE:=aa (And.intro hlo (And.intro hhi (bt5 HB2.out hbr)))
   have hm9:m≤134217728:=by omega
   clear hlo hhi hbr hmq
   go_wp2
   go_ret
   exact⟨m,rfl,HE.out.1,HE.out.2.1,by omega,HE.out.2.2⟩
  ·obtain⟨p,rfl⟩:∃p,q=p+1:=⟨q - 1,by omega⟩
   have eq:(((p+1:Nat):Int) - 1)=(p:Int):=by omega
   rw [eq]
   have hroom:=kk hmq hmK hqK
   have hhalf:=jV hmq
   have hpp:2 ^ (p+1)=2*2 ^ p:=by rw [Nat.pow_succ];omega
   have hDp:=Nat.two_pow_pos p
   have hor:=kL m (2 ^ p) (by omega) (by omega)
   rw [iF hmq] at hor
   have h2p:(2:Int) ^ p=((2 ^ p:Nat):Int):=by simp
   obtain⟨U,hU9⟩:∃U,m+2 ^ p=U:=⟨_,rfl⟩
   rw [hU9] at hor
   have hUK:U<2 ^ K:=by omega
   have hUe:m+2 ^ (p+1)=U+2 ^ p:=by omega
   have hUb:U≤134217728:=by omega
   have hDb:2 ^ p≤134217728:=by omega
   have hp64:p<64:=by omega
   have hp0:(0:Int)≤(p:Int):=by omega
   have HU:=aa hU9
   have HUK:=aa hUK
   have HUE:=aa hUe
   have HPH:=aa hhalf
   have HLO:=aa hlo
   have HHI:=aa hhi
   obtain⟨w4,hw4⟩:∃W,wr.alloc (.cells #[.int .i64 U] 3)=W:=⟨_,rfl⟩
   have hb4:Below wr.heap.size wr w4:=by rw [←hw4];exact ac _ _
   have x4:w4.heap[wr.heap.size]?=some (.cells #[.int .i64 U] 3):=by rw [←hw4];exact heap_alloc_new ..
   have hB4:=bt5 hbr hb4
   have HB4:=aa hB4
   have KA:=aa (fun (W:World) (hg:Below w4.heap.size w4 W)=>show W.cell? ⟨w.heap.size,0,none⟩=some (.slice ao X.length cap) from aQ (((bt5 hB4 hg).block _ (lt_of_block Y0.out)).trans Y0.out))
   have KS:=aa (fun (W:World) (hg:Below w4.heap.size w4 W)=>show W.cell? ⟨w.heap.size+1,0,none⟩=some (.int .u64 b)∧W.cell? ⟨wr.heap.size,0,none⟩=some (.int .i64 U)∧W.cell? ⟨w1.heap.size,0,none⟩=some (.int .u64 lm)∧W.cell? ⟨w1.heap.size,1,none⟩=some (.int .i64 ((E:Int) - 63)) from
    ⟨aQ (((bt5 hB4 hg).block _ (lt_of_block Y1.out)).trans Y1.out),aQ ((hg.block _ (lt_of_block x4)).trans x4),(fA (((bt5 hB4 hg).block _ (lt_of_block Y2.out)).trans Y2.out)).1,(fA (((bt5 hB4 hg).block _ (lt_of_block Y2.out)).trans Y2.out)).2⟩)
   have NP:=aa (fun (W:World)=>jq b U W (by omega) (by omega) (by omega))
   have NA:=aa (fun (W:World) (pm pf:Nat) (hPw:Pw b U pm pf) (hg:Below w4.heap.size w4 W)=>mh b U pm pf (val X) lm E (.pointer (some ⟨w.heap.size,0,none⟩)) (.pointer (some ⟨w.heap.size+1,0,none⟩)) (.pointer (some ⟨wr.heap.size,0,none⟩)) W hPw HTOP.out (by omega) (fun W' hW'=>jg w.heap.size (w.heap.size+1) wr.heap.size _ X b U W' (KA.out _ (bt5 hg hW')) (KS.out _ (bt5 hg hW')).1 (KS.out _ (bt5 hg hW')).2.1 (HA2.out.below (bt5 HB4.out (bt5 hg hW'))) (HT2.out.below (bt5 HB4.out (bt5 hg hW'))) hl hb hb2 (by omega)))
   have g0:Below w4.heap.size w4 w4.drew:=(Below.refl _ _).drew
   obtain⟨DD,hDD⟩:∃DD,2 ^ p=DD:=⟨_,rfl⟩
   have HDD:=aa hDD
   rw [hDD] at hor h2p hDb
   clear hlo hhi hbr hmq hhalf hroom hpp hDp hU9 hUK hUe hb4 x4 hB4 hDD eq KA
   by_cases hU:b ^ U≤val X
   ·skip
    have hdec:decide (b ^ U≤val X)=true:=by simpa using hU
    go_wp2_with fail
    go_region_held3 (fun w'=>w'.cell? ⟨w.heap.size+1,0,none⟩=some (.int .u64 b)∧w'.cell? ⟨wr.heap.size,0,none⟩=some (.int .i64 U)∧w'.cell? ⟨w1.heap.size,0,none⟩=some (.int .u64 lm)∧w'.cell? ⟨w1.heap.size,1,none⟩=some (.int .i64 ((E:Int) - 63))) (first|with_reducible exact KS.out _ g2|with_reducible exact KS.out _ g1|with_reducible exact KS.out _ g0) (first
     | (go_at_call 87;refine (NA.out _ pm pf hPw g1).mono ?_;rintro e' t2 ⟨rfl,hb2⟩;have g2:=bt5 g1 hb2)
     | (go_at_call 88;refine (NP.out _).mono ?_;rintro e' t1 ⟨pm,pf,rfl,hPw,hb1⟩;have g1:=bt5 g0 hb1))
    all_goals
     have HBE:=aa (bt5 HB4.out g2)
     obtain⟨_,z1,_,_⟩:=KS.out _ g2
     clear NA NP KS hb1 hb2 g1 g2 g0 hPw hdec
     go_wp2
     go_roundw
     case rel=>exact⟨U,p,rfl,rfl,by omega,by rw [←HU.out];exact HPH.out.2,HUK.out,hU,by have h:=HHI.out;rw [HUE.out] at h;exact h,HBE.out⟩
     case measure=>simp [intOf]
   ·skip
    have hdec:decide (b ^ U≤val X)=false:=by simpa using hU
    go_wp2_with fail
    go_region_held3 (fun w'=>w'.cell? ⟨w.heap.size+1,0,none⟩=some (.int .u64 b)∧w'.cell? ⟨wr.heap.size,0,none⟩=some (.int .i64 U)∧w'.cell? ⟨w1.heap.size,0,none⟩=some (.int .u64 lm)∧w'.cell? ⟨w1.heap.size,1,none⟩=some (.int .i64 ((E:Int) - 63))) (first|with_reducible exact KS.out _ g2|with_reducible exact KS.out _ g1|with_reducible exact KS.out _ g0) (first
     | (go_at_call 87;refine (NA.out _ pm pf hPw g1).mono ?_;rintro e' t2 ⟨rfl,hb2⟩;have g2:=bt5 g1 hb2)
     | (go_at_call 88;refine (NP.out _).mono ?_;rintro e' t1 ⟨pm,pf,rfl,hPw,hb1⟩;have g1:=bt5 g0 hb1))
    all_goals
     have HBE:=aa (bt5 HB4.out g2)
     obtain⟨_,z1,_,_⟩:=KS.out _ g2
     clear NA NP KS hb1 hb2 g1 g2 g0 hPw hdec
     go_wp2
     go_roundw
     case rel=>exact⟨m,p,rfl,rfl,by omega,HPH.out.1,hmK,HLO.out,by rw [HU.out];omega,HBE.out⟩
     case measure=>simp [intOf]

theorem jx (w:World):Calls Tryz.prog 91 #[.int .i64 2,.int .u64 16] w fun e w'=>e=.returned (.bool false)∧Below w.heap.size w w':=by
 go_enter Tryz.func91,Tryz.ntmps91
 go_wp2_with fail
 refine (j9 w).mono ?_
 rintro e w1 ⟨rfl,hb⟩
 have HB:=aa (hb.trans ((ac w1 (.cells #[.int .u64 9223372036854775808,.int .i64 (-59)] 128)).mono hb.size))
 clear hb
 go_wp2
 go_ret
 exact⟨rfl,HB.out⟩

theorem g4 (v more:Int)(w:World):Calls Tryz.prog 114 #[.slice none 0 0,.int .u64 v,.int .u64 more] w fun e w'=>e=.returned (.int .u64 more)∧w'=w:=by
 go_enter Tryz.func114,Tryz.ntmps114
 go_wp2
 refine wp_loop_rounds 1 ?_
 rw [rounds_succ]
 go_wp2
 go_ret
 exact⟨rfl,rfl⟩

theorem jk (gd:Nat)(w:World)(hd:w.heap[gd]?=some (.cells #[.int .u8 0,.int .u8 0,.int .u8 15,.int .u8 15] 5)) :
  Calls Tryz.prog 93 #[.slice (some ⟨gd,2,none⟩) 2 2,.int .i64 16] w fun e w'=>(∃v,e=.returned v∧Ans w' w.heap.size v [255])∧Below w.heap.size w w':=by
 have HU:=dY w
 obtain⟨i0,hi,hz0,hz1,hz2⟩:=info_parts Tryz.infoU
 have c2:w.cell? ⟨gd,2,none⟩=some (.int .u8 15):=by simp [World.cell?,hd]
 have c3:w.cell? ⟨gd,3,none⟩=some (.int .u8 15):=by simp [World.cell?,hd]
 have HG:=g4 1152921504606846976 255 w
 clear hd
 go_enter Tryz.func93,Tryz.ntmps93
 go_wp2_with fail
 refine HU.mono ?_
 rintro e wn ⟨rfl,hw⟩;rw [hw];clear hw wn HU
 go_wp2
 refine wp_loop_rounds 2 ?_
 rw [rounds_succ]
 go_wp2
 refine wp_loop_rounds 3 ?_
 rw [rounds_succ]
 go_wp2
 rw [rounds_succ]
 go_wp2
 rw [rounds_succ]
 go_wp2_with fail
 refine HG.mono ?_
 rintro e wn ⟨rfl,hw⟩;rw [hw];clear hw wn HG
 go_wp2_with (at_builtin;refine wpList_append_own _ rfl _ _ 23 rfl w.heap.size 63 i0 (.int .u64 0) 1 8 Tryz.underlying23 hi hz0 hz1 hz2 rfl (by decide) _ 0 [] rfl (World.ownsRow_nil _ _ _ _) ⟨w.heap.size,0,none⟩ 1 1 ([255].map lv) rfl rfl (fD [255]) (cY _) (by unfold maxLen;omega) (by omega) (by rw [World.size_alloc];omega) ?_;intro v' w1 hown hgrow _)
 rw [Nat.zero_add,List.nil_append] at hown
 have HA:Hid (Ans w1 w.heap.size v' [255]):=aa ⟨hown,by intro z hz;simp at hz;omega⟩
 have HB:=aa ((ac w (.cells #[.int .u64 255] 63)).grown hgrow (by rw [World.size_alloc];omega) (fun k hk=>by cases hk))
 clear hown hgrow hi hz0 hz1 hz2
 rw [rounds_succ]
 go_wp2
 go_ret
 exact⟨⟨_,rfl,HA.out⟩,HB.out⟩

attribute [local go_sem] dq

theorem iO (gl gb gv gd:Nat)(w:World)(hd:w.heap[gd]?=some (.cells #[.int .u8 0,.int .u8 0,.int .u8 15,.int .u8 15] 5))(cl:w.cell? ⟨gl,0,none⟩=some (.slice none 0 0))(cb:w.cell? ⟨gb,0,none⟩=some (.int .i64 16)) :
  Calls Tryz.prog 92 #[.slice (some ⟨gd,2,none⟩) 2 2,.pointer (some ⟨gl,0,none⟩),.pointer (some ⟨gb,0,none⟩),.pointer (some ⟨gv,0,none⟩)] w fun e w'=>(∃v,e=.returned (.tuple #[v,.int .i64 0])∧Ans w' w.heap.size v [255])∧Below w.heap.size w w':=by
 have HG:=eG w
 have FW:=aa (fun (w2:World) (hb:Below w.heap.size w w2)=>jk gd w2 (au hb hd))
 clear hd
 go_enter Tryz.func92,Tryz.ntmps92
 go_wp2_with fail
 refine HG.mono ?_
 rintro e w1 ⟨rfl,hb1⟩
 obtain⟨w2,hw2⟩:∃w2,w1.alloc (.cells #[.int .i64 0,.slice none 0 0,.int .i64 0] 88)=w2:=⟨_,rfl⟩
 have hb12:Below w1.heap.size w1 w2:=by rw [←hw2];exact ac _ _
 have hb2:=hb1.trans (hb12.mono hb1.size)
 have cb2:=bi hb2 cb
 rw [←hw2] at cb2
 have F2:=FW.out w2 hb2
 have HB2:=aa hb2
 have HW2:=aa hw2
 clear HG hb1 hb12 hb2 FW hw2
 go_wp2_with fail
 rw [HW2.out]
 refine F2.mono ?_
 rintro e w3 ⟨⟨v,rfl,hA⟩,hb3⟩
 have HD:=aa (And.intro (hA.base HB2.out.size) (HB2.out.trans (hb3.mono HB2.out.size)))
 clear F2 hA hb3 cb2
 go_wp2
 go_returns
 exact⟨⟨v,rfl,HD.out.1⟩,HD.out.2⟩

theorem io (gd:Nat)(w:World)(hT:Tab w)(hd:w.heap[gd]?=some (.cells #[.int .u8 0,.int .u8 0,.int .u8 15,.int .u8 15] 5)) :
  Calls Tryz.prog 63 #[.slice (some ⟨gd,2,none⟩) 2 2,.int .i64 16] w fun e w'=>(∃v,e=.returned (.tuple #[v,.int .i64 0])∧Ans w' w.heap.size v [255])∧Below w.heap.size w w':=by
 obtain⟨w0,hw0⟩:∃w0,w.alloc (.cells #[.int .i64 16] 3)=w0:=⟨_,rfl⟩
 have hb0:Below w.heap.size w w0:=by rw [←hw0];exact ac _ _
 have cb:w0.cell? ⟨w.heap.size,0,none⟩=some (.int .i64 16):=bM (by rw [←hw0];exact heap_alloc_new ..)
 have HS:=jx w0
 have HT:=aa hT
 have HW0:=aa hw0
 have HB0:=aa hb0
 have HD0:=aa hd
 clear hT hw0 hb0 hd
 go_enter Tryz.func63,Tryz.ntmps63
 go_wp2_with fail
 rw [HW0.out]
 refine HS.mono ?_
 rintro e w1 ⟨rfl,hb1⟩
 have cb1:=bi hb1 cb
 have HBB:=bk HB0 hb1
 have HP:=fc w1 (HT.out.below HBB.out)
 clear HS hb1 cb
 go_wp2_with fail
 refine HP.mono ?_
 rintro e wn ⟨rfl,hw⟩;rw [hw];clear hw wn HP
 obtain⟨w2,hw2⟩:∃w2,w1.alloc (.cells #[.slice none 0 0] 84)=w2:=⟨_,rfl⟩
 have hs2:w2.heap.size=w1.heap.size+1:=by rw [←hw2];exact World.size_alloc _ _
 obtain⟨w3,hw3⟩:∃w3,w2.alloc (.cells #[.func (.func 92) #[] #[.pointer (some ⟨w1.heap.size,0,none⟩),.pointer (some ⟨w.heap.size,0,none⟩),.pointer (some ⟨w1.heap.size+1,0,none⟩)]] 134)=w3:=⟨_,rfl⟩
 have hb2:Below w1.heap.size w1 w2:=by rw [←hw2];exact ac _ _
 have hb3:Below w2.heap.size w2 w3:=by rw [←hw3];exact ac _ _
 have hb13:=hb2.trans (hb3.mono hb2.size)
 have cl:=bi hb3 (bM (show w2.heap[w1.heap.size]?=some (.cells #[.slice none 0 0] 84) by rw [←hw2];exact heap_alloc_new ..))
 have cb3:=bi hb13 cb1
 have cw:w3.cell? ⟨w1.heap.size+1,0,none⟩=some (.func (.func 92) #[] #[.pointer (some ⟨w1.heap.size,0,none⟩),.pointer (some ⟨w.heap.size,0,none⟩),.pointer (some ⟨w1.heap.size+1,0,none⟩)]):=bM (t:=134) (by
  have h:=heap_alloc_new w2 (.cells #[.func (.func 92) #[] #[.pointer (some ⟨w1.heap.size,0,none⟩),.pointer (some ⟨w.heap.size,0,none⟩),.pointer (some ⟨w1.heap.size+1,0,none⟩)]] 134)
  rw [hs2,hw3] at h
  exact h)
 have HBB3:=bk HBB hb13
 have FW:=iO w1.heap.size w.heap.size (w1.heap.size+1) gd w3 (au HBB3.out HD0.out) cl cb3
 have HW3:=aa (show (w1.alloc (.cells #[.slice none 0 0] 84)).alloc (.cells #[.func (.func 92) #[] #[.pointer (some ⟨w1.heap.size,0,none⟩),.pointer (some ⟨w.heap.size,0,none⟩),.pointer (some ⟨w1.heap.size+1,0,none⟩)]] 134)=w3 by rw [hw2,hw3])
 rw [←HW3.out] at cw
 clear hb2 hb3 hb13 cl cb3 hw2 hw3 hs2 cb1
 go_wp2_with fail
 rw [HW3.out]
 refine FW.mono ?_
 rintro e w4 ⟨⟨v,rfl,hA⟩,hb4⟩
 have HD:=aa (And.intro (hA.base HBB3.out.size) (bk HBB3 hb4).out)
 clear FW hA hb4 cw
 go_wp2
 go_returns
 exact⟨⟨v,rfl,HD.out.1⟩,HD.out.2⟩
end Go.Proofs.YteehipcoeocojaaGreatDoor
namespace Go.Proofs.YteehipcoeocojaaGreatDoor
open Go.RowKit
open Lm
attribute [local go_sem ↓] Go.wp_at_zero Go.wp_at_succ

theorem fu (w:World):Calls Tryz.prog 40 #[.string ⟨#[48,49,50,51,52,53,54,55,56,57,97,98,99,100,101,102,103,104,105,106,107,108,109,110,111,112,113,114,115,116,117,118,119,120,121,122]⟩,.int .u8 48] w fun e w'=>e=.returned (.int .i64 0)∧w'=w:=
 Tryz.strings_IndexByte _ 48 w

theorem dZ (w:World):Calls Tryz.prog 40 #[.string ⟨#[48,49,50,51,52,53,54,55,56,57,97,98,99,100,101,102,103,104,105,106,107,108,109,110,111,112,113,114,115,116,117,118,119,120,121,122]⟩,.int .u8 102] w fun e w'=>e=.returned (.int .i64 15)∧w'=w:=
 Tryz.strings_IndexByte _ 102 w

theorem s0 (h:0<(ByteArray.mk #[48,48,102,102]).size):(ByteArray.mk #[48,48,102,102])[0].toNat=48:=rfl
theorem s1 (h:1<(ByteArray.mk #[48,48,102,102]).size):(ByteArray.mk #[48,48,102,102])[1].toNat=48:=rfl
theorem s2 (h:2<(ByteArray.mk #[48,48,102,102]).size):(ByteArray.mk #[48,48,102,102])[2].toNat=102:=rfl
theorem s3 (h:3<(ByteArray.mk #[48,48,102,102]).size):(ByteArray.mk #[48,48,102,102])[3].toNat=102:=rfl

attribute [local go_sem] s0 s1 s2 s3

theorem jh
(gs:Nat) (w:World) (h:w.cell? ⟨gs,0,none⟩=some (.string ⟨#[48,48,102,102]⟩)) :
  Calls Tryz.prog 39 #[.int .i64 0,.pointer (some ⟨gs,0,none⟩)] w fun e w'=>e=.returned (.int .i64 0)∧w'=w:=by
 go_enter Tryz.func39,Tryz.ntmps39
 go_wp2_with fail
 refine (fu _).mono ?_
 rintro e wn ⟨rfl,hw⟩;rw [hw];clear hw wn
 go_wp2
 go_ret
 exact⟨rfl,rfl⟩

theorem il
(gs:Nat) (w:World) (h:w.cell? ⟨gs,0,none⟩=some (.string ⟨#[48,48,102,102]⟩)) :
  Calls Tryz.prog 39 #[.int .i64 1,.pointer (some ⟨gs,0,none⟩)] w fun e w'=>e=.returned (.int .i64 0)∧w'=w:=by
 go_enter Tryz.func39,Tryz.ntmps39
 go_wp2_with fail
 refine (fu _).mono ?_
 rintro e wn ⟨rfl,hw⟩;rw [hw];clear hw wn
 go_wp2
 go_ret
 exact⟨rfl,rfl⟩

theorem gY
(gs:Nat) (w:World) (h:w.cell? ⟨gs,0,none⟩=some (.string ⟨#[48,48,102,102]⟩)) :
  Calls Tryz.prog 39 #[.int .i64 2,.pointer (some ⟨gs,0,none⟩)] w fun e w'=>e=.returned (.int .i64 15)∧w'=w:=by
 go_enter Tryz.func39,Tryz.ntmps39
 go_wp2_with fail
 refine (dZ _).mono ?_
 rintro e wn ⟨rfl,hw⟩;rw [hw];clear hw wn
 go_wp2
 go_ret
 exact⟨rfl,rfl⟩

theorem iD
(gs:Nat) (w:World) (h:w.cell? ⟨gs,0,none⟩=some (.string ⟨#[48,48,102,102]⟩)) :
  Calls Tryz.prog 39 #[.int .i64 3,.pointer (some ⟨gs,0,none⟩)] w fun e w'=>e=.returned (.int .i64 15)∧w'=w:=by
 go_enter Tryz.func39,Tryz.ntmps39
 go_wp2_with fail
 refine (dZ _).mono ?_
 rintro e wn ⟨rfl,hw⟩;rw [hw];clear hw wn
 go_wp2
 go_ret
 exact⟨rfl,rfl⟩

theorem gK {w:World}{g k g' k':Nat}{u:Value}(h:g≠g'):(w.setCell ⟨g,k,none⟩ u).cell? ⟨g',k',none⟩=w.cell? ⟨g',k',none⟩:=by
 simp only [World.cell?]
 rw [Below.heap_setCell _ _ _ _ (by exact Ne.symm h)]

theorem jo (gs:Nat)(w:World)(hT:Tab w)(hs:w.cell? ⟨gs,0,none⟩=some (.string ⟨#[48,48,102,102]⟩)) :
  Calls Tryz.prog 38 #[.int .i64 16,.int .i64 4,.func (.func 39) #[] #[.pointer (some ⟨gs,0,none⟩)]] w fun e w'=>(∃v,e=.returned (.tuple #[v,.int .i64 0])∧Ans w' w.heap.size v [255])∧Below w.heap.size w w':=by
 obtain⟨i0,hi,hz0,hz1,hz2⟩:=info_parts Tryz.infoB
 have HT:=aa hT
 have hgs:gs<w.heap.size:=by
  rcases Nat.lt_or_ge gs w.heap.size with h' | h'
  ·exact h'
  ·simp [World.cell?,Array.getElem?_eq_none h'] at hs
 have hso:∀(W:World) (k:Nat) (u:Value),(W.setCell ⟨w.heap.size,k,none⟩ u).cell? ⟨gs,0,none⟩=W.cell? ⟨gs,0,none⟩:=fun W k u=>gK (by omega)
 clear hT
 go_enter Tryz.func38,Tryz.ntmps38
 go_wp2_with (at_make;refine wpList_make_full _ rfl _ _ 67 rfl w.heap.size 5 i0 (.int .u8 0) 1 Tryz.underlying67 hi hz0 hz1 .i64 .i64 _ _ 4 rfl rfl (by rfl) (by rfl) (by rw [hz2];omega) (by unfold maxLen;omega) (Nat.le_refl _) ?_;intro w1 hown hgrow)
 have hb1:Below w.heap.size w w1:=(Below.refl w.heap.size w).grown hgrow (Nat.le_refl _) (fun k hk=>by cases hk)
 have hs1:=bi hb1 hs
 have k0:w1.heap[w.heap.size]?=some (.cells #[.int .u8 0,.int .u8 0,.int .u8 0,.int .u8 0] 5):=dn (n:=4) hown
 have hf:∀k,w1.frozen? ⟨w.heap.size,k,none⟩=false:=fun k=>by simp [World.frozen?,k0]
 have c0:w1.cell? ⟨w.heap.size,0,none⟩=some (.int .u8 0):=by simp [World.cell?,k0]
 have c1:w1.cell? ⟨w.heap.size,1,none⟩=some (.int .u8 0):=by simp [World.cell?,k0]
 have c2:w1.cell? ⟨w.heap.size,2,none⟩=some (.int .u8 0):=by simp [World.cell?,k0]
 have c3:w1.cell? ⟨w.heap.size,3,none⟩=some (.int .u8 0):=by simp [World.cell?,k0]
 have HB1:=aa hb1
 have HK0:=aa k0
 clear hown hgrow hi hz0 hz1 hz2 hb1 k0 hs
 refine wp_loop_rounds 5 ?_
 have m0:=aL (k:=0) HK0.out (.int .u8 0)
 have m1:=aL (k:=1) m0 (.int .u8 0)
 have m2:=aL (k:=2) m1 (.int .u8 15)
 have m3:=aL (k:=3) m2 (.int .u8 15)
 obtain⟨w5,hw5⟩:∃w5,(((w1.setCell ⟨w.heap.size,0,none⟩ (.int .u8 0)).setCell ⟨w.heap.size,1,none⟩ (.int .u8 0)).setCell ⟨w.heap.size,2,none⟩ (.int .u8 15)).setCell ⟨w.heap.size,3,none⟩ (.int .u8 15)=w5:=⟨_,rfl⟩
 rw [hw5] at m3
 have k5:w5.heap[w.heap.size]?=some (.cells #[.int .u8 0,.int .u8 0,.int .u8 15,.int .u8 15] 5):=m3
 have x0:w5.cell? ⟨w.heap.size,0,none⟩=some (.int .u8 0):=by simp [World.cell?,k5]
 have x1:w5.cell? ⟨w.heap.size,1,none⟩=some (.int .u8 0):=by simp [World.cell?,k5]
 have x2:w5.cell? ⟨w.heap.size,2,none⟩=some (.int .u8 15):=by simp [World.cell?,k5]
 rw [←hw5] at x0 x1 x2
 have HB5:=aa (show Below w.heap.size w w5 by
  rw [←hw5]
  exact (((HB1.out.setCell (p:=⟨w.heap.size,0,none⟩) (Nat.le_refl _) _).setCell (p:=⟨w.heap.size,1,none⟩) (Nat.le_refl _) _).setCell (p:=⟨w.heap.size,2,none⟩) (Nat.le_refl _) _).setCell (p:=⟨w.heap.size,3,none⟩) (Nat.le_refl _) _)
 have FR:=io w.heap.size w5 (HT.out.below HB5.out) k5
 have HW5:=aa hw5
 clear m0 m1 m2 m3 k5 hw5
 rw [rounds_succ]
 go_wp2_with fail
 refine (jh gs w1 hs1).mono ?_
 rintro e wn ⟨rfl,hw⟩;rw [hw];clear hw wn
 go_wp2
 rw [rounds_succ]
 go_wp2_with fail
 refine (il gs _ (by rw [hso];exact hs1)).mono ?_
 rintro e wn ⟨rfl,hw⟩;rw [hw];clear hw wn
 go_wp2
 rw [rounds_succ]
 go_wp2_with fail
 refine (gY gs _ (by rw [hso,hso];exact hs1)).mono ?_
 rintro e wn ⟨rfl,hw⟩;rw [hw];clear hw wn
 go_wp2
 rw [rounds_succ]
 go_wp2_with fail
 refine (iD gs _ (by rw [hso,hso,hso];exact hs1)).mono ?_
 rintro e wn ⟨rfl,hw⟩;rw [hw];clear hw wn
 go_wp2
 rw [rounds_succ]
 go_wp2
 refine wp_loop_rounds 3 ?_
 rw [rounds_succ]
 go_wp2
 rw [rounds_succ]
 go_wp2
 rw [rounds_succ]
 go_wp2_with fail
 rw [HW5.out]
 refine FR.mono ?_
 rintro e w6 ⟨⟨v,rfl,hA⟩,hb6⟩
 have HL:=az v [255] w6 (hA.arg (by simp))
 rw [show blen (val [255])=8 from rfl] at HL
 have HD:=aa (And.intro (hA.base HB5.out.size) (HB5.out.trans (hb6.mono HB5.out.size)))
 clear FR hA hb6 x0 x1 x2 hs1 c0 c1 c2 c3 hf
 go_wp2_with fail
 refine HL.mono ?_
 rintro e wn ⟨rfl,hw⟩;rw [hw];clear hw wn HL
 go_wp2
 go_returns
 exact⟨⟨v,rfl,HD.out.1⟩,HD.out.2⟩

theorem gZ (w:World)(hT:Tab w) :
  Calls Tryz.prog 19 #[.string ⟨#[48,48,102,102]⟩,.int .i64 16] w fun e w'=>(∃v,e=.returned (.tuple #[v,.int .i64 0])∧Ans w' w.heap.size v [255])∧Below w.heap.size w w':=by
 obtain⟨w0,hw0⟩:∃w0,w.alloc (.cells #[.string ⟨#[48,48,102,102]⟩] 9)=w0:=⟨_,rfl⟩
 have hb0:Below w.heap.size w w0:=by rw [←hw0];exact ac _ _
 have cs:w0.cell? ⟨w.heap.size,0,none⟩=some (.string ⟨#[48,48,102,102]⟩):=bM (by rw [←hw0];exact heap_alloc_new ..)
 have HI:=dQ w0
 have FN:=jo w.heap.size w0 (hT.below hb0) cs
 have HW0:=aa hw0
 have HB0:=aa hb0
 clear hT hw0 hb0
 go_enter Tryz.func19,Tryz.ntmps19
 go_wp2_with fail
 rw [HW0.out]
 refine HI.mono ?_
 rintro e wn ⟨rfl,hw⟩;rw [hw];clear hw wn HI
 go_wp2_with fail
 refine FN.mono ?_
 rintro e w1 ⟨⟨v,rfl,hA⟩,hb1⟩
 have HD:=aa (And.intro (hA.base HB0.out.size) (HB0.out.trans (hb1.mono HB0.out.size)))
 clear FN hA hb1
 go_wp2
 go_returns
 exact⟨⟨v,rfl,HD.out.1⟩,HD.out.2⟩
end Go.Proofs.YteehipcoeocojaaGreatDoor
namespace Go.Proofs.YteehipcoeocojaaGreatDoor
open Go.RowKit
open Lm
attribute [local go_sem ↓] Go.wp_at_zero Go.wp_at_succ

theorem Byt.made {w:World}{base n g:Nat}(h:w.ownsRow base 5 1 (.slice (some ⟨g,0,none⟩) n n) n (madeCells (Value.int .u8 0).cells (n*1)).toList):Byt w g (List.replicate n 0):=by
 have:=dn h
 unfold Byt
 rw [this,List.map_replicate]
 rfl
end Go.Proofs.YteehipcoeocojaaGreatDoor
namespace Go.Proofs.YteehipcoeocojaaGreatDoor
open Go.RowKit
open Lm
attribute [local go_sem ↓] Go.wp_at_zero Go.wp_at_succ
attribute [local go_sem] dq

theorem kI (k:Nat)(h:k≠0):1<18446744073709551616 ^ k:=Nat.one_lt_pow h (by omega)

theorem jS (va:Value)(X:List Nat)(b:Nat)(w:World)(hA:Arg w va X)(hT:Tab w)(hl:X.length≤1048576)(hb:2≤b)(hb2:b≤36) :
  Calls Tryz.prog 34 #[va,.int .i64 b] w (fk b (val X) w):=
 lE va X b w hA hT hb hb2 (fun h=>gS va X b w hA hT hl hb hb2 h)

theorem gH {X:List Nat}(k:Nat)(h:Limbs X)(hl:X.length≤k):val X<18446744073709551616 ^ k:=Nat.lt_of_lt_of_le (val_lt h) (Nat.pow_le_pow_right (by omega) hl)

theorem fl {b x n:Nat}{X:List Nat}(hb:2≤b)(hX:Limbs X)(hl:X.length≤1048576)(hx:val X=x)(h:aq b x n):n≤67108865∧(n≤1∨b ^ (n - 1)≤x):=by
 obtain⟨h1,h2,h3⟩:=h
 refine⟨?_,?_⟩
 ·rcases h3 with h3|h3
  ·omega
  ·have hlen:=b8 hX hl
   rw [hx] at hlen
   have h4:2 ^ (n - 1)≤x:=Nat.le_trans (Nat.pow_le_pow_left hb _) h3
   have h5:x<2 ^ blen x:=(blen_le_iff _ _).1 (Nat.le_refl _)
   have h6:=(Nat.pow_lt_pow_iff_right (by omega:1<2)).1 (Nat.lt_of_le_of_lt h4 h5)
   omega
 ·rcases h3 with h3|h3
  ·exact .inl (by omega)
  ·exact .inr h3

theorem ja (va:Value)(X:List Nat)(b:Nat)(w:World)(hA:Arg w va X)(hT:Tab w)(hl:X.length≤1048576)(hb:2≤b)(hb2:b≤36) :
  Calls Tryz.prog 33 #[va,.int .i64 b] w (dw b (val X) w):=by
 obtain⟨i0,hi,hz0,hz1,hz2⟩:=info_parts Tryz.infoB
 obtain⟨ao,cap,rfl,hcap,_,hL⟩:=hA.form
 obtain⟨w0,hw0⟩:∃W,w.alloc (.cells #[.int .i64 b] 3)=W:=⟨_,rfl⟩
 have hb0:Below w.heap.size w w0:=by rw [←hw0];exact ac _ _
 have x0:w0.heap[w.heap.size]?=some (.cells #[.int .i64 b] 3):=by rw [←hw0];exact heap_alloc_new ..
 have c0:=aQ x0
 have C1:=jS _ X b w0 (hA.below hb0) (hT.below hb0) hl hb hb2
 have HA:=aa hA
 have HT:=aa hT
 have HB0:=aa hb0
 have X0:=aa x0
 have hLX:=hL
 clear hA hT hb0 x0 hL
 go_enter Tryz.func33,Tryz.ntmps33
 go_wp2_with fail
 refine C1.mono ?_
 rintro e w1 ⟨n,rfl,hd,hb1⟩
 obtain⟨hn,hlow⟩:=fl hb HA.out.limbs hl rfl hd
 have hB1:=bt5 HB0.out hb1
 have x1:=(hb1.block _ (lt_of_block X0.out)).trans X0.out
 have c1:=aQ x1
 have HB1:=aa hB1
 have X1:=aa x1
 have HD:=aa hd
 clear C1 hb1 hB1 x1 X0 HB0 c0 hd
 have hNB:b ^ (n - 1)<18446744073709551616 ^ 1048576:=by
  rcases hlow with h|h
  ·rw [show n - 1=0 by omega,Nat.pow_zero]
   exact kI 1048576 (by omega)
  ·exact Nat.lt_of_le_of_lt h (gH 1048576 HA.out.limbs hl)
 have hpl:(∃b' off c,Value.slice ao X.length cap=.slice (some ⟨b',off,none⟩) X.length c)∨n≤1:=by
  rcases hLX with rfl|⟨b',off,rfl,_⟩
  ·right
   obtain⟨_,_,h3⟩:=HD.out
   rcases h3 with h3|h3
   ·omega
   ·have:=Nat.pow_pos (n:=n - 1) (show 0<b by omega)
    simp [val] at h3
    omega
  ·exact .inl ⟨b',off,cap,rfl⟩
 have HPL:=aa hpl
 have HNB:=aa hNB
 clear hlow hNB hpl hLX
 go_wp2_with (at_make;refine wpList_make_full _ rfl _ _ 67 rfl w1.heap.size 5 i0 (.int .u8 0) 1 Tryz.underlying67 hi hz0 hz1 .i64 .i64 _ _ n rfl rfl (by omega) (by omega) (by rw [hz2];omega) (by unfold maxLen;omega) (Nat.le_refl _) ?_;intro w2 hown hgrow;have hb2':Below w1.heap.size w1 w2:=(Below.refl w1.heap.size w1).grown hgrow (Nat.le_refl _) (fun k hk=>by cases hk);have x2:=(hb2'.block _ (lt_of_block X1.out)).trans X1.out;have c2:=aQ x2)
 have hY2:=Byt.made hown
 have hB2:=bt5 HB1.out hb2'
 have C2:=jt b n w2 (HT.out.below hB2) hb hb2 (by omega)
 obtain⟨gd,hgd⟩:∃gd,w1.heap.size=gd:=⟨_,rfl⟩
 rw [hgd] at hY2
 have hgdw:w.heap.size<gd:=by rw [←hgd];exact lt_of_block X1.out
 have HY2:=aa hY2
 have HB2:=aa hB2
 have X2:=aa x2
 have HGD:=aa hgd
 clear hown hgrow hi hz0 hz1 hz2 hb2' hY2 hB2 c1 x2 hgd
 go_wp2_with fail
 rw [HGD.out]
 refine C2.mono ?_
 rintro e w3 ⟨⟨vl,rfl,hP⟩,hb3⟩
 obtain⟨al,nl,kl,rfl⟩:∃al nl kl,vl=.slice al nl kl:=by
  obtain⟨l,h1,_⟩:=hP
  rcases h1 with ⟨h1,_⟩|⟨g,cap',h1,_⟩
  ·exact⟨_,_,_,h1⟩
  ·exact⟨_,_,_,h1⟩
 obtain⟨w4,hw4⟩:∃W,w3.alloc (.cells #[.slice al nl kl] 84)=W:=⟨_,rfl⟩
 have hs4:w4.heap.size=w3.heap.size+1:=by rw [←hw4];exact World.size_alloc _ _
 obtain⟨w5,hw5⟩:∃W,w4.alloc (.cells #[.func (.func 52) #[] #[.pointer (some ⟨w3.heap.size,0,none⟩),.pointer (some ⟨w.heap.size,0,none⟩),.pointer (some ⟨w3.heap.size+1,0,none⟩)]] 86)=W:=⟨_,rfl⟩
 have hb4:Below w3.heap.size w3 w4:=by rw [←hw4];exact ac _ _
 have hb5:Below w4.heap.size w4 w5:=by rw [←hw5];exact ac _ _
 have hb35:=bt5 hb4 hb5
 have hb25:=bt5 hb3 hb35
 have cl:=bC hb5 (aQ (show w4.heap[w3.heap.size]?=some (.cells #[.slice al nl kl] 84) by rw [←hw4];exact heap_alloc_new ..))
 have cb5:=bC hb25 (aQ X2.out)
 have cw:w5.cell? ⟨w3.heap.size+1,0,none⟩=some (.func (.func 52) #[] #[.pointer (some ⟨w3.heap.size,0,none⟩),.pointer (some ⟨w.heap.size,0,none⟩),.pointer (some ⟨w3.heap.size+1,0,none⟩)]):=aQ (t:=86) (by
  have h:=heap_alloc_new w4 (.cells #[.func (.func 52) #[] #[.pointer (some ⟨w3.heap.size,0,none⟩),.pointer (some ⟨w.heap.size,0,none⟩),.pointer (some ⟨w3.heap.size+1,0,none⟩)]] 86)
  rw [hs4,hw5] at h
  exact h)
 have hB5:=bt5 HB2.out hb25
 have hY5:Byt w5 gd (List.replicate n 0):=HY2.out.below hb25 HY2.out.lt
 have FW:=de w3.heap.size w.heap.size (w3.heap.size+1) gd b n (.slice al nl kl) hb hb2 HNB.out (by have:=HT.out.1;omega) (n+1) n 0 n (List.replicate n 0) _ X w5 (by omega) hY5 (by simp) (Nat.le_refl _) (by omega) (Nat.le_refl _) (HA.out.below hB5) hl HPL.out (HT.out.below hB5) cl cb5 cw (fun z e=>by cases e) (hP.below hb35)
 have HW5:=aa (show (w3.alloc (.cells #[.slice al nl kl] 84)).alloc (.cells #[.func (.func 52) #[] #[.pointer (some ⟨w3.heap.size,0,none⟩),.pointer (some ⟨w.heap.size,0,none⟩),.pointer (some ⟨w3.heap.size+1,0,none⟩)]] 86)=w5 by rw [hw4,hw5])
 have HB5:=aa hB5
 rw [←HW5.out] at cw
 clear C2 hb3 hb4 hb5 hb35 hb25 cl cb5 hw4 hw5 hs4 hB5 hY5 hP c2
 go_wp2_with fail
 rw [HW5.out]
 refine FW.mono ?_
 rintro e w6 ⟨rfl,D',hD',hW',hF'⟩
 have hDl:D'.length=n:=by rw [hW'.len];simp
 have HF:=aa (And.intro hD' (And.intro hW' (HB5.out.trans (hF'.below (Nat.le_of_lt hgdw) HB5.out.size))))
 clear FW hD' hW' hF' cw
 go_wp2
 go_ret
 refine⟨gd,D',by rw [hDl];rfl,Nat.le_of_lt hgdw,HF.out.1,by rw [hDl];exact HD.out,by omega,fun i hi=>?_,HF.out.2.2⟩
 rw [hDl] at hi ⊢
 have h:=HF.out.2.1.digs i (Nat.zero_le _) hi
 rw [Nat.zero_add] at h
 exact h
end Go.Proofs.YteehipcoeocojaaGreatDoor
namespace Go.Proofs.YteehipcoeocojaaGreatDoor
open Go.RowKit
open Lm
attribute [local go_sem ↓] Go.wp_at_zero Go.wp_at_succ
end Go.Proofs.YteehipcoeocojaaGreatDoor

