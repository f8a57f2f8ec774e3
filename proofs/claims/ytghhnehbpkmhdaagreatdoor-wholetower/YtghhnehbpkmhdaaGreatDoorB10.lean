/- Package numeral: reaches, the closure of exponent. -/
import Derived.Test.YtghhnehbpkmhdaaGreatDoorB09
import Derived.Test.YtghhnehbpkmhdaaGreatDoorB01
import Derived.Test.YtghhnehbpkmhdaaGreatDoorB02
import Derived.Deep.RegionHeld3
import Derived.Test.YtghhnehbpkmhdaaGreatDoorB08
import Derived.Laws.IdiomStrings
import Derived.Laws.Cells
set_option maxRecDepth 20000
set_option maxHeartbeats 4000000
namespace Go.Proofs.YtghhnehbpkmhdaaGreatDoor
open Go.RowKit
open Lm
attribute [local go_sem ↓] Go.wp_at_zero Go.wp_at_succ

theorem fo {b n:Nat}(hb2:b≤36)(hn:1≤n):blen (b ^ n)≤6*n:=by
 have h1:b ^ n<2 ^ (6*n):=by rw [Nat.pow_mul];exact Nat.pow_lt_pow_left (by omega) (by omega)
 exact (blen_le_iff _ _).2 h1

theorem ma {b n m x:Nat}(hb:0<b)(hm:m≤n):(b ^ (n - m)≤x / b ^ m) ↔ b ^ n≤x:=by
 rw [Nat.le_div_iff_mul_le (Nat.pow_pos hb),←Nat.pow_add,Nat.sub_add_cancel hm]

theorem jD (va:Value)(X:List Nat)(b n:Nat)(w:World)(hA:Arg w va X)(hT:Tab w)(hl:X.length≤1048576)(hb:2≤b)(hb2:b≤36)(hn:n≤1125899906842624) :
  Calls Tryz.prog 113 #[va,.int .u64 b,.int .i64 n] w fun e w'=>e=.returned (.bool (decide (b ^ n≤val X)))∧Below w.heap.size w w':=by
 obtain⟨r,hr⟩:∃r,decide (b ^ n≤val X)=r:=⟨_,rfl⟩
 rw [hr]
 have HA:=aa hA
 have HT:=aa hT
 have HR:=aa hr
 clear hA hT hr
 go_enter Tryz.func113,Tryz.ntmps113
 go_wp2
 go_loopw [0,2] (fun v i wr=>∃(va':Value) (X':List Nat) (n':Nat),v=va'∧i=.int .i64 n'∧Arg wr va' X'∧X'.length≤1048576∧n'≤n∧decide (b ^ n'≤val X')=r∧Below w.heap.size w wr) (fun _ i _=>(intOf i).toNat)
 case atStart=>exact⟨va,X,n,rfl,rfl,HA.out,hl,Nat.le_refl _,HR.out,Below.refl _ _⟩
 case round=>
  obtain⟨va',X',n',rfl,rfl,hA',hl',hn',hr',hbr⟩:=hrel
  have C1:=bF b wr (by omega)
  have hl1:(tr [b]).length≤1:=tr_length_le [b]
  have hvb:val (tr [b])=b:=by rw [val_tr];simp [val]
  have HA':=aa hA'
  have HR':=aa hr'
  have HBR:=aa hbr
  have HVB:=aa hvb
  clear HA hA' hr' hbr hvb
  go_wp2_with fail
  refine C1.mono ?_
  rintro e w1 ⟨⟨v1,rfl,A1⟩,hb1⟩
  have hB1:=bt5 HBR.out hb1
  have C2:=dz v1 (tr [b]) n' w1 (A1.arg (by omega)) (HT.out.below hB1) (by omega) (by omega)
  rw [HVB.out] at C2
  have HB1:=aa hb1
  clear C1 A1 hb1 hB1
  go_wp2_with fail
  refine C2.mono ?_
  rintro e w2 ⟨hb2',vo,c,O,rfl,AO,hcase⟩
  have hB2:=bt5 HB1.out hb2'
  rcases hcase with ⟨rfl,hvO,hno,hbl⟩|⟨rfl,_,hbig⟩
  ·have hOl:O.length≤1048576:=bf hno (by rw [hvO];exact hbl)
   have C3:=bD _ _ X' O w2 (HA'.out.below hB2) (AO.arg (by omega))
   rw [hvO] at C3
   obtain⟨cc,hcc,hcd⟩:∃cc:Int,cmpN (val X') (b ^ n')=cc∧decide (0≤cc)=r:=by
    refine⟨_,rfl,?_⟩
    rw [←HR'.out]
    apply decide_eq_decide.2
    unfold cmpN
    split
    ·omega
    ·split <;> omega
   rw [hcc] at C3
   have HB2:=aa (bt5 HBR.out hB2)
   clear C2 hb2' hB2 AO hvO hno hbl hcc HB1 HR'
   go_wp2_with fail
   refine C3.mono ?_
   rintro e w3 ⟨rfl,hs3⟩
   have HB3:=aa (bt5 HB2.out (hs3.below _))
   clear C3 hs3
   go_wp2
   go_ret
   exact⟨rfl,HB3.out⟩
  ·have hn8:11184810<n':=by
    rcases Nat.eq_zero_or_pos n' with h|h
    ·subst h
     have h1:blen (b ^ 0)≤64:=(blen_le_iff _ 64).2 (by simp)
     omega
    ·have:=fo (n:=n') hb2 h;omega
   have C3:=bF b w2 (by omega)
   have HB2:=aa hB2
   clear C2 hb2' hB2 AO hbig HB1
   go_wp2_with fail
   refine C3.mono ?_
   rintro e w3 ⟨⟨v3,rfl,A3⟩,hb3⟩
   have hB3:=bt5 HB2.out hb3
   obtain⟨m8,hm8,hm9⟩:∃m8:Nat,m8=8388608∧(m8:Int)=8388608:=⟨_,rfl,rfl⟩
   have C4:Calls Tryz.prog 83 #[v3,.int .i64 8388608] w3 fun e w'=>Below w3.heap.size w3 w'∧Res w' w3.heap.size e (b ^ m8):=by
    have h:=dz v3 (tr [b]) m8 w3 (A3.arg (by omega)) (HT.out.below (bt5 HBR.out hB3)) (by omega) (by omega)
    rw [HVB.out,hm9] at h
    exact h
   have hbs:blen (b ^ m8)≤67108864:=by have:=fo (n:=m8) hb2 (by omega);omega
   have HM8:=aa (And.intro hm8 hbs)
   have HB3:=aa hB3
   clear C3 A3 hb3 hB3 HB2 hm8 hm9 hbs
   go_wp2_with fail
   refine C4.mono ?_
   rintro e w4 ⟨hb4,v4,c4,O4,rfl,A4,hcase⟩
   have hB4:=bt5 HB3.out hb4
   rcases hcase with ⟨rfl,hv4,hn4,hbl4⟩|⟨_,_,hbad⟩
   ·have hO4:O4.length≤1048576:=bf hn4 (by rw [hv4];exact hbl4)
    have hp4:val O4≠0:=by rw [hv4];exact Nat.pos_iff_ne_zero.1 (Nat.pow_pos (by omega))
    have C5:=ei _ v4 X' O4 w4 (HA'.out.below hB4) (A4.arg (by omega)) (HT.out.below (bt5 HBR.out hB4)) hl' hp4 (by omega) (by rw [hv4];exact hbl4)
    rw [hv4] at C5
    have HB4:=aa (bt5 HBR.out hB4)
    clear C4 hb4 A4 hv4 hn4 hbl4 hB4 HB3 hp4
    obtain⟨n9,hn9⟩:∃n9:Nat,(n':Int) - 8388608=(n9:Int):=⟨n' - 8388608,by omega⟩
    go_wp2_with fail
    refine C5.mono ?_
    rintro e w5 ⟨⟨vr,Q,R,rfl,AQ,_,hvQ,_,hlQ,_⟩,hb5⟩
    have HQ:Hid (decide (b ^ n9≤val Q)=r):=aa (by
     rw [←HR'.out,hvQ]
     apply decide_eq_decide.2
     have h:=ma (b:=b) (n:=n') (m:=m8) (x:=val X') (by omega) (by have:=HM8.out.1;omega)
     rw [show n' - m8=n9 by have:=HM8.out.1;omega] at h
     exact h)
    have HAQ:=aa AQ
    have HLQ:=aa hlQ
    have HB5:=aa (bt5 HB4.out hb5)
    clear C5 AQ hvQ hlQ hb5 HB4 HR' HM8
    go_wp2
    go_roundw
    case rel=>exact⟨_,Q,n9,rfl,rfl,HAQ.out,by have:=HLQ.out;omega,by omega,HQ.out,HB5.out⟩
    case measure=>simp [intOf];omega
   ·exact absurd hbad (by have:=HM8.out.2;omega)

theorem an {w:World}{g:Nat}{u:Value}{t:TypeId}(h:w.heap[g]?=some (.cells #[u] t)):w.cell? ⟨g,0,none⟩=some u:=by simp [World.cell?,h]

theorem iD (ga gb gn:Nat)(va:Value)(X:List Nat)(b n:Nat)(w:World)(ca:w.cell? ⟨ga,0,none⟩=some va)(cb:w.cell? ⟨gb,0,none⟩=some (.int .u64 b))(cn:w.cell? ⟨gn,0,none⟩=some (.int .i64 n))(hA:Arg w va X)(hT:Tab w)(hl:X.length≤1048576)(hb:2≤b)(hb2:b≤36)(hn:n≤1125899906842624) :
  Calls Tryz.prog 112 #[.pointer (some ⟨ga,0,none⟩),.pointer (some ⟨gb,0,none⟩),.pointer (some ⟨gn,0,none⟩)] w fun e w'=>e=.returned (.bool (decide (b ^ n≤val X)))∧Below w.heap.size w w':=by
 have C:=jD va X b n w hA hT hl hb hb2 hn
 obtain⟨ao,cap,rfl,_,_,_⟩:=hA.form
 generalize decide (b ^ n≤val X)=r at *
 clear hA hT
 go_enter Tryz.func112,Tryz.ntmps112
 go_wp2_with fail
 refine C.mono ?_
 rintro e w1 ⟨rfl,hb1⟩
 have HB:=aa hb1
 clear C hb1
 go_wp2
 go_ret
 exact⟨rfl,HB.out⟩

theorem ci {w:World}{h:Nat}{a b a' b':Value}{t:TypeId}(e:w.heap[h]?=some (.cells #[a,b] t)):((w.setCell ⟨h,0,none⟩ a').setCell ⟨h,1,none⟩ b').heap[h]?=some (.cells #[a',b'] t):=
 b8 (b8 e a') b'

theorem bk {w:World}{h g o:Nat}{x:Obj}{v:Value}(e:w.heap[h]?=some x)(hne:h≠g):(w.setCell ⟨g,o,none⟩ v).heap[h]?=some x:=by
 rw [Below.heap_setCell _ _ _ _ hne];exact e

theorem bU {B:Nat}{w0 w:World}{g:Nat}{u0 u1:Value}(h:Below B w0 w)(hg:B≤g):Below B w0 ((w.setCell ⟨g,0,none⟩ u0).setCell ⟨g,1,none⟩ u1):=
 (h.setCell (p:=⟨g,0,none⟩) hg u0).setCell (p:=⟨g,1,none⟩) hg u1

structure Nr (V m f c:Nat):Prop where
 low:9223372036854775808≤m
 high:m<18446744073709551616
 below:m*2 ^ f≤V*9223372036854775808
 cuts:V*9223372036854775808*9223372036854775807 ^ c≤m*2 ^ f*9223372036854775808 ^ c

theorem Nr.ge {V m f c:Nat}(h:Nr V m f c):2 ^ f≤V:=by
 have h1:=Nat.mul_le_mul_right (2 ^ f) h.low
 have h2:=h.below
 omega

def aC (P:Nat):Nat:=if P<170141183460469231731687303715884105728 then P / 9223372036854775808 else P / 18446744073709551616

def aB (P:Nat):Nat:=if P<170141183460469231731687303715884105728 then 0 else 1

theorem j6 {m1 m2:Nat}(h1:9223372036854775808≤m1)(h1':m1<18446744073709551616)(h2:9223372036854775808≤m2)(h2':m2<18446744073709551616) :
  9223372036854775808≤aC (m1*m2)∧aC (m1*m2)<18446744073709551616∧aC (m1*m2)*2 ^ aB (m1*m2)*9223372036854775808≤m1*m2∧m1*m2*9223372036854775807≤aC (m1*m2)*2 ^ aB (m1*m2)*9223372036854775808*9223372036854775808:=by
 have a1:9223372036854775808*9223372036854775808≤m1*m2:=Nat.mul_le_mul h1 h2
 have a2:m1*m2<18446744073709551616*18446744073709551616:=Nat.mul_lt_mul_of_lt_of_lt h1' h2'
 generalize m1*m2=P at *
 unfold aC aB
 split
 ·rename_i h
  simp only [Nat.pow_zero,Nat.mul_one]
  omega
 ·rename_i h
  simp only [Nat.pow_one]
  omega

theorem go (K m T F1 F2 m1 m2 V1 V2:Nat)(hK:0<K)(t3:m*T*K≤m1*m2)(b1:m1*F1*(m2*F2)≤V1*K*(V2*K)):m*(F1*F2*T)≤V1*V2*K:=by
 refine Nat.le_of_mul_le_mul_right (c:=K) ?_ hK
 have h1:=Nat.mul_le_mul_right (F1*F2) t3
 have e1:m*T*K*(F1*F2)=m*(F1*F2*T)*K:=by ac_rfl
 have e2:m1*m2*(F1*F2)=m1*F1*(m2*F2):=by ac_rfl
 have e3:V1*K*(V2*K)=V1*V2*K*K:=by ac_rfl
 omega

theorem kg (K k m T F1 F2 m1 m2 V1 V2 k1 k2 K1 K2:Nat)(hK:0<K)(t4:m1*m2*k≤m*T*K*K)(b2:V1*K*k1*(V2*K*k2)≤m1*F1*K1*(m2*F2*K2)):V1*V2*K*(k1*k2*k)≤m*(F1*F2*T)*(K1*K2*K):=by
 refine Nat.le_of_mul_le_mul_right (c:=K) ?_ hK
 have h1:=Nat.mul_le_mul_right k b2
 have h2:=Nat.mul_le_mul_right (F1*F2*(K1*K2)) t4
 have e1:V1*V2*K*(k1*k2*k)*K=V1*K*k1*(V2*K*k2)*k:=by ac_rfl
 have e2:m1*F1*K1*(m2*F2*K2)*k=m1*m2*k*(F1*F2*(K1*K2)):=by ac_rfl
 have e3:m*T*K*K*(F1*F2*(K1*K2))=m*(F1*F2*T)*(K1*K2*K)*K:=by ac_rfl
 omega

theorem Nr.times {V1 m1 f1 c1 V2 m2 f2 c2:Nat}(h1:Nr V1 m1 f1 c1)(h2:Nr V2 m2 f2 c2):Nr (V1*V2) (aC (m1*m2)) (f1+f2+aB (m1*m2)) (c1+c2+1):=by
 obtain⟨t1,t2,t3,t4⟩:=j6 h1.low h1.high h2.low h2.high
 have b1:=Nat.mul_le_mul h1.below h2.below
 have b2:=Nat.mul_le_mul h1.cuts h2.cuts
 generalize aC (m1*m2)=m at *
 obtain⟨T,hT⟩:∃T,2 ^ aB (m1*m2)=T:=⟨_,rfl⟩
 rw [hT] at t3 t4
 refine⟨t1,t2,?_,?_⟩
 ·rw [Nat.pow_add,Nat.pow_add,hT]
  exact go _ _ _ _ _ _ _ _ _ (by omega) t3 b1
 ·rw [Nat.pow_add 2,Nat.pow_add 2,Nat.pow_add,Nat.pow_add,Nat.pow_add,Nat.pow_add,Nat.pow_one,Nat.pow_one,hT]
  exact kg _ _ _ _ _ _ _ _ _ _ _ _ _ _ (by omega) t4 b2

theorem Nr.one_times {V m f c:Nat}(h:Nr V m f c):aC (9223372036854775808*m)=m∧aB (9223372036854775808*m)=0:=by
 have h1:=h.low
 have h2:=h.high
 unfold aC aB
 rw [if_pos (by omega),if_pos (by omega)]
 omega

theorem Nr.exact (v s:Nat)(h1:9223372036854775808≤v*2 ^ s)(h2:v*2 ^ s<18446744073709551616)(hs:s≤63):Nr v (v*2 ^ s) (63 - s) 0:=by
 have e:v*2 ^ s*2 ^ (63 - s)=v*9223372036854775808:=by
  rw [Nat.mul_assoc,←Nat.pow_add,show s+(63 - s)=63 by omega]
 exact⟨h1,h2,by rw [e];exact Nat.le_refl _,by rw [e];exact Nat.le_refl _⟩

theorem ks (K c:Nat)(hK:1≤K):K ^ c*K≤(K - 1) ^ c*K+c*K ^ c:=by
 obtain⟨k,rfl⟩:∃k,K=k+1:=⟨K - 1,by omega⟩
 rw [Nat.add_sub_cancel]
 induction c with
 | zero=>simp
 | succ c ih=>
  have hle:k ^ c≤(k+1) ^ c:=Nat.pow_le_pow_left (by omega) c
  have h1:=Nat.mul_le_mul_right k ih
  rw [Nat.pow_succ,Nat.pow_succ]
  generalize (k+1) ^ c=A at *
  generalize k ^ c=B at *
  have e1:A*(k+1)*(k+1)=A*(k+1)*k+A*(k+1):=by rw [Nat.mul_add,Nat.mul_one]
  have e2:(B*(k+1)+c*A)*k=B*k*(k+1)+c*(A*k):=by rw [Nat.add_mul];ac_rfl
  have e3:(c+1)*(A*(k+1))=c*(A*k)+c*A+A*(k+1):=by rw [Nat.add_mul,Nat.one_mul,Nat.mul_add,Nat.mul_one,Nat.mul_add]
  omega

theorem Nr.above {V m f c:Nat}(h:Nr V m f c)(hc:c≤1152921504606846976):V*9223372036854775808≤(m+4*c)*2 ^ f:=by
 have h1:=h.cuts
 have h2:=ks 9223372036854775808 c (by omega)
 rw [show 9223372036854775808 - 1=9223372036854775807 from rfl] at h2
 have hp:0<9223372036854775808 ^ c:=Nat.pow_pos (by omega)
 have hm:=h.high
 generalize (9223372036854775808:Nat) ^ c=A at *
 generalize (9223372036854775807:Nat) ^ c=B at *
 generalize 2 ^ f=F at *
 have h3:V*9223372036854775808*(9223372036854775808 - c)*A≤m*F*9223372036854775808*A:=by
  have h4:=Nat.mul_le_mul_left (V*9223372036854775808) h2
  have h5:=Nat.mul_le_mul_right 9223372036854775808 h1
  have e1:V*9223372036854775808*(A*9223372036854775808)=V*9223372036854775808*(9223372036854775808 - c)*A+V*9223372036854775808*(c*A):=by
   rw [Nat.mul_assoc _ (9223372036854775808 - c),←Nat.mul_add,←Nat.add_mul,Nat.sub_add_cancel (by omega),Nat.mul_comm A]
  have e2:V*9223372036854775808*(B*9223372036854775808+c*A)=V*9223372036854775808*B*9223372036854775808+V*9223372036854775808*(c*A):=by rw [Nat.mul_add,Nat.mul_assoc _ B]
  have e3:m*F*A*9223372036854775808=m*F*9223372036854775808*A:=by ac_rfl
  omega
 have h6:=Nat.le_of_mul_le_mul_right h3 hp
 refine Nat.le_of_mul_le_mul_right (c:=9223372036854775808 - c) ?_ (by omega)
 refine Nat.le_trans h6 ?_
 have e4:m*F*9223372036854775808=(m*9223372036854775808)*F:=by ac_rfl
 have e5:(m+4*c)*F*(9223372036854775808 - c)=((m+4*c)*(9223372036854775808 - c))*F:=by ac_rfl
 rw [e4,e5]
 refine Nat.mul_le_mul_right F ?_
 rw [Nat.mul_sub]
 have h7:(m+4*c)*c≤4*c*9223372036854775808:=by
  have h8:m+4*c≤4*9223372036854775808:=by omega
  have h9:=Nat.mul_le_mul_right c h8
  have e6:4*9223372036854775808*c=4*c*9223372036854775808:=by ac_rfl
  omega
 have e7:(m+4*c)*9223372036854775808=m*9223372036854775808+4*c*9223372036854775808:=Nat.add_mul _ _ _
 refine Nat.le_sub_of_add_le ?_
 rw [e7]
 exact Nat.add_le_add_left h7 _

theorem dO (m1 m2:Nat)(e1 e2:Int)(w:World)(h1':m1<18446744073709551616)(h2':m2<18446744073709551616)(b1:-1000≤e1)(b1':e1≤2305843009213693952)(b2:-1000≤e2)(b2':e2≤2305843009213693952) :
  Calls Tryz.prog 137 #[.agg #[.int .u64 m1,.int .i64 e1],.agg #[.int .u64 m2,.int .i64 e2]] w fun e w'=>e=.returned (.agg #[.int .u64 (aC (m1*m2):Nat),.int .i64 (e1+e2+63+(aB (m1*m2):Nat))])∧Below w.heap.size w w':=by
 have a2:m1*m2<18446744073709551616*18446744073709551616:=Nat.mul_lt_mul_of_lt_of_lt h1' h2'
 have hM:=fun W=>Tryz.bits_Mul64 m1 m2 h1' h2' W
 obtain⟨e3,he3⟩:∃e3:Int,e1+e2=e3:=⟨_,rfl⟩
 obtain⟨e4,he4⟩:∃e4:Int,e3+64=e4:=⟨_,rfl⟩
 have w3:IntKind.i64.wrap e3=e3:=by rw [IntKind.wrap_i64];omega
 have w4:IntKind.i64.wrap e4=e4:=by rw [IntKind.wrap_i64];omega
 generalize m1*m2=P at *
 have hHi:P / 18446744073709551616<18446744073709551616:=by omega
 have hLo:P % 18446744073709551616<18446744073709551616:=by omega
 unfold aC aB
 by_cases hP:P<170141183460469231731687303715884105728
 ·rw [if_pos hP,if_pos hP]
  obtain⟨e5,he5⟩:∃e5:Int,e4 - 1=e5:=⟨_,rfl⟩
  have w5:IntKind.i64.wrap e5=e5:=by rw [IntKind.wrap_i64];omega
  have hres:e3+63+((0:Nat):Int)=e5:=by omega
  rw [he3,hres]
  have q1:((P / 18446744073709551616:Nat):Int) / 9223372036854775808=0:=by omega
  obtain⟨l,hl,hl2⟩:∃l:Nat,((P % 18446744073709551616:Nat):Int) / 9223372036854775808=(l:Int)∧l<2:=⟨P % 18446744073709551616 / 9223372036854775808,by omega,by omega⟩
  have q2:=bG (P / 18446744073709551616) 1 (P / 18446744073709551616*2) (by omega)
  have q3:=dW (P / 18446744073709551616) 1 l (P / 9223372036854775808) (by omega) (by omega) (by omega) (by omega)
  rw [Int.pow_one] at q2
  rw [Nat.pow_one] at q3
  generalize P / 9223372036854775808=R at *
  generalize P / 18446744073709551616=H at *
  generalize P % 18446744073709551616=Lo at *
  have q4:bits BinOp.or IntKind.u64 ((H:Int)*2) (l:Int)=(R:Int):=by have:=q3;push_cast at this;exact this
  clear q3
  have ba:=ag w (.cells #[.int .u64 m1,.int .i64 e1] 116)
  have bb:=ag (w.alloc (.cells #[.int .u64 m1,.int .i64 e1] 116)) (.cells #[.int .u64 m2,.int .i64 e2] 116)
  have bc:=ag ((w.alloc (.cells #[.int .u64 m1,.int .i64 e1] 116)).alloc (.cells #[.int .u64 m2,.int .i64 e2] 116)) (.cells #[.int .u64 R,.int .i64 e5] 116)
  have bab:=ba.trans (bb.mono ba.size)
  have HB:=aa (bab.trans (bc.mono bab.size))
  clear ba bb bc bab
  go_enter Tryz.func137,Tryz.ntmps137
  go_wp2_with fail
  refine (hM _).mono ?_
  rintro e wn ⟨rfl,hw⟩;rw [hw];clear hw wn hM
  go_wp2
  go_returns
  exact⟨rfl,HB.out⟩
 ·rw [if_neg hP,if_neg hP]
  have hres:e3+63+((1:Nat):Int)=e4:=by omega
  rw [he3,hres]
  have q1:((P / 18446744073709551616:Nat):Int) / 9223372036854775808=1:=by omega
  generalize P / 18446744073709551616=H at *
  generalize P % 18446744073709551616=Lo at *
  have ba:=ag w (.cells #[.int .u64 m1,.int .i64 e1] 116)
  have bb:=ag (w.alloc (.cells #[.int .u64 m1,.int .i64 e1] 116)) (.cells #[.int .u64 m2,.int .i64 e2] 116)
  have bc:=ag ((w.alloc (.cells #[.int .u64 m1,.int .i64 e1] 116)).alloc (.cells #[.int .u64 m2,.int .i64 e2] 116)) (.cells #[.int .u64 H,.int .i64 e4] 116)
  have bab:=ba.trans (bb.mono ba.size)
  have HB:=aa (bab.trans (bc.mono bab.size))
  clear ba bb bc bab
  go_enter Tryz.func137,Tryz.ntmps137
  go_wp2_with fail
  refine (hM _).mono ?_
  rintro e wn ⟨rfl,hw⟩;rw [hw];clear hw wn hM
  go_wp2
  go_returns
  exact⟨rfl,HB.out⟩

theorem dS (v:Nat)(w:World)(hv:0<v)(hv2:v<18446744073709551616) :
  Calls Tryz.prog 136 #[.int .u64 v] w fun e w'=>∃m f:Nat,e=.returned (.agg #[.int .u64 m,.int .i64 ((f:Int) - 63)])∧Nr v m f 0∧f≤63∧Below w.heap.size w w':=by
 have HZ:=fun W=>Tryz.bits_LeadingZeros64 v W (by omega) (by omega)
 obtain⟨hb1,hb2,hb3⟩:1≤Lib.bitLen v∧2 ^ (Lib.bitLen v - 1)≤v∧v<2 ^ Lib.bitLen v:=Lib.bitLenAux_bounds 64 v hv2 (by omega)
 have hb64:Lib.bitLen v≤64:=Lib.bitLen_le v 64 (by omega) hv2
 obtain⟨s,hs,hs1,hs2⟩:∃s:Nat,64 - (Lib.bitLen v:Int)=(s:Int)∧Lib.bitLen v=64 - s∧s≤63:=⟨64 - Lib.bitLen v,by omega,by omega,by omega⟩
 simp only [Int.toNat_natCast,hs] at HZ
 rw [hs1] at hb2 hb3
 have h1:9223372036854775808≤v*2 ^ s:=by
  have:=Nat.mul_le_mul_right (2 ^ s) hb2
  rw [←Nat.pow_add,show 64 - s - 1+s=63 by omega] at this
  exact this
 have h2:v*2 ^ s<18446744073709551616:=by
  have:=Nat.mul_lt_mul_of_pos_right hb3 (show 0<2 ^ s from Nat.pow_pos (by omega))
  rw [←Nat.pow_add,show 64 - s+s=64 by omega] at this
  exact this
 have HN:=aa (Nr.exact v s h1 h2 hs2)
 have hw:=bG v s (v*2 ^ s) (Nat.mod_eq_of_lt h2)
 have hsl:(s:Int)<64:=by omega
 have hs0:(0:Int)≤(s:Int):=by omega
 have he:((63 - s:Nat):Int) - 63=-(s:Int):=by omega
 generalize v*2 ^ s=m at *
 have HB:=aa (ag w (.cells #[.int .u64 m,.int .i64 (-(s:Int))] 116))
 clear hb1 hb2 hb3 hb64 hs hs1 h1 h2
 go_enter Tryz.func136,Tryz.ntmps136
 go_wp2_with fail
 refine (HZ _).mono ?_
 rintro e wn ⟨rfl,hw⟩;rw [hw];clear hw wn HZ
 go_wp2
 go_returns
 exact⟨m,63 - s,by rw [he],HN.out,by omega,HB.out⟩

def Pw (b q m f:Nat):Prop:=(q=0∧m=9223372036854775808∧f=0)∨(1≤q∧∃c,c+1≤q∧Nr (b ^ q) m f c)

theorem Pw.range {b q m f:Nat}(h:Pw b q m f):9223372036854775808≤m∧m<18446744073709551616:=by
 rcases h with ⟨_,rfl,_⟩|⟨_,c,_,h⟩
 ·omega
 ·exact⟨h.low,h.high⟩

theorem Pw.exp {b q m f:Nat}(hb:b≤64)(h:Pw b q m f):f≤6*q:=by
 rcases h with ⟨_,_,rfl⟩|⟨_,c,_,h⟩
 ·omega
 ·have h1:=h.ge
  have h2:b ^ q≤2 ^ (6*q):=by rw [Nat.pow_mul];exact Nat.pow_le_pow_left hb q
  exact (Nat.pow_le_pow_iff_right (show 1<2 by omega)).1 (Nat.le_trans h1 h2)

theorem Pw.sq {b q m f:Nat}(h:Pw b q m f):Pw b (2*q) (aC (m*m)) (f+f+aB (m*m)):=by
 rcases h with ⟨rfl,rfl,rfl⟩|⟨hq,c,hc,h⟩
 ·exact .inl ⟨rfl,by decide,by decide⟩
 ·refine .inr ⟨by omega,c+c+1,by omega,?_⟩
  rw [show 2*q=q+q by omega,Nat.pow_add]
  exact h.times h

theorem Pw.mul {b q m f mb fb:Nat}(h:Pw b q m f)(hb:Nr b mb fb 0):Pw b (q+1) (aC (m*mb)) (f+fb+aB (m*mb)):=by
 rcases h with ⟨rfl,rfl,rfl⟩|⟨hq,c,hc,h⟩
 ·obtain⟨e1,e2⟩:=hb.one_times
  rw [e1,e2]
  refine .inr ⟨by omega,0,by omega,?_⟩
  rw [Nat.zero_add,Nat.zero_add,Nat.add_zero,Nat.pow_one]
  exact hb
 ·refine .inr ⟨by omega,c+0+1,by omega,?_⟩
  rw [Nat.pow_succ]
  exact h.times hb

def bp (w:World)(g m:Nat)(f:Nat):Prop:=w.heap[g]?=some (.cells #[.int .u64 m,.int .i64 ((f:Int) - 63)] 116)

theorem eY (b n:Nat)(w:World)(hb:1≤b)(hb2:b≤64)(hn:n≤1125899906842624) :
  Calls Tryz.prog 111 #[.int .u64 b,.int .i64 n] w fun e w'=>∃m f:Nat,e=.returned (.agg #[.int .u64 m,.int .i64 ((f:Int) - 63)])∧Pw b n m f∧Below w.heap.size w w':=by
 have HLN:=fun W=>Tryz.bits_Len (n:Int) W (by omega) (by omega)
 simp only [Int.toNat_natCast] at HLN
 obtain⟨L,hL⟩:∃L,Lib.bitLen n=L:=⟨_,rfl⟩
 have hnl:n<2 ^ L:=by
  rw [←hL]
  rcases Nat.eq_zero_or_pos n with h|h
  ·subst h;decide
  ·exact (Lib.bitLenAux_bounds 64 n (by omega) (by omega)).2.2
 have hL64:L≤64:=by rw [←hL];exact Lib.bitLen_le n 64 (by omega) (by omega)
 rw [hL] at HLN
 have HN1:=fun W=>dS 1 W (by omega) (by omega)
 have HNB:=fun W=>dS b W (by omega) (by omega)
 obtain⟨w0,hw0⟩:∃w0,w.alloc (.cells #[.int .u64 0,.int .i64 0] 116)=w0:=⟨_,rfl⟩
 have hb0:Below w.heap.size w w0:=by rw [←hw0];exact ag _ _
 have h0:w0.heap[w.heap.size]?=some (.cells #[.int .u64 0,.int .i64 0] 116):=by rw [←hw0];exact heap_alloc_new ..
 have HW0:=aa hw0
 have HB0:=aa hb0
 have H0:=aa h0
 have HNL:=aa hnl
 clear hw0 hb0 h0 hL hnl
 go_enter Tryz.func111,Tryz.ntmps111
 go_wp2_with fail
 rw [HW0.out]
 refine (ln w0).mono ?_
 rintro e w1 ⟨rfl,hb1⟩
 have HB1:=aa hb1
 clear hb1 HN1
 go_wp2_with fail
 refine (HNB w1).mono ?_
 rintro e w2 ⟨mb,fb,rfl,hNb,hfb,hb2'⟩
 have hb02:=HB1.out.trans (hb2'.mono HB1.out.size)
 obtain⟨wa,hwa⟩:∃wa,w2.alloc (.cells #[.int .u64 9223372036854775808,.int .i64 (-63)] 116)=wa:=⟨_,rfl⟩
 have hsa:wa.heap.size=w2.heap.size+1:=by rw [←hwa];exact World.size_alloc _ _
 obtain⟨w3,hw3⟩:∃w3,wa.alloc (.cells #[.int .u64 mb,.int .i64 ((fb:Int) - 63)] 116)=w3:=⟨_,rfl⟩
 have hba:Below w2.heap.size w2 wa:=by rw [←hwa];exact ag _ _
 have hb3:Below wa.heap.size wa w3:=by rw [←hw3];exact ag _ _
 have hb23:=hba.trans (hb3.mono hba.size)
 have k5:bp w3 w2.heap.size 9223372036854775808 0:=bs hb3 (by rw [←hwa];exact heap_alloc_new ..)
 have k6:bp w3 (w2.heap.size+1) mb fb:=by
  have h:=heap_alloc_new wa (.cells #[.int .u64 mb,.int .i64 ((fb:Int) - 63)] 116)
  rw [hsa,hw3] at h
  exact h
 have hb03:=hb02.trans (hb23.mono hb02.size)
 have k4:=bs hb03 H0.out
 have HW3:=aa (show (w2.alloc (.cells #[.int .u64 9223372036854775808,.int .i64 (-63)] 116)).alloc (.cells #[.int .u64 mb,.int .i64 ((fb:Int) - 63)] 116)=w3 by rw [hwa,hw3])
 have HB3:=aa (HB0.out.trans (hb03.mono HB0.out.size))
 have hlt:w.heap.size<w2.heap.size:=Nat.lt_of_lt_of_le (lt_of_block H0.out) hb02.size
 obtain⟨g,hg⟩:∃g,w2.heap.size=g:=⟨_,rfl⟩
 obtain⟨g6,hg6⟩:∃g6,g+1=g6:=⟨_,rfl⟩
 rw [hg] at k5 hlt
 rw [hg,hg6] at k6
 have HG:=aa (And.intro hg hg6)
 have hg6':g<g6:=by omega
 have HK:=aa (And.intro k4 (And.intro k5 k6))
 have HNb:=aa hNb
 clear hb2' hb02 hwa hw3 hba hb3 hb23 hb03 hsa k4 k5 k6 hg hg6 hNb HNB
 go_wp2_with fail
 rw [HW3.out]
 refine (HLN _).mono ?_
 rintro e wn ⟨rfl,hw⟩;rw [hw,HG.out.1,HG.out.2];clear hw wn HLN
 go_wp2
 go_loopw [7] (fun i wr=>∃(k m f:Nat),i=.int .i64 ((k:Int) - 1)∧k≤L∧bp wr g m f∧Pw b (n / 2 ^ k) m f∧bp wr g6 mb fb∧wr.heap[w.heap.size]?=some (.cells #[.int .u64 0,.int .i64 0] 116)∧Below w.heap.size w wr) (fun i _=>(intOf i+1).toNat)
 case atStart=>
  exact⟨L,9223372036854775808,0,rfl,Nat.le_refl _,HK.out.2.1,by rw [Nat.div_eq_of_lt HNL.out];exact .inl ⟨rfl,rfl,rfl⟩,HK.out.2.2,HK.out.1,HB3.out⟩
 case round=>
  obtain⟨k,m,f,rfl,hk,hAt,hPw,hAt6,hRes,hbel⟩:=hrel
  have HAt:=aa hAt
  have HPw:=aa hPw
  have HAt6:=aa hAt6
  have HRes:=aa hRes
  have HBW:=aa hbel
  obtain⟨c0,c1⟩:=ay hAt
  clear hAt hPw hAt6 hRes hbel HK HB3
  by_cases hk0:k=0
  ·subst hk0
   obtain⟨d0,d1⟩:=ay HRes.out
   have hf:=cR HRes.out
   go_wp2
   have R5:=ci HRes.out (a':=.int .u64 m) (b':=.int .i64 ((f:Int) - 63))
   have HD:=aa (bU HBW.out (g:=w.heap.size) (u0:=.int .u64 m) (u1:=.int .i64 ((f:Int) - 63)) (Nat.le_refl _))
   generalize (wr.setCell ⟨w.heap.size,0,none⟩ (.int .u64 m)).setCell ⟨w.heap.size,1,none⟩ (.int .i64 ((f:Int) - 63))=w8 at *
   obtain⟨q0,q1⟩:=ay R5
   refine bodyPost_ret (v:=.agg #[.int .u64 m,.int .i64 ((f:Int) - 63)]) (by simp [results,Tryz.results111,go_sem,q0,q1]) rfl ?_
   refine⟨m,f,rfl,?_,HD.out⟩
   have:=HPw.out
   rw [Nat.pow_zero,Nat.div_one] at this
   exact this
  ·obtain⟨j,rfl⟩:∃j,k=j+1:=⟨k - 1,by omega⟩
   have ej:(((j+1:Nat):Int) - 1)=(j:Int):=by omega
   rw [ej]
   have hj0:(0:Int)≤(j:Int):=by omega
   have hj64:j<64:=by omega
   have hst:=fg n j
   have hle:n / 2 ^ j≤n:=Nat.div_le_self _ _
   have hsh:(n:Int) / 2 ^ j=((n / 2 ^ j:Nat):Int):=by rw [Int.natCast_ediv,Int.natCast_pow];rfl
   have hand:=eW ((n / 2 ^ j:Nat):Int)
   have hm2:((n / 2 ^ j:Nat):Int) % 2=((n / 2 ^ j % 2:Nat):Int):=by omega
   rw [hm2] at hand
   have wj:IntKind.i64.wrap (((n / 2 ^ j:Nat)):Int)=(((n / 2 ^ j:Nat)):Int):=by rw [IntKind.wrap_i64];omega
   generalize n / 2 ^ (j+1)=p at *
   obtain⟨q,hq⟩:∃q,n / 2 ^ j=q:=⟨_,rfl⟩
   rw [hq] at hst hle hsh hand hm2 wj
   have HQD:=aa hq
   have HQ:=aa (And.intro hst hle)
   have hfe:=HPw.out.exp hb2
   have hr1:=HPw.out.range
   have F1:=dO m m ((f:Int) - 63) ((f:Int) - 63) wr hr1.2 hr1.2 (by omega) (by omega) (by omega) (by omega)
   have hsq:=HPw.out.sq
   obtain⟨f3,hf3,ef3⟩:∃f3:Nat,f+f+aB (m*m)=f3∧(f:Int) - 63+((f:Int) - 63)+63+(aB (m*m):Nat)=(f3:Int) - 63:=⟨_,rfl,by omega⟩
   rw [ef3] at F1
   rw [hf3] at hsq
   generalize aC (m*m)=m3 at *
   have HSQ:=aa hsq
   clear hq hst hfe hr1 hsq hf3 ef3 hk0 ej
   go_wp2_with fail
   refine F1.mono ?_
   rintro e w3' ⟨rfl,hb3⟩
   have k5:=bs hb3 HAt.out
   have k6:=bs hb3 HAt6.out
   have k4:=bs hb3 HRes.out
   have hB3:=HBW.out.trans (hb3.mono HBW.out.size)
   have hf5:=cR k5
   obtain⟨d50,d51⟩:=ay k5
   have s5:=ci k5 (a':=.int .u64 m3) (b':=.int .i64 ((f3:Int) - 63))
   obtain⟨w5,hw5⟩:∃w5,(w3'.setCell ⟨g,0,none⟩ (.int .u64 m3)).setCell ⟨g,1,none⟩ (.int .i64 ((f3:Int) - 63))=w5:=⟨_,rfl⟩
   have s6:bp w5 g6 mb fb:=by rw [←hw5];exact bk (bk k6 (by omega)) (by omega)
   have s4:w5.heap[w.heap.size]?=some (.cells #[.int .u64 0,.int .i64 0] 116):=by rw [←hw5];exact bk (bk k4 (by omega)) (by omega)
   have HB5:=aa (show Below w.heap.size w w5 by rw [←hw5];exact bU hB3 (by omega))
   rw [hw5] at s5
   have HS:=aa (And.intro s4 (And.intro (show bp w5 g m3 f3 from s5) s6))
   have HW5:=aa hw5
   clear F1 hb3 k4 k5 k6 hB3 c0 c1 HAt HAt6 HRes HBW HPw
   rcases Nat.mod_two_eq_zero_or_one q with h0|h1
   ·rw [h0] at hand
    have HEQ:Hid (2*p=q):=aa (by have:=HQ.out.1;omega)
    clear h0 hw5 s4 s5 s6
    go_wp2
    go_roundw
    case rel=>exact⟨j,m3,f3,rfl,by omega,by rw [HW5.out];exact HS.out.2.1,by rw [HQD.out,←HEQ.out];exact HSQ.out,by rw [HW5.out];exact HS.out.2.2,by rw [HW5.out];exact HS.out.1,by rw [HW5.out];exact HB5.out⟩
    case measure=>simp [intOf]
   ·rw [h1] at hand
    have HEQ:Hid (2*p+1=q):=aa (by have:=HQ.out.1;omega)
    have x5:=ay s5
    have x6:=ay s6
    rw [←hw5] at x5 x6
    obtain⟨x50,x51⟩:=x5
    obtain⟨x60,x61⟩:=x6
    have hfe:=HSQ.out.exp hb2
    have hr1:=HSQ.out.range
    have F2:=dO m3 mb ((f3:Int) - 63) ((fb:Int) - 63) w5 hr1.2 HNb.out.high (by omega) (by have:=HQ.out;omega) (by omega) (by omega)
    have hmu:=HSQ.out.mul HNb.out
    rw [HEQ.out] at hmu
    obtain⟨f4,hf4,ef4⟩:∃f4:Nat,f3+fb+aB (m3*mb)=f4∧(f3:Int) - 63+((fb:Int) - 63)+63+(aB (m3*mb):Nat)=(f4:Int) - 63:=⟨_,rfl,by omega⟩
    rw [ef4] at F2
    rw [hf4] at hmu
    generalize aC (m3*mb)=m4 at *
    have HMU:=aa hmu
    clear h1 hw5 s4 s5 s6 hfe hr1 hmu hf4 ef4
    go_wp2_with fail
    rw [HW5.out]
    refine F2.mono ?_
    rintro e w6 ⟨rfl,hb6⟩
    have k4:=bs hb6 HS.out.1
    have k5:=bs hb6 HS.out.2.1
    have k6:=bs hb6 HS.out.2.2
    have hB6:=HB5.out.trans (hb6.mono HB5.out.size)
    clear x50 x51 x60 x61 hf5 d50 d51 F2 hb6
    have hf5:=cR k5
    obtain⟨d50,d51⟩:=ay k5
    have t5:=ci k5 (a':=.int .u64 m4) (b':=.int .i64 ((f4:Int) - 63))
    obtain⟨w7,hw7⟩:∃w7,(w6.setCell ⟨g,0,none⟩ (.int .u64 m4)).setCell ⟨g,1,none⟩ (.int .i64 ((f4:Int) - 63))=w7:=⟨_,rfl⟩
    have t6:bp w7 g6 mb fb:=by rw [←hw7];exact bk (bk k6 (by omega)) (by omega)
    have t4:w7.heap[w.heap.size]?=some (.cells #[.int .u64 0,.int .i64 0] 116):=by rw [←hw7];exact bk (bk k4 (by omega)) (by omega)
    have HB7:=aa (show Below w.heap.size w w7 by rw [←hw7];exact bU hB6 (by omega))
    rw [hw7] at t5
    have HS7:=aa (And.intro t4 (And.intro (show bp w7 g m4 f4 from t5) t6))
    have HW7:=aa hw7
    clear k4 k5 k6 hw7 t4 t5 t6 hB6
    go_wp2
    go_roundw
    case rel=>exact⟨j,m4,f4,rfl,by omega,by rw [HW7.out];exact HS7.out.2.1,by rw [HQD.out];exact HMU.out,by rw [HW7.out];exact HS7.out.2.2,by rw [HW7.out];exact HS7.out.1,by rw [HW7.out];exact HB7.out⟩
    case measure=>simp [intOf]

theorem Pw.ge {b q m f:Nat}(h:Pw b q m f):2 ^ f≤b ^ q:=by
 rcases h with ⟨rfl,_,rfl⟩|⟨_,c,_,h⟩
 ·simp
 ·exact h.ge

theorem Pw.above {b q m f:Nat}(h:Pw b q m f)(hq:q≤1125899906842624):b ^ q*9223372036854775808≤(m+4*q)*2 ^ f:=by
 rcases h with ⟨rfl,rfl,rfl⟩|⟨_,c,hc,h⟩
 ·simp
 ·refine Nat.le_trans (h.above (by omega)) (Nat.mul_le_mul_right _ (by omega))

theorem Pw.lt {b q m f:Nat}(h:Pw b q m f)(hq:q≤1125899906842624):b ^ q<2 ^ (f+2):=by
 have h1:=h.above hq
 have h2:=h.range
 have h3:(m+4*q)*2 ^ f<36893488147419103232*2 ^ f:=Nat.mul_lt_mul_of_pos_right (by omega) (Nat.pow_pos (by omega))
 rw [Nat.pow_add]
 generalize 2 ^ f=F at *
 generalize b ^ q=V at *
 omega

theorem Pw.blen_gt {b q m f:Nat}(h:Pw b q m f):f<blen (b ^ q):=by
 rcases Nat.lt_or_ge f (blen (b ^ q)) with h1|h1
 ·exact h1
 ·have:=(blen_le_iff _ _).1 h1
  have:=h.ge
  omega

theorem fe (b n:Nat)(w:World)(hb:1≤b)(hb2:b≤64)(hn:n≤1125899906842624) :
  Calls Tryz.prog 88 #[.int .i64 n,.int .u64 b] w fun e w'=>∃r:Bool,e=.returned (.bool r)∧(r=true→67108864<blen (b ^ (n - 1)))∧(r=false→blen (b ^ (n - 1))≤67108865)∧Below w.heap.size w w':=by
 obtain⟨k,hk,hk2⟩:∃k:Nat,max ((n:Int) - 1) 0=(k:Int)∧n - 1=k:=⟨n - 1,by omega,rfl⟩
 have HP:=eY b k w hb hb2 (by omega)
 rw [hk2]
 clear hk2
 go_enter Tryz.func88,Tryz.ntmps88
 go_wp2_with fail
 refine HP.mono ?_
 rintro e w1 ⟨m,f,rfl,hPw,hb1⟩
 have HB:=aa (hb1.trans ((ag w1 (.cells #[.int .u64 m,.int .i64 ((f:Int) - 63)] 116)).mono hb1.size))
 have hfe:=hPw.exp hb2
 have HPw:=aa hPw
 clear hb1 hPw HP
 by_cases hf:67108864≤f
 ·have h1:(67108864:Int)<(f:Int) - 63+64:=by omega
  have h2:decide ((67108864:Int)<(f:Int) - 63+64)=true:=decide_eq_true h1
  go_wp2
  go_ret
  exact⟨true,rfl,(fun _=>by have:=HPw.out.blen_gt;omega),(fun h=>by cases h),HB.out⟩
 ·have h1:¬((67108864:Int)<(f:Int) - 63+64):=by omega
  have h2:decide ((67108864:Int)<(f:Int) - 63+64)=false:=decide_eq_false h1
  go_wp2
  go_ret
  exact⟨false,rfl,(fun h=>by cases h),(fun _=>by have:=(blen_le_iff (b ^ k) (f+2)).2 (HPw.out.lt (by omega));omega),HB.out⟩
end Go.Proofs.YtghhnehbpkmhdaaGreatDoor
namespace Go.Proofs.YtghhnehbpkmhdaaGreatDoor
open Lm

structure Top (a m f:Nat):Prop where
 low:9223372036854775808≤m
 high:m<18446744073709551616
 below:m*2 ^ f≤a*9223372036854775808
 above:a*9223372036854775808<(m+1)*2 ^ f

theorem dT {f E:Nat}(h:f<E):2*2 ^ f≤2 ^ E:=by
 rw [Nat.mul_comm,←Nat.pow_succ]
 exact Nat.pow_le_pow_right (by omega) h

theorem Pw.over {b n m f a lm E:Nat}(h:Pw b n m f)(t:Top a lm E)(hc:E<f∨(f=E∧lm<m)):a<b ^ n:=by
 have h1:m*2 ^ f≤b ^ n*9223372036854775808:=by
  rcases h with ⟨rfl,rfl,rfl⟩|⟨_,c,_,h⟩
  ·simp
  ·exact h.below
 have h2:=t.above
 have hr:=h.range
 have hl:=t.high
 refine Nat.lt_of_mul_lt_mul_right (a:=9223372036854775808) (Nat.lt_of_lt_of_le h2 (Nat.le_trans ?_ h1))
 rcases hc with hc|⟨rfl,hc⟩
 ·have h3:=dT hc
  have h4:(lm+1)*2 ^ E≤18446744073709551616*2 ^ E:=Nat.mul_le_mul_right _ (by omega)
  have h5:9223372036854775808*2 ^ f≤m*2 ^ f:=Nat.mul_le_mul_right _ hr.1
  omega
 ·exact Nat.mul_le_mul_right _ (by omega)

theorem Pw.under {b n m f a lm E:Nat}(h:Pw b n m f)(t:Top a lm E)(hn:n≤1125899906842624)(hw:m+4*n<18446744073709551616)(hc:f<E∨(f=E∧m+4*n≤lm)):b ^ n≤a:=by
 have h1:=h.above hn
 have h2:=t.below
 have hl:=t.low
 refine Nat.le_of_mul_le_mul_right (c:=9223372036854775808) (Nat.le_trans h1 (Nat.le_trans ?_ h2)) (by omega)
 rcases hc with hc|⟨rfl,hc⟩
 ·have h3:=dT hc
  have h4:(m+4*n)*2 ^ f≤18446744073709551616*2 ^ f:=Nat.mul_le_mul_right _ (by omega)
  have h5:9223372036854775808*2 ^ E≤lm*2 ^ E:=Nat.mul_le_mul_right _ hl
  omega
 ·exact Nat.mul_le_mul_right _ hc

theorem Top.of {a L:Nat}(h1:2 ^ (L - 1)≤a)(h2:a<2 ^ L)(hL:64<L):Top a (a / 2 ^ (L - 64)) (L - 64+63):=by
 obtain⟨e,rfl⟩:∃e,L=e+64:=⟨L - 64,by omega⟩
 rw [show e+64 - 64=e by omega]
 have hp:0<2 ^ e:=Nat.pow_pos (by omega)
 have e1:2 ^ (e+64 - 1)=9223372036854775808*2 ^ e:=by rw [show e+64 - 1=e+63 by omega,Nat.pow_add,Nat.mul_comm]
 have e2:2 ^ (e+64)=18446744073709551616*2 ^ e:=by rw [Nat.pow_add,Nat.mul_comm]
 have e3:2 ^ (e+63)=9223372036854775808*2 ^ e:=by rw [Nat.pow_add,Nat.mul_comm]
 rw [e1] at h1
 rw [e2] at h2
 have d1:=Nat.div_mul_le_self a (2 ^ e)
 have d2:=Nat.lt_div_mul_add (a:=a) hp
 refine⟨(Nat.le_div_iff_mul_le hp).2 h1,(Nat.div_lt_iff_lt_mul hp).2 h2,?_,?_⟩
 ·rw [e3]
  generalize a / 2 ^ e=q at *
  have e4:q*(9223372036854775808*2 ^ e)=q*2 ^ e*9223372036854775808:=by ac_rfl
  rw [e4]
  exact Nat.mul_le_mul_right _ d1
 ·rw [e3]
  generalize a / 2 ^ e=q at *
  have e4:(q+1)*(9223372036854775808*2 ^ e)=(q*2 ^ e+2 ^ e)*9223372036854775808:=by rw [Nat.add_mul q 1,Nat.one_mul,Nat.add_mul];ac_rfl
  rw [e4]
  exact Nat.mul_lt_mul_of_pos_right d2 (by omega)
end Go.Proofs.YtghhnehbpkmhdaaGreatDoor
namespace Go.Proofs.YtghhnehbpkmhdaaGreatDoor
open Go.RowKit
open Lm
attribute [local go_sem ↓] Go.wp_at_zero Go.wp_at_succ

theorem fH {X:List Nat}(h:Limbs X)(l:Nat)(hl:l<X.length):val X / 18446744073709551616 ^ l=X.getD l 0+18446744073709551616*(val X / 18446744073709551616 ^ (l+1)):=by
 have h1:X.getD l 0=val X / 18446744073709551616 ^ l % 18446744073709551616:=by
  revert l
  induction X with
  | nil=>intro l hl;simp at hl
  | cons a r ih=>
   intro l hl
   have ha:a<18446744073709551616:=h a (List.mem_cons_self ..)
   have hr:Limbs r:=fun z hz=>h z (List.mem_cons_of_mem _ hz)
   cases l with
   | zero=>simp [val];omega
   | succ l=>
    have:=ih hr l (by simpa using hl)
    simp only [List.getD_cons_succ,val]
    rw [this,Nat.pow_succ,Nat.mul_comm (18446744073709551616 ^ l),←Nat.div_div_eq_div_mul]
    congr 2
    omega
 rw [h1,Nat.pow_succ,←Nat.div_div_eq_div_mul]
 omega

theorem gI (x u s:Nat)(hs:s≤64):(x+18446744073709551616*u) / 2 ^ s=x / 2 ^ s+u*2 ^ (64 - s):=by
 have e:18446744073709551616*u=2 ^ s*(u*2 ^ (64 - s)):=by
  rw [Nat.mul_left_comm,←Nat.pow_add,show s+(64 - s)=64 by omega,Nat.mul_comm]
 rw [e,Nat.add_mul_div_left _ _ (Nat.pow_pos (by omega))]

theorem jX (h s l U:Nat)(hs:s≤64)(hl:l<2 ^ s)(hh:h*2 ^ s<18446744073709551616)(hU:U=h*2 ^ s+l):bits BinOp.or IntKind.u64 (l:Int) ((h*2 ^ s:Nat):Int)=(U:Int):=by
 have hll:l<18446744073709551616:=Nat.lt_of_lt_of_le hl (by rw [show (18446744073709551616:Nat)=2 ^ 64 from rfl];exact Nat.pow_le_pow_right (by omega) hs)
 rw [bits_or_u64_nat _ _ hll hh,Nat.or_comm,hU,Nat.mul_comm h,Nat.two_pow_add_eq_or_of_lt hl]

theorem jZ (va:Value)(X:List Nat)(w:World)(hA:Arg w va X)(hL:64<blen (val X)) :
  Calls Tryz.prog 109 #[va] w fun e w'=>∃m f:Nat,e=.returned (.agg #[.int .u64 m,.int .i64 ((f:Int) - 63)])∧Top (val X) m f∧f+1=blen (val X)∧Below w.heap.size w w':=by
 have HL:=fun W (hA:Arg W va X)=>aq va X W hA
 obtain⟨ao,cap,rfl,hc,hm,hli⟩:=hA.form
 have hlim:=hA.limbs
 have hfew:=hA.few
 have hv:=val_lt hlim
 obtain⟨L,hLe⟩:∃L,blen (val X)=L:=⟨_,rfl⟩
 have hup:val X<2 ^ L:=(blen_le_iff _ _).1 (by omega)
 have hlo:2 ^ (L - 1)≤val X:=by
  rcases Nat.lt_or_ge (val X) (2 ^ (L - 1)) with h|h
  ·have:=(blen_le_iff _ _).2 h;omega
  ·exact h
 have htop:=Top.of hlo hup (by omega)
 have hLX:L≤64*X.length:=by rw [←hLe];exact (blen_le_iff _ _).2 (by rw [Nat.pow_mul];exact hv)
 rw [hLe]
 simp only [hLe] at HL
 rw [hLe] at hL
 obtain⟨l,s,hls,hs⟩:∃l s,L - 64=64*l+s∧s<64:=⟨(L - 64) / 64,(L - 64) % 64,by omega,by omega⟩
 have hll:l<X.length:=by omega
 have hdiv:val X / 2 ^ (L - 64)=(X.getD l 0+18446744073709551616*(val X / 18446744073709551616 ^ (l+1))) / 2 ^ s:=by
  rw [hls,Nat.pow_add,←Nat.div_div_eq_div_mul,Nat.pow_mul,←fH hlim l hll]
 rw [gI _ _ _ (by omega)] at hdiv
 have hx0:=limb_lt hlim l
 have hnext:s≠0→l+1<X.length∧val X / 18446744073709551616 ^ (l+1)=X.getD (l+1) 0∧X.getD (l+1) 0*2 ^ (64 - s)<18446744073709551616:=by
  intro h0
  have hl1:l+1<X.length:=by omega
  have hu:=fH hlim (l+1) hl1
  have hb:=htop.high
  rw [hdiv] at hb
  have hu2:val X / 18446744073709551616 ^ (l+1)*2 ^ (64 - s)<18446744073709551616:=Nat.lt_of_le_of_lt (Nat.le_add_left _ _) hb
  have hu3:val X / 18446744073709551616 ^ (l+1)<18446744073709551616:=by
   have:val X / 18446744073709551616 ^ (l+1)*1≤val X / 18446744073709551616 ^ (l+1)*2 ^ (64 - s):=Nat.mul_le_mul_left _ (Nat.pow_pos (by omega))
   omega
  have hu4:val X / 18446744073709551616 ^ (l+1)=X.getD (l+1) 0:=by omega
  refine⟨hl1,hu4,?_⟩
  rw [←hu4];exact hu2
 obtain⟨W,hW⟩:∃W,w.alloc (.cells #[.int .u64 0,.int .i64 0] 116)=W:=⟨_,rfl⟩
 have hbW:Below w.heap.size w W:=by rw [←hW];exact ag _ _
 have HLW:=HL W (hA.below hbW)
 obtain⟨b,off,rfl,hcell⟩:∃b off,ao=some ⟨b,off,none⟩∧∀k,k<X.length→W.cell? ⟨b,off+k,none⟩=some (.int .u64 ((X.getD k 0:Nat):Int)):=by
  rcases hli.below hbW with h|h
  ·rw [h] at hll;simp at hll
  ·exact h
 have hc0:=hcell l hll
 have hbox:W.heap[w.heap.size]?=some (.cells #[.int .u64 0,.int .i64 0] 116):=by rw [←hW];exact heap_alloc_new ..
 obtain⟨d0,d1⟩:=ay hbox
 have hfz:=cR hbox
 obtain⟨E,hE,hE2⟩:∃E:Nat,(L:Int) - 64=(E:Int)∧L - 64=E:=⟨L - 64,by omega,rfl⟩
 have hq:(E:Int) / 64=(l:Int):=by omega
 have hr:(E:Int) % 64=(s:Int):=by omega
 have hq':(E:Int).tdiv 64=(l:Int):=by rw [Int.tdiv_eq_ediv_of_nonneg (by omega)];exact hq
 have hr':(E:Int).tmod 64=(s:Int):=by rw [Int.tmod_eq_emod_of_nonneg (by omega)];exact hr
 have hsh:((X.getD l 0:Nat):Int) / 2 ^ s=((X.getD l 0 / 2 ^ s:Nat):Int):=by rw [Int.natCast_ediv,Int.natCast_pow];rfl
 have hs0:(0:Int)≤(s:Int):=by omega
 have hs64:(s:Int)<64:=by omega
 have hl0:(0:Int)≤(l:Int):=by omega
 have hlX:(l:Int)<(X.length:Int):=by omega
 have hfx:((L - 64+63:Nat):Int) - 63=(E:Int):=by omega
 have HT:=aa htop
 have HB:=aa hbW
 have HBox:=aa hbox
 have hxs:X.getD l 0 / 2 ^ s<18446744073709551616:=Nat.lt_of_le_of_lt (Nat.div_le_self _ _) hx0
 by_cases hz:s=0
 ·subst hz
  rw [Nat.pow_zero,Nat.div_one,Nat.sub_zero,show (2:Nat) ^ 64=18446744073709551616 from rfl] at hdiv
  have hM:val X / 2 ^ (L - 64)=X.getD l 0:=by have hb:=htop.high;omega
  rw [hM] at htop
  have HM:=aa htop
  clear htop HT hM hdiv hnext hcell hbox hbW hA hli HL hup hlo hlim hv
  generalize X.getD l 0=M at *
  have R5:=ci HBox.out (a':=.int .u64 M) (b':=.int .i64 (E:Int))
  have HD:=aa (bU HB.out (g:=w.heap.size) (u0:=.int .u64 M) (u1:=.int .i64 (E:Int)) (Nat.le_refl _))
  go_enter Tryz.func109,Tryz.ntmps109
  go_wp2_with fail
  refine HLW.mono ?_
  rintro e wn ⟨rfl,hw⟩;rw [hw];clear hw wn HLW
  go_wp2
  generalize (W.setCell ⟨w.heap.size,0,none⟩ (.int .u64 M)).setCell ⟨w.heap.size,1,none⟩ (.int .i64 (E:Int))=w8 at *
  obtain⟨q0,q1⟩:=ay R5
  refine bodyPost_ret (v:=.agg #[.int .u64 M,.int .i64 (E:Int)]) (by simp [results,Tryz.results109,go_sem,q0,q1]) rfl ?_
  exact⟨M,L - 64+63,by rw [hfx],HM.out,by omega,HD.out⟩
 ·obtain⟨hl1,hu,hfit⟩:=hnext hz
  have hc1:=hcell (l+1) hl1
  rw [hu] at hdiv
  have hor:=jX (X.getD (l+1) 0) (64 - s) (X.getD l 0 / 2 ^ s) (val X / 2 ^ (L - 64)) (by omega) ((Nat.div_lt_iff_lt_mul (Nat.pow_pos (by omega))).2 (by rw [←Nat.pow_add,show 64 - s+s=64 by omega];exact hx0)) hfit (by rw [hdiv];omega)
  have hwr:=bG (X.getD (l+1) 0) (64 - s) (X.getD (l+1) 0*2 ^ (64 - s)) (Nat.mod_eq_of_lt hfit)
  obtain⟨t,ht⟩:∃t:Nat,64 - s=t:=⟨_,rfl⟩
  have hti:(64:Int) - (s:Int)=(t:Int):=by omega
  have htn:t<64:=by omega
  have hgt:(0:Int)<(s:Int):=by omega
  rw [ht] at hor hwr
  have HM:=aa htop
  clear htop HT hdiv hnext hcell hbox hbW hA hli HL hup hlo hlim hv hu hfit
  have hl1':(l:Int)+1<(X.length:Int):=by omega
  generalize val X / 2 ^ (L - 64)=M at *
  generalize X.getD (l+1) 0*2 ^ t=z at *
  generalize X.getD (l+1) 0=x1 at *
  generalize X.getD l 0 / 2 ^ s=y at *
  generalize X.getD l 0=x0 at *
  have R5:=ci HBox.out (a':=.int .u64 M) (b':=.int .i64 (E:Int))
  have HD:=aa (bU HB.out (g:=w.heap.size) (u0:=.int .u64 M) (u1:=.int .i64 (E:Int)) (Nat.le_refl _))
  go_enter Tryz.func109,Tryz.ntmps109
  go_wp2_with fail
  refine HLW.mono ?_
  rintro e wn ⟨rfl,hw⟩;rw [hw];clear hw wn HLW
  go_wp2
  generalize (W.setCell ⟨w.heap.size,0,none⟩ (.int .u64 M)).setCell ⟨w.heap.size,1,none⟩ (.int .i64 (E:Int))=w8 at *
  obtain⟨q0,q1⟩:=ay R5
  refine bodyPost_ret (v:=.agg #[.int .u64 M,.int .i64 (E:Int)]) (by simp [results,Tryz.results109,go_sem,q0,q1]) rfl ?_
  exact⟨M,L - 64+63,by rw [hfx],HM.out,by omega,HD.out⟩

theorem ij (b n m f a lm E:Nat)(c1 c2 c3:Value)(w:World)(hp:Pw b n m f)(ht:Top a lm E)(hn:n≤1125899906842624)
  (HS:∀W,Below w.heap.size w W→Calls Tryz.prog 112 #[c1,c2,c3] W fun e w'=>e=.returned (.bool (decide (b ^ n≤a)))∧Below W.heap.size W w') :
  Calls Tryz.prog 110 #[.agg #[.int .u64 m,.int .i64 ((f:Int) - 63)],.int .i64 n,.agg #[.int .u64 lm,.int .i64 ((E:Int) - 63)],.func (.func 112) #[] #[c1,c2,c3]] w fun e w'=>e=.returned (.bool (decide (b ^ n≤a)))∧Below w.heap.size w w':=by
 have hr:=hp.range
 have hl:=ht.high
 have hno:=fun h=>hp.over ht h
 have hyes:=fun h1 h2=>hp.under ht hn h1 h2
 have ba:=ag w (.cells #[.int .u64 m,.int .i64 ((f:Int) - 63)] 116)
 have bb:=ag (w.alloc (.cells #[.int .u64 m,.int .i64 ((f:Int) - 63)] 116)) (.cells #[.int .u64 lm,.int .i64 ((E:Int) - 63)] 116)
 have bab:=ba.trans (bb.mono ba.size)
 have HB:=aa bab
 have HS2:=HS _ bab
 have HNO:=aa hno
 have HYES:=aa hyes
 clear hno hyes ba bb bab HS hp ht
 by_cases h1:E<f
 ·have i1:(E:Int) - 63<(f:Int) - 63:=by omega
  have hd:decide (b ^ n≤a)=false:=decide_eq_false (by have:=HNO.out (.inl h1);omega)
  rw [hd]
  clear HS2 HNO HYES hd
  go_enter Tryz.func110,Tryz.ntmps110
  go_wp2
  go_ret
  exact⟨rfl,HB.out⟩
 ·by_cases h2:f=E∧lm<m
  ·obtain⟨rfl,h2⟩:=h2
   have i1:(lm:Int)<(m:Int):=by omega
   have hd:decide (b ^ n≤a)=false:=decide_eq_false (by have:=HNO.out (.inr ⟨rfl,h2⟩);omega)
   rw [hd]
   clear HS2 HNO HYES hd
   go_enter Tryz.func110,Tryz.ntmps110
   go_wp2
   go_ret
   exact⟨rfl,HB.out⟩
  ·have e4:(4:Int)*(n:Int)=((4*n:Nat):Int):=by omega
   have ha:=fun W=>aL m (4*n) W
   have hS0:(m+4*n) / 18446744073709551616=0∨(m+4*n) / 18446744073709551616=1:=by omega
   have hSl:(m+4*n) % 18446744073709551616<18446744073709551616:=by omega
   have n4:4*n<18446744073709551616:=by omega
   have hq:(m+4*n) / 18446744073709551616=0→m+4*n=(m+4*n) % 18446744073709551616:=by omega
   obtain⟨S,hS⟩:∃S,(m+4*n) % 18446744073709551616=S:=⟨_,rfl⟩
   obtain⟨cy,hcy⟩:∃cy,(m+4*n) / 18446744073709551616=cy:=⟨_,rfl⟩
   simp only [hS,hcy] at ha
   rw [hcy] at hS0
   rw [hS,hcy] at hq
   rw [hS] at hSl
   have HQ:=aa hq
   obtain⟨N4,hN4⟩:∃N4,4*n=N4:=⟨_,rfl⟩
   rw [hN4] at e4 n4
   simp only [hN4] at ha
   have HN4:=aa hN4
   have j1:¬((E:Int) - 63<(f:Int) - 63):=by omega
   clear hq hS hcy hN4
   by_cases hc:cy=0∧(f<E∨S≤lm)
   ·obtain⟨rfl,hc⟩:=hc
    have hd:decide (b ^ n≤a)=true:=decide_eq_true (HYES.out (by have:=HQ.out rfl;omega) (by have:=HQ.out rfl;omega))
    rw [hd]
    by_cases hfE:f<E
    ·have i1:(f:Int) - 63<(E:Int) - 63:=by omega
     have i2:¬((f:Int) - 63=(E:Int) - 63):=by omega
     have i3:(((f:Int) - 63) == ((E:Int) - 63))=false:=by rw [beq_eq_false_iff_ne];exact i2
     clear HS2 HNO HYES hd hS0 h1 h2
     go_enter Tryz.func110,Tryz.ntmps110
     go_wp2
     go_ret
     exact⟨rfl,HB.out⟩
    ·obtain rfl:f=E:=by omega
     have i1:¬((lm:Int)<(m:Int)):=by omega
     have i2:(S:Int)≤(lm:Int):=by omega
     clear HS2 HNO HYES hd hS0 h1 h2
     go_enter Tryz.func110,Tryz.ntmps110
     go_wp2
     go_ret
     exact⟨rfl,HB.out⟩
   ·generalize decide (b ^ n≤a)=r at *
    by_cases hfE:f<E
    ·have i1:(f:Int) - 63<(E:Int) - 63:=by omega
     have i2:¬((f:Int) - 63=(E:Int) - 63):=by omega
     have i3:(((f:Int) - 63) == ((E:Int) - 63))=false:=by rw [beq_eq_false_iff_ne];exact i2
     obtain rfl:cy=1:=by omega
     clear HNO HYES hS0 h1 h2 hc
     go_enter Tryz.func110,Tryz.ntmps110
     go_wp2_with fail
     refine HS2.mono ?_
     rintro e w2 ⟨rfl,hb2⟩
     have HB2:=aa (HB.out.trans (hb2.mono HB.out.size))
     clear HS2 hb2
     go_wp2
     go_ret
     exact⟨rfl,HB2.out⟩
    ·obtain rfl:f=E:=by omega
     have i1:¬((lm:Int)<(m:Int)):=by omega
     rcases hS0 with rfl|rfl
     ·have i2:¬((S:Int)≤(lm:Int)):=by omega
      clear HNO HYES h1 h2 hc
      go_enter Tryz.func110,Tryz.ntmps110
      go_wp2_with fail
      refine HS2.mono ?_
      rintro e w2 ⟨rfl,hb2⟩
      have HB2:=aa (HB.out.trans (hb2.mono HB.out.size))
      clear HS2 hb2
      go_wp2
      go_ret
      exact⟨rfl,HB2.out⟩
     ·clear HNO HYES h1 h2 hc
      go_enter Tryz.func110,Tryz.ntmps110
      go_wp2_with fail
      refine HS2.mono ?_
      rintro e w2 ⟨rfl,hb2⟩
      have HB2:=aa (HB.out.trans (hb2.mono HB.out.size))
      clear HS2 hb2
      go_wp2
      go_ret
      exact⟨rfl,HB2.out⟩

theorem ju (a b:Nat)(ha:a<4611686018427387904)(hb:b<4611686018427387904):bits .or .i64 (a:Int) (b:Int)=((a ||| b:Nat):Int):=by
 have hx:a ||| b<2 ^ 62:=Nat.or_lt_two_pow (by omega) (by omega)
 have h1:(BitVec.ofInt 64 (a:Int)).toNat=a:=by
  rw [BitVec.ofInt_natCast,BitVec.toNat_ofNat];exact Nat.mod_eq_of_lt (by omega)
 have h2:(BitVec.ofInt 64 (b:Int)).toNat=b:=by
  rw [BitVec.ofInt_natCast,BitVec.toNat_ofNat];exact Nat.mod_eq_of_lt (by omega)
 show IntKind.i64.wrap ((BitVec.ofInt 64 (a:Int) ||| BitVec.ofInt 64 (b:Int)).toNat:Int)=_
 rw [BitVec.toNat_or,h1,h2,IntKind.wrap_i64]
 omega

theorem lI {m p:Nat}(h:m % 2 ^ (p+1)=0):m ||| 2 ^ p=m+2 ^ p:=by
 have e:m=2 ^ (p+1)*(m / 2 ^ (p+1)):=(Nat.mul_div_cancel' (Nat.dvd_of_mod_eq_zero h)).symm
 rw [e]
 exact (Nat.two_pow_add_eq_or_of_lt (by rw [Nat.pow_succ];have:=Nat.two_pow_pos p;omega) _).symm

theorem mj {m p K:Nat}(h:m % 2 ^ (p+1)=0)(hm:m<2 ^ K)(hp:p+1≤K):m+2 ^ (p+1)≤2 ^ K:=by
 have e:m=m / 2 ^ (p+1)*2 ^ (p+1):=(Nat.div_mul_cancel (Nat.dvd_of_mod_eq_zero h)).symm
 have h4:m / 2 ^ (p+1)<2 ^ (K - (p+1)):=by
  refine Nat.lt_of_mul_lt_mul_right (a:=2 ^ (p+1)) ?_
  rw [←Nat.pow_add,show K - (p+1)+(p+1)=K by omega,←e]
  exact hm
 have h5:=Nat.mul_le_mul_right (2 ^ (p+1)) (Nat.succ_le_of_lt h4)
 rw [←Nat.pow_add,show K - (p+1)+(p+1)=K by omega,Nat.succ_mul,←e] at h5
 exact h5

theorem lL {m p:Nat}(h:m % 2 ^ (p+1)=0):m % 2 ^ p=0∧(m+2 ^ p) % 2 ^ p=0:=by
 have e:m=2 ^ p*(2*(m / 2 ^ (p+1))):=by
  have e:=(Nat.mul_div_cancel' (Nat.dvd_of_mod_eq_zero h)).symm
  rw [Nat.pow_succ,Nat.mul_assoc] at e
  rw [Nat.pow_succ]
  exact e
 refine⟨?_,?_⟩
 ·rw [e];exact Nat.mul_mod_right _ _
 ·rw [Nat.add_mod_right,e];exact Nat.mul_mod_right _ _

theorem fN {w:World}{g:Nat}{a b:Value}{t:TypeId}(h:w.heap[g]?=some (.cells #[a,b] t)):w.cell? ⟨g,0,none⟩=some a∧w.cell? ⟨g,1,none⟩=some b:=⟨by simp [World.cell?,h],by simp [World.cell?,h]⟩

theorem lT (va:Value)(X:List Nat)(b:Nat)(w:World)(hA:Arg w va X)(hT:Tab w)(hl:X.length≤1048576)(hb:2≤b)(hb2:b≤36)(hL:64<blen (val X)) :
  Calls Tryz.prog 81 #[va,.int .u64 b] w fun e w'=>∃n:Nat,e=.returned (.int .i64 n)∧b ^ n≤val X∧val X<b ^ (n+1)∧n≤1152921504606846976∧Below w.heap.size w w':=by
 obtain⟨ao,cap,rfl,_,_,_⟩:=hA.form
 obtain⟨w0,hw0⟩:∃W,(w.alloc (.cells #[.slice ao X.length cap] 23)).alloc (.cells #[.int .u64 b] 43)=W:=⟨_,rfl⟩
 have hb0:Below w.heap.size w w0:=by rw [←hw0];exact bt5 (ag _ _) (ag _ _)
 have x0:w0.heap[w.heap.size]?=some (.cells #[.slice ao X.length cap] 23):=by
  rw [←hw0]
  exact ((ag (w.alloc (.cells #[.slice ao X.length cap] 23)) (.cells #[.int .u64 b] 43)).block w.heap.size (by simp)).trans (heap_alloc_new ..)
 have x1:w0.heap[w.heap.size+1]?=some (.cells #[.int .u64 b] 43):=by
  rw [←hw0]
  have h:=heap_alloc_new (w.alloc (.cells #[.slice ao X.length cap] 23)) (.cells #[.int .u64 b] 43)
  rw [World.size_alloc] at h
  exact h
 have c0:=an x0
 have c1:=an x1
 have C1:=jZ _ X w0 (hA.below hb0) hL
 have hlen:=dd hA.limbs hl
 obtain⟨L,hLe⟩:∃L,blen (val X)=L:=⟨_,rfl⟩
 have hup:val X<2 ^ L:=(blen_le_iff _ _).1 (by omega)
 have LV:=fun W (h:Arg W (.slice ao X.length cap) X)=>aq _ X W h
 rw [hLe] at hlen hL LV
 have HLN:=fun W=>Tryz.bits_Len (L:Int) W (by omega) (by omega)
 simp only [Int.toNat_natCast] at HLN
 obtain⟨K,hK⟩:∃K,Lib.bitLen L=K:=⟨_,rfl⟩
 have hKL:L<2 ^ K:=by rw [←hK];exact (Lib.bitLenAux_bounds 64 L (by omega) (by omega)).2.2
 have hK27:K≤27:=by rw [←hK];exact Lib.bitLen_le L 27 (by omega) (by omega)
 rw [hK] at HLN
 have hpos:1≤val X:=by
  rcases Nat.eq_zero_or_pos (val X) with h|h
  ·rw [h] at hLe;rw [show blen 0=0 from rfl] at hLe;omega
  ·exact h
 have hst:val X<b ^ (2 ^ K):=Nat.lt_of_lt_of_le hup (Nat.le_trans (Nat.pow_le_pow_left hb L) (Nat.pow_le_pow_right (by omega) (Nat.le_of_lt hKL)))
 have HA:=aa (hA.below hb0)
 have HT:=aa (hT.below hb0)
 have HB0:=aa hb0
 have HST:=aa (And.intro hpos hst)
 have X0:=aa x0
 have X1:=aa x1
 have HLV:=aa LV
 have HLN2:=aa HLN
 clear hA hT hb0 hup hKL hpos hst x0 x1 LV HLN hLe hK
 go_enter Tryz.func81,Tryz.ntmps81
 go_wp2_with fail
 refine C1.mono ?_
 rintro e w1 ⟨lm,E,rfl,hTop,_,hb1⟩
 obtain⟨w2,hw2⟩:∃W,w1.alloc (.cells #[.int .u64 lm,.int .i64 ((E:Int) - 63)] 116)=W:=⟨_,rfl⟩
 have hb2':Below w1.heap.size w1 w2:=by rw [←hw2];exact ag _ _
 have x2:w2.heap[w1.heap.size]?=some (.cells #[.int .u64 lm,.int .i64 ((E:Int) - 63)] 116):=by rw [←hw2];exact heap_alloc_new ..
 have hB2:=bt5 hb1 hb2'
 have y0:=(hB2.block _ (lt_of_block X0.out)).trans X0.out
 have y1:=(hB2.block _ (lt_of_block X1.out)).trans X1.out
 have d0:=an y0
 have L1:=HLV.out w2 (HA.out.below hB2)
 have Y0:=aa y0
 have Y1:=aa y1
 have Y2:=aa x2
 have HB2:=aa (bt5 HB0.out hB2)
 have HA2:=aa (HA.out.below hB2)
 have HT2:=aa (HT.out.below hB2)
 have HTOP:=aa hTop
 clear C1 hb1 hb2' x2 hB2 y0 y1 X0 X1 HA HT HB0 HLV c0 c1 hTop hw0
 go_wp2_with fail
 refine L1.mono ?_
 rintro e wn ⟨rfl,hw⟩;rw [hw];clear hw wn L1
 have L2:=HLN2.out w2
 go_wp2_with fail
 refine L2.mono ?_
 rintro e wn ⟨rfl,hw⟩;rw [hw];clear hw wn L2
 go_wp2
 clear hw2 d0
 go_loopw [6,7] (fun mv bv wr=>∃m q:Nat,mv=.int .i64 m∧bv=.int .i64 ((q:Int) - 1)∧q≤K∧m % 2 ^ q=0∧m<2 ^ K∧b ^ m≤val X∧val X<b ^ (m+2 ^ q)∧Below w2.heap.size w2 wr) (fun _ bv _=>(intOf bv+1).toNat)
 case atStart=>exact⟨0,K,rfl,rfl,Nat.le_refl _,Nat.zero_mod _,Nat.two_pow_pos _,by rw [Nat.pow_zero];exact HST.out.1,by rw [Nat.zero_add];exact HST.out.2,Below.refl _ _⟩
 case round=>
  obtain⟨m,q,rfl,rfl,hqK,hmq,hmK,hlo,hhi,hbr⟩:=hrel
  have h27:2 ^ K≤134217728:=Nat.pow_le_pow_right (n:=2) (j:=27) (by omega) hK27
  rcases Nat.eq_zero_or_pos q with hq0|hq0
  ·subst hq0
   have HE:=aa (And.intro hlo (And.intro hhi (bt5 HB2.out hbr)))
   have hm9:m≤134217728:=by omega
   clear hlo hhi hbr hmq
   go_wp2
   go_ret
   exact⟨m,rfl,HE.out.1,HE.out.2.1,by omega,HE.out.2.2⟩
  ·obtain⟨p,rfl⟩:∃p,q=p+1:=⟨q - 1,by omega⟩
   have eq:(((p+1:Nat):Int) - 1)=(p:Int):=by omega
   rw [eq]
   have hroom:=mj hmq hmK hqK
   have hhalf:=lL hmq
   have hpp:2 ^ (p+1)=2*2 ^ p:=by rw [Nat.pow_succ];omega
   have hDp:=Nat.two_pow_pos p
   have hor:=ju m (2 ^ p) (by omega) (by omega)
   rw [lI hmq] at hor
   have h2p:(2:Int) ^ p=((2 ^ p:Nat):Int):=by simp
   obtain⟨U,hU9⟩:∃U,m+2 ^ p=U:=⟨_,rfl⟩
   rw [hU9] at hor
   have hUK:U<2 ^ K:=by omega
   have hUe:m+2 ^ (p+1)=U+2 ^ p:=by omega
   have hUb:U≤134217728:=by omega
   have hDb:2 ^ p≤134217728:=by omega
   have hp64:p<64:=by omega
   have hp0:(0:Int)≤(p:Int):=by omega
   have HU:=aa hU9
   have HUK:=aa hUK
   have HUE:=aa hUe
   have HPH:=aa hhalf
   have HLO:=aa hlo
   have HHI:=aa hhi
   obtain⟨w4,hw4⟩:∃W,wr.alloc (.cells #[.int .i64 U] 3)=W:=⟨_,rfl⟩
   have hb4:Below wr.heap.size wr w4:=by rw [←hw4];exact ag _ _
   have x4:w4.heap[wr.heap.size]?=some (.cells #[.int .i64 U] 3):=by rw [←hw4];exact heap_alloc_new ..
   have hB4:=bt5 hbr hb4
   have HB4:=aa hB4
   have KA:=aa (fun (W:World) (hg:Below w4.heap.size w4 W)=>show W.cell? ⟨w.heap.size,0,none⟩=some (.slice ao X.length cap) from an (((bt5 hB4 hg).block _ (lt_of_block Y0.out)).trans Y0.out))
   have KS:=aa (fun (W:World) (hg:Below w4.heap.size w4 W)=>show W.cell? ⟨w.heap.size+1,0,none⟩=some (.int .u64 b)∧W.cell? ⟨wr.heap.size,0,none⟩=some (.int .i64 U)∧W.cell? ⟨w1.heap.size,0,none⟩=some (.int .u64 lm)∧W.cell? ⟨w1.heap.size,1,none⟩=some (.int .i64 ((E:Int) - 63)) from
    ⟨an (((bt5 hB4 hg).block _ (lt_of_block Y1.out)).trans Y1.out),an ((hg.block _ (lt_of_block x4)).trans x4),(fN (((bt5 hB4 hg).block _ (lt_of_block Y2.out)).trans Y2.out)).1,(fN (((bt5 hB4 hg).block _ (lt_of_block Y2.out)).trans Y2.out)).2⟩)
   have NP:=aa (fun (W:World)=>eY b U W (by omega) (by omega) (by omega))
   have NA:=aa (fun (W:World) (pm pf:Nat) (hPw:Pw b U pm pf) (hg:Below w4.heap.size w4 W)=>ij b U pm pf (val X) lm E (.pointer (some ⟨w.heap.size,0,none⟩)) (.pointer (some ⟨w.heap.size+1,0,none⟩)) (.pointer (some ⟨wr.heap.size,0,none⟩)) W hPw HTOP.out (by omega) (fun W' hW'=>iD w.heap.size (w.heap.size+1) wr.heap.size _ X b U W' (KA.out _ (bt5 hg hW')) (KS.out _ (bt5 hg hW')).1 (KS.out _ (bt5 hg hW')).2.1 (HA2.out.below (bt5 HB4.out (bt5 hg hW'))) (HT2.out.below (bt5 HB4.out (bt5 hg hW'))) hl hb hb2 (by omega)))
   have g0:Below w4.heap.size w4 w4.drew:=(Below.refl _ _).drew
   obtain⟨DD,hDD⟩:∃DD,2 ^ p=DD:=⟨_,rfl⟩
   have HDD:=aa hDD
   rw [hDD] at hor h2p hDb
   clear hlo hhi hbr hmq hhalf hroom hpp hDp hU9 hUK hUe hb4 x4 hB4 hDD eq KA
   by_cases hU:b ^ U≤val X
   ·skip
    have hdec:decide (b ^ U≤val X)=true:=by simpa using hU
    go_wp2_with fail
    go_region_held3 (fun w'=>w'.cell? ⟨w.heap.size+1,0,none⟩=some (.int .u64 b)∧w'.cell? ⟨wr.heap.size,0,none⟩=some (.int .i64 U)∧w'.cell? ⟨w1.heap.size,0,none⟩=some (.int .u64 lm)∧w'.cell? ⟨w1.heap.size,1,none⟩=some (.int .i64 ((E:Int) - 63))) (first|with_reducible exact KS.out _ g2|with_reducible exact KS.out _ g1|with_reducible exact KS.out _ g0) (first
     | (go_at_call 110;refine (NA.out _ pm pf hPw g1).mono ?_;rintro e' t2 ⟨rfl,hb2⟩;have g2:=bt5 g1 hb2)
     | (go_at_call 111;refine (NP.out _).mono ?_;rintro e' t1 ⟨pm,pf,rfl,hPw,hb1⟩;have g1:=bt5 g0 hb1))
    all_goals
     have HBE:=aa (bt5 HB4.out g2)
     obtain⟨_,z1,_,_⟩:=KS.out _ g2
     clear NA NP KS hb1 hb2 g1 g2 g0 hPw hdec
     go_wp2
     go_roundw
     case rel=>exact⟨U,p,rfl,rfl,by omega,by rw [←HU.out];exact HPH.out.2,HUK.out,hU,by have h:=HHI.out;rw [HUE.out] at h;exact h,HBE.out⟩
     case measure=>simp [intOf]
   ·skip
    have hdec:decide (b ^ U≤val X)=false:=by simpa using hU
    go_wp2_with fail
    go_region_held3 (fun w'=>w'.cell? ⟨w.heap.size+1,0,none⟩=some (.int .u64 b)∧w'.cell? ⟨wr.heap.size,0,none⟩=some (.int .i64 U)∧w'.cell? ⟨w1.heap.size,0,none⟩=some (.int .u64 lm)∧w'.cell? ⟨w1.heap.size,1,none⟩=some (.int .i64 ((E:Int) - 63))) (first|with_reducible exact KS.out _ g2|with_reducible exact KS.out _ g1|with_reducible exact KS.out _ g0) (first
     | (go_at_call 110;refine (NA.out _ pm pf hPw g1).mono ?_;rintro e' t2 ⟨rfl,hb2⟩;have g2:=bt5 g1 hb2)
     | (go_at_call 111;refine (NP.out _).mono ?_;rintro e' t1 ⟨pm,pf,rfl,hPw,hb1⟩;have g1:=bt5 g0 hb1))
    all_goals
     have HBE:=aa (bt5 HB4.out g2)
     obtain⟨_,z1,_,_⟩:=KS.out _ g2
     clear NA NP KS hb1 hb2 g1 g2 g0 hPw hdec
     go_wp2
     go_roundw
     case rel=>exact⟨m,p,rfl,rfl,by omega,HPH.out.1,hmK,HLO.out,by rw [HU.out];omega,HBE.out⟩
     case measure=>simp [intOf]

def fig (d:Nat):Nat:=[48,49,50,51,52,53,54,55,56,57,97,98,99,100,101,102,103,104,105,106,107,108,109,110,111,112,113,114,115,116,117,118,119,120,121,122].getD d 0

theorem cX (d:Nat):fig d<128:=by
 rcases Nat.lt_or_ge d 36 with h|h
 ·have:∀d:Fin 36,fig d.1<128:=by decide +kernel
  exact this ⟨d,h⟩
 ·unfold fig;rw [List.getD,List.getElem?_eq_none (by simpa using h)];decide

theorem jo (d:Nat)(h:d<(ByteArray.mk #[48,49,50,51,52,53,54,55,56,57,97,98,99,100,101,102,103,104,105,106,107,108,109,110,111,112,113,114,115,116,117,118,119,120,121,122]).size):(ByteArray.mk #[48,49,50,51,52,53,54,55,56,57,97,98,99,100,101,102,103,104,105,106,107,108,109,110,111,112,113,114,115,116,117,118,119,120,121,122])[d].toNat=fig d:=by
 have key:∀d:Fin 36,((ByteArray.mk #[48,49,50,51,52,53,54,55,56,57,97,98,99,100,101,102,103,104,105,106,107,108,109,110,111,112,113,114,115,116,117,118,119,120,121,122])[d.1]'(d.2)).toNat=fig d.1:=by decide +kernel
 exact key ⟨d,h⟩

def ax (L:List Nat):ByteArray:=L.foldl (fun r n=>r.push (UInt8.ofNat n)) ByteArray.empty

theorem iP (L:List Nat):∀r:ByteArray,((L.map fun n=>((n:Nat):Int)).foldl (fun r n=>r.push (UInt8.ofNat n.toNat)) r)=L.foldl (fun r n=>r.push (UInt8.ofNat n)) r:=by
 induction L with
 | nil=>intro r;rfl
 | cons a l ih=>intro r;simp only [List.map_cons,List.foldl_cons,Int.toNat_natCast];exact ih _

theorem mc (gd cap:Nat)(D:List Nat)(w:World)(hd:Byt w gd D) :
  (convert 64 9 (.slice (some ⟨gd,0,none⟩) D.length cap)).run Tryz.prog w=.ok (.string (ax D)) w:=by
 rw [run_convert_bytes_string w 64 9 5 _ _ _ Tryz.underlying64 Tryz.underlying5 Tryz.underlying9]
 rw [run_bytesToString w _ D.length cap (D.map fun n=>((n:Nat):Int)) ?_,iP]
 ·rfl
 ·have h:=run_loadCells_list (P:=Tryz.prog) (w:=w) ⟨gd,0,none⟩ (D.map bv) (fun j v hj=>by
   rw [List.getElem?_map] at hj
   rcases hh:D[j]? with _|z
   ·rw [hh] at hj;cases hj
   ·rw [hh] at hj
    have hjl:j<D.length:=by
     rcases Nat.lt_or_ge j D.length with h|h
     ·exact h
     ·rw [List.getElem?_eq_none h] at hh;cases hh
    have:=hd.cell j hjl
    have e:D.getD j 0=z:=by rw [List.getD,hh];rfl
    rw [e] at this
    simp only [Option.map_some,Option.some.injEq] at hj
    rw [←hj]
    by_cases h0:j=0
    ·subst h0;simpa [Addr.add,bv] using this
    ·simpa [Addr.add,bv,h0] using this)
  rw [List.length_map] at h
  rw [h,List.map_map]
  rfl

theorem gL (gd cap:Nat)(D:List Nat)(w:World)(hd:Byt w gd D)(h36:∀d ∈ D,d<36)(hc:D.length≤cap)(hcm:cap≤9223372036854775807) :
  Calls Tryz.prog 30 #[.slice (some ⟨gd,0,none⟩) D.length cap] w fun e w'=>e=.returned (.string (ax (D.map fig)))∧Fr gd w w':=by
 have HD:=aa hd
 clear hd
 go_enter Tryz.func30,Tryz.ntmps30
 go_wp2
 go_loopw [7] (fun i wr=>∃(k:Nat) (D':List Nat),k≤D.length∧i=.int .i64 k∧Byt wr gd D'∧D'=(D.take k).map fig ++ D.drop k∧Fr gd w wr) (fun i _=>D.length - (intOf i).toNat)
 case atStart=>exact⟨0,D,Nat.zero_le _,rfl,HD.out,by simp,Fr.refl _ _⟩
 case round=>
  obtain⟨k,D',hk,rfl,hB,hD',hF⟩:=hrel
  clear HD
  have hlen:D'.length=D.length:=by rw [hD'];simp;omega
  by_cases hkl:k<D.length
  ·have e1:D.drop k=D.getD k 0 :: D.drop (k+1):=by
    rw [List.drop_eq_getElem_cons hkl,List.getD,List.getElem?_eq_getElem hkl];rfl
   have e2:D'.getD k 0=D.getD k 0:=by
    rw [hD',List.getD,List.getElem?_append_right (by simp;omega)]
    simp [e1,Nat.min_eq_left (Nat.le_of_lt hkl)]
   have hset:D'.set k (fig (D.getD k 0))=(D.take (k+1)).map fig ++ D.drop (k+1):=by
    have hA:((D.take k).map fig).length=k:=by simp;omega
    have e3:D.take (k+1)=D.take k ++ [D.getD k 0]:=by rw [List.take_add_one,List.getD,List.getElem?_eq_getElem hkl];rfl
    rw [hD',List.set_append_right _ _ (by omega),hA,Nat.sub_self,e1,List.set_cons_zero,e3,List.map_append,List.append_assoc]
    rfl
   have h36k:D.getD k 0<36:=h36 _ (by rw [List.getD,List.getElem?_eq_getElem hkl];exact List.getElem_mem _)
   have hco:=hB.cell k (by omega)
   have hfr:=hB.free k
   rw [e2] at hco
   have hfl:=cX (D.getD k 0)
   have hfa:=jo (D.getD k 0) h36k
   have HS:=aa hset
   have HB:=aa hB
   have HF:=aa hF
   generalize D.getD k 0=d at *
   clear hB hF hset hD' e1 e2
   go_wp2
   go_roundw
   case rel=>exact⟨k+1,D'.set k (fig d),by omega,by go_num,HB.out.set _ _,HS.out,HF.out.setCell _ _⟩
   case measure=>simp [intOf];omega
  ·have ek:k=D.length:=by omega
   subst ek
   have e1:D'=D.map fig:=by rw [hD'];simp
   subst e1
   have HC:=mc gd cap _ wr hB
   rw [List.length_map] at HC
   have HF:=aa hF
   clear hB hF hD'
   go_wp2
   go_ret
   exact⟨rfl,HF.out⟩

def cP (b a:Nat)(w:World)(e:Ending)(w':World):Prop:=
 ∃(gd:Nat) (D:List Nat),e=.returned (.slice (some ⟨gd,0,none⟩) D.length D.length)∧w.heap.size≤gd∧Byt w' gd D∧aF b a D.length∧D.length≤9223372036854775807∧(∀i,i<D.length→D.getD i 0=a / b ^ (D.length - 1 - i) % b)∧Below w.heap.size w w'

theorem cP.small {b a:Nat}{D:List Nat}(hb:0<b)(hb2:b≤36)(h:∀i,i<D.length→D.getD i 0=a / b ^ (D.length - 1 - i) % b):∀d ∈ D,d<36:=by
 intro d hd
 obtain⟨i,hi,rfl⟩:=List.getElem_of_mem hd
 have h1:=h i hi
 rw [List.getD,List.getElem?_eq_getElem hi] at h1
 have h2:a / b ^ (D.length - 1 - i) % b<b:=Nat.mod_lt _ hb
 have h3:D[i]=a / b ^ (D.length - 1 - i) % b:=h1
 omega

def ip (b a:Nat)(w:World)(e:Ending)(w':World):Prop:=
 ∃D:List Nat,e=.returned (.tuple #[.string (ax (D.map fig)),.int .i64 0])∧aF b a D.length∧(∀i,i<D.length→D.getD i 0=a / b ^ (D.length - 1 - i) % b)∧Below w.heap.size w w'

theorem ev (va:Value)(a b:Nat)(w:World)(hb:2≤b)(hb2:b≤36)(HW:Calls Tryz.prog 31 #[va,.int .i64 b] w (cP b a w)) :
  Calls Tryz.prog 13 #[va,.int .i64 b] w (ip b a w):=by
 have HI:=fW b w hb hb2
 go_enter Tryz.func13,Tryz.ntmps13
 go_wp2_with fail
 refine HI.mono ?_
 rintro e wn ⟨rfl,hw⟩;rw [hw];clear hw wn HI
 go_wp2_with fail
 refine HW.mono ?_
 rintro e w1 ⟨g,D,rfl,hg,hd,hn,hm,hdig,hbe⟩
 have HT:=gL g D.length D w1 hd (cP.small (by omega) hb2 hdig) (Nat.le_refl _) hm
 have hgl:=hd.lt
 have HB:=aa hbe
 have HE:=aa (And.intro hn hdig)
 clear HW hd hbe hn hdig
 go_wp2_with fail
 refine HT.mono ?_
 rintro e w2 ⟨rfl,hf⟩
 have HB2:=aa (HB.out.trans (hf.below (base:=w.heap.size) hg (by have:=HB.out.size;omega)))
 clear HT hf
 go_wp2
 go_returns
 exact⟨D,rfl,HE.out.1,HE.out.2,HB2.out⟩

attribute [local go_sem] cO
end Go.Proofs.YtghhnehbpkmhdaaGreatDoor
namespace Go.Proofs.YtghhnehbpkmhdaaGreatDoor
open Go.RowKit
open Lm
attribute [local go_sem ↓] Go.wp_at_zero Go.wp_at_succ

theorem s0 (h:0<(ByteArray.mk #[48,48,102,102]).size):(ByteArray.mk #[48,48,102,102])[0].toNat=48:=rfl

theorem s1 (h:1<(ByteArray.mk #[48,48,102,102]).size):(ByteArray.mk #[48,48,102,102])[1].toNat=48:=rfl

theorem s2 (h:2<(ByteArray.mk #[48,48,102,102]).size):(ByteArray.mk #[48,48,102,102])[2].toNat=102:=rfl

theorem s3 (h:3<(ByteArray.mk #[48,48,102,102]).size):(ByteArray.mk #[48,48,102,102])[3].toNat=102:=rfl

attribute [local go_sem] s0 s1 s2 s3
end Go.Proofs.YtghhnehbpkmhdaaGreatDoor
namespace Go.Proofs.YtghhnehbpkmhdaaGreatDoor
open Go.RowKit
open Lm
attribute [local go_sem ↓] Go.wp_at_zero Go.wp_at_succ

def cq (b o n:Nat)(D:List Nat)(w:World)(e:Ending)(w':World):Prop:=
 Below w.heap.size w w'∧((∃v Z,e=.returned (.tuple #[v,.int .i64 0])∧Ans w' w.heap.size v Z∧Z.length≤1125899906842624∧val Z=dvr b D o n∧tr Z=Z)∨(∃v,e=.returned (.tuple #[v,.int .i64 3])∧67108864<blen (dvr b D o n)))

theorem Byt.made {w:World}{base n g:Nat}(h:w.ownsRow base 5 1 (.slice (some ⟨g,0,none⟩) n n) n (madeCells (Value.int .u8 0).cells (n*1)).toList):Byt w g (List.replicate n 0):=by
 have:=ik h
 unfold Byt
 rw [this,List.map_replicate]
 rfl

theorem cV (b:Nat)(D:List Nat):∀k,(∀i,i<k→D.getD i 0=0)→dvr b D 0 k=0
 | 0,_=>rfl
 | k+1,h=>by rw [dvr,cV b D k (fun i hi=>h i (by omega)),Nat.zero_add,h k (by omega)];omega

def bT (b n:Nat)(dg:Nat→Int)(w:World)(e:Ending)(w':World):Prop:=
 Below w.heap.size w w'∧((∃i,i<n∧(dg i<0∨(b:Int)≤dg i)∧e=.returned (.tuple #[.slice none 0 0,.int .i64 51])) ∨
  (∃D:List Nat,D.length=n∧(∀i,i<n→((D.getD i 0:Nat):Int)=dg i∧D.getD i 0<b)∧Res w' w.heap.size e (dvr b D 0 n)))

theorem je (c1:Value)(b n:Nat)(dg:Nat→Int)(w:World)(hT:Tab w)(hb:2≤b)(hb2:b≤36)(hn:n≤140737488351232)
  (HS:∀i,i<n→∀W,Below w.heap.size w W→Calls Tryz.prog 33 #[.int .i64 i,c1] W fun e w'=>e=.returned (.int .i64 (dg i))∧w'=W)
  (HR:∀(W:World) (D:List Nat) (k:Nat) (ao:Option Addr) (cc:Nat),Tab W→Byt W w.heap.size D→D.length=n→k≤n→(∀i,i<n→D.getD i 0<b)→(k<n→ao=some ⟨w.heap.size,k,none⟩∧cc=n - k∧D.getD k 0≠0) →
   Calls Tryz.prog 59 #[.slice ao (n - k) cc,.int .i64 b] W (cq b k (n - k) D W)) :
  Calls Tryz.prog 32 #[.int .i64 b,.int .i64 n,.func (.func 33) #[] #[c1]] w (bT b n dg w):=by
 obtain⟨i0,hi,hz0,hz1,hz2⟩:=info_parts Tryz.infoB
 have HT:=aa hT
 have HHS:=aa HS
 have HHR:=aa HR
 clear hT HS HR
 go_enter Tryz.func32,Tryz.ntmps32
 go_wp2_with (at_make;refine wpList_make_full _ rfl _ _ 64 rfl w.heap.size 5 i0 (.int .u8 0) 1 Tryz.underlying64 hi hz0 hz1 .i64 .i64 _ _ n rfl rfl (by omega) (by omega) (by rw [hz2];omega) (by unfold maxLen;omega) (Nat.le_refl _) ?_;intro w1 hown hgrow)
 have HB1:=aa ((Below.refl w.heap.size w).grown hgrow (Nat.le_refl _) (fun k hk=>by cases hk))
 have HY1:=aa (Byt.made hown)
 clear hown hgrow hi hz0 hz1 hz2
 go_loopw [17] (fun i wr=>∃(k:Nat) (D:List Nat),k≤n∧i=.int .i64 k∧Byt wr w.heap.size D∧D.length=n∧(∀i,i<k→((D.getD i 0:Nat):Int)=dg i∧D.getD i 0<b)∧Below w.heap.size w wr) (fun i _=>n - (intOf i).toNat)
 case atStart=>exact⟨0,_,Nat.zero_le _,rfl,HY1.out,by simp,fun i hi=>by omega,HB1.out⟩
 case round=>
  obtain⟨k,D,hk,rfl,hY,hlen,hdg,hbel⟩:=hrel
  clear HB1 HY1
  have HY:=aa hY
  have HB:=aa hbel
  have HDG:=aa hdg
  clear hY hbel hdg
  by_cases hkn:k<n
  ·have hi1:(k:Int)<(n:Int):=by omega
   have HC:=HHS.out k hkn wr HB.out
   have hco:=HY.out.cell k (by omega)
   have hfr:=HY.out.free k
   obtain⟨z,hz⟩:∃z,dg k=z:=⟨_,rfl⟩
   rw [hz] at HC
   generalize D.getD k 0=old at *
   have HZ:=aa hz
   clear hz
   go_wp2_with fail
   refine HC.mono ?_
   rintro e wn ⟨rfl,hw⟩;rw [hw];clear hw wn HC
   by_cases hz0:z<0
   ·go_wp2
    go_returns
    exact⟨HB.out,.inl ⟨k,hkn,.inl (by rw [HZ.out];exact hz0),rfl⟩⟩
   ·by_cases hzb:(b:Int)≤z
    ·go_wp2
     go_returns
     exact⟨HB.out,.inl ⟨k,hkn,.inr (by rw [HZ.out];exact hzb),rfl⟩⟩
    ·obtain⟨y,rfl⟩:∃y:Nat,z=(y:Int):=⟨z.toNat,by omega⟩
     have hyb:y<b:=by omega
     have e256:(y:Int) % 256=(y:Int):=by omega
     go_wp2
     go_roundw
     case rel=>
      refine⟨k+1,D.set k y,by omega,by go_num,HY.out.set _ _,by simp [hlen],fun i hi=>?_,HB.out.setCell (p:=⟨w.heap.size,k,none⟩) (Nat.le_refl _) _⟩
      rw [List.getD,List.getElem?_set]
      by_cases e:k=i
      ·subst e;rw [if_pos rfl,if_pos (by omega)];exact⟨HZ.out.symm,hyb⟩
      ·rw [if_neg e];exact HDG.out i (by omega)
     case measure=>simp [intOf];omega
  ·obtain rfl:k=n:=by omega
   clear HHS
   go_wp2
   go_loop [8] (fun t=>∃(j cc:Nat) (ao:Option Addr),j≤k∧t=.slice ao (k - j) cc∧(j<k→ao=some ⟨w.heap.size,j,none⟩∧cc=k - j)∧∀i,i<j→D.getD i 0=0) (fun t=>match t with | .slice _ l _=>l | _=>0)
   case atStart=>exact⟨0,k,_,Nat.zero_le _,rfl,fun _=>⟨rfl,rfl⟩,fun i hi=>by omega⟩
   case round=>
    obtain⟨j,cc,ao,hj,rfl,hao,hze⟩:=hrel
    have HZE:=aa hze
    clear hze
    by_cases hjz:j<k∧D.getD j 0=0
    ·obtain⟨hjk,hz⟩:=hjz
     obtain⟨rfl,rfl⟩:=hao hjk
     have hco:=HY.out.cell j (by omega)
     rw [hz] at hco
     obtain⟨R,hR,hR2⟩:∃R,k - j=R+1∧k - (j+1)=R:=⟨k - j - 1,by omega,by omega⟩
     rw [hR]
     have HZ:=aa hz
     clear hz hao
     go_wp2
     go_round
     case rel=>
      refine⟨j+1,R,_,by omega,by rw [hR2],fun h=>⟨by rw [if_neg (by omega)],by omega⟩,fun i hi=>?_⟩
      rcases Nat.lt_or_ge i j with h|h
      ·exact HZE.out i h
      ·obtain rfl:i=j:=by omega
       exact HZ.out
     case measure=>show R<R+1;omega
    ·have HC:=HHR.out wr D j ao cc (HT.out.below HB.out) HY.out hlen hj (fun i hi=>(HDG.out i hi).2) (fun h=>⟨(hao h).1,(hao h).2,fun h2=>hjz ⟨h,h2⟩⟩)
     have HDV:Hid (dvr b D 0 k=dvr b D j (k - j)):=aa (by
      have h:=bI b D 0 j (k - j)
      rw [show j+(k - j)=k by omega,cV b D j HZE.out,Nat.zero_mul,Nat.zero_add,Nat.zero_add] at h
      exact h)
     by_cases hjk:j<k
     ·obtain⟨rfl,rfl⟩:=hao hjk
      have hco:=HY.out.cell j (by omega)
      have hnz:D.getD j 0≠0:=fun h=>hjz ⟨hjk,h⟩
      generalize D.getD j 0=g at *
      have hgz:((g:Int) == 0)=false:=by rw [beq_eq_false_iff_ne];omega
      have hr0:(0:Int)<((k - j:Nat):Int):=by omega
      have hr1:0<k - j:=by omega
      generalize k - j=R at *
      clear hao hjz HHR
      go_wp2_with fail
      refine HC.mono ?_
      rintro e w2 ⟨hb2,hres⟩
      have HB2:=aa (HB.out.trans (hb2.mono HB.out.size))
      rcases hres with ⟨v,Z,rfl,hA,hZl,hZv,hZn⟩|⟨v,rfl,hbig⟩
      ·have HL:=aq v Z w2 (hA.arg hZl)
       have HA:=aa (hA.base HB.out.size)
       rw [hZv,←HDV.out] at HL
       have HZ:=aa (And.intro (hZv.trans HDV.out.symm) hZn)
       obtain⟨L,hL⟩:∃L,blen (dvr b D 0 k)=L:=⟨_,rfl⟩
       rw [hL] at HL
       have HLL:=aa hL
       clear hL hA hZv hZn hb2 HC
       by_cases hbig:67108864<L
       ·have i1:(67108864:Int)<(L:Int):=by omega
        go_wp2_with fail
        refine HL.mono ?_
        rintro e wn ⟨rfl,hw⟩;rw [hw];clear hw wn HL
        go_wp2
        go_returns
        exact⟨HB2.out,.inr ⟨D,hlen,HDG.out,_,_,[],rfl,Ans.nil _ _,.inr ⟨rfl,rfl,by rw [HLL.out];exact hbig⟩⟩⟩
       ·have i1:¬((67108864:Int)<(L:Int)):=by omega
        go_wp2_with fail
        refine HL.mono ?_
        rintro e wn ⟨rfl,hw⟩;rw [hw];clear hw wn HL
        go_wp2
        go_returns
        exact⟨HB2.out,.inr ⟨D,hlen,HDG.out,_,_,Z,rfl,HA.out,.inl ⟨rfl,HZ.out.1,HZ.out.2,by rw [HLL.out];omega⟩⟩⟩
      ·rw [←HDV.out] at hbig
       have HBG:=aa hbig
       clear hbig hb2 HC
       go_wp2
       go_returns
       exact⟨HB2.out,.inr ⟨D,hlen,HDG.out,_,_,[],rfl,Ans.nil _ _,.inr ⟨rfl,rfl,HBG.out⟩⟩⟩
     ·obtain rfl:j=k:=by omega
      rw [Nat.sub_self] at HC ⊢
      have HDV:=aa (show dvr b D 0 j=dvr b D j 0 by have:=HDV.out;rw [Nat.sub_self] at this;exact this)
      clear hao hjz HHR
      go_wp2_with fail
      refine HC.mono ?_
      rintro e w2 ⟨hb2,hres⟩
      have HB2:=aa (HB.out.trans (hb2.mono HB.out.size))
      rcases hres with ⟨v,Z,rfl,hA,hZl,hZv,hZn⟩|⟨v,rfl,hbig⟩
      ·have HL:=aq v Z w2 (hA.arg hZl)
       have HA:=aa (hA.base HB.out.size)
       rw [hZv,←HDV.out] at HL
       have HZ:=aa (And.intro (hZv.trans HDV.out.symm) hZn)
       obtain⟨L,hL⟩:∃L,blen (dvr b D 0 j)=L:=⟨_,rfl⟩
       rw [hL] at HL
       have HLL:=aa hL
       clear hL hA hZv hZn hb2 HC
       by_cases hbig:67108864<L
       ·have i1:(67108864:Int)<(L:Int):=by omega
        go_wp2_with fail
        refine HL.mono ?_
        rintro e wn ⟨rfl,hw⟩;rw [hw];clear hw wn HL
        go_wp2
        go_returns
        exact⟨HB2.out,.inr ⟨D,hlen,HDG.out,_,_,[],rfl,Ans.nil _ _,.inr ⟨rfl,rfl,by rw [HLL.out];exact hbig⟩⟩⟩
       ·have i1:¬((67108864:Int)<(L:Int)):=by omega
        go_wp2_with fail
        refine HL.mono ?_
        rintro e wn ⟨rfl,hw⟩;rw [hw];clear hw wn HL
        go_wp2
        go_returns
        exact⟨HB2.out,.inr ⟨D,hlen,HDG.out,_,_,Z,rfl,HA.out,.inl ⟨rfl,HZ.out.1,HZ.out.2,by rw [HLL.out];omega⟩⟩⟩
      ·rw [←HDV.out] at hbig
       have HBG:=aa hbig
       clear hbig hb2 HC
       go_wp2
       go_returns
       exact⟨HB2.out,.inr ⟨D,hlen,HDG.out,_,_,[],rfl,Ans.nil _ _,.inr ⟨rfl,rfl,HBG.out⟩⟩⟩
end Go.Proofs.YtghhnehbpkmhdaaGreatDoor

