/- Package div: Rem64, limbPower. -/
import Derived.Test.YtemgogeokkeipaaGreatDoorB05
import Derived.Test.YtemgogeokkeipaaGreatDoorB02
import Derived.Test.YtemgogeokkeipaaGreatDoorB08
import Derived.Test.YtemgogeokkeipaaGreatDoorB01
import Derived.Deep.RegionWith
import Derived.Test.YtemgogeokkeipaaGreatDoorB04
import Derived.Deep.RegionHeld3
import Derived.Maps.AppendAt
set_option maxRecDepth 20000
set_option maxHeartbeats 2000000
namespace Go.Proofs.YtemgogeokkeipaaGreatDoor
open Go.RowKit
open Lm
attribute [local go_sem ↓] Go.wp_at_zero Go.wp_at_succ

theorem gQ (hi lo y:Nat):(hi % y*18446744073709551616+lo) % y=(hi*18446744073709551616+lo) % y:=by
 rw [Nat.add_mod,Nat.mul_mod,Nat.mod_mod,←Nat.mul_mod,←Nat.add_mod]

theorem gc (hi lo y:Nat)(w:World)(hy:y<18446744073709551616)(hy0:0<y)(hhi:hi<18446744073709551616)(hlo:lo<18446744073709551616) :
  Calls Tryz.prog 133 #[.int .u64 hi,.int .u64 lo,.int .u64 y] w fun e w'=>e=.returned (.int .u64 (((hi*18446744073709551616+lo) % y:Nat):Int))∧ak w w':=by
 have hlt:hi % y<y:=Nat.mod_lt _ hy0
 have HD:=fE (hi % y) lo y w hy hlt hlo
 rw [gQ] at HD
 have hz:((y:Int) == 0)=false:=by rw [beq_eq_false_iff_ne];omega
 have hmod:(hi:Int) % (y:Int)=((hi % y:Nat):Int):=by omega
 have hlt2:hi % y<18446744073709551616:=by omega
 generalize hi % y=c at *
 generalize (hi*18446744073709551616+lo) % y=r at *
 go_enter Tryz.func133,Tryz.ntmps133
 go_wp2_with fail
 refine HD.mono ?_
 rintro e w2 ⟨rfl,hs⟩
 have HS:=ac hs
 clear HD hs
 go_wp2
 go_ret
 exact⟨rfl,HS.out⟩

theorem fj (x y m gb:Nat)(w:World)(hx:x<18446744073709551616)(hy:y<18446744073709551616)(hm:m<18446744073709551616)(hm0:0<m)(hc:w.cell? ⟨gb,0,none⟩=some (.int .u64 (m:Int))) :
  Calls Tryz.prog 131 #[.int .u64 x,.int .u64 y,.pointer (some ⟨gb,0,none⟩)] w fun e w'=>e=.returned (.int .u64 ((x*y % m:Nat):Int))∧ak w w':=by
 have hM:=Tryz.bits_Mul64 x y hx hy w
 have e1:x*y / 18446744073709551616<18446744073709551616:=by
  rw [Nat.div_lt_iff_lt_mul (by omega)]
  exact Nat.mul_lt_mul_of_lt_of_lt hx hy
 have HR:=gc (x*y / 18446744073709551616) (x*y % 18446744073709551616) m w hm hm0 e1 (Nat.mod_lt _ (by omega))
 rw [show x*y / 18446744073709551616*18446744073709551616+x*y % 18446744073709551616=x*y by have:=Nat.div_add_mod (x*y) 18446744073709551616;omega] at HR
 have hl1:x*y % 18446744073709551616<18446744073709551616:=Nat.mod_lt _ (by omega)
 have HMR:=ac hc
 generalize x*y % m=r at *
 generalize x*y / 18446744073709551616=h at *
 generalize x*y % 18446744073709551616=l at *
 go_enter Tryz.func131,Tryz.ntmps131
 go_wp2_with fail
 refine hM.mono ?_
 rintro e wn ⟨rfl,hw⟩;rw [hw];clear hw wn hM
 go_wp2_with fail
 refine HR.mono ?_
 rintro e w2 ⟨rfl,hs⟩
 have HS:=ac hs
 clear HR hs hc
 go_wp2
 go_ret
 exact⟨rfl,HS.out⟩

theorem eF (a E m:Nat):a ^ E % m*(a ^ E % m) % m=a ^ (2*E) % m:=by
 rw [←Nat.mul_mod,←Nat.pow_add];congr 2;omega

theorem eu (a E m:Nat):a ^ (2*E) % m*(a % m) % m=a ^ (2*E+1) % m:=by
 rw [←Nat.mul_mod,←Nat.pow_succ]

theorem fa (x k:Nat):x / 2 ^ k=2*(x / 2 ^ (k+1))+x / 2 ^ k % 2:=by
 rw [Nat.pow_succ,←Nat.div_div_eq_div_mul]
 omega

theorem jq (base m a:Nat)(ve:Value)(E:List Nat)(w:World)(hA:Arg w ve E)(hm:m<18446744073709551616)(hm0:0<m)(hb:base=a % m) :
  Calls Tryz.prog 97 #[.int .u64 base,ve,.int .u64 m] w fun e w'=>e=.returned (.int .u64 ((a ^ val E % m:Nat):Int))∧Below w.heap.size w w':=by
 have hbm:base<18446744073709551616:=by rw [hb];exact Nat.lt_trans (Nat.mod_lt _ hm0) hm
 obtain⟨w0,hw0⟩:∃w0,w0=w.alloc (.cells #[.int .u64 (m:Int)] 34):=⟨_,rfl⟩
 have hbel0:Below w.heap.size w w0:=by rw [hw0];exact (Below.refl _ _).alloc (Nat.le_refl _) _
 have hc0:w0.cell? ⟨w.heap.size,0,none⟩=some (.int .u64 (m:Int)):=by
  have:w0.heap[w.heap.size]?=some (.cells #[.int .u64 (m:Int)] 34):=by rw [hw0];exact heap_alloc_new ..
  simp [World.cell?,this]
 have HL:=aE _ _ w0 (hA.below hbel0)
 obtain⟨a1,k1,rfl,_,_,_⟩:=hA.form
 have hbits:blen (val E)≤64*E.length:=(blen_le_iff _ _).2 (by have:=val_lt hA.limbs;rw [show (18446744073709551616:Nat)=2 ^ 64 from rfl,←Nat.pow_mul] at this;exact this)
 have hfew:=hA.few
 have hz:((m:Int) == 0)=false:=by rw [beq_eq_false_iff_ne];omega
 have h1m:(1:Int) % (m:Int)=((1 % m:Nat):Int):=by rw [Int.natCast_emod];rfl
 have hE0:val E / 2 ^ blen (val E)=0:=Nat.div_eq_of_lt ((blen_le_iff _ _).1 (Nat.le_refl _))
 have START:Hid (1 % m=a ^ (val E / 2 ^ blen (val E)) % m):=by rw [hE0,Nat.pow_zero];exact ac rfl
 have h1l:1 % m<18446744073709551616:=Nat.lt_trans (Nat.mod_lt _ hm0) hm
 obtain⟨L,hL⟩:∃L,blen (val E)=L:=⟨_,rfl⟩
 rw [hL] at HL START hbits
 have HA:=ac (hA.below hbel0)
 have HBL:=ac hbel0
 have HW0:=ac hw0
 have HBM:=ac hb
 generalize 1 % m=o at *
 have hc0':=hc0
 rw [hw0] at hc0'
 clear hA hL hE0 hbel0 hw0 hb
 go_enter Tryz.func97,Tryz.ntmps97
 go_wp2_with fail
 rw [←HW0.out]
 refine HL.mono ?_
 rintro e wn ⟨rfl,hw⟩;rw [hw];clear hw wn HL
 go_wp2
 go_loopw [8,9] (fun v i wr=>∃k x:Nat,k≤L∧i=.int .i64 ((k:Int) - 1)∧v=.int .u64 x∧x<18446744073709551616∧x=a ^ (val E / 2 ^ k) % m∧ak w0 wr) (fun _ i _=>(intOf i+1).toNat)
 case atStart=>exact⟨L,o,Nat.le_refl _,rfl,rfl,h1l,START.out,ak.refl _⟩
 case round=>
  obtain⟨k,x,hk,rfl,rfl,hx,hxe,hs⟩:=hrel
  have HX:=ac hxe
  have HS:=ac hs
  clear hxe hs START
  by_cases hk0:k=0
  ·subst hk0
   have hxe:=HX.out
   rw [Nat.pow_zero,Nat.div_one] at hxe
   have HE:=ac hxe
   clear hxe
   go_wp2
   go_ret
   exact⟨by rw [HE.out];rfl,HBL.out.trans (HS.out.below _)⟩
  ·obtain⟨j,rfl⟩:∃j,k=j+1:=⟨k - 1,by omega⟩
   have ej:(((j+1:Nat):Int) - 1)=(j:Int):=by omega
   rw [ej]
   have hj0:(0:Int)≤(j:Int):=by omega
   have hcr:wr.cell? ⟨w.heap.size,0,none⟩=some (.int .u64 (m:Int)):=by unfold World.cell?;rw [HS.out.heap];exact hc0
   have HT1:=fj x x m w.heap.size wr hx hx hm hm0 hcr
   have e1:x*x % m=a ^ (2*(val E / 2 ^ (j+1))) % m:=by rw [HX.out];exact eF _ _ _
   have hlt1:x*x % m<18446744073709551616:=Nat.lt_trans (Nat.mod_lt _ hm0) hm
   have HE1:=ac e1
   generalize x*x % m=y at *
   clear e1 hk0 ej
   go_wp2_with fail
   refine HT1.mono ?_
   rintro e w2 ⟨rfl,hs2⟩
   have HS2:=ac (HS.out.trans hs2)
   have HB:=fp _ E (j:Int) w2 (HA.out.below (HS2.out.below _)) (by omega) (by omega)
   have hbit:bF (val E) (j:Int)=val E / 2 ^ j % 2:=by unfold bF;rw [if_neg (by omega),Int.toNat_natCast]
   rw [hbit] at HB
   have hn:=fa (val E) j
   clear HT1 hs2 hbit
   rcases Nat.mod_two_eq_zero_or_one (val E / 2 ^ j) with hb0|hb1
   ·rw [hb0] at HB hn
    have HN:Hid (y=a ^ (val E / 2 ^ j) % m):=by rw [hn,Nat.add_zero];exact ac HE1.out
    clear hn hb0
    go_wp2_with fail
    refine HB.mono ?_
    rintro e wn ⟨rfl,hw⟩;rw [hw];clear hw wn HB
    go_wp2
    go_roundw
    case rel=>exact⟨j,y,by omega,rfl,rfl,hlt1,HN.out,HS2.out⟩
    case measure=>simp [intOf]
   ·rw [hb1] at HB hn
    have hcr2:w2.cell? ⟨w.heap.size,0,none⟩=some (.int .u64 (m:Int)):=by unfold World.cell?;rw [HS2.out.heap];exact hc0
    have HT2:=fj y base m w.heap.size w2 hlt1 hbm hm hm0 hcr2
    have HN:Hid (y*base % m=a ^ (val E / 2 ^ j) % m):=by rw [hn,HE1.out,HBM.out];exact ac (eu _ _ _)
    have hlt2:y*base % m<18446744073709551616:=Nat.lt_trans (Nat.mod_lt _ hm0) hm
    generalize y*base % m=z at *
    clear hn hb1
    go_wp2_with fail
    refine HB.mono ?_
    rintro e wn ⟨rfl,hw⟩;rw [hw];clear hw wn HB
    go_wp2_with fail
    refine HT2.mono ?_
    rintro e w3 ⟨rfl,hs3⟩
    have HS3:=ac (HS2.out.trans hs3)
    clear HT2 hs3
    go_wp2
    go_roundw
    case rel=>exact⟨j,z,by omega,rfl,rfl,hlt2,HN.out,HS3.out⟩
    case measure=>simp [intOf]



theorem jG {Z:List Nat}(h0:0<val Z)(h1:val Z<18446744073709551616):(tr Z).length=1∧(tr Z).getD 0 0=val Z:=by
 have h2:=aw Z 1 (by simpa using h1)
 have h3:(tr Z).length≠0:=fun h=>by
  have:val (tr Z)=0:=by rw [List.length_eq_zero_iff.1 h];rfl
  rw [val_tr] at this;omega
 have h4:(tr Z).length=1:=by omega
 refine⟨h4,?_⟩
 rw [←val_tr Z]
 match h:tr Z with
 | []=>rw [h] at h4;simp at h4
 | [a]=>simp [val]
 | a :: b :: c=>rw [h] at h4;simp at h4

theorem gU {Z:List Nat}(h:¬(tr Z).length≤1):18446744073709551616≤val Z:=by
 refine Nat.le_of_not_lt fun hlt=>h ?_
 exact aw Z 1 (by simpa using hlt)

theorem iF (va ve vm:Value)(X E M:List Nat)(w:World)(hA:Arg w va X)(hA2:Arg w ve E)(hA3:Arg w vm M)(hT:Tab w)(hf1:X.length≤17592186044416)(hf3:M.length≤35184372088000)(hfm:(tr M).length≤1000000000000)(hM:val M≠0) :
  Calls Tryz.prog 52 #[va,ve,vm] w fun e w'=>Below w.heap.size w w'∧Res w' w.heap.size e (val X ^ val E % val M):=by
 obtain⟨r,hr⟩:∃r,val X ^ val E % val M=r:=⟨_,rfl⟩
 rw [hr]
 have HRR:=ac hr
 clear hr
 have HZ:=eg vm M w hA3
 rw [decide_eq_false hM] at HZ
 have HDV:=dr vm M w hA3 hT hM hf3
 have HA:=ac hA
 have HA2:=ac hA2
 have HA3:=ac hA3
 have HT:=ac hT
 have HM:=ac (Nat.pos_of_ne_zero hM)
 have hbits:blen (val E)≤64*E.length:=(blen_le_iff _ _).2 (by have:=val_lt hA2.limbs;rw [show (18446744073709551616:Nat)=2 ^ 64 from rfl,←Nat.pow_mul] at this;exact this)
 have hfew:=hA2.few
 obtain⟨a1,k1,rfl,_,_,_⟩:=hA.form
 obtain⟨a2,k2,rfl,_,_,_⟩:=hA2.form
 obtain⟨a3,k3,rfl,_,_,_⟩:=hA3.form
 clear hA hA2 hA3 hT hM
 go_enter Tryz.func52,Tryz.ntmps52
 go_wp2_with fail
 refine HZ.mono ?_
 rintro e wn ⟨rfl,hw⟩;rw [hw];clear hw wn HZ
 go_wp2_with fail
 refine HDV.mono ?_
 rintro e w1 ⟨⟨vd,rfl,hd⟩,hb1⟩
 have hd0:=hd
 obtain⟨g,nn,s,j,h,V,rfl,hg,hV,lV,hj,ht,hs,eV,eB,en,hnf⟩:=hd
 obtain⟨w2,hw2⟩:∃w2,w2=w1.alloc (.cells #[.slice (some ⟨g,0,none⟩) V.length V.length,.int .i64 nn,.int .i64 s] 112):=⟨_,rfl⟩
 have hbel2:Below w1.heap.size w1 w2:=by rw [hw2];exact (Below.refl _ _).alloc (Nat.le_refl _) _
 have hb2:w2.heap[w1.heap.size]?=some (.cells #[.slice (some ⟨g,0,none⟩) V.length V.length,.int .i64 nn,.int .i64 s] 112):=by rw [hw2];exact heap_alloc_new ..
 have HB2:=ac (hb1.trans (hbel2.mono hb1.size))
 have HD2:=ac (hd0.below hbel2)
 have H1:=fk _ _ X _ _ _ w2 (HA.out.below HB2.out) HD2.out (HT.out.below HB2.out) (by omega)
 have HBX:=ac hb2
 obtain⟨hk0,hk1,hk2⟩:=aH hb2
 rw [hw2] at hk0 hk1 hk2
 have HW2:=ac hw2
 have hlt12:w1.heap.size<w2.heap.size:=by rw [hw2];simp
 clear hd0 hV lV hj ht eV eB en hb2 hw2 hbel2 hb1 HDV
 go_wp2_with fail
 rw [←HW2.out]
 refine H1.mono ?_
 rintro e w3 ⟨⟨vb,bs,rfl,Ab,eb,lb,_⟩,hb3⟩
 have HB3:=ac (HB2.out.trans (hb3.mono HB2.out.size))
 have HX3:=ac ((hb3.block w1.heap.size hlt12).trans HBX.out)
 have HD3:=ac (HD2.out.below hb3)
 have HS:=jS _ M w3 (HA3.out.below HB3.out)
 have HAB:=ac (And.intro (Ab.arg (by omega)) eb)
 clear Ab eb hb3 H1 hk0 hk1 hk2 HBX HD2
 by_cases hsm:(tr M).length≤1
 ·rw [decide_eq_true hsm,if_pos hsm] at HS
  have hm1:val M<18446744073709551616:=by
   have h1:=val_lt (limbs_tr HA3.out.limbs)
   rw [val_tr] at h1
   exact Nat.lt_of_lt_of_le h1 (Nat.le_trans (Nat.pow_le_pow_right (by omega) hsm) (by simp))
  have hg0:(tr M).getD 0 0=val M:=(jG HM.out hm1).2
  rw [hg0] at HS
  have hbv:val bs<18446744073709551616:=by rw [HAB.out.2];exact Nat.lt_trans (Nat.mod_lt _ HM.out) hm1
  have hl0:limbI bs 0=val bs:=by
   unfold limbI
   rw [if_neg (by omega)]
   match bs,hbv with
   | [],_=>rfl
   | a :: r,hbv=>
    simp only [val] at hbv ⊢
    have:val r=0:=by omega
    rw [this];simp
  obtain⟨ab,kb,rfl,_,_,hlb⟩:=HAB.out.1.form
  have HL:=dm ab kb bs 0 w3 (by omega) (by omega) (by omega) hlb
  rw [hl0,HAB.out.2] at HL
  have HP:=jq (val X % val M) (val M) (val X) _ E w3 (HA2.out.below HB3.out) hm1 HM.out rfl
  rw [HRR.out] at HP
  have hr1:r<18446744073709551616:=by rw [←HRR.out];exact Nat.lt_trans (Nat.mod_lt _ HM.out) hm1
  have hxm:val X % val M<18446744073709551616:=Nat.lt_trans (Nat.mod_lt _ HM.out) hm1
  generalize val X % val M=xm at *
  generalize val M=mm at *
  clear hlb hl0 hg0 hbv
  go_wp2_with fail
  refine HS.mono ?_
  rintro e wn ⟨rfl,hw⟩;rw [hw];clear hw wn HS
  go_wp2_with fail
  refine HL.mono ?_
  rintro e wn ⟨rfl,hw⟩;rw [hw];clear hw wn HL
  go_wp2_with fail
  refine HP.mono ?_
  rintro e w4 ⟨rfl,hb4⟩
  have HF:=dH r w4 hr1
  have HB4:=ac (HB3.out.trans (hb4.mono HB3.out.size))
  clear HP hb4
  go_wp2_with fail
  refine HF.mono ?_
  rintro e w5 ⟨⟨v5,rfl,A5⟩,hb5⟩
  have HX:Hid (Below w.heap.size w w5∧Res w5 w.heap.size (.returned (.tuple #[v5,.int .i64 0])) r):=by
   refine ac ⟨HB4.out.trans (hb5.mono HB4.out.size),v5,0,tr [r],rfl,A5.base HB4.out.size,.inl ⟨rfl,by rw [val_tr];simp [val],tr_tr _,?_⟩⟩
   have:blen r≤64:=(blen_le_iff r 64).2 hr1
   omega
  clear HF A5 hb5
  go_wp2
  go_ret2
  exact HX.out
 ·rw [decide_eq_false hsm,if_neg hsm] at HS
  have hm2:=gU hsm
  obtain⟨L,hL⟩:∃L,blen (val E)=L:=⟨_,rfl⟩
  have hE0:val E / 2 ^ L=0:=Nat.div_eq_of_lt ((blen_le_iff _ _).1 (by omega))
  obtain⟨w4,hw4⟩:∃w4,w4=w3.alloc (.cells #[.int .u64 1] 34):=⟨_,rfl⟩
  have hbel4:Below w3.heap.size w3 w4:=by rw [hw4];exact (Below.refl _ _).alloc (Nat.le_refl _) _
  have HB4:=ac (HB3.out.trans (hbel4.mono HB3.out.size))
  have HX4:=ac ((hbel4.block w1.heap.size (lt_of_block HX3.out)).trans HX3.out)
  have HD4:=ac (HD3.out.below hbel4)
  have HAB4:=ac (HAB.out.1.below hbel4)
  have HEB:=ac HAB.out.2
  have hbk:Blk w4 w3.heap.size [1]:=by rw [hw4];exact heap_alloc_new ..
  have A4:=Ans.of_blk (base:=w.heap.size) (zs:=[1]) HB3.out.size hbk (by simp) (by simp) (by simp) (by intro z hz;simp at hz;omega)
  have HL:=aE _ _ w4 (HA2.out.below HB4.out)
  rw [hL] at HL hbits
  have START:Hid (Ans w4 w.heap.size (.slice (some ⟨w3.heap.size,0,none⟩) 1 1) [1]∧val [1]=val X ^ (val E / 2 ^ L) % val M):=by
   rw [hE0,Nat.pow_zero,Nat.mod_eq_of_lt (by omega)]
   exact ac ⟨A4,by simp [val]⟩
  have hn1:1≤(tr M).length:=by omega
  have hmv:val M<18446744073709551616 ^ (tr M).length:=by have:=val_lt (limbs_tr HA3.out.limbs);rw [val_tr] at this;exact this
  have HMV:=ac hmv
  have HW4:=ac hw4
  have lb2:bs.length≤17592186044416:=by omega
  clear A4 hbk hbel4 hw4 hE0 hL hm2 HX3 HD3 HAB hmv hsm
  go_wp2_with fail
  refine HS.mono ?_
  rintro e wn ⟨rfl,hw⟩;rw [hw];clear hw wn HS
  go_wp2_with fail
  rw [←HW4.out]
  refine HL.mono ?_
  rintro e wn ⟨rfl,hw⟩;rw [hw];clear hw wn HL
  go_wp2
  go_loopw [12,13] (fun v i wr=>∃(k:Nat) (v':Value) (rs:List Nat),k≤L∧v=v'∧i=.int .i64 ((k:Int) - 1)∧Ans wr w.heap.size v' rs∧val rs=val X ^ (val E / 2 ^ k) % val M∧rs.length≤2*(tr M).length∧Below w4.heap.size w4 wr) (fun _ i _=>(intOf i+1).toNat)
  case atStart=>exact⟨L,_,[1],Nat.le_refl _,rfl,rfl,START.out.1,START.out.2,by simp;omega,Below.refl _ _⟩
  case round=>
   obtain⟨k,v',rs,hk,rfl,rfl,hans,hval,hlen,hbel⟩:=hrel
   have HN:=ac (And.intro hans hval)
   have HBW:=ac hbel
   clear hans hval hbel START
   by_cases hk0:k=0
   ·subst hk0
    have hval:=HN.out.2
    rw [Nat.pow_zero,Nat.div_one,HRR.out] at hval
    have HQ:=dG _ w.heap.size rs wr HN.out.1 (by omega)
    rw [hval] at HQ
    clear hval
    go_wp2_with fail
    refine HQ.mono ?_
    rintro e wn ⟨hw,v5,c5,r5,rfl,An5,hres⟩;subst hw
    have H5:=ac (And.intro An5 hres)
    clear HQ An5 hres
    go_wp2
    go_returns
    exact⟨HB4.out.trans (HBW.out.mono HB4.out.size),v5,_,r5,rfl,H5.out.1,H5.out.2⟩
   ·obtain⟨i,rfl⟩:∃i,k=i+1:=⟨k - 1,by omega⟩
    have ej:(((i+1:Nat):Int) - 1)=(i:Int):=by omega
    rw [ej]
    have hi0:(0:Int)≤(i:Int):=by omega
    clear hk0 ej
    obtain⟨hj0,hj1,hj2⟩:=aH ((HBW.out.block w1.heap.size (lt_of_block HX4.out)).trans HX4.out)
    have AR:=(HN.out.1.arg (by omega)).drew
    have hTr:=ac (HT.out.below (HB4.out.trans (HBW.out.mono HB4.out.size)))
    have HPR:=dR (rs.length+rs.length+1) rs rs _ _ wr.drew (by omega) (by omega) AR AR (hTr.out.below (Below.refl _ _).drew)
    rw [HN.out.2] at HPR
    have HRS:=ac (fun (w5:World) (v5:Value) (r5:List Nat) (p:Nat) (wz:World) (hz:Below wz.heap.size wz w5) (hz4:Below w4.heap.size w4 wz) (A5:Ans w5 wz.heap.size v5 r5) (t5:tr r5=r5) (e5:val r5=p) (hp:p<val M*val M)=>
     show Calls Tryz.prog 95 #[.agg #[.slice (some ⟨g,0,none⟩) V.length V.length,.int .i64 nn,.int .i64 s],v5] w5 (di w5 p (val M) (2*(tr M).length)) by
      have hl5:r5.length≤2*(tr M).length:=by
       have h1:=aw r5 (2*(tr M).length) (by
        rw [e5,Nat.two_mul,Nat.pow_add]
        exact Nat.lt_of_lt_of_le hp (Nat.mul_le_mul (Nat.le_of_lt HMV.out) (Nat.le_of_lt HMV.out)))
       rw [t5] at h1;exact h1
      have hb5:=hz4.trans (hz.mono hz4.size)
      have h:=fk v5 _ r5 _ _ _ w5 (A5.arg (by omega)) (HD4.out.below hb5) (HT.out.below (HB4.out.trans (hb5.mono HB4.out.size))) (by omega)
      rw [e5] at h
      refine h.mono ?_
      rintro e w6 ⟨⟨vr,rs',rfl,B2,f2,m2,m3⟩,hb6⟩
      exact⟨⟨vr,rs',rfl,B2,f2,by omega,m3⟩,hb6⟩)
    have hp1:val X ^ (val E / 2 ^ (i+1)) % val M*(val X ^ (val E / 2 ^ (i+1)) % val M)<val M*val M:=Nat.mul_lt_mul_of_lt_of_lt (Nat.mod_lt _ HM.out) (Nat.mod_lt _ HM.out)
    clear AR
    have hsb:w1.heap.size<wr.drew.heap.size:=by
     show w1.heap.size<wr.heap.size
     have:=lt_of_block HX4.out
     have:=HBW.out.size
     omega
    have HXR:=ac ((HBW.out.block w1.heap.size (lt_of_block HX4.out)).trans HX4.out)
    go_wp2
    go_region_held3 (fun w'=>w'.cell? ⟨w1.heap.size,0,none⟩=some (.slice (some ⟨g,0,none⟩) V.length V.length)∧w'.cell? ⟨w1.heap.size,1,none⟩=some (.int .i64 nn)∧w'.cell? ⟨w1.heap.size,2,none⟩=some (.int .i64 s)) (go_keep) (first
     | (go_at_call 99;refine HPR.mono ?_;rintro e w5 ⟨⟨v5,r5,rfl,A5,t5,e5⟩,hb5⟩;obtain⟨hx0,hx1,hx2⟩:=aH ((hb5.block w1.heap.size hsb).trans HXR.out))
     | (go_at_call 95;refine (HRS.out _ _ _ _ _ hb5 HBW.out.drew A5 t5 e5 hp1).mono ?_;rintro e w6 ⟨⟨v6,r6,rfl,A6,e6,l6,_⟩,hb6⟩;obtain⟨hy0,hy1,hy2⟩:=aH ((hb6.block w1.heap.size (Nat.lt_of_lt_of_le hsb hb5.size)).trans ((hb5.block w1.heap.size hsb).trans HXR.out))))
    have hb4:Below w4.heap.size w4 w6:=by
     have q1:=HBW.out.drew
     have q2:=q1.trans (hb5.mono q1.size)
     exact q2.trans (hb6.mono q2.size)
    have HB6:=ac hb4
    have hwsz:w.heap.size≤w5.heap.size:=by
     have:=HB4.out.size
     have:=HBW.out.size
     have:=hb5.size
     have:wr.drew.heap.size=wr.heap.size:=rfl
     omega
    rw [eF] at e6
    have HN6:=ac (And.intro (A6.base hwsz) e6)
    have HXX:=ac ((hb4.block w1.heap.size (lt_of_block HX4.out)).trans HX4.out)
    have HB:=fp _ E (i:Int) w6 (HA2.out.below (HB4.out.trans (hb4.mono HB4.out.size))) (by omega) (by omega)
    have hbit:bF (val E) (i:Int)=val E / 2 ^ i % 2:=by unfold bF;rw [if_neg (by omega),Int.toNat_natCast]
    rw [hbit] at HB
    have hn:=fa (val E) i
    clear A5 t5 e5 hb5 A6 e6 hb6 hb4 hwsz hbit HPR hx0 hx1 hx2 hy0 hy1 hy2 hj0 hj1 hj2 HN hp1
    rcases Nat.mod_two_eq_zero_or_one (val E / 2 ^ i) with hb0|hb1
    ·rw [hb0] at HB hn
     have HN0:Hid (val r6=val X ^ (val E / 2 ^ i) % val M):=by rw [hn,Nat.add_zero];exact ac HN6.out.2
     clear hn hb0
     go_wp2_with fail
     refine HB.mono ?_
     rintro e wn ⟨rfl,hw⟩;rw [hw];clear hw wn HB
     go_wp2
     go_roundw
     case rel=>exact⟨i,_,r6,by omega,rfl,rfl,HN6.out.1,HN0.out,l6,HB6.out⟩
     case measure=>simp [intOf]
    ·rw [hb1] at HB hn
     have HNN:=ac hn
     clear hn hb1
     go_wp2_with fail
     refine HB.mono ?_
     rintro e wn ⟨rfl,hw⟩;rw [hw];clear hw wn HB
     obtain⟨hj0,hj1,hj2⟩:=aH HXX.out
     have HPR:=dR (r6.length+bs.length+1) r6 bs _ _ w6.drew (by omega) (by omega) (HN6.out.1.arg (by omega)).drew (HAB4.out.below HB6.out).drew (HT.out.below (HB4.out.trans (HB6.out.mono HB4.out.size)).drew)
     rw [HN6.out.2,HEB.out] at HPR
     have hp1:val X ^ (2*(val E / 2 ^ (i+1))) % val M*(val X % val M)<val M*val M:=Nat.mul_lt_mul_of_lt_of_lt (Nat.mod_lt _ HM.out) (Nat.mod_lt _ HM.out)
     have hsb6:w1.heap.size<w6.drew.heap.size:=by
      show w1.heap.size<w6.heap.size
      have:=lt_of_block HX4.out
      have:=HB6.out.size
      omega
     go_wp2
     go_region_held3 (fun w'=>w'.cell? ⟨w1.heap.size,0,none⟩=some (.slice (some ⟨g,0,none⟩) V.length V.length)∧w'.cell? ⟨w1.heap.size,1,none⟩=some (.int .i64 nn)∧w'.cell? ⟨w1.heap.size,2,none⟩=some (.int .i64 s)) (go_keep) (first
      | (go_at_call 99;refine HPR.mono ?_;rintro e w7 ⟨⟨v7,r7,rfl,A7,t7,e7⟩,hb7⟩;obtain⟨hx0,hx1,hx2⟩:=aH ((hb7.block w1.heap.size hsb6).trans HXX.out))
      | (go_at_call 95;refine (HRS.out _ _ _ _ _ hb7 HB6.out.drew A7 t7 e7 hp1).mono ?_;rintro e w8 ⟨⟨v8,r8,rfl,A8,e8,l8,_⟩,hb8⟩;obtain⟨hy0,hy1,hy2⟩:=aH ((hb8.block w1.heap.size (Nat.lt_of_lt_of_le hsb6 hb7.size)).trans ((hb7.block w1.heap.size hsb6).trans HXX.out))))
     have HN0:Hid (val r8=val X ^ (val E / 2 ^ i) % val M):=by
      rw [e8,HNN.out];exact ac (eu _ _ _)
     have HB8:Hid (Below w4.heap.size w4 w8):=by
      have q1:=HB6.out.drew
      have q2:=q1.trans (hb7.mono q1.size)
      exact ac (q2.trans (hb8.mono q2.size))
     have HA8:=ac (A8.base (show w.heap.size≤w7.heap.size by
      have:=HB4.out.size
      have:=HB6.out.size
      have:=hb7.size
      have:w6.drew.heap.size=w6.heap.size:=rfl
      omega))
     clear A7 t7 e7 hb7 A8 e8 hb8 HPR hx0 hx1 hx2 hy0 hy1 hy2 hj0 hj1 hj2 hp1
     go_wp2
     go_roundw
     case rel=>exact⟨i,_,r8,by omega,rfl,rfl,HA8.out,HN0.out,l8,HB8.out⟩
     case measure=>simp [intOf]

theorem bt6 {a b c:World}(h:Below a.heap.size a b)(k:Below b.heap.size b c):Below a.heap.size a c:=h.trans (k.mono h.size)

theorem fv {w w':World}(h:Below w.drew.heap.size w.drew w'):Below w.heap.size w w':=(Below.refl w.heap.size w).drew.trans h

theorem iY {b:Bool}{x m:Nat}(h:b=true∧0<x % m):er b x m=m - x % m:=if_pos h
theorem ix {b:Bool}{x m:Nat}(h:¬(b=true∧0<x % m)):er b x m=x % m:=if_neg h

theorem iq (b:Bool)(v:Value)(X:List Nat)(vm:Value)(M:List Nat)(w:World)(hA:Arg w v X)(hM:Arg w vm M)(hT:Tab w)(hx:X.length≤17592186044000)(hm:M.length≤17592186044000)(hm0:0<val M) :
  Calls Tryz.prog 53 #[.agg #[.bool b,v],vm] w (aQ w (er b (val X) (val M))):=by
 obtain⟨a,c,rfl,_,_,_⟩:=hA.form
 obtain⟨a9,c9,rfl,_,_,_⟩:=hM.form
 obtain⟨w0,hw0,hb0,h0⟩:=aC w (.cells #[.bool b,.slice a X.length c] 28)
 obtain⟨k0,k1⟩:=duo h0
 have C:=wboth_any (blen (val X)) X M _ _ w0 (by omega) (hA.below hb0) (hM.below hb0) (hT.below hb0) hx hm hm0
 have HB0:=ac hb0
 have HX0:=ac h0
 have HM:=ac (hM.below hb0)
 clear hA hM hT hb0 h0
 go_enter Tryz.func53,Tryz.ntmps53
 go_wp2_with fail
 refine C.mono ?_
 rintro e w1 ⟨⟨v1,v2,r1,r2,rfl,A1,A2,_,_,e2,t2,_⟩,hb1⟩
 have hx1:=ae hb1 HX0.out
 obtain⟨k0,k1⟩:=duo hx1
 have HB1:=ac (bt6 HB0.out hb1)
 have hnz:=cS t2
 have hlt:=Nat.mod_lt (val X) hm0
 have hl2:r2.length≤17592186044000:=by
  rw [←t2]
  exact Nat.le_trans (aw r2 M.length (by rw [e2];exact Nat.lt_trans hlt (val_lt HM.out.limbs))) hm
 obtain⟨a2,c2,rfl⟩:=A2.shape
 obtain⟨n,hn⟩:∃n,r2.length=n:=⟨_,rfl⟩
 rw [hn] at hnz hl2
 rw [hn]
 by_cases hp:b=true∧0<n
 ·obtain⟨rfl,hn0⟩:=hp
  have C2:=cv _ (.slice a2 r2.length c2) M r2 w1 (HM.out.below hb1) (A2.arg (by omega)) (by omega) (by rw [e2];omega)
  rw [e2,←iY (b:=true) ⟨rfl,by have:=hnz.1 hn0;omega⟩,hn] at C2
  have hni:(0:Int)<(n:Int):=by omega
  clear C A1 A2 e2 t2 hnz hlt hb1 hx1 hn0 hn
  go_wp2_with fail
  refine C2.mono ?_
  rintro e w2 ⟨⟨v3,r3,rfl,A3,e3,t3⟩,hb2⟩
  have HF:=ac (And.intro (A3.base HB1.out.size) (And.intro e3 (And.intro t3 (bt6 HB1.out hb2))))
  clear C2 A3 e3 t3 hb2
  go_wp2
  go_ret
  exact⟨⟨_,r3,rfl,HF.out.1,HF.out.2.1,HF.out.2.2.1⟩,HF.out.2.2.2⟩
 ·have he:val r2=er b (val X) (val M):=by
   rw [ix (fun h=>hp ⟨h.1,hnz.2 (by rw [e2];omega)⟩)]
   exact e2
  have HF:=ac (And.intro (A2.base HB0.out.size) (And.intro he (And.intro t2 HB1.out)))
  have hcs:b=false∨(b=true∧¬((0:Int)<(n:Int))):=by
   cases b
   ·exact .inl rfl
   ·exact .inr ⟨rfl,fun h=>hp ⟨rfl,by omega⟩⟩
  clear C A1 A2 e2 t2 hnz hlt hb1 hx1 hp he
  subst hn
  rcases hcs with rfl|⟨rfl,hni⟩
  all_goals
   go_wp2
   go_ret
   exact⟨⟨_,r2,rfl,HF.out.1,HF.out.2.1,HF.out.2.2.1⟩,HF.out.2.2.2⟩

theorem iE (b:Bool)(v:Value)(X:List Nat)(ve:Value)(E:List Nat)(b2:Bool)(u:Value)(M:List Nat)(w:World)(hA:Arg w v X)(hE:Arg w ve E)(hM:Arg w u M)(hT:Tab w)(hx:X.length≤17592186044000)(hm:M.length≤1000000000000)(h0:0<val M) :
  Calls Tryz.prog 10 #[.agg #[.bool b,v],ve,.agg #[.bool b2,u]] w fun e w'=>fy w' w.heap.size e ((er b (val X) (val M) ^ val E % val M:Nat):Int)∧Below w.heap.size w w':=by
 obtain⟨a,c,rfl,_,_,_⟩:=hA.form
 obtain⟨a8,c8,rfl,_,_,_⟩:=hE.form
 obtain⟨a9,c9,rfl,_,_,_⟩:=hM.form
 obtain⟨w0,hw0,hb0,h0',h1,h2⟩:=e9 w (.cells #[.bool b,.slice a X.length c] 28) (.cells #[.bool b2,.slice a9 M.length c9] 28) (.cells #[.bool false,.slice none 0 0] 28)
 obtain⟨k0,k1⟩:=duo h0'
 obtain⟨k2,k3⟩:=duo h1
 have C:=cV _ M w0 (hM.below hb0)
 rw [decide_eq_false (by omega)] at C
 have HX2:=ac h2
 have HX1:=ac h1
 have HX0:=ac h0'
 have HA:=ac (hA.below hb0)
 have HB0:=ac hb0
 have HE:=ac (hE.below hb0)
 have HM:=ac (hM.below hb0)
 have HT:=ac (hT.below hb0)
 have HM0:=ac h0
 clear hA hE hM hT hb0 h0' h1 h2 h0
 go_enter Tryz.func10,Tryz.ntmps10
 go_wp2_with fail
 refine C.mono ?_
 rintro e wn ⟨rfl,hw⟩;rw [hw];clear hw wn C
 have g0:Below w0.drew.heap.size w0.drew w0.drew:=Below.refl _ _
 have P2:=ac (fun (W:World) (v1:Value) (r1:List Nat) (hg:Below w0.drew.heap.size w0.drew W) (h1:Ans W w0.drew.heap.size v1 r1) (hv:val r1=er b (val X) (val M)) (ht:tr r1=r1)=>
  show Calls Tryz.prog 52 #[v1,.slice a8 E.length c8,.slice a9 M.length c9] W fun e w'=>Below W.heap.size W w'∧Res w' W.heap.size e (er b (val X) (val M) ^ val E % val M) by
   have hl:r1.length≤M.length:=by
    rw [←ht]
    exact aw r1 M.length (by rw [hv];exact Nat.lt_trans (dQ _ _ _ HM0.out) (val_lt HM.out.limbs))
   have htl:(tr M).length≤M.length:=aw M M.length (val_lt HM.out.limbs)
   have h:=iF v1 _ _ r1 E M W (h1.arg (by omega)) ((HE.out.below (Below.refl _ _).drew).below hg) ((HM.out.below (Below.refl _ _).drew).below hg) ((HT.out.below (Below.refl _ _).drew).below hg) (by omega) (by omega) (by omega) (by have:=HM0.out;omega)
   rw [hv] at h
   exact h)
 have P1:=iq b _ X _ M w0.drew (HA.out.below (Below.refl _ _).drew) (HM.out.below (Below.refl _ _).drew) (HT.out.below (Below.refl _ _).drew) hx (by omega) HM0.out
 have KS:=ac (fun (W:World) (hg:Below w0.drew.heap.size w0.drew W)=>show W.cell? ⟨w.heap.size,0,none⟩=some (.bool b)∧W.cell? ⟨w.heap.size,1,none⟩=some (.slice a X.length c)∧W.cell? ⟨w.heap.size+1,1,none⟩=some (.slice a9 M.length c9) from
  ⟨(duo (ae hg (show w0.drew.heap[w.heap.size]?=some (.cells #[.bool b,.slice a X.length c] 28) from HX0.out))).1,(duo (ae hg (show w0.drew.heap[w.heap.size]?=some (.cells #[.bool b,.slice a X.length c] 28) from HX0.out))).2,(duo (ae hg (show w0.drew.heap[w.heap.size+1]?=some (.cells #[.bool b2,.slice a9 M.length c9] 28) from HX1.out))).2⟩)
 go_wp2
 go_region_held3 (fun w'=>w'.cell? ⟨w.heap.size,0,none⟩=some (.bool b)∧w'.cell? ⟨w.heap.size,1,none⟩=some (.slice a X.length c)∧w'.cell? ⟨w.heap.size+1,1,none⟩=some (.slice a9 M.length c9)) (first|with_reducible exact KS.out _ g2|with_reducible exact KS.out _ g1|with_reducible exact KS.out _ g0) (first
  | (go_at_call 53;refine P1.mono ?_;rintro e' t1 ⟨⟨v1,r1,rfl,x1,x2,x3⟩,hb1⟩;have g1:=bt6 g0 hb1;obtain⟨a1,k1',rfl⟩:=x1.shape)
  | (go_at_call 52;refine (P2.out t1 _ r1 g1 x1 x2 x3).mono ?_;rintro e' t2 ⟨hb2,v2,c2,r2,rfl,y1,y2⟩;have g2:=bt6 g1 hb2;obtain⟨a2,k2',rfl⟩:=y1.shape))
 all_goals
  have C:=jP false _ r2 c2 (er b (val X) (val M) ^ val E % val M) t1.heap.size t2 y1 y2
  have hz0:zz false (er b (val X) (val M) ^ val E % val M)=((er b (val X) (val M) ^ val E % val M:Nat):Int):=rfl
  rw [hz0] at C
  have hgw:Below w.heap.size w t2:=bt6 HB0.out (fv g2)
  have HGW:=ac hgw
  have hbs:w.heap.size≤t1.heap.size:=Nat.le_trans HB0.out.size g1.size
  have hbx:=ae (fv g2) HX2.out
  have HX3:=ac hbx
  clear P1 P2 KS g0 g1 g2 hb1 hb2 x1 x2 x3 y1 y2 hz0 hgw hbx
  obtain⟨zq,hzq⟩:∃zq,((er b (val X) (val M) ^ val E % val M:Nat):Int)=zq:=⟨_,rfl⟩
  rw [hzq] at C
  have HZQ:=ac hzq
  clear hzq
  go_wp2_with fail
  refine C.mono ?_
  rintro e t3 ⟨⟨b3,a3,n3,k3',c3,rfl,hzr⟩,hb3⟩
  have HZR:=ac (hzr.base hbs)
  have hbx:=ae hb3 HX3.out
  have hf1:=ag hbx
  obtain⟨l0,l1⟩:=duo hbx
  have HBX:=ac hbx
  have HBE:=ac (bt6 HGW.out hb3)
  clear hbx hzr hb3 C
  go_wp2
  have R5:=aJ HBX.out (a':=.bool b3) (b':=.slice a3 n3 k3')
  have HD:=ac (And.intro (HZR.out.duo (u0:=.bool b3) (u1:=.slice a3 n3 k3') HBX.out) (aF HBE.out (g:=w.heap.size+2) (u0:=.bool b3) (u1:=.slice a3 n3 k3') (by omega)))
  generalize (t3.setCell ⟨w.heap.size+2,0,none⟩ (.bool b3)).setCell ⟨w.heap.size+2,1,none⟩ (.slice a3 n3 k3')=w5 at *
  obtain⟨q0,q1⟩:=duo R5
  refine bodyPost_ret (v:=.tuple #[.agg #[.bool b3,.slice a3 n3 k3'],.int .i64 c3]) (by simp [results,Tryz.results10,go_sem,q0,q1]) rfl ?_
  exact⟨⟨_,_,_,_,_,rfl,by rw [HZQ.out];exact HD.out.1⟩,HD.out.2⟩







theorem Num.zero_iff {w:World}{v:Value}{x:Nat}(h:Num w v x):∃ao n cap,v=.slice ao n cap∧((n:Int) == 0)=(x == 0):=by
 obtain⟨ds,A,hd,ht,rfl,_⟩:=h
 obtain⟨ao,cap,hv,_⟩:=A.form
 refine⟨ao,ds.length,cap,hv,?_⟩
 by_cases h0:ds=[]
 ·subst h0;rfl
 ·have h1:0<ds.length:=List.length_pos_iff.2 h0
  have h2:vb 4294967296 ds≠0:=fun e=>h0 (vb_tail_zero (by omega) ht e)
  have e1:((ds.length:Int) == 0)=false:=by rw [beq_eq_false_iff_ne];omega
  have e2:(vb 4294967296 ds == 0)=false:=by rw [beq_eq_false_iff_ne];exact h2
  rw [e1,e2]

theorem gv (v:Value)(x:Nat)(w:World)(h:Num w v x):Calls Tryz.prog 64 #[v] w fun e w'=>e=.returned (.bool (x == 0))∧w'=w:=by
 obtain⟨ao,n,cap,rfl,he⟩:=h.zero_iff
 clear h
 go_enter Tryz.func64,Tryz.ntmps64
 go_wp2
 go_ret
 exact⟨rfl,rfl⟩

def Zn (w:World)(v:Value)(z:Int):Prop:=∃u,v=.agg #[.bool (decide (z<0)),u]∧Num w u z.natAbs

theorem Num.sl {w:World}{v:Value}{x:Nat}(h:Num w v x):∃a n c,v=.slice a n c:=by
 obtain⟨ds,hA,_⟩:=h
 obtain⟨a,c,e,_⟩:=hA.form
 exact⟨a,_,c,e⟩

theorem gj (b:Bool)(x:Nat):(b && !(x == 0))=decide (zz b x<0):=by
 cases b
 ·simp [zz]
 ·simp only [Bool.true_and,zz,if_true]
  by_cases h:x=0
  ·subst h;rfl
  ·have h1:(x == 0)=false:=by simpa using h
   rw [h1]
   exact (decide_eq_true (by omega)).symm

theorem jh (b:Bool)(u:Value)(x:Nat)(w:World)(h:Num w u x) :
  Calls Tryz.prog 67 #[.bool b,u] w fun e w'=>(∃v,e=.returned v∧Zn w' v (zz b x))∧Below w.heap.size w w':=by
 obtain⟨a,n,c,rfl⟩:=h.sl
 cases b
 ·have HB:=ac (aG w (.cells #[.bool false,.slice a n c] 40))
  have HN:=ac (h.below HB.out)
  clear h
  go_enter Tryz.func67,Tryz.ntmps67
  go_wp2
  go_returns
  exact⟨⟨_,rfl,.slice a n c,by simp [zz],by rw [au];exact HN.out⟩,HB.out⟩
 ·obtain⟨w0,hw0⟩:∃w0,w.alloc (.cells #[.bool false,.slice none 0 0] 40)=w0:=⟨_,rfl⟩
  have hb0:Below w.heap.size w w0:=by rw [←hw0];exact aG _ _
  have h0:w0.heap[w.heap.size]?=some (.cells #[.bool false,.slice none 0 0] 40):=by rw [←hw0];exact heap_alloc_new ..
  have hf0:=ag h0
  obtain⟨k0,k1⟩:=duo h0
  have HZ:=gv _ x w0 (h.below hb0)
  obtain⟨t,ht⟩:∃t:Bool,(!(x == 0))=t:=⟨_,rfl⟩
  have hzt:=gj true x
  rw [Bool.true_and,ht] at hzt
  have ht2:(x == 0)=!t:=by rw [←ht,Bool.not_not]
  rw [ht2] at HZ
  have HN:=ac h
  have HB0:=ac hb0
  have HBX:=ac h0
  have HZT:=ac hzt
  clear h hb0 h0 ht ht2 hzt
  go_enter Tryz.func67,Tryz.ntmps67
  go_wp2_with fail
  refine HZ.mono ?_
  rintro e wn ⟨rfl,hw⟩;rw [hw];clear hw wn HZ
  go_wp2
  have R5:=aJ HBX.out (a':=.bool t) (b':=.slice a n c)
  have HD:=ac (aF HB0.out (g:=w.heap.size) (u0:=.bool t) (u1:=.slice a n c) (Nat.le_refl _))
  generalize (w0.setCell ⟨w.heap.size,0,none⟩ (.bool t)).setCell ⟨w.heap.size,1,none⟩ (.slice a n c)=w5 at *
  obtain⟨q0,q1⟩:=duo R5
  refine bodyPost_ret (v:=.agg #[.bool t,.slice a n c]) (by simp [results,Tryz.results67,go_sem,q0,q1]) rfl ?_
  exact⟨⟨_,rfl,_,by rw [HZT.out],by rw [au];exact HN.out.below HD.out⟩,HD.out⟩

theorem Zn.sl {w:World}{v:Value}{z:Int}(h:Zn w v z):∃b a n k,v=.agg #[.bool b,.slice a n k]:=by
 obtain⟨u,h1,h2⟩:=h
 obtain⟨a,n,k,rfl⟩:=h2.sl
 exact⟨_,_,_,_,h1⟩

theorem aD {w:World}{g k g' k':Nat}{u:Value}(h:g≠g'):(w.setCell ⟨g,k,none⟩ u).cell? ⟨g',k',none⟩=w.cell? ⟨g',k',none⟩:=by
 simp only [World.cell?]
 rw [Below.heap_setCell _ _ _ _ (by exact Ne.symm h)]

theorem ay.box {w:World}{ao:Option Addr}{zs:List Nat}{g o:Nat}{p:Bool}{a:Option Addr}{n c:Nat}{t:TypeId}{u:Value}(h:ay w ao zs)(hl:w.heap[g]?=some (.cells #[.bool p,.slice a n c] t)):ay (w.setCell ⟨g,o,none⟩ u) ao zs:=by
 rcases h with h|⟨b,off,rfl,hc⟩
 ·exact .inl h
 ·rcases Nat.eq_zero_or_pos zs.length with h0|h0
  ·exact .inl (List.eq_nil_of_length_eq_zero h0)
  ·refine .inr ⟨b,off,rfl,fun k hk=>?_⟩
   rw [aD]
   ·exact hc k hk
   ·rintro rfl
    have h1:=hc 0 h0
    rw [Nat.add_zero] at h1
    simp only [World.cell?,hl] at h1
    match off,h1 with
    | 0,h1=>simp at h1
    | 1,h1=>simp at h1
    | k+2,h1=>simp at h1

theorem Arg.box {w:World}{v:Value}{zs:List Nat}{g o:Nat}{p:Bool}{a:Option Addr}{n c:Nat}{t:TypeId}{u:Value}(h:Arg w v zs)(hl:w.heap[g]?=some (.cells #[.bool p,.slice a n c] t)):Arg (w.setCell ⟨g,o,none⟩ u) v zs:=by
 obtain⟨ao,cap,h1,h2,h3,h4⟩:=h.form
 exact⟨⟨ao,cap,h1,h2,h3,h4.box hl⟩,h.limbs,h.few,h.nz⟩

theorem Arg.duo {w:World}{v:Value}{zs:List Nat}{g:Nat}{p:Bool}{a:Option Addr}{n c:Nat}{t:TypeId}{p1:Bool}{r1:Value}(h:Arg w v zs)(hl:w.heap[g]?=some (.cells #[.bool p,.slice a n c] t)):Arg ((w.setCell ⟨g,0,none⟩ (.bool p1)).setCell ⟨g,1,none⟩ r1) v zs:=
 (h.box hl).box (bi hl (.bool p1))

theorem Num.duo {w:World}{v:Value}{x g:Nat}{p:Bool}{a:Option Addr}{n c:Nat}{t:TypeId}{p1:Bool}{r1:Value}(h:Num w v x)(hl:w.heap[g]?=some (.cells #[.bool p,.slice a n c] t)):Num ((w.setCell ⟨g,0,none⟩ (.bool p1)).setCell ⟨g,1,none⟩ r1) v x:=by
 obtain⟨ds,hA,hr⟩:=h
 exact⟨ds,hA.duo hl,hr⟩

theorem Zn.duo {w:World}{v:Value}{z:Int}{g:Nat}{p:Bool}{a:Option Addr}{n c:Nat}{t:TypeId}{p1:Bool}{r1:Value}(h:Zn w v z)(hl:w.heap[g]?=some (.cells #[.bool p,.slice a n c] t)):Zn ((w.setCell ⟨g,0,none⟩ (.bool p1)).setCell ⟨g,1,none⟩ r1) v z:=by
 obtain⟨u,h1,h2⟩:=h
 exact⟨u,h1,h2.duo hl⟩

def cz (w:World)(z:Int)(e:Ending)(w':World):Prop:=(∃b a n k,e=.returned (.agg #[.bool b,.slice a n k])∧Zn w' (.agg #[.bool b,.slice a n k]) z)∧Below w.heap.size w w'

theorem dP (b:Bool)(u:Value)(x:Nat)(w:World)(h:Num w u x):Calls Tryz.prog 67 #[.bool b,u] w (cz w (zz b x)):=by
 refine (jh b u x w h).mono ?_
 rintro e w' ⟨⟨v,rfl,hz⟩,hb⟩
 obtain⟨b,a,n,k,rfl⟩:=hz.sl
 exact⟨⟨b,a,n,k,rfl,hz⟩,hb⟩

theorem gK (b:Bool)(v:Value)(X:List Nat)(w:World)(hA:Arg w v X)(hf:X.length≤17592186044416) :
  Calls Tryz.prog 27 #[.bool b,v] w (cz w (zz b (val X))):=by
 obtain⟨a,n,rfl,_,_,_⟩:=hA.form
 obtain⟨w0,hw0,hb0,hx0⟩:=aC w (.cells #[.bool false,.slice none 0 0] 40)
 have HO:=dq _ X w0 (hA.below hb0) hf
 have HB0:=ac hb0
 have HX0:=ac hx0
 clear hA hb0 hx0
 go_enter Tryz.func27,Tryz.ntmps27
 go_wp2_with fail
 refine HO.mono ?_
 rintro e w1 ⟨⟨v1,rfl,hn⟩,hb1⟩
 have HM:=dP b v1 (val X) w1 hn
 have HW1:=ac hb1
 obtain⟨a2,n2,k2,rfl⟩:=hn.sl
 clear hn hb1 HO
 go_wp2_with fail
 refine HM.mono ?_
 rintro e w2 ⟨⟨b1,a1,n1,k1,rfl,hzn⟩,hb2⟩
 have HZN:=ac hzn
 have HW:=ac (HW1.out.trans (hb2.mono HW1.out.size))
 clear hzn hb2 HM hw0
 have hbx:=ae HW.out HX0.out
 have hf1:=ag hbx
 obtain⟨l0,l1⟩:=duo hbx
 have HBX:=ac hbx
 have HBE:=ac (HB0.out.trans (HW.out.mono HB0.out.size))
 clear hbx
 go_wp2
 have R5:=aJ HBX.out (a':=.bool b1) (b':=.slice a1 n1 k1)
 have HD:=ac (And.intro (HZN.out.duo (p1:=b1) (r1:=.slice a1 n1 k1) HBX.out) (aF HBE.out (g:=w.heap.size) (u0:=.bool b1) (u1:=.slice a1 n1 k1) (by omega)))
 generalize (w2.setCell ⟨w.heap.size,0,none⟩ (.bool b1)).setCell ⟨w.heap.size,1,none⟩ (.slice a1 n1 k1)=w5 at *
 obtain⟨q0,q1⟩:=duo R5
 refine bodyPost_ret (v:=.agg #[.bool b1,.slice a1 n1 k1]) (by simp [results,Tryz.results27,go_sem,q0,q1]) rfl ?_
 exact⟨⟨_,_,_,_,rfl,HD.out.1⟩,HD.out.2⟩
end Go.Proofs.YtemgogeokkeipaaGreatDoor
namespace Go.Proofs.YtemgogeokkeipaaGreatDoor
open Lm
end Go.Proofs.YtemgogeokkeipaaGreatDoor
namespace Go.Proofs.YtemgogeokkeipaaGreatDoor
open Go.RowKit
open Lm
attribute [local go_sem ↓] Go.wp_at_zero Go.wp_at_succ

theorem Zn.parts {w:World}{v:Value}{z:Int}(h:Zn w v z):∃b a n k,v=.agg #[.bool b,.slice a n k]∧b=decide (z<0)∧Num w (.slice a n k) z.natAbs∧z=zz b z.natAbs:=by
 obtain⟨u,h1,h2⟩:=h
 obtain⟨a,n,k,rfl⟩:=h2.sl
 exact⟨_,a,n,k,h1,rfl,h2,(dK z).symm⟩

theorem Num.drew6 {w:World}{v:Value}{x:Nat}(h:Num w v x):Num w.drew v x:=h.below (Below.refl _ _).drew
theorem bY {w w':World}(h:Below w.drew.heap.size w.drew w'):Below w.heap.size w w':=(Below.refl w.heap.size w).drew.trans h

theorem av {w w':World}{g o:Nat}{v:Value}(hb:Below w.heap.size w w')(h:w.cell? ⟨g,o,none⟩=some v):w'.cell? ⟨g,o,none⟩=some v:=by
 rw [hb.cell (p:=⟨g,o,none⟩) ?_]
 ·exact h
 ·show g<w.heap.size
  rcases Nat.lt_or_ge g w.heap.size with h' | h'
  ·exact h'
  ·simp [World.cell?,Array.getElem?_eq_none h'] at h

theorem jc {w:World}{v u:Value}{x:Nat}{rs:List Nat}(hn:Num w v x)(ha:Arg w u rs)(ht:tr rs=rs)(hv:val rs=x)(hf:blen x≤1125899906842624) :
  Calls Tryz.prog 91 #[v,u] w fun e w'=>e=.returned (.bool true)∧Below w.heap.size w w':=fO v u x rs w hn ha ht hv hf

theorem eC (v:Value)(z:Int)(u:Value)(rs:List Nat)(w:World)(h:Zn w v z)(ha:Arg w u rs)(ht:tr rs=rs)(hv:val rs=z.natAbs)(hf:blen z.natAbs≤1125899906842624) :
  Calls Tryz.prog 48 #[v,.bool (decide (z<0)),u] w fun e w'=>e=.returned (.bool true)∧Below w.heap.size w w':=by
 obtain⟨b,a,n,k,rfl,hb,hn,hz⟩:=h.parts
 rw [←hb]
 obtain⟨w0,hw0,hb0,h0⟩:=aC w (.cells #[.bool b,.slice a n k] 40)
 obtain⟨k0,k1⟩:=duo h0
 obtain⟨a2,k2,rfl,_,_,_⟩:=ha.form
 have HI:=jc (hn.below hb0) (ha.below hb0) ht hv hf
 have HB0:=ac hb0
 clear h hn hz hb0 h0 ha hb hv hf ht
 have hbb:(b == b)=true:=by simp
 go_enter Tryz.func48,Tryz.ntmps48
 go_wp2_with fail
 refine HI.mono ?_
 rintro e w1 ⟨rfl,hb1⟩
 have HB1:=ac (HB0.out.trans (hb1.mono HB0.out.size))
 clear hb1 HI
 go_wp2
 go_ret
 exact⟨rfl,HB1.out⟩

def aI (y z:Int):Int:=if y<z then -1 else if z<y then 1 else 0

theorem iW (c:Nat)(w:World)(hc:c<9223372036854775808):Calls Tryz.prog 75 #[.int .i64 c] w fun e w'=>(∃v,e=.returned v∧Num w' v c)∧Below w.heap.size w w':=by
 have hA:=Arg.lits w [c] #[.int .u64 (c:Int)] 1 rfl rfl (by intro z hz;simp at hz;omega) (by simp)
 have hb:Below w.heap.size w (w.alloc (.cells #[.int .u64 (c:Int)] 34)):=(Below.refl _ _).alloc (Nat.le_refl _) _
 have HO:=dq _ [c] _ hA (by simp)
 rw [show val [c]=c by simp [val]] at HO
 have HB:=ac hb
 clear hA hb
 go_enter Tryz.func75,Tryz.ntmps75
 go_wp2_with fail
 refine HO.mono ?_
 rintro e w2 ⟨⟨v,rfl,N⟩,hb2⟩
 have HX:=ac (And.intro N (HB.out.trans (hb2.mono HB.out.size)))
 clear N hb2 HO
 go_wp2
 go_ret
 exact⟨⟨v,rfl,HX.out.1⟩,HX.out.2⟩
end Go.Proofs.YtemgogeokkeipaaGreatDoor
namespace Go.Proofs.YtemgogeokkeipaaGreatDoor
open Go.RowKit
open Lm



def over (rows:Nat→List Nat)(m:Nat):List Nat:=List.replicate (rows m).length (m % 251+1)



theorem cq (zs:List Nat)(h:Limbs zs):blen (val zs)≤64*zs.length:=by
 rw [blen_le_iff,Nat.mul_comm]
 have:=val_lt h
 rwa [W_pow] at this
end Go.Proofs.YtemgogeokkeipaaGreatDoor
namespace Go.Proofs.YtemgogeokkeipaaGreatDoor
open Go.RowKit
open Lm
attribute [local go_sem ↓] Go.wp_at_zero Go.wp_at_succ

theorem dI (c:Int)(w:World):Calls Tryz.prog 13 #[.int .i64 c] w fun e w'=>e=.returned (.int .i64 c)∧w'=w:=by
 go_enter Tryz.func13,Tryz.ntmps13
 go_wp2
 go_ret
 exact⟨rfl,rfl⟩

theorem fD (n:Int)(w:World)(h1:-9223372036854775808≤n)(h2:n≤9223372036854775807) :
  Calls Tryz.prog 33 #[.int .i64 n] w (cz w n):=by
 obtain⟨w0,hw0,hb0,hx0⟩:=aC w (.cells #[.bool false,.slice none 0 0] 40)
 have HB0:=ac hb0
 have HX0:=ac hx0
 by_cases hn:n<0
 ·obtain⟨x,hx,hx2⟩:∃x:Nat,n=-(x:Int)∧x<18446744073709551616:=⟨n.natAbs,by omega,by omega⟩
  have q1:IntKind.i64.wrap (n+1)=n+1:=by rw [IntKind.wrap_i64];omega
  have q2:IntKind.i64.wrap (-(n+1))=-(n+1):=by rw [IntKind.wrap_i64];omega
  have q3:IntKind.u64.wrap (-(n+1))=-(n+1):=by rw [IntKind.wrap_u64];omega
  have q4:IntKind.u64.wrap (-(n+1)+1)=(x:Int):=by rw [IntKind.wrap_u64];omega
  obtain⟨w6,hw6,hb6,hx6⟩:=aC w0 (.cells #[.int .u64 x] 34)
  have hblk:Blk w6 w0.heap.size [x]:=hx6
  have A6:=Ans.of_blk (base:=w0.heap.size) (zs:=[x]) (Nat.le_refl _) hblk (by simp) (by simp) (by simp) (by intro z hz;simp at hz;omega)
  have HO:=dq (.slice (some ⟨w0.heap.size,0,none⟩) 1 1) [x] w6 (A6.arg (by simp)) (by simp)
  rw [show val [x]=x from by simp [val]] at HO
  have HB6:=ac hb6
  have ez:zz true x=n:=by simp [zz];omega
  have HEZ:=ac ez
  clear hb0 hx0 hb6 hx6 hblk A6 hx ez
  go_enter Tryz.func33,Tryz.ntmps33
  go_wp2_with fail
  refine HO.mono ?_
  rintro e w1 ⟨⟨v1,rfl,hn1⟩,hb1⟩
  have HM:=dP true v1 x w1 hn1
  rw [HEZ.out] at HM
  have HW1:=ac (HB6.out.trans (hb1.mono HB6.out.size))
  obtain⟨a2,n2,k2,rfl⟩:=hn1.sl
  clear hn1 hb1 HO
  go_wp2_with fail
  refine HM.mono ?_
  rintro e w2 ⟨⟨b1,a1,n1,k1,rfl,hzn⟩,hb2⟩
  have HZN:=ac hzn
  have HW:=ac (HW1.out.trans (hb2.mono HW1.out.size))
  clear hzn hb2 HM hw0 hw6
  have hbx:=ae HW.out HX0.out
  have hf1:=ag hbx
  obtain⟨l0,l1⟩:=duo hbx
  have HBX:=ac hbx
  have HBE:=ac (HB0.out.trans (HW.out.mono HB0.out.size))
  clear hbx
  go_wp2
  have R5:=aJ HBX.out (a':=.bool b1) (b':=.slice a1 n1 k1)
  have HD:=ac (And.intro (HZN.out.duo (p1:=b1) (r1:=.slice a1 n1 k1) HBX.out) (aF HBE.out (g:=w.heap.size) (u0:=.bool b1) (u1:=.slice a1 n1 k1) (by omega)))
  generalize (w2.setCell ⟨w.heap.size,0,none⟩ (.bool b1)).setCell ⟨w.heap.size,1,none⟩ (.slice a1 n1 k1)=w5 at *
  obtain⟨q0,q1⟩:=duo R5
  refine bodyPost_ret (v:=.agg #[.bool b1,.slice a1 n1 k1]) (by simp [results,Tryz.results33,go_sem,q0,q1]) rfl ?_
  exact⟨⟨_,_,_,_,rfl,HD.out.1⟩,HD.out.2⟩
 ·obtain⟨x,hx,hx2⟩:∃x:Nat,n=(x:Int)∧x<9223372036854775808:=⟨n.natAbs,by omega,by omega⟩
  subst hx
  have HO:=iW x w0 hx2
  have ez:zz false x=(x:Int):=by simp [zz]
  have HEZ:=ac ez
  clear hb0 hx0 ez
  go_enter Tryz.func33,Tryz.ntmps33
  go_wp2_with fail
  refine HO.mono ?_
  rintro e w1 ⟨⟨v1,rfl,hn1⟩,hb1⟩
  have HM:=dP false v1 x w1 hn1
  rw [HEZ.out] at HM
  have HW1:=ac hb1
  obtain⟨a2,n2,k2,rfl⟩:=hn1.sl
  clear hn1 hb1 HO
  go_wp2_with fail
  refine HM.mono ?_
  rintro e w2 ⟨⟨b1,a1,n1,k1,rfl,hzn⟩,hb2⟩
  have HZN:=ac hzn
  have HW:=ac (HW1.out.trans (hb2.mono HW1.out.size))
  clear hzn hb2 HM hw0
  have hbx:=ae HW.out HX0.out
  have hf1:=ag hbx
  obtain⟨l0,l1⟩:=duo hbx
  have HBX:=ac hbx
  have HBE:=ac (HB0.out.trans (HW.out.mono HB0.out.size))
  clear hbx
  go_wp2
  have R5:=aJ HBX.out (a':=.bool b1) (b':=.slice a1 n1 k1)
  have HD:=ac (And.intro (HZN.out.duo (p1:=b1) (r1:=.slice a1 n1 k1) HBX.out) (aF HBE.out (g:=w.heap.size) (u0:=.bool b1) (u1:=.slice a1 n1 k1) (by omega)))
  generalize (w2.setCell ⟨w.heap.size,0,none⟩ (.bool b1)).setCell ⟨w.heap.size,1,none⟩ (.slice a1 n1 k1)=w5 at *
  obtain⟨q0,q1⟩:=duo R5
  refine bodyPost_ret (v:=.agg #[.bool b1,.slice a1 n1 k1]) (by simp [results,Tryz.results33,go_sem,q0,q1]) rfl ?_
  exact⟨⟨_,_,_,_,rfl,HD.out.1⟩,HD.out.2⟩

theorem gw (b:Bool)(v:Value)(X:List Nat)(w:World)(hA:Arg w v X)(hf:X.length≤17592186044416) :
  Calls Tryz.prog 14 #[.agg #[.bool b,v]] w (cz w (zz b (val X))):=by
 obtain⟨a,n,rfl,_,_,_⟩:=hA.form
 obtain⟨w0,hw0,hb0,h0,hx0⟩:=bW w (.cells #[.bool b,.slice a X.length n] 24) (.cells #[.bool false,.slice none 0 0] 40)
 obtain⟨k0,k1⟩:=duo h0
 have HM:=gK b _ X w0 (hA.below hb0) hf
 have HB0:=ac hb0
 have HX0:=ac hx0
 clear hA hb0 h0 hx0
 go_enter Tryz.func14,Tryz.ntmps14
 go_wp2_with fail
 refine HM.mono ?_
 rintro e w1 ⟨⟨b1,a1,n1,k1,rfl,hzn⟩,hb1⟩
 have HZN:=ac hzn
 have HW:=ac hb1
 clear hzn hb1 HM hw0 k0
 have hbx:=ae HW.out HX0.out
 have hf1:=ag hbx
 obtain⟨l0,l1⟩:=duo hbx
 have HBX:=ac hbx
 have HBE:=ac (HB0.out.trans (HW.out.mono HB0.out.size))
 clear hbx
 go_wp2
 have R5:=aJ HBX.out (a':=.bool b1) (b':=.slice a1 n1 k1)
 have HD:=ac (And.intro (HZN.out.duo (p1:=b1) (r1:=.slice a1 n1 k1) HBX.out) (aF HBE.out (g:=w.heap.size+1) (u0:=.bool b1) (u1:=.slice a1 n1 k1) (by omega)))
 generalize (w1.setCell ⟨w.heap.size+1,0,none⟩ (.bool b1)).setCell ⟨w.heap.size+1,1,none⟩ (.slice a1 n1 k1)=w5 at *
 obtain⟨q0,q1⟩:=duo R5
 refine bodyPost_ret (v:=.agg #[.bool b1,.slice a1 n1 k1]) (by simp [results,Tryz.results14,go_sem,q0,q1]) rfl ?_
 exact⟨⟨_,_,_,_,rfl,HD.out.1⟩,HD.out.2⟩

theorem jV (b:Bool)(a:Option Addr)(m n:Nat)(w:World) :
  Calls Tryz.prog 11 #[.agg #[.bool b,.slice a m n]] w fun e w'=>e=.returned (.agg #[.bool b,.slice a m n])∧Below w.heap.size w w':=by
 obtain⟨w0,hw0,hb0,h0,hx0⟩:=bW w (.cells #[.bool b,.slice a m n] 24) (.cells #[.bool false,.slice none 0 0] 28)
 obtain⟨k0,k1⟩:=duo h0
 have HB0:=ac hb0
 have HX0:=ac hx0
 have HW:Hid (Below w0.heap.size w0 w0):=ac (Below.refl _ _)
 clear hb0 h0 hx0
 have hbx:=ae HW.out HX0.out
 have hf1:=ag hbx
 obtain⟨l0,l1⟩:=duo hbx
 have HBX:=ac hbx
 have HBE:=ac (HB0.out.trans (HW.out.mono HB0.out.size))
 clear hbx
 go_enter Tryz.func11,Tryz.ntmps11
 go_wp2
 have R5:=aJ HBX.out (a':=.bool b) (b':=.slice a m n)
 have HD:=ac (aF HBE.out (g:=w.heap.size+1) (u0:=.bool b) (u1:=.slice a m n) (by omega))
 generalize (w0.setCell ⟨w.heap.size+1,0,none⟩ (.bool b)).setCell ⟨w.heap.size+1,1,none⟩ (.slice a m n)=w5 at *
 obtain⟨q0,q1⟩:=duo R5
 refine bodyPost_ret (v:=.agg #[.bool b,.slice a m n]) (by simp [results,Tryz.results11,go_sem,q0,q1]) rfl ?_
 exact⟨rfl,HD.out⟩

theorem fL (x y:Int)(w:World):Calls Tryz.prog 105 #[.int .i64 x,.int .i64 y] w fun e w'=>e=.returned (.int .i64 (aI x y))∧w'=w:=by
 unfold aI
 by_cases h1:x<y
 ·rw [if_pos h1]
  go_enter Tryz.func105,Tryz.ntmps105
  go_wp2
  go_ret
  exact⟨rfl,rfl⟩
 ·rw [if_neg h1]
  by_cases h2:y<x
  ·rw [if_pos h2]
   go_enter Tryz.func105,Tryz.ntmps105
   go_wp2
   go_ret
   exact⟨rfl,rfl⟩
  ·rw [if_neg h2]
   go_enter Tryz.func105,Tryz.ntmps105
   go_wp2
   go_ret
   exact⟨rfl,rfl⟩

def ZA (w:World)(base:Nat)(b:Bool)(u:Value)(z:Int):Prop:=∃rs,Ans w base u rs∧b=decide (z<0)∧val rs=z.natAbs∧tr rs=rs

theorem dS (n:Int)(w:World)(h1:-9223372036854775808≤n)(h2:n≤9223372036854775807) :
  Calls Tryz.prog 9 #[.int .i64 n] w fun e w'=>(∃b a l k,e=.returned (.agg #[.bool b,.slice a l k])∧ZA w' w.heap.size b (.slice a l k) n)∧Below w.heap.size w w':=by
 obtain⟨w0,hw0,hb0,hx0⟩:=aC w (.cells #[.bool false,.slice none 0 0] 28)
 by_cases hn:n<0
 ·obtain⟨m,hm⟩:∃m,IntKind.i64.wrap (-n)=m:=⟨_,rfl⟩
  have hm2:IntKind.u64.wrap m=((n.natAbs:Nat):Int):=by rw [←hm,IntKind.wrap_i64,IntKind.wrap_u64];omega
  have hm3:IntKind.u64.wrap ((n.natAbs:Nat):Int)=((n.natAbs:Nat):Int):=by rw [IntKind.wrap_u64];omega
  have HM:=dH n.natAbs w0 (by omega)
  have HB0:=ac hb0
  have HX0:=ac hx0
  clear hb0 hx0
  go_enter Tryz.func9,Tryz.ntmps9
  go_wp2_with fail
  refine HM.mono ?_
  rintro e w1 ⟨⟨v1,rfl,A1⟩,hb1⟩
  have HS:=aP true v1 _ _ w1 A1
  rw [aR true (tr_tr _) (val_tr _)] at HS
  have e1:zz true (val [n.natAbs])=n:=by simp [zz,val];omega
  rw [e1] at HS
  have hv:val (tr [n.natAbs])=n.natAbs:=by rw [val_tr];simp [val]
  have ht:=tr_tr [n.natAbs]
  generalize tr [n.natAbs]=rs at *
  obtain⟨a1,k1,rfl⟩:=A1.shape
  have HA1:=ac A1
  have HW1:=ac hb1
  have HV:=ac (And.intro hv ht)
  clear A1 hb1 HM e1 hv ht
  go_wp2_with fail
  refine HS.mono ?_
  rintro e w2 ⟨rfl,hb2⟩
  have HW:=ac (HW1.out.trans (hb2.mono HW1.out.size))
  have HAN:=ac ((HA1.out.below hb2).base HB0.out.size)
  have hbx:=ae HW.out HX0.out
  have hf1:=ag hbx
  obtain⟨l0,l1⟩:=duo hbx
  have HBX:=ac hbx
  have HBE:=ac (HB0.out.trans (HW.out.mono HB0.out.size))
  clear hbx hb2 HS hw0
  obtain⟨ub,hub⟩:∃ub,decide (n<0)=ub:=⟨_,rfl⟩
  rw [hub]
  go_wp2
  have R5:=aJ HBX.out (a':=.bool ub) (b':=.slice a1 rs.length k1)
  have HD:=ac (And.intro (HAN.out.duo (u0:=.bool ub) (u1:=.slice a1 rs.length k1) HBX.out) (aF HBE.out (g:=w.heap.size) (u0:=.bool ub) (u1:=.slice a1 rs.length k1) (Nat.le_refl _)))
  generalize (w2.setCell ⟨w.heap.size,0,none⟩ (.bool ub)).setCell ⟨w.heap.size,1,none⟩ (.slice a1 rs.length k1)=w5 at *
  obtain⟨q0,q1⟩:=duo R5
  refine bodyPost_ret (v:=.agg #[.bool ub,.slice a1 rs.length k1]) (by simp [results,Tryz.results9,go_sem,q0,q1]) rfl ?_
  exact⟨⟨_,_,_,_,rfl,rs,HD.out.1,hub.symm,HV.out⟩,HD.out.2⟩
 ·have hm2:IntKind.u64.wrap n=((n.natAbs:Nat):Int):=by rw [IntKind.wrap_u64];omega
  have hm3:IntKind.u64.wrap ((n.natAbs:Nat):Int)=((n.natAbs:Nat):Int):=by rw [IntKind.wrap_u64];omega
  have HM:=dH n.natAbs w0 (by omega)
  have HB0:=ac hb0
  have HX0:=ac hx0
  clear hb0 hx0
  go_enter Tryz.func9,Tryz.ntmps9
  go_wp2_with fail
  refine HM.mono ?_
  rintro e w1 ⟨⟨v1,rfl,A1⟩,hb1⟩
  have HS:=aP false v1 _ _ w1 A1
  rw [aR false (tr_tr _) (val_tr _)] at HS
  have e1:zz false (val [n.natAbs])=n:=by simp [zz,val];omega
  rw [e1] at HS
  have hv:val (tr [n.natAbs])=n.natAbs:=by rw [val_tr];simp [val]
  have ht:=tr_tr [n.natAbs]
  generalize tr [n.natAbs]=rs at *
  obtain⟨a1,k1,rfl⟩:=A1.shape
  have HA1:=ac A1
  have HW1:=ac hb1
  have HV:=ac (And.intro hv ht)
  clear A1 hb1 HM e1 hv ht
  go_wp2_with fail
  refine HS.mono ?_
  rintro e w2 ⟨rfl,hb2⟩
  have HW:=ac (HW1.out.trans (hb2.mono HW1.out.size))
  have HAN:=ac ((HA1.out.below hb2).base HB0.out.size)
  have hbx:=ae HW.out HX0.out
  have hf1:=ag hbx
  obtain⟨l0,l1⟩:=duo hbx
  have HBX:=ac hbx
  have HBE:=ac (HB0.out.trans (HW.out.mono HB0.out.size))
  clear hbx hb2 HS hw0
  obtain⟨ub,hub⟩:∃ub,decide (n<0)=ub:=⟨_,rfl⟩
  rw [hub]
  go_wp2
  have R5:=aJ HBX.out (a':=.bool ub) (b':=.slice a1 rs.length k1)
  have HD:=ac (And.intro (HAN.out.duo (u0:=.bool ub) (u1:=.slice a1 rs.length k1) HBX.out) (aF HBE.out (g:=w.heap.size) (u0:=.bool ub) (u1:=.slice a1 rs.length k1) (Nat.le_refl _)))
  generalize (w2.setCell ⟨w.heap.size,0,none⟩ (.bool ub)).setCell ⟨w.heap.size,1,none⟩ (.slice a1 rs.length k1)=w5 at *
  obtain⟨q0,q1⟩:=duo R5
  refine bodyPost_ret (v:=.agg #[.bool ub,.slice a1 rs.length k1]) (by simp [results,Tryz.results9,go_sem,q0,q1]) rfl ?_
  exact⟨⟨_,_,_,_,rfl,rs,HD.out.1,hub.symm,HV.out⟩,HD.out.2⟩

theorem cb (L:Nat)(v1 v2:Value)(X Y:List Nat)(w:World)(hL:w.heap[L]?=some (.cells #[v1,v2] 26))(hA:Arg w v1 X)(hB:Arg w v2 Y) :
  Calls Tryz.prog 62 #[.slice (some ⟨L,0,none⟩) 2 2] w fun e w'=>e=.returned (.bool (decide (67108864<blen (val X)∨67108864<blen (val Y))))∧w'=w:=by
 obtain⟨c0,c1⟩:=duo hL
 have L1:=aE v1 X w hA
 have L2:=aE v2 Y w hB
 obtain⟨a1,n1,rfl,_,_,_⟩:=hA.form
 obtain⟨a2,n2,rfl,_,_,_⟩:=hB.form
 clear hA hB hL
 generalize blen (val X)=lx at *
 generalize blen (val Y)=ly at *
 by_cases h1:67108864<lx
 ·have i1:(67108864:Int)<(lx:Int):=by omega
  rw [decide_eq_true (.inl h1)]
  go_enter Tryz.func62,Tryz.ntmps62
  go_wp2
  refine wp_loop_rounds 1 ?_
  rw [rounds_succ]
  go_wp2_with fail
  refine L1.mono ?_
  rintro e wn ⟨rfl,hw⟩;rw [hw];clear hw wn L1
  go_wp2
  go_ret
  exact⟨rfl,rfl⟩
 ·have i1:¬(67108864:Int)<(lx:Int):=by omega
  by_cases h2:67108864<ly
  ·have i2:(67108864:Int)<(ly:Int):=by omega
   rw [decide_eq_true (.inr h2)]
   go_enter Tryz.func62,Tryz.ntmps62
   go_wp2
   refine wp_loop_rounds 2 ?_
   rw [rounds_succ]
   go_wp2_with fail
   refine L1.mono ?_
   rintro e wn ⟨rfl,hw⟩;rw [hw];clear hw wn L1
   go_wp2
   rw [rounds_succ]
   go_wp2_with fail
   refine L2.mono ?_
   rintro e wn ⟨rfl,hw⟩;rw [hw];clear hw wn L2
   go_wp2
   go_ret
   exact⟨rfl,rfl⟩
  ·have i2:¬(67108864:Int)<(ly:Int):=by omega
   rw [decide_eq_false (by omega)]
   go_enter Tryz.func62,Tryz.ntmps62
   go_wp2
   refine wp_loop_rounds 3 ?_
   rw [rounds_succ]
   go_wp2_with fail
   refine L1.mono ?_
   rintro e wn ⟨rfl,hw⟩;rw [hw];clear hw wn L1
   go_wp2
   rw [rounds_succ]
   go_wp2_with fail
   refine L2.mono ?_
   rintro e wn ⟨rfl,hw⟩;rw [hw];clear hw wn L2
   go_wp2
   rw [rounds_succ]
   go_wp2
   go_ret
   exact⟨rfl,rfl⟩

def dT:Value:=.agg #[.func (.func 139) #[] #[],.func (.func 140) #[] #[],.func (.func 141) #[] #[],.func (.func 142) #[] #[],.func (.func 143) #[] #[]]

theorem jQ {P:Program}(w:World)(a:Addr)(m:Mode)(f:Fn)(x y:Array Value):(store a (.func f x y) m).run P w=stored P w a (.func f x y) m:=run_store P w a _ m rfl

attribute [local go_sem] jQ in
theorem wdivs_any (w:World):Calls Tryz.prog 103 #[] w fun e w'=>e=.returned dT∧Below w.heap.size w w':=by
 have HB:=ac (aG w (.cells #[.func (.func 139) #[] #[],.func (.func 140) #[] #[],.func (.func 141) #[] #[],.func (.func 142) #[] #[],.func (.func 143) #[] #[]] 124))
 go_enter Tryz.func103,Tryz.ntmps103
 go_wp2
 go_returns
 exact⟨rfl,HB.out⟩

def bU (q r l:Value)(bl ap:Bool):Value:=.agg #[q,r,l,.bool bl,.bool ap]

theorem jn (a1 a2 a3:Option Addr)(n1 k1 n2 k2 n3 k3:Nat)(bl ap:Bool)(w:World):Calls Tryz.prog 140 #[bU (.slice a1 n1 k1) (.slice a2 n2 k2) (.slice a3 n3 k3) bl ap] w fun e w'=>e=.returned (.bool ap)∧Below w.heap.size w w':=by
 obtain⟨w0,hw0,hb0,hx0⟩:=aC w (.cells #[.slice a1 n1 k1,.slice a2 n2 k2,.slice a3 n3 k3,.bool bl,.bool ap] 127)
 have c3:w0.cell? ⟨w.heap.size,3,none⟩=some (.bool bl):=by simp [World.cell?,hx0]
 have c4:w0.cell? ⟨w.heap.size,4,none⟩=some (.bool ap):=by simp [World.cell?,hx0]
 have HB0:=ac hb0
 clear hb0 hx0
 unfold bU
 go_enter Tryz.func140,Tryz.ntmps140
 go_wp2
 go_ret
 exact⟨rfl,HB0.out⟩

theorem i9 (a1 a2 a3:Option Addr)(n1 k1 n2 k2 n3 k3:Nat)(bl ap:Bool)(w:World):Calls Tryz.prog 143 #[bU (.slice a1 n1 k1) (.slice a2 n2 k2) (.slice a3 n3 k3) bl ap] w fun e w'=>e=.returned (.bool bl)∧Below w.heap.size w w':=by
 obtain⟨w0,hw0,hb0,hx0⟩:=aC w (.cells #[.slice a1 n1 k1,.slice a2 n2 k2,.slice a3 n3 k3,.bool bl,.bool ap] 127)
 have c3:w0.cell? ⟨w.heap.size,3,none⟩=some (.bool bl):=by simp [World.cell?,hx0]
 have c4:w0.cell? ⟨w.heap.size,4,none⟩=some (.bool ap):=by simp [World.cell?,hx0]
 have HB0:=ac hb0
 clear hb0 hx0
 unfold bU
 go_enter Tryz.func143,Tryz.ntmps143
 go_wp2
 go_ret
 exact⟨rfl,HB0.out⟩

theorem g8 (w:World):(Instr.index 124 dT (.int .i64 1)).run Tryz.prog w=.ok (.agg #[.func (.func 140) #[] #[]]) w:=by kernel_rfl

theorem fN (w:World):(Instr.index 124 dT (.int .i64 4)).run Tryz.prog w=.ok (.agg #[.func (.func 143) #[] #[]]) w:=by kernel_rfl

theorem ga (w:World):(Instr.field 123 (.agg #[.func (.func 140) #[] #[]]) 0).run Tryz.prog w=.ok (.func (.func 140) #[] #[]) w:=by kernel_rfl

theorem i8 (w:World):(Instr.field 123 (.agg #[.func (.func 143) #[] #[]]) 0).run Tryz.prog w=.ok (.func (.func 143) #[] #[]) w:=by kernel_rfl
end Go.Proofs.YtemgogeokkeipaaGreatDoor
namespace Go.Proofs.YtemgogeokkeipaaGreatDoor
open Go.RowKit
open Lm

theorem cP (w:World)(o1 o2 o3 o4:Obj):∃w0,(((w.alloc o1).alloc o2).alloc o3).alloc o4=w0∧Below w.heap.size w w0∧w0.heap[w.heap.size]?=some o1∧w0.heap[w.heap.size+1]?=some o2∧w0.heap[w.heap.size+2]?=some o3∧w0.heap[w.heap.size+3]?=some o4:=by
 obtain⟨w1,h1,b1,c1,c2,c3⟩:=e9 w o1 o2 o3
 obtain⟨w2,h2,b2,c4⟩:=aC w1 o4
 have hs:w1.heap.size=w.heap.size+3:=by rw [←h1,World.size_alloc,World.size_alloc,World.size_alloc]
 refine⟨w2,by rw [h1];exact h2,b1.trans (b2.mono b1.size),?_,?_,?_,by rw [←hs];exact c4⟩
 ·rw [b2.block _ (lt_of_block c1)];exact c1
 ·rw [b2.block _ (lt_of_block c2)];exact c2
 ·rw [b2.block _ (lt_of_block c3)];exact c3

theorem aO {B:Nat}{w0 w:World}{g:Nat}{u0 u1 u2 u3:Value}(h:Below B w0 w)(hg:B≤g):Below B w0 ((((w.setCell ⟨g,0,none⟩ u0).setCell ⟨g,1,none⟩ u1).setCell ⟨g+1,0,none⟩ u2).setCell ⟨g+1,1,none⟩ u3):=
 aF (aF h hg) (by omega)

def iM (w:World)(base:Nat)(b1:Bool)(v1:Value)(b2:Bool)(v2:Value)(c qz rz:Int):Prop:=
 ∃rs1 rs2,Ans w base v1 rs1∧Ans w base v2 rs2∧(v1.ownBlock=none∨v1.ownBlock≠v2.ownBlock) ∧
  ((c=0∧b1=decide (qz<0)∧val rs1=qz.natAbs∧tr rs1=rs1∧b2=decide (rz<0)∧val rs2=rz.natAbs∧tr rs2=rs2∧blen qz.natAbs≤67108864∧blen rz.natAbs≤67108864) ∨
   (c=3∧b1=false∧v1=.slice none 0 0∧b2=false∧v2=.slice none 0 0∧rs1=[]∧rs2=[]∧(67108864<blen qz.natAbs∨67108864<blen rz.natAbs)))

def cN (w:World)(qz rz:Int)(e:Ending)(w':World):Prop:=
 (∃b1 a1 n1 k1 b2 a2 n2 k2 c,e=.returned (.tuple #[.agg #[.bool b1,.slice a1 n1 k1],.agg #[.bool b2,.slice a2 n2 k2],.int .i64 c])∧iM w' w.heap.size b1 (.slice a1 n1 k1) b2 (.slice a2 n2 k2) c qz rz)∧Below w.heap.size w w'

theorem aK {w:World}{base g:Nat}{a b a' b' u0 u1 u2 u3:Value}(h2:w.heap[g]?=some (.cells #[a,b] 28))(h3:w.heap[g+1]?=some (.cells #[a',b'] 28)) :
  ((((w.setCell ⟨g,0,none⟩ u0).setCell ⟨g,1,none⟩ u1).setCell ⟨g+1,0,none⟩ u2).setCell ⟨g+1,1,none⟩ u3).heap[g]?=some (.cells #[u0,u1] 28) ∧
  ((((w.setCell ⟨g,0,none⟩ u0).setCell ⟨g,1,none⟩ u1).setCell ⟨g+1,0,none⟩ u2).setCell ⟨g+1,1,none⟩ u3).heap[g+1]?=some (.cells #[u2,u3] 28) ∧
  (∀v zs,Ans w base v zs→Ans ((((w.setCell ⟨g,0,none⟩ u0).setCell ⟨g,1,none⟩ u1).setCell ⟨g+1,0,none⟩ u2).setCell ⟨g+1,1,none⟩ u3) base v zs):=by
 have h4:=dw (u0:=u0) (u1:=u1) h3 (show g+1≠g by omega)
 refine⟨dw (aJ h2) (by omega),aJ h4,fun v zs hA=>?_⟩
 exact (hA.duo h2).duo h4
end Go.Proofs.YtemgogeokkeipaaGreatDoor

