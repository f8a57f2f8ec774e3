/- The walk of the law WholeRoots. -/
import Derived.Test.YtiagnfghnfhlnaaGreatDoorB10
import Derived.Test.YtiagnfghnfhlnaaGreatDoorB13
import Derived.Test.YtiagnfghnfhlnaaGreatDoorB12
import Derived.Test.YtiagnfghnfhlnaaGreatDoorB09
import Derived.Test.YtiagnfghnfhlnaaGreatDoorB08
set_option maxRecDepth 20000
set_option maxHeartbeats 8000000
namespace Go.Proofs.YtiagnfghnfhlnaaGreatDoor
open Go.RowKit
open Lm
attribute [local go_sem ↓] Go.wp_at_zero Go.wp_at_succ

def Rf (w:World)(v:Value)(x:Nat):Prop:=∃a n k rs,v=.slice a n k∧Arg w (.slice a n k) rs∧val rs=x∧rs.length≤1048576

theorem Rf.below {w w':World}{v:Value}{x:Nat}(h:Rf w v x)(hb:Below w.heap.size w w'):Rf w' v x:=by
 obtain⟨a,n,k,rs,h1,h2,h3⟩:=h
 exact⟨a,n,k,rs,h1,h2.below hb,h3⟩

def di (w:World)(x:Nat)(e:Ending)(w':World):Prop:=(∃v,e=.returned (.tuple #[v,.int .i64 0])∧Rf w' v x)∧Below w.heap.size w w'

theorem dG {w w':World}{base:Nat}{e:Ending}{s:Nat}(hb:Below w.heap.size w w')(h:Res w' base e s)(hs:blen s≤67108864):di w s e w':=by
 refine⟨?_,hb⟩
 obtain⟨v,c,rs,rfl,hans,hres⟩:=h
 rcases hres with ⟨rfl,h1,h2,_⟩|⟨_,_,h⟩
 ·have hl:rs.length≤1048576:=de h2 h1 (by omega)
  obtain⟨a,k,rfl⟩:=hans.shape
  exact⟨_,rfl,a,_,k,rs,rfl,hans.arg (by omega),h1,hl⟩
 ·omega

theorem Nb.rf {w:World}{base:Nat}{v:Value}{x:Nat}(h:Nb w base v x)(hx:blen x≤67108864):Rf w v x:=by
 obtain⟨rs,h1,h2,h3⟩:=h
 have hl:rs.length≤1048576:=de h3 h2 (by omega)
 obtain⟨a,k,rfl⟩:=h1.shape
 exact⟨a,_,k,rs,rfl,h1.arg (by omega),h2,hl⟩

theorem fg (v:Value)(x n:Nat)(w:World)(h:Rf w v x)(hT:Tab w)(hn:n≤100)(hb:blen (x ^ n)≤67108864):Calls Tryz.prog 8 #[v,.int .i64 n] w (di w (x ^ n)):=by
 obtain⟨a,m,k,rs,rfl,h1,rfl,h3⟩:=h
 exact (cz _ rs n w h1 hT (by omega) (by omega)).mono fun e w' ⟨hb',hr⟩=>dG hb' hr hb

theorem ln (v:Value)(X:List Nat)(x:Nat)(w:World)(hA:Arg w v X)(hx:val X=x)(hT:Tab w)(hl:X.length≤17592186044415)(hb:blen (x*x)≤67108864):Calls Tryz.prog 11 #[v] w (di w (x*x)):=by
 subst hx
 exact (dH _ X w hA hT hl).mono fun e w' ⟨hb',hr⟩=>dG hb' hr hb

theorem fc (v v':Value)(x y:Nat)(w:World)(h:Rf w v x)(h':Rf w v' y)(hb:blen (x+y)≤67108864):Calls Tryz.prog 9 #[v,v'] w (di w (x+y)):=by
 obtain⟨a,m,k,rs,rfl,h1,rfl,h3⟩:=h
 obtain⟨a',m',k',rs',rfl,h1',rfl,h3'⟩:=h'
 exact (ka _ _ rs rs' w h1 h1' (by omega) (by omega)).mono fun e w' ⟨hb',hr⟩=>dG hb' hr hb

theorem dL (v v':Value)(x y:Nat)(w:World)(h:Rf w v x)(h':∃X,Arg w v' X∧val X=y):Calls Tryz.prog 10 #[v,v'] w fun e w'=>e=.returned (.int .i64 (cmpN x y))∧Below w.heap.size w w':=by
 obtain⟨a,m,k,rs,rfl,h1,rfl,h3⟩:=h
 obtain⟨X,h2,rfl⟩:=h'
 exact (cu _ _ rs X w h1 h2).mono fun e w' ⟨he,hs⟩=>⟨he,hs.below _⟩

def fO (x:Nat)(w:World)(e:Ending)(w':World):Prop:=(e=.returned (.bool false)∨(e=.returned (.bool true)∧blen x≤65536))∧Below w.heap.size w w'

theorem iK (L:Nat)(v1:Value)(X:List Nat)(t:TypeId)(w:World)(hA:Arg w v1 X)(hf1:X.length≤17592186043904)(hL:w.heap[L]?=some (.cells #[v1] t)) :
  Calls Tryz.prog 4 #[.int .i64 65536,.slice (some ⟨L,0,none⟩) 1 1] w (fO (val X) w):=by
 obtain⟨a1,n1,rfl,_,_,_⟩:=hA.form
 have c0:w.cell? ⟨L,0,none⟩=some (.slice a1 X.length n1):=by simp [World.cell?,hL]
 have C:=gK _ X w hA (by omega)
 obtain⟨lx,hlx⟩:∃lx,blen (val X)=lx:=⟨_,rfl⟩
 unfold fO
 rw [hlx]
 have HLX:=aa hlx
 clear hA hL hlx
 go_enter Tryz.func4,Tryz.ntmps4
 go_wp2
 refine wp_loop_rounds 2 ?_
 rw [rounds_succ]
 go_wp2_with fail
 refine C.mono ?_
 rintro e w1 ⟨⟨u1,rfl,hn⟩,hb1⟩
 have C:=lN u1 _ w1 hn
 rw [HLX.out] at C
 have HB1:=aa hb1
 clear hn hb1
 go_wp2_with fail
 refine C.mono ?_
 rintro e wn ⟨rfl,hw⟩;rw [hw];clear hw wn C
 by_cases h1:65536<lx
 ·have i1:(65536:Int)<(lx:Int):=by omega
  go_wp2
  go_ret
  exact⟨.inl rfl,HB1.out⟩
 ·have i1:¬(65536:Int)<(lx:Int):=by omega
  go_wp2
  rw [rounds_succ]
  go_wp2
  go_ret
  exact⟨.inr ⟨rfl,by omega⟩,HB1.out⟩

theorem il (k:Int)(w:World):∃c:Nat,1≤c∧c≤40∧Calls Tryz.prog 6 #[.int .i64 k,.int .i64 1,.int .i64 40] w fun e w'=>e=.returned (.int .i64 (c:Int))∧w'=w:=by
 obtain⟨r,hr,hr1,hr2⟩:∃r:Int,k.tmod 40=r∧-40<r∧r<40:=⟨_,rfl,Int.lt_tmod_of_pos k (by omega),Int.tmod_lt_of_pos k (by omega)⟩
 by_cases h0:r<0
 ·obtain⟨r5,hr5⟩:∃r5:Int,r+40=r5:=⟨_,rfl⟩
  obtain⟨c,hc⟩:∃c:Nat,1+r5=(c:Int):=⟨(1+r5).toNat,by omega⟩
  refine⟨c,by omega,by omega,?_⟩
  go_enter Tryz.func6,Tryz.ntmps6
  go_wp2
  go_ret
  exact⟨rfl,rfl⟩
 ·obtain⟨c,hc⟩:∃c:Nat,1+r=(c:Int):=⟨(1+r).toNat,by omega⟩
  refine⟨c,by omega,by omega,?_⟩
  go_enter Tryz.func6,Tryz.ntmps6
  go_wp2
  go_ret
  exact⟨rfl,rfl⟩

theorem kt (r k:Nat)(hk:1≤k):r≤r ^ k:=by
 rcases Nat.eq_zero_or_pos r with rfl|hr
 ·exact Nat.zero_le _
 ·have h:=Nat.pow_le_pow_right hr hk
  rwa [Nat.pow_one] at h

theorem dg {x y:Nat}(h:x≤y):blen x≤blen y:=(blen_le_iff x _).2 (Nat.lt_of_le_of_lt h ((blen_le_iff y _).1 (Nat.le_refl _)))

theorem iq (x:Nat):blen (x+1)≤blen x+1:=by
 refine (blen_le_iff _ _).2 ?_
 have h:=(blen_le_iff x _).1 (Nat.le_refl _)
 rw [Nat.pow_succ]
 omega

theorem jy (k x:Nat):blen (2 ^ k*x)≤k+blen x:=by
 refine (blen_le_iff _ _).2 ?_
 rw [Nat.pow_add]
 exact Nat.mul_lt_mul_of_pos_left ((blen_le_iff x _).1 (Nat.le_refl _)) (Nat.pow_pos (by omega))

theorem lI (x y:Nat):blen (x*y)≤blen x+blen y:=by
 refine (blen_le_iff _ _).2 ?_
 have h1:=(blen_le_iff x _).1 (Nat.le_refl _)
 have h2:=(blen_le_iff y _).1 (Nat.le_refl _)
 rw [Nat.pow_add]
 exact Nat.mul_lt_mul_of_lt_of_lt h1 h2

theorem jz {x k r:Nat}(hk:1≤k)(hk2:k≤40)(h:IsRootK x k r)(hx:blen x≤65536):blen r≤65536∧blen (r ^ k)≤65536∧blen (x - r ^ k)≤65536∧blen (r+1)≤65537∧blen ((r+1) ^ k)≤65600∧r ^ k+(x - r ^ k)=x:=by
 obtain⟨h1,h2⟩:=h
 have hr:=kt r k hk
 have a1:blen r≤65536:=Nat.le_trans (dg (Nat.le_trans hr h1)) hx
 have a2:=Nat.le_trans (dg h1) hx
 have a3:=Nat.le_trans (dg (Nat.sub_le x (r ^ k))) hx
 have a4:blen (r+1)≤65537:=by have:=iq r;omega
 refine⟨a1,a2,a3,a4,?_,Nat.add_sub_cancel' h1⟩
 rcases Nat.eq_zero_or_pos r with rfl|hr0
 ·rw [Nat.zero_add,Nat.one_pow]
  have:blen 1≤1:=(blen_le_iff _ _).2 (by omega)
  omega
 ·have k1:(r+1) ^ k≤(2*r) ^ k:=Nat.pow_le_pow_left (by omega) k
  rw [Nat.mul_pow] at k1
  have k2:2 ^ k*r ^ k≤2 ^ k*x:=Nat.mul_le_mul_left _ h1
  have k4:=jy k x
  have k5:=dg (Nat.le_trans k1 k2)
  omega

theorem iY (x:Nat):IsRoot2 (x*x) x:=⟨Nat.le_refl _,by
 have:(x+1)*(x+1)=x*x+2*x+1:=by grind
 omega⟩

theorem kA (v0:Value)(X:List Nat)(k:Int)(w:World)(hT:Tab w)(A0:Arg w v0 X)(s0:X.length≤17592186043904)(_:-9223372036854775808≤k)(_:k≤9223372036854775807) :
  Calls Tryz.prog 3 #[v0,.int .i64 k] w fun e w'=>e=.returned (.bool true)∧Below w.heap.size w w':=by
 obtain⟨a0,n0,rfl,_,_,_⟩:=A0.form
 obtain⟨w0,hw0,hb0,h0⟩:=bY w (.cells #[.slice a0 X.length n0] 22)
 have C:=iK _ _ X _ w0 (A0.below hb0) s0 h0
 have HA0:=aa (A0.below hb0)
 have HT:=aa (hT.below hb0)
 have HB:=aa hb0
 clear A0 hT hb0 h0
 go_enter Tryz.func3,Tryz.ntmps3
 go_wp2_with fail
 refine C.mono ?_
 rintro e w1 ⟨hor,hb⟩
 replace HA0:=aa (HA0.out.below hb)
 replace HT:=aa (HT.out.below hb)
 replace HB:=aa (bt9 HB.out hb)
 clear C hb hw0
 rcases hor with rfl|⟨rfl,hx⟩
 ·clear HA0
  have C:=eE w1 HT.out
  go_wp2_with fail
  refine C.mono ?_
  rintro e w1 ⟨rfl,hb⟩
  have HF:=aa (bt9 HB.out hb)
  clear C hb
  go_wp2
  go_ret
  exact⟨rfl,HF.out⟩
 obtain⟨c,hc1,hc2,HP⟩:=il k w1
 obtain⟨x,hxv⟩:∃x,val X=x:=⟨_,rfl⟩
 rw [hxv] at hx
 obtain⟨r,hr⟩:=rootK_is x c hc1
 have HR:=aa (jz hc1 hc2 hr hx)
 have HGT:=aa hr.2
 have HX:=aa hxv
 have HXB:=aa hx
 clear hxv hx
 go_wp2_with fail
 refine HP.mono ?_
 rintro e wn ⟨rfl,hw⟩;rw [hw];clear hw wn HP
 have C:=jh _ X c r w1 HA0.out HT.out (by omega) (by rw [HX.out];have:=HXB.out;omega) hc1 (by omega) (by rw [HX.out];exact hr)
 rw [HX.out] at C
 have HC1:=aa hc1
 have HC2:=aa hc2
 clear hr hc1 hc2
 go_wp2_with fail
 refine C.mono ?_
 rintro e w2 ⟨⟨v2,v3,rfl,hv2,hv3⟩,hb⟩
 have H2:=aa (hv2.rf (by have:=HR.out.1;omega))
 have H3:=aa (hv3.rf (by have:=HR.out.2.2.1;omega))
 obtain⟨a2,n2,k2,_,rfl,_⟩:=id H2.out
 obtain⟨a3,n3,k3,_,rfl,_⟩:=id H3.out
 replace HA0:=aa (HA0.out.below hb)
 replace HT:=aa (HT.out.below hb)
 replace HB:=aa (bt9 HB.out hb)
 have C:=fg _ r c w2 H2.out HT.out (by have:=HC2.out;omega) (by have:=HR.out.2.1;omega)
 clear hv2 hv3 hb
 go_wp2_with fail
 refine C.mono ?_
 rintro e w3 ⟨⟨v4,rfl,hv⟩,hb⟩
 obtain⟨a4,n4,k4,_,rfl,_⟩:=id hv
 replace HA0:=aa (HA0.out.below hb)
 replace HT:=aa (HT.out.below hb)
 replace HB:=aa (bt9 HB.out hb)
 replace H2:=aa (H2.out.below hb)
 replace H3:=aa (H3.out.below hb)
 have C:=fc _ _ (r ^ c) (x - r ^ c) w3 hv H3.out (by rw [HR.out.2.2.2.2.2];have:=HXB.out;omega)
 rw [HR.out.2.2.2.2.2] at C
 clear hv hb
 go_wp2_with fail
 refine C.mono ?_
 rintro e w4 ⟨⟨v5,rfl,hv⟩,hb⟩
 obtain⟨a5,n5,k5,_,rfl,_⟩:=id hv
 replace HA0:=aa (HA0.out.below hb)
 replace HT:=aa (HT.out.below hb)
 replace HB:=aa (bt9 HB.out hb)
 replace H2:=aa (H2.out.below hb)
 have H5:=aa hv
 clear hv hb C H3
 obtain⟨u4,hu4,hbu,hxu⟩:=bY w4 (.cells #[.int .u64 1] 33)
 replace HA0:=aa (HA0.out.below hbu)
 replace HT:=aa (HT.out.below hbu)
 replace HB:=aa (bt9 HB.out hbu)
 replace H5:=aa (H5.out.below hbu)
 have C:=fc _ _ r 1 u4 (H2.out.below hbu) ⟨_,1,1,[1],rfl,ct hxu (by omega),bS 1,by simp⟩ (by have:=HR.out.2.2.2.1;omega)
 clear hbu hxu H2
 go_wp2_with fail
 refine C.mono ?_
 rintro e w5 ⟨⟨v6,rfl,hv⟩,hb⟩
 obtain⟨a6,n6,k6,_,rfl,_⟩:=id hv
 replace HA0:=aa (HA0.out.below hb)
 replace HT:=aa (HT.out.below hb)
 replace HB:=aa (bt9 HB.out hb)
 replace H5:=aa (H5.out.below hb)
 have C:=fg _ (r+1) c w5 hv HT.out (by have:=HC2.out;omega) (by have:=HR.out.2.2.2.2.1;omega)
 clear hv hb hu4
 go_wp2_with fail
 refine C.mono ?_
 rintro e w6 ⟨⟨v7,rfl,hv⟩,hb⟩
 obtain⟨a7,n7,k7,_,rfl,_⟩:=id hv
 replace HA0:=aa (HA0.out.below hb)
 replace HT:=aa (HT.out.below hb)
 replace HB:=aa (bt9 HB.out hb)
 replace H5:=aa (H5.out.below hb)
 have H7:=aa hv
 have C:=dL _ _ x x w6 H5.out ⟨X,HA0.out,HX.out⟩
 rw [cmpN_self] at C
 clear hv hb
 go_wp2_with fail
 refine C.mono ?_
 rintro e w7 ⟨rfl,hb⟩
 replace HA0:=aa (HA0.out.below hb)
 replace HT:=aa (HT.out.below hb)
 replace HB:=aa (bt9 HB.out hb)
 have C:=dL _ _ ((r+1) ^ c) x w7 (H7.out.below hb) ⟨X,HA0.out,HX.out⟩
 rw [cmpN_gt HGT.out] at C
 clear hb H5 H7
 go_wp2_with fail
 refine C.mono ?_
 rintro e w8 ⟨rfl,hb⟩
 replace HA0:=aa (HA0.out.below hb)
 replace HT:=aa (HT.out.below hb)
 replace HB:=aa (bt9 HB.out hb)
 have hsq:blen (x*x)≤200000:=by
  have h1:=lI x x
  have h2:=HXB.out
  omega
 have HSQ:=aa hsq
 have C:=ln _ X x w8 HA0.out HX.out HT.out (by omega) (by have:=HSQ.out;omega)
 clear hb hsq
 go_wp2_with fail
 refine C.mono ?_
 rintro e w9 ⟨⟨v8,rfl,hv⟩,hb⟩
 obtain⟨a8,n8,k8,_,rfl,_⟩:=id hv
 replace HA0:=aa (HA0.out.below hb)
 replace HT:=aa (HT.out.below hb)
 replace HB:=aa (bt9 HB.out hb)
 obtain⟨_,_,_,rs,e8,A8,V8,L8⟩:=hv
 cases e8
 have C:=rsqrt_any _ rs x w9 A8 HT.out (by omega) (by rw [V8];exact iY x)
 rw [V8,Nat.sub_self] at C
 clear hb A8 V8 L8
 go_wp2_with fail
 refine C.mono ?_
 rintro e w10 ⟨ht,hb⟩
 obtain⟨v9,v10,rfl,hv9,hv10⟩:∃v1 v2,e=.returned (.tuple #[v1,v2,.int .i64 0])∧Nb w10 w9.heap.size v1 x∧Nb w10 w9.heap.size v2 0:=by
  have b0:blen 0≤67108864:=by
   have:blen 0≤0:=(blen_le_iff _ _).2 (by decide)
   omega
  have hxb:=HXB.out
  rcases ht with ⟨_,_,h⟩|⟨h,_⟩
  ·exact h
  ·omega
 have b0:blen 0≤67108864:=by
  have:blen 0≤0:=(blen_le_iff _ _).2 (by decide)
  omega
 have H9:=aa (hv9.rf (by have:=HXB.out;omega))
 have H10:=aa (hv10.rf b0)
 obtain⟨a9,n9,k9,_,rfl,_⟩:=id H9.out
 obtain⟨a10,n10,k10,_,rfl,_⟩:=id H10.out
 replace HA0:=aa (HA0.out.below hb)
 replace HT:=aa (HT.out.below hb)
 replace HB:=aa (bt9 HB.out hb)
 have C:=dL _ _ x x w10 H9.out ⟨X,HA0.out,HX.out⟩
 rw [cmpN_self] at C
 clear hv9 hv10 hb ht b0
 go_wp2_with fail
 refine C.mono ?_
 rintro e w11 ⟨rfl,hb⟩
 replace HT:=aa (HT.out.below hb)
 replace HB:=aa (bt9 HB.out hb)
 obtain⟨_,_,_,rs0,e10,A10,V10,_⟩:=H10.out.below hb
 cases e10
 have C:=az _ rs0 w11 A10
 rw [V10,show blen 0=0 from (eA 0).2 rfl] at C
 clear hb A10 V10 H9 H10
 go_wp2_with fail
 refine C.mono ?_
 rintro e wn ⟨rfl,hw⟩;rw [hw];clear hw wn C
 clear HA0
 have C:=eE w11 HT.out
 go_wp2_with fail
 refine C.mono ?_
 rintro e w1 ⟨rfl,hb⟩
 have HF:=aa (bt9 HB.out hb)
 clear C hb
 go_wp2
 go_ret
 exact⟨rfl,HF.out⟩

end Go.Proofs.YtiagnfghnfhlnaaGreatDoor
