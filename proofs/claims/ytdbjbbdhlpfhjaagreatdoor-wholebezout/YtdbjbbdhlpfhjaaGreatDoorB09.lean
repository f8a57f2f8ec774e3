/- Package mul: power, Pow. -/
import Derived.Test.YtdbjbbdhlpfhjaaGreatDoorB08
import Derived.Test.YtdbjbbdhlpfhjaaGreatDoorB07
import Derived.Test.YtdbjbbdhlpfhjaaGreatDoorB02
import Derived.Laws.Bits128
import Derived.Handy
import Derived.Test.YtdbjbbdhlpfhjaaGreatDoorB01
import Derived.Deep.RegionHeld3
set_option maxRecDepth 20000
set_option maxHeartbeats 4000000
namespace Go.Proofs.YtdbjbbdhlpfhjaaGreatDoor
open Go.RowKit
open Lm
attribute [local go_sem ↓] Go.wp_at_zero Go.wp_at_succ

theorem ka (n:Int):bits .and .i64 n 1=n % 2:=by
 have h1:(BitVec.ofInt 64 1).toNat=2 ^ 1 - 1:=by decide
 have key:(BitVec.ofInt 64 n &&& BitVec.ofInt 64 1).toNat=(n % ((2 ^ 64:Nat):Int)).toNat % 2 ^ 1:=by
  rw [BitVec.toNat_and,BitVec.toNat_ofInt,h1,Nat.and_two_pow_sub_one_eq_mod]
 show IntKind.i64.wrap ((BitVec.ofInt 64 n &&& BitVec.ofInt 64 1).toNat:Nat)=n % 2
 rw [key,IntKind.wrap_i64]
 omega

theorem jA (x k:Nat):x / 2 ^ k=2*(x / 2 ^ (k+1))+x / 2 ^ k % 2:=by
 rw [Nat.pow_succ,←Nat.div_div_eq_div_mul]
 omega

theorem eT {x y:Nat}(h:x≤y):blen x≤blen y:=(blen_le_iff x _).2 (Nat.lt_of_le_of_lt h ((blen_le_iff y _).1 (Nat.le_refl _)))

theorem jx {x n k:Nat}(hx:0<x)(hk:k≤n):x ^ k≤x ^ n:=Nat.pow_le_pow_right hx hk

theorem Res.big {w:World}{base s:Nat}(h:67108864<blen s):Res w base (.returned (.tuple #[.slice none 0 0,.int .i64 3])) s:=
 ⟨_,3,[],rfl,Ans.nil _ _,.inr ⟨rfl,rfl,h⟩⟩

theorem Res.of_nv {w:World}{base s:Nat}{v:Value}(h:Nv w base v s)(hb:blen s≤67108864):Res w base (.returned (.tuple #[v,.int .i64 0])) s:=by
 obtain⟨rs,h1,h2,h3,_⟩:=h
 exact⟨v,0,rs,rfl,h1,.inl ⟨rfl,h2,h3,hb⟩⟩

theorem Res.parts {w:World}{base:Nat}{e:Ending}{s:Nat}(h:Res w base e s):(∃v,e=.returned (.tuple #[v,.int .i64 0])∧Nv w base v s∧blen s≤67108864)∨(∃v,e=.returned (.tuple #[v,.int .i64 3])∧67108864<blen s):=by
 obtain⟨v,c,rs,rfl,hA,h⟩:=h
 rcases h with ⟨rfl,h1,h2,h3⟩|⟨rfl,_,h3⟩
 ·exact .inl ⟨v,rfl,Nv.of hA h1 h2 h3,h3⟩
 ·exact .inr ⟨v,rfl,h3⟩

theorem pL (va:Value)(X:List Nat)(n:Nat)(w:World)(hA:Arg w va X)(hT:Tab w)(hl:X.length≤1048577)(hx:0<val X)(hn0:0<n)(hn:n≤9223372036854775807) :
  Calls Tryz.prog 202 #[va,.int .i64 n] w fun e w'=>Below w.heap.size w w'∧Res w' w.heap.size e (val X ^ n):=by
 obtain⟨x,hxx⟩:∃x,val X=x:=⟨_,rfl⟩
 rw [hxx] at hx ⊢
 have HF:=cH 1 w (by omega)
 have HLN:=fun W=>Tryz.bits_Len (n:Int) W (by omega) (by omega)
 rw [Int.toNat_natCast] at HLN
 have wn:IntKind.u64.wrap (n:Int)=(n:Int):=by rw [IntKind.wrap_u64];omega
 obtain⟨L,hL⟩:∃L,Lib.bitLen n=L:=⟨_,rfl⟩
 have hnl:n<2 ^ L:=by
  obtain⟨_,_,h3⟩:=Lib.bitLenAux_bounds 64 n (by omega) (by omega)
  rw [←hL];exact h3
 have hL64:L≤64:=by rw [←hL];exact Lib.bitLen_le n 64 (by omega) (by omega)
 rw [hL] at HLN
 obtain⟨a1,c1,rfl,_,_,_⟩:=hA.form
 have HA:=aa hA
 have HT:=aa hT
 have HX:=aa (And.intro hxx hx)
 have HN:=aa (And.intro hnl hn0)
 clear hA hT hxx hx hL hnl hn0
 go_enter Tryz.func202,Tryz.ntmps202
 go_wp2_with fail
 refine HF.mono ?_
 rintro e w1 ⟨⟨v1,rfl,A1⟩,hb1⟩
 have ST:=aa (And.intro (Nv.of A1 (x:=1) (by rw [val_tr];simp [val]) (tr_tr _) (by decide)) hb1)
 clear HF A1 hb1
 go_wp2_with fail
 refine (HLN _).mono ?_
 rintro e wn' ⟨rfl,hw⟩;rw [hw];clear hw wn' HLN
 go_wp2
 go_loopw [6,7,8] (fun v c i wr=>∃(k:Nat),c=.int .i64 0∧i=.int .i64 ((k:Int) - 1)∧k≤L∧Nv wr w.heap.size v (x ^ (n / 2 ^ k))∧Below w.heap.size w wr) (fun _ _ i _=>(intOf i+1).toNat)
 case atStart=>
  refine⟨L,rfl,rfl,Nat.le_refl _,?_,ST.out.2⟩
  rw [Nat.div_eq_of_lt HN.out.1,Nat.pow_zero]
  exact ST.out.1
 case round=>
  obtain⟨k,rfl,rfl,hk,hnv,hbel⟩:=hrel
  have HNV:=aa hnv
  have HB:=aa hbel
  clear hnv hbel ST
  by_cases hk0:k=0
  ·subst hk0
   have h:=HNV.out
   rw [Nat.pow_zero,Nat.div_one] at h
   have HE:=aa h
   clear h
   go_wp2
   go_returns
   refine⟨HB.out,Res.of_nv HE.out ?_⟩
   obtain⟨rs,h1,h2,h3,h4⟩:=HE.out
   rw [←h2]
   have:=(blen_le_iff (val rs) (64*rs.length)).2 (by have:=val_lt h1.limbs;rw [show (18446744073709551616:Nat)=2 ^ 64 from rfl,←Nat.pow_mul] at this;exact this)
   omega
  ·obtain⟨j,rfl⟩:∃j,k=j+1:=⟨k - 1,by omega⟩
   have ej:(((j+1:Nat):Int) - 1)=(j:Int):=by omega
   rw [ej]
   have hj0:(0:Int)≤(j:Int):=by omega
   have hj64:j<64:=by omega
   obtain⟨rs,A1,e1,_,l1⟩:=HNV.out.arg
   have HS:=jM _ rs wr A1 (HT.out.below HB.out) (by omega)
   have e2:val rs*val rs=x ^ (2*(n / 2 ^ (j+1))):=by rw [e1,←Nat.pow_add];congr 1;omega
   rw [e2] at HS
   have hst:=jA n j
   have hle:n / 2 ^ j≤n:=Nat.div_le_self _ _
   have hsh:(n:Int) / 2 ^ j=((n / 2 ^ j:Nat):Int):=by rw [Int.natCast_ediv,Int.natCast_pow];rfl
   have hand:=ka ((n / 2 ^ j:Nat):Int)
   have hm2:((n / 2 ^ j:Nat):Int) % 2=((n / 2 ^ j % 2:Nat):Int):=by omega
   rw [hm2] at hand
   have wj:IntKind.i64.wrap (((n / 2 ^ j:Nat)):Int)=(((n / 2 ^ j:Nat)):Int):=by rw [IntKind.wrap_i64];omega
   generalize n / 2 ^ (j+1)=p at *
   obtain⟨q,hq⟩:∃q,n / 2 ^ j=q:=⟨_,rfl⟩
   rw [hq] at hst hle hsh hand hm2 wj
   have HQ:=aa (And.intro hst hle)
   have HQD:=aa hq
   clear hq
   clear A1 e1 e2 l1 ej hk0 hst
   go_wp2_with fail
   refine HS.mono ?_
   rintro e w2 ⟨hb2,hr⟩
   have HB2:=aa (HB.out.trans (hb2.mono HB.out.size))
   rcases hr.parts with ⟨v2,rfl,N2,bl2⟩|⟨v2,rfl,bl2⟩
   ·have HN2:=aa N2
    clear HS hb2 hr N2 bl2
    rcases Nat.mod_two_eq_zero_or_one q with h0|h1
    ·rw [h0] at hand
     have HEQ:Hid (2*p=q):=aa (by have:=HQ.out.1;omega)
     clear h0
     go_wp2
     go_roundw
     case rel=>exact⟨j,rfl,rfl,by omega,by rw [HQD.out,←HEQ.out];exact HN2.out.base HB.out.size,HB2.out⟩
     case measure=>simp [intOf]
    ·rw [h1] at hand
     have HEQ:Hid (2*p+1=q):=aa (by have:=HQ.out.1;omega)
     obtain⟨rs2,A2,e2,_,l2⟩:=HN2.out.arg
     have HM:=df v2 _ rs2 X w2 A2 (HA.out.below HB2.out) (HT.out.below HB2.out) (by omega)
     have e3:val rs2*val X=x ^ q:=by rw [e2,HX.out.1,←HEQ.out,Nat.pow_succ]
     rw [e3] at HM
     clear h1 A2 e2 l2 e3
     go_wp2_with fail
     refine HM.mono ?_
     rintro e w3 ⟨hb3,hr⟩
     have HB3:=aa (HB2.out.trans (hb3.mono HB2.out.size))
     rcases hr.parts with ⟨v3,rfl,N3,bl3⟩|⟨v3,rfl,bl3⟩
     ·have HN3:=aa N3
      clear HM hb3 hr N3 bl3
      go_wp2
      go_roundw
      case rel=>exact⟨j,rfl,rfl,by omega,by rw [HQD.out];exact HN3.out.base HB2.out.size,HB3.out⟩
      case measure=>simp [intOf]
     ·have HBG:=aa (Nat.lt_of_lt_of_le bl3 (eT (jx HX.out.2 HQ.out.2)))
      clear HM hb3 hr bl3
      go_wp2
      go_returns
      exact⟨HB3.out,Res.big HBG.out⟩
   ·have HBG:=aa (Nat.lt_of_lt_of_le bl2 (eT (jx (n:=n) (k:=2*p) HX.out.2 (by have:=HQ.out;omega))))
    clear HS hb2 hr bl2
    go_wp2
    go_returns
    exact⟨HB2.out,Res.big HBG.out⟩

theorem j4 {x:Nat}(h:1<blen x):2≤x:=by
 refine Nat.le_of_not_lt fun hlt=>?_
 have:blen x≤1:=(blen_le_iff x 1).2 (by omega)
 omega

theorem mM {x n:Nat}(hx:1<blen x)(h:67108863<(blen x - 1)*n):67108864<blen (x ^ n):=by
 have h1:=gk x (by have:=j4 hx;omega)
 have h2:2 ^ ((blen x - 1)*n)≤x ^ n:=by rw [Nat.pow_mul];exact Nat.pow_le_pow_left h1 n
 refine Nat.lt_of_not_le fun hle=>?_
 have h3:=(blen_le_iff (x ^ n) _).1 (Nat.le_refl (blen (x ^ n)))
 have h4:(blen x - 1)*n<blen (x ^ n):=(Nat.pow_lt_pow_iff_right (by omega)).1 (Nat.lt_of_le_of_lt h2 h3)
 omega

theorem lS {x t:Nat}(h:bf x t):x=x / 2 ^ t*2 ^ t∧0<x / 2 ^ t:=by
 obtain⟨h1,h2⟩:=h
 have h3:=Nat.div_add_mod x (2 ^ t)
 rw [h1,Nat.mul_comm] at h3
 refine⟨h3.symm,?_⟩
 generalize x / 2 ^ t=q at *
 rcases Nat.eq_zero_or_pos q with h|h
 ·rw [h] at h2;simp at h2
 ·exact h

theorem gV (va:Value)(X:List Nat)(n:Nat)(w:World)(hA:Arg w va X)(hT:Tab w)(hl:X.length≤17592186044416)(hn:n≤9223372036854775807) :
  Calls Tryz.prog 182 #[va,.int .i64 n] w fun e w'=>Below w.heap.size w w'∧Res w' w.heap.size e (val X ^ n):=by
 have HL:=aP _ _ w hA
 obtain⟨L,hL⟩:∃L,blen (val X)=L:=⟨_,rfl⟩
 rw [hL] at HL
 have hLb:L≤64*X.length:=by
  rw [←hL]
  exact (blen_le_iff _ _).2 (by have:=val_lt hA.limbs;rw [show (18446744073709551616:Nat)=2 ^ 64 from rfl,←Nat.pow_mul] at this;exact this)
 by_cases h0:n=0
 ·subst h0
  have HF:=cH 1 w (by omega)
  have HR:Hid (∀w' v,Ans w' w.heap.size v (tr [1])→Res w' w.heap.size (.returned (.tuple #[v,.int .i64 0])) (val X ^ 0)):=aa fun w' v h=>⟨v,0,_,rfl,h,.inl ⟨rfl,by rw [val_tr];simp [val],tr_tr _,by rw [Nat.pow_zero];decide⟩⟩
  clear hA hT hL
  go_enter Tryz.func182,Tryz.ntmps182
  go_wp2_with fail
  refine HL.mono ?_
  rintro e wn ⟨rfl,hw⟩;rw [hw];clear hw wn HL
  go_wp2_with fail
  refine HF.mono ?_
  rintro e w1 ⟨⟨v1,rfl,A1⟩,hb1⟩
  have H:=aa (And.intro A1 hb1)
  clear HF A1 hb1
  go_wp2
  go_returns
  exact⟨H.out.2,HR.out _ _ H.out.1⟩
 ·have hz:((n:Int) == 0)=false:=by rw [beq_eq_false_iff_ne];omega
  have hnn:¬((n:Int)<0):=by omega
  by_cases h1:L≤1
  ·have HN:=cT va X w hA hl
   have i1:(L:Int)≤1:=by omega
   have hx1:val X ^ n=val X:=by
    have:val X<2 ^ 1:=(blen_le_iff _ 1).1 (by rw [hL];exact h1)
    rcases Nat.eq_zero_or_pos (val X) with h|h
    ·rw [h];exact Nat.zero_pow (by omega)
    ·rw [show val X=1 by omega,Nat.one_pow]
   rw [hx1]
   have HX:=aa (show blen (val X)≤67108864 by omega)
   clear hA hT hL hx1
   go_enter Tryz.func182,Tryz.ntmps182
   go_wp2_with fail
   refine HL.mono ?_
   rintro e wn ⟨rfl,hw⟩;rw [hw];clear hw wn HL
   go_wp2_with fail
   refine HN.mono ?_
   rintro e w1 ⟨⟨v1,rfl,A1⟩,hb1⟩
   have H:=aa (And.intro A1 hb1)
   clear HN A1 hb1
   go_wp2
   go_returns
   exact⟨H.out.2,_,0,_,rfl,H.out.1,.inl ⟨rfl,val_tr _,tr_tr _,HX.out⟩⟩
  ·have i1:¬((L:Int)≤1):=by omega
   obtain⟨M,hM⟩:∃M,L=M+1:=⟨L - 1,by omega⟩
   have eM:(L:Int) - 1=(M:Int):=by omega
   obtain⟨Q,hQ⟩:∃Q,67108863 / n=Q:=⟨_,rfl⟩
   have eQ:(67108863:Int) / (n:Int)=(Q:Int):=by rw [←hQ,Int.natCast_ediv];rfl
   have hQl:Q≤67108863:=by rw [←hQ];exact Nat.div_le_self _ _
   by_cases h2:Q<M
   ·have i2:(Q:Int)<(M:Int):=by omega
    have HB:Hid (67108864<blen (val X ^ n)):=by
     refine aa (mM (by omega) ?_)
     rw [hL,hM,Nat.add_sub_cancel]
     rw [←hQ] at h2
     exact (Nat.div_lt_iff_lt_mul (by omega)).1 h2
    clear hA hT hL hM hQ
    go_enter Tryz.func182,Tryz.ntmps182
    go_wp2_with fail
    refine HL.mono ?_
    rintro e wn ⟨rfl,hw⟩;rw [hw];clear hw wn HL
    go_wp2
    go_returns
    exact⟨Below.refl _ _,Res.big HB.out⟩
   ·have i2:¬((Q:Int)<(M:Int)):=by omega
    have hMn:M*n≤67108863:=by
     have:M≤67108863 / n:=by omega
     exact (Nat.le_div_iff_mul_le (by omega)).1 this
    have HTL:=fi va X w hA hT
    have HA:=aa hA
    have HT:=aa hT
    have hx2:2≤val X:=j4 (by omega)
    have HX:=aa (And.intro hL (And.intro hM (And.intro hMn hx2)))
    clear hA hT hL hM hQ hMn hx2
    go_enter Tryz.func182,Tryz.ntmps182
    go_wp2_with fail
    refine HL.mono ?_
    rintro e wn ⟨rfl,hw⟩;rw [hw];clear hw wn HL
    go_wp2_with fail
    refine HTL.mono ?_
    rintro e wn ⟨⟨t,ht,rfl,_,htl⟩,hw⟩;rw [hw];clear hw wn HTL
    have hit:=htl (by have:=HX.out.2.2.2;omega)
    obtain⟨od1,od2⟩:=lS hit
    have htM:t≤M:=by
     have h3:2 ^ t≤val X:=by rw [od1];exact Nat.le_mul_of_pos_left _ od2
     have h4:=(blen_le_iff (val X) _).1 (Nat.le_refl _)
     have h5:t<blen (val X):=(Nat.pow_lt_pow_iff_right (by omega)).1 (Nat.lt_of_le_of_lt h3 h4)
     have:=HX.out.1
     have:=HX.out.2.1
     omega
    have hM26:M≤67108863:=by
     have:=HX.out.2.2.1
     have:=Nat.le_mul_of_pos_right M (show 0<n by omega)
     omega
    have HR:=oo va X t w HA.out (by omega) (by omega)
    have HO:=aa (And.intro od1 (And.intro od2 htM))
    clear htl hit od1 od2 ht
    go_wp2_with fail
    refine HR.mono ?_
    rintro e w1 ⟨hb1,hr1⟩
    have hble:blen (val X / 2 ^ t)≤blen (val X):=eT (Nat.div_le_self _ _)
    obtain⟨v1,rfl,N1⟩:=hr1.fits (by have:=HX.out.1;have:=HX.out.2.1;omega)
    obtain⟨rs1,A1,e1,_,l1⟩:=N1.arg
    have HP:=pL v1 rs1 n w1 A1 (HT.out.below hb1) (by omega) (by rw [e1];exact HO.out.2.1) (by omega) hn
    rw [e1] at HP
    have HB1:=aa hb1
    clear HR hb1 hr1 hble N1 A1 e1 l1
    go_wp2_with fail
    refine HP.mono ?_
    rintro e w2 ⟨hb2,hr2⟩
    have HB2:=aa (HB1.out.trans (hb2.mono HB1.out.size))
    have hpw:(val X / 2 ^ t) ^ n*2 ^ (t*n)=val X ^ n:=by
     rw [Nat.pow_mul,←Nat.mul_pow,←HO.out.1]
    have htn:t*n≤67108863:=Nat.le_trans (Nat.mul_le_mul_right n HO.out.2.2) HX.out.2.2.1
    obtain⟨u,hu,eu⟩:∃u:Nat,t*n=u∧(t:Int)*(n:Int)=(u:Int):=⟨t*n,rfl,by rw [Int.natCast_mul]⟩
    rw [hu] at hpw htn
    rcases hr2.parts with ⟨v2,rfl,N2,bl2⟩|⟨v2,rfl,bl2⟩
    ·obtain⟨rs2,A2,e2,_,l2⟩:=N2.arg
     have HLF:=ob v2 rs2 u w2 A2 (by omega) (by omega)
     rw [e2,hpw] at HLF
     clear HP hb2 hr2 N2 A2 e2 l2 bl2 hpw hu
     go_wp2_with fail
     refine HLF.mono ?_
     rintro e w3 ⟨hb3,v3,c3,rs3,rfl,A3,h3⟩
     have H:=aa (And.intro (A3.base HB2.out.size) (And.intro h3 (HB2.out.trans (hb3.mono HB2.out.size))))
     clear HLF hb3 A3 h3
     go_wp2
     go_returns
     exact⟨H.out.2.2,v3,c3,rs3,rfl,H.out.1,H.out.2.1⟩
    ·have HBG:=aa (Nat.lt_of_lt_of_le bl2 (eT (show (val X / 2 ^ t) ^ n≤val X ^ n by rw [←hpw];exact Nat.le_mul_of_pos_right _ (Nat.two_pow_pos _))))
     clear HP hb2 hr2 bl2 hpw hu
     go_wp2
     go_returns
     exact⟨HB2.out,Res.big HBG.out⟩

def aW:List (Nat × Value × Nat)→List Value
 | []=>[]
 | (d,o,s) :: l=>.int .i64 d :: o :: .int .i64 s :: aW l

theorem rA (l:List (Nat × Value × Nat))(d:Nat)(o:Value)(s:Nat):aW (l ++ [(d,o,s)])=aW l ++ [.int .i64 d,o,.int .i64 s]:=by
 induction l with
 | nil=>rfl
 | cons p l ih=>obtain⟨d,o,s⟩:=p;simp [aW,ih]

theorem oV (l:List (Nat × Value × Nat)):∀(i d:Nat) (o:Value) (s:Nat),l[i]?=some (d,o,s)→(aW l)[i*3]?=some (.int .i64 d)∧(aW l)[i*3+1]?=some o∧(aW l)[i*3+2]?=some (.int .i64 s):=by
 induction l with
 | nil=>intro i d o s h;simp at h
 | cons p l ih=>
  obtain⟨d0,o0,s0⟩:=p
  intro i d o s h
  cases i with
  | zero=>simp at h;obtain⟨rfl,rfl,rfl⟩:=h;exact⟨rfl,rfl,rfl⟩
  | succ i=>
   obtain⟨h1,h2,h3⟩:=ih i d o s (by simpa using h)
   have e1:(i+1)*3=i*3+1+1+1:=by omega
   rw [e1]
   exact⟨by simpa [aW] using h1,by simpa [aW] using h2,by simpa [aW] using h3⟩

def de (w:World)(b n:Nat)(p:Nat × Value × Nat):Prop:=
 ∃a O c,p.2.1=.slice a O.length c∧Arg w p.2.1 O∧18446744073709551616 ^ p.2.2*val O=b ^ p.1∧2≤p.1∧p.1+2≤n∧val O≠0∧O.length≤1048576∧blen (val O)≤67108864∧p.2.2≤1125899906842624

theorem de.below {w w':World}{b n:Nat}{p:Nat × Value × Nat}(h:de w b n p)(hb:Below w.heap.size w w'):de w' b n p:=by
 obtain⟨a,O,c,h1,h2,h3⟩:=h
 exact⟨a,O,c,h1,h2.below hb,h3⟩

def cJ (w:World)(v:Value)(b n:Nat):Prop:=∃l,cE w v l∧∀p ∈ l,de w b n p

theorem cE.below {w w':World}{v:Value}{l:List (Nat × Value × Nat)}(h:cE w v l)(hb:Below w.heap.size w w'):cE w' v l:=by
 rcases h with h|⟨g,cap,h1,h2,h3,h4,h5⟩
 ·exact .inl h
 ·refine .inr ⟨g,cap,h1,Nat.lt_of_lt_of_le h2 hb.size,h3,h4,fun i d o s hi=>?_⟩
  obtain⟨q1,q2,q3,q4⟩:=h5 i d o s hi
  have e:∀k,w'.cell? ⟨g,k,none⟩=w.cell? ⟨g,k,none⟩:=fun k=>World.cell?_of_block (hb.block g h2)
  rw [e,e,e]
  exact⟨q1,q2,q3,q4⟩

theorem cJ.below {w w':World}{v:Value}{b n:Nat}(h:cJ w v b n)(hb:Below w.heap.size w w'):cJ w' v b n:=by
 obtain⟨l,h1,h2⟩:=h
 exact⟨l,h1.below hb,fun p hp=>(h2 p hp).below hb⟩

theorem Ans.grown5 {w w':World}{base:Nat}{v:Value}{zs:List Nat}{row:Option Nat}(h:Ans w base v zs)(hg:w.grownBy w' row)(hne:v.ownBlock=none∨v.ownBlock≠row):Ans w' base v zs:=by
 refine⟨?_,h.limbs⟩
 obtain⟨h1,h2⟩:=h.own
 refine⟨h1,?_⟩
 rcases h2 with h2|⟨g',cap,cur,hv,hg',hh,r⟩
 ·exact .inl h2
 ·refine .inr ⟨g',cap,cur,hv,hg',?_,r⟩
  rw [hg.block g' (lt_of_block hh) ?_]
  ·exact hh
  ·rcases hne with hne|hne
   ·rw [hv] at hne;cases hne
   ·rw [hv] at hne;exact hne

def nL (w:World)(row:Option Nat)(f t n:Nat)(p:Nat × Value × Nat):Prop:=
 ∃O,Ans w 0 p.2.1 O∧val O=f ^ p.1∧64*p.2.2=t*p.1∧2≤p.1∧p.1+2≤n∧O.length≤1048576∧blen (val O)≤67108864∧(p.2.1.ownBlock=none∨p.2.1.ownBlock≠row)

theorem m6:(Tryz.prog.info? 164).map (fun i=>(i.zero,i.size,i.bytes))=some (some (.agg #[.int .i64 0,.slice none 0 0,.int .i64 0]),3,40):=by kernel_rfl

theorem jk {w:World}{base:Nat}{v:Value}{zs:List Nat}(h:Ans w base v zs){g:Nat}(hg:v.ownBlock=some g):base≤g∧g<w.heap.size:=by
 obtain⟨_,h2⟩:=h.own
 rcases h2 with ⟨rfl,_⟩|⟨g',cap,cur,rfl,hg',hh,_⟩
 ·cases hg
 ·simp [Value.ownBlock] at hg
  subst hg
  exact⟨hg',lt_of_block hh⟩

theorem qb {w:World}{base:Nat}{v:Value}{l:List (Nat × Value × Nat)}(ho:w.ownsRow base 164 3 v l.length (aW l))(hs:∀p ∈ l,p.1≤9223372036854775807∧p.2.2≤9223372036854775807∧∃a n c,p.2.1=.slice a n c):cE w v l:=by
 obtain⟨h1,h2⟩:=ho
 rcases h2 with ⟨rfl,h3⟩|⟨g,cap,cur,rfl,hge,hh,hle,hml,hsz,htk⟩
 ·exact .inl ⟨rfl,List.length_eq_zero_iff.1 h3⟩
 ·refine .inr ⟨g,cap,rfl,lt_of_block hh,hle,by have:maxLen=9223372036854775807:=rfl;omega,fun i d o s hi=>?_⟩
  obtain⟨q1,q2,q3⟩:=oV l i d o s hi
  have hil:i<l.length:=(List.getElem?_eq_some_iff.1 hi).1
  have e:∀k,k<l.length*3→w.cell? ⟨g,k,none⟩=(aW l)[k]?:=fun k hk=>by
   have:(aW l)[k]?=cur.toList[k]?:=by rw [←htk,List.getElem?_take,if_pos hk]
   rw [this]
   simp [World.cell?,hh]
  rw [e _ (by omega),e _ (by omega),e _ (by omega)]
  obtain⟨r1,r2,r3⟩:=hs _ (List.mem_of_getElem? hi)
  exact⟨q1,q2,q3,r1,r2,r3⟩

theorem p8 {n k J W0 i W:Nat}(h1:n≤k*2 ^ J)(h2:k*2 ^ J<n+2 ^ J)(h3:J=0∨512<k)(hk:k≤W0)(hW0:W0≤k+63)(hW:W=W0*2 ^ i)(hle:W+1≤n):W+2≤n:=by
 rcases Nat.lt_or_ge i J with hi|hi
 ·have h4:2*W≤W0*2 ^ J:=by
   rw [hW,Nat.mul_left_comm,←Nat.pow_succ']
   exact Nat.mul_le_mul_left _ (Nat.pow_le_pow_right (by omega) hi)
  have h5:W0*2 ^ J≤(k+63)*2 ^ J:=Nat.mul_le_mul_right _ hW0
  have h6:513*2 ^ J≤k*2 ^ J:=Nat.mul_le_mul_right _ (by omega)
  have h7:2 ^ 1≤2 ^ J:=Nat.pow_le_pow_right (by omega) (by omega)
  rw [Nat.add_mul] at h5
  omega
 ·have h4:W0*2 ^ J≤W:=by
   rw [hW]
   exact Nat.mul_le_mul_left _ (Nat.pow_le_pow_right (by omega) hi)
  have h5:k*2 ^ J≤W0*2 ^ J:=Nat.mul_le_mul_right _ hk
  omega

def PSt (base F t n:Nat)(w:World)(v:Value)(l:List (Nat × Value × Nat)):Prop:=w.ownsRow base 164 3 v l.length (aW l)∧∀p ∈ l,nL w v.ownBlock F t n p

theorem lN {w w':World}{base sz m:Nat}{e:TypeId}{v:Value}{xs:List Value}(h:w.ownsRow base e sz v m xs)(hb:Below w.heap.size w w'):w'.ownsRow base e sz v m xs:=by
 obtain⟨h1,h2⟩:=h
 refine⟨h1,?_⟩
 rcases h2 with h2|⟨g,cap,cur,hv,hg,hh,r⟩
 ·exact .inl h2
 ·exact .inr ⟨g,cap,cur,hv,hg,by rw [hb.block g (lt_of_block hh)];exact hh,r⟩

theorem fD {w:World}{base sz m:Nat}{e:TypeId}{v:Value}{xs:List Value}(h:w.ownsRow base e sz v m xs):∀g,v.ownBlock=some g→g<w.heap.size:=by
 obtain⟨h1,h2⟩:=h
 intro g hg
 rcases h2 with ⟨rfl,_⟩|⟨g',cap,cur,rfl,_,hh,_⟩
 ·cases hg
 ·simp [Value.ownBlock] at hg
  subst hg
  exact lt_of_block hh

theorem iD {w:World}{base sz m:Nat}{e:TypeId}{v:Value}{xs:List Value}(h:w.ownsRow base e sz v m xs):∀g,v.ownBlock=some g→base≤g:=by
 obtain⟨h1,h2⟩:=h
 intro g hg
 rcases h2 with ⟨rfl,_⟩|⟨g',cap,cur,rfl,hge,_⟩
 ·cases hg
 ·simp [Value.ownBlock] at hg
  subst hg
  exact hge

theorem PSt.below {base F t n:Nat}{w w':World}{v:Value}{l:List (Nat × Value × Nat)}(h:PSt base F t n w v l)(hb:Below w.heap.size w w'):PSt base F t n w' v l:=by
 refine⟨lN h.1 hb,fun p hp=>?_⟩
 obtain⟨O,h1,h2⟩:=h.2 p hp
 exact⟨O,h1.below hb,h2⟩

theorem PSt.step {base F t n:Nat}{w w':World}{v v':Value}{l:List (Nat × Value × Nat)}{o:Obj}{d s bo:Nat}{vo:Value}{O:List Nat}(h:PSt base F t n w v l)(ho:Ans w bo vo O)(hv:∀g,v.ownBlock=some g→g<bo)
  (hval:val O=F ^ d) (hs:64*s=t*d) (h1:2≤d) (h2:d+2≤n) (hl:O.length≤1048576) (hb:blen (val O)≤67108864)
  (hown:w'.ownsRow base 164 3 v' (l.length+1) (aW l ++ [.int .i64 d,vo,.int .i64 s])) (hgrow:(w.alloc o).grownBy w' v.ownBlock) (hat:v'.ownBlock=v.ownBlock∨v'.ownBlock=some (w.alloc o).heap.size):PSt base F t n w' v' (l ++ [(d,vo,s)]):=by
 have hal:Below w.heap.size w (w.alloc o):=aL w o
 have key:∀(u:Value) (B0:Nat) (U:List Nat),Ans w B0 u U→(u.ownBlock=none∨u.ownBlock≠v.ownBlock)→Ans w' B0 u U∧(u.ownBlock=none∨u.ownBlock≠v'.ownBlock):=by
  intro u B0 U hu hne
  refine⟨(hu.below hal).grown5 hgrow hne,?_⟩
  rcases hat with e|e
  ·rw [e];exact hne
  ·rcases hub:u.ownBlock with _|g
   ·exact .inl rfl
   ·have:=(jk hu hub).2
    rw [e]
    refine .inr fun h=>?_
    have h:=Option.some.inj h
    have:=hal.size
    omega
 refine⟨by rw [rA,List.length_append];exact hown,fun p hp=>?_⟩
 rcases List.mem_append.1 hp with hp|hp
 ·obtain⟨U,q1,q2,q3,q4,q5,q6,q7,q8⟩:=h.2 p hp
  obtain⟨r1,r2⟩:=key _ _ _ q1 q8
  exact⟨U,r1,q2,q3,q4,q5,q6,q7,r2⟩
 ·simp at hp
  subst hp
  obtain⟨r1,r2⟩:=key vo bo O ho (by
   rcases hub:vo.ownBlock with _|g
   ·exact .inl rfl
   ·refine .inr fun h=>?_
    have h3:=hv g h.symm
    have h4:=(jk ho hub).1
    omega)
  exact⟨O,r1.base (Nat.zero_le _),hval,hs,h1,h2,hl,hb,r2⟩

theorem PSt.ok {base F t n b:Nat}{w:World}{v:Value}{l:List (Nat × Value × Nat)}(h:PSt base F t n w v l)(hb:b=2 ^ t*F)(hF:1≤F)(ht:t≤5)(hn:n≤1125899906842624):∀p ∈ l,de w b n p:=by
 intro p hp
 obtain⟨O,q1,q2,q3,q4,q5,q6,q7,_⟩:=h.2 p hp
 have hA:=q1.arg (by omega)
 obtain⟨a,c,e,_,_,_⟩:=hA.form
 have hts:t*p.1≤5*p.1:=Nat.mul_le_mul_right _ ht
 refine⟨a,O,c,e,hA,?_,q4,q5,?_,q6,q7,by omega⟩
 ·rw [q2,hb,Nat.mul_pow,←Nat.pow_mul,←q3,Nat.pow_mul]
 ·rw [q2]
  exact Nat.pos_iff_ne_zero.1 (Nat.pow_pos (by omega))

theorem PSt.at {base F t n b:Nat}{w:World}{v:Value}{l:List (Nat × Value × Nat)}(h:PSt base F t n w v l)(hb:b=2 ^ t*F)(hF:1≤F)(ht:t≤5)(hn:n≤1125899906842624):cE w v l:=by
 refine qb h.1 (fun p hp=>?_)
 obtain⟨a,O,c,e,_,_,_,q,_,_,_,r⟩:=h.ok hb hF ht hn p hp
 exact⟨by omega,by omega,a,_,c,e⟩

theorem PSt.pows {base F t n b:Nat}{w:World}{v:Value}{l:List (Nat × Value × Nat)}(h:PSt base F t n w v l)(hb:b=2 ^ t*F)(hF:1≤F)(ht:t≤5)(hn:n≤1125899906842624):cJ w v b n:=
 ⟨l,h.at hb hF ht hn,h.ok hb hF ht hn⟩

theorem jR {w:World}(l:List Value)(t:TypeId)(j:Nat)(u:Value)(hj:l[j]?=some u):(w.alloc (.cells l.toArray t)).cell? ((⟨w.heap.size,0,none⟩:Addr).add j)=some u:=by
 have e:(⟨w.heap.size,0,none⟩:Addr).add j=⟨w.heap.size,j,none⟩:=by
  unfold Addr.add;split <;> simp_all
 rw [e]
 simp only [World.cell?,heap_alloc_new]
 simpa using hj

theorem pd (b n:Nat)(w:World)(hT:Tab w)(hb:2≤b)(hb2:b≤36)(hn:n≤1125899906842624) :
  Calls Tryz.prog 146 #[.int .i64 b,.int .i64 n] w fun e w'=>(∃v,e=.returned v∧cJ w' v b n)∧Below w.heap.size w w':=by
 obtain⟨t,htl,ht5⟩:=iC b hb hb2
 obtain⟨F,hF⟩:∃F,b / 2 ^ t=F:=⟨_,rfl⟩
 have hbF:b=2 ^ t*F:=by rw [←hF];exact (Nat.mul_div_cancel' (Nat.dvd_of_mod_eq_zero htl.1)).symm
 have hF1:1≤F:=by
  rcases Nat.eq_zero_or_pos F with h|h
  ·rw [h] at hbF;omega
  ·exact h
 have hF2:F≤36:=by rw [←hF];exact Nat.le_trans (Nat.div_le_self _ _) hb2
 have HLN:=fun W=>Tryz.bits_Len (F:Int) W (by omega) (by omega)
 simp only [Int.toNat_natCast] at HLN
 obtain⟨K,hK⟩:∃K,Lib.bitLen F=K:=⟨_,rfl⟩
 have hKF:F<2 ^ K:=by rw [←hK];exact (Lib.bitLenAux_bounds 64 F (by omega) (by omega)).2.2
 have hK6:K≤6:=by rw [←hK];exact Lib.bitLen_le F 6 (by omega) (by omega)
 have hK1:1≤K:=by
  rcases Nat.eq_zero_or_pos K with h|h
  ·rw [h] at hKF;omega
  ·exact h
 rw [hK] at HLN
 obtain⟨i0,hi,hz0,hz1,hz2⟩:=info_parts m6
 have HT:=aa hT
 have HBF:=aa hbF
 have HKF:=aa hKF
 have HTL:=aa htl
 have HLN2:=aa HLN
 have hsh:(b:Int) / 2 ^ t=(F:Int):=by rw [←hF];simp
 have t64:t<64:=by omega
 obtain⟨Q,hQ,hQK⟩:∃Q:Nat,(67108864:Int).tdiv (K:Int)=(Q:Int)∧Q*K≤67108864:=⟨67108864 / K,by rfl,Nat.div_mul_le_self _ _⟩
 have HQK:=aa hQK
 have kz:((K:Int) == 0)=false:=by rw [beq_eq_false_iff_ne];omega
 have hQ67:Q≤67108864:=Nat.le_trans (Nat.le_mul_of_pos_right _ (by omega)) hQK
 clear hbF hKF htl hT hF hK hQK HLN
 go_enter Tryz.func146,Tryz.ntmps146
 go_wp2
 go_loopw [5] (fun i wr=>∃k J:Nat,i=.int .i64 k∧k≤n∧(1≤n→1≤k)∧(n≤k*2 ^ J∧k*2 ^ J<n+2 ^ J∧(J=0∨512<k))∧Below w.heap.size w wr) (fun i _=>(intOf i).toNat)
 case atStart=>exact⟨n,0,rfl,Nat.le_refl _,fun h=>h,⟨by simp,by simp,.inl rfl⟩,Below.refl _ _⟩
 case round=>
  obtain⟨k,J,rfl,hk,hk1,hJ,hbr⟩:=hrel
  by_cases hk10:1024<k
  ·have i1:(1024:Int)<(k:Int):=by omega
   obtain⟨k9,hk9⟩:∃k9:Nat,(k:Int)+1=(k9:Int):=⟨k+1,by omega⟩
   obtain⟨q,hq,hq2⟩:∃q:Nat,((k9:Nat):Int).tdiv 2=(q:Int)∧q=k9 / 2:=⟨k9 / 2,rfl,rfl⟩
   have hql:q<k∧1≤q:=by omega
   have HJ:Hid (n≤q*2 ^ (J+1)∧q*2 ^ (J+1)<n+2 ^ (J+1)∧(J+1=0∨512<q)):=aa (by
    obtain⟨j1,j2,_⟩:=hJ
    have e1:q*2 ^ (J+1)=2*q*2 ^ J:=by rw [Nat.pow_succ,Nat.mul_comm (2 ^ J) 2,←Nat.mul_assoc,Nat.mul_comm q 2]
    have e2:2 ^ (J+1)=2*2 ^ J:=by rw [Nat.pow_succ,Nat.mul_comm]
    have e3:k*2 ^ J≤2*q*2 ^ J:=Nat.mul_le_mul_right _ (by omega)
    have e4:2*q*2 ^ J≤(k+1)*2 ^ J:=Nat.mul_le_mul_right _ (by omega)
    rw [Nat.add_mul,Nat.one_mul] at e4
    rw [e1,e2]
    exact⟨by omega,by omega,.inr (by omega)⟩)
   have HBR:=aa hbr
   have HQ2:=aa hq2
   have HK1:=aa hk1
   clear hbr hk1 hq2 hJ
   go_wp2
   go_roundw
   case rel=>exact⟨q,J+1,rfl,by omega,fun _=>by omega,HJ.out,HBR.out⟩
   case measure=>simp [intOf];omega
  ·have i1:¬(1024:Int)<(k:Int):=by omega
   obtain⟨k4,hk4⟩:∃k4:Nat,(k:Int)+64=(k4:Int):=⟨k+64,by omega⟩
   obtain⟨k3,hk3⟩:∃k3:Nat,(k4:Int) - 1=(k3:Int):=⟨k4 - 1,by omega⟩
   obtain⟨q,hq,hq2⟩:∃q:Nat,((k3:Nat):Int).tdiv 64=(q:Int)∧q=k3 / 64:=⟨k3 / 64,rfl,rfl⟩
   obtain⟨W0,hW0⟩:∃W0:Nat,(q:Int)*64=(W0:Int):=⟨q*64,by omega⟩
   have hqb:q≤16:=by omega
   have hWb:W0≤1024:=by omega
   have hW9:W0≤2000∧(1≤n→64≤W0)∧W0 % 64=0:=by omega
   have T1:=tzb b t wr hb2 HTL.out (HT.out.below hbr)
   have L1:=HLN2.out wr
   obtain⟨mo,hmo,hmo1,hmo2⟩:∃mo:Int,min ((n:Int) - 1) (Q:Int)=mo∧mo≤(n:Int) - 1∧mo≤Q:=⟨_,rfl,by omega,by omega⟩
   have HBR:=aa hbr
   have HW9:=aa hW9
   have HRM:Hid (∀i W,W=W0*2 ^ i→W+1≤n→W+2≤n):=aa (fun i W e h=>p8 hJ.1 hJ.2.1 hJ.2.2 (by omega) (by omega) e h)
   clear hbr hk1 hW9 hq2 hJ
   go_wp2_with fail
   refine T1.mono ?_
   rintro e wn ⟨rfl,hw⟩;rw [hw];clear hw wn T1
   go_wp2_with fail
   refine L1.mono ?_
   rintro e wn ⟨rfl,hw⟩;rw [hw];clear hw wn L1
   go_wp2
   go_loopw [9,10] (fun v i wr=>∃(l:List (Nat × Value × Nat)) (W:Nat) (av:Option Addr) (cv:Nat),v=.slice av l.length cv∧i=.int .i64 W∧PSt w.heap.size F t n wr (.slice av l.length cv) l∧W % 64=0∧(1≤n→64≤W)∧(∃i,W=W0*2 ^ i)∧W≤134217728∧l.length≤W∧(l=[]∨∃l0 d ol s0,l=l0 ++ [(d,ol,s0)]∧W=2*d)∧Below w.heap.size w wr) (fun _ i _=>134217729 - (intOf i).toNat)
   case atStart=>exact⟨[],W0,none,0,rfl,rfl,⟨World.ownsRow_nil _ _ _ _,fun p hp=>by cases hp⟩,HW9.out.2.2,HW9.out.2.1,⟨0,by simp⟩,by have:=HW9.out.1;omega,Nat.zero_le _,.inl rfl,HBR.out⟩
   case round=>
    obtain⟨l,W,av,cv,rfl,rfl,hP,hW64,hW1,⟨pi,hpi⟩,hW2,hlW,hlast,hbr2⟩:=hrel
    have HBR2:=aa hbr2
    clear hbr2 HBR HW9 hk4 hk3 hq hW0
    by_cases hWm:(W:Int)≤mo
    ·have hn1:1≤n:=by omega
     have hW3:=hW1 hn1
     have hWn:W+2≤n:=HRM.out pi W hpi (by omega)
     have HPI:Hid (∀U:Nat,U=W*2→∃i,U=W0*2 ^ i):=aa (fun U hU=>⟨pi+1,by rw [hU,hpi,Nat.pow_succ,Nat.mul_assoc]⟩)
     clear hpi
     have hWQ:W≤Q:=by omega
     have hbl:blen (F ^ W)≤67108864:=by
      have h1:F ^ W<2 ^ (K*W):=by rw [Nat.pow_mul];exact Nat.pow_lt_pow_left HKF.out (by omega)
      have h2:=(blen_le_iff _ _).2 h1
      have h3:K*W≤K*Q:=Nat.mul_le_mul_left _ hWQ
      have h4:=HQK.out
      rw [Nat.mul_comm] at h4
      omega
     obtain⟨m9,hm9⟩:∃m9,W=64*m9:=⟨W / 64,by omega⟩
     obtain⟨s,hs⟩:∃s,64*s=t*W:=⟨t*m9,by rw [hm9,Nat.mul_left_comm]⟩
     clear hm9
     have hsb:t*W≤5*W:=Nat.mul_le_mul_right _ ht5
     obtain⟨TW,hTW,hTW2⟩:∃TW:Nat,(t:Int)*(W:Int)=(TW:Int)∧TW=t*W:=⟨t*W,by simp,rfl⟩
     have hTs:(TW:Int).tdiv 64=(s:Int):=by rw [hTW2,←hs];show ((64*s / 64:Nat):Int)=_;rw [Nat.mul_div_cancel_left _ (by omega)]
     have hTW5:TW≤671088640:=by omega
     obtain⟨W2,hW2i⟩:∃W2:Nat,(W:Int)*2=(W2:Int):=⟨W*2,by omega⟩
     have hs9:s≤671088640:=by omega
     clear hTW2
     rcases hlast with hl0|⟨l0,d,ol,s0,hl0,hd⟩
     ·have hlz:((l.length:Int) == 0)=true:=by rw [hl0];rfl
      clear hl0
      have C1:=cH F wr (by omega)
      go_wp2_with fail
      refine C1.mono ?_
      rintro e w1 ⟨⟨v1,rfl,A1⟩,hb1⟩
      have hl1:(tr [F]).length≤1:=tr_length_le [F]
      have C2:=gV v1 (tr [F]) W w1 (A1.arg (by omega)) ((HT.out.below HBR2.out).below hb1) (by omega) (by omega)
      rw [show val (tr [F])=F by rw [val_tr];simp [val]] at C2
      clear C1 A1
      go_wp2_with fail
      refine C2.mono ?_
      rintro e w2 ⟨hb2,vo,c,O,rfl,AO,hcase⟩
      rcases hcase with ⟨rfl,hvO,hno,_⟩|⟨_,_,hbad⟩
      ·have hbq:=bt5 hb1 hb2
       have hb1s:=hb1.size
       clear C2 hb1 hb2
       have hOl:O.length≤1048576:=dU hno (by rw [hvO];exact hbl)
       obtain⟨ao,co,rfl,_,_,_⟩:=(AO.arg (by omega)).form
       have hPq:=hP.below hbq
       have hPO:=aa hPq.1
       have hQB:w.heap.size≤w2.heap.size:=Nat.le_trans HBR2.out.size hbq.size
       have HST:=aa (fun (v':Value) (w':World) (h1:w'.ownsRow w.heap.size 164 3 v' (l.length+1) (aW l ++ [.int .i64 W,.slice ao O.length co,.int .i64 s])) (h2:(w2.alloc (.cells #[.int .i64 W,.slice ao O.length co,.int .i64 s] 164)).grownBy w' (Value.slice av l.length cv).ownBlock) (h3:v'.ownBlock=(Value.slice av l.length cv).ownBlock∨v'.ownBlock=some (w2.alloc (.cells #[.int .i64 W,.slice ao O.length co,.int .i64 s] 164)).heap.size)=>hPq.step AO (fun g hg=>Nat.lt_of_lt_of_le (fD hP.1 g hg) hb1s) hvO hs (by omega) hWn hOl (by rw [hvO];exact hbl) h1 h2 h3)
       have HLT:=aa (fun g hg=>(fD hP.1 g hg))
       have HBQ:=aa (HBR2.out.trans (hbq.mono HBR2.out.size))
       have HVB:Hid (∀g,(Value.slice av l.length cv).ownBlock=some g→w.heap.size≤g):=aa (iD hP.1)
       clear hP hPq AO hbq hvO hno
       go_wp2_with (at_builtin;refine wpList_append_own_at _ rfl _ _ 160 rfl w.heap.size 164 i0 (.agg #[.int .i64 0,.slice none 0 0,.int .i64 0]) 3 40 Tryz.underlying160 hi hz0 hz1 hz2 rfl (by decide) (.slice av l.length cv) l.length (aW l) rfl (hPO.out.alloc _) ⟨w2.heap.size,0,none⟩ 1 1 [.int .i64 W,.slice ao O.length co,.int .i64 s] rfl rfl (jR [.int .i64 W,.slice ao O.length co,.int .i64 s] 164) (by intro u hu;simp at hu;rcases hu with rfl|rfl|rfl <;> rfl) (by unfold maxLen;omega) (by omega) (by simp;omega) ?_;intro v' w' hown hgrow _ hat)
       have hst:=HST.out v' w' hown hgrow hat
       have HS9:=aa hst
       have HB9:Hid (Below w.heap.size w w'):=aa ((HBQ.out.alloc hQB _).grown hgrow (by simp;omega) HVB.out)
       clear hown hgrow hat hst HST hPO
       go_wp2
       go_roundw
       case rel=>
        obtain⟨a9,c9,he9⟩:∃a9 c9,v'=.slice a9 (l ++ [(W,Value.slice ao O.length co,s)]).length c9:=by
         rcases HS9.out.1.2 with ⟨h1,h2⟩|⟨g,cap,cur,h1,_⟩
         ·exact⟨none,0,by rw [h1,h2]⟩
         ·exact⟨_,_,h1⟩
        subst he9
        exact⟨l ++ [(W,.slice ao O.length co,s)],W2,a9,c9,rfl,rfl,HS9.out,by omega,fun _=>by omega,HPI.out W2 (by omega),by omega,by simp;omega,.inr ⟨l,W,_,s,rfl,by omega⟩,HB9.out⟩
       case measure=>simp [intOf];omega
      ·exact absurd hbad (by omega)
     ·have hlen:l.length=l0.length+1:=by rw [hl0];simp
      have hat:=hP.at HBF.out hF1 ht5 hn
      rcases hat with ⟨_,h0⟩|⟨g,cap,he,hgl,hle,hcm,hrow⟩
      ·rw [h0] at hlen;simp at hlen
      ·cases he
       have hmem:(d,ol,s0) ∈ l:=by rw [hl0];simp
       obtain⟨q1,q2,q3,q4⟩:=hrow l0.length d ol s0 (by rw [hl0];simp)
       obtain⟨O0,AO0,hv0,_,_,_,hO0l,_,_⟩:=hP.2 _ hmem
       obtain⟨a1,c1,hol,_,_,_⟩:=(AO0.arg (by omega)).form
       replace hol:ol=.slice a1 O0.length c1:=hol
       subst hol
       have C2:=jM _ O0 wr (AO0.arg (by omega)) (HT.out.below HBR2.out) (by omega)
       rw [hv0,show F ^ (d,Value.slice a1 O0.length c1,s0).1=F ^ d from rfl,←Nat.pow_add,show d+d=W by omega] at C2
       obtain⟨j,hj,hji⟩:∃j:Nat,j=l0.length∧(l.length:Int) - 1=(j:Int):=⟨l0.length,rfl,by omega⟩
       rw [←hj] at q2
       have hjl:j<l.length:=by omega
       have hlz:((l.length:Int) == 0)=false:=by rw [beq_eq_false_iff_ne];omega
       have hl9:l.length≤9223372036854775807:=by omega
       have HL0:=aa hl0
       clear AO0 hv0 hl0 hmem hrow q1 q3 q4 hj hlen hgl hd
       go_wp2_with fail
       refine C2.mono ?_
       rintro e w2 ⟨hb2,vo,c,O,rfl,AO,hcase⟩
       rcases hcase with ⟨rfl,hvO,hno,_⟩|⟨_,_,hbad⟩
       ·have hbq:=hb2
        clear C2 hb2
        have hOl:O.length≤1048576:=dU hno (by rw [hvO];exact hbl)
        obtain⟨ao,co,rfl,_,_,_⟩:=(AO.arg (by omega)).form
        have hPq:=hP.below hbq
        have hPO:=aa hPq.1
        have hQB:w.heap.size≤w2.heap.size:=Nat.le_trans HBR2.out.size hbq.size
        have HST:=aa (fun (v':Value) (w':World) (h1:w'.ownsRow w.heap.size 164 3 v' (l.length+1) (aW l ++ [.int .i64 W,.slice ao O.length co,.int .i64 s])) (h2:(w2.alloc (.cells #[.int .i64 W,.slice ao O.length co,.int .i64 s] 164)).grownBy w' (Value.slice (some ⟨g,0,none⟩) l.length cv).ownBlock) (h3:v'.ownBlock=(Value.slice (some ⟨g,0,none⟩) l.length cv).ownBlock∨v'.ownBlock=some (w2.alloc (.cells #[.int .i64 W,.slice ao O.length co,.int .i64 s] 164)).heap.size)=>hPq.step AO (fun g hg=>Nat.lt_of_lt_of_le (fD hP.1 g hg) (Nat.le_refl _)) hvO hs (by omega) hWn hOl (by rw [hvO];exact hbl) h1 h2 h3)
        have HLT:=aa (fun g hg=>(fD hP.1 g hg))
        have HBQ:=aa (HBR2.out.trans (hbq.mono HBR2.out.size))
        have HVB:Hid (∀g8,(Value.slice (some ⟨g,0,none⟩) l.length cv).ownBlock=some g8→w.heap.size≤g8):=aa (iD hP.1)
        clear hP hPq AO hbq hvO hno
        go_wp2_with (at_builtin;refine wpList_append_own_at _ rfl _ _ 160 rfl w.heap.size 164 i0 (.agg #[.int .i64 0,.slice none 0 0,.int .i64 0]) 3 40 Tryz.underlying160 hi hz0 hz1 hz2 rfl (by decide) (.slice (some ⟨g,0,none⟩) l.length cv) l.length (aW l) rfl (hPO.out.alloc _) ⟨w2.heap.size,0,none⟩ 1 1 [.int .i64 W,.slice ao O.length co,.int .i64 s] rfl rfl (jR [.int .i64 W,.slice ao O.length co,.int .i64 s] 164) (by intro u hu;simp at hu;rcases hu with rfl|rfl|rfl <;> rfl) (by unfold maxLen;omega) (by omega) (by simp;omega) ?_;intro v' w' hown hgrow _ hat)
        have hst:=HST.out v' w' hown hgrow hat
        have HS9:=aa hst
        have HB9:Hid (Below w.heap.size w w'):=aa ((HBQ.out.alloc hQB _).grown hgrow (by simp;omega) HVB.out)
        clear hown hgrow hat hst HST hPO
        go_wp2
        go_roundw
        case rel=>
         obtain⟨a9,c9,he9⟩:∃a9 c9,v'=.slice a9 (l ++ [(W,Value.slice ao O.length co,s)]).length c9:=by
          rcases HS9.out.1.2 with ⟨h1,h2⟩|⟨g,cap,cur,h1,_⟩
          ·exact⟨none,0,by rw [h1,h2]⟩
          ·exact⟨_,_,h1⟩
         subst he9
         exact⟨l ++ [(W,.slice ao O.length co,s)],W2,a9,c9,rfl,rfl,HS9.out,by omega,fun _=>by omega,HPI.out W2 (by omega),by omega,by simp;omega,.inr ⟨l,W,_,s,rfl,by omega⟩,HB9.out⟩
        case measure=>simp [intOf];omega
       ·exact absurd hbad (by omega)
    ·have HP9:=aa (hP.pows HBF.out hF1 ht5 hn)
     clear hP hlast hpi
     go_wp2
     go_ret
     exact⟨⟨_,rfl,HP9.out⟩,HBR2.out⟩

theorem cX {w w':World}{g:Nat}{v:Value}(hb:Below w.heap.size w w')(h:w.cell? ⟨g,0,none⟩=some v):w'.cell? ⟨g,0,none⟩=some v:=by
 rw [hb.cell (p:=⟨g,0,none⟩) ?_]
 ·exact h
 ·rcases Nat.lt_or_ge g w.heap.size with h' | h'
  ·exact h'
  ·simp [World.cell?,Array.getElem?_eq_none h'] at h

theorem cI {w w':World}{gd:Nat}{D:List Nat}(hB:Byt w gd D)(hf:Fr gd w w'){b k:Nat}{u:Value}(h:w.cell? ⟨b,k,none⟩=some u)(hu:∀z,u≠.int .u8 z):w'.cell? ⟨b,k,none⟩=some u:=by
 have hbl:b<w.heap.size:=by
  rcases Nat.lt_or_ge b w.heap.size with h' | h'
  ·exact h'
  ·simp [World.cell?,Array.getElem?_eq_none h'] at h
 by_cases hb:b=gd
 ·subst hb
  exfalso
  have hh:w.heap[b]?=some (.cells (D.map bv).toArray 5 (0,0)):=hB
  simp only [World.cell?,hh] at h
  simp only [List.getElem?_toArray,List.getElem?_map] at h
  obtain⟨z,_,rfl⟩:=Option.map_eq_some_iff.1 h
  exact hu _ rfl
 ·rw [World.cell?_of_block (a:=⟨b,k,none⟩) (hf.block b hbl hb)];exact h

theorem Arg.fr5 {w w':World}{gd:Nat}{D X:List Nat}{v:Value}(h:Arg w v X)(hB:Byt w gd D)(hf:Fr gd w w'):Arg w' v X:=by
 obtain⟨ao,cap,h1,h2,h3,h4⟩:=h.form
 refine⟨⟨ao,cap,h1,h2,h3,?_⟩,h.limbs,h.few,h.nz⟩
 rcases h4 with h4|⟨b,off,rfl,hc⟩
 ·exact .inl h4
 ·exact .inr ⟨b,off,rfl,fun k hk=>cI hB hf (hc k hk) (fun z e=>by cases e)⟩

theorem de.fr5 {w w':World}{gd b n:Nat}{D:List Nat}{p:Nat × Value × Nat}(h:de w b n p)(hB:Byt w gd D)(hf:Fr gd w w'):de w' b n p:=by
 obtain⟨a,O,c,h1,h2,h3⟩:=h
 exact⟨a,O,c,h1,h2.fr5 hB hf,h3⟩

theorem cE.fr5 {w w':World}{gd:Nat}{D:List Nat}{v:Value}{l:List (Nat × Value × Nat)}(h:cE w v l)(hB:Byt w gd D)(hf:Fr gd w w'):cE w' v l:=by
 rcases h with h|⟨g,cap,h1,h2,h3,h4,h5⟩
 ·exact .inl h
 ·refine .inr ⟨g,cap,h1,Nat.lt_of_lt_of_le h2 hf.size,h3,h4,fun i d o s hi=>?_⟩
  obtain⟨q1,q2,q3,q4,q5,a,n',c,rfl⟩:=h5 i d o s hi
  exact⟨cI hB hf q1 (fun z e=>by cases e),cI hB hf q2 (fun z e=>by cases e),cI hB hf q3 (fun z e=>by cases e),q4,q5,a,n',c,rfl⟩

theorem cJ.fr5 {w w':World}{gd b n:Nat}{D:List Nat}{v:Value}(h:cJ w v b n)(hB:Byt w gd D)(hf:Fr gd w w'):cJ w' v b n:=by
 obtain⟨l,h1,h2⟩:=h
 exact⟨l,h1.fr5 hB hf,fun p hp=>(h2 p hp).fr5 hB hf⟩

theorem Tab.fr5 {w w':World}{gd:Nat}(h:Tab w)(hf:Fr gd w w')(hne:0≠gd):Tab w':=
 ⟨Nat.lt_of_lt_of_le h.1 hf.size,fun i hi=>by rw [World.cell?_of_block (a:=⟨0,i,none⟩) (hf.block _ h.1 hne)];exact h.2 i hi⟩

theorem bH.both {b x o h d n:Nat}{D D1 D2:List Nat}(hn:n=h+d)(h1:bH b (x / b ^ d) o h 0 D D1)(h2:bH b (x % b ^ d) (o+h) d 0 D1 D2):bH b x o n 0 D D2:=by
 refine⟨h2.len.trans h1.len,fun i _ hi=>?_,fun k hk=>?_⟩
 ·by_cases hih:i<h
  ·rw [h2.same (o+i) (.inl (by omega)),h1.digs i (Nat.zero_le _) hih,Nat.div_div_eq_div_mul,←Nat.pow_add,show d+(h - 1 - i)=n - 1 - i by omega]
  ·obtain⟨j,rfl⟩:∃j,i=h+j:=⟨i - h,by omega⟩
   rw [←Nat.add_assoc,h2.digs j (Nat.zero_le _) (by omega)]
   have e:=iT x b 0 d (d - 1 - j) (by omega)
   rw [Nat.zero_mul,Nat.pow_zero,Nat.div_one,Nat.zero_add] at e
   rw [e,show d - 1 - j=n - 1 - (h+j) by omega]
 ·rw [h2.same k (by omega),h1.same k (by omega)]

theorem gm (gl gb gw gd b N:Nat)(vl:Value)(hb:2≤b)(hb2:b≤36)(hNB:b ^ (N - 1)<18446744073709551616 ^ 1048576)(htab:0≠gd):∀(M n o cap:Nat) (D:List Nat) (va:Value) (X:List Nat) (w:World),n<M →
  Byt w gd D→o+n≤D.length→n≤cap→cap≤9223372036854775807→n≤N→Arg w va X→X.length≤1048576→((∃b' off c,va=.slice (some ⟨b',off,none⟩) X.length c)∨n≤1)→Tab w →
  w.cell? ⟨gl,0,none⟩=some vl→w.cell? ⟨gb,0,none⟩=some (.int .i64 b)→w.cell? ⟨gw,0,none⟩=some (.func (.func 147) #[] #[.pointer (some ⟨gl,0,none⟩),.pointer (some ⟨gb,0,none⟩),.pointer (some ⟨gw,0,none⟩)])→(∀z,vl≠.int .u8 z)→cJ w vl b N →
  Calls Tryz.prog 147 #[.slice (some ⟨gd,o,none⟩) n cap,va,.pointer (some ⟨gl,0,none⟩),.pointer (some ⟨gb,0,none⟩),.pointer (some ⟨gw,0,none⟩)] w (jn b (val X) o n gd D w)
 | 0,n,o,cap,D,va,X,w,h,_,_,_,_,_,_,_,_,_,_,_,_,_,_=>absurd h (Nat.not_lt_zero n)
 | M+1,n,o,cap,D,va,X,w,hM,hD,ho,hnc,hcm,hnN,hA,hXl,hpl,hT,cl,cb,cw,hvl,hP=>by
  have HPP:=aa hP
  obtain⟨l,hPA,hPO⟩:=hP
  have C:=pv vl n l w hPA
  have HD:=aa hD
  have HA:=aa hA
  have HT:=aa hT
  have HPA:=aa hPA
  have HPO:=aa hPO
  clear hD hA hT hPA hPO
  go_enter Tryz.func147,Tryz.ntmps147
  go_wp2_with fail
  refine C.mono ?_
  rintro e w1 ⟨hcase,hb1⟩
  rcases hcase with ⟨i,d,ov,s,hli,hdn,_,he⟩|⟨_,he⟩
  ·obtain⟨a1,O,c1,hov,hAO,hpw,hd1,hdN,hO0,hOl,hOb,hs9⟩:=HPO.out _ (List.mem_of_getElem? hli)
   replace hov:ov=.slice a1 O.length c1:=hov
   replace hAO:Arg w ov O:=hAO
   replace hpw:18446744073709551616 ^ s*val O=b ^ d:=hpw
   replace hd1:1≤d:=Nat.le_of_succ_le hd1
   replace hdN:d<N:=Nat.lt_of_lt_of_le (Nat.lt_add_of_pos_right (by omega)) hdN
   replace hs9:s≤1125899906842624:=hs9
   subst hov
   subst he
   obtain⟨b',off,c,rfl⟩:∃b' off c,va=.slice (some ⟨b',off,none⟩) X.length c:=by
    rcases hpl with h|h
    ·exact h
    ·omega
   have hpB:18446744073709551616 ^ s*val O<18446744073709551616 ^ 1048576:=by
    rw [hpw]
    exact Nat.lt_of_le_of_lt (Nat.pow_le_pow_right (by omega) (by omega)) hNB
   have hs1:s≤1048576:=by
    have h1:18446744073709551616 ^ s≤18446744073709551616 ^ s*val O:=Nat.le_mul_of_pos_right _ (by omega)
    exact Nat.le_of_lt ((Nat.pow_lt_pow_iff_right (by omega)).1 (Nat.lt_of_le_of_lt h1 hpB))
   obtain⟨w2,hw2⟩:∃W,w1.alloc (.cells #[.int .i64 d,.slice a1 O.length c1,.int .i64 s] 164)=W:=⟨_,rfl⟩
   have hb2':Below w1.heap.size w1 w2:=by rw [←hw2];exact aL _ _
   have hx2:w2.heap[w1.heap.size]?=some (.cells #[.int .i64 d,.slice a1 O.length c1,.int .i64 s] 164):=by rw [←hw2];exact heap_alloc_new ..
   have hB2:=bt5 hb1 hb2'
   obtain⟨k0,k1,k2⟩:=tri hx2
   have C2:=nX d s a1 c1 b' off c O X w2 (hAO.below hB2) (HA.out.below hB2) (HT.out.below hB2) hXl hO0 (by omega) hOb hs1 hpB
   rw [hpw] at C2
   have HX2:=aa hx2
   have HB2:=aa hB2
   clear C hb1 hb2' hx2 hB2 hAO hpw hpB hO0 hOb hs9 HPO HPA hli
   go_wp2_with fail
   refine C2.mono ?_
   rintro e w3 ⟨⟨g1,n1,e1,g2,n2,e2,H,Lw,hgg,rfl,AH,AL,hvH,hvL,hHl,hLl⟩,hb3⟩
   obtain⟨h,hh,hhi⟩:∃h:Nat,n=h+d∧(n:Int) - (d:Int)=(h:Int):=⟨n - d,by omega,by omega⟩
   have hB3:=bt5 HB2.out hb3
   have hc3:=(hb3.block w1.heap.size (lt_of_block HX2.out)).trans HX2.out
   obtain⟨j0,j1,j2⟩:=tri hc3
   have hn1:n1=H.length:=by obtain⟨_,_,e,_⟩:=AH.form;cases e;rfl
   have hn2:n2=Lw.length:=by obtain⟨_,_,e,_⟩:=AL.form;cases e;rfl
   subst hn1
   subst hn2
   have g3:Below w.heap.size w w3.drew:=hB3.drew
   have hD3:Byt w3.drew gd D:=HD.out.below g3 HD.out.lt
   have hwl:w.heap.size≤w3.heap.size:=hB3.size
   have cw3:w3.drew.cell? ⟨gw,0,none⟩=some (.func (.func 147) #[] #[.pointer (some ⟨gl,0,none⟩),.pointer (some ⟨gb,0,none⟩),.pointer (some ⟨gw,0,none⟩)]):=cX g3 cw
   have I1:=gm gl gb gw gd b N vl hb hb2 hNB htab M h o cap D _ H w3.drew (by omega) hD3 (by omega) (by omega) hcm (by omega) (AH.below (Below.refl _ _).drew) (by omega) (.inl ⟨_,_,_,rfl⟩) (HT.out.below g3) (cX g3 cl) (cX g3 cb) cw3 hvl (HPP.out.below g3)
   have hcap0:¬cap=h:=by omega
   have hhn:h≤n:=by omega
   have hhc:h≤cap:=by omega
   have hnh:n - h=d:=by omega
   have HAL:=aa AL
   have HVV:=aa (And.intro hvH hvL)
   have HD3:=aa hD3
   have HG3:=aa g3
   have HHD:=aa hh
   clear C2 hb3 hB3 hc3 AH AL hvH hvL hD3 g3 HB2 HX2 k0 k1 k2 hh
   go_upto_region 5 with fail
   go_region_held3 (fun w'=>w'.cell? ⟨gw,0,none⟩=some (.func (.func 147) #[] #[.pointer (some ⟨gl,0,none⟩),.pointer (some ⟨gb,0,none⟩),.pointer (some ⟨gw,0,none⟩)])) (first|with_reducible exact cw4|with_reducible exact cw3) (first
    | (go_at_call 147;refine I1.mono ?_;rintro e' w4 ⟨rfl,D1,hD1,hW1,hF1⟩;have cw4:=cI HD3.out hF1 cw3 (fun z e=>by cases e)))
   have F4:Fr gd w3.drew w4.drew:=hF1.drew
   have hD4:Byt w4.drew gd D1:=hD1.below (B:=gd+1) ((Below.refl (gd+1) w4).drew) (by omega)
   have cw5:w4.drew.cell? ⟨gw,0,none⟩=some (.func (.func 147) #[] #[.pointer (some ⟨gl,0,none⟩),.pointer (some ⟨gb,0,none⟩),.pointer (some ⟨gw,0,none⟩)]):=cI HD3.out F4 cw3 (fun z e=>by cases e)
   have I2:=gm gl gb gw gd b N vl hb hb2 hNB htab M d (o+h) (cap - h) D1 _ Lw w4.drew (by omega) hD4 (by rw [hW1.len];omega) (by omega) (by omega) (by omega) ((HAL.out.below (Below.refl _ _).drew).fr5 HD3.out F4) hLl (.inl ⟨_,_,_,rfl⟩) ((HT.out.below HG3.out).fr5 F4 htab) (cI HD3.out F4 (cX HG3.out cl) hvl) (cI HD3.out F4 (cX HG3.out cb) (fun z e=>by cases e)) cw5 hvl ((HPP.out.below HG3.out).fr5 HD3.out F4)
   have HD4:=aa hD4
   have HW1:=aa hW1
   have HF4:=aa F4
   clear I1 hF1 hD1 hW1 hD4 F4 cw3 cw4
   go_upto_region 6 with fail
   go_region_held3 (fun w'=>w'.cell? ⟨gw,0,none⟩=some (.func (.func 147) #[] #[.pointer (some ⟨gl,0,none⟩),.pointer (some ⟨gb,0,none⟩),.pointer (some ⟨gw,0,none⟩)])) (first|with_reducible exact cw6|with_reducible exact cw5) (first
    | (go_at_call 147;refine I2.mono ?_;rintro e' w5 ⟨rfl,D2,hD2,hW2,hF2⟩;have cw6:=cI HD4.out hF2 cw5 (fun z e=>by cases e)))
   have hfin:bH b (val X) o n 0 D D2:=by
    have q1:=HW1.out
    rw [HVV.out.1] at q1
    rw [HVV.out.2] at hW2
    exact bH.both HHD.out q1 hW2
   have HF:=aa (And.intro hD2 (And.intro hfin ((Fr.of_below (bz:=gd) HG3.out).trans (HF4.out.trans hF2))))
   clear I2 hD2 hW2 hF2 hfin cw5 cw6
   go_wp2
   go_end0
   exact⟨rfl,D2,HF.out⟩
  ·obtain⟨x0,a0,n0,c0,y0,rfl,_⟩:∃(x0:Int) (a0:Option Addr) (n0 c0:Nat) (y0:Int),e=.returned (.tuple #[.agg #[.int .i64 x0,.slice a0 n0 c0,.int .i64 y0],.bool false])∧True:=⟨0,none,0,0,0,he,trivial⟩
   clear he
   obtain⟨w2,hw2⟩:∃W,w1.alloc (.cells #[.int .i64 x0,.slice a0 n0 c0,.int .i64 y0] 164)=W:=⟨_,rfl⟩
   have hb2':Below w1.heap.size w1 w2:=by rw [←hw2];exact aL _ _
   have hB2:=bt5 hb1 hb2'
   have cb2:=cX hB2 cb
   have C2:=nN gd o n cap b D va X w2 (HD.out.below hB2 HD.out.lt) ho hnc hcm (HA.out.below hB2) (by omega) hb hb2
   have HB2:=aa hB2
   clear C hb1 hb2' hB2 HPO HPA
   go_wp2_with fail
   refine C2.mono ?_
   rintro e w3 ⟨rfl,D',hD',hW',hF'⟩
   have HF:=aa (And.intro hD' (And.intro hW' ((Fr.of_below (bz:=gd) HB2.out).trans hF')))
   clear C2 hD' hW' hF'
   go_wp2
   go_end0
   exact⟨rfl,D',HF.out⟩

theorem i9 {b n:Nat}(hb2:b≤36)(hn:1≤n):blen (b ^ n)≤6*n:=by
 have h1:b ^ n<2 ^ (6*n):=by rw [Nat.pow_mul];exact Nat.pow_lt_pow_left (by omega) (by omega)
 exact (blen_le_iff _ _).2 h1

theorem qn {b n m x:Nat}(hb:0<b)(hm:m≤n):(b ^ (n - m)≤x / b ^ m) ↔ b ^ n≤x:=by
 rw [Nat.le_div_iff_mul_le (Nat.pow_pos hb),←Nat.pow_add,Nat.sub_add_cancel hm]

theorem rQ (va:Value)(X:List Nat)(b n:Nat)(w:World)(hA:Arg w va X)(hT:Tab w)(hl:X.length≤1048576)(hb:2≤b)(hb2:b≤36)(hn:n≤1125899906842624) :
  Calls Tryz.prog 199 #[va,.int .u64 b,.int .i64 n] w fun e w'=>e=.returned (.bool (decide (b ^ n≤val X)))∧Below w.heap.size w w':=by
 obtain⟨r,hr⟩:∃r,decide (b ^ n≤val X)=r:=⟨_,rfl⟩
 rw [hr]
 have HA:=aa hA
 have HT:=aa hT
 have HR:=aa hr
 clear hA hT hr
 go_enter Tryz.func199,Tryz.ntmps199
 go_wp2
 go_loopw [0,2] (fun v i wr=>∃(va':Value) (X':List Nat) (n':Nat),v=va'∧i=.int .i64 n'∧Arg wr va' X'∧X'.length≤1048576∧n'≤n∧decide (b ^ n'≤val X')=r∧Below w.heap.size w wr) (fun _ i _=>(intOf i).toNat)
 case atStart=>exact⟨va,X,n,rfl,rfl,HA.out,hl,Nat.le_refl _,HR.out,Below.refl _ _⟩
 case round=>
  obtain⟨va',X',n',rfl,rfl,hA',hl',hn',hr',hbr⟩:=hrel
  have C1:=cH b wr (by omega)
  have hl1:(tr [b]).length≤1:=tr_length_le [b]
  have hvb:val (tr [b])=b:=by rw [val_tr];simp [val]
  have HA':=aa hA'
  have HR':=aa hr'
  have HBR:=aa hbr
  have HVB:=aa hvb
  clear HA hA' hr' hbr hvb
  go_wp2_with fail
  refine C1.mono ?_
  rintro e w1 ⟨⟨v1,rfl,A1⟩,hb1⟩
  have hB1:=bt5 HBR.out hb1
  have C2:=gV v1 (tr [b]) n' w1 (A1.arg (by omega)) (HT.out.below hB1) (by omega) (by omega)
  rw [HVB.out] at C2
  have HB1:=aa hb1
  clear C1 A1 hb1 hB1
  go_wp2_with fail
  refine C2.mono ?_
  rintro e w2 ⟨hb2',vo,c,O,rfl,AO,hcase⟩
  have hB2:=bt5 HB1.out hb2'
  rcases hcase with ⟨rfl,hvO,hno,hbl⟩|⟨rfl,_,hbig⟩
  ·have hOl:O.length≤1048576:=dU hno (by rw [hvO];exact hbl)
   have C3:=b7 _ _ X' O w2 (HA'.out.below hB2) (AO.arg (by omega))
   rw [hvO] at C3
   obtain⟨cc,hcc,hcd⟩:∃cc:Int,cmpN (val X') (b ^ n')=cc∧decide (0≤cc)=r:=by
    refine⟨_,rfl,?_⟩
    rw [←HR'.out]
    apply decide_eq_decide.2
    unfold cmpN
    split
    ·omega
    ·split <;> omega
   rw [hcc] at C3
   have HB2:=aa (bt5 HBR.out hB2)
   clear C2 hb2' hB2 AO hvO hno hbl hcc HB1 HR'
   go_wp2_with fail
   refine C3.mono ?_
   rintro e w3 ⟨rfl,hs3⟩
   have HB3:=aa (bt5 HB2.out (hs3.below _))
   clear C3 hs3
   go_wp2
   go_ret
   exact⟨rfl,HB3.out⟩
  ·have hn8:11184810<n':=by
    rcases Nat.eq_zero_or_pos n' with h|h
    ·subst h
     have h1:blen (b ^ 0)≤64:=(blen_le_iff _ 64).2 (by simp)
     omega
    ·have:=i9 (n:=n') hb2 h;omega
   have C3:=cH b w2 (by omega)
   have HB2:=aa hB2
   clear C2 hb2' hB2 AO hbig HB1
   go_wp2_with fail
   refine C3.mono ?_
   rintro e w3 ⟨⟨v3,rfl,A3⟩,hb3⟩
   have hB3:=bt5 HB2.out hb3
   obtain⟨m8,hm8,hm9⟩:∃m8:Nat,m8=8388608∧(m8:Int)=8388608:=⟨_,rfl,rfl⟩
   have C4:Calls Tryz.prog 182 #[v3,.int .i64 8388608] w3 fun e w'=>Below w3.heap.size w3 w'∧Res w' w3.heap.size e (b ^ m8):=by
    have h:=gV v3 (tr [b]) m8 w3 (A3.arg (by omega)) (HT.out.below (bt5 HBR.out hB3)) (by omega) (by omega)
    rw [HVB.out,hm9] at h
    exact h
   have hbs:blen (b ^ m8)≤67108864:=by have:=i9 (n:=m8) hb2 (by omega);omega
   have HM8:=aa (And.intro hm8 hbs)
   have HB3:=aa hB3
   clear C3 A3 hb3 hB3 HB2 hm8 hm9 hbs
   go_wp2_with fail
   refine C4.mono ?_
   rintro e w4 ⟨hb4,v4,c4,O4,rfl,A4,hcase⟩
   have hB4:=bt5 HB3.out hb4
   rcases hcase with ⟨rfl,hv4,hn4,hbl4⟩|⟨_,_,hbad⟩
   ·have hO4:O4.length≤1048576:=dU hn4 (by rw [hv4];exact hbl4)
    have hp4:val O4≠0:=by rw [hv4];exact Nat.pos_iff_ne_zero.1 (Nat.pow_pos (by omega))
    have C5:=jU _ v4 X' O4 w4 (HA'.out.below hB4) (A4.arg (by omega)) (HT.out.below (bt5 HBR.out hB4)) hl' hp4 (by omega) (by rw [hv4];exact hbl4)
    rw [hv4] at C5
    have HB4:=aa (bt5 HBR.out hB4)
    clear C4 hb4 A4 hv4 hn4 hbl4 hB4 HB3 hp4
    obtain⟨n9,hn9⟩:∃n9:Nat,(n':Int) - 8388608=(n9:Int):=⟨n' - 8388608,by omega⟩
    go_wp2_with fail
    refine C5.mono ?_
    rintro e w5 ⟨⟨vr,Q,R,rfl,AQ,_,hvQ,_,hlQ,_⟩,hb5⟩
    have HQ:Hid (decide (b ^ n9≤val Q)=r):=aa (by
     rw [←HR'.out,hvQ]
     apply decide_eq_decide.2
     have h:=qn (b:=b) (n:=n') (m:=m8) (x:=val X') (by omega) (by have:=HM8.out.1;omega)
     rw [show n' - m8=n9 by have:=HM8.out.1;omega] at h
     exact h)
    have HAQ:=aa AQ
    have HLQ:=aa hlQ
    have HB5:=aa (bt5 HB4.out hb5)
    clear C5 AQ hvQ hlQ hb5 HB4 HR' HM8
    go_wp2
    go_roundw
    case rel=>exact⟨_,Q,n9,rfl,rfl,HAQ.out,by have:=HLQ.out;omega,by omega,HQ.out,HB5.out⟩
    case measure=>simp [intOf];omega
   ·exact absurd hbad (by have:=HM8.out.2;omega)

theorem b9 {w:World}{g:Nat}{u:Value}{t:TypeId}(h:w.heap[g]?=some (.cells #[u] t)):w.cell? ⟨g,0,none⟩=some u:=by simp [World.cell?,h]

theorem ml (ga gb gn:Nat)(va:Value)(X:List Nat)(b n:Nat)(w:World)(ca:w.cell? ⟨ga,0,none⟩=some va)(cb:w.cell? ⟨gb,0,none⟩=some (.int .u64 b))(cn:w.cell? ⟨gn,0,none⟩=some (.int .i64 n))(hA:Arg w va X)(hT:Tab w)(hl:X.length≤1048576)(hb:2≤b)(hb2:b≤36)(hn:n≤1125899906842624) :
  Calls Tryz.prog 198 #[.pointer (some ⟨ga,0,none⟩),.pointer (some ⟨gb,0,none⟩),.pointer (some ⟨gn,0,none⟩)] w fun e w'=>e=.returned (.bool (decide (b ^ n≤val X)))∧Below w.heap.size w w':=by
 have C:=rQ va X b n w hA hT hl hb hb2 hn
 obtain⟨ao,cap,rfl,_,_,_⟩:=hA.form
 generalize decide (b ^ n≤val X)=r at *
 clear hA hT
 go_enter Tryz.func198,Tryz.ntmps198
 go_wp2_with fail
 refine C.mono ?_
 rintro e w1 ⟨rfl,hb1⟩
 have HB:=aa hb1
 clear C hb1
 go_wp2
 go_ret
 exact⟨rfl,HB.out⟩

theorem ei {w:World}{h:Nat}{a b a' b':Value}{t:TypeId}(e:w.heap[h]?=some (.cells #[a,b] t)):((w.setCell ⟨h,0,none⟩ a').setCell ⟨h,1,none⟩ b').heap[h]?=some (.cells #[a',b'] t):=
 eD (eD e a') b'

theorem dc {w:World}{h g o:Nat}{x:Obj}{v:Value}(e:w.heap[h]?=some x)(hne:h≠g):(w.setCell ⟨g,o,none⟩ v).heap[h]?=some x:=by
 rw [Below.heap_setCell _ _ _ _ hne];exact e

theorem dM {B:Nat}{w0 w:World}{g:Nat}{u0 u1:Value}(h:Below B w0 w)(hg:B≤g):Below B w0 ((w.setCell ⟨g,0,none⟩ u0).setCell ⟨g,1,none⟩ u1):=
 (h.setCell (p:=⟨g,0,none⟩) hg u0).setCell (p:=⟨g,1,none⟩) hg u1

structure Nr (V m f c:Nat):Prop where
 low:9223372036854775808≤m
 high:m<18446744073709551616
 below:m*2 ^ f≤V*9223372036854775808
 cuts:V*9223372036854775808*9223372036854775807 ^ c≤m*2 ^ f*9223372036854775808 ^ c

theorem Nr.ge {V m f c:Nat}(h:Nr V m f c):2 ^ f≤V:=by
 have h1:=Nat.mul_le_mul_right (2 ^ f) h.low
 have h2:=h.below
 omega

def bK (P:Nat):Nat:=if P<170141183460469231731687303715884105728 then P / 9223372036854775808 else P / 18446744073709551616

def bO (P:Nat):Nat:=if P<170141183460469231731687303715884105728 then 0 else 1

theorem oO {m1 m2:Nat}(h1:9223372036854775808≤m1)(h1':m1<18446744073709551616)(h2:9223372036854775808≤m2)(h2':m2<18446744073709551616) :
  9223372036854775808≤bK (m1*m2)∧bK (m1*m2)<18446744073709551616∧bK (m1*m2)*2 ^ bO (m1*m2)*9223372036854775808≤m1*m2∧m1*m2*9223372036854775807≤bK (m1*m2)*2 ^ bO (m1*m2)*9223372036854775808*9223372036854775808:=by
 have a1:9223372036854775808*9223372036854775808≤m1*m2:=Nat.mul_le_mul h1 h2
 have a2:m1*m2<18446744073709551616*18446744073709551616:=Nat.mul_lt_mul_of_lt_of_lt h1' h2'
 generalize m1*m2=P at *
 unfold bK bO
 split
 ·rename_i h
  simp only [Nat.pow_zero,Nat.mul_one]
  omega
 ·rename_i h
  simp only [Nat.pow_one]
  omega

theorem rm (K m T F1 F2 m1 m2 V1 V2:Nat)(hK:0<K)(t3:m*T*K≤m1*m2)(b1:m1*F1*(m2*F2)≤V1*K*(V2*K)):m*(F1*F2*T)≤V1*V2*K:=by
 refine Nat.le_of_mul_le_mul_right (c:=K) ?_ hK
 have h1:=Nat.mul_le_mul_right (F1*F2) t3
 have e1:m*T*K*(F1*F2)=m*(F1*F2*T)*K:=by ac_rfl
 have e2:m1*m2*(F1*F2)=m1*F1*(m2*F2):=by ac_rfl
 have e3:V1*K*(V2*K)=V1*V2*K*K:=by ac_rfl
 omega

theorem qr (K k m T F1 F2 m1 m2 V1 V2 k1 k2 K1 K2:Nat)(hK:0<K)(t4:m1*m2*k≤m*T*K*K)(b2:V1*K*k1*(V2*K*k2)≤m1*F1*K1*(m2*F2*K2)):V1*V2*K*(k1*k2*k)≤m*(F1*F2*T)*(K1*K2*K):=by
 refine Nat.le_of_mul_le_mul_right (c:=K) ?_ hK
 have h1:=Nat.mul_le_mul_right k b2
 have h2:=Nat.mul_le_mul_right (F1*F2*(K1*K2)) t4
 have e1:V1*V2*K*(k1*k2*k)*K=V1*K*k1*(V2*K*k2)*k:=by ac_rfl
 have e2:m1*F1*K1*(m2*F2*K2)*k=m1*m2*k*(F1*F2*(K1*K2)):=by ac_rfl
 have e3:m*T*K*K*(F1*F2*(K1*K2))=m*(F1*F2*T)*(K1*K2*K)*K:=by ac_rfl
 omega

theorem Nr.times {V1 m1 f1 c1 V2 m2 f2 c2:Nat}(h1:Nr V1 m1 f1 c1)(h2:Nr V2 m2 f2 c2):Nr (V1*V2) (bK (m1*m2)) (f1+f2+bO (m1*m2)) (c1+c2+1):=by
 obtain⟨t1,t2,t3,t4⟩:=oO h1.low h1.high h2.low h2.high
 have b1:=Nat.mul_le_mul h1.below h2.below
 have b2:=Nat.mul_le_mul h1.cuts h2.cuts
 generalize bK (m1*m2)=m at *
 obtain⟨T,hT⟩:∃T,2 ^ bO (m1*m2)=T:=⟨_,rfl⟩
 rw [hT] at t3 t4
 refine⟨t1,t2,?_,?_⟩
 ·rw [Nat.pow_add,Nat.pow_add,hT]
  exact rm _ _ _ _ _ _ _ _ _ (by omega) t3 b1
 ·rw [Nat.pow_add 2,Nat.pow_add 2,Nat.pow_add,Nat.pow_add,Nat.pow_add,Nat.pow_add,Nat.pow_one,Nat.pow_one,hT]
  exact qr _ _ _ _ _ _ _ _ _ _ _ _ _ _ (by omega) t4 b2

theorem Nr.one_times {V m f c:Nat}(h:Nr V m f c):bK (9223372036854775808*m)=m∧bO (9223372036854775808*m)=0:=by
 have h1:=h.low
 have h2:=h.high
 unfold bK bO
 rw [if_pos (by omega),if_pos (by omega)]
 omega

theorem Nr.exact (v s:Nat)(h1:9223372036854775808≤v*2 ^ s)(h2:v*2 ^ s<18446744073709551616)(hs:s≤63):Nr v (v*2 ^ s) (63 - s) 0:=by
 have e:v*2 ^ s*2 ^ (63 - s)=v*9223372036854775808:=by
  rw [Nat.mul_assoc,←Nat.pow_add,show s+(63 - s)=63 by omega]
 exact⟨h1,h2,by rw [e];exact Nat.le_refl _,by rw [e];exact Nat.le_refl _⟩

theorem oJ (K c:Nat)(hK:1≤K):K ^ c*K≤(K - 1) ^ c*K+c*K ^ c:=by
 obtain⟨k,rfl⟩:∃k,K=k+1:=⟨K - 1,by omega⟩
 rw [Nat.add_sub_cancel]
 induction c with
 | zero=>simp
 | succ c ih=>
  have hle:k ^ c≤(k+1) ^ c:=Nat.pow_le_pow_left (by omega) c
  have h1:=Nat.mul_le_mul_right k ih
  rw [Nat.pow_succ,Nat.pow_succ]
  generalize (k+1) ^ c=A at *
  generalize k ^ c=B at *
  have e1:A*(k+1)*(k+1)=A*(k+1)*k+A*(k+1):=by rw [Nat.mul_add,Nat.mul_one]
  have e2:(B*(k+1)+c*A)*k=B*k*(k+1)+c*(A*k):=by rw [Nat.add_mul];ac_rfl
  have e3:(c+1)*(A*(k+1))=c*(A*k)+c*A+A*(k+1):=by rw [Nat.add_mul,Nat.one_mul,Nat.mul_add,Nat.mul_one,Nat.mul_add]
  omega

theorem Nr.above {V m f c:Nat}(h:Nr V m f c)(hc:c≤1152921504606846976):V*9223372036854775808≤(m+4*c)*2 ^ f:=by
 have h1:=h.cuts
 have h2:=oJ 9223372036854775808 c (by omega)
 rw [show 9223372036854775808 - 1=9223372036854775807 from rfl] at h2
 have hp:0<9223372036854775808 ^ c:=Nat.pow_pos (by omega)
 have hm:=h.high
 generalize (9223372036854775808:Nat) ^ c=A at *
 generalize (9223372036854775807:Nat) ^ c=B at *
 generalize 2 ^ f=F at *
 have h3:V*9223372036854775808*(9223372036854775808 - c)*A≤m*F*9223372036854775808*A:=by
  have h4:=Nat.mul_le_mul_left (V*9223372036854775808) h2
  have h5:=Nat.mul_le_mul_right 9223372036854775808 h1
  have e1:V*9223372036854775808*(A*9223372036854775808)=V*9223372036854775808*(9223372036854775808 - c)*A+V*9223372036854775808*(c*A):=by
   rw [Nat.mul_assoc _ (9223372036854775808 - c),←Nat.mul_add,←Nat.add_mul,Nat.sub_add_cancel (by omega),Nat.mul_comm A]
  have e2:V*9223372036854775808*(B*9223372036854775808+c*A)=V*9223372036854775808*B*9223372036854775808+V*9223372036854775808*(c*A):=by rw [Nat.mul_add,Nat.mul_assoc _ B]
  have e3:m*F*A*9223372036854775808=m*F*9223372036854775808*A:=by ac_rfl
  omega
 have h6:=Nat.le_of_mul_le_mul_right h3 hp
 refine Nat.le_of_mul_le_mul_right (c:=9223372036854775808 - c) ?_ (by omega)
 refine Nat.le_trans h6 ?_
 have e4:m*F*9223372036854775808=(m*9223372036854775808)*F:=by ac_rfl
 have e5:(m+4*c)*F*(9223372036854775808 - c)=((m+4*c)*(9223372036854775808 - c))*F:=by ac_rfl
 rw [e4,e5]
 refine Nat.mul_le_mul_right F ?_
 rw [Nat.mul_sub]
 have h7:(m+4*c)*c≤4*c*9223372036854775808:=by
  have h8:m+4*c≤4*9223372036854775808:=by omega
  have h9:=Nat.mul_le_mul_right c h8
  have e6:4*9223372036854775808*c=4*c*9223372036854775808:=by ac_rfl
  omega
 have e7:(m+4*c)*9223372036854775808=m*9223372036854775808+4*c*9223372036854775808:=Nat.add_mul _ _ _
 refine Nat.le_sub_of_add_le ?_
 rw [e7]
 exact Nat.add_le_add_left h7 _

theorem im (m1 m2:Nat)(e1 e2:Int)(w:World)(h1':m1<18446744073709551616)(h2':m2<18446744073709551616)(b1:-1000≤e1)(b1':e1≤2305843009213693952)(b2:-1000≤e2)(b2':e2≤2305843009213693952) :
  Calls Tryz.prog 223 #[.agg #[.int .u64 m1,.int .i64 e1],.agg #[.int .u64 m2,.int .i64 e2]] w fun e w'=>e=.returned (.agg #[.int .u64 (bK (m1*m2):Nat),.int .i64 (e1+e2+63+(bO (m1*m2):Nat))])∧Below w.heap.size w w':=by
 have a2:m1*m2<18446744073709551616*18446744073709551616:=Nat.mul_lt_mul_of_lt_of_lt h1' h2'
 have hM:=fun W=>Tryz.bits_Mul64 m1 m2 h1' h2' W
 obtain⟨e3,he3⟩:∃e3:Int,e1+e2=e3:=⟨_,rfl⟩
 obtain⟨e4,he4⟩:∃e4:Int,e3+64=e4:=⟨_,rfl⟩
 have w3:IntKind.i64.wrap e3=e3:=by rw [IntKind.wrap_i64];omega
 have w4:IntKind.i64.wrap e4=e4:=by rw [IntKind.wrap_i64];omega
 generalize m1*m2=P at *
 have hHi:P / 18446744073709551616<18446744073709551616:=by omega
 have hLo:P % 18446744073709551616<18446744073709551616:=by omega
 unfold bK bO
 by_cases hP:P<170141183460469231731687303715884105728
 ·rw [if_pos hP,if_pos hP]
  obtain⟨e5,he5⟩:∃e5:Int,e4 - 1=e5:=⟨_,rfl⟩
  have w5:IntKind.i64.wrap e5=e5:=by rw [IntKind.wrap_i64];omega
  have hres:e3+63+((0:Nat):Int)=e5:=by omega
  rw [he3,hres]
  have q1:((P / 18446744073709551616:Nat):Int) / 9223372036854775808=0:=by omega
  obtain⟨l,hl,hl2⟩:∃l:Nat,((P % 18446744073709551616:Nat):Int) / 9223372036854775808=(l:Int)∧l<2:=⟨P % 18446744073709551616 / 9223372036854775808,by omega,by omega⟩
  have q2:=cN (P / 18446744073709551616) 1 (P / 18446744073709551616*2) (by omega)
  have q3:=fO (P / 18446744073709551616) 1 l (P / 9223372036854775808) (by omega) (by omega) (by omega) (by omega)
  rw [Int.pow_one] at q2
  rw [Nat.pow_one] at q3
  generalize P / 9223372036854775808=R at *
  generalize P / 18446744073709551616=H at *
  generalize P % 18446744073709551616=Lo at *
  have q4:bits BinOp.or IntKind.u64 ((H:Int)*2) (l:Int)=(R:Int):=by have:=q3;push_cast at this;exact this
  clear q3
  have ba:=aL w (.cells #[.int .u64 m1,.int .i64 e1] 192)
  have bb:=aL (w.alloc (.cells #[.int .u64 m1,.int .i64 e1] 192)) (.cells #[.int .u64 m2,.int .i64 e2] 192)
  have bc:=aL ((w.alloc (.cells #[.int .u64 m1,.int .i64 e1] 192)).alloc (.cells #[.int .u64 m2,.int .i64 e2] 192)) (.cells #[.int .u64 R,.int .i64 e5] 192)
  have bab:=ba.trans (bb.mono ba.size)
  have HB:=aa (bab.trans (bc.mono bab.size))
  clear ba bb bc bab
  go_enter Tryz.func223,Tryz.ntmps223
  go_wp2_with fail
  refine (hM _).mono ?_
  rintro e wn ⟨rfl,hw⟩;rw [hw];clear hw wn hM
  go_wp2
  go_returns
  exact⟨rfl,HB.out⟩
 ·rw [if_neg hP,if_neg hP]
  have hres:e3+63+((1:Nat):Int)=e4:=by omega
  rw [he3,hres]
  have q1:((P / 18446744073709551616:Nat):Int) / 9223372036854775808=1:=by omega
  generalize P / 18446744073709551616=H at *
  generalize P % 18446744073709551616=Lo at *
  have ba:=aL w (.cells #[.int .u64 m1,.int .i64 e1] 192)
  have bb:=aL (w.alloc (.cells #[.int .u64 m1,.int .i64 e1] 192)) (.cells #[.int .u64 m2,.int .i64 e2] 192)
  have bc:=aL ((w.alloc (.cells #[.int .u64 m1,.int .i64 e1] 192)).alloc (.cells #[.int .u64 m2,.int .i64 e2] 192)) (.cells #[.int .u64 H,.int .i64 e4] 192)
  have bab:=ba.trans (bb.mono ba.size)
  have HB:=aa (bab.trans (bc.mono bab.size))
  clear ba bb bc bab
  go_enter Tryz.func223,Tryz.ntmps223
  go_wp2_with fail
  refine (hM _).mono ?_
  rintro e wn ⟨rfl,hw⟩;rw [hw];clear hw wn hM
  go_wp2
  go_returns
  exact⟨rfl,HB.out⟩

theorem ig (v:Nat)(w:World)(hv:0<v)(hv2:v<18446744073709551616) :
  Calls Tryz.prog 222 #[.int .u64 v] w fun e w'=>∃m f:Nat,e=.returned (.agg #[.int .u64 m,.int .i64 ((f:Int) - 63)])∧Nr v m f 0∧f≤63∧Below w.heap.size w w':=by
 have HZ:=fun W=>Tryz.bits_LeadingZeros64 v W (by omega) (by omega)
 obtain⟨hb1,hb2,hb3⟩:1≤Lib.bitLen v∧2 ^ (Lib.bitLen v - 1)≤v∧v<2 ^ Lib.bitLen v:=Lib.bitLenAux_bounds 64 v hv2 (by omega)
 have hb64:Lib.bitLen v≤64:=Lib.bitLen_le v 64 (by omega) hv2
 obtain⟨s,hs,hs1,hs2⟩:∃s:Nat,64 - (Lib.bitLen v:Int)=(s:Int)∧Lib.bitLen v=64 - s∧s≤63:=⟨64 - Lib.bitLen v,by omega,by omega,by omega⟩
 simp only [Int.toNat_natCast,hs] at HZ
 rw [hs1] at hb2 hb3
 have h1:9223372036854775808≤v*2 ^ s:=by
  have:=Nat.mul_le_mul_right (2 ^ s) hb2
  rw [←Nat.pow_add,show 64 - s - 1+s=63 by omega] at this
  exact this
 have h2:v*2 ^ s<18446744073709551616:=by
  have:=Nat.mul_lt_mul_of_pos_right hb3 (show 0<2 ^ s from Nat.pow_pos (by omega))
  rw [←Nat.pow_add,show 64 - s+s=64 by omega] at this
  exact this
 have HN:=aa (Nr.exact v s h1 h2 hs2)
 have hw:=cN v s (v*2 ^ s) (Nat.mod_eq_of_lt h2)
 have hsl:(s:Int)<64:=by omega
 have hs0:(0:Int)≤(s:Int):=by omega
 have he:((63 - s:Nat):Int) - 63=-(s:Int):=by omega
 generalize v*2 ^ s=m at *
 have HB:=aa (aL w (.cells #[.int .u64 m,.int .i64 (-(s:Int))] 192))
 clear hb1 hb2 hb3 hb64 hs hs1 h1 h2
 go_enter Tryz.func222,Tryz.ntmps222
 go_wp2_with fail
 refine (HZ _).mono ?_
 rintro e wn ⟨rfl,hw⟩;rw [hw];clear hw wn HZ
 go_wp2
 go_returns
 exact⟨m,63 - s,by rw [he],HN.out,by omega,HB.out⟩
end Go.Proofs.YtdbjbbdhlpfhjaaGreatDoor

