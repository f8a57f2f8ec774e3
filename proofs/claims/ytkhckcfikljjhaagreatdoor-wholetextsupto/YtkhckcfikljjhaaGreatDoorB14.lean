/- The document's Digits, Number, Parse and Print of whole numbers. -/
import Derived.Test.YtkhckcfikljjhaaGreatDoorB13
import Derived.Test.YtkhckcfikljjhaaGreatDoorB03
import Derived.Test.YtkhckcfikljjhaaGreatDoorB02
set_option maxRecDepth 20000
set_option maxHeartbeats 4000000
namespace Go.Proofs.YtkhckcfikljjhaaGreatDoor
open Go.RowKit
open Lm
attribute [local go_sem ↓] Go.wp_at_zero Go.wp_at_succ

def kE (T:ByteArray)(e:Ending):Prop:=∃r:Bool,e=.returned (.bool r)∧(r=true ↔ DgT T)

theorem oi (T:ByteArray)(w:World)(hs:T.size≤1048576) :
  Calls Tryz.prog 20 #[.string T] w fun e w'=>kE T e∧w'=w:=by
 go_enter Tryz.func20,Tryz.ntmps20
 go_wp2
 go_loop [3] (fun i=>∃k:Nat,k≤T.size∧i=.int .i64 k∧∀j,j<k→48≤byteN T j∧byteN T j≤57) (fun i=>T.size - (intOf i).toNat)
 case atStart=>exact⟨0,Nat.zero_le _,rfl,fun j hj=>by omega⟩
 case round=>
  obtain⟨k,hk,rfl,hok⟩:=hrel
  have HOK:=aa hok
  clear hok
  by_cases hkn:k<T.size
  ·have hk1:(k:Int)<(T.size:Int):=by omega
   have hk0:(0:Int)≤(k:Int):=by omega
   have hc:=dJ T k
   obtain⟨c,hcc⟩:∃c,byteN T k=c:=⟨_,rfl⟩
   rw [hcc] at hc
   have HC:=aa hcc
   clear hcc
   by_cases h1:c<48
   ·have h1i:(c:Int)<48:=by omega
    have hno:Hid (¬DgT T):=aa (fun h=>by have:=h.2 k hkn;have:=HC.out;omega)
    go_wp2
    go_ret
    exact⟨⟨false,rfl,by simp [hno.out]⟩,rfl⟩
   ·have h1i:¬((c:Int)<48):=by omega
    by_cases h2:57<c
    ·have h2i:(57:Int)<(c:Int):=by omega
     have hno:Hid (¬DgT T):=aa (fun h=>by have:=h.2 k hkn;have:=HC.out;omega)
     go_wp2
     go_ret
     exact⟨⟨false,rfl,by simp [hno.out]⟩,rfl⟩
    ·have h2i:¬((57:Int)<(c:Int)):=by omega
     go_wp2
     go_round
     case rel=>
      refine⟨k+1,by omega,by go_num,fun j hj=>?_⟩
      rcases Nat.lt_or_ge j k with h|h
      ·exact HOK.out j h
      ·obtain rfl:j=k:=by omega
       have:=HC.out
       omega
     case measure=>simp [intOf];omega
  ·obtain rfl:k=T.size:=by omega
   have hkk:¬((T.size:Int)<(T.size:Int)):=by omega
   by_cases h0:0<T.size
   ·have h0i:(0:Int)<(T.size:Int):=by omega
    go_wp2
    go_ret
    exact⟨⟨true,rfl,by simp;exact⟨h0,HOK.out⟩⟩,rfl⟩
   ·have h0i:¬((0:Int)<(T.size:Int)):=by omega
    go_wp2
    go_ret
    exact⟨⟨false,rfl,by simp;exact fun h=>h0 h.1⟩,rfl⟩

def dK:Value→Nat
 | .string s=>s.size
 | _=>0

theorem pB (T:ByteArray)(w:World)(h:DgT T)(hs:T.size≤1048576) :
  Calls Tryz.prog 22 #[.string T] w fun e w'=>(∃v,e=.returned v∧Num w' v (nmT T))∧Below w.heap.size w w':=by
 have HD:=aa h
 clear h
 go_enter Tryz.func22,Tryz.ntmps22
 go_wp2
 go_loopw [3,4] (fun o i wr=>∃(k:Nat) (vo:Value),k≤T.size∧vo=o∧i=.int .i64 k∧Num wr vo (dvr 10 (dgL T) 0 k)∧Below w.heap.size w wr) (fun _ i _=>T.size - (intOf i).toNat)
 case atStart=>exact⟨0,_,Nat.zero_le _,rfl,rfl,Num.nil _,Below.refl _ _⟩
 case round=>
  obtain⟨k,vo,hk,rfl,rfl,hNo,hbr⟩:=hrel
  by_cases hkn:k<T.size
  ·have hd:=HD.out.2 k hkn
   have hbl:=pV (b:=10) (D:=dgL T) (k:=k) (by omega) (by omega) (fun i hi=>by rw [fg T i (by omega)];have:=HD.out.2 i (by omega);omega)
   have hbm:blen (dvr 10 (dgL T) 0 k*10)≤1125899906840000:=by
    have h:=qp (dvr 10 (dgL T) 0 k) 10
    have h10:blen 10≤6:=(blen_le_iff _ _).2 (by omega)
    omega
   have hst:dvr 10 (dgL T) 0 k*10+(byteN T k - 48)=dvr 10 (dgL T) 0 (k+1):=by rw [dvr,Nat.zero_add,fg T k hkn]
   have hc:=dJ T k
   obtain⟨c,hcc⟩:∃c,byteN T k=c:=⟨_,rfl⟩
   rw [hcc] at hd hst hc
   obtain⟨d,hdc⟩:∃d,c - 48=d:=⟨_,rfl⟩
   rw [hdc] at hst
   have hd9:d<10:=by omega
   have hsub:(c:Int) - 48=(d:Int):=by omega
   have hw1:IntKind.u8.wrap (d:Int)=(d:Int):=by rw [IntKind.wrap_u8];omega
   have hw2:IntKind.u8.wrap ((c:Int) - 48)=(d:Int):=by rw [hsub];exact hw1
   have hw3:IntKind.i64.wrap (d:Int)=(d:Int):=by rw [IntKind.wrap_i64];omega
   have hk1:(k:Int)<(T.size:Int):=by omega
   have hk0:(0:Int)≤(k:Int):=by omega
   have hbd:blen d≤6:=(blen_le_iff _ _).2 (by omega)
   have HST:=aa hst
   have HBR:=aa hbr
   have C1:=f8 10 wr.drew (by omega)
   have HC2:=aa (fun (W:World) (v10:Value) (hN:Num W v10 10) (hb:Below wr.drew.heap.size wr.drew W)=>
    show Calls Tryz.prog 38 #[vo,v10] W fun e w'=>(∃v',e=.returned v'∧Num w' v' (dvr 10 (dgL T) 0 k*10))∧Below W.heap.size W w' by
     have h10:blen 10≤6:=(blen_le_iff _ _).2 (by omega)
     exact kB vo v10 _ 10 W ((hNo.below (Below.refl _ _).drew).below hb) hN (by omega))
   have HC3:=aa (fun (W:World)=>f8 d W (by omega))
   have HC4:=aa (fun (W:World) (v1 v2:Value) (n1:Num W v1 (dvr 10 (dgL T) 0 k*10)) (n2:Num W v2 d)=>
    show Calls Tryz.prog 37 #[v1,v2] W fun e w'=>(∃v',e=.returned v'∧Num w' v' (dvr 10 (dgL T) 0 (k+1)))∧Below W.heap.size W w' by
     have h:=kQ v1 v2 _ d W n1 n2 hbm (by omega)
     rw [HST.out] at h
     exact h)
   clear hNo hbr hst hbl hbm hd hcc hdc HST
   go_wp2
   go_region_held3 (fun _=>True) (trivial) (first
    | (go_at_call_of 39 (Value.int IntKind.i64 (d:Int));refine (HC3.out w3).mono ?_;rintro e' w4 ⟨⟨v4,rfl,n4⟩,hb4⟩)
    | (go_at_call 39;refine C1.mono ?_;rintro e' w2 ⟨⟨v2,rfl,n2⟩,hb2⟩)
    | (go_at_call 38;refine (HC2.out _ _ n2 hb2).mono ?_;rintro e' w3 ⟨⟨v3,rfl,n3⟩,hb3⟩)
    | (go_at_call 37;refine (HC4.out _ _ _ (n3.below hb4) n4).mono ?_;rintro e' w5 ⟨⟨v5,rfl,n5⟩,hb5⟩))
   all_goals
    have HN5:=aa n5
    have HB5:=aa (bt5 (bt5 (bt5 (bt5 HBR.out.drew hb2) hb3) hb4) hb5)
    clear hb2 hb3 hb4 hb5 n2 n3 n4 n5 C1
    go_wp2
    go_roundw
    case rel=>exact⟨k+1,v5,by omega,rfl,by go_num,HN5.out,HB5.out⟩
    case measure=>simp [intOf];omega
  ·obtain rfl:k=T.size:=by omega
   have hkk:¬((T.size:Int)<(T.size:Int)):=by omega
   have HF:=aa (And.intro hNo hbr)
   clear hNo hbr
   go_wp2
   go_ret
   exact⟨⟨_,rfl,HF.out.1⟩,HF.out.2⟩

theorem dZ (X j:Nat)(hj:j<9):X % 1000000000 / 10 ^ j % 10=X / 10 ^ j % 10:=by
 have h:=fw X 10 0 9 j hj
 rw [Nat.zero_mul,Nat.zero_add,Nat.pow_zero,Nat.div_one] at h
 exact h

theorem eD:∀d:Fin 10,((ByteArray.mk #[48,49,50,51,52,53,54,55,56,57]).extract d.1 (d.1+1)).data.toList=[sgn d.1]:=by decide +kernel

theorem eA {x m j:Nat}(hj1:1≤j)(h0:x / 10 ^ (m+j)=0)(h1:10 ^ (j - 1)≤x / 10 ^ m):aD 10 x (m+j):=by
 refine⟨by omega,?_,.inr ?_⟩
 ·rcases Nat.lt_or_ge x (10 ^ (m+j)) with h|h
  ·exact h
  ·have:=Nat.div_pos h (Nat.pow_pos (by omega));omega
 ·have h2:10 ^ (j - 1)*10 ^ m≤x:=Nat.le_trans (Nat.mul_le_mul_right _ h1) (Nat.div_mul_le_self _ _)
  rw [←Nat.pow_add] at h2
  rwa [show m+j - 1=j - 1+m by omega]

theorem oK (b:Bool)(a:Option Addr)(n c:Nat)(z:Int)(w:World)(hz:Zn w (.agg #[.bool b,.slice a n c]) z)(hx:blen z.natAbs≤67108864) :
  Calls Tryz.prog 9 #[.agg #[.bool b,.slice a n c]] w fun e w'=>∃n,e=.returned (.string (bh z n))∧aD 10 z.natAbs n∧Below w.heap.size w w':=by
 obtain⟨u9,hu9,hn9⟩:=hz
 obtain⟨hb9,rfl⟩:b=decide (z<0)∧u9=.slice a n c:=by simp at hu9;exact⟨hu9.1,hu9.2.symm⟩
 obtain⟨w0,hw0,hb0,h0⟩:=aM w (.cells #[.bool b,.slice a n c] 32)
 obtain⟨k0,k1⟩:=duo h0
 have Z:=dh _ z.natAbs w0 (hn9.below hb0)
 have HN:=aa (hn9.below hb0)
 have HB0:=aa hb0
 have HX0:=aa h0
 have HBS:=aa hb9
 obtain⟨x,hxx⟩:∃x,z.natAbs=x:=⟨_,rfl⟩
 rw [hxx] at Z HN hx
 have HXX0:=aa hxx
 clear hu9 hn9 hb0 h0 hb9 hxx
 by_cases hx0:x=0
 ·have hz0:z=0:=by have:=HXX0.out;omega
  have hxz:(x == 0)=true:=by rw [beq_iff_eq];exact hx0
  rw [hxz] at Z
  have HW0:Hid (bh z 1=⟨#[48]⟩):=aa (by subst hz0;rfl)
  have HH0:Hid (aD 10 z.natAbs 1):=aa ⟨Nat.le_refl _,by rw [HXX0.out,hx0];omega,.inl rfl⟩
  clear hx0 hz0 hxz
  go_enter Tryz.func9,Tryz.ntmps9
  go_wp2_with fail
  refine Z.mono ?_
  rintro e wn ⟨rfl,hw⟩;rw [hw];clear hw wn Z
  go_wp2
  go_ret
  exact⟨1,by rw [HW0.out];rfl,HH0.out,HB0.out⟩
 ·have hxz:(x == 0)=false:=by rw [beq_eq_false_iff_ne];exact hx0
  rw [hxz] at Z
  have HXN0:=aa hx0
  have hA:=Arg.lits w0 [1000000000] #[.int .u64 1000000000] 1 rfl rfl (by intro z hz;simp at hz;omega) (by simp)
  have hbt:Below w0.heap.size w0 (w0.alloc (.cells #[.int .u64 1000000000] 65)):=(Below.refl _ _).alloc (Nat.le_refl _) _
  have HO:=ep _ [1000000000] _ hA (by simp)
  rw [show val [1000000000]=1000000000 by simp [val]] at HO
  have HBT:=aa hbt
  clear hA hbt hx0 hxz
  go_enter Tryz.func9,Tryz.ntmps9
  go_wp2_with fail
  refine Z.mono ?_
  rintro e wn ⟨rfl,hw⟩;rw [hw];clear hw wn Z
  go_wp2_with fail
  refine HO.mono ?_
  rintro e w1 ⟨⟨vt,rfl,hnt⟩,hb1⟩
  have hb01:=bt5 HBT.out hb1
  have HB1:=aa (bt5 HB0.out hb01)
  have hx1:=af hb01 HX0.out
  have HX1:=aa hx1
  have HN1:=aa (HN.out.below hb01)
  have HNT:=aa hnt
  obtain⟨k0,k1⟩:=duo hx1
  clear HO hb1 hb01 HBT hnt HN HB0 HX0 hx1 hw0
  go_wp2
  go_loopw [3,5] (fun s nn wr=>∃(m:Nat) (vn:Value) (S:ByteArray),s=.string S∧vn=nn∧Num wr vn (x / 10 ^ m)∧S=au ((digs 10 m x).map fig)∧(x / 10 ^ m=0→aD 10 x m)∧m≤67108880∧Below w1.heap.size w1 wr) (fun s _ _=>67108890 - dK s)
  case atStart=>exact⟨0,_,⟨#[]⟩,rfl,rfl,by rw [Nat.pow_zero,Nat.div_one];exact HN1.out,rfl,fun h=>absurd (by rw [Nat.pow_zero,Nat.div_one] at h;exact h) HXN0.out,by omega,Below.refl _ _⟩
  case round=>
   obtain⟨m,vn,S,rfl,rfl,hnn,hS,hE0,hm,hbr⟩:=hrel
   have ZN:=dh vn (x / 10 ^ m) wr hnn
   obtain⟨X,hXX⟩:∃X,x / 10 ^ m=X:=⟨_,rfl⟩
   rw [hXX] at ZN hnn hE0
   have HSS:=aa hS
   have HXX:=aa hXX
   have HBR:=aa hbr
   have hx2:=af hbr HX1.out
   obtain⟨k0,k1⟩:=duo hx2
   clear hS hXX hbr hx2
   by_cases hX0:X=0
   ·have hxb:(X == 0)=true:=by rw [beq_iff_eq];exact hX0
    rw [hxb] at ZN
    have hH:=hE0 hX0
    have hSs:S.size=m:=by rw [HSS.out,aP,aG]
    have HBE:=aa (bt5 HB1.out HBR.out)
    have HH:=aa hH
    clear hX0 hxb hE0 hnn hH
    go_wp2_with fail
    refine ZN.mono ?_
    rintro e wn ⟨rfl,hw⟩;rw [hw];clear hw wn ZN
    cases b
    ·have hW:Hid (bh z m=S):=aa (by rw [iW m (by have h:=HBS.out;simpa using h),HXX0.out];exact HSS.out.symm)
     clear hSs
     go_wp2
     go_ret
     exact⟨m,by rw [hW.out];rfl,by rw [HXX0.out];exact HH.out,HBE.out⟩
    ·have h45:(ByteArray.mk #[45]).size=1:=rfl
     obtain⟨S2,hS2⟩:∃S2,(ByteArray.mk #[45]) ++ S=S2:=⟨_,rfl⟩
     have hW:Hid (bh z m=S2):=aa (by rw [jC m (by have h:=HBS.out;simpa using h),HXX0.out,←HSS.out];exact hS2)
     go_wp2
     go_ret
     exact⟨m,by rw [hW.out];rfl,by rw [HXX0.out];exact HH.out,HBE.out⟩
   ·have hxb:(X == 0)=false:=by rw [beq_eq_false_iff_ne];exact hX0
    rw [hxb] at ZN
    have HXN:=aa hX0
    have hml:m≤67108864:=by
     have h1:0<x / 10 ^ m:=by rw [HXX.out];omega
     have h2:10 ^ m≤x:=by
      rcases Nat.lt_or_ge x (10 ^ m) with h|h
      ·rw [Nat.div_eq_of_lt h] at h1;omega
      ·exact h
     have h4:2 ^ m≤x:=Nat.le_trans (Nat.pow_le_pow_left (by omega) _) h2
     have h5:x<2 ^ blen x:=(blen_le_iff _ _).1 (Nat.le_refl _)
     have h6:=(Nat.pow_lt_pow_iff_right (by omega:1<2)).1 (Nat.lt_of_le_of_lt h4 h5)
     omega
    have hbX:blen X≤67108864:=by rw [←HXX.out];exact Nat.le_trans (b8 (Nat.div_le_self _ _)) hx
    have hbt9:blen 1000000000≤64:=(blen_le_iff _ _).2 (by omega)
    have D:=qJ vn vt X 1000000000 wr hnn (HNT.out.below HBR.out) (by omega) (by omega) (by omega)
    clear hxb hX0 hbX hbt9 hE0 hnn
    go_wp2_with fail
    refine ZN.mono ?_
    rintro e wn ⟨rfl,hw⟩;rw [hw];clear hw wn ZN
    go_wp2_with fail
    refine D.mono ?_
    rintro e w3 ⟨⟨vq,vr,rfl,nq,nr,_,_⟩,hb3⟩
    have HB3:=aa (bt5 HBR.out hb3)
    have HNQ:=aa nq
    have ZR:=dh vr (X % 1000000000) w3 nr
    have hrl:X % 1000000000<1000000000:=Nat.mod_lt _ (by omega)
    obtain⟨ar,rn,cr,rfl,hcase⟩:=nr.digit (by omega)
    clear D nq nr hb3
    rcases hcase with ⟨hd0,rfl⟩|⟨hd0,rfl,hcr,bb,off,rfl,hcell⟩
    ·have hrb:(X % 1000000000 == 0)=true:=by rw [beq_iff_eq];exact hd0
     rw [hrb] at ZR
     have hst:(0:Int)=((X % 1000000000 / 10 ^ 0:Nat):Int):=by rw [hd0,Nat.pow_zero];rfl
     have HST:=aa hst
     clear hrb hd0 hst
     go_wp2_with fail
     refine ZR.mono ?_
     rintro e wn ⟨rfl,hw⟩;rw [hw];clear hw wn ZR
     go_wp2
     go_loop [8,9,10] (fun v p i=>∃(j:Nat) (P:ByteArray),v=.int .i64 ((X % 1000000000 / 10 ^ j:Nat):Int)∧p=.string P∧i=.int .i64 j∧j≤9∧P=au ((digs 10 j X).map fig)∧(X / 1000000000=0→j=0∨10 ^ (j - 1)≤X)) (fun _ _ i=>9 - (intOf i).toNat)
     case atStart=>exact⟨0,⟨#[]⟩,by rw [←HST.out],rfl,rfl,Nat.zero_le _,rfl,fun _=>.inl rfl⟩
     case round=>
      obtain⟨j,P,rfl,rfl,rfl,hj,hP,hJ⟩:=hrel
      obtain⟨V,hVe⟩:∃V,X % 1000000000 / 10 ^ j=V:=⟨_,rfl⟩
      have hVl:V<1000000000:=by rw [←hVe];exact Nat.lt_of_le_of_lt (Nat.div_le_self _ _) (Nat.mod_lt _ (by omega))
      rw [hVe]
      by_cases hj9:j<9
      ·have hji:(j:Int)<9:=by omega
       by_cases hv0:0<V
       ·have hvi:(0:Int)<(V:Int):=by omega
        have hXj:X / 1000000000=0→10 ^ (j+1 - 1)≤X:=fun h0=>by
         rw [Nat.add_sub_cancel]
         have h1:X % 1000000000≤X:=Nat.mod_le _ _
         have h2:10 ^ j≤X % 1000000000:=by
          rcases Nat.lt_or_ge (X % 1000000000) (10 ^ j) with h|h
          ·rw [Nat.div_eq_of_lt h] at hVe;omega
          ·exact h
         omega
        have hV:V=X % 1000000000 / 10 ^ j:=hVe.symm
        have hd10:V % 10=X / 10 ^ j % 10:=by rw [hV];exact dZ X j hj9
        have hV2:V / 10=X % 1000000000 / 10 ^ (j+1):=by rw [hV,Nat.div_div_eq_div_mul,←Nat.pow_succ]
        obtain⟨d,hd⟩:∃d,V % 10=d:=⟨_,rfl⟩
        have hdl:d<10:=by omega
        obtain⟨d1,hd1,hd1n⟩:∃d1:Nat,(d:Int)+1=(d1:Int)∧d1=d+1:=⟨d+1,by omega,rfl⟩
        obtain⟨V2,hV3⟩:∃V2,V / 10=V2:=⟨_,rfl⟩
        have ht1:(V:Int).tmod 10=(d:Int):=by rw [←hd];rfl
        have ht2:(V:Int).tdiv 10=(V2:Int):=by rw [←hV3];rfl
        obtain⟨ONE,hone⟩:∃o,(ByteArray.mk #[48,49,50,51,52,53,54,55,56,57]).extract d d1=o:=⟨_,rfl⟩
        have hol:ONE.data.toList=[sgn d]:=by rw [←hone,hd1n];exact eD ⟨d,hdl⟩
        have hos:ONE.size=1:=by
         have h:ONE.data.toList.length=1:=by rw [hol];rfl
         exact h
        have hPs:P.size=j:=by rw [hP,aP,aG]
        have hPn:=dY (digs 10 j X) d ONE hol
        rw [←hP] at hPn
        have hD:d :: digs 10 j X=digs 10 (j+1) X:=by rw [digs,←hd10,hd]
        rw [hD] at hPn
        obtain⟨P2,hP2⟩:∃P2,ONE ++ P=P2:=⟨_,rfl⟩
        have HP2:Hid (P2=au ((digs 10 (j+1) X).map fig)):=aa (by rw [←hP2];exact hPn)
        have HV2:Hid (V2=X % 1000000000 / 10 ^ (j+1)):=aa (by rw [←hV3];exact hV2)
        have HJ2:Hid (X / 1000000000=0→j+1=0∨10 ^ (j+1 - 1)≤X):=aa (fun h0=>.inr (hXj h0))
        have hd1b:d1≤10:=by omega
        have hdd:d≤d1:=by omega
        have hwV:IntKind.i64.wrap (V2:Int)=(V2:Int):=by rw [IntKind.wrap_i64];omega
        clear hd10 hV2 hd hd1n hV3 hol hPn hD hP hV hVe hJ
        clear hXj
        go_wp2
        go_round
        case rel=>exact⟨j+1,P2,by rw [HV2.out],rfl,by go_num,by omega,HP2.out,HJ2.out⟩
        case measure=>simp [intOf];omega
       ·have hvi:¬((0:Int)<(V:Int)):=by omega
        have ZQ:=dh vq (X / 1000000000) w3 HNQ.out
        by_cases hq0:X / 1000000000=0
        ·have hqb:(X / 1000000000 == 0)=true:=by rw [beq_iff_eq];exact hq0
         rw [hqb] at ZQ
         have hXs:X<1000000000:=by omega
         have hXj:X / 10 ^ j=0:=by rw [Nat.mod_eq_of_lt hXs] at hVe;omega
         have hj1:1≤j:=by
          rcases Nat.eq_zero_or_pos j with h|h
          ·subst h;rw [Nat.pow_zero,Nat.div_one] at hXj;exact absurd hXj HXN.out
          ·exact h
         have hqq:x / 10 ^ (m+j)=X / 1000000000:=by rw [Nat.pow_add,←Nat.div_div_eq_div_mul,HXX.out,hXj,hq0]
         have hq:x / 10 ^ (m+j)=X / 1000000000:=hqq
         have hjj:1≤j:=hj1
         have hS2:P ++ S=au ((digs 10 (m+j) x).map fig):=by
          rw [hP,HSS.out,d5,Nat.add_comm m j,dR,HXX.out]
         have hP9:P.size=j:=by rw [hP,aP,aG]
         have hS9:S.size=m:=by rw [HSS.out,aP,aG]
         have hE:x / 10 ^ (m+j)=0→aD 10 x (m+j):=fun h0=>eA hjj h0 (by
          rw [HXX.out]
          rcases hJ (by rw [←hq];exact h0) with h5|h5
          ·omega
          ·exact h5)
         obtain⟨S2,hS3⟩:∃S2,P ++ S=S2:=⟨_,rfl⟩
         rw [hS3] at hS2
         have HS2:=aa hS2
         have HE2:=aa hE
         have HQ2:Hid (Num w3 vq (x / 10 ^ (m+j))):=aa (by rw [hq];exact HNQ.out)
         have HS9:=aa (And.intro hS9 (show S2.size=m+j by rw [hS2,aP,aG]))
         have HJJ:=aa hjj
         clear hq hS2 hE hjj hP hJ
         clear hqq hj1 hXj hXs hqb hq0 hVe
         go_wp2_with fail
         refine ZQ.mono ?_
         rintro e wn ⟨rfl,hw⟩;rw [hw];clear hw wn ZQ
         go_wp2
         go_roundw
         case rel=>exact⟨m+j,vq,S2,rfl,rfl,HQ2.out,HS2.out,HE2.out,by omega,HB3.out⟩
         case measure=>simp [dK];have:=HS9.out;have:=HJJ.out;omega
        ·have hqb:(X / 1000000000 == 0)=false:=by rw [beq_eq_false_iff_ne];exact hq0
         rw [hqb] at ZQ
         have hXj:X / 1000000000=0→10 ^ (j+1 - 1)≤X:=fun h0=>absurd h0 hq0
         have hV:V=X % 1000000000 / 10 ^ j:=hVe.symm
         have hd10:V % 10=X / 10 ^ j % 10:=by rw [hV];exact dZ X j hj9
         have hV2:V / 10=X % 1000000000 / 10 ^ (j+1):=by rw [hV,Nat.div_div_eq_div_mul,←Nat.pow_succ]
         obtain⟨d,hd⟩:∃d,V % 10=d:=⟨_,rfl⟩
         have hdl:d<10:=by omega
         obtain⟨d1,hd1,hd1n⟩:∃d1:Nat,(d:Int)+1=(d1:Int)∧d1=d+1:=⟨d+1,by omega,rfl⟩
         obtain⟨V2,hV3⟩:∃V2,V / 10=V2:=⟨_,rfl⟩
         have ht1:(V:Int).tmod 10=(d:Int):=by rw [←hd];rfl
         have ht2:(V:Int).tdiv 10=(V2:Int):=by rw [←hV3];rfl
         obtain⟨ONE,hone⟩:∃o,(ByteArray.mk #[48,49,50,51,52,53,54,55,56,57]).extract d d1=o:=⟨_,rfl⟩
         have hol:ONE.data.toList=[sgn d]:=by rw [←hone,hd1n];exact eD ⟨d,hdl⟩
         have hos:ONE.size=1:=by
          have h:ONE.data.toList.length=1:=by rw [hol];rfl
          exact h
         have hPs:P.size=j:=by rw [hP,aP,aG]
         have hPn:=dY (digs 10 j X) d ONE hol
         rw [←hP] at hPn
         have hD:d :: digs 10 j X=digs 10 (j+1) X:=by rw [digs,←hd10,hd]
         rw [hD] at hPn
         obtain⟨P2,hP2⟩:∃P2,ONE ++ P=P2:=⟨_,rfl⟩
         have HP2:Hid (P2=au ((digs 10 (j+1) X).map fig)):=aa (by rw [←hP2];exact hPn)
         have HV2:Hid (V2=X % 1000000000 / 10 ^ (j+1)):=aa (by rw [←hV3];exact hV2)
         have HJ2:Hid (X / 1000000000=0→j+1=0∨10 ^ (j+1 - 1)≤X):=aa (fun h0=>.inr (hXj h0))
         have hd1b:d1≤10:=by omega
         have hdd:d≤d1:=by omega
         have hwV:IntKind.i64.wrap (V2:Int)=(V2:Int):=by rw [IntKind.wrap_i64];omega
         clear hd10 hV2 hd hd1n hV3 hol hPn hD hP hV hVe hJ
         clear hXj
         clear hqb hq0
         go_wp2_with fail
         refine ZQ.mono ?_
         rintro e wn ⟨rfl,hw⟩;rw [hw];clear hw wn ZQ
         go_wp2
         go_round
         case rel=>exact⟨j+1,P2,by rw [HV2.out],rfl,by go_num,by omega,HP2.out,HJ2.out⟩
         case measure=>simp [intOf];omega
      ·obtain rfl:j=9:=by omega
       have hqq:x / 10 ^ (m+9)=X / 1000000000:=by rw [Nat.pow_add,←Nat.div_div_eq_div_mul,HXX.out]
       have hj1:1≤9:=by omega
       obtain⟨j,hj9e⟩:∃j,j=9:=⟨_,rfl⟩
       rw [←hj9e] at hqq hj1 hP hJ
       have hji:¬(((9:Nat):Int)<9):=by omega
       have hji2:¬((9:Int)<9):=by omega
       have hq:x / 10 ^ (m+j)=X / 1000000000:=hqq
       have hjj:1≤j:=hj1
       have hS2:P ++ S=au ((digs 10 (m+j) x).map fig):=by
        rw [hP,HSS.out,d5,Nat.add_comm m j,dR,HXX.out]
       have hP9:P.size=j:=by rw [hP,aP,aG]
       have hS9:S.size=m:=by rw [HSS.out,aP,aG]
       have hE:x / 10 ^ (m+j)=0→aD 10 x (m+j):=fun h0=>eA hjj h0 (by
        rw [HXX.out]
        rcases hJ (by rw [←hq];exact h0) with h5|h5
        ·omega
        ·exact h5)
       obtain⟨S2,hS3⟩:∃S2,P ++ S=S2:=⟨_,rfl⟩
       rw [hS3] at hS2
       have HS2:=aa hS2
       have HE2:=aa hE
       have HQ2:Hid (Num w3 vq (x / 10 ^ (m+j))):=aa (by rw [hq];exact HNQ.out)
       have HS9:=aa (And.intro hS9 (show S2.size=m+j by rw [hS2,aP,aG]))
       have HJJ:=aa hjj
       clear hq hS2 hE hjj hP hJ
       clear hqq hj1 hVe
       go_wp2
       go_roundw
       case rel=>exact⟨m+j,vq,S2,rfl,rfl,HQ2.out,HS2.out,HE2.out,by omega,HB3.out⟩
       case measure=>simp [dK];have:=HS9.out;have:=HJJ.out;omega
    ·have hrb:(X % 1000000000 == 0)=false:=by rw [beq_eq_false_iff_ne];omega
     rw [hrb] at ZR
     obtain⟨R,hR⟩:∃R,X % 1000000000=R:=⟨_,rfl⟩
     have HST:Hid ((R:Int)=((X % 1000000000 / 10 ^ 0:Nat):Int)):=aa (by rw [Nat.pow_zero,Nat.div_one,hR])
     rw [hR] at hcell hrl
     have hwR:IntKind.i64.wrap (R:Int)=(R:Int):=by rw [IntKind.wrap_i64];omega
     clear hrb hd0 hR
     go_wp2_with fail
     refine ZR.mono ?_
     rintro e wn ⟨rfl,hw⟩;rw [hw];clear hw wn ZR
     go_wp2
     go_loop [8,9,10] (fun v p i=>∃(j:Nat) (P:ByteArray),v=.int .i64 ((X % 1000000000 / 10 ^ j:Nat):Int)∧p=.string P∧i=.int .i64 j∧j≤9∧P=au ((digs 10 j X).map fig)∧(X / 1000000000=0→j=0∨10 ^ (j - 1)≤X)) (fun _ _ i=>9 - (intOf i).toNat)
     case atStart=>exact⟨0,⟨#[]⟩,by rw [←HST.out],rfl,rfl,Nat.zero_le _,rfl,fun _=>.inl rfl⟩
     case round=>
      obtain⟨j,P,rfl,rfl,rfl,hj,hP,hJ⟩:=hrel
      obtain⟨V,hVe⟩:∃V,X % 1000000000 / 10 ^ j=V:=⟨_,rfl⟩
      have hVl:V<1000000000:=by rw [←hVe];exact Nat.lt_of_le_of_lt (Nat.div_le_self _ _) (Nat.mod_lt _ (by omega))
      rw [hVe]
      by_cases hj9:j<9
      ·have hji:(j:Int)<9:=by omega
       by_cases hv0:0<V
       ·have hvi:(0:Int)<(V:Int):=by omega
        have hXj:X / 1000000000=0→10 ^ (j+1 - 1)≤X:=fun h0=>by
         rw [Nat.add_sub_cancel]
         have h1:X % 1000000000≤X:=Nat.mod_le _ _
         have h2:10 ^ j≤X % 1000000000:=by
          rcases Nat.lt_or_ge (X % 1000000000) (10 ^ j) with h|h
          ·rw [Nat.div_eq_of_lt h] at hVe;omega
          ·exact h
         omega
        have hV:V=X % 1000000000 / 10 ^ j:=hVe.symm
        have hd10:V % 10=X / 10 ^ j % 10:=by rw [hV];exact dZ X j hj9
        have hV2:V / 10=X % 1000000000 / 10 ^ (j+1):=by rw [hV,Nat.div_div_eq_div_mul,←Nat.pow_succ]
        obtain⟨d,hd⟩:∃d,V % 10=d:=⟨_,rfl⟩
        have hdl:d<10:=by omega
        obtain⟨d1,hd1,hd1n⟩:∃d1:Nat,(d:Int)+1=(d1:Int)∧d1=d+1:=⟨d+1,by omega,rfl⟩
        obtain⟨V2,hV3⟩:∃V2,V / 10=V2:=⟨_,rfl⟩
        have ht1:(V:Int).tmod 10=(d:Int):=by rw [←hd];rfl
        have ht2:(V:Int).tdiv 10=(V2:Int):=by rw [←hV3];rfl
        obtain⟨ONE,hone⟩:∃o,(ByteArray.mk #[48,49,50,51,52,53,54,55,56,57]).extract d d1=o:=⟨_,rfl⟩
        have hol:ONE.data.toList=[sgn d]:=by rw [←hone,hd1n];exact eD ⟨d,hdl⟩
        have hos:ONE.size=1:=by
         have h:ONE.data.toList.length=1:=by rw [hol];rfl
         exact h
        have hPs:P.size=j:=by rw [hP,aP,aG]
        have hPn:=dY (digs 10 j X) d ONE hol
        rw [←hP] at hPn
        have hD:d :: digs 10 j X=digs 10 (j+1) X:=by rw [digs,←hd10,hd]
        rw [hD] at hPn
        obtain⟨P2,hP2⟩:∃P2,ONE ++ P=P2:=⟨_,rfl⟩
        have HP2:Hid (P2=au ((digs 10 (j+1) X).map fig)):=aa (by rw [←hP2];exact hPn)
        have HV2:Hid (V2=X % 1000000000 / 10 ^ (j+1)):=aa (by rw [←hV3];exact hV2)
        have HJ2:Hid (X / 1000000000=0→j+1=0∨10 ^ (j+1 - 1)≤X):=aa (fun h0=>.inr (hXj h0))
        have hd1b:d1≤10:=by omega
        have hdd:d≤d1:=by omega
        have hwV:IntKind.i64.wrap (V2:Int)=(V2:Int):=by rw [IntKind.wrap_i64];omega
        clear hd10 hV2 hd hd1n hV3 hol hPn hD hP hV hVe hJ
        clear hXj
        go_wp2
        go_round
        case rel=>exact⟨j+1,P2,by rw [HV2.out],rfl,by go_num,by omega,HP2.out,HJ2.out⟩
        case measure=>simp [intOf];omega
       ·have hvi:¬((0:Int)<(V:Int)):=by omega
        have ZQ:=dh vq (X / 1000000000) w3 HNQ.out
        by_cases hq0:X / 1000000000=0
        ·have hqb:(X / 1000000000 == 0)=true:=by rw [beq_iff_eq];exact hq0
         rw [hqb] at ZQ
         have hXs:X<1000000000:=by omega
         have hXj:X / 10 ^ j=0:=by rw [Nat.mod_eq_of_lt hXs] at hVe;omega
         have hj1:1≤j:=by
          rcases Nat.eq_zero_or_pos j with h|h
          ·subst h;rw [Nat.pow_zero,Nat.div_one] at hXj;exact absurd hXj HXN.out
          ·exact h
         have hqq:x / 10 ^ (m+j)=X / 1000000000:=by rw [Nat.pow_add,←Nat.div_div_eq_div_mul,HXX.out,hXj,hq0]
         have hq:x / 10 ^ (m+j)=X / 1000000000:=hqq
         have hjj:1≤j:=hj1
         have hS2:P ++ S=au ((digs 10 (m+j) x).map fig):=by
          rw [hP,HSS.out,d5,Nat.add_comm m j,dR,HXX.out]
         have hP9:P.size=j:=by rw [hP,aP,aG]
         have hS9:S.size=m:=by rw [HSS.out,aP,aG]
         have hE:x / 10 ^ (m+j)=0→aD 10 x (m+j):=fun h0=>eA hjj h0 (by
          rw [HXX.out]
          rcases hJ (by rw [←hq];exact h0) with h5|h5
          ·omega
          ·exact h5)
         obtain⟨S2,hS3⟩:∃S2,P ++ S=S2:=⟨_,rfl⟩
         rw [hS3] at hS2
         have HS2:=aa hS2
         have HE2:=aa hE
         have HQ2:Hid (Num w3 vq (x / 10 ^ (m+j))):=aa (by rw [hq];exact HNQ.out)
         have HS9:=aa (And.intro hS9 (show S2.size=m+j by rw [hS2,aP,aG]))
         have HJJ:=aa hjj
         clear hq hS2 hE hjj hP hJ
         clear hqq hj1 hXj hXs hqb hq0 hVe
         go_wp2_with fail
         refine ZQ.mono ?_
         rintro e wn ⟨rfl,hw⟩;rw [hw];clear hw wn ZQ
         go_wp2
         go_roundw
         case rel=>exact⟨m+j,vq,S2,rfl,rfl,HQ2.out,HS2.out,HE2.out,by omega,HB3.out⟩
         case measure=>simp [dK];have:=HS9.out;have:=HJJ.out;omega
        ·have hqb:(X / 1000000000 == 0)=false:=by rw [beq_eq_false_iff_ne];exact hq0
         rw [hqb] at ZQ
         have hXj:X / 1000000000=0→10 ^ (j+1 - 1)≤X:=fun h0=>absurd h0 hq0
         have hV:V=X % 1000000000 / 10 ^ j:=hVe.symm
         have hd10:V % 10=X / 10 ^ j % 10:=by rw [hV];exact dZ X j hj9
         have hV2:V / 10=X % 1000000000 / 10 ^ (j+1):=by rw [hV,Nat.div_div_eq_div_mul,←Nat.pow_succ]
         obtain⟨d,hd⟩:∃d,V % 10=d:=⟨_,rfl⟩
         have hdl:d<10:=by omega
         obtain⟨d1,hd1,hd1n⟩:∃d1:Nat,(d:Int)+1=(d1:Int)∧d1=d+1:=⟨d+1,by omega,rfl⟩
         obtain⟨V2,hV3⟩:∃V2,V / 10=V2:=⟨_,rfl⟩
         have ht1:(V:Int).tmod 10=(d:Int):=by rw [←hd];rfl
         have ht2:(V:Int).tdiv 10=(V2:Int):=by rw [←hV3];rfl
         obtain⟨ONE,hone⟩:∃o,(ByteArray.mk #[48,49,50,51,52,53,54,55,56,57]).extract d d1=o:=⟨_,rfl⟩
         have hol:ONE.data.toList=[sgn d]:=by rw [←hone,hd1n];exact eD ⟨d,hdl⟩
         have hos:ONE.size=1:=by
          have h:ONE.data.toList.length=1:=by rw [hol];rfl
          exact h
         have hPs:P.size=j:=by rw [hP,aP,aG]
         have hPn:=dY (digs 10 j X) d ONE hol
         rw [←hP] at hPn
         have hD:d :: digs 10 j X=digs 10 (j+1) X:=by rw [digs,←hd10,hd]
         rw [hD] at hPn
         obtain⟨P2,hP2⟩:∃P2,ONE ++ P=P2:=⟨_,rfl⟩
         have HP2:Hid (P2=au ((digs 10 (j+1) X).map fig)):=aa (by rw [←hP2];exact hPn)
         have HV2:Hid (V2=X % 1000000000 / 10 ^ (j+1)):=aa (by rw [←hV3];exact hV2)
         have HJ2:Hid (X / 1000000000=0→j+1=0∨10 ^ (j+1 - 1)≤X):=aa (fun h0=>.inr (hXj h0))
         have hd1b:d1≤10:=by omega
         have hdd:d≤d1:=by omega
         have hwV:IntKind.i64.wrap (V2:Int)=(V2:Int):=by rw [IntKind.wrap_i64];omega
         clear hd10 hV2 hd hd1n hV3 hol hPn hD hP hV hVe hJ
         clear hXj
         clear hqb hq0
         go_wp2_with fail
         refine ZQ.mono ?_
         rintro e wn ⟨rfl,hw⟩;rw [hw];clear hw wn ZQ
         go_wp2
         go_round
         case rel=>exact⟨j+1,P2,by rw [HV2.out],rfl,by go_num,by omega,HP2.out,HJ2.out⟩
         case measure=>simp [intOf];omega
      ·obtain rfl:j=9:=by omega
       have hqq:x / 10 ^ (m+9)=X / 1000000000:=by rw [Nat.pow_add,←Nat.div_div_eq_div_mul,HXX.out]
       have hj1:1≤9:=by omega
       obtain⟨j,hj9e⟩:∃j,j=9:=⟨_,rfl⟩
       rw [←hj9e] at hqq hj1 hP hJ
       have hji:¬(((9:Nat):Int)<9):=by omega
       have hji2:¬((9:Int)<9):=by omega
       have hq:x / 10 ^ (m+j)=X / 1000000000:=hqq
       have hjj:1≤j:=hj1
       have hS2:P ++ S=au ((digs 10 (m+j) x).map fig):=by
        rw [hP,HSS.out,d5,Nat.add_comm m j,dR,HXX.out]
       have hP9:P.size=j:=by rw [hP,aP,aG]
       have hS9:S.size=m:=by rw [HSS.out,aP,aG]
       have hE:x / 10 ^ (m+j)=0→aD 10 x (m+j):=fun h0=>eA hjj h0 (by
        rw [HXX.out]
        rcases hJ (by rw [←hq];exact h0) with h5|h5
        ·omega
        ·exact h5)
       obtain⟨S2,hS3⟩:∃S2,P ++ S=S2:=⟨_,rfl⟩
       rw [hS3] at hS2
       have HS2:=aa hS2
       have HE2:=aa hE
       have HQ2:Hid (Num w3 vq (x / 10 ^ (m+j))):=aa (by rw [hq];exact HNQ.out)
       have HS9:=aa (And.intro hS9 (show S2.size=m+j by rw [hS2,aP,aG]))
       have HJJ:=aa hjj
       clear hq hS2 hE hjj hP hJ
       clear hqq hj1 hVe
       go_wp2
       go_roundw
       case rel=>exact⟨m+j,vq,S2,rfl,rfl,HQ2.out,HS2.out,HE2.out,by omega,HB3.out⟩
       case measure=>simp [dK];have:=HS9.out;have:=HJJ.out;omega

def jc (T:ByteArray)(w:World)(e:Ending)(w':World):Prop:=
 ((¬DgT (aF T)∧e=.returned (.tuple #[.agg #[.bool false,.slice none 0 0],.int .i64 62]))∨(DgT (aF T)∧∃b a n k,e=.returned (.tuple #[.agg #[.bool b,.slice a n k],.int .i64 0])∧Zn w' (.agg #[.bool b,.slice a n k]) (zz (isM T) (nmT (aF T)))))∧Below w.heap.size w w'

theorem od (T:ByteArray)(w:World)(hs:T.size≤1048576) :
  Calls Tryz.prog 6 #[.string T] w (jc T w):=by
 obtain⟨w0,hw0,hb0,h0⟩:=aM w (.cells #[.bool false,.slice none 0 0] 32)
 have hf0:=ay h0
 obtain⟨k0,k1⟩:=duo h0
 have HB0:=aa hb0
 have HX0:=aa h0
 obtain⟨B,hB⟩:∃B,aF T=B:=⟨_,rfl⟩
 obtain⟨M,hM⟩:∃M,isM T=M:=⟨_,rfl⟩
 have hBs:B.size≤1048576:=by rw [←hB];exact Nat.le_trans (jr T) hs
 have CD:=oi B w0 hBs
 have CN:=aa (fun h=>pB B w0 h hBs)
 have hsi:¬((1048576:Int)<(T.size:Int)):=by omega
 unfold jc
 rw [hB,hM]
 clear hb0 h0
 by_cases hpos:0<T.size
 ·have h0i:(0:Int)<(T.size:Int):=by omega
  have h1i:(1:Int)≤(T.size:Int):=by omega
  have hc:=dJ T 0
  obtain⟨c,hcc⟩:∃c,byteN T 0=c:=⟨_,rfl⟩
  rw [hcc] at hc
  obtain⟨R,hR⟩:∃R,T.extract 1 T.size=R:=⟨_,rfl⟩
  by_cases h45:c=45
  ·obtain⟨hm,hb⟩:=gk hpos (hcc.trans h45)
   rw [hR,hB] at hb
   rw [hM] at hm
   subst hb
   subst hm
   have hq:((c:Int) == 45)=true:=by rw [beq_iff_eq];omega
   clear hcc h45 hB hM
   go_enter Tryz.func6,Tryz.ntmps6
   go_wp2_with fail
   go_wp2_with fail
   refine CD.mono ?_
   rintro e wn ⟨⟨r,rfl,hr⟩,hw⟩;rw [hw];clear hw wn CD
   cases r
   ·have HNO:Hid (¬DgT B):=aa (fun h=>by have:=hr.2 h;cases this)
    have HBX:=HX0
    clear hr CN
    go_wp2
    have R5:=aL HBX.out (a':=.bool false) (b':=.slice none 0 0)
    have HD:=aa (aK HB0.out (g:=w.heap.size) (u0:=.bool false) (u1:=.slice none 0 0) (Nat.le_refl _))
    generalize (w0.setCell ⟨w.heap.size,0,none⟩ (.bool false)).setCell ⟨w.heap.size,1,none⟩ (.slice none 0 0)=w5 at *
    obtain⟨q0,q1⟩:=duo R5
    refine bodyPost_ret (v:=.tuple #[.agg #[.bool false,.slice none 0 0],.int .i64 62]) (by simp [results,Tryz.results6,go_sem,q0,q1]) rfl ?_
    exact⟨.inl ⟨HNO.out,rfl⟩,HD.out⟩
   ·have hyes:=hr.1 rfl
    have HYES:=aa hyes
    have C:=CN.out hyes
    clear hr hyes CN
    go_wp2_with fail
    refine C.mono ?_
    rintro e w1 ⟨⟨vn,rfl,hn⟩,hb1⟩
    have C:=cR true vn (nmT B) w1 hn
    obtain⟨a2,n2,k2,rfl⟩:=hn.sl
    have HW1:=aa hb1
    clear hn hb1
    go_wp2_with fail
    refine C.mono ?_
    rintro e w2 ⟨⟨b1,a1,n1,k1',rfl,hzn⟩,hb2⟩
    have HZN:=aa hzn
    have HW:=aa (bt5 HW1.out hb2)
    have hbx:=af HW.out HX0.out
    have hf1:=ay hbx
    obtain⟨l0,l1⟩:=duo hbx
    have HBX:=aa hbx
    have HBE:=aa (HB0.out.trans (HW.out.mono HB0.out.size))
    clear hbx hzn hb2 C hw0 k0 k1 hf0 HW1
    go_wp2
    have R5:=aL HBX.out (a':=.bool b1) (b':=.slice a1 n1 k1')
    have HD:=aa (And.intro (HZN.out.duo (p1:=b1) (r1:=.slice a1 n1 k1') HBX.out) (aK HBE.out (g:=w.heap.size) (u0:=.bool b1) (u1:=.slice a1 n1 k1') (Nat.le_refl _)))
    generalize (w2.setCell ⟨w.heap.size,0,none⟩ (.bool b1)).setCell ⟨w.heap.size,1,none⟩ (.slice a1 n1 k1')=w5 at *
    obtain⟨q0,q1⟩:=duo R5
    refine bodyPost_ret (v:=.tuple #[.agg #[.bool b1,.slice a1 n1 k1'],.int .i64 0]) (by simp [results,Tryz.results6,go_sem,q0,q1]) rfl ?_
    exact⟨.inr ⟨HYES.out,_,_,_,_,rfl,HD.out.1⟩,HD.out.2⟩
  ·have hq:((c:Int) == 45)=false:=by rw [beq_eq_false_iff_ne];omega
   by_cases h43:c=43
   ·obtain⟨hm,hb⟩:=iV hpos (hcc.trans h43)
    rw [hR,hB] at hb
    rw [hM] at hm
    subst hb
    subst hm
    have hq2:((c:Int) == 43)=true:=by rw [beq_iff_eq];omega
    clear hcc h45 h43 hB hM
    go_enter Tryz.func6,Tryz.ntmps6
    go_wp2_with fail
    go_wp2_with fail
    refine CD.mono ?_
    rintro e wn ⟨⟨r,rfl,hr⟩,hw⟩;rw [hw];clear hw wn CD
    cases r
    ·have HNO:Hid (¬DgT B):=aa (fun h=>by have:=hr.2 h;cases this)
     have HBX:=HX0
     clear hr CN
     go_wp2
     have R5:=aL HBX.out (a':=.bool false) (b':=.slice none 0 0)
     have HD:=aa (aK HB0.out (g:=w.heap.size) (u0:=.bool false) (u1:=.slice none 0 0) (Nat.le_refl _))
     generalize (w0.setCell ⟨w.heap.size,0,none⟩ (.bool false)).setCell ⟨w.heap.size,1,none⟩ (.slice none 0 0)=w5 at *
     obtain⟨q0,q1⟩:=duo R5
     refine bodyPost_ret (v:=.tuple #[.agg #[.bool false,.slice none 0 0],.int .i64 62]) (by simp [results,Tryz.results6,go_sem,q0,q1]) rfl ?_
     exact⟨.inl ⟨HNO.out,rfl⟩,HD.out⟩
    ·have hyes:=hr.1 rfl
     have HYES:=aa hyes
     have C:=CN.out hyes
     clear hr hyes CN
     go_wp2_with fail
     refine C.mono ?_
     rintro e w1 ⟨⟨vn,rfl,hn⟩,hb1⟩
     have C:=cR false vn (nmT B) w1 hn
     obtain⟨a2,n2,k2,rfl⟩:=hn.sl
     have HW1:=aa hb1
     clear hn hb1
     go_wp2_with fail
     refine C.mono ?_
     rintro e w2 ⟨⟨b1,a1,n1,k1',rfl,hzn⟩,hb2⟩
     have HZN:=aa hzn
     have HW:=aa (bt5 HW1.out hb2)
     have hbx:=af HW.out HX0.out
     have hf1:=ay hbx
     obtain⟨l0,l1⟩:=duo hbx
     have HBX:=aa hbx
     have HBE:=aa (HB0.out.trans (HW.out.mono HB0.out.size))
     clear hbx hzn hb2 C hw0 k0 k1 hf0 HW1
     go_wp2
     have R5:=aL HBX.out (a':=.bool b1) (b':=.slice a1 n1 k1')
     have HD:=aa (And.intro (HZN.out.duo (p1:=b1) (r1:=.slice a1 n1 k1') HBX.out) (aK HBE.out (g:=w.heap.size) (u0:=.bool b1) (u1:=.slice a1 n1 k1') (Nat.le_refl _)))
     generalize (w2.setCell ⟨w.heap.size,0,none⟩ (.bool b1)).setCell ⟨w.heap.size,1,none⟩ (.slice a1 n1 k1')=w5 at *
     obtain⟨q0,q1⟩:=duo R5
     refine bodyPost_ret (v:=.tuple #[.agg #[.bool b1,.slice a1 n1 k1'],.int .i64 0]) (by simp [results,Tryz.results6,go_sem,q0,q1]) rfl ?_
     exact⟨.inr ⟨HYES.out,_,_,_,_,rfl,HD.out.1⟩,HD.out.2⟩
   ·obtain⟨hm,hb⟩:=iE (T:=T) (by rw [hcc];exact h45) (by rw [hcc];exact h43)
    rw [hB] at hb
    rw [hM] at hm
    subst hb
    subst hm
    have hq2:((c:Int) == 43)=false:=by rw [beq_eq_false_iff_ne];omega
    clear hcc h45 h43 hB hM hR
    go_enter Tryz.func6,Tryz.ntmps6
    go_wp2_with fail
    go_wp2_with fail
    refine CD.mono ?_
    rintro e wn ⟨⟨r,rfl,hr⟩,hw⟩;rw [hw];clear hw wn CD
    cases r
    ·have HNO:Hid (¬DgT B):=aa (fun h=>by have:=hr.2 h;cases this)
     have HBX:=HX0
     clear hr CN
     go_wp2
     have R5:=aL HBX.out (a':=.bool false) (b':=.slice none 0 0)
     have HD:=aa (aK HB0.out (g:=w.heap.size) (u0:=.bool false) (u1:=.slice none 0 0) (Nat.le_refl _))
     generalize (w0.setCell ⟨w.heap.size,0,none⟩ (.bool false)).setCell ⟨w.heap.size,1,none⟩ (.slice none 0 0)=w5 at *
     obtain⟨q0,q1⟩:=duo R5
     refine bodyPost_ret (v:=.tuple #[.agg #[.bool false,.slice none 0 0],.int .i64 62]) (by simp [results,Tryz.results6,go_sem,q0,q1]) rfl ?_
     exact⟨.inl ⟨HNO.out,rfl⟩,HD.out⟩
    ·have hyes:=hr.1 rfl
     have HYES:=aa hyes
     have C:=CN.out hyes
     clear hr hyes CN
     go_wp2_with fail
     refine C.mono ?_
     rintro e w1 ⟨⟨vn,rfl,hn⟩,hb1⟩
     have C:=cR false vn (nmT B) w1 hn
     obtain⟨a2,n2,k2,rfl⟩:=hn.sl
     have HW1:=aa hb1
     clear hn hb1
     go_wp2_with fail
     refine C.mono ?_
     rintro e w2 ⟨⟨b1,a1,n1,k1',rfl,hzn⟩,hb2⟩
     have HZN:=aa hzn
     have HW:=aa (bt5 HW1.out hb2)
     have hbx:=af HW.out HX0.out
     have hf1:=ay hbx
     obtain⟨l0,l1⟩:=duo hbx
     have HBX:=aa hbx
     have HBE:=aa (HB0.out.trans (HW.out.mono HB0.out.size))
     clear hbx hzn hb2 C hw0 k0 k1 hf0 HW1
     go_wp2
     have R5:=aL HBX.out (a':=.bool b1) (b':=.slice a1 n1 k1')
     have HD:=aa (And.intro (HZN.out.duo (p1:=b1) (r1:=.slice a1 n1 k1') HBX.out) (aK HBE.out (g:=w.heap.size) (u0:=.bool b1) (u1:=.slice a1 n1 k1') (Nat.le_refl _)))
     generalize (w2.setCell ⟨w.heap.size,0,none⟩ (.bool b1)).setCell ⟨w.heap.size,1,none⟩ (.slice a1 n1 k1')=w5 at *
     obtain⟨q0,q1⟩:=duo R5
     refine bodyPost_ret (v:=.tuple #[.agg #[.bool b1,.slice a1 n1 k1'],.int .i64 0]) (by simp [results,Tryz.results6,go_sem,q0,q1]) rfl ?_
     exact⟨.inr ⟨HYES.out,_,_,_,_,rfl,HD.out.1⟩,HD.out.2⟩
 ·obtain rfl:=iA T hpos
  rw [dT.1] at hM
  rw [dT.2] at hB
  subst hM
  subst hB
  clear hpos hsi hBs hs
  go_enter Tryz.func6,Tryz.ntmps6
  go_wp2_with fail
  go_wp2_with fail
  refine CD.mono ?_
  rintro e wn ⟨⟨r,rfl,hr⟩,hw⟩;rw [hw];clear hw wn CD
  cases r
  ·have HNO:Hid (¬DgT ⟨#[]⟩):=aa (fun h=>by have:=hr.2 h;cases this)
   have HBX:=HX0
   clear hr CN
   go_wp2
   have R5:=aL HBX.out (a':=.bool false) (b':=.slice none 0 0)
   have HD:=aa (aK HB0.out (g:=w.heap.size) (u0:=.bool false) (u1:=.slice none 0 0) (Nat.le_refl _))
   generalize (w0.setCell ⟨w.heap.size,0,none⟩ (.bool false)).setCell ⟨w.heap.size,1,none⟩ (.slice none 0 0)=w5 at *
   obtain⟨q0,q1⟩:=duo R5
   refine bodyPost_ret (v:=.tuple #[.agg #[.bool false,.slice none 0 0],.int .i64 62]) (by simp [results,Tryz.results6,go_sem,q0,q1]) rfl ?_
   exact⟨.inl ⟨HNO.out,rfl⟩,HD.out⟩
  ·have hyes:=hr.1 rfl
   have HYES:=aa hyes
   have C:=CN.out hyes
   clear hr hyes CN
   go_wp2_with fail
   refine C.mono ?_
   rintro e w1 ⟨⟨vn,rfl,hn⟩,hb1⟩
   have C:=cR false vn (nmT ⟨#[]⟩) w1 hn
   obtain⟨a2,n2,k2,rfl⟩:=hn.sl
   have HW1:=aa hb1
   clear hn hb1
   go_wp2_with fail
   refine C.mono ?_
   rintro e w2 ⟨⟨b1,a1,n1,k1',rfl,hzn⟩,hb2⟩
   have HZN:=aa hzn
   have HW:=aa (bt5 HW1.out hb2)
   have hbx:=af HW.out HX0.out
   have hf1:=ay hbx
   obtain⟨l0,l1⟩:=duo hbx
   have HBX:=aa hbx
   have HBE:=aa (HB0.out.trans (HW.out.mono HB0.out.size))
   clear hbx hzn hb2 C hw0 k0 k1 hf0 HW1
   go_wp2
   have R5:=aL HBX.out (a':=.bool b1) (b':=.slice a1 n1 k1')
   have HD:=aa (And.intro (HZN.out.duo (p1:=b1) (r1:=.slice a1 n1 k1') HBX.out) (aK HBE.out (g:=w.heap.size) (u0:=.bool b1) (u1:=.slice a1 n1 k1') (Nat.le_refl _)))
   generalize (w2.setCell ⟨w.heap.size,0,none⟩ (.bool b1)).setCell ⟨w.heap.size,1,none⟩ (.slice a1 n1 k1')=w5 at *
   obtain⟨q0,q1⟩:=duo R5
   refine bodyPost_ret (v:=.tuple #[.agg #[.bool b1,.slice a1 n1 k1'],.int .i64 0]) (by simp [results,Tryz.results6,go_sem,q0,q1]) rfl ?_
   exact⟨.inr ⟨HYES.out,_,_,_,_,rfl,HD.out.1⟩,HD.out.2⟩
end Go.Proofs.YtkhckcfikljjhaaGreatDoor
namespace Go.Proofs.YtkhckcfikljjhaaGreatDoor
open Go.RowKit
open Lm

theorem nj (x:Nat):∃n,aD 10 x n:=by
 induction x using Nat.strongRecOn with
 | ind x ih=>
  by_cases h:x<10
  ·exact⟨1,Nat.le_refl _,by omega,.inl rfl⟩
  ·obtain⟨n,h1,h2,h3⟩:=ih (x / 10) (by omega)
   refine⟨n+1,by omega,?_,.inr ?_⟩
   ·rw [Nat.pow_succ]
    omega
   ·rw [Nat.add_sub_cancel]
    rcases h3 with h3|h3
    ·subst h3;omega
    ·obtain⟨m,rfl⟩:∃m,n=m+1:=⟨n - 1,by omega⟩
     rw [Nat.add_sub_cancel] at h3
     rw [Nat.pow_succ]
     omega
end Go.Proofs.YtkhckcfikljjhaaGreatDoor
namespace Go.Proofs.YtkhckcfikljjhaaGreatDoor
open Go.RowKit
open Lm
attribute [local go_sem ↓] Go.wp_at_zero Go.wp_at_succ

structure BK (base:Nat)(w w':World):Prop where
 below:Below base w w'
 box:∀(g:Nat) (cs:Array Value) (t:TypeId),t≠65→t≠22→w.heap[g]?=some (.cells cs t)→w'.heap[g]?=some (.cells cs t)

theorem BK.refl (base:Nat)(w:World):BK base w w:=⟨Below.refl _ _,fun _ _ _ _ _ h=>h⟩

theorem BK.store {base:Nat}{w wr:World}{g n cap:Nat}{zs:List Nat}(h:BK base w wr)(ha:Ans wr base (.slice (some ⟨g,0,none⟩) n cap) zs)(j:Nat)(u:Value):BK base w (wr.setCell ⟨g,j,none⟩ u):=by
 obtain⟨_,h2⟩:=ha.own
 rcases h2 with ⟨e,_⟩|⟨g',cap',cur,e,hge,hh,_⟩
 ·cases e
 ·simp only [Value.slice.injEq,Option.some.injEq,Addr.mk.injEq] at e
  obtain⟨⟨rfl,_⟩,_⟩:=e
  refine⟨h.below.setCell (p:=⟨g,j,none⟩) hge u,fun g2 cs t ht ht2 hc=>?_⟩
  have h1:=h.box g2 cs t ht ht2 hc
  rw [Below.heap_setCell _ _ _ _ ?_]
  ·exact h1
  ·rintro rfl
   rw [hh] at h1
   simp only [Option.some.injEq,Obj.cells.injEq] at h1
   exact ht h1.2.1.symm

theorem BK.grew {base:Nat}{w wr w2:World}{v:Value}{zs:List Nat}{L:Nat}{vs:Array Value}{o:Obj}(h:BK base w wr)(hrow:Ans wr base v zs)(hL:wr.heap[L]?=some (.cells vs 22 (0,0)))(hb:base≤L)(hg:(wr.alloc o).grownBy w2 v.ownBlock)(k:Nat)(u:Value) :
  BK base w (w2.setCell ⟨L,k,none⟩ u):=by
 have hLs:=lt_of_block hL
 refine⟨((h.below.alloc (by omega) _).grown hg (by simp;omega) (fun g hg=>(hrow.own.lt g hg).1)).setCell hb _,fun g2 cs t ht ht2 hc=>?_⟩
 have h1:=h.box g2 cs t ht ht2 hc
 have h1s:=lt_of_block h1
 have hsz:(wr.alloc o).heap.size=wr.heap.size+1:=by simp
 rw [Below.heap_setCell _ _ _ _ ?_]
 ·have e1:(wr.alloc o).heap[g2]?=wr.heap[g2]?:=Below.heap_alloc wr o g2 h1s
  rw [hg.block g2 (by omega) ?_,e1]
  ·exact h1
  ·intro e
   obtain⟨_,h2⟩:=hrow.own
   rcases h2 with ⟨rfl,_⟩|⟨g',cap',cur,rfl,hge,hh,_⟩
   ·simp [Value.ownBlock] at e
   ·simp [Value.ownBlock] at e
    subst e
    rw [hh] at h1
    simp only [Option.some.injEq,Obj.cells.injEq] at h1
    exact ht h1.2.1.symm
 ·rintro rfl
  rw [hL] at h1
  simp only [Option.some.injEq,Obj.cells.injEq] at h1
  exact ht2 h1.2.1.symm

theorem mG (L base:Nat)(vs:List Value)(rows:Nat→List Nat)(w:World)(h:St w base L vs rows)(hn:vs.length≤1000)(hl:∀i,i<vs.length→(rows i).length≤17592186044000)(hb:base≤L) :
  Calls Tryz.prog 12 #[.slice (some ⟨L,0,none⟩) vs.length vs.length] w fun e w'=>e=.returned (.bool true)∧BK base w w':=by
 go_enter Tryz.func12,Tryz.ntmps12
 go_wp2
 go_loopw [15] (fun i wr=>∃k:Nat,k≤vs.length∧i=.int .i64 k∧St wr base L vs (bH rows k)∧BK base w wr) (fun i _=>vs.length - (intOf i).toNat)
 case atStart=>exact⟨0,Nat.zero_le _,rfl,h.congr (fun i _=>by simp [bH]),BK.refl _ _⟩
 case round=>
  obtain⟨k,hk,rfl,hst,hbl⟩:=hrel
  by_cases hkl:k<vs.length
  ·have hck:=hst.cell k hkl
   have hrow:=hst.row k hkl
   have hrk:bH rows k k=rows k:=by simp [bH]
   rw [hrk] at hrow
   have hlk:=hl k hkl
   have ec:(k:Int) % 251+1=((k % 251+1:Nat):Int):=by omega
   have bc:k % 251+1<18446744073709551616:=by omega
   have HRK:=aa hrk
   have HOV:Hid (over rows k=List.replicate (rows k).length (k % 251+1)):=rfl
   have HST:=aa hst
   have HBL:=aa hbl
   generalize k % 251+1=c at *
   clear hst hbl hrk h
   rcases hrow.form with ⟨hv,hz⟩|⟨g,cap,hv,hg1,hg2,hcap,hmax,_,_⟩
   ·rw [hv] at hck
    have HZ:=aa hz
    clear hrow hv hz
    go_wp2
    refine wp_loop_rounds 1 ?_
    rw [rounds_succ]
    go_wp2
    go_roundw
    case rel=>
     refine⟨k+1,by omega,by go_num,HST.out.congr (fun m _=>?_),HBL.out⟩
     by_cases e:m=k
     ·subst e
      rw [HRK.out]
      simp [bH,over,HZ.out]
     ·exact iC rows k m e
    case measure=>simp [intOf];omega
   ·rw [hv] at hck
    go_wp2
    go_loopw [22] (fun i wr=>∃j:Nat,j≤(rows k).length∧i=.int .i64 j∧St wr base L vs (upd (bH rows k) k (List.replicate j c ++ (rows k).drop j))∧BK base w wr) (fun i _=>(rows k).length - (intOf i).toNat)
    case atStart=>
     refine⟨0,Nat.zero_le _,rfl,HST.out.congr (fun m _=>?_),HBL.out⟩
     by_cases e:m=k
     ·subst e;rw [HRK.out,bX];simp
     ·rw [cE _ _ _ _ e]
    case round=>
     obtain⟨j,hj,rfl,hst,hbl⟩:=hrel
     clear HST HBL
     by_cases hjl:j<(rows k).length
     ·have hr2:=hst.row k hkl
      rw [bX] at hr2
      have hfl:=qb (rows k) j c hj
      rcases hr2.form with ⟨hv2,_⟩|⟨g',cap',hv2,hg1',hg2',_,_,hfr',hcl'⟩
      ·rw [hv2] at hv;cases hv
      ·have hgg:g'=g:=by rw [hv2] at hv;simp only [Value.slice.injEq,Option.some.injEq,Addr.mk.injEq] at hv;exact hv.1.1
       subst hgg
       have hfr:=hfr' j
       have hco:=hcl' j (by omega)
       have hst2:=hst.store k g' cap' hkl (by rw [bX];exact hv2) j c bc
       rw [bX,qE (rows k) j c hjl] at hst2
       have HS:=aa hst2
       have HL:=aa (hbl.store (hv2 ▸ hr2) j (.int .u64 (c:Int)))
       generalize (List.replicate j c ++ (rows k).drop j).getD j 0=o at *
       clear hst hbl hst2 hr2 hv2 hfr' hcl' hrow hv hck hfl
       go_wp2
       go_roundw
       case rel=>
        refine⟨j+1,by omega,by go_num,HS.out.congr (fun m _=>?_),HL.out⟩
        by_cases e:m=k
        ·subst e;rw [bX,bX]
        ·rw [cE _ _ _ _ e,cE _ _ _ _ e,cE _ _ _ _ e]
       case measure=>simp [intOf];omega
     ·have ej:j=(rows k).length:=by omega
      subst ej
      have HS:=aa hst
      have HL:=aa hbl
      clear hst hbl hrow hv hck
      go_wp2
      go_roundw
      case rel=>
       refine⟨k+1,by omega,by go_num,HS.out.congr (fun m _=>?_),HL.out⟩
       by_cases e:m=k
       ·subst e
        rw [bX]
        have:bH rows (m+1) m=over rows m:=by simp [bH]
        rw [this,HOV.out];simp
       ·rw [cE _ _ _ _ e];exact iC rows k m e
      case measure=>simp [intOf];omega
  ·have ek:k=vs.length:=by omega
   subst ek
   have hst3:St wr base L vs (over rows):=hst.congr (fun m hm=>by simp [bH,hm])
   have HST:=aa hst3
   have HBL:=aa hbl
   clear hst hbl hst3 h
   obtain⟨i0,hi,hz0,hz1,hz2⟩:=info_parts Tryz.infoU
   go_wp2
   go_loopw [36] (fun i wr=>∃(k:Nat) (us:List Value),k≤vs.length∧us.length=vs.length∧i=.int .i64 k∧St wr base L us (fun m=>if m<k then over rows m ++ be (300+5*m) else over rows m)∧BK base w wr) (fun i _=>vs.length - (intOf i).toNat)
   case atStart=>exact⟨0,vs,Nat.zero_le _,rfl,rfl,HST.out.congr (fun m _=>by simp),HBL.out⟩
   case round=>
    obtain⟨k,us,hk',hus,rfl,hst,hbl⟩:=hrel
    clear HST HBL
    by_cases hkl':k<vs.length
    ·have hku:k<us.length:=by omega
     have hck:=hst.cell k hku
     have hrow:=hst.row k hku
     simp only [Nat.lt_irrefl,if_false] at hrow
     have hfr:=hst.free k
     have hlen:(over rows k).length≤17592186044000:=by unfold over;rw [List.length_replicate];exact hl k hkl'
     have eb:(300:Int)+5*(k:Int)=((300+5*k:Nat):Int):=by omega
     have HST:=aa hst
     have HBL:=aa hbl
     have HV:=aa (rfl:us.getD k an=us.getD k an)
     have HB5:Hid (300+5*k<6000):=by unfold Hid;omega
     obtain⟨bb,hbb⟩:∃bb,bb=300+5*k:=⟨_,rfl⟩
     rw [←hbb] at eb
     have hb6:bb<6000:=by omega
     have HBB:=aa hbb
     generalize hv:us.getD k an=v at *
     have HVV:=aa hv
     obtain⟨b1,h1⟩:∃b1,b1=bb+1:=⟨_,rfl⟩
     obtain⟨b2,h2⟩:∃b2,b2=bb+2:=⟨_,rfl⟩
     obtain⟨b3,h3⟩:∃b3,b3=bb+3:=⟨_,rfl⟩
     obtain⟨b4,h4⟩:∃b4,b4=bb+4:=⟨_,rfl⟩
     have g1:(bb:Int)+1=(b1:Int):=by omega
     have g2:(bb:Int)+2=(b2:Int):=by omega
     have g3:(bb:Int)+3=(b3:Int):=by omega
     have g4:(bb:Int)+4=(b4:Int):=by omega
     have q1:b1<18446744073709551616:=by omega
     have q2:b2<18446744073709551616:=by omega
     have q3:b3<18446744073709551616:=by omega
     have q4:b4<18446744073709551616:=by omega
     have H5:Hid ([bb,b1,b2,b3,b4]=be (300+5*k)):=aa (by rw [h1,h2,h3,h4,hbb];rfl)
     clear hst hbl hv hbb HV h1 h2 h3 h4
     go_wp2_with (at_builtin;refine wpList_append_own_at _ rfl _ _ 22 rfl base 65 i0 (.int .u64 0) 1 8 Tryz.underlying22 hi hz0 hz1 hz2 rfl (by decide) v (over rows k).length _ rfl (hrow.own.alloc _) ⟨wr.heap.size,0,none⟩ 5 5 ([bb,b1,b2,b3,b4].map lv) rfl rfl (dI [bb,b1,b2,b3,b4]) (cL _) (by unfold maxLen;omega) (by omega) (by have:=lt_of_block HST.out.list;simp;omega) ?_;intro v' w2 hown2 hgrow2 _ hat2;have hkp:=HST.out.kept k hku HVV.out _ hgrow2;have hck2:=hkp.1;have hfr2:=hkp.2;clear hkp;obtain⟨g5,cap5,hv5⟩:=p9 hown2 (by omega);subst hv5;have HO:=aa hown2;have HG:=aa hgrow2;have HAT:=aa hat2;clear hown2 hgrow2 hat2)
     go_roundw
     case rel=>
      refine⟨k+1,us.set k _,by omega,by rw [List.length_set];exact hus,by go_num,(HST.out.grow k hku _ _ (over rows k ++ be (300+5*k)) ?_ ?_ (by rw [HVV.out];exact HG.out) (by rw [HVV.out];exact HAT.out)).congr (fun m _=>?_),?_⟩
      ·rw [←H5.out,List.length_append,List.map_append];exact HO.out
      ·exact ql rows k (by omega)
      ·by_cases e:m=k
       ·subst e;rw [bX];simp
       ·rw [cE _ _ _ _ e]
        by_cases h1:m<k
        ·rw [if_pos h1,if_pos (by omega)]
        ·rw [if_neg h1,if_neg (by omega)]
      ·have hLs:=lt_of_block HST.out.list
       exact HBL.out.grew hrow HST.out.list hb HG.out k _
     case measure=>simp [intOf];omega
    ·have ek:k=vs.length:=by omega
     subst ek
     have hst4:St wr base L us (fun m=>over rows m ++ be (300+5*m)):=hst.congr (fun m hm=>by simp [show m<vs.length by omega])
     have HST:=aa hst4
     have HBL:=aa hbl
     clear hst hbl hst4 hi hz0 hz1 hz2
     go_wp2
     go_loop [64] (fun i=>∃k:Nat,k≤vs.length∧i=.int .i64 k) (fun i=>vs.length - (intOf i).toNat)
     case atStart=>exact⟨0,Nat.zero_le _,rfl⟩
     case round=>
      obtain⟨k,hk4,rfl⟩:=hrel
      by_cases hkl4:k<vs.length
      ·have hku:k<us.length:=by omega
       have hck:=HST.out.cell k hku
       have hrow:=HST.out.row k hku
       have hlr:(over rows k ++ be (300+5*k)).length=(rows k).length+5:=by simp [over,be]
       rcases hrow.form with ⟨_,h0⟩|⟨g,cap,hv,_,_,hgl,hgm,_,hgc⟩
       ·rw [h0] at hlr;simp at hlr
       ·rw [hlr] at hv hgl hgc
        rw [hv] at hck
        have hzl:=hl k hkl4
        have HGC:=aa hgc
        clear hrow hgc hv hlr
        go_wp2
        go_loop [71] (fun i=>∃j:Nat,j≤(rows k).length+5∧i=.int .i64 j) (fun i=>(rows k).length+5 - (intOf i).toNat)
        case atStart=>exact⟨0,Nat.zero_le _,rfl⟩
        case round=>
         obtain⟨j,hj,rfl⟩:=hrel
         by_cases hjl:j<(rows k).length+5
         ·have hcj:=HGC.out j hjl
          by_cases hj2:j<(rows k).length
          ·rw [oj rows k j hj2] at hcj
           have ec:(k:Int) % 251+1=((k % 251+1:Nat):Int):=by omega
           have bc:k % 251+1<18446744073709551616:=by omega
           generalize k % 251+1=c at *
           have hne:((c:Int) != (c:Int))=false:=by simp
           have i1:(j:Int)<((rows k).length:Int):=by omega
           have hd2:decide (((rows k).length:Int)≤(j:Int))=false:=decide_eq_false (by omega)
           generalize (rows k).length=zl at *
           go_wp2
           go_round
           case rel=>exact⟨j+1,by omega,by go_num⟩
           case measure=>simp [intOf];omega
          ·rw [kD rows k j (by omega) hjl] at hcj
           have hd1:decide ((j:Int)<((rows k).length:Int))=false:=decide_eq_false (by omega)
           have i1:((rows k).length:Int)≤(j:Int):=by omega
           generalize (rows k).length=zl at *
           obtain⟨t,ht⟩:∃t,t=300+5*k+(j - zl):=⟨_,rfl⟩
           rw [←ht] at hcj
           have et:(300:Int)+5*(k:Int)+(j:Int) - ((zl:Int)+5)+5=(t:Int):=by omega
           have bt:t<18446744073709551616:=by omega
           have hne:((t:Int) != (t:Int))=false:=by simp
           have HT:=aa ht
           clear ht
           go_wp2
           go_round
           case rel=>exact⟨j+1,by omega,by go_num⟩
           case measure=>simp [intOf];omega
         ·go_wp2
          go_round
          case rel=>exact⟨k+1,by omega,by go_num⟩
          case measure=>simp [intOf];omega
      ·go_wp2
       go_ret
       exact⟨rfl,HBL.out⟩

structure dA (w:World)(base:Nat)(vs:List Value)(rss:List (List Nat)):Prop where
 len:vs.length=rss.length
 row:∀i,i<vs.length→Ans w base (vs.getD i an) (rss.getD i [])
 apart:∀i j,i<vs.length→j<vs.length→i≠j→(vs.getD i an).ownBlock=none∨(vs.getD i an).ownBlock≠(vs.getD j an).ownBlock

theorem aQ.aparts {w:World}{base:Nat}{vs:List Value}{rss:List (List Nat)}(h:aQ w base vs rss):dA w base vs rss:=⟨h.length,h.row,h.apart⟩

theorem dA.below {w w':World}{base:Nat}{vs:List Value}{rss:List (List Nat)}(h:dA w base vs rss)(hb:Below w.heap.size w w'):dA w' base vs rss:=⟨h.len,fun i hi=>(h.row i hi).below hb,h.apart⟩

theorem nO (base:Nat)(vs:List Value)(rss:List (List Nat))(w:World)(h:dA w base vs rss)(hn:vs.length≤1000)(hl:∀r ∈ rss,r.length≤17592186044000)(hb:base≤w.heap.size) :
  Calls Tryz.prog 12 #[.slice (some ⟨w.heap.size,0,none⟩) vs.length vs.length] (w.alloc (.cells vs.toArray 22)) fun e w'=>e=.returned (.bool true)∧BK base w w':=by
 have hst:St (w.alloc (.cells vs.toArray 22)) base w.heap.size vs (fun i=>rss.getD i []):=by
  have h':=h.below ((Below.refl _ _).alloc (Nat.le_refl _) (.cells vs.toArray 22))
  exact⟨by rw [heap_alloc_new],h'.row,h'.apart⟩
 refine (mG w.heap.size base vs (fun i=>rss.getD i []) _ hst hn ?_ hb).mono ?_
 ·intro i hi
  have hi':i<rss.length:=by rw [←h.len];exact hi
  show (rss.getD i []).length≤_
  have e:rss.getD i []=rss[i]:=by simp [List.getD,hi']
  rw [e]
  exact hl _ (List.getElem_mem _)
 ·rintro e w' ⟨rfl,hbel⟩
  refine⟨rfl,((Below.refl _ _).alloc hb _).trans hbel.below,fun g cs t ht ht2 hc=>hbel.box g cs t ht ht2 ?_⟩
  rw [Below.heap_alloc w _ g (lt_of_block hc)];exact hc
end Go.Proofs.YtkhckcfikljjhaaGreatDoor
namespace Go.Proofs.YtkhckcfikljjhaaGreatDoor
open Go.RowKit
open Lm

def Bx (w:World)(l:List (Nat × Obj)):Prop:=∀(i g:Nat) (o:Obj),l[i]?=some (g,o)→w.heap[g]?=some o

theorem Bx.nil (w:World):Bx w []:=by intro i g o h;simp at h

theorem Bx.cons {w:World}{g:Nat}{o:Obj}{l:List (Nat × Obj)}(hx:w.heap[g]?=some o)(h:Bx w l):Bx w ((g,o) :: l):=by
 intro i g' o' e
 cases i with
 | zero=>simp at e;obtain⟨rfl,rfl⟩:=e;exact hx
 | succ i=>rw [List.getElem?_cons_succ] at e;exact h i g' o' e

theorem Bx.below {w w':World}{l:List (Nat × Obj)}(h:Bx w l)(hb:Below w.heap.size w w'):Bx w' l:=fun i g o e=>af hb (h i g o e)

def dr:Obj→Bool
 | .cells _ t (0,0)=>t != 65 && t != 22
 | _=>false

theorem Bx.bk {w w':World}{base:Nat}{l:List (Nat × Obj)}(h:Bx w l)(hk:BK base w w')(hp:(l.all fun p=>dr p.2)=true):Bx w' l:=by
 intro i g o e
 have hm:(g,o) ∈ l:=List.mem_of_getElem? e
 have:=List.all_eq_true.1 hp _ hm
 have h0:=h i g o e
 cases o with
 | cells cs t fr=>
  obtain⟨f1,f2⟩:=fr
  cases f1 with
  | succ n=>simp [dr] at this
  | zero=>
   cases f2 with
   | succ n=>simp [dr] at this
   | zero=>
    simp only [dr,Bool.and_eq_true,bne_iff_ne] at this
    exact hk.box g cs t this.1 this.2 h0
 | _=>simp [dr] at this
end Go.Proofs.YtkhckcfikljjhaaGreatDoor
namespace Go.Proofs.YtkhckcfikljjhaaGreatDoor
open Go.RowKit
open Lm
attribute [local go_sem ↓] Go.wp_at_zero Go.wp_at_succ

def ZA (w:World)(base:Nat)(b:Bool)(u:Value)(z:Int):Prop:=∃rs,Ans w base u rs∧b=decide (z<0)∧val rs=z.natAbs∧tr rs=rs

theorem gL (n:Int)(w:World)(h1:-9223372036854775808≤n)(h2:n≤9223372036854775807) :
  Calls Tryz.prog 34 #[.int .i64 n] w fun e w'=>(∃b a l k,e=.returned (.agg #[.bool b,.slice a l k])∧ZA w' w.heap.size b (.slice a l k) n)∧Below w.heap.size w w':=by
 obtain⟨w0,hw0,hb0,hx0⟩:=aM w (.cells #[.bool false,.slice none 0 0] 27)
 by_cases hn:n<0
 ·obtain⟨m,hm⟩:∃m,IntKind.i64.wrap (-n)=m:=⟨_,rfl⟩
  have hm2:IntKind.u64.wrap m=((n.natAbs:Nat):Int):=by rw [←hm,IntKind.wrap_i64,IntKind.wrap_u64];omega
  have hm3:IntKind.u64.wrap ((n.natAbs:Nat):Int)=((n.natAbs:Nat):Int):=by rw [IntKind.wrap_u64];omega
  have HM:=cM n.natAbs w0 (by omega)
  have HB0:=aa hb0
  have HX0:=aa hx0
  clear hb0 hx0
  go_enter Tryz.func34,Tryz.ntmps34
  go_wp2_with fail
  refine HM.mono ?_
  rintro e w1 ⟨⟨v1,rfl,A1⟩,hb1⟩
  have HS:=cd true v1 _ _ w1 A1
  rw [ce true (tr_tr _) (val_tr _)] at HS
  have e1:zz true (val [n.natAbs])=n:=by simp [zz,val];omega
  rw [e1] at HS
  have hv:val (tr [n.natAbs])=n.natAbs:=by rw [val_tr];simp [val]
  have ht:=tr_tr [n.natAbs]
  generalize tr [n.natAbs]=rs at *
  obtain⟨a1,k1,rfl⟩:=A1.shape
  have HA1:=aa A1
  have HW1:=aa hb1
  have HV:=aa (And.intro hv ht)
  clear A1 hb1 HM e1 hv ht
  go_wp2_with fail
  refine HS.mono ?_
  rintro e w2 ⟨rfl,hb2⟩
  have HW:=aa (HW1.out.trans (hb2.mono HW1.out.size))
  have HAN:=aa ((HA1.out.below hb2).base HB0.out.size)
  have hbx:=af HW.out HX0.out
  have hf1:=ay hbx
  obtain⟨l0,l1⟩:=duo hbx
  have HBX:=aa hbx
  have HBE:=aa (HB0.out.trans (HW.out.mono HB0.out.size))
  clear hbx hb2 HS hw0
  obtain⟨ub,hub⟩:∃ub,decide (n<0)=ub:=⟨_,rfl⟩
  rw [hub]
  go_wp2
  have R5:=aL HBX.out (a':=.bool ub) (b':=.slice a1 rs.length k1)
  have HD:=aa (And.intro (HAN.out.duo (u0:=.bool ub) (u1:=.slice a1 rs.length k1) HBX.out) (aK HBE.out (g:=w.heap.size) (u0:=.bool ub) (u1:=.slice a1 rs.length k1) (Nat.le_refl _)))
  generalize (w2.setCell ⟨w.heap.size,0,none⟩ (.bool ub)).setCell ⟨w.heap.size,1,none⟩ (.slice a1 rs.length k1)=w5 at *
  obtain⟨q0,q1⟩:=duo R5
  refine bodyPost_ret (v:=.agg #[.bool ub,.slice a1 rs.length k1]) (by simp [results,Tryz.results34,go_sem,q0,q1]) rfl ?_
  exact⟨⟨_,_,_,_,rfl,rs,HD.out.1,hub.symm,HV.out⟩,HD.out.2⟩
 ·have hm2:IntKind.u64.wrap n=((n.natAbs:Nat):Int):=by rw [IntKind.wrap_u64];omega
  have hm3:IntKind.u64.wrap ((n.natAbs:Nat):Int)=((n.natAbs:Nat):Int):=by rw [IntKind.wrap_u64];omega
  have HM:=cM n.natAbs w0 (by omega)
  have HB0:=aa hb0
  have HX0:=aa hx0
  clear hb0 hx0
  go_enter Tryz.func34,Tryz.ntmps34
  go_wp2_with fail
  refine HM.mono ?_
  rintro e w1 ⟨⟨v1,rfl,A1⟩,hb1⟩
  have HS:=cd false v1 _ _ w1 A1
  rw [ce false (tr_tr _) (val_tr _)] at HS
  have e1:zz false (val [n.natAbs])=n:=by simp [zz,val];omega
  rw [e1] at HS
  have hv:val (tr [n.natAbs])=n.natAbs:=by rw [val_tr];simp [val]
  have ht:=tr_tr [n.natAbs]
  generalize tr [n.natAbs]=rs at *
  obtain⟨a1,k1,rfl⟩:=A1.shape
  have HA1:=aa A1
  have HW1:=aa hb1
  have HV:=aa (And.intro hv ht)
  clear A1 hb1 HM e1 hv ht
  go_wp2_with fail
  refine HS.mono ?_
  rintro e w2 ⟨rfl,hb2⟩
  have HW:=aa (HW1.out.trans (hb2.mono HW1.out.size))
  have HAN:=aa ((HA1.out.below hb2).base HB0.out.size)
  have hbx:=af HW.out HX0.out
  have hf1:=ay hbx
  obtain⟨l0,l1⟩:=duo hbx
  have HBX:=aa hbx
  have HBE:=aa (HB0.out.trans (HW.out.mono HB0.out.size))
  clear hbx hb2 HS hw0
  obtain⟨ub,hub⟩:∃ub,decide (n<0)=ub:=⟨_,rfl⟩
  rw [hub]
  go_wp2
  have R5:=aL HBX.out (a':=.bool ub) (b':=.slice a1 rs.length k1)
  have HD:=aa (And.intro (HAN.out.duo (u0:=.bool ub) (u1:=.slice a1 rs.length k1) HBX.out) (aK HBE.out (g:=w.heap.size) (u0:=.bool ub) (u1:=.slice a1 rs.length k1) (Nat.le_refl _)))
  generalize (w2.setCell ⟨w.heap.size,0,none⟩ (.bool ub)).setCell ⟨w.heap.size,1,none⟩ (.slice a1 rs.length k1)=w5 at *
  obtain⟨q0,q1⟩:=duo R5
  refine bodyPost_ret (v:=.agg #[.bool ub,.slice a1 rs.length k1]) (by simp [results,Tryz.results34,go_sem,q0,q1]) rfl ?_
  exact⟨⟨_,_,_,_,rfl,rs,HD.out.1,hub.symm,HV.out⟩,HD.out.2⟩

theorem gc (L:Nat)(v1 v2:Value)(X Y:List Nat)(w:World)(hL:w.heap[L]?=some (.cells #[v1,v2] 25))(hA:Arg w v1 X)(hB:Arg w v2 Y) :
  Calls Tryz.prog 73 #[.slice (some ⟨L,0,none⟩) 2 2] w fun e w'=>e=.returned (.bool (decide (67108864<blen (val X)∨67108864<blen (val Y))))∧w'=w:=by
 obtain⟨c0,c1⟩:=duo hL
 have L1:=aE v1 X w hA
 have L2:=aE v2 Y w hB
 obtain⟨a1,n1,rfl,_,_,_⟩:=hA.form
 obtain⟨a2,n2,rfl,_,_,_⟩:=hB.form
 clear hA hB hL
 generalize blen (val X)=lx at *
 generalize blen (val Y)=ly at *
 by_cases h1:67108864<lx
 ·have i1:(67108864:Int)<(lx:Int):=by omega
  rw [decide_eq_true (.inl h1)]
  go_enter Tryz.func73,Tryz.ntmps73
  go_wp2
  refine wp_loop_rounds 1 ?_
  rw [rounds_succ]
  go_wp2_with fail
  refine L1.mono ?_
  rintro e wn ⟨rfl,hw⟩;rw [hw];clear hw wn L1
  go_wp2
  go_ret
  exact⟨rfl,rfl⟩
 ·have i1:¬(67108864:Int)<(lx:Int):=by omega
  by_cases h2:67108864<ly
  ·have i2:(67108864:Int)<(ly:Int):=by omega
   rw [decide_eq_true (.inr h2)]
   go_enter Tryz.func73,Tryz.ntmps73
   go_wp2
   refine wp_loop_rounds 2 ?_
   rw [rounds_succ]
   go_wp2_with fail
   refine L1.mono ?_
   rintro e wn ⟨rfl,hw⟩;rw [hw];clear hw wn L1
   go_wp2
   rw [rounds_succ]
   go_wp2_with fail
   refine L2.mono ?_
   rintro e wn ⟨rfl,hw⟩;rw [hw];clear hw wn L2
   go_wp2
   go_ret
   exact⟨rfl,rfl⟩
  ·have i2:¬(67108864:Int)<(ly:Int):=by omega
   rw [decide_eq_false (by omega)]
   go_enter Tryz.func73,Tryz.ntmps73
   go_wp2
   refine wp_loop_rounds 3 ?_
   rw [rounds_succ]
   go_wp2_with fail
   refine L1.mono ?_
   rintro e wn ⟨rfl,hw⟩;rw [hw];clear hw wn L1
   go_wp2
   rw [rounds_succ]
   go_wp2_with fail
   refine L2.mono ?_
   rintro e wn ⟨rfl,hw⟩;rw [hw];clear hw wn L2
   go_wp2
   rw [rounds_succ]
   go_wp2
   go_ret
   exact⟨rfl,rfl⟩

def jE:Value:=.agg #[.func (.func 100) #[] #[],.func (.func 101) #[] #[],.func (.func 102) #[] #[],.func (.func 103) #[] #[],.func (.func 105) #[] #[]]

theorem pP {P:Program}(w:World)(a:Addr)(m:Mode)(f:Fn)(x y:Array Value):(store a (.func f x y) m).run P w=stored P w a (.func f x y) m:=run_store P w a _ m rfl

attribute [local go_sem] pP in
theorem wdivs_any (w:World):Calls Tryz.prog 71 #[] w fun e w'=>e=.returned jE∧Below w.heap.size w w':=by
 have HB:=aa (cf w (.cells #[.func (.func 100) #[] #[],.func (.func 101) #[] #[],.func (.func 102) #[] #[],.func (.func 103) #[] #[],.func (.func 105) #[] #[]] 115))
 go_enter Tryz.func71,Tryz.ntmps71
 go_wp2
 go_returns
 exact⟨rfl,HB.out⟩

def fU (q r l:Value)(bl ap:Bool):Value:=.agg #[q,r,l,.bool bl,.bool ap]

theorem jS (a1 a2 a3:Option Addr)(n1 k1 n2 k2 n3 k3:Nat)(bl ap:Bool)(w:World):Calls Tryz.prog 101 #[fU (.slice a1 n1 k1) (.slice a2 n2 k2) (.slice a3 n3 k3) bl ap] w fun e w'=>e=.returned (.bool ap)∧Below w.heap.size w w':=by
 obtain⟨w0,hw0,hb0,hx0⟩:=aM w (.cells #[.slice a1 n1 k1,.slice a2 n2 k2,.slice a3 n3 k3,.bool bl,.bool ap] 118)
 have c3:w0.cell? ⟨w.heap.size,3,none⟩=some (.bool bl):=by simp [World.cell?,hx0]
 have c4:w0.cell? ⟨w.heap.size,4,none⟩=some (.bool ap):=by simp [World.cell?,hx0]
 have HB0:=aa hb0
 clear hb0 hx0
 unfold fU
 go_enter Tryz.func101,Tryz.ntmps101
 go_wp2
 go_ret
 exact⟨rfl,HB0.out⟩

theorem oz (w:World):(Instr.index 115 jE (.int .i64 1)).run Tryz.prog w=.ok (.agg #[.func (.func 101) #[] #[]]) w:=by kernel_rfl

theorem nS (w:World):(Instr.field 114 (.agg #[.func (.func 101) #[] #[]]) 0).run Tryz.prog w=.ok (.func (.func 101) #[] #[]) w:=by kernel_rfl
end Go.Proofs.YtkhckcfikljjhaaGreatDoor
namespace Go.Proofs.YtkhckcfikljjhaaGreatDoor
open Go.RowKit
open Lm

theorem il (w:World)(o1 o2 o3 o4:Obj):∃w0,(((w.alloc o1).alloc o2).alloc o3).alloc o4=w0∧Below w.heap.size w w0∧w0.heap[w.heap.size]?=some o1∧w0.heap[w.heap.size+1]?=some o2∧w0.heap[w.heap.size+2]?=some o3∧w0.heap[w.heap.size+3]?=some o4:=by
 obtain⟨w1,h1,b1,c1,c2,c3⟩:=mQ w o1 o2 o3
 obtain⟨w2,h2,b2,c4⟩:=aM w1 o4
 have hs:w1.heap.size=w.heap.size+3:=by rw [←h1,World.size_alloc,World.size_alloc,World.size_alloc]
 refine⟨w2,by rw [h1];exact h2,b1.trans (b2.mono b1.size),?_,?_,?_,by rw [←hs];exact c4⟩
 ·rw [b2.block _ (lt_of_block c1)];exact c1
 ·rw [b2.block _ (lt_of_block c2)];exact c2
 ·rw [b2.block _ (lt_of_block c3)];exact c3

theorem cG {B:Nat}{w0 w:World}{g:Nat}{u0 u1 u2 u3:Value}(h:Below B w0 w)(hg:B≤g):Below B w0 ((((w.setCell ⟨g,0,none⟩ u0).setCell ⟨g,1,none⟩ u1).setCell ⟨g+1,0,none⟩ u2).setCell ⟨g+1,1,none⟩ u3):=
 aK (aK h hg) (by omega)
end Go.Proofs.YtkhckcfikljjhaaGreatDoor
namespace Go.Proofs.YtkhckcfikljjhaaGreatDoor
open Go.RowKit
open Lm
attribute [local go_sem ↓] Go.wp_at_zero Go.wp_at_succ

theorem m5 (b off cap:Nat)(zs:List Nat)(w:World)(hcap:zs.length≤cap)(hmax:cap≤9223372036854775807)
  (hc:∀k,k<zs.length→w.cell? ⟨b,off+k,none⟩=some (.int .u64 ((zs.getD k 0:Nat):Int))) :
  Calls Tryz.prog 94 #[.slice (some ⟨b,off,none⟩) zs.length cap] w fun e w'=>e=.returned (.slice (some ⟨b,off,none⟩) (tr zs).length cap)∧w'=w:=by
 go_enter Tryz.func94,Tryz.ntmps94
 go_wp2
 go_loop [3] (fun n=>∃k:Nat,k≤zs.length∧n=.int .i64 k∧tr (zs.take k)=tr zs) (fun n=>(intOf n).toNat)
 case atStart=>exact⟨zs.length,Nat.le_refl _,rfl,by rw [List.take_length]⟩
 case round=>
  obtain⟨k,hk,rfl,ht⟩:=hrel
  have HT:Hid (tr (zs.take k)=tr zs):=ht
  clear ht
  by_cases h0:k=0
  ·subst h0
   go_wp2
   go_ret
   have e:=HT.out
   simp only [List.take_zero,tr] at e
   rw [←e]
   exact⟨rfl,rfl⟩
  ·obtain⟨j,rfl⟩:∃j,k=j+1:=⟨k - 1,by omega⟩
   have hcj:=hc j (by omega)
   clear hc
   by_cases hz:zs.getD j 0=0
   ·have HZ:Hid (tr (zs.take j)=tr zs):=by rw [←tr_step zs j (by omega) hz];exact HT.out
    rw [hz] at hcj
    clear hz HT
    go_wp2
    go_round
    case rel=>exact⟨j,by omega,by go_num,HZ.out⟩
    case measure=>simp [intOf]
   ·have HZ:Hid (tr zs=zs.take (j+1)):=by rw [←HT.out];exact tr_stop zs j (by omega) hz
    clear HT
    generalize zs.getD j 0=z at hcj hz
    have hne:((z:Int) == 0)=false:=by rw [beq_eq_false_iff_ne];omega
    clear hz
    go_wp2
    go_ret
    rw [HZ.out]
    have e:(zs.take (j+1)).length=j+1:=by simp;omega
    rw [e]
    exact⟨rfl,rfl⟩

theorem om (ao:Option Addr)(cap:Nat)(w:World)(_hmax:cap≤9223372036854775807) :
  Calls Tryz.prog 94 #[.slice ao 0 cap] w fun e w'=>e=.returned (.slice ao 0 cap)∧w'=w:=by
 go_enter Tryz.func94,Tryz.ntmps94
 go_wp2
 refine wp_loop_rounds 1 ?_
 rw [rounds_succ]
 go_wp2
 go_ret
 exact⟨rfl,rfl⟩

theorem dk (ao:Option Addr)(cap:Nat)(zs:List Nat)(w:World)(hcap:zs.length≤cap)(hmax:cap≤9223372036854775807)(hl:ac w ao zs) :
  Calls Tryz.prog 94 #[.slice ao zs.length cap] w fun e w'=>e=.returned (.slice ao (tr zs).length cap)∧w'=w:=by
 rcases hl with rfl|⟨b,off,rfl,hc⟩
 ·exact om ao cap w hmax
 ·exact m5 b off cap zs w hcap hmax hc

theorem ew (bz zo n cap:Nat)(Z:List Nat)(va:Value)(X:List Nat)(w:World)(hB:Blk w bz Z)(hLZ:Limbs Z)(hA:Arg w va X)(ho:0<X.length→Off va bz zo (zo+n))
  (hzo:zo+n≤Z.length) (hc1:n≤cap) (hc2:cap≤9223372036854775807) (hXn:X.length≤n) (hfit:sv Z zo n+val X<18446744073709551616 ^ n) :
  Calls Tryz.prog 106 #[.slice (some ⟨bz,zo,none⟩) n cap,va] w (ai bz zo n Z w (sv Z zo n+val X)):=by
 obtain⟨a1,c1,rfl,hcc1,hcm1,hl1⟩:=hA.form
 have hX:=hA.few
 have M1:=hA.limbs
 have hao:0<X.length→∀b off,a1=some ⟨b,off,none⟩→b≠bz∨off+X.length≤zo∨zo+n≤off:=fun h b off e=>by
  subst e
  exact ho h b off _ _ rfl
 have L1:=hl1
 have hln:=hXn
 clear ho hA hl1 hXn
 generalize X=P at *
 have HFIT:=aa hfit
 have HB0:=aa hB
 have HLZ:=aa hLZ
 clear hfit
 go_enter Tryz.func106,Tryz.ntmps106
 go_wp2
 go_loopw [4,10] (fun c i wr=>∃(k cy:Nat) (Z':List Nat),k≤P.length∧i=.int .i64 k∧c=.int .u64 cy∧cy≤1∧Out Z Z' zo (zo+k)∧Limbs Z'∧Blk wr bz Z'∧Fr bz w wr ∧
   sv Z' zo k+cy*18446744073709551616 ^ k=sv Z zo k+val (P.take k)) (fun _ i _=>P.length - (intOf i).toNat)
 case atStart=>exact⟨0,0,Z,Nat.zero_le _,rfl,rfl,by omega,Out.refl _ _ _,HLZ.out,HB0.out,Fr.refl _ _,by simp [aA,val]⟩
 case round=>
  obtain⟨k,cy,Z',hk,rfl,rfl,hcy,hout,hlz,hblk,hfr0,hval⟩:=hrel
  have HV:=aa hval
  have HB:=aa hblk
  have HF:=aa hfr0
  have HO:=aa hout
  have hl:=hout.len
  clear hval
  by_cases hkl:k<P.length
  ·rcases L1.fr (hao (by omega)) hfr0 hB hblk (hout.wider (Nat.le_refl _) (by omega)) with h0|⟨b,off,rfl,hcell⟩
   ·rw [h0] at hkl;simp at hkl
   ·have hck:=hcell k hkl
    have hfr:=hblk.free (zo+k)
    have hco:=hblk.cell (zo+k) (by omega)
    have z1:=limb_lt M1 k
    have z2:=limb_lt hlz (zo+k)
    have hsame:=hout.same (zo+k) (by omega)
    have ha:=cZ (Z'.getD (zo+k) 0) (P.getD k 0) cy hcy
    obtain⟨q1,q2,q3⟩:=df (Z'.getD (zo+k) 0) (P.getD k 0) cy z2 z1 hcy
    have HS:=aa (cK Z Z' zo k cy _ _ (P.getD k 0) _ (by omega) hl HV.out (by rw [←hsame];exact q1))
    rw [←val_take_next P k] at HS
    generalize Z'.getD (zo+k) 0=z at *
    generalize P.getD k 0=x at *
    clear hsame q1
    generalize (z+x+cy) % 18446744073709551616=s at *
    generalize (z+x+cy) / 18446744073709551616=c2 at *
    clear hcell hblk hfr0 hout HV M1 L1 hB hLZ
    go_wp2
    go_roundw
    case rel=>exact⟨k+1,c2,Z'.set (zo+k) s,by omega,by go_num,rfl,q2,(HO.out.wider (Nat.le_refl _) (by omega)).set _ _ (by omega) (by omega),limbs_set hlz _ _ q3,HB.out.set _ s,HF.out.setCell _ _,HS.out⟩
    case measure=>simp [intOf];omega
  ·have ek:k=P.length:=by omega
   subst ek
   rw [List.take_length] at HV
   clear hblk hfr0 hout L1 hB M1 hLZ hl
   go_wp2
   go_loopw [4,7] (fun c i wr2=>∃(k cy:Nat) (Z2:List Nat),k≤n∧i=.int .i64 k∧c=.int .u64 cy∧cy≤1∧Out Z Z2 zo (zo+k)∧Limbs Z2∧Blk wr2 bz Z2∧Fr bz w wr2 ∧
     sv Z2 zo k+cy*18446744073709551616 ^ k=sv Z zo k+val P) (fun _ i _=>n - (intOf i).toNat)
   case atStart=>exact⟨P.length,cy,Z',hln,rfl,rfl,hcy,HO.out,hlz,HB.out,HF.out,HV.out⟩
   case round=>
    obtain⟨k,cy2,Z2,hk2,rfl,rfl,hcy2,hout2,hlz2,hblk2,hfr2,hval2⟩:=hrel
    clear HV HB HF HO
    have HV:=aa hval2
    have HB:=aa hblk2
    have HF:=aa hfr2
    have HO:=aa hout2
    have hl:=hout2.len
    clear hval2
    by_cases hc0:cy2=0
    ·subst hc0
     have HR:=aa (dX Z Z2 zo k n _ hk2 hzo hout2 (by have h:=HV.out;rw [Nat.zero_mul,Nat.add_zero] at h;exact h))
     clear hblk2 hfr2 hout2 HV
     go_wp2
     go_end0
     exact⟨rfl,Z2,HO.out.wider (Nat.le_refl _) (by omega),hlz2,HB.out,HF.out,HR.out⟩
    ·have hpos:(0:Int)<(cy2:Int):=by omega
     have hkn:k<n:=by
      rcases Nat.lt_or_ge k n with h|h
      ·exact h
      ·have ek:k=n:=by omega
       subst ek
       exact absurd (gf Z Z2 zo k cy2 (val P) HFIT.out HV.out) hc0
     have hfr:=hblk2.free (zo+k)
     have hco:=hblk2.cell (zo+k) (by omega)
     have z2:=limb_lt hlz2 (zo+k)
     have hsame:=hout2.same (zo+k) (by omega)
     have ha:=bC (Z2.getD (zo+k) 0) cy2
     obtain⟨q1,q2,q3⟩:=df (Z2.getD (zo+k) 0) 0 cy2 z2 (by omega) hcy2
     have HS:=aa (cK Z Z2 zo k cy2 _ _ 0 _ (by omega) hl HV.out (by rw [←hsame];exact q1))
     rw [Nat.mul_zero,Nat.add_zero] at HS
     rw [Nat.add_zero] at HS q2 q3
     generalize Z2.getD (zo+k) 0=z at *
     clear hsame q1
     generalize (z+cy2) % 18446744073709551616=s at *
     generalize (z+cy2) / 18446744073709551616=c2 at *
     clear hblk2 hfr2 hout2 HV hc0
     go_wp2
     go_roundw
     case rel=>exact⟨k+1,c2,Z2.set (zo+k) s,by omega,by go_num,rfl,q2,(HO.out.wider (Nat.le_refl _) (by omega)).set _ _ (by omega) (by omega),limbs_set hlz2 _ _ q3,HB.out.set _ s,HF.out.setCell _ _,HS.out⟩
     case measure=>simp [intOf];omega
end Go.Proofs.YtkhckcfikljjhaaGreatDoor

