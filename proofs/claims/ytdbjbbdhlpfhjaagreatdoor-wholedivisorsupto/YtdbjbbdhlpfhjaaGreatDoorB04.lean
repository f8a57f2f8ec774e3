/- Package div: shiftUp, shiftDown. -/
import Derived.Test.YtdbjbbdhlpfhjaaGreatDoorB03
import Derived.Test.YtdbjbbdhlpfhjaaGreatDoorB01
import Derived.Test.YtdbjbbdhlpfhjaaGreatDoorB02
import Derived.BigQuiet
set_option maxRecDepth 20000
set_option maxHeartbeats 1000000
namespace Go.Proofs.YtdbjbbdhlpfhjaaGreatDoor
open Go.RowKit
open Lm
attribute [local go_sem ↓] Go.wp_at_zero Go.wp_at_succ

theorem mF (Z':List Nat)(X:List Nat)(o k cy s:Nat)(hs:s≤64)(hz:o+k<Z'.length)
  (h:sv Z' o k+cy*18446744073709551616 ^ k=val (X.take k)*2 ^ s) :
  sv (Z'.set (o+k) (shl (X.getD k 0) s cy)) o (k+1)+X.getD k 0 / 2 ^ (64 - s)*18446744073709551616 ^ (k+1)=val (X.take (k+1))*2 ^ s:=by
 have h2:=shl_split (X.getD k 0) s cy hs
 rw [dm _ _ _ _ hz,val_take_next X k,show (18446744073709551616:Nat) ^ (k+1)=18446744073709551616 ^ k*18446744073709551616 from Nat.pow_succ ..]
 generalize sv Z' o k=A at *
 generalize X.getD k 0 / 2 ^ (64 - s)=C at *
 generalize shl (X.getD k 0) s cy=S at *
 generalize X.getD k 0=x at *
 generalize val (X.take k)=B at *
 generalize 2 ^ s=E at *
 generalize (18446744073709551616:Nat) ^ k=P at *
 generalize (18446744073709551616:Nat)=W at *
 grind

def mZ (bz zo:Nat)(Z X:List Nat)(s:Nat)(w:World)(e:Ending)(w':World):Prop:=
 ∃(cy:Nat) (Z':List Nat),cy<2 ^ s∧e=.returned (.int .u64 (cy:Int))∧Out Z Z' zo (zo+X.length)∧Limbs Z'∧Blk w' bz Z'∧Fr bz w w'∧sv Z' zo X.length+cy*18446744073709551616 ^ X.length=val X*2 ^ s

theorem iW (bz zo n cap:Nat)(Z:List Nat)(va:Value)(X:List Nat)(s:Nat)(w:World)(hB:Blk w bz Z)(hLZ:Limbs Z)(hA:Arg w va X)(ho:Off va bz zo (zo+n))
  (hzo:zo+n≤Z.length) (_hc1:n≤cap) (_hc2:cap≤9223372036854775807) (hfit:X.length≤n) (hs:s<64) :
  Calls Tryz.prog 107 #[.slice (some ⟨bz,zo,none⟩) n cap,va,.int .i64 s] w (mZ bz zo Z X s w):=by
 obtain⟨a1,c1,rfl,hcc1,hcm1,hl1⟩:=hA.form
 have hX:=hA.few
 have M1:=hA.limbs
 have hao:∀b off,a1=some ⟨b,off,none⟩→b≠bz∨off+X.length≤zo∨zo+n≤off:=fun b off e=>by
  subst e
  exact ho b off _ _ rfl
 have L1:=hl1
 clear ho hA hl1
 generalize X=P at *
 have HB0:=ac hB
 have HLZ:=ac hLZ
 go_enter Tryz.func107,Tryz.ntmps107
 go_wp2
 go_loopw [7,12] (fun c i wr=>∃(k cy:Nat) (Z':List Nat),k≤P.length∧i=.int .i64 k∧c=.int .u64 cy∧cy<2 ^ s∧Out Z Z' zo (zo+k)∧Limbs Z'∧Blk wr bz Z'∧Fr bz w wr ∧
   sv Z' zo k+cy*18446744073709551616 ^ k=val (P.take k)*2 ^ s) (fun _ i _=>P.length - (intOf i).toNat)
 case atStart=>exact⟨0,0,Z,Nat.zero_le _,rfl,rfl,Nat.two_pow_pos _,Out.refl _ _ _,HLZ.out,HB0.out,Fr.refl _ _,by simp [aW,val]⟩
 case round=>
  obtain⟨k,cy,Z',hk,rfl,rfl,hcy,hout,hlz,hblk,hfr0,hval⟩:=hrel
  have HV:=ac hval
  have HB:=ac hblk
  have HF:=ac hfr0
  have HO:=ac hout
  have HCY:=ac hcy
  have hl:=hout.len
  clear hval
  by_cases hkl:k<P.length
  ·rcases L1.fr hao hfr0 hB hblk (hout.wider (Nat.le_refl _) (by omega)) with h0|⟨b,off,rfl,hcell⟩
   ·rw [h0] at hkl;simp at hkl
   ·have hck:=hcell k hkl
    have hfr:=hblk.free (zo+k)
    have hco:=hblk.cell (zo+k) (by omega)
    have z1:=limb_lt M1 k
    have HS:=ac (mF Z' P zo k cy s (by omega) (by omega) HV.out)
    generalize Z'.getD (zo+k) 0=z at *
    generalize P.getD k 0=x at *
    clear hcell hblk hfr0 hout HV M1 L1 hB hLZ hcy
    go_wp2
    go_roundw
    case rel=>
     rw [walk_shl x s cy (by omega) HCY.out,walk_shr]
     exact⟨k+1,x / 2 ^ (64 - s),Z'.set (zo+k) (shl x s cy),by omega,by go_num,rfl,shr_lt x s (by omega) z1,(HO.out.wider (Nat.le_refl _) (by omega)).set _ _ (by omega) (by omega),limbs_set hlz _ _ (shl_lt x s cy (by omega) HCY.out),HB.out.set _ _,HF.out.setCell _ _,HS.out⟩
    case measure=>simp [intOf];omega
  ·have ek:k=P.length:=by omega
   subst ek
   rw [List.take_length] at HV
   clear hblk hfr0 hout L1 hB M1 hLZ hl hcy
   go_wp2
   go_ret
   exact⟨cy,Z',HCY.out,rfl,HO.out,hlz,HB.out,HF.out,HV.out⟩

theorem pX (X:List Nat)(s j:Nat)(hs:s<64)(hj:j<X.length) :
  shr (X.getD j 0) (X.getD (j+1) 0) s+18446744073709551616*(val (X.drop (j+1)) / 2 ^ s)=val (X.drop j) / 2 ^ s:=by
 have h1:=val_drop_next X j hj
 have h2:val (X.drop (j+1)) % 2 ^ s=X.getD (j+1) 0 % 2 ^ s:=by
  by_cases hj2:j+1<X.length
  ·rw [val_drop_next X (j+1) hj2,two64 s (by omega),Nat.mul_comm (2 ^ (64 - s)),Nat.mul_assoc,Nat.add_mul_mod_self_left]
  ·have e1:X.drop (j+1)=[]:=List.drop_eq_nil_of_le (by omega)
   have e2:X.getD (j+1) 0=0:=by simp [List.getD,Nat.le_of_not_lt hj2]
   rw [e1,e2];simp [val]
 have h3:=Nat.div_add_mod (val (X.drop (j+1))) (2 ^ s)
 unfold shr
 rw [h1,←h2]
 have hW:=two64 s (by omega)
 have hp:=Nat.two_pow_pos s
 have hp2:=Nat.two_pow_pos (64 - s)
 generalize X.getD j 0=x at *
 generalize val (X.drop (j+1)) % 2 ^ s=r at *
 generalize val (X.drop (j+1)) / 2 ^ s=q at *
 generalize val (X.drop (j+1))=S at *
 rw [←h3,hW]
 generalize 2 ^ (64 - s)=E at *
 generalize 2 ^ s=D at *
 have e:x+E*D*(D*q+r)=x+D*(r*E+E*D*q):=by grind
 rw [e,Nat.add_mul_div_left _ _ hp]
 omega

theorem pK (bz zo n cap:Nat)(Z:List Nat)(va:Value)(X:List Nat)(s:Nat)(w:World)(hB:Blk w bz Z)(hLZ:Limbs Z)(hA:Arg w va X)(ho:Off va bz zo (zo+n))
  (hzo:zo+n≤Z.length) (_hc1:n≤cap) (_hc2:cap≤9223372036854775807) (hn:X.length≤n) (hn2:n≤X.length) (hs:s<64) :
  Calls Tryz.prog 113 #[.slice (some ⟨bz,zo,none⟩) n cap,va,.int .i64 s] w (aK bz zo n Z w (val X / 2 ^ s)):=by
 obtain⟨a1,c1,rfl,hcc1,hcm1,hl1⟩:=hA.form
 have hX:=hA.few
 have M1:=hA.limbs
 have hao:∀b off,a1=some ⟨b,off,none⟩→b≠bz∨off+X.length≤zo∨zo+n≤off:=fun b off e=>by
  subst e
  exact ho b off _ _ rfl
 have L1:=hl1
 clear ho hA hl1
 have HB0:=ac hB
 have HLZ:=ac hLZ
 have ec:(64:Int) - (s:Int)=((64 - s:Nat):Int):=by omega
 go_enter Tryz.func113,Tryz.ntmps113
 go_wp2
 go_loopw [6,7] (fun c i wr=>∃(k:Nat) (Z':List Nat),k≤X.length∧i=.int .i64 ((k:Int) - 1)∧c=.int .u64 (IntKind.u64.wrap (((X.getD k 0:Nat):Int)*2 ^ (64 - s)))∧Out Z Z' (zo+k) (zo+n)∧Limbs Z'∧Blk wr bz Z'∧Fr bz w wr ∧
   sv Z' (zo+k) (n - k)=val (X.drop k) / 2 ^ s) (fun _ i _=>(intOf i+1).toNat)
 case atStart=>
  have e0:X.getD X.length 0=0:=by simp [List.getD]
  refine⟨X.length,Z,Nat.le_refl _,by go_num,?_,Out.refl _ _ _,HLZ.out,HB0.out,Fr.refl _ _,?_⟩
  ·rw [e0];simp [IntKind.wrap_u64]
  ·have:n - X.length=0:=by omega
   rw [this,aW,List.drop_length];simp [val]
 case round=>
  obtain⟨k,Z',hk,rfl,rfl,hout,hlz,hblk,hfr0,hval⟩:=hrel
  have hl:=hout.len
  by_cases hk0:k=0
  ·subst hk0
   rw [Nat.add_zero,Nat.sub_zero,List.drop_zero] at hval
   have HD:Hid (Out Z Z' zo (zo+n)∧Limbs Z'∧Blk wr bz Z'∧Fr bz w wr∧sv Z' zo n=val X / 2 ^ s):=ac ⟨by simpa using hout,hlz,hblk,hfr0,hval⟩
   generalize IntKind.u64.wrap (((X.getD 0 0:Nat):Int)*2 ^ (64 - s))=cy at *
   clear hout hlz hblk hfr0 hval L1 hB
   go_wp2
   go_end0
   exact⟨rfl,Z',HD.out⟩
  ·obtain⟨j,rfl⟩:∃j,k=j+1:=⟨k - 1,by omega⟩
   rcases L1.fr hao hfr0 hB hblk (hout.wider (by omega) (Nat.le_refl _)) with h0|⟨b,off,rfl,hcell⟩
   ·rw [h0] at hk;simp at hk
   ·have hck:=hcell j (by omega)
    have hst:=pX X s j hs (by omega)
    have hcons':∀t,sv (Z'.set (zo+j) t) (zo+j) (n - j)=t+18446744073709551616*sv Z' (zo+(j+1)) (n - (j+1)):=fun t=>by
     rw [dl (Z'.set (zo+j) t) zo j n (by simp;omega) (by omega),cW,if_pos ⟨rfl,by omega⟩]
     have e:Out Z' (Z'.set (zo+j) t) (zo+j) (zo+(j+1)):=(Out.refl _ _ _).set _ _ (by omega) (by omega)
     rw [e.sv (zo+(j+1)) (n - (j+1)) (by omega)]
    have hfr:=hblk.free (zo+j)
    have hco:=hblk.cell (zo+j) (by omega)
    have z1:=limb_lt M1 j
    have HS:=ac (hcons' (shr (X.getD j 0) (X.getD (j+1) 0) s))
    rw [hval,hst] at HS
    have hor:=walk_shr2 (X.getD j 0) (X.getD (j+1) 0) s hs z1
    have hsl:=shr_lt2 (X.getD j 0) (X.getD (j+1) 0) s hs z1
    generalize shr (X.getD j 0) (X.getD (j+1) 0) s=sh at *
    generalize IntKind.u64.wrap (((X.getD (j+1) 0:Nat):Int)*2 ^ (64 - s))=cy at *
    have HXJ:Hid (X.getD j 0=X.getD j 0):=rfl
    generalize hxj:X.getD j 0=x at *
    have HX:=ac hxj
    clear hxj HXJ
    generalize Z'.getD (zo+j) 0=z at *
    have ej:(((j+1:Nat):Int) - 1)=(j:Int):=by omega
    rw [ej]
    have HB:=ac hblk
    have HF:=ac hfr0
    have HO:=ac hout
    clear hblk hfr0 hout ej hcell hcons' hst hval L1 hB M1
    have hi1:(0:Int)≤(j:Int):=by omega
    have hi2:(j:Int)<(n:Int):=by omega
    have hi3:(j:Int)<(X.length:Int):=by omega
    go_wp2
    go_roundw
    case rel=>
     exact⟨j,Z'.set (zo+j) sh,by omega,rfl,by rw [HX.out],(HO.out.wider (by omega) (Nat.le_refl _)).set _ _ (Nat.le_refl _) (by omega),limbs_set hlz _ _ hsl,HB.out.set _ sh,HF.out.setCell _ _,HS.out⟩
    case measure=>simp [intOf]
end Go.Proofs.YtdbjbbdhlpfhjaaGreatDoor
namespace Go.Proofs.YtdbjbbdhlpfhjaaGreatDoor
namespace Lm

structure Tops (U V U2 u3 top next:Nat):Prop where
 ex:∃k E a b:Nat,0<k∧0<E∧a<E∧b<E∧k*U=(U2*18446744073709551616+u3)*E+a∧k*V=(top*18446744073709551616+next)*E+b
 u3:u3<18446744073709551616
 next:next<18446744073709551616

theorem Tops.le {U V U2 u3 top next Q:Nat}(h:Tops U V U2 u3 top next)(hQ:Q*V≤U):Q*(top*18446744073709551616+next)≤U2*18446744073709551616+u3:=by
 obtain⟨k,E,a,b,hk,hE,ha,hb,eU,eV⟩:=h.ex
 clear h
 generalize (18446744073709551616:Nat)=W at *
 generalize U2*W+u3=U3 at *
 generalize top*W+next=V2 at *
 have h1:k*(Q*V)≤k*U:=Nat.mul_le_mul_left k hQ
 have e1:k*(Q*V)=Q*V2*E+Q*b:=by
  have:k*(Q*V)=Q*(k*V):=by rw [←Nat.mul_assoc,Nat.mul_comm k Q,Nat.mul_assoc]
  rw [this,eV,Nat.mul_add,Nat.mul_assoc]
 have h2:Q*V2*E<(U3+1)*E:=by rw [Nat.add_mul,Nat.one_mul];omega
 have:=Nat.lt_of_mul_lt_mul_right h2
 omega

theorem Tops.first {U V U2 u3 top next Q:Nat}(h:Tops U V U2 u3 top next)(hQ:Q*V≤U):Q*top≤U2:=by
 have h1:=h.le hQ
 have h2:=h.u3
 rw [Nat.mul_add,←Nat.mul_assoc] at h1
 have h3:Q*top*18446744073709551616<(U2+1)*18446744073709551616:=by omega
 have:=Nat.lt_of_mul_lt_mul_right h3
 omega

theorem Tops.down {U V U2 u3 top next Q q rest:Nat}(h:Tops U V U2 u3 top next)(hQ:Q*V≤U)(e:q*top+rest=U2)(hb:rest*18446744073709551616+u3<q*next):Q<q:=by
 refine Nat.lt_of_not_le fun hq=>?_
 have h1:=h.le hQ
 have h2:=Nat.mul_le_mul_right (top*18446744073709551616+next) hq
 rw [Nat.mul_add,←Nat.mul_assoc] at h2
 rw [←e,Nat.add_mul] at h1
 omega

theorem Tops.up {U V U2 u3 top next q:Nat}(h:Tops U V U2 u3 top next)(hq:q<18446744073709551616)(ht:9223372036854775808≤top)(hle:q*(top*18446744073709551616+next)≤U2*18446744073709551616+u3):q*V<U+V:=by
 obtain⟨k,E,a,b,hk,hE,ha,hb,eU,eV⟩:=h.ex
 have h3:q≤top*18446744073709551616+next:=by omega
 have h8:1≤top*18446744073709551616+next:=by omega
 clear h hq ht
 generalize (18446744073709551616:Nat)=W at *
 generalize U2*W+u3=U3 at *
 generalize top*W+next=V2 at *
 have e1:k*(q*V)=q*V2*E+q*b:=by
  have:k*(q*V)=q*(k*V):=by rw [←Nat.mul_assoc,Nat.mul_comm k q,Nat.mul_assoc]
  rw [this,eV,Nat.mul_add,Nat.mul_assoc]
 have h4:=Nat.mul_le_mul_right E hle
 have h5:q*b≤q*E:=Nat.mul_le_mul_left q (Nat.le_of_lt hb)
 have h6:=Nat.mul_le_mul_right E h3
 refine Nat.lt_of_mul_lt_mul_left (a:=k) ?_
 rw [e1,Nat.mul_add,eU,eV]
 rcases Nat.eq_zero_or_pos q with h0|h0
 ·subst h0
  have h7:0<k*V:=by
   rw [eV]
   have:=Nat.mul_le_mul h8 hE
   omega
  rw [eV] at h7
  simp only [Nat.zero_mul,Nat.zero_add]
  omega
 ·have h7:q*b<q*E:=Nat.mul_lt_mul_of_pos_left hb h0
  omega

theorem guess_end {U V q:Nat}(hV:0<V)(h1:U / V≤q)(h2:q*V<U+V):q=U / V∨q=U / V+1:=by
 have h3:q<U / V+2:=by
  refine Nat.lt_of_not_le fun h=>?_
  have h4:=Nat.mul_le_mul_right V h
  have h5:=Nat.div_add_mod U V
  have h6:=Nat.mod_lt U hV
  rw [Nat.add_mul] at h4
  rw [Nat.mul_comm] at h5
  omega
 omega

end Lm
end Go.Proofs.YtdbjbbdhlpfhjaaGreatDoor
namespace Go.Proofs.YtdbjbbdhlpfhjaaGreatDoor
open Go.RowKit
open Lm

theorem mA (hi lo y:Nat)(w:World)(hy:y<18446744073709551616)(hhi:hi<y)(hlo:lo<18446744073709551616) :
  Calls Tryz.prog 204 #[.int .u64 hi,.int .u64 lo,.int .u64 y] w fun e w'=>e=.returned (.tuple #[.int .u64 (((hi*18446744073709551616+lo) / y:Nat):Int),.int .u64 (((hi*18446744073709551616+lo) % y:Nat):Int)])∧aD w w':=by
 by_cases h:hi=0
 ·subst h
  have:=lS lo y w hy hhi hlo
  rw [Nat.zero_mul,Nat.zero_add]
  exact this
 ·exact kZ hi lo y w hy (by omega) hhi hlo
end Go.Proofs.YtdbjbbdhlpfhjaaGreatDoor
namespace Go.Proofs.YtdbjbbdhlpfhjaaGreatDoor
open Go.RowKit
open Lm
attribute [local go_sem ↓] Go.wp_at_zero Go.wp_at_succ

def limbI (X:List Nat)(i:Int):Nat:=if i<0 then 0 else X.getD i.toNat 0

theorem fK {X:List Nat}(h:Limbs X)(i:Int):limbI X i<18446744073709551616:=by
 unfold limbI
 split
 ·omega
 ·exact limb_lt h _

theorem jO (ao:Option Addr)(cap:Nat)(X:List Nat)(i:Int)(w:World)(hX:X.length≤1125899906842624)(hi1:-9223372036854775808≤i)(hi2:i≤9223372036854775807)(hl:aG w ao X) :
  Calls Tryz.prog 156 #[.slice ao X.length cap,.int .i64 i] w fun e w'=>e=.returned (.int .u64 ((limbI X i:Nat):Int))∧w'=w:=by
 by_cases h0:i<0
 ·have e:limbI X i=0:=if_pos h0
  rw [e]
  clear hl
  go_enter Tryz.func156,Tryz.ntmps156
  go_wp2
  go_ret
  exact⟨rfl,rfl⟩
 ·obtain⟨n,rfl⟩:∃n:Nat,i=(n:Int):=⟨i.toNat,by omega⟩
  have e:limbI X (n:Int)=X.getD n 0:=by unfold limbI;rw [if_neg h0,Int.toNat_natCast]
  rw [e]
  by_cases hn:n<X.length
  ·rcases hl with rfl|⟨b,off,rfl,hc⟩
   ·simp at hn
   ·have hci:=hc n hn
    clear hc e
    have i1:(n:Int)<(X.length:Int):=by omega
    generalize X.getD n 0=z at hci ⊢
    go_enter Tryz.func156,Tryz.ntmps156
    go_wp2
    go_ret
    exact⟨rfl,rfl⟩
  ·have e2:X.getD n 0=0:=by simp [List.getD,Nat.le_of_not_lt hn]
   rw [e2]
   have i1:(X.length:Int)≤(n:Int):=by omega
   clear hl e e2
   go_enter Tryz.func156,Tryz.ntmps156
   go_wp2
   go_ret
   exact⟨rfl,rfl⟩

theorem rH (hi lo top:Nat)(w:World)(hh:hi≤top)(hlo:lo<18446744073709551616)(ht:top<18446744073709551616)(_ht0:0<top) :
  Calls Tryz.prog 226 #[.int .u64 hi,.int .u64 lo,.int .u64 top] w fun e w'=>(∃q r o:Nat,e=.returned (.tuple #[.int .u64 q,.int .u64 r,.int .u64 o])∧q<18446744073709551616∧r<18446744073709551616∧o≤1 ∧
   q*top+(r+o*18446744073709551616)=hi*18446744073709551616+lo∧((hi*18446744073709551616+lo) / top≤q∨q=18446744073709551615))∧aD w w':=by
 by_cases h:hi<top
 ·have HD:=mA hi lo top w ht h hlo
  have h1:=Nat.div_add_mod (hi*18446744073709551616+lo) top
  have h2:(hi*18446744073709551616+lo) / top<18446744073709551616:=by
   rw [Nat.div_lt_iff_lt_mul _ht0]
   have:=Nat.mul_le_mul_right 18446744073709551616 (Nat.succ_le_of_lt h)
   rw [Nat.mul_comm 18446744073709551616 top]
   omega
  have h3:=Nat.mod_lt (hi*18446744073709551616+lo) _ht0
  rw [Nat.mul_comm top] at h1
  have HQ:Hid ((hi*18446744073709551616+lo) / top*top+(hi*18446744073709551616+lo) % top=hi*18446744073709551616+lo):=h1
  have HL:Hid ((hi*18446744073709551616+lo) / top≤(hi*18446744073709551616+lo) / top):=Nat.le_refl _
  clear h1
  obtain⟨q,eq,r,er⟩:∃q,Hid ((hi*18446744073709551616+lo) / top=q)∧∃r,Hid ((hi*18446744073709551616+lo) % top=r):=⟨_,ac rfl,_,ac rfl⟩
  rw [eq.out,er.out] at HD HQ
  rw [eq.out] at h2 HL
  rw [er.out] at h3
  go_enter Tryz.func226,Tryz.ntmps226
  go_wp2_with fail
  refine HD.mono ?_
  rintro e w2 ⟨rfl,hs⟩
  have HS:=ac hs
  clear hs HD
  go_wp2
  go_ret3
  exact⟨⟨q,r,0,rfl,h2,by omega,by omega,by have:=HQ.out;omega,.inl (by rw [eq.out];exact Nat.le_refl _)⟩,HS.out⟩
 ·have ha:=bO lo top
  have hc:¬((hi:Int)<(top:Int)):=by omega
  have e1:(lo+top) % 18446744073709551616+(lo+top) / 18446744073709551616*18446744073709551616=lo+top:=by omega
  have e2:(lo+top) / 18446744073709551616≤1:=by omega
  have e3:(lo+top) % 18446744073709551616<18446744073709551616:=by omega
  have HE:=ac e1
  clear e1
  generalize (lo+top) % 18446744073709551616=s at *
  generalize (lo+top) / 18446744073709551616=c at *
  go_enter Tryz.func226,Tryz.ntmps226
  go_wp2
  go_ret3
  exact⟨⟨18446744073709551615,s,c,rfl,by omega,e3,e2,by have:=HE.out;omega,.inr rfl⟩,aD.refl _⟩

theorem nP (U V:List Nat)(j:Nat)(hU:Limbs U)(hV:Limbs V)(lV:V.length=j+1)(lU:U.length=j+2) :
  Tops (val U) (val V) (U.getD (j+1) 0*18446744073709551616+U.getD j 0) (limbI U ((j:Int) - 1)) (V.getD j 0) (limbI V ((j:Int) - 1)):=by
 refine⟨?_,fK hU _,fK hV _⟩
 cases j with
 | zero=>
  refine⟨18446744073709551616,1,0,0,by omega,by omega,by omega,by omega,?_,?_⟩
  ·have h1:=val_drop_next U 0 (by omega)
   have h2:=val_drop_next U 1 (by omega)
   have h3:U.drop 2=[]:=List.drop_eq_nil_of_le (by omega)
   have h4:limbI U (((0:Nat):Int) - 1)=0:=by simp [limbI]
   rw [h3] at h2
   simp only [List.drop_zero,val,Nat.zero_add] at h1 h2
   rw [h4,h1,h2,Nat.zero_add]
   omega
  ·have h1:=val_drop_next V 0 (by omega)
   have h3:V.drop 1=[]:=List.drop_eq_nil_of_le (by omega)
   have h4:limbI V (((0:Nat):Int) - 1)=0:=by simp [limbI]
   simp only [List.drop_zero,Nat.zero_add,h3,val] at h1
   rw [h4,h1]
   omega
 | succ i=>
  refine⟨1,18446744073709551616 ^ i,val (U.take i),val (V.take i),by omega,Nat.pow_pos (by omega),val_take_lt hU i,val_take_lt hV i,?_,?_⟩
  ·have h0:=val_parts U i (by omega)
   have h1:=val_drop_next U i (by omega)
   have h2:=val_drop_next U (i+1) (by omega)
   have h5:=val_drop_next U (i+2) (by omega)
   have h3:U.drop (i+3)=[]:=List.drop_eq_nil_of_le (by omega)
   have h4:limbI U (((i+1:Nat):Int) - 1)=U.getD i 0:=by
    unfold limbI
    rw [if_neg (by omega)]
    congr 1
    omega
   rw [show i+2+1=i+3 from rfl,h3] at h5
   rw [show i+1+1=i+2 from rfl] at h2
   have h6:val ([]:List Nat)=0:=rfl
   rw [h6,Nat.mul_zero,Nat.add_zero] at h5
   rw [h4,h0,h1,h2,h5,show i+1+1=i+2 from rfl]
   generalize val (U.take i)=a
   generalize U.getD i 0=b
   generalize U.getD (i+1) 0=c
   generalize U.getD (i+2) 0=d
   generalize (18446744073709551616:Nat) ^ i=E
   generalize (18446744073709551616:Nat)=W
   grind
  ·have h0:=val_parts V i (by omega)
   have h1:=val_drop_next V i (by omega)
   have h2:=val_drop_next V (i+1) (by omega)
   have h3:V.drop (i+2)=[]:=List.drop_eq_nil_of_le (by omega)
   have h4:limbI V (((i+1:Nat):Int) - 1)=V.getD i 0:=by
    unfold limbI
    rw [if_neg (by omega)]
    congr 1
    omega
   rw [show i+1+1=i+2 from rfl,h3] at h2
   have h6:val ([]:List Nat)=0:=rfl
   rw [h6,Nat.mul_zero,Nat.add_zero] at h2
   rw [h4,h0,h1,h2]
   generalize val (V.take i)=a
   generalize V.getD i 0=b
   generalize V.getD (i+1) 0=c
   generalize (18446744073709551616:Nat) ^ i=E
   generalize (18446744073709551616:Nat)=W
   grind

theorem qy {U V uh ul u3 top next:Nat}(h:Tops U V (uh*18446744073709551616+ul) u3 top next)(huv:U<V*18446744073709551616):uh≤top:=by
 obtain⟨k,E,a,b,hk,hE,ha,hb,eU,eV⟩:=h.ex
 have hn:=h.next
 clear h
 refine Nat.le_of_not_lt fun hlt=>?_
 have h1:k*U<k*(V*18446744073709551616):=Nat.mul_lt_mul_of_pos_left huv hk
 rw [←Nat.mul_assoc,eU,eV] at h1
 have h2:top*18446744073709551616+next+1≤(top+1)*18446744073709551616:=by omega
 have h3:(top+1)*18446744073709551616≤uh*18446744073709551616+ul:=by omega
 clear hn huv
 generalize (18446744073709551616:Nat)=W at *
 generalize top*W+next=V2 at *
 generalize uh*W+ul=U2 at *
 have h4:(V2+1)*E*W≤U2*E*W:=Nat.mul_le_mul_right _ (Nat.mul_le_mul_right _ (by omega))
 have h5:(V2*E+b)*W≤(V2+1)*E*W:=Nat.mul_le_mul_right _ (by rw [Nat.add_mul];omega)
 have h6:U2*E*W≤(U2*W+u3)*E+a:=by
  have:(U2*W+u3)*E=U2*E*W+u3*E:=by grind
  omega
 omega

theorem pn (vu vv:Value)(U V:List Nat)(j:Nat)(w:World)(hU:Arg w vu U)(hV:Arg w vv V)(lV:V.length=j+1)(lU:U.length=j+2)
  (ht:9223372036854775808≤V.getD j 0) (huv:val U<val V*18446744073709551616) :
  Calls Tryz.prog 206 #[vu,vv] w fun e w'=>(∃q:Nat,e=.returned (.int .u64 q)∧q<18446744073709551616∧(q=val U / val V∨q=val U / val V+1))∧aD w w':=by
 have hT:=nP U V j hU.limbs hV.limbs lV lU
 have hh:=qy hT huv
 have HT:=ac hT
 have hvp:0<val V:=by
  rcases Nat.eq_zero_or_pos (val V) with h|h
  ·rw [h] at huv;omega
  ·exact h
 have HQ:Hid (val U / val V<18446744073709551616∧val U / val V*val V≤val U):=⟨by rw [Nat.div_lt_iff_lt_mul hvp,Nat.mul_comm];exact huv,Nat.div_mul_le_self _ _⟩
 have HVP:=ac hvp
 have hXU:=hU.few
 have hXV:=hV.few
 have z1:=limb_lt hU.limbs (j+1)
 have z2:=limb_lt hU.limbs j
 have z3:=limb_lt hV.limbs j
 have z4:=fK hU.limbs ((j:Int) - 1)
 have z5:=fK hV.limbs ((j:Int) - 1)
 obtain⟨a1,c1,rfl,hcc1,hcm1,hl1⟩:=hU.form
 obtain⟨a2,c2,rfl,hcc2,hcm2,hl2⟩:=hV.form
 have e2:(V.length:Int) - 2=(j:Int) - 1:=by omega
 have DU:Hid (∀w',aD w w'→Calls Tryz.prog 156 #[.slice a1 U.length c1,.int .i64 ((j:Int) - 1)] w' fun e w''=>e=.returned (.int .u64 ((limbI U ((j:Int) - 1):Nat):Int))∧w''=w'):=fun w' h=>jO a1 c1 U ((j:Int) - 1) w' hXU (by omega) (by omega) (hl1.below (h.below _))
 have D2:=fun n=>jO a2 c2 V ((j:Int) - 1) (w.drewN n) hXV (by omega) (by omega) (hl2.below (((aD.refl w).drewN n).below _))
 rcases hl1 with h0|⟨b,off,rfl,hcell⟩
 ·rw [h0] at lU;simp at lU
 rcases hl2 with h0|⟨b2,off2,rfl,hcell2⟩
 ·rw [h0] at lV;simp at lV
 have r1:w.cell? ⟨b,off+V.length,none⟩=some (.int .u64 ((U.getD (j+1) 0:Nat):Int)):=by rw [lV];exact hcell (j+1) (by omega)
 have r2:=hcell j (by omega)
 have r3:=hcell2 j (by omega)
 have e1:(V.length:Int) - 1=(j:Int):=by omega
 have k1:V.length<U.length:=by omega
 have k2:j<V.length:=by omega
 have k3:(V.length:Int)<(U.length:Int):=by omega
 have k4:(j:Int)<(V.length:Int):=by omega
 have k5:(j:Int)<(U.length:Int):=by omega
 have k7:(0:Int)≤(j:Int):=by omega
 have wj:IntKind.i64.wrap (j:Int)=(j:Int):=by rw [IntKind.wrap_i64];omega
 have k8:j<U.length:=by omega
 have k6:V.length≤1125899906842624:=hXV
 clear hcell hcell2 hU hV
 have HLV:=ac (And.intro lV lU)
 clear lV lU
 generalize hE1:limbI V ((j:Int) - 1)=next at *
 generalize hE2:limbI U ((j:Int) - 1)=u3 at *
 generalize hE3:U.getD (j+1) 0=uh at *
 generalize hE4:U.getD j 0=ul at *
 generalize hE5:V.getD j 0=top at *
 clear hE1 hE2 hE3 hE4 hE5 hT
 go_enter Tryz.func206,Tryz.ntmps206
 go_wp2
 go_quiet (first | (go_at_call 156;exact (D2 _).mono (fun _ _ h=>⟨h.1,_,h.2⟩)))
 have FG:=fun w'=>rH uh ul top w' hh z2 z3 (by omega)
 obtain⟨w1,hw1⟩:∃w1,w1=w.drewN nq:=⟨_,rfl⟩
 have S1:=ac (show aD w w1 by rw [hw1];exact (aD.refl _).drewN _)
 replace r1:w1.cell? ⟨b,off+V.length,none⟩=some (.int .u64 (uh:Int)):=by rw [hw1];exact r1
 replace r2:w1.cell? ⟨b,off+j,none⟩=some (.int .u64 (ul:Int)):=by rw [hw1];exact r2
 have KC:Hid (∀w',aD w1.drew w'→w'.cell? ⟨b,off+V.length,none⟩=some (.int .u64 (uh:Int))∧w'.cell? ⟨b,off+j,none⟩=some (.int .u64 (ul:Int))):=fun w' h=>by
  have hh:w'.heap=w1.heap:=h.heap
  refine⟨?_,?_⟩
  ·rw [←r1];simp only [World.cell?,hh]
  ·rw [←r2];simp only [World.cell?,hh]
 rw [←hw1]
 clear hw1 D2 r3
 go_wp2
 go_region_held3 (fun w'=>w'.cell? ⟨b,off+V.length,none⟩=some (.int .u64 uh)∧w'.cell? ⟨b,off+j,none⟩=some (.int .u64 ul)) (go_keep) (first | (go_at_call 226;refine (FG _).mono ?_;rintro e w2 ⟨⟨q,r,o,rfl,hq,hr,ho,hqe,hql⟩,hs⟩;obtain⟨g1,g2⟩:=KC.out w2 hs))
 have S2:=ac (S1.out.drew.trans hs)
 have HI:Hid (val U / val V≤q):=by
  rcases hql with h|h
  ·have h1:=HT.out.first HQ.out.2
   have h2:val U / val V≤(uh*18446744073709551616+ul) / top:=(Nat.le_div_iff_mul_le (by omega)).2 h1
   exact Nat.le_trans h2 h
  ·have:=HQ.out.1
   show val U / val V≤q
   omega
 have HE:=ac hqe
 clear hqe hql hs S1 KC g1 g2 r1 r2 FG
 go_wp2
 go_loopw [8,9,10] (fun a b c wr=>∃q r o:Nat,a=.int .u64 q∧b=.int .u64 r∧c=.int .u64 o∧q<18446744073709551616∧r<18446744073709551616∧o≤1∧q*top+(r+o*18446744073709551616)=uh*18446744073709551616+ul∧val U / val V≤q∧aD w wr) (fun a _ _ _=>(intOf a).toNat)
 case atStart=>exact⟨q,r,o,rfl,rfl,rfl,hq,hr,ho,HE.out,HI.out,S2.out⟩
 case round=>
  clear S2 HE HI hq hr ho
  obtain⟨q,r,o,rfl,rfl,rfl,hq,hr,ho,hqe,hql,hs⟩:=hrel
  have HS:=ac hs
  have HE:=ac hqe
  have HI:=ac hql
  have DL:=DU.out wr hs
  have hmx:q*next<18446744073709551616*18446744073709551616:=by
   rcases Nat.eq_zero_or_pos next with h|h
   ·rw [h];omega
   ·exact Nat.mul_lt_mul_of_lt_of_lt hq z5
  have hsplit:q*(top*18446744073709551616+next)=q*top*18446744073709551616+q*next:=by rw [Nat.mul_add,Nat.mul_assoc]
  by_cases ho0:o=0
  ·subst ho0
   have hM:=Tryz.bits_Mul64 q next hq z5 wr
   have hPd:q*next / 18446744073709551616*18446744073709551616+q*next % 18446744073709551616=q*next:=by omega
   have hPh:q*next / 18446744073709551616<18446744073709551616:=by omega
   have hPl:q*next % 18446744073709551616<18446744073709551616:=by omega
   have hqe2:q*top+r=uh*18446744073709551616+ul:=by omega
   have HUP:Hid (q*next≤r*18446744073709551616+u3→q=val U / val V∨q=val U / val V+1):=fun hle=>by
    refine guess_end HVP.out HI.out (HT.out.up hq ht ?_)
    rw [hsplit]
    omega
   have HDN:Hid (r*18446744073709551616+u3<q*next→val U / val V<q):=fun hlt=>HT.out.down HQ.out.2 hqe2 hlt
   have HQ2:=ac hqe2
   clear hqe hql hsplit hmx hqe2 HE
   generalize hPP:q*next=PP at *
   clear hPP
   obtain⟨h,hh1⟩:∃h,PP / 18446744073709551616=h:=⟨_,rfl⟩
   obtain⟨l,hl1⟩:∃l,PP % 18446744073709551616=l:=⟨_,rfl⟩
   rw [hh1] at hPd hPh hM
   rw [hl1] at hPd hPl hM
   clear hh1 hl1
   have HPD:=ac hPd
   clear hPd
   by_cases c1:h<r
   ·have HEND:=ac (HUP.out (by have:=HPD.out;omega))
    have i1:(h:Int)<(r:Int):=by omega
    clear HUP HDN DL hs
    go_wp2_with fail
    refine hM.mono ?_
    rintro e w3 ⟨rfl,rfl⟩
    clear hM
    go_wp2
    go_ret
    exact⟨⟨q,rfl,hq,HEND.out⟩,HS.out⟩
   ·have i1:¬((h:Int)<(r:Int)):=by omega
    by_cases c2:h=r
    ·have i2:((h:Int) == (r:Int))=true:=by rw [beq_iff_eq];omega
     by_cases c3:l≤u3
     ·have HEND:=ac (HUP.out (by have:=HPD.out;rw [c2] at this;omega))
      have i3:(l:Int)≤(u3:Int):=by omega
      have HC2:=ac c2
      clear HUP HDN hs c2
      go_wp2_with fail
      refine hM.mono ?_
      rintro e w3 ⟨rfl,rfl⟩
      clear hM
      go_wp2_with fail
      refine DL.mono ?_
      rintro e w3 ⟨rfl,rfl⟩
      clear DL
      go_wp2
      go_ret
      exact⟨⟨q,rfl,hq,HEND.out⟩,HS.out⟩
     ·have HD:=ac (HDN.out (by have:=HPD.out;rw [c2] at this;omega))
      have i3:¬((l:Int)≤(u3:Int)):=by omega
      have HC2:=ac c2
      clear HUP HDN hs c2
      have ha:=bO r top
      have hq1:1≤q:=Nat.succ_le_of_lt (Nat.lt_of_le_of_lt (Nat.zero_le _) HD.out)
      have HSUM:Hid ((q - 1)*top+((r+top) % 18446744073709551616+(r+top) / 18446744073709551616*18446744073709551616)=uh*18446744073709551616+ul):=by
       refine ac ?_
       have e1:=HQ2.out
       have e2:(q - 1)*top+top=q*top:=by
        have:q - 1+1=q:=by omega
        rw [←this,Nat.add_mul,Nat.one_mul]
        simp
       have e3:(r+top) % 18446744073709551616+(r+top) / 18446744073709551616*18446744073709551616=r+top:=by omega
       rw [e3]
       generalize (q - 1)*top=x1 at *
       generalize q*top=x2 at *
       omega
      have y1:(r+top) % 18446744073709551616<18446744073709551616:=by omega
      have y2:(r+top) / 18446744073709551616≤1:=by omega
      generalize (r+top) % 18446744073709551616=r2 at *
      generalize (r+top) / 18446744073709551616=o2 at *
      have eq1:(q:Int) - 1=((q - 1:Nat):Int):=by omega
      have HQL:Hid (val U / val V≤q - 1∧q - 1<q):=⟨Nat.le_sub_one_of_lt HD.out,by omega⟩
      have hq2:q - 1<18446744073709551616:=by omega
      obtain⟨q2,hq2e⟩:∃q2,q - 1=q2:=⟨_,rfl⟩
      rw [hq2e] at eq1 HSUM HQL hq2
      clear hq2e
      go_wp2_with fail
      refine hM.mono ?_
      rintro e w3 ⟨rfl,rfl⟩
      clear hM
      go_wp2_with fail
      refine DL.mono ?_
      rintro e w3 ⟨rfl,rfl⟩
      clear DL
      go_wp2
      go_roundw
      case rel=>exact⟨q2,r2,o2,rfl,rfl,rfl,hq2,y1,y2,HSUM.out,HQL.out.1,HS.out⟩
      case measure=>have:=HQL.out.2;simp [intOf];omega
    ·have hrh:r*18446744073709551616+u3<PP:=by
      have hp:=HPD.out
      have hrh1:r+1≤h:=by omega
      omega
     have HD:=ac (HDN.out hrh)
     clear hrh
     have i2:((h:Int) == (r:Int))=false:=by rw [beq_eq_false_iff_ne];omega
     clear HUP HDN hs DL
     have ha:=bO r top
     have hq1:1≤q:=Nat.succ_le_of_lt (Nat.lt_of_le_of_lt (Nat.zero_le _) HD.out)
     have HSUM:Hid ((q - 1)*top+((r+top) % 18446744073709551616+(r+top) / 18446744073709551616*18446744073709551616)=uh*18446744073709551616+ul):=by
      refine ac ?_
      have e1:=HQ2.out
      have e2:(q - 1)*top+top=q*top:=by
       have:q - 1+1=q:=by omega
       rw [←this,Nat.add_mul,Nat.one_mul]
       simp
      have e3:(r+top) % 18446744073709551616+(r+top) / 18446744073709551616*18446744073709551616=r+top:=by omega
      rw [e3]
      generalize (q - 1)*top=x1 at *
      generalize q*top=x2 at *
      omega
     have y1:(r+top) % 18446744073709551616<18446744073709551616:=by omega
     have y2:(r+top) / 18446744073709551616≤1:=by omega
     generalize (r+top) % 18446744073709551616=r2 at *
     generalize (r+top) / 18446744073709551616=o2 at *
     have eq1:(q:Int) - 1=((q - 1:Nat):Int):=by omega
     have HQL:Hid (val U / val V≤q - 1∧q - 1<q):=⟨Nat.le_sub_one_of_lt HD.out,by omega⟩
     have hq2:q - 1<18446744073709551616:=by omega
     obtain⟨q2,hq2e⟩:∃q2,q - 1=q2:=⟨_,rfl⟩
     rw [hq2e] at eq1 HSUM HQL hq2
     clear hq2e
     go_wp2_with fail
     refine hM.mono ?_
     rintro e w3 ⟨rfl,rfl⟩
     clear hM
     go_wp2
     go_roundw
     case rel=>exact⟨q2,r2,o2,rfl,rfl,rfl,hq2,y1,y2,HSUM.out,HQL.out.1,HS.out⟩
     case measure=>have:=HQL.out.2;simp [intOf];omega
  ·have HEND:Hid (q=val U / val V∨q=val U / val V+1):=by
    refine guess_end HVP.out HI.out (HT.out.up hq ht ?_)
    rw [hsplit]
    have e:o=1:=by omega
    subst e
    omega
   have hne:((o:Int) == 0)=false:=by rw [beq_eq_false_iff_ne];omega
   clear hqe hql hs DL hsplit hmx
   go_wp2
   go_ret
   exact⟨⟨q,rfl,hq,HEND.out⟩,HS.out⟩

theorem nf (v b:Nat)(hv:v<18446744073709551616)(hb:b≤2) :
  3*((v+18446744073709551616 - b) % 18446744073709551616*12297829382473034411 % 18446744073709551616)+b=v+((v+18446744073709551616 - b) % 18446744073709551616*12297829382473034411 % 18446744073709551616*3 / 18446744073709551616+bor v b 0)*18446744073709551616 ∧
  (v+18446744073709551616 - b) % 18446744073709551616*12297829382473034411 % 18446744073709551616*3 / 18446744073709551616+bor v b 0≤2 ∧
  (v+18446744073709551616 - b) % 18446744073709551616<18446744073709551616:=by
 have hr:(v+18446744073709551616 - b) % 18446744073709551616<18446744073709551616:=Nat.mod_lt _ (by omega)
 have hsub:=(kV v b hv (by omega)).1
 generalize (v+18446744073709551616 - b) % 18446744073709551616=r at *
 have ht:r*12297829382473034411 % 18446744073709551616<18446744073709551616:=Nat.mod_lt _ (by omega)
 have h3:r*12297829382473034411 % 18446744073709551616*3 % 18446744073709551616=r:=by omega
 generalize r*12297829382473034411 % 18446744073709551616=t at *
 generalize bor v b 0=u at *
 refine⟨by omega,by omega,hr⟩

theorem pV (Z Z':List Nat)(o k b b2 t:Nat)(hz:o+k<Z'.length)(hl:Z'.length=Z.length)(h:3*sv Z' o k=sv Z o k+b*18446744073709551616 ^ k)(hs:3*t+b=Z.getD (o+k) 0+b2*18446744073709551616) :
  3*sv (Z'.set (o+k) t) o (k+1)=sv Z o (k+1)+b2*18446744073709551616 ^ (k+1):=by
 rw [dm _ _ _ _ hz,dU Z o k (by omega),show (18446744073709551616:Nat) ^ (k+1)=18446744073709551616 ^ k*18446744073709551616 from Nat.pow_succ ..]
 generalize sv Z' o k=A at *
 generalize sv Z o k=B at *
 generalize Z.getD (o+k) 0=z at *
 generalize (18446744073709551616:Nat) ^ k=P at *
 generalize (18446744073709551616:Nat)=W at *
 grind

theorem oh (n:Nat):18446744073709551616 ^ n % 3=1:=by
 induction n with
 | zero=>rfl
 | succ n ih=>rw [Nat.pow_succ,Nat.mul_mod,ih]

theorem qt (q s b P:Nat)(hP:P % 3=1)(hs:s % 3=0)(hb:b≤2)(h:3*q=s+b*P):q=s / 3:=by
 have h1:(s+b*P) % 3=0:=by rw [←h];exact Nat.mul_mod_right 3 q
 have h2:(b*P) % 3=b % 3:=by rw [Nat.mul_mod,hP,Nat.mul_one,Nat.mod_mod]
 have h3:b=0:=by omega
 subst h3
 omega

theorem pQ (bz zo n cap:Nat)(Z:List Nat)(w:World)(hB:Blk w bz Z)(hLZ:Limbs Z)(hzo:zo+n≤Z.length)(hc1:n≤cap)(hc2:cap≤9223372036854775807)(h3:sv Z zo n % 3=0) :
  Calls Tryz.prog 219 #[.slice (some ⟨bz,zo,none⟩) n cap] w (aK bz zo n Z w (sv Z zo n / 3)):=by
 have HB0:=ac hB
 have HLZ:=ac hLZ
 have H3:=ac h3
 clear hB h3
 go_enter Tryz.func219,Tryz.ntmps219
 go_wp2
 go_loopw [2,11] (fun c i wr=>∃(k b:Nat) (Z':List Nat),k≤n∧i=.int .i64 k∧c=.int .u64 b∧b≤2∧Out Z Z' zo (zo+k)∧Limbs Z'∧Blk wr bz Z'∧Fr bz w wr ∧
   3*sv Z' zo k=sv Z zo k+b*18446744073709551616 ^ k) (fun _ i _=>n - (intOf i).toNat)
 case atStart=>exact⟨0,0,Z,Nat.zero_le _,rfl,rfl,by omega,Out.refl _ _ _,HLZ.out,HB0.out,Fr.refl _ _,by simp [aW]⟩
 case round=>
  obtain⟨k,b,Z',hk,rfl,rfl,hb,hout,hlz,hblk,hfr0,hval⟩:=hrel
  have hl:=hout.len
  have HV:=ac hval
  have HB:=ac hblk
  have HF:=ac hfr0
  have HO:=ac hout
  clear hval
  by_cases hkl:k<n
  ·have hfr:=hblk.free (zo+k)
   have hco:=hblk.cell (zo+k) (by omega)
   have z2:=limb_lt hlz (zo+k)
   have hsame:=hout.same (zo+k) (by omega)
   obtain⟨q1,q2,q3⟩:=nf (Z'.getD (zo+k) 0) b z2 hb
   have HS:=ac (pV Z Z' zo k b _ _ (by omega) hl HV.out (by rw [←hsame];exact q1))
   have ha:=d7 (Z'.getD (zo+k) 0) b
   generalize Z'.getD (zo+k) 0=v at *
   clear hsame q1
   generalize (v+18446744073709551616 - b) % 18446744073709551616=r at *
   generalize bor v b 0=u at *
   have ht:r*12297829382473034411 % 18446744073709551616<18446744073709551616:=Nat.mod_lt _ (by omega)
   have e1:IntKind.u64.wrap ((r:Int)*12297829382473034411)=((r*12297829382473034411 % 18446744073709551616:Nat):Int):=by rw [IntKind.wrap_u64];omega
   generalize r*12297829382473034411 % 18446744073709551616=t at *
   have hM:=fun w'=>Tryz.bits_Mul64 t 3 ht (by omega) w'
   generalize t*3 / 18446744073709551616=h1 at *
   have e2:(h1:Int)+(u:Int)=((h1+u:Nat):Int):=by omega
   generalize h1+u=c2 at *
   clear hblk hfr0 hout HV
   go_wp2_with fail
   refine (hM _).mono ?_
   rintro e w2 ⟨rfl,hw⟩
   subst hw
   clear hM
   go_wp2
   go_roundw
   case rel=>exact⟨k+1,c2,Z'.set (zo+k) t,by omega,by go_num,rfl,q2,(HO.out.wider (Nat.le_refl _) (by omega)).set _ _ (by omega) (by omega),limbs_set hlz _ _ ht,HB.out.set _ t,HF.out.setCell _ _,HS.out⟩
   case measure=>simp [intOf];omega
  ·have ek:k=n:=by omega
   subst ek
   have HE:=ac (qt _ _ b _ (oh k) H3.out hb HV.out)
   clear hblk hfr0 hout HV
   go_wp2
   go_end0
   exact⟨rfl,Z',HO.out,hlz,HB.out,HF.out,HE.out⟩
end Go.Proofs.YtdbjbbdhlpfhjaaGreatDoor
namespace Go.Proofs.YtdbjbbdhlpfhjaaGreatDoor
open Go.RowKit
open Lm

def iC (v u:Value):Prop:=(∀bz lo hi,Off u bz lo hi→Off v bz lo hi)∧∀bz,bV u bz→bV v bz

theorem Arg.cut {w:World}{b off n cap:Nat}{X:List Nat}(h:Arg w (.slice (some ⟨b,off,none⟩) n cap) X)(i m:Nat)(hi:i+m≤n):Arg w (.slice (some ⟨b,off+i,none⟩) m (cap - i)) ((X.drop i).take m):=by
 obtain⟨ao,c,h1,h2,h3,h4⟩:=h.form
 cases h1
 have hl:((X.drop i).take m).length=m:=by simp;omega
 refine⟨⟨_,_,by rw [hl],by rw [hl];omega,by omega,?_⟩,fun z hz=>h.limbs z (List.mem_of_mem_drop (List.mem_of_mem_take hz)),by rw [hl];have:=h.few;omega,fun n c e=>by cases e⟩
 rcases h4 with h4|⟨b',off',he,hc⟩
 ·subst h4;exact .inl (by simp)
 ·cases he
  refine .inr ⟨b,off+i,rfl,fun k hk=>?_⟩
  rw [hl] at hk
  rw [Nat.add_assoc,hc (i+k) (by omega)]
  simp [List.getD,hk]

theorem kK (b off n cap i m:Nat)(hi:i+m≤n):iC (.slice (some ⟨b,off+i,none⟩) m (cap - i)) (.slice (some ⟨b,off,none⟩) n cap):=⟨fun bz lo hi' h b' off' n' c' e=>by
 cases e
 rcases h b off n cap rfl with h1|h1|h1
 ·exact .inl h1
 ·exact .inr (.inl (by omega))
 ·exact .inr (.inr (by omega)),fun bz h b' off' n' c' e=>by
 cases e
 exact h b off n cap rfl⟩

theorem la (b off cap at' m:Nat)(X:List Nat)(w:World)(hA:Arg w (.slice (some ⟨b,off,none⟩) X.length cap) X)(hat:at'<X.length)(hm:m≤1125899906842624) :
  Calls Tryz.prog 221 #[.slice (some ⟨b,off,none⟩) X.length cap,.int .i64 at',.int .i64 m] w fun e w'=>(∃v,e=.returned v∧Arg w v ((X.drop at').take m)∧iC v (.slice (some ⟨b,off,none⟩) X.length cap))∧w'=w:=by
 have hX:=hA.few
 obtain⟨_,_,e0,hcc,hcm,_⟩:=hA.form
 cases e0
 have i1:(at':Int)<(X.length:Int):=by omega
 have i2:(0:Int)≤(at':Int):=by omega
 have k1:¬cap=at':=by omega
 have m1:min (at':Int) (X.length:Int)=(at':Int):=by omega
 by_cases h:at'+m≤X.length
 ·have HA:=ac (hA.cut at' m h)
  have HW:=ac (kK b off X.length cap at' m h)
  obtain⟨s,es,hs1,hs2,es2⟩:∃s:Nat,(at':Int)+(m:Int)=(s:Int)∧s≤X.length∧at'≤s∧s - at'=m:=⟨at'+m,by omega,h,by omega,by omega⟩
  have i3:(s:Int)≤(X.length:Int):=by omega
  have i4:(at':Int)≤(s:Int):=by omega
  have m2:min (s:Int) (X.length:Int)=(s:Int):=by omega
  clear hA h
  go_enter Tryz.func221,Tryz.ntmps221
  go_wp2
  go_ret
  exact⟨⟨_,rfl,HA.out,HW.out⟩,rfl⟩
 ·have et:(X.drop at').take m=(X.drop at').take (X.length - at'):=by
   rw [List.take_of_length_le (by simp;omega),List.take_of_length_le (by simp)]
  have HA:=ac (hA.cut at' (X.length - at') (by omega))
  rw [←et] at HA
  have HW:=ac (kK b off X.length cap at' (X.length - at') (by omega))
  obtain⟨s,es,hs1⟩:∃s:Nat,(at':Int)+(m:Int)=(s:Int)∧X.length≤s:=⟨at'+m,by omega,by omega⟩
  have m2:min (s:Int) (X.length:Int)=(X.length:Int):=by omega
  have i4:(at':Int)≤(X.length:Int):=by omega
  clear hA h et
  go_enter Tryz.func221,Tryz.ntmps221
  go_wp2
  go_ret
  exact⟨⟨_,rfl,HA.out,HW.out⟩,rfl⟩

theorem mH (X:List Nat)(t l y:Nat):val (X.take (t+l))*y=val (X.take t)*y+18446744073709551616 ^ t*(val ((X.drop t).take l)*y)∨X.length<t:=by
 by_cases h:t≤X.length
 ·left
  rw [List.take_add,val_append,List.length_take,Nat.min_eq_left h,Nat.add_mul,Nat.mul_assoc]
 ·exact .inr (by omega)

theorem mh (X:List Nat)(t:Nat):val (X.take t)≤val X:=by
 conv=>rhs;rw [←List.take_append_drop t X,val_append]
 omega

theorem ir (Z:List Nat)(o t n p tot:Nat)(ht:t≤n)(ho:o+n≤Z.length)(h:sv Z o n+18446744073709551616 ^ t*p≤tot)(htot:tot<18446744073709551616 ^ n):sv Z (o+t) (n - t)+p<18446744073709551616 ^ (n - t):=by
 obtain⟨d,rfl⟩:∃d,n=t+d:=⟨n - t,by omega⟩
 rw [aF _ _ _ _ (by omega)] at h
 rw [Nat.pow_add] at htot
 rw [Nat.add_sub_cancel_left]
 have h2:18446744073709551616 ^ t*(sv Z (o+t) d+p)<18446744073709551616 ^ t*18446744073709551616 ^ d:=by
  rw [Nat.mul_add];omega
 exact Nat.lt_of_mul_lt_mul_left h2

theorem gV (Z Z':List Nat)(o t n p:Nat)(ht:t≤n)(ho:o+n≤Z.length)(hO:Out Z Z' (o+t) (o+n))(h:sv Z' (o+t) (n - t)=sv Z (o+t) (n - t)+p):sv Z' o n=sv Z o n+18446744073709551616 ^ t*p:=by
 obtain⟨d,rfl⟩:∃d,n=t+d:=⟨n - t,by omega⟩
 rw [Nat.add_sub_cancel_left] at h
 rw [aF Z' _ _ _ (by rw [hO.len];omega),aF Z _ _ _ (by omega),h,hO.sv o t (by omega),Nat.mul_add]
 omega
end Go.Proofs.YtdbjbbdhlpfhjaaGreatDoor
namespace Go.Proofs.YtdbjbbdhlpfhjaaGreatDoor
open Go.RowKit
open Lm
attribute [local go_sem ↓] Go.wp_at_zero Go.wp_at_succ

theorem g8 (bz zo n cap:Nat)(Z:List Nat)(w:World)(hB:Blk w bz Z)(hLZ:Limbs Z)(hzo:zo+n≤Z.length) :
  ∃(w1:World) (Z1:List Nat),(∀ty,(Builtin.clear_ #[25] ty #[.slice (some ⟨bz,zo,none⟩) n cap]).run Tryz.prog w=.ok (.tuple #[]) w1)∧Out Z Z1 zo (zo+n)∧Limbs Z1∧Blk w1 bz Z1∧Fr bz w w1∧sv Z1 zo n=0:=by
 rcases Nat.eq_zero_or_pos n with h0|h0
 ·subst h0
  exact⟨w,Z,fun ty=>ia _ _ _ _,Out.refl _ _ _,hLZ,hB,Fr.refl _ _,aW _ _⟩
 ·have hlr:(List.replicate n 0).length=n:=by simp
  have e1:=cB (List.replicate n 0) Z zo
  have e2:=cR (List.replicate n 0) Z zo (by rw [hlr];exact hzo)
  rw [hlr] at e1 e2
  exact⟨_,lay Z zo (List.replicate n 0),fun ty=>ei bz zo _ cap Z w ty hB hzo h0,e1,cU _ (limbs_replicate _) _ _ hLZ,Blk.setCells _ _ hB,(Fr.refl _ _).setCells _ _,by rw [e2,val_replicate]⟩

theorem Fr.blk {bz g:Nat}{w w':World}{M:List Nat}(h:Fr bz w w')(hb:Blk w g M)(hne:g≠bz):Blk w' g M:=by
 unfold Blk
 rw [h.block g hb.lt hne];exact hb

theorem Blk.below' {w w':World}{b:Nat}{xs:List Nat}(h:Blk w b xs)(hb:Below w.heap.size w w'):Blk w' b xs:=by
 unfold Blk
 rw [hb.block b h.lt];exact h

theorem Fr.other {bz g:Nat}{w a b:World}(h:Fr bz w a)(k:Fr g a b)(hg:w.heap.size≤g):Fr bz w b:=
 ⟨k.os.trans h.os,k.tape.trans h.tape,k.output.trans h.output,Nat.le_trans h.size k.size,fun i h1 h2=>(k.block i (Nat.lt_of_lt_of_le h1 h.size) (by omega)).trans (h.block i h1 h2)⟩

theorem Arg.block {w:World}{b off n c:Nat}{X:List Nat}(h:Arg w (.slice (some ⟨b,off,none⟩) n c) X)(h0:0<X.length):b<w.heap.size:=by
 obtain⟨ao,cc,e,_,_,hl⟩:=h.form
 cases e
 exact aG.block hl h0

theorem Off.far {v:Value}{g lo hi:Nat}{w:World}{X:List Nat}(hA:Arg w v X)(h0:0<X.length)(hg:w.heap.size≤g):Off v g lo hi:=fun b off n c e=>by
 subst e
 have:=hA.block h0
 exact .inl (by omega)

theorem bV.far {v:Value}{g:Nat}{w:World}{X:List Nat}(hA:Arg w v X)(h0:0<X.length)(hg:w.heap.size≤g):bV v g:=fun b off n c e=>by
 subst e
 have:=hA.block h0
 omega

theorem Blk.take_arg {w:World}{g:Nat}{M:List Nat}(h:Blk w g M)(hl:Limbs M)(s cap:Nat)(hs:s≤M.length)(hc:s≤cap)(hm:cap≤1125899906842624):Arg w (.slice (some ⟨g,0,none⟩) s cap) (M.take s):=by
 have e:(M.take s).length=s:=by simp;omega
 refine⟨⟨_,cap,by rw [e],by omega,by omega,.inr ⟨g,0,rfl,fun k hk=>?_⟩⟩,fun z hz=>hl z (List.mem_of_mem_take hz),by omega,fun n c e=>by cases e⟩
 rw [e] at hk
 rw [Nat.zero_add,h.cell k (by omega)]
 simp [List.getD,hk]

theorem rC (M:List Nat)(s:Nat):val (M.take s)=sv M 0 s:=by simp [sv,seg]

theorem fI (H T:Int)(bz zo cap:Nat)(Z:List Nat)(va vb:Value)(X Y:List Nat)(w:World)(hB:Blk w bz Z)(hLZ:Limbs Z)(hA:Arg w va X)(hA2:Arg w vb Y)
  (ho:Off va bz zo (zo+(X.length+Y.length))) (ho2:Off vb bz zo (zo+(X.length+Y.length))) (hzo:zo+(X.length+Y.length)≤Z.length) (hc1:X.length+Y.length≤cap) (hc2:cap≤9223372036854775807)
  (hY:0<Y.length) (hlY:Y.length≤17592186044000) (hI:∀t,t<X.length→cf H T ((X.drop t).take Y.length) Y) :
  Calls Tryz.prog 193 #[way H T,.slice (some ⟨bz,zo,none⟩) (X.length+Y.length) cap,va,vb] w (aK bz zo (X.length+Y.length) Z w (val X*val Y)):=by
 generalize hn:X.length+Y.length=n at *
 have hn1:n≤X.length+Y.length:=by omega
 have hn2:X.length+Y.length≤n:=by omega
 have HEN:=ac hn
 clear hn
 unfold way
 obtain⟨a1,c1,rfl,hcc1,hcm1,hl1⟩:=hA.form
 obtain⟨a2,c2,rfl,hcc2,hcm2,hl2⟩:=hA2.form
 have fX:=hA.few
 obtain⟨i0,hi,hz0,hz1,hz2⟩:=info_parts Tryz.infoU
 obtain⟨w1,hw1⟩:∃w1,w1=w.alloc (.cells #[.int .i64 H,.int .i64 T] 117):=⟨_,rfl⟩
 have hbel1:Below w.heap.size w w1:=by rw [hw1];exact (Below.refl _ _).alloc (Nat.le_refl _) _
 have hs1:w1.heap.size=w.heap.size+1:=by rw [hw1];simp
 have hb1:w1.heap[w.heap.size]?=some (.cells #[.int .i64 H,.int .i64 T] 117):=by rw [hw1];exact heap_alloc_new ..
 have hbz:=hB.lt
 have hB1:Blk w1 bz Z:=by rw [hw1];exact hB.alloc _
 obtain⟨w2,Z2,hrun,hO2,hL2,hB2,hF2,hS2⟩:=g8 bz zo n cap Z w1 hB1 hLZ hzo
 have hbx2:w2.heap[w.heap.size]?=some (.cells #[.int .i64 H,.int .i64 T] 117):=by rw [hF2.block w.heap.size (by omega) (by omega)];exact hb1
 have HF02:=ac ((Fr.of_below (bz:=bz) hbel1).trans hF2)
 have hs2:=hF2.size
 have HW1:=ac hw1
 have HO2:=ac hO2
 have HB2:=ac hB2
 have HX2:=ac hbx2
 have HS2:=ac hS2
 have HII:=ac hI
 have HHA:=ac hA
 have HHA2:=ac hA2
 have HOF:=ac ho
 have HOF2:=ac ho2
 have HB0:=ac hB
 have mX:=val_lt hA.limbs
 have mY:=val_lt hA2.limbs
 have HTOT:Hid (val X*val Y<18446744073709551616 ^ (X.length+Y.length)):=ac (by rw [Nat.pow_add];exact Nat.mul_lt_mul'' mX mY)
 clear hw1 hbel1 hb1 hB1 hO2 hB2 hbx2 hF2 hS2 hI hA hA2 ho ho2 hl1 hl2 mX mY hB hLZ
 obtain⟨L,hL1,eL⟩:∃L:Nat,L=2*Y.length∧(2:Int)*(Y.length:Int)=(L:Int):=⟨2*Y.length,rfl,by omega⟩
 have hLa:L≤2*Y.length:=by omega
 have hLb:2*Y.length≤L:=by omega
 clear hL1
 rw [HW1.out] at hrun
 go_enter Tryz.func193,Tryz.ntmps193
 go_wp2_with (at_make;refine wpList_make_full _ rfl _ _ 25 rfl w2.heap.size 61 i0 (.int .u64 0) 1 Tryz.underlying25 hi hz0 hz1 .i64 .i64 _ _ L rfl rfl (by omega) (by omega) (by rw [hz2];omega) (by unfold maxLen;omega) (Nat.le_refl _) ?_;intro w3 hown hgrow)
 have hm3:=Blk.made hown
 have hbel3:Below w2.heap.size w2 w3:=(Below.refl _ _).grown hgrow (Nat.le_refl _) (fun k hk=>by cases hk)
 obtain⟨g,hg⟩:∃g,g=w2.heap.size:=⟨_,rfl⟩
 rw [←hg] at hm3 ⊢
 have hgw:w.heap.size<g:=by omega
 have hgbz:g≠bz:=by omega
 have HB3:Hid (Blk w3 bz Z2):=ac (HB2.out.below' hbel3)
 have HX3:Hid (w3.heap[w.heap.size]?=some (.cells #[.int .i64 H,.int .i64 T] 117)):=ac (by rw [hbel3.block w.heap.size (by omega)];exact HX2.out)
 have HF3:Hid (Fr bz w w3):=ac (HF02.out.trans (Fr.of_below hbel3))
 clear hown hgrow hi hz0 hz1 hz2 hg hbel3 HB2 HX2 HF02 hrun HW1
 go_loopw [9] (fun i wr=>∃(t:Nat) (Z' M:List Nat),t≤n∧i=.int .i64 t∧Out Z Z' zo (zo+n)∧Limbs Z'∧Blk wr bz Z'∧M.length=L∧Limbs M∧Blk wr g M∧wr.heap[w.heap.size]?=some (.cells #[.int .i64 H,.int .i64 T] 117)∧Fr bz w wr ∧
   sv Z' zo n=val (X.take t)*val Y) (fun i _=>X.length - (intOf i).toNat)
 case atStart=>exact⟨0,Z2,_,Nat.zero_le _,rfl,HO2.out,hL2,HB3.out,by simp,limbs_replicate _,hm3,HX3.out,HF3.out,by rw [HS2.out];simp [val]⟩
 case round=>
  obtain⟨t,Z',M,htn,rfl,hout,hlz,hblk,hML,hMl,hM,hbx,hfr0,hval⟩:=hrel
  clear HB3 HX3 HF3 hm3 HO2 hL2 HS2
  have hl:=hout.len
  by_cases htl:t<X.length
  ·have hAX:=HHA.out.fr HOF.out hfr0 HB0.out hblk hout
   have hAY:=HHA2.out.fr HOF2.out hfr0 HB0.out hblk hout
   obtain⟨ao,cc,e0,_,_,hlx⟩:=hAX.form
   cases e0
   rcases hlx with h0|⟨b,off,rfl,_⟩
   ·rw [h0] at htl;simp at htl
   have HP:=la b off c1 t Y.length X wr hAX htl (by omega)
   have lP:((X.drop t).take Y.length).length≤Y.length:=by simp;omega
   have hstep:=(mH X t Y.length (val Y)).resolve_right (by omega)
   have htot2:val (X.take (t+Y.length))*val Y≤val X*val Y:=Nat.mul_le_mul_right _ (mh X _)
   have hIP:=HII.out t htl
   have hOg:bV (.slice (some ⟨b,off,none⟩) X.length c1) g:=bV.far HHA.out (by omega) (by omega)
   have hOg2:bV (.slice a2 Y.length c2) g:=bV.far HHA2.out hY (by omega)
   have hc0:wr.cell? ⟨w.heap.size,0,none⟩=some (.int .i64 H):=by simp [World.cell?,hbx]
   have hc1':wr.cell? ⟨w.heap.size,1,none⟩=some (.int .i64 T):=by simp [World.cell?,hbx]
   generalize (X.drop t).take Y.length=P at *
   have HST:=ac hstep
   have HT2:=ac htot2
   have HV:=ac hval
   have HBX:=ac hbx
   have HHM:=ac hM
   have HBK:=ac hblk
   have HFR:=ac hfr0
   have HO:=ac hout
   have HAY:=ac hAY
   clear hstep htot2 hval hbx hAX hblk hfr0 hout hAY
   go_wp2_with fail
   refine HP.mono ?_
   rintro e w4 ⟨⟨v,rfl,AP,HWi⟩,hw⟩
   subst hw
   obtain⟨ap,cp,rfl,hcp1,hcp2,_⟩:=AP.form
   have HI:=hIP g 0 L M _ _ w4 hM hMl AP HAY.out (HWi.2 _ hOg) hOg2 (by omega) (by omega) (by omega)
   obtain⟨s,es1,es2,hs1,hs2⟩:∃s:Nat,P.length+Y.length=s∧(P.length:Int)+(Y.length:Int)=(s:Int)∧s≤L∧P.length+Y.length≤s:=⟨_,rfl,by omega,by omega,Nat.le_refl _⟩
   rw [es1] at HI
   unfold way at HI
   have is1:(s:Int)≤(L:Int):=by omega
   have is0:(0:Int)≤(s:Int):=by omega
   clear es1 HP hOg hOg2 AP HWi hM
   go_wp2_with fail
   refine HI.mono ?_
   rintro e w5 ⟨rfl,M',hO5,hl5,hB5,hF5,hv5⟩
   have hB5z:=hF5.blk HBK.out (Ne.symm hgbz)
   have hbx5:w5.heap[w.heap.size]?=some (.cells #[.int .i64 H,.int .i64 T] 117):=by
    rw [hF5.block w.heap.size (by have:=HHM.out.lt;omega) (by omega)];exact HBX.out
   have hM5:M'.length=L:=by rw [hO5.len];exact hML
   have hle5:sv Z' zo n+18446744073709551616 ^ t*(val P*val Y)≤val X*val Y:=by
    rw [HV.out,←HST.out];exact HT2.out
   have hvt:val (M'.take s)=val P*val Y:=by rw [rC,hv5]
   have hfit:=ir Z' zo t n (val P*val Y) _ (by omega) (by omega) hle5 (by rw [←HEN.out];exact HTOT.out)
   have HPl:=dc bz (zo+t) (n - t) (cap - t) Z' _ (M'.take s) w5 hB5z hlz (hB5.take_arg hl5 s L (by omega) (by omega) (by omega)) (fun b' off' n' c' e=>by cases e;exact .inl hgbz) (by omega) (by omega) (by omega) (by rw [hvt];exact hfit)
   rw [hvt] at HPl
   have HF5:=ac (HFR.out.other hF5 (by omega))
   have HB5:=ac hB5
   have HX5:=ac hbx5
   have k9:¬cap=t:=by omega
   have it1:(t:Int)≤(n:Int):=by omega
   have it0:(0:Int)≤(t:Int):=by omega
   clear hO5 hB5 hF5 hv5 hB5z hbx5 hle5 hvt hfit HI HBX HHM HBK HFR hc0 hc1'
   go_wp2_with fail
   refine HPl.mono ?_
   rintro e w6 ⟨rfl,Z'',hO6,hl6,hB6,hF6,hv6⟩
   rw [show zo+t+(n - t)=zo+n by omega] at hO6
   have HV6:=ac (gV Z' Z'' zo t n _ (by omega) (by omega) hO6 hv6)
   rw [HV.out,←HST.out] at HV6
   have HO6:=ac (HO.out.trans (hO6.wider (by omega) (Nat.le_refl _)))
   have HB6:=ac hB6
   have HM6:=ac (hF6.blk HB5.out hgbz)
   have HX6:Hid (w6.heap[w.heap.size]?=some (.cells #[.int .i64 H,.int .i64 T] 117)):=ac (by rw [hF6.block w.heap.size (by have:=HB5.out.lt;omega) (by omega)];exact HX5.out)
   have HF6:=ac (HF5.out.trans hF6)
   clear hO6 hB6 hF6 hv6 HPl HV HST HT2
   go_wp2
   go_roundw
   case rel=>exact⟨t+Y.length,Z'',M',by omega,by go_num,HO6.out,hl6,HB6.out,hM5,hl5,HM6.out,HX6.out,HF6.out,HV6.out⟩
   case measure=>simp [intOf];omega
  ·have HV:Hid (sv Z' zo n=val X*val Y):=ac (by rw [hval,List.take_of_length_le (by omega)])
   have HD:=ac (And.intro hout (And.intro hlz (And.intro hblk hfr0)))
   clear hout hlz hblk hM hbx hfr0 hval hMl hML
   go_wp2
   go_end0
   exact⟨rfl,Z',HD.out.1,HD.out.2.1,HD.out.2.2.1,HD.out.2.2.2,HV.out⟩
end Go.Proofs.YtdbjbbdhlpfhjaaGreatDoor
namespace Go.Proofs.YtdbjbbdhlpfhjaaGreatDoor
open Go.RowKit
open Lm

def jm (w:World)(n p:Nat)(e:Ending)(w':World):Prop:=
 ∃(g:Nat) (Z':List Nat),e=.returned (.slice (some ⟨g,0,none⟩) n n)∧w.heap.size≤g∧Z'.length=n∧Limbs Z'∧Blk w' g Z'∧val Z'=p∧Below w.heap.size w w'

theorem oV (H T:Int)(va vb:Value)(X Y:List Nat)(w:World)(hA:Arg w va X)(hA2:Arg w vb Y)(hX:0<X.length)(hY:0<Y.length)(hf:X.length+Y.length≤35184372088831)(hI:cf H T X Y) :
  Calls Tryz.prog 214 #[way H T,va,vb] w (jm w (X.length+Y.length) (val X*val Y)):=by
 unfold way
 obtain⟨a1,c1,rfl,hcc1,hcm1,_⟩:=hA.form
 obtain⟨a2,c2,rfl,hcc2,hcm2,_⟩:=hA2.form
 obtain⟨i0,hi,hz0,hz1,hz2⟩:=info_parts Tryz.infoU
 obtain⟨w1,hw1⟩:∃w1,w1=w.alloc (.cells #[.int .i64 H,.int .i64 T] 117):=⟨_,rfl⟩
 have hbel1:Below w.heap.size w w1:=by rw [hw1];exact (Below.refl _ _).alloc (Nat.le_refl _) _
 have hs1:w1.heap.size=w.heap.size+1:=by rw [hw1];simp
 have hb1:w1.heap[w.heap.size]?=some (.cells #[.int .i64 H,.int .i64 T] 117):=by rw [hw1];exact heap_alloc_new ..
 have HW1:=ac hw1
 have B1:=ac hbel1
 have HX1:=ac hb1
 clear hw1 hbel1 hb1
 obtain⟨n,hn,en⟩:∃n:Nat,X.length+Y.length=n∧(X.length:Int)+(Y.length:Int)=(n:Int):=⟨_,rfl,by omega⟩
 rw [hn]
 have hn1:n≤35184372088831:=by omega
 have HN:=ac hn
 clear hn
 go_enter Tryz.func214,Tryz.ntmps214
 go_wp2_with (at_make;(rw [←HW1.out];refine wpList_make_full _ rfl _ _ 25 rfl w1.heap.size 61 i0 (.int .u64 0) 1 Tryz.underlying25 hi hz0 hz1 .i64 .i64 _ _ n rfl rfl (by omega) (by omega) (by rw [hz2];omega) (by unfold maxLen;omega) (Nat.le_refl _) ?_;intro w3 hown hgrow;have hm3:=Blk.made hown;have hbel3:Below w1.heap.size w1 w3:=(Below.refl _ _).grown hgrow (Nat.le_refl _) (fun k hk=>by cases hk);have hbx3:w3.heap[w.heap.size]?=some (.cells #[.int .i64 H,.int .i64 T] 117):=(hbel3.block w.heap.size (by omega)).trans HX1.out;have hc0:w3.cell? ⟨w.heap.size,0,none⟩=some (.int .i64 H):=(by simp [World.cell?,hbx3]);have hc1:w3.cell? ⟨w.heap.size,1,none⟩=some (.int .i64 T):=(by simp [World.cell?,hbx3]);clear hown hgrow hbx3))
 rw [hs1] at hm3
 have B3:Hid (Below w.heap.size w w3):=ac (B1.out.trans (hbel3.mono B1.out.size))
 obtain⟨g,hg⟩:∃g,g=w.heap.size+1:=⟨_,rfl⟩
 rw [←hg] at hm3 ⊢
 have HI:=hI g 0 n (List.replicate n 0) _ _ w3 hm3 (limbs_replicate _) (hA.below B3.out) (hA2.below B3.out) (bV.far hA hX (by omega)) (bV.far hA2 hY (by omega)) (by simp;have:=HN.out;omega) (by have:=HN.out;omega) (by omega)
 rw [HN.out] at HI
 unfold way at HI
 have HG:=ac hg
 clear hg hm3 hbel3 hA hA2 hI
 go_wp2_with fail
 refine HI.mono ?_
 rintro e w5 ⟨rfl,Z',hO5,hl5,hB5,hF5,hv5⟩
 have hlen:Z'.length=n:=by rw [hO5.len];simp
 have hv:val Z'=val X*val Y:=by rw [←hv5,←hlen,ca]
 have HD:Hid (w.heap.size≤g∧Z'.length=n∧Limbs Z'∧Blk w5 g Z'∧val Z'=val X*val Y∧Below w.heap.size w w5):=ac ⟨by have:=HG.out;omega,hlen,hl5,hB5,hv,B3.out.trans (hF5.below (by have:=HG.out;omega) B3.out.size)⟩
 clear hO5 hl5 hB5 hF5 hv5 hv hlen HI B3
 go_wp2
 go_ret
 exact⟨g,Z',rfl,HD.out⟩

theorem rI (a0 a1 b0 b1 da db:Nat)(ha:da=if a0<a1 then a1 - a0 else a0 - a1)(hb:db=if b0<b1 then b1 - b0 else b0 - b1) :
  (if decide (a0<a1)≠decide (b0<b1) then a0*b0+a1*b1+da*db else a0*b0+a1*b1 - da*db)=a0*b1+a1*b0:=by
 subst ha;subst hb
 by_cases h1:a0<a1 <;> by_cases h2:b0<b1
 ·obtain⟨p,rfl⟩:∃p,a1=a0+p:=⟨a1 - a0,by omega⟩
  obtain⟨q,rfl⟩:∃q,b1=b0+q:=⟨b1 - b0,by omega⟩
  simp only [h1,h2,decide_true,if_true,ne_eq,not_true_eq_false,if_false,Nat.add_sub_cancel_left]
  have:a0*b0+(a0+p)*(b0+q)=a0*(b0+q)+(a0+p)*b0+p*q:=by grind
  omega
 ·obtain⟨p,rfl⟩:∃p,a1=a0+p:=⟨a1 - a0,by omega⟩
  obtain⟨q,rfl⟩:∃q,b0=b1+q:=⟨b0 - b1,by omega⟩
  simp only [h1,h2,decide_true,decide_false,if_true,if_false,ne_eq,Bool.true_eq_false,not_false_eq_true,Nat.add_sub_cancel_left]
  grind
 ·obtain⟨p,rfl⟩:∃p,a0=a1+p:=⟨a0 - a1,by omega⟩
  obtain⟨q,rfl⟩:∃q,b1=b0+q:=⟨b1 - b0,by omega⟩
  simp only [h1,h2,decide_true,decide_false,if_true,if_false,ne_eq,Bool.false_eq_true,not_false_eq_true,Nat.add_sub_cancel_left]
  grind
 ·obtain⟨p,rfl⟩:∃p,a0=a1+p:=⟨a0 - a1,by omega⟩
  obtain⟨q,rfl⟩:∃q,b0=b1+q:=⟨b0 - b1,by omega⟩
  simp only [h1,h2,decide_false,if_false,ne_eq,not_true_eq_false,Nat.add_sub_cancel_left]
  have:(a1+p)*(b1+q)+a1*b1=(a1+p)*b1+a1*(b1+q)+p*q:=by grind
  omega

theorem Arg.drew {w:World}{v:Value}{zs:List Nat}(h:Arg w v zs):Arg w.drew v zs:=h.below (Below.refl _ _).drew

theorem Arg.front {w:World}{b off n cap:Nat}{X:List Nat}(h:Arg w (.slice (some ⟨b,off,none⟩) n cap) X)(m:Nat)(hm:m≤n):Arg w (.slice (some ⟨b,off,none⟩) m cap) (X.take m):=h.cut 0 m (by omega)

theorem ce (X:List Nat)(h:Nat)(hh:h≤X.length):val X=val (X.take h)+18446744073709551616 ^ h*val (X.drop h):=by
 conv=>lhs;rw [←List.take_append_drop h X,val_append]
 rw [List.length_take,Nat.min_eq_left hh]

theorem cC {X:List Nat}(hX:Limbs X)(h:Nat)(hh:h≤X.length):val (X.take h)<18446744073709551616 ^ h:=by
 have:=val_lt (zs:=X.take h) (fun z hz=>hX z (List.mem_of_mem_take hz))
 rwa [List.length_take,Nat.min_eq_left hh] at this

theorem dM {X:List Nat}(hX:Limbs X)(h m:Nat)(hh:X.length≤h+m):val (X.drop h)<18446744073709551616 ^ m:=by
 have h1:=val_lt (zs:=X.drop h) (fun z hz=>hX z (List.mem_of_mem_drop hz))
 refine Nat.lt_of_lt_of_le h1 (Nat.pow_le_pow_right (by omega) ?_)
 simp;omega

theorem Fr.undrew {bz:Nat}{w w':World}(h:Fr bz w.drew w'):Fr bz w w':=⟨h.os,h.tape,h.output,h.size,h.block⟩

theorem Arg.frb {w w':World}{b off n c bz:Nat}{X:List Nat}(h:Arg w (.slice (some ⟨b,off,none⟩) n c) X)(hf:Fr bz w w')(hb:b≠bz):Arg w' (.slice (some ⟨b,off,none⟩) n c) X:=by
 obtain⟨ao,cc,e,h2,h3,hl⟩:=h.form
 cases e
 refine⟨⟨_,_,rfl,h2,h3,?_⟩,h.limbs,h.few,h.nz⟩
 rcases hl with h0|⟨b',off',e,hc⟩
 ·exact .inl h0
 ·cases e
  rcases Nat.eq_zero_or_pos X.length with h0|h0
  ·exact .inl (List.length_eq_zero_iff.1 h0)
  ·have hlt:b<w.heap.size:=aG.block (zs:=X) (.inr ⟨b,off,rfl,hc⟩) h0
   refine .inr ⟨b,off,rfl,fun k hk=>?_⟩
   rw [World.cell?_of_block (w:=w) (hf.block b hlt hb)]
   exact hc k hk

theorem Blk.seg_arg {w:World}{g:Nat}{M:List Nat}(h:Blk w g M)(hl:Limbs M)(o n cap:Nat)(hs:o+n≤M.length)(hc:n≤cap)(hm:cap≤9223372036854775807)(hn:n≤1125899906842624):Arg w (.slice (some ⟨g,o,none⟩) n cap) (seg M o n):=by
 have e:=bK M o n hs
 refine⟨⟨_,cap,by rw [e],by omega,hm,.inr ⟨g,o,rfl,fun k hk=>?_⟩⟩,dS hl o n,by omega,fun n c e=>by cases e⟩
 rw [e] at hk
 rw [h.cell (o+k) (by omega),dD _ _ _ _ hk]

structure Fr2 (b1 b2:Nat)(w w':World):Prop where
 os:w'.os=w.os
 tape:w'.tape=w.tape
 output:w'.output=w.output
 size:w.heap.size≤w'.heap.size
 block:∀k,k<w.heap.size→k≠b1→k≠b2→w'.heap[k]?=w.heap[k]?

theorem Fr2.refl (b1 b2:Nat)(w:World):Fr2 b1 b2 w w:=⟨rfl,rfl,rfl,Nat.le_refl _,fun _ _ _ _=>rfl⟩

theorem Fr2.trans {b1 b2:Nat}{a b c:World}(h:Fr2 b1 b2 a b)(k:Fr2 b1 b2 b c):Fr2 b1 b2 a c:=
 ⟨k.os.trans h.os,k.tape.trans h.tape,k.output.trans h.output,Nat.le_trans h.size k.size,fun i h1 h2 h3=>(k.block i (Nat.lt_of_lt_of_le h1 h.size) h2 h3).trans (h.block i h1 h2 h3)⟩

theorem Fr.left2 {b1 b2:Nat}{w w':World}(h:Fr b1 w w'):Fr2 b1 b2 w w':=⟨h.os,h.tape,h.output,h.size,fun k h1 h2 _=>h.block k h1 h2⟩

theorem Fr.right2 {b1 b2:Nat}{w w':World}(h:Fr b2 w w'):Fr2 b1 b2 w w':=⟨h.os,h.tape,h.output,h.size,fun k h1 _ h3=>h.block k h1 h3⟩

theorem Blk.frb {w w':World}{b bz:Nat}{xs:List Nat}(h:Blk w b xs)(hf:Fr bz w w')(hne:b≠bz):Blk w' b xs:=(hf.block b h.lt hne).trans h

theorem pm {S V q S1 X:Nat}(hV:0<V)(hq:q=S / V∨q=S / V+1)(h1:S1+V*q=S)(_hX:S1<X):q=S / V∧S1=S % V:=by
 have h2:=Nat.div_add_mod S V
 have h3:=Nat.mod_lt S hV
 rcases hq with h|h
 ·rw [h] at h1
  exact⟨h,by omega⟩
 ·rw [h,Nat.mul_add,Nat.mul_one] at h1
  omega

theorem rb {S V q S1 S2 c X:Nat}(hV:0<V)(hq:q=S / V∨q=S / V+1)(h1:S1+V*q=S+1*X)(hX:S1<X)(h2:S2+c*X=S1+V)(hX2:S2<X)(hc:c≤1):q - 1=S / V∧1≤q∧S2=S % V:=by
 have h3:=Nat.div_add_mod S V
 have h4:=Nat.mod_lt S hV
 generalize S / V=d at *
 generalize S % V=r at *
 rcases hq with h|h
 ·rw [h] at h1
  omega
 ·rw [h,Nat.mul_add,Nat.mul_one] at h1
  generalize V*d=y at *
  refine⟨by omega,by omega,?_⟩
  rcases (by omega:c=0∨c=1) with rfl|rfl
  ·omega
  ·omega

structure bH (bq qo m bu uo n VV:Nat)(Q U:List Nat)(w wr:World)(k:Nat)(Q' U':List Nat):Prop where
 outQ:Out Q Q' (qo+k) (qo+m)
 limQ:Limbs Q'
 blkQ:Blk wr bq Q'
 outU:Out U U' (uo+k) (uo+(m+n))
 limU:Limbs U'
 blkU:Blk wr bu U'
 fr:Fr2 bq bu w wr
 eq:sv Q' (qo+k) (m - k)*VV+sv U' (uo+k) n=sv U (uo+k) (n+(m - k))
 lt:sv U' (uo+k) n<VV
 top:sv U' (uo+k+n) (m - k)=0

theorem bH.step {bq qo m bu uo n VV:Nat}{Q U:List Nat}{w wr w2:World}{i:Nat}{Q' U' U2:List Nat}(h:bH bq qo m bu uo n VV Q U w wr (i+1) Q' U')(hi:i<m)
  (hq:qo+m≤Q.length) (hu:uo+(m+n)≤U.length) (hV:0<VV) (hVn:VV≤18446744073709551616 ^ n) (qd:Nat) (hqd:qd<18446744073709551616) (e1:qd=sv U' (uo+i) (n+1) / VV)
  (hO:Out U' U2 (uo+i) (uo+i+(n+1))) (hL:Limbs U2) (e2:sv U2 (uo+i) (n+1)=sv U' (uo+i) (n+1) % VV)
  (hB:Blk w2 bu U2) (hBq:Blk w2 bq (Q'.set (qo+i) qd)) (hf:Fr2 bq bu wr w2):bH bq qo m bu uo n VV Q U w w2 i (Q'.set (qo+i) qd) U2:=by
 have hlQ:=h.outQ.len
 have hlU:=h.outU.len
 have hlU2:=hO.len
 have hr:sv U' (uo+i) (n+1) % VV<VV:=Nat.mod_lt _ hV
 have hsp:=aF U2 (uo+i) n 1 (by omega)
 have hone:=fp U2 (uo+i+n) (by omega)
 rw [hone] at hsp
 have htop:U2.getD (uo+i+n) 0=0:=by
  rcases Nat.eq_zero_or_pos (U2.getD (uo+i+n) 0) with h0|h0
  ·exact h0
  ·have:=Nat.mul_le_mul_left (18446744073709551616 ^ n) h0
   omega
 rw [htop,Nat.mul_zero] at hsp
 simp only [Nat.add_zero] at hsp
 have hS:=dl U' (uo+i) 0 (n+1) (by omega) (by omega)
 rw [Nat.add_zero,Nat.sub_zero,Nat.zero_add,Nat.add_sub_cancel] at hS
 have hUi:=h.outU.same (uo+i) (by omega)
 have hUs:=dl U (uo+i) 0 (n+(m - i)) (by omega) (by omega)
 rw [Nat.add_zero,Nat.sub_zero,Nat.zero_add,show n+(m - i) - 1=n+(m - (i+1)) by omega] at hUs
 have hQs:=dl (Q'.set (qo+i) qd) (qo+i) 0 (m - i) (by simp;omega) (by omega)
 rw [Nat.add_zero,Nat.sub_zero,Nat.zero_add,cW,if_pos ⟨rfl,by omega⟩,show m - i - 1=m - (i+1) by omega] at hQs
 have eO:Out Q' (Q'.set (qo+i) qd) (qo+i) (qo+(i+1)):=(Out.refl _ _ _).set _ _ (by omega) (by omega)
 rw [show qo+i+1=qo+(i+1) from rfl,eO.sv (qo+(i+1)) (m - (i+1)) (by omega)] at hQs
 refine⟨?_,limbs_set h.limQ _ _ hqd,hBq,?_,hL,hB,h.fr.trans hf,?_,?_,?_⟩
 ·exact (h.outQ.wider (by omega) (Nat.le_refl _)).set _ _ (by omega) (by omega)
 ·exact (h.outU.wider (by omega) (Nat.le_refl _)).trans (hO.wider (by omega) (by omega))
 ·rw [hQs,hUs,←hUi,←hsp,e2,show uo+i+1=uo+(i+1) from rfl,←h.eq]
  rw [show uo+i+1=uo+(i+1) from rfl] at hS
  have h5:=Nat.div_add_mod (sv U' (uo+i) (n+1)) VV
  rw [←e1] at h5
  generalize sv U' (uo+i) (n+1) % VV=r at *
  generalize sv U' (uo+i) (n+1)=S at *
  generalize sv Q' (qo+(i+1)) (m - (i+1))=a at *
  generalize sv U' (uo+(i+1)) n=b at *
  generalize U'.getD (uo+i) 0=c at *
  have e6:(qd+18446744073709551616*a)*VV=VV*qd+18446744073709551616*(a*VV):=by
   rw [Nat.add_mul,Nat.mul_comm qd,Nat.mul_assoc]
  rw [e6,Nat.mul_add]
  omega
 ·rw [←hsp,e2];exact hr
 ·have hc:=dl U2 (uo+i+n) 0 (m - i) (by omega) (by omega)
  rw [Nat.add_zero,Nat.sub_zero,Nat.zero_add,htop,Nat.zero_add,show m - i - 1=m - (i+1) by omega] at hc
  rw [hc,hO.sv (uo+i+n+1) (m - (i+1)) (by omega),show uo+i+n+1=uo+(i+1)+n by omega,h.top]
end Go.Proofs.YtdbjbbdhlpfhjaaGreatDoor

