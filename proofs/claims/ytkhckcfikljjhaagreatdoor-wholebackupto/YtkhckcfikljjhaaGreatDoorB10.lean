/- Package numeral: number, with what digit and read answer as premises. -/
import Derived.Test.YtkhckcfikljjhaaGreatDoorB08
import Derived.Test.YtkhckcfikljjhaaGreatDoorB09
import Derived.Deep.RegionHeld3
import Derived.Test.YtkhckcfikljjhaaGreatDoorB01
import Derived.Laws.IdiomStrings
import Derived.Laws.Cells
import Derived.Test.YtkhckcfikljjhaaGreatDoorB02
import Derived.Test.YtkhckcfikljjhaaGreatDoorB04
set_option maxRecDepth 20000
set_option maxHeartbeats 4000000
namespace Go.Proofs.YtkhckcfikljjhaaGreatDoor
open Go.RowKit
open Lm
attribute [local go_sem ↓] Go.wp_at_zero Go.wp_at_succ

def dn (b o n:Nat)(D:List Nat)(w:World)(e:Ending)(w':World):Prop:=
 Below w.heap.size w w'∧((∃v Z,e=.returned (.tuple #[v,.int .i64 0])∧Ans w' w.heap.size v Z∧Z.length≤1125899906842624∧val Z=dvr b D o n∧tr Z=Z)∨(∃v,e=.returned (.tuple #[v,.int .i64 3])∧67108864<blen (dvr b D o n)))

theorem Byt.made {w:World}{base n g:Nat}(h:w.ownsRow base 5 1 (.slice (some ⟨g,0,none⟩) n n) n (madeCells (Value.int .u8 0).cells (n*1)).toList):Byt w g (List.replicate n 0):=by
 have:=js h
 unfold Byt
 rw [this,List.map_replicate]
 rfl

theorem eX (b:Nat)(D:List Nat):∀k,(∀i,i<k→D.getD i 0=0)→dvr b D 0 k=0
 | 0,_=>rfl
 | k+1,h=>by rw [dvr,eX b D k (fun i hi=>h i (by omega)),Nat.zero_add,h k (by omega)];omega

def cU (b n:Nat)(dg:Nat→Int)(w:World)(e:Ending)(w':World):Prop:=
 Below w.heap.size w w'∧((∃i,i<n∧(dg i<0∨(b:Int)≤dg i)∧e=.returned (.tuple #[.slice none 0 0,.int .i64 51])) ∨
  (∃D:List Nat,D.length=n∧(∀i,i<n→((D.getD i 0:Nat):Int)=dg i∧D.getD i 0<b)∧Res w' w.heap.size e (dvr b D 0 n)))

theorem nP (c1:Value)(b n:Nat)(dg:Nat→Int)(w:World)(hT:Tab w)(hb:2≤b)(hb2:b≤36)(hn:n≤140737488351232)
  (HS:∀i,i<n→∀W,Below w.heap.size w W→Calls Tryz.prog 42 #[.int .i64 i,c1] W fun e w'=>e=.returned (.int .i64 (dg i))∧w'=W)
  (HR:∀(W:World) (D:List Nat) (k:Nat) (ao:Option Addr) (cc:Nat),Tab W→Byt W w.heap.size D→D.length=n→k≤n→(∀i,i<n→D.getD i 0<b)→(k<n→ao=some ⟨w.heap.size,k,none⟩∧cc=n - k∧D.getD k 0≠0) →
   Calls Tryz.prog 58 #[.slice ao (n - k) cc,.int .i64 b] W (dn b k (n - k) D W)) :
  Calls Tryz.prog 41 #[.int .i64 b,.int .i64 n,.func (.func 42) #[] #[c1]] w (cU b n dg w):=by
 obtain⟨i0,hi,hz0,hz1,hz2⟩:=info_parts Tryz.infoB
 have HT:=aa hT
 have HHS:=aa HS
 have HHR:=aa HR
 clear hT HS HR
 go_enter Tryz.func41,Tryz.ntmps41
 go_wp2_with (at_make;refine wpList_make_full _ rfl _ _ 60 rfl w.heap.size 5 i0 (.int .u8 0) 1 Tryz.underlying60 hi hz0 hz1 .i64 .i64 _ _ n rfl rfl (by omega) (by omega) (by rw [hz2];omega) (by unfold maxLen;omega) (Nat.le_refl _) ?_;intro w1 hown hgrow)
 have HB1:=aa ((Below.refl w.heap.size w).grown hgrow (Nat.le_refl _) (fun k hk=>by cases hk))
 have HY1:=aa (Byt.made hown)
 clear hown hgrow hi hz0 hz1 hz2
 go_loopw [17] (fun i wr=>∃(k:Nat) (D:List Nat),k≤n∧i=.int .i64 k∧Byt wr w.heap.size D∧D.length=n∧(∀i,i<k→((D.getD i 0:Nat):Int)=dg i∧D.getD i 0<b)∧Below w.heap.size w wr) (fun i _=>n - (intOf i).toNat)
 case atStart=>exact⟨0,_,Nat.zero_le _,rfl,HY1.out,by simp,fun i hi=>by omega,HB1.out⟩
 case round=>
  obtain⟨k,D,hk,rfl,hY,hlen,hdg,hbel⟩:=hrel
  clear HB1 HY1
  have HY:=aa hY
  have HB:=aa hbel
  have HDG:=aa hdg
  clear hY hbel hdg
  by_cases hkn:k<n
  ·have hi1:(k:Int)<(n:Int):=by omega
   have HC:=HHS.out k hkn wr HB.out
   have hco:=HY.out.cell k (by omega)
   have hfr:=HY.out.free k
   obtain⟨z,hz⟩:∃z,dg k=z:=⟨_,rfl⟩
   rw [hz] at HC
   generalize D.getD k 0=old at *
   have HZ:=aa hz
   clear hz
   go_wp2_with fail
   refine HC.mono ?_
   rintro e wn ⟨rfl,hw⟩;rw [hw];clear hw wn HC
   by_cases hz0:z<0
   ·go_wp2
    go_returns
    exact⟨HB.out,.inl ⟨k,hkn,.inl (by rw [HZ.out];exact hz0),rfl⟩⟩
   ·by_cases hzb:(b:Int)≤z
    ·go_wp2
     go_returns
     exact⟨HB.out,.inl ⟨k,hkn,.inr (by rw [HZ.out];exact hzb),rfl⟩⟩
    ·obtain⟨y,rfl⟩:∃y:Nat,z=(y:Int):=⟨z.toNat,by omega⟩
     have hyb:y<b:=by omega
     have e256:(y:Int) % 256=(y:Int):=by omega
     go_wp2
     go_roundw
     case rel=>
      refine⟨k+1,D.set k y,by omega,by go_num,HY.out.set _ _,by simp [hlen],fun i hi=>?_,HB.out.setCell (p:=⟨w.heap.size,k,none⟩) (Nat.le_refl _) _⟩
      rw [List.getD,List.getElem?_set]
      by_cases e:k=i
      ·subst e;rw [if_pos rfl,if_pos (by omega)];exact⟨HZ.out.symm,hyb⟩
      ·rw [if_neg e];exact HDG.out i (by omega)
     case measure=>simp [intOf];omega
  ·obtain rfl:k=n:=by omega
   clear HHS
   go_wp2
   go_loop [8] (fun t=>∃(j cc:Nat) (ao:Option Addr),j≤k∧t=.slice ao (k - j) cc∧(j<k→ao=some ⟨w.heap.size,j,none⟩∧cc=k - j)∧∀i,i<j→D.getD i 0=0) (fun t=>match t with | .slice _ l _=>l | _=>0)
   case atStart=>exact⟨0,k,_,Nat.zero_le _,rfl,fun _=>⟨rfl,rfl⟩,fun i hi=>by omega⟩
   case round=>
    obtain⟨j,cc,ao,hj,rfl,hao,hze⟩:=hrel
    have HZE:=aa hze
    clear hze
    by_cases hjz:j<k∧D.getD j 0=0
    ·obtain⟨hjk,hz⟩:=hjz
     obtain⟨rfl,rfl⟩:=hao hjk
     have hco:=HY.out.cell j (by omega)
     rw [hz] at hco
     obtain⟨R,hR,hR2⟩:∃R,k - j=R+1∧k - (j+1)=R:=⟨k - j - 1,by omega,by omega⟩
     rw [hR]
     have HZ:=aa hz
     clear hz hao
     go_wp2
     go_round
     case rel=>
      refine⟨j+1,R,_,by omega,by rw [hR2],fun h=>⟨by rw [if_neg (by omega)],by omega⟩,fun i hi=>?_⟩
      rcases Nat.lt_or_ge i j with h|h
      ·exact HZE.out i h
      ·obtain rfl:i=j:=by omega
       exact HZ.out
     case measure=>show R<R+1;omega
    ·have HC:=HHR.out wr D j ao cc (HT.out.below HB.out) HY.out hlen hj (fun i hi=>(HDG.out i hi).2) (fun h=>⟨(hao h).1,(hao h).2,fun h2=>hjz ⟨h,h2⟩⟩)
     have HDV:Hid (dvr b D 0 k=dvr b D j (k - j)):=aa (by
      have h:=bF b D 0 j (k - j)
      rw [show j+(k - j)=k by omega,eX b D j HZE.out,Nat.zero_mul,Nat.zero_add,Nat.zero_add] at h
      exact h)
     by_cases hjk:j<k
     ·obtain⟨rfl,rfl⟩:=hao hjk
      have hco:=HY.out.cell j (by omega)
      have hnz:D.getD j 0≠0:=fun h=>hjz ⟨hjk,h⟩
      generalize D.getD j 0=g at *
      have hgz:((g:Int) == 0)=false:=by rw [beq_eq_false_iff_ne];omega
      have hr0:(0:Int)<((k - j:Nat):Int):=by omega
      have hr1:0<k - j:=by omega
      generalize k - j=R at *
      clear hao hjz HHR
      go_wp2_with fail
      refine HC.mono ?_
      rintro e w2 ⟨hb2,hres⟩
      have HB2:=aa (HB.out.trans (hb2.mono HB.out.size))
      rcases hres with ⟨v,Z,rfl,hA,hZl,hZv,hZn⟩|⟨v,rfl,hbig⟩
      ·have HL:=aA v Z w2 (hA.arg hZl)
       have HA:=aa (hA.base HB.out.size)
       rw [hZv,←HDV.out] at HL
       have HZ:=aa (And.intro (hZv.trans HDV.out.symm) hZn)
       obtain⟨L,hL⟩:∃L,blen (dvr b D 0 k)=L:=⟨_,rfl⟩
       rw [hL] at HL
       have HLL:=aa hL
       clear hL hA hZv hZn hb2 HC
       by_cases hbig:67108864<L
       ·have i1:(67108864:Int)<(L:Int):=by omega
        go_wp2_with fail
        refine HL.mono ?_
        rintro e wn ⟨rfl,hw⟩;rw [hw];clear hw wn HL
        go_wp2
        go_returns
        exact⟨HB2.out,.inr ⟨D,hlen,HDG.out,_,_,[],rfl,Ans.nil _ _,.inr ⟨rfl,rfl,by rw [HLL.out];exact hbig⟩⟩⟩
       ·have i1:¬((67108864:Int)<(L:Int)):=by omega
        go_wp2_with fail
        refine HL.mono ?_
        rintro e wn ⟨rfl,hw⟩;rw [hw];clear hw wn HL
        go_wp2
        go_returns
        exact⟨HB2.out,.inr ⟨D,hlen,HDG.out,_,_,Z,rfl,HA.out,.inl ⟨rfl,HZ.out.1,HZ.out.2,by rw [HLL.out];omega⟩⟩⟩
      ·rw [←HDV.out] at hbig
       have HBG:=aa hbig
       clear hbig hb2 HC
       go_wp2
       go_returns
       exact⟨HB2.out,.inr ⟨D,hlen,HDG.out,_,_,[],rfl,Ans.nil _ _,.inr ⟨rfl,rfl,HBG.out⟩⟩⟩
     ·obtain rfl:j=k:=by omega
      rw [Nat.sub_self] at HC ⊢
      have HDV:=aa (show dvr b D 0 j=dvr b D j 0 by have:=HDV.out;rw [Nat.sub_self] at this;exact this)
      clear hao hjz HHR
      go_wp2_with fail
      refine HC.mono ?_
      rintro e w2 ⟨hb2,hres⟩
      have HB2:=aa (HB.out.trans (hb2.mono HB.out.size))
      rcases hres with ⟨v,Z,rfl,hA,hZl,hZv,hZn⟩|⟨v,rfl,hbig⟩
      ·have HL:=aA v Z w2 (hA.arg hZl)
       have HA:=aa (hA.base HB.out.size)
       rw [hZv,←HDV.out] at HL
       have HZ:=aa (And.intro (hZv.trans HDV.out.symm) hZn)
       obtain⟨L,hL⟩:∃L,blen (dvr b D 0 j)=L:=⟨_,rfl⟩
       rw [hL] at HL
       have HLL:=aa hL
       clear hL hA hZv hZn hb2 HC
       by_cases hbig:67108864<L
       ·have i1:(67108864:Int)<(L:Int):=by omega
        go_wp2_with fail
        refine HL.mono ?_
        rintro e wn ⟨rfl,hw⟩;rw [hw];clear hw wn HL
        go_wp2
        go_returns
        exact⟨HB2.out,.inr ⟨D,hlen,HDG.out,_,_,[],rfl,Ans.nil _ _,.inr ⟨rfl,rfl,by rw [HLL.out];exact hbig⟩⟩⟩
       ·have i1:¬((67108864:Int)<(L:Int)):=by omega
        go_wp2_with fail
        refine HL.mono ?_
        rintro e wn ⟨rfl,hw⟩;rw [hw];clear hw wn HL
        go_wp2
        go_returns
        exact⟨HB2.out,.inr ⟨D,hlen,HDG.out,_,_,Z,rfl,HA.out,.inl ⟨rfl,HZ.out.1,HZ.out.2,by rw [HLL.out];omega⟩⟩⟩
      ·rw [←HDV.out] at hbig
       have HBG:=aa hbig
       clear hbig hb2 HC
       go_wp2
       go_returns
       exact⟨HB2.out,.inr ⟨D,hlen,HDG.out,_,_,[],rfl,Ans.nil _ _,.inr ⟨rfl,rfl,HBG.out⟩⟩⟩

def i9 (b o n:Nat)(D:List Nat)(w:World)(e:Ending)(w':World):Prop:=
 Below w.heap.size w w'∧((∃v Z,e=.returned (.tuple #[v,.int .i64 0])∧Ans w' w.heap.size v Z∧Z.length≤70000000∧val Z=dvr b D o n∧(D.getD o 0≠0→tr Z=Z))∨(e=.returned (.tuple #[.slice none 0 0,.int .i64 3])∧67108864<blen (dvr b D o n)))

theorem gG {b N m x:Nat}(hb:2≤b)(hNB:blen (b ^ (N - 1))≤67108865)(hm:m+2≤N)(hx:x<b ^ m):blen x≤67108864:=by
 have h1:b ^ (m+1)≤b ^ (N - 1):=Nat.pow_le_pow_right (by omega) (by omega)
 have h2:2*b ^ m≤b ^ (m+1):=by rw [Nat.pow_succ,Nat.mul_comm];exact Nat.mul_le_mul_left _ hb
 have h3:b ^ (N - 1)<2 ^ blen (b ^ (N - 1)):=(blen_le_iff _ _).1 (Nat.le_refl _)
 obtain⟨K,hK⟩:∃K,blen (b ^ (N - 1))=K:=⟨_,rfl⟩
 rw [hK] at h3 hNB
 have hK1:1≤K:=by
  rcases Nat.eq_zero_or_pos K with h|h
  ·rw [h,Nat.pow_zero] at h3
   have:=Nat.pow_pos (n:=m) (show 0<b by omega)
   omega
  ·exact h
 have h4:2 ^ K=2*2 ^ (K - 1):=by rw [←Nat.pow_succ',Nat.succ_eq_add_one,show K - 1+1=K by omega]
 have h5:=(blen_le_iff x (K - 1)).2 (by omega)
 omega

theorem mZ (d s:Nat)(ao:Option Addr)(co:Nat)(vh vl:Value)(O H Lw:List Nat)(base:Nat)(w:World)(hO:Arg w (.slice ao O.length co) O)(hH:Arg w vh H)(hL:Ans w base vl Lw)(hT:Tab w)
  (hl1:O.length+H.length≤1099511627776) (hl2:Lw.length≤1099511627776) (hs:s≤1099511627776) :
  Calls Tryz.prog 80 #[.agg #[.int .i64 d,.slice ao O.length co,.int .i64 s],vh,vl] w (Joined (val H) (val O) s (val Lw) w):=by
 have hA:=hL.arg (by omega)
 rcases hL.own.2 with ⟨rfl,h0⟩|⟨g,cap,cur,rfl,_⟩
 ·obtain rfl:=List.length_eq_zero_iff.1 h0
  exact my d s ao co vh O H w hO hH hT hl1 hs
 ·exact jj d s ao co vh g 0 cap O H Lw w hO hH hA hT hl1 hl2 hs

theorem lG {b o n:Nat}{D:List Nat}(hn:1≤n)(h0:D.getD o 0≠0)(hb:0<b):0<dvr b D o n:=by
 obtain⟨m,rfl⟩:∃m,n=1+m:=⟨n - 1,by omega⟩
 rw [bF]
 have h1:dvr b D o 1=D.getD o 0:=by simp [dvr]
 have h2:0<dvr b D o 1*b ^ m:=Nat.mul_pos (by rw [h1];omega) (Nat.pow_pos hb)
 omega

theorem ev (gl gb gw gd b N:Nat)(vl:Value)(hb:2≤b)(hb2:b≤36)(hNB:blen (b ^ (N - 1))≤67108865)(hN9:N≤67108867):∀(M n o cap:Nat) (D:List Nat) (w:World),n<M →
  Byt w gd D→o+n≤D.length→n≤cap→cap≤9223372036854775807→n≤N→(∀i,i<n→D.getD (o+i) 0<b)→Tab w →
  w.cell? ⟨gl,0,none⟩=some vl→w.cell? ⟨gb,0,none⟩=some (.int .i64 b)→w.cell? ⟨gw,0,none⟩=some (.func (.func 78) #[] #[.pointer (some ⟨gl,0,none⟩),.pointer (some ⟨gb,0,none⟩),.pointer (some ⟨gw,0,none⟩)])→bw w vl b N →
  Calls Tryz.prog 78 #[.slice (some ⟨gd,o,none⟩) n cap,.pointer (some ⟨gl,0,none⟩),.pointer (some ⟨gb,0,none⟩),.pointer (some ⟨gw,0,none⟩)] w (i9 b o n D w)
 | 0,n,o,cap,D,w,h,_,_,_,_,_,_,_,_,_,_,_=>absurd h (Nat.not_lt_zero n)
 | M+1,n,o,cap,D,w,hM,hD,ho,hnc,hcm,hnN,hdig,hT,cl,cb,cw,hP=>by
  have HPP:=aa hP
  obtain⟨l,hPA,hPO⟩:=hP
  have C:=fq vl n l w hPA
  have HD:=aa hD
  have HT:=aa hT
  have HPO:=aa hPO
  have HDG:=aa hdig
  clear hD hT hPA hPO hdig
  go_enter Tryz.func78,Tryz.ntmps78
  go_wp2_with fail
  refine C.mono ?_
  rintro e w1 ⟨hcase,hb1⟩
  rcases hcase with ⟨i,d,ov,s,hli,hdn,_,he⟩|⟨_,he⟩
  ·obtain⟨a1,O,c1,hov,hAO,hpw,hd2,hdN,hO0,hOl,hOb,hs9⟩:=HPO.out _ (List.mem_of_getElem? hli)
   replace hov:ov=.slice a1 O.length c1:=hov
   replace hAO:Arg w ov O:=hAO
   replace hpw:18446744073709551616 ^ s*val O=b ^ d:=hpw
   replace hd2:2≤d:=hd2
   replace hdN:d+2≤N:=hdN
   subst hov
   subst he
   have hs1:s≤1048577:=by
    have h1:18446744073709551616 ^ s≤b ^ (N - 1):=by
     rw [show b ^ (N - 1)=b ^ (N - 1) from rfl]
     have h2:18446744073709551616 ^ s≤18446744073709551616 ^ s*val O:=Nat.le_mul_of_pos_right _ (by omega)
     rw [hpw] at h2
     exact Nat.le_trans h2 (Nat.pow_le_pow_right (by omega) (by omega))
    have h3:=cf h1
    have h4:64*s<blen (18446744073709551616 ^ s):=by
     rcases Nat.lt_or_ge (64*s) (blen (18446744073709551616 ^ s)) with h|h
     ·exact h
     ·have h5:=(blen_le_iff _ _).1 h
      rw [Nat.pow_mul,show (2:Nat) ^ 64=18446744073709551616 from rfl] at h5
      exact absurd h5 (Nat.lt_irrefl _)
    omega
   obtain⟨w2,hw2⟩:∃W,w1.alloc (.cells #[.int .i64 d,.slice a1 O.length c1,.int .i64 s] 103)=W:=⟨_,rfl⟩
   have hb2':Below w1.heap.size w1 w2:=by rw [←hw2];exact ak _ _
   have hx2:w2.heap[w1.heap.size]?=some (.cells #[.int .i64 d,.slice a1 O.length c1,.int .i64 s] 103):=by rw [←hw2];exact heap_alloc_new ..
   have hB2:=bt5 hb1 hb2'
   obtain⟨k0,k1,k2⟩:=tri hx2
   obtain⟨h,hh,hhi⟩:∃h:Nat,n=h+d∧(n:Int) - (d:Int)=(h:Int):=⟨n - d,by omega,by omega⟩
   have g2:Below w.heap.size w w2.drew:=hB2.drew
   have cw2:w2.drew.cell? ⟨gw,0,none⟩=some (.func (.func 78) #[] #[.pointer (some ⟨gl,0,none⟩),.pointer (some ⟨gb,0,none⟩),.pointer (some ⟨gw,0,none⟩)]):=aB g2 cw
   have I1:=ev gl gb gw gd b N vl hb hb2 hNB hN9 M h o cap D w2.drew (by omega) (HD.out.below g2 HD.out.lt) (by omega) (by omega) hcm (by omega) (fun i hi=>HDG.out i (by omega)) (HT.out.below g2) (aB g2 cl) (aB g2 cb) cw2 (HPP.out.below g2)
   have hcap0:¬cap=h:=by omega
   have hhn:h≤n:=by omega
   have hhc:h≤cap:=by omega
   have hnh:n - h=d:=by omega
   have HAO:=aa hAO
   have HPW:=aa hpw
   have HX2:=aa hx2
   have HG2:=aa g2
   have HHD:=aa hh
   have HOO:=aa (And.intro hO0 hOl)
   have HS1:=aa (And.intro (gG (m:=h) hb hNB (by omega) (ci b D o (by omega) h (fun i hi=>HDG.out i (by omega)))) (gG (m:=d) hb hNB hdN (ci b D (o+h) (by omega) d (fun i hi=>by rw [Nat.add_assoc];exact HDG.out (h+i) (by omega)))))
   clear C hb1 hb2' hx2 hB2 hAO hpw hO0 hOb hs9 HPO hli g2 hh
   go_upto_region 5 with fail
   go_region_held3 (fun w'=>w'.cell? ⟨gw,0,none⟩=some (.func (.func 78) #[] #[.pointer (some ⟨gl,0,none⟩),.pointer (some ⟨gb,0,none⟩),.pointer (some ⟨gw,0,none⟩)])) (first|with_reducible exact cw3|with_reducible exact cw2) (first
    | (go_at_call 78;refine I1.mono ?_;rintro e' w3 ⟨hb3,hc3⟩;have cw3:=aB hb3 cw2;obtain⟨v3,Z3,rfl,hZ3,hl3,hv3,_⟩:=hc3.resolve_right (fun hx=>absurd hx.2 (Nat.not_lt.2 HS1.out.1))))
   have g3:Below w.heap.size w w3.drew:=(bt5 HG2.out hb3).drew
   have cw4:w3.drew.cell? ⟨gw,0,none⟩=some (.func (.func 78) #[] #[.pointer (some ⟨gl,0,none⟩),.pointer (some ⟨gb,0,none⟩),.pointer (some ⟨gw,0,none⟩)]):=aB g3 cw
   have I2:=ev gl gb gw gd b N vl hb hb2 hNB hN9 M d (o+h) (cap - h) D w3.drew (by omega) (HD.out.below g3 HD.out.lt) (by have:=HHD.out;omega) (by omega) (by omega) (by omega) (fun i hi=>by rw [Nat.add_assoc];exact HDG.out (h+i) (by have:=HHD.out;omega)) (HT.out.below g3) (aB g3 cl) (aB g3 cb) cw4 (HPP.out.below g3)
   have HZ3:=aa hZ3
   have HL3:=aa (And.intro hl3 hv3)
   have HB3:=aa hb3
   have HG3:=aa g3
   clear I1 hZ3 hl3 hv3 hb3 g3 cw2 cw3 k0 k1 k2
   have i8:h≤n:=hhn
   go_upto_region 6 with fail
   go_region_held3 (fun w'=>w'.cell? ⟨gw,0,none⟩=some (.func (.func 78) #[] #[.pointer (some ⟨gl,0,none⟩),.pointer (some ⟨gb,0,none⟩),.pointer (some ⟨gw,0,none⟩)])) (first|with_reducible exact cw5|with_reducible exact cw4) (first
    | (go_at_call 78;refine I2.mono ?_;rintro e' w4 ⟨hb4,hc4⟩;have cw5:=aB hb4 cw4;obtain⟨v4,Z4,rfl,hZ4,hl4,hv4,_⟩:=hc4.resolve_right (fun hx=>absurd hx.2 (Nat.not_lt.2 HS1.out.2))))
   have hB4:=bt5 HG3.out hb4
   have hx4:=(bt5 (bt5 ((Below.refl w2.heap.size w2).drew) HB3.out) (bt5 ((Below.refl w3.heap.size w3).drew) hb4))
   have hc4':=(hx4.block w1.heap.size (lt_of_block HX2.out)).trans HX2.out
   obtain⟨j0,j1,j2⟩:=tri hc4'
   have hA3:Arg w4 v3 Z3:=((HZ3.out.arg (by have:=HL3.out.1;omega)).below ((Below.refl w3.heap.size w3).drew)).below hb4
   have C7:=mZ d s a1 c1 v3 v4 O Z3 Z4 w3.drew.heap.size w4 (HAO.out.below hB4) hA3 hZ4 (HT.out.below hB4) (by have:=HOO.out.2;have:=HL3.out.1;omega) (by omega) (by omega)
   obtain⟨a3,c3,rfl,_,_,_⟩:=hA3.form
   have HV4:=aa hv4
   have HB4:=aa hB4
   clear I2 hZ4 hl4 hv4 hb4 hB4 hx4 hc4' cw4 cw5 hA3
   go_wp2_with fail
   refine C7.mono ?_
   rintro e w5 ⟨hb5,hc5⟩
   have HB5:=aa (bt5 HB4.out hb5)
   have hval:val Z3*val O*18446744073709551616 ^ s+val Z4=dvr b D o n:=by
    rw [HHD.out,bF,HL3.out.2,HV4.out,Nat.mul_assoc,Nat.mul_comm (val O),HPW.out]
   have HVL:=aa hval
   have hbs:=HB4.out.size
   rcases hc5 with ⟨v5,Z5,rfl,hZ5,hv5,ht5,hl5⟩|⟨rfl,hbig⟩
   ·have HF:=aa (And.intro (hZ5.base hbs) (And.intro hv5 (And.intro ht5 hl5)))
    clear C7 hb5 hZ5 hv5 ht5 hl5 hval
    go_wp2
    go_ret2
    refine⟨HB5.out,.inl ⟨v5,Z5,rfl,HF.out.1,by have:=HF.out.2.2.2;omega,by rw [HF.out.2.1];exact HVL.out,fun h0=>HF.out.2.2.1 (Nat.mul_pos ?_ (by have:=HOO.out.1;omega))⟩⟩
    rw [HL3.out.2]
    exact lG (by have:=HHD.out;omega) h0 (by omega)
   ·have HBG:Hid (67108864<blen (dvr b D o n)):=aa (Nat.lt_of_lt_of_le hbig (cf (by
     rw [←hval]
     have e1:val Z3*val O≤val Z3*val O*18446744073709551616 ^ s:=Nat.le_mul_of_pos_right _ (Nat.pow_pos (by omega))
     have e2:=Nat.div_le_self (val Z4) (18446744073709551616 ^ s)
     omega)))
    clear C7 hb5 hbig hval
    go_wp2
    go_ret2
    exact⟨HB5.out,.inr ⟨rfl,HBG.out⟩⟩
  ·obtain⟨x0,a0,n0,c0,y0,rfl,_⟩:∃(x0:Int) (a0:Option Addr) (n0 c0:Nat) (y0:Int),e=.returned (.tuple #[.agg #[.int .i64 x0,.slice a0 n0 c0,.int .i64 y0],.bool false])∧True:=⟨0,none,0,0,0,he,trivial⟩
   clear he
   obtain⟨w2,hw2⟩:∃W,w1.alloc (.cells #[.int .i64 x0,.slice a0 n0 c0,.int .i64 y0] 103)=W:=⟨_,rfl⟩
   have hb2':Below w1.heap.size w1 w2:=by rw [←hw2];exact ak _ _
   have hB2:=bt5 hb1 hb2'
   have cb2:=aB hB2 cb
   have C2:=mM gd o n cap b D w2 (HD.out.below hB2 HD.out.lt) ho hnc hcm (by omega) HDG.out hb hb2
   have HB2:=aa hB2
   clear C hb1 hb2' hB2 HPO
   go_wp2_with fail
   refine C2.mono ?_
   rintro e w3 ⟨v,Z,rfl,hZ,hvZ,htZ,hlZ,hb3⟩
   have HF:=aa (And.intro (hZ.base HB2.out.size) (And.intro hvZ (And.intro htZ (And.intro hlZ (bt5 HB2.out hb3)))))
   clear C2 hZ hvZ htZ hlZ hb3
   go_wp2
   go_ret2
   exact⟨HF.out.2.2.2.2,.inl ⟨v,Z,rfl,HF.out.1,by have:=HF.out.2.2.2.1;omega,HF.out.2.1,fun _=>HF.out.2.2.1⟩⟩

theorem im {b n:Nat}(hb2:b≤36)(hn:1≤n):blen (b ^ n)≤6*n:=by
 have h1:b ^ n<2 ^ (6*n):=by rw [Nat.pow_mul];exact Nat.pow_lt_pow_left (by omega) (by omega)
 exact (blen_le_iff _ _).2 h1

theorem nY {b n m x:Nat}(hb:0<b)(hm:m≤n):(b ^ (n - m)≤x / b ^ m) ↔ b ^ n≤x:=by
 rw [Nat.le_div_iff_mul_le (Nat.pow_pos hb),←Nat.pow_add,Nat.sub_add_cancel hm]

theorem ms (va:Value)(X:List Nat)(b n:Nat)(w:World)(hA:Arg w va X)(hT:Tab w)(hl:X.length≤1048576)(hb:2≤b)(hb2:b≤36)(hn:n≤1125899906842624) :
  Calls Tryz.prog 118 #[va,.int .u64 b,.int .i64 n] w fun e w'=>e=.returned (.bool (decide (b ^ n≤val X)))∧Below w.heap.size w w':=by
 obtain⟨r,hr⟩:∃r,decide (b ^ n≤val X)=r:=⟨_,rfl⟩
 rw [hr]
 have HA:=aa hA
 have HT:=aa hT
 have HR:=aa hr
 clear hA hT hr
 go_enter Tryz.func118,Tryz.ntmps118
 go_wp2
 go_loopw [0,2] (fun v i wr=>∃(va':Value) (X':List Nat) (n':Nat),v=va'∧i=.int .i64 n'∧Arg wr va' X'∧X'.length≤1048576∧n'≤n∧decide (b ^ n'≤val X')=r∧Below w.heap.size w wr) (fun _ i _=>(intOf i).toNat)
 case atStart=>exact⟨va,X,n,rfl,rfl,HA.out,hl,Nat.le_refl _,HR.out,Below.refl _ _⟩
 case round=>
  obtain⟨va',X',n',rfl,rfl,hA',hl',hn',hr',hbr⟩:=hrel
  have C1:=ce b wr (by omega)
  have hl1:(tr [b]).length≤1:=tr_length_le [b]
  have hvb:val (tr [b])=b:=by rw [val_tr];simp [val]
  have HA':=aa hA'
  have HR':=aa hr'
  have HBR:=aa hbr
  have HVB:=aa hvb
  clear HA hA' hr' hbr hvb
  go_wp2_with fail
  refine C1.mono ?_
  rintro e w1 ⟨⟨v1,rfl,A1⟩,hb1⟩
  have hB1:=bt5 HBR.out hb1
  have C2:=d6 v1 (tr [b]) n' w1 (A1.arg (by omega)) (HT.out.below hB1) (by omega) (by omega)
  rw [HVB.out] at C2
  have HB1:=aa hb1
  clear C1 A1 hb1 hB1
  go_wp2_with fail
  refine C2.mono ?_
  rintro e w2 ⟨hb2',vo,c,O,rfl,AO,hcase⟩
  have hB2:=bt5 HB1.out hb2'
  rcases hcase with ⟨rfl,hvO,hno,hbl⟩|⟨rfl,_,hbig⟩
  ·have hOl:O.length≤1048576:=bI hno (by rw [hvO];exact hbl)
   have C3:=cY _ _ X' O w2 (HA'.out.below hB2) (AO.arg (by omega))
   rw [hvO] at C3
   obtain⟨cc,hcc,hcd⟩:∃cc:Int,cmpN (val X') (b ^ n')=cc∧decide (0≤cc)=r:=by
    refine⟨_,rfl,?_⟩
    rw [←HR'.out]
    apply decide_eq_decide.2
    unfold cmpN
    split
    ·omega
    ·split <;> omega
   rw [hcc] at C3
   have HB2:=aa (bt5 HBR.out hB2)
   clear C2 hb2' hB2 AO hvO hno hbl hcc HB1 HR'
   go_wp2_with fail
   refine C3.mono ?_
   rintro e w3 ⟨rfl,hs3⟩
   have HB3:=aa (bt5 HB2.out (hs3.below _))
   clear C3 hs3
   go_wp2
   go_ret
   exact⟨rfl,HB3.out⟩
  ·have hn8:11184810<n':=by
    rcases Nat.eq_zero_or_pos n' with h|h
    ·subst h
     have h1:blen (b ^ 0)≤64:=(blen_le_iff _ 64).2 (by simp)
     omega
    ·have:=im (n:=n') hb2 h;omega
   have C3:=ce b w2 (by omega)
   have HB2:=aa hB2
   clear C2 hb2' hB2 AO hbig HB1
   go_wp2_with fail
   refine C3.mono ?_
   rintro e w3 ⟨⟨v3,rfl,A3⟩,hb3⟩
   have hB3:=bt5 HB2.out hb3
   obtain⟨m8,hm8,hm9⟩:∃m8:Nat,m8=8388608∧(m8:Int)=8388608:=⟨_,rfl,rfl⟩
   have C4:Calls Tryz.prog 88 #[v3,.int .i64 8388608] w3 fun e w'=>Below w3.heap.size w3 w'∧Res w' w3.heap.size e (b ^ m8):=by
    have h:=d6 v3 (tr [b]) m8 w3 (A3.arg (by omega)) (HT.out.below (bt5 HBR.out hB3)) (by omega) (by omega)
    rw [HVB.out,hm9] at h
    exact h
   have hbs:blen (b ^ m8)≤67108864:=by have:=im (n:=m8) hb2 (by omega);omega
   have HM8:=aa (And.intro hm8 hbs)
   have HB3:=aa hB3
   clear C3 A3 hb3 hB3 HB2 hm8 hm9 hbs
   go_wp2_with fail
   refine C4.mono ?_
   rintro e w4 ⟨hb4,v4,c4,O4,rfl,A4,hcase⟩
   have hB4:=bt5 HB3.out hb4
   rcases hcase with ⟨rfl,hv4,hn4,hbl4⟩|⟨_,_,hbad⟩
   ·have hO4:O4.length≤1048576:=bI hn4 (by rw [hv4];exact hbl4)
    have hp4:val O4≠0:=by rw [hv4];exact Nat.pos_iff_ne_zero.1 (Nat.pow_pos (by omega))
    have C5:=iq _ v4 X' O4 w4 (HA'.out.below hB4) (A4.arg (by omega)) (HT.out.below (bt5 HBR.out hB4)) hl' hp4 (by omega) (by rw [hv4];exact hbl4)
    rw [hv4] at C5
    have HB4:=aa (bt5 HBR.out hB4)
    clear C4 hb4 A4 hv4 hn4 hbl4 hB4 HB3 hp4
    obtain⟨n9,hn9⟩:∃n9:Nat,(n':Int) - 8388608=(n9:Int):=⟨n' - 8388608,by omega⟩
    go_wp2_with fail
    refine C5.mono ?_
    rintro e w5 ⟨⟨vr,Q,R,rfl,AQ,_,hvQ,_,hlQ,_⟩,hb5⟩
    have HQ:Hid (decide (b ^ n9≤val Q)=r):=aa (by
     rw [←HR'.out,hvQ]
     apply decide_eq_decide.2
     have h:=nY (b:=b) (n:=n') (m:=m8) (x:=val X') (by omega) (by have:=HM8.out.1;omega)
     rw [show n' - m8=n9 by have:=HM8.out.1;omega] at h
     exact h)
    have HAQ:=aa AQ
    have HLQ:=aa hlQ
    have HB5:=aa (bt5 HB4.out hb5)
    clear C5 AQ hvQ hlQ hb5 HB4 HR' HM8
    go_wp2
    go_roundw
    case rel=>exact⟨_,Q,n9,rfl,rfl,HAQ.out,by have:=HLQ.out;omega,by omega,HQ.out,HB5.out⟩
    case measure=>simp [intOf];omega
   ·exact absurd hbad (by have:=HM8.out.2;omega)

theorem aD {w:World}{g:Nat}{u:Value}{t:TypeId}(h:w.heap[g]?=some (.cells #[u] t)):w.cell? ⟨g,0,none⟩=some u:=by simp [World.cell?,h]

theorem me (ga gb gn:Nat)(va:Value)(X:List Nat)(b n:Nat)(w:World)(ca:w.cell? ⟨ga,0,none⟩=some va)(cb:w.cell? ⟨gb,0,none⟩=some (.int .u64 b))(cn:w.cell? ⟨gn,0,none⟩=some (.int .i64 n))(hA:Arg w va X)(hT:Tab w)(hl:X.length≤1048576)(hb:2≤b)(hb2:b≤36)(hn:n≤1125899906842624) :
  Calls Tryz.prog 117 #[.pointer (some ⟨ga,0,none⟩),.pointer (some ⟨gb,0,none⟩),.pointer (some ⟨gn,0,none⟩)] w fun e w'=>e=.returned (.bool (decide (b ^ n≤val X)))∧Below w.heap.size w w':=by
 have C:=ms va X b n w hA hT hl hb hb2 hn
 obtain⟨ao,cap,rfl,_,_,_⟩:=hA.form
 generalize decide (b ^ n≤val X)=r at *
 clear hA hT
 go_enter Tryz.func117,Tryz.ntmps117
 go_wp2_with fail
 refine C.mono ?_
 rintro e w1 ⟨rfl,hb1⟩
 have HB:=aa hb1
 clear C hb1
 go_wp2
 go_ret
 exact⟨rfl,HB.out⟩

structure Nr (V m f c:Nat):Prop where
 low:9223372036854775808≤m
 high:m<18446744073709551616
 below:m*2 ^ f≤V*9223372036854775808
 cuts:V*9223372036854775808*9223372036854775807 ^ c≤m*2 ^ f*9223372036854775808 ^ c

theorem Nr.ge {V m f c:Nat}(h:Nr V m f c):2 ^ f≤V:=by
 have h1:=Nat.mul_le_mul_right (2 ^ f) h.low
 have h2:=h.below
 omega

def aV (P:Nat):Nat:=if P<170141183460469231731687303715884105728 then P / 9223372036854775808 else P / 18446744073709551616
def aU (P:Nat):Nat:=if P<170141183460469231731687303715884105728 then 0 else 1

theorem lN {m1 m2:Nat}(h1:9223372036854775808≤m1)(h1':m1<18446744073709551616)(h2:9223372036854775808≤m2)(h2':m2<18446744073709551616) :
  9223372036854775808≤aV (m1*m2)∧aV (m1*m2)<18446744073709551616∧aV (m1*m2)*2 ^ aU (m1*m2)*9223372036854775808≤m1*m2∧m1*m2*9223372036854775807≤aV (m1*m2)*2 ^ aU (m1*m2)*9223372036854775808*9223372036854775808:=by
 have a1:9223372036854775808*9223372036854775808≤m1*m2:=Nat.mul_le_mul h1 h2
 have a2:m1*m2<18446744073709551616*18446744073709551616:=Nat.mul_lt_mul_of_lt_of_lt h1' h2'
 generalize m1*m2=P at *
 unfold aV aU
 split
 ·rename_i h
  simp only [Nat.pow_zero,Nat.mul_one]
  omega
 ·rename_i h
  simp only [Nat.pow_one]
  omega

theorem kH (K m T F1 F2 m1 m2 V1 V2:Nat)(hK:0<K)(t3:m*T*K≤m1*m2)(b1:m1*F1*(m2*F2)≤V1*K*(V2*K)):m*(F1*F2*T)≤V1*V2*K:=by
 refine Nat.le_of_mul_le_mul_right (c:=K) ?_ hK
 have h1:=Nat.mul_le_mul_right (F1*F2) t3
 have e1:m*T*K*(F1*F2)=m*(F1*F2*T)*K:=by ac_rfl
 have e2:m1*m2*(F1*F2)=m1*F1*(m2*F2):=by ac_rfl
 have e3:V1*K*(V2*K)=V1*V2*K*K:=by ac_rfl
 omega

theorem nf (K k m T F1 F2 m1 m2 V1 V2 k1 k2 K1 K2:Nat)(hK:0<K)(t4:m1*m2*k≤m*T*K*K)(b2:V1*K*k1*(V2*K*k2)≤m1*F1*K1*(m2*F2*K2)):V1*V2*K*(k1*k2*k)≤m*(F1*F2*T)*(K1*K2*K):=by
 refine Nat.le_of_mul_le_mul_right (c:=K) ?_ hK
 have h1:=Nat.mul_le_mul_right k b2
 have h2:=Nat.mul_le_mul_right (F1*F2*(K1*K2)) t4
 have e1:V1*V2*K*(k1*k2*k)*K=V1*K*k1*(V2*K*k2)*k:=by ac_rfl
 have e2:m1*F1*K1*(m2*F2*K2)*k=m1*m2*k*(F1*F2*(K1*K2)):=by ac_rfl
 have e3:m*T*K*K*(F1*F2*(K1*K2))=m*(F1*F2*T)*(K1*K2*K)*K:=by ac_rfl
 omega

theorem Nr.times {V1 m1 f1 c1 V2 m2 f2 c2:Nat}(h1:Nr V1 m1 f1 c1)(h2:Nr V2 m2 f2 c2):Nr (V1*V2) (aV (m1*m2)) (f1+f2+aU (m1*m2)) (c1+c2+1):=by
 obtain⟨t1,t2,t3,t4⟩:=lN h1.low h1.high h2.low h2.high
 have b1:=Nat.mul_le_mul h1.below h2.below
 have b2:=Nat.mul_le_mul h1.cuts h2.cuts
 generalize aV (m1*m2)=m at *
 obtain⟨T,hT⟩:∃T,2 ^ aU (m1*m2)=T:=⟨_,rfl⟩
 rw [hT] at t3 t4
 refine⟨t1,t2,?_,?_⟩
 ·rw [Nat.pow_add,Nat.pow_add,hT]
  exact kH _ _ _ _ _ _ _ _ _ (by omega) t3 b1
 ·rw [Nat.pow_add 2,Nat.pow_add 2,Nat.pow_add,Nat.pow_add,Nat.pow_add,Nat.pow_add,Nat.pow_one,Nat.pow_one,hT]
  exact nf _ _ _ _ _ _ _ _ _ _ _ _ _ _ (by omega) t4 b2

theorem Nr.one_times {V m f c:Nat}(h:Nr V m f c):aV (9223372036854775808*m)=m∧aU (9223372036854775808*m)=0:=by
 have h1:=h.low
 have h2:=h.high
 unfold aV aU
 rw [if_pos (by omega),if_pos (by omega)]
 omega

theorem Nr.exact (v s:Nat)(h1:9223372036854775808≤v*2 ^ s)(h2:v*2 ^ s<18446744073709551616)(hs:s≤63):Nr v (v*2 ^ s) (63 - s) 0:=by
 have e:v*2 ^ s*2 ^ (63 - s)=v*9223372036854775808:=by
  rw [Nat.mul_assoc,←Nat.pow_add,show s+(63 - s)=63 by omega]
 exact⟨h1,h2,by rw [e];exact Nat.le_refl _,by rw [e];exact Nat.le_refl _⟩

theorem ke (K c:Nat)(hK:1≤K):K ^ c*K≤(K - 1) ^ c*K+c*K ^ c:=by
 obtain⟨k,rfl⟩:∃k,K=k+1:=⟨K - 1,by omega⟩
 rw [Nat.add_sub_cancel]
 induction c with
 | zero=>simp
 | succ c ih=>
  have hle:k ^ c≤(k+1) ^ c:=Nat.pow_le_pow_left (by omega) c
  have h1:=Nat.mul_le_mul_right k ih
  rw [Nat.pow_succ,Nat.pow_succ]
  generalize (k+1) ^ c=A at *
  generalize k ^ c=B at *
  have e1:A*(k+1)*(k+1)=A*(k+1)*k+A*(k+1):=by rw [Nat.mul_add,Nat.mul_one]
  have e2:(B*(k+1)+c*A)*k=B*k*(k+1)+c*(A*k):=by rw [Nat.add_mul];ac_rfl
  have e3:(c+1)*(A*(k+1))=c*(A*k)+c*A+A*(k+1):=by rw [Nat.add_mul,Nat.one_mul,Nat.mul_add,Nat.mul_one,Nat.mul_add]
  omega

theorem Nr.above {V m f c:Nat}(h:Nr V m f c)(hc:c≤1152921504606846976):V*9223372036854775808≤(m+4*c)*2 ^ f:=by
 have h1:=h.cuts
 have h2:=ke 9223372036854775808 c (by omega)
 rw [show 9223372036854775808 - 1=9223372036854775807 from rfl] at h2
 have hp:0<9223372036854775808 ^ c:=Nat.pow_pos (by omega)
 have hm:=h.high
 generalize (9223372036854775808:Nat) ^ c=A at *
 generalize (9223372036854775807:Nat) ^ c=B at *
 generalize 2 ^ f=F at *
 have h3:V*9223372036854775808*(9223372036854775808 - c)*A≤m*F*9223372036854775808*A:=by
  have h4:=Nat.mul_le_mul_left (V*9223372036854775808) h2
  have h5:=Nat.mul_le_mul_right 9223372036854775808 h1
  have e1:V*9223372036854775808*(A*9223372036854775808)=V*9223372036854775808*(9223372036854775808 - c)*A+V*9223372036854775808*(c*A):=by
   rw [Nat.mul_assoc _ (9223372036854775808 - c),←Nat.mul_add,←Nat.add_mul,Nat.sub_add_cancel (by omega),Nat.mul_comm A]
  have e2:V*9223372036854775808*(B*9223372036854775808+c*A)=V*9223372036854775808*B*9223372036854775808+V*9223372036854775808*(c*A):=by rw [Nat.mul_add,Nat.mul_assoc _ B]
  have e3:m*F*A*9223372036854775808=m*F*9223372036854775808*A:=by ac_rfl
  omega
 have h6:=Nat.le_of_mul_le_mul_right h3 hp
 refine Nat.le_of_mul_le_mul_right (c:=9223372036854775808 - c) ?_ (by omega)
 refine Nat.le_trans h6 ?_
 have e4:m*F*9223372036854775808=(m*9223372036854775808)*F:=by ac_rfl
 have e5:(m+4*c)*F*(9223372036854775808 - c)=((m+4*c)*(9223372036854775808 - c))*F:=by ac_rfl
 rw [e4,e5]
 refine Nat.mul_le_mul_right F ?_
 rw [Nat.mul_sub]
 have h7:(m+4*c)*c≤4*c*9223372036854775808:=by
  have h8:m+4*c≤4*9223372036854775808:=by omega
  have h9:=Nat.mul_le_mul_right c h8
  have e6:4*9223372036854775808*c=4*c*9223372036854775808:=by ac_rfl
  omega
 have e7:(m+4*c)*9223372036854775808=m*9223372036854775808+4*c*9223372036854775808:=Nat.add_mul _ _ _
 refine Nat.le_sub_of_add_le ?_
 rw [e7]
 exact Nat.add_le_add_left h7 _

theorem iF (m1 m2:Nat)(e1 e2:Int)(w:World)(h1':m1<18446744073709551616)(h2':m2<18446744073709551616)(b1:-1000≤e1)(b1':e1≤2305843009213693952)(b2:-1000≤e2)(b2':e2≤2305843009213693952) :
  Calls Tryz.prog 133 #[.agg #[.int .u64 m1,.int .i64 e1],.agg #[.int .u64 m2,.int .i64 e2]] w fun e w'=>e=.returned (.agg #[.int .u64 (aV (m1*m2):Nat),.int .i64 (e1+e2+63+(aU (m1*m2):Nat))])∧Below w.heap.size w w':=by
 have a2:m1*m2<18446744073709551616*18446744073709551616:=Nat.mul_lt_mul_of_lt_of_lt h1' h2'
 have hM:=fun W=>Tryz.bits_Mul64 m1 m2 h1' h2' W
 obtain⟨e3,he3⟩:∃e3:Int,e1+e2=e3:=⟨_,rfl⟩
 obtain⟨e4,he4⟩:∃e4:Int,e3+64=e4:=⟨_,rfl⟩
 have w3:IntKind.i64.wrap e3=e3:=by rw [IntKind.wrap_i64];omega
 have w4:IntKind.i64.wrap e4=e4:=by rw [IntKind.wrap_i64];omega
 generalize m1*m2=P at *
 have hHi:P / 18446744073709551616<18446744073709551616:=by omega
 have hLo:P % 18446744073709551616<18446744073709551616:=by omega
 unfold aV aU
 by_cases hP:P<170141183460469231731687303715884105728
 ·rw [if_pos hP,if_pos hP]
  obtain⟨e5,he5⟩:∃e5:Int,e4 - 1=e5:=⟨_,rfl⟩
  have w5:IntKind.i64.wrap e5=e5:=by rw [IntKind.wrap_i64];omega
  have hres:e3+63+((0:Nat):Int)=e5:=by omega
  rw [he3,hres]
  have q1:((P / 18446744073709551616:Nat):Int) / 9223372036854775808=0:=by omega
  obtain⟨l,hl,hl2⟩:∃l:Nat,((P % 18446744073709551616:Nat):Int) / 9223372036854775808=(l:Int)∧l<2:=⟨P % 18446744073709551616 / 9223372036854775808,by omega,by omega⟩
  have q2:=cm (P / 18446744073709551616) 1 (P / 18446744073709551616*2) (by omega)
  have q3:=hG (P / 18446744073709551616) 1 l (P / 9223372036854775808) (by omega) (by omega) (by omega) (by omega)
  rw [Int.pow_one] at q2
  rw [Nat.pow_one] at q3
  generalize P / 9223372036854775808=R at *
  generalize P / 18446744073709551616=H at *
  generalize P % 18446744073709551616=Lo at *
  have q4:bits BinOp.or IntKind.u64 ((H:Int)*2) (l:Int)=(R:Int):=by have:=q3;push_cast at this;exact this
  clear q3
  have ba:=ak w (.cells #[.int .u64 m1,.int .i64 e1] 147)
  have bb:=ak (w.alloc (.cells #[.int .u64 m1,.int .i64 e1] 147)) (.cells #[.int .u64 m2,.int .i64 e2] 147)
  have bc:=ak ((w.alloc (.cells #[.int .u64 m1,.int .i64 e1] 147)).alloc (.cells #[.int .u64 m2,.int .i64 e2] 147)) (.cells #[.int .u64 R,.int .i64 e5] 147)
  have bab:=ba.trans (bb.mono ba.size)
  have HB:=aa (bab.trans (bc.mono bab.size))
  clear ba bb bc bab
  go_enter Tryz.func133,Tryz.ntmps133
  go_wp2_with fail
  refine (hM _).mono ?_
  rintro e wn ⟨rfl,hw⟩;rw [hw];clear hw wn hM
  go_wp2
  go_returns
  exact⟨rfl,HB.out⟩
 ·rw [if_neg hP,if_neg hP]
  have hres:e3+63+((1:Nat):Int)=e4:=by omega
  rw [he3,hres]
  have q1:((P / 18446744073709551616:Nat):Int) / 9223372036854775808=1:=by omega
  generalize P / 18446744073709551616=H at *
  generalize P % 18446744073709551616=Lo at *
  have ba:=ak w (.cells #[.int .u64 m1,.int .i64 e1] 147)
  have bb:=ak (w.alloc (.cells #[.int .u64 m1,.int .i64 e1] 147)) (.cells #[.int .u64 m2,.int .i64 e2] 147)
  have bc:=ak ((w.alloc (.cells #[.int .u64 m1,.int .i64 e1] 147)).alloc (.cells #[.int .u64 m2,.int .i64 e2] 147)) (.cells #[.int .u64 H,.int .i64 e4] 147)
  have bab:=ba.trans (bb.mono ba.size)
  have HB:=aa (bab.trans (bc.mono bab.size))
  clear ba bb bc bab
  go_enter Tryz.func133,Tryz.ntmps133
  go_wp2_with fail
  refine (hM _).mono ?_
  rintro e wn ⟨rfl,hw⟩;rw [hw];clear hw wn hM
  go_wp2
  go_returns
  exact⟨rfl,HB.out⟩

theorem iV (v:Nat)(w:World)(hv:0<v)(hv2:v<18446744073709551616) :
  Calls Tryz.prog 132 #[.int .u64 v] w fun e w'=>∃m f:Nat,e=.returned (.agg #[.int .u64 m,.int .i64 ((f:Int) - 63)])∧Nr v m f 0∧f≤63∧Below w.heap.size w w':=by
 have HZ:=fun W=>Tryz.bits_LeadingZeros64 v W (by omega) (by omega)
 obtain⟨hb1,hb2,hb3⟩:1≤Lib.bitLen v∧2 ^ (Lib.bitLen v - 1)≤v∧v<2 ^ Lib.bitLen v:=Lib.bitLenAux_bounds 64 v hv2 (by omega)
 have hb64:Lib.bitLen v≤64:=Lib.bitLen_le v 64 (by omega) hv2
 obtain⟨s,hs,hs1,hs2⟩:∃s:Nat,64 - (Lib.bitLen v:Int)=(s:Int)∧Lib.bitLen v=64 - s∧s≤63:=⟨64 - Lib.bitLen v,by omega,by omega,by omega⟩
 simp only [Int.toNat_natCast,hs] at HZ
 rw [hs1] at hb2 hb3
 have h1:9223372036854775808≤v*2 ^ s:=by
  have:=Nat.mul_le_mul_right (2 ^ s) hb2
  rw [←Nat.pow_add,show 64 - s - 1+s=63 by omega] at this
  exact this
 have h2:v*2 ^ s<18446744073709551616:=by
  have:=Nat.mul_lt_mul_of_pos_right hb3 (show 0<2 ^ s from Nat.pow_pos (by omega))
  rw [←Nat.pow_add,show 64 - s+s=64 by omega] at this
  exact this
 have HN:=aa (Nr.exact v s h1 h2 hs2)
 have hw:=cm v s (v*2 ^ s) (Nat.mod_eq_of_lt h2)
 have hsl:(s:Int)<64:=by omega
 have hs0:(0:Int)≤(s:Int):=by omega
 have he:((63 - s:Nat):Int) - 63=-(s:Int):=by omega
 generalize v*2 ^ s=m at *
 have HB:=aa (ak w (.cells #[.int .u64 m,.int .i64 (-(s:Int))] 147))
 clear hb1 hb2 hb3 hb64 hs hs1 h1 h2
 go_enter Tryz.func132,Tryz.ntmps132
 go_wp2_with fail
 refine (HZ _).mono ?_
 rintro e wn ⟨rfl,hw⟩;rw [hw];clear hw wn HZ
 go_wp2
 go_returns
 exact⟨m,63 - s,by rw [he],HN.out,by omega,HB.out⟩

def Pw (b q m f:Nat):Prop:=(q=0∧m=9223372036854775808∧f=0)∨(1≤q∧∃c,c+1≤q∧Nr (b ^ q) m f c)

theorem Pw.range {b q m f:Nat}(h:Pw b q m f):9223372036854775808≤m∧m<18446744073709551616:=by
 rcases h with ⟨_,rfl,_⟩|⟨_,c,_,h⟩
 ·omega
 ·exact⟨h.low,h.high⟩

theorem Pw.exp {b q m f:Nat}(hb:b≤64)(h:Pw b q m f):f≤6*q:=by
 rcases h with ⟨_,_,rfl⟩|⟨_,c,_,h⟩
 ·omega
 ·have h1:=h.ge
  have h2:b ^ q≤2 ^ (6*q):=by rw [Nat.pow_mul];exact Nat.pow_le_pow_left hb q
  exact (Nat.pow_le_pow_iff_right (show 1<2 by omega)).1 (Nat.le_trans h1 h2)

theorem Pw.sq {b q m f:Nat}(h:Pw b q m f):Pw b (2*q) (aV (m*m)) (f+f+aU (m*m)):=by
 rcases h with ⟨rfl,rfl,rfl⟩|⟨hq,c,hc,h⟩
 ·exact .inl ⟨rfl,by decide,by decide⟩
 ·refine .inr ⟨by omega,c+c+1,by omega,?_⟩
  rw [show 2*q=q+q by omega,Nat.pow_add]
  exact h.times h

theorem Pw.mul {b q m f mb fb:Nat}(h:Pw b q m f)(hb:Nr b mb fb 0):Pw b (q+1) (aV (m*mb)) (f+fb+aU (m*mb)):=by
 rcases h with ⟨rfl,rfl,rfl⟩|⟨hq,c,hc,h⟩
 ·obtain⟨e1,e2⟩:=hb.one_times
  rw [e1,e2]
  refine .inr ⟨by omega,0,by omega,?_⟩
  rw [Nat.zero_add,Nat.zero_add,Nat.add_zero,Nat.pow_one]
  exact hb
 ·refine .inr ⟨by omega,c+0+1,by omega,?_⟩
  rw [Nat.pow_succ]
  exact h.times hb

def bR (w:World)(g m:Nat)(f:Nat):Prop:=w.heap[g]?=some (.cells #[.int .u64 m,.int .i64 ((f:Int) - 63)] 147)

theorem ia (b n:Nat)(w:World)(hb:1≤b)(hb2:b≤64)(hn:n≤1125899906842624) :
  Calls Tryz.prog 108 #[.int .u64 b,.int .i64 n] w fun e w'=>∃m f:Nat,e=.returned (.agg #[.int .u64 m,.int .i64 ((f:Int) - 63)])∧Pw b n m f∧Below w.heap.size w w':=by
 have HLN:=fun W=>Tryz.bits_Len (n:Int) W (by omega) (by omega)
 simp only [Int.toNat_natCast] at HLN
 obtain⟨L,hL⟩:∃L,Lib.bitLen n=L:=⟨_,rfl⟩
 have hnl:n<2 ^ L:=by
  rw [←hL]
  rcases Nat.eq_zero_or_pos n with h|h
  ·subst h;decide
  ·exact (Lib.bitLenAux_bounds 64 n (by omega) (by omega)).2.2
 have hL64:L≤64:=by rw [←hL];exact Lib.bitLen_le n 64 (by omega) (by omega)
 rw [hL] at HLN
 have HN1:=fun W=>iV 1 W (by omega) (by omega)
 have HNB:=fun W=>iV b W (by omega) (by omega)
 obtain⟨w0,hw0⟩:∃w0,w.alloc (.cells #[.int .u64 0,.int .i64 0] 147)=w0:=⟨_,rfl⟩
 have hb0:Below w.heap.size w w0:=by rw [←hw0];exact ak _ _
 have h0:w0.heap[w.heap.size]?=some (.cells #[.int .u64 0,.int .i64 0] 147):=by rw [←hw0];exact heap_alloc_new ..
 have HW0:=aa hw0
 have HB0:=aa hb0
 have H0:=aa h0
 have HNL:=aa hnl
 clear hw0 hb0 h0 hL hnl
 go_enter Tryz.func108,Tryz.ntmps108
 go_wp2_with fail
 rw [HW0.out]
 refine (kS w0).mono ?_
 rintro e w1 ⟨rfl,hb1⟩
 have HB1:=aa hb1
 clear hb1 HN1
 go_wp2_with fail
 refine (HNB w1).mono ?_
 rintro e w2 ⟨mb,fb,rfl,hNb,hfb,hb2'⟩
 have hb02:=HB1.out.trans (hb2'.mono HB1.out.size)
 obtain⟨wa,hwa⟩:∃wa,w2.alloc (.cells #[.int .u64 9223372036854775808,.int .i64 (-63)] 147)=wa:=⟨_,rfl⟩
 have hsa:wa.heap.size=w2.heap.size+1:=by rw [←hwa];exact World.size_alloc _ _
 obtain⟨w3,hw3⟩:∃w3,wa.alloc (.cells #[.int .u64 mb,.int .i64 ((fb:Int) - 63)] 147)=w3:=⟨_,rfl⟩
 have hba:Below w2.heap.size w2 wa:=by rw [←hwa];exact ak _ _
 have hb3:Below wa.heap.size wa w3:=by rw [←hw3];exact ak _ _
 have hb23:=hba.trans (hb3.mono hba.size)
 have k5:bR w3 w2.heap.size 9223372036854775808 0:=bY hb3 (by rw [←hwa];exact heap_alloc_new ..)
 have k6:bR w3 (w2.heap.size+1) mb fb:=by
  have h:=heap_alloc_new wa (.cells #[.int .u64 mb,.int .i64 ((fb:Int) - 63)] 147)
  rw [hsa,hw3] at h
  exact h
 have hb03:=hb02.trans (hb23.mono hb02.size)
 have k4:=bY hb03 H0.out
 have HW3:=aa (show (w2.alloc (.cells #[.int .u64 9223372036854775808,.int .i64 (-63)] 147)).alloc (.cells #[.int .u64 mb,.int .i64 ((fb:Int) - 63)] 147)=w3 by rw [hwa,hw3])
 have HB3:=aa (HB0.out.trans (hb03.mono HB0.out.size))
 have hlt:w.heap.size<w2.heap.size:=Nat.lt_of_lt_of_le (lt_of_block H0.out) hb02.size
 obtain⟨g,hg⟩:∃g,w2.heap.size=g:=⟨_,rfl⟩
 obtain⟨g6,hg6⟩:∃g6,g+1=g6:=⟨_,rfl⟩
 rw [hg] at k5 hlt
 rw [hg,hg6] at k6
 have HG:=aa (And.intro hg hg6)
 have hg6':g<g6:=by omega
 have HK:=aa (And.intro k4 (And.intro k5 k6))
 have HNb:=aa hNb
 clear hb2' hb02 hwa hw3 hba hb3 hb23 hb03 hsa k4 k5 k6 hg hg6 hNb HNB
 go_wp2_with fail
 rw [HW3.out]
 refine (HLN _).mono ?_
 rintro e wn ⟨rfl,hw⟩;rw [hw,HG.out.1,HG.out.2];clear hw wn HLN
 go_wp2
 go_loopw [7] (fun i wr=>∃(k m f:Nat),i=.int .i64 ((k:Int) - 1)∧k≤L∧bR wr g m f∧Pw b (n / 2 ^ k) m f∧bR wr g6 mb fb∧wr.heap[w.heap.size]?=some (.cells #[.int .u64 0,.int .i64 0] 147)∧Below w.heap.size w wr) (fun i _=>(intOf i+1).toNat)
 case atStart=>
  exact⟨L,9223372036854775808,0,rfl,Nat.le_refl _,HK.out.2.1,by rw [Nat.div_eq_of_lt HNL.out];exact .inl ⟨rfl,rfl,rfl⟩,HK.out.2.2,HK.out.1,HB3.out⟩
 case round=>
  obtain⟨k,m,f,rfl,hk,hAt,hPw,hAt6,hRes,hbel⟩:=hrel
  have HAt:=aa hAt
  have HPw:=aa hPw
  have HAt6:=aa hAt6
  have HRes:=aa hRes
  have HBW:=aa hbel
  obtain⟨c0,c1⟩:=aQ hAt
  clear hAt hPw hAt6 hRes hbel HK HB3
  by_cases hk0:k=0
  ·subst hk0
   obtain⟨d0,d1⟩:=aQ HRes.out
   have hf:=dL HRes.out
   go_wp2
   have R5:=cH HRes.out (a':=.int .u64 m) (b':=.int .i64 ((f:Int) - 63))
   have HD:=aa (cX HBW.out (g:=w.heap.size) (u0:=.int .u64 m) (u1:=.int .i64 ((f:Int) - 63)) (Nat.le_refl _))
   generalize (wr.setCell ⟨w.heap.size,0,none⟩ (.int .u64 m)).setCell ⟨w.heap.size,1,none⟩ (.int .i64 ((f:Int) - 63))=w8 at *
   obtain⟨q0,q1⟩:=aQ R5
   refine bodyPost_ret (v:=.agg #[.int .u64 m,.int .i64 ((f:Int) - 63)]) (by simp [results,Tryz.results108,go_sem,q0,q1]) rfl ?_
   refine⟨m,f,rfl,?_,HD.out⟩
   have:=HPw.out
   rw [Nat.pow_zero,Nat.div_one] at this
   exact this
  ·obtain⟨j,rfl⟩:∃j,k=j+1:=⟨k - 1,by omega⟩
   have ej:(((j+1:Nat):Int) - 1)=(j:Int):=by omega
   rw [ej]
   have hj0:(0:Int)≤(j:Int):=by omega
   have hj64:j<64:=by omega
   have hst:=iX n j
   have hle:n / 2 ^ j≤n:=Nat.div_le_self _ _
   have hsh:(n:Int) / 2 ^ j=((n / 2 ^ j:Nat):Int):=by rw [Int.natCast_ediv,Int.natCast_pow];rfl
   have hand:=gp ((n / 2 ^ j:Nat):Int)
   have hm2:((n / 2 ^ j:Nat):Int) % 2=((n / 2 ^ j % 2:Nat):Int):=by omega
   rw [hm2] at hand
   have wj:IntKind.i64.wrap (((n / 2 ^ j:Nat)):Int)=(((n / 2 ^ j:Nat)):Int):=by rw [IntKind.wrap_i64];omega
   generalize n / 2 ^ (j+1)=p at *
   obtain⟨q,hq⟩:∃q,n / 2 ^ j=q:=⟨_,rfl⟩
   rw [hq] at hst hle hsh hand hm2 wj
   have HQD:=aa hq
   have HQ:=aa (And.intro hst hle)
   have hfe:=HPw.out.exp hb2
   have hr1:=HPw.out.range
   have F1:=iF m m ((f:Int) - 63) ((f:Int) - 63) wr hr1.2 hr1.2 (by omega) (by omega) (by omega) (by omega)
   have hsq:=HPw.out.sq
   obtain⟨f3,hf3,ef3⟩:∃f3:Nat,f+f+aU (m*m)=f3∧(f:Int) - 63+((f:Int) - 63)+63+(aU (m*m):Nat)=(f3:Int) - 63:=⟨_,rfl,by omega⟩
   rw [ef3] at F1
   rw [hf3] at hsq
   generalize aV (m*m)=m3 at *
   have HSQ:=aa hsq
   clear hq hst hfe hr1 hsq hf3 ef3 hk0 ej
   go_wp2_with fail
   refine F1.mono ?_
   rintro e w3' ⟨rfl,hb3⟩
   have k5:=bY hb3 HAt.out
   have k6:=bY hb3 HAt6.out
   have k4:=bY hb3 HRes.out
   have hB3:=HBW.out.trans (hb3.mono HBW.out.size)
   have hf5:=dL k5
   obtain⟨d50,d51⟩:=aQ k5
   have s5:=cH k5 (a':=.int .u64 m3) (b':=.int .i64 ((f3:Int) - 63))
   obtain⟨w5,hw5⟩:∃w5,(w3'.setCell ⟨g,0,none⟩ (.int .u64 m3)).setCell ⟨g,1,none⟩ (.int .i64 ((f3:Int) - 63))=w5:=⟨_,rfl⟩
   have s6:bR w5 g6 mb fb:=by rw [←hw5];exact bO (bO k6 (by omega)) (by omega)
   have s4:w5.heap[w.heap.size]?=some (.cells #[.int .u64 0,.int .i64 0] 147):=by rw [←hw5];exact bO (bO k4 (by omega)) (by omega)
   have HB5:=aa (show Below w.heap.size w w5 by rw [←hw5];exact cX hB3 (by omega))
   rw [hw5] at s5
   have HS:=aa (And.intro s4 (And.intro (show bR w5 g m3 f3 from s5) s6))
   have HW5:=aa hw5
   clear F1 hb3 k4 k5 k6 hB3 c0 c1 HAt HAt6 HRes HBW HPw
   rcases Nat.mod_two_eq_zero_or_one q with h0|h1
   ·rw [h0] at hand
    have HEQ:Hid (2*p=q):=aa (by have:=HQ.out.1;omega)
    clear h0 hw5 s4 s5 s6
    go_wp2
    go_roundw
    case rel=>exact⟨j,m3,f3,rfl,by omega,by rw [HW5.out];exact HS.out.2.1,by rw [HQD.out,←HEQ.out];exact HSQ.out,by rw [HW5.out];exact HS.out.2.2,by rw [HW5.out];exact HS.out.1,by rw [HW5.out];exact HB5.out⟩
    case measure=>simp [intOf]
   ·rw [h1] at hand
    have HEQ:Hid (2*p+1=q):=aa (by have:=HQ.out.1;omega)
    have x5:=aQ s5
    have x6:=aQ s6
    rw [←hw5] at x5 x6
    obtain⟨x50,x51⟩:=x5
    obtain⟨x60,x61⟩:=x6
    have hfe:=HSQ.out.exp hb2
    have hr1:=HSQ.out.range
    have F2:=iF m3 mb ((f3:Int) - 63) ((fb:Int) - 63) w5 hr1.2 HNb.out.high (by omega) (by have:=HQ.out;omega) (by omega) (by omega)
    have hmu:=HSQ.out.mul HNb.out
    rw [HEQ.out] at hmu
    obtain⟨f4,hf4,ef4⟩:∃f4:Nat,f3+fb+aU (m3*mb)=f4∧(f3:Int) - 63+((fb:Int) - 63)+63+(aU (m3*mb):Nat)=(f4:Int) - 63:=⟨_,rfl,by omega⟩
    rw [ef4] at F2
    rw [hf4] at hmu
    generalize aV (m3*mb)=m4 at *
    have HMU:=aa hmu
    clear h1 hw5 s4 s5 s6 hfe hr1 hmu hf4 ef4
    go_wp2_with fail
    rw [HW5.out]
    refine F2.mono ?_
    rintro e w6 ⟨rfl,hb6⟩
    have k4:=bY hb6 HS.out.1
    have k5:=bY hb6 HS.out.2.1
    have k6:=bY hb6 HS.out.2.2
    have hB6:=HB5.out.trans (hb6.mono HB5.out.size)
    clear x50 x51 x60 x61 hf5 d50 d51 F2 hb6
    have hf5:=dL k5
    obtain⟨d50,d51⟩:=aQ k5
    have t5:=cH k5 (a':=.int .u64 m4) (b':=.int .i64 ((f4:Int) - 63))
    obtain⟨w7,hw7⟩:∃w7,(w6.setCell ⟨g,0,none⟩ (.int .u64 m4)).setCell ⟨g,1,none⟩ (.int .i64 ((f4:Int) - 63))=w7:=⟨_,rfl⟩
    have t6:bR w7 g6 mb fb:=by rw [←hw7];exact bO (bO k6 (by omega)) (by omega)
    have t4:w7.heap[w.heap.size]?=some (.cells #[.int .u64 0,.int .i64 0] 147):=by rw [←hw7];exact bO (bO k4 (by omega)) (by omega)
    have HB7:=aa (show Below w.heap.size w w7 by rw [←hw7];exact cX hB6 (by omega))
    rw [hw7] at t5
    have HS7:=aa (And.intro t4 (And.intro (show bR w7 g m4 f4 from t5) t6))
    have HW7:=aa hw7
    clear k4 k5 k6 hw7 t4 t5 t6 hB6
    go_wp2
    go_roundw
    case rel=>exact⟨j,m4,f4,rfl,by omega,by rw [HW7.out];exact HS7.out.2.1,by rw [HQD.out];exact HMU.out,by rw [HW7.out];exact HS7.out.2.2,by rw [HW7.out];exact HS7.out.1,by rw [HW7.out];exact HB7.out⟩
    case measure=>simp [intOf]

theorem Pw.ge {b q m f:Nat}(h:Pw b q m f):2 ^ f≤b ^ q:=by
 rcases h with ⟨rfl,_,rfl⟩|⟨_,c,_,h⟩
 ·simp
 ·exact h.ge

theorem Pw.above {b q m f:Nat}(h:Pw b q m f)(hq:q≤1125899906842624):b ^ q*9223372036854775808≤(m+4*q)*2 ^ f:=by
 rcases h with ⟨rfl,rfl,rfl⟩|⟨_,c,hc,h⟩
 ·simp
 ·refine Nat.le_trans (h.above (by omega)) (Nat.mul_le_mul_right _ (by omega))

theorem Pw.lt {b q m f:Nat}(h:Pw b q m f)(hq:q≤1125899906842624):b ^ q<2 ^ (f+2):=by
 have h1:=h.above hq
 have h2:=h.range
 have h3:(m+4*q)*2 ^ f<36893488147419103232*2 ^ f:=Nat.mul_lt_mul_of_pos_right (by omega) (Nat.pow_pos (by omega))
 rw [Nat.pow_add]
 generalize 2 ^ f=F at *
 generalize b ^ q=V at *
 omega

theorem Pw.blen_gt {b q m f:Nat}(h:Pw b q m f):f<blen (b ^ q):=by
 rcases Nat.lt_or_ge f (blen (b ^ q)) with h1|h1
 ·exact h1
 ·have:=(blen_le_iff _ _).1 h1
  have:=h.ge
  omega

theorem gj (b n:Nat)(w:World)(hb:1≤b)(hb2:b≤64)(hn:n≤1125899906842624) :
  Calls Tryz.prog 77 #[.int .i64 n,.int .u64 b] w fun e w'=>∃r:Bool,e=.returned (.bool r)∧(r=true→67108864<blen (b ^ (n - 1)))∧(r=false→blen (b ^ (n - 1))≤67108865)∧Below w.heap.size w w':=by
 obtain⟨k,hk,hk2⟩:∃k:Nat,max ((n:Int) - 1) 0=(k:Int)∧n - 1=k:=⟨n - 1,by omega,rfl⟩
 have HP:=ia b k w hb hb2 (by omega)
 rw [hk2]
 clear hk2
 go_enter Tryz.func77,Tryz.ntmps77
 go_wp2_with fail
 refine HP.mono ?_
 rintro e w1 ⟨m,f,rfl,hPw,hb1⟩
 have HB:=aa (hb1.trans ((ak w1 (.cells #[.int .u64 m,.int .i64 ((f:Int) - 63)] 147)).mono hb1.size))
 have hfe:=hPw.exp hb2
 have HPw:=aa hPw
 clear hb1 hPw HP
 by_cases hf:67108864≤f
 ·have h1:(67108864:Int)<(f:Int) - 63+64:=by omega
  have h2:decide ((67108864:Int)<(f:Int) - 63+64)=true:=decide_eq_true h1
  go_wp2
  go_ret
  exact⟨true,rfl,(fun _=>by have:=HPw.out.blen_gt;omega),(fun h=>by cases h),HB.out⟩
 ·have h1:¬((67108864:Int)<(f:Int) - 63+64):=by omega
  have h2:decide ((67108864:Int)<(f:Int) - 63+64)=false:=decide_eq_false h1
  go_wp2
  go_ret
  exact⟨false,rfl,(fun h=>by cases h),(fun _=>by have:=(blen_le_iff (b ^ k) (f+2)).2 (HPw.out.lt (by omega));omega),HB.out⟩
end Go.Proofs.YtkhckcfikljjhaaGreatDoor
namespace Go.Proofs.YtkhckcfikljjhaaGreatDoor
open Go.RowKit
open Lm
attribute [local go_sem ↓] Go.wp_at_zero Go.wp_at_succ
attribute [local go_sem] dl

theorem gR {b o n:Nat}{D:List Nat}(hn:1≤n)(h0:D.getD o 0≠0):b ^ (n - 1)≤dvr b D o n:=by
 obtain⟨m,rfl⟩:∃m,n=1+m:=⟨n - 1,by omega⟩
 rw [bF,show 1+m - 1=m by omega]
 have h1:dvr b D o 1=D.getD o 0:=by simp [dvr]
 have h2:1*b ^ m≤dvr b D o 1*b ^ m:=Nat.mul_le_mul_right _ (by rw [h1];omega)
 omega

theorem oc (gd o n b:Nat)(D:List Nat)(w:World)(hT:Tab w)(hD:Byt w gd D)(ho:o+n≤D.length)(hn1:1≤n)(hn:n≤1125899906842624)(hdig:∀i,i<n→D.getD (o+i) 0<b)(h0:D.getD o 0≠0)(hb:2≤b)(hb2:b≤36) :
  Calls Tryz.prog 58 #[.slice (some ⟨gd,o,none⟩) n n,.int .i64 b] w (dn b o n D w):=by
 obtain⟨w0,hw0⟩:∃W,w.alloc (.cells #[.int .i64 b] 3)=W:=⟨_,rfl⟩
 have hb0:Below w.heap.size w w0:=by rw [←hw0];exact ak _ _
 have x0:w0.heap[w.heap.size]?=some (.cells #[.int .i64 b] 3):=by rw [←hw0];exact heap_alloc_new ..
 have c0:=aD x0
 have C:=gj b n w0 (by omega) (by omega) hn
 have hge:=gR (b:=b) hn1 h0
 have HD:=aa hD
 have HT:=aa hT
 have HB0:=aa hb0
 have X0:=aa x0
 have HDG:=aa hdig
 have HGE:=aa hge
 have H00:=aa h0
 clear hD hT hb0 x0 hdig hge h0
 go_enter Tryz.func58,Tryz.ntmps58
 go_wp2_with fail
 refine C.mono ?_
 rintro e w1 ⟨r,rfl,hr1,hr2,hb1⟩
 have HB1:=aa (bt5 HB0.out hb1)
 have X1:=aa ((hb1.block _ (lt_of_block X0.out)).trans X0.out)
 cases r
 ·have hNB:=hr2 rfl
  have hn9:n≤67108867:=by
   have h4:2 ^ (n - 1)≤b ^ (n - 1):=Nat.pow_le_pow_left hb _
   have h5:b ^ (n - 1)<2 ^ blen (b ^ (n - 1)):=(blen_le_iff _ _).1 (Nat.le_refl _)
   have h6:=(Nat.pow_lt_pow_iff_right (by omega:1<2)).1 (Nat.lt_of_le_of_lt h4 h5)
   omega
  have C2:=dU b n w1 (HT.out.below HB1.out) hb hb2 hn
  have c1:=aD X1.out
  have HNB:=aa hNB
  clear C hr1 hr2 hb1 c0 HB0 X0 hNB
  go_wp2_with fail
  refine C2.mono ?_
  rintro e w3 ⟨⟨vl,rfl,hP⟩,hb3⟩
  obtain⟨al,nl,kl,rfl⟩:∃al nl kl,vl=.slice al nl kl:=by
   obtain⟨l,h1,_⟩:=hP
   rcases h1 with ⟨h1,_⟩|⟨g,cap',h1,_⟩
   ·exact⟨_,_,_,h1⟩
   ·exact⟨_,_,_,h1⟩
  obtain⟨w4,hw4⟩:∃W,w3.alloc (.cells #[.slice al nl kl] 99)=W:=⟨_,rfl⟩
  have hs4:w4.heap.size=w3.heap.size+1:=by rw [←hw4];exact World.size_alloc _ _
  obtain⟨w5,hw5⟩:∃W,w4.alloc (.cells #[.func (.func 78) #[] #[.pointer (some ⟨w3.heap.size,0,none⟩),.pointer (some ⟨w.heap.size,0,none⟩),.pointer (some ⟨w3.heap.size+1,0,none⟩)]] 123)=W:=⟨_,rfl⟩
  have hb4:Below w3.heap.size w3 w4:=by rw [←hw4];exact ak _ _
  have hb5:Below w4.heap.size w4 w5:=by rw [←hw5];exact ak _ _
  have hb35:=bt5 hb4 hb5
  have hb15:=bt5 hb3 hb35
  have cl:=aB hb5 (aD (show w4.heap[w3.heap.size]?=some (.cells #[.slice al nl kl] 99) by rw [←hw4];exact heap_alloc_new ..))
  have cb5:=aB hb15 (aD X1.out)
  have cw:w5.cell? ⟨w3.heap.size+1,0,none⟩=some (.func (.func 78) #[] #[.pointer (some ⟨w3.heap.size,0,none⟩),.pointer (some ⟨w.heap.size,0,none⟩),.pointer (some ⟨w3.heap.size+1,0,none⟩)]):=aD (t:=123) (by
   have h:=heap_alloc_new w4 (.cells #[.func (.func 78) #[] #[.pointer (some ⟨w3.heap.size,0,none⟩),.pointer (some ⟨w.heap.size,0,none⟩),.pointer (some ⟨w3.heap.size+1,0,none⟩)]] 123)
   rw [hs4,hw5] at h
   exact h)
  have hB5:=bt5 HB1.out hb15
  have FW:=ev w3.heap.size w.heap.size (w3.heap.size+1) gd b n (.slice al nl kl) hb hb2 HNB.out hn9 (n+1) n o n D w5 (by omega) (HD.out.below hB5 HD.out.lt) ho (Nat.le_refl _) (by omega) (Nat.le_refl _) HDG.out (HT.out.below hB5) cl cb5 cw (hP.below hb35)
  have HW5:=aa (show (w3.alloc (.cells #[.slice al nl kl] 99)).alloc (.cells #[.func (.func 78) #[] #[.pointer (some ⟨w3.heap.size,0,none⟩),.pointer (some ⟨w.heap.size,0,none⟩),.pointer (some ⟨w3.heap.size+1,0,none⟩)]] 123)=w5 by rw [hw4,hw5])
  have HB5:=aa hB5
  rw [←HW5.out] at cw
  clear C2 hb3 hb4 hb5 hb35 hb15 cl cb5 hw4 hw5 hs4 hB5 hP c1
  go_wp2_with fail
  rw [HW5.out]
  refine FW.mono ?_
  rintro e w6 ⟨hb6,hc6⟩
  have HB6:=aa (bt5 HB5.out hb6)
  have hbs:=HB5.out.size
  rcases hc6 with ⟨v6,Z6,rfl,hZ6,hl6,hv6,ht6⟩|⟨rfl,hbig⟩
  ·have HF:=aa (And.intro (hZ6.base hbs) (And.intro hl6 (And.intro hv6 (ht6 H00.out))))
   clear FW hb6 hZ6 hl6 hv6 ht6 cw
   go_wp2
   go_ret2
   exact⟨HB6.out,.inl ⟨v6,Z6,rfl,HF.out.1,by have:=HF.out.2.1;omega,HF.out.2.2.1,HF.out.2.2.2⟩⟩
  ·have HBG:=aa hbig
   clear FW hb6 hbig cw
   go_wp2
   go_ret2
   exact⟨HB6.out,.inr ⟨_,rfl,HBG.out⟩⟩
 ·have HBG:Hid (67108864<blen (dvr b D o n)):=aa (Nat.lt_of_lt_of_le (hr1 rfl) (cf HGE.out))
  clear C hr1 hr2 hb1
  go_wp2
  go_ret2
  exact⟨HB1.out,.inr ⟨_,rfl,HBG.out⟩⟩

theorem jW (ao:Option Addr)(cap b:Nat)(w:World)(hb:2≤b)(hb2:b≤36) :
  Calls Tryz.prog 79 #[.slice ao 0 cap,.int .i64 b] w fun e w'=>e=.returned (.slice none 0 0)∧w'=w:=by
 have HU:=dV b w hb hb2
 go_enter Tryz.func79,Tryz.ntmps79
 go_wp2_with fail
 refine HU.mono ?_
 rintro e wn ⟨d,p,rfl,hu,hw⟩;rw [hw];clear hw wn HU hu
 go_wp2
 refine wp_loop_rounds 1 ?_
 rw [rounds_succ]
 go_wp2
 go_ret
 exact⟨rfl,rfl⟩

theorem j8 (gl gb gw b cap:Nat)(ao:Option Addr)(vl:Value)(w:World)(hb:2≤b)(hb2:b≤36)
  (cl:w.cell? ⟨gl,0,none⟩=some vl) (cb:w.cell? ⟨gb,0,none⟩=some (.int .i64 b)) (hP:bw w vl b 0) :
  Calls Tryz.prog 78 #[.slice ao 0 cap,.pointer (some ⟨gl,0,none⟩),.pointer (some ⟨gb,0,none⟩),.pointer (some ⟨gw,0,none⟩)] w fun e w'=>e=.returned (.tuple #[.slice none 0 0,.int .i64 0])∧Below w.heap.size w w':=by
 obtain⟨l,hPA,_⟩:=hP
 have C:=fq vl 0 l w hPA
 clear hPA
 go_enter Tryz.func78,Tryz.ntmps78
 go_wp2_with fail
 refine C.mono ?_
 rintro e w1 ⟨hcase,hb1⟩
 rcases hcase with ⟨i,d,ov,s,hli,hdn,_,he⟩|⟨_,he⟩
 ·exact absurd hdn (Nat.not_lt_zero d)
 ·obtain⟨x0,a0,n0,c0,y0,rfl,_⟩:∃(x0:Int) (a0:Option Addr) (n0 c0:Nat) (y0:Int),e=.returned (.tuple #[.agg #[.int .i64 x0,.slice a0 n0 c0,.int .i64 y0],.bool false])∧True:=⟨0,none,0,0,0,he,trivial⟩
  clear he
  obtain⟨w2,hw2⟩:∃W,w1.alloc (.cells #[.int .i64 x0,.slice a0 n0 c0,.int .i64 y0] 103)=W:=⟨_,rfl⟩
  have hb2':Below w1.heap.size w1 w2:=by rw [←hw2];exact ak _ _
  have hB2:=bt5 hb1 hb2'
  have cb2:=aB hB2 cb
  have C2:=jW ao cap b w2 hb hb2
  have HB2:=aa hB2
  clear C hb1 hb2' hB2
  go_wp2_with fail
  refine C2.mono ?_
  rintro e wn ⟨rfl,hw⟩;rw [hw];clear hw wn C2
  go_wp2
  go_ret2
  exact⟨rfl,HB2.out⟩

theorem lS (ao:Option Addr)(cap o b:Nat)(D:List Nat)(w:World)(hT:Tab w)(hb:2≤b)(hb2:b≤36) :
  Calls Tryz.prog 58 #[.slice ao 0 cap,.int .i64 b] w (dn b o 0 D w):=by
 obtain⟨w0,hw0⟩:∃W,w.alloc (.cells #[.int .i64 b] 3)=W:=⟨_,rfl⟩
 have hb0:Below w.heap.size w w0:=by rw [←hw0];exact ak _ _
 have x0:w0.heap[w.heap.size]?=some (.cells #[.int .i64 b] 3):=by rw [←hw0];exact heap_alloc_new ..
 have c0:=aD x0
 have C:=gj b 0 w0 (by omega) (by omega) (by omega)
 have HT:=aa hT
 have HB0:=aa hb0
 have X0:=aa x0
 clear hT hb0 x0
 go_enter Tryz.func58,Tryz.ntmps58
 go_wp2_with fail
 refine C.mono ?_
 rintro e w1 ⟨r,rfl,hr1,hr2,hb1⟩
 have HB1:=aa (bt5 HB0.out hb1)
 have X1:=aa ((hb1.block _ (lt_of_block X0.out)).trans X0.out)
 cases r
 ·have C2:=dU b 0 w1 (HT.out.below HB1.out) hb hb2 (by omega)
  have c1:=aD X1.out
  clear C hr1 hr2 hb1 c0 HB0 X0
  go_wp2_with fail
  refine C2.mono ?_
  rintro e w3 ⟨⟨vl,rfl,hP⟩,hb3⟩
  obtain⟨al,nl,kl,rfl⟩:∃al nl kl,vl=.slice al nl kl:=by
   obtain⟨l,h1,_⟩:=hP
   rcases h1 with ⟨h1,_⟩|⟨g,cap',h1,_⟩
   ·exact⟨_,_,_,h1⟩
   ·exact⟨_,_,_,h1⟩
  obtain⟨w4,hw4⟩:∃W,w3.alloc (.cells #[.slice al nl kl] 99)=W:=⟨_,rfl⟩
  have hs4:w4.heap.size=w3.heap.size+1:=by rw [←hw4];exact World.size_alloc _ _
  obtain⟨w5,hw5⟩:∃W,w4.alloc (.cells #[.func (.func 78) #[] #[.pointer (some ⟨w3.heap.size,0,none⟩),.pointer (some ⟨w.heap.size,0,none⟩),.pointer (some ⟨w3.heap.size+1,0,none⟩)]] 123)=W:=⟨_,rfl⟩
  have hb4:Below w3.heap.size w3 w4:=by rw [←hw4];exact ak _ _
  have hb5:Below w4.heap.size w4 w5:=by rw [←hw5];exact ak _ _
  have hb35:=bt5 hb4 hb5
  have hb15:=bt5 hb3 hb35
  have cl:=aB hb5 (aD (show w4.heap[w3.heap.size]?=some (.cells #[.slice al nl kl] 99) by rw [←hw4];exact heap_alloc_new ..))
  have cb5:=aB hb15 (aD X1.out)
  have cw:w5.cell? ⟨w3.heap.size+1,0,none⟩=some (.func (.func 78) #[] #[.pointer (some ⟨w3.heap.size,0,none⟩),.pointer (some ⟨w.heap.size,0,none⟩),.pointer (some ⟨w3.heap.size+1,0,none⟩)]):=aD (t:=123) (by
   have h:=heap_alloc_new w4 (.cells #[.func (.func 78) #[] #[.pointer (some ⟨w3.heap.size,0,none⟩),.pointer (some ⟨w.heap.size,0,none⟩),.pointer (some ⟨w3.heap.size+1,0,none⟩)]] 123)
   rw [hs4,hw5] at h
   exact h)
  have hB5:=bt5 HB1.out hb15
  have FW:=j8 w3.heap.size w.heap.size (w3.heap.size+1) b cap ao (.slice al nl kl) w5 hb hb2 cl cb5 (hP.below hb35)
  have HW5:=aa (show (w3.alloc (.cells #[.slice al nl kl] 99)).alloc (.cells #[.func (.func 78) #[] #[.pointer (some ⟨w3.heap.size,0,none⟩),.pointer (some ⟨w.heap.size,0,none⟩),.pointer (some ⟨w3.heap.size+1,0,none⟩)]] 123)=w5 by rw [hw4,hw5])
  have HB5:=aa hB5
  rw [←HW5.out] at cw
  clear C2 hb3 hb4 hb5 hb35 hb15 cl cb5 hw4 hw5 hs4 hB5 hP c1
  go_wp2_with fail
  rw [HW5.out]
  refine FW.mono ?_
  rintro e w6 ⟨rfl,hb6⟩
  have HB6:=aa (bt5 HB5.out hb6)
  clear FW hb6 cw
  go_wp2
  go_ret2
  exact⟨HB6.out,.inl ⟨_,[],rfl,Ans.nil _ _,Nat.zero_le _,rfl,rfl⟩⟩
 ·have h:=hr1 rfl
  have h1:blen (b ^ (0 - 1))≤1:=(blen_le_iff _ 1).2 (by simp)
  exact absurd h (by omega)

theorem nL (b n g:Nat)(W:World)(D:List Nat)(k:Nat)(ao:Option Addr)(cc:Nat)(hb:2≤b)(hb2:b≤36)(hn:n≤1125899906842624)(hT:Tab W)(hD:Byt W g D)(hl:D.length=n)(hk:k≤n)(hd:∀i,i<n→D.getD i 0<b)(h:k<n→ao=some ⟨g,k,none⟩∧cc=n - k∧D.getD k 0≠0) :
  Calls Tryz.prog 58 #[.slice ao (n - k) cc,.int .i64 b] W (dn b k (n - k) D W):=by
 rcases Nat.lt_or_ge k n with hkn|hkn
 ·obtain⟨rfl,rfl,h0⟩:=h hkn
  exact oc g k (n - k) b D W hT hD (by omega) (by omega) (by omega) (fun i hi=>hd (k+i) (by omega)) h0 hb hb2
 ·rw [show n - k=0 by omega]
  exact lS ao cc k b D W hT hb hb2
end Go.Proofs.YtkhckcfikljjhaaGreatDoor
namespace Go.Proofs.YtkhckcfikljjhaaGreatDoor
open Go.RowKit
open Lm
attribute [local go_sem ↓] Go.wp_at_zero Go.wp_at_succ

def fig (d:Nat):Nat:=[48,49,50,51,52,53,54,55,56,57,97,98,99,100,101,102,103,104,105,106,107,108,109,110,111,112,113,114,115,116,117,118,119,120,121,122].getD d 0

theorem gX (d:Nat):fig d<128:=by
 rcases Nat.lt_or_ge d 36 with h|h
 ·have:∀d:Fin 36,fig d.1<128:=by decide +kernel
  exact this ⟨d,h⟩
 ·unfold fig;rw [List.getD,List.getElem?_eq_none (by simpa using h)];decide

theorem mO (d:Nat)(h:d<(ByteArray.mk #[48,49,50,51,52,53,54,55,56,57,97,98,99,100,101,102,103,104,105,106,107,108,109,110,111,112,113,114,115,116,117,118,119,120,121,122]).size):(ByteArray.mk #[48,49,50,51,52,53,54,55,56,57,97,98,99,100,101,102,103,104,105,106,107,108,109,110,111,112,113,114,115,116,117,118,119,120,121,122])[d].toNat=fig d:=by
 have key:∀d:Fin 36,((ByteArray.mk #[48,49,50,51,52,53,54,55,56,57,97,98,99,100,101,102,103,104,105,106,107,108,109,110,111,112,113,114,115,116,117,118,119,120,121,122])[d.1]'(d.2)).toNat=fig d.1:=by decide +kernel
 exact key ⟨d,h⟩

def an (L:List Nat):ByteArray:=L.foldl (fun r n=>r.push (UInt8.ofNat n)) ByteArray.empty

theorem gf (L:List Nat):∀r:ByteArray,((L.map fun n=>((n:Nat):Int)).foldl (fun r n=>r.push (UInt8.ofNat n.toNat)) r)=L.foldl (fun r n=>r.push (UInt8.ofNat n)) r:=by
 induction L with
 | nil=>intro r;rfl
 | cons a l ih=>intro r;simp only [List.map_cons,List.foldl_cons,Int.toNat_natCast];exact ih _

theorem jk (gd cap:Nat)(D:List Nat)(w:World)(hd:Byt w gd D) :
  (convert 60 9 (.slice (some ⟨gd,0,none⟩) D.length cap)).run Tryz.prog w=.ok (.string (an D)) w:=by
 rw [run_convert_bytes_string w 60 9 5 _ _ _ Tryz.underlying60 Tryz.underlying5 Tryz.underlying9]
 rw [run_bytesToString w _ D.length cap (D.map fun n=>((n:Nat):Int)) ?_,gf]
 ·rfl
 ·have h:=run_loadCells_list (P:=Tryz.prog) (w:=w) ⟨gd,0,none⟩ (D.map bv) (fun j v hj=>by
   rw [List.getElem?_map] at hj
   rcases hh:D[j]? with _|z
   ·rw [hh] at hj;cases hj
   ·rw [hh] at hj
    have hjl:j<D.length:=by
     rcases Nat.lt_or_ge j D.length with h|h
     ·exact h
     ·rw [List.getElem?_eq_none h] at hh;cases hh
    have:=hd.cell j hjl
    have e:D.getD j 0=z:=by rw [List.getD,hh];rfl
    rw [e] at this
    simp only [Option.map_some,Option.some.injEq] at hj
    rw [←hj]
    by_cases h0:j=0
    ·subst h0;simpa [Addr.add,bv] using this
    ·simpa [Addr.add,bv,h0] using this)
  rw [List.length_map] at h
  rw [h,List.map_map]
  rfl

theorem kR (gd cap:Nat)(D:List Nat)(w:World)(hd:Byt w gd D)(h36:∀d ∈ D,d<36)(hc:D.length≤cap)(hcm:cap≤9223372036854775807) :
  Calls Tryz.prog 46 #[.slice (some ⟨gd,0,none⟩) D.length cap] w fun e w'=>e=.returned (.string (an (D.map fig)))∧Fr gd w w':=by
 have HD:=aa hd
 clear hd
 go_enter Tryz.func46,Tryz.ntmps46
 go_wp2
 go_loopw [7] (fun i wr=>∃(k:Nat) (D':List Nat),k≤D.length∧i=.int .i64 k∧Byt wr gd D'∧D'=(D.take k).map fig ++ D.drop k∧Fr gd w wr) (fun i _=>D.length - (intOf i).toNat)
 case atStart=>exact⟨0,D,Nat.zero_le _,rfl,HD.out,by simp,Fr.refl _ _⟩
 case round=>
  obtain⟨k,D',hk,rfl,hB,hD',hF⟩:=hrel
  clear HD
  have hlen:D'.length=D.length:=by rw [hD'];simp;omega
  by_cases hkl:k<D.length
  ·have e1:D.drop k=D.getD k 0 :: D.drop (k+1):=by
    rw [List.drop_eq_getElem_cons hkl,List.getD,List.getElem?_eq_getElem hkl];rfl
   have e2:D'.getD k 0=D.getD k 0:=by
    rw [hD',List.getD,List.getElem?_append_right (by simp;omega)]
    simp [e1,Nat.min_eq_left (Nat.le_of_lt hkl)]
   have hset:D'.set k (fig (D.getD k 0))=(D.take (k+1)).map fig ++ D.drop (k+1):=by
    have hA:((D.take k).map fig).length=k:=by simp;omega
    have e3:D.take (k+1)=D.take k ++ [D.getD k 0]:=by rw [List.take_add_one,List.getD,List.getElem?_eq_getElem hkl];rfl
    rw [hD',List.set_append_right _ _ (by omega),hA,Nat.sub_self,e1,List.set_cons_zero,e3,List.map_append,List.append_assoc]
    rfl
   have h36k:D.getD k 0<36:=h36 _ (by rw [List.getD,List.getElem?_eq_getElem hkl];exact List.getElem_mem _)
   have hco:=hB.cell k (by omega)
   have hfr:=hB.free k
   rw [e2] at hco
   have hfl:=gX (D.getD k 0)
   have hfa:=mO (D.getD k 0) h36k
   have HS:=aa hset
   have HB:=aa hB
   have HF:=aa hF
   generalize D.getD k 0=d at *
   clear hB hF hset hD' e1 e2
   go_wp2
   go_roundw
   case rel=>exact⟨k+1,D'.set k (fig d),by omega,by go_num,HB.out.set _ _,HS.out,HF.out.setCell _ _⟩
   case measure=>simp [intOf];omega
  ·have ek:k=D.length:=by omega
   subst ek
   have e1:D'=D.map fig:=by rw [hD'];simp
   subst e1
   have HC:=jk gd cap _ wr hB
   rw [List.length_map] at HC
   have HF:=aa hF
   clear hB hF hD'
   go_wp2
   go_ret
   exact⟨rfl,HF.out⟩

def dc (b a:Nat)(w:World)(e:Ending)(w':World):Prop:=
 ∃(gd:Nat) (D:List Nat),e=.returned (.slice (some ⟨gd,0,none⟩) D.length D.length)∧w.heap.size≤gd∧Byt w' gd D∧aE b a D.length∧D.length≤9223372036854775807∧(∀i,i<D.length→D.getD i 0=a / b ^ (D.length - 1 - i) % b)∧Below w.heap.size w w'

theorem dc.small {b a:Nat}{D:List Nat}(hb:0<b)(hb2:b≤36)(h:∀i,i<D.length→D.getD i 0=a / b ^ (D.length - 1 - i) % b):∀d ∈ D,d<36:=by
 intro d hd
 obtain⟨i,hi,rfl⟩:=List.getElem_of_mem hd
 have h1:=h i hi
 rw [List.getD,List.getElem?_eq_getElem hi] at h1
 have h2:a / b ^ (D.length - 1 - i) % b<b:=Nat.mod_lt _ hb
 have h3:D[i]=a / b ^ (D.length - 1 - i) % b:=h1
 omega

def n6 (b a:Nat)(w:World)(e:Ending)(w':World):Prop:=
 ∃D:List Nat,e=.returned (.tuple #[.string (an (D.map fig)),.int .i64 0])∧aE b a D.length∧(∀i,i<D.length→D.getD i 0=a / b ^ (D.length - 1 - i) % b)∧Below w.heap.size w w'

theorem gP (va:Value)(a b:Nat)(w:World)(hb:2≤b)(hb2:b≤36)(HW:Calls Tryz.prog 47 #[va,.int .i64 b] w (dc b a w)) :
  Calls Tryz.prog 27 #[va,.int .i64 b] w (n6 b a w):=by
 have HI:=fl b w hb hb2
 go_enter Tryz.func27,Tryz.ntmps27
 go_wp2_with fail
 refine HI.mono ?_
 rintro e wn ⟨rfl,hw⟩;rw [hw];clear hw wn HI
 go_wp2_with fail
 refine HW.mono ?_
 rintro e w1 ⟨g,D,rfl,hg,hd,hn,hm,hdig,hbe⟩
 have HT:=kR g D.length D w1 hd (dc.small (by omega) hb2 hdig) (Nat.le_refl _) hm
 have hgl:=hd.lt
 have HB:=aa hbe
 have HE:=aa (And.intro hn hdig)
 clear HW hd hbe hn hdig
 go_wp2_with fail
 refine HT.mono ?_
 rintro e w2 ⟨rfl,hf⟩
 have HB2:=aa (HB.out.trans (hf.below (base:=w.heap.size) hg (by have:=HB.out.size;omega)))
 clear HT hf
 go_wp2
 go_returns
 exact⟨D,rfl,HE.out.1,HE.out.2,HB2.out⟩
end Go.Proofs.YtkhckcfikljjhaaGreatDoor
namespace Go.Proofs.YtkhckcfikljjhaaGreatDoor
open Go.RowKit
open Lm

def digs (b:Nat):Nat→Nat→List Nat
 | 0,_=>[]
 | n+1,x=>x / b ^ n % b :: digs b n x

theorem aF (b n x:Nat):(digs b n x).length=n:=by
 induction n with
 | zero=>rfl
 | succ n ih=>simp [digs,ih]

theorem iU (b n x:Nat):∀i,i<n→(digs b n x).getD i 0=x / b ^ (n - 1 - i) % b:=by
 induction n with
 | zero=>intro i h;omega
 | succ n ih=>
  intro i h
  cases i with
  | zero=>simp [digs]
  | succ i=>
   rw [show n+1 - 1 - (i+1)=n - 1 - i by omega]
   simpa [digs] using ih i (by omega)

theorem d4 {b n x:Nat}{D:List Nat}(hl:D.length=n)(h:∀i,i<D.length→D.getD i 0=x / b ^ (D.length - 1 - i) % b):D=digs b n x:=by
 apply List.ext_getElem?
 intro i
 rcases Nat.lt_or_ge i n with hi|hi
 ·have h1:=h i (by omega)
  have h2:=iU b n x i hi
  rw [hl] at h1
  have e1:D.getD i 0=D[i]:=by simp [List.getD,show i<D.length by omega]
  have e2:(digs b n x).getD i 0=(digs b n x)[i]'(by rw [aF];omega):=by simp [List.getD,show i<(digs b n x).length by rw [aF];omega]
  rw [List.getElem?_eq_getElem (by omega),List.getElem?_eq_getElem (by rw [aF];omega),←e1,←e2,h1,h2]
 ·rw [List.getElem?_eq_none (by omega),List.getElem?_eq_none (by rw [aF];omega)]

theorem gF (b n x:Nat)(hb:0<b):∀d ∈ digs b n x,d<b:=by
 induction n with
 | zero=>intro d h;cases h
 | succ n ih=>
  intro d h
  rcases List.mem_cons.1 h with rfl|h
  ·exact Nat.mod_lt _ hb
  ·exact ih d h

def sgn (d:Nat):UInt8:=UInt8.ofNat (fig d)

theorem g9 (L:List Nat):∀r:ByteArray,(L.foldl (fun r n=>r.push (UInt8.ofNat n)) r).data.toList=r.data.toList ++ L.map UInt8.ofNat:=by
 induction L with
 | nil=>intro r;simp
 | cons a l ih=>intro r;rw [List.foldl_cons,ih];simp [ByteArray.push]

theorem cd (L:List Nat):(an (L.map fig)).data.toList=L.map sgn:=by
 rw [an,g9,List.map_map]
 rfl
end Go.Proofs.YtkhckcfikljjhaaGreatDoor
namespace Go.Proofs.YtkhckcfikljjhaaGreatDoor
open Go.RowKit
open Lm
attribute [local go_sem ↓] Go.wp_at_zero Go.wp_at_succ

def idx (c:Nat):Int:=Lib.indexByte [48,49,50,51,52,53,54,55,56,57,97,98,99,100,101,102,103,104,105,106,107,108,109,110,111,112,113,114,115,116,117,118,119,120,121,122] c.toUInt8

def byteN (T:ByteArray)(i:Nat):Nat:=(T.data.toList.getD i 0).toNat

theorem dG (T:ByteArray)(i:Nat)(h:i<T.size):(T[i]'h).toNat=byteN T i:=by
 have h2:i<T.data.size:=h
 unfold byteN
 show (T.data[i]).toNat=_
 simp only [List.getD,Array.getElem?_toList]
 rw [Array.getElem?_eq_getElem h2]
 rfl

theorem fS (T:ByteArray)(i:Nat):byteN T i<256:=UInt8.toNat_lt _

def dgS (T:ByteArray)(i:Nat):Int:=idx (byteN T i)

theorem oK (gs i:Nat)(T:ByteArray)(w:World)(h:w.cell? ⟨gs,0,none⟩=some (.string T))(hi:i<T.size) :
  Calls Tryz.prog 42 #[.int .i64 i,.pointer (some ⟨gs,0,none⟩)] w fun e w'=>e=.returned (.int .i64 (dgS T i))∧w'=w:=by
 have HB:=Tryz.strings_IndexByte ⟨#[48,49,50,51,52,53,54,55,56,57,97,98,99,100,101,102,103,104,105,106,107,108,109,110,111,112,113,114,115,116,117,118,119,120,121,122]⟩ ((byteN T i:Nat):Int) w
 have HB2:Calls Tryz.prog 43 #[.string ⟨#[48,49,50,51,52,53,54,55,56,57,97,98,99,100,101,102,103,104,105,106,107,108,109,110,111,112,113,114,115,116,117,118,119,120,121,122]⟩,.int .u8 ((byteN T i:Nat):Int)] w fun e w'=>e=.returned (.int .i64 (dgS T i))∧w'=w:=HB
 have hc:=dG T i
 have hl:=fS T i
 obtain⟨z,hz⟩:∃z,dgS T i=z:=⟨_,rfl⟩
 rw [hz] at HB2
 rw [hz]
 clear HB hz
 generalize byteN T i=c at *
 have hi0:(0:Int)≤(i:Int):=by omega
 have hi1:(i:Int)<(T.size:Int):=by omega
 go_enter Tryz.func42,Tryz.ntmps42
 go_wp2_with fail
 refine HB2.mono ?_
 rintro e wn ⟨rfl,hw⟩;rw [hw];clear hw wn
 go_wp2
 go_ret
 exact⟨rfl,rfl⟩

theorem cU.up {b n:Nat}{dg:Nat→Int}{w w0:World}{e:Ending}{w':World}(hb:Below w.heap.size w w0)(h:cU b n dg w0 e w'):cU b n dg w e w':=by
 obtain⟨h1,h2⟩:=h
 refine⟨hb.trans (h1.mono hb.size),?_⟩
 rcases h2 with h2|⟨D,hl,hd,v,c,rs,he,hA,hc⟩
 ·exact .inl h2
 ·exact .inr ⟨D,hl,hd,v,c,rs,he,hA.base hb.size,hc⟩

theorem ki (T:ByteArray)(b:Nat)(w:World)(hb:2≤b)(hb2:b≤36)(h0:T.size=0) :
  Calls Tryz.prog 24 #[.string T,.int .i64 b] w fun e w'=>e=.returned (.tuple #[.slice none 0 0,.int .i64 51])∧Below w.heap.size w w':=by
 have HI:=fun W=>fl b W hb hb2
 have hT:T=⟨#[]⟩:=by
  obtain⟨d⟩:=T
  have:d.size=0:=h0
  rw [Array.eq_empty_of_size_eq_zero this]
 subst hT
 have HB:=aa (ak w (.cells #[.string ⟨#[]⟩] 9))
 clear h0
 go_enter Tryz.func24,Tryz.ntmps24
 go_wp2_with fail
 refine (HI _).mono ?_
 rintro e wn ⟨rfl,hw⟩;rw [hw];clear hw wn HI
 go_wp2
 go_ret2
 exact⟨rfl,HB.out⟩

theorem lI (T:ByteArray)(b:Nat)(w:World)(hT:Tab w)(hb:2≤b)(hb2:b≤36)(h0:0<T.size)(hn:T.size≤140737488351232) :
  Calls Tryz.prog 24 #[.string T,.int .i64 b] w (cU b T.size (dgS T) w):=by
 obtain⟨w0,hw0⟩:∃w0,w.alloc (.cells #[.string T] 9)=w0:=⟨_,rfl⟩
 have hb0:Below w.heap.size w w0:=by rw [←hw0];exact ak _ _
 have cs:w0.cell? ⟨w.heap.size,0,none⟩=some (.string T):=iZ (by rw [←hw0];exact heap_alloc_new ..)
 have HI:=fl b w0 hb hb2
 have FN:=nP (.pointer (some ⟨w.heap.size,0,none⟩)) b T.size (dgS T) w0 (hT.below hb0) hb hb2 hn (fun i hi W hW=>oK w.heap.size i T W (aB hW cs) hi) (fun W D k ao cc h1 h2 h3 h4 h5 h6=>nL b T.size w0.heap.size W D k ao cc hb hb2 (by omega) h1 h2 h3 h4 h5 h6)
 have hne:T.toList.isEmpty=false:=by
  rw [Lib.toList_data]
  have h1:T.data.toList.length=T.size:=rfl
  cases h:T.data.toList with
  | nil=>rw [h] at h1;simp at h1;omega
  | cons x l=>rfl
 have HW0:=aa hw0
 have HB0:=aa hb0
 clear hT hw0 hb0
 go_enter Tryz.func24,Tryz.ntmps24
 go_wp2_with fail
 rw [HW0.out]
 refine HI.mono ?_
 rintro e wn ⟨rfl,hw⟩;rw [hw];clear hw wn HI
 go_wp2_with fail
 refine FN.mono ?_
 rintro e w1 hD
 have hD:=hD.up HB0.out
 obtain⟨v,c,e2⟩:∃v c,e=.returned (.tuple #[v,.int .i64 c]):=by
  rcases hD.2 with ⟨_,_,_,he⟩|⟨_,_,_,v,c,_,he,_⟩
  ·exact⟨_,_,he⟩
  ·exact⟨_,_,he⟩
 subst e2
 have HD:=aa hD
 clear FN hD
 go_wp2
 go_ret2
 exact HD.out







theorem Num.zero_iff {w:World}{v:Value}{x:Nat}(h:Num w v x):∃ao n cap,v=.slice ao n cap∧((n:Int) == 0)=(x == 0):=by
 obtain⟨ds,A,hd,ht,rfl,_⟩:=h
 obtain⟨ao,cap,hv,_⟩:=A.form
 refine⟨ao,ds.length,cap,hv,?_⟩
 by_cases h0:ds=[]
 ·subst h0;rfl
 ·have h1:0<ds.length:=List.length_pos_iff.2 h0
  have h2:vb 4294967296 ds≠0:=fun e=>h0 (vb_tail_zero (by omega) ht e)
  have e1:((ds.length:Int) == 0)=false:=by rw [beq_eq_false_iff_ne];omega
  have e2:(vb 4294967296 ds == 0)=false:=by rw [beq_eq_false_iff_ne];exact h2
  rw [e1,e2]

theorem oH (v:Value)(x:Nat)(w:World)(h:Num w v x):Calls Tryz.prog 28 #[v] w fun e w'=>e=.returned (.bool (x == 0))∧w'=w:=by
 obtain⟨ao,n,cap,rfl,he⟩:=h.zero_iff
 clear h
 go_enter Tryz.func28,Tryz.ntmps28
 go_wp2
 go_ret
 exact⟨rfl,rfl⟩
end Go.Proofs.YtkhckcfikljjhaaGreatDoor
namespace Go.Proofs.YtkhckcfikljjhaaGreatDoor
open Lm
end Go.Proofs.YtkhckcfikljjhaaGreatDoor
namespace Go.Proofs.YtkhckcfikljjhaaGreatDoor
open Go.RowKit
open Lm
attribute [local go_sem ↓] Go.wp_at_zero Go.wp_at_succ
end Go.Proofs.YtkhckcfikljjhaaGreatDoor
namespace Go.Proofs.YtkhckcfikljjhaaGreatDoor
open Lm
end Go.Proofs.YtkhckcfikljjhaaGreatDoor
namespace Go.Proofs.YtkhckcfikljjhaaGreatDoor
open Go.RowKit
open Lm
attribute [local go_sem ↓] Go.wp_at_zero Go.wp_at_succ

theorem mW (c:Nat)(w:World)(hc:c<9223372036854775808):Calls Tryz.prog 39 #[.int .i64 c] w fun e w'=>(∃v,e=.returned v∧Num w' v c)∧Below w.heap.size w w':=by
 have hA:=Arg.lits w [c] #[.int .u64 (c:Int)] 1 rfl rfl (by intro z hz;simp at hz;omega) (by simp)
 have hb:Below w.heap.size w (w.alloc (.cells #[.int .u64 (c:Int)] 65)):=(Below.refl _ _).alloc (Nat.le_refl _) _
 have HO:=gI _ [c] _ hA (by simp)
 rw [show val [c]=c by simp [val]] at HO
 have HB:=aa hb
 clear hA hb
 go_enter Tryz.func39,Tryz.ntmps39
 go_wp2_with fail
 refine HO.mono ?_
 rintro e w2 ⟨⟨v,rfl,N⟩,hb2⟩
 have HX:=aa (And.intro N (HB.out.trans (hb2.mono HB.out.size)))
 clear N hb2 HO
 go_wp2
 go_ret
 exact⟨⟨v,rfl,HX.out.1⟩,HX.out.2⟩




end Go.Proofs.YtkhckcfikljjhaaGreatDoor

