/- Package numeral: read of digits, the highest of which is not 0. -/
import Derived.Test.YteehipcoeocojaaGreatDoorB11
import Derived.Test.YteehipcoeocojaaGreatDoorB10
import Derived.Test.YteehipcoeocojaaGreatDoorB09
import Derived.Laws.IdiomStrings
import Derived.Laws.Cells
import Derived.Test.YteehipcoeocojaaGreatDoorB02
import Derived.Test.YteehipcoeocojaaGreatDoorB04
import Derived.Deep.QuietTactic
import Derived.BigQuiet
import Derived.Maps.AppendAt
import Derived.Laws.DeepStrings4
import Derived.Deep.RegionHeld3
set_option maxRecDepth 20000
set_option maxHeartbeats 4000000
namespace Go.Proofs.YteehipcoeocojaaGreatDoor
open Go.RowKit
open Lm
attribute [local go_sem ↓] Go.wp_at_zero Go.wp_at_succ
attribute [local go_sem] cP

theorem j5 {b o n:Nat}{D:List Nat}(hn:1≤n)(h0:D.getD o 0≠0):b ^ (n - 1)≤dvr b D o n:=by
 obtain⟨m,rfl⟩:∃m,n=1+m:=⟨n - 1,by omega⟩
 rw [bF,show 1+m - 1=m by omega]
 have h1:dvr b D o 1=D.getD o 0:=by simp [dvr]
 have h2:1*b ^ m≤dvr b D o 1*b ^ m:=Nat.mul_le_mul_right _ (by rw [h1];omega)
 omega

theorem iG (gd o n b:Nat)(D:List Nat)(w:World)(hT:Tab w)(hD:Byt w gd D)(ho:o+n≤D.length)(hn1:1≤n)(hn:n≤1125899906842624)(hdig:∀i,i<n→D.getD (o+i) 0<b)(h0:D.getD o 0≠0)(hb:2≤b)(hb2:b≤36) :
  Calls Tryz.prog 63 #[.slice (some ⟨gd,o,none⟩) n n,.int .i64 b] w (ck b o n D w):=by
 obtain⟨w0,hw0⟩:∃W,w.alloc (.cells #[.int .i64 b] 3)=W:=⟨_,rfl⟩
 have hb0:Below w.heap.size w w0:=by rw [←hw0];exact ab _ _
 have x0:w0.heap[w.heap.size]?=some (.cells #[.int .i64 b] 3):=by rw [←hw0];exact heap_alloc_new ..
 have c0:=an x0
 have C:=go b n w0 (by omega) (by omega) hn
 have hge:=j5 (b:=b) hn1 h0
 have HD:=aa hD
 have HT:=aa hT
 have HB0:=aa hb0
 have X0:=aa x0
 have HDG:=aa hdig
 have HGE:=aa hge
 have H00:=aa h0
 clear hD hT hb0 x0 hdig hge h0
 go_enter Tryz.func63,Tryz.ntmps63
 go_wp2_with fail
 refine C.mono ?_
 rintro e w1 ⟨r,rfl,hr1,hr2,hb1⟩
 have HB1:=aa (bt5 HB0.out hb1)
 have X1:=aa ((hb1.block _ (lt_of_block X0.out)).trans X0.out)
 cases r
 ·have hNB:=hr2 rfl
  have hn9:n≤67108867:=by
   have h4:2 ^ (n - 1)≤b ^ (n - 1):=Nat.pow_le_pow_left hb _
   have h5:b ^ (n - 1)<2 ^ blen (b ^ (n - 1)):=(blen_le_iff _ _).1 (Nat.le_refl _)
   have h6:=(Nat.pow_lt_pow_iff_right (by omega:1<2)).1 (Nat.lt_of_le_of_lt h4 h5)
   omega
  have C2:=dt b n w1 (HT.out.below HB1.out) hb hb2 hn
  have c1:=an X1.out
  have HNB:=aa hNB
  clear C hr1 hr2 hb1 c0 HB0 X0 hNB
  go_wp2_with fail
  refine C2.mono ?_
  rintro e w3 ⟨⟨vl,rfl,hP⟩,hb3⟩
  obtain⟨al,nl,kl,rfl⟩:∃al nl kl,vl=.slice al nl kl:=by
   obtain⟨l,h1,_⟩:=hP
   rcases h1 with ⟨h1,_⟩|⟨g,cap',h1,_⟩
   ·exact⟨_,_,_,h1⟩
   ·exact⟨_,_,_,h1⟩
  obtain⟨w4,hw4⟩:∃W,w3.alloc (.cells #[.slice al nl kl] 84)=W:=⟨_,rfl⟩
  have hs4:w4.heap.size=w3.heap.size+1:=by rw [←hw4];exact World.size_alloc _ _
  obtain⟨w5,hw5⟩:∃W,w4.alloc (.cells #[.func (.func 92) #[] #[.pointer (some ⟨w3.heap.size,0,none⟩),.pointer (some ⟨w.heap.size,0,none⟩),.pointer (some ⟨w3.heap.size+1,0,none⟩)]] 134)=W:=⟨_,rfl⟩
  have hb4:Below w3.heap.size w3 w4:=by rw [←hw4];exact ab _ _
  have hb5:Below w4.heap.size w4 w5:=by rw [←hw5];exact ab _ _
  have hb35:=bt5 hb4 hb5
  have hb15:=bt5 hb3 hb35
  have cl:=am hb5 (an (show w4.heap[w3.heap.size]?=some (.cells #[.slice al nl kl] 84) by rw [←hw4];exact heap_alloc_new ..))
  have cb5:=am hb15 (an X1.out)
  have cw:w5.cell? ⟨w3.heap.size+1,0,none⟩=some (.func (.func 92) #[] #[.pointer (some ⟨w3.heap.size,0,none⟩),.pointer (some ⟨w.heap.size,0,none⟩),.pointer (some ⟨w3.heap.size+1,0,none⟩)]):=an (t:=134) (by
   have h:=heap_alloc_new w4 (.cells #[.func (.func 92) #[] #[.pointer (some ⟨w3.heap.size,0,none⟩),.pointer (some ⟨w.heap.size,0,none⟩),.pointer (some ⟨w3.heap.size+1,0,none⟩)]] 134)
   rw [hs4,hw5] at h
   exact h)
  have hB5:=bt5 HB1.out hb15
  have FW:=dA w3.heap.size w.heap.size (w3.heap.size+1) gd b n (.slice al nl kl) hb hb2 HNB.out hn9 (n+1) n o n D w5 (by omega) (HD.out.below hB5 HD.out.lt) ho (Nat.le_refl _) (by omega) (Nat.le_refl _) HDG.out (HT.out.below hB5) cl cb5 cw (hP.below hb35)
  have HW5:=aa (show (w3.alloc (.cells #[.slice al nl kl] 84)).alloc (.cells #[.func (.func 92) #[] #[.pointer (some ⟨w3.heap.size,0,none⟩),.pointer (some ⟨w.heap.size,0,none⟩),.pointer (some ⟨w3.heap.size+1,0,none⟩)]] 134)=w5 by rw [hw4,hw5])
  have HB5:=aa hB5
  rw [←HW5.out] at cw
  clear C2 hb3 hb4 hb5 hb35 hb15 cl cb5 hw4 hw5 hs4 hB5 hP c1
  go_wp2_with fail
  rw [HW5.out]
  refine FW.mono ?_
  rintro e w6 ⟨hb6,hc6⟩
  have HB6:=aa (bt5 HB5.out hb6)
  have hbs:=HB5.out.size
  rcases hc6 with ⟨v6,Z6,rfl,hZ6,hl6,hv6,ht6⟩|⟨rfl,hbig⟩
  ·have HF:=aa (And.intro (hZ6.base hbs) (And.intro hl6 (And.intro hv6 (ht6 H00.out))))
   clear FW hb6 hZ6 hl6 hv6 ht6 cw
   go_wp2
   go_ret2
   exact⟨HB6.out,.inl ⟨v6,Z6,rfl,HF.out.1,by have:=HF.out.2.1;omega,HF.out.2.2.1,HF.out.2.2.2⟩⟩
  ·have HBG:=aa hbig
   clear FW hb6 hbig cw
   go_wp2
   go_ret2
   exact⟨HB6.out,.inr ⟨_,rfl,HBG.out⟩⟩
 ·have HBG:Hid (67108864<blen (dvr b D o n)):=aa (Nat.lt_of_lt_of_le (hr1 rfl) (bN HGE.out))
  clear C hr1 hr2 hb1
  go_wp2
  go_ret2
  exact⟨HB1.out,.inr ⟨_,rfl,HBG.out⟩⟩

theorem iB (ao:Option Addr)(cap b:Nat)(w:World)(hb:2≤b)(hb2:b≤36) :
  Calls Tryz.prog 93 #[.slice ao 0 cap,.int .i64 b] w fun e w'=>e=.returned (.slice none 0 0)∧w'=w:=by
 have HU:=dh b w hb hb2
 go_enter Tryz.func93,Tryz.ntmps93
 go_wp2_with fail
 refine HU.mono ?_
 rintro e wn ⟨d,p,rfl,hu,hw⟩;rw [hw];clear hw wn HU hu
 go_wp2
 refine wp_loop_rounds 1 ?_
 rw [rounds_succ]
 go_wp2
 go_ret
 exact⟨rfl,rfl⟩

theorem lE (gl gb gw b cap:Nat)(ao:Option Addr)(vl:Value)(w:World)(hb:2≤b)(hb2:b≤36)
  (cl:w.cell? ⟨gl,0,none⟩=some vl) (cb:w.cell? ⟨gb,0,none⟩=some (.int .i64 b)) (hP:aY w vl b 0) :
  Calls Tryz.prog 92 #[.slice ao 0 cap,.pointer (some ⟨gl,0,none⟩),.pointer (some ⟨gb,0,none⟩),.pointer (some ⟨gw,0,none⟩)] w fun e w'=>e=.returned (.tuple #[.slice none 0 0,.int .i64 0])∧Below w.heap.size w w':=by
 obtain⟨l,hPA,_⟩:=hP
 have C:=dl vl 0 l w hPA
 clear hPA
 go_enter Tryz.func92,Tryz.ntmps92
 go_wp2_with fail
 refine C.mono ?_
 rintro e w1 ⟨hcase,hb1⟩
 rcases hcase with ⟨i,d,ov,s,hli,hdn,_,he⟩|⟨_,he⟩
 ·exact absurd hdn (Nat.not_lt_zero d)
 ·obtain⟨x0,a0,n0,c0,y0,rfl,_⟩:∃(x0:Int) (a0:Option Addr) (n0 c0:Nat) (y0:Int),e=.returned (.tuple #[.agg #[.int .i64 x0,.slice a0 n0 c0,.int .i64 y0],.bool false])∧True:=⟨0,none,0,0,0,he,trivial⟩
  clear he
  obtain⟨w2,hw2⟩:∃W,w1.alloc (.cells #[.int .i64 x0,.slice a0 n0 c0,.int .i64 y0] 88)=W:=⟨_,rfl⟩
  have hb2':Below w1.heap.size w1 w2:=by rw [←hw2];exact ab _ _
  have hB2:=bt5 hb1 hb2'
  have cb2:=am hB2 cb
  have C2:=iB ao cap b w2 hb hb2
  have HB2:=aa hB2
  clear C hb1 hb2' hB2
  go_wp2_with fail
  refine C2.mono ?_
  rintro e wn ⟨rfl,hw⟩;rw [hw];clear hw wn C2
  go_wp2
  go_ret2
  exact⟨rfl,HB2.out⟩

theorem jp (ao:Option Addr)(cap o b:Nat)(D:List Nat)(w:World)(hT:Tab w)(hb:2≤b)(hb2:b≤36) :
  Calls Tryz.prog 63 #[.slice ao 0 cap,.int .i64 b] w (ck b o 0 D w):=by
 obtain⟨w0,hw0⟩:∃W,w.alloc (.cells #[.int .i64 b] 3)=W:=⟨_,rfl⟩
 have hb0:Below w.heap.size w w0:=by rw [←hw0];exact ab _ _
 have x0:w0.heap[w.heap.size]?=some (.cells #[.int .i64 b] 3):=by rw [←hw0];exact heap_alloc_new ..
 have c0:=an x0
 have C:=go b 0 w0 (by omega) (by omega) (by omega)
 have HT:=aa hT
 have HB0:=aa hb0
 have X0:=aa x0
 clear hT hb0 x0
 go_enter Tryz.func63,Tryz.ntmps63
 go_wp2_with fail
 refine C.mono ?_
 rintro e w1 ⟨r,rfl,hr1,hr2,hb1⟩
 have HB1:=aa (bt5 HB0.out hb1)
 have X1:=aa ((hb1.block _ (lt_of_block X0.out)).trans X0.out)
 cases r
 ·have C2:=dt b 0 w1 (HT.out.below HB1.out) hb hb2 (by omega)
  have c1:=an X1.out
  clear C hr1 hr2 hb1 c0 HB0 X0
  go_wp2_with fail
  refine C2.mono ?_
  rintro e w3 ⟨⟨vl,rfl,hP⟩,hb3⟩
  obtain⟨al,nl,kl,rfl⟩:∃al nl kl,vl=.slice al nl kl:=by
   obtain⟨l,h1,_⟩:=hP
   rcases h1 with ⟨h1,_⟩|⟨g,cap',h1,_⟩
   ·exact⟨_,_,_,h1⟩
   ·exact⟨_,_,_,h1⟩
  obtain⟨w4,hw4⟩:∃W,w3.alloc (.cells #[.slice al nl kl] 84)=W:=⟨_,rfl⟩
  have hs4:w4.heap.size=w3.heap.size+1:=by rw [←hw4];exact World.size_alloc _ _
  obtain⟨w5,hw5⟩:∃W,w4.alloc (.cells #[.func (.func 92) #[] #[.pointer (some ⟨w3.heap.size,0,none⟩),.pointer (some ⟨w.heap.size,0,none⟩),.pointer (some ⟨w3.heap.size+1,0,none⟩)]] 134)=W:=⟨_,rfl⟩
  have hb4:Below w3.heap.size w3 w4:=by rw [←hw4];exact ab _ _
  have hb5:Below w4.heap.size w4 w5:=by rw [←hw5];exact ab _ _
  have hb35:=bt5 hb4 hb5
  have hb15:=bt5 hb3 hb35
  have cl:=am hb5 (an (show w4.heap[w3.heap.size]?=some (.cells #[.slice al nl kl] 84) by rw [←hw4];exact heap_alloc_new ..))
  have cb5:=am hb15 (an X1.out)
  have cw:w5.cell? ⟨w3.heap.size+1,0,none⟩=some (.func (.func 92) #[] #[.pointer (some ⟨w3.heap.size,0,none⟩),.pointer (some ⟨w.heap.size,0,none⟩),.pointer (some ⟨w3.heap.size+1,0,none⟩)]):=an (t:=134) (by
   have h:=heap_alloc_new w4 (.cells #[.func (.func 92) #[] #[.pointer (some ⟨w3.heap.size,0,none⟩),.pointer (some ⟨w.heap.size,0,none⟩),.pointer (some ⟨w3.heap.size+1,0,none⟩)]] 134)
   rw [hs4,hw5] at h
   exact h)
  have hB5:=bt5 HB1.out hb15
  have FW:=lE w3.heap.size w.heap.size (w3.heap.size+1) b cap ao (.slice al nl kl) w5 hb hb2 cl cb5 (hP.below hb35)
  have HW5:=aa (show (w3.alloc (.cells #[.slice al nl kl] 84)).alloc (.cells #[.func (.func 92) #[] #[.pointer (some ⟨w3.heap.size,0,none⟩),.pointer (some ⟨w.heap.size,0,none⟩),.pointer (some ⟨w3.heap.size+1,0,none⟩)]] 134)=w5 by rw [hw4,hw5])
  have HB5:=aa hB5
  rw [←HW5.out] at cw
  clear C2 hb3 hb4 hb5 hb35 hb15 cl cb5 hw4 hw5 hs4 hB5 hP c1
  go_wp2_with fail
  rw [HW5.out]
  refine FW.mono ?_
  rintro e w6 ⟨rfl,hb6⟩
  have HB6:=aa (bt5 HB5.out hb6)
  clear FW hb6 cw
  go_wp2
  go_ret2
  exact⟨HB6.out,.inl ⟨_,[],rfl,Ans.nil _ _,Nat.zero_le _,rfl,rfl⟩⟩
 ·have h:=hr1 rfl
  have h1:blen (b ^ (0 - 1))≤1:=(blen_le_iff _ 1).2 (by simp)
  exact absurd h (by omega)

theorem dS (b n g:Nat)(W:World)(D:List Nat)(k:Nat)(ao:Option Addr)(cc:Nat)(hb:2≤b)(hb2:b≤36)(hn:n≤1125899906842624)(hT:Tab W)(hD:Byt W g D)(hl:D.length=n)(hk:k≤n)(hd:∀i,i<n→D.getD i 0<b)(h:k<n→ao=some ⟨g,k,none⟩∧cc=n - k∧D.getD k 0≠0) :
  Calls Tryz.prog 63 #[.slice ao (n - k) cc,.int .i64 b] W (ck b k (n - k) D W):=by
 rcases Nat.lt_or_ge k n with hkn|hkn
 ·obtain⟨rfl,rfl,h0⟩:=h hkn
  exact iG g k (n - k) b D W hT hD (by omega) (by omega) (by omega) (fun i hi=>hd (k+i) (by omega)) h0 hb hb2
 ·rw [show n - k=0 by omega]
  exact jp ao cc k b D W hT hb hb2
end Go.Proofs.YteehipcoeocojaaGreatDoor
namespace Go.Proofs.YteehipcoeocojaaGreatDoor
open Go.RowKit
open Lm
attribute [local go_sem ↓] Go.wp_at_zero Go.wp_at_succ

def fig (d:Nat):Nat:=[48,49,50,51,52,53,54,55,56,57,97,98,99,100,101,102,103,104,105,106,107,108,109,110,111,112,113,114,115,116,117,118,119,120,121,122].getD d 0

theorem dr (d:Nat):fig d<128:=by
 rcases Nat.lt_or_ge d 36 with h|h
 ·have:∀d:Fin 36,fig d.1<128:=by decide +kernel
  exact this ⟨d,h⟩
 ·unfold fig;rw [List.getD,List.getElem?_eq_none (by simpa using h)];decide

theorem iX (d:Nat)(h:d<(ByteArray.mk #[48,49,50,51,52,53,54,55,56,57,97,98,99,100,101,102,103,104,105,106,107,108,109,110,111,112,113,114,115,116,117,118,119,120,121,122]).size):(ByteArray.mk #[48,49,50,51,52,53,54,55,56,57,97,98,99,100,101,102,103,104,105,106,107,108,109,110,111,112,113,114,115,116,117,118,119,120,121,122])[d].toNat=fig d:=by
 have key:∀d:Fin 36,((ByteArray.mk #[48,49,50,51,52,53,54,55,56,57,97,98,99,100,101,102,103,104,105,106,107,108,109,110,111,112,113,114,115,116,117,118,119,120,121,122])[d.1]'(d.2)).toNat=fig d.1:=by decide +kernel
 exact key ⟨d,h⟩

def aE (L:List Nat):ByteArray:=L.foldl (fun r n=>r.push (UInt8.ofNat n)) ByteArray.empty

theorem iq (L:List Nat):∀r:ByteArray,((L.map fun n=>((n:Nat):Int)).foldl (fun r n=>r.push (UInt8.ofNat n.toNat)) r)=L.foldl (fun r n=>r.push (UInt8.ofNat n)) r:=by
 induction L with
 | nil=>intro r;rfl
 | cons a l ih=>intro r;simp only [List.map_cons,List.foldl_cons,Int.toNat_natCast];exact ih _

theorem lH (gd cap:Nat)(D:List Nat)(w:World)(hd:Byt w gd D) :
  (convert 67 9 (.slice (some ⟨gd,0,none⟩) D.length cap)).run Tryz.prog w=.ok (.string (aE D)) w:=by
 rw [run_convert_bytes_string w 67 9 5 _ _ _ Tryz.underlying67 Tryz.underlying5 Tryz.underlying9]
 rw [run_bytesToString w _ D.length cap (D.map fun n=>((n:Nat):Int)) ?_,iq]
 ·rfl
 ·have h:=run_loadCells_list (P:=Tryz.prog) (w:=w) ⟨gd,0,none⟩ (D.map bv) (fun j v hj=>by
   rw [List.getElem?_map] at hj
   rcases hh:D[j]? with _|z
   ·rw [hh] at hj;cases hj
   ·rw [hh] at hj
    have hjl:j<D.length:=by
     rcases Nat.lt_or_ge j D.length with h|h
     ·exact h
     ·rw [List.getElem?_eq_none h] at hh;cases hh
    have:=hd.cell j hjl
    have e:D.getD j 0=z:=by rw [List.getD,hh];rfl
    rw [e] at this
    simp only [Option.map_some,Option.some.injEq] at hj
    rw [←hj]
    by_cases h0:j=0
    ·subst h0;simpa [Addr.add,bv] using this
    ·simpa [Addr.add,bv,h0] using this)
  rw [List.length_map] at h
  rw [h,List.map_map]
  rfl

theorem jg (gd cap:Nat)(D:List Nat)(w:World)(hd:Byt w gd D)(h36:∀d ∈ D,d<36)(hc:D.length≤cap)(hcm:cap≤9223372036854775807) :
  Calls Tryz.prog 32 #[.slice (some ⟨gd,0,none⟩) D.length cap] w fun e w'=>e=.returned (.string (aE (D.map fig)))∧Fr gd w w':=by
 have HD:=aa hd
 clear hd
 go_enter Tryz.func32,Tryz.ntmps32
 go_wp2
 go_loopw [7] (fun i wr=>∃(k:Nat) (D':List Nat),k≤D.length∧i=.int .i64 k∧Byt wr gd D'∧D'=(D.take k).map fig ++ D.drop k∧Fr gd w wr) (fun i _=>D.length - (intOf i).toNat)
 case atStart=>exact⟨0,D,Nat.zero_le _,rfl,HD.out,by simp,Fr.refl _ _⟩
 case round=>
  obtain⟨k,D',hk,rfl,hB,hD',hF⟩:=hrel
  clear HD
  have hlen:D'.length=D.length:=by rw [hD'];simp;omega
  by_cases hkl:k<D.length
  ·have e1:D.drop k=D.getD k 0 :: D.drop (k+1):=by
    rw [List.drop_eq_getElem_cons hkl,List.getD,List.getElem?_eq_getElem hkl];rfl
   have e2:D'.getD k 0=D.getD k 0:=by
    rw [hD',List.getD,List.getElem?_append_right (by simp;omega)]
    simp [e1,Nat.min_eq_left (Nat.le_of_lt hkl)]
   have hset:D'.set k (fig (D.getD k 0))=(D.take (k+1)).map fig ++ D.drop (k+1):=by
    have hA:((D.take k).map fig).length=k:=by simp;omega
    have e3:D.take (k+1)=D.take k ++ [D.getD k 0]:=by rw [List.take_add_one,List.getD,List.getElem?_eq_getElem hkl];rfl
    rw [hD',List.set_append_right _ _ (by omega),hA,Nat.sub_self,e1,List.set_cons_zero,e3,List.map_append,List.append_assoc]
    rfl
   have h36k:D.getD k 0<36:=h36 _ (by rw [List.getD,List.getElem?_eq_getElem hkl];exact List.getElem_mem _)
   have hco:=hB.cell k (by omega)
   have hfr:=hB.free k
   rw [e2] at hco
   have hfl:=dr (D.getD k 0)
   have hfa:=iX (D.getD k 0) h36k
   have HS:=aa hset
   have HB:=aa hB
   have HF:=aa hF
   generalize D.getD k 0=d at *
   clear hB hF hset hD' e1 e2
   go_wp2
   go_roundw
   case rel=>exact⟨k+1,D'.set k (fig d),by omega,by go_num,HB.out.set _ _,HS.out,HF.out.setCell _ _⟩
   case measure=>simp [intOf];omega
  ·have ek:k=D.length:=by omega
   subst ek
   have e1:D'=D.map fig:=by rw [hD'];simp
   subst e1
   have HC:=lH gd cap _ wr hB
   rw [List.length_map] at HC
   have HF:=aa hF
   clear hB hF hD'
   go_wp2
   go_ret
   exact⟨rfl,HF.out⟩

def cE (b a:Nat)(w:World)(e:Ending)(w':World):Prop:=
 ∃(gd:Nat) (D:List Nat),e=.returned (.slice (some ⟨gd,0,none⟩) D.length D.length)∧w.heap.size≤gd∧Byt w' gd D∧ax b a D.length∧D.length≤9223372036854775807∧(∀i,i<D.length→D.getD i 0=a / b ^ (D.length - 1 - i) % b)∧Below w.heap.size w w'

theorem cE.small {b a:Nat}{D:List Nat}(hb:0<b)(hb2:b≤36)(h:∀i,i<D.length→D.getD i 0=a / b ^ (D.length - 1 - i) % b):∀d ∈ D,d<36:=by
 intro d hd
 obtain⟨i,hi,rfl⟩:=List.getElem_of_mem hd
 have h1:=h i hi
 rw [List.getD,List.getElem?_eq_getElem hi] at h1
 have h2:a / b ^ (D.length - 1 - i) % b<b:=Nat.mod_lt _ hb
 have h3:D[i]=a / b ^ (D.length - 1 - i) % b:=h1
 omega

def i9 (b a:Nat)(w:World)(e:Ending)(w':World):Prop:=
 ∃D:List Nat,e=.returned (.tuple #[.string (aE (D.map fig)),.int .i64 0])∧ax b a D.length∧(∀i,i<D.length→D.getD i 0=a / b ^ (D.length - 1 - i) % b)∧Below w.heap.size w w'

theorem fR (va:Value)(a b:Nat)(w:World)(hb:2≤b)(hb2:b≤36)(HW:Calls Tryz.prog 33 #[va,.int .i64 b] w (cE b a w)) :
  Calls Tryz.prog 11 #[va,.int .i64 b] w (i9 b a w):=by
 have HI:=cD b w hb hb2
 go_enter Tryz.func11,Tryz.ntmps11
 go_wp2_with fail
 refine HI.mono ?_
 rintro e wn ⟨rfl,hw⟩;rw [hw];clear hw wn HI
 go_wp2_with fail
 refine HW.mono ?_
 rintro e w1 ⟨g,D,rfl,hg,hd,hn,hm,hdig,hbe⟩
 have HT:=jg g D.length D w1 hd (cE.small (by omega) hb2 hdig) (Nat.le_refl _) hm
 have hgl:=hd.lt
 have HB:=aa hbe
 have HE:=aa (And.intro hn hdig)
 clear HW hd hbe hn hdig
 go_wp2_with fail
 refine HT.mono ?_
 rintro e w2 ⟨rfl,hf⟩
 have HB2:=aa (HB.out.trans (hf.below (base:=w.heap.size) hg (by have:=HB.out.size;omega)))
 clear HT hf
 go_wp2
 go_returns
 exact⟨D,rfl,HE.out.1,HE.out.2,HB2.out⟩
end Go.Proofs.YteehipcoeocojaaGreatDoor
namespace Go.Proofs.YteehipcoeocojaaGreatDoor
open Go.RowKit
open Lm

def digs (b:Nat):Nat→Nat→List Nat
 | 0,_=>[]
 | n+1,x=>x / b ^ n % b :: digs b n x

theorem aP (b n x:Nat):(digs b n x).length=n:=by
 induction n with
 | zero=>rfl
 | succ n ih=>simp [digs,ih]

theorem dp (b n x:Nat):∀i,i<n→(digs b n x).getD i 0=x / b ^ (n - 1 - i) % b:=by
 induction n with
 | zero=>intro i h;omega
 | succ n ih=>
  intro i h
  cases i with
  | zero=>simp [digs]
  | succ i=>
   rw [show n+1 - 1 - (i+1)=n - 1 - i by omega]
   simpa [digs] using ih i (by omega)

theorem dz {b n x:Nat}{D:List Nat}(hl:D.length=n)(h:∀i,i<D.length→D.getD i 0=x / b ^ (D.length - 1 - i) % b):D=digs b n x:=by
 apply List.ext_getElem?
 intro i
 rcases Nat.lt_or_ge i n with hi|hi
 ·have h1:=h i (by omega)
  have h2:=dp b n x i hi
  rw [hl] at h1
  have e1:D.getD i 0=D[i]:=by simp [List.getD,show i<D.length by omega]
  have e2:(digs b n x).getD i 0=(digs b n x)[i]'(by rw [aP];omega):=by simp [List.getD,show i<(digs b n x).length by rw [aP];omega]
  rw [List.getElem?_eq_getElem (by omega),List.getElem?_eq_getElem (by rw [aP];omega),←e1,←e2,h1,h2]
 ·rw [List.getElem?_eq_none (by omega),List.getElem?_eq_none (by rw [aP];omega)]

theorem dn (b n x:Nat)(hb:0<b):∀d ∈ digs b n x,d<b:=by
 induction n with
 | zero=>intro d h;cases h
 | succ n ih=>
  intro d h
  rcases List.mem_cons.1 h with rfl|h
  ·exact Nat.mod_lt _ hb
  ·exact ih d h

def sgn (d:Nat):UInt8:=UInt8.ofNat (fig d)

theorem gX (L:List Nat):∀r:ByteArray,(L.foldl (fun r n=>r.push (UInt8.ofNat n)) r).data.toList=r.data.toList ++ L.map UInt8.ofNat:=by
 induction L with
 | nil=>intro r;simp
 | cons a l ih=>intro r;rw [List.foldl_cons,ih];simp [ByteArray.push]

theorem gi (L:List Nat):(aE (L.map fig)).data.toList=L.map sgn:=by
 rw [aE,gX,List.map_map]
 rfl
end Go.Proofs.YteehipcoeocojaaGreatDoor
namespace Go.Proofs.YteehipcoeocojaaGreatDoor
open Go.RowKit
open Lm
attribute [local go_sem ↓] Go.wp_at_zero Go.wp_at_succ

def idx (c:Nat):Int:=Lib.indexByte [48,49,50,51,52,53,54,55,56,57,97,98,99,100,101,102,103,104,105,106,107,108,109,110,111,112,113,114,115,116,117,118,119,120,121,122] c.toUInt8

theorem im:∀c:Fin 256,∀k:Fin 36,(fig k.1=c.1 ↔ idx c.1=(k.1:Int))∧idx c.1<36:=by decide +kernel

theorem kG {c k:Nat}(hc:c<256)(hk:k<36):fig k=c ↔ idx c=(k:Int):=(im ⟨c,hc⟩ ⟨k,hk⟩).1

def byteN (T:ByteArray)(i:Nat):Nat:=(T.data.toList.getD i 0).toNat

theorem kg (T:ByteArray)(i:Nat)(h:i<T.size):(T[i]'h).toNat=byteN T i:=by
 have h2:i<T.data.size:=h
 unfold byteN
 show (T.data[i]).toNat=_
 simp only [List.getD,Array.getElem?_toList]
 rw [Array.getElem?_eq_getElem h2]
 rfl

theorem ia (T:ByteArray)(i:Nat):byteN T i<256:=UInt8.toNat_lt _

def dgS (T:ByteArray)(i:Nat):Int:=idx (byteN T i)

theorem jO (gs i:Nat)(T:ByteArray)(w:World)(h:w.cell? ⟨gs,0,none⟩=some (.string T))(hi:i<T.size) :
  Calls Tryz.prog 39 #[.int .i64 i,.pointer (some ⟨gs,0,none⟩)] w fun e w'=>e=.returned (.int .i64 (dgS T i))∧w'=w:=by
 have HB:=Tryz.strings_IndexByte ⟨#[48,49,50,51,52,53,54,55,56,57,97,98,99,100,101,102,103,104,105,106,107,108,109,110,111,112,113,114,115,116,117,118,119,120,121,122]⟩ ((byteN T i:Nat):Int) w
 have HB2:Calls Tryz.prog 40 #[.string ⟨#[48,49,50,51,52,53,54,55,56,57,97,98,99,100,101,102,103,104,105,106,107,108,109,110,111,112,113,114,115,116,117,118,119,120,121,122]⟩,.int .u8 ((byteN T i:Nat):Int)] w fun e w'=>e=.returned (.int .i64 (dgS T i))∧w'=w:=HB
 have hc:=kg T i
 have hl:=ia T i
 obtain⟨z,hz⟩:∃z,dgS T i=z:=⟨_,rfl⟩
 rw [hz] at HB2
 rw [hz]
 clear HB hz
 generalize byteN T i=c at *
 have hi0:(0:Int)≤(i:Int):=by omega
 have hi1:(i:Int)<(T.size:Int):=by omega
 go_enter Tryz.func39,Tryz.ntmps39
 go_wp2_with fail
 refine HB2.mono ?_
 rintro e wn ⟨rfl,hw⟩;rw [hw];clear hw wn
 go_wp2
 go_ret
 exact⟨rfl,rfl⟩

theorem bH.up {b n:Nat}{dg:Nat→Int}{w w0:World}{e:Ending}{w':World}(hb:Below w.heap.size w w0)(h:bH b n dg w0 e w'):bH b n dg w e w':=by
 obtain⟨h1,h2⟩:=h
 refine⟨hb.trans (h1.mono hb.size),?_⟩
 rcases h2 with h2|⟨D,hl,hd,v,c,rs,he,hA,hc⟩
 ·exact .inl h2
 ·exact .inr ⟨D,hl,hd,v,c,rs,he,hA.base hb.size,hc⟩

theorem jV (T:ByteArray)(b:Nat)(w:World)(hT:Tab w)(hb:2≤b)(hb2:b≤36)(h0:0<T.size)(hn:T.size≤140737488351232) :
  Calls Tryz.prog 19 #[.string T,.int .i64 b] w (bH b T.size (dgS T) w):=by
 obtain⟨w0,hw0⟩:∃w0,w.alloc (.cells #[.string T] 9)=w0:=⟨_,rfl⟩
 have hb0:Below w.heap.size w w0:=by rw [←hw0];exact ab _ _
 have cs:w0.cell? ⟨w.heap.size,0,none⟩=some (.string T):=bh (by rw [←hw0];exact heap_alloc_new ..)
 have HI:=cD b w0 hb hb2
 have FN:=iR (.pointer (some ⟨w.heap.size,0,none⟩)) b T.size (dgS T) w0 (hT.below hb0) hb hb2 hn (fun i hi W hW=>jO w.heap.size i T W (am hW cs) hi) (fun W D k ao cc h1 h2 h3 h4 h5 h6=>dS b T.size w0.heap.size W D k ao cc hb hb2 (by omega) h1 h2 h3 h4 h5 h6)
 have hne:T.toList.isEmpty=false:=by
  rw [Lib.toList_data]
  have h1:T.data.toList.length=T.size:=rfl
  cases h:T.data.toList with
  | nil=>rw [h] at h1;simp at h1;omega
  | cons x l=>rfl
 have HW0:=aa hw0
 have HB0:=aa hb0
 clear hT hw0 hb0
 go_enter Tryz.func19,Tryz.ntmps19
 go_wp2_with fail
 rw [HW0.out]
 refine HI.mono ?_
 rintro e wn ⟨rfl,hw⟩;rw [hw];clear hw wn HI
 go_wp2_with fail
 refine FN.mono ?_
 rintro e w1 hD
 have hD:=hD.up HB0.out
 obtain⟨v,c,e2⟩:∃v c,e=.returned (.tuple #[v,.int .i64 c]):=by
  rcases hD.2 with ⟨_,_,_,he⟩|⟨_,_,_,v,c,_,he,_⟩
  ·exact⟨_,_,he⟩
  ·exact⟨_,_,he⟩
 subst e2
 have HD:=aa hD
 clear FN hD
 go_wp2
 go_ret2
 exact HD.out








end Go.Proofs.YteehipcoeocojaaGreatDoor
namespace Go.Proofs.YteehipcoeocojaaGreatDoor
open Lm
end Go.Proofs.YteehipcoeocojaaGreatDoor
namespace Go.Proofs.YteehipcoeocojaaGreatDoor
open Go.RowKit
open Lm
attribute [local go_sem ↓] Go.wp_at_zero Go.wp_at_succ
end Go.Proofs.YteehipcoeocojaaGreatDoor
namespace Go.Proofs.YteehipcoeocojaaGreatDoor
open Lm
end Go.Proofs.YteehipcoeocojaaGreatDoor
namespace Go.Proofs.YteehipcoeocojaaGreatDoor
open Go.RowKit
open Lm
attribute [local go_sem ↓] Go.wp_at_zero Go.wp_at_succ



def iv5 (z:Nat):Value:=.int .i64 (z:Int)

theorem jM:(Tryz.prog.info? 3).map (fun i=>(i.zero,i.size,i.bytes))=some (some (.int .i64 0),1,8):=by kernel_rfl

def IRz (w:World)(v:Value)(L:List Int):Prop:=∃a c,v=.slice a L.length c∧L.length≤c∧c≤9223372036854775807∧(∀i,-9223372036854775808≤L.getD i 0∧L.getD i 0≤9223372036854775807)∧(L=[]∨∃g off,a=some ⟨g,off,none⟩∧g<w.heap.size∧∀i,i<L.length→w.cell? ⟨g,off+i,none⟩=some (.int .i64 (L.getD i 0)))

theorem IRz.below {w w':World}{v:Value}{L:List Int}(h:IRz w v L)(hb:Below w.heap.size w w'):IRz w' v L:=by
 obtain⟨a,c,h1,h2,h3,h0,h4⟩:=h
 refine⟨a,c,h1,h2,h3,h0,?_⟩
 rcases h4 with h4|⟨g,off,h5,h6,h7⟩
 ·exact .inl h4
 ·exact .inr ⟨g,off,h5,Nat.lt_of_lt_of_le h6 hb.size,fun i hi=>by rw [hb.cell (p:=⟨g,off+i,none⟩) h6];exact h7 i hi⟩

theorem kK (gs i:Nat)(v:Value)(L:List Int)(w:World)(h:w.cell? ⟨gs,0,none⟩=some v)(hv:IRz w v L)(hi:i<L.length) :
  Calls Tryz.prog 43 #[.int .i64 i,.pointer (some ⟨gs,0,none⟩)] w fun e w'=>e=.returned (.int .i64 (L.getD i 0))∧w'=w:=by
 obtain⟨a,c,rfl,h2,h3,h0,h4⟩:=hv
 rcases h4 with h4|⟨g,off,rfl,h6,h7⟩
 ·rw [h4] at hi;simp at hi
 ·have hc:=h7 i hi
  have hb:=h0 i
  have hi0:(0:Int)≤(i:Int):=by omega
  have hi1:(i:Int)<(L.length:Int):=by omega
  clear h7 h0
  generalize L.getD i 0=z at *
  go_enter Tryz.func43,Tryz.ntmps43
  go_wp2
  go_ret
  exact⟨rfl,rfl⟩

theorem mC (v:Value)(L:List Int)(b:Nat)(w:World)(hT:Tab w)(hv:IRz w v L)(hb:2≤b)(hb2:b≤36)(hn:L.length≤140737488351232) :
  Calls Tryz.prog 23 #[.int .i64 b,v] w (bH b L.length (fun i=>L.getD i 0) w):=by
 obtain⟨a,c,e1,_⟩:=id hv
 have hv':IRz w (.slice a L.length c) L:=by rw [←e1];exact hv
 rw [e1]
 obtain⟨w0,hw0⟩:∃w0,w.alloc (.cells #[.slice a L.length c] 33)=w0:=⟨_,rfl⟩
 have hb0:Below w.heap.size w w0:=by rw [←hw0];exact ab _ _
 have cs:w0.cell? ⟨w.heap.size,0,none⟩=some (.slice a L.length c):=bh (by rw [←hw0];exact heap_alloc_new ..)
 have HI:=cD b w0 hb hb2
 have FN:=jR (.pointer (some ⟨w.heap.size,0,none⟩)) b L.length (fun i=>L.getD i 0) w0 (hT.below hb0) hb hb2 hn (fun i hi W hW=>kK w.heap.size i _ L W (am hW cs) ((hv'.below hb0).below hW) hi) (fun W D k ao cc h1 h2 h3 h4 h5 h6=>dS b L.length w0.heap.size W D k ao cc hb hb2 (by omega) h1 h2 h3 h4 h5 h6)
 have HW0:=aa hw0
 have HB0:=aa hb0
 clear hT hw0 hb0 hv hv' e1
 go_enter Tryz.func23,Tryz.ntmps23
 go_wp2_with fail
 rw [HW0.out]
 refine HI.mono ?_
 rintro e wn ⟨rfl,hw⟩;rw [hw];clear hw wn HI
 go_wp2_with fail
 refine FN.mono ?_
 rintro e w1 hD
 have hD:=hD.up HB0.out
 obtain⟨v,c,e2⟩:∃v c,e=.returned (.tuple #[v,.int .i64 c]):=by
  rcases hD.2 with ⟨_,_,_,he⟩|⟨_,_,_,v,c,_,he,_⟩
  ·exact⟨_,_,he⟩
  ·exact⟨_,_,he⟩
 subst e2
 have HD:=aa hD
 clear FN hD
 go_wp2
 go_ret2
 exact HD.out

theorem fm {b:Nat}{D E:List Nat}:∀ {n:Nat},(∀i,i<n→D.getD i 0=E.getD i 0)→dvr b D 0 n=dvr b E 0 n
 | 0,_=>rfl
 | n+1,h=>by rw [dvr,dvr,fm (fun i hi=>h i (by omega)),Nat.zero_add,h n (by omega)]



theorem fv (L:List Nat):(aE (L.map fig)).size=L.length:=by
 have h:(aE (L.map fig)).data.toList.length=L.length:=by rw [gi,List.length_map]
 exact h
end Go.Proofs.YteehipcoeocojaaGreatDoor
namespace Go.Proofs.YteehipcoeocojaaGreatDoor
open Lm

structure Top (a m f:Nat):Prop where
 low:9223372036854775808≤m
 high:m<18446744073709551616
 below:m*2 ^ f≤a*9223372036854775808
 above:a*9223372036854775808<(m+1)*2 ^ f

theorem fJ {f E:Nat}(h:f<E):2*2 ^ f≤2 ^ E:=by
 rw [Nat.mul_comm,←Nat.pow_succ]
 exact Nat.pow_le_pow_right (by omega) h

theorem Pw.over {b n m f a lm E:Nat}(h:Pw b n m f)(t:Top a lm E)(hc:E<f∨(f=E∧lm<m)):a<b ^ n:=by
 have h1:m*2 ^ f≤b ^ n*9223372036854775808:=by
  rcases h with ⟨rfl,rfl,rfl⟩|⟨_,c,_,h⟩
  ·simp
  ·exact h.below
 have h2:=t.above
 have hr:=h.range
 have hl:=t.high
 refine Nat.lt_of_mul_lt_mul_right (a:=9223372036854775808) (Nat.lt_of_lt_of_le h2 (Nat.le_trans ?_ h1))
 rcases hc with hc|⟨rfl,hc⟩
 ·have h3:=fJ hc
  have h4:(lm+1)*2 ^ E≤18446744073709551616*2 ^ E:=Nat.mul_le_mul_right _ (by omega)
  have h5:9223372036854775808*2 ^ f≤m*2 ^ f:=Nat.mul_le_mul_right _ hr.1
  omega
 ·exact Nat.mul_le_mul_right _ (by omega)

theorem Pw.under {b n m f a lm E:Nat}(h:Pw b n m f)(t:Top a lm E)(hn:n≤1125899906842624)(hw:m+4*n<18446744073709551616)(hc:f<E∨(f=E∧m+4*n≤lm)):b ^ n≤a:=by
 have h1:=h.above hn
 have h2:=t.below
 have hl:=t.low
 refine Nat.le_of_mul_le_mul_right (c:=9223372036854775808) (Nat.le_trans h1 (Nat.le_trans ?_ h2)) (by omega)
 rcases hc with hc|⟨rfl,hc⟩
 ·have h3:=fJ hc
  have h4:(m+4*n)*2 ^ f≤18446744073709551616*2 ^ f:=Nat.mul_le_mul_right _ (by omega)
  have h5:9223372036854775808*2 ^ E≤lm*2 ^ E:=Nat.mul_le_mul_right _ hl
  omega
 ·exact Nat.mul_le_mul_right _ hc

theorem Top.of {a L:Nat}(h1:2 ^ (L - 1)≤a)(h2:a<2 ^ L)(hL:64<L):Top a (a / 2 ^ (L - 64)) (L - 64+63):=by
 obtain⟨e,rfl⟩:∃e,L=e+64:=⟨L - 64,by omega⟩
 rw [show e+64 - 64=e by omega]
 have hp:0<2 ^ e:=Nat.pow_pos (by omega)
 have e1:2 ^ (e+64 - 1)=9223372036854775808*2 ^ e:=by rw [show e+64 - 1=e+63 by omega,Nat.pow_add,Nat.mul_comm]
 have e2:2 ^ (e+64)=18446744073709551616*2 ^ e:=by rw [Nat.pow_add,Nat.mul_comm]
 have e3:2 ^ (e+63)=9223372036854775808*2 ^ e:=by rw [Nat.pow_add,Nat.mul_comm]
 rw [e1] at h1
 rw [e2] at h2
 have d1:=Nat.div_mul_le_self a (2 ^ e)
 have d2:=Nat.lt_div_mul_add (a:=a) hp
 refine⟨(Nat.le_div_iff_mul_le hp).2 h1,(Nat.div_lt_iff_lt_mul hp).2 h2,?_,?_⟩
 ·rw [e3]
  generalize a / 2 ^ e=q at *
  have e4:q*(9223372036854775808*2 ^ e)=q*2 ^ e*9223372036854775808:=by ac_rfl
  rw [e4]
  exact Nat.mul_le_mul_right _ d1
 ·rw [e3]
  generalize a / 2 ^ e=q at *
  have e4:(q+1)*(9223372036854775808*2 ^ e)=(q*2 ^ e+2 ^ e)*9223372036854775808:=by rw [Nat.add_mul q 1,Nat.one_mul,Nat.add_mul];ac_rfl
  rw [e4]
  exact Nat.mul_lt_mul_of_pos_right d2 (by omega)
end Go.Proofs.YteehipcoeocojaaGreatDoor
namespace Go.Proofs.YteehipcoeocojaaGreatDoor
open Go.RowKit
open Lm
attribute [local go_sem ↓] Go.wp_at_zero Go.wp_at_succ

theorem eY {X:List Nat}(h:Limbs X)(l:Nat)(hl:l<X.length):val X / 18446744073709551616 ^ l=X.getD l 0+18446744073709551616*(val X / 18446744073709551616 ^ (l+1)):=by
 have h1:X.getD l 0=val X / 18446744073709551616 ^ l % 18446744073709551616:=by
  revert l
  induction X with
  | nil=>intro l hl;simp at hl
  | cons a r ih=>
   intro l hl
   have ha:a<18446744073709551616:=h a (List.mem_cons_self ..)
   have hr:Limbs r:=fun z hz=>h z (List.mem_cons_of_mem _ hz)
   cases l with
   | zero=>simp [val];omega
   | succ l=>
    have:=ih hr l (by simpa using hl)
    simp only [List.getD_cons_succ,val]
    rw [this,Nat.pow_succ,Nat.mul_comm (18446744073709551616 ^ l),←Nat.div_div_eq_div_mul]
    congr 2
    omega
 rw [h1,Nat.pow_succ,←Nat.div_div_eq_div_mul]
 omega

theorem kk (x u s:Nat)(hs:s≤64):(x+18446744073709551616*u) / 2 ^ s=x / 2 ^ s+u*2 ^ (64 - s):=by
 have e:18446744073709551616*u=2 ^ s*(u*2 ^ (64 - s)):=by
  rw [Nat.mul_left_comm,←Nat.pow_add,show s+(64 - s)=64 by omega,Nat.mul_comm]
 rw [e,Nat.add_mul_div_left _ _ (Nat.pow_pos (by omega))]

theorem ip (h s l U:Nat)(hs:s≤64)(hl:l<2 ^ s)(hh:h*2 ^ s<18446744073709551616)(hU:U=h*2 ^ s+l):bits BinOp.or IntKind.u64 (l:Int) ((h*2 ^ s:Nat):Int)=(U:Int):=by
 have hll:l<18446744073709551616:=Nat.lt_of_lt_of_le hl (by rw [show (18446744073709551616:Nat)=2 ^ 64 from rfl];exact Nat.pow_le_pow_right (by omega) hs)
 rw [bits_or_u64_nat _ _ hll hh,Nat.or_comm,hU,Nat.mul_comm h,Nat.two_pow_add_eq_or_of_lt hl]

theorem iy (va:Value)(X:List Nat)(w:World)(hA:Arg w va X)(hL:64<blen (val X)) :
  Calls Tryz.prog 86 #[va] w fun e w'=>∃m f:Nat,e=.returned (.agg #[.int .u64 m,.int .i64 ((f:Int) - 63)])∧Top (val X) m f∧f+1=blen (val X)∧Below w.heap.size w w':=by
 have HL:=fun W (hA:Arg W va X)=>ar va X W hA
 obtain⟨ao,cap,rfl,hc,hm,hli⟩:=hA.form
 have hlim:=hA.limbs
 have hfew:=hA.few
 have hv:=val_lt hlim
 obtain⟨L,hLe⟩:∃L,blen (val X)=L:=⟨_,rfl⟩
 have hup:val X<2 ^ L:=(blen_le_iff _ _).1 (by omega)
 have hlo:2 ^ (L - 1)≤val X:=by
  rcases Nat.lt_or_ge (val X) (2 ^ (L - 1)) with h|h
  ·have:=(blen_le_iff _ _).2 h;omega
  ·exact h
 have htop:=Top.of hlo hup (by omega)
 have hLX:L≤64*X.length:=by rw [←hLe];exact (blen_le_iff _ _).2 (by rw [Nat.pow_mul];exact hv)
 rw [hLe]
 simp only [hLe] at HL
 rw [hLe] at hL
 obtain⟨l,s,hls,hs⟩:∃l s,L - 64=64*l+s∧s<64:=⟨(L - 64) / 64,(L - 64) % 64,by omega,by omega⟩
 have hll:l<X.length:=by omega
 have hdiv:val X / 2 ^ (L - 64)=(X.getD l 0+18446744073709551616*(val X / 18446744073709551616 ^ (l+1))) / 2 ^ s:=by
  rw [hls,Nat.pow_add,←Nat.div_div_eq_div_mul,Nat.pow_mul,←eY hlim l hll]
 rw [kk _ _ _ (by omega)] at hdiv
 have hx0:=limb_lt hlim l
 have hnext:s≠0→l+1<X.length∧val X / 18446744073709551616 ^ (l+1)=X.getD (l+1) 0∧X.getD (l+1) 0*2 ^ (64 - s)<18446744073709551616:=by
  intro h0
  have hl1:l+1<X.length:=by omega
  have hu:=eY hlim (l+1) hl1
  have hb:=htop.high
  rw [hdiv] at hb
  have hu2:val X / 18446744073709551616 ^ (l+1)*2 ^ (64 - s)<18446744073709551616:=Nat.lt_of_le_of_lt (Nat.le_add_left _ _) hb
  have hu3:val X / 18446744073709551616 ^ (l+1)<18446744073709551616:=by
   have:val X / 18446744073709551616 ^ (l+1)*1≤val X / 18446744073709551616 ^ (l+1)*2 ^ (64 - s):=Nat.mul_le_mul_left _ (Nat.pow_pos (by omega))
   omega
  have hu4:val X / 18446744073709551616 ^ (l+1)=X.getD (l+1) 0:=by omega
  refine⟨hl1,hu4,?_⟩
  rw [←hu4];exact hu2
 obtain⟨W,hW⟩:∃W,w.alloc (.cells #[.int .u64 0,.int .i64 0] 128)=W:=⟨_,rfl⟩
 have hbW:Below w.heap.size w W:=by rw [←hW];exact ab _ _
 have HLW:=HL W (hA.below hbW)
 obtain⟨b,off,rfl,hcell⟩:∃b off,ao=some ⟨b,off,none⟩∧∀k,k<X.length→W.cell? ⟨b,off+k,none⟩=some (.int .u64 ((X.getD k 0:Nat):Int)):=by
  rcases hli.below hbW with h|h
  ·rw [h] at hll;simp at hll
  ·exact h
 have hc0:=hcell l hll
 have hbox:W.heap[w.heap.size]?=some (.cells #[.int .u64 0,.int .i64 0] 128):=by rw [←hW];exact heap_alloc_new ..
 obtain⟨d0,d1⟩:=ak hbox
 have hfz:=bI hbox
 obtain⟨E,hE,hE2⟩:∃E:Nat,(L:Int) - 64=(E:Int)∧L - 64=E:=⟨L - 64,by omega,rfl⟩
 have hq:(E:Int) / 64=(l:Int):=by omega
 have hr:(E:Int) % 64=(s:Int):=by omega
 have hq':(E:Int).tdiv 64=(l:Int):=by rw [Int.tdiv_eq_ediv_of_nonneg (by omega)];exact hq
 have hr':(E:Int).tmod 64=(s:Int):=by rw [Int.tmod_eq_emod_of_nonneg (by omega)];exact hr
 have hsh:((X.getD l 0:Nat):Int) / 2 ^ s=((X.getD l 0 / 2 ^ s:Nat):Int):=by rw [Int.natCast_ediv,Int.natCast_pow];rfl
 have hs0:(0:Int)≤(s:Int):=by omega
 have hs64:(s:Int)<64:=by omega
 have hl0:(0:Int)≤(l:Int):=by omega
 have hlX:(l:Int)<(X.length:Int):=by omega
 have hfx:((L - 64+63:Nat):Int) - 63=(E:Int):=by omega
 have HT:=aa htop
 have HB:=aa hbW
 have HBox:=aa hbox
 have hxs:X.getD l 0 / 2 ^ s<18446744073709551616:=Nat.lt_of_le_of_lt (Nat.div_le_self _ _) hx0
 by_cases hz:s=0
 ·subst hz
  rw [Nat.pow_zero,Nat.div_one,Nat.sub_zero,show (2:Nat) ^ 64=18446744073709551616 from rfl] at hdiv
  have hM:val X / 2 ^ (L - 64)=X.getD l 0:=by have hb:=htop.high;omega
  rw [hM] at htop
  have HM:=aa htop
  clear htop HT hM hdiv hnext hcell hbox hbW hA hli HL hup hlo hlim hv
  generalize X.getD l 0=M at *
  have R5:=bE HBox.out (a':=.int .u64 M) (b':=.int .i64 (E:Int))
  have HD:=aa (bA HB.out (g:=w.heap.size) (u0:=.int .u64 M) (u1:=.int .i64 (E:Int)) (Nat.le_refl _))
  go_enter Tryz.func86,Tryz.ntmps86
  go_wp2_with fail
  refine HLW.mono ?_
  rintro e wn ⟨rfl,hw⟩;rw [hw];clear hw wn HLW
  go_wp2
  generalize (W.setCell ⟨w.heap.size,0,none⟩ (.int .u64 M)).setCell ⟨w.heap.size,1,none⟩ (.int .i64 (E:Int))=w8 at *
  obtain⟨q0,q1⟩:=ak R5
  refine bodyPost_ret (v:=.agg #[.int .u64 M,.int .i64 (E:Int)]) (by simp [results,Tryz.results86,go_sem,q0,q1]) rfl ?_
  exact⟨M,L - 64+63,by rw [hfx],HM.out,by omega,HD.out⟩
 ·obtain⟨hl1,hu,hfit⟩:=hnext hz
  have hc1:=hcell (l+1) hl1
  rw [hu] at hdiv
  have hor:=ip (X.getD (l+1) 0) (64 - s) (X.getD l 0 / 2 ^ s) (val X / 2 ^ (L - 64)) (by omega) ((Nat.div_lt_iff_lt_mul (Nat.pow_pos (by omega))).2 (by rw [←Nat.pow_add,show 64 - s+s=64 by omega];exact hx0)) hfit (by rw [hdiv];omega)
  have hwr:=bT (X.getD (l+1) 0) (64 - s) (X.getD (l+1) 0*2 ^ (64 - s)) (Nat.mod_eq_of_lt hfit)
  obtain⟨t,ht⟩:∃t:Nat,64 - s=t:=⟨_,rfl⟩
  have hti:(64:Int) - (s:Int)=(t:Int):=by omega
  have htn:t<64:=by omega
  have hgt:(0:Int)<(s:Int):=by omega
  rw [ht] at hor hwr
  have HM:=aa htop
  clear htop HT hdiv hnext hcell hbox hbW hA hli HL hup hlo hlim hv hu hfit
  have hl1':(l:Int)+1<(X.length:Int):=by omega
  generalize val X / 2 ^ (L - 64)=M at *
  generalize X.getD (l+1) 0*2 ^ t=z at *
  generalize X.getD (l+1) 0=x1 at *
  generalize X.getD l 0 / 2 ^ s=y at *
  generalize X.getD l 0=x0 at *
  have R5:=bE HBox.out (a':=.int .u64 M) (b':=.int .i64 (E:Int))
  have HD:=aa (bA HB.out (g:=w.heap.size) (u0:=.int .u64 M) (u1:=.int .i64 (E:Int)) (Nat.le_refl _))
  go_enter Tryz.func86,Tryz.ntmps86
  go_wp2_with fail
  refine HLW.mono ?_
  rintro e wn ⟨rfl,hw⟩;rw [hw];clear hw wn HLW
  go_wp2
  generalize (W.setCell ⟨w.heap.size,0,none⟩ (.int .u64 M)).setCell ⟨w.heap.size,1,none⟩ (.int .i64 (E:Int))=w8 at *
  obtain⟨q0,q1⟩:=ak R5
  refine bodyPost_ret (v:=.agg #[.int .u64 M,.int .i64 (E:Int)]) (by simp [results,Tryz.results86,go_sem,q0,q1]) rfl ?_
  exact⟨M,L - 64+63,by rw [hfx],HM.out,by omega,HD.out⟩

theorem jv (b n m f a lm E:Nat)(c1 c2 c3:Value)(w:World)(hp:Pw b n m f)(ht:Top a lm E)(hn:n≤1125899906842624)
  (HS:∀W,Below w.heap.size w W→Calls Tryz.prog 89 #[c1,c2,c3] W fun e w'=>e=.returned (.bool (decide (b ^ n≤a)))∧Below W.heap.size W w') :
  Calls Tryz.prog 87 #[.agg #[.int .u64 m,.int .i64 ((f:Int) - 63)],.int .i64 n,.agg #[.int .u64 lm,.int .i64 ((E:Int) - 63)],.func (.func 89) #[] #[c1,c2,c3]] w fun e w'=>e=.returned (.bool (decide (b ^ n≤a)))∧Below w.heap.size w w':=by
 have hr:=hp.range
 have hl:=ht.high
 have hno:=fun h=>hp.over ht h
 have hyes:=fun h1 h2=>hp.under ht hn h1 h2
 have ba:=ab w (.cells #[.int .u64 m,.int .i64 ((f:Int) - 63)] 128)
 have bb:=ab (w.alloc (.cells #[.int .u64 m,.int .i64 ((f:Int) - 63)] 128)) (.cells #[.int .u64 lm,.int .i64 ((E:Int) - 63)] 128)
 have bab:=ba.trans (bb.mono ba.size)
 have HB:=aa bab
 have HS2:=HS _ bab
 have HNO:=aa hno
 have HYES:=aa hyes
 clear hno hyes ba bb bab HS hp ht
 by_cases h1:E<f
 ·have i1:(E:Int) - 63<(f:Int) - 63:=by omega
  have hd:decide (b ^ n≤a)=false:=decide_eq_false (by have:=HNO.out (.inl h1);omega)
  rw [hd]
  clear HS2 HNO HYES hd
  go_enter Tryz.func87,Tryz.ntmps87
  go_wp2
  go_ret
  exact⟨rfl,HB.out⟩
 ·by_cases h2:f=E∧lm<m
  ·obtain⟨rfl,h2⟩:=h2
   have i1:(lm:Int)<(m:Int):=by omega
   have hd:decide (b ^ n≤a)=false:=decide_eq_false (by have:=HNO.out (.inr ⟨rfl,h2⟩);omega)
   rw [hd]
   clear HS2 HNO HYES hd
   go_enter Tryz.func87,Tryz.ntmps87
   go_wp2
   go_ret
   exact⟨rfl,HB.out⟩
  ·have e4:(4:Int)*(n:Int)=((4*n:Nat):Int):=by omega
   have ha:=fun W=>aR m (4*n) W
   have hS0:(m+4*n) / 18446744073709551616=0∨(m+4*n) / 18446744073709551616=1:=by omega
   have hSl:(m+4*n) % 18446744073709551616<18446744073709551616:=by omega
   have n4:4*n<18446744073709551616:=by omega
   have hq:(m+4*n) / 18446744073709551616=0→m+4*n=(m+4*n) % 18446744073709551616:=by omega
   obtain⟨S,hS⟩:∃S,(m+4*n) % 18446744073709551616=S:=⟨_,rfl⟩
   obtain⟨cy,hcy⟩:∃cy,(m+4*n) / 18446744073709551616=cy:=⟨_,rfl⟩
   simp only [hS,hcy] at ha
   rw [hcy] at hS0
   rw [hS,hcy] at hq
   rw [hS] at hSl
   have HQ:=aa hq
   obtain⟨N4,hN4⟩:∃N4,4*n=N4:=⟨_,rfl⟩
   rw [hN4] at e4 n4
   simp only [hN4] at ha
   have HN4:=aa hN4
   have j1:¬((E:Int) - 63<(f:Int) - 63):=by omega
   clear hq hS hcy hN4
   by_cases hc:cy=0∧(f<E∨S≤lm)
   ·obtain⟨rfl,hc⟩:=hc
    have hd:decide (b ^ n≤a)=true:=decide_eq_true (HYES.out (by have:=HQ.out rfl;omega) (by have:=HQ.out rfl;omega))
    rw [hd]
    by_cases hfE:f<E
    ·have i1:(f:Int) - 63<(E:Int) - 63:=by omega
     have i2:¬((f:Int) - 63=(E:Int) - 63):=by omega
     have i3:(((f:Int) - 63) == ((E:Int) - 63))=false:=by rw [beq_eq_false_iff_ne];exact i2
     clear HS2 HNO HYES hd hS0 h1 h2
     go_enter Tryz.func87,Tryz.ntmps87
     go_wp2
     go_ret
     exact⟨rfl,HB.out⟩
    ·obtain rfl:f=E:=by omega
     have i1:¬((lm:Int)<(m:Int)):=by omega
     have i2:(S:Int)≤(lm:Int):=by omega
     clear HS2 HNO HYES hd hS0 h1 h2
     go_enter Tryz.func87,Tryz.ntmps87
     go_wp2
     go_ret
     exact⟨rfl,HB.out⟩
   ·generalize decide (b ^ n≤a)=r at *
    by_cases hfE:f<E
    ·have i1:(f:Int) - 63<(E:Int) - 63:=by omega
     have i2:¬((f:Int) - 63=(E:Int) - 63):=by omega
     have i3:(((f:Int) - 63) == ((E:Int) - 63))=false:=by rw [beq_eq_false_iff_ne];exact i2
     obtain rfl:cy=1:=by omega
     clear HNO HYES hS0 h1 h2 hc
     go_enter Tryz.func87,Tryz.ntmps87
     go_wp2_with fail
     refine HS2.mono ?_
     rintro e w2 ⟨rfl,hb2⟩
     have HB2:=aa (HB.out.trans (hb2.mono HB.out.size))
     clear HS2 hb2
     go_wp2
     go_ret
     exact⟨rfl,HB2.out⟩
    ·obtain rfl:f=E:=by omega
     have i1:¬((lm:Int)<(m:Int)):=by omega
     rcases hS0 with rfl|rfl
     ·have i2:¬((S:Int)≤(lm:Int)):=by omega
      clear HNO HYES h1 h2 hc
      go_enter Tryz.func87,Tryz.ntmps87
      go_wp2_with fail
      refine HS2.mono ?_
      rintro e w2 ⟨rfl,hb2⟩
      have HB2:=aa (HB.out.trans (hb2.mono HB.out.size))
      clear HS2 hb2
      go_wp2
      go_ret
      exact⟨rfl,HB2.out⟩
     ·clear HNO HYES h1 h2 hc
      go_enter Tryz.func87,Tryz.ntmps87
      go_wp2_with fail
      refine HS2.mono ?_
      rintro e w2 ⟨rfl,hb2⟩
      have HB2:=aa (HB.out.trans (hb2.mono HB.out.size))
      clear HS2 hb2
      go_wp2
      go_ret
      exact⟨rfl,HB2.out⟩

theorem mf (a b:Nat)(ha:a<4611686018427387904)(hb:b<4611686018427387904):bits .or .i64 (a:Int) (b:Int)=((a ||| b:Nat):Int):=by
 have hx:a ||| b<2 ^ 62:=Nat.or_lt_two_pow (by omega) (by omega)
 have h1:(BitVec.ofInt 64 (a:Int)).toNat=a:=by
  rw [BitVec.ofInt_natCast,BitVec.toNat_ofNat];exact Nat.mod_eq_of_lt (by omega)
 have h2:(BitVec.ofInt 64 (b:Int)).toNat=b:=by
  rw [BitVec.ofInt_natCast,BitVec.toNat_ofNat];exact Nat.mod_eq_of_lt (by omega)
 show IntKind.i64.wrap ((BitVec.ofInt 64 (a:Int) ||| BitVec.ofInt 64 (b:Int)).toNat:Int)=_
 rw [BitVec.toNat_or,h1,h2,IntKind.wrap_i64]
 omega

theorem l8 {m p:Nat}(h:m % 2 ^ (p+1)=0):m ||| 2 ^ p=m+2 ^ p:=by
 have e:m=2 ^ (p+1)*(m / 2 ^ (p+1)):=(Nat.mul_div_cancel' (Nat.dvd_of_mod_eq_zero h)).symm
 rw [e]
 exact (Nat.two_pow_add_eq_or_of_lt (by rw [Nat.pow_succ];have:=Nat.two_pow_pos p;omega) _).symm

theorem lk {m p K:Nat}(h:m % 2 ^ (p+1)=0)(hm:m<2 ^ K)(hp:p+1≤K):m+2 ^ (p+1)≤2 ^ K:=by
 have e:m=m / 2 ^ (p+1)*2 ^ (p+1):=(Nat.div_mul_cancel (Nat.dvd_of_mod_eq_zero h)).symm
 have h4:m / 2 ^ (p+1)<2 ^ (K - (p+1)):=by
  refine Nat.lt_of_mul_lt_mul_right (a:=2 ^ (p+1)) ?_
  rw [←Nat.pow_add,show K - (p+1)+(p+1)=K by omega,←e]
  exact hm
 have h5:=Nat.mul_le_mul_right (2 ^ (p+1)) (Nat.succ_le_of_lt h4)
 rw [←Nat.pow_add,show K - (p+1)+(p+1)=K by omega,Nat.succ_mul,←e] at h5
 exact h5

theorem gE {m p:Nat}(h:m % 2 ^ (p+1)=0):m % 2 ^ p=0∧(m+2 ^ p) % 2 ^ p=0:=by
 have e:m=2 ^ p*(2*(m / 2 ^ (p+1))):=by
  have e:=(Nat.mul_div_cancel' (Nat.dvd_of_mod_eq_zero h)).symm
  rw [Nat.pow_succ,Nat.mul_assoc] at e
  rw [Nat.pow_succ]
  exact e
 refine⟨?_,?_⟩
 ·rw [e];exact Nat.mul_mod_right _ _
 ·rw [Nat.add_mod_right,e];exact Nat.mul_mod_right _ _

theorem d7 {w:World}{g:Nat}{a b:Value}{t:TypeId}(h:w.heap[g]?=some (.cells #[a,b] t)):w.cell? ⟨g,0,none⟩=some a∧w.cell? ⟨g,1,none⟩=some b:=⟨by simp [World.cell?,h],by simp [World.cell?,h]⟩

theorem gZ (va:Value)(X:List Nat)(b:Nat)(w:World)(hA:Arg w va X)(hT:Tab w)(hl:X.length≤1048576)(hb:2≤b)(hb2:b≤36)(hL:64<blen (val X)) :
  Calls Tryz.prog 59 #[va,.int .u64 b] w fun e w'=>∃n:Nat,e=.returned (.int .i64 n)∧b ^ n≤val X∧val X<b ^ (n+1)∧n≤1152921504606846976∧Below w.heap.size w w':=by
 obtain⟨ao,cap,rfl,_,_,_⟩:=hA.form
 obtain⟨w0,hw0⟩:∃W,(w.alloc (.cells #[.slice ao X.length cap] 23)).alloc (.cells #[.int .u64 b] 63)=W:=⟨_,rfl⟩
 have hb0:Below w.heap.size w w0:=by rw [←hw0];exact bt5 (ab _ _) (ab _ _)
 have x0:w0.heap[w.heap.size]?=some (.cells #[.slice ao X.length cap] 23):=by
  rw [←hw0]
  exact ((ab (w.alloc (.cells #[.slice ao X.length cap] 23)) (.cells #[.int .u64 b] 63)).block w.heap.size (by simp)).trans (heap_alloc_new ..)
 have x1:w0.heap[w.heap.size+1]?=some (.cells #[.int .u64 b] 63):=by
  rw [←hw0]
  have h:=heap_alloc_new (w.alloc (.cells #[.slice ao X.length cap] 23)) (.cells #[.int .u64 b] 63)
  rw [World.size_alloc] at h
  exact h
 have c0:=an x0
 have c1:=an x1
 have C1:=iy _ X w0 (hA.below hb0) hL
 have hlen:=cC hA.limbs hl
 obtain⟨L,hLe⟩:∃L,blen (val X)=L:=⟨_,rfl⟩
 have hup:val X<2 ^ L:=(blen_le_iff _ _).1 (by omega)
 have LV:=fun W (h:Arg W (.slice ao X.length cap) X)=>ar _ X W h
 rw [hLe] at hlen hL LV
 have HLN:=fun W=>Tryz.bits_Len (L:Int) W (by omega) (by omega)
 simp only [Int.toNat_natCast] at HLN
 obtain⟨K,hK⟩:∃K,Lib.bitLen L=K:=⟨_,rfl⟩
 have hKL:L<2 ^ K:=by rw [←hK];exact (Lib.bitLenAux_bounds 64 L (by omega) (by omega)).2.2
 have hK27:K≤27:=by rw [←hK];exact Lib.bitLen_le L 27 (by omega) (by omega)
 rw [hK] at HLN
 have hpos:1≤val X:=by
  rcases Nat.eq_zero_or_pos (val X) with h|h
  ·rw [h] at hLe;rw [show blen 0=0 from rfl] at hLe;omega
  ·exact h
 have hst:val X<b ^ (2 ^ K):=Nat.lt_of_lt_of_le hup (Nat.le_trans (Nat.pow_le_pow_left hb L) (Nat.pow_le_pow_right (by omega) (Nat.le_of_lt hKL)))
 have HA:=aa (hA.below hb0)
 have HT:=aa (hT.below hb0)
 have HB0:=aa hb0
 have HST:=aa (And.intro hpos hst)
 have X0:=aa x0
 have X1:=aa x1
 have HLV:=aa LV
 have HLN2:=aa HLN
 clear hA hT hb0 hup hKL hpos hst x0 x1 LV HLN hLe hK
 go_enter Tryz.func59,Tryz.ntmps59
 go_wp2_with fail
 refine C1.mono ?_
 rintro e w1 ⟨lm,E,rfl,hTop,_,hb1⟩
 obtain⟨w2,hw2⟩:∃W,w1.alloc (.cells #[.int .u64 lm,.int .i64 ((E:Int) - 63)] 128)=W:=⟨_,rfl⟩
 have hb2':Below w1.heap.size w1 w2:=by rw [←hw2];exact ab _ _
 have x2:w2.heap[w1.heap.size]?=some (.cells #[.int .u64 lm,.int .i64 ((E:Int) - 63)] 128):=by rw [←hw2];exact heap_alloc_new ..
 have hB2:=bt5 hb1 hb2'
 have y0:=(hB2.block _ (lt_of_block X0.out)).trans X0.out
 have y1:=(hB2.block _ (lt_of_block X1.out)).trans X1.out
 have d0:=an y0
 have L1:=HLV.out w2 (HA.out.below hB2)
 have Y0:=aa y0
 have Y1:=aa y1
 have Y2:=aa x2
 have HB2:=aa (bt5 HB0.out hB2)
 have HA2:=aa (HA.out.below hB2)
 have HT2:=aa (HT.out.below hB2)
 have HTOP:=aa hTop
 clear C1 hb1 hb2' x2 hB2 y0 y1 X0 X1 HA HT HB0 HLV c0 c1 hTop hw0
 go_wp2_with fail
 refine L1.mono ?_
 rintro e wn ⟨rfl,hw⟩;rw [hw];clear hw wn L1
 have L2:=HLN2.out w2
 go_wp2_with fail
 refine L2.mono ?_
 rintro e wn ⟨rfl,hw⟩;rw [hw];clear hw wn L2
 go_wp2
 clear hw2 d0
 go_loopw [6,7] (fun mv bv wr=>∃m q:Nat,mv=.int .i64 m∧bv=.int .i64 ((q:Int) - 1)∧q≤K∧m % 2 ^ q=0∧m<2 ^ K∧b ^ m≤val X∧val X<b ^ (m+2 ^ q)∧Below w2.heap.size w2 wr) (fun _ bv _=>(intOf bv+1).toNat)
 case atStart=>exact⟨0,K,rfl,rfl,Nat.le_refl _,Nat.zero_mod _,Nat.two_pow_pos _,by rw [Nat.pow_zero];exact HST.out.1,by rw [Nat.zero_add];exact HST.out.2,Below.refl _ _⟩
 case round=>
  obtain⟨m,q,rfl,rfl,hqK,hmq,hmK,hlo,hhi,hbr⟩:=hrel
  have h27:2 ^ K≤134217728:=Nat.pow_le_pow_right (n:=2) (j:=27) (by omega) hK27
  rcases Nat.eq_zero_or_pos q with hq0|hq0
  ·subst hq0
   have HE:=aa (And.intro hlo (And.intro hhi (bt5 HB2.out hbr)))
   have hm9:m≤134217728:=by omega
   clear hlo hhi hbr hmq
   go_wp2
   go_ret
   exact⟨m,rfl,HE.out.1,HE.out.2.1,by omega,HE.out.2.2⟩
  ·obtain⟨p,rfl⟩:∃p,q=p+1:=⟨q - 1,by omega⟩
   have eq:(((p+1:Nat):Int) - 1)=(p:Int):=by omega
   rw [eq]
   have hroom:=lk hmq hmK hqK
   have hhalf:=gE hmq
   have hpp:2 ^ (p+1)=2*2 ^ p:=by rw [Nat.pow_succ];omega
   have hDp:=Nat.two_pow_pos p
   have hor:=mf m (2 ^ p) (by omega) (by omega)
   rw [l8 hmq] at hor
   have h2p:(2:Int) ^ p=((2 ^ p:Nat):Int):=by simp
   obtain⟨U,hU9⟩:∃U,m+2 ^ p=U:=⟨_,rfl⟩
   rw [hU9] at hor
   have hUK:U<2 ^ K:=by omega
   have hUe:m+2 ^ (p+1)=U+2 ^ p:=by omega
   have hUb:U≤134217728:=by omega
   have hDb:2 ^ p≤134217728:=by omega
   have hp64:p<64:=by omega
   have hp0:(0:Int)≤(p:Int):=by omega
   have HU:=aa hU9
   have HUK:=aa hUK
   have HUE:=aa hUe
   have HPH:=aa hhalf
   have HLO:=aa hlo
   have HHI:=aa hhi
   obtain⟨w4,hw4⟩:∃W,wr.alloc (.cells #[.int .i64 U] 3)=W:=⟨_,rfl⟩
   have hb4:Below wr.heap.size wr w4:=by rw [←hw4];exact ab _ _
   have x4:w4.heap[wr.heap.size]?=some (.cells #[.int .i64 U] 3):=by rw [←hw4];exact heap_alloc_new ..
   have hB4:=bt5 hbr hb4
   have HB4:=aa hB4
   have KA:=aa (fun (W:World) (hg:Below w4.heap.size w4 W)=>show W.cell? ⟨w.heap.size,0,none⟩=some (.slice ao X.length cap) from an (((bt5 hB4 hg).block _ (lt_of_block Y0.out)).trans Y0.out))
   have KS:=aa (fun (W:World) (hg:Below w4.heap.size w4 W)=>show W.cell? ⟨w.heap.size+1,0,none⟩=some (.int .u64 b)∧W.cell? ⟨wr.heap.size,0,none⟩=some (.int .i64 U)∧W.cell? ⟨w1.heap.size,0,none⟩=some (.int .u64 lm)∧W.cell? ⟨w1.heap.size,1,none⟩=some (.int .i64 ((E:Int) - 63)) from
    ⟨an (((bt5 hB4 hg).block _ (lt_of_block Y1.out)).trans Y1.out),an ((hg.block _ (lt_of_block x4)).trans x4),(d7 (((bt5 hB4 hg).block _ (lt_of_block Y2.out)).trans Y2.out)).1,(d7 (((bt5 hB4 hg).block _ (lt_of_block Y2.out)).trans Y2.out)).2⟩)
   have NP:=aa (fun (W:World)=>fV b U W (by omega) (by omega) (by omega))
   have NA:=aa (fun (W:World) (pm pf:Nat) (hPw:Pw b U pm pf) (hg:Below w4.heap.size w4 W)=>jv b U pm pf (val X) lm E (.pointer (some ⟨w.heap.size,0,none⟩)) (.pointer (some ⟨w.heap.size+1,0,none⟩)) (.pointer (some ⟨wr.heap.size,0,none⟩)) W hPw HTOP.out (by omega) (fun W' hW'=>j8 w.heap.size (w.heap.size+1) wr.heap.size _ X b U W' (KA.out _ (bt5 hg hW')) (KS.out _ (bt5 hg hW')).1 (KS.out _ (bt5 hg hW')).2.1 (HA2.out.below (bt5 HB4.out (bt5 hg hW'))) (HT2.out.below (bt5 HB4.out (bt5 hg hW'))) hl hb hb2 (by omega)))
   have g0:Below w4.heap.size w4 w4.drew:=(Below.refl _ _).drew
   obtain⟨DD,hDD⟩:∃DD,2 ^ p=DD:=⟨_,rfl⟩
   have HDD:=aa hDD
   rw [hDD] at hor h2p hDb
   clear hlo hhi hbr hmq hhalf hroom hpp hDp hU9 hUK hUe hb4 x4 hB4 hDD eq KA
   by_cases hU:b ^ U≤val X
   ·skip
    have hdec:decide (b ^ U≤val X)=true:=by simpa using hU
    go_wp2_with fail
    go_region_held3 (fun w'=>w'.cell? ⟨w.heap.size+1,0,none⟩=some (.int .u64 b)∧w'.cell? ⟨wr.heap.size,0,none⟩=some (.int .i64 U)∧w'.cell? ⟨w1.heap.size,0,none⟩=some (.int .u64 lm)∧w'.cell? ⟨w1.heap.size,1,none⟩=some (.int .i64 ((E:Int) - 63))) (first|with_reducible exact KS.out _ g2|with_reducible exact KS.out _ g1|with_reducible exact KS.out _ g0) (first
     | (go_at_call 87;refine (NA.out _ pm pf hPw g1).mono ?_;rintro e' t2 ⟨rfl,hb2⟩;have g2:=bt5 g1 hb2)
     | (go_at_call 88;refine (NP.out _).mono ?_;rintro e' t1 ⟨pm,pf,rfl,hPw,hb1⟩;have g1:=bt5 g0 hb1))
    all_goals
     have HBE:=aa (bt5 HB4.out g2)
     obtain⟨_,z1,_,_⟩:=KS.out _ g2
     clear NA NP KS hb1 hb2 g1 g2 g0 hPw hdec
     go_wp2
     go_roundw
     case rel=>exact⟨U,p,rfl,rfl,by omega,by rw [←HU.out];exact HPH.out.2,HUK.out,hU,by have h:=HHI.out;rw [HUE.out] at h;exact h,HBE.out⟩
     case measure=>simp [intOf]
   ·skip
    have hdec:decide (b ^ U≤val X)=false:=by simpa using hU
    go_wp2_with fail
    go_region_held3 (fun w'=>w'.cell? ⟨w.heap.size+1,0,none⟩=some (.int .u64 b)∧w'.cell? ⟨wr.heap.size,0,none⟩=some (.int .i64 U)∧w'.cell? ⟨w1.heap.size,0,none⟩=some (.int .u64 lm)∧w'.cell? ⟨w1.heap.size,1,none⟩=some (.int .i64 ((E:Int) - 63))) (first|with_reducible exact KS.out _ g2|with_reducible exact KS.out _ g1|with_reducible exact KS.out _ g0) (first
     | (go_at_call 87;refine (NA.out _ pm pf hPw g1).mono ?_;rintro e' t2 ⟨rfl,hb2⟩;have g2:=bt5 g1 hb2)
     | (go_at_call 88;refine (NP.out _).mono ?_;rintro e' t1 ⟨pm,pf,rfl,hPw,hb1⟩;have g1:=bt5 g0 hb1))
    all_goals
     have HBE:=aa (bt5 HB4.out g2)
     obtain⟨_,z1,_,_⟩:=KS.out _ g2
     clear NA NP KS hb1 hb2 g1 g2 g0 hPw hdec
     go_wp2
     go_roundw
     case rel=>exact⟨m,p,rfl,rfl,by omega,HPH.out.1,hmK,HLO.out,by rw [HU.out];omega,HBE.out⟩
     case measure=>simp [intOf]
end Go.Proofs.YteehipcoeocojaaGreatDoor
namespace Go.Proofs.YteehipcoeocojaaGreatDoor
open Go.RowKit
open Lm
attribute [local go_sem ↓] Go.wp_at_zero Go.wp_at_succ
attribute [local go_sem] cP

theorem ju (k:Nat)(h:k≠0):1<18446744073709551616 ^ k:=Nat.one_lt_pow h (by omega)

theorem iH (va:Value)(X:List Nat)(b:Nat)(w:World)(hA:Arg w va X)(hT:Tab w)(hl:X.length≤1048576)(hb:2≤b)(hb2:b≤36) :
  Calls Tryz.prog 34 #[va,.int .i64 b] w (fu b (val X) w):=
 ja va X b w hA hT hb hb2 (fun h=>gZ va X b w hA hT hl hb hb2 h)

theorem mc {X:List Nat}(k:Nat)(h:Limbs X)(hl:X.length≤k):val X<18446744073709551616 ^ k:=Nat.lt_of_lt_of_le (val_lt h) (Nat.pow_le_pow_right (by omega) hl)

theorem dE {b x n:Nat}{X:List Nat}(hb:2≤b)(hX:Limbs X)(hl:X.length≤1048576)(hx:val X=x)(h:ax b x n):n≤67108865∧(n≤1∨b ^ (n - 1)≤x):=by
 obtain⟨h1,h2,h3⟩:=h
 refine⟨?_,?_⟩
 ·rcases h3 with h3|h3
  ·omega
  ·have hlen:=cC hX hl
   rw [hx] at hlen
   have h4:2 ^ (n - 1)≤x:=Nat.le_trans (Nat.pow_le_pow_left hb _) h3
   have h5:x<2 ^ blen x:=(blen_le_iff _ _).1 (Nat.le_refl _)
   have h6:=(Nat.pow_lt_pow_iff_right (by omega:1<2)).1 (Nat.lt_of_le_of_lt h4 h5)
   omega
 ·rcases h3 with h3|h3
  ·exact .inl (by omega)
  ·exact .inr h3

theorem dc (va:Value)(X:List Nat)(b:Nat)(w:World)(hA:Arg w va X)(hT:Tab w)(hl:X.length≤1048576)(hb:2≤b)(hb2:b≤36) :
  Calls Tryz.prog 33 #[va,.int .i64 b] w (cE b (val X) w):=by
 obtain⟨i0,hi,hz0,hz1,hz2⟩:=info_parts Tryz.infoB
 obtain⟨ao,cap,rfl,hcap,_,hL⟩:=hA.form
 obtain⟨w0,hw0⟩:∃W,w.alloc (.cells #[.int .i64 b] 3)=W:=⟨_,rfl⟩
 have hb0:Below w.heap.size w w0:=by rw [←hw0];exact ab _ _
 have x0:w0.heap[w.heap.size]?=some (.cells #[.int .i64 b] 3):=by rw [←hw0];exact heap_alloc_new ..
 have c0:=an x0
 have C1:=iH _ X b w0 (hA.below hb0) (hT.below hb0) hl hb hb2
 have HA:=aa hA
 have HT:=aa hT
 have HB0:=aa hb0
 have X0:=aa x0
 have hLX:=hL
 clear hA hT hb0 x0 hL
 go_enter Tryz.func33,Tryz.ntmps33
 go_wp2_with fail
 refine C1.mono ?_
 rintro e w1 ⟨n,rfl,hd,hb1⟩
 obtain⟨hn,hlow⟩:=dE hb HA.out.limbs hl rfl hd
 have hB1:=bt5 HB0.out hb1
 have x1:=(hb1.block _ (lt_of_block X0.out)).trans X0.out
 have c1:=an x1
 have HB1:=aa hB1
 have X1:=aa x1
 have HD:=aa hd
 clear C1 hb1 hB1 x1 X0 HB0 c0 hd
 have hNB:b ^ (n - 1)<18446744073709551616 ^ 1048576:=by
  rcases hlow with h|h
  ·rw [show n - 1=0 by omega,Nat.pow_zero]
   exact ju 1048576 (by omega)
  ·exact Nat.lt_of_le_of_lt h (mc 1048576 HA.out.limbs hl)
 have hpl:(∃b' off c,Value.slice ao X.length cap=.slice (some ⟨b',off,none⟩) X.length c)∨n≤1:=by
  rcases hLX with rfl|⟨b',off,rfl,_⟩
  ·right
   obtain⟨_,_,h3⟩:=HD.out
   rcases h3 with h3|h3
   ·omega
   ·have:=Nat.pow_pos (n:=n - 1) (show 0<b by omega)
    simp [val] at h3
    omega
  ·exact .inl ⟨b',off,cap,rfl⟩
 have HPL:=aa hpl
 have HNB:=aa hNB
 clear hlow hNB hpl hLX
 go_wp2_with (at_make;refine wpList_make_full _ rfl _ _ 67 rfl w1.heap.size 5 i0 (.int .u8 0) 1 Tryz.underlying67 hi hz0 hz1 .i64 .i64 _ _ n rfl rfl (by omega) (by omega) (by rw [hz2];omega) (by unfold maxLen;omega) (Nat.le_refl _) ?_;intro w2 hown hgrow;have hb2':Below w1.heap.size w1 w2:=(Below.refl w1.heap.size w1).grown hgrow (Nat.le_refl _) (fun k hk=>by cases hk);have x2:=(hb2'.block _ (lt_of_block X1.out)).trans X1.out;have c2:=an x2)
 have hY2:=Byt.made hown
 have hB2:=bt5 HB1.out hb2'
 have C2:=dt b n w2 (HT.out.below hB2) hb hb2 (by omega)
 obtain⟨gd,hgd⟩:∃gd,w1.heap.size=gd:=⟨_,rfl⟩
 rw [hgd] at hY2
 have hgdw:w.heap.size<gd:=by rw [←hgd];exact lt_of_block X1.out
 have HY2:=aa hY2
 have HB2:=aa hB2
 have X2:=aa x2
 have HGD:=aa hgd
 clear hown hgrow hi hz0 hz1 hz2 hb2' hY2 hB2 c1 x2 hgd
 go_wp2_with fail
 rw [HGD.out]
 refine C2.mono ?_
 rintro e w3 ⟨⟨vl,rfl,hP⟩,hb3⟩
 obtain⟨al,nl,kl,rfl⟩:∃al nl kl,vl=.slice al nl kl:=by
  obtain⟨l,h1,_⟩:=hP
  rcases h1 with ⟨h1,_⟩|⟨g,cap',h1,_⟩
  ·exact⟨_,_,_,h1⟩
  ·exact⟨_,_,_,h1⟩
 obtain⟨w4,hw4⟩:∃W,w3.alloc (.cells #[.slice al nl kl] 84)=W:=⟨_,rfl⟩
 have hs4:w4.heap.size=w3.heap.size+1:=by rw [←hw4];exact World.size_alloc _ _
 obtain⟨w5,hw5⟩:∃W,w4.alloc (.cells #[.func (.func 52) #[] #[.pointer (some ⟨w3.heap.size,0,none⟩),.pointer (some ⟨w.heap.size,0,none⟩),.pointer (some ⟨w3.heap.size+1,0,none⟩)]] 86)=W:=⟨_,rfl⟩
 have hb4:Below w3.heap.size w3 w4:=by rw [←hw4];exact ab _ _
 have hb5:Below w4.heap.size w4 w5:=by rw [←hw5];exact ab _ _
 have hb35:=bt5 hb4 hb5
 have hb25:=bt5 hb3 hb35
 have cl:=am hb5 (an (show w4.heap[w3.heap.size]?=some (.cells #[.slice al nl kl] 84) by rw [←hw4];exact heap_alloc_new ..))
 have cb5:=am hb25 (an X2.out)
 have cw:w5.cell? ⟨w3.heap.size+1,0,none⟩=some (.func (.func 52) #[] #[.pointer (some ⟨w3.heap.size,0,none⟩),.pointer (some ⟨w.heap.size,0,none⟩),.pointer (some ⟨w3.heap.size+1,0,none⟩)]):=an (t:=86) (by
  have h:=heap_alloc_new w4 (.cells #[.func (.func 52) #[] #[.pointer (some ⟨w3.heap.size,0,none⟩),.pointer (some ⟨w.heap.size,0,none⟩),.pointer (some ⟨w3.heap.size+1,0,none⟩)]] 86)
  rw [hs4,hw5] at h
  exact h)
 have hB5:=bt5 HB2.out hb25
 have hY5:Byt w5 gd (List.replicate n 0):=HY2.out.below hb25 HY2.out.lt
 have FW:=df w3.heap.size w.heap.size (w3.heap.size+1) gd b n (.slice al nl kl) hb hb2 HNB.out (by have:=HT.out.1;omega) (n+1) n 0 n (List.replicate n 0) _ X w5 (by omega) hY5 (by simp) (Nat.le_refl _) (by omega) (Nat.le_refl _) (HA.out.below hB5) hl HPL.out (HT.out.below hB5) cl cb5 cw (fun z e=>by cases e) (hP.below hb35)
 have HW5:=aa (show (w3.alloc (.cells #[.slice al nl kl] 84)).alloc (.cells #[.func (.func 52) #[] #[.pointer (some ⟨w3.heap.size,0,none⟩),.pointer (some ⟨w.heap.size,0,none⟩),.pointer (some ⟨w3.heap.size+1,0,none⟩)]] 86)=w5 by rw [hw4,hw5])
 have HB5:=aa hB5
 rw [←HW5.out] at cw
 clear C2 hb3 hb4 hb5 hb35 hb25 cl cb5 hw4 hw5 hs4 hB5 hY5 hP c2
 go_wp2_with fail
 rw [HW5.out]
 refine FW.mono ?_
 rintro e w6 ⟨rfl,D',hD',hW',hF'⟩
 have hDl:D'.length=n:=by rw [hW'.len];simp
 have HF:=aa (And.intro hD' (And.intro hW' (HB5.out.trans (hF'.below (Nat.le_of_lt hgdw) HB5.out.size))))
 clear FW hD' hW' hF' cw
 go_wp2
 go_ret
 refine⟨gd,D',by rw [hDl];rfl,Nat.le_of_lt hgdw,HF.out.1,by rw [hDl];exact HD.out,by omega,fun i hi=>?_,HF.out.2.2⟩
 rw [hDl] at hi ⊢
 have h:=HF.out.2.1.digs i (Nat.zero_le _) hi
 rw [Nat.zero_add] at h
 exact h
end Go.Proofs.YteehipcoeocojaaGreatDoor
namespace Go.Proofs.YteehipcoeocojaaGreatDoor
open Go.RowKit
open Lm
attribute [local go_sem ↓] Go.wp_at_zero Go.wp_at_succ

def IBk (w:World)(g:Nat)(L:List Nat):Prop:=w.heap[g]?=some (.cells (L.map iv5).toArray 3 (0,0))

theorem IBk.cell {w:World}{g:Nat}{L:List Nat}(h:IBk w g L)(k:Nat)(hk:k<L.length):w.cell? ⟨g,k,none⟩=some (.int .i64 ((L.getD k 0:Nat):Int)):=by
 have hh:w.heap[g]?=_:=h
 simp [World.cell?,hh,hk,iv5,List.getD]

theorem IBk.free {w:World}{g:Nat}{L:List Nat}(h:IBk w g L)(k:Nat):w.frozen? ⟨g,k,none⟩=false:=by
 have hh:w.heap[g]?=_:=h
 simp [World.frozen?,hh]

theorem IBk.set {w:World}{g:Nat}{L:List Nat}(h:IBk w g L)(k z:Nat):IBk (w.setCell ⟨g,k,none⟩ (.int .i64 (z:Int))) g (L.set k z):=by
 have hlt:g<w.heap.size:=lt_of_block h
 have h':w.heap[g]=.cells (L.map iv5).toArray 3 (0,0):=by simpa [Array.getElem?_eq_getElem hlt] using (show w.heap[g]?=_ from h)
 show (w.heap.modify g _)[g]?=_
 rw [Array.getElem?_eq_getElem (by simpa using hlt),Array.getElem_modify_self,h']
 simp [List.map_set,iv5]

theorem IBk.made {w:World}{base n g:Nat}(h:w.ownsRow base 3 1 (.slice (some ⟨g,0,none⟩) n n) n (madeCells (Value.int .i64 0).cells (n*1)).toList):IBk w g (List.replicate n 0):=by
 obtain⟨_,h2⟩:=h
 rcases h2 with ⟨h2,_⟩|⟨g',cap,cur,hv,_,hh,_,_,hs,ht⟩
 ·cases h2
 ·cases hv
  unfold IBk
  rw [hh,List.map_replicate]
  have e:cur.toList=List.replicate n (Value.int .i64 0):=by
   have:cur.toList.take (n*1)=cur.toList:=List.take_of_length_le (by simp;omega)
   rw [←this,ht]
   show (madeCells #[Value.int .i64 0] (n*1)).toList=_
   rw [toList_madeCells_one,Nat.mul_one]
  show _=some (Obj.cells (List.replicate n (Value.int .i64 0)).toArray _ _)
  rw [←e]

def jr (b x:Nat)(w:World)(e:Ending)(w':World):Prop:=
 (∃g n,e=.returned (.tuple #[.slice (some ⟨g,0,none⟩) n n,.int .i64 0])∧IBk w' g (digs b n x)∧w.heap.size≤g∧ax b x n∧n≤67108865)∧Below w.heap.size w w'

theorem kD (va:Value)(X:List Nat)(b:Nat)(w:World)(hA:Arg w va X)(hT:Tab w)(hl:X.length≤1048576)(hb:2≤b)(hb2:b≤36) :
  Calls Tryz.prog 13 #[va,.int .i64 b] w (jr b (val X) w):=by
 obtain⟨i0,hi,hz0,hz1,hz2⟩:=info_parts jM
 have HI:=cD b w hb hb2
 have HW:=dc va X b w hA hT hl hb hb2
 have hX:=hA.limbs
 clear hA hT
 go_enter Tryz.func13,Tryz.ntmps13
 go_wp2_with fail
 refine HI.mono ?_
 rintro e wn ⟨rfl,hw⟩;rw [hw];clear hw wn HI
 go_wp2_with fail
 refine HW.mono ?_
 rintro e w1 ⟨gd,D,rfl,hg,hd,hH,hm,hdig,hbe⟩
 obtain⟨n,hn⟩:∃n,D.length=n:=⟨_,rfl⟩
 have hDe:=dz hn hdig
 rw [hn] at hH hm
 obtain⟨hn9,_⟩:=dE hb hX hl rfl hH
 have HD:=aa hd
 have HDE:=aa hDe
 have HH:=aa hH
 have HBE:=aa hbe
 have HNL:=aa hn
 have hgd:gd<w1.heap.size:=hd.lt
 rw [hn]
 clear HW hd hH hbe hDe hdig hX hn
 go_wp2_with (at_make;refine wpList_make_full _ rfl _ _ 33 rfl w1.heap.size 3 i0 (.int .i64 0) 1 Tryz.underlying33 hi hz0 hz1 .i64 .i64 _ _ n rfl rfl (by omega) (by omega) (by rw [hz2];omega) (by unfold maxLen;omega) (Nat.le_refl _) ?_;intro w2 hown hgrow)
 have HI2:=aa (IBk.made hown)
 have HB2:=aa ((Below.refl w1.heap.size w1).grown hgrow (Nat.le_refl _) (fun k hk=>by cases hk))
 clear hown hgrow hi hz0 hz1 hz2
 go_loopw [21] (fun i wr=>∃(k:Nat) (L:List Nat),k≤n∧i=.int .i64 k∧IBk wr w1.heap.size L∧L.length=n∧(∀i,i<k→L.getD i 0=D.getD i 0)∧Below w1.heap.size w1 wr) (fun i _=>n - (intOf i).toNat)
 case atStart=>exact⟨0,_,Nat.zero_le _,rfl,HI2.out,by simp,fun i hi=>by omega,HB2.out⟩
 case round=>
  obtain⟨k,L,hk,rfl,hI,hL,hdg,hbel⟩:=hrel
  clear HI2 HB2
  by_cases hkn:k<n
  ·have hDk:=(HD.out.below (B:=w1.heap.size) hbel hgd)
   have hco:=hDk.cell k (by rw [HNL.out];exact hkn)
   have hd36:D.getD k 0<256:=by
    have e:D.getD k 0=(digs b n (val X)).getD k 0:=by rw [←HDE.out]
    rw [e,dp b n _ k hkn]
    exact Nat.lt_of_lt_of_le (Nat.mod_lt _ (by omega)) (by omega)
   have hfr:=hI.free k
   have hc2:=hI.cell k (by omega)
   obtain⟨z,hz⟩:∃z,D.getD k 0=z:=⟨_,rfl⟩
   rw [hz] at hco hd36
   have HS:=aa (hI.set k z)
   have HG:Hid (∀i,i<k+1→(L.set k z).getD i 0=D.getD i 0):=aa (by
    intro i hi
    by_cases e:i=k
    ·subst e
     rw [hz]
     simp [List.getD,show i<L.length by omega]
    ·have:=hdg i (by omega)
     simp only [List.getD,List.getElem?_set] at this ⊢
     rw [if_neg (fun h=>e h.symm)]
     exact this)
   have HB:=aa hbel
   generalize L.getD k 0=old at *
   clear hI hdg hbel hDk hz
   go_wp2
   go_roundw
   case rel=>exact⟨k+1,L.set k z,by omega,by go_num,HS.out,by simp [hL],HG.out,HB.out.setCell (Nat.le_refl _) _⟩
   case measure=>simp [intOf];omega
  ·obtain rfl:k=n:=by omega
   have hLD:L=digs b k (val X):=by
    rw [←HDE.out]
    apply List.ext_getElem?
    intro i
    rcases Nat.lt_or_ge i k with h|h
    ·have h1:=hdg i h
     have hDl:=HNL.out
     simp only [List.getD,List.getElem?_eq_getElem (show i<L.length by omega),List.getElem?_eq_getElem (show i<D.length by omega),Option.getD_some] at h1
     rw [List.getElem?_eq_getElem (by omega),List.getElem?_eq_getElem (by omega),h1]
    ·rw [List.getElem?_eq_none (by omega),List.getElem?_eq_none (by have:=HNL.out;omega)]
   have HF:=aa (And.intro (show IBk wr w1.heap.size (digs b k (val X)) by rw [←hLD];exact hI) (HBE.out.trans (hbel.mono HBE.out.size)))
   have HGE:=aa HBE.out.size
   clear hI hdg hbel hLD
   go_wp2
   go_ret2
   exact⟨⟨_,k,rfl,HF.out.1,HGE.out,HH.out,hn9⟩,HF.out.2⟩

def aH (k:Nat)(S:ByteArray):ByteArray:=⟨(List.replicate k 48 ++ S.data.toList).toArray⟩

theorem d5 (S:ByteArray):aH 0 S=S:=by
 apply ByteArray.ext
 simp [aH]

theorem e9 (k:Nat)(S:ByteArray):(aH k S).size=k+S.size:=by
 show (List.replicate k 48 ++ S.data.toList).toArray.size=_
 rw [List.size_toArray,List.length_append,List.length_replicate]
 rfl

theorem jW (k:Nat)(S:ByteArray):(ByteArray.mk #[48]) ++ aH k S=aH (k+1) S:=by
 apply ByteArray.ext
 apply Array.toList_inj.1
 rw [ByteArray.data_append,Array.toList_append]
 simp [aH,List.replicate_succ]

theorem jh (d:Nat):(sgn d).toNat=fig d:=by
 have h:=dr d
 unfold sgn
 rw [UInt8.toNat_ofNat']
 omega

theorem iO (k:Nat)(L:List Nat)(i:Nat)(h:i<k+L.length):byteN (aH k (aE (L.map fig))) i=if i<k then 48 else fig (L.getD (i - k) 0):=by
 have e:(aH k (aE (L.map fig))).data.toList=List.replicate k 48 ++ L.map sgn:=by
  show (List.replicate k 48 ++ (aE (L.map fig)).data.toList).toArray.toList=_
  rw [gi]
 unfold byteN
 rw [e]
 by_cases hi:i<k
 ·rw [if_pos hi]
  simp [List.getD,List.getElem?_append,hi]
 ·rw [if_neg hi]
  have h2:i - k<L.length:=by omega
  simp only [List.getD,List.getElem?_append,List.length_replicate,if_neg hi,List.getElem?_map,List.getElem?_eq_getElem h2,Option.map_some,Option.getD_some]
  exact jh _

theorem fO {d:Nat}(hd:d<36):idx (fig d)=(d:Int):=(kG (Nat.lt_trans (dr d) (by omega)) hd).1 rfl

theorem je (k:Nat)(L:List Nat)(i:Nat)(h:i<k+L.length)(hL:∀d ∈ L,d<36):dgS (aH k (aE (L.map fig))) i=(((List.replicate k 0 ++ L).getD i 0:Nat):Int):=by
 unfold dgS
 rw [iO k L i h]
 by_cases hi:i<k
 ·rw [if_pos hi]
  have e:(List.replicate k 0 ++ L).getD i 0=0:=by simp [List.getD,List.getElem?_append,hi]
  rw [e]
  exact fO (d:=0) (by omega)
 ·rw [if_neg hi]
  have h2:i - k<L.length:=by omega
  have e:(List.replicate k 0 ++ L).getD i 0=L.getD (i - k) 0:=by
   simp only [List.getD,List.getElem?_append,List.length_replicate,if_neg hi]
  rw [e]
  have h3:L.getD (i - k) 0<36:=by
   have e2:L.getD (i - k) 0=L[i - k]:=by simp [List.getD,h2]
   rw [e2]
   exact hL _ (List.getElem_mem h2)
  exact fO h3

theorem gz (b x n:Nat)(D:List Nat)(o:Nat)(hd:∀i,i<n→D.getD (o+i) 0=x / b ^ (n - 1 - i) % b):∀m,m≤n→dvr b D o m=x / b ^ (n - m) % b ^ m
 | 0,_=>by simp [dvr,Nat.mod_one]
 | m+1,h=>by
  rw [dvr,gz b x n D o hd m (by omega),hd m (by omega),show n - 1 - m=n - (m+1) by omega]
  have e:n - m=n - (m+1)+1:=by omega
  rw [e,Nat.pow_succ,←Nat.div_div_eq_div_mul]
  generalize x / b ^ (n - (m+1))=y
  rw [Nat.pow_succ,Nat.mul_comm (b ^ m) b,Nat.mod_mul,Nat.mul_comm (y / b % b ^ m) b]
  omega

theorem i7 {b x n k:Nat}(hx:x<b ^ n):dvr b (List.replicate k 0 ++ digs b n x) 0 (k+n)=x:=by
 have hz:∀i,i<k→(List.replicate k 0 ++ digs b n x).getD i 0=0:=fun i hi=>by simp [List.getD,List.getElem?_append,hi]
 have hd:∀i,i<n→(List.replicate k 0 ++ digs b n x).getD (k+i) 0=x / b ^ (n - 1 - i) % b:=fun i hi=>by
  rw [←dp b n x i hi]
  simp only [List.getD,List.getElem?_append,List.length_replicate,if_neg (show ¬k+i<k by omega),Nat.add_sub_cancel_left]
 have h:=bF b (List.replicate k 0 ++ digs b n x) 0 k n
 rw [cF b _ k hz,Nat.zero_mul,Nat.zero_add,Nat.zero_add,gz b x n _ k hd n (Nat.le_refl _),Nat.sub_self,Nat.pow_zero,Nat.div_one,Nat.mod_eq_of_lt hx] at h
 exact h

def dP (x:Nat)(w:World)(e:Ending)(w':World):Prop:=
 (∃v rs,e=.returned (.tuple #[v,.int .i64 0])∧Ans w' w.heap.size v rs∧val rs=x∧tr rs=rs∧rs.length≤1048576)∧Below w.heap.size w w'

theorem gB {b n k x:Nat}{dg:Nat→Int}{w w':World}{e:Ending}(hx:x<b ^ n)(hbl:blen x≤67108864)(hb:2≤b)(hdg:∀i,i<k+n→dg i=(((List.replicate k 0 ++ digs b n x).getD i 0:Nat):Int))(h:bH b (k+n) dg w e w'):dP x w e w':=by
 obtain⟨h1,h2⟩:=h
 refine⟨?_,h1⟩
 have hlt:∀i,i<k+n→(List.replicate k 0 ++ digs b n x).getD i 0<b:=fun i hi=>by
  by_cases hik:i<k
  ·have e:(List.replicate k 0 ++ digs b n x).getD i 0=0:=by simp [List.getD,List.getElem?_append,hik]
   omega
  ·have h3:i - k<(digs b n x).length:=by rw [aP];omega
   have e:(List.replicate k 0 ++ digs b n x).getD i 0=(digs b n x)[i - k]:=by
    simp only [List.getD,List.getElem?_append,List.length_replicate,if_neg hik,List.getElem?_eq_getElem h3,Option.getD_some]
   rw [e]
   exact dn b n x (by omega) _ (List.getElem_mem h3)
 rcases h2 with ⟨i,hi,hbad,_⟩|⟨D,hl,hd,v,c,rs,he,hA,hc⟩
 ·have:=hdg i hi;have:=hlt i hi;omega
 ·have hxx:dvr b D 0 (k+n)=x:=by
   rw [←i7 (k:=k) hx]
   exact fm fun i hi=>by have:=(hd i hi).1;have:=hdg i hi;omega
  rw [hxx] at hc
  have hf:=Res.few hA hc
  rcases hc with ⟨rfl,hv,ht,_⟩|⟨_,_,hbig⟩
  ·exact⟨v,rs,he,hA,hv,ht,hf⟩
  ·omega

theorem gc (k n x b:Nat)(w:World)(hT:Tab w)(hb:2≤b)(hb2:b≤36)(h:ax b x n)(hbl:blen x≤67108864)(hn:n≤67108865)(hk:k≤100) :
  Calls Tryz.prog 19 #[.string (aH k (aE ((digs b n x).map fig))),.int .i64 b] w (dP x w):=by
 have hs:(aH k (aE ((digs b n x).map fig))).size=k+n:=by rw [e9,fv,aP]
 have h1:=h.1
 have C:=jV (aH k (aE ((digs b n x).map fig))) b w hT hb hb2 (by omega) (by omega)
 rw [hs] at C
 exact C.mono fun e w' hD=>gB h.2.1 hbl hb (fun i hi=>je k _ i (by rw [aP];exact hi) (fun d hd=>Nat.lt_of_lt_of_le (dn b n x (by omega) d hd) hb2)) hD

theorem IBk.rz {w:World}{g:Nat}{L:List Nat}(h:IBk w g L)(hl:L.length≤67108865)(hs:∀d ∈ L,d<36):IRz w (.slice (some ⟨g,0,none⟩) L.length L.length) (L.map Int.ofNat):=by
 have hg:∀i,(L.map Int.ofNat).getD i 0=((L.getD i 0:Nat):Int):=fun i=>by
  rcases Nat.lt_or_ge i L.length with hi|hi
  ·simp [List.getD,hi]
  ·simp [List.getD,Nat.not_lt.2 hi]
 have hd:∀i,L.getD i 0<36:=fun i=>by
  rcases Nat.lt_or_ge i L.length with hi|hi
  ·have e:L.getD i 0=L[i]:=by simp [List.getD,hi]
   rw [e]
   exact hs _ (List.getElem_mem hi)
  ·have e:L.getD i 0=0:=by simp [List.getD,Nat.not_lt.2 hi]
   omega
 refine⟨_,L.length,by rw [List.length_map],by rw [List.length_map];exact Nat.le_refl _,by omega,fun i=>?_,.inr ⟨g,0,rfl,lt_of_block h,fun i hi=>?_⟩⟩
 ·rw [hg]
  have:=hd i
  omega
 ·rw [List.length_map] at hi
  rw [hg,Nat.zero_add]
  exact h.cell i hi

theorem jX (g n x b:Nat)(w:World)(hT:Tab w)(hI:IBk w g (digs b n x))(hb:2≤b)(hb2:b≤36)(h:ax b x n)(hbl:blen x≤67108864)(hn:n≤67108865) :
  Calls Tryz.prog 23 #[.int .i64 b,.slice (some ⟨g,0,none⟩) n n] w (dP x w):=by
 have hR:=hI.rz (by rw [aP];exact hn) (fun d hd=>Nat.lt_of_lt_of_le (dn b n x (by omega) d hd) hb2)
 have hl:((digs b n x).map Int.ofNat).length=n:=by rw [List.length_map,aP]
 have C:=mC _ _ b w hT hR hb hb2 (by rw [hl];omega)
 rw [hl,aP] at C
 refine C.mono fun e w' hD=>gB (k:=0) h.2.1 hbl hb (fun i hi=>?_) (by rw [Nat.zero_add];exact hD)
 rw [Nat.zero_add] at hi
 have h2:i<(digs b n x).length:=by rw [aP];exact hi
 simp [List.getD,h2]

theorem gg (w:World)(z:Nat)(hz:z<18446744073709551616):Arg (w.alloc (.cells #[.int .u64 (z:Int)] 63)) (.slice (some ⟨w.heap.size,0,none⟩) 1 1) [z]:=by
 have hb:Blk (w.alloc (.cells #[.int .u64 (z:Int)] 63)) w.heap.size [z]:=by
  unfold Blk
  rw [heap_alloc_new]
  rfl
 exact⟨⟨_,_,rfl,Nat.le_refl _,by simp,.inr ⟨_,0,rfl,fun k hk=>by rw [Nat.zero_add];exact hb.cell k hk⟩⟩,by intro y hy;simp at hy;omega,by simp,fun n c e=>by cases e⟩

theorem ib (w:World)(hT:Tab w):Calls Tryz.prog 18 #[] w fun e w'=>e=.returned (.bool true)∧Below w.heap.size w w':=by
 obtain⟨w0,hw0⟩:∃w0,w.alloc (.cells #[.int .u64 255] 63)=w0:=⟨_,rfl⟩
 have hb0:Below w.heap.size w w0:=by rw [←hw0];exact ab _ _
 have hA:Arg w0 (.slice (some ⟨w.heap.size,0,none⟩) 1 1) [255]:=by
  rw [←hw0]
  exact gg w 255 (by omega)
 have FP:=mt _ [255] w0 hA (hT.below hb0) (by decide) rfl
 have HW0:=aa hw0
 have HB0:=aa hb0
 have HT:=aa hT
 clear hT hw0 hb0 hA
 go_enter Tryz.func18,Tryz.ntmps18
 go_wp2_with fail
 rw [HW0.out]
 refine FP.mono ?_
 rintro e w1 ⟨rfl,hb1⟩
 have HB1:=bj HB0 hb1
 have FR:=kV w1 (HT.out.below HB1.out)
 clear FP hb1
 go_wp2_with fail
 refine FR.mono ?_
 rintro e w2 ⟨⟨v,rfl,hA⟩,hb2⟩
 have HB2:=bj HB1 hb2
 obtain⟨ao,n,cap,rfl⟩:=hA.slice
 have hn:n=1:=by
  rcases hA.form with ⟨_,e⟩|⟨g,c,e,_⟩
  ·cases e
  ·injection e
 subst hn
 obtain⟨w3,hw3⟩:∃w3,w2.alloc (.cells #[.int .u64 255] 63)=w3:=⟨_,rfl⟩
 have hb3:Below w2.heap.size w2 w3:=by rw [←hw3];exact ab _ _
 have hA3:Arg w3 (.slice (some ⟨w2.heap.size,0,none⟩) 1 1) [255]:=by
  rw [←hw3]
  exact gg w2 255 (by omega)
 have FC:=bY _ _ [255] [255] w3 ((hA.below hb3).arg (by simp)) hA3
 rw [cmpN_self] at FC
 have HB3:=bj HB2 hb3
 have HW3:=aa hw3
 clear FR hA hb2 hb3 hw3 hA3
 go_wp2_with fail
 rw [HW3.out]
 refine FC.mono ?_
 rintro e w4 ⟨rfl,hsm⟩
 have HB4:=bj HB3 (hsm.below w3.heap.size)
 clear FC hsm
 go_wp2
 go_ret
 exact⟨rfl,HB4.out⟩
end Go.Proofs.YteehipcoeocojaaGreatDoor

