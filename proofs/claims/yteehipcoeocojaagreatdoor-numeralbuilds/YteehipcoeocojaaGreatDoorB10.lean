/- The walk of the law NumeralBuilds. -/
import Derived.Test.YteehipcoeocojaaGreatDoorB09
import Derived.Test.YteehipcoeocojaaGreatDoorB02
set_option maxRecDepth 20000
set_option maxHeartbeats 4000000
namespace Go.Proofs.YteehipcoeocojaaGreatDoor
open Go.RowKit
open Lm
attribute [local go_sem ↓] Go.wp_at_zero Go.wp_at_succ

theorem dk (v1 v2:Value)(L:List Int)(w:World)(h1:IRz w v1 L)(h2:IRz w v2 L) :
  Calls Tryz.prog 16 #[v1,v2] w fun e w'=>e=.returned (.bool true)∧Below w.heap.size w w':=by
 obtain⟨a1,c1,rfl,q1,q2,_,r1⟩:=h1
 obtain⟨a2,c2,rfl,q3,q4,_,r2⟩:=h2
 have R1:=aa r1
 have R2:=aa r2
 clear r1 r2
 go_enter Tryz.func16,Tryz.ntmps16
 go_wp2
 go_loopw [5] (fun i wr=>∃k:Nat,k≤L.length∧i=.int .i64 k∧Below w.heap.size w wr) (fun i _=>L.length - (intOf i).toNat)
 case atStart=>exact⟨0,Nat.zero_le _,rfl,Below.refl _ _⟩
 case round=>
  obtain⟨k,hk,rfl,hbr⟩:=hrel
  by_cases hkl:k<L.length
  ·rcases R1.out with h|⟨g1,o1,rfl,hg1,hc1⟩
   ·rw [h] at hkl;simp at hkl
   ·rcases R2.out with h|⟨g2,o2,rfl,hg2,hc2⟩
    ·rw [h] at hkl;simp at hkl
    ·have d1:=hc1 k hkl
     have d2:=hc2 k hkl
     rw [←hbr.cell (p:=⟨g1,o1+k,none⟩) hg1] at d1
     rw [←hbr.cell (p:=⟨g2,o2+k,none⟩) hg2] at d2
     generalize L.getD k 0=z at *
     have hki:(k:Int)<(L.length:Int):=by omega
     have hk0:(0:Int)≤(k:Int):=by omega
     have HB:=aa hbr
     clear hc1 hc2 hbr
     go_wp2
     go_quiet (fail)
     go_wp2
     go_roundw
     case rel=>exact⟨k+1,by omega,by go_num,HB.out.trans ((((ai.refl _).drewN _).below _).mono HB.out.size)⟩
     case measure=>simp [intOf];omega
  ·have hki:¬((k:Int)<(L.length:Int)):=by omega
   have HB:=aa hbr
   clear hbr
   go_wp2
   go_ret
   exact⟨rfl,HB.out⟩

theorem jk (w:World):(w.alloc (.cells #[] 3)).ownsRow w.heap.size 3 1 (.slice (some ⟨w.heap.size,0,none⟩) 0 0) 0 []:=
 ⟨rfl,.inr ⟨w.heap.size,0,#[],rfl,Nat.le_refl _,heap_alloc_new _ _,Nat.le_refl _,Nat.zero_le _,rfl,rfl⟩⟩

theorem fO (L:List Int):∀u ∈ L.map iz5,u.oneCell'=true:=by
 intro u hu
 obtain⟨z,_,rfl⟩:=List.mem_map.1 hu
 rfl

theorem cj (a:Option Addr)(c:Nat)(L:List Int)(k code cr:Int)(X Y:Nat)(w:World)(hT:Tab w)(hv:IRz w (.slice a L.length c) L)(hz:a=none→c=0)(hn:L.length≤17592186043904)
  (HP:∀W vg,Below w.heap.size w W→IRz W vg L→Calls Tryz.prog 23 #[.int .i64 k,vg] W fun e w'=>(∃va rs,e=.returned (.tuple #[va,.int .i64 code])∧Ans w' W.heap.size va rs∧rs.length≤1048576∧val rs=Y∧tr rs=rs)∧Below W.heap.size W w')
  (HR:∀W,Below w.heap.size w W→Calls Tryz.prog 24 #[.int .i64 k,.slice a L.length c] W fun e w'=>(∃vx,e=.returned (.tuple #[vx,.int .i64 cr])∧Num w' vx X)∧Below W.heap.size W w')
  (HS:∀(W:World) (va vx:Value) (rs:List Nat) (base:Nat),Ans W base va rs→rs.length≤1048576→val rs=Y→tr rs=rs→Num W vx X→Calls Tryz.prog 21 #[va,.int .i64 code,vx,.int .i64 cr] W fun e w'=>e=.returned (.bool true)∧Below W.heap.size W w') :
  Calls Tryz.prog 5 #[.int .i64 k,.slice a L.length c] w fun e w'=>e=.returned (.bool true)∧Below w.heap.size w w':=by
 obtain⟨i0,hi,hz0,hz1,hz2⟩:=info_parts jM
 have hLr:∀i,-9223372036854775808≤L.getD i 0∧L.getD i 0≤9223372036854775807:=by obtain⟨_,_,_,_,_,h,_⟩:=hv;exact h
 have HV:=aa hv
 have HHP:=aa HP
 have HHR:=aa HR
 have HHS:=aa HS
 have HT:=aa hT
 have HLR:=aa hLr
 have HO:=aa (jk w)
 have HB0:=aa (ac w (.cells #[] 3))
 clear hT HP HR HS hv hLr
 cases a with
 | none=>
  obtain rfl:=hz rfl
  have h0:L=[]:=by
   obtain⟨a',c',h1,_,_,_,h2⟩:=HV.out
   cases h1
   rcases h2 with h2|⟨_,_,h3,_⟩
   ·exact h2
   ·cases h3
  subst h0
  show Calls Tryz.prog 5 #[.int .i64 k,.slice none 0 0] w fun e w'=>e=.returned (.bool true)∧Below w.heap.size w w'
  obtain⟨L,hL⟩:∃L:List Int,[]=L:=⟨_,rfl⟩
  rw [hL] at HV HHP
  replace HHR:Hid (∀W,Below w.heap.size w W→Calls Tryz.prog 24 #[.int .i64 k,.slice none 0 0] W fun e w'=>(∃vx,e=.returned (.tuple #[vx,.int .i64 cr])∧Num w' vx X)∧Below W.heap.size W w'):=HHR
  replace HV:Hid (IRz w (.slice none 0 0) L):=by rw [←hL] at HV ⊢;exact HV
  have HG:Hid (IRz (w.alloc (.cells #[] 3)) (.slice (some ⟨w.heap.size,0,none⟩) 0 0) L):=aa (by
   have h:=IRz.own (L:=[]) HO.out (fun i=>by simp [List.getD])
   rw [hL] at h
   exact h)
  obtain⟨W1,hW1⟩:∃W1,w.alloc (.cells #[] 3)=W1:=⟨_,rfl⟩
  have HB:Hid (Below w.heap.size w W1):=aa (by rw [←hW1];exact HB0.out)
  rw [hW1] at HG
  have HW1:=aa hW1
  obtain⟨vg,hvg⟩:∃vg,Value.slice (some ⟨w.heap.size,0,none⟩) 0 0=vg:=⟨_,rfl⟩
  rw [hvg] at HG
  have HVG:=aa hvg
  clear hW1 hvg hL
  go_enter Tryz.func5,Tryz.ntmps5
  go_wp2_with (at_builtin;refine wpList_append_own_none rfl _ _ 33 rfl w.heap.size 3 i0 1 Tryz.underlying33 hi (.slice (some ⟨w.heap.size,0,none⟩) 0 0) 0 [] rfl HO.out rfl ?_)
  rw [HW1.out,HVG.out]
  clear HO HB0 hi hz0 hz1 hz2
  have C:=HHP.out W1 vg HB.out HG.out
  go_wp2_with fail
  refine C.mono ?_
  rintro e w2 ⟨⟨va,rs,rfl,hA,hl,hv,ht⟩,hb2⟩
  have HA:=aa hA
  have HVT:=aa (And.intro hv (And.intro ht hl))
  have hsz1:W1.heap.size≤w2.heap.size:=hb2.size
  have hsz0:w.heap.size≤W1.heap.size:=HB.out.size
  replace HB:=aa (bt5 HB.out hb2)
  replace HG:=aa (HG.out.below hb2)
  obtain⟨a2,n2,c2,rfl⟩:=hA.slice
  have C:=HHR.out w2 HB.out
  clear hA hl hv ht hb2
  go_wp2_with fail
  refine C.mono ?_
  rintro e w3 ⟨⟨vx,rfl,hN⟩,hb3⟩
  replace HB:=aa (bt5 HB.out hb3)
  replace HG:=aa (HG.out.below hb3)
  replace HA:=aa (HA.out.below hb3)
  have C:=HHS.out w3 _ vx rs W1.heap.size HA.out HVT.out.2.2 HVT.out.1 HVT.out.2.1 hN
  have hsz2:W1.heap.size≤w3.heap.size:=Nat.le_trans hsz1 hb3.size
  clear hN hb3
  go_wp2_with fail
  refine C.mono ?_
  rintro e w4 ⟨rfl,hb4⟩
  replace HB:=aa (bt5 HB.out hb4)
  replace HG:=aa (HG.out.below hb4)
  replace HA:=aa (HA.out.below hb4)
  have C:=dk _ _ L w4 HG.out (HV.out.below HB.out)
  have hsz3:W1.heap.size≤w4.heap.size:=Nat.le_trans hsz2 hb4.size
  clear hb4
  go_wp2_with fail
  refine C.mono ?_
  rintro e w5 ⟨rfl,hb5⟩
  replace HB:=aa (bt5 HB.out hb5)
  replace HA:=aa (HA.out.below hb5)
  have hsz4:W1.heap.size≤w5.heap.size:=Nat.le_trans hsz3 hb5.size
  have C:=dh W1.heap.size [.slice a2 n2 c2] [rs] w5 (ar.one HA.out hsz4) (by simp) (by have:=HVT.out.2.2;simp;omega) hsz4
  clear hb5
  go_wp2_with fail
  refine C.mono ?_
  rintro e w6 ⟨rfl,hb6⟩
  replace HB:Hid (Below w.heap.size w w6):=aa (HB.out.trans (hb6.mono hsz0))
  have C:=dc w6 (HT.out.below HB.out)
  clear hb6 HA HG
  go_wp2_with fail
  refine C.mono ?_
  rintro e w7 ⟨rfl,hb7⟩
  replace HB:=aa (bt5 HB.out hb7)
  clear C hb7
  go_wp2
  go_ret
  exact⟨rfl,HB.out⟩
 | some ad=>
  have hnews:∀j u,(L.map iz5)[j]?=some u→(w.alloc (.cells #[] 3)).cell? (ad.add j)=some u:=by
   intro j u hj
   obtain⟨a',c',h1,_,_,_,h2⟩:=HV.out.below HB0.out
   cases h1
   rcases h2 with h2|⟨g,off,h3,_,hc⟩
   ·rw [h2] at hj;simp at hj
   ·cases h3
    rw [List.getElem?_map] at hj
    obtain⟨z,hz,rfl⟩:=Option.map_eq_some_iff.1 hj
    have hjl:j<L.length:=(List.getElem?_eq_some_iff.1 hz).1
    have:=hc j hjl
    simp only [List.getD,hz,Option.getD_some] at this
    rw [iM]
    exact this
  have hws:w.heap.size≤(w.alloc (.cells #[] 3)).heap.size:=HB0.out.size
  go_enter Tryz.func5,Tryz.ntmps5
  go_wp2_with (at_builtin;refine wpList_append_own _ rfl _ _ 33 rfl w.heap.size 3 i0 (.int .i64 0) 1 8 Tryz.underlying33 hi hz0 hz1 hz2 rfl (by decide) (.slice (some ⟨w.heap.size,0,none⟩) 0 0) 0 [] rfl HO.out ad L.length c (L.map iz5) rfl (by simp) hnews (fO L) (by unfold maxLen;omega) (by omega) hws ?_;intro vg W1 hown hgrow _)
  rw [Nat.zero_add,List.nil_append] at hown
  have HB:Hid (Below w.heap.size w W1):=aa (HB0.out.grown hgrow hws (fun g hg=>by simp [Value.ownBlock] at hg;omega))
  have HG:=aa (IRz.own hown HLR.out)
  clear hown hgrow hnews HO hi hz0 hz1 hz2 hws
  have C:=HHP.out W1 vg HB.out HG.out
  go_wp2_with fail
  refine C.mono ?_
  rintro e w2 ⟨⟨va,rs,rfl,hA,hl,hv,ht⟩,hb2⟩
  have HA:=aa hA
  have HVT:=aa (And.intro hv (And.intro ht hl))
  have hsz1:W1.heap.size≤w2.heap.size:=hb2.size
  have hsz0:w.heap.size≤W1.heap.size:=HB.out.size
  replace HB:=aa (bt5 HB.out hb2)
  replace HG:=aa (HG.out.below hb2)
  obtain⟨a2,n2,c2,rfl⟩:=hA.slice
  have C:=HHR.out w2 HB.out
  clear hA hl hv ht hb2
  go_wp2_with fail
  refine C.mono ?_
  rintro e w3 ⟨⟨vx,rfl,hN⟩,hb3⟩
  replace HB:=aa (bt5 HB.out hb3)
  replace HG:=aa (HG.out.below hb3)
  replace HA:=aa (HA.out.below hb3)
  have C:=HHS.out w3 _ vx rs W1.heap.size HA.out HVT.out.2.2 HVT.out.1 HVT.out.2.1 hN
  have hsz2:W1.heap.size≤w3.heap.size:=Nat.le_trans hsz1 hb3.size
  clear hN hb3
  go_wp2_with fail
  refine C.mono ?_
  rintro e w4 ⟨rfl,hb4⟩
  replace HB:=aa (bt5 HB.out hb4)
  replace HG:=aa (HG.out.below hb4)
  replace HA:=aa (HA.out.below hb4)
  have C:=dk _ _ L w4 HG.out (HV.out.below HB.out)
  have hsz3:W1.heap.size≤w4.heap.size:=Nat.le_trans hsz2 hb4.size
  clear hb4
  go_wp2_with fail
  refine C.mono ?_
  rintro e w5 ⟨rfl,hb5⟩
  replace HB:=aa (bt5 HB.out hb5)
  replace HA:=aa (HA.out.below hb5)
  have hsz4:W1.heap.size≤w5.heap.size:=Nat.le_trans hsz3 hb5.size
  have C:=dh W1.heap.size [.slice a2 n2 c2] [rs] w5 (ar.one HA.out hsz4) (by simp) (by have:=HVT.out.2.2;simp;omega) hsz4
  clear hb5
  go_wp2_with fail
  refine C.mono ?_
  rintro e w6 ⟨rfl,hb6⟩
  replace HB:Hid (Below w.heap.size w w6):=aa (HB.out.trans (hb6.mono hsz0))
  have C:=dc w6 (HT.out.below HB.out)
  clear hb6 HA HG
  go_wp2_with fail
  refine C.mono ?_
  rintro e w7 ⟨rfl,hb7⟩
  replace HB:=aa (bt5 HB.out hb7)
  clear C hb7
  go_wp2
  go_ret
  exact⟨rfl,HB.out⟩

theorem gh (a:Option Addr)(c:Nat)(code:Int)(v:Value)(w:World)(h:code=50∨code=51):Calls Tryz.prog 21 #[.slice a 0 c,.int .i64 code,v,.int .i64 code] w fun e w'=>e=.returned (.bool true)∧Below w.heap.size w w':=by
 rcases h with rfl|rfl
 ·go_enter Tryz.func21,Tryz.ntmps21
  go_wp2
  go_ret
  exact⟨rfl,Below.refl _ _⟩
 ·go_enter Tryz.func21,Tryz.ntmps21
  go_wp2
  go_ret
  exact⟨rfl,Below.refl _ _⟩

theorem eO {rs:List Nat}(hv:val rs=0)(ht:tr rs=rs):rs=[]:=by
 rcases cK ht with h0|h0
 ·exact h0
 ·have:=Nat.pow_pos (n:=rs.length - 1) (show 0<18446744073709551616 by omega)
  omega

theorem f0 (a:Option Addr)(c:Nat)(v:Value)(x:Nat)(w:World)(hN:Num w v x)(hbig:67108864<blen x):Calls Tryz.prog 21 #[.slice a 0 c,.int .i64 3,v,.int .i64 0] w fun e w'=>e=.returned (.bool true)∧Below w.heap.size w w':=by
 have C1:=eY v x w hN
 obtain⟨l,hl⟩:∃l,blen x=l:=⟨_,rfl⟩
 rw [hl] at C1 hbig
 have hl2:(67108864:Int)<(l:Int):=by omega
 have hl3:decide ((67108864:Int)<(l:Int))=true:=decide_eq_true hl2
 clear hN hl
 go_enter Tryz.func21,Tryz.ntmps21
 go_wp2_with fail
 refine C1.mono ?_
 rintro e wn ⟨rfl,hw⟩;rw [hw];clear hw wn C1
 go_wp2
 go_ret
 exact⟨rfl,Below.refl _ _⟩

theorem dw {code:Int}(h:code=50∨code=51)(W:World)(va vx:Value)(rs:List Nat)(base:Nat)(hA:Ans W base va rs)(hl:rs.length≤1048576)(hv:val rs=0)(ht:tr rs=rs):Calls Tryz.prog 21 #[va,.int .i64 code,vx,.int .i64 code] W fun e w'=>e=.returned (.bool true)∧Below W.heap.size W w':=by
 obtain rfl:=eO hv ht
 obtain⟨a,c,rfl,_⟩:=(hA.arg (by simp)).form
 exact gh a c code vx W h

theorem fM (k:Int)(v:Value)(L:List Int)(w:World)(hT:Tab w)(_:-9223372036854775808≤k)(_:k≤9223372036854775807)(hv:IRz w v L)(hz:∀n c,v=.slice none n c→c=0)(hn:L.length≤17592186043904) :
  Calls Tryz.prog 5 #[.int .i64 k,v] w fun e w'=>e=.returned (.bool true)∧Below w.heap.size w w':=by
 obtain⟨a,c,rfl,_⟩:=id hv
 have hz':a=none→c=0:=fun h=>hz _ c (by rw [h])
 by_cases h:k<2∨36<k
 ·refine cj a c L k 50 50 0 0 w hT hv hz' hn (fun W vg _ hg=>?_) (fun W _=>(f6 _ k W h).mono fun e w' ⟨h1,h2⟩=>⟨⟨_,h1,Num.nil _⟩,by rw [h2];exact Below.refl _ _⟩) (fun W va vx rs base h1 h2 h3 h4 _=>dw (.inl rfl) W va vx rs base h1 h2 h3 h4)
  obtain⟨a',c',rfl,_⟩:=hg
  exact (iz a' _ c' k W h).mono fun e w' ⟨h1,h2⟩=>⟨⟨_,[],h1,Ans.nil _ _,by simp,rfl,rfl⟩,h2⟩
 ·obtain⟨b,rfl⟩:∃b:Nat,k=(b:Int):=⟨k.toNat,by omega⟩
  have hb:2≤b:=by omega
  have hb2:b≤36:=by omega
  by_cases hbad:∃i,i<L.length∧(L.getD i 0<0∨(b:Int)≤L.getD i 0)
  ·obtain⟨j,hj,hj2⟩:=hbad
   refine cj a c L b 51 51 0 0 w hT hv hz' hn (fun W vg hW hg=>(cS vg L b W (hT.below hW) hg hb hb2 (by omega)).mono fun e w' ⟨h1,h2⟩=>⟨?_,h1⟩) (fun W hW=>(cF _ L b W (hv.below hW) hb hb2 (by omega)).mono fun e w' ⟨h1,h2⟩=>⟨?_,h1⟩) (fun W va vx rs base h1 h2 h3 h4 _=>dw (.inr rfl) W va vx rs base h1 h2 h3 h4)
   ·rcases h2 with ⟨_,_,_,he⟩|⟨D,hl,hd,_⟩
    ·exact⟨_,[],he,Ans.nil _ _,by simp,rfl,rfl⟩
    ·have h3:((D.getD j 0:Nat):Int)=L.getD j 0∧D.getD j 0<b:=hd j hj
     omega
   ·rcases h2 with ⟨_,_,_,he⟩|⟨D,v,hl,hd,_⟩
    ·exact⟨_,he,Num.nil _⟩
    ·have:=hd j hj;omega
  ·have hok:∀i,i<L.length→0≤L.getD i 0∧L.getD i 0<(b:Int):=fun i hi=>by
    rcases Int.lt_or_le (L.getD i 0) 0 with h1|h1
    ·exact absurd ⟨i,hi,.inl h1⟩ hbad
    ·rcases Int.lt_or_le (L.getD i 0) b with h2|h2
     ·exact⟨h1,h2⟩
     ·exact absurd ⟨i,hi,.inr h2⟩ hbad
   obtain⟨E,hE⟩:∃E:List Nat,∀i,i<L.length→((E.getD i 0:Nat):Int)=L.getD i 0:=⟨L.map Int.toNat,fun i hi=>by
    have h:=hok i hi
    have e:(L.map Int.toNat).getD i 0=(L.getD i 0).toNat:=by simp [List.getD,hi]
    rw [e]
    omega⟩
   obtain⟨X,hX⟩:∃X,dvr b E 0 L.length=X:=⟨_,rfl⟩
   have hDX:∀D:List Nat,(∀i,i<L.length→((D.getD i 0:Nat):Int)=L.getD i 0∧D.getD i 0<b)→dvr b D 0 L.length=X:=fun D hd=>by
    rw [←hX]
    exact dR fun i hi=>by have:=(hd i hi).1;have:=hE i hi;omega
   by_cases hbl:blen X≤67108864
   ·refine cj a c L b 0 0 X X w hT hv hz' hn (fun W vg hW hg=>(cS vg L b W (hT.below hW) hg hb hb2 (by omega)).mono fun e w' ⟨h1,h2⟩=>⟨?_,h1⟩) (fun W hW=>(cF _ L b W (hv.below hW) hb hb2 (by omega)).mono fun e w' ⟨h1,h2⟩=>⟨?_,h1⟩) (fun W va vx rs base h1 h2 h3 h4 h5=>gm va vx rs X W (h1.arg (by omega)) h5 h3 h4 hbl)
    ·rcases h2 with ⟨i,hi,hbd,_⟩|⟨D,hl,hd,va,c,rs,he,hA,hc⟩
     ·have h3:L.getD i 0<0∨(b:Int)≤L.getD i 0:=hbd
      have:=hok i hi;omega
     ·rw [hDX D hd] at hc
      have hf:=Res.few hA hc
      rcases hc with ⟨rfl,hv,ht,_⟩|⟨_,_,hbig⟩
      ·exact⟨va,rs,he,hA,hf,hv,ht⟩
      ·omega
    ·rcases h2 with ⟨i,hi,hbd,_⟩|⟨D,v,hl,hd,he,hN⟩
     ·have:=hok i hi;omega
     ·rw [hDX D hd] at hN
      exact⟨v,he,hN⟩
   ·refine cj a c L b 3 0 X 0 w hT hv hz' hn (fun W vg hW hg=>(cS vg L b W (hT.below hW) hg hb hb2 (by omega)).mono fun e w' ⟨h1,h2⟩=>⟨?_,h1⟩) (fun W hW=>(cF _ L b W (hv.below hW) hb hb2 (by omega)).mono fun e w' ⟨h1,h2⟩=>⟨?_,h1⟩) (fun W va vx rs base h1 h2 h3 h4 h5=>?_)
    ·rcases h2 with ⟨i,hi,hbd,_⟩|⟨D,hl,hd,va,c,rs,he,hA,hc⟩
     ·have h3:L.getD i 0<0∨(b:Int)≤L.getD i 0:=hbd
      have:=hok i hi;omega
     ·rw [hDX D hd] at hc
      rcases hc with ⟨_,_,_,hle⟩|⟨rfl,rfl,_⟩
      ·omega
      ·exact⟨va,[],he,hA,by simp,rfl,rfl⟩
    ·rcases h2 with ⟨i,hi,hbd,_⟩|⟨D,v,hl,hd,he,hN⟩
     ·have:=hok i hi;omega
     ·rw [hDX D hd] at hN
      exact⟨v,he,hN⟩
    ·obtain rfl:=eO h3 h4
     obtain⟨a,c,rfl,_⟩:=(h1.arg (by simp)).form
     exact f0 a c vx X W h5 (by omega)

end Go.Proofs.YteehipcoeocojaaGreatDoor
