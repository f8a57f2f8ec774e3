/- Package numeral: Digits; the laws' ints. -/
import Derived.Test.YteehipcoeocojaaGreatDoorB10
import Derived.Test.YteehipcoeocojaaGreatDoorB11
import Derived.Deep.QuietTactic
import Derived.BigQuiet
set_option maxRecDepth 20000
set_option maxHeartbeats 4000000
namespace Go.Proofs.YteehipcoeocojaaGreatDoor
open Go.RowKit
open Lm
attribute [local go_sem ↓] Go.wp_at_zero Go.wp_at_succ

def IBk (w:World)(g:Nat)(L:List Nat):Prop:=w.heap[g]?=some (.cells (L.map iv5).toArray 3 (0,0))

theorem IBk.cell {w:World}{g:Nat}{L:List Nat}(h:IBk w g L)(k:Nat)(hk:k<L.length):w.cell? ⟨g,k,none⟩=some (.int .i64 ((L.getD k 0:Nat):Int)):=by
 have hh:w.heap[g]?=_:=h
 simp [World.cell?,hh,hk,iv5,List.getD]

theorem IBk.free {w:World}{g:Nat}{L:List Nat}(h:IBk w g L)(k:Nat):w.frozen? ⟨g,k,none⟩=false:=by
 have hh:w.heap[g]?=_:=h
 simp [World.frozen?,hh]

theorem IBk.set {w:World}{g:Nat}{L:List Nat}(h:IBk w g L)(k z:Nat):IBk (w.setCell ⟨g,k,none⟩ (.int .i64 (z:Int))) g (L.set k z):=by
 have hlt:g<w.heap.size:=lt_of_block h
 have h':w.heap[g]=.cells (L.map iv5).toArray 3 (0,0):=by simpa [Array.getElem?_eq_getElem hlt] using (show w.heap[g]?=_ from h)
 show (w.heap.modify g _)[g]?=_
 rw [Array.getElem?_eq_getElem (by simpa using hlt),Array.getElem_modify_self,h']
 simp [List.map_set,iv5]

theorem IBk.made {w:World}{base n g:Nat}(h:w.ownsRow base 3 1 (.slice (some ⟨g,0,none⟩) n n) n (madeCells (Value.int .i64 0).cells (n*1)).toList):IBk w g (List.replicate n 0):=by
 obtain⟨_,h2⟩:=h
 rcases h2 with ⟨h2,_⟩|⟨g',cap,cur,hv,_,hh,_,_,hs,ht⟩
 ·cases h2
 ·cases hv
  unfold IBk
  rw [hh,List.map_replicate]
  have e:cur.toList=List.replicate n (Value.int .i64 0):=by
   have:cur.toList.take (n*1)=cur.toList:=List.take_of_length_le (by simp;omega)
   rw [←this,ht]
   show (madeCells #[Value.int .i64 0] (n*1)).toList=_
   rw [toList_madeCells_one,Nat.mul_one]
  show _=some (Obj.cells (List.replicate n (Value.int .i64 0)).toArray _ _)
  rw [←e]

theorem IBk.il {w:World}{base g:Nat}{L:List Nat}(h:IBk w g L)(hb:base≤g)(hl:L.length≤9223372036854775807):IL5 w base (.slice (some ⟨g,0,none⟩) L.length L.length) L:=
 ⟨by simp,.inr ⟨g,L.length,(L.map iv5).toArray,rfl,hb,h,Nat.le_refl _,by unfold maxLen;omega,by simp,by rw [Nat.mul_one];exact List.take_of_length_le (by simp)⟩⟩

def kg (b x:Nat)(w:World)(e:Ending)(w':World):Prop:=
 (∃g n,e=.returned (.tuple #[.slice (some ⟨g,0,none⟩) n n,.int .i64 0])∧IBk w' g (digs b n x)∧w.heap.size≤g∧an b x n∧n≤67108865)∧Below w.heap.size w w'

theorem gm (va:Value)(X:List Nat)(b:Nat)(w:World)(hA:Arg w va X)(hT:Tab w)(hl:X.length≤1048576)(hb:2≤b)(hb2:b≤36) :
  Calls Tryz.prog 13 #[va,.int .i64 b] w (kg b (val X) w):=by
 obtain⟨i0,hi,hz0,hz1,hz2⟩:=info_parts cL
 have HI:=di b w hb hb2
 have HW:=fT va X b w hA hT hl hb hb2
 have hX:=hA.limbs
 clear hA hT
 go_enter Tryz.func13,Tryz.ntmps13
 go_wp2_with fail
 refine HI.mono ?_
 rintro e wn ⟨rfl,hw⟩;rw [hw];clear hw wn HI
 go_wp2_with fail
 refine HW.mono ?_
 rintro e w1 ⟨gd,D,rfl,hg,hd,hH,hm,hdig,hbe⟩
 obtain⟨n,hn⟩:∃n,D.length=n:=⟨_,rfl⟩
 have hDe:=d4 hn hdig
 rw [hn] at hH hm
 obtain⟨hn9,_⟩:=dw hb hX hl rfl hH
 have HD:=aa hd
 have HDE:=aa hDe
 have HH:=aa hH
 have HBE:=aa hbe
 have HNL:=aa hn
 have hgd:gd<w1.heap.size:=hd.lt
 rw [hn]
 clear HW hd hH hbe hDe hdig hX hn
 go_wp2_with (at_make;refine wpList_make_full _ rfl _ _ 33 rfl w1.heap.size 3 i0 (.int .i64 0) 1 Tryz.underlying33 hi hz0 hz1 .i64 .i64 _ _ n rfl rfl (by omega) (by omega) (by rw [hz2];omega) (by unfold maxLen;omega) (Nat.le_refl _) ?_;intro w2 hown hgrow)
 have HI2:=aa (IBk.made hown)
 have HB2:=aa ((Below.refl w1.heap.size w1).grown hgrow (Nat.le_refl _) (fun k hk=>by cases hk))
 clear hown hgrow hi hz0 hz1 hz2
 go_loopw [21] (fun i wr=>∃(k:Nat) (L:List Nat),k≤n∧i=.int .i64 k∧IBk wr w1.heap.size L∧L.length=n∧(∀i,i<k→L.getD i 0=D.getD i 0)∧Below w1.heap.size w1 wr) (fun i _=>n - (intOf i).toNat)
 case atStart=>exact⟨0,_,Nat.zero_le _,rfl,HI2.out,by simp,fun i hi=>by omega,HB2.out⟩
 case round=>
  obtain⟨k,L,hk,rfl,hI,hL,hdg,hbel⟩:=hrel
  clear HI2 HB2
  by_cases hkn:k<n
  ·have hDk:=(HD.out.below (B:=w1.heap.size) hbel hgd)
   have hco:=hDk.cell k (by rw [HNL.out];exact hkn)
   have hd36:D.getD k 0<256:=by
    have e:D.getD k 0=(digs b n (val X)).getD k 0:=by rw [←HDE.out]
    rw [e,cT b n _ k hkn]
    exact Nat.lt_of_lt_of_le (Nat.mod_lt _ (by omega)) (by omega)
   have hfr:=hI.free k
   have hc2:=hI.cell k (by omega)
   obtain⟨z,hz⟩:∃z,D.getD k 0=z:=⟨_,rfl⟩
   rw [hz] at hco hd36
   have HS:=aa (hI.set k z)
   have HG:Hid (∀i,i<k+1→(L.set k z).getD i 0=D.getD i 0):=aa (by
    intro i hi
    by_cases e:i=k
    ·subst e
     rw [hz]
     simp [List.getD,show i<L.length by omega]
    ·have:=hdg i (by omega)
     simp only [List.getD,List.getElem?_set] at this ⊢
     rw [if_neg (fun h=>e h.symm)]
     exact this)
   have HB:=aa hbel
   generalize L.getD k 0=old at *
   clear hI hdg hbel hDk hz
   go_wp2
   go_roundw
   case rel=>exact⟨k+1,L.set k z,by omega,by go_num,HS.out,by simp [hL],HG.out,HB.out.setCell (Nat.le_refl _) _⟩
   case measure=>simp [intOf];omega
  ·obtain rfl:k=n:=by omega
   have hLD:L=digs b k (val X):=by
    rw [←HDE.out]
    apply List.ext_getElem?
    intro i
    rcases Nat.lt_or_ge i k with h|h
    ·have h1:=hdg i h
     have hDl:=HNL.out
     simp only [List.getD,List.getElem?_eq_getElem (show i<L.length by omega),List.getElem?_eq_getElem (show i<D.length by omega),Option.getD_some] at h1
     rw [List.getElem?_eq_getElem (by omega),List.getElem?_eq_getElem (by omega),h1]
    ·rw [List.getElem?_eq_none (by omega),List.getElem?_eq_none (by have:=HNL.out;omega)]
   have HF:=aa (And.intro (show IBk wr w1.heap.size (digs b k (val X)) by rw [←hLD];exact hI) (HBE.out.trans (hbel.mono HBE.out.size)))
   have HGE:=aa HBE.out.size
   clear hI hdg hbel hLD
   go_wp2
   go_ret2
   exact⟨⟨_,k,rfl,HF.out.1,HGE.out,HH.out,hn9⟩,HF.out.2⟩

theorem fd (va:Value)(b:Int)(w:World)(h:b<2∨36<b) :
  Calls Tryz.prog 13 #[va,.int .i64 b] w fun e w'=>e=.returned (.tuple #[.slice none 0 0,.int .i64 50])∧w'=w:=by
 have HI:=du b w h
 clear h
 go_enter Tryz.func13,Tryz.ntmps13
 go_wp2_with fail
 refine HI.mono ?_
 rintro e wn ⟨rfl,hw⟩;rw [hw];clear hw wn HI
 go_wp2
 go_ret2
 exact⟨rfl,rfl⟩

def IRd (w:World)(v:Value)(L:List Nat):Prop:=∃a c,v=.slice a L.length c∧L.length≤c∧c≤9223372036854775807∧(L=[]∨∃g,a=some ⟨g,0,none⟩∧g<w.heap.size∧∀i,i<L.length→w.cell? ⟨g,i,none⟩=some (.int .i64 ((L.getD i 0:Nat):Int)))

theorem IRd.below {w w':World}{v:Value}{L:List Nat}(h:IRd w v L)(hb:Below w.heap.size w w'):IRd w' v L:=by
 obtain⟨a,c,h1,h2,h3,h4⟩:=h
 refine⟨a,c,h1,h2,h3,?_⟩
 rcases h4 with h4|⟨g,h5,h6,h7⟩
 ·exact .inl h4
 ·exact .inr ⟨g,h5,Nat.lt_of_lt_of_le h6 hb.size,fun i hi=>by rw [hb.cell (p:=⟨g,i,none⟩) h6];exact h7 i hi⟩

theorem IL5.rd {w:World}{base:Nat}{a:Option Addr}{n c:Nat}{L:List Nat}(h:IL5 w base (.slice a n c) L)(hL:0<L.length):IRd w (.slice a n c) L:=by
 obtain⟨rfl,g,rfl,hg,h1,h2,h3⟩:=h.cells hL
 exact⟨_,c,rfl,h1,h2,.inr ⟨g,rfl,hg,h3⟩⟩

theorem IBk.rd {w:World}{g:Nat}{L:List Nat}(h:IBk w g L)(hl:L.length≤9223372036854775807):IRd w (.slice (some ⟨g,0,none⟩) L.length L.length) L:=
 ⟨_,_,rfl,Nat.le_refl _,hl,.inr ⟨g,rfl,lt_of_block h,fun i hi=>h.cell i hi⟩⟩

theorem IRd.nil (w:World):IRd w (.slice none 0 0) []:=⟨none,0,rfl,Nat.le_refl _,by omega,.inl rfl⟩

theorem cR (v1 v2:Value)(L:List Nat)(w:World)(h1:IRd w v1 L)(h2:IRd w v2 L) :
  Calls Tryz.prog 16 #[v1,v2] w fun e w'=>e=.returned (.bool true)∧Below w.heap.size w w':=by
 obtain⟨a1,c1,rfl,q1,q2,r1⟩:=h1
 obtain⟨a2,c2,rfl,q3,q4,r2⟩:=h2
 have R1:=aa r1
 have R2:=aa r2
 clear r1 r2
 go_enter Tryz.func16,Tryz.ntmps16
 go_wp2
 go_loopw [5] (fun i wr=>∃k:Nat,k≤L.length∧i=.int .i64 k∧Below w.heap.size w wr) (fun i _=>L.length - (intOf i).toNat)
 case atStart=>exact⟨0,Nat.zero_le _,rfl,Below.refl _ _⟩
 case round=>
  obtain⟨k,hk,rfl,hbr⟩:=hrel
  by_cases hkl:k<L.length
  ·rcases R1.out with h|⟨g1,rfl,hg1,hc1⟩
   ·rw [h] at hkl;simp at hkl
   ·rcases R2.out with h|⟨g2,rfl,hg2,hc2⟩
    ·rw [h] at hkl;simp at hkl
    ·have d1:=hc1 k hkl
     have d2:=hc2 k hkl
     rw [←hbr.cell (p:=⟨g1,k,none⟩) hg1] at d1
     rw [←hbr.cell (p:=⟨g2,k,none⟩) hg2] at d2
     generalize L.getD k 0=z at *
     have hki:(k:Int)<(L.length:Int):=by omega
     have hk0:(0:Int)≤(k:Int):=by omega
     have HB:=aa hbr
     clear hc1 hc2 hbr
     go_wp2
     go_quiet (fail)
     go_wp2
     go_roundw
     case rel=>exact⟨k+1,by omega,by go_num,HB.out.trans ((((af.refl _).drewN _).below _).mono HB.out.size)⟩
     case measure=>simp [intOf];omega
  ·have hki:¬((k:Int)<(L.length:Int)):=by omega
   have HB:=aa hbr
   clear hbr
   go_wp2
   go_ret
   exact⟨rfl,HB.out⟩

theorem fM (w:World)(z:Nat)(hz:z<18446744073709551616):Arg (w.alloc (.cells #[.int .u64 (z:Int)] 63)) (.slice (some ⟨w.heap.size,0,none⟩) 1 1) [z]:=by
 have hb:Blk (w.alloc (.cells #[.int .u64 (z:Int)] 63)) w.heap.size [z]:=by
  unfold Blk
  rw [heap_alloc_new]
  rfl
 exact⟨⟨_,_,rfl,Nat.le_refl _,by simp,.inr ⟨_,0,rfl,fun k hk=>by rw [Nat.zero_add];exact hb.cell k hk⟩⟩,by intro y hy;simp at hy;omega,by simp,fun n c e=>by cases e⟩

theorem fI (w:World)(hT:Tab w):Calls Tryz.prog 18 #[] w fun e w'=>e=.returned (.bool true)∧Below w.heap.size w w':=by
 obtain⟨w0,hw0⟩:∃w0,w.alloc (.cells #[.int .u64 255] 63)=w0:=⟨_,rfl⟩
 have hb0:Below w.heap.size w w0:=by rw [←hw0];exact ac _ _
 have hA:Arg w0 (.slice (some ⟨w.heap.size,0,none⟩) 1 1) [255]:=by
  rw [←hw0]
  exact fM w 255 (by omega)
 have FP:=kf _ [255] w0 hA (hT.below hb0) (by decide) rfl
 have HW0:=aa hw0
 have HB0:=aa hb0
 have HT:=aa hT
 clear hT hw0 hb0 hA
 go_enter Tryz.func18,Tryz.ntmps18
 go_wp2_with fail
 rw [HW0.out]
 refine FP.mono ?_
 rintro e w1 ⟨rfl,hb1⟩
 have HB1:=bs HB0 hb1
 have FR:=iT w1 (HT.out.below HB1.out)
 clear FP hb1
 go_wp2_with fail
 refine FR.mono ?_
 rintro e w2 ⟨⟨v,rfl,hA⟩,hb2⟩
 have HB2:=bs HB1 hb2
 obtain⟨ao,n,cap,rfl⟩:=hA.slice
 have hn:n=1:=by
  rcases hA.form with ⟨_,e⟩|⟨g,c,e,_⟩
  ·cases e
  ·injection e
 subst hn
 obtain⟨w3,hw3⟩:∃w3,w2.alloc (.cells #[.int .u64 255] 63)=w3:=⟨_,rfl⟩
 have hb3:Below w2.heap.size w2 w3:=by rw [←hw3];exact ac _ _
 have hA3:Arg w3 (.slice (some ⟨w2.heap.size,0,none⟩) 1 1) [255]:=by
  rw [←hw3]
  exact fM w2 255 (by omega)
 have FC:=dK _ _ [255] [255] w3 ((hA.below hb3).arg (by simp)) hA3
 rw [cmpN_self] at FC
 have HB3:=bs HB2 hb3
 have HW3:=aa hw3
 clear FR hA hb2 hb3 hw3 hA3
 go_wp2_with fail
 rw [HW3.out]
 refine FC.mono ?_
 rintro e w4 ⟨rfl,hsm⟩
 have HB4:=bs HB3 (hsm.below w3.heap.size)
 clear FC hsm
 go_wp2
 go_ret
 exact⟨rfl,HB4.out⟩
end Go.Proofs.YteehipcoeocojaaGreatDoor

