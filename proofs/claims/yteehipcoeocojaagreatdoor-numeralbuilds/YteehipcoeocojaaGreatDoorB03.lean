/- Package numeral: writeFew and text of the laws' example. -/
import Derived.Test.YteehipcoeocojaaGreatDoorB02
import Derived.Laws.IdiomStrings
import Derived.Test.YteehipcoeocojaaGreatDoorB01
import Derived.Lib.AppendZeros
import Derived.Lib.SliceRun
import Derived.Handy
import Derived.Deep.QuietTactic
import Derived.BigQuiet
set_option maxRecDepth 20000
set_option maxHeartbeats 1000000
namespace Go.Proofs.YteehipcoeocojaaGreatDoor
open Go.RowKit
open Lm
attribute [local go_sem ↓] Go.wp_at_zero Go.wp_at_succ

theorem Ans.cellAt5 {w:World}{base g cap:Nat}{zs:List Nat}(h:Ans w base (.slice (some ⟨g,0,none⟩) zs.length cap) zs):(zs.length≤cap∧cap≤9223372036854775807)∧(∀k,w.frozen? ⟨g,k,none⟩=false)∧∀k,k<zs.length→w.cell? ⟨g,k,none⟩=some (.int .u64 ((zs.getD k 0:Nat):Int)):=by
 rcases h.form with ⟨e,_⟩|⟨g',cap',e,_,_,h1,h2,h3,h4⟩
 ·cases e
 ·cases e
  exact⟨⟨h1,h2⟩,h3,h4⟩

theorem aF {w:World}{h k:Nat}{cs:Array Value}{t:TypeId}(e:w.heap[h]?=some (.cells cs t))(u:Value):(w.setCell ⟨h,k,none⟩ u).heap[h]?=some (.cells (cs.setIfInBounds k u) t):=by
 have hlt:=lt_of_block e
 have h':w.heap[h]=.cells cs t:=by simpa [Array.getElem?_eq_getElem hlt] using e
 show (w.heap.modify h _)[h]?=_
 rw [Array.getElem?_eq_getElem (by simpa using hlt),Array.getElem_modify_self,h']
 rfl

theorem gE {w:World}{g k:Nat}{u v:Value}(h:w.cell? ⟨g,k,none⟩=some v):(w.setCell ⟨g,k,none⟩ u).cell? ⟨g,k,none⟩=some u:=by
 simp only [World.cell?] at h ⊢
 rcases hh:w.heap[g]? with _|o
 ·simp [hh] at h
 ·cases o with
  | cells cs t fz=>
   have hlt:=lt_of_block hh
   have h':w.heap[g]=.cells cs t fz:=by simpa [Array.getElem?_eq_getElem hlt] using hh
   have:(w.setCell ⟨g,k,none⟩ u).heap[g]?=some (.cells (cs.setIfInBounds k u) t fz):=by
    show (w.heap.modify g _)[g]?=_
    rw [Array.getElem?_eq_getElem (by simpa using hlt),Array.getElem_modify_self,h']
    rfl
   simp [this]
   simp [hh] at h
   have hk:k<cs.size:=by
    rcases Nat.lt_or_ge k cs.size with h2|h2
    ·exact h2
    ·simp [Array.getElem?_eq_none h2] at h
   simp [hk]
  | _=>simp [hh] at h

theorem iW (w:World):Calls Tryz.prog 108 #[.int .u64 0,.int .u64 255,.int .u64 1152921504606846976] w fun e w'=>e=.returned (.tuple #[.int .u64 0,.int .u64 255])∧ai w w':=
 iQ 255 1152921504606846976 w (by omega) (by omega) (by omega)

theorem fx (base g cap:Nat)(w:World)(hA:Ans w base (.slice (some ⟨g,0,none⟩) 1 cap) [255]) :
  Calls Tryz.prog 81 #[.slice (some ⟨g,0,none⟩) 1 cap,.int .u64 1152921504606846976] w fun e w'=>e=.returned (.tuple #[.slice (some ⟨g,0,none⟩) 0 cap,.int .u64 255])∧Below base w w':=by
 have HA:=aa hA
 obtain⟨⟨hc1,hc2⟩,hf,hc⟩:=Ans.cellAt5 (zs:=[255]) hA
 have hc0:=hc 0 (by simp)
 rw [show ((([255]:List Nat).getD 0 0:Nat):Int)=255 from rfl] at hc0
 have hbg:base≤g:=(hA.own.lt g rfl).1
 simp only [List.length_singleton] at hc1
 have HD:=iW w
 clear hA hc hf
 go_enter Tryz.func81,Tryz.ntmps81
 go_wp2
 refine wp_loop_rounds 2 ?_
 rw [rounds_succ]
 go_wp2_with fail
 refine HD.mono ?_
 rintro e w1 ⟨rfl,hsm⟩
 have A1:=HA.out.below (hsm.below w.heap.size)
 obtain⟨_,hf1,hc1'⟩:=Ans.cellAt5 (zs:=[255]) A1
 have hc0':=hc1' 0 (by simp)
 rw [show ((([255]:List Nat).getD 0 0:Nat):Int)=255 from rfl] at hc0'
 have HB:=aa ((hsm.below base).setCell (p:=⟨g,0,none⟩) hbg (.int .u64 0))
 have hc2':=gE (u:=.int .u64 0) hc0'
 clear HD A1 hsm hc1' hc0
 go_wp2
 rw [rounds_succ]
 go_wp2
 go_returns
 exact⟨rfl,HB.out⟩

theorem gz (gd:Nat)(va:Value)(X:List Nat)(w:World)(hA:Arg w va X)(hX:tr X=[255])(hl:X.length≤1000)(hd:w.heap[gd]?=some (.cells #[.int .u8 0,.int .u8 0] 5)) :
  Calls Tryz.prog 54 #[.slice (some ⟨gd,0,none⟩) 2 2,va,.int .i64 16] w fun e w'=>e=.returned (.tuple #[])∧w'.heap[gd]?=some (.cells #[.int .u8 15,.int .u8 15] 5)∧Below gd w w':=by
 have HU:=dY w
 have HN:=dq va X w hA (by omega)
 rw [hX] at HN
 have HD:=aa hd
 have hlt:=lt_of_block hd
 clear hA hX hd
 go_enter Tryz.func54,Tryz.ntmps54
 go_wp2_with fail
 refine HU.mono ?_
 rintro e wn ⟨rfl,hw⟩;rw [hw];clear hw wn HU
 go_wp2_with fail
 refine HN.mono ?_
 rintro e w1 ⟨⟨v1,rfl,A1⟩,hb1⟩
 obtain⟨g,cap,rfl⟩:∃g cap,v1=.slice (some ⟨g,0,none⟩) 1 cap:=by
  rcases A1.form with ⟨_,e⟩|⟨g,cap,e,_⟩
  ·cases e
  ·exact⟨g,cap,e⟩
 have HS:=fx w.heap.size g cap w1 A1
 have HB1:=aa hb1
 clear HN A1 hb1
 go_wp2
 refine wp_loop_rounds 2 ?_
 rw [rounds_succ]
 go_wp2_with fail
 refine HS.mono ?_
 rintro e w2 ⟨rfl,hb2⟩
 have hb:=HB1.out.trans hb2
 have hd2:w2.heap[gd]?=some (.cells #[.int .u8 0,.int .u8 0] 5):=by rw [hb.block gd hlt];exact HD.out
 have c0:w2.cell? ⟨gd,0,none⟩=some (.int .u8 0):=by simp [World.cell?,hd2]
 have c1:w2.cell? ⟨gd,1,none⟩=some (.int .u8 0):=by simp [World.cell?,hd2]
 have hf:∀k,w2.frozen? ⟨gd,k,none⟩=false:=fun k=>by simp [World.frozen?,hd2]
 have HB2:=aa (hb.mono (Nat.le_of_lt hlt))
 have HD2:=aa hd2
 clear HS hb hb2 hd2
 go_wp2
 refine wp_loop_rounds 3 ?_
 rw [rounds_succ]
 go_wp2
 rw [rounds_succ]
 go_wp2
 rw [rounds_succ]
 go_wp2
 rw [rounds_succ]
 go_wp2
 go_end0
 have s1:=aF (k:=1) HD2.out (.int .u8 15)
 have s0:=aF (k:=0) s1 (.int .u8 15)
 exact⟨rfl,s0,(HB2.out.setCell (p:=⟨gd,1,none⟩) (Nat.le_refl _) _).setCell (p:=⟨gd,0,none⟩) (Nat.le_refl _) _⟩

theorem jy (h:15<(ByteArray.mk #[48,49,50,51,52,53,54,55,56,57,97,98,99,100,101,102,103,104,105,106,107,108,109,110,111,112,113,114,115,116,117,118,119,120,121,122]).size):(ByteArray.mk #[48,49,50,51,52,53,54,55,56,57,97,98,99,100,101,102,103,104,105,106,107,108,109,110,111,112,113,114,115,116,117,118,119,120,121,122])[15]=102:=rfl

theorem fR (h:15<(ByteArray.mk #[48,49,50,51,52,53,54,55,56,57,97,98,99,100,101,102,103,104,105,106,107,108,109,110,111,112,113,114,115,116,117,118,119,120,121,122]).size):(ByteArray.mk #[48,49,50,51,52,53,54,55,56,57,97,98,99,100,101,102,103,104,105,106,107,108,109,110,111,112,113,114,115,116,117,118,119,120,121,122])[15].toNat=102:=rfl

attribute [local go_sem] jy fR

theorem g9 (gd:Nat)(w:World)(hd:w.heap[gd]?=some (.cells #[.int .u8 102,.int .u8 102] 5)) :
  (convert 67 9 (.slice (some ⟨gd,0,none⟩) 2 2)).run Tryz.prog w=.ok (.string ⟨#[102,102]⟩) w:=by
 have c0:w.cell? ⟨gd,0,none⟩=some (.int .u8 102):=by simp [World.cell?,hd]
 have c1:w.cell? ⟨gd,1,none⟩=some (.int .u8 102):=by simp [World.cell?,hd]
 rw [run_convert_bytes_string w 67 9 5 _ _ _ Tryz.underlying67 Tryz.underlying5 Tryz.underlying9]
 rw [run_bytesToString w _ 2 2 [102,102] (by simp [go_sem,loadCells,loadCellsFrom,c0,c1,Addr.add])]
 rfl

theorem iT (gd:Nat)(w:World)(hd:w.heap[gd]?=some (.cells #[.int .u8 15,.int .u8 15] 5)) :
  Calls Tryz.prog 32 #[.slice (some ⟨gd,0,none⟩) 2 2] w fun e w'=>e=.returned (.string ⟨#[102,102]⟩)∧Below gd w w':=by
 have c0:w.cell? ⟨gd,0,none⟩=some (.int .u8 15):=by simp [World.cell?,hd]
 have c1:w.cell? ⟨gd,1,none⟩=some (.int .u8 15):=by simp [World.cell?,hd]
 have hf:∀k,w.frozen? ⟨gd,k,none⟩=false:=fun k=>by simp [World.frozen?,hd]
 have s1:=aF (k:=0) hd (.int .u8 102)
 have s0:=aF (k:=1) s1 (.int .u8 102)
 have hconv:=g9 gd _ s0
 have HB:=aa (((Below.refl gd w).setCell (p:=⟨gd,0,none⟩) (Nat.le_refl _) (.int .u8 102)).setCell (p:=⟨gd,1,none⟩) (Nat.le_refl _) (.int .u8 102))
 clear hd s0 s1
 go_enter Tryz.func32,Tryz.ntmps32
 go_wp2
 refine wp_loop_rounds 3 ?_
 rw [rounds_succ]
 go_wp2
 rw [rounds_succ]
 go_wp2
 rw [rounds_succ]
 go_wp2
 go_ret
 exact⟨rfl,HB.out⟩
end Go.Proofs.YteehipcoeocojaaGreatDoor
namespace Go.Proofs.YteehipcoeocojaaGreatDoor
open Go.RowKit
open Lm
attribute [local go_sem ↓] Go.wp_at_zero Go.wp_at_succ

theorem Tryz.infoB:(Tryz.prog.info? 5).map (fun i=>(i.zero,i.size,i.bytes))=some (some (.int .u8 0),1,1):=by kernel_rfl

theorem dz (w:World)(hT:Tab w):Calls Tryz.prog 51 #[.int .i64 16,.int .i64 2] w fun e w'=>e=.returned (.slice none 0 0)∧w'=w:=by
 have T1:=de w hT
 have HLN:=Tryz.bits_Len 1 w (by omega) (by omega)
 rw [show Lib.bitLen (1:Int).toNat=1 from rfl] at HLN
 clear hT
 go_enter Tryz.func51,Tryz.ntmps51
 go_wp2
 refine wp_loop_rounds 1 ?_
 rw [rounds_succ]
 go_wp2_with fail
 refine T1.mono ?_
 rintro e wn ⟨rfl,hw⟩;rw [hw];clear hw wn T1
 go_wp2_with fail
 refine HLN.mono ?_
 rintro e wn ⟨rfl,hw⟩;rw [hw];clear hw wn HLN
 go_wp2
 refine wp_loop_rounds 1 ?_
 rw [rounds_succ]
 go_wp2
 go_ret
 exact⟨rfl,rfl⟩

theorem eU (w:World):Calls Tryz.prog 53 #[.slice none 0 0,.int .i64 2] w fun e w'=>e=.returned (.tuple #[.agg #[.int .i64 0,.slice none 0 0,.int .i64 0],.bool false])∧Below w.heap.size w w':=by
 have hb:Below w.heap.size w (w.alloc (.cells #[.int .i64 0,.slice none 0 0,.int .i64 0] 88)):=(Below.refl _ _).alloc (Nat.le_refl _) _
 have HB:=aa hb
 clear hb
 go_enter Tryz.func53,Tryz.ntmps53
 go_wp2
 refine wp_loop_rounds 1 ?_
 rw [rounds_succ]
 go_wp2
 go_returns
 exact⟨rfl,HB.out⟩

theorem cT {P:Program}(w:World)(a:Addr)(m:Mode)(f:Fn)(x y:Array Value):(store a (.func f x y) m).run P w=stored P w a (.func f x y) m:=run_store P w a _ m rfl

attribute [local go_sem] cT

theorem aP {w w':World}{g o:Nat}{v:Value}(hb:Below w.heap.size w w')(h:w.cell? ⟨g,o,none⟩=some v):w'.cell? ⟨g,o,none⟩=some v:=by
 rw [hb.cell (p:=⟨g,o,none⟩) ?_]
 ·exact h
 ·show g<w.heap.size
  rcases Nat.lt_or_ge g w.heap.size with h' | h'
  ·exact h'
  ·simp [World.cell?,Array.getElem?_eq_none h'] at h

theorem an {w w':World}{g:Nat}{x:Obj}(hb:Below w.heap.size w w')(h:w.heap[g]?=some x):w'.heap[g]?=some x:=by
 rw [hb.block g (lt_of_block h)];exact h

theorem aX {w:World}{h:Nat}{a:Value}{t:TypeId}(e:w.heap[h]?=some (.cells #[a] t)):w.cell? ⟨h,0,none⟩=some a:=by simp [World.cell?,e]

theorem ac (w:World)(o:Obj):Below w.heap.size w (w.alloc o):=(Below.refl _ _).alloc (Nat.le_refl _) _

theorem cL {w:World}{base n g:Nat}(h:w.ownsRow base 5 1 (.slice (some ⟨g,0,none⟩) n n) n (madeCells (Value.int .u8 0).cells (n*1)).toList):w.heap[g]?=some (.cells (List.replicate n (Value.int .u8 0)).toArray 5):=by
 obtain⟨_,h2⟩:=h
 rcases h2 with ⟨h2,_⟩|⟨g',cap,cur,hv,_,hh,_,_,hs,ht⟩
 ·cases h2
 ·cases hv
  rw [hh]
  have e:cur.toList=List.replicate n (Value.int .u8 0):=by
   have:cur.toList.take (n*1)=cur.toList:=List.take_of_length_le (by simp;omega)
   rw [←this,ht]
   show (madeCells #[Value.int .u8 0] (n*1)).toList=_
   rw [toList_madeCells_one,Nat.mul_one]
  rw [←e]

theorem fm (gl gb gw gd:Nat)(va:Value)(X:List Nat)(w:World)(hA:Arg w va X)(hX:tr X=[255])(hl:X.length≤1000)(hd:w.heap[gd]?=some (.cells #[.int .u8 0,.int .u8 0] 5))(cl:w.cell? ⟨gl,0,none⟩=some (.slice none 0 0))(cb:w.cell? ⟨gb,0,none⟩=some (.int .i64 16)) :
  Calls Tryz.prog 52 #[.slice (some ⟨gd,0,none⟩) 2 2,va,.pointer (some ⟨gl,0,none⟩),.pointer (some ⟨gb,0,none⟩),.pointer (some ⟨gw,0,none⟩)] w fun e w'=>e=.returned (.tuple #[])∧w'.heap[gd]?=some (.cells #[.int .u8 15,.int .u8 15] 5)∧Below gd w w':=by
 have HG:=eU w
 have hlt:=lt_of_block hd
 have FW:=aa (fun (w2:World) (hb:Below w.heap.size w w2)=>gz gd va X w2 (hA.below hb) hX hl (an hb hd))
 clear hA hX hd
 go_enter Tryz.func52,Tryz.ntmps52
 go_wp2_with fail
 refine HG.mono ?_
 rintro e w1 ⟨rfl,hb1⟩
 obtain⟨w2,hw2⟩:∃w2,w1.alloc (.cells #[.int .i64 0,.slice none 0 0,.int .i64 0] 88)=w2:=⟨_,rfl⟩
 have hb12:Below w1.heap.size w1 w2:=by rw [←hw2];exact ac _ _
 have hb2:=hb1.trans (hb12.mono hb1.size)
 have cb2:=aP hb2 cb
 rw [←hw2] at cb2
 have F2:=FW.out w2 hb2
 have HB2:=aa (hb2.mono (Nat.le_of_lt hlt))
 have HW2:=aa hw2
 clear HG hb1 hb12 hb2 FW hw2
 go_wp2_with fail
 rw [HW2.out]
 refine F2.mono ?_
 rintro e w3 ⟨rfl,hd3,hb3⟩
 have HD:=aa (And.intro hd3 (HB2.out.trans hb3))
 clear F2 hd3 hb3 cb2
 go_wp2
 go_returns
 exact⟨rfl,HD.out.1,HD.out.2⟩

theorem jq (va:Value)(X:List Nat)(w:World)(hA:Arg w va X)(hT:Tab w)(hX:tr X=[255])(hl:X.length=1) :
  Calls Tryz.prog 33 #[va,.int .i64 16] w fun e w'=>(∃g,e=.returned (.slice (some ⟨g,0,none⟩) 2 2)∧w.heap.size≤g∧w'.heap[g]?=some (.cells #[.int .u8 15,.int .u8 15] 5))∧Below w.heap.size w w':=by
 obtain⟨i0,hi,hz0,hz1,hz2⟩:=info_parts Tryz.infoB
 obtain⟨w0,hw0⟩:∃w0,w.alloc (.cells #[.int .i64 16] 3)=w0:=⟨_,rfl⟩
 have hb0:Below w.heap.size w w0:=by rw [←hw0];exact ac _ _
 have hs0:w0.heap.size=w.heap.size+1:=by rw [←hw0];exact World.size_alloc _ _
 have cb:w0.cell? ⟨w.heap.size,0,none⟩=some (.int .i64 16):=aX (by rw [←hw0];exact heap_alloc_new ..)
 have hv:val X=255:=by rw [←val_tr X,hX];rfl
 have HC:=jK va X w0 (hA.below hb0) (hT.below hb0) hv hl
 have HA:=aa hA
 have HT:=aa hT
 have HW0:=aa hw0
 have HB0:=aa hb0
 have HS0:=aa hs0
 have HX:=aa (And.intro hX hl)
 clear hA hT hw0 hb0 hX hl hv hs0
 go_enter Tryz.func33,Tryz.ntmps33
 go_wp2_with fail
 rw [HW0.out]
 refine HC.mono ?_
 rintro e wn ⟨rfl,hw⟩;rw [hw];clear hw wn HC
 go_wp2_with (at_make;refine wpList_make_full _ rfl _ _ 67 rfl w0.heap.size 5 i0 (.int .u8 0) 1 Tryz.underlying67 hi hz0 hz1 .i64 .i64 _ _ 2 rfl rfl (by rfl) (by rfl) (by rw [hz2];omega) (by unfold maxLen;omega) (Nat.le_refl _) ?_;intro w1 hown hgrow;have hb1:Below w0.heap.size w0 w1:=(Below.refl w0.heap.size w0).grown hgrow (Nat.le_refl _) (fun k hk=>by cases hk);have cb1:=aP hb1 cb)
 have hd1:w1.heap[w0.heap.size]?=some (.cells #[.int .u8 0,.int .u8 0] 5):=cL (n:=2) hown
 have HBB:=aQ HB0 hb1
 have HP:=dz w1 (HT.out.below HBB.out)
 obtain⟨gd,hgd⟩:∃gd,w0.heap.size=gd:=⟨_,rfl⟩
 rw [hgd] at hd1
 have hgdw:w.heap.size≤gd:=by have:=HS0.out;omega
 have HD1:=aa hd1
 have HGD:=aa hgd
 clear hown hgrow hi hz0 hz1 hz2 hb1 cb hd1 hgd
 go_wp2_with fail
 rw [HGD.out]
 refine HP.mono ?_
 rintro e wn ⟨rfl,hw⟩;rw [hw];clear hw wn HP
 obtain⟨w2,hw2⟩:∃w2,w1.alloc (.cells #[.slice none 0 0] 84)=w2:=⟨_,rfl⟩
 have hs2:w2.heap.size=w1.heap.size+1:=by rw [←hw2];exact World.size_alloc _ _
 obtain⟨w3,hw3⟩:∃w3,w2.alloc (.cells #[.func (.func 52) #[] #[.pointer (some ⟨w1.heap.size,0,none⟩),.pointer (some ⟨w.heap.size,0,none⟩),.pointer (some ⟨w1.heap.size+1,0,none⟩)]] 86)=w3:=⟨_,rfl⟩
 have hb2:Below w1.heap.size w1 w2:=by rw [←hw2];exact ac _ _
 have hb3:Below w2.heap.size w2 w3:=by rw [←hw3];exact ac _ _
 have hb13:=hb2.trans (hb3.mono hb2.size)
 have cl:=aP hb3 (aX (show w2.heap[w1.heap.size]?=some (.cells #[.slice none 0 0] 84) by rw [←hw2];exact heap_alloc_new ..))
 have cb3:=aP hb13 cb1
 have cw:w3.cell? ⟨w1.heap.size+1,0,none⟩=some (.func (.func 52) #[] #[.pointer (some ⟨w1.heap.size,0,none⟩),.pointer (some ⟨w.heap.size,0,none⟩),.pointer (some ⟨w1.heap.size+1,0,none⟩)]):=aX (t:=86) (by
  have h:=heap_alloc_new w2 (.cells #[.func (.func 52) #[] #[.pointer (some ⟨w1.heap.size,0,none⟩),.pointer (some ⟨w.heap.size,0,none⟩),.pointer (some ⟨w1.heap.size+1,0,none⟩)]] 86)
  rw [hs2,hw3] at h
  exact h)
 have HBB3:=aQ HBB hb13
 have FW:=fm w1.heap.size w.heap.size (w1.heap.size+1) gd va X w3 (HA.out.below HBB3.out) HX.out.1 (by have:=HX.out.2;omega) (an hb13 HD1.out) cl cb3
 have HW3:=aa (show (w1.alloc (.cells #[.slice none 0 0] 84)).alloc (.cells #[.func (.func 52) #[] #[.pointer (some ⟨w1.heap.size,0,none⟩),.pointer (some ⟨w.heap.size,0,none⟩),.pointer (some ⟨w1.heap.size+1,0,none⟩)]] 86)=w3 by rw [hw2,hw3])
 rw [←HW3.out] at cw
 clear hb2 hb3 hb13 cl cb3 hw2 hw3 hs2 cb1
 go_wp2_with fail
 rw [HW3.out]
 refine FW.mono ?_
 rintro e w4 ⟨rfl,hd4,hb4⟩
 have HD:=aa (And.intro hd4 (HBB3.out.trans (hb4.mono hgdw)))
 clear FW hd4 hb4 cw
 go_wp2
 go_ret
 exact⟨⟨gd,rfl,hgdw,HD.out.1⟩,HD.out.2⟩

theorem iE (va:Value)(X:List Nat)(w:World)(hA:Arg w va X)(hT:Tab w)(hX:tr X=[255])(hl:X.length=1) :
  Calls Tryz.prog 11 #[va,.int .i64 16] w fun e w'=>e=.returned (.tuple #[.string ⟨#[102,102]⟩,.int .i64 0])∧Below w.heap.size w w':=by
 have HI:=eC w
 have HW:=jq va X w hA hT hX hl
 clear hA hT hX hl
 go_enter Tryz.func11,Tryz.ntmps11
 go_wp2_with fail
 refine HI.mono ?_
 rintro e wn ⟨rfl,hw⟩;rw [hw];clear hw wn HI
 go_wp2_with fail
 refine HW.mono ?_
 rintro e w1 ⟨⟨g,rfl,hg,hd⟩,hb⟩
 have HT:=iT g w1 hd
 have HB:=aa hb
 clear HW hd hb
 go_wp2_with fail
 refine HT.mono ?_
 rintro e w2 ⟨rfl,hb⟩
 have HB2:=aa (HB.out.trans (hb.mono hg))
 clear HT hb
 go_wp2
 go_returns
 exact⟨rfl,HB2.out⟩
end Go.Proofs.YteehipcoeocojaaGreatDoor
namespace Go.Proofs.YteehipcoeocojaaGreatDoor
open Go.RowKit
open Lm
attribute [local go_sem ↓] Go.wp_at_zero Go.wp_at_succ

theorem ak {w:World}{h:Nat}{a b:Value}{t:TypeId}(e:w.heap[h]?=some (.cells #[a,b] t)):w.cell? ⟨h,0,none⟩=some a∧w.cell? ⟨h,1,none⟩=some b:=
 ⟨by simp [World.cell?,e],by simp [World.cell?,e]⟩

theorem bu {w:World}{h:Nat}{a b:Value}{t:TypeId}(e:w.heap[h]?=some (.cells #[a,b] t)):∀k,w.frozen? ⟨h,k,none⟩=false:=fun k=>by simp [World.frozen?,e]

theorem lz1 (w:World):Calls Tryz.prog 122 #[.int .u64 1] w fun e w'=>e=.returned (.int .i64 63)∧w'=w:=
 Tryz.bits_LeadingZeros64 1 w (by omega) (by omega)

theorem il (w:World):Calls Tryz.prog 122 #[.int .u64 16] w fun e w'=>e=.returned (.int .i64 59)∧w'=w:=
 Tryz.bits_LeadingZeros64 16 w (by omega) (by omega)

theorem dd (w:World):Calls Tryz.prog 112 #[.int .u64 1] w fun e w'=>e=.returned (.agg #[.int .u64 9223372036854775808,.int .i64 (-63)])∧Below w.heap.size w w':=by
 have HB:=aa (ac w (.cells #[.int .u64 9223372036854775808,.int .i64 (-63)] 128))
 go_enter Tryz.func112,Tryz.ntmps112
 go_wp2_with fail
 refine (lz1 _).mono ?_
 rintro e wn ⟨rfl,hw⟩;rw [hw];clear hw wn
 go_wp2
 go_returns
 exact⟨rfl,HB.out⟩

theorem fa (w:World):Calls Tryz.prog 112 #[.int .u64 16] w fun e w'=>e=.returned (.agg #[.int .u64 9223372036854775808,.int .i64 (-59)])∧Below w.heap.size w w':=by
 have HB:=aa (ac w (.cells #[.int .u64 9223372036854775808,.int .i64 (-59)] 128))
 go_enter Tryz.func112,Tryz.ntmps112
 go_wp2_with fail
 refine (il _).mono ?_
 rintro e wn ⟨rfl,hw⟩;rw [hw];clear hw wn
 go_wp2
 go_returns
 exact⟨rfl,HB.out⟩

theorem jG (w:World):Calls Tryz.prog 97 #[.int .u64 9223372036854775808,.int .u64 9223372036854775808] w fun e w'=>e=.returned (.tuple #[.int .u64 4611686018427387904,.int .u64 0])∧w'=w:=
 Tryz.bits_Mul64 9223372036854775808 9223372036854775808 (by omega) (by omega) w

theorem dT (e1 e2 e3 e4 e5:Int)(w:World)(h1:e1+e2=e3)(h2:e3+64=e4)(h3:e4 - 1=e5)(b1:-1000≤e3)(b2:e3≤1000) :
  Calls Tryz.prog 113 #[.agg #[.int .u64 9223372036854775808,.int .i64 e1],.agg #[.int .u64 9223372036854775808,.int .i64 e2]] w fun e w'=>e=.returned (.agg #[.int .u64 9223372036854775808,.int .i64 e5])∧Below w.heap.size w w':=by
 have ba:=ac w (.cells #[.int .u64 9223372036854775808,.int .i64 e1] 128)
 have bb:=ac (w.alloc (.cells #[.int .u64 9223372036854775808,.int .i64 e1] 128)) (.cells #[.int .u64 9223372036854775808,.int .i64 e2] 128)
 have bc:=ac ((w.alloc (.cells #[.int .u64 9223372036854775808,.int .i64 e1] 128)).alloc (.cells #[.int .u64 9223372036854775808,.int .i64 e2] 128)) (.cells #[.int .u64 9223372036854775808,.int .i64 e5] 128)
 have bab:=ba.trans (bb.mono ba.size)
 have HB:=aa (bab.trans (bc.mono bab.size))
 have w3:IntKind.i64.wrap e3=e3:=by rw [IntKind.wrap_i64];omega
 have w4:IntKind.i64.wrap e4=e4:=by rw [IntKind.wrap_i64];omega
 have w5:IntKind.i64.wrap e5=e5:=by rw [IntKind.wrap_i64];omega
 clear ba bb bc bab
 go_enter Tryz.func113,Tryz.ntmps113
 go_wp2_with fail
 refine (jG _).mono ?_
 rintro e wn ⟨rfl,hw⟩;rw [hw];clear hw wn
 go_wp2
 go_returns
 exact⟨rfl,HB.out⟩

def c6 (w:World)(g:Nat)(l:List (Nat × Value × Nat)):Prop:=∀(i d:Nat) (o:Value) (s:Nat),l[i]?=some (d,o,s)→w.cell? ⟨g,i*3,none⟩=some (.int .i64 d)∧w.cell? ⟨g,i*3+1,none⟩=some o∧w.cell? ⟨g,i*3+2,none⟩=some (.int .i64 s)∧d≤9223372036854775807∧s≤9223372036854775807∧∃a n c,o=.slice a n c

def bh (w:World)(v:Value)(l:List (Nat × Value × Nat)):Prop:=
 (v=.slice none 0 0∧l=[])∨∃g cap,v=.slice (some ⟨g,0,none⟩) l.length cap∧g<w.heap.size∧l.length≤cap∧cap≤9223372036854775807 ∧
  c6 w g l

def cU (l:List (Nat × Value × Nat))(n:Nat)(w:World)(e:Ending)(w':World):Prop:=
 ((∃(i d:Nat) (o:Value) (s:Nat),l[i]?=some (d,o,s)∧d<n∧(∀(j d':Nat) (o':Value) (s':Nat),i<j→l[j]?=some (d',o',s')→n≤d')∧e=.returned (.tuple #[.agg #[.int .i64 d,o,.int .i64 s],.bool true])) ∨
  ((∀(j d':Nat) (o':Value) (s':Nat),l[j]?=some (d',o',s')→n≤d')∧e=.returned (.tuple #[.agg #[.int .i64 0,.slice none 0 0,.int .i64 0],.bool false])))∧Below w.heap.size w w'

theorem tri {w:World}{h:Nat}{a b c:Value}{t:TypeId}(e:w.heap[h]?=some (.cells #[a,b,c] t)):w.cell? ⟨h,0,none⟩=some a∧w.cell? ⟨h,1,none⟩=some b∧w.cell? ⟨h,2,none⟩=some c:=
 ⟨by simp [World.cell?,e],by simp [World.cell?,e],by simp [World.cell?,e]⟩

theorem eA {w:World}{h:Nat}{a b c:Value}{t:TypeId}(e:w.heap[h]?=some (.cells #[a,b,c] t)):∀k,w.frozen? ⟨h,k,none⟩=false:=fun k=>by simp [World.frozen?,e]

theorem dA {w:World}{h:Nat}{a b c a' b' c':Value}{t:TypeId}(e:w.heap[h]?=some (.cells #[a,b,c] t)):(((w.setCell ⟨h,0,none⟩ a').setCell ⟨h,1,none⟩ b').setCell ⟨h,2,none⟩ c').heap[h]?=some (.cells #[a',b',c'] t):=
 aF (aF (aF e a') b') c'

theorem eP {B:Nat}{w0 w:World}{g:Nat}{u0 u1 u2:Value}(h:Below B w0 w)(hg:B≤g):Below B w0 (((w.setCell ⟨g,0,none⟩ u0).setCell ⟨g,1,none⟩ u1).setCell ⟨g,2,none⟩ u2):=
 ((h.setCell (p:=⟨g,0,none⟩) hg u0).setCell (p:=⟨g,1,none⟩) hg u1).setCell (p:=⟨g,2,none⟩) hg u2

theorem fV (g cap n:Nat)(l:List (Nat × Value × Nat))(w:World)(hg:g<w.heap.size)(hc:l.length≤cap)(hcm:cap≤9223372036854775807)
  (hl:c6 w g l) :
  Calls Tryz.prog 53 #[.slice (some ⟨g,0,none⟩) l.length cap,.int .i64 n] w (cU l n w):=by
 obtain⟨w0,hw0⟩:∃w0,w.alloc (.cells #[.int .i64 0,.slice none 0 0,.int .i64 0] 88)=w0:=⟨_,rfl⟩
 have hb0:Below w.heap.size w w0:=by rw [←hw0];exact ac _ _
 have h0:w0.heap[w.heap.size]?=some (.cells #[.int .i64 0,.slice none 0 0,.int .i64 0] 88):=by rw [←hw0];exact heap_alloc_new ..
 have HL:=aa hl
 have HB0:=aa hb0
 have H0:=aa h0
 have HW0:=aa hw0
 clear hl hb0 h0
 go_enter Tryz.func53,Tryz.ntmps53
 go_wp2
 clear hw0
 go_loop [6] (fun i=>∃k:Nat,k≤l.length∧i=.int .i64 ((k:Int) - 1)∧∀(j d':Nat) (o':Value) (s':Nat),k≤j→l[j]?=some (d',o',s')→n≤d') (fun i=>(intOf i+1).toNat)
 case atStart=>exact⟨l.length,Nat.le_refl _,rfl,fun j d' o' s' h1 h2=>by rw [List.getElem?_eq_none h1] at h2;cases h2⟩
 case round=>
  obtain⟨k,hk,rfl,hall⟩:=hrel
  have HA:=aa hall
  clear hall
  by_cases hk0:k=0
  ·subst hk0
   obtain⟨d0,d1,d2⟩:=tri H0.out
   have hf:=eA H0.out
   have R5:=dA H0.out (a':=.int .i64 0) (b':=.slice none 0 0) (c':=.int .i64 0)
   have HD:=aa (eP HB0.out (g:=w.heap.size) (u0:=.int .i64 0) (u1:=.slice none 0 0) (u2:=.int .i64 0) (Nat.le_refl _))
   go_wp2
   generalize ((w0.setCell ⟨w.heap.size,0,none⟩ (.int .i64 0)).setCell ⟨w.heap.size,1,none⟩ (.slice none 0 0)).setCell ⟨w.heap.size,2,none⟩ (.int .i64 0)=w5 at *
   obtain⟨q0,q1,q2⟩:=tri R5
   clear d0 d1 d2 hf
   refine bodyPost_ret (v:=.tuple #[.agg #[.int .i64 0,.slice none 0 0,.int .i64 0],.bool false]) (by simp [results,Tryz.results53,go_sem,q0,q1,q2]) rfl ?_
   exact⟨.inr ⟨fun j d' o' s' h=>HA.out j d' o' s' (Nat.zero_le _) h,rfl⟩,HD.out⟩
  ·obtain⟨j,rfl⟩:∃j,k=j+1:=⟨k - 1,by omega⟩
   have ej:(((j+1:Nat):Int) - 1)=(j:Int):=by omega
   rw [ej]
   have hjl:j<l.length:=by omega
   obtain⟨d,o,s,hd⟩:∃d o s,l[j]?=some (d,o,s):=⟨_,_,_,List.getElem?_eq_getElem hjl⟩
   obtain⟨c0,c1,c2,hdm,hsm,a,n',c',rfl⟩:=HL.out j d o s hd
   rw [←HB0.out.cell (p:=⟨g,j*3,none⟩) hg] at c0
   rw [←HB0.out.cell (p:=⟨g,j*3+1,none⟩) hg] at c1
   rw [←HB0.out.cell (p:=⟨g,j*3+2,none⟩) hg] at c2
   have hj0:(0:Int)≤(j:Int):=by omega
   have hjl':(j:Int)<(l.length:Int):=by omega
   by_cases hdn:d<n
   ·have hi:(d:Int)<(n:Int):=by omega
    obtain⟨d0,d1,d2⟩:=tri H0.out
    have hf:=eA H0.out
    have R5:=dA H0.out (a':=.int .i64 d) (b':=.slice a n' c') (c':=.int .i64 s)
    have HD:=aa (eP HB0.out (g:=w.heap.size) (u0:=.int .i64 d) (u1:=.slice a n' c') (u2:=.int .i64 s) (Nat.le_refl _))
    have HR:=aa hd
    clear hd
    go_wp2
    generalize ((w0.setCell ⟨w.heap.size,0,none⟩ (.int .i64 d)).setCell ⟨w.heap.size,1,none⟩ (.slice a n' c')).setCell ⟨w.heap.size,2,none⟩ (.int .i64 s)=w5 at *
    obtain⟨q0,q1,q2⟩:=tri R5
    clear d0 d1 d2 hf c0 c1 c2
    refine bodyPost_ret (v:=.tuple #[.agg #[.int .i64 d,.slice a n' c',.int .i64 s],.bool true]) (by simp [results,Tryz.results53,go_sem,q0,q1,q2]) rfl ?_
    exact⟨.inl ⟨j,d,_,s,HR.out,hdn,fun i d' o' s' h1 h2=>HA.out i d' o' s' (by omega) h2,rfl⟩,HD.out⟩
   ·have hi:¬((d:Int)<(n:Int)):=by omega
    go_wp2
    go_round
    case rel=>
     refine⟨j,by omega,rfl,fun i d' o' s' h1 h2=>?_⟩
     rcases Nat.lt_or_ge j i with h3|h3
     ·exact HA.out i d' o' s' (by omega) h2
     ·obtain rfl:i=j:=by omega
      rw [hd] at h2
      cases h2
      omega
    case measure=>simp [intOf]

theorem iJ (n:Nat)(w:World):Calls Tryz.prog 53 #[.slice none 0 0,.int .i64 n] w (cU [] n w):=by
 have HB:=aa (ac w (.cells #[.int .i64 0,.slice none 0 0,.int .i64 0] 88))
 go_enter Tryz.func53,Tryz.ntmps53
 go_wp2
 refine wp_loop_rounds 1 ?_
 rw [rounds_succ]
 go_wp2
 go_returns
 exact⟨.inr ⟨fun j d' o' s' h=>by simp at h,rfl⟩,HB.out⟩

theorem dV (v:Value)(n:Nat)(l:List (Nat × Value × Nat))(w:World)(h:bh w v l):Calls Tryz.prog 53 #[v,.int .i64 n] w (cU l n w):=by
 rcases h with ⟨rfl,rfl⟩|⟨g,cap,rfl,hg,hc,hcm,hl⟩
 ·exact iJ n w
 ·exact fV g cap n l w hg hc hcm hl


end Go.Proofs.YteehipcoeocojaaGreatDoor
namespace Go.Proofs.YteehipcoeocojaaGreatDoor
open Lm

def seg (Z:List Nat)(o n:Nat):List Nat:=(Z.drop o).take n

def sv (Z:List Nat)(o n:Nat):Nat:=val (seg Z o n)

structure Out (Z Z':List Nat)(lo hi:Nat):Prop where
 len:Z'.length=Z.length
 same:∀k,k<lo∨hi≤k→Z'.getD k 0=Z.getD k 0

theorem Out.refl (Z:List Nat)(lo hi:Nat):Out Z Z lo hi:=⟨rfl,fun _ _=>rfl⟩

theorem Out.trans {Z Z' Z'':List Nat}{lo hi:Nat}(h:Out Z Z' lo hi)(k:Out Z' Z'' lo hi):Out Z Z'' lo hi:=
 ⟨k.len.trans h.len,fun j hj=>(k.same j hj).trans (h.same j hj)⟩

theorem Out.wider {Z Z':List Nat}{lo hi lo' hi':Nat}(h:Out Z Z' lo hi)(h1:lo'≤lo)(h2:hi≤hi'):Out Z Z' lo' hi':=
 ⟨h.len,fun k hk=>h.same k (by omega)⟩

theorem b6 (Z:List Nat)(j k z:Nat):(Z.set j z).getD k 0=if j=k∧k<Z.length then z else Z.getD k 0:=by
 by_cases h:j=k
 ·subst h
  by_cases hl:j<Z.length
  ·simp [List.getD,hl]
  ·simp [List.getD,hl]
 ·simp [List.getD,h]

theorem Out.set {Z Z':List Nat}{lo hi:Nat}(h:Out Z Z' lo hi)(j z:Nat)(h1:lo≤j)(h2:j<hi):Out Z (Z'.set j z) lo hi:=
 ⟨by simp [h.len],fun k hk=>by rw [b6,if_neg (by omega)];exact h.same k hk⟩

theorem aW (Z:List Nat)(o n:Nat)(h:o+n≤Z.length):(seg Z o n).length=n:=by
 simp [seg];omega

theorem b9 (Z:List Nat)(o n k:Nat)(h:k<n):(seg Z o n).getD k 0=Z.getD (o+k) 0:=by
 simp [seg,List.getD,h]

theorem iB {a b:List Nat}(hl:a.length=b.length)(h:∀k,k<a.length→a.getD k 0=b.getD k 0):a=b:=by
 refine List.ext_getElem hl fun k h1 h2=>?_
 have:=h k h1
 simpa [List.getD,h1,h2] using this

theorem Out.seg {Z Z':List Nat}{lo hi:Nat}(h:Out Z Z' lo hi)(o n:Nat)(hd:o+n≤lo∨hi≤o):seg Z' o n=seg Z o n:=by
 have hl:(Go.Proofs.YteehipcoeocojaaGreatDoor.seg Z' o n).length=(Go.Proofs.YteehipcoeocojaaGreatDoor.seg Z o n).length:=by simp [Go.Proofs.YteehipcoeocojaaGreatDoor.seg,h.len]
 refine iB hl fun k hk=>?_
 have hk':k<n:=by simp [Go.Proofs.YteehipcoeocojaaGreatDoor.seg] at hk;omega
 rw [b9 _ _ _ _ hk',b9 _ _ _ _ hk',h.same _ (by omega)]

theorem Out.sv {Z Z':List Nat}{lo hi:Nat}(h:Out Z Z' lo hi)(o n:Nat)(hd:o+n≤lo∨hi≤o):sv Z' o n=sv Z o n:=by
 unfold Go.Proofs.YteehipcoeocojaaGreatDoor.sv;rw [h.seg o n hd]

theorem au (Z:List Nat)(o:Nat):sv Z o 0=0:=by simp [sv,seg,val]

theorem aj (Z:List Nat)(o m n:Nat)(h:o+m≤Z.length):sv Z o (m+n)=sv Z o m+18446744073709551616 ^ m*sv Z (o+m) n:=by
 unfold sv
 have e:seg Z o (m+n)=seg Z o m ++ seg Z (o+m) n:=by
  unfold seg
  rw [List.take_add,List.drop_drop]
 rw [e,val_append,aW Z o m h]

theorem cM (Z:List Nat)(o:Nat)(h:o<Z.length):sv Z o 1=Z.getD o 0:=by
 unfold sv seg
 rw [List.drop_eq_getElem_cons h,List.take_succ_cons,List.take_zero,val,val]
 simp [List.getD,h]

theorem bC (Z:List Nat)(o i:Nat)(h:o+i<Z.length):sv Z o (i+1)=sv Z o i+18446744073709551616 ^ i*Z.getD (o+i) 0:=by
 rw [aj Z o i 1 (by omega),cM _ _ h]

theorem cg {Z:List Nat}(h:Limbs Z)(o n:Nat):Limbs (seg Z o n):=fun z hz=>h z (List.mem_of_mem_drop (List.mem_of_mem_take hz))

theorem cz {Z:List Nat}(h:Limbs Z)(o n:Nat):sv Z o n<18446744073709551616 ^ n:=by
 have h1:=val_lt (cg h o n)
 refine Nat.lt_of_lt_of_le h1 (Nat.pow_le_pow_right (by omega) ?_)
 simp [seg];omega

theorem bL (Z:List Nat)(o i z:Nat)(h:o+i<Z.length):sv (Z.set (o+i) z) o (i+1)=sv Z o i+18446744073709551616 ^ i*z:=by
 rw [bC _ _ _ (by simpa using h),b6,if_pos ⟨rfl,h⟩]
 have e:Out Z (Z.set (o+i) z) (o+i) (o+i+1):=(Out.refl _ _ _).set _ _ (by omega) (by omega)
 rw [e.sv o i (by omega)]

theorem bf (Z:List Nat):sv Z 0 Z.length=val Z:=by simp [sv,seg]

theorem jQ (Z Z' X:List Nat)(o i m cy hi lo:Nat)(hz:o+i<Z'.length)(h0:Z'.getD (o+i) 0=Z.getD (o+i) 0)(hZ:Z'.length=Z.length)
  (h:sv Z' o i+cy*18446744073709551616 ^ i=sv Z o i+val (X.take i)*m)
  (hs:lo+hi*18446744073709551616=X.getD i 0*m+Z.getD (o+i) 0+cy) :
  sv (Z'.set (o+i) lo) o (i+1)+hi*18446744073709551616 ^ (i+1)=sv Z o (i+1)+val (X.take (i+1))*m:=by
 have:=h0
 rw [bL _ _ _ _ hz,bC Z o i (by omega),val_take_next X i,show (18446744073709551616:Nat) ^ (i+1)=18446744073709551616 ^ i*18446744073709551616 from Nat.pow_succ ..]
 generalize sv Z' o i=V' at *
 generalize sv Z o i=V at *
 generalize val (X.take i)=U at *
 generalize Z.getD (o+i) 0=z at *
 generalize X.getD i 0=x at *
 generalize (18446744073709551616:Nat) ^ i=P at *
 generalize (18446744073709551616:Nat)=W at *
 grind

theorem iD (x m z cy:Nat)(hx:x<18446744073709551616)(hm:m<18446744073709551616)(hz:z<18446744073709551616)(hc:cy<18446744073709551616) :
  x*m+z+cy<18446744073709551616*18446744073709551616:=by
 have h:=Nat.mul_le_mul (Nat.le_sub_one_of_lt hx) (Nat.le_sub_one_of_lt hm)
 omega
end Go.Proofs.YteehipcoeocojaaGreatDoor
namespace Go.Proofs.YteehipcoeocojaaGreatDoor
open Go.RowKit
open Lm

theorem ft (b off cap:Nat)(zs:List Nat)(w:World)(hcap:zs.length≤cap)(hmax:cap≤9223372036854775807)
  (hc:∀k,k<zs.length→w.cell? ⟨b,off+k,none⟩=some (.int .u64 ((zs.getD k 0:Nat):Int))) :
  Calls Tryz.prog 136 #[.slice (some ⟨b,off,none⟩) zs.length cap] w fun e w'=>e=.returned (.slice (some ⟨b,off,none⟩) (tr zs).length cap)∧w'=w:=by
 go_enter Tryz.func136,Tryz.ntmps136
 go_wp2
 go_loop [3] (fun n=>∃k:Nat,k≤zs.length∧n=.int .i64 k∧tr (zs.take k)=tr zs) (fun n=>(intOf n).toNat)
 case atStart=>exact⟨zs.length,Nat.le_refl _,rfl,by rw [List.take_length]⟩
 case round=>
  obtain⟨k,hk,rfl,ht⟩:=hrel
  have HT:Hid (tr (zs.take k)=tr zs):=ht
  clear ht
  by_cases h0:k=0
  ·subst h0
   go_wp2
   go_ret
   have e:=HT.out
   simp only [List.take_zero,tr] at e
   rw [←e]
   exact⟨rfl,rfl⟩
  ·obtain⟨j,rfl⟩:∃j,k=j+1:=⟨k - 1,by omega⟩
   have hcj:=hc j (by omega)
   clear hc
   by_cases hz:zs.getD j 0=0
   ·have HZ:Hid (tr (zs.take j)=tr zs):=by rw [←tr_step zs j (by omega) hz];exact HT.out
    rw [hz] at hcj
    clear hz HT
    go_wp2
    go_round
    case rel=>exact⟨j,by omega,by go_num,HZ.out⟩
    case measure=>simp [intOf]
   ·have HZ:Hid (tr zs=zs.take (j+1)):=by rw [←HT.out];exact tr_stop zs j (by omega) hz
    clear HT
    generalize zs.getD j 0=z at hcj hz
    have hne:((z:Int) == 0)=false:=by rw [beq_eq_false_iff_ne];omega
    clear hz
    go_wp2
    go_ret
    rw [HZ.out]
    have e:(zs.take (j+1)).length=j+1:=by simp;omega
    rw [e]
    exact⟨rfl,rfl⟩

theorem i9 (ao:Option Addr)(cap:Nat)(w:World)(_hmax:cap≤9223372036854775807) :
  Calls Tryz.prog 136 #[.slice ao 0 cap] w fun e w'=>e=.returned (.slice ao 0 cap)∧w'=w:=by
 go_enter Tryz.func136,Tryz.ntmps136
 go_wp2
 refine wp_loop_rounds 1 ?_
 rw [rounds_succ]
 go_wp2
 go_ret
 exact⟨rfl,rfl⟩

theorem aG (ao:Option Addr)(cap:Nat)(zs:List Nat)(w:World)(hcap:zs.length≤cap)(hmax:cap≤9223372036854775807)(hl:af w ao zs) :
  Calls Tryz.prog 136 #[.slice ao zs.length cap] w fun e w'=>e=.returned (.slice ao (tr zs).length cap)∧w'=w:=by
 rcases hl with rfl|⟨b,off,rfl,hc⟩
 ·exact i9 ao cap w hmax
 ·exact ft b off cap zs w hcap hmax hc

structure Fr (bz:Nat)(w w':World):Prop where
 os:w'.os=w.os
 tape:w'.tape=w.tape
 output:w'.output=w.output
 size:w.heap.size≤w'.heap.size
 block:∀k,k<w.heap.size→k≠bz→w'.heap[k]?=w.heap[k]?

theorem Fr.refl (bz:Nat)(w:World):Fr bz w w:=⟨rfl,rfl,rfl,Nat.le_refl _,fun _ _ _=>rfl⟩

theorem Fr.trans {bz:Nat}{a b c:World}(h:Fr bz a b)(k:Fr bz b c):Fr bz a c:=
 ⟨k.os.trans h.os,k.tape.trans h.tape,k.output.trans h.output,Nat.le_trans h.size k.size,fun i h1 h2=>(k.block i (Nat.lt_of_lt_of_le h1 h.size) h2).trans (h.block i h1 h2)⟩

theorem Fr.setCell {bz:Nat}{a w:World}(h:Fr bz a w)(off:Nat)(u:Value):Fr bz a (w.setCell ⟨bz,off,none⟩ u):=
 ⟨h.os,h.tape,h.output,by simpa using h.size,fun k h1 h2=>(Below.heap_setCell w _ u k h2).trans (h.block k h1 h2)⟩

theorem Fr.drew {bz:Nat}{a w:World}(h:Fr bz a w):Fr bz a w.drew:=⟨h.os,h.tape,h.output,h.size,h.block⟩

theorem Fr.of_below {bz:Nat}{w w':World}(h:Below w.heap.size w w'):Fr bz w w':=⟨h.os,h.tape,h.output,h.size,fun k h1 _=>h.block k h1⟩

theorem Fr.below {bz base:Nat}{w w':World}(h:Fr bz w w')(h1:base≤bz)(h2:base≤w.heap.size):Below base w w':=
 ⟨h.os,h.tape,h.output,h.size,fun k hk=>h.block k (by omega) (by omega)⟩

def Off (v:Value)(bz lo hi:Nat):Prop:=∀b off n c,v=.slice (some ⟨b,off,none⟩) n c→b≠bz∨off+n≤lo∨hi≤off

theorem af.fr {w w':World}{ao:Option Addr}{X Z Z':List Nat}{bz lo hi:Nat}(h:af w ao X)(ho:∀b off,ao=some ⟨b,off,none⟩→b≠bz∨off+X.length≤lo∨hi≤off)
  (hf:Fr bz w w') (hb:Blk w bz Z) (hb':Blk w' bz Z') (hz:Out Z Z' lo hi):af w' ao X:=by
 rcases h with h|⟨b,off,rfl,hc⟩
 ·exact .inl h
 ·rcases Nat.eq_zero_or_pos X.length with h0|h0
  ·exact .inl (List.length_eq_zero_iff.1 h0)
  refine .inr ⟨b,off,rfl,fun k hk=>?_⟩
  have hlt:b<w.heap.size:=af.block (zs:=X) (.inr ⟨b,off,rfl,hc⟩) h0
  by_cases hbz:b=bz
  ·subst hbz
   have h1:=hc k hk
   have hin:off+k<Z.length:=by
    refine Nat.lt_of_not_le fun hle=>?_
    have:w.cell? ⟨b,off+k,none⟩=none:=by
     unfold Blk at hb
     simp [World.cell?,hb];omega
    rw [this] at h1;cases h1
   rw [hb.cell _ hin] at h1
   rw [hb'.cell _ (by rw [hz.len];exact hin),hz.same _ (by have:=ho b off rfl;omega)]
   exact h1
  ·have:=hf.block b hlt hbz
   rw [World.cell?_of_block (w:=w) this]
   exact hc k hk

theorem Arg.fr {w w':World}{v:Value}{X Z Z':List Nat}{bz lo hi:Nat}(h:Arg w v X)(ho:Off v bz lo hi)
  (hf:Fr bz w w') (hb:Blk w bz Z) (hb':Blk w' bz Z') (hz:Out Z Z' lo hi):Arg w' v X:=by
 obtain⟨ao,cap,h1,h2,h3,h4⟩:=h.form
 exact⟨⟨ao,cap,h1,h2,h3,h4.fr (fun b off e=>by subst e;exact ho b off _ _ h1) hf hb hb' hz⟩,h.limbs,h.few,h.nz⟩
end Go.Proofs.YteehipcoeocojaaGreatDoor
namespace Go.Proofs.YteehipcoeocojaaGreatDoor
open Go.RowKit
open Lm
attribute [local go_sem ↓] Go.wp_at_zero Go.wp_at_succ

theorem gr (P z cy:Nat)(h:P+z+cy<340282366920938463463374607431768211456)(_hz:z<18446744073709551616)(_hc:cy<18446744073709551616) :
  ((P % 18446744073709551616+z) % 18446744073709551616+cy) % 18446744073709551616+(P / 18446744073709551616+(P % 18446744073709551616+z) / 18446744073709551616+((P % 18446744073709551616+z) % 18446744073709551616+cy) / 18446744073709551616)*18446744073709551616=P+z+cy ∧
  P / 18446744073709551616+(P % 18446744073709551616+z) / 18446744073709551616<18446744073709551616 ∧
  P / 18446744073709551616+(P % 18446744073709551616+z) / 18446744073709551616+((P % 18446744073709551616+z) % 18446744073709551616+cy) / 18446744073709551616<18446744073709551616 ∧
  ((P % 18446744073709551616+z) % 18446744073709551616+cy) % 18446744073709551616<18446744073709551616:=by
 omega

theorem eD (bz zo cap:Nat)(Z:List Nat)(v1:Value)(X:List Nat)(m:Nat)(w:World)(hB:Blk w bz Z)(hLZ:Limbs Z)(hA:Arg w v1 X)(ho:Off v1 bz zo (zo+X.length))
  (hzo:zo+X.length≤Z.length) (hc1:X.length≤cap) (hc2:cap≤9223372036854775807) (hm:m<18446744073709551616) :
  Calls Tryz.prog 150 #[.slice (some ⟨bz,zo,none⟩) X.length cap,v1,.int .u64 m] w fun e w'=>∃(cy:Nat) (Z':List Nat),e=.returned (.int .u64 (cy:Int))∧cy<18446744073709551616 ∧
   Out Z Z' zo (zo+X.length)∧Limbs Z'∧Blk w' bz Z'∧Fr bz w w'∧sv Z' zo X.length+cy*18446744073709551616 ^ X.length=sv Z zo X.length+val X*m:=by
 obtain⟨a1,c1,rfl,hcc1,hcm1,hl1⟩:=hA.form
 have M1:=hA.limbs
 have hX:=hA.few
 have hao:∀b off,a1=some ⟨b,off,none⟩→b≠bz∨off+X.length≤zo∨zo+X.length≤off:=fun b off e=>by subst e;exact ho b off _ _ rfl
 clear ho hA
 go_enter Tryz.func150,Tryz.ntmps150
 go_wp2
 go_loopw [7,16] (fun c i wr=>∃(k cy:Nat) (Z':List Nat),k≤X.length∧i=.int .i64 k∧c=.int .u64 cy∧cy<18446744073709551616∧Out Z Z' zo (zo+k)∧Limbs Z'∧Blk wr bz Z'∧Fr bz w wr ∧
   sv Z' zo k+cy*18446744073709551616 ^ k=sv Z zo k+val (X.take k)*m) (fun _ i _=>X.length - (intOf i).toNat)
 case atStart=>exact⟨0,0,Z,Nat.zero_le _,rfl,rfl,by omega,Out.refl _ _ _,hLZ,hB,Fr.refl _ _,by simp [au,val]⟩
 case round=>
  obtain⟨k,cy,Z',hk,rfl,rfl,hcy,hout,hlz,hblk,hfr0,hval⟩:=hrel
  have HV:=aa hval
  have HB:=aa hblk
  have HF:=aa hfr0
  have HO:=aa hout
  have hl:=hout.len
  clear hval
  by_cases hkl:k<X.length
  ·rcases hl1.fr hao hfr0 hB hblk (hout.wider (Nat.le_refl _) (by omega)) with h0|⟨b,off,rfl,hcell⟩
   ·rw [h0] at hkl;simp at hkl
   ·have hck:=hcell k hkl
    have hfr:=hblk.free (zo+k)
    have hco:=hblk.cell (zo+k) (by omega)
    have z1:=limb_lt M1 k
    have z2:=limb_lt hlz (zo+k)
    have hsame:=hout.same (zo+k) (by omega)
    have hft:=iD (X.getD k 0) m (Z'.getD (zo+k) 0) cy z1 hm z2 hcy
    have hlm:=gr (X.getD k 0*m) (Z'.getD (zo+k) 0) cy hft z2 hcy
    have HS:=aa (fun hi lo hs=>jQ Z Z' X zo k m cy hi lo (by omega) hsame hl HV.out hs)
    rw [←hsame] at HS
    have ha1:=bD (X.getD k 0*m % 18446744073709551616) (Z'.getD (zo+k) 0)
    have ha2:=bD ((X.getD k 0*m % 18446744073709551616+Z'.getD (zo+k) 0) % 18446744073709551616) cy
    have hM:=Tryz.bits_Mul64 (X.getD k 0) m z1 hm wr
    generalize Z'.getD (zo+k) 0=z at *
    generalize X.getD k 0=x at *
    generalize hP:x*m=P at *
    clear hP hft hsame
    obtain⟨q1,q2,q3,q4⟩:=hlm
    have HS2:=aa (HS.out _ _ q1)
    clear HS q1
    generalize ((P % 18446744073709551616+z) % 18446744073709551616+cy) % 18446744073709551616=s at *
    generalize ((P % 18446744073709551616+z) % 18446744073709551616+cy) / 18446744073709551616=o2 at *
    generalize (P % 18446744073709551616+z) % 18446744073709551616=s1 at *
    generalize (P % 18446744073709551616+z) / 18446744073709551616=o1 at *
    generalize P / 18446744073709551616=h1 at *
    generalize P % 18446744073709551616=l1 at *
    have e1:(h1:Int)+(o1:Int)=((h1+o1:Nat):Int):=by omega
    generalize h1+o1=h2 at *
    have e2:(h2:Int)+(o2:Int)=((h2+o2:Nat):Int):=by omega
    generalize h2+o2=h3 at *
    clear hcell hblk hfr0 hout HV M1 hl1 hB hLZ
    go_wp2_with fail
    refine hM.mono ?_
    rintro e w2 ⟨rfl,rfl⟩
    clear hM
    go_wp2
    go_roundw
    case rel=>exact⟨k+1,h3,Z'.set (zo+k) s,by omega,by go_num,rfl,q3,(HO.out.wider (Nat.le_refl _) (by omega)).set _ _ (by omega) (by omega),limbs_set hlz _ _ q4,HB.out.set _ s,HF.out.setCell _ _,HS2.out⟩
    case measure=>simp [intOf];omega
  ·have ek:k=X.length:=by omega
   subst ek
   rw [List.take_length] at HV
   clear hblk hfr0 hout hl1 hB
   go_wp2
   go_ret
   exact⟨cy,Z',rfl,hcy,HO.out,hlz,HB.out,HF.out,HV.out⟩

def lay (Z:List Nat)(o:Nat):List Nat→List Nat
 | []=>Z
 | p :: r=>lay (Z.set o p) (o+1) r

theorem bK (P:List Nat):∀(Z:List Nat) (o:Nat),(lay Z o P).length=Z.length:=by
 induction P with
 | nil=>intro Z o;rfl
 | cons p r ih=>intro Z o;rw [lay,ih];simp

theorem aM (P:List Nat):∀(Z:List Nat) (o:Nat),Out Z (lay Z o P) o (o+P.length):=by
 induction P with
 | nil=>intro Z o;exact Out.refl _ _ _
 | cons p r ih=>
  intro Z o
  have h1:Out Z (Z.set o p) o (o+(p :: r).length):=(Out.refl _ _ _).set _ _ (Nat.le_refl _) (by simp)
  exact h1.trans ((ih (Z.set o p) (o+1)).wider (by omega) (by simp;omega))

theorem aZ (P:List Nat):∀(Z:List Nat) (o:Nat),o+P.length≤Z.length→sv (lay Z o P) o P.length=val P:=by
 induction P with
 | nil=>intro Z o _;exact au _ _
 | cons p r ih=>
  intro Z o h
  have hl:o+r.length+1≤Z.length:=by simpa [Nat.add_assoc] using h
  rw [show (p :: r).length=1+r.length by simp;omega,aj _ _ _ _ (by rw [bK];omega),cM _ _ (by rw [bK];omega),lay,ih _ _ (by simp;omega)]
  have h2:=(aM r (Z.set o p) (o+1)).same o (by omega)
  rw [h2,b6,if_pos ⟨rfl,by omega⟩,val,Nat.pow_one]

theorem aU (P:List Nat)(hP:Limbs P):∀(Z:List Nat) (o:Nat),Limbs Z→Limbs (lay Z o P):=by
 induction P with
 | nil=>intro Z o h;exact h
 | cons p r ih=>intro Z o h;exact ih (fun z hz=>hP z (List.mem_cons_of_mem _ hz)) _ _ (limbs_set h _ _ (hP p (List.mem_cons_self ..)))

theorem Blk.setCells {b:Nat}(P:List Nat):∀ {w:World} {Z:List Nat} (o:Nat),Blk w b Z→Blk (w.setCells b o (P.map lv)) b (lay Z o P):=by
 induction P with
 | nil=>intro w Z o h;exact h
 | cons p r ih=>intro w Z o h;exact ih (o+1) (h.set o p)

theorem Fr.setCells {b:Nat}(P:List Value):∀ {a w:World} (o:Nat),Fr b a w→Fr b a (w.setCells b o P):=by
 induction P with
 | nil=>intro a w o h;exact h
 | cons p r ih=>intro a w o h;exact ih (o+1) (h.setCell o p)

theorem gn (w:World):(zeroValue 63).run Tryz.prog w=.ok (.int .u64 0) w:=by kernel_rfl

theorem b7 (bz zo n cap:Nat)(Z:List Nat)(w:World)(ty:TypeId)(hB:Blk w bz Z)(hz:zo+n≤Z.length)(hn:0<n) :
  (Builtin.clear_ #[23] ty #[.slice (some ⟨bz,zo,none⟩) n cap]).run Tryz.prog w=.ok (.tuple #[]) (w.setCells bz zo ((List.replicate n 0).map lv)):=by
 rw [Lib.run_clear_slice w 23 63 ty (.int .u64 0) Tryz.underlying23 gn rfl rfl bz zo n cap hn (fun j hj=>by rw [hB.cell (zo+j) (by omega)];rfl) (fun j hj=>hB.free (zo+j)),List.map_replicate]
 rfl

theorem jC (Z Z2 X Y:List Nat)(o k m cy:Nat)(hl:Z2.length=Z.length)(hk:k<Y.length)(hZ:o+(X.length+Y.length)≤Z.length)(hm:m=Y.getD k 0)
  (h:sv Z o (k+X.length)=val X*val (Y.take k)) (ho:Out Z Z2 (o+k) (o+k+X.length))
  (h2:sv Z2 (o+k) X.length+cy*18446744073709551616 ^ X.length=sv Z (o+k) X.length+val X*m) :
  sv (Z2.set (o+(k+X.length)) cy) o (k+1+X.length)=val X*val (Y.take (k+1)):=by
 rw [show k+1+X.length=k+X.length+1 by omega,bL _ _ _ _ (by omega),aj _ _ _ _ (by omega),ho.sv o k (by omega),val_take_next Y k,←hm,Nat.pow_add]
 rw [aj _ _ _ _ (by omega)] at h
 generalize sv Z o k=A at *
 generalize sv Z2 (o+k) X.length=B2 at *
 generalize sv Z (o+k) X.length=B at *
 generalize val (Y.take k)=V at *
 generalize val X=U at *
 generalize (18446744073709551616:Nat) ^ k=K at *
 generalize (18446744073709551616:Nat) ^ X.length=L at *
 grind

theorem di (bz zo cap:Nat)(Z:List Nat)(va vb:Value)(X Y:List Nat)(w:World)(hB:Blk w bz Z)(hLZ:Limbs Z)(hA:Arg w va X)(hA2:Arg w vb Y)
  (ho:Off va bz zo (zo+(X.length+Y.length))) (ho2:Off vb bz zo (zo+(X.length+Y.length))) (hzo:zo+(X.length+Y.length)≤Z.length) (hc1:X.length+Y.length≤cap) (hc2:cap≤9223372036854775807) :
  Calls Tryz.prog 140 #[.slice (some ⟨bz,zo,none⟩) (X.length+Y.length) cap,va,vb] w fun e w'=>e=.returned (.tuple #[])∧∃Z':List Nat,
   Out Z Z' zo (zo+(X.length+Y.length))∧Limbs Z'∧Blk w' bz Z'∧Fr bz w w'∧sv Z' zo (X.length+Y.length)=val X*val Y:=by
 obtain⟨a1,c1,rfl,hcc1,hcm1,hl1⟩:=hA.form
 obtain⟨a2,c2,rfl,hcc2,hcm2,hl2⟩:=hA2.form
 have hao2:∀b off,a2=some ⟨b,off,none⟩→b≠bz∨off+Y.length≤zo∨zo+(X.length+Y.length)≤off:=fun b off e=>by subst e;exact ho2 b off _ _ rfl
 have fX:=hA.few
 have fY:=hA2.few
 have mY:=hA2.limbs
 obtain⟨w1,Z1,hrun,hout1,hlz1,hb1,hf1,hs1⟩:∃(w1:World) (Z1:List Nat),(∀ty,(Builtin.clear_ #[23] ty #[.slice (some ⟨bz,zo,none⟩) (X.length+Y.length) cap]).run Tryz.prog w=.ok (.tuple #[]) w1)∧Out Z Z1 zo (zo+(X.length+Y.length))∧Limbs Z1∧Blk w1 bz Z1∧Fr bz w w1∧sv Z1 zo (X.length+Y.length)=0:=by
  rcases Nat.eq_zero_or_pos (X.length+Y.length) with h0|h0
  ·refine⟨w,Z,fun ty=>?_,Out.refl _ _ _,hLZ,hB,Fr.refl _ _,by rw [h0];exact au _ _⟩
   rw [h0]
   simp [Builtin.clear_,run_underlying Tryz.underlying23]
  ·have hlr:(List.replicate (X.length+Y.length) 0).length=X.length+Y.length:=by simp
   have e1:=aM (List.replicate (X.length+Y.length) 0) Z zo
   have e2:=aZ (List.replicate (X.length+Y.length) 0) Z zo (by rw [hlr];exact hzo)
   rw [hlr] at e1 e2
   exact⟨_,lay Z zo (List.replicate (X.length+Y.length) 0),fun ty=>b7 bz zo _ cap Z w ty hB hzo h0,e1,aU _ (limbs_replicate _) _ _ hLZ,Blk.setCells _ _ hB,(Fr.refl _ _).setCells _ _,by rw [e2,val_replicate]⟩
 have hs0:sv Z1 zo X.length=0:=by
  rw [aj _ _ _ _ (by have:=hout1.len;omega)] at hs1;omega
 have HO1:=aa hout1
 have HF1:=aa hf1
 have HL1:=aa hb1
 clear hs1
 go_enter Tryz.func140,Tryz.ntmps140
 go_wp2
 go_loopw [11] (fun i wr=>∃(k:Nat) (Z':List Nat),k≤Y.length∧i=.int .i64 k∧Out Z Z' zo (zo+(X.length+Y.length))∧Limbs Z'∧Blk wr bz Z'∧Fr bz w wr ∧
   sv Z' zo (k+X.length)=val X*val (Y.take k)) (fun i _=>Y.length - (intOf i).toNat)
 case atStart=>exact⟨0,Z1,Nat.zero_le _,rfl,HO1.out,hlz1,HL1.out,HF1.out,by rw [Nat.zero_add,hs0];simp [val]⟩
 case round=>
  obtain⟨k,Z',hk,rfl,hout,hlz,hblk,hfr0,hval⟩:=hrel
  clear hrun hout1 hlz1 hb1 hf1 hs0 HO1 HF1 HL1
  by_cases hkl:k<Y.length
  ·rcases hl2.fr hao2 hfr0 hB hblk hout with h0|⟨b,off,rfl,hcell⟩
   ·rw [h0] at hkl;simp at hkl
   ·have hck:=hcell k hkl
    have z2:=limb_lt mY k
    have hlen:=hout.len
    have hA':Arg wr (.slice a1 X.length c1) X:=hA.fr ho hfr0 hB hblk hout
    have HM:=eD bz (zo+k) (cap - k) Z' _ X (Y.getD k 0) wr hblk hlz hA' (fun b off n c e=>by rcases ho b off n c e with h|h|h <;> omega) (by omega) (by omega) (by omega) z2
    have HS:=aa (fun Z2 cy hl2 hO2 h2=>jC Z' Z2 X Y zo k (Y.getD k 0) cy hl2 hkl (by omega) rfl hval hO2 h2)
    have HO:=aa hout
    have HF:=aa hfr0
    generalize Y.getD k 0=m at *
    obtain⟨t,ht1,ht2,e1,e2⟩:∃t:Nat,t≤k+X.length∧k+X.length≤t∧(k:Int)+(X.length:Int)=(t:Int)∧t - k=X.length:=⟨k+X.length,by omega,by omega,by omega,by omega⟩
    have hb1:(0:Int)≤(k:Int):=by omega
    have hkn:k≤k+X.length:=by omega
    have hkc:k+X.length≤cap:=by omega
    clear hcell hblk hfr0 hout hval hA hA2 ho ho2 hl1 hl2 hB hLZ mY hao2 hA'
    go_wp2_with fail
    refine HM.mono ?_
    rintro e w2 ⟨cy,Z2,rfl,hcy,hO2,hlz2,hb2,hf2,hv2⟩
    have HS2:=aa (HS.out Z2 cy hO2.len hO2 hv2)
    have hl2:=hO2.len
    have hfr:=hb2.free (zo+t)
    have hco:=hb2.cell (zo+t) (by omega)
    generalize Z2.getD (zo+t) 0=o at *
    have HB2:=aa hb2
    have HF2:=aa (HF.out.trans hf2)
    have HO2:=aa (HO.out.trans (hO2.wider (by omega) (by omega)))
    have ht3:t<X.length+Y.length:=by omega
    clear HM HS hO2 hb2 hf2 hv2 HF HO
    go_wp2
    go_roundw
    case rel=>
     refine⟨k+1,Z2.set (zo+t) cy,by omega,by go_num,HO2.out.set _ _ (by omega) (by omega),limbs_set hlz2 _ _ hcy,HB2.out.set _ cy,HF2.out.setCell _ _,?_⟩
     rw [show t=k+X.length by omega];exact HS2.out
    case measure=>simp [intOf];omega
  ·have ek:k=Y.length:=by omega
   subst ek
   rw [List.take_length,Nat.add_comm] at hval
   have HV:=aa hval
   have HB:=aa hblk
   have HF:=aa hfr0
   have HO:=aa hout
   clear hval hblk hfr0 hout hl1 hl2 hB hA hA2 ho ho2 hLZ
   go_wp2
   go_end0
   exact⟨rfl,Z',HO.out,hlz,HB.out,HF.out,HV.out⟩
end Go.Proofs.YteehipcoeocojaaGreatDoor
namespace Go.Proofs.YteehipcoeocojaaGreatDoor
open Go.RowKit
open Lm

def way (H T:Int):Value:=.agg #[.int .i64 H,.int .i64 T]

def ae (bz zo n:Nat)(Z:List Nat)(w:World)(p:Nat)(e:Ending)(w':World):Prop:=
 e=.returned (.tuple #[])∧∃Z':List Nat,Out Z Z' zo (zo+n)∧Limbs Z'∧Blk w' bz Z'∧Fr bz w w'∧sv Z' zo n=p

theorem ae.after {bz zo n:Nat}{Z:List Nat}{w w1:World}{p:Nat}{e:Ending}{w':World}(h:ae bz zo n Z w1 p e w')(hf:Fr bz w w1):ae bz zo n Z w p e w':=by
 obtain⟨he,Z',h1,h2,h3,h4,h5⟩:=h
 exact⟨he,Z',h1,h2,h3,hf.trans h4,h5⟩

theorem Blk.alloc {w:World}{b:Nat}{xs:List Nat}(h:Blk w b xs)(o:Obj):Blk (w.alloc o) b xs:=by
 unfold Blk
 rw [Below.heap_alloc w o b h.lt];exact h

theorem Fr.alloc (bz:Nat)(w:World)(o:Obj):Fr bz w (w.alloc o):=Fr.of_below ((Below.refl _ _).alloc (Nat.le_refl _) o)

theorem Arg.more {w:World}{v:Value}{zs:List Nat}(h:Arg w v zs)(o:Obj):Arg (w.alloc o) v zs:=h.below ((Below.refl _ _).alloc (Nat.le_refl _) _)

theorem fS (bz zo cap:Nat)(Z:List Nat)(va vb:Value)(X Y:List Nat)(w:World)(hB:Blk w bz Z)(hLZ:Limbs Z)(hA:Arg w va X)(hA2:Arg w vb Y)
  (ho:Off va bz zo (zo+(X.length+Y.length))) (ho2:Off vb bz zo (zo+(X.length+Y.length))) (hzo:zo+(X.length+Y.length)≤Z.length) (hc1:X.length+Y.length≤cap) (hc2:cap≤9223372036854775807) :
  Calls Tryz.prog 140 #[.slice (some ⟨bz,zo,none⟩) (X.length+Y.length) cap,vb,va] w (ae bz zo (X.length+Y.length) Z w (val X*val Y)):=by
 rw [Nat.add_comm X.length,Nat.mul_comm (val X)]
 rw [Nat.add_comm X.length] at ho ho2 hzo hc1
 exact di bz zo cap Z vb va Y X w hB hLZ hA2 hA ho2 ho hzo hc1 hc2

theorem ji (H T:Int)(bz zo cap:Nat)(Z:List Nat)(va vb:Value)(X Y:List Nat)(w:World)(hB:Blk w bz Z)(hLZ:Limbs Z)(hA:Arg w va X)(hA2:Arg w vb Y)
  (ho:Off va bz zo (zo+(X.length+Y.length))) (ho2:Off vb bz zo (zo+(X.length+Y.length))) (hzo:zo+(X.length+Y.length)≤Z.length) (hc1:X.length+Y.length≤cap) (hc2:cap≤9223372036854775807)
  (hs:(X.length<Y.length∧(X.length:Int)<H∧(X.length:Int)<T)∨(Y.length≤X.length∧(Y.length:Int)<H∧(Y.length:Int)<T)) :
  Calls Tryz.prog 137 #[way H T,.slice (some ⟨bz,zo,none⟩) (X.length+Y.length) cap,va,vb] w (ae bz zo (X.length+Y.length) Z w (val X*val Y)):=by
 unfold way
 obtain⟨a1,c1,rfl,hcc1,hcm1,_⟩:=hA.form
 obtain⟨a2,c2,rfl,hcc2,hcm2,_⟩:=hA2.form
 have fX:=hA.few
 have fY:=hA2.few
 rcases hs with ⟨h1,h2,h3⟩|⟨h1,h2,h3⟩
 ·have i1:(X.length:Int)<(Y.length:Int):=by omega
  go_enter Tryz.func137,Tryz.ntmps137
  go_wp2_with fail
  refine (fS bz zo cap Z _ _ X Y _ (hB.alloc _) hLZ (hA.more _) (hA2.more _) ho ho2 hzo hc1 hc2).mono ?_
  rintro e w2 hd
  have HD:=aa (hd.after (Fr.alloc bz w _))
  obtain⟨he,_⟩:=hd
  subst he
  clear hA hA2 ho ho2 hB
  go_wp2
  go_end0
  exact HD.out
 ·have hd0:decide ((X.length:Int)<(Y.length:Int))=false:=decide_eq_false (by omega)
  go_enter Tryz.func137,Tryz.ntmps137
  go_wp2_with fail
  refine (di bz zo cap Z _ _ X Y _ (hB.alloc _) hLZ (hA.more _) (hA2.more _) ho ho2 hzo hc1 hc2).mono ?_
  rintro e w2 hd
  have HD:=aa (ae.after hd (Fr.alloc bz w _))
  obtain⟨he,_⟩:=hd
  subst he
  clear hA hA2 ho ho2 hB
  go_wp2
  go_end0
  exact HD.out

def aO (x y:Nat):Nat:=if x=0∨y=0 then 0 else blen x+blen y - 1

theorem jz (va vb:Value)(X Y:List Nat)(w:World)(hA:Arg w va X)(hA2:Arg w vb Y)(fX:X.length≤35184372088831)(fY:Y.length≤35184372088831) :
  Calls Tryz.prog 128 #[va,vb] w fun e w'=>e=.returned (.int .i64 ((aO (val X) (val Y):Nat):Int))∧w'=w:=by
 have H1:=aK va X w hA
 have H2:=aK vb Y w hA2
 have b1:blen (val X)≤64*X.length:=by
  rw [blen_le_iff,Nat.mul_comm];have:=val_lt hA.limbs;rwa [W_pow] at this
 have b2:blen (val Y)≤64*Y.length:=by
  rw [blen_le_iff,Nat.mul_comm];have:=val_lt hA2.limbs;rwa [W_pow] at this
 have z1:blen (val X)=0 ↔ val X=0:=by
  unfold blen;split <;> simp [*]
 have z2:blen (val Y)=0 ↔ val Y=0:=by
  unfold blen;split <;> simp [*]
 have hL:aO (val X) (val Y)=if blen (val X)=0∨blen (val Y)=0 then 0 else blen (val X)+blen (val Y) - 1:=by
  unfold aO;simp only [z1,z2]
 rw [hL]
 clear hA hA2 z1 z2 hL
 generalize blen (val X)=x at *
 generalize blen (val Y)=y at *
 by_cases hx:x=0
 ·subst hx
  rw [if_pos (.inl rfl)]
  go_enter Tryz.func128,Tryz.ntmps128
  go_wp2_with fail
  refine H1.mono ?_
  rintro e w2 ⟨rfl,rfl⟩
  go_wp2_with fail
  refine H2.mono ?_
  rintro e w3 ⟨rfl,rfl⟩
  clear H1 H2
  go_wp2
  go_ret
  exact⟨rfl,rfl⟩
 ·have d1:((x:Int) == 0)=false:=by rw [beq_eq_false_iff_ne];omega
  by_cases hy:y=0
  ·subst hy
   rw [if_pos (.inr rfl)]
   go_enter Tryz.func128,Tryz.ntmps128
   go_wp2_with fail
   refine H1.mono ?_
   rintro e w2 ⟨rfl,rfl⟩
   go_wp2_with fail
   refine H2.mono ?_
   rintro e w3 ⟨rfl,rfl⟩
   clear H1 H2
   go_wp2
   go_ret
   exact⟨rfl,rfl⟩
  ·have d2:((y:Int) == 0)=false:=by rw [beq_eq_false_iff_ne];omega
   rw [if_neg (by omega)]
   have e1:(x:Int)+(y:Int) - 1=((x+y - 1:Nat):Int):=by omega
   generalize x+y - 1=t at *
   go_enter Tryz.func128,Tryz.ntmps128
   go_wp2_with fail
   refine H1.mono ?_
   rintro e w2 ⟨rfl,rfl⟩
   go_wp2_with fail
   refine H2.mono ?_
   rintro e w3 ⟨rfl,rfl⟩
   clear H1 H2
   go_wp2
   go_ret
   exact⟨rfl,rfl⟩

theorem fo {B:Nat}{a w:World}(h:Below B a w)(n:Nat):Below B a (w.drewN n):=⟨h.os,h.tape,h.output,h.size,h.block⟩

theorem bQ {w:World}{h k:Nat}{cs:Array Value}{t:TypeId}(e:w.heap[h]?=some (.cells cs t))(u:Value):(w.setCell ⟨h,k,none⟩ u).heap[h]?=some (.cells (cs.setIfInBounds k u) t):=by
 have hlt:=lt_of_block e
 have h':w.heap[h]=.cells cs t:=by simpa [Array.getElem?_eq_getElem hlt] using e
 show (w.heap.modify h _)[h]?=_
 rw [Array.getElem?_eq_getElem (by simpa using hlt),Array.getElem_modify_self,h']
 rfl

theorem aY (X:List Nat)(n:Nat)(h:val X<18446744073709551616 ^ n):(tr X).length≤n:=by
 refine Nat.le_of_not_lt fun hlt=>?_
 obtain⟨m,hm⟩:∃m,(tr X).length=m+1:=⟨(tr X).length - 1,by omega⟩
 have h1:=tr_val_ge X m hm
 rw [val_tr] at h1
 have h2:(18446744073709551616:Nat) ^ n≤18446744073709551616 ^ m:=Nat.pow_le_pow_right (by omega) (by omega)
 omega
end Go.Proofs.YteehipcoeocojaaGreatDoor
namespace Go.Proofs.YteehipcoeocojaaGreatDoor
open Go.RowKit
open Lm
attribute [local go_sem ↓] Go.wp_at_zero Go.wp_at_succ

theorem cn (Z Z':List Nat)(o k cy c2 s v V:Nat)(hz:o+k<Z'.length)(hl:Z'.length=Z.length)
  (h:sv Z' o k+cy*18446744073709551616 ^ k=sv Z o k+V) (hs:s+c2*18446744073709551616=Z.getD (o+k) 0+v+cy) :
  sv (Z'.set (o+k) s) o (k+1)+c2*18446744073709551616 ^ (k+1)=sv Z o (k+1)+(V+18446744073709551616 ^ k*v):=by
 rw [bL _ _ _ _ hz,bC Z o k (by omega),show (18446744073709551616:Nat) ^ (k+1)=18446744073709551616 ^ k*18446744073709551616 from Nat.pow_succ ..]
 generalize sv Z' o k=A at *
 generalize sv Z o k=B at *
 generalize Z.getD (o+k) 0=z at *
 generalize (18446744073709551616:Nat) ^ k=P at *
 generalize (18446744073709551616:Nat)=W at *
 grind

theorem eZ (Z Z':List Nat)(o k n V:Nat)(hk:k≤n)(hn:o+n≤Z.length)(ho:Out Z Z' o (o+k))(h:sv Z' o k=sv Z o k+V):sv Z' o n=sv Z o n+V:=by
 obtain⟨d,rfl⟩:∃d,n=k+d:=⟨n - k,by omega⟩
 rw [aj Z' o k d (by rw [ho.len];omega),aj Z o k d (by omega),h,ho.sv (o+k) d (by omega)]
 omega

theorem dU (Z Z':List Nat)(o n cy V:Nat)(hZ:sv Z o n+V<18446744073709551616 ^ n)(h:sv Z' o n+cy*18446744073709551616 ^ n=sv Z o n+V):cy=0:=by
 rcases Nat.eq_zero_or_pos cy with h0|h0
 ·exact h0
 ·have:=Nat.mul_le_mul_right (18446744073709551616 ^ n) h0
  omega

theorem d5 (z v cy:Nat)(hz:z<18446744073709551616)(hv:v<18446744073709551616)(hc:cy≤1) :
  (z+v+cy) % 18446744073709551616+(z+v+cy) / 18446744073709551616*18446744073709551616=z+v+cy∧(z+v+cy) / 18446744073709551616≤1∧(z+v+cy) % 18446744073709551616<18446744073709551616:=by
 omega

theorem aV (bz zo n cap:Nat)(Z:List Nat)(va:Value)(X:List Nat)(w:World)(hB:Blk w bz Z)(hLZ:Limbs Z)(hA:Arg w va X)(ho:Off va bz zo (zo+n))
  (hzo:zo+n≤Z.length) (hc1:n≤cap) (hc2:cap≤9223372036854775807) (hfit:sv Z zo n+val X<18446744073709551616 ^ n) :
  Calls Tryz.prog 153 #[.slice (some ⟨bz,zo,none⟩) n cap,va] w (ae bz zo n Z w (sv Z zo n+val X)):=by
 obtain⟨a1,c1,rfl,hcc1,hcm1,hl1⟩:=hA.form
 have hX:=hA.few
 have H1:=aG a1 c1 X w hcc1 hcm1 hl1
 have M1:=limbs_tr hA.limbs
 have hle:=tr_length_le X
 have hln:=aY X n (by omega)
 have hao:∀b off,a1=some ⟨b,off,none⟩→b≠bz∨off+(tr X).length≤zo∨zo+n≤off:=fun b off e=>by
  subst e
  rcases ho b off _ _ rfl with h|h|h
  ·exact .inl h
  ·exact .inr (.inl (by omega))
  ·exact .inr (.inr h)
 have L1:=hl1.tr
 rw [←val_tr X] at hfit ⊢
 clear ho hA hl1
 generalize tr X=P at *
 have HFIT:=aa hfit
 have HB0:=aa hB
 have HLZ:=aa hLZ
 clear hfit
 go_enter Tryz.func153,Tryz.ntmps153
 go_wp2_with fail
 refine H1.mono ?_
 rintro e w' ⟨rfl,hw⟩;subst hw
 clear H1
 go_wp2
 go_loopw [4,12] (fun c i wr=>∃(k cy:Nat) (Z':List Nat),k≤P.length∧i=.int .i64 k∧c=.int .u64 cy∧cy≤1∧Out Z Z' zo (zo+k)∧Limbs Z'∧Blk wr bz Z'∧Fr bz w' wr ∧
   sv Z' zo k+cy*18446744073709551616 ^ k=sv Z zo k+val (P.take k)) (fun _ i _=>P.length - (intOf i).toNat)
 case atStart=>exact⟨0,0,Z,Nat.zero_le _,rfl,rfl,by omega,Out.refl _ _ _,HLZ.out,HB0.out,Fr.refl _ _,by simp [au,val]⟩
 case round=>
  obtain⟨k,cy,Z',hk,rfl,rfl,hcy,hout,hlz,hblk,hfr0,hval⟩:=hrel
  have HV:=aa hval
  have HB:=aa hblk
  have HF:=aa hfr0
  have HO:=aa hout
  have hl:=hout.len
  clear hval
  by_cases hkl:k<P.length
  ·rcases L1.fr hao hfr0 hB hblk (hout.wider (Nat.le_refl _) (by omega)) with h0|⟨b,off,rfl,hcell⟩
   ·rw [h0] at hkl;simp at hkl
   ·have hck:=hcell k hkl
    have hfr:=hblk.free (zo+k)
    have hco:=hblk.cell (zo+k) (by omega)
    have z1:=limb_lt M1 k
    have z2:=limb_lt hlz (zo+k)
    have hsame:=hout.same (zo+k) (by omega)
    have ha:=ce (Z'.getD (zo+k) 0) (P.getD k 0) cy hcy
    obtain⟨q1,q2,q3⟩:=d5 (Z'.getD (zo+k) 0) (P.getD k 0) cy z2 z1 hcy
    have HS:=aa (cn Z Z' zo k cy _ _ (P.getD k 0) _ (by omega) hl HV.out (by rw [←hsame];exact q1))
    rw [←val_take_next P k] at HS
    generalize Z'.getD (zo+k) 0=z at *
    generalize P.getD k 0=x at *
    clear hsame q1
    generalize (z+x+cy) % 18446744073709551616=s at *
    generalize (z+x+cy) / 18446744073709551616=c2 at *
    clear hcell hblk hfr0 hout HV M1 L1 hB hLZ
    go_wp2
    go_roundw
    case rel=>exact⟨k+1,c2,Z'.set (zo+k) s,by omega,by go_num,rfl,q2,(HO.out.wider (Nat.le_refl _) (by omega)).set _ _ (by omega) (by omega),limbs_set hlz _ _ q3,HB.out.set _ s,HF.out.setCell _ _,HS.out⟩
    case measure=>simp [intOf];omega
  ·have ek:k=P.length:=by omega
   subst ek
   rw [List.take_length] at HV
   clear hblk hfr0 hout L1 hB M1 hLZ hl
   go_wp2
   go_loopw [4,7] (fun c i wr2=>∃(k cy:Nat) (Z2:List Nat),k≤n∧i=.int .i64 k∧c=.int .u64 cy∧cy≤1∧Out Z Z2 zo (zo+k)∧Limbs Z2∧Blk wr2 bz Z2∧Fr bz w' wr2 ∧
     sv Z2 zo k+cy*18446744073709551616 ^ k=sv Z zo k+val P) (fun _ i _=>n - (intOf i).toNat)
   case atStart=>exact⟨P.length,cy,Z',hln,rfl,rfl,hcy,HO.out,hlz,HB.out,HF.out,HV.out⟩
   case round=>
    obtain⟨k,cy2,Z2,hk2,rfl,rfl,hcy2,hout2,hlz2,hblk2,hfr2,hval2⟩:=hrel
    clear HV HB HF HO
    have HV:=aa hval2
    have HB:=aa hblk2
    have HF:=aa hfr2
    have HO:=aa hout2
    have hl:=hout2.len
    clear hval2
    by_cases hc0:cy2=0
    ·subst hc0
     have HR:=aa (eZ Z Z2 zo k n _ hk2 hzo hout2 (by have h:=HV.out;rw [Nat.zero_mul,Nat.add_zero] at h;exact h))
     clear hblk2 hfr2 hout2 HV
     go_wp2
     go_end0
     exact⟨rfl,Z2,HO.out.wider (Nat.le_refl _) (by omega),hlz2,HB.out,HF.out,HR.out⟩
    ·have hpos:(0:Int)<(cy2:Int):=by omega
     have hkn:k<n:=by
      rcases Nat.lt_or_ge k n with h|h
      ·exact h
      ·have ek:k=n:=by omega
       subst ek
       exact absurd (dU Z Z2 zo k cy2 (val P) HFIT.out HV.out) hc0
     have hfr:=hblk2.free (zo+k)
     have hco:=hblk2.cell (zo+k) (by omega)
     have z2:=limb_lt hlz2 (zo+k)
     have hsame:=hout2.same (zo+k) (by omega)
     have ha:=bD (Z2.getD (zo+k) 0) cy2
     obtain⟨q1,q2,q3⟩:=d5 (Z2.getD (zo+k) 0) 0 cy2 z2 (by omega) hcy2
     have HS:=aa (cn Z Z2 zo k cy2 _ _ 0 _ (by omega) hl HV.out (by rw [←hsame];exact q1))
     rw [Nat.mul_zero,Nat.add_zero] at HS
     rw [Nat.add_zero] at HS q2 q3
     generalize Z2.getD (zo+k) 0=z at *
     clear hsame q1
     generalize (z+cy2) % 18446744073709551616=s at *
     generalize (z+cy2) / 18446744073709551616=c2 at *
     clear hblk2 hfr2 hout2 HV hc0
     go_wp2
     go_roundw
     case rel=>exact⟨k+1,c2,Z2.set (zo+k) s,by omega,by go_num,rfl,q2,(HO.out.wider (Nat.le_refl _) (by omega)).set _ _ (by omega) (by omega),limbs_set hlz2 _ _ q3,HB.out.set _ s,HF.out.setCell _ _,HS.out⟩
     case measure=>simp [intOf];omega

theorem cV (x y b:Nat)(hb:b≤1)(w:World) :
  (callFunc 162 #[.int .u64 x,.int .u64 y,.int .u64 b]).run Tryz.prog w =
   .ok (.value (.tuple #[.int .u64 (((x+18446744073709551616 - y - b) % 18446744073709551616:Nat):Int),.int .u64 ((bor x y b:Nat):Int)])) w:=by
 rw [run_callFunc_extern Tryz.func162 (by kernel_rfl) (by kernel_rfl) (by kernel_rfl) (e:=sub64Entry) (by kernel_rfl),run_sub64 x y b hb]
 rfl

theorem fl (x b:Nat)(hb:b≤1)(w:World) :
  (callFunc 162 #[.int .u64 x,.int .u64 b,.int .u64 0]).run Tryz.prog w =
   .ok (.value (.tuple #[.int .u64 (((x+18446744073709551616 - 0 - b) % 18446744073709551616:Nat):Int),.int .u64 ((bor x 0 b:Nat):Int)])) w:=by
 have h:=cV x b 0 (by omega) w
 rw [show bor x b 0=bor x 0 b by unfold bor;simp,show x+18446744073709551616 - b - 0=x+18446744073709551616 - 0 - b by omega] at h
 exact h

theorem dC (z v cy:Nat)(hz:z<18446744073709551616)(hv:v<18446744073709551616)(hc:cy≤1) :
  (z+18446744073709551616 - v - cy) % 18446744073709551616+v+cy=z+bor z v cy*18446744073709551616∧bor z v cy≤1∧(z+18446744073709551616 - v - cy) % 18446744073709551616<18446744073709551616:=by
 unfold bor
 split <;> omega

theorem b8 (Z Z':List Nat)(o k cy c2 s v V:Nat)(hz:o+k<Z'.length)(hl:Z'.length=Z.length)
  (h:sv Z' o k+V=sv Z o k+cy*18446744073709551616 ^ k) (hs:s+v+cy=Z.getD (o+k) 0+c2*18446744073709551616) :
  sv (Z'.set (o+k) s) o (k+1)+(V+18446744073709551616 ^ k*v)=sv Z o (k+1)+c2*18446744073709551616 ^ (k+1):=by
 rw [bL _ _ _ _ hz,bC Z o k (by omega),show (18446744073709551616:Nat) ^ (k+1)=18446744073709551616 ^ k*18446744073709551616 from Nat.pow_succ ..]
 generalize sv Z' o k=A at *
 generalize sv Z o k=B at *
 generalize Z.getD (o+k) 0=z at *
 generalize (18446744073709551616:Nat) ^ k=P at *
 generalize (18446744073709551616:Nat)=W at *
 grind

theorem dE (Z Z':List Nat)(o k n V:Nat)(hk:k≤n)(hn:o+n≤Z.length)(ho:Out Z Z' o (o+k))(h:sv Z' o k+V=sv Z o k):sv Z' o n=sv Z o n - V:=by
 obtain⟨d,rfl⟩:∃d,n=k+d:=⟨n - k,by omega⟩
 rw [aj Z' o k d (by rw [ho.len];omega),aj Z o k d (by omega),←h,ho.sv (o+k) d (by omega)]
 omega

theorem cX (Z Z':List Nat)(o n cy V:Nat)(hl:Limbs Z')(hZ:V≤sv Z o n)(h:sv Z' o n+V=sv Z o n+cy*18446744073709551616 ^ n):cy=0:=by
 rcases Nat.eq_zero_or_pos cy with h0|h0
 ·exact h0
 ·have:=Nat.mul_le_mul_right (18446744073709551616 ^ n) h0
  have:=cz hl o n
  omega

theorem bT (bz zo n cap:Nat)(Z:List Nat)(va:Value)(X:List Nat)(w:World)(hB:Blk w bz Z)(hLZ:Limbs Z)(hA:Arg w va X)(ho:Off va bz zo (zo+n))
  (hzo:zo+n≤Z.length) (hc1:n≤cap) (hc2:cap≤9223372036854775807) (hfit:val X≤sv Z zo n) :
  Calls Tryz.prog 155 #[.slice (some ⟨bz,zo,none⟩) n cap,va] w (ae bz zo n Z w (sv Z zo n - val X)):=by
 obtain⟨a1,c1,rfl,hcc1,hcm1,hl1⟩:=hA.form
 have hX:=hA.few
 have H1:=aG a1 c1 X w hcc1 hcm1 hl1
 have M1:=limbs_tr hA.limbs
 have hle:=tr_length_le X
 have hln:=aY X n (Nat.lt_of_le_of_lt hfit (cz hLZ zo n))
 have hao:∀b off,a1=some ⟨b,off,none⟩→b≠bz∨off+(tr X).length≤zo∨zo+n≤off:=fun b off e=>by
  subst e
  rcases ho b off _ _ rfl with h|h|h
  ·exact .inl h
  ·exact .inr (.inl (by omega))
  ·exact .inr (.inr h)
 have L1:=hl1.tr
 rw [←val_tr X] at hfit ⊢
 clear ho hA hl1
 generalize tr X=P at *
 have HFIT:=aa hfit
 have HB0:=aa hB
 have HLZ:=aa hLZ
 clear hfit
 go_enter Tryz.func155,Tryz.ntmps155
 go_wp2_with fail
 refine H1.mono ?_
 rintro e w' ⟨rfl,hw⟩;subst hw
 clear H1
 go_wp2
 go_loopw [4,12] (fun c i wr=>∃(k cy:Nat) (Z':List Nat),k≤P.length∧i=.int .i64 k∧c=.int .u64 cy∧cy≤1∧Out Z Z' zo (zo+k)∧Limbs Z'∧Blk wr bz Z'∧Fr bz w' wr ∧
   sv Z' zo k+val (P.take k)=sv Z zo k+cy*18446744073709551616 ^ k) (fun _ i _=>P.length - (intOf i).toNat)
 case atStart=>exact⟨0,0,Z,Nat.zero_le _,rfl,rfl,by omega,Out.refl _ _ _,HLZ.out,HB0.out,Fr.refl _ _,by simp [au,val]⟩
 case round=>
  obtain⟨k,cy,Z',hk,rfl,rfl,hcy,hout,hlz,hblk,hfr0,hval⟩:=hrel
  have HV:=aa hval
  have HB:=aa hblk
  have HF:=aa hfr0
  have HO:=aa hout
  have hl:=hout.len
  clear hval
  by_cases hkl:k<P.length
  ·rcases L1.fr hao hfr0 hB hblk (hout.wider (Nat.le_refl _) (by omega)) with h0|⟨b,off,rfl,hcell⟩
   ·rw [h0] at hkl;simp at hkl
   ·have hck:=hcell k hkl
    have hfr:=hblk.free (zo+k)
    have hco:=hblk.cell (zo+k) (by omega)
    have z1:=limb_lt M1 k
    have z2:=limb_lt hlz (zo+k)
    have hsame:=hout.same (zo+k) (by omega)
    have ha:=cV (Z'.getD (zo+k) 0) (P.getD k 0) cy hcy
    obtain⟨q1,q2,q3⟩:=dC (Z'.getD (zo+k) 0) (P.getD k 0) cy z2 z1 hcy
    have HS:=aa (b8 Z Z' zo k cy _ _ (P.getD k 0) _ (by omega) hl HV.out (by rw [←hsame];exact q1))
    rw [←val_take_next P k] at HS
    generalize Z'.getD (zo+k) 0=z at *
    generalize P.getD k 0=x at *
    clear hsame q1
    generalize (z+18446744073709551616 - x - cy) % 18446744073709551616=s at *
    generalize bor z x cy=c2 at *
    clear hcell hblk hfr0 hout HV M1 L1 hB hLZ
    go_wp2
    go_roundw
    case rel=>exact⟨k+1,c2,Z'.set (zo+k) s,by omega,by go_num,rfl,q2,(HO.out.wider (Nat.le_refl _) (by omega)).set _ _ (by omega) (by omega),limbs_set hlz _ _ q3,HB.out.set _ s,HF.out.setCell _ _,HS.out⟩
    case measure=>simp [intOf];omega
  ·have ek:k=P.length:=by omega
   subst ek
   rw [List.take_length] at HV
   clear hblk hfr0 hout L1 hB M1 hLZ hl
   go_wp2
   go_loopw [4,7] (fun c i wr2=>∃(k cy:Nat) (Z2:List Nat),k≤n∧i=.int .i64 k∧c=.int .u64 cy∧cy≤1∧Out Z Z2 zo (zo+k)∧Limbs Z2∧Blk wr2 bz Z2∧Fr bz w' wr2 ∧
     sv Z2 zo k+val P=sv Z zo k+cy*18446744073709551616 ^ k) (fun _ i _=>n - (intOf i).toNat)
   case atStart=>exact⟨P.length,cy,Z',hln,rfl,rfl,hcy,HO.out,hlz,HB.out,HF.out,HV.out⟩
   case round=>
    obtain⟨k,cy2,Z2,hk2,rfl,rfl,hcy2,hout2,hlz2,hblk2,hfr2,hval2⟩:=hrel
    clear HV HB HF HO
    have HV:=aa hval2
    have HB:=aa hblk2
    have HF:=aa hfr2
    have HO:=aa hout2
    have hl:=hout2.len
    clear hval2
    by_cases hc0:cy2=0
    ·subst hc0
     have HR:=aa (dE Z Z2 zo k n _ hk2 hzo hout2 (by have h:=HV.out;rw [Nat.zero_mul,Nat.add_zero] at h;exact h))
     clear hblk2 hfr2 hout2 HV
     go_wp2
     go_end0
     exact⟨rfl,Z2,HO.out.wider (Nat.le_refl _) (by omega),hlz2,HB.out,HF.out,HR.out⟩
    ·have hpos:(0:Int)<(cy2:Int):=by omega
     have hkn:k<n:=by
      rcases Nat.lt_or_ge k n with h|h
      ·exact h
      ·have ek:k=n:=by omega
       subst ek
       exact absurd (cX Z Z2 zo k cy2 (val P) hlz2 HFIT.out HV.out) hc0
     have hfr:=hblk2.free (zo+k)
     have hco:=hblk2.cell (zo+k) (by omega)
     have z2:=limb_lt hlz2 (zo+k)
     have hsame:=hout2.same (zo+k) (by omega)
     have ha:=fl (Z2.getD (zo+k) 0) cy2 hcy2
     obtain⟨q1,q2,q3⟩:=dC (Z2.getD (zo+k) 0) 0 cy2 z2 (by omega) hcy2
     have HS:=aa (b8 Z Z2 zo k cy2 _ _ 0 _ (by omega) hl HV.out (by rw [←hsame];exact q1))
     rw [Nat.mul_zero,Nat.add_zero] at HS
     generalize Z2.getD (zo+k) 0=z at *
     clear hsame q1
     generalize (z+18446744073709551616 - 0 - cy2) % 18446744073709551616=s at *
     generalize bor z 0 cy2=c2 at *
     clear hblk2 hfr2 hout2 HV hc0
     go_wp2
     go_roundw
     case rel=>exact⟨k+1,c2,Z2.set (zo+k) s,by omega,by go_num,rfl,q2,(HO.out.wider (Nat.le_refl _) (by omega)).set _ _ (by omega) (by omega),limbs_set hlz2 _ _ q3,HB.out.set _ s,HF.out.setCell _ _,HS.out⟩
     case measure=>simp [intOf];omega
end Go.Proofs.YteehipcoeocojaaGreatDoor
namespace Go.Proofs.YteehipcoeocojaaGreatDoor
open Go.RowKit
open Lm
end Go.Proofs.YteehipcoeocojaaGreatDoor

