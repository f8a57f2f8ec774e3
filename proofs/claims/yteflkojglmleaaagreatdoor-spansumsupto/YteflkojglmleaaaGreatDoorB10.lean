/- Own of a list with room behind it. -/
import Derived.Test.YteflkojglmleaaaGreatDoorB08
import Derived.Test.YteflkojglmleaaaGreatDoorB09
import Derived.Test.YteflkojglmleaaaGreatDoorB06
import Derived.Deep.RegionHeld3
import Derived.Deep.CutBlock
import Derived.Deep.DeepCutAuto
import Derived.Test.YteflkojglmleaaaGreatDoorB04
import Derived.Test.YteflkojglmleaaaGreatDoorB03
import Derived.Test.YteflkojglmleaaaGreatDoorB01
import Derived.Test.YteflkojglmleaaaGreatDoorB07
import Derived.Test.YteflkojglmleaaaGreatDoorB05
set_option maxRecDepth 20000
set_option maxHeartbeats 4000000
namespace Go.Proofs.YteflkojglmleaaaGreatDoor
open Go.RowKit
open Lm
attribute [local go_sem ↓] Go.wp_at_zero Go.wp_at_succ

structure StX (sp:List Value)(w:World)(base L:Nat)(vs:List Value)(rows:Nat→List Nat):Prop where
 list:w.heap[L]?=some (.cells (vs ++ sp).toArray 22 (0,0))
 row:∀i,i<vs.length→Ans w base (vs.getD i aR) (rows i)
 apart:∀i j,i<vs.length→j<vs.length→i≠j→(vs.getD i aR).ownBlock=none∨(vs.getD i aR).ownBlock≠(vs.getD j aR).ownBlock

theorem StX.cell {sp:List Value}{w:World}{base L:Nat}{vs:List Value}{rows:Nat→List Nat}(h:StX sp w base L vs rows)(i:Nat)(hi:i<vs.length):w.cell? ⟨L,i,none⟩=some (vs.getD i aR):=by
 simp [World.cell?,h.list,hi,List.getD,List.getElem?_append_left hi]

theorem StX.free {sp:List Value}{w:World}{base L:Nat}{vs:List Value}{rows:Nat→List Nat}(h:StX sp w base L vs rows)(i:Nat):w.frozen? ⟨L,i,none⟩=false:=by
 simp [World.frozen?,h.list]

theorem StX.store {sp:List Value}{w:World}{base L:Nat}{vs:List Value}{rows:Nat→List Nat}(h:StX sp w base L vs rows)(i g cap:Nat)(hi:i<vs.length)(hv:vs.getD i aR=.slice (some ⟨g,0,none⟩) (rows i).length cap)(j z:Nat)(hz:z<18446744073709551616) :
  StX sp (w.setCell ⟨g,j,none⟩ (.int .u64 (z:Int))) base L vs (upd rows i ((rows i).set j z)):=by
 have hri:=h.row i hi
 have hne:=hri.ne h.list
 rw [hv] at hne
 have hgL:L≠g:=fun e=>hne (by simp [Value.ownBlock,e])
 refine⟨?_,fun m hm=>?_,h.apart⟩
 ·rw [Below.heap_setCell _ _ _ _ hgL];exact h.list
 ·by_cases e:m=i
  ·subst e
   rw [co,hv]
   rw [hv] at hri
   have:=hri.stored j z hz
   rw [List.length_set] at this
   exact this
  ·rw [cX _ _ _ _ e]
   refine⟨ownsRow_setCell_other (h.row m hm).own ?_ _,(h.row m hm).limbs⟩
   have:=h.apart m i hm hi e
   rw [hv] at this
   rcases this with h1|h1
   ·rw [h1];simp
   ·simpa [Value.ownBlock] using h1

theorem StX.grow {sp:List Value}{w w2:World}{base L:Nat}{vs:List Value}{rows:Nat→List Nat}(h:StX sp w base L vs rows)(k:Nat)(hk:k<vs.length)(o:Obj)(v':Value)(r:List Nat)
  (ho:w2.ownsRow base 108 1 v' r.length (r.map lv)) (hl:Limbs r) (hg:(w.alloc o).grownBy w2 (vs.getD k aR).ownBlock) (hat:v'.ownBlock=(vs.getD k aR).ownBlock∨v'.ownBlock=some (w.alloc o).heap.size) :
  StX sp (w2.setCell ⟨L,k,none⟩ v') base L (vs.set k v') (upd rows k r):=by
 have hL:=lt_of_block h.list
 have hsz:(w.alloc o).heap.size=w.heap.size+1:=by simp
 have hneL:=(h.row k hk).ne h.list
 have hL2:w2.heap[L]?=some (.cells (vs ++ sp).toArray 22 (0,0)):=by
  have e1:(w.alloc o).heap[L]?=w.heap[L]?:=Below.heap_alloc w o L hL
  rw [hg.block L (by omega) (fun e=>hneL e.symm),e1];exact h.list
 have hneL':v'.ownBlock≠some L:=by
  rcases hat with e|e
  ·rw [e];exact hneL
  ·rw [e];intro e2;simp at e2;omega
 refine⟨?_,fun m hm=>?_,fun i j hi hj hij=>?_⟩
 ·have hlt:=lt_of_block hL2
  have h':w2.heap[L]=.cells (vs ++ sp).toArray 22 (0,0):=by simpa [Array.getElem?_eq_getElem hlt] using hL2
  show (w2.heap.modify L _)[L]?=_
  rw [Array.getElem?_eq_getElem (by simpa using hlt),Array.getElem_modify_self,h']
  simp [List.set_append_left _ _ hk]
 ·rw [List.length_set] at hm
  by_cases e:m=k
  ·subst e
   have ev:(vs.set m v').getD m aR=v':=by simp [List.getD,hm]
   rw [co,ev]
   exact⟨ownsRow_setCell_other ho hneL' _,hl⟩
  ·have ev:(vs.set k v').getD m aR=vs.getD m aR:=by
    simp [List.getD,List.getElem?_set_ne (Ne.symm e)]
   rw [cX _ _ _ _ e,ev]
   have hr:=h.row m hm
   refine⟨ownsRow_setCell_other (((hr.own).alloc o).kept hg ?_) (hr.ne h.list) _,hr.limbs⟩
   exact h.apart m k hm hk e
 ·rw [List.length_set] at hi hj
  have hlt:∀m,m<vs.length→∀g,(vs.getD m aR).ownBlock=some g→g<w.heap.size:=fun m hm g hg=>((h.row m hm).own.lt g hg).2
  by_cases e1:i=k
  ·subst e1
   have ev:(vs.set i v').getD i aR=v':=by simp [List.getD,hi]
   have ev2:(vs.set i v').getD j aR=vs.getD j aR:=by simp [List.getD,List.getElem?_set_ne hij]
   rw [ev,ev2]
   rcases hat with e|e
   ·rw [e];exact h.apart i j hi hj hij
   ·right
    rw [e]
    intro e2
    have:=hlt j hj _ e2.symm
    omega
  ·by_cases e2:j=k
   ·subst e2
    have ev:(vs.set j v').getD j aR=v':=by simp [List.getD,hj]
    have ev2:(vs.set j v').getD i aR=vs.getD i aR:=by simp [List.getD,List.getElem?_set_ne (Ne.symm e1)]
    rw [ev,ev2]
    rcases hat with e|e
    ·rw [e];exact h.apart i j hi hj hij
    ·right
     rw [e]
     intro e3
     have:=hlt i hi _ e3
     omega
   ·have ev:(vs.set k v').getD i aR=vs.getD i aR:=by simp [List.getD,List.getElem?_set_ne (Ne.symm e1)]
    have ev2:(vs.set k v').getD j aR=vs.getD j aR:=by simp [List.getD,List.getElem?_set_ne (Ne.symm e2)]
    rw [ev,ev2]
    exact h.apart i j hi hj hij

theorem StX.congr {sp:List Value}{w:World}{base L:Nat}{vs:List Value}{rows rows':Nat→List Nat}(h:StX sp w base L vs rows)(he:∀i,i<vs.length→rows i=rows' i):StX sp w base L vs rows':=
 ⟨h.list,fun i hi=>by rw [←he i hi];exact h.row i hi,h.apart⟩

theorem StX.kept {sp:List Value}{w w2:World}{base L:Nat}{vs:List Value}{rows:Nat→List Nat}{v:Value}(h:StX sp w base L vs rows)(k:Nat)(hk:k<vs.length)(hv:vs.getD k aR=v)(o:Obj)(hg:(w.alloc o).grownBy w2 v.ownBlock) :
  w2.cell? ⟨L,k,none⟩=some v∧w2.frozen? ⟨L,k,none⟩=false:=by
 have hL:=lt_of_block h.list
 have hneL:=(h.row k hk).ne h.list
 rw [hv] at hneL
 have hsz:(w.alloc o).heap.size=w.heap.size+1:=by simp
 have e:w2.heap[L]?=w.heap[L]?:=by
  rw [hg.block L (by omega) (fun e=>hneL e.symm)];exact Below.heap_alloc w o L hL
 refine⟨?_,?_⟩
 ·rw [World.cell?_of_block (w:=w) (a:=⟨L,k,none⟩) e,h.cell k hk,hv]
 ·rw [World.frozen?_of_block (w:=w) (a:=⟨L,k,none⟩) e];exact h.free k

theorem pK (sp:List Value)(cap:Nat)(L base:Nat)(vs:List Value)(rows:Nat→List Nat)(w:World)(h:StX sp w base L vs rows)(hn:vs.length≤1000)(hl:∀i,i<vs.length→(rows i).length≤17592186044000)(hb:base≤L) :
  Calls Tryz.prog 37 #[.slice (some ⟨L,0,none⟩) vs.length cap] w fun e w'=>e=.returned (.bool true)∧BK base w w':=by
 go_enter Tryz.func37,Tryz.ntmps37
 go_wp2
 go_loopw [15] (fun i wr=>∃k:Nat,k≤vs.length∧i=.int .i64 k∧StX sp wr base L vs (cg rows k)∧BK base w wr) (fun i _=>vs.length - (intOf i).toNat)
 case atStart=>exact⟨0,Nat.zero_le _,rfl,h.congr (fun i _=>by simp [cg]),BK.refl _ _⟩
 case round=>
  obtain⟨k,hk,rfl,hst,hbl⟩:=hrel
  by_cases hkl:k<vs.length
  ·have hck:=hst.cell k hkl
   have hrow:=hst.row k hkl
   have hrk:cg rows k k=rows k:=by simp [cg]
   rw [hrk] at hrow
   have hlk:=hl k hkl
   have ec:(k:Int) % 251+1=((k % 251+1:Nat):Int):=by omega
   have bc:k % 251+1<18446744073709551616:=by omega
   have HRK:=ab hrk
   have HOV:Hid (over rows k=List.replicate (rows k).length (k % 251+1)):=rfl
   have HST:=ab hst
   have HBL:=ab hbl
   generalize k % 251+1=c at *
   clear hst hbl hrk h
   rcases hrow.form with ⟨hv,hz⟩|⟨g,cap,hv,hg1,hg2,hcap,hmax,_,_⟩
   ·rw [hv] at hck
    have HZ:=ab hz
    clear hrow hv hz
    go_wp2
    refine wp_loop_rounds 1 ?_
    rw [rounds_succ]
    go_wp2
    go_roundw
    case rel=>
     refine⟨k+1,by omega,by go_num,HST.out.congr (fun m _=>?_),HBL.out⟩
     by_cases e:m=k
     ·subst e
      rw [HRK.out]
      simp [cg,over,HZ.out]
     ·exact jF rows k m e
    case measure=>simp [intOf];omega
   ·rw [hv] at hck
    go_wp2
    go_loopw [22] (fun i wr=>∃j:Nat,j≤(rows k).length∧i=.int .i64 j∧StX sp wr base L vs (upd (cg rows k) k (List.replicate j c ++ (rows k).drop j))∧BK base w wr) (fun i _=>(rows k).length - (intOf i).toNat)
    case atStart=>
     refine⟨0,Nat.zero_le _,rfl,HST.out.congr (fun m _=>?_),HBL.out⟩
     by_cases e:m=k
     ·subst e;rw [HRK.out,co];simp
     ·rw [cX _ _ _ _ e]
    case round=>
     obtain⟨j,hj,rfl,hst,hbl⟩:=hrel
     clear HST HBL
     by_cases hjl:j<(rows k).length
     ·have hr2:=hst.row k hkl
      rw [co] at hr2
      have hfl:=o9 (rows k) j c hj
      rcases hr2.form with ⟨hv2,_⟩|⟨g',cap',hv2,hg1',hg2',_,_,hfr',hcl'⟩
      ·rw [hv2] at hv;cases hv
      ·have hgg:g'=g:=by rw [hv2] at hv;simp only [Value.slice.injEq,Option.some.injEq,Addr.mk.injEq] at hv;exact hv.1.1
       subst hgg
       have hfr:=hfr' j
       have hco:=hcl' j (by omega)
       have hst2:=hst.store k g' cap' hkl (by rw [co];exact hv2) j c bc
       rw [co,ou (rows k) j c hjl] at hst2
       have HS:=ab hst2
       have HL:=ab (hbl.store (hv2 ▸ hr2) j (.int .u64 (c:Int)))
       generalize (List.replicate j c ++ (rows k).drop j).getD j 0=o at *
       clear hst hbl hst2 hr2 hv2 hfr' hcl' hrow hv hck hfl
       go_wp2
       go_roundw
       case rel=>
        refine⟨j+1,by omega,by go_num,HS.out.congr (fun m _=>?_),HL.out⟩
        by_cases e:m=k
        ·subst e;rw [co,co]
        ·rw [cX _ _ _ _ e,cX _ _ _ _ e,cX _ _ _ _ e]
       case measure=>simp [intOf];omega
     ·have ej:j=(rows k).length:=by omega
      subst ej
      have HS:=ab hst
      have HL:=ab hbl
      clear hst hbl hrow hv hck
      go_wp2
      go_roundw
      case rel=>
       refine⟨k+1,by omega,by go_num,HS.out.congr (fun m _=>?_),HL.out⟩
       by_cases e:m=k
       ·subst e
        rw [co]
        have:cg rows (m+1) m=over rows m:=by simp [cg]
        rw [this,HOV.out];simp
       ·rw [cX _ _ _ _ e];exact jF rows k m e
      case measure=>simp [intOf];omega
  ·have ek:k=vs.length:=by omega
   subst ek
   have hst3:StX sp wr base L vs (over rows):=hst.congr (fun m hm=>by simp [cg,hm])
   have HST:=ab hst3
   have HBL:=ab hbl
   clear hst hbl hst3 h
   obtain⟨i0,hi,hz0,hz1,hz2⟩:=info_parts Tryz.infoU
   go_wp2
   go_loopw [36] (fun i wr=>∃(k:Nat) (us:List Value),k≤vs.length∧us.length=vs.length∧i=.int .i64 k∧StX sp wr base L us (fun m=>if m<k then over rows m ++ bM (300+5*m) else over rows m)∧BK base w wr) (fun i _=>vs.length - (intOf i).toNat)
   case atStart=>exact⟨0,vs,Nat.zero_le _,rfl,rfl,HST.out.congr (fun m _=>by simp),HBL.out⟩
   case round=>
    obtain⟨k,us,hk',hus,rfl,hst,hbl⟩:=hrel
    clear HST HBL
    by_cases hkl':k<vs.length
    ·have hku:k<us.length:=by omega
     have hck:=hst.cell k hku
     have hrow:=hst.row k hku
     simp only [Nat.lt_irrefl,if_false] at hrow
     have hfr:=hst.free k
     have hlen:(over rows k).length≤17592186044000:=by unfold over;rw [List.length_replicate];exact hl k hkl'
     have eb:(300:Int)+5*(k:Int)=((300+5*k:Nat):Int):=by omega
     have HST:=ab hst
     have HBL:=ab hbl
     have HV:=ab (rfl:us.getD k aR=us.getD k aR)
     have HB5:Hid (300+5*k<6000):=by unfold Hid;omega
     obtain⟨bb,hbb⟩:∃bb,bb=300+5*k:=⟨_,rfl⟩
     rw [←hbb] at eb
     have hb6:bb<6000:=by omega
     have HBB:=ab hbb
     generalize hv:us.getD k aR=v at *
     have HVV:=ab hv
     obtain⟨b1,h1⟩:∃b1,b1=bb+1:=⟨_,rfl⟩
     obtain⟨b2,h2⟩:∃b2,b2=bb+2:=⟨_,rfl⟩
     obtain⟨b3,h3⟩:∃b3,b3=bb+3:=⟨_,rfl⟩
     obtain⟨b4,h4⟩:∃b4,b4=bb+4:=⟨_,rfl⟩
     have g1:(bb:Int)+1=(b1:Int):=by omega
     have g2:(bb:Int)+2=(b2:Int):=by omega
     have g3:(bb:Int)+3=(b3:Int):=by omega
     have g4:(bb:Int)+4=(b4:Int):=by omega
     have q1:b1<18446744073709551616:=by omega
     have q2:b2<18446744073709551616:=by omega
     have q3:b3<18446744073709551616:=by omega
     have q4:b4<18446744073709551616:=by omega
     have H5:Hid ([bb,b1,b2,b3,b4]=bM (300+5*k)):=ab (by rw [h1,h2,h3,h4,hbb];rfl)
     clear hst hbl hv hbb HV h1 h2 h3 h4
     go_wp2_with (at_builtin;refine wpList_append_own_at _ rfl _ _ 22 rfl base 108 i0 (.int .u64 0) 1 8 Tryz.underlying22 hi hz0 hz1 hz2 rfl (by decide) v (over rows k).length _ rfl (hrow.own.alloc _) ⟨wr.heap.size,0,none⟩ 5 5 ([bb,b1,b2,b3,b4].map lv) rfl rfl (f7 [bb,b1,b2,b3,b4]) (dY _) (by unfold maxLen;omega) (by omega) (by have:=lt_of_block HST.out.list;simp;omega) ?_;intro v' w2 hown2 hgrow2 _ hat2;have hkp:=HST.out.kept k hku HVV.out _ hgrow2;have hck2:=hkp.1;have hfr2:=hkp.2;clear hkp;obtain⟨g5,cap5,hv5⟩:=ff hown2 (by omega);subst hv5;have HO:=ab hown2;have HG:=ab hgrow2;have HAT:=ab hat2;clear hown2 hgrow2 hat2)
     go_roundw
     case rel=>
      refine⟨k+1,us.set k _,by omega,by rw [List.length_set];exact hus,by go_num,(HST.out.grow k hku _ _ (over rows k ++ bM (300+5*k)) ?_ ?_ (by rw [HVV.out];exact HG.out) (by rw [HVV.out];exact HAT.out)).congr (fun m _=>?_),?_⟩
      ·rw [←H5.out,List.length_append,List.map_append];exact HO.out
      ·exact rM rows k (by omega)
      ·by_cases e:m=k
       ·subst e;rw [co];simp
       ·rw [cX _ _ _ _ e]
        by_cases h1:m<k
        ·rw [if_pos h1,if_pos (by omega)]
        ·rw [if_neg h1,if_neg (by omega)]
      ·have hLs:=lt_of_block HST.out.list
       exact HBL.out.grew hrow HST.out.list hb HG.out k _
     case measure=>simp [intOf];omega
    ·have ek:k=vs.length:=by omega
     subst ek
     have hst4:StX sp wr base L us (fun m=>over rows m ++ bM (300+5*m)):=hst.congr (fun m hm=>by simp [show m<vs.length by omega])
     have HST:=ab hst4
     have HBL:=ab hbl
     clear hst hbl hst4 hi hz0 hz1 hz2
     go_wp2
     go_loop [64] (fun i=>∃k:Nat,k≤vs.length∧i=.int .i64 k) (fun i=>vs.length - (intOf i).toNat)
     case atStart=>exact⟨0,Nat.zero_le _,rfl⟩
     case round=>
      obtain⟨k,hk4,rfl⟩:=hrel
      by_cases hkl4:k<vs.length
      ·have hku:k<us.length:=by omega
       have hck:=HST.out.cell k hku
       have hrow:=HST.out.row k hku
       have hlr:(over rows k ++ bM (300+5*k)).length=(rows k).length+5:=by simp [over,bM]
       rcases hrow.form with ⟨_,h0⟩|⟨g,cap,hv,_,_,hgl,hgm,_,hgc⟩
       ·rw [h0] at hlr;simp at hlr
       ·rw [hlr] at hv hgl hgc
        rw [hv] at hck
        have hzl:=hl k hkl4
        have HGC:=ab hgc
        clear hrow hgc hv hlr
        go_wp2
        go_loop [71] (fun i=>∃j:Nat,j≤(rows k).length+5∧i=.int .i64 j) (fun i=>(rows k).length+5 - (intOf i).toNat)
        case atStart=>exact⟨0,Nat.zero_le _,rfl⟩
        case round=>
         obtain⟨j,hj,rfl⟩:=hrel
         by_cases hjl:j<(rows k).length+5
         ·have hcj:=HGC.out j hjl
          by_cases hj2:j<(rows k).length
          ·rw [pO rows k j hj2] at hcj
           have ec:(k:Int) % 251+1=((k % 251+1:Nat):Int):=by omega
           have bc:k % 251+1<18446744073709551616:=by omega
           generalize k % 251+1=c at *
           have hne:((c:Int) != (c:Int))=false:=by simp
           have i1:(j:Int)<((rows k).length:Int):=by omega
           have hd2:decide (((rows k).length:Int)≤(j:Int))=false:=decide_eq_false (by omega)
           generalize (rows k).length=zl at *
           go_wp2
           go_round
           case rel=>exact⟨j+1,by omega,by go_num⟩
           case measure=>simp [intOf];omega
          ·rw [oV rows k j (by omega) hjl] at hcj
           have hd1:decide ((j:Int)<((rows k).length:Int))=false:=decide_eq_false (by omega)
           have i1:((rows k).length:Int)≤(j:Int):=by omega
           generalize (rows k).length=zl at *
           obtain⟨t,ht⟩:∃t,t=300+5*k+(j - zl):=⟨_,rfl⟩
           rw [←ht] at hcj
           have et:(300:Int)+5*(k:Int)+(j:Int) - ((zl:Int)+5)+5=(t:Int):=by omega
           have bt:t<18446744073709551616:=by omega
           have hne:((t:Int) != (t:Int))=false:=by simp
           have HT:=ab ht
           clear ht
           go_wp2
           go_round
           case rel=>exact⟨j+1,by omega,by go_num⟩
           case measure=>simp [intOf];omega
         ·go_wp2
          go_round
          case rel=>exact⟨k+1,by omega,by go_num⟩
          case measure=>simp [intOf];omega
      ·go_wp2
       go_ret
       exact⟨rfl,HBL.out⟩

theorem aJ {W0 W:World}(h:Below W0.heap.size W0 W)(o:Obj):Below W0.heap.size W0 (W.alloc o):=h.alloc h.size _
theorem bE {W0 W:World}(h:Below W0.heap.size W0 W):Below W0.heap.size W0 W.drew:=h.drew
theorem eU {W t:World}{o:Obj}(h:Below (W.alloc o).heap.size (W.alloc o) t):t.heap[W.heap.size]?=some o:=ac h (heap_alloc_new W o)
theorem jM {W t:World}{o:Obj}(h:Below (W.alloc o).drew.heap.size (W.alloc o).drew t):t.heap[W.heap.size]?=some o:=ac h (heap_alloc_new W o)

def vof (b:Bool)(X:List Nat)(ex:Int)(L:Nat):Int:=zz b (val X)*2 ^ (ex+L).toNat

def flt (ex1 ex2 V1 V2:Int):Int:=if aj ex1=true then (if aj ex2=true then (if V2<V1 then 100 else 0) else 80) else 80

theorem jw {y z:Int}:0<az y z ↔ z<y:=by
 unfold az
 split
 ·omega
 ·split <;> omega

def V8 (w:World)(b:Bool)(a:Option Addr)(n c:Nat)(E:Int)(L:Nat)(V:Int):Prop:=
 ∃M,Dn w b (.slice a n c) M∧Rp L M E V∧Nr8 M E∧blen M.natAbs≤1125899906840000∧-1152921504606846976≤E∧E≤1152921504606846976

theorem V8.below {w w':World}{b:Bool}{a:Option Addr}{n c:Nat}{E:Int}{L:Nat}{V:Int}(h:V8 w b a n c E L V)(hb:Below w.heap.size w w'):V8 w' b a n c E L V:=by
 obtain⟨M,h1,h2⟩:=h
 exact⟨M,h1.below hb,h2⟩

theorem V8.hexa {w:World}{b0:Bool}{a0:Option Addr}{n0 c0:Nat}{E0:Int}{L:Nat}{V:Int}{g:Nat}{p:Bool}{a:Option Addr}{n c:Nat}{e:Int}{p':Bool}{a':Option Addr}{n' c':Nat}{e':Int}{t:TypeId}(h:V8 w b0 a0 n0 c0 E0 L V)(hl:w.heap[g]?=some (.cells #[.bool p,.slice a n c,.int .i64 e,.bool p',.slice a' n' c',.int .i64 e'] t))(b1:Bool)(a1:Option Addr)(n1 c1:Nat)(e1:Int)(b2:Bool)(a2:Option Addr)(n2 c2:Nat)(e2:Int) :
  V8 ((((((w.setCell ⟨g,0,none⟩ (.bool b1)).setCell ⟨g,1,none⟩ (.slice a1 n1 c1)).setCell ⟨g,2,none⟩ (.int .i64 e1)).setCell ⟨g,3,none⟩ (.bool b2)).setCell ⟨g,4,none⟩ (.slice a2 n2 c2)).setCell ⟨g,5,none⟩ (.int .i64 e2)) b0 a0 n0 c0 E0 L V:=by
 obtain⟨M,⟨h1,ds,h2,h3⟩,h4⟩:=h
 exact⟨M,⟨h1,ds,h2.hexa hl b1 a1 n1 c1 e1 b2 a2 n2 c2 e2,h3⟩,h4⟩

theorem V8.zero (w:World)(L:Nat):V8 w false none 0 0 0 L 0:=
 ⟨0,⟨by decide,Num.nil8 w⟩,⟨by omega,by simp⟩,.inl ⟨rfl,rfl⟩,by simp [blen],by omega,by omega⟩

theorem V8.cmp {b1:Bool}{a1:Option Addr}{n1 c1:Nat}{E1:Int}{b2:Bool}{a2:Option Addr}{n2 c2:Nat}{E2:Int}{L:Nat}{V1 V2:Int}{w:World}(h1:V8 w b1 a1 n1 c1 E1 L V1)(h2:V8 w b2 a2 n2 c2 E2 L V2) :
  Calls Tryz.prog 20 #[.agg #[.bool b1,.slice a1 n1 c1,.int .i64 E1],.agg #[.bool b2,.slice a2 n2 c2,.int .i64 E2]] w fun e w'=>e=.returned (.int .i64 (az V1 V2))∧Below w.heap.size w w':=by
 obtain⟨M1,d1,r1,_,f1,x1,y1⟩:=h1
 obtain⟨M2,d2,r2,_,f2,x2,y2⟩:=h2
 have p1:=r1.1
 have p2:=r2.1
 refine (ra b1 a1 n1 c1 M1 E1 b2 a2 n2 c2 M2 E2 L (E1+L).toNat (E2+L).toNat w d1 d2 f1 f2 x1 y1 x2 y2 (by omega) (by omega)).mono fun e w' h=>?_
 rw [r1.2,r2.2] at h
 exact h

theorem jq (b:Bool)(a:Option Addr)(c:Nat)(X:List Nat)(ex:Int)(L:Nat)(w:World)(hA:Arg w (.slice a X.length c) X)(hf:X.length≤17592186043904)(hE:aj ex=true)(hL:4611686018427387904≤L) :
  Calls Tryz.prog 19 #[.agg #[.bool b,.slice a X.length c,.int .i64 ex]] w fun e w'=>(∃b' a' n' c' E',e=.returned (.agg #[.bool b',.slice a' n' c',.int .i64 E'])∧V8 w' b' a' n' c' E' L (vof b X ex L))∧Below w.heap.size w w':=by
 refine (oZ b a c X ex w hA hf hE).mono fun e w' h=>?_
 obtain⟨⟨b',a',n',c',he,hd⟩,hb⟩:=h
 have F:=bJ (b:=b) (ex:=ex) hA hf hE
 have hr:=(aM ex).1 hE
 exact⟨⟨b',a',n',c',_,he,_,hd,(Rp.make L (zz b (val X)) ex (by omega)).norm,bj _ _,by omega,F.2.1,F.2.2.1⟩,hb⟩

def gQ (U:World)(L:Nat)(V1 V2:Int)(s:Value)(wx:World):Prop:=
 ∃(g:Nat) (b:Bool) (a:Option Addr) (n k:Nat) (e:Int) (b':Bool) (a':Option Addr) (n' k':Nat) (e':Int),s=.pointer (some ⟨g,0,none⟩)∧wx.heap[g]?=some (.cells #[.bool b,.slice a n k,.int .i64 e,.bool b',.slice a' n' k',.int .i64 e'] 43)∧V8 wx b a n k e L V1∧V8 wx b' a' n' k' e' L V2∧Below U.heap.size U wx∧U.heap.size≤g

theorem pH {U t:World}{L:Nat}{V1 V2:Int}{b:Bool}{a:Option Addr}{n k:Nat}{e:Int}{b':Bool}{a':Option Addr}{n' k':Nat}{e':Int}(h1:V8 t b a n k e L V1)(h2:V8 t b' a' n' k' e' L V2)(g:Below U.heap.size U t):gQ U L V1 V2 (.pointer (some ⟨t.heap.size,0,none⟩)) (t.alloc (.cells #[.bool b,.slice a n k,.int .i64 e,.bool b',.slice a' n' k',.int .i64 e'] 43)):=
 ⟨_,b,a,n,k,e,b',a',n',k',e',rfl,heap_alloc_new _ _,h1.below (bG _ _),h2.below (bG _ _),aJ g _,g.size⟩

theorem kd {U t:World}{L:Nat}{V1 V2:Int}{b:Bool}{a:Option Addr}{n k:Nat}{e:Int}{b':Bool}{a':Option Addr}{n' k':Nat}{e':Int}{gg:Nat}(hq:t.heap[gg]?=some (.cells #[.bool false,.slice none 0 0,.int .i64 0,.bool false,.slice none 0 0,.int .i64 0] 43))(hge:U.heap.size≤gg)(h1:V8 t b a n k e L V1)(h2:V8 t b' a' n' k' e' L V2)(g:Below U.heap.size U t) :
  gQ U L V1 V2 (.pointer (some ⟨gg,0,none⟩)) ((((((t.setCell ⟨gg,0,none⟩ (.bool b)).setCell ⟨gg,1,none⟩ (.slice a n k)).setCell ⟨gg,2,none⟩ (.int .i64 e)).setCell ⟨gg,3,none⟩ (.bool b')).setCell ⟨gg,4,none⟩ (.slice a' n' k')).setCell ⟨gg,5,none⟩ (.int .i64 e')):=
 ⟨_,b,a,n,k,e,b',a',n',k',e',rfl,aK hq _ _ _ _ _ _,h1.hexa hq b a n k e b' a' n' k' e',h2.hexa hq b a n k e b' a' n' k' e',aG g hge _ _ _ _ _ _,hge⟩

theorem lL (b1:Bool)(a1:Option Addr)(k1:Nat)(X:List Nat)(ex1:Int)(b2:Bool)(a2:Option Addr)(k2:Nat)(Y:List Nat)(ex2:Int)(L:Nat)(w:World)(hA:Arg w (.slice a1 X.length k1) X)(hB:Arg w (.slice a2 Y.length k2) Y)(f1:X.length≤17592186043904)(f2:Y.length≤17592186043904)(hL:4611686018427387904≤L) :
  ∃o c,dG w b1 a1 X.length k1 ex1 b2 a2 Y.length k2 ex2 o c∧bh o c=flt ex1 ex2 (vof b1 X ex1 L) (vof b2 Y ex2 L):=by
 unfold flt
 by_cases hE1:aj ex1=true
 ·rw [if_pos hE1]
  by_cases hE2:aj ex2=true
  ·rw [if_pos hE2]
   have r1:=(aM ex1).1 hE1
   have r2:=(aM ex2).1 hE2
   refine⟨az (vof b1 X ex1 L) (vof b2 Y ex2 L),0,fun W hg=>gN b1 a1 k1 X ex1 b2 a2 k2 Y ex2 L _ _ W (hA.below hg) (hB.below hg) (by omega) (by omega) hE1 hE2 hL (by omega) (by omega),?_⟩
   unfold bh
   rw [if_pos rfl]
   simp only [jw]
  ·rw [if_neg hE2]
   exact⟨0,80,fun W hg=>qC b1 a1 k1 X ex1 b2 a2 Y.length k2 ex2 W (hA.below hg) hE1 (by simpa using hE2),by decide⟩
 ·rw [if_neg hE1]
  exact⟨0,80,fun W hg=>uq b1 a1 X.length k1 ex1 b2 a2 Y.length k2 ex2 W (by simpa using hE1),by decide⟩

def SRV (w:World)(base:Nat)(b1:Bool)(v1:Value)(e1:Int)(b2:Bool)(v2:Value)(e2 c fl:Int)(L:Nat)(V1 V2:Int):Prop:=
 (fl≠0∧c=fl∧b1=false∧v1=.slice none 0 0∧e1=0∧b2=false∧v2=.slice none 0 0∧e2=0) ∨
  (fl=0∧∃M1 E1 M2 E2,SR w base b1 v1 e1 b2 v2 e2 c M1 E1 M2 E2∧Rp L M1 E1 V1∧Nr8 M1 E1∧Rp L M2 E2 V2∧Nr8 M2 E2)

theorem SRV.below {w w':World}{base:Nat}{b1:Bool}{v1:Value}{e1:Int}{b2:Bool}{v2:Value}{e2 c fl:Int}{L:Nat}{V1 V2:Int}(h:SRV w base b1 v1 e1 b2 v2 e2 c fl L V1 V2)(hb:Below w.heap.size w w'):SRV w' base b1 v1 e1 b2 v2 e2 c fl L V1 V2:=by
 rcases h with h|⟨h0,M1,E1,M2,E2,h1,h2⟩
 ·exact .inl h
 ·exact .inr ⟨h0,M1,E1,M2,E2,h1.below hb,h2⟩

theorem SRV.base {w:World}{base base':Nat}{b1:Bool}{v1:Value}{e1:Int}{b2:Bool}{v2:Value}{e2 c fl:Int}{L:Nat}{V1 V2:Int}(h:SRV w base b1 v1 e1 b2 v2 e2 c fl L V1 V2)(hb:base'≤base):SRV w base' b1 v1 e1 b2 v2 e2 c fl L V1 V2:=by
 rcases h with h|⟨h0,M1,E1,M2,E2,h1,h2⟩
 ·exact .inl h
 ·exact .inr ⟨h0,M1,E1,M2,E2,h1.base hb,h2⟩

theorem SRV.hexa {w:World}{base g:Nat}{b1:Bool}{v1:Value}{e1:Int}{b2:Bool}{v2:Value}{e2 c fl:Int}{L:Nat}{V1 V2:Int}{a0 a1 a2 a3 a4 a5:Value}{t:TypeId}(h:SRV w base b1 v1 e1 b2 v2 e2 c fl L V1 V2)(hl:w.heap[g]?=some (.cells #[a0,a1,a2,a3,a4,a5] t))(ht:t≠108)(u0 u1 u2 u3 u4 u5:Value) :
  SRV ((((((w.setCell ⟨g,0,none⟩ u0).setCell ⟨g,1,none⟩ u1).setCell ⟨g,2,none⟩ u2).setCell ⟨g,3,none⟩ u3).setCell ⟨g,4,none⟩ u4).setCell ⟨g,5,none⟩ u5) base b1 v1 e1 b2 v2 e2 c fl L V1 V2:=by
 rcases h with h|⟨h0,M1,E1,M2,E2,h1,h2⟩
 ·exact .inl h
 ·exact .inr ⟨h0,M1,E1,M2,E2,h1.hexa hl ht u0 u1 u2 u3 u4 u5,h2⟩

def bB (w:World)(e:Ending)(w':World)(fl:Int)(L:Nat)(V1 V2:Int):Prop:=
 (∃b1 a1 n1 k1 e1 b2 a2 n2 k2 e2 c,e=.returned (.tuple #[.agg #[.bool b1,.slice a1 n1 k1,.int .i64 e1,.bool b2,.slice a2 n2 k2,.int .i64 e2],.int .i64 c])∧SRV w' w.heap.size b1 (.slice a1 n1 k1) e1 b2 (.slice a2 n2 k2) e2 c fl L V1 V2)∧Below w.heap.size w w'

theorem Ans.nil10 (w:World)(base:Nat):Ans w base (.slice none 0 0) []:=by
 obtain⟨rs,h1,h2⟩:∃rs,Ans w base (.slice none 0 0) rs∧rs=[]:=⟨[],⟨⟨rfl,.inl ⟨rfl,rfl⟩⟩,by intro z hz;cases hz⟩,rfl⟩
 rw [←h2];exact h1

theorem SRV.lists {w:World}{base:Nat}{b1:Bool}{v1:Value}{e1:Int}{b2:Bool}{v2:Value}{e2 c fl:Int}{L:Nat}{V1 V2:Int}(h:SRV w base b1 v1 e1 b2 v2 e2 c fl L V1 V2):∃r1 r2,Ans w base v1 r1∧Ans w base v2 r2∧r1.length≤1048576∧r2.length≤1048576∧(v1.ownBlock=none∨v1.ownBlock≠v2.ownBlock):=by
 have hnil:∃r1 r2,Ans w base (.slice none 0 0) r1∧Ans w base (.slice none 0 0) r2∧r1.length≤1048576∧r2.length≤1048576∧((Value.slice none 0 0).ownBlock=none∨(Value.slice none 0 0).ownBlock≠(Value.slice none 0 0).ownBlock):=
  ⟨[],[],Ans.nil10 w base,Ans.nil10 w base,by simp,by simp,.inl rfl⟩
 have hl:∀ {b:Bool} {v:Value} {ex M E:Int},DR w base b v ex 0 M E→∃rs,Ans w base v rs∧rs.length≤1048576:=by
  intro b v ex M E hd
  obtain⟨rs,g1,g2|g2|g2⟩:=hd
  ·exact⟨rs,g1,bI g2.2.2.2.1 g2.2.2.1 (by have:=g2.2.2.2.2.2.1;omega)⟩
  ·exact absurd g2.1 (by decide)
  ·exact absurd g2.1 (by decide)
 rcases h with ⟨_,_,_,rfl,_,_,rfl,_⟩|⟨_,M1,E1,M2,E2,h1,_⟩
 ·exact hnil
 ·by_cases hc:c=0
  ·obtain⟨d1,d2,d3⟩:=h1.2.1 hc
   obtain⟨r1,g1,l1⟩:=hl d1
   obtain⟨r2,g2,l2⟩:=hl d2
   exact⟨r1,r2,g1,g2,l1,l2,d3⟩
  ·obtain⟨_,rfl,_,_,rfl,_⟩:=h1.2.2 hc
   exact hnil

theorem dT (b:Bool)(a:Option Addr)(n k:Nat)(ex:Int)(b':Bool)(a':Option Addr)(n' k':Nat)(ex' r fl:Int)(b1:Bool)(a1:Option Addr)(n1 k1:Nat)(E1:Int)(b2:Bool)(a2:Option Addr)(n2 k2:Nat)(E2:Int)(L:Nat)(V1 V2:Int)(base:Nat)(w:World)(hS:SRV w base b (.slice a n k) ex b' (.slice a' n' k') ex' r fl L V1 V2)(h1:fl=0→V8 w b1 a1 n1 k1 E1 L V1)(h2:fl=0→V8 w b2 a2 n2 k2 E2 L V2) :
  Calls Tryz.prog 10 #[.agg #[.bool b,.slice a n k,.int .i64 ex,.bool b',.slice a' n' k',.int .i64 ex'],.int .i64 r,.agg #[.bool b1,.slice a1 n1 k1,.int .i64 E1,.bool b2,.slice a2 n2 k2,.int .i64 E2],.int .i64 fl] w fun e w'=>e=.returned (.bool true)∧Below w.heap.size w w':=by
 rcases hS with ⟨h0,rfl,rfl,g1,rfl,rfl,g2,rfl⟩|⟨rfl,M1,X1,M2,X2,hs,r1,m1,r2,m2⟩
 ·cases g1
  cases g2
  exact ll r b1 a1 n1 k1 E1 b2 a2 n2 k2 E2 w h0
 ·obtain⟨N1,d1,q1,s1,_⟩:=h1 rfl
  obtain⟨N2,d2,q2,s2,_⟩:=h2 rfl
  obtain⟨rfl,rfl⟩:=Rp.one r1 q1 m1 s1
  obtain⟨rfl,rfl⟩:=Rp.one r2 q2 m2 s2
  exact nQ b a n k ex b' a' n' k' ex' r b1 a1 n1 k1 _ _ b2 a2 n2 k2 _ _ base w hs d1 d2

theorem cm.two10 {w w':World}{base:Nat}{vs:List Value}{rss:List (List Nat)}{v1 v2:Value}{r1 r2:List Nat}(h:cm w base vs rss)(hb:Below w.heap.size w w')(hbase:base≤w.heap.size)(h1:Ans w' w.heap.size v1 r1)(h2:Ans w' w.heap.size v2 r2)(hap:v1.ownBlock=none∨v1.ownBlock≠v2.ownBlock):cm w' base (vs ++ [v1,v2]) (rss ++ [r1,r2]):=by
 have e0:∀i,i<vs.length→(vs ++ [v1,v2]).getD i aR=vs.getD i aR:=fun i hi=>by simp [List.getD,List.getElem?_append_left hi]
 have e1:(vs ++ [v1,v2]).getD vs.length aR=v1:=by simp [List.getD]
 have e2:(vs ++ [v1,v2]).getD (vs.length+1) aR=v2:=by simp [List.getD]
 have f0:∀i,i<rss.length→(rss ++ [r1,r2]).getD i []=rss.getD i []:=fun i hi=>by simp [List.getD,List.getElem?_append_left hi]
 have f1:(rss ++ [r1,r2]).getD rss.length []=r1:=by simp [List.getD]
 have f2:(rss ++ [r1,r2]).getD (rss.length+1) []=r2:=by simp [List.getD]
 have hl:=h.len
 have old:∀i,i<vs.length→∀u:Value,(∀g,u.ownBlock=some g→w.heap.size≤g)→(vs.getD i aR).ownBlock=none∨(vs.getD i aR).ownBlock≠u.ownBlock:=by
  intro i hi u hu
  rcases ho:(vs.getD i aR).ownBlock with _|g
  ·exact .inl rfl
  ·have k1:=(h.row i hi).top g ho
   refine .inr fun e=>?_
   have k2:=hu g e.symm
   omega
 have new:∀i,i<vs.length→∀u:Value,(∀g,u.ownBlock=some g→w.heap.size≤g)→u.ownBlock=none∨u.ownBlock≠(vs.getD i aR).ownBlock:=by
  intro i hi u hu
  rcases ho:u.ownBlock with _|g
  ·exact .inl rfl
  ·have k2:=hu g ho
   refine .inr fun e=>?_
   have k1:=(h.row i hi).top g e.symm
   omega
 have n1:∀g,v1.ownBlock=some g→w.heap.size≤g:=fun g hg=>(h1.own.lt g hg).1
 have n2:∀g,v2.ownBlock=some g→w.heap.size≤g:=fun g hg=>(h2.own.lt g hg).1
 refine⟨by simp [hl],fun i hi=>?_,fun i j hi hj hij=>?_⟩
 ·simp only [List.length_append,List.length_cons,List.length_nil] at hi
  rcases Nat.lt_trichotomy i vs.length with h3|h3|h3
  ·rw [e0 i h3,f0 i (by omega)]
   exact (h.row i h3).below hb
  ·subst h3
   rw [e1,hl,f1]
   exact h1.base hbase
  ·obtain rfl:i=vs.length+1:=by omega
   rw [e2,hl,f2]
   exact h2.base hbase
 ·simp only [List.length_append,List.length_cons,List.length_nil] at hi hj
  rcases Nat.lt_trichotomy i vs.length with h3|h3|h3 <;> rcases Nat.lt_trichotomy j vs.length with h4|h4|h4
  ·rw [e0 i h3,e0 j h4];exact h.apart i j h3 h4 hij
  ·rw [e0 i h3,h4,e1];exact old i h3 _ n1
  ·obtain rfl:j=vs.length+1:=by omega
   rw [e0 i h3,e2];exact old i h3 _ n2
  ·rw [e0 j h4,h3,e1];exact new j h4 _ n1
  ·omega
  ·obtain rfl:j=vs.length+1:=by omega
   rw [h3,e1,e2];exact hap
  ·obtain rfl:i=vs.length+1:=by omega
   rw [e0 j h4,e2];exact new j h4 _ n2
  ·obtain rfl:i=vs.length+1:=by omega
   rw [h4,e2,e1]
   rcases ho:v2.ownBlock with _|g
   ·exact .inl rfl
   ·refine .inr fun e=>?_
    rcases hap with k|k
    ·rw [k] at e;cases e
    ·exact k (by rw [ho,e])
  ·omega

def OfR (w:World)(e:Ending)(w':World)(fl:Int)(L:Nat)(V1 V2:Int):Prop:=
 (∃b1 a1 n1 k1 e1 b2 a2 n2 k2 e2,e=.returned (.tuple #[.agg #[.bool b1,.slice a1 n1 k1,.int .i64 e1,.bool b2,.slice a2 n2 k2,.int .i64 e2],.int .i64 fl])∧V8 w' b1 a1 n1 k1 e1 L (if fl=0 then V1 else 0)∧V8 w' b2 a2 n2 k2 e2 L (if fl=0 then V2 else 0))∧Below w.heap.size w w'

theorem qJ (b1:Bool)(a1:Option Addr)(k1:Nat)(X:List Nat)(ex1:Int)(b2:Bool)(a2:Option Addr)(k2:Nat)(Y:List Nat)(ex2:Int)(L:Nat)(V1 V2:Int)(w:World)(hE1:aj ex1=false) :
  Calls Tryz.prog 5 #[.agg #[.bool b1,.slice a1 X.length k1,.int .i64 ex1,.bool b2,.slice a2 Y.length k2,.int .i64 ex2]] w fun e w'=>OfR w e w' 80 L V1 V2:=by
 obtain⟨w0,hw0,hb0,q0,q9⟩:=aA w (.cells #[.bool b1,.slice a1 X.length k1,.int .i64 ex1,.bool b2,.slice a2 Y.length k2,.int .i64 ex2] 26) (.cells #[.bool false,.slice none 0 0,.int .i64 0,.bool false,.slice none 0 0,.int .i64 0] 43)
 obtain⟨y0,y1,y2,y3,y4,y5⟩:=hexa q0
 have HG:=ab hb0
 have HQ0:=ab q0
 have HC1:=ab q9
 have F1:=cH ex1 w0
 have F2:=cH ex2 w0
 have hf1:=aD HC1.out
 obtain⟨m0,m1,m2,m3,m4,m5⟩:=hexa HC1.out
 clear q0 q9 hb0
 rw [hE1] at F1
 clear F2 hE1
 go_enter Tryz.func5,Tryz.ntmps5
 go_wp2_with fail
 refine F1.mono ?_
 rintro e wn ⟨rfl,hw⟩;rw [hw];clear hw wn F1
 go_wp2
 have T3:=aK HC1.out (.bool false) (.slice none 0 0) (.int .i64 0) (.bool false) (.slice none 0 0) (.int .i64 0)
 have T4:=aG HG.out (show w.heap.size≤w.heap.size+1 by omega) (.bool false) (.slice none 0 0) (.int .i64 0) (.bool false) (.slice none 0 0) (.int .i64 0)
 obtain⟨p0,p1,p2,p3,p4,p5⟩:=hexa T3
 have HE:=ab T4
 clear T3 T4
 generalize (((((w0.setCell ⟨w.heap.size+1,0,none⟩ (.bool false)).setCell ⟨w.heap.size+1,1,none⟩ (.slice none 0 0)).setCell ⟨w.heap.size+1,2,none⟩ (.int .i64 0)).setCell ⟨w.heap.size+1,3,none⟩ (.bool false)).setCell ⟨w.heap.size+1,4,none⟩ (.slice none 0 0)).setCell ⟨w.heap.size+1,5,none⟩ (.int .i64 0)=w5 at *
 refine bodyPost_ret (v:=.tuple #[.agg #[.bool false,.slice none 0 0,.int .i64 0,.bool false,.slice none 0 0,.int .i64 0],.int .i64 80]) (by simp [results,Tryz.results5,go_sem,p0,p1,p2,p3,p4,p5]) rfl ?_
 exact⟨⟨_,_,_,_,_,_,_,_,_,_,rfl,V8.zero _ _,V8.zero _ _⟩,HE.out⟩

theorem ob (b1:Bool)(a1:Option Addr)(k1:Nat)(X:List Nat)(ex1:Int)(b2:Bool)(a2:Option Addr)(k2:Nat)(Y:List Nat)(ex2:Int)(L:Nat)(V1 V2:Int)(w:World)(hE1:aj ex1=true)(hE2:aj ex2=false) :
  Calls Tryz.prog 5 #[.agg #[.bool b1,.slice a1 X.length k1,.int .i64 ex1,.bool b2,.slice a2 Y.length k2,.int .i64 ex2]] w fun e w'=>OfR w e w' 80 L V1 V2:=by
 obtain⟨w0,hw0,hb0,q0,q9⟩:=aA w (.cells #[.bool b1,.slice a1 X.length k1,.int .i64 ex1,.bool b2,.slice a2 Y.length k2,.int .i64 ex2] 26) (.cells #[.bool false,.slice none 0 0,.int .i64 0,.bool false,.slice none 0 0,.int .i64 0] 43)
 obtain⟨y0,y1,y2,y3,y4,y5⟩:=hexa q0
 have HG:=ab hb0
 have HQ0:=ab q0
 have HC1:=ab q9
 have F1:=cH ex1 w0
 have F2:=cH ex2 w0
 have hf1:=aD HC1.out
 obtain⟨m0,m1,m2,m3,m4,m5⟩:=hexa HC1.out
 clear q0 q9 hb0
 rw [hE1] at F1
 rw [hE2] at F2
 clear hE1 hE2
 go_enter Tryz.func5,Tryz.ntmps5
 go_wp2_with fail
 refine F1.mono ?_
 rintro e wn ⟨rfl,hw⟩;rw [hw];clear hw wn F1
 go_wp2_with fail
 refine F2.mono ?_
 rintro e wn ⟨rfl,hw⟩;rw [hw];clear hw wn F2
 go_wp2
 have T3:=aK HC1.out (.bool false) (.slice none 0 0) (.int .i64 0) (.bool false) (.slice none 0 0) (.int .i64 0)
 have T4:=aG HG.out (show w.heap.size≤w.heap.size+1 by omega) (.bool false) (.slice none 0 0) (.int .i64 0) (.bool false) (.slice none 0 0) (.int .i64 0)
 obtain⟨p0,p1,p2,p3,p4,p5⟩:=hexa T3
 have HE:=ab T4
 clear T3 T4
 generalize (((((w0.setCell ⟨w.heap.size+1,0,none⟩ (.bool false)).setCell ⟨w.heap.size+1,1,none⟩ (.slice none 0 0)).setCell ⟨w.heap.size+1,2,none⟩ (.int .i64 0)).setCell ⟨w.heap.size+1,3,none⟩ (.bool false)).setCell ⟨w.heap.size+1,4,none⟩ (.slice none 0 0)).setCell ⟨w.heap.size+1,5,none⟩ (.int .i64 0)=w5 at *
 refine bodyPost_ret (v:=.tuple #[.agg #[.bool false,.slice none 0 0,.int .i64 0,.bool false,.slice none 0 0,.int .i64 0],.int .i64 80]) (by simp [results,Tryz.results5,go_sem,p0,p1,p2,p3,p4,p5]) rfl ?_
 exact⟨⟨_,_,_,_,_,_,_,_,_,_,rfl,V8.zero _ _,V8.zero _ _⟩,HE.out⟩

theorem nj (b1:Bool)(a1:Option Addr)(k1:Nat)(X:List Nat)(ex1:Int)(b2:Bool)(a2:Option Addr)(k2:Nat)(Y:List Nat)(ex2:Int)(L:Nat)(w:World)(hA:Arg w (.slice a1 X.length k1) X)(hB:Arg w (.slice a2 Y.length k2) Y)(f1:X.length≤17592186043904)(f2:Y.length≤17592186043904)(hL:4611686018427387904≤L)(hE1:aj ex1=true)(hE2:aj ex2=true) :
  Calls Tryz.prog 5 #[.agg #[.bool b1,.slice a1 X.length k1,.int .i64 ex1,.bool b2,.slice a2 Y.length k2,.int .i64 ex2]] w fun e w'=>OfR w e w' (if vof b2 Y ex2 L<vof b1 X ex1 L then 100 else 0) L (vof b1 X ex1 L) (vof b2 Y ex2 L):=by
 obtain⟨w0,hw0,hb0,q0,q9⟩:=aA w (.cells #[.bool b1,.slice a1 X.length k1,.int .i64 ex1,.bool b2,.slice a2 Y.length k2,.int .i64 ex2] 26) (.cells #[.bool false,.slice none 0 0,.int .i64 0,.bool false,.slice none 0 0,.int .i64 0] 43)
 obtain⟨y0,y1,y2,y3,y4,y5⟩:=hexa q0
 have HG:=ab hb0
 have HQ0:=ab q0
 have HC1:=ab q9
 have F1:=cH ex1 w0
 have F2:=cH ex2 w0
 have hf1:=aD HC1.out
 obtain⟨m0,m1,m2,m3,m4,m5⟩:=hexa HC1.out
 clear q0 q9 hb0
 have DY1:=ab (fun (W:World) (hg:Below w0.heap.size w0 W)=>jq b1 a1 k1 X ex1 L W ((hA.below HG.out).below hg) f1 hE1 hL)
 have DY2:=ab (fun (W:World) (hg:Below w0.heap.size w0 W)=>jq b2 a2 k2 Y ex2 L W ((hB.below HG.out).below hg) f2 hE2 hL)
 rw [hE1] at F1
 rw [hE2] at F2
 have KS:=ab (fun (W:World) (hg:Below w0.heap.size w0 W)=>show W.cell? ⟨w.heap.size,0,none⟩=some (.bool b1)∧W.cell? ⟨w.heap.size,1,none⟩=some (.slice a1 X.length k1)∧W.cell? ⟨w.heap.size,2,none⟩=some (.int .i64 ex1)∧W.cell? ⟨w.heap.size,3,none⟩=some (.bool b2)∧W.cell? ⟨w.heap.size,4,none⟩=some (.slice a2 Y.length k2)∧W.cell? ⟨w.heap.size,5,none⟩=some (.int .i64 ex2) from hexa (ac hg HQ0.out))
 have hc:0<az (vof b1 X ex1 L) (vof b2 Y ex2 L) ↔ vof b2 Y ex2 L<vof b1 X ex1 L:=jw
 generalize vof b1 X ex1 L=V1 at *
 generalize vof b2 Y ex2 L=V2 at *
 have HCC:=ab hc
 have g0:Below w0.heap.size w0 w0:=Below.refl _ _
 clear hE1 hE2 hA hB f1 f2 hc
 obtain⟨R,hR⟩:∃R:Int,(if V2<V1 then (100:Int) else 0)=R:=⟨_,rfl⟩
 rw [hR]
 have HR:=ab hR
 clear hR
 go_enter Tryz.func5,Tryz.ntmps5
 go_wp2_with fail
 refine F1.mono ?_
 rintro e wn ⟨rfl,hw⟩;rw [hw];clear hw wn F1
 go_wp2_with fail
 refine F2.mono ?_
 rintro e wn ⟨rfl,hw⟩;rw [hw];clear hw wn F2
 go_upto_region 3 with fail
 go_cut [4] from 18 to 24 (fun s wx=>gQ w0 L V1 V2 s wx)
 case first=>
  go_region_held3 (fun w'=>w'.cell? ⟨w.heap.size,0,none⟩=some (.bool b1)∧w'.cell? ⟨w.heap.size,1,none⟩=some (.slice a1 X.length k1)∧w'.cell? ⟨w.heap.size,2,none⟩=some (.int .i64 ex1)∧w'.cell? ⟨w.heap.size,3,none⟩=some (.bool b2)∧w'.cell? ⟨w.heap.size,4,none⟩=some (.slice a2 Y.length k2)∧w'.cell? ⟨w.heap.size,5,none⟩=some (.int .i64 ex2)) (first | (refine KS.out _ ?_;repeat (first|with_reducible assumption|with_reducible exact Below.refl _ _|with_reducible apply aJ|with_reducible apply bE | (with_reducible refine aG ?_ (by omega) _ _ _ _ _ _)))) (first
   | (go_at_call_of 19 a2;refine (DY2.out _ (by repeat (first|with_reducible exact g1|with_reducible apply aJ))).mono ?_;rintro e' t2 ⟨⟨b6,a6,n6,c6,e6,rfl,v6⟩,hb2⟩;have g2:Below w0.heap.size w0 t2:=ae (by repeat (first|with_reducible exact g1|with_reducible apply aJ)) hb2;have v5':=v5.below (show Below t1.heap.size t1 t2 from ae (by repeat (first|with_reducible exact Below.refl _ _|with_reducible apply aJ)) hb2);have hle1:=g1.size;(first | (with_reducible have hq:=eU hb2;obtain⟨z0c,z1c,z2c,z3c,z4c,z5c⟩:=hexa hq;have zf:=aD hq) | (with_reducible have hq:=ac hb2 hpA;obtain⟨z0c,z1c,z2c,z3c,z4c,z5c⟩:=hexa hq;have zf:=aD hq) | skip))
   | (go_at_call 19;refine (DY1.out _ (by repeat (first|with_reducible exact Below.refl _ _|with_reducible apply aJ|with_reducible apply bE))).mono ?_;rintro e' t1 ⟨⟨b5,a5,n5,c5,e5,rfl,v5⟩,hb1⟩;have g1:Below w0.heap.size w0 t1:=ae (by repeat (first|with_reducible exact Below.refl _ _|with_reducible apply aJ|with_reducible apply bE)) hb1;(first | (with_reducible have hpA:=jM hb1) | (with_reducible have hpA:=eU hb1) | skip)))
  all_goals (go_wp2_with fail;go_meet;first
   | with_reducible exact pH v5' v6 g2
   | with_reducible exact kd hq hle1 v5' v6 g2
   | with_reducible exact kd hq (Nat.le_refl _) v5' v6 g2)
 case rest=>
  obtain⟨gd,b5,a5,n5,c5,e5,b6,a6,n6,c6,e6,rfl,hX,v5,v6,hbx,hgd⟩:=hcut
  have C:=V8.cmp v5 v6
  have HBX:=ab hbx
  have HX:=ab hX
  have HV:=ab (And.intro v5 v6)
  have HCD:=ab (ac hbx HC1.out)
  clear KS DY1 DY2 g0 hbx hgd y0 y1 y2 y3 y4 y5 m0 m1 m2 m3 m4 m5 hf1 v5 v6
  obtain⟨y0,y1,y2,y3,y4,y5⟩:=hexa hX
  clear hX
  go_wp2_with fail
  refine C.mono ?_
  rintro e t3 ⟨rfl,g3⟩
  have HGG:=ab (ae (ae HG.out HBX.out) g3)
  have HV3:=ab (And.intro (HV.out.1.below g3) (HV.out.2.below g3))
  have HC2:=ab (ac g3 HCD.out)
  clear C y0 y1 y2 y3 y4 y5 HG HC1
  have HG:=HGG
  have HC1:=HC2
  have hf1:=aD HC1.out
  obtain⟨m0,m1,m2,m3,m4,m5⟩:=hexa HC1.out
  obtain⟨y0,y1,y2,y3,y4,y5⟩:=hexa (ac g3 HX.out)
  clear g3 HGG HC2
  generalize hcz:az V1 V2=cz at *
  by_cases hpos:V2<V1
  ·have i1:decide (0<cz)=true:=decide_eq_true (HCC.out.2 hpos)
   have hr:R=100:=by rw [←HR.out,if_pos hpos]
   subst hr
   clear hpos hcz
   go_wp2
   have T3:=aK HC1.out (.bool false) (.slice none 0 0) (.int .i64 0) (.bool false) (.slice none 0 0) (.int .i64 0)
   have T4:=aG HG.out (show w.heap.size≤w.heap.size+1 by omega) (.bool false) (.slice none 0 0) (.int .i64 0) (.bool false) (.slice none 0 0) (.int .i64 0)
   obtain⟨p0,p1,p2,p3,p4,p5⟩:=hexa T3
   have HE:=ab T4
   clear T3 T4
   generalize (((((t3.setCell ⟨w.heap.size+1,0,none⟩ (.bool false)).setCell ⟨w.heap.size+1,1,none⟩ (.slice none 0 0)).setCell ⟨w.heap.size+1,2,none⟩ (.int .i64 0)).setCell ⟨w.heap.size+1,3,none⟩ (.bool false)).setCell ⟨w.heap.size+1,4,none⟩ (.slice none 0 0)).setCell ⟨w.heap.size+1,5,none⟩ (.int .i64 0)=w5 at *
   refine bodyPost_ret (v:=.tuple #[.agg #[.bool false,.slice none 0 0,.int .i64 0,.bool false,.slice none 0 0,.int .i64 0],.int .i64 100]) (by simp [results,Tryz.results5,go_sem,p0,p1,p2,p3,p4,p5]) rfl ?_
   exact⟨⟨_,_,_,_,_,_,_,_,_,_,rfl,V8.zero _ _,V8.zero _ _⟩,HE.out⟩
  ·have i1:decide (0<cz)=false:=decide_eq_false (fun h=>hpos (HCC.out.1 h))
   have hr:R=0:=by rw [←HR.out,if_neg hpos]
   subst hr
   clear hpos hcz
   go_wp2
   have T3:=aK HC1.out (.bool b5) (.slice a5 n5 c5) (.int .i64 e5) (.bool b6) (.slice a6 n6 c6) (.int .i64 e6)
   have T4:=aG HG.out (show w.heap.size≤w.heap.size+1 by omega) (.bool b5) (.slice a5 n5 c5) (.int .i64 e5) (.bool b6) (.slice a6 n6 c6) (.int .i64 e6)
   have T5:=HV3.out.1.hexa HC1.out b5 a5 n5 c5 e5 b6 a6 n6 c6 e6
   have T6:=HV3.out.2.hexa HC1.out b5 a5 n5 c5 e5 b6 a6 n6 c6 e6
   obtain⟨p0,p1,p2,p3,p4,p5⟩:=hexa T3
   have HE:=ab (And.intro T5 (And.intro T6 T4))
   clear T3 T4 T5 T6
   generalize (((((t3.setCell ⟨w.heap.size+1,0,none⟩ (.bool b5)).setCell ⟨w.heap.size+1,1,none⟩ (.slice a5 n5 c5)).setCell ⟨w.heap.size+1,2,none⟩ (.int .i64 e5)).setCell ⟨w.heap.size+1,3,none⟩ (.bool b6)).setCell ⟨w.heap.size+1,4,none⟩ (.slice a6 n6 c6)).setCell ⟨w.heap.size+1,5,none⟩ (.int .i64 e6)=w5 at *
   refine bodyPost_ret (v:=.tuple #[.agg #[.bool b5,.slice a5 n5 c5,.int .i64 e5,.bool b6,.slice a6 n6 c6,.int .i64 e6],.int .i64 0]) (by simp [results,Tryz.results5,go_sem,p0,p1,p2,p3,p4,p5]) rfl ?_
   exact⟨⟨_,_,_,_,_,_,_,_,_,_,rfl,HE.out.1,HE.out.2.1⟩,HE.out.2.2⟩

theorem fV (b1:Bool)(a1:Option Addr)(k1:Nat)(X:List Nat)(ex1:Int)(b2:Bool)(a2:Option Addr)(k2:Nat)(Y:List Nat)(ex2:Int)(L:Nat)(w:World)(hA:Arg w (.slice a1 X.length k1) X)(hB:Arg w (.slice a2 Y.length k2) Y)(f1:X.length≤17592186043904)(f2:Y.length≤17592186043904)(hL:4611686018427387904≤L) :
  Calls Tryz.prog 5 #[.agg #[.bool b1,.slice a1 X.length k1,.int .i64 ex1,.bool b2,.slice a2 Y.length k2,.int .i64 ex2]] w fun e w'=>OfR w e w' (flt ex1 ex2 (vof b1 X ex1 L) (vof b2 Y ex2 L)) L (vof b1 X ex1 L) (vof b2 Y ex2 L):=by
 unfold flt
 by_cases hE1:aj ex1=true
 ·rw [if_pos hE1]
  by_cases hE2:aj ex2=true
  ·rw [if_pos hE2]
   exact nj b1 a1 k1 X ex1 b2 a2 k2 Y ex2 L w hA hB f1 f2 hL hE1 hE2
  ·rw [if_neg hE2]
   exact ob b1 a1 k1 X ex1 b2 a2 k2 Y ex2 L _ _ w hE1 (by simpa using hE2)
 ·rw [if_neg hE1]
  exact qJ b1 a1 k1 X ex1 b2 a2 k2 Y ex2 L _ _ w (by simpa using hE1)

def wst (f g:Int):Int:=if f=0 then g else f

theorem qG (gs:Nat)(b1:Bool)(a1:Option Addr)(n1 k1:Nat)(ex1:Int)(b2:Bool)(a2:Option Addr)(n2 k2:Nat)(ex2:Int)(b3:Bool)(a3:Option Addr)(n3 k3:Nat)(ex3:Int)(b4:Bool)(a4:Option Addr)(n4 k4:Nat)(ex4:Int)(o1 c1 o2 c2:Int)(w:World)(hg:w.heap[gs]?=some (.cells #[.bool b1,.slice a1 n1 k1,.int .i64 ex1,.bool b2,.slice a2 n2 k2,.int .i64 ex2,.bool b3,.slice a3 n3 k3,.int .i64 ex3,.bool b4,.slice a4 n4 k4,.int .i64 ex4] 33))(h1:dG w b1 a1 n1 k1 ex1 b2 a2 n2 k2 ex2 o1 c1)(h2:dG w b3 a3 n3 k3 ex3 b4 a4 n4 k4 ex4 o2 c2) :
  Calls Tryz.prog 74 #[.slice (some ⟨gs,0,none⟩) 2 2] w fun e w'=>e=.returned (.int .i64 (wst (bh o1 c1) (bh o2 c2)))∧Below w.heap.size w w':=by
 have HS:=ab hg
 have C1:=ab h1
 have C2:=ab h2
 clear hg h1 h2
 by_cases z1:c1=0
 ·subst z1
  by_cases p1:0<o1
  ·rw [show wst (bh o1 0) (bh o2 c2)=100 by unfold wst bh;rw [if_pos rfl,if_pos p1];rfl]
   have i1:decide (0<o1)=true:=decide_eq_true p1
   clear p1
   go_enter Tryz.func74,Tryz.ntmps74
   go_wp2
   refine wp_loop_rounds 3 ?_
   rw [rounds_succ]
   have HB:Hid (Below w.heap.size w w):=ab (Below.refl _ _)
   obtain⟨u1,hu1,hbu1,qu1⟩:=af w (.cells #[.bool b1,.slice a1 n1 k1,.int .i64 ex1,.bool b2,.slice a2 n2 k2,.int .i64 ex2] 33)
   have Hu1:=ab (ae HB.out hbu1)
   have C:=C1.out u1 Hu1.out
   obtain⟨x0,x1,x2,x3,x4,x5⟩:=hexa qu1
   obtain⟨⟨c0,c1,c2,c3,c4,c5⟩,c6,c7,c8,c9,c10,c11⟩:=cG (ac HB.out HS.out)
   clear hbu1 qu1
   go_wp2_with fail
   refine C.mono ?_
   rintro e t1 ⟨rfl,gt1⟩
   have Ht1:=ab (ae Hu1.out gt1)
   clear gt1 C x0 x1 x2 x3 x4 x5 c0 c1 c2 c3 c4 c5 c6 c7 c8 c9 c10 c11 hu1
   go_wp2
   go_ret
   exact⟨rfl,Ht1.out⟩
  ·have i1:decide (0<o1)=false:=decide_eq_false p1
   rw [show wst (bh o1 0) (bh o2 c2)=bh o2 c2 by unfold wst;rw [if_pos (by unfold bh;rw [if_pos rfl,if_neg p1])]]
   clear p1
   by_cases z2:c2=0
   ·subst z2
    by_cases p2:0<o2
    ·rw [show bh o2 0=100 by unfold bh;rw [if_pos rfl,if_pos p2]]
     have i2:decide (0<o2)=true:=decide_eq_true p2
     clear p2
     go_enter Tryz.func74,Tryz.ntmps74
     go_wp2
     refine wp_loop_rounds 3 ?_
     rw [rounds_succ]
     have HB:Hid (Below w.heap.size w w):=ab (Below.refl _ _)
     obtain⟨u1,hu1,hbu1,qu1⟩:=af w (.cells #[.bool b1,.slice a1 n1 k1,.int .i64 ex1,.bool b2,.slice a2 n2 k2,.int .i64 ex2] 33)
     have Hu1:=ab (ae HB.out hbu1)
     have C:=C1.out u1 Hu1.out
     obtain⟨x0,x1,x2,x3,x4,x5⟩:=hexa qu1
     obtain⟨⟨c0,c1,c2,c3,c4,c5⟩,c6,c7,c8,c9,c10,c11⟩:=cG (ac HB.out HS.out)
     clear hbu1 qu1
     go_wp2_with fail
     refine C.mono ?_
     rintro e t1 ⟨rfl,gt1⟩
     have Ht1:=ab (ae Hu1.out gt1)
     clear gt1 C x0 x1 x2 x3 x4 x5 c0 c1 c2 c3 c4 c5 c6 c7 c8 c9 c10 c11 hu1
     go_wp2
     rw [rounds_succ]
     obtain⟨u2,hu2,hbu2,qu2⟩:=af t1 (.cells #[.bool b3,.slice a3 n3 k3,.int .i64 ex3,.bool b4,.slice a4 n4 k4,.int .i64 ex4] 33)
     have Hu2:=ab (ae Ht1.out hbu2)
     have C:=C2.out u2 Hu2.out
     obtain⟨x0,x1,x2,x3,x4,x5⟩:=hexa qu2
     obtain⟨⟨c0,c1,c2,c3,c4,c5⟩,c6,c7,c8,c9,c10,c11⟩:=cG (ac Ht1.out HS.out)
     clear hbu2 qu2
     go_wp2_with fail
     refine C.mono ?_
     rintro e t2 ⟨rfl,gt2⟩
     have Ht2:=ab (ae Hu2.out gt2)
     clear gt2 C x0 x1 x2 x3 x4 x5 c0 c1 c2 c3 c4 c5 c6 c7 c8 c9 c10 c11 hu2
     go_wp2
     go_ret
     exact⟨rfl,Ht2.out⟩
    ·rw [show bh o2 0=0 by unfold bh;rw [if_pos rfl,if_neg p2]]
     have i2:decide (0<o2)=false:=decide_eq_false p2
     clear p2
     go_enter Tryz.func74,Tryz.ntmps74
     go_wp2
     refine wp_loop_rounds 3 ?_
     rw [rounds_succ]
     have HB:Hid (Below w.heap.size w w):=ab (Below.refl _ _)
     obtain⟨u1,hu1,hbu1,qu1⟩:=af w (.cells #[.bool b1,.slice a1 n1 k1,.int .i64 ex1,.bool b2,.slice a2 n2 k2,.int .i64 ex2] 33)
     have Hu1:=ab (ae HB.out hbu1)
     have C:=C1.out u1 Hu1.out
     obtain⟨x0,x1,x2,x3,x4,x5⟩:=hexa qu1
     obtain⟨⟨c0,c1,c2,c3,c4,c5⟩,c6,c7,c8,c9,c10,c11⟩:=cG (ac HB.out HS.out)
     clear hbu1 qu1
     go_wp2_with fail
     refine C.mono ?_
     rintro e t1 ⟨rfl,gt1⟩
     have Ht1:=ab (ae Hu1.out gt1)
     clear gt1 C x0 x1 x2 x3 x4 x5 c0 c1 c2 c3 c4 c5 c6 c7 c8 c9 c10 c11 hu1
     go_wp2
     rw [rounds_succ]
     obtain⟨u2,hu2,hbu2,qu2⟩:=af t1 (.cells #[.bool b3,.slice a3 n3 k3,.int .i64 ex3,.bool b4,.slice a4 n4 k4,.int .i64 ex4] 33)
     have Hu2:=ab (ae Ht1.out hbu2)
     have C:=C2.out u2 Hu2.out
     obtain⟨x0,x1,x2,x3,x4,x5⟩:=hexa qu2
     obtain⟨⟨c0,c1,c2,c3,c4,c5⟩,c6,c7,c8,c9,c10,c11⟩:=cG (ac Ht1.out HS.out)
     clear hbu2 qu2
     go_wp2_with fail
     refine C.mono ?_
     rintro e t2 ⟨rfl,gt2⟩
     have Ht2:=ab (ae Hu2.out gt2)
     clear gt2 C x0 x1 x2 x3 x4 x5 c0 c1 c2 c3 c4 c5 c6 c7 c8 c9 c10 c11 hu2
     go_wp2
     rw [rounds_succ]
     go_wp2
     go_ret
     exact⟨rfl,Ht2.out⟩
   ·rw [show bh o2 c2=c2 by unfold bh;rw [if_neg z2]]
    have i2:(c2 != 0)=true:=by simpa using z2
    clear z2
    go_enter Tryz.func74,Tryz.ntmps74
    go_wp2
    refine wp_loop_rounds 3 ?_
    rw [rounds_succ]
    have HB:Hid (Below w.heap.size w w):=ab (Below.refl _ _)
    obtain⟨u1,hu1,hbu1,qu1⟩:=af w (.cells #[.bool b1,.slice a1 n1 k1,.int .i64 ex1,.bool b2,.slice a2 n2 k2,.int .i64 ex2] 33)
    have Hu1:=ab (ae HB.out hbu1)
    have C:=C1.out u1 Hu1.out
    obtain⟨x0,x1,x2,x3,x4,x5⟩:=hexa qu1
    obtain⟨⟨c0,c1,c2,c3,c4,c5⟩,c6,c7,c8,c9,c10,c11⟩:=cG (ac HB.out HS.out)
    clear hbu1 qu1
    go_wp2_with fail
    refine C.mono ?_
    rintro e t1 ⟨rfl,gt1⟩
    have Ht1:=ab (ae Hu1.out gt1)
    clear gt1 C x0 x1 x2 x3 x4 x5 c0 c1 c2 c3 c4 c5 c6 c7 c8 c9 c10 c11 hu1
    go_wp2
    rw [rounds_succ]
    obtain⟨u2,hu2,hbu2,qu2⟩:=af t1 (.cells #[.bool b3,.slice a3 n3 k3,.int .i64 ex3,.bool b4,.slice a4 n4 k4,.int .i64 ex4] 33)
    have Hu2:=ab (ae Ht1.out hbu2)
    have C:=C2.out u2 Hu2.out
    obtain⟨x0,x1,x2,x3,x4,x5⟩:=hexa qu2
    obtain⟨⟨c0,c1,c2,c3,c4,c5⟩,c6,c7,c8,c9,c10,c11⟩:=cG (ac Ht1.out HS.out)
    clear hbu2 qu2
    go_wp2_with fail
    refine C.mono ?_
    rintro e t2 ⟨rfl,gt2⟩
    have Ht2:=ab (ae Hu2.out gt2)
    clear gt2 C x0 x1 x2 x3 x4 x5 c0 c1 c2 c3 c4 c5 c6 c7 c8 c9 c10 c11 hu2
    go_wp2
    go_ret
    exact⟨rfl,Ht2.out⟩
 ·rw [show wst (bh o1 c1) (bh o2 c2)=c1 by unfold wst bh;rw [if_neg z1,if_neg z1]]
  have i1:(c1 != 0)=true:=by simpa using z1
  clear z1
  go_enter Tryz.func74,Tryz.ntmps74
  go_wp2
  refine wp_loop_rounds 3 ?_
  rw [rounds_succ]
  have HB:Hid (Below w.heap.size w w):=ab (Below.refl _ _)
  obtain⟨u1,hu1,hbu1,qu1⟩:=af w (.cells #[.bool b1,.slice a1 n1 k1,.int .i64 ex1,.bool b2,.slice a2 n2 k2,.int .i64 ex2] 33)
  have Hu1:=ab (ae HB.out hbu1)
  have C:=C1.out u1 Hu1.out
  obtain⟨x0,x1,x2,x3,x4,x5⟩:=hexa qu1
  obtain⟨⟨c0,c1,c2,c3,c4,c5⟩,c6,c7,c8,c9,c10,c11⟩:=cG (ac HB.out HS.out)
  clear hbu1 qu1
  go_wp2_with fail
  refine C.mono ?_
  rintro e t1 ⟨rfl,gt1⟩
  have Ht1:=ab (ae Hu1.out gt1)
  clear gt1 C x0 x1 x2 x3 x4 x5 c0 c1 c2 c3 c4 c5 c6 c7 c8 c9 c10 c11 hu1
  go_wp2
  go_ret
  exact⟨rfl,Ht1.out⟩

def gD (w:World)(b1:Bool)(a1:Option Addr)(n1 k1:Nat)(ex1:Int)(b2:Bool)(a2:Option Addr)(n2 k2:Nat)(ex2:Int)(b3:Bool)(a3:Option Addr)(n3 k3:Nat)(ex3:Int)(b4:Bool)(a4:Option Addr)(n4 k4:Nat)(ex4:Int)(F:Int):Prop:=
 ∀W gs,Below w.heap.size w W→W.heap[gs]?=some (.cells #[.bool b1,.slice a1 n1 k1,.int .i64 ex1,.bool b2,.slice a2 n2 k2,.int .i64 ex2,.bool b3,.slice a3 n3 k3,.int .i64 ex3,.bool b4,.slice a4 n4 k4,.int .i64 ex4] 33)→Calls Tryz.prog 74 #[.slice (some ⟨gs,0,none⟩) 2 2] W fun e w'=>e=.returned (.int .i64 F)∧Below W.heap.size W w'

theorem iy (b1:Bool)(a1:Option Addr)(k1:Nat)(X:List Nat)(ex1:Int)(b2:Bool)(a2:Option Addr)(k2:Nat)(Y:List Nat)(ex2:Int)(b3:Bool)(a3:Option Addr)(k3:Nat)(Z:List Nat)(ex3:Int)(b4:Bool)(a4:Option Addr)(k4:Nat)(U:List Nat)(ex4:Int)(L:Nat)(w:World)(hA:Arg w (.slice a1 X.length k1) X)(hB:Arg w (.slice a2 Y.length k2) Y)(hC:Arg w (.slice a3 Z.length k3) Z)(hD:Arg w (.slice a4 U.length k4) U)(f1:X.length≤17592186043904)(f2:Y.length≤17592186043904)(f3:Z.length≤17592186043904)(f4:U.length≤17592186043904)(hL:4611686018427387904≤L) :
  gD w b1 a1 X.length k1 ex1 b2 a2 Y.length k2 ex2 b3 a3 Z.length k3 ex3 b4 a4 U.length k4 ex4 (wst (flt ex1 ex2 (vof b1 X ex1 L) (vof b2 Y ex2 L)) (flt ex3 ex4 (vof b3 Z ex3 L) (vof b4 U ex4 L))):=by
 obtain⟨o,c,hc,hfl⟩:=lL b1 a1 k1 X ex1 b2 a2 k2 Y ex2 L w hA hB f1 f2 hL
 obtain⟨o',c',hc',hfl'⟩:=lL b3 a3 k3 Z ex3 b4 a4 k4 U ex4 L w hC hD f3 f4 hL
 rw [←hfl,←hfl']
 exact fun W gs hb hg=>qG gs b1 a1 X.length k1 ex1 b2 a2 Y.length k2 ex2 b3 a3 Z.length k3 ex3 b4 a4 U.length k4 ex4 o c o' c' W hg (hc.below hb) (hc'.below hb)

theorem dh {ex1 ex2 V1 V2:Int}(h:flt ex1 ex2 V1 V2=0):aj ex1=true∧aj ex2=true∧V1≤V2:=by
 unfold flt at h
 split at h
 ·split at h
  ·split at h
   ·omega
   ·exact⟨by assumption,by assumption,by omega⟩
  ·omega
 ·omega

def N8 (w:World)(b:Bool)(a:Option Addr)(n k:Nat)(ex:Int)(L:Nat)(V:Int):Prop:=
 ∃X:List Nat,n=X.length∧Arg w (.slice a n k) X∧X.length≤17592186043904∧aj ex=true∧vof b X ex L=V

theorem N8.below {w w':World}{b:Bool}{a:Option Addr}{n k:Nat}{ex:Int}{L:Nat}{V:Int}(h:N8 w b a n k ex L V)(hb:Below w.heap.size w w'):N8 w' b a n k ex L V:=by
 obtain⟨X,h1,h2,h3⟩:=h
 exact⟨X,h1,h2.below hb,h3⟩

theorem mS {y z:Int}:az y z<0 ↔ y<z:=by
 unfold az
 split
 ·omega
 ·split <;> omega

theorem cC (b1:Bool)(a1:Option Addr)(n1 k1:Nat)(ex1:Int)(b2:Bool)(a2:Option Addr)(n2 k2:Nat)(ex2:Int)(L:Nat)(V1 V2:Int)(w:World)(h1:N8 w b1 a1 n1 k1 ex1 L V1)(h2:N8 w b2 a2 n2 k2 ex2 L V2)(hL:4611686018427387904≤L) :
  Calls Tryz.prog 81 #[.agg #[.bool b1,.slice a1 n1 k1,.int .i64 ex1],.agg #[.bool b2,.slice a2 n2 k2,.int .i64 ex2]] w fun e w'=>e=.returned (.bool (decide (V1<V2)))∧Below w.heap.size w w':=by
 obtain⟨X,rfl,hA,f1,hE1,rfl⟩:=h1
 obtain⟨Y,rfl,hB,f2,hE2,rfl⟩:=h2
 obtain⟨w0,hw0,hb0,q0,q1⟩:=aA w (.cells #[.bool b1,.slice a1 X.length k1,.int .i64 ex1] 31) (.cells #[.bool b2,.slice a2 Y.length k2,.int .i64 ex2] 31)
 obtain⟨y0,y1,y2⟩:=tri8 q0
 obtain⟨y3,y4,y5⟩:=tri8 q1
 have r1:=(aM ex1).1 hE1
 have r2:=(aM ex2).1 hE2
 have C:=gN b1 a1 k1 X ex1 b2 a2 k2 Y ex2 L (ex1+L).toNat (ex2+L).toNat w0 (hA.below hb0) (hB.below hb0) (by omega) (by omega) hE1 hE2 hL (by omega) (by omega)
 rw [show zz b1 (val X)*2 ^ (ex1+L).toNat=vof b1 X ex1 L from rfl,show zz b2 (val Y)*2 ^ (ex2+L).toNat=vof b2 Y ex2 L from rfl] at C
 generalize vof b1 X ex1 L=V1 at *
 generalize vof b2 Y ex2 L=V2 at *
 obtain⟨D,hD⟩:∃D,decide (V1<V2)=D:=⟨_,rfl⟩
 have i1:decide (az V1 V2<0)=D:=by rw [←hD];simp only [mS]
 rw [hD]
 generalize az V1 V2=cz at *
 have HB:=ab hb0
 clear hA hB q0 q1 hb0 r1 r2 hE1 hE2 hD
 go_enter Tryz.func81,Tryz.ntmps81
 go_wp2_with fail
 refine C.mono ?_
 rintro e t1 ⟨rfl,g1⟩
 have HE:=ab (ae HB.out g1)
 clear g1 C
 go_wp2
 go_ret
 exact⟨rfl,HE.out⟩

theorem rR {y z:Int}:az y z≤0 ↔ y≤z:=by
 unfold az
 split
 ·omega
 ·split <;> omega

theorem pt (n:Int)(w:World):Calls Tryz.prog 75 #[.int .i64 n] w fun e w'=>e=.returned (.bool (aj n))∧w'=w:=by
 by_cases h1:-1099511627776≤n
 ·have h1':decide (-1099511627776≤n)=true:=decide_eq_true h1
  by_cases h2:n≤1099511627776
  ·have h2':decide (n≤1099511627776)=true:=decide_eq_true h2
   rw [(aM n).2 ⟨h1,h2⟩]
   go_enter Tryz.func75,Tryz.ntmps75
   go_wp2
   go_ret
   exact⟨rfl,rfl⟩
  ·have h2':decide (n≤1099511627776)=false:=decide_eq_false h2
   have e:aj n=false:=by rw [←Bool.not_eq_true,aM];omega
   rw [e]
   go_enter Tryz.func75,Tryz.ntmps75
   go_wp2
   go_ret
   exact⟨rfl,rfl⟩
 ·have h1':decide (-1099511627776≤n)=false:=decide_eq_false h1
  have e:aj n=false:=by rw [←Bool.not_eq_true,aM];omega
  rw [e]
  go_enter Tryz.func75,Tryz.ntmps75
  go_wp2
  go_ret
  exact⟨rfl,rfl⟩







theorem jV (b1:Bool)(a1:Option Addr)(k1:Nat)(X:List Nat)(ex1:Int)(b2:Bool)(a2:Option Addr)(k2:Nat)(Y:List Nat)(ex2:Int)(w:World)(hT:Tab w)(hA:Arg w (.slice a1 X.length k1) X)(hB:Arg w (.slice a2 Y.length k2) Y)(hf:X.length≤17592186043904)(hg:Y.length≤17592186043904)(hE1:aj ex1=true)(hE2:aj ex2=true) :
  Calls Tryz.prog 52 #[.agg #[.bool b1,.slice a1 X.length k1,.int .i64 ex1],.agg #[.bool b2,.slice a2 Y.length k2,.int .i64 ex2]] w fun e w'=>aO w' w.heap.size e (omz (sm (omz (zz b1 (val X))) (oe (zz b1 (val X)) ex1) (-(omz (zz b2 (val Y)))) (oe (zz b2 (val Y)) ex2))) (oe (sm (omz (zz b1 (val X))) (oe (zz b1 (val X)) ex1) (-(omz (zz b2 (val Y)))) (oe (zz b2 (val Y)) ex2)) (min (oe (zz b1 (val X)) ex1) (oe (zz b2 (val Y)) ex2)))∧Below w.heap.size w w':=by
 have F1:=bJ (b:=b1) (ex:=ex1) hA hf hE1
 have F2:=bJ (b:=b2) (ex:=ex2) hB hg hE2
 exact si b1 a1 _ k1 ex1 b2 a2 _ k2 ex2 _ _ w (fun W hg'=>qs b1 a1 k1 X ex1 b2 a2 k2 Y ex2 _ _ W (hT.below hg') (hA.below hg') (hB.below hg') hf hg hE1 hE2 (fun W2 b3 a3 c3 X3 b4 a4 c4 X4 t3 m3 m4 l3 l4=>qt b3 a3 c3 X3 _ _ b4 a4 c4 X4 _ _ W2 m3 m4 F1.2.2.2 F2.2.2.2 l3 l4 F1.2.1 F2.2.2.1 F2.2.1 F1.2.2.1))

def oy (w:World)(e:Ending)(w':World)(L:Nat)(V1 V2:Int):Prop:=
 (∃b a n k x b' a' n' k' x',e=.returned (.agg #[.bool b,.slice a n k,.int .i64 x,.bool b',.slice a' n' k',.int .i64 x'])∧N8 w' b a n k x L V1∧N8 w' b' a' n' k' x' L V2)∧Below w.heap.size w w'

theorem N8.boxH {w:World}{b:Bool}{a0:Option Addr}{n0 k0:Nat}{ex:Int}{L:Nat}{V:Int}{g o:Nat}{p:Bool}{a:Option Addr}{n c:Nat}{e:Int}{p':Bool}{a':Option Addr}{n' c':Nat}{e':Int}{t:TypeId}{u:Value}(h:N8 w b a0 n0 k0 ex L V)(hl:w.heap[g]?=some (.cells #[.bool p,.slice a n c,.int .i64 e,.bool p',.slice a' n' c',.int .i64 e'] t)):N8 (w.setCell ⟨g,o,none⟩ u) b a0 n0 k0 ex L V:=by
 obtain⟨X,h1,h2,h3⟩:=h
 exact⟨X,h1,h2.boxH hl,h3⟩

theorem N8.hexa {w:World}{b:Bool}{a0:Option Addr}{n0 k0:Nat}{ex:Int}{L:Nat}{V:Int}{g:Nat}{p:Bool}{a:Option Addr}{n c:Nat}{e:Int}{p':Bool}{a':Option Addr}{n' c':Nat}{e':Int}{t:TypeId}(h:N8 w b a0 n0 k0 ex L V)(hl:w.heap[g]?=some (.cells #[.bool p,.slice a n c,.int .i64 e,.bool p',.slice a' n' c',.int .i64 e'] t))(b1:Bool)(a1:Option Addr)(n1 c1:Nat)(e1:Int)(b2:Bool)(a2:Option Addr)(n2 c2:Nat)(e2:Int) :
  N8 ((((((w.setCell ⟨g,0,none⟩ (.bool b1)).setCell ⟨g,1,none⟩ (.slice a1 n1 c1)).setCell ⟨g,2,none⟩ (.int .i64 e1)).setCell ⟨g,3,none⟩ (.bool b2)).setCell ⟨g,4,none⟩ (.slice a2 n2 c2)).setCell ⟨g,5,none⟩ (.int .i64 e2)) b a0 n0 k0 ex L V:=by
 obtain⟨X,h1,h2,h3⟩:=h
 exact⟨X,h1,h2.hexa hl b1 a1 n1 c1 e1 b2 a2 n2 c2 e2,h3⟩

theorem lo3 {t:World}{g:Nat}{p:Bool}{a:Option Addr}{n c:Nat}{e:Int}{p':Bool}{a':Option Addr}{n' c':Nat}{e':Int}{ty:TypeId}(hl:t.heap[g]?=some (.cells #[.bool p,.slice a n c,.int .i64 e,.bool p',.slice a' n' c',.int .i64 e'] ty))(b0:Bool)(a0:Option Addr)(n0 c0:Nat)(e0:Int) :
  ∃W,((t.setCell ⟨g,0,none⟩ (.bool b0)).setCell ⟨g,1,none⟩ (.slice a0 n0 c0)).setCell ⟨g,2,none⟩ (.int .i64 e0)=W∧W.heap[g]?=some (.cells #[.bool b0,.slice a0 n0 c0,.int .i64 e0,.bool p',.slice a' n' c',.int .i64 e'] ty)∧(∀h x,h≠g→t.heap[h]?=some x→W.heap[h]?=some x)∧(∀B w,Below B w t→B≤g→Below B w W)∧(∀b a n k ex L V,N8 t b a n k ex L V→N8 W b a n k ex L V):=by
 have l0:(t.setCell ⟨g,0,none⟩ (.bool b0)).heap[g]?=some (.cells #[.bool b0,.slice a n c,.int .i64 e,.bool p',.slice a' n' c',.int .i64 e'] ty):=aC (k:=0) hl _
 have l1:((t.setCell ⟨g,0,none⟩ (.bool b0)).setCell ⟨g,1,none⟩ (.slice a0 n0 c0)).heap[g]?=some (.cells #[.bool b0,.slice a0 n0 c0,.int .i64 e,.bool p',.slice a' n' c',.int .i64 e'] ty):=aC (k:=1) l0 _
 have l2:(((t.setCell ⟨g,0,none⟩ (.bool b0)).setCell ⟨g,1,none⟩ (.slice a0 n0 c0)).setCell ⟨g,2,none⟩ (.int .i64 e0)).heap[g]?=some (.cells #[.bool b0,.slice a0 n0 c0,.int .i64 e0,.bool p',.slice a' n' c',.int .i64 e'] ty):=aC (k:=2) l1 _
 refine⟨_,rfl,l2,fun h x hn hx=>?_,fun B w hb hB=>((hb.setCell (p:=⟨g,0,none⟩) hB _).setCell (p:=⟨g,1,none⟩) hB _).setCell (p:=⟨g,2,none⟩) hB _,fun b a n k ex L V h=>((h.boxH hl).boxH l0).boxH l1⟩
 rw [Below.heap_setCell _ _ _ _ hn,Below.heap_setCell _ _ _ _ hn,Below.heap_setCell _ _ _ _ hn];exact hx

theorem hi3 {t:World}{g:Nat}{p:Bool}{a:Option Addr}{n c:Nat}{e:Int}{p':Bool}{a':Option Addr}{n' c':Nat}{e':Int}{ty:TypeId}(hl:t.heap[g]?=some (.cells #[.bool p,.slice a n c,.int .i64 e,.bool p',.slice a' n' c',.int .i64 e'] ty))(b0:Bool)(a0:Option Addr)(n0 c0:Nat)(e0:Int) :
  ∃W,((t.setCell ⟨g,3,none⟩ (.bool b0)).setCell ⟨g,4,none⟩ (.slice a0 n0 c0)).setCell ⟨g,5,none⟩ (.int .i64 e0)=W∧W.heap[g]?=some (.cells #[.bool p,.slice a n c,.int .i64 e,.bool b0,.slice a0 n0 c0,.int .i64 e0] ty)∧(∀h x,h≠g→t.heap[h]?=some x→W.heap[h]?=some x)∧(∀B w,Below B w t→B≤g→Below B w W)∧(∀b a n k ex L V,N8 t b a n k ex L V→N8 W b a n k ex L V):=by
 have l0:(t.setCell ⟨g,3,none⟩ (.bool b0)).heap[g]?=some (.cells #[.bool p,.slice a n c,.int .i64 e,.bool b0,.slice a' n' c',.int .i64 e'] ty):=aC (k:=3) hl _
 have l1:((t.setCell ⟨g,3,none⟩ (.bool b0)).setCell ⟨g,4,none⟩ (.slice a0 n0 c0)).heap[g]?=some (.cells #[.bool p,.slice a n c,.int .i64 e,.bool b0,.slice a0 n0 c0,.int .i64 e'] ty):=aC (k:=4) l0 _
 have l2:(((t.setCell ⟨g,3,none⟩ (.bool b0)).setCell ⟨g,4,none⟩ (.slice a0 n0 c0)).setCell ⟨g,5,none⟩ (.int .i64 e0)).heap[g]?=some (.cells #[.bool p,.slice a n c,.int .i64 e,.bool b0,.slice a0 n0 c0,.int .i64 e0] ty):=aC (k:=5) l1 _
 refine⟨_,rfl,l2,fun h x hn hx=>?_,fun B w hb hB=>((hb.setCell (p:=⟨g,3,none⟩) hB _).setCell (p:=⟨g,4,none⟩) hB _).setCell (p:=⟨g,5,none⟩) hB _,fun b a n k ex L V h=>((h.boxH hl).boxH l0).boxH l1⟩
 rw [Below.heap_setCell _ _ _ _ hn,Below.heap_setCell _ _ _ _ hn,Below.heap_setCell _ _ _ _ hn];exact hx
end Go.Proofs.YteflkojglmleaaaGreatDoor
namespace Go.Proofs.YteflkojglmleaaaGreatDoor
open Go.RowKit
open Lm
end Go.Proofs.YteflkojglmleaaaGreatDoor
namespace Go.Proofs.YteflkojglmleaaaGreatDoor
open Go.RowKit
open Lm
attribute [local go_sem ↓] Go.wp_at_zero Go.wp_at_succ



theorem uo (b:Bool){x d:Nat}(hx:0<x)(hd:0<d):rq b x d 0≤x:=by
 unfold rq
 have h2:2 ^ 1≤2 ^ d:=Nat.pow_le_pow_right (by omega) hd
 rw [Nat.pow_one] at h2
 by_cases h1:x=1
 ·rw [h1,Nat.div_eq_of_lt (by omega)]
  split <;> omega
 ·have h3:x / 2 ^ d≤x / 2:=Nat.div_le_div_left h2 (by omega)
  split <;> omega

theorem jR {M E pos:Int}:blen (aT M E pos 0).natAbs≤blen M.natAbs:=by
 unfold aT
 by_cases h:M=0∨pos≤E
 ·rw [if_pos h];exact Nat.le_refl _
 ·rw [if_neg h,bg]
  exact blen_mono (uo _ (by omega) (by omega))

theorem sP {M E pos:Int}:blen (omz (aT M E pos 0)).natAbs≤blen M.natAbs:=by
 rw [cD]
 exact Nat.le_trans (blen_mono (cV _)) jR

def aY (F pos:Int):Int:=if F=0 then (if aj pos=true then 0 else 1) else F

theorem sD (v:Value)(F pos:Int)(w:World)(hf:Calls Tryz.prog 74 #[v] w fun e w'=>e=.returned (.int .i64 F)∧Below w.heap.size w w') :
  Calls Tryz.prog 46 #[.int .i64 pos,v] w fun e w'=>e=.returned (.int .i64 (aY F pos))∧Below w.heap.size w w':=by
 have HP:=ab (fun (W:World)=>pt pos W)
 by_cases h0:F=0
 ·subst h0
  cases hp:aj pos
  ·rw [show aY 0 pos=1 by unfold aY;rw [if_pos rfl,hp];rfl]
   go_enter Tryz.func46,Tryz.ntmps46
   go_wp2_with fail
   refine hf.mono ?_
   rintro e t1 ⟨rfl,g1⟩
   have HG:=ab g1
   have C:=HP.out t1
   rw [hp] at C
   clear g1
   go_wp2_with fail
   refine C.mono ?_
   rintro e wn ⟨rfl,hw⟩;rw [hw];clear hw wn C
   go_wp2
   go_ret
   exact⟨rfl,HG.out⟩
  ·rw [show aY 0 pos=0 by unfold aY;rw [if_pos rfl,if_pos hp]]
   go_enter Tryz.func46,Tryz.ntmps46
   go_wp2_with fail
   refine hf.mono ?_
   rintro e t1 ⟨rfl,g1⟩
   have HG:=ab g1
   have C:=HP.out t1
   rw [hp] at C
   clear g1
   go_wp2_with fail
   refine C.mono ?_
   rintro e wn ⟨rfl,hw⟩;rw [hw];clear hw wn C
   go_wp2
   go_ret
   exact⟨rfl,HG.out⟩
 ·rw [show aY F pos=F by unfold aY;rw [if_neg h0]]
  have i9:(F != 0)=true:=by simpa using h0
  clear h0 HP
  go_enter Tryz.func46,Tryz.ntmps46
  go_wp2_with fail
  refine hf.mono ?_
  rintro e t1 ⟨rfl,g1⟩
  have HG:=ab g1
  clear g1
  go_wp2
  go_ret
  exact⟨rfl,HG.out⟩

theorem Ans.len10 {w:World}{base:Nat}{a:Option Addr}{n k:Nat}{rs:List Nat}(h:Ans w base (.slice a n k) rs):n=rs.length:=by
 obtain⟨_,h2⟩:=h.own
 rcases h2 with ⟨e,h0⟩|⟨g,cap,cur,e,_⟩
 ·cases e;exact h0.symm
 ·cases e;rfl

theorem DR.n8 {w:World}{base:Nat}{b:Bool}{a:Option Addr}{n k:Nat}{ex M E:Int}{L:Nat}{V:Int}(h:DR w base b (.slice a n k) ex 0 M E)(hr:Rp L M E V):N8 w b a n k ex L V:=by
 obtain⟨rs,h1,h2|h2|h2⟩:=h
 ·obtain⟨_,e1,e2,e3,rfl,e5,e6⟩:=h2
  have hl:rs.length≤1048576:=bI e3 e2 (by omega)
  have hn:n=rs.length:=h1.len10
  refine⟨rs,hn,h1.arg (by omega),by omega,e6,?_⟩
  unfold vof
  rw [e1,e2,cY]
  exact hr.2
 ·exact absurd h2.1 (by decide)
 ·exact absurd h2.1 (by decide)

theorem tY:(Tryz.prog.info? 22).map (fun i=>(i.zero,i.size,i.bytes))=some (some (.slice none 0 0),1,24):=by kernel_rfl

theorem iV {w:World}(l:List Value)(t:TypeId)(j:Nat)(u:Value)(hj:l[j]?=some u):(w.alloc (.cells l.toArray t)).cell? ((⟨w.heap.size,0,none⟩:Addr).add j)=some u:=by
 have e:(⟨w.heap.size,0,none⟩:Addr).add j=⟨w.heap.size,j,none⟩:=by
  unfold Addr.add;split <;> simp_all
 rw [e]
 simp only [World.cell?,heap_alloc_new]
 simpa using hj

theorem BK.after10 {base:Nat}{w w5 w':World}(hb:Below w.heap.size w w5)(hle:base≤w.heap.size)(h:BK base w5 w'):BK base w w':=
 ⟨(hb.mono hle).trans h.below,fun g cs t ht ht2 hc=>h.box g cs t ht ht2 (ac hb hc)⟩

theorem cm.none10 (w:World)(base:Nat):cm w base [] []:=⟨rfl,fun i hi=>absurd hi (by simp),fun i j hi=>absurd hi (by simp)⟩

theorem sJ {w w5:World}{base:Nat}{vs:List Value}{rss:List (List Nat)}{g cap:Nat}(hown:w5.ownsRow w.heap.size 22 1 (.slice (some ⟨g,0,none⟩) vs.length cap) vs.length vs)(hA:cm w base vs rss)(hb:Below w.heap.size w w5):(∃sp,StX sp w5 base g vs (fun i=>rss.getD i []))∧w.heap.size≤g:=by
 obtain⟨_,h2⟩:=hown
 rcases h2 with ⟨e,_⟩|⟨g',cap',cur,e,hge,hh,_,_,_,ht⟩
 ·cases e
 ·simp only [Value.slice.injEq,Option.some.injEq,Addr.mk.injEq] at e
  obtain⟨⟨rfl,_⟩,_⟩:=e
  refine⟨⟨cur.toList.drop vs.length,?_,(hA.below hb).row,hA.apart⟩,hge⟩
  rw [hh]
  rw [Nat.mul_one] at ht
  have:vs ++ cur.toList.drop vs.length=cur.toList:=by
   conv=>lhs;lhs;rw [←ht]
   exact List.take_append_drop _ _
  rw [this]

theorem rX (b:Bool)(a:Option Addr)(n k:Nat)(e:Int)(b':Bool)(a':Option Addr)(n' k':Nat)(e':Int)(w:World):(Instr.field 33 (.agg #[.bool b,.slice a n k,.int .i64 e,.bool b',.slice a' n' k',.int .i64 e']) 1).run Tryz.prog w=.ok (.agg #[.bool b',.slice a' n' k',.int .i64 e']) w:=by kernel_rfl

attribute [local go_sem] rX

def ah (L:Nat)(V c:Int):Prop:=∃M E,Rp L M E V∧Nr8 M E∧c=ba M E

theorem ah.one {L:Nat}{V c c':Int}(h:ah L V c)(h':ah L V c'):c=c':=by
 obtain⟨M,E,h1,h2,rfl⟩:=h
 obtain⟨M',E',h1',h2',rfl⟩:=h'
 obtain⟨rfl,rfl⟩:=Rp.one h1 h1' h2 h2'
 rfl

theorem ah.is {L:Nat}{V c:Int}(h:ah L V c):aZ c:=by
 obtain⟨M,E,_,_,rfl⟩:=h
 unfold ba aZ
 split
 ·exact .inr (.inl rfl)
 ·split
  ·exact .inl rfl
  ·exact .inr (.inr rfl)

theorem SRV.codes {w:World}{base:Nat}{b1:Bool}{v1:Value}{e1:Int}{b2:Bool}{v2:Value}{e2 c:Int}{L:Nat}{V1 V2 d1 d2:Int}(h:SRV w base b1 v1 e1 b2 v2 e2 c 0 L V1 V2)(h1:ah L V1 d1)(h2:ah L V2 d2):c=ak d1 d2:=by
 rcases h with ⟨h0,_⟩|⟨_,M1,E1,M2,E2,hs,r1,m1,r2,m2⟩
 ·exact absurd rfl h0
 ·rw [hs.1,h1.one ⟨M1,E1,r1,m1,rfl⟩,h2.one ⟨M2,E2,r2,m2,rfl⟩]
end Go.Proofs.YteflkojglmleaaaGreatDoor
namespace Go.Proofs.YteflkojglmleaaaGreatDoor
open Go.RowKit
open Lm
attribute [local go_sem ↓] Go.wp_at_zero Go.wp_at_succ

theorem sV {w:World}{g:Nat}{o:Obj}(h:w.heap[g]?=some o):g<w.heap.size:=(Array.getElem?_eq_some_iff.1 h).1

theorem qV {a b m n:Nat}(ha:blen a≤m)(hb:blen b≤n):blen (a*b)≤m+n:=by
 refine (blen_le_iff _ _).2 ?_
 have h1:=(blen_le_iff a m).1 ha
 have h2:=(blen_le_iff b n).1 hb
 rw [Nat.pow_add]
 exact Nat.mul_lt_mul_of_lt_of_lt h1 h2

theorem Zn.dn {w:World}{b:Bool}{a:Option Addr}{n c:Nat}{M:Int}(h:Zn w (.agg #[.bool b,.slice a n c]) M):Dn w b (.slice a n c) M:=by
 obtain⟨u,e1,hn⟩:=h
 have e2:b=decide (M<0)∧.slice a n c=u:=by
  have:=congrArg Value.cells e1
  simp [Value.cells] at this
  exact this
 obtain⟨h1,rfl⟩:=e2
 exact⟨h1,hn⟩

theorem oU (b:Bool)(a:Option Addr)(n c:Nat)(M E:Int)(w:World)(hD:Dn w b (.slice a n c) M) :
  Calls Tryz.prog 33 #[.agg #[.bool b,.slice a n c,.int .i64 E]] w (cR w (-M) E):=by
 obtain⟨w0,hw0,hb0,h0,h1⟩:=aA w (.cells #[.bool b,.slice a n c,.int .i64 E] 41) (.cells #[.bool false,.slice none 0 0,.int .i64 0] 41)
 have gd:Below w.heap.size w w0.drew:=hb0.drew
 have g0:Below w0.drew.heap.size w0.drew w0.drew:=Below.refl _ _
 have HR:=mP (.agg #[.bool b,.slice a n c]) M w0.drew (hD.below gd).zn
 have KS:=ab (fun (W:World) (hg:Below w0.drew.heap.size w0.drew W)=>show W.cell? ⟨w.heap.size,0,none⟩=some (.bool b)∧W.cell? ⟨w.heap.size,1,none⟩=some (.slice a n c)∧W.cell? ⟨w.heap.size,2,none⟩=some (.int .i64 E) from tri8 (ac hg (show w0.drew.heap[w.heap.size]?=some (.cells #[.bool b,.slice a n c,.int .i64 E] 41) from h0)))
 have so:∀(W:World) (k:Nat) (u:Value) (k':Nat),(W.setCell ⟨w.heap.size+1,k,none⟩ u).cell? ⟨w.heap.size,k',none⟩=W.cell? ⟨w.heap.size,k',none⟩:=fun W k u k'=>bf (by omega)
 have HC1:=ab h1
 have HD:=ab gd
 clear gd h0 h1 hb0 hD
 go_enter Tryz.func33,Tryz.ntmps33
 go_wp2
 go_region_held3 (fun w'=>w'.cell? ⟨w.heap.size,0,none⟩=some (.bool b)∧w'.cell? ⟨w.heap.size,1,none⟩=some (.slice a n c)∧w'.cell? ⟨w.heap.size,2,none⟩=some (.int .i64 E)) (first|with_reducible exact KS.out _ g1|with_reducible exact KS.out _ g0 | (refine⟨?_,?_,?_⟩ <;> (rw [so,so,so];first|exact (KS.out _ g1).1|exact (KS.out _ g1).2.1|exact (KS.out _ g1).2.2))) (first
  | (go_at_call 63;refine HR.mono ?_;rintro e' t2 ⟨⟨b2,a2,n2,c2,rfl,Z2⟩,g1⟩;have N2:=Z2.dn;have hz:=ac g1 (show w0.drew.heap[w.heap.size+1]?=some (.cells #[.bool false,.slice none 0 0,.int .i64 0] 41) from HC1.out);have hf:=am hz;obtain⟨m0,m1,m2⟩:=tri8 hz))
 have T3:=ay hz (.bool b2) (.slice a2 n2 c2) (.int .i64 E)
 have T4:=an (ae HD.out g1) (show w.heap.size≤w.heap.size+1 by omega) (.bool b2) (.slice a2 n2 c2) (.int .i64 E)
 have T5:=N2.tri8 hz b2 a2 n2 c2 (.int .i64 E)
 obtain⟨p0,p1,p2⟩:=tri8 T3
 have HE:=ab (And.intro T5 T4)
 clear T3 T4 T5 so m0 m1 m2 hf KS g0 g1 HR hz N2 Z2
 generalize ((t2.setCell ⟨w.heap.size+1,0,none⟩ (.bool b2)).setCell ⟨w.heap.size+1,1,none⟩ (.slice a2 n2 c2)).setCell ⟨w.heap.size+1,2,none⟩ (.int .i64 E)=w5 at *
 go_wp2
 refine bodyPost_ret (v:=.agg #[.bool b2,.slice a2 n2 c2,.int .i64 E]) (by simp [results,Tryz.results33,go_sem,p0,p1,p2]) rfl ?_
 exact⟨⟨_,_,_,_,rfl,HE.out.1⟩,HE.out.2⟩

theorem sr (b1:Bool)(a1:Option Addr)(n1 c1:Nat)(M1 E1:Int)(b2:Bool)(a2:Option Addr)(n2 c2:Nat)(M2 E2:Int)(w:World)(hD1:Dn w b1 (.slice a1 n1 c1) M1)(hD2:Dn w b2 (.slice a2 n2 c2) M2)(hf:blen M1.natAbs+blen M2.natAbs≤1125899906840000)(he1:-2305843009213693952≤E1)(he2:E1≤2305843009213693952)(he3:-2305843009213693952≤E2)(he4:E2≤2305843009213693952) :
  Calls Tryz.prog 34 #[.agg #[.bool b1,.slice a1 n1 c1,.int .i64 E1],.agg #[.bool b2,.slice a2 n2 c2,.int .i64 E2]] w (cR w (omz (M1*M2)) (oe (M1*M2) (E1+E2))):=by
 obtain⟨w0,hw0,hb0,h0,h1,h2⟩:=aE w (.cells #[.bool b1,.slice a1 n1 c1,.int .i64 E1] 41) (.cells #[.bool b2,.slice a2 n2 c2,.int .i64 E2] 41) (.cells #[.bool false,.slice none 0 0,.int .i64 0] 41)
 have gd:Below w.heap.size w w0.drew:=hb0.drew
 have g0:Below w0.drew.heap.size w0.drew w0.drew:=Below.refl _ _
 have HR:=dc (.agg #[.bool b1,.slice a1 n1 c1]) (.agg #[.bool b2,.slice a2 n2 c2]) M1 M2 w0.drew (hD1.below gd).zn (hD2.below gd).zn hf
 have hbm:blen (M1*M2).natAbs≤1125899906840000:=by
  rw [Int.natAbs_mul]
  exact Nat.le_trans (qV (Nat.le_refl _) (Nat.le_refl _)) hf
 have HOF:=ab (fun (W:World) (b3:Bool) (a3:Option Addr) (n3 c3:Nat) (h:Zn W (.agg #[.bool b3,.slice a3 n3 c3]) (M1*M2))=>cP b3 a3 n3 c3 (M1*M2) (E1+E2) W h hbm (by omega) (by omega))
 have wk:IntKind.i64.wrap (E1+E2)=E1+E2:=by rw [IntKind.wrap_i64];omega
 have KS:=ab (fun (W:World) (hg:Below w0.drew.heap.size w0.drew W)=>show W.cell? ⟨w.heap.size,0,none⟩=some (.bool b1)∧W.cell? ⟨w.heap.size,1,none⟩=some (.slice a1 n1 c1)∧W.cell? ⟨w.heap.size,2,none⟩=some (.int .i64 E1)∧W.cell? ⟨w.heap.size+1,0,none⟩=some (.bool b2)∧W.cell? ⟨w.heap.size+1,1,none⟩=some (.slice a2 n2 c2)∧W.cell? ⟨w.heap.size+1,2,none⟩=some (.int .i64 E2) from by
  obtain⟨x0,x1,x2⟩:=tri8 (ac hg (show w0.drew.heap[w.heap.size]?=some (.cells #[.bool b1,.slice a1 n1 c1,.int .i64 E1] 41) from h0))
  obtain⟨x3,x4,x5⟩:=tri8 (ac hg (show w0.drew.heap[w.heap.size+1]?=some (.cells #[.bool b2,.slice a2 n2 c2,.int .i64 E2] 41) from h1))
  exact⟨x0,x1,x2,x3,x4,x5⟩)
 have so:∀(W:World) (k:Nat) (u:Value) (k':Nat),(W.setCell ⟨w.heap.size+1+1,k,none⟩ u).cell? ⟨w.heap.size,k',none⟩=W.cell? ⟨w.heap.size,k',none⟩:=fun W k u k'=>bf (by omega)
 have so2:∀(W:World) (k:Nat) (u:Value) (k':Nat),(W.setCell ⟨w.heap.size+1+1,k,none⟩ u).cell? ⟨w.heap.size+1,k',none⟩=W.cell? ⟨w.heap.size+1,k',none⟩:=fun W k u k'=>bf (by omega)
 have HC1:=ab h2
 have HD:=ab gd
 clear gd h0 h1 h2 hb0 hD1 hD2 hbm hf
 generalize oe (M1*M2) (E1+E2)=EE at *
 generalize omz (M1*M2)=MM at *
 generalize hes:E1+E2=es at *
 have hes2:E1+E2=es:=hes
 clear hes
 go_enter Tryz.func34,Tryz.ntmps34
 go_wp2
 go_region_held3 (fun w'=>w'.cell? ⟨w.heap.size,0,none⟩=some (.bool b1)∧w'.cell? ⟨w.heap.size,1,none⟩=some (.slice a1 n1 c1)∧w'.cell? ⟨w.heap.size,2,none⟩=some (.int .i64 E1)∧w'.cell? ⟨w.heap.size+1,0,none⟩=some (.bool b2)∧w'.cell? ⟨w.heap.size+1,1,none⟩=some (.slice a2 n2 c2)∧w'.cell? ⟨w.heap.size+1,2,none⟩=some (.int .i64 E2)) (first|with_reducible exact KS.out _ g2|with_reducible exact KS.out _ g1|with_reducible exact KS.out _ g0 | (refine⟨?_,?_,?_,?_,?_,?_⟩ <;> (first|rw [so,so,so] | rw [so2,so2,so2]) <;> (first|exact (KS.out _ g2).1|exact (KS.out _ g2).2.1|exact (KS.out _ g2).2.2.1|exact (KS.out _ g2).2.2.2.1|exact (KS.out _ g2).2.2.2.2.1|exact (KS.out _ g2).2.2.2.2.2))) (first
  | (go_at_call 64;refine HR.mono ?_;rintro e' t2 ⟨⟨b3,a3,n3,c3,rfl,Z2⟩,g1⟩)
  | (go_at_call 40;refine (HOF.out t2 b3 a3 n3 c3 Z2).mono ?_;rintro e' t3 ⟨⟨b4,a4,n4,c4,rfl,N4⟩,hb2⟩;have g2:=ae g1 hb2;have hz:=ac g2 (show w0.drew.heap[w.heap.size+1+1]?=some (.cells #[.bool false,.slice none 0 0,.int .i64 0] 41) from HC1.out);have hf:=am hz;obtain⟨m0,m1,m2⟩:=tri8 hz))
 have T3:=ay hz (.bool b4) (.slice a4 n4 c4) (.int .i64 EE)
 have T4:=an (ae HD.out g2) (show w.heap.size≤w.heap.size+1+1 by omega) (.bool b4) (.slice a4 n4 c4) (.int .i64 EE)
 have T5:=N4.tri8 hz b4 a4 n4 c4 (.int .i64 EE)
 obtain⟨p0,p1,p2⟩:=tri8 T3
 have HE:=ab (And.intro T5 T4)
 clear T3 T4 T5 so so2 m0 m1 m2 hf KS g0 g1 g2 hb2 HR hz N4 Z2 HOF
 generalize ((t3.setCell ⟨w.heap.size+1+1,0,none⟩ (.bool b4)).setCell ⟨w.heap.size+1+1,1,none⟩ (.slice a4 n4 c4)).setCell ⟨w.heap.size+1+1,2,none⟩ (.int .i64 EE)=w5 at *
 go_wp2
 refine bodyPost_ret (v:=.agg #[.bool b4,.slice a4 n4 c4,.int .i64 EE]) (by simp [results,Tryz.results34,go_sem,p0,p1,p2]) rfl ?_
 exact⟨⟨_,_,_,_,rfl,HE.out.1⟩,HE.out.2⟩
end Go.Proofs.YteflkojglmleaaaGreatDoor

