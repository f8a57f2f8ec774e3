/- Own of a list with room behind it. -/
import Derived.Test.YtkfbobefkbpdoaaGreatDoorB09
import Derived.Test.YtkfbobefkbpdoaaGreatDoorB06
import Derived.Deep.RegionHeld3
import Derived.Deep.CutBlock
import Derived.Deep.DeepCutAuto
import Derived.Test.YtkfbobefkbpdoaaGreatDoorB02
import Derived.Test.YtkfbobefkbpdoaaGreatDoorB01
import Derived.Lib.SliceRun
set_option maxRecDepth 20000
set_option maxHeartbeats 4000000
namespace Go.Proofs.YtkfbobefkbpdoaaGreatDoor
open Go.RowKit
open Lm
attribute [local go_sem ↓] Go.wp_at_zero Go.wp_at_succ

structure StX (sp:List Value)(w:World)(base L:Nat)(vs:List Value)(rows:Nat→List Nat):Prop where
 list:w.heap[L]?=some (.cells (vs ++ sp).toArray 22 (0,0))
 row:∀i,i<vs.length→Ans w base (vs.getD i aK) (rows i)
 apart:∀i j,i<vs.length→j<vs.length→i≠j→(vs.getD i aK).ownBlock=none∨(vs.getD i aK).ownBlock≠(vs.getD j aK).ownBlock

theorem StX.cell {sp:List Value}{w:World}{base L:Nat}{vs:List Value}{rows:Nat→List Nat}(h:StX sp w base L vs rows)(i:Nat)(hi:i<vs.length):w.cell? ⟨L,i,none⟩=some (vs.getD i aK):=by
 simp [World.cell?,h.list,hi,List.getD,List.getElem?_append_left hi]

theorem StX.free {sp:List Value}{w:World}{base L:Nat}{vs:List Value}{rows:Nat→List Nat}(h:StX sp w base L vs rows)(i:Nat):w.frozen? ⟨L,i,none⟩=false:=by
 simp [World.frozen?,h.list]

theorem StX.store {sp:List Value}{w:World}{base L:Nat}{vs:List Value}{rows:Nat→List Nat}(h:StX sp w base L vs rows)(i g cap:Nat)(hi:i<vs.length)(hv:vs.getD i aK=.slice (some ⟨g,0,none⟩) (rows i).length cap)(j z:Nat)(hz:z<18446744073709551616) :
  StX sp (w.setCell ⟨g,j,none⟩ (.int .u64 (z:Int))) base L vs (upd rows i ((rows i).set j z)):=by
 have hri:=h.row i hi
 have hne:=hri.ne h.list
 rw [hv] at hne
 have hgL:L≠g:=fun e=>hne (by simp [Value.ownBlock,e])
 refine⟨?_,fun m hm=>?_,h.apart⟩
 ·rw [Below.heap_setCell _ _ _ _ hgL];exact h.list
 ·by_cases e:m=i
  ·subst e
   rw [cb,hv]
   rw [hv] at hri
   have:=hri.stored j z hz
   rw [List.length_set] at this
   exact this
  ·rw [cS _ _ _ _ e]
   refine⟨ownsRow_setCell_other (h.row m hm).own ?_ _,(h.row m hm).limbs⟩
   have:=h.apart m i hm hi e
   rw [hv] at this
   rcases this with h1|h1
   ·rw [h1];simp
   ·simpa [Value.ownBlock] using h1

theorem StX.grow {sp:List Value}{w w2:World}{base L:Nat}{vs:List Value}{rows:Nat→List Nat}(h:StX sp w base L vs rows)(k:Nat)(hk:k<vs.length)(o:Obj)(v':Value)(r:List Nat)
  (ho:w2.ownsRow base 51 1 v' r.length (r.map lv)) (hl:Limbs r) (hg:(w.alloc o).grownBy w2 (vs.getD k aK).ownBlock) (hat:v'.ownBlock=(vs.getD k aK).ownBlock∨v'.ownBlock=some (w.alloc o).heap.size) :
  StX sp (w2.setCell ⟨L,k,none⟩ v') base L (vs.set k v') (upd rows k r):=by
 have hL:=lt_of_block h.list
 have hsz:(w.alloc o).heap.size=w.heap.size+1:=by simp
 have hneL:=(h.row k hk).ne h.list
 have hL2:w2.heap[L]?=some (.cells (vs ++ sp).toArray 22 (0,0)):=by
  have e1:(w.alloc o).heap[L]?=w.heap[L]?:=Below.heap_alloc w o L hL
  rw [hg.block L (by omega) (fun e=>hneL e.symm),e1];exact h.list
 have hneL':v'.ownBlock≠some L:=by
  rcases hat with e|e
  ·rw [e];exact hneL
  ·rw [e];intro e2;simp at e2;omega
 refine⟨?_,fun m hm=>?_,fun i j hi hj hij=>?_⟩
 ·have hlt:=lt_of_block hL2
  have h':w2.heap[L]=.cells (vs ++ sp).toArray 22 (0,0):=by simpa [Array.getElem?_eq_getElem hlt] using hL2
  show (w2.heap.modify L _)[L]?=_
  rw [Array.getElem?_eq_getElem (by simpa using hlt),Array.getElem_modify_self,h']
  simp [List.set_append_left _ _ hk]
 ·rw [List.length_set] at hm
  by_cases e:m=k
  ·subst e
   have ev:(vs.set m v').getD m aK=v':=by simp [List.getD,hm]
   rw [cb,ev]
   exact⟨ownsRow_setCell_other ho hneL' _,hl⟩
  ·have ev:(vs.set k v').getD m aK=vs.getD m aK:=by
    simp [List.getD,List.getElem?_set_ne (Ne.symm e)]
   rw [cS _ _ _ _ e,ev]
   have hr:=h.row m hm
   refine⟨ownsRow_setCell_other (((hr.own).alloc o).kept hg ?_) (hr.ne h.list) _,hr.limbs⟩
   exact h.apart m k hm hk e
 ·rw [List.length_set] at hi hj
  have hlt:∀m,m<vs.length→∀g,(vs.getD m aK).ownBlock=some g→g<w.heap.size:=fun m hm g hg=>((h.row m hm).own.lt g hg).2
  by_cases e1:i=k
  ·subst e1
   have ev:(vs.set i v').getD i aK=v':=by simp [List.getD,hi]
   have ev2:(vs.set i v').getD j aK=vs.getD j aK:=by simp [List.getD,List.getElem?_set_ne hij]
   rw [ev,ev2]
   rcases hat with e|e
   ·rw [e];exact h.apart i j hi hj hij
   ·right
    rw [e]
    intro e2
    have:=hlt j hj _ e2.symm
    omega
  ·by_cases e2:j=k
   ·subst e2
    have ev:(vs.set j v').getD j aK=v':=by simp [List.getD,hj]
    have ev2:(vs.set j v').getD i aK=vs.getD i aK:=by simp [List.getD,List.getElem?_set_ne (Ne.symm e1)]
    rw [ev,ev2]
    rcases hat with e|e
    ·rw [e];exact h.apart i j hi hj hij
    ·right
     rw [e]
     intro e3
     have:=hlt i hi _ e3
     omega
   ·have ev:(vs.set k v').getD i aK=vs.getD i aK:=by simp [List.getD,List.getElem?_set_ne (Ne.symm e1)]
    have ev2:(vs.set k v').getD j aK=vs.getD j aK:=by simp [List.getD,List.getElem?_set_ne (Ne.symm e2)]
    rw [ev,ev2]
    exact h.apart i j hi hj hij

theorem StX.congr {sp:List Value}{w:World}{base L:Nat}{vs:List Value}{rows rows':Nat→List Nat}(h:StX sp w base L vs rows)(he:∀i,i<vs.length→rows i=rows' i):StX sp w base L vs rows':=
 ⟨h.list,fun i hi=>by rw [←he i hi];exact h.row i hi,h.apart⟩

theorem StX.kept {sp:List Value}{w w2:World}{base L:Nat}{vs:List Value}{rows:Nat→List Nat}{v:Value}(h:StX sp w base L vs rows)(k:Nat)(hk:k<vs.length)(hv:vs.getD k aK=v)(o:Obj)(hg:(w.alloc o).grownBy w2 v.ownBlock) :
  w2.cell? ⟨L,k,none⟩=some v∧w2.frozen? ⟨L,k,none⟩=false:=by
 have hL:=lt_of_block h.list
 have hneL:=(h.row k hk).ne h.list
 rw [hv] at hneL
 have hsz:(w.alloc o).heap.size=w.heap.size+1:=by simp
 have e:w2.heap[L]?=w.heap[L]?:=by
  rw [hg.block L (by omega) (fun e=>hneL e.symm)];exact Below.heap_alloc w o L hL
 refine⟨?_,?_⟩
 ·rw [World.cell?_of_block (w:=w) (a:=⟨L,k,none⟩) e,h.cell k hk,hv]
 ·rw [World.frozen?_of_block (w:=w) (a:=⟨L,k,none⟩) e];exact h.free k

theorem pm (sp:List Value)(cap:Nat)(L base:Nat)(vs:List Value)(rows:Nat→List Nat)(w:World)(h:StX sp w base L vs rows)(hn:vs.length≤1000)(hl:∀i,i<vs.length→(rows i).length≤17592186044000)(hb:base≤L) :
  Calls Tryz.prog 33 #[.slice (some ⟨L,0,none⟩) vs.length cap] w fun e w'=>e=.returned (.bool true)∧BK base w w':=by
 go_enter Tryz.func33,Tryz.ntmps33
 go_wp2
 go_loopw [15] (fun i wr=>∃k:Nat,k≤vs.length∧i=.int .i64 k∧StX sp wr base L vs (bV rows k)∧BK base w wr) (fun i _=>vs.length - (intOf i).toNat)
 case atStart=>exact⟨0,Nat.zero_le _,rfl,h.congr (fun i _=>by simp [bV]),BK.refl _ _⟩
 case round=>
  obtain⟨k,hk,rfl,hst,hbl⟩:=hrel
  by_cases hkl:k<vs.length
  ·have hck:=hst.cell k hkl
   have hrow:=hst.row k hkl
   have hrk:bV rows k k=rows k:=by simp [bV]
   rw [hrk] at hrow
   have hlk:=hl k hkl
   have ec:(k:Int) % 251+1=((k % 251+1:Nat):Int):=by omega
   have bc:k % 251+1<18446744073709551616:=by omega
   have HRK:=ab hrk
   have HOV:Hid (over rows k=List.replicate (rows k).length (k % 251+1)):=rfl
   have HST:=ab hst
   have HBL:=ab hbl
   generalize k % 251+1=c at *
   clear hst hbl hrk h
   rcases hrow.form with ⟨hv,hz⟩|⟨g,cap,hv,hg1,hg2,hcap,hmax,_,_⟩
   ·rw [hv] at hck
    have HZ:=ab hz
    clear hrow hv hz
    go_wp2
    refine wp_loop_rounds 1 ?_
    rw [rounds_succ]
    go_wp2
    go_roundw
    case rel=>
     refine⟨k+1,by omega,by go_num,HST.out.congr (fun m _=>?_),HBL.out⟩
     by_cases e:m=k
     ·subst e
      rw [HRK.out]
      simp [bV,over,HZ.out]
     ·exact iM rows k m e
    case measure=>simp [intOf];omega
   ·rw [hv] at hck
    go_wp2
    go_loopw [22] (fun i wr=>∃j:Nat,j≤(rows k).length∧i=.int .i64 j∧StX sp wr base L vs (upd (bV rows k) k (List.replicate j c ++ (rows k).drop j))∧BK base w wr) (fun i _=>(rows k).length - (intOf i).toNat)
    case atStart=>
     refine⟨0,Nat.zero_le _,rfl,HST.out.congr (fun m _=>?_),HBL.out⟩
     by_cases e:m=k
     ·subst e;rw [HRK.out,cb];simp
     ·rw [cS _ _ _ _ e]
    case round=>
     obtain⟨j,hj,rfl,hst,hbl⟩:=hrel
     clear HST HBL
     by_cases hjl:j<(rows k).length
     ·have hr2:=hst.row k hkl
      rw [cb] at hr2
      have hfl:=mK (rows k) j c hj
      rcases hr2.form with ⟨hv2,_⟩|⟨g',cap',hv2,hg1',hg2',_,_,hfr',hcl'⟩
      ·rw [hv2] at hv;cases hv
      ·have hgg:g'=g:=by rw [hv2] at hv;simp only [Value.slice.injEq,Option.some.injEq,Addr.mk.injEq] at hv;exact hv.1.1
       subst hgg
       have hfr:=hfr' j
       have hco:=hcl' j (by omega)
       have hst2:=hst.store k g' cap' hkl (by rw [cb];exact hv2) j c bc
       rw [cb,mT (rows k) j c hjl] at hst2
       have HS:=ab hst2
       have HL:=ab (hbl.store (hv2 ▸ hr2) j (.int .u64 (c:Int)))
       generalize (List.replicate j c ++ (rows k).drop j).getD j 0=o at *
       clear hst hbl hst2 hr2 hv2 hfr' hcl' hrow hv hck hfl
       go_wp2
       go_roundw
       case rel=>
        refine⟨j+1,by omega,by go_num,HS.out.congr (fun m _=>?_),HL.out⟩
        by_cases e:m=k
        ·subst e;rw [cb,cb]
        ·rw [cS _ _ _ _ e,cS _ _ _ _ e,cS _ _ _ _ e]
       case measure=>simp [intOf];omega
     ·have ej:j=(rows k).length:=by omega
      subst ej
      have HS:=ab hst
      have HL:=ab hbl
      clear hst hbl hrow hv hck
      go_wp2
      go_roundw
      case rel=>
       refine⟨k+1,by omega,by go_num,HS.out.congr (fun m _=>?_),HL.out⟩
       by_cases e:m=k
       ·subst e
        rw [cb]
        have:bV rows (m+1) m=over rows m:=by simp [bV]
        rw [this,HOV.out];simp
       ·rw [cS _ _ _ _ e];exact iM rows k m e
      case measure=>simp [intOf];omega
  ·have ek:k=vs.length:=by omega
   subst ek
   have hst3:StX sp wr base L vs (over rows):=hst.congr (fun m hm=>by simp [bV,hm])
   have HST:=ab hst3
   have HBL:=ab hbl
   clear hst hbl hst3 h
   obtain⟨i0,hi,hz0,hz1,hz2⟩:=info_parts Tryz.infoU
   go_wp2
   go_loopw [36] (fun i wr=>∃(k:Nat) (us:List Value),k≤vs.length∧us.length=vs.length∧i=.int .i64 k∧StX sp wr base L us (fun m=>if m<k then over rows m ++ bv (300+5*m) else over rows m)∧BK base w wr) (fun i _=>vs.length - (intOf i).toNat)
   case atStart=>exact⟨0,vs,Nat.zero_le _,rfl,rfl,HST.out.congr (fun m _=>by simp),HBL.out⟩
   case round=>
    obtain⟨k,us,hk',hus,rfl,hst,hbl⟩:=hrel
    clear HST HBL
    by_cases hkl':k<vs.length
    ·have hku:k<us.length:=by omega
     have hck:=hst.cell k hku
     have hrow:=hst.row k hku
     simp only [Nat.lt_irrefl,if_false] at hrow
     have hfr:=hst.free k
     have hlen:(over rows k).length≤17592186044000:=by unfold over;rw [List.length_replicate];exact hl k hkl'
     have eb:(300:Int)+5*(k:Int)=((300+5*k:Nat):Int):=by omega
     have HST:=ab hst
     have HBL:=ab hbl
     have HV:=ab (rfl:us.getD k aK=us.getD k aK)
     have HB5:Hid (300+5*k<6000):=by unfold Hid;omega
     obtain⟨bb,hbb⟩:∃bb,bb=300+5*k:=⟨_,rfl⟩
     rw [←hbb] at eb
     have hb6:bb<6000:=by omega
     have HBB:=ab hbb
     generalize hv:us.getD k aK=v at *
     have HVV:=ab hv
     obtain⟨b1,h1⟩:∃b1,b1=bb+1:=⟨_,rfl⟩
     obtain⟨b2,h2⟩:∃b2,b2=bb+2:=⟨_,rfl⟩
     obtain⟨b3,h3⟩:∃b3,b3=bb+3:=⟨_,rfl⟩
     obtain⟨b4,h4⟩:∃b4,b4=bb+4:=⟨_,rfl⟩
     have g1:(bb:Int)+1=(b1:Int):=by omega
     have g2:(bb:Int)+2=(b2:Int):=by omega
     have g3:(bb:Int)+3=(b3:Int):=by omega
     have g4:(bb:Int)+4=(b4:Int):=by omega
     have q1:b1<18446744073709551616:=by omega
     have q2:b2<18446744073709551616:=by omega
     have q3:b3<18446744073709551616:=by omega
     have q4:b4<18446744073709551616:=by omega
     have H5:Hid ([bb,b1,b2,b3,b4]=bv (300+5*k)):=ab (by rw [h1,h2,h3,h4,hbb];rfl)
     clear hst hbl hv hbb HV h1 h2 h3 h4
     go_wp2_with (at_builtin;refine wpList_append_own_at _ rfl _ _ 22 rfl base 51 i0 (.int .u64 0) 1 8 Tryz.underlying22 hi hz0 hz1 hz2 rfl (by decide) v (over rows k).length _ rfl (hrow.own.alloc _) ⟨wr.heap.size,0,none⟩ 5 5 ([bb,b1,b2,b3,b4].map lv) rfl rfl (fS [bb,b1,b2,b3,b4]) (ew _) (by unfold maxLen;omega) (by omega) (by have:=lt_of_block HST.out.list;simp;omega) ?_;intro v' w2 hown2 hgrow2 _ hat2;have hkp:=HST.out.kept k hku HVV.out _ hgrow2;have hck2:=hkp.1;have hfr2:=hkp.2;clear hkp;obtain⟨g5,cap5,hv5⟩:=dz hown2 (by omega);subst hv5;have HO:=ab hown2;have HG:=ab hgrow2;have HAT:=ab hat2;clear hown2 hgrow2 hat2)
     go_roundw
     case rel=>
      refine⟨k+1,us.set k _,by omega,by rw [List.length_set];exact hus,by go_num,(HST.out.grow k hku _ _ (over rows k ++ bv (300+5*k)) ?_ ?_ (by rw [HVV.out];exact HG.out) (by rw [HVV.out];exact HAT.out)).congr (fun m _=>?_),?_⟩
      ·rw [←H5.out,List.length_append,List.map_append];exact HO.out
      ·exact oI rows k (by omega)
      ·by_cases e:m=k
       ·subst e;rw [cb];simp
       ·rw [cS _ _ _ _ e]
        by_cases h1:m<k
        ·rw [if_pos h1,if_pos (by omega)]
        ·rw [if_neg h1,if_neg (by omega)]
      ·have hLs:=lt_of_block HST.out.list
       exact HBL.out.grew hrow HST.out.list hb HG.out k _
     case measure=>simp [intOf];omega
    ·have ek:k=vs.length:=by omega
     subst ek
     have hst4:StX sp wr base L us (fun m=>over rows m ++ bv (300+5*m)):=hst.congr (fun m hm=>by simp [show m<vs.length by omega])
     have HST:=ab hst4
     have HBL:=ab hbl
     clear hst hbl hst4 hi hz0 hz1 hz2
     go_wp2
     go_loop [64] (fun i=>∃k:Nat,k≤vs.length∧i=.int .i64 k) (fun i=>vs.length - (intOf i).toNat)
     case atStart=>exact⟨0,Nat.zero_le _,rfl⟩
     case round=>
      obtain⟨k,hk4,rfl⟩:=hrel
      by_cases hkl4:k<vs.length
      ·have hku:k<us.length:=by omega
       have hck:=HST.out.cell k hku
       have hrow:=HST.out.row k hku
       have hlr:(over rows k ++ bv (300+5*k)).length=(rows k).length+5:=by simp [over,bv]
       rcases hrow.form with ⟨_,h0⟩|⟨g,cap,hv,_,_,hgl,hgm,_,hgc⟩
       ·rw [h0] at hlr;simp at hlr
       ·rw [hlr] at hv hgl hgc
        rw [hv] at hck
        have hzl:=hl k hkl4
        have HGC:=ab hgc
        clear hrow hgc hv hlr
        go_wp2
        go_loop [71] (fun i=>∃j:Nat,j≤(rows k).length+5∧i=.int .i64 j) (fun i=>(rows k).length+5 - (intOf i).toNat)
        case atStart=>exact⟨0,Nat.zero_le _,rfl⟩
        case round=>
         obtain⟨j,hj,rfl⟩:=hrel
         by_cases hjl:j<(rows k).length+5
         ·have hcj:=HGC.out j hjl
          by_cases hj2:j<(rows k).length
          ·rw [qr rows k j hj2] at hcj
           have ec:(k:Int) % 251+1=((k % 251+1:Nat):Int):=by omega
           have bc:k % 251+1<18446744073709551616:=by omega
           generalize k % 251+1=c at *
           have hne:((c:Int) != (c:Int))=false:=by simp
           have i1:(j:Int)<((rows k).length:Int):=by omega
           have hd2:decide (((rows k).length:Int)≤(j:Int))=false:=decide_eq_false (by omega)
           generalize (rows k).length=zl at *
           go_wp2
           go_round
           case rel=>exact⟨j+1,by omega,by go_num⟩
           case measure=>simp [intOf];omega
          ·rw [lR rows k j (by omega) hjl] at hcj
           have hd1:decide ((j:Int)<((rows k).length:Int))=false:=decide_eq_false (by omega)
           have i1:((rows k).length:Int)≤(j:Int):=by omega
           generalize (rows k).length=zl at *
           obtain⟨t,ht⟩:∃t,t=300+5*k+(j - zl):=⟨_,rfl⟩
           rw [←ht] at hcj
           have et:(300:Int)+5*(k:Int)+(j:Int) - ((zl:Int)+5)+5=(t:Int):=by omega
           have bt:t<18446744073709551616:=by omega
           have hne:((t:Int) != (t:Int))=false:=by simp
           have HT:=ab ht
           clear ht
           go_wp2
           go_round
           case rel=>exact⟨j+1,by omega,by go_num⟩
           case measure=>simp [intOf];omega
         ·go_wp2
          go_round
          case rel=>exact⟨k+1,by omega,by go_num⟩
          case measure=>simp [intOf];omega
      ·go_wp2
       go_ret
       exact⟨rfl,HBL.out⟩

theorem aG {W0 W:World}(h:Below W0.heap.size W0 W)(o:Obj):Below W0.heap.size W0 (W.alloc o):=h.alloc h.size _
theorem be {W0 W:World}(h:Below W0.heap.size W0 W):Below W0.heap.size W0 W.drew:=h.drew
theorem bD {W t:World}{o:Obj}(h:Below (W.alloc o).heap.size (W.alloc o) t):t.heap[W.heap.size]?=some o:=ac h (heap_alloc_new W o)
theorem dm {W t:World}{o:Obj}(h:Below (W.alloc o).drew.heap.size (W.alloc o).drew t):t.heap[W.heap.size]?=some o:=ac h (heap_alloc_new W o)

def vof (b:Bool)(X:List Nat)(ex:Int)(L:Nat):Int:=zz b (val X)*2 ^ (ex+L).toNat

def flt (ex1 ex2 V1 V2:Int):Int:=if ah ex1=true then (if ah ex2=true then (if V2<V1 then 100 else 0) else 80) else 80

theorem j8 {y z:Int}:0<am y z ↔ z<y:=by
 unfold am
 split
 ·omega
 ·split <;> omega

def V8 (w:World)(b:Bool)(a:Option Addr)(n c:Nat)(E:Int)(L:Nat)(V:Int):Prop:=
 ∃M,Dn w b (.slice a n c) M∧Rp L M E V∧Nr8 M E∧blen M.natAbs≤1125899906840000∧-1152921504606846976≤E∧E≤1152921504606846976

theorem V8.below {w w':World}{b:Bool}{a:Option Addr}{n c:Nat}{E:Int}{L:Nat}{V:Int}(h:V8 w b a n c E L V)(hb:Below w.heap.size w w'):V8 w' b a n c E L V:=by
 obtain⟨M,h1,h2⟩:=h
 exact⟨M,h1.below hb,h2⟩

theorem V8.hexa {w:World}{b0:Bool}{a0:Option Addr}{n0 c0:Nat}{E0:Int}{L:Nat}{V:Int}{g:Nat}{p:Bool}{a:Option Addr}{n c:Nat}{e:Int}{p':Bool}{a':Option Addr}{n' c':Nat}{e':Int}{t:TypeId}(h:V8 w b0 a0 n0 c0 E0 L V)(hl:w.heap[g]?=some (.cells #[.bool p,.slice a n c,.int .i64 e,.bool p',.slice a' n' c',.int .i64 e'] t))(b1:Bool)(a1:Option Addr)(n1 c1:Nat)(e1:Int)(b2:Bool)(a2:Option Addr)(n2 c2:Nat)(e2:Int) :
  V8 ((((((w.setCell ⟨g,0,none⟩ (.bool b1)).setCell ⟨g,1,none⟩ (.slice a1 n1 c1)).setCell ⟨g,2,none⟩ (.int .i64 e1)).setCell ⟨g,3,none⟩ (.bool b2)).setCell ⟨g,4,none⟩ (.slice a2 n2 c2)).setCell ⟨g,5,none⟩ (.int .i64 e2)) b0 a0 n0 c0 E0 L V:=by
 obtain⟨M,⟨h1,ds,h2,h3⟩,h4⟩:=h
 exact⟨M,⟨h1,ds,h2.hexa hl b1 a1 n1 c1 e1 b2 a2 n2 c2 e2,h3⟩,h4⟩

theorem V8.zero (w:World)(L:Nat):V8 w false none 0 0 0 L 0:=
 ⟨0,⟨by decide,Num.nil8 w⟩,⟨by omega,by simp⟩,.inl ⟨rfl,rfl⟩,by simp [blen],by omega,by omega⟩

theorem V8.cmp {b1:Bool}{a1:Option Addr}{n1 c1:Nat}{E1:Int}{b2:Bool}{a2:Option Addr}{n2 c2:Nat}{E2:Int}{L:Nat}{V1 V2:Int}{w:World}(h1:V8 w b1 a1 n1 c1 E1 L V1)(h2:V8 w b2 a2 n2 c2 E2 L V2) :
  Calls Tryz.prog 16 #[.agg #[.bool b1,.slice a1 n1 c1,.int .i64 E1],.agg #[.bool b2,.slice a2 n2 c2,.int .i64 E2]] w fun e w'=>e=.returned (.int .i64 (am V1 V2))∧Below w.heap.size w w':=by
 obtain⟨M1,d1,r1,_,f1,x1,y1⟩:=h1
 obtain⟨M2,d2,r2,_,f2,x2,y2⟩:=h2
 have p1:=r1.1
 have p2:=r2.1
 refine (nH b1 a1 n1 c1 M1 E1 b2 a2 n2 c2 M2 E2 L (E1+L).toNat (E2+L).toNat w d1 d2 f1 f2 x1 y1 x2 y2 (by omega) (by omega)).mono fun e w' h=>?_
 rw [r1.2,r2.2] at h
 exact h

theorem ll (b:Bool)(a:Option Addr)(c:Nat)(X:List Nat)(ex:Int)(L:Nat)(w:World)(hA:Arg w (.slice a X.length c) X)(hf:X.length≤17592186043904)(hE:ah ex=true)(hL:4611686018427387904≤L) :
  Calls Tryz.prog 15 #[.agg #[.bool b,.slice a X.length c,.int .i64 ex]] w fun e w'=>(∃b' a' n' c' E',e=.returned (.agg #[.bool b',.slice a' n' c',.int .i64 E'])∧V8 w' b' a' n' c' E' L (vof b X ex L))∧Below w.heap.size w w':=by
 refine (pE b a c X ex w hA hf hE).mono fun e w' h=>?_
 obtain⟨⟨b',a',n',c',he,hd⟩,hb⟩:=h
 have F:=cr (b:=b) (ex:=ex) hA hf hE
 have hr:=(aH ex).1 hE
 exact⟨⟨b',a',n',c',_,he,_,hd,(Rp.make L (zz b (val X)) ex (by omega)).norm,ba _ _,by omega,F.2.1,F.2.2.1⟩,hb⟩

def ie (U:World)(L:Nat)(V1 V2:Int)(s:Value)(wx:World):Prop:=
 ∃(g:Nat) (b:Bool) (a:Option Addr) (n k:Nat) (e:Int) (b':Bool) (a':Option Addr) (n' k':Nat) (e':Int),s=.pointer (some ⟨g,0,none⟩)∧wx.heap[g]?=some (.cells #[.bool b,.slice a n k,.int .i64 e,.bool b',.slice a' n' k',.int .i64 e'] 33)∧V8 wx b a n k e L V1∧V8 wx b' a' n' k' e' L V2∧Below U.heap.size U wx∧U.heap.size≤g

theorem rT {U t:World}{L:Nat}{V1 V2:Int}{b:Bool}{a:Option Addr}{n k:Nat}{e:Int}{b':Bool}{a':Option Addr}{n' k':Nat}{e':Int}(h1:V8 t b a n k e L V1)(h2:V8 t b' a' n' k' e' L V2)(g:Below U.heap.size U t):ie U L V1 V2 (.pointer (some ⟨t.heap.size,0,none⟩)) (t.alloc (.cells #[.bool b,.slice a n k,.int .i64 e,.bool b',.slice a' n' k',.int .i64 e'] 33)):=
 ⟨_,b,a,n,k,e,b',a',n',k',e',rfl,heap_alloc_new _ _,h1.below (bI _ _),h2.below (bI _ _),aG g _,g.size⟩

theorem kP {U t:World}{L:Nat}{V1 V2:Int}{b:Bool}{a:Option Addr}{n k:Nat}{e:Int}{b':Bool}{a':Option Addr}{n' k':Nat}{e':Int}{gg:Nat}(hq:t.heap[gg]?=some (.cells #[.bool false,.slice none 0 0,.int .i64 0,.bool false,.slice none 0 0,.int .i64 0] 33))(hge:U.heap.size≤gg)(h1:V8 t b a n k e L V1)(h2:V8 t b' a' n' k' e' L V2)(g:Below U.heap.size U t) :
  ie U L V1 V2 (.pointer (some ⟨gg,0,none⟩)) ((((((t.setCell ⟨gg,0,none⟩ (.bool b)).setCell ⟨gg,1,none⟩ (.slice a n k)).setCell ⟨gg,2,none⟩ (.int .i64 e)).setCell ⟨gg,3,none⟩ (.bool b')).setCell ⟨gg,4,none⟩ (.slice a' n' k')).setCell ⟨gg,5,none⟩ (.int .i64 e')):=
 ⟨_,b,a,n,k,e,b',a',n',k',e',rfl,aJ hq _ _ _ _ _ _,h1.hexa hq b a n k e b' a' n' k' e',h2.hexa hq b a n k e b' a' n' k' e',aF g hge _ _ _ _ _ _,hge⟩

theorem iw (b1:Bool)(a1:Option Addr)(k1:Nat)(X:List Nat)(ex1:Int)(b2:Bool)(a2:Option Addr)(k2:Nat)(Y:List Nat)(ex2:Int)(L:Nat)(w:World)(hA:Arg w (.slice a1 X.length k1) X)(hB:Arg w (.slice a2 Y.length k2) Y)(f1:X.length≤17592186043904)(f2:Y.length≤17592186043904)(hL:4611686018427387904≤L) :
  ∃o c,ch w b1 a1 X.length k1 ex1 b2 a2 Y.length k2 ex2 o c∧aQ o c=flt ex1 ex2 (vof b1 X ex1 L) (vof b2 Y ex2 L):=by
 unfold flt
 by_cases hE1:ah ex1=true
 ·rw [if_pos hE1]
  by_cases hE2:ah ex2=true
  ·rw [if_pos hE2]
   have r1:=(aH ex1).1 hE1
   have r2:=(aH ex2).1 hE2
   refine⟨am (vof b1 X ex1 L) (vof b2 Y ex2 L),0,fun W hg=>im b1 a1 k1 X ex1 b2 a2 k2 Y ex2 L _ _ W (hA.below hg) (hB.below hg) (by omega) (by omega) hE1 hE2 hL (by omega) (by omega),?_⟩
   unfold aQ
   rw [if_pos rfl]
   simp only [j8]
  ·rw [if_neg hE2]
   exact⟨0,80,fun W hg=>pT b1 a1 k1 X ex1 b2 a2 Y.length k2 ex2 W (hA.below hg) hE1 (by simpa using hE2),by decide⟩
 ·rw [if_neg hE1]
  exact⟨0,80,fun W hg=>oA b1 a1 X.length k1 ex1 b2 a2 Y.length k2 ex2 W (by simpa using hE1),by decide⟩

def SRV (w:World)(base:Nat)(b1:Bool)(v1:Value)(e1:Int)(b2:Bool)(v2:Value)(e2 c fl:Int)(L:Nat)(V1 V2:Int):Prop:=
 (fl≠0∧c=fl∧b1=false∧v1=.slice none 0 0∧e1=0∧b2=false∧v2=.slice none 0 0∧e2=0) ∨
  (fl=0∧∃M1 E1 M2 E2,SR w base b1 v1 e1 b2 v2 e2 c M1 E1 M2 E2∧Rp L M1 E1 V1∧Nr8 M1 E1∧Rp L M2 E2 V2∧Nr8 M2 E2)

theorem SRV.below {w w':World}{base:Nat}{b1:Bool}{v1:Value}{e1:Int}{b2:Bool}{v2:Value}{e2 c fl:Int}{L:Nat}{V1 V2:Int}(h:SRV w base b1 v1 e1 b2 v2 e2 c fl L V1 V2)(hb:Below w.heap.size w w'):SRV w' base b1 v1 e1 b2 v2 e2 c fl L V1 V2:=by
 rcases h with h|⟨h0,M1,E1,M2,E2,h1,h2⟩
 ·exact .inl h
 ·exact .inr ⟨h0,M1,E1,M2,E2,h1.below hb,h2⟩

theorem SRV.base {w:World}{base base':Nat}{b1:Bool}{v1:Value}{e1:Int}{b2:Bool}{v2:Value}{e2 c fl:Int}{L:Nat}{V1 V2:Int}(h:SRV w base b1 v1 e1 b2 v2 e2 c fl L V1 V2)(hb:base'≤base):SRV w base' b1 v1 e1 b2 v2 e2 c fl L V1 V2:=by
 rcases h with h|⟨h0,M1,E1,M2,E2,h1,h2⟩
 ·exact .inl h
 ·exact .inr ⟨h0,M1,E1,M2,E2,h1.base hb,h2⟩

theorem SRV.hexa {w:World}{base g:Nat}{b1:Bool}{v1:Value}{e1:Int}{b2:Bool}{v2:Value}{e2 c fl:Int}{L:Nat}{V1 V2:Int}{a0 a1 a2 a3 a4 a5:Value}{t:TypeId}(h:SRV w base b1 v1 e1 b2 v2 e2 c fl L V1 V2)(hl:w.heap[g]?=some (.cells #[a0,a1,a2,a3,a4,a5] t))(ht:t≠51)(u0 u1 u2 u3 u4 u5:Value) :
  SRV ((((((w.setCell ⟨g,0,none⟩ u0).setCell ⟨g,1,none⟩ u1).setCell ⟨g,2,none⟩ u2).setCell ⟨g,3,none⟩ u3).setCell ⟨g,4,none⟩ u4).setCell ⟨g,5,none⟩ u5) base b1 v1 e1 b2 v2 e2 c fl L V1 V2:=by
 rcases h with h|⟨h0,M1,E1,M2,E2,h1,h2⟩
 ·exact .inl h
 ·exact .inr ⟨h0,M1,E1,M2,E2,h1.hexa hl ht u0 u1 u2 u3 u4 u5,h2⟩

def bM (w:World)(e:Ending)(w':World)(fl:Int)(L:Nat)(V1 V2:Int):Prop:=
 (∃b1 a1 n1 k1 e1 b2 a2 n2 k2 e2 c,e=.returned (.tuple #[.agg #[.bool b1,.slice a1 n1 k1,.int .i64 e1,.bool b2,.slice a2 n2 k2,.int .i64 e2],.int .i64 c])∧SRV w' w.heap.size b1 (.slice a1 n1 k1) e1 b2 (.slice a2 n2 k2) e2 c fl L V1 V2)∧Below w.heap.size w w'

theorem Ans.nil10 (w:World)(base:Nat):Ans w base (.slice none 0 0) []:=by
 obtain⟨rs,h1,h2⟩:∃rs,Ans w base (.slice none 0 0) rs∧rs=[]:=⟨[],⟨⟨rfl,.inl ⟨rfl,rfl⟩⟩,by intro z hz;cases hz⟩,rfl⟩
 rw [←h2];exact h1

theorem SRV.lists {w:World}{base:Nat}{b1:Bool}{v1:Value}{e1:Int}{b2:Bool}{v2:Value}{e2 c fl:Int}{L:Nat}{V1 V2:Int}(h:SRV w base b1 v1 e1 b2 v2 e2 c fl L V1 V2):∃r1 r2,Ans w base v1 r1∧Ans w base v2 r2∧r1.length≤1048576∧r2.length≤1048576∧(v1.ownBlock=none∨v1.ownBlock≠v2.ownBlock):=by
 have hnil:∃r1 r2,Ans w base (.slice none 0 0) r1∧Ans w base (.slice none 0 0) r2∧r1.length≤1048576∧r2.length≤1048576∧((Value.slice none 0 0).ownBlock=none∨(Value.slice none 0 0).ownBlock≠(Value.slice none 0 0).ownBlock):=
  ⟨[],[],Ans.nil10 w base,Ans.nil10 w base,by simp,by simp,.inl rfl⟩
 have hl:∀ {b:Bool} {v:Value} {ex M E:Int},DR w base b v ex 0 M E→∃rs,Ans w base v rs∧rs.length≤1048576:=by
  intro b v ex M E hd
  obtain⟨rs,g1,g2|g2|g2⟩:=hd
  ·exact⟨rs,g1,bu g2.2.2.2.1 g2.2.2.1 (by have:=g2.2.2.2.2.2.1;omega)⟩
  ·exact absurd g2.1 (by decide)
  ·exact absurd g2.1 (by decide)
 rcases h with ⟨_,_,_,rfl,_,_,rfl,_⟩|⟨_,M1,E1,M2,E2,h1,_⟩
 ·exact hnil
 ·by_cases hc:c=0
  ·obtain⟨d1,d2,d3⟩:=h1.2.1 hc
   obtain⟨r1,g1,l1⟩:=hl d1
   obtain⟨r2,g2,l2⟩:=hl d2
   exact⟨r1,r2,g1,g2,l1,l2,d3⟩
  ·obtain⟨_,rfl,_,_,rfl,_⟩:=h1.2.2 hc
   exact hnil

theorem fR (b1:Bool)(a1:Option Addr)(k1:Nat)(X:List Nat)(ex1:Int)(b2:Bool)(a2:Option Addr)(k2:Nat)(Y:List Nat)(ex2:Int)(L:Nat)(w:World)(hT:Tab w)(hA:Arg w (.slice a1 X.length k1) X)(hB:Arg w (.slice a2 Y.length k2) Y)(f1:X.length≤17592186043904)(f2:Y.length≤17592186043904)(hL:4611686018427387904≤L) :
  Calls Tryz.prog 10 #[.agg #[.bool b1,.slice a1 X.length k1,.int .i64 ex1],.agg #[.bool b2,.slice a2 Y.length k2,.int .i64 ex2]] w fun e w'=>bM w e w' (flt ex1 ex2 (vof b1 X ex1 L) (vof b2 Y ex2 L)) L (vof b1 X ex1 L) (vof b2 Y ex2 L):=by
 obtain⟨o,c,hc,hfl⟩:=iw b1 a1 k1 X ex1 b2 a2 k2 Y ex2 L w hA hB f1 f2 hL
 by_cases h0:aQ o c=0
 ·have hz:flt ex1 ex2 (vof b1 X ex1 L) (vof b2 Y ex2 L)=0:=by rw [←hfl];exact h0
  have hE1:ah ex1=true:=by
   unfold flt at hz
   by_cases h:ah ex1=true
   ·exact h
   ·rw [if_neg h] at hz;omega
  have hE2:ah ex2=true:=by
   unfold flt at hz
   rw [if_pos hE1] at hz
   by_cases h:ah ex2=true
   ·exact h
   ·rw [if_neg h] at hz;omega
  have ho:o≤0∧c=0:=by
   unfold aQ at h0
   split at h0
   ·split at h0
    ·omega
    ·omega
   ·omega
  obtain⟨ho,rfl⟩:=ho
  have r1:=(aH ex1).1 hE1
  have r2:=(aH ex2).1 hE2
  refine (ou b1 a1 k1 X ex1 b2 a2 k2 Y ex2 o w hc ho hT hA hB (by omega) (by omega) hE1 hE2).mono fun e w' h=>?_
  obtain⟨⟨p1,x1,y1,z1,q1,p2,x2,y2,z2,q2,cc,he,hs⟩,hb⟩:=h
  exact⟨⟨p1,x1,y1,z1,q1,p2,x2,y2,z2,q2,cc,he,.inr ⟨hz,_,_,_,_,hs,(Rp.make L (zz b1 (val X)) ex1 (by omega)).norm,ba _ _,(Rp.make L (zz b2 (val Y)) ex2 (by omega)).norm,ba _ _⟩⟩,hb⟩
 ·refine (mv b1 a1 _ k1 ex1 b2 a2 _ k2 ex2 o c w hc h0).mono fun e w' h=>?_
  obtain⟨he,hb⟩:=h
  rw [hfl] at he h0
  exact⟨⟨_,_,_,_,_,_,_,_,_,_,_,he,.inl ⟨h0,rfl,rfl,rfl,rfl,rfl,rfl,rfl⟩⟩,hb⟩

theorem cW (b:Bool)(a:Option Addr)(n k:Nat)(ex:Int)(b':Bool)(a':Option Addr)(n' k':Nat)(ex' r fl:Int)(b1:Bool)(a1:Option Addr)(n1 k1:Nat)(E1:Int)(b2:Bool)(a2:Option Addr)(n2 k2:Nat)(E2:Int)(L:Nat)(V1 V2:Int)(base:Nat)(w:World)(hS:SRV w base b (.slice a n k) ex b' (.slice a' n' k') ex' r fl L V1 V2)(h1:fl=0→V8 w b1 a1 n1 k1 E1 L V1)(h2:fl=0→V8 w b2 a2 n2 k2 E2 L V2) :
  Calls Tryz.prog 12 #[.agg #[.bool b,.slice a n k,.int .i64 ex,.bool b',.slice a' n' k',.int .i64 ex'],.int .i64 r,.agg #[.bool b1,.slice a1 n1 k1,.int .i64 E1,.bool b2,.slice a2 n2 k2,.int .i64 E2],.int .i64 fl] w fun e w'=>e=.returned (.bool true)∧Below w.heap.size w w':=by
 rcases hS with ⟨h0,rfl,rfl,g1,rfl,rfl,g2,rfl⟩|⟨rfl,M1,X1,M2,X2,hs,r1,m1,r2,m2⟩
 ·cases g1
  cases g2
  exact iS r b1 a1 n1 k1 E1 b2 a2 n2 k2 E2 w h0
 ·obtain⟨N1,d1,q1,s1,_⟩:=h1 rfl
  obtain⟨N2,d2,q2,s2,_⟩:=h2 rfl
  obtain⟨rfl,rfl⟩:=Rp.one r1 q1 m1 s1
  obtain⟨rfl,rfl⟩:=Rp.one r2 q2 m2 s2
  exact sd b a n k ex b' a' n' k' ex' r b1 a1 n1 k1 _ _ b2 a2 n2 k2 _ _ base w hs d1 d2

theorem bk.two10 {w w':World}{base:Nat}{vs:List Value}{rss:List (List Nat)}{v1 v2:Value}{r1 r2:List Nat}(h:bk w base vs rss)(hb:Below w.heap.size w w')(hbase:base≤w.heap.size)(h1:Ans w' w.heap.size v1 r1)(h2:Ans w' w.heap.size v2 r2)(hap:v1.ownBlock=none∨v1.ownBlock≠v2.ownBlock):bk w' base (vs ++ [v1,v2]) (rss ++ [r1,r2]):=by
 have e0:∀i,i<vs.length→(vs ++ [v1,v2]).getD i aK=vs.getD i aK:=fun i hi=>by simp [List.getD,List.getElem?_append_left hi]
 have e1:(vs ++ [v1,v2]).getD vs.length aK=v1:=by simp [List.getD]
 have e2:(vs ++ [v1,v2]).getD (vs.length+1) aK=v2:=by simp [List.getD]
 have f0:∀i,i<rss.length→(rss ++ [r1,r2]).getD i []=rss.getD i []:=fun i hi=>by simp [List.getD,List.getElem?_append_left hi]
 have f1:(rss ++ [r1,r2]).getD rss.length []=r1:=by simp [List.getD]
 have f2:(rss ++ [r1,r2]).getD (rss.length+1) []=r2:=by simp [List.getD]
 have hl:=h.len
 have old:∀i,i<vs.length→∀u:Value,(∀g,u.ownBlock=some g→w.heap.size≤g)→(vs.getD i aK).ownBlock=none∨(vs.getD i aK).ownBlock≠u.ownBlock:=by
  intro i hi u hu
  rcases ho:(vs.getD i aK).ownBlock with _|g
  ·exact .inl rfl
  ·have k1:=(h.row i hi).top g ho
   refine .inr fun e=>?_
   have k2:=hu g e.symm
   omega
 have new:∀i,i<vs.length→∀u:Value,(∀g,u.ownBlock=some g→w.heap.size≤g)→u.ownBlock=none∨u.ownBlock≠(vs.getD i aK).ownBlock:=by
  intro i hi u hu
  rcases ho:u.ownBlock with _|g
  ·exact .inl rfl
  ·have k2:=hu g ho
   refine .inr fun e=>?_
   have k1:=(h.row i hi).top g e.symm
   omega
 have n1:∀g,v1.ownBlock=some g→w.heap.size≤g:=fun g hg=>(h1.own.lt g hg).1
 have n2:∀g,v2.ownBlock=some g→w.heap.size≤g:=fun g hg=>(h2.own.lt g hg).1
 refine⟨by simp [hl],fun i hi=>?_,fun i j hi hj hij=>?_⟩
 ·simp only [List.length_append,List.length_cons,List.length_nil] at hi
  rcases Nat.lt_trichotomy i vs.length with h3|h3|h3
  ·rw [e0 i h3,f0 i (by omega)]
   exact (h.row i h3).below hb
  ·subst h3
   rw [e1,hl,f1]
   exact h1.base hbase
  ·obtain rfl:i=vs.length+1:=by omega
   rw [e2,hl,f2]
   exact h2.base hbase
 ·simp only [List.length_append,List.length_cons,List.length_nil] at hi hj
  rcases Nat.lt_trichotomy i vs.length with h3|h3|h3 <;> rcases Nat.lt_trichotomy j vs.length with h4|h4|h4
  ·rw [e0 i h3,e0 j h4];exact h.apart i j h3 h4 hij
  ·rw [e0 i h3,h4,e1];exact old i h3 _ n1
  ·obtain rfl:j=vs.length+1:=by omega
   rw [e0 i h3,e2];exact old i h3 _ n2
  ·rw [e0 j h4,h3,e1];exact new j h4 _ n1
  ·omega
  ·obtain rfl:j=vs.length+1:=by omega
   rw [h3,e1,e2];exact hap
  ·obtain rfl:i=vs.length+1:=by omega
   rw [e0 j h4,e2];exact new j h4 _ n2
  ·obtain rfl:i=vs.length+1:=by omega
   rw [h4,e2,e1]
   rcases ho:v2.ownBlock with _|g
   ·exact .inl rfl
   ·refine .inr fun e=>?_
    rcases hap with k|k
    ·rw [k] at e;cases e
    ·exact k (by rw [ho,e])
  ·omega

def OfR (w:World)(e:Ending)(w':World)(fl:Int)(L:Nat)(V1 V2:Int):Prop:=
 (∃b1 a1 n1 k1 e1 b2 a2 n2 k2 e2,e=.returned (.tuple #[.agg #[.bool b1,.slice a1 n1 k1,.int .i64 e1,.bool b2,.slice a2 n2 k2,.int .i64 e2],.int .i64 fl])∧V8 w' b1 a1 n1 k1 e1 L (if fl=0 then V1 else 0)∧V8 w' b2 a2 n2 k2 e2 L (if fl=0 then V2 else 0))∧Below w.heap.size w w'

theorem sz (b1:Bool)(a1:Option Addr)(k1:Nat)(X:List Nat)(ex1:Int)(b2:Bool)(a2:Option Addr)(k2:Nat)(Y:List Nat)(ex2:Int)(L:Nat)(V1 V2:Int)(w:World)(hE1:ah ex1=false) :
  Calls Tryz.prog 4 #[.agg #[.bool b1,.slice a1 X.length k1,.int .i64 ex1,.bool b2,.slice a2 Y.length k2,.int .i64 ex2]] w fun e w'=>OfR w e w' 80 L V1 V2:=by
 obtain⟨w0,hw0,hb0,q0,q9⟩:=al w (.cells #[.bool b1,.slice a1 X.length k1,.int .i64 ex1,.bool b2,.slice a2 Y.length k2,.int .i64 ex2] 26) (.cells #[.bool false,.slice none 0 0,.int .i64 0,.bool false,.slice none 0 0,.int .i64 0] 33)
 obtain⟨y0,y1,y2,y3,y4,y5⟩:=hexa q0
 have HG:=ab hb0
 have HQ0:=ab q0
 have HC1:=ab q9
 have F1:=bZ ex1 w0
 have F2:=bZ ex2 w0
 have hf1:=av HC1.out
 obtain⟨m0,m1,m2,m3,m4,m5⟩:=hexa HC1.out
 clear q0 q9 hb0
 rw [hE1] at F1
 clear F2 hE1
 go_enter Tryz.func4,Tryz.ntmps4
 go_wp2_with fail
 refine F1.mono ?_
 rintro e wn ⟨rfl,hw⟩;rw [hw];clear hw wn F1
 go_wp2
 have T3:=aJ HC1.out (.bool false) (.slice none 0 0) (.int .i64 0) (.bool false) (.slice none 0 0) (.int .i64 0)
 have T4:=aF HG.out (show w.heap.size≤w.heap.size+1 by omega) (.bool false) (.slice none 0 0) (.int .i64 0) (.bool false) (.slice none 0 0) (.int .i64 0)
 obtain⟨p0,p1,p2,p3,p4,p5⟩:=hexa T3
 have HE:=ab T4
 clear T3 T4
 generalize (((((w0.setCell ⟨w.heap.size+1,0,none⟩ (.bool false)).setCell ⟨w.heap.size+1,1,none⟩ (.slice none 0 0)).setCell ⟨w.heap.size+1,2,none⟩ (.int .i64 0)).setCell ⟨w.heap.size+1,3,none⟩ (.bool false)).setCell ⟨w.heap.size+1,4,none⟩ (.slice none 0 0)).setCell ⟨w.heap.size+1,5,none⟩ (.int .i64 0)=w5 at *
 refine bodyPost_ret (v:=.tuple #[.agg #[.bool false,.slice none 0 0,.int .i64 0,.bool false,.slice none 0 0,.int .i64 0],.int .i64 80]) (by simp [results,Tryz.results4,go_sem,p0,p1,p2,p3,p4,p5]) rfl ?_
 exact⟨⟨_,_,_,_,_,_,_,_,_,_,rfl,V8.zero _ _,V8.zero _ _⟩,HE.out⟩

theorem l9 (b1:Bool)(a1:Option Addr)(k1:Nat)(X:List Nat)(ex1:Int)(b2:Bool)(a2:Option Addr)(k2:Nat)(Y:List Nat)(ex2:Int)(L:Nat)(V1 V2:Int)(w:World)(hE1:ah ex1=true)(hE2:ah ex2=false) :
  Calls Tryz.prog 4 #[.agg #[.bool b1,.slice a1 X.length k1,.int .i64 ex1,.bool b2,.slice a2 Y.length k2,.int .i64 ex2]] w fun e w'=>OfR w e w' 80 L V1 V2:=by
 obtain⟨w0,hw0,hb0,q0,q9⟩:=al w (.cells #[.bool b1,.slice a1 X.length k1,.int .i64 ex1,.bool b2,.slice a2 Y.length k2,.int .i64 ex2] 26) (.cells #[.bool false,.slice none 0 0,.int .i64 0,.bool false,.slice none 0 0,.int .i64 0] 33)
 obtain⟨y0,y1,y2,y3,y4,y5⟩:=hexa q0
 have HG:=ab hb0
 have HQ0:=ab q0
 have HC1:=ab q9
 have F1:=bZ ex1 w0
 have F2:=bZ ex2 w0
 have hf1:=av HC1.out
 obtain⟨m0,m1,m2,m3,m4,m5⟩:=hexa HC1.out
 clear q0 q9 hb0
 rw [hE1] at F1
 rw [hE2] at F2
 clear hE1 hE2
 go_enter Tryz.func4,Tryz.ntmps4
 go_wp2_with fail
 refine F1.mono ?_
 rintro e wn ⟨rfl,hw⟩;rw [hw];clear hw wn F1
 go_wp2_with fail
 refine F2.mono ?_
 rintro e wn ⟨rfl,hw⟩;rw [hw];clear hw wn F2
 go_wp2
 have T3:=aJ HC1.out (.bool false) (.slice none 0 0) (.int .i64 0) (.bool false) (.slice none 0 0) (.int .i64 0)
 have T4:=aF HG.out (show w.heap.size≤w.heap.size+1 by omega) (.bool false) (.slice none 0 0) (.int .i64 0) (.bool false) (.slice none 0 0) (.int .i64 0)
 obtain⟨p0,p1,p2,p3,p4,p5⟩:=hexa T3
 have HE:=ab T4
 clear T3 T4
 generalize (((((w0.setCell ⟨w.heap.size+1,0,none⟩ (.bool false)).setCell ⟨w.heap.size+1,1,none⟩ (.slice none 0 0)).setCell ⟨w.heap.size+1,2,none⟩ (.int .i64 0)).setCell ⟨w.heap.size+1,3,none⟩ (.bool false)).setCell ⟨w.heap.size+1,4,none⟩ (.slice none 0 0)).setCell ⟨w.heap.size+1,5,none⟩ (.int .i64 0)=w5 at *
 refine bodyPost_ret (v:=.tuple #[.agg #[.bool false,.slice none 0 0,.int .i64 0,.bool false,.slice none 0 0,.int .i64 0],.int .i64 80]) (by simp [results,Tryz.results4,go_sem,p0,p1,p2,p3,p4,p5]) rfl ?_
 exact⟨⟨_,_,_,_,_,_,_,_,_,_,rfl,V8.zero _ _,V8.zero _ _⟩,HE.out⟩

theorem nF (b1:Bool)(a1:Option Addr)(k1:Nat)(X:List Nat)(ex1:Int)(b2:Bool)(a2:Option Addr)(k2:Nat)(Y:List Nat)(ex2:Int)(L:Nat)(w:World)(hA:Arg w (.slice a1 X.length k1) X)(hB:Arg w (.slice a2 Y.length k2) Y)(f1:X.length≤17592186043904)(f2:Y.length≤17592186043904)(hL:4611686018427387904≤L)(hE1:ah ex1=true)(hE2:ah ex2=true) :
  Calls Tryz.prog 4 #[.agg #[.bool b1,.slice a1 X.length k1,.int .i64 ex1,.bool b2,.slice a2 Y.length k2,.int .i64 ex2]] w fun e w'=>OfR w e w' (if vof b2 Y ex2 L<vof b1 X ex1 L then 100 else 0) L (vof b1 X ex1 L) (vof b2 Y ex2 L):=by
 obtain⟨w0,hw0,hb0,q0,q9⟩:=al w (.cells #[.bool b1,.slice a1 X.length k1,.int .i64 ex1,.bool b2,.slice a2 Y.length k2,.int .i64 ex2] 26) (.cells #[.bool false,.slice none 0 0,.int .i64 0,.bool false,.slice none 0 0,.int .i64 0] 33)
 obtain⟨y0,y1,y2,y3,y4,y5⟩:=hexa q0
 have HG:=ab hb0
 have HQ0:=ab q0
 have HC1:=ab q9
 have F1:=bZ ex1 w0
 have F2:=bZ ex2 w0
 have hf1:=av HC1.out
 obtain⟨m0,m1,m2,m3,m4,m5⟩:=hexa HC1.out
 clear q0 q9 hb0
 have DY1:=ab (fun (W:World) (hg:Below w0.heap.size w0 W)=>ll b1 a1 k1 X ex1 L W ((hA.below HG.out).below hg) f1 hE1 hL)
 have DY2:=ab (fun (W:World) (hg:Below w0.heap.size w0 W)=>ll b2 a2 k2 Y ex2 L W ((hB.below HG.out).below hg) f2 hE2 hL)
 rw [hE1] at F1
 rw [hE2] at F2
 have KS:=ab (fun (W:World) (hg:Below w0.heap.size w0 W)=>show W.cell? ⟨w.heap.size,0,none⟩=some (.bool b1)∧W.cell? ⟨w.heap.size,1,none⟩=some (.slice a1 X.length k1)∧W.cell? ⟨w.heap.size,2,none⟩=some (.int .i64 ex1)∧W.cell? ⟨w.heap.size,3,none⟩=some (.bool b2)∧W.cell? ⟨w.heap.size,4,none⟩=some (.slice a2 Y.length k2)∧W.cell? ⟨w.heap.size,5,none⟩=some (.int .i64 ex2) from hexa (ac hg HQ0.out))
 have hc:0<am (vof b1 X ex1 L) (vof b2 Y ex2 L) ↔ vof b2 Y ex2 L<vof b1 X ex1 L:=j8
 generalize vof b1 X ex1 L=V1 at *
 generalize vof b2 Y ex2 L=V2 at *
 have HCC:=ab hc
 have g0:Below w0.heap.size w0 w0:=Below.refl _ _
 clear hE1 hE2 hA hB f1 f2 hc
 obtain⟨R,hR⟩:∃R:Int,(if V2<V1 then (100:Int) else 0)=R:=⟨_,rfl⟩
 rw [hR]
 have HR:=ab hR
 clear hR
 go_enter Tryz.func4,Tryz.ntmps4
 go_wp2_with fail
 refine F1.mono ?_
 rintro e wn ⟨rfl,hw⟩;rw [hw];clear hw wn F1
 go_wp2_with fail
 refine F2.mono ?_
 rintro e wn ⟨rfl,hw⟩;rw [hw];clear hw wn F2
 go_upto_region 3 with fail
 go_cut [4] from 18 to 24 (fun s wx=>ie w0 L V1 V2 s wx)
 case first=>
  go_region_held3 (fun w'=>w'.cell? ⟨w.heap.size,0,none⟩=some (.bool b1)∧w'.cell? ⟨w.heap.size,1,none⟩=some (.slice a1 X.length k1)∧w'.cell? ⟨w.heap.size,2,none⟩=some (.int .i64 ex1)∧w'.cell? ⟨w.heap.size,3,none⟩=some (.bool b2)∧w'.cell? ⟨w.heap.size,4,none⟩=some (.slice a2 Y.length k2)∧w'.cell? ⟨w.heap.size,5,none⟩=some (.int .i64 ex2)) (first | (refine KS.out _ ?_;repeat (first|with_reducible assumption|with_reducible exact Below.refl _ _|with_reducible apply aG|with_reducible apply be | (with_reducible refine aF ?_ (by omega) _ _ _ _ _ _)))) (first
   | (go_at_call_of 15 a2;refine (DY2.out _ (by repeat (first|with_reducible exact g1|with_reducible apply aG))).mono ?_;rintro e' t2 ⟨⟨b6,a6,n6,c6,e6,rfl,v6⟩,hb2⟩;have g2:Below w0.heap.size w0 t2:=ae (by repeat (first|with_reducible exact g1|with_reducible apply aG)) hb2;have v5':=v5.below (show Below t1.heap.size t1 t2 from ae (by repeat (first|with_reducible exact Below.refl _ _|with_reducible apply aG)) hb2);have hle1:=g1.size;(first | (with_reducible have hq:=bD hb2;obtain⟨z0c,z1c,z2c,z3c,z4c,z5c⟩:=hexa hq;have zf:=av hq) | (with_reducible have hq:=ac hb2 hpA;obtain⟨z0c,z1c,z2c,z3c,z4c,z5c⟩:=hexa hq;have zf:=av hq) | skip))
   | (go_at_call 15;refine (DY1.out _ (by repeat (first|with_reducible exact Below.refl _ _|with_reducible apply aG|with_reducible apply be))).mono ?_;rintro e' t1 ⟨⟨b5,a5,n5,c5,e5,rfl,v5⟩,hb1⟩;have g1:Below w0.heap.size w0 t1:=ae (by repeat (first|with_reducible exact Below.refl _ _|with_reducible apply aG|with_reducible apply be)) hb1;(first | (with_reducible have hpA:=dm hb1) | (with_reducible have hpA:=bD hb1) | skip)))
  all_goals (go_wp2_with fail;go_meet;first
   | with_reducible exact rT v5' v6 g2
   | with_reducible exact kP hq hle1 v5' v6 g2
   | with_reducible exact kP hq (Nat.le_refl _) v5' v6 g2)
 case rest=>
  obtain⟨gd,b5,a5,n5,c5,e5,b6,a6,n6,c6,e6,rfl,hX,v5,v6,hbx,hgd⟩:=hcut
  have C:=V8.cmp v5 v6
  have HBX:=ab hbx
  have HX:=ab hX
  have HV:=ab (And.intro v5 v6)
  have HCD:=ab (ac hbx HC1.out)
  clear KS DY1 DY2 g0 hbx hgd y0 y1 y2 y3 y4 y5 m0 m1 m2 m3 m4 m5 hf1 v5 v6
  obtain⟨y0,y1,y2,y3,y4,y5⟩:=hexa hX
  clear hX
  go_wp2_with fail
  refine C.mono ?_
  rintro e t3 ⟨rfl,g3⟩
  have HGG:=ab (ae (ae HG.out HBX.out) g3)
  have HV3:=ab (And.intro (HV.out.1.below g3) (HV.out.2.below g3))
  have HC2:=ab (ac g3 HCD.out)
  clear C y0 y1 y2 y3 y4 y5 HG HC1
  have HG:=HGG
  have HC1:=HC2
  have hf1:=av HC1.out
  obtain⟨m0,m1,m2,m3,m4,m5⟩:=hexa HC1.out
  obtain⟨y0,y1,y2,y3,y4,y5⟩:=hexa (ac g3 HX.out)
  clear g3 HGG HC2
  generalize hcz:am V1 V2=cz at *
  by_cases hpos:V2<V1
  ·have i1:decide (0<cz)=true:=decide_eq_true (HCC.out.2 hpos)
   have hr:R=100:=by rw [←HR.out,if_pos hpos]
   subst hr
   clear hpos hcz
   go_wp2
   have T3:=aJ HC1.out (.bool false) (.slice none 0 0) (.int .i64 0) (.bool false) (.slice none 0 0) (.int .i64 0)
   have T4:=aF HG.out (show w.heap.size≤w.heap.size+1 by omega) (.bool false) (.slice none 0 0) (.int .i64 0) (.bool false) (.slice none 0 0) (.int .i64 0)
   obtain⟨p0,p1,p2,p3,p4,p5⟩:=hexa T3
   have HE:=ab T4
   clear T3 T4
   generalize (((((t3.setCell ⟨w.heap.size+1,0,none⟩ (.bool false)).setCell ⟨w.heap.size+1,1,none⟩ (.slice none 0 0)).setCell ⟨w.heap.size+1,2,none⟩ (.int .i64 0)).setCell ⟨w.heap.size+1,3,none⟩ (.bool false)).setCell ⟨w.heap.size+1,4,none⟩ (.slice none 0 0)).setCell ⟨w.heap.size+1,5,none⟩ (.int .i64 0)=w5 at *
   refine bodyPost_ret (v:=.tuple #[.agg #[.bool false,.slice none 0 0,.int .i64 0,.bool false,.slice none 0 0,.int .i64 0],.int .i64 100]) (by simp [results,Tryz.results4,go_sem,p0,p1,p2,p3,p4,p5]) rfl ?_
   exact⟨⟨_,_,_,_,_,_,_,_,_,_,rfl,V8.zero _ _,V8.zero _ _⟩,HE.out⟩
  ·have i1:decide (0<cz)=false:=decide_eq_false (fun h=>hpos (HCC.out.1 h))
   have hr:R=0:=by rw [←HR.out,if_neg hpos]
   subst hr
   clear hpos hcz
   go_wp2
   have T3:=aJ HC1.out (.bool b5) (.slice a5 n5 c5) (.int .i64 e5) (.bool b6) (.slice a6 n6 c6) (.int .i64 e6)
   have T4:=aF HG.out (show w.heap.size≤w.heap.size+1 by omega) (.bool b5) (.slice a5 n5 c5) (.int .i64 e5) (.bool b6) (.slice a6 n6 c6) (.int .i64 e6)
   have T5:=HV3.out.1.hexa HC1.out b5 a5 n5 c5 e5 b6 a6 n6 c6 e6
   have T6:=HV3.out.2.hexa HC1.out b5 a5 n5 c5 e5 b6 a6 n6 c6 e6
   obtain⟨p0,p1,p2,p3,p4,p5⟩:=hexa T3
   have HE:=ab (And.intro T5 (And.intro T6 T4))
   clear T3 T4 T5 T6
   generalize (((((t3.setCell ⟨w.heap.size+1,0,none⟩ (.bool b5)).setCell ⟨w.heap.size+1,1,none⟩ (.slice a5 n5 c5)).setCell ⟨w.heap.size+1,2,none⟩ (.int .i64 e5)).setCell ⟨w.heap.size+1,3,none⟩ (.bool b6)).setCell ⟨w.heap.size+1,4,none⟩ (.slice a6 n6 c6)).setCell ⟨w.heap.size+1,5,none⟩ (.int .i64 e6)=w5 at *
   refine bodyPost_ret (v:=.tuple #[.agg #[.bool b5,.slice a5 n5 c5,.int .i64 e5,.bool b6,.slice a6 n6 c6,.int .i64 e6],.int .i64 0]) (by simp [results,Tryz.results4,go_sem,p0,p1,p2,p3,p4,p5]) rfl ?_
   exact⟨⟨_,_,_,_,_,_,_,_,_,_,rfl,HE.out.1,HE.out.2.1⟩,HE.out.2.2⟩

theorem cd (b1:Bool)(a1:Option Addr)(k1:Nat)(X:List Nat)(ex1:Int)(b2:Bool)(a2:Option Addr)(k2:Nat)(Y:List Nat)(ex2:Int)(L:Nat)(w:World)(hA:Arg w (.slice a1 X.length k1) X)(hB:Arg w (.slice a2 Y.length k2) Y)(f1:X.length≤17592186043904)(f2:Y.length≤17592186043904)(hL:4611686018427387904≤L) :
  Calls Tryz.prog 4 #[.agg #[.bool b1,.slice a1 X.length k1,.int .i64 ex1,.bool b2,.slice a2 Y.length k2,.int .i64 ex2]] w fun e w'=>OfR w e w' (flt ex1 ex2 (vof b1 X ex1 L) (vof b2 Y ex2 L)) L (vof b1 X ex1 L) (vof b2 Y ex2 L):=by
 unfold flt
 by_cases hE1:ah ex1=true
 ·rw [if_pos hE1]
  by_cases hE2:ah ex2=true
  ·rw [if_pos hE2]
   exact nF b1 a1 k1 X ex1 b2 a2 k2 Y ex2 L w hA hB f1 f2 hL hE1 hE2
  ·rw [if_neg hE2]
   exact l9 b1 a1 k1 X ex1 b2 a2 k2 Y ex2 L _ _ w hE1 (by simpa using hE2)
 ·rw [if_neg hE1]
  exact sz b1 a1 k1 X ex1 b2 a2 k2 Y ex2 L _ _ w (by simpa using hE1)

def bY (zs:List Nat)(k:Nat):List Nat:=zs.take k ++ List.replicate (zs.length - k) 0

theorem iY (zs:List Nat)(k:Nat)(h:k≤zs.length):(bY zs k).length=zs.length:=by
 simp [bY];omega

theorem pf (zs:List Nat)(k:Nat)(h:k<zs.length):(bY zs k).set k (zs.getD k 0)=bY zs (k+1):=by
 apply List.ext_getElem?
 intro i
 have hl:=iY zs k (by omega)
 rw [List.getElem?_set]
 by_cases hik:k=i
 ·subst hik
  rw [if_pos rfl,hl,if_pos h]
  simp [bY,List.getElem?_append,List.getD,h]
  omega
 ·rw [if_neg hik]
  simp only [bY,List.getElem?_append,List.length_take,List.getElem?_take,List.getElem?_replicate]
  have e1:min k zs.length=k:=by omega
  have e2:min (k+1) zs.length=k+1:=by omega
  rw [e1,e2]
  by_cases h1:i<k
  ·rw [if_pos h1,if_pos h1,if_pos (by omega:i<k+1),if_pos (by omega:i<k+1)]
  ·rw [if_neg h1,if_neg (by omega:¬i<k+1)]
   by_cases h2:i<zs.length
   ·rw [if_pos (by omega),if_pos (by omega)]
   ·rw [if_neg (by omega),if_neg (by omega)]

theorem oJ (zs:List Nat):bY zs zs.length=zs:=by simp [bY]

theorem iI (v:Value)(zs:List Nat)(w:World)(h:Arg w v zs)(hf:zs.length≤35184372088000) :
  Calls Tryz.prog 7 #[v] w fun e w'=>e=.returned (.slice (some ⟨w.heap.size,0,none⟩) zs.length zs.length)∧Blk w' w.heap.size zs∧Below w.heap.size w w':=by
 obtain⟨ao,cap,rfl,hcap,hmax,L1⟩:=h.form
 obtain⟨i0,hi,hz0,hz1,hz2⟩:=info_parts Tryz.infoU
 clear h
 go_enter Tryz.func7,Tryz.ntmps7
 go_wp2_with (at_make;refine wpList_make_full _ rfl _ _ 22 rfl w.heap.size 51 i0 (.int .u64 0) 1 Tryz.underlying22 hi hz0 hz1 .i64 .i64 _ _ zs.length rfl rfl (by omega) (by omega) (by rw [hz2];omega) (by unfold maxLen;omega) (Nat.le_refl _) ?_;intro w1 hown hgrow)
 have hb1:=Blk.made hown
 have hbel:Below w.heap.size w w1:=(Below.refl _ _).grown hgrow (Nat.le_refl _) (fun k hk=>by cases hk)
 clear hown hgrow hi hz0 hz1 hz2
 go_loopw [11] (fun i wr=>∃k:Nat,k≤zs.length∧i=.int .i64 k∧Blk wr w.heap.size (bY zs k)∧Below w.heap.size w wr) (fun i _=>zs.length - (intOf i).toNat)
 case atStart=>exact⟨0,Nat.zero_le _,rfl,by simpa [bY] using hb1,hbel⟩
 case round=>
  obtain⟨k,hk,rfl,hblk,hbl⟩:=hrel
  clear hb1 hbel
  by_cases hkl':k<zs.length
  ·rcases L1.below hbl with h0|⟨b,off,rfl,hcell⟩
   ·simp [h0] at hkl'
   ·have hck:=hcell k hkl'
    have hbw:=aC.block (L1:aC w (some ⟨b,off,none⟩) zs) (by omega)
    have hne1:¬b=w.heap.size:=by omega
    have hne2:¬w.heap.size=b:=by omega
    have hfr:=hblk.free k
    have hco:=hblk.cell k (by rw [iY _ _ hk];omega)
    generalize (bY zs k).getD k 0=o at *
    have HS:=ab (pf zs k hkl')
    have HB:=ab (fun z=>hblk.set k z)
    have HL:=ab hbl
    generalize zs.getD k 0=z at *
    clear hcell hblk hbl L1
    go_wp2
    go_roundw
    case rel=>exact⟨k+1,by omega,by go_num,by rw [←HS.out];exact HB.out z,HL.out.setCell (Nat.le_refl _) _⟩
    case measure=>simp [intOf];omega
  ·have ek:k=zs.length:=by omega
   subst ek
   rw [oJ] at hblk
   have HB:=ab hblk
   have HL:=ab hbl
   clear hblk hbl
   go_wp2
   go_ret
   exact⟨rfl,HB.out,HL.out⟩
end Go.Proofs.YtkfbobefkbpdoaaGreatDoor
namespace Go.Proofs.YtkfbobefkbpdoaaGreatDoor
open Lm

def seg (Z:List Nat)(o n:Nat):List Nat:=(Z.drop o).take n

def sv (Z:List Nat)(o n:Nat):Nat:=val (seg Z o n)

structure Out (Z Z':List Nat)(lo hi:Nat):Prop where
 len:Z'.length=Z.length
 same:∀k,k<lo∨hi≤k→Z'.getD k 0=Z.getD k 0

theorem Out.refl (Z:List Nat)(lo hi:Nat):Out Z Z lo hi:=⟨rfl,fun _ _=>rfl⟩

theorem Out.trans {Z Z' Z'':List Nat}{lo hi:Nat}(h:Out Z Z' lo hi)(k:Out Z' Z'' lo hi):Out Z Z'' lo hi:=
 ⟨k.len.trans h.len,fun j hj=>(k.same j hj).trans (h.same j hj)⟩

theorem Out.wider {Z Z':List Nat}{lo hi lo' hi':Nat}(h:Out Z Z' lo hi)(h1:lo'≤lo)(h2:hi≤hi'):Out Z Z' lo' hi':=
 ⟨h.len,fun k hk=>h.same k (by omega)⟩

theorem fW (Z:List Nat)(j k z:Nat):(Z.set j z).getD k 0=if j=k∧k<Z.length then z else Z.getD k 0:=by
 by_cases h:j=k
 ·subst h
  by_cases hl:j<Z.length
  ·simp [List.getD,hl]
  ·simp [List.getD,hl]
 ·simp [List.getD,h]

theorem Out.set {Z Z':List Nat}{lo hi:Nat}(h:Out Z Z' lo hi)(j z:Nat)(h1:lo≤j)(h2:j<hi):Out Z (Z'.set j z) lo hi:=
 ⟨by simp [h.len],fun k hk=>by rw [fW,if_neg (by omega)];exact h.same k hk⟩

theorem cG (Z:List Nat)(o n:Nat)(h:o+n≤Z.length):(seg Z o n).length=n:=by
 simp [seg];omega

theorem ff (Z:List Nat)(o n k:Nat)(h:k<n):(seg Z o n).getD k 0=Z.getD (o+k) 0:=by
 simp [seg,List.getD,h]

theorem py {a b:List Nat}(hl:a.length=b.length)(h:∀k,k<a.length→a.getD k 0=b.getD k 0):a=b:=by
 refine List.ext_getElem hl fun k h1 h2=>?_
 have:=h k h1
 simpa [List.getD,h1,h2] using this

theorem Out.seg {Z Z':List Nat}{lo hi:Nat}(h:Out Z Z' lo hi)(o n:Nat)(hd:o+n≤lo∨hi≤o):seg Z' o n=seg Z o n:=by
 have hl:(Go.Proofs.YtkfbobefkbpdoaaGreatDoor.seg Z' o n).length=(Go.Proofs.YtkfbobefkbpdoaaGreatDoor.seg Z o n).length:=by simp [Go.Proofs.YtkfbobefkbpdoaaGreatDoor.seg,h.len]
 refine py hl fun k hk=>?_
 have hk':k<n:=by simp [Go.Proofs.YtkfbobefkbpdoaaGreatDoor.seg] at hk;omega
 rw [ff _ _ _ _ hk',ff _ _ _ _ hk',h.same _ (by omega)]

theorem Out.sv {Z Z':List Nat}{lo hi:Nat}(h:Out Z Z' lo hi)(o n:Nat)(hd:o+n≤lo∨hi≤o):sv Z' o n=sv Z o n:=by
 unfold Go.Proofs.YtkfbobefkbpdoaaGreatDoor.sv;rw [h.seg o n hd]

theorem bE (Z:List Nat)(o:Nat):sv Z o 0=0:=by simp [sv,seg,val]

theorem aY (Z:List Nat)(o m n:Nat)(h:o+m≤Z.length):sv Z o (m+n)=sv Z o m+18446744073709551616 ^ m*sv Z (o+m) n:=by
 unfold sv
 have e:seg Z o (m+n)=seg Z o m ++ seg Z (o+m) n:=by
  unfold seg
  rw [List.take_add,List.drop_drop]
 rw [e,val_append,cG Z o m h]

theorem gw (Z:List Nat)(o:Nat)(h:o<Z.length):sv Z o 1=Z.getD o 0:=by
 unfold sv seg
 rw [List.drop_eq_getElem_cons h,List.take_succ_cons,List.take_zero,val,val]
 simp [List.getD,h]

theorem dr (Z:List Nat)(o i:Nat)(h:o+i<Z.length):sv Z o (i+1)=sv Z o i+18446744073709551616 ^ i*Z.getD (o+i) 0:=by
 rw [aY Z o i 1 (by omega),gw _ _ h]

theorem fH {Z:List Nat}(h:Limbs Z)(o n:Nat):Limbs (seg Z o n):=fun z hz=>h z (List.mem_of_mem_drop (List.mem_of_mem_take hz))

theorem f9 {Z:List Nat}(h:Limbs Z)(o n:Nat):sv Z o n<18446744073709551616 ^ n:=by
 have h1:=val_lt (fH h o n)
 refine Nat.lt_of_lt_of_le h1 (Nat.pow_le_pow_right (by omega) ?_)
 simp [seg];omega

theorem eA (Z:List Nat)(o i z:Nat)(h:o+i<Z.length):sv (Z.set (o+i) z) o (i+1)=sv Z o i+18446744073709551616 ^ i*z:=by
 rw [dr _ _ _ (by simpa using h),fW,if_pos ⟨rfl,h⟩]
 have e:Out Z (Z.set (o+i) z) (o+i) (o+i+1):=(Out.refl _ _ _).set _ _ (by omega) (by omega)
 rw [e.sv o i (by omega)]

theorem dV (Z:List Nat):sv Z 0 Z.length=val Z:=by simp [sv,seg]

theorem p7 (Z Z' X:List Nat)(o i m cy hi lo:Nat)(hz:o+i<Z'.length)(h0:Z'.getD (o+i) 0=Z.getD (o+i) 0)(hZ:Z'.length=Z.length)
  (h:sv Z' o i+cy*18446744073709551616 ^ i=sv Z o i+val (X.take i)*m)
  (hs:lo+hi*18446744073709551616=X.getD i 0*m+Z.getD (o+i) 0+cy) :
  sv (Z'.set (o+i) lo) o (i+1)+hi*18446744073709551616 ^ (i+1)=sv Z o (i+1)+val (X.take (i+1))*m:=by
 have:=h0
 rw [eA _ _ _ _ hz,dr Z o i (by omega),val_take_next X i,show (18446744073709551616:Nat) ^ (i+1)=18446744073709551616 ^ i*18446744073709551616 from Nat.pow_succ ..]
 generalize sv Z' o i=V' at *
 generalize sv Z o i=V at *
 generalize val (X.take i)=U at *
 generalize Z.getD (o+i) 0=z at *
 generalize X.getD i 0=x at *
 generalize (18446744073709551616:Nat) ^ i=P at *
 generalize (18446744073709551616:Nat)=W at *
 grind

theorem l7 (x m z cy:Nat)(hx:x<18446744073709551616)(hm:m<18446744073709551616)(hz:z<18446744073709551616)(hc:cy<18446744073709551616) :
  x*m+z+cy<18446744073709551616*18446744073709551616:=by
 have h:=Nat.mul_le_mul (Nat.le_sub_one_of_lt hx) (Nat.le_sub_one_of_lt hm)
 omega
end Go.Proofs.YtkfbobefkbpdoaaGreatDoor
namespace Go.Proofs.YtkfbobefkbpdoaaGreatDoor
open Go.RowKit
open Lm

theorem rx (b off cap:Nat)(zs:List Nat)(w:World)(hcap:zs.length≤cap)(hmax:cap≤9223372036854775807)
  (hc:∀k,k<zs.length→w.cell? ⟨b,off+k,none⟩=some (.int .u64 ((zs.getD k 0:Nat):Int))) :
  Calls Tryz.prog 143 #[.slice (some ⟨b,off,none⟩) zs.length cap] w fun e w'=>e=.returned (.slice (some ⟨b,off,none⟩) (tr zs).length cap)∧w'=w:=by
 go_enter Tryz.func143,Tryz.ntmps143
 go_wp2
 go_loop [3] (fun n=>∃k:Nat,k≤zs.length∧n=.int .i64 k∧tr (zs.take k)=tr zs) (fun n=>(intOf n).toNat)
 case atStart=>exact⟨zs.length,Nat.le_refl _,rfl,by rw [List.take_length]⟩
 case round=>
  obtain⟨k,hk,rfl,ht⟩:=hrel
  have HT:Hid (tr (zs.take k)=tr zs):=ht
  clear ht
  by_cases h0:k=0
  ·subst h0
   go_wp2
   go_ret
   have e:=HT.out
   simp only [List.take_zero,tr] at e
   rw [←e]
   exact⟨rfl,rfl⟩
  ·obtain⟨j,rfl⟩:∃j,k=j+1:=⟨k - 1,by omega⟩
   have hcj:=hc j (by omega)
   clear hc
   by_cases hz:zs.getD j 0=0
   ·have HZ:Hid (tr (zs.take j)=tr zs):=by rw [←tr_step zs j (by omega) hz];exact HT.out
    rw [hz] at hcj
    clear hz HT
    go_wp2
    go_round
    case rel=>exact⟨j,by omega,by go_num,HZ.out⟩
    case measure=>simp [intOf]
   ·have HZ:Hid (tr zs=zs.take (j+1)):=by rw [←HT.out];exact tr_stop zs j (by omega) hz
    clear HT
    generalize zs.getD j 0=z at hcj hz
    have hne:((z:Int) == 0)=false:=by rw [beq_eq_false_iff_ne];omega
    clear hz
    go_wp2
    go_ret
    rw [HZ.out]
    have e:(zs.take (j+1)).length=j+1:=by simp;omega
    rw [e]
    exact⟨rfl,rfl⟩

theorem mA (ao:Option Addr)(cap:Nat)(w:World)(_hmax:cap≤9223372036854775807) :
  Calls Tryz.prog 143 #[.slice ao 0 cap] w fun e w'=>e=.returned (.slice ao 0 cap)∧w'=w:=by
 go_enter Tryz.func143,Tryz.ntmps143
 go_wp2
 refine wp_loop_rounds 1 ?_
 rw [rounds_succ]
 go_wp2
 go_ret
 exact⟨rfl,rfl⟩

theorem bU (ao:Option Addr)(cap:Nat)(zs:List Nat)(w:World)(hcap:zs.length≤cap)(hmax:cap≤9223372036854775807)(hl:aC w ao zs) :
  Calls Tryz.prog 143 #[.slice ao zs.length cap] w fun e w'=>e=.returned (.slice ao (tr zs).length cap)∧w'=w:=by
 rcases hl with rfl|⟨b,off,rfl,hc⟩
 ·exact mA ao cap w hmax
 ·exact rx b off cap zs w hcap hmax hc

structure Fr (bz:Nat)(w w':World):Prop where
 os:w'.os=w.os
 tape:w'.tape=w.tape
 output:w'.output=w.output
 size:w.heap.size≤w'.heap.size
 block:∀k,k<w.heap.size→k≠bz→w'.heap[k]?=w.heap[k]?

theorem Fr.refl (bz:Nat)(w:World):Fr bz w w:=⟨rfl,rfl,rfl,Nat.le_refl _,fun _ _ _=>rfl⟩

theorem Fr.trans {bz:Nat}{a b c:World}(h:Fr bz a b)(k:Fr bz b c):Fr bz a c:=
 ⟨k.os.trans h.os,k.tape.trans h.tape,k.output.trans h.output,Nat.le_trans h.size k.size,fun i h1 h2=>(k.block i (Nat.lt_of_lt_of_le h1 h.size) h2).trans (h.block i h1 h2)⟩

theorem Fr.setCell {bz:Nat}{a w:World}(h:Fr bz a w)(off:Nat)(u:Value):Fr bz a (w.setCell ⟨bz,off,none⟩ u):=
 ⟨h.os,h.tape,h.output,by simpa using h.size,fun k h1 h2=>(Below.heap_setCell w _ u k h2).trans (h.block k h1 h2)⟩

theorem Fr.drew {bz:Nat}{a w:World}(h:Fr bz a w):Fr bz a w.drew:=⟨h.os,h.tape,h.output,h.size,h.block⟩

theorem Fr.of_below {bz:Nat}{w w':World}(h:Below w.heap.size w w'):Fr bz w w':=⟨h.os,h.tape,h.output,h.size,fun k h1 _=>h.block k h1⟩

theorem Fr.below {bz base:Nat}{w w':World}(h:Fr bz w w')(h1:base≤bz)(h2:base≤w.heap.size):Below base w w':=
 ⟨h.os,h.tape,h.output,h.size,fun k hk=>h.block k (by omega) (by omega)⟩

def Off (v:Value)(bz lo hi:Nat):Prop:=∀b off n c,v=.slice (some ⟨b,off,none⟩) n c→b≠bz∨off+n≤lo∨hi≤off

theorem aC.fr {w w':World}{ao:Option Addr}{X Z Z':List Nat}{bz lo hi:Nat}(h:aC w ao X)(ho:∀b off,ao=some ⟨b,off,none⟩→b≠bz∨off+X.length≤lo∨hi≤off)
  (hf:Fr bz w w') (hb:Blk w bz Z) (hb':Blk w' bz Z') (hz:Out Z Z' lo hi):aC w' ao X:=by
 rcases h with h|⟨b,off,rfl,hc⟩
 ·exact .inl h
 ·rcases Nat.eq_zero_or_pos X.length with h0|h0
  ·exact .inl (List.length_eq_zero_iff.1 h0)
  refine .inr ⟨b,off,rfl,fun k hk=>?_⟩
  have hlt:b<w.heap.size:=aC.block (zs:=X) (.inr ⟨b,off,rfl,hc⟩) h0
  by_cases hbz:b=bz
  ·subst hbz
   have h1:=hc k hk
   have hin:off+k<Z.length:=by
    refine Nat.lt_of_not_le fun hle=>?_
    have:w.cell? ⟨b,off+k,none⟩=none:=by
     unfold Blk at hb
     simp [World.cell?,hb];omega
    rw [this] at h1;cases h1
   rw [hb.cell _ hin] at h1
   rw [hb'.cell _ (by rw [hz.len];exact hin),hz.same _ (by have:=ho b off rfl;omega)]
   exact h1
  ·have:=hf.block b hlt hbz
   rw [World.cell?_of_block (w:=w) this]
   exact hc k hk

theorem Arg.fr {w w':World}{v:Value}{X Z Z':List Nat}{bz lo hi:Nat}(h:Arg w v X)(ho:Off v bz lo hi)
  (hf:Fr bz w w') (hb:Blk w bz Z) (hb':Blk w' bz Z') (hz:Out Z Z' lo hi):Arg w' v X:=by
 obtain⟨ao,cap,h1,h2,h3,h4⟩:=h.form
 exact⟨⟨ao,cap,h1,h2,h3,h4.fr (fun b off e=>by subst e;exact ho b off _ _ h1) hf hb hb' hz⟩,h.limbs,h.few,h.nz⟩
end Go.Proofs.YtkfbobefkbpdoaaGreatDoor
namespace Go.Proofs.YtkfbobefkbpdoaaGreatDoor
open Go.RowKit
open Lm
attribute [local go_sem ↓] Go.wp_at_zero Go.wp_at_succ

theorem rQ (P z cy:Nat)(h:P+z+cy<340282366920938463463374607431768211456)(_hz:z<18446744073709551616)(_hc:cy<18446744073709551616) :
  ((P % 18446744073709551616+z) % 18446744073709551616+cy) % 18446744073709551616+(P / 18446744073709551616+(P % 18446744073709551616+z) / 18446744073709551616+((P % 18446744073709551616+z) % 18446744073709551616+cy) / 18446744073709551616)*18446744073709551616=P+z+cy ∧
  P / 18446744073709551616+(P % 18446744073709551616+z) / 18446744073709551616<18446744073709551616 ∧
  P / 18446744073709551616+(P % 18446744073709551616+z) / 18446744073709551616+((P % 18446744073709551616+z) % 18446744073709551616+cy) / 18446744073709551616<18446744073709551616 ∧
  ((P % 18446744073709551616+z) % 18446744073709551616+cy) % 18446744073709551616<18446744073709551616:=by
 omega

theorem kk (bz zo cap:Nat)(Z:List Nat)(v1:Value)(X:List Nat)(m:Nat)(w:World)(hB:Blk w bz Z)(hLZ:Limbs Z)(hA:Arg w v1 X)(ho:Off v1 bz zo (zo+X.length))
  (hzo:zo+X.length≤Z.length) (hc1:X.length≤cap) (hc2:cap≤9223372036854775807) (hm:m<18446744073709551616) :
  Calls Tryz.prog 149 #[.slice (some ⟨bz,zo,none⟩) X.length cap,v1,.int .u64 m] w fun e w'=>∃(cy:Nat) (Z':List Nat),e=.returned (.int .u64 (cy:Int))∧cy<18446744073709551616 ∧
   Out Z Z' zo (zo+X.length)∧Limbs Z'∧Blk w' bz Z'∧Fr bz w w'∧sv Z' zo X.length+cy*18446744073709551616 ^ X.length=sv Z zo X.length+val X*m:=by
 obtain⟨a1,c1,rfl,hcc1,hcm1,hl1⟩:=hA.form
 have M1:=hA.limbs
 have hX:=hA.few
 have hao:∀b off,a1=some ⟨b,off,none⟩→b≠bz∨off+X.length≤zo∨zo+X.length≤off:=fun b off e=>by subst e;exact ho b off _ _ rfl
 clear ho hA
 go_enter Tryz.func149,Tryz.ntmps149
 go_wp2
 go_loopw [7,16] (fun c i wr=>∃(k cy:Nat) (Z':List Nat),k≤X.length∧i=.int .i64 k∧c=.int .u64 cy∧cy<18446744073709551616∧Out Z Z' zo (zo+k)∧Limbs Z'∧Blk wr bz Z'∧Fr bz w wr ∧
   sv Z' zo k+cy*18446744073709551616 ^ k=sv Z zo k+val (X.take k)*m) (fun _ i _=>X.length - (intOf i).toNat)
 case atStart=>exact⟨0,0,Z,Nat.zero_le _,rfl,rfl,by omega,Out.refl _ _ _,hLZ,hB,Fr.refl _ _,by simp [bE,val]⟩
 case round=>
  obtain⟨k,cy,Z',hk,rfl,rfl,hcy,hout,hlz,hblk,hfr0,hval⟩:=hrel
  have HV:=ab hval
  have HB:=ab hblk
  have HF:=ab hfr0
  have HO:=ab hout
  have hl:=hout.len
  clear hval
  by_cases hkl:k<X.length
  ·rcases hl1.fr hao hfr0 hB hblk (hout.wider (Nat.le_refl _) (by omega)) with h0|⟨b,off,rfl,hcell⟩
   ·rw [h0] at hkl;simp at hkl
   ·have hck:=hcell k hkl
    have hfr:=hblk.free (zo+k)
    have hco:=hblk.cell (zo+k) (by omega)
    have z1:=limb_lt M1 k
    have z2:=limb_lt hlz (zo+k)
    have hsame:=hout.same (zo+k) (by omega)
    have hft:=l7 (X.getD k 0) m (Z'.getD (zo+k) 0) cy z1 hm z2 hcy
    have hlm:=rQ (X.getD k 0*m) (Z'.getD (zo+k) 0) cy hft z2 hcy
    have HS:=ab (fun hi lo hs=>p7 Z Z' X zo k m cy hi lo (by omega) hsame hl HV.out hs)
    rw [←hsame] at HS
    have ha1:=dZ (X.getD k 0*m % 18446744073709551616) (Z'.getD (zo+k) 0)
    have ha2:=dZ ((X.getD k 0*m % 18446744073709551616+Z'.getD (zo+k) 0) % 18446744073709551616) cy
    have hM:=Tryz.bits_Mul64 (X.getD k 0) m z1 hm wr
    generalize Z'.getD (zo+k) 0=z at *
    generalize X.getD k 0=x at *
    generalize hP:x*m=P at *
    clear hP hft hsame
    obtain⟨q1,q2,q3,q4⟩:=hlm
    have HS2:=ab (HS.out _ _ q1)
    clear HS q1
    generalize ((P % 18446744073709551616+z) % 18446744073709551616+cy) % 18446744073709551616=s at *
    generalize ((P % 18446744073709551616+z) % 18446744073709551616+cy) / 18446744073709551616=o2 at *
    generalize (P % 18446744073709551616+z) % 18446744073709551616=s1 at *
    generalize (P % 18446744073709551616+z) / 18446744073709551616=o1 at *
    generalize P / 18446744073709551616=h1 at *
    generalize P % 18446744073709551616=l1 at *
    have e1:(h1:Int)+(o1:Int)=((h1+o1:Nat):Int):=by omega
    generalize h1+o1=h2 at *
    have e2:(h2:Int)+(o2:Int)=((h2+o2:Nat):Int):=by omega
    generalize h2+o2=h3 at *
    clear hcell hblk hfr0 hout HV M1 hl1 hB hLZ
    go_wp2_with fail
    refine hM.mono ?_
    rintro e w2 ⟨rfl,rfl⟩
    clear hM
    go_wp2
    go_roundw
    case rel=>exact⟨k+1,h3,Z'.set (zo+k) s,by omega,by go_num,rfl,q3,(HO.out.wider (Nat.le_refl _) (by omega)).set _ _ (by omega) (by omega),limbs_set hlz _ _ q4,HB.out.set _ s,HF.out.setCell _ _,HS2.out⟩
    case measure=>simp [intOf];omega
  ·have ek:k=X.length:=by omega
   subst ek
   rw [List.take_length] at HV
   clear hblk hfr0 hout hl1 hB
   go_wp2
   go_ret
   exact⟨cy,Z',rfl,hcy,HO.out,hlz,HB.out,HF.out,HV.out⟩

def lay (Z:List Nat)(o:Nat):List Nat→List Nat
 | []=>Z
 | p :: r=>lay (Z.set o p) (o+1) r

theorem dN (P:List Nat):∀(Z:List Nat) (o:Nat),(lay Z o P).length=Z.length:=by
 induction P with
 | nil=>intro Z o;rfl
 | cons p r ih=>intro Z o;rw [lay,ih];simp

theorem ce (P:List Nat):∀(Z:List Nat) (o:Nat),Out Z (lay Z o P) o (o+P.length):=by
 induction P with
 | nil=>intro Z o;exact Out.refl _ _ _
 | cons p r ih=>
  intro Z o
  have h1:Out Z (Z.set o p) o (o+(p :: r).length):=(Out.refl _ _ _).set _ _ (Nat.le_refl _) (by simp)
  exact h1.trans ((ih (Z.set o p) (o+1)).wider (by omega) (by simp;omega))

theorem cT (P:List Nat):∀(Z:List Nat) (o:Nat),o+P.length≤Z.length→sv (lay Z o P) o P.length=val P:=by
 induction P with
 | nil=>intro Z o _;exact bE _ _
 | cons p r ih=>
  intro Z o h
  have hl:o+r.length+1≤Z.length:=by simpa [Nat.add_assoc] using h
  rw [show (p :: r).length=1+r.length by simp;omega,aY _ _ _ _ (by rw [dN];omega),gw _ _ (by rw [dN];omega),lay,ih _ _ (by simp;omega)]
  have h2:=(ce r (Z.set o p) (o+1)).same o (by omega)
  rw [h2,fW,if_pos ⟨rfl,by omega⟩,val,Nat.pow_one]

theorem cI (P:List Nat)(hP:Limbs P):∀(Z:List Nat) (o:Nat),Limbs Z→Limbs (lay Z o P):=by
 induction P with
 | nil=>intro Z o h;exact h
 | cons p r ih=>intro Z o h;exact ih (fun z hz=>hP z (List.mem_cons_of_mem _ hz)) _ _ (limbs_set h _ _ (hP p (List.mem_cons_self ..)))

theorem Blk.setCells {b:Nat}(P:List Nat):∀ {w:World} {Z:List Nat} (o:Nat),Blk w b Z→Blk (w.setCells b o (P.map lv)) b (lay Z o P):=by
 induction P with
 | nil=>intro w Z o h;exact h
 | cons p r ih=>intro w Z o h;exact ih (o+1) (h.set o p)

theorem Fr.setCells {b:Nat}(P:List Value):∀ {a w:World} (o:Nat),Fr b a w→Fr b a (w.setCells b o P):=by
 induction P with
 | nil=>intro a w o h;exact h
 | cons p r ih=>intro a w o h;exact ih (o+1) (h.setCell o p)

theorem rp (w:World):(zeroValue 51).run Tryz.prog w=.ok (.int .u64 0) w:=by kernel_rfl

theorem fi (bz zo n cap:Nat)(Z:List Nat)(w:World)(ty:TypeId)(hB:Blk w bz Z)(hz:zo+n≤Z.length)(hn:0<n) :
  (Builtin.clear_ #[39] ty #[.slice (some ⟨bz,zo,none⟩) n cap]).run Tryz.prog w=.ok (.tuple #[]) (w.setCells bz zo ((List.replicate n 0).map lv)):=by
 rw [Lib.run_clear_slice w 39 51 ty (.int .u64 0) Tryz.underlying39 rp rfl rfl bz zo n cap hn (fun j hj=>by rw [hB.cell (zo+j) (by omega)];rfl) (fun j hj=>hB.free (zo+j)),List.map_replicate]
 rfl

theorem rk (Z Z2 X Y:List Nat)(o k m cy:Nat)(hl:Z2.length=Z.length)(hk:k<Y.length)(hZ:o+(X.length+Y.length)≤Z.length)(hm:m=Y.getD k 0)
  (h:sv Z o (k+X.length)=val X*val (Y.take k)) (ho:Out Z Z2 (o+k) (o+k+X.length))
  (h2:sv Z2 (o+k) X.length+cy*18446744073709551616 ^ X.length=sv Z (o+k) X.length+val X*m) :
  sv (Z2.set (o+(k+X.length)) cy) o (k+1+X.length)=val X*val (Y.take (k+1)):=by
 rw [show k+1+X.length=k+X.length+1 by omega,eA _ _ _ _ (by omega),aY _ _ _ _ (by omega),ho.sv o k (by omega),val_take_next Y k,←hm,Nat.pow_add]
 rw [aY _ _ _ _ (by omega)] at h
 generalize sv Z o k=A at *
 generalize sv Z2 (o+k) X.length=B2 at *
 generalize sv Z (o+k) X.length=B at *
 generalize val (Y.take k)=V at *
 generalize val X=U at *
 generalize (18446744073709551616:Nat) ^ k=K at *
 generalize (18446744073709551616:Nat) ^ X.length=L at *
 grind

theorem lc (bz zo cap:Nat)(Z:List Nat)(va vb:Value)(X Y:List Nat)(w:World)(hB:Blk w bz Z)(hLZ:Limbs Z)(hA:Arg w va X)(hA2:Arg w vb Y)
  (ho:Off va bz zo (zo+(X.length+Y.length))) (ho2:Off vb bz zo (zo+(X.length+Y.length))) (hzo:zo+(X.length+Y.length)≤Z.length) (hc1:X.length+Y.length≤cap) (hc2:cap≤9223372036854775807) :
  Calls Tryz.prog 145 #[.slice (some ⟨bz,zo,none⟩) (X.length+Y.length) cap,va,vb] w fun e w'=>e=.returned (.tuple #[])∧∃Z':List Nat,
   Out Z Z' zo (zo+(X.length+Y.length))∧Limbs Z'∧Blk w' bz Z'∧Fr bz w w'∧sv Z' zo (X.length+Y.length)=val X*val Y:=by
 obtain⟨a1,c1,rfl,hcc1,hcm1,hl1⟩:=hA.form
 obtain⟨a2,c2,rfl,hcc2,hcm2,hl2⟩:=hA2.form
 have hao2:∀b off,a2=some ⟨b,off,none⟩→b≠bz∨off+Y.length≤zo∨zo+(X.length+Y.length)≤off:=fun b off e=>by subst e;exact ho2 b off _ _ rfl
 have fX:=hA.few
 have fY:=hA2.few
 have mY:=hA2.limbs
 obtain⟨w1,Z1,hrun,hout1,hlz1,hb1,hf1,hs1⟩:∃(w1:World) (Z1:List Nat),(∀ty,(Builtin.clear_ #[39] ty #[.slice (some ⟨bz,zo,none⟩) (X.length+Y.length) cap]).run Tryz.prog w=.ok (.tuple #[]) w1)∧Out Z Z1 zo (zo+(X.length+Y.length))∧Limbs Z1∧Blk w1 bz Z1∧Fr bz w w1∧sv Z1 zo (X.length+Y.length)=0:=by
  rcases Nat.eq_zero_or_pos (X.length+Y.length) with h0|h0
  ·refine⟨w,Z,fun ty=>?_,Out.refl _ _ _,hLZ,hB,Fr.refl _ _,by rw [h0];exact bE _ _⟩
   rw [h0]
   simp [Builtin.clear_,run_underlying Tryz.underlying39]
  ·have hlr:(List.replicate (X.length+Y.length) 0).length=X.length+Y.length:=by simp
   have e1:=ce (List.replicate (X.length+Y.length) 0) Z zo
   have e2:=cT (List.replicate (X.length+Y.length) 0) Z zo (by rw [hlr];exact hzo)
   rw [hlr] at e1 e2
   exact⟨_,lay Z zo (List.replicate (X.length+Y.length) 0),fun ty=>fi bz zo _ cap Z w ty hB hzo h0,e1,cI _ (limbs_replicate _) _ _ hLZ,Blk.setCells _ _ hB,(Fr.refl _ _).setCells _ _,by rw [e2,val_replicate]⟩
 have hs0:sv Z1 zo X.length=0:=by
  rw [aY _ _ _ _ (by have:=hout1.len;omega)] at hs1;omega
 have HO1:=ab hout1
 have HF1:=ab hf1
 have HL1:=ab hb1
 clear hs1
 go_enter Tryz.func145,Tryz.ntmps145
 go_wp2
 go_loopw [11] (fun i wr=>∃(k:Nat) (Z':List Nat),k≤Y.length∧i=.int .i64 k∧Out Z Z' zo (zo+(X.length+Y.length))∧Limbs Z'∧Blk wr bz Z'∧Fr bz w wr ∧
   sv Z' zo (k+X.length)=val X*val (Y.take k)) (fun i _=>Y.length - (intOf i).toNat)
 case atStart=>exact⟨0,Z1,Nat.zero_le _,rfl,HO1.out,hlz1,HL1.out,HF1.out,by rw [Nat.zero_add,hs0];simp [val]⟩
 case round=>
  obtain⟨k,Z',hk,rfl,hout,hlz,hblk,hfr0,hval⟩:=hrel
  clear hrun hout1 hlz1 hb1 hf1 hs0 HO1 HF1 HL1
  by_cases hkl:k<Y.length
  ·rcases hl2.fr hao2 hfr0 hB hblk hout with h0|⟨b,off,rfl,hcell⟩
   ·rw [h0] at hkl;simp at hkl
   ·have hck:=hcell k hkl
    have z2:=limb_lt mY k
    have hlen:=hout.len
    have hA':Arg wr (.slice a1 X.length c1) X:=hA.fr ho hfr0 hB hblk hout
    have HM:=kk bz (zo+k) (cap - k) Z' _ X (Y.getD k 0) wr hblk hlz hA' (fun b off n c e=>by rcases ho b off n c e with h|h|h <;> omega) (by omega) (by omega) (by omega) z2
    have HS:=ab (fun Z2 cy hl2 hO2 h2=>rk Z' Z2 X Y zo k (Y.getD k 0) cy hl2 hkl (by omega) rfl hval hO2 h2)
    have HO:=ab hout
    have HF:=ab hfr0
    generalize Y.getD k 0=m at *
    obtain⟨t,ht1,ht2,e1,e2⟩:∃t:Nat,t≤k+X.length∧k+X.length≤t∧(k:Int)+(X.length:Int)=(t:Int)∧t - k=X.length:=⟨k+X.length,by omega,by omega,by omega,by omega⟩
    have hb1:(0:Int)≤(k:Int):=by omega
    have hkn:k≤k+X.length:=by omega
    have hkc:k+X.length≤cap:=by omega
    clear hcell hblk hfr0 hout hval hA hA2 ho ho2 hl1 hl2 hB hLZ mY hao2 hA'
    go_wp2_with fail
    refine HM.mono ?_
    rintro e w2 ⟨cy,Z2,rfl,hcy,hO2,hlz2,hb2,hf2,hv2⟩
    have HS2:=ab (HS.out Z2 cy hO2.len hO2 hv2)
    have hl2:=hO2.len
    have hfr:=hb2.free (zo+t)
    have hco:=hb2.cell (zo+t) (by omega)
    generalize Z2.getD (zo+t) 0=o at *
    have HB2:=ab hb2
    have HF2:=ab (HF.out.trans hf2)
    have HO2:=ab (HO.out.trans (hO2.wider (by omega) (by omega)))
    have ht3:t<X.length+Y.length:=by omega
    clear HM HS hO2 hb2 hf2 hv2 HF HO
    go_wp2
    go_roundw
    case rel=>
     refine⟨k+1,Z2.set (zo+t) cy,by omega,by go_num,HO2.out.set _ _ (by omega) (by omega),limbs_set hlz2 _ _ hcy,HB2.out.set _ cy,HF2.out.setCell _ _,?_⟩
     rw [show t=k+X.length by omega];exact HS2.out
    case measure=>simp [intOf];omega
  ·have ek:k=Y.length:=by omega
   subst ek
   rw [List.take_length,Nat.add_comm] at hval
   have HV:=ab hval
   have HB:=ab hblk
   have HF:=ab hfr0
   have HO:=ab hout
   clear hval hblk hfr0 hout hl1 hl2 hB hA hA2 ho ho2 hLZ
   go_wp2
   go_end0
   exact⟨rfl,Z',HO.out,hlz,HB.out,HF.out,HV.out⟩
end Go.Proofs.YtkfbobefkbpdoaaGreatDoor
namespace Go.Proofs.YtkfbobefkbpdoaaGreatDoor
open Go.RowKit
open Lm

def way (H T:Int):Value:=.agg #[.int .i64 H,.int .i64 T]

def aI (bz zo n:Nat)(Z:List Nat)(w:World)(p:Nat)(e:Ending)(w':World):Prop:=
 e=.returned (.tuple #[])∧∃Z':List Nat,Out Z Z' zo (zo+n)∧Limbs Z'∧Blk w' bz Z'∧Fr bz w w'∧sv Z' zo n=p

theorem aI.after {bz zo n:Nat}{Z:List Nat}{w w1:World}{p:Nat}{e:Ending}{w':World}(h:aI bz zo n Z w1 p e w')(hf:Fr bz w w1):aI bz zo n Z w p e w':=by
 obtain⟨he,Z',h1,h2,h3,h4,h5⟩:=h
 exact⟨he,Z',h1,h2,h3,hf.trans h4,h5⟩

theorem Blk.alloc {w:World}{b:Nat}{xs:List Nat}(h:Blk w b xs)(o:Obj):Blk (w.alloc o) b xs:=by
 unfold Blk
 rw [Below.heap_alloc w o b h.lt];exact h

theorem Fr.alloc (bz:Nat)(w:World)(o:Obj):Fr bz w (w.alloc o):=Fr.of_below ((Below.refl _ _).alloc (Nat.le_refl _) o)

theorem Arg.more {w:World}{v:Value}{zs:List Nat}(h:Arg w v zs)(o:Obj):Arg (w.alloc o) v zs:=h.below ((Below.refl _ _).alloc (Nat.le_refl _) _)

theorem mJ (bz zo cap:Nat)(Z:List Nat)(va vb:Value)(X Y:List Nat)(w:World)(hB:Blk w bz Z)(hLZ:Limbs Z)(hA:Arg w va X)(hA2:Arg w vb Y)
  (ho:Off va bz zo (zo+(X.length+Y.length))) (ho2:Off vb bz zo (zo+(X.length+Y.length))) (hzo:zo+(X.length+Y.length)≤Z.length) (hc1:X.length+Y.length≤cap) (hc2:cap≤9223372036854775807) :
  Calls Tryz.prog 145 #[.slice (some ⟨bz,zo,none⟩) (X.length+Y.length) cap,vb,va] w (aI bz zo (X.length+Y.length) Z w (val X*val Y)):=by
 rw [Nat.add_comm X.length,Nat.mul_comm (val X)]
 rw [Nat.add_comm X.length] at ho ho2 hzo hc1
 exact lc bz zo cap Z vb va Y X w hB hLZ hA2 hA ho2 ho hzo hc1 hc2

theorem qh (H T:Int)(bz zo cap:Nat)(Z:List Nat)(va vb:Value)(X Y:List Nat)(w:World)(hB:Blk w bz Z)(hLZ:Limbs Z)(hA:Arg w va X)(hA2:Arg w vb Y)
  (ho:Off va bz zo (zo+(X.length+Y.length))) (ho2:Off vb bz zo (zo+(X.length+Y.length))) (hzo:zo+(X.length+Y.length)≤Z.length) (hc1:X.length+Y.length≤cap) (hc2:cap≤9223372036854775807)
  (hs:(X.length<Y.length∧(X.length:Int)<H∧(X.length:Int)<T)∨(Y.length≤X.length∧(Y.length:Int)<H∧(Y.length:Int)<T)) :
  Calls Tryz.prog 144 #[way H T,.slice (some ⟨bz,zo,none⟩) (X.length+Y.length) cap,va,vb] w (aI bz zo (X.length+Y.length) Z w (val X*val Y)):=by
 unfold way
 obtain⟨a1,c1,rfl,hcc1,hcm1,_⟩:=hA.form
 obtain⟨a2,c2,rfl,hcc2,hcm2,_⟩:=hA2.form
 have fX:=hA.few
 have fY:=hA2.few
 rcases hs with ⟨h1,h2,h3⟩|⟨h1,h2,h3⟩
 ·have i1:(X.length:Int)<(Y.length:Int):=by omega
  go_enter Tryz.func144,Tryz.ntmps144
  go_wp2_with fail
  refine (mJ bz zo cap Z _ _ X Y _ (hB.alloc _) hLZ (hA.more _) (hA2.more _) ho ho2 hzo hc1 hc2).mono ?_
  rintro e w2 hd
  have HD:=ab (hd.after (Fr.alloc bz w _))
  obtain⟨he,_⟩:=hd
  subst he
  clear hA hA2 ho ho2 hB
  go_wp2
  go_end0
  exact HD.out
 ·have hd0:decide ((X.length:Int)<(Y.length:Int))=false:=decide_eq_false (by omega)
  go_enter Tryz.func144,Tryz.ntmps144
  go_wp2_with fail
  refine (lc bz zo cap Z _ _ X Y _ (hB.alloc _) hLZ (hA.more _) (hA2.more _) ho ho2 hzo hc1 hc2).mono ?_
  rintro e w2 hd
  have HD:=ab (aI.after hd (Fr.alloc bz w _))
  obtain⟨he,_⟩:=hd
  subst he
  clear hA hA2 ho ho2 hB
  go_wp2
  go_end0
  exact HD.out

def ca (x y:Nat):Nat:=if x=0∨y=0 then 0 else blen x+blen y - 1

theorem o8 (va vb:Value)(X Y:List Nat)(w:World)(hA:Arg w va X)(hA2:Arg w vb Y)(fX:X.length≤35184372088831)(fY:Y.length≤35184372088831) :
  Calls Tryz.prog 137 #[va,vb] w fun e w'=>e=.returned (.int .i64 ((ca (val X) (val Y):Nat):Int))∧w'=w:=by
 have H1:=cO va X w hA
 have H2:=cO vb Y w hA2
 have b1:blen (val X)≤64*X.length:=by
  rw [blen_le_iff,Nat.mul_comm];have:=val_lt hA.limbs;rwa [W_pow] at this
 have b2:blen (val Y)≤64*Y.length:=by
  rw [blen_le_iff,Nat.mul_comm];have:=val_lt hA2.limbs;rwa [W_pow] at this
 have z1:blen (val X)=0 ↔ val X=0:=by
  unfold blen;split <;> simp [*]
 have z2:blen (val Y)=0 ↔ val Y=0:=by
  unfold blen;split <;> simp [*]
 have hL:ca (val X) (val Y)=if blen (val X)=0∨blen (val Y)=0 then 0 else blen (val X)+blen (val Y) - 1:=by
  unfold ca;simp only [z1,z2]
 rw [hL]
 clear hA hA2 z1 z2 hL
 generalize blen (val X)=x at *
 generalize blen (val Y)=y at *
 by_cases hx:x=0
 ·subst hx
  rw [if_pos (.inl rfl)]
  go_enter Tryz.func137,Tryz.ntmps137
  go_wp2_with fail
  refine H1.mono ?_
  rintro e w2 ⟨rfl,rfl⟩
  go_wp2_with fail
  refine H2.mono ?_
  rintro e w3 ⟨rfl,rfl⟩
  clear H1 H2
  go_wp2
  go_ret
  exact⟨rfl,rfl⟩
 ·have d1:((x:Int) == 0)=false:=by rw [beq_eq_false_iff_ne];omega
  by_cases hy:y=0
  ·subst hy
   rw [if_pos (.inr rfl)]
   go_enter Tryz.func137,Tryz.ntmps137
   go_wp2_with fail
   refine H1.mono ?_
   rintro e w2 ⟨rfl,rfl⟩
   go_wp2_with fail
   refine H2.mono ?_
   rintro e w3 ⟨rfl,rfl⟩
   clear H1 H2
   go_wp2
   go_ret
   exact⟨rfl,rfl⟩
  ·have d2:((y:Int) == 0)=false:=by rw [beq_eq_false_iff_ne];omega
   rw [if_neg (by omega)]
   have e1:(x:Int)+(y:Int) - 1=((x+y - 1:Nat):Int):=by omega
   generalize x+y - 1=t at *
   go_enter Tryz.func137,Tryz.ntmps137
   go_wp2_with fail
   refine H1.mono ?_
   rintro e w2 ⟨rfl,rfl⟩
   go_wp2_with fail
   refine H2.mono ?_
   rintro e w3 ⟨rfl,rfl⟩
   clear H1 H2
   go_wp2
   go_ret
   exact⟨rfl,rfl⟩
end Go.Proofs.YtkfbobefkbpdoaaGreatDoor

