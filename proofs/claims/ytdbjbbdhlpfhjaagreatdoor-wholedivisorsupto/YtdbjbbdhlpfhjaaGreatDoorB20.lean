/- What the listed variable gives the walks: the table of math/bits. -/
import Derived.Test.YtdbjbbdhlpfhjaaGreatDoorRows
import Derived.Test.YtdbjbbdhlpfhjaaGreatDoorB01
import Derived.ProofKit
import Derived.OpenShut
import Derived.LaidMore
import Derived.Lay
import Derived.Stop.Joined
namespace Go.Proofs.YtdbjbbdhlpfhjaaGreatDoor
open Go.ChangeShapes Go.WideShapes Go.ChangeAt Go.RowKit

def gp:List (String × DataW Unit):=[("math/bits.deBruijn64tab",Rows.laid_math_bits_deBruijn64tab)]

theorem mu:(Rows.laid_math_bits_deBruijn64tab:DataW Unit)=.agg (cj.map fun n=>.lit (.int .u8 ((n:Nat):Int))):=by kernel_rfl

theorem oK {W:World}(h:laidMetH Tryz.prog gp W):Tab W:=by
 rw [MakeChecks.laidMetH_plain _ _ _ (by kernel_rfl)] at h
 obtain⟨ps,⟨g,t,cs,fuel,p,q,hg,ht,hv,hd,_,_⟩,_,_⟩:=h
 obtain rfl:=Option.some.inj ((show Tryz.prog.globalNamed "math/bits.deBruijn64tab"=some 0 by kernel_rfl).symm.trans hg)
 obtain rfl:=Option.some.inj ((show (Tryz.prog.globals[0]?).map (·.type)=some 173 by kernel_rfl).symm.trans ht)
 obtain⟨xs,m,_,ex,_,hl,hel⟩:=DataW.trod_array Tryz.underlying173 hd
 have c5:Tryz.prog.cellsOf 5=1:=by kernel_rfl
 have hcell:∀r,r<64→W.cell? ⟨0,r,none⟩=some (.int .u8 ((cj.getD r 0:Nat):Int)):=by
  intro r hr
  have hE:=hel r hr
  rw [c5,Nat.mul_one,List.getElem?_eq_getElem (by omega)] at hE
  obtain⟨z,e1,e2,_⟩:=DataW.trod_int Tryz.underlying5 hE
  have hlen:cj.length=64:=by kernel_rfl
  rw [mu] at ex
  have e3:(xs.map (·.1))=cj.map fun n=>.lit (.int .u8 ((n:Nat):Int)):=(DataW.agg.inj (Prod.mk.inj ex).1).symm
  have e4:(xs.map (·.1))[r]?=(cj.map fun n=>(DataW.lit (.int .u8 ((n:Nat):Int)):DataW Unit))[r]?:=by rw [e3]
  rw [List.getElem?_map,List.getElem?_map,List.getElem?_eq_getElem (by omega:r<xs.length),List.getElem?_eq_getElem (by omega:r<cj.length),e2] at e4
  have hz:z=((cj.getD r 0:Nat):Int):=by
   simp only [Option.map_some,Option.some.injEq,DataW.lit.injEq,Lit.int.injEq,true_and] at e4
   rw [e4,List.getD,List.getElem?_eq_getElem (by omega:r<cj.length)];rfl
  rw [World.var?_cell hg hv r,←hz]
  have:cs.toList[r]?=some (.int .u8 z):=by
   have h0:((cs.toList.drop r).take 1)[0]?=some (.int .u8 z):=by rw [e1];rfl
   simpa using h0
  simpa using this
 refine⟨?_,hcell⟩
 have h0:=hcell 0 (by omega)
 rcases Nat.lt_or_ge 0 W.heap.size with h|h
 ·exact h
 ·simp [World.cell?,Array.getElem?_eq_none h] at h0

end Go.Proofs.YtdbjbbdhlpfhjaaGreatDoor
