/- The walk of the law SpanSums. -/
import Derived.Test.YteflkojglmleaaaGreatDoorB22
import Derived.Test.YteflkojglmleaaaGreatDoorB23
import Derived.Test.YteflkojglmleaaaGreatDoorRows
import Derived.Test.YteflkojglmleaaaGreatDoorB01
import Derived.ProofKit
import Derived.OpenShut
import Derived.LaidMore
import Derived.Lay
import Derived.Stop.Joined
namespace Go.Proofs.YteflkojglmleaaaGreatDoor
open Go.RowKit
open Lm

theorem ah.norm10 {L:Nat}{M E V:Int}(h:Rp L M E V):∃c,ah L V c:=⟨_,_,_,h.norm,bj _ _,rfl⟩

theorem ah.rv0 {L:Nat}{V c pos:Int}(h:ah L V c)(hp:0≤pos+L):∃c,ah L (rv 0 V (2 ^ (pos+L).toNat)) c:=by
 obtain⟨M,E,h1,h2,_⟩:=h
 exact ah.norm10 (dA (pos:=pos) (m:=0) h1 h2 hp (.inl rfl))

theorem ah.rv1 {L:Nat}{V c pos:Int}(h:ah L V c)(hp:0≤pos+L):∃c,ah L (rv 1 V (2 ^ (pos+L).toNat)) c:=by
 obtain⟨M,E,h1,h2,_⟩:=h
 exact ah.norm10 (dA (pos:=pos) (m:=1) h1 h2 hp (.inr (.inl rfl)))

theorem ah.lo {L:Nat}{V W c d:Int}(h:ah L V c)(g:ah L W d):∃c,ah L (min V W) c:=by
 rcases (show min V W=V∨min V W=W by omega) with e|e <;> rw [e]
 ·exact⟨_,h⟩
 ·exact⟨_,g⟩

theorem ah.hi {L:Nat}{V W c d:Int}(h:ah L V c)(g:ah L W d):∃c,ah L (max V W) c:=by
 rcases (show max V W=V∨max V W=W by omega) with e|e <;> rw [e]
 ·exact⟨_,h⟩
 ·exact⟨_,g⟩

theorem rm (b0:Bool)(u0:Value)(z0:List Nat)(e0:Int)(b1:Bool)(u1:Value)(z1:List Nat)(e1:Int)(b2:Bool)(u2:Value)(z2:List Nat)(e2:Int)(b3:Bool)(u3:Value)(z3:List Nat)(e3:Int)(pos:Int)(w:World)(hT:Tab w)(A0:Arg w u0 z0)(s0:z0.length≤1048576)(_:-9223372036854775808≤e0)(_:e0≤9223372036854775807)(A1:Arg w u1 z1)(s1:z1.length≤1048576)(_:-9223372036854775808≤e1)(_:e1≤9223372036854775807)(A2:Arg w u2 z2)(s2:z2.length≤1048576)(_:-9223372036854775808≤e2)(_:e2≤9223372036854775807)(A3:Arg w u3 z3)(s3:z3.length≤1048576)(_:-9223372036854775808≤e3)(_:e3≤9223372036854775807)(_:-9223372036854775808≤pos)(_:pos≤9223372036854775807) :
  Calls Tryz.prog 3 #[.agg #[.bool b0,u0,.int .i64 e0,.bool b1,u1,.int .i64 e1],.agg #[.bool b2,u2,.int .i64 e2,.bool b3,u3,.int .i64 e3],.int .i64 pos] w fun e w'=>e=.returned (.bool true)∧Below w.heap.size w w':=by
 obtain⟨a0,k0,rfl,_,_,_⟩:=A0.form
 obtain⟨a1,k1,rfl,_,_,_⟩:=A1.form
 obtain⟨a2,k2,rfl,_,_,_⟩:=A2.form
 obtain⟨a3,k3,rfl,_,_,_⟩:=A3.form
 obtain⟨L,hL⟩:∃L:Nat,4611686018427387904≤L:=⟨4611686018427387904,Nat.le_refl _⟩
 by_cases hH:aY (wst (flt e0 e1 (vof b0 z0 e0 L) (vof b1 z1 e1 L)) (flt e2 e3 (vof b2 z2 e2 L) (vof b3 z3 e3 L))) pos=0
 ·have hw:wst (flt e0 e1 (vof b0 z0 e0 L) (vof b1 z1 e1 L)) (flt e2 e3 (vof b2 z2 e2 L) (vof b3 z3 e3 L))=0:=by
   unfold aY at hH
   by_cases h:wst (flt e0 e1 (vof b0 z0 e0 L) (vof b1 z1 e1 L)) (flt e2 e3 (vof b2 z2 e2 L) (vof b3 z3 e3 L))=0
   ·exact h
   ·rw [if_neg h] at hH
    exact absurd hH h
  have hK:aj pos=true:=by
   unfold aY at hH
   rw [if_pos hw] at hH
   cases h:aj pos
   ·rw [h] at hH
    simp at hH
   ·rfl
  have hF:flt e0 e1 (vof b0 z0 e0 L) (vof b1 z1 e1 L)=0:=by
   unfold wst at hw
   by_cases h:flt e0 e1 (vof b0 z0 e0 L) (vof b1 z1 e1 L)=0
   ·exact h
   ·rw [if_neg h] at hw
    exact absurd hw h
  have hG:flt e2 e3 (vof b2 z2 e2 L) (vof b3 z3 e3 L)=0:=by
   unfold wst at hw
   rw [if_pos hF] at hw
   exact hw
  obtain⟨hE0,hE1,_⟩:=dh hF
  obtain⟨hE2,hE3,_⟩:=dh hG
  have hp:=(aM pos).1 hK
  have r0:=(aM e0).1 hE0
  have m0:=f8 (b:=b0) (ex:=e0) (L:=L) A0 s0 (by omega)
  have p0:Rp L _ _ (vof b0 z0 e0 L):=(Rp.make L (zz b0 (val z0)) e0 (by omega)).norm
  have r1:=(aM e1).1 hE1
  have m1:=f8 (b:=b1) (ex:=e1) (L:=L) A1 s1 (by omega)
  have p1:Rp L _ _ (vof b1 z1 e1 L):=(Rp.make L (zz b1 (val z1)) e1 (by omega)).norm
  have r2:=(aM e2).1 hE2
  have m2:=f8 (b:=b2) (ex:=e2) (L:=L) A2 s2 (by omega)
  have p2:Rp L _ _ (vof b2 z2 e2 L):=(Rp.make L (zz b2 (val z2)) e2 (by omega)).norm
  have r3:=(aM e3).1 hE3
  have m3:=f8 (b:=b3) (ex:=e3) (L:=L) A3 s3 (by omega)
  have p3:Rp L _ _ (vof b3 z3 e3 L):=(Rp.make L (zz b3 (val z3)) e3 (by omega)).norm
  obtain⟨c1,x1⟩:=ah.norm10 (p0.add p2)
  obtain⟨c2,x2⟩:=ah.norm10 (p1.add p3)
  obtain⟨c3,x3⟩:=ah.norm10 (p0.add p3.neg)
  obtain⟨c4,x4⟩:=ah.norm10 (p1.add p2.neg)
  obtain⟨c5,x5⟩:=ah.norm10 (p0.mul p2)
  obtain⟨c6,x6⟩:=ah.norm10 (p0.mul p3)
  obtain⟨c7,x7⟩:=ah.norm10 (p1.mul p2)
  obtain⟨c8,x8⟩:=ah.norm10 (p1.mul p3)
  obtain⟨d1,y1⟩:=x1.rv0 (pos:=pos) (by omega)
  obtain⟨d2,y2⟩:=x2.rv1 (pos:=pos) (by omega)
  obtain⟨d3,y3⟩:=x3.rv0 (pos:=pos) (by omega)
  obtain⟨d4,y4⟩:=x4.rv1 (pos:=pos) (by omega)
  obtain⟨_,l1⟩:=x5.lo x6
  obtain⟨_,l2⟩:=l1.lo x7
  obtain⟨_,l3⟩:=l2.lo x8
  obtain⟨_,g1⟩:=x5.hi x6
  obtain⟨_,g2⟩:=g1.hi x7
  obtain⟨_,g3⟩:=g2.hi x8
  obtain⟨d5,y5⟩:=l3.rv0 (pos:=pos) (by omega)
  obtain⟨d6,y6⟩:=g3.rv1 (pos:=pos) (by omega)
  exact tL b0 a0 k0 z0 e0 b1 a1 k1 z1 e1 b2 a2 k2 z2 e2 b3 a3 k3 z3 e3 pos L _ _ _ _ _ _ _ _ _ _ c1 c2 c3 c4 c5 c6 c7 c8 d1 d2 d3 d4 d5 d6 _ _ _ _ _ _ w hT A0 s0 A1 s1 A2 s2 A3 s3 hL rfl rfl rfl rfl hF hG hK m0 m1 m2 m3 rfl rfl rfl rfl rfl rfl x1 x2 x3 x4 x5 x6 x7 x8 y1 y2 y3 y4 y5 y6 rfl rfl rfl rfl rfl rfl
 ·exact tG b0 a0 k0 z0 e0 b1 a1 k1 z1 e1 b2 a2 k2 z2 e2 b3 a3 k3 z3 e3 pos L _ _ _ _ _ _ _ w hT A0 s0 A1 s1 A2 s2 A3 s3 hL rfl rfl rfl rfl rfl rfl rfl hH
end Go.Proofs.YteflkojglmleaaaGreatDoor
namespace Go.Proofs.YteflkojglmleaaaGreatDoor
open Go.ChangeShapes Go.WideShapes Go.ChangeAt Go.RowKit

def fs:List (String × DataW Unit):=[("math/bits.deBruijn64tab",Rows.laid_math_bits_deBruijn64tab)]

theorem rC:(Rows.laid_math_bits_deBruijn64tab:DataW Unit)=.agg (bL.map fun n=>.lit (.int .u8 ((n:Nat):Int))):=by kernel_rfl

theorem nX {W:World}(h:laidMetH Tryz.prog fs W):Tab W:=by
 rw [MakeChecks.laidMetH_plain _ _ _ (by kernel_rfl)] at h
 obtain⟨ps,⟨g,t,cs,fuel,p,q,hg,ht,hv,hd,_,_⟩,_,_⟩:=h
 obtain rfl:=Option.some.inj ((show Tryz.prog.globalNamed "math/bits.deBruijn64tab"=some 0 by kernel_rfl).symm.trans hg)
 obtain rfl:=Option.some.inj ((show (Tryz.prog.globals[0]?).map (·.type)=some 182 by kernel_rfl).symm.trans ht)
 obtain⟨xs,m,_,ex,_,hl,hel⟩:=DataW.trod_array Tryz.underlying182 hd
 have c5:Tryz.prog.cellsOf 5=1:=by kernel_rfl
 have hcell:∀r,r<64→W.cell? ⟨0,r,none⟩=some (.int .u8 ((bL.getD r 0:Nat):Int)):=by
  intro r hr
  have hE:=hel r hr
  rw [c5,Nat.mul_one,List.getElem?_eq_getElem (by omega)] at hE
  obtain⟨z,e1,e2,_⟩:=DataW.trod_int Tryz.underlying5 hE
  have hlen:bL.length=64:=by kernel_rfl
  rw [rC] at ex
  have e3:(xs.map (·.1))=bL.map fun n=>.lit (.int .u8 ((n:Nat):Int)):=(DataW.agg.inj (Prod.mk.inj ex).1).symm
  have e4:(xs.map (·.1))[r]?=(bL.map fun n=>(DataW.lit (.int .u8 ((n:Nat):Int)):DataW Unit))[r]?:=by rw [e3]
  rw [List.getElem?_map,List.getElem?_map,List.getElem?_eq_getElem (by omega:r<xs.length),List.getElem?_eq_getElem (by omega:r<bL.length),e2] at e4
  have hz:z=((bL.getD r 0:Nat):Int):=by
   simp only [Option.map_some,Option.some.injEq,DataW.lit.injEq,Lit.int.injEq,true_and] at e4
   rw [e4,List.getD,List.getElem?_eq_getElem (by omega:r<bL.length)];rfl
  rw [World.var?_cell hg hv r,←hz]
  have:cs.toList[r]?=some (.int .u8 z):=by
   have h0:((cs.toList.drop r).take 1)[0]?=some (.int .u8 z):=by rw [e1];rfl
   simpa using h0
  simpa using this
 refine⟨?_,hcell⟩
 have h0:=hcell 0 (by omega)
 rcases Nat.lt_or_ge 0 W.heap.size with h|h
 ·exact h
 ·simp [World.cell?,Array.getElem?_eq_none h] at h0
end Go.Proofs.YteflkojglmleaaaGreatDoor

