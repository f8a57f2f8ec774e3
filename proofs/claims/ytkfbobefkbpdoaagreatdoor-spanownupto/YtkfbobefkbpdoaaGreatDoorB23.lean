/- The walk of the law SpanOwn. -/
import Derived.Test.YtkfbobefkbpdoaaGreatDoorB13
import Derived.Test.YtkfbobefkbpdoaaGreatDoorB21
import Derived.Test.YtkfbobefkbpdoaaGreatDoorB22
import Derived.Test.YtkfbobefkbpdoaaGreatDoorRows
import Derived.Test.YtkfbobefkbpdoaaGreatDoorB01
import Derived.ProofKit
import Derived.OpenShut
import Derived.LaidMore
import Derived.Lay
import Derived.Stop.Joined
namespace Go.Proofs.YtkfbobefkbpdoaaGreatDoor
open Go.RowKit
open Lm

theorem aj.norm10 {L:Nat}{M E V:Int}(h:Rp L M E V):∃c,aj L V c:=⟨_,_,_,h.norm,ba _ _,rfl⟩

theorem aj.rv0 {L:Nat}{V c pos:Int}(h:aj L V c)(hp:0≤pos+L):∃c,aj L (rv 0 V (2 ^ (pos+L).toNat)) c:=by
 obtain⟨M,E,h1,h2,_⟩:=h
 exact aj.norm10 (dl (pos:=pos) (m:=0) h1 h2 hp (.inl rfl))

theorem aj.rv1 {L:Nat}{V c pos:Int}(h:aj L V c)(hp:0≤pos+L):∃c,aj L (rv 1 V (2 ^ (pos+L).toNat)) c:=by
 obtain⟨M,E,h1,h2,_⟩:=h
 exact aj.norm10 (dl (pos:=pos) (m:=1) h1 h2 hp (.inr (.inl rfl)))

theorem aj.lo {L:Nat}{V W c d:Int}(h:aj L V c)(g:aj L W d):∃c,aj L (min V W) c:=by
 rcases (show min V W=V∨min V W=W by omega) with e|e <;> rw [e]
 ·exact⟨_,h⟩
 ·exact⟨_,g⟩

theorem aj.hi {L:Nat}{V W c d:Int}(h:aj L V c)(g:aj L W d):∃c,aj L (max V W) c:=by
 rcases (show max V W=V∨max V W=W by omega) with e|e <;> rw [e]
 ·exact⟨_,h⟩
 ·exact⟨_,g⟩

theorem gq {L:Nat}{pos M0 E0 M1 E1 M2 E2 M3 E3 V0 V1 V2 V3:Int}(p0:Rp L M0 E0 V0)(p1:Rp L M1 E1 V1)(p2:Rp L M2 E2 V2)(p3:Rp L M3 E3 V3)(hp:0≤pos+((L+L:Nat):Int)):∃c5 c6 c7 c8 d5 d6,aj (L+L) (V0*V2) c5∧aj (L+L) (V0*V3) c6∧aj (L+L) (V1*V2) c7∧aj (L+L) (V1*V3) c8∧aj (L+L) (rv 0 (min (min (min (V0*V2) (V0*V3)) (V1*V2)) (V1*V3)) (2 ^ (pos+((L+L):Nat)).toNat)) d5∧aj (L+L) (rv 1 (max (max (max (V0*V2) (V0*V3)) (V1*V2)) (V1*V3)) (2 ^ (pos+((L+L):Nat)).toNat)) d6:=by
 obtain⟨c5,x5⟩:=aj.norm10 (p0.mul p2)
 obtain⟨c6,x6⟩:=aj.norm10 (p0.mul p3)
 obtain⟨c7,x7⟩:=aj.norm10 (p1.mul p2)
 obtain⟨c8,x8⟩:=aj.norm10 (p1.mul p3)
 obtain⟨_,l1⟩:=x5.lo x6
 obtain⟨_,l2⟩:=l1.lo x7
 obtain⟨_,l3⟩:=l2.lo x8
 obtain⟨_,g1⟩:=x5.hi x6
 obtain⟨_,g2⟩:=g1.hi x7
 obtain⟨_,g3⟩:=g2.hi x8
 obtain⟨d5,y5⟩:=l3.rv0 (pos:=pos) hp
 obtain⟨d6,y6⟩:=g3.rv1 (pos:=pos) hp
 exact⟨c5,c6,c7,c8,d5,d6,x5,x6,x7,x8,y5,y6⟩

theorem qg (b0:Bool)(u0:Value)(z0:List Nat)(e0:Int)(b1:Bool)(u1:Value)(z1:List Nat)(e1:Int)(b2:Bool)(u2:Value)(z2:List Nat)(e2:Int)(b3:Bool)(u3:Value)(z3:List Nat)(e3:Int)(pos:Int)(w:World)(hT:Tab w)(A0:Arg w u0 z0)(s0:z0.length≤1048576)(_:-9223372036854775808≤e0)(_:e0≤9223372036854775807)(A1:Arg w u1 z1)(s1:z1.length≤1048576)(_:-9223372036854775808≤e1)(_:e1≤9223372036854775807)(A2:Arg w u2 z2)(s2:z2.length≤1048576)(_:-9223372036854775808≤e2)(_:e2≤9223372036854775807)(A3:Arg w u3 z3)(s3:z3.length≤1048576)(_:-9223372036854775808≤e3)(_:e3≤9223372036854775807)(_:-9223372036854775808≤pos)(_:pos≤9223372036854775807) :
  Calls Tryz.prog 3 #[.agg #[.bool b0,u0,.int .i64 e0,.bool b1,u1,.int .i64 e1],.agg #[.bool b2,u2,.int .i64 e2,.bool b3,u3,.int .i64 e3],.int .i64 pos] w fun e w'=>e=.returned (.bool true)∧Below w.heap.size w w':=by
 obtain⟨a0,k0,rfl,_,_,_⟩:=A0.form
 obtain⟨a1,k1,rfl,_,_,_⟩:=A1.form
 obtain⟨a2,k2,rfl,_,_,_⟩:=A2.form
 obtain⟨a3,k3,rfl,_,_,_⟩:=A3.form
 obtain⟨L,hL⟩:∃L:Nat,4611686018427387904≤L:=⟨4611686018427387904,Nat.le_refl _⟩
 by_cases hF:flt e0 e1 (vof b0 z0 e0 L) (vof b1 z1 e1 L)=0
 ·by_cases hG:flt e2 e3 (vof b2 z2 e2 L) (vof b3 z3 e3 L)=0
  ·cases hK:ah pos
   ·exact m6 b0 a0 k0 z0 e0 b1 a1 k1 z1 e1 b2 a2 k2 z2 e2 b3 a3 k3 z3 e3 pos L _ _ _ _ w hT A0 s0 A1 s1 A2 s2 A3 s3 hL rfl rfl rfl rfl hF hG hK
   ·obtain⟨hE0,hE1,_⟩:=dB hF
    obtain⟨hE2,hE3,_⟩:=dB hG
    have hp:=(aH pos).1 hK
    have r0:=(aH e0).1 hE0
    have m0:=fZ (b:=b0) (ex:=e0) (L:=L) A0 s0 (by omega)
    have p0:Rp L _ _ (vof b0 z0 e0 L):=(Rp.make L (zz b0 (val z0)) e0 (by omega)).norm
    have r1:=(aH e1).1 hE1
    have m1:=fZ (b:=b1) (ex:=e1) (L:=L) A1 s1 (by omega)
    have p1:Rp L _ _ (vof b1 z1 e1 L):=(Rp.make L (zz b1 (val z1)) e1 (by omega)).norm
    have r2:=(aH e2).1 hE2
    have m2:=fZ (b:=b2) (ex:=e2) (L:=L) A2 s2 (by omega)
    have p2:Rp L _ _ (vof b2 z2 e2 L):=(Rp.make L (zz b2 (val z2)) e2 (by omega)).norm
    have r3:=(aH e3).1 hE3
    have m3:=fZ (b:=b3) (ex:=e3) (L:=L) A3 s3 (by omega)
    have p3:Rp L _ _ (vof b3 z3 e3 L):=(Rp.make L (zz b3 (val z3)) e3 (by omega)).norm
    have pz:Rp L 0 0 0:=Rp.zero10 L
    obtain⟨c5,c6,c7,c8,d5,d6,x5,x6,x7,x8,y5,y6⟩:=gq (pos:=pos) p0 p1 p2 p3 (by omega)
    by_cases hN:(vof b0 z0 e0 L)≤0
    ·obtain⟨f5,f6,f7,f8,h5,h6,k5,k6,k7,k8,l5,l6⟩:=gq (pos:=pos) p0 pz p2 p3 (by omega)
     exact oG b0 a0 k0 z0 e0 b1 a1 k1 z1 e1 b2 a2 k2 z2 e2 b3 a3 k3 z3 e3 pos L _ _ _ _ _ _ _ _ c5 c6 c7 c8 d5 d6 _ _ f5 f6 f7 f8 h5 h6 _ _ w hT A0 s0 A1 s1 A2 s2 A3 s3 hL rfl rfl rfl rfl hF hG hK hN m0 m1 m2 m3 rfl rfl rfl rfl x5 x6 x7 x8 y5 y6 k5 k6 k7 k8 l5 l6 rfl rfl rfl rfl
    ·obtain⟨f5,f6,f7,f8,h5,h6,k5,k6,k7,k8,l5,l6⟩:=gq (pos:=pos) pz pz p2 p3 (by omega)
     exact m9 b0 a0 k0 z0 e0 b1 a1 k1 z1 e1 b2 a2 k2 z2 e2 b3 a3 k3 z3 e3 pos L _ _ _ _ _ _ _ _ c5 c6 c7 c8 d5 d6 _ _ f5 f6 f7 f8 h5 h6 _ _ w hT A0 s0 A1 s1 A2 s2 A3 s3 hL rfl rfl rfl rfl hF hG hK (by omega) m0 m1 m2 m3 rfl rfl rfl rfl x5 x6 x7 x8 y5 y6 k5 k6 k7 k8 l5 l6 rfl rfl rfl rfl
  ·exact pU b0 a0 k0 z0 e0 b1 a1 k1 z1 e1 b2 a2 k2 z2 e2 b3 a3 k3 z3 e3 pos L _ _ _ _ _ w hT A0 s0 A1 s1 A2 s2 A3 s3 hL rfl rfl rfl rfl hF rfl hG
 ·exact pp b0 a0 k0 z0 e0 b1 a1 k1 z1 e1 b2 a2 k2 z2 e2 b3 a3 k3 z3 e3 pos L _ _ _ _ _ _ w hT A0 s0 A1 s1 A2 s2 A3 s3 hL rfl rfl rfl rfl rfl rfl hF
end Go.Proofs.YtkfbobefkbpdoaaGreatDoor
namespace Go.Proofs.YtkfbobefkbpdoaaGreatDoor
open Go.ChangeShapes Go.WideShapes Go.ChangeAt Go.RowKit

def fo:List (String × DataW Unit):=[("math/bits.deBruijn64tab",Rows.laid_math_bits_deBruijn64tab)]

theorem mV:(Rows.laid_math_bits_deBruijn64tab:DataW Unit)=.agg (bA.map fun n=>.lit (.int .u8 ((n:Nat):Int))):=by kernel_rfl

theorem nv {W:World}(h:laidMetH Tryz.prog fo W):Tab W:=by
 rw [MakeChecks.laidMetH_plain _ _ _ (by kernel_rfl)] at h
 obtain⟨ps,⟨g,t,cs,fuel,p,q,hg,ht,hv,hd,_,_⟩,_,_⟩:=h
 obtain rfl:=Option.some.inj ((show Tryz.prog.globalNamed "math/bits.deBruijn64tab"=some 0 by kernel_rfl).symm.trans hg)
 obtain rfl:=Option.some.inj ((show (Tryz.prog.globals[0]?).map (·.type)=some 173 by kernel_rfl).symm.trans ht)
 obtain⟨xs,m,_,ex,_,hl,hel⟩:=DataW.trod_array Tryz.underlying173 hd
 have c5:Tryz.prog.cellsOf 5=1:=by kernel_rfl
 have hcell:∀r,r<64→W.cell? ⟨0,r,none⟩=some (.int .u8 ((bA.getD r 0:Nat):Int)):=by
  intro r hr
  have hE:=hel r hr
  rw [c5,Nat.mul_one,List.getElem?_eq_getElem (by omega)] at hE
  obtain⟨z,e1,e2,_⟩:=DataW.trod_int Tryz.underlying5 hE
  have hlen:bA.length=64:=by kernel_rfl
  rw [mV] at ex
  have e3:(xs.map (·.1))=bA.map fun n=>.lit (.int .u8 ((n:Nat):Int)):=(DataW.agg.inj (Prod.mk.inj ex).1).symm
  have e4:(xs.map (·.1))[r]?=(bA.map fun n=>(DataW.lit (.int .u8 ((n:Nat):Int)):DataW Unit))[r]?:=by rw [e3]
  rw [List.getElem?_map,List.getElem?_map,List.getElem?_eq_getElem (by omega:r<xs.length),List.getElem?_eq_getElem (by omega:r<bA.length),e2] at e4
  have hz:z=((bA.getD r 0:Nat):Int):=by
   simp only [Option.map_some,Option.some.injEq,DataW.lit.injEq,Lit.int.injEq,true_and] at e4
   rw [e4,List.getD,List.getElem?_eq_getElem (by omega:r<bA.length)];rfl
  rw [World.var?_cell hg hv r,←hz]
  have:cs.toList[r]?=some (.int .u8 z):=by
   have h0:((cs.toList.drop r).take 1)[0]?=some (.int .u8 z):=by rw [e1];rfl
   simpa using h0
  simpa using this
 refine⟨?_,hcell⟩
 have h0:=hcell 0 (by omega)
 rcases Nat.lt_or_ge 0 W.heap.size with h|h
 ·exact h
 ·simp [World.cell?,Array.getElem?_eq_none h] at h0
end Go.Proofs.YtkfbobefkbpdoaaGreatDoor

