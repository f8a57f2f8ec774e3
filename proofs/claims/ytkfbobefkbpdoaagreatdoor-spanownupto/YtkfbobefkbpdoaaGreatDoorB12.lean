/- What the law SpanOwn uses. -/
import Derived.Test.YtkfbobefkbpdoaaGreatDoorB11
import Derived.Test.YtkfbobefkbpdoaaGreatDoorB10
set_option maxRecDepth 20000
set_option maxHeartbeats 2000000
namespace Go.Proofs.YtkfbobefkbpdoaaGreatDoor
open Go.RowKit
open Lm
attribute [local go_sem ↓] Go.wp_at_zero Go.wp_at_succ

theorem DR.fr10 {w w':World}{base g:Nat}{b:Bool}{va:Value}{ex c M E:Int}(h:DR w base b va ex c M E)(hf:Fr g w w')(hg:g<base):DR w' base b va ex c M E:=by
 obtain⟨rs,h1,h2⟩:=h
 exact⟨rs,h1.fr hf hg,h2⟩

theorem SRV.fr {w w':World}{base g:Nat}{b1:Bool}{v1:Value}{e1:Int}{b2:Bool}{v2:Value}{e2 c fl:Int}{L:Nat}{V1 V2:Int}(h:SRV w base b1 v1 e1 b2 v2 e2 c fl L V1 V2)(hf:Fr g w w')(hg:g<base):SRV w' base b1 v1 e1 b2 v2 e2 c fl L V1 V2:=by
 rcases h with h|⟨h0,M1,E1,M2,E2,⟨h1,h3,h4⟩,h2⟩
 ·exact .inl h
 ·exact .inr ⟨h0,M1,E1,M2,E2,⟨h1,fun h=>⟨(h3 h).1.fr10 hf hg,(h3 h).2.1.fr10 hf hg,(h3 h).2.2⟩,h4⟩,h2⟩

def bG (zs:List Nat)(k:Nat):List Nat:=List.replicate k 0 ++ zs.drop k

theorem gr (zs:List Nat)(k:Nat)(h:k≤zs.length):(bG zs k).length=zs.length:=by
 simp [bG];omega

theorem iP (zs:List Nat):bG zs 0=zs:=by simp [bG]

theorem jE (zs:List Nat):bG zs zs.length=List.replicate zs.length 0:=by simp [bG]

theorem iW (zs:List Nat)(k:Nat)(h:k<zs.length):(bG zs k).set k 0=bG zs (k+1):=by
 apply List.ext_getElem?
 intro i
 have hl:=gr zs k (by omega)
 rw [List.getElem?_set]
 by_cases hik:k=i
 ·subst hik
  rw [if_pos rfl,hl,if_pos h]
  simp [bG,List.getElem?_append]
 ·rw [if_neg hik]
  simp only [bG,List.getElem?_append,List.length_replicate,List.getElem?_replicate,List.getElem?_drop]
  by_cases h1:i<k
  ·rw [if_pos h1,if_pos h1,if_pos (by omega:i<k+1),if_pos (by omega:i<k+1)]
  ·rw [if_neg h1,if_neg (by omega:¬i<k+1)]
   congr 1
   omega

theorem jH (b:Bool)(n:Nat)(ex:Int)(L:Nat):vof b (List.replicate n 0) ex L=0:=by
 unfold vof
 rw [val_replicate,fL,Int.zero_mul]

theorem jg {w:World}{g:Nat}{a0 a1 a2 a3 a4 a5:Value}{t:TypeId}(h:w.heap[g]?=some (.cells #[a0,a1,a2,a3,a4,a5] t))(u:Value):(w.setCell ⟨g,4,none⟩ u).heap[g]?=some (.cells #[a0,a1,a2,a3,u,a5] t):=
 az h u

theorem jd (b:Bool)(a:Option Addr)(n c:Nat)(ex:Int)(w:World) :
  Calls Tryz.prog 22 #[.agg #[.bool b,.slice a n c,.int .i64 ex]] w fun e w'=>e=.returned (.agg #[.bool b,.slice a n c,.int .i64 ex])∧Below w.heap.size w w':=by
 obtain⟨w0,hw0,hb0,h0,h1⟩:=al w (.cells #[.bool b,.slice a n c,.int .i64 ex] 24) (.cells #[.bool false,.slice none 0 0,.int .i64 0] 43)
 obtain⟨k0,k1,k2⟩:=tri8 h0
 have hf:=ak h1
 obtain⟨m0,m1,m2⟩:=tri8 h1
 have H1:=ab h1
 have HB:=ab hb0
 clear h0 h1 hb0
 go_enter Tryz.func22,Tryz.ntmps22
 go_wp2
 have T3:=ay H1.out (.bool b) (.slice a n c) (.int .i64 ex)
 have T4:=an HB.out (show w.heap.size≤w.heap.size+1 by omega) (.bool b) (.slice a n c) (.int .i64 ex)
 obtain⟨p0,p1,p2⟩:=tri8 T3
 have HE:=ab T4
 clear T3 T4
 generalize ((w0.setCell ⟨w.heap.size+1,0,none⟩ (.bool b)).setCell ⟨w.heap.size+1,1,none⟩ (.slice a n c)).setCell ⟨w.heap.size+1,2,none⟩ (.int .i64 ex)=w5 at *
 refine bodyPost_ret (v:=.agg #[.bool b,.slice a n c,.int .i64 ex]) (by simp [results,Tryz.results22,go_sem,p0,p1,p2]) rfl ?_
 exact⟨rfl,HE.out⟩

def df (U W:World)(e:Ending)(w':World)(fl:Int)(L:Nat)(V1 V2:Int):Prop:=
 (∃b1 a1 n1 k1 e1 b2 a2 n2 k2 e2 c,e=.returned (.tuple #[.agg #[.bool b1,.slice a1 n1 k1,.int .i64 e1,.bool b2,.slice a2 n2 k2,.int .i64 e2],.int .i64 c])∧SRV w' U.heap.size b1 (.slice a1 n1 k1) e1 b2 (.slice a2 n2 k2) e2 c fl L V1 V2)∧Below W.heap.size W w'

theorem bM.up {U W w':World}{e:Ending}{fl:Int}{L:Nat}{V1 V2:Int}(h:bM W e w' fl L V1 V2)(hg:Below U.heap.size U W):df U W e w' fl L V1 V2:=by
 obtain⟨⟨b1,a1,n1,k1,e1,b2,a2,n2,k2,e2,c,he,hs⟩,hb⟩:=h
 exact⟨⟨b1,a1,n1,k1,e1,b2,a2,n2,k2,e2,c,he,hs.base hg.size⟩,hb⟩

def cN (U:World)(fl:Int)(L:Nat)(V1 V2:Int)(s f:Value)(wx:World):Prop:=
 ∃(g:Nat) (b:Bool) (a:Option Addr) (n k:Nat) (e:Int) (b':Bool) (a':Option Addr) (n' k':Nat) (e' c:Int),s=.pointer (some ⟨g,0,none⟩)∧f=.int .i64 c∧wx.heap[g]?=some (.cells #[.bool b,.slice a n k,.int .i64 e,.bool b',.slice a' n' k',.int .i64 e'] 45)∧SRV wx U.heap.size b (.slice a n k) e b' (.slice a' n' k') e' c fl L V1 V2∧Below U.heap.size U wx∧U.heap.size≤g

theorem dG {U t:World}{fl:Int}{L:Nat}{V1 V2:Int}{b:Bool}{a:Option Addr}{n k:Nat}{e:Int}{b':Bool}{a':Option Addr}{n' k':Nat}{e' c:Int}(hs:SRV t U.heap.size b (.slice a n k) e b' (.slice a' n' k') e' c fl L V1 V2)(g:Below U.heap.size U t):cN U fl L V1 V2 (.pointer (some ⟨t.heap.size,0,none⟩)) (.int .i64 c) (t.alloc (.cells #[.bool b,.slice a n k,.int .i64 e,.bool b',.slice a' n' k',.int .i64 e'] 45)):=
 ⟨_,b,a,n,k,e,b',a',n',k',e',c,rfl,rfl,heap_alloc_new _ _,hs.below (bI _ _),aG g _,g.size⟩

theorem bT {U t:World}{fl:Int}{L:Nat}{V1 V2:Int}{b:Bool}{a:Option Addr}{n k:Nat}{e:Int}{b':Bool}{a':Option Addr}{n' k':Nat}{e' c:Int}{gg:Nat}(hq:t.heap[gg]?=some (.cells #[.bool false,.slice none 0 0,.int .i64 0,.bool false,.slice none 0 0,.int .i64 0] 45))(hge:U.heap.size≤gg)(hs:SRV t U.heap.size b (.slice a n k) e b' (.slice a' n' k') e' c fl L V1 V2)(g:Below U.heap.size U t):cN U fl L V1 V2 (.pointer (some ⟨gg,0,none⟩)) (.int .i64 c) ((((((t.setCell ⟨gg,0,none⟩ (.bool b)).setCell ⟨gg,1,none⟩ (.slice a n k)).setCell ⟨gg,2,none⟩ (.int .i64 e)).setCell ⟨gg,3,none⟩ (.bool b')).setCell ⟨gg,4,none⟩ (.slice a' n' k')).setCell ⟨gg,5,none⟩ (.int .i64 e')):=
 ⟨_,b,a,n,k,e,b',a',n',k',e',c,rfl,rfl,aJ hq _ _ _ _ _ _,hs.hexa hq (by decide) _ _ _ _ _ _,aF g hge _ _ _ _ _ _,hge⟩

theorem cC (b1:Bool)(a1:Option Addr)(n1 k1:Nat)(e1:Int)(b2:Bool)(a2:Option Addr)(n2 k2:Nat)(e2:Int)(w:World) :
  Calls Tryz.prog 8 #[.agg #[.bool b1,.slice a1 n1 k1,.int .i64 e1,.bool b2,.slice a2 n2 k2,.int .i64 e2]] w fun e w'=>e=.returned (.agg #[.bool b1,.slice a1 n1 k1,.int .i64 e1,.bool b2,.slice a2 n2 k2,.int .i64 e2])∧Below w.heap.size w w':=by
 obtain⟨w0,hw0,hb0,q0,q9⟩:=al w (.cells #[.bool b1,.slice a1 n1 k1,.int .i64 e1,.bool b2,.slice a2 n2 k2,.int .i64 e2] 26) (.cells #[.bool false,.slice none 0 0,.int .i64 0,.bool false,.slice none 0 0,.int .i64 0] 45)
 have K1:=ab (fun (W:World)=>jd b1 a1 n1 k1 e1 W)
 have K2:=ab (fun (W:World)=>jd b2 a2 n2 k2 e2 W)
 have KS:=ab (fun (W:World) (hg:Below w0.heap.size w0 W)=>show W.cell? ⟨w.heap.size,0,none⟩=some (.bool b1)∧W.cell? ⟨w.heap.size,1,none⟩=some (.slice a1 n1 k1)∧W.cell? ⟨w.heap.size,2,none⟩=some (.int .i64 e1)∧W.cell? ⟨w.heap.size,3,none⟩=some (.bool b2)∧W.cell? ⟨w.heap.size,4,none⟩=some (.slice a2 n2 k2)∧W.cell? ⟨w.heap.size,5,none⟩=some (.int .i64 e2) from (by
  obtain⟨x0,x1,x2,x3,x4,x5⟩:=hexa (ac hg q0)
  exact⟨x0,x1,x2,x3,x4,x5⟩))
 have KT:=ab (fun (W:World) (hg:Below w0.heap.size w0 W) (u0 u1 u2 u3 u4 u5:Value)=>show ((((((W.setCell ⟨w.heap.size+1,0,none⟩ u0).setCell ⟨w.heap.size+1,1,none⟩ u1).setCell ⟨w.heap.size+1,2,none⟩ u2).setCell ⟨w.heap.size+1,3,none⟩ u3).setCell ⟨w.heap.size+1,4,none⟩ u4).setCell ⟨w.heap.size+1,5,none⟩ u5).cell? ⟨w.heap.size,0,none⟩=some (.bool b1)∧((((((W.setCell ⟨w.heap.size+1,0,none⟩ u0).setCell ⟨w.heap.size+1,1,none⟩ u1).setCell ⟨w.heap.size+1,2,none⟩ u2).setCell ⟨w.heap.size+1,3,none⟩ u3).setCell ⟨w.heap.size+1,4,none⟩ u4).setCell ⟨w.heap.size+1,5,none⟩ u5).cell? ⟨w.heap.size,1,none⟩=some (.slice a1 n1 k1)∧((((((W.setCell ⟨w.heap.size+1,0,none⟩ u0).setCell ⟨w.heap.size+1,1,none⟩ u1).setCell ⟨w.heap.size+1,2,none⟩ u2).setCell ⟨w.heap.size+1,3,none⟩ u3).setCell ⟨w.heap.size+1,4,none⟩ u4).setCell ⟨w.heap.size+1,5,none⟩ u5).cell? ⟨w.heap.size,2,none⟩=some (.int .i64 e1)∧((((((W.setCell ⟨w.heap.size+1,0,none⟩ u0).setCell ⟨w.heap.size+1,1,none⟩ u1).setCell ⟨w.heap.size+1,2,none⟩ u2).setCell ⟨w.heap.size+1,3,none⟩ u3).setCell ⟨w.heap.size+1,4,none⟩ u4).setCell ⟨w.heap.size+1,5,none⟩ u5).cell? ⟨w.heap.size,3,none⟩=some (.bool b2)∧((((((W.setCell ⟨w.heap.size+1,0,none⟩ u0).setCell ⟨w.heap.size+1,1,none⟩ u1).setCell ⟨w.heap.size+1,2,none⟩ u2).setCell ⟨w.heap.size+1,3,none⟩ u3).setCell ⟨w.heap.size+1,4,none⟩ u4).setCell ⟨w.heap.size+1,5,none⟩ u5).cell? ⟨w.heap.size,4,none⟩=some (.slice a2 n2 k2)∧((((((W.setCell ⟨w.heap.size+1,0,none⟩ u0).setCell ⟨w.heap.size+1,1,none⟩ u1).setCell ⟨w.heap.size+1,2,none⟩ u2).setCell ⟨w.heap.size+1,3,none⟩ u3).setCell ⟨w.heap.size+1,4,none⟩ u4).setCell ⟨w.heap.size+1,5,none⟩ u5).cell? ⟨w.heap.size,5,none⟩=some (.int .i64 e2) from (by
  obtain⟨x0,x1,x2,x3,x4,x5⟩:=hexa ((dt (g:=w.heap.size+1) (h:=w.heap.size) (by omega) u0 u1 u2 u3 u4 u5).trans (ac hg q0))
  exact⟨x0,x1,x2,x3,x4,x5⟩))
 have HZ:Hid (w0.drew.heap[w.heap.size+1]?=some (.cells #[.bool false,.slice none 0 0,.int .i64 0,.bool false,.slice none 0 0,.int .i64 0] 45)):=ab q9
 have HB:=ab hb0
 have g0:Below w0.heap.size w0 w0.drew:=be (Below.refl _ _)
 clear q0 q9 hb0
 go_enter Tryz.func8,Tryz.ntmps8
 go_upto_region 1 with fail
 go_region_held3 (fun w'=>w'.cell? ⟨w.heap.size,0,none⟩=some (.bool b1)∧w'.cell? ⟨w.heap.size,1,none⟩=some (.slice a1 n1 k1)∧w'.cell? ⟨w.heap.size,2,none⟩=some (.int .i64 e1)∧w'.cell? ⟨w.heap.size,3,none⟩=some (.bool b2)∧w'.cell? ⟨w.heap.size,4,none⟩=some (.slice a2 n2 k2)∧w'.cell? ⟨w.heap.size,5,none⟩=some (.int .i64 e2)) (first | (with_reducible exact KT.out _ g2 _ _ _ _ _ _) | (refine KS.out _ ?_;first|with_reducible exact g2|with_reducible exact g1|with_reducible exact g0)) (first
  | (go_at_call_of 22 a2;refine (K2.out _).mono ?_;rintro e' t2 ⟨rfl,hb2⟩;have g2:=ae g1 hb2;have hz:=ac hb2 (ac hb1 HZ.out);have hf:=av hz;obtain⟨m0,m1,m2,m3,m4,m5⟩:=hexa hz)
  | (go_at_call_of 22 a1;refine (K1.out _).mono ?_;rintro e' t1 ⟨rfl,hb1⟩;have g1:=ae g0 hb1))
 have T3:=aJ hz (.bool b1) (.slice a1 n1 k1) (.int .i64 e1) (.bool b2) (.slice a2 n2 k2) (.int .i64 e2)
 have T4:=aF (ae HB.out g2) (show w.heap.size≤w.heap.size+1 by omega) (.bool b1) (.slice a1 n1 k1) (.int .i64 e1) (.bool b2) (.slice a2 n2 k2) (.int .i64 e2)
 obtain⟨p0,p1,p2,p3,p4,p5⟩:=hexa T3
 have HE:=ab T4
 clear T3 T4 hz hf m0 m1 m2 m3 m4 m5 KS KT K1 K2 g0 g1 g2 hb1 hb2 HZ
 generalize ((((((t2.setCell ⟨w.heap.size+1,0,none⟩ (.bool b1)).setCell ⟨w.heap.size+1,1,none⟩ (.slice a1 n1 k1)).setCell ⟨w.heap.size+1,2,none⟩ (.int .i64 e1)).setCell ⟨w.heap.size+1,3,none⟩ (.bool b2)).setCell ⟨w.heap.size+1,4,none⟩ (.slice a2 n2 k2)).setCell ⟨w.heap.size+1,5,none⟩ (.int .i64 e2))=w5 at *
 go_wp2
 refine bodyPost_ret (v:=.agg #[.bool b1,.slice a1 n1 k1,.int .i64 e1,.bool b2,.slice a2 n2 k2,.int .i64 e2]) (by simp [results,Tryz.results8,go_sem,p0,p1,p2,p3,p4,p5]) rfl ?_
 exact⟨rfl,HE.out⟩

def cX (n:Nat)(w:World):Prop:=n≤w.heap.size

theorem cX.below {n:Nat}{w w':World}(h:cX n w)(hb:Below w.heap.size w w'):cX n w':=Nat.le_trans h hb.size

theorem cX.size {n:Nat}{w:World}(h:cX n w):n≤w.heap.size:=h

theorem lW {w:World}{e:Ending}{w':World}{fl:Int}{L:Nat}{V1 V2:Int}(h:bM w e w' fl L V1 V2)(h0:fl≠0)(U1 U2:Int):bM w e w' fl L U1 U2:=by
 obtain⟨⟨b1,a1,n1,k1,e1,b2,a2,n2,k2,e2,c,he,hs⟩,hb⟩:=h
 rcases hs with hs|⟨hz,_⟩
 ·exact⟨⟨b1,a1,n1,k1,e1,b2,a2,n2,k2,e2,c,he,.inl hs⟩,hb⟩
 ·exact absurd hz h0

end Go.Proofs.YtkfbobefkbpdoaaGreatDoor
