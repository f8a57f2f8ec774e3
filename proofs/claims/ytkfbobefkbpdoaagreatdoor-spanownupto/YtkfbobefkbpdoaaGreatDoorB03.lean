/- Package dyadic: isPosition, isZero, partOf, seen. -/
import Derived.Test.YtkfbobefkbpdoaaGreatDoorB01
import Derived.Test.YtkfbobefkbpdoaaGreatDoorB02
import Derived.Deep.RegionHeld3
set_option maxRecDepth 20000
set_option maxHeartbeats 2000000
namespace Go.Proofs.YtkfbobefkbpdoaaGreatDoor
open Go.RowKit
open Lm
attribute [local go_sem ↓] Go.wp_at_zero Go.wp_at_succ

theorem Ans.off8 {w:World}{base g o:Nat}{v u:Value}{zs:List Nat}{vs:Array Value}{t:TypeId}(h:Ans w base v zs)(hl:w.heap[g]?=some (.cells vs t))(ht:t≠51):Ans (w.setCell ⟨g,o,none⟩ u) base v zs:=by
 refine⟨?_,h.limbs⟩
 obtain⟨h1,h2⟩:=h.own
 refine⟨h1,?_⟩
 rcases h2 with h2|⟨g',cap,cur,hv,hg,hh,r⟩
 ·exact .inl h2
 ·refine .inr ⟨g',cap,cur,hv,hg,?_,r⟩
  rw [Below.heap_setCell _ _ _ _ ?_]
  ·exact hh
  ·rintro rfl
   rw [hh] at hl
   simp only [Option.some.injEq,Obj.cells.injEq] at hl
   exact ht hl.2.1.symm

theorem ay {w:World}{g:Nat}{a b c:Value}{t:TypeId}(h:w.heap[g]?=some (.cells #[a,b,c] t))(u0 u1 u2:Value):(((w.setCell ⟨g,0,none⟩ u0).setCell ⟨g,1,none⟩ u1).setCell ⟨g,2,none⟩ u2).heap[g]?=some (.cells #[u0,u1,u2] t):=
 az (az (az h u0) u1) u2

theorem tri8 {w:World}{g:Nat}{a b c:Value}{t:TypeId}(h:w.heap[g]?=some (.cells #[a,b,c] t)):w.cell? ⟨g,0,none⟩=some a∧w.cell? ⟨g,1,none⟩=some b∧w.cell? ⟨g,2,none⟩=some c:=⟨by simp [World.cell?,h],by simp [World.cell?,h],by simp [World.cell?,h]⟩

theorem ak {w:World}{g:Nat}{a b c:Value}{t:TypeId}(h:w.heap[g]?=some (.cells #[a,b,c] t)):∀k,w.frozen? ⟨g,k,none⟩=false:=fun k=>by simp [World.frozen?,h]

theorem Ans.tri8 {w:World}{base g:Nat}{v a0 a1 a2:Value}{zs:List Nat}{t:TypeId}(h:Ans w base v zs)(hl:w.heap[g]?=some (.cells #[a0,a1,a2] t))(ht:t≠51)(u0 u1 u2:Value):Ans (((w.setCell ⟨g,0,none⟩ u0).setCell ⟨g,1,none⟩ u1).setCell ⟨g,2,none⟩ u2) base v zs:=
 ((h.off8 hl ht).off8 (az hl u0) ht).off8 (az (az hl u0) u1) ht

theorem an {B:Nat}{w0 w:World}{g:Nat}(h:Below B w0 w)(hg:B≤g)(u0 u1 u2:Value):Below B w0 (((w.setCell ⟨g,0,none⟩ u0).setCell ⟨g,1,none⟩ u1).setCell ⟨g,2,none⟩ u2):=
 ((h.setCell (p:=⟨g,0,none⟩) hg u0).setCell (p:=⟨g,1,none⟩) hg u1).setCell (p:=⟨g,2,none⟩) hg u2

theorem aZ {w:World}{g k g' k':Nat}{u:Value}(h:g≠g'):(w.setCell ⟨g,k,none⟩ u).cell? ⟨g',k',none⟩=w.cell? ⟨g',k',none⟩:=by
 simp only [World.cell?];rw [Below.heap_setCell _ _ _ _ (Ne.symm h)]

theorem ae {W0 W t:World}(h:Below W0.heap.size W0 W)(h2:Below W.heap.size W t):Below W0.heap.size W0 t:=h.trans (h2.mono h.size)

def ah (n:Int):Bool:=decide (-1099511627776≤n) && decide (n≤1099511627776)

theorem aH (n:Int):ah n=true ↔ -1099511627776≤n∧n≤1099511627776:=by simp [ah]

theorem dM (n:Int)(w:World):Calls Tryz.prog 74 #[.int .i64 n] w fun e w'=>e=.returned (.bool (ah n))∧w'=w:=by
 by_cases h1:-1099511627776≤n
 ·have h1':decide (-1099511627776≤n)=true:=decide_eq_true h1
  by_cases h2:n≤1099511627776
  ·have h2':decide (n≤1099511627776)=true:=decide_eq_true h2
   rw [(aH n).2 ⟨h1,h2⟩]
   go_enter Tryz.func74,Tryz.ntmps74
   go_wp2
   go_ret
   exact⟨rfl,rfl⟩
  ·have h2':decide (n≤1099511627776)=false:=decide_eq_false h2
   have e:ah n=false:=by rw [←Bool.not_eq_true,aH];omega
   rw [e]
   go_enter Tryz.func74,Tryz.ntmps74
   go_wp2
   go_ret
   exact⟨rfl,rfl⟩
 ·have h1':decide (-1099511627776≤n)=false:=decide_eq_false h1
  have e:ah n=false:=by rw [←Bool.not_eq_true,aH];omega
  rw [e]
  go_enter Tryz.func74,Tryz.ntmps74
  go_wp2
  go_ret
  exact⟨rfl,rfl⟩

theorem bJ (b:Bool)(a:Option Addr)(n c:Nat)(w:World) :
  Calls Tryz.prog 102 #[.agg #[.bool b,.slice a n c]] w fun e w'=>e=.returned (.bool (decide (n=0)))∧Below w.heap.size w w':=by
 obtain⟨w0,hw0,hb0,h0⟩:=ag w (.cells #[.bool b,.slice a n c] 122)
 obtain⟨k0,k1⟩:=duo h0
 have HB:=ab hb0
 clear h0 hb0
 by_cases hn:n=0
 ·rw [decide_eq_true hn]
  have h2:((n:Int) == 0)=true:=by rw [beq_iff_eq];omega
  clear hn
  go_enter Tryz.func102,Tryz.ntmps102
  go_wp2
  go_ret
  exact⟨rfl,HB.out⟩
 ·rw [decide_eq_false hn]
  have h2:((n:Int) == 0)=false:=by rw [beq_eq_false_iff_ne];omega
  go_enter Tryz.func102,Tryz.ntmps102
  go_wp2
  go_ret
  exact⟨rfl,HB.out⟩

theorem iv (b:Bool)(a:Option Addr)(c:Nat)(X:List Nat)(w:World)(hA:Arg w (.slice a X.length c) X) :
  Calls Tryz.prog 75 #[.agg #[.bool b,.slice a X.length c]] w fun e w'=>e=.returned (.agg #[.bool b,.slice a (tr X).length c])∧Below w.heap.size w w':=by
 obtain⟨w0,hw0,hb0,h0,h1⟩:=al w (.cells #[.bool b,.slice a X.length c] 41) (.cells #[.bool false,.slice none 0 0] 122)
 obtain⟨a',c',e',T,_⟩:=hA.ytrim
 cases e'
 have gd:Below w.heap.size w w0.drew:=hb0.drew
 have g0:Below w0.drew.heap.size w0.drew w0.drew:=Below.refl _ _
 have HT:Calls Tryz.prog 95 #[.slice a X.length c] w0.drew fun e t=>e=.returned (.slice a (tr X).length c)∧Below w0.drew.heap.size w0.drew t:=(T w0.drew gd).mono fun e t h=>⟨h.1,by rw [h.2];exact Below.refl _ _⟩
 have KS:=ab (fun (W:World) (hg:Below w0.drew.heap.size w0.drew W)=>show W.cell? ⟨w.heap.size,0,none⟩=some (.bool b)∧W.cell? ⟨w.heap.size,1,none⟩=some (.slice a X.length c) from duo (ac hg (show w0.drew.heap[w.heap.size]?=some (.cells #[.bool b,.slice a X.length c] 41) from h0)))
 have so:∀(W:World) (k:Nat) (u:Value) (k':Nat),(W.setCell ⟨w.heap.size+1,k,none⟩ u).cell? ⟨w.heap.size,k',none⟩=W.cell? ⟨w.heap.size,k',none⟩:=fun W k u k'=>aZ (by omega)
 have H1:=ab (show w0.drew.heap[w.heap.size+1]?=some (.cells #[.bool false,.slice none 0 0] 122) from h1)
 have HB:=ab gd
 clear hA h0 h1 hb0 T gd
 go_enter Tryz.func75,Tryz.ntmps75
 go_wp2
 go_region_held3 (fun w'=>w'.cell? ⟨w.heap.size,0,none⟩=some (.bool b)∧w'.cell? ⟨w.heap.size,1,none⟩=some (.slice a X.length c)) (first|with_reducible exact KS.out _ g1|with_reducible exact KS.out _ g0 | (refine⟨?_,?_⟩ <;> (rw [so,so];first|exact (KS.out _ g1).1|exact (KS.out _ g1).2))) (first
  | (go_at_call 95;refine HT.mono ?_;rintro e' t1 ⟨rfl,g1⟩;have hz:=ac g1 H1.out;have hf:=aB hz;obtain⟨m0,m1⟩:=duo hz))
 have T3:=aP hz (a':=.bool b) (b':=.slice a (tr X).length c)
 have T4:=aO (ae HB.out g1) (g:=w.heap.size+1) (u0:=.bool b) (u1:=.slice a (tr X).length c) (by omega)
 obtain⟨p0,p1⟩:=duo T3
 have HE:=ab T4
 clear T3 T4 so m0 m1 hf KS g0 g1 HT hz
 generalize (t1.setCell ⟨w.heap.size+1,0,none⟩ (.bool b)).setCell ⟨w.heap.size+1,1,none⟩ (.slice a (tr X).length c)=w5 at *
 go_wp2
 refine bodyPost_ret (v:=.agg #[.bool b,.slice a (tr X).length c]) (by simp [results,Tryz.results75,go_sem,p0,p1]) rfl ?_
 exact⟨rfl,HE.out⟩

theorem eH (b:Bool)(a:Option Addr)(c:Nat)(X:List Nat)(ex:Int)(w:World)(hA:Arg w (.slice a X.length c) X)(hE:ah ex=true) :
  Calls Tryz.prog 93 #[.agg #[.bool b,.slice a X.length c,.int .i64 ex]] w fun e w'=>e=.returned (.tuple #[.agg #[.bool b,.slice a (tr X).length c,.int .i64 ex],.int .i64 0])∧Below w.heap.size w w':=by
 obtain⟨w0,hw0,hb0,h0,h1⟩:=al w (.cells #[.bool b,.slice a X.length c,.int .i64 ex] 43) (.cells #[.bool false,.slice none 0 0,.int .i64 0] 125)
 obtain⟨k0,k1,k2⟩:=tri8 h0
 have HP:=dM ex w0
 rw [hE] at HP
 have gd:Below w.heap.size w w0.drew:=hb0.drew
 have g0:Below w0.drew.heap.size w0.drew w0.drew:=Below.refl _ _
 have HT:=iv b a c X w0.drew (hA.below gd)
 have KS:=ab (fun (W:World) (hg:Below w0.drew.heap.size w0.drew W)=>show W.cell? ⟨w.heap.size,0,none⟩=some (.bool b)∧W.cell? ⟨w.heap.size,1,none⟩=some (.slice a X.length c)∧W.cell? ⟨w.heap.size,2,none⟩=some (.int .i64 ex) from tri8 (ac hg (show w0.drew.heap[w.heap.size]?=some (.cells #[.bool b,.slice a X.length c,.int .i64 ex] 43) from h0)))
 have so:∀(W:World) (k:Nat) (u:Value) (k':Nat),(W.setCell ⟨w.heap.size+1,k,none⟩ u).cell? ⟨w.heap.size,k',none⟩=W.cell? ⟨w.heap.size,k',none⟩:=fun W k u k'=>aZ (by omega)
 have H1:=ab (show w0.drew.heap[w.heap.size+1]?=some (.cells #[.bool false,.slice none 0 0,.int .i64 0] 125) from h1)
 have HB:=ab gd
 clear hA h0 h1 hb0 gd hE
 go_enter Tryz.func93,Tryz.ntmps93
 go_wp2_with fail
 refine HP.mono ?_
 rintro e wn ⟨rfl,hw⟩;rw [hw];clear hw wn HP
 go_wp2
 go_region_held3 (fun w'=>w'.cell? ⟨w.heap.size,0,none⟩=some (.bool b)∧w'.cell? ⟨w.heap.size,1,none⟩=some (.slice a X.length c)∧w'.cell? ⟨w.heap.size,2,none⟩=some (.int .i64 ex)) (first|with_reducible exact KS.out _ g1|with_reducible exact KS.out _ g0 | (refine⟨?_,?_,?_⟩ <;> (rw [so,so,so];first|exact (KS.out _ g1).1|exact (KS.out _ g1).2.1|exact (KS.out _ g1).2.2))) (first
  | (go_at_call 75;refine HT.mono ?_;rintro e' t1 ⟨rfl,g1⟩;have hz:=ac g1 H1.out;have hf:=ak hz;obtain⟨m0,m1,m2⟩:=tri8 hz))
 have T3:=ay hz (.bool b) (.slice a (tr X).length c) (.int .i64 ex)
 have T4:=an (ae HB.out g1) (show w.heap.size≤w.heap.size+1 by omega) (.bool b) (.slice a (tr X).length c) (.int .i64 ex)
 obtain⟨p0,p1,p2⟩:=tri8 T3
 have HE:=ab T4
 clear T3 T4 so m0 m1 m2 hf KS g0 g1 HT hz k0 k1 k2
 generalize ((t1.setCell ⟨w.heap.size+1,0,none⟩ (.bool b)).setCell ⟨w.heap.size+1,1,none⟩ (.slice a (tr X).length c)).setCell ⟨w.heap.size+1,2,none⟩ (.int .i64 ex)=w5 at *
 go_wp2
 refine bodyPost_ret (v:=.tuple #[.agg #[.bool b,.slice a (tr X).length c,.int .i64 ex],.int .i64 0]) (by simp [results,Tryz.results93,go_sem,p0,p1,p2]) rfl ?_
 exact⟨rfl,HE.out⟩

theorem iR (b:Bool)(a:Option Addr)(n c:Nat)(ex:Int)(w:World)(hE:ah ex=false) :
  Calls Tryz.prog 93 #[.agg #[.bool b,.slice a n c,.int .i64 ex]] w fun e w'=>e=.returned (.tuple #[.agg #[.bool false,.slice none 0 0,.int .i64 0],.int .i64 80])∧Below w.heap.size w w':=by
 obtain⟨w0,hw0,hb0,h0,h1⟩:=al w (.cells #[.bool b,.slice a n c,.int .i64 ex] 43) (.cells #[.bool false,.slice none 0 0,.int .i64 0] 125)
 obtain⟨k0,k1,k2⟩:=tri8 h0
 have HP:=dM ex w0
 rw [hE] at HP
 have hf:=ak h1
 obtain⟨m0,m1,m2⟩:=tri8 h1
 have H1:=ab h1
 have HB:=ab hb0
 clear h0 h1 hb0 hE
 go_enter Tryz.func93,Tryz.ntmps93
 go_wp2_with fail
 refine HP.mono ?_
 rintro e wn ⟨rfl,hw⟩;rw [hw];clear hw wn HP
 go_wp2
 have T3:=ay H1.out (.bool false) (.slice none 0 0) (.int .i64 0)
 have T4:=an HB.out (show w.heap.size≤w.heap.size+1 by omega) (.bool false) (.slice none 0 0) (.int .i64 0)
 obtain⟨p0,p1,p2⟩:=tri8 T3
 have HE:=ab T4
 clear T3 T4
 generalize ((w0.setCell ⟨w.heap.size+1,0,none⟩ (.bool false)).setCell ⟨w.heap.size+1,1,none⟩ (.slice none 0 0)).setCell ⟨w.heap.size+1,2,none⟩ (.int .i64 0)=w5 at *
 refine bodyPost_ret (v:=.tuple #[.agg #[.bool false,.slice none 0 0,.int .i64 0],.int .i64 80]) (by simp [results,Tryz.results93,go_sem,p0,p1,p2]) rfl ?_
 exact⟨rfl,HE.out⟩

structure Nm (w:World)(b:Bool)(v:Value)(X:List Nat)(z:Int):Prop where
 arg:Arg w v X
 norm:tr X=X
 val:zz b (Lm.val X)=z

theorem Nm.below {w w':World}{b:Bool}{v:Value}{X:List Nat}{z:Int}(h:Nm w b v X z)(hb:Below w.heap.size w w'):Nm w' b v X z:=⟨h.arg.below hb,h.norm,h.val⟩

theorem qb (b:Bool)(a:Option Addr)(c:Nat)(ex:Int)(w:World) :
  Calls Tryz.prog 96 #[.agg #[.bool b,.slice a 0 c,.int .i64 ex]] w fun e w'=>e=.returned (.agg #[.bool false,.slice none 0 0,.int .i64 0])∧Below w.heap.size w w':=by
 obtain⟨w0,hw0,hb0,h0,h1⟩:=al w (.cells #[.bool b,.slice a 0 c,.int .i64 ex] 125) (.cells #[.bool false,.slice none 0 0,.int .i64 0] 125)
 obtain⟨k0,k1,k2⟩:=tri8 h0
 have HP:=bJ b a 0 c w0
 rw [decide_eq_true rfl] at HP
 have H1:=ab h1
 have HB:=ab hb0
 clear h0 h1 hb0
 go_enter Tryz.func96,Tryz.ntmps96
 go_wp2_with fail
 refine HP.mono ?_
 rintro e t1 ⟨rfl,g1⟩
 have hz:=ac g1 H1.out
 have hf:=ak hz
 obtain⟨m0,m1,m2⟩:=tri8 hz
 have HZ:=ab hz
 have HG:=ab (ae HB.out g1)
 clear hz g1 HP k0 k1 k2
 go_wp2
 have T3:=ay HZ.out (.bool false) (.slice none 0 0) (.int .i64 0)
 have T4:=an HG.out (show w.heap.size≤w.heap.size+1 by omega) (.bool false) (.slice none 0 0) (.int .i64 0)
 obtain⟨p0,p1,p2⟩:=tri8 T3
 have HE:=ab T4
 clear T3 T4
 generalize ((t1.setCell ⟨w.heap.size+1,0,none⟩ (.bool false)).setCell ⟨w.heap.size+1,1,none⟩ (.slice none 0 0)).setCell ⟨w.heap.size+1,2,none⟩ (.int .i64 0)=w5 at *
 refine bodyPost_ret (v:=.agg #[.bool false,.slice none 0 0,.int .i64 0]) (by simp [results,Tryz.results96,go_sem,p0,p1,p2]) rfl ?_
 exact⟨rfl,HE.out⟩

theorem aC.box8 {w:World}{ao:Option Addr}{zs:List Nat}{g o:Nat}{p:Bool}{a:Option Addr}{n c:Nat}{e:Int}{t:TypeId}{u:Value}(h:aC w ao zs)(hl:w.heap[g]?=some (.cells #[.bool p,.slice a n c,.int .i64 e] t)):aC (w.setCell ⟨g,o,none⟩ u) ao zs:=by
 rcases h with h|⟨b,off,rfl,hc⟩
 ·exact .inl h
 ·rcases Nat.eq_zero_or_pos zs.length with h0|h0
  ·exact .inl (List.eq_nil_of_length_eq_zero h0)
  ·refine .inr ⟨b,off,rfl,fun k hk=>?_⟩
   rw [aZ]
   ·exact hc k hk
   ·rintro rfl
    have h1:=hc 0 h0
    rw [Nat.add_zero] at h1
    simp only [World.cell?,hl] at h1
    match off,h1 with
    | 0,h1=>simp at h1
    | 1,h1=>simp at h1
    | 2,h1=>simp at h1
    | k+3,h1=>simp at h1

theorem Arg.box8 {w:World}{v:Value}{zs:List Nat}{g o:Nat}{p:Bool}{a:Option Addr}{n c:Nat}{e:Int}{t:TypeId}{u:Value}(h:Arg w v zs)(hl:w.heap[g]?=some (.cells #[.bool p,.slice a n c,.int .i64 e] t)):Arg (w.setCell ⟨g,o,none⟩ u) v zs:=by
 obtain⟨ao,cap,h1,h2,h3,h4⟩:=h.form
 exact⟨⟨ao,cap,h1,h2,h3,h4.box8 hl⟩,h.limbs,h.few,h.nz⟩

theorem Arg.tri8 {w:World}{v:Value}{zs:List Nat}{g:Nat}{p:Bool}{a:Option Addr}{n c:Nat}{e:Int}{t:TypeId}(h:Arg w v zs)(hl:w.heap[g]?=some (.cells #[.bool p,.slice a n c,.int .i64 e] t))(p1:Bool)(a1:Option Addr)(n1 c1:Nat)(u2:Value):Arg (((w.setCell ⟨g,0,none⟩ (.bool p1)).setCell ⟨g,1,none⟩ (.slice a1 n1 c1)).setCell ⟨g,2,none⟩ u2) v zs:=
 ((h.box8 hl).box8 (az hl (.bool p1))).box8 (az (az hl (.bool p1)) (.slice a1 n1 c1))

theorem Nm.tri8 {w:World}{b:Bool}{v:Value}{X:List Nat}{z:Int}{g:Nat}{p:Bool}{a:Option Addr}{n c:Nat}{e:Int}{t:TypeId}(h:Nm w b v X z)(hl:w.heap[g]?=some (.cells #[.bool p,.slice a n c,.int .i64 e] t))(p1:Bool)(a1:Option Addr)(n1 c1:Nat)(u2:Value):Nm (((w.setCell ⟨g,0,none⟩ (.bool p1)).setCell ⟨g,1,none⟩ (.slice a1 n1 c1)).setCell ⟨g,2,none⟩ u2) b v X z:=
 ⟨h.arg.tri8 hl p1 a1 n1 c1 u2,h.norm,h.val⟩

def qC (w:World)(M E:Int)(e:Ending)(w':World):Prop:=
 (∃b a n k X,e=.returned (.agg #[.bool b,.slice a n k,.int .i64 E])∧n=X.length∧Nm w' b (.slice a n k) X M∧(X=[]→b=false))∧Below w.heap.size w w'

theorem Nm.zero (w:World)(b:Bool):Nm w b (.slice none 0 0) [] 0:=⟨⟨⟨none,0,rfl,by simp,by simp,.inl rfl⟩,(by intro z hz;cases hz),by simp,fun n c e=>by cases e;rfl⟩,rfl,by cases b <;> rfl⟩

theorem Nm.len {w:World}{b:Bool}{v:Value}{X:List Nat}{z:Int}(h:Nm w b v X z)(n:Nat)(hb:blen z.natAbs≤n*64):X.length≤n:=by
 refine bu h.norm (x:=z.natAbs) ?_ hb
 rw [←h.val,aV]

theorem Nm.abs {w:World}{b:Bool}{v:Value}{X:List Nat}{z:Int}(h:Nm w b v X z):Lm.val X=z.natAbs:=by rw [←h.val,aV]

theorem jT (b:Bool)(a:Option Addr)(c:Nat)(X:List Nat)(z ex:Int)(w:World)(hN:Nm w b (.slice a X.length c) X z)(hT:Tab w)(h1:-2305843009213693952≤ex)(h2:ex≤2305843009213693952)(hf:X.length≤35184372088800) :
  Calls Tryz.prog 96 #[.agg #[.bool b,.slice a X.length c,.int .i64 ex]] w (qC w (omz z) (oe z ex)):=by
 by_cases hx:val X=0
 ·have e0:X=[]:=val_zero hN.norm hx
  subst e0
  have hz:z=0:=by rw [←hN.val,hx];exact fL b
  subst hz
  refine (qb b a c ex w).mono ?_
  rintro e w' ⟨rfl,hb⟩
  refine⟨⟨false,none,0,0,[],?_,rfl,?_,fun _=>rfl⟩,hb⟩
  ·simp [oe]
  ·rw [bC];exact Nm.zero _ _
 ·have hXl:0<X.length:=by
   rcases Nat.eq_zero_or_pos X.length with h|h
   ·rw [List.eq_nil_of_length_eq_zero h] at hx;exact absurd rfl hx
   ·exact h
  obtain⟨w0,hw0,hb0,h0,h1'⟩:=al w (.cells #[.bool b,.slice a X.length c,.int .i64 ex] 125) (.cells #[.bool false,.slice none 0 0,.int .i64 0] 125)
  obtain⟨k0,k1,k2⟩:=tri8 h0
  have HP:=bJ b a X.length c w0
  rw [decide_eq_false (by omega)] at HP
  have hom:omz z=zz b (od (val X)):=by rw [←hN.val,ph]
  have hoe:oe z ex=ex+(tl (val X):Int):=by rw [←hN.val,sk,if_neg hx]
  have H0:=ab h0
  have H1:=ab h1'
  have HB:=ab hb0
  have HN:=ab hN
  have HTB:=ab hT
  have HO:=ab (And.intro hom hoe)
  have HX:=ab hx
  clear h0 h1' hb0 hN hT hom hoe hx
  go_enter Tryz.func96,Tryz.ntmps96
  go_wp2_with fail
  refine HP.mono ?_
  rintro e t1 ⟨rfl,g1⟩
  have G1:=ae HB.out g1
  have HT:=nV _ X t1 (HN.out.arg.below G1) (HTB.out.below G1)
  have c0:=ac g1 H0.out
  have c1:=ac g1 H1.out
  obtain⟨k0,k1,k2⟩:=tri8 c0
  have hf0:=ak c0
  have hf1:=ak c1
  obtain⟨m0,m1,m2⟩:=tri8 c1
  have HC0:=ab c0
  have HC1:=ab c1
  have HG:=ab G1
  clear HP c0 c1 g1 G1 H0 H1 HB
  go_wp2_with fail
  refine HT.mono ?_
  rintro e wn ⟨⟨t,htl,rfl,_,ht⟩,hw⟩;rw [hw];clear hw wn HT
  have htt:=gF (ht HX.out)
  have HTT:=ab (ht HX.out)
  clear ht
  by_cases ht0:t=0
  ·subst ht0
   have hod:od (val X)=val X:=by unfold od;rw [htt];simp
   obtain⟨hom,hoe⟩:=HO.out
   rw [hod] at hom
   rw [htt] at hoe
   have hoe2:oe z ex=ex:=by rw [hoe];simp
   have HR:=ab (And.intro hom hoe2)
   clear hom hoe hoe2 hod htt
   go_wp2
   have T3:=ay HC1.out (.bool b) (.slice a X.length c) (.int .i64 ex)
   have T4:=an HG.out (show w.heap.size≤w.heap.size+1 by omega) (.bool b) (.slice a X.length c) (.int .i64 ex)
   obtain⟨p0,p1,p2⟩:=tri8 T3
   have HE:=ab T4
   clear T3 T4
   generalize ((t1.setCell ⟨w.heap.size+1,0,none⟩ (.bool b)).setCell ⟨w.heap.size+1,1,none⟩ (.slice a X.length c)).setCell ⟨w.heap.size+1,2,none⟩ (.int .i64 ex)=w5 at *
   refine bodyPost_ret (v:=.agg #[.bool b,.slice a X.length c,.int .i64 ex]) (by simp [results,Tryz.results96,go_sem,p0,p1,p2]) rfl ?_
   refine⟨⟨b,a,X.length,c,X,by rw [HR.out.2],rfl,⟨HN.out.arg.below HE.out,HN.out.norm,by rw [HR.out.1]⟩,fun h=>?_⟩,HE.out⟩
   rw [h] at hXl;simp at hXl
  ·have i1:(0:Int)<(t:Int):=by omega
   have w1:IntKind.i64.wrap (-(t:Int))=-(t:Int):=by rw [IntKind.wrap_i64];omega
   have w2:IntKind.i64.wrap (ex+(t:Int))=ex+(t:Int):=by rw [IntKind.wrap_i64];omega
   have hbx:blen (val X)≤64*X.length:=by rw [blen_le_iff,Nat.mul_comm,←W_pow];exact val_lt HN.out.arg.limbs
   have HS:=eZ _ X (-(t:Int)) t1 (HN.out.arg.below HG.out) (by omega) (by omega) (by omega) HX.out
   rw [fl_down] at HS
   have hod:od (val X)=val X / 2 ^ t:=by unfold od;rw [htt]
   obtain⟨hom,hoe⟩:=HO.out
   rw [hod] at hom
   rw [htt] at hoe
   have HR:=ab (And.intro hom hoe)
   have HOD:=ab hod
   clear hom hoe hod htt hbx HO
   generalize hmt:-(t:Int)=mt at *
   have hmt2:-(t:Int)=mt:=hmt
   clear hmt
   generalize hs:ex+(t:Int)=s at *
   have hs2:ex+(t:Int)=s:=hs
   clear hs
   go_wp2_with fail
   refine HS.mono ?_
   rintro e t2 ⟨⟨a2,n2,c2,rs,rfl,A2,hn2,v2,r2⟩,g2⟩
   have c0:=ac g2 HC0.out
   have c1:=ac g2 HC1.out
   obtain⟨k0,k1,k2⟩:=tri8 c0
   have hf0:=ak c0
   have hf1:=ak c1
   obtain⟨m0,m1,m2⟩:=tri8 c1
   have d0:=az (k:=1) c0 (.slice a2 n2 c2)
   have d1:=az (k:=2) d0 (.int .i64 s)
   have d0':(t2.setCell ⟨w.heap.size,1,none⟩ (.slice a2 n2 c2)).heap[w.heap.size]?=some (.cells #[.bool b,.slice a2 n2 c2,.int .i64 ex] 125):=d0
   have d1':((t2.setCell ⟨w.heap.size,1,none⟩ (.slice a2 n2 c2)).setCell ⟨w.heap.size,2,none⟩ (.int .i64 s)).heap[w.heap.size]?=some (.cells #[.bool b,.slice a2 n2 c2,.int .i64 s] 125):=d1
   have e1:((t2.setCell ⟨w.heap.size,1,none⟩ (.slice a2 n2 c2)).setCell ⟨w.heap.size,2,none⟩ (.int .i64 s)).heap[w.heap.size+1]?=some (.cells #[.bool false,.slice none 0 0,.int .i64 0] 125):=by
    rw [Below.heap_setCell _ _ _ _ (by simp),Below.heap_setCell _ _ _ _ (by simp)];exact c1
   have A3:=(A2.off8 (o:=1) (u:=.slice a2 n2 c2) c0 (by decide)).off8 (o:=2) (u:=.int .i64 s) d0' (by decide)
   have G3:Below w.heap.size w ((t2.setCell ⟨w.heap.size,1,none⟩ (.slice a2 n2 c2)).setCell ⟨w.heap.size,2,none⟩ (.int .i64 s)):=((ae HG.out g2).setCell (p:=⟨w.heap.size,1,none⟩) (Nat.le_refl _) _).setCell (p:=⟨w.heap.size,2,none⟩) (Nat.le_refl _) _
   have HA3:=ab A3
   have HG3:=ab G3
   have HE1:=ab e1
   have hsz:=HG.out.size
   have HSZ:=ab hsz
   have HV:=ab (And.intro hn2 (And.intro v2 r2))
   obtain⟨q0,q1,q2⟩:=tri8 d1'
   obtain⟨r0,r1,r2'⟩:=tri8 d0'
   have hfe:=ak e1
   have hfd:=ak d0'
   obtain⟨u0,u1,u2⟩:=tri8 e1
   clear c0 c1 d0 d1 d0' d1' e1 A2 A3 G3 g2 hsz HS hn2 v2 r2
   go_wp2
   have T3:=ay HE1.out (.bool b) (.slice a2 n2 c2) (.int .i64 s)
   have T4:=an HG3.out (show w.heap.size≤w.heap.size+1 by omega) (.bool b) (.slice a2 n2 c2) (.int .i64 s)
   have T5:=HA3.out.tri8 HE1.out (by decide) (.bool b) (.slice a2 n2 c2) (.int .i64 s)
   obtain⟨p0,p1,p2⟩:=tri8 T3
   have HE:=ab (And.intro T4 T5)
   clear T3 T4 T5
   generalize ((((t2.setCell ⟨w.heap.size,1,none⟩ (.slice a2 n2 c2)).setCell ⟨w.heap.size,2,none⟩ (.int .i64 s)).setCell ⟨w.heap.size+1,0,none⟩ (.bool b)).setCell ⟨w.heap.size+1,1,none⟩ (.slice a2 n2 c2)).setCell ⟨w.heap.size+1,2,none⟩ (.int .i64 s)=w5 at *
   refine bodyPost_ret (v:=.agg #[.bool b,.slice a2 n2 c2,.int .i64 s]) (by simp [results,Tryz.results96,go_sem,p0,p1,p2]) rfl ?_
   obtain⟨hn2,v2,r2⟩:=HV.out
   have hrl:rs.length≤1125899906842624:=by
    have hle:=cJ (val X)
    rw [HOD.out,←v2] at hle
    have h5:=blen_mono hle
    have h6:blen (val X)≤64*X.length:=by rw [blen_le_iff,Nat.mul_comm,←W_pow];exact val_lt HN.out.arg.limbs
    have:=bu r2 rfl (n:=X.length) (by omega)
    omega
   refine⟨⟨b,a2,n2,c2,rs,by rw [HR.out.2],hn2,⟨HE.out.2.arg hrl,r2,by rw [HR.out.1,v2]⟩,fun h=>?_⟩,HE.out.1⟩
   exfalso
   rw [h] at v2
   have h7:=jk HX.out
   rw [HOD.out,←v2] at h7
   exact h7 rfl

theorem nY (b:Bool)(v:Value)(X:List Nat)(w:World)(hA:Arg w v X)(hbl:¬blen (val X)≤67108864) :
  Calls Tryz.prog 97 #[.bool b,v] w fun e w'=>ep w' w.heap.size e (zz b (val X))∧Below w.heap.size w w':=by
 obtain⟨w0,hw0,hb0,h0⟩:=ag w (.cells #[.bool false,.slice none 0 0] 41)
 have hf0:=aB h0
 obtain⟨k0,k1⟩:=duo h0
 have L:=cO v X w0 (hA.below hb0)
 have HB0:=ab hb0
 have HX0:=ab h0
 obtain⟨a,n,rfl,_,_,_⟩:=hA.form
 clear hA hb0 h0
 have i1:(67108864:Int)<((blen (val X):Nat):Int):=by omega
 have HL:=ab hbl
 generalize hl:blen (val X)=l at *
 clear hbl
 go_enter Tryz.func97,Tryz.ntmps97
 go_wp2_with fail
 refine L.mono ?_
 rintro e wn ⟨rfl,hw⟩;rw [hw];clear hw wn L
 go_wp2
 have R5:=aP HX0.out (a':=.bool false) (b':=.slice none 0 0)
 have HD:=ab (aO HB0.out (g:=w.heap.size) (u0:=.bool false) (u1:=.slice none 0 0) (Nat.le_refl _))
 generalize (w0.setCell ⟨w.heap.size,0,none⟩ (.bool false)).setCell ⟨w.heap.size,1,none⟩ (.slice none 0 0)=w5 at *
 obtain⟨q0,q1⟩:=duo R5
 refine bodyPost_ret (v:=.tuple #[.agg #[.bool false,.slice none 0 0],.int .i64 3]) (by simp [results,Tryz.results97,go_sem,q0,q1]) rfl ?_
 exact⟨⟨_,_,_,_,3,rfl,[],Ans.nil _ _,.inr ⟨rfl,rfl,rfl,rfl,by rw [aV,hl];have:=HL.out;omega⟩⟩,HD.out⟩

theorem oY (b:Bool)(v:Value)(X:List Nat)(w:World)(hA:Arg w v X)(ht:tr X=X) :
  Calls Tryz.prog 97 #[.bool b,v] w fun e w'=>ep w' w.heap.size e (zz b (val X))∧Below w.heap.size w w':=by
 by_cases hbl:blen (val X)≤67108864
 ·exact nW b v X w hA (by have:=bu ht rfl (n:=1048576) (by omega);omega)
 ·exact nY b v X w hA hbl

def DR (w:World)(base:Nat)(b:Bool)(va:Value)(ex c M E:Int):Prop:=
 ∃rs,Ans w base va rs∧((c=0∧b=decide (M<0)∧val rs=M.natAbs∧tr rs=rs∧ex=E∧blen M.natAbs≤67108864∧ah E=true) ∨
  (c=3∧b=false∧va=.slice none 0 0∧ex=0∧rs=[]∧67108864<blen M.natAbs) ∨
  (c=80∧b=false∧va=.slice none 0 0∧ex=0∧rs=[]∧blen M.natAbs≤67108864∧ah E=false))

def aT (w:World)(base:Nat)(e:Ending)(M E:Int):Prop:=∃b a n k ex c,e=.returned (.tuple #[.agg #[.bool b,.slice a n k,.int .i64 ex],.int .i64 c])∧DR w base b (.slice a n k) ex c M E

theorem DR.below {w w':World}{base:Nat}{b:Bool}{va:Value}{ex c M E:Int}(h:DR w base b va ex c M E)(hb:Below w.heap.size w w'):DR w' base b va ex c M E:=by
 obtain⟨rs,h1,h2⟩:=h
 exact⟨rs,h1.below hb,h2⟩

theorem DR.base {w:World}{base base':Nat}{b:Bool}{va:Value}{ex c M E:Int}(h:DR w base b va ex c M E)(hb:base'≤base):DR w base' b va ex c M E:=by
 obtain⟨rs,h1,h2⟩:=h
 exact⟨rs,h1.base hb,h2⟩

theorem DR.tri8 {w:World}{base g:Nat}{b:Bool}{va a0 a1 a2:Value}{ex c M E:Int}{t:TypeId}(h:DR w base b va ex c M E)(hl:w.heap[g]?=some (.cells #[a0,a1,a2] t))(ht:t≠51)(u0 u1 u2:Value):DR (((w.setCell ⟨g,0,none⟩ u0).setCell ⟨g,1,none⟩ u1).setCell ⟨g,2,none⟩ u2) base b va ex c M E:=by
 obtain⟨rs,h1,h2⟩:=h
 exact⟨rs,h1.tri8 hl ht u0 u1 u2,h2⟩

theorem dv (z ex:Int)(h:blen z.natAbs≤2251799813685248):oe z ex=0∨(ex≤oe z ex∧oe z ex≤ex+2251799813685248):=by
 unfold oe
 split
 ·exact .inl rfl
 ·have:=eB z.natAbs
  exact .inr (by omega)

theorem hU (b:Bool)(a:Option Addr)(c:Nat)(X:List Nat)(z ex:Int)(w:World)(hN:Nm w b (.slice a X.length c) X z)(hT:Tab w)(h1:-2305843009213693952≤ex)(h2:ex≤2305843009213693952)(hf:X.length≤35184372088800) :
  Calls Tryz.prog 76 #[.agg #[.bool b,.slice a X.length c,.int .i64 ex]] w fun e w'=>aT w' w.heap.size e (omz z) (oe z ex)∧Below w.heap.size w w':=by
 obtain⟨w0,hw0,hb0,h0,h1'⟩:=al w (.cells #[.bool b,.slice a X.length c,.int .i64 ex] 125) (.cells #[.bool false,.slice none 0 0,.int .i64 0] 43)
 obtain⟨k0,k1,k2⟩:=tri8 h0
 have HN:=jT b a c X z ex w0 (hN.below hb0) (hT.below hb0) h1 h2 hf
 have hbz:blen z.natAbs≤64*X.length:=by
  rw [←hN.abs,blen_le_iff,Nat.mul_comm,←W_pow];exact val_lt hN.arg.limbs
 have HOE:=ab (dv z ex (by omega))
 have H0:=ab h0
 have H1:=ab h1'
 have HB:=ab hb0
 clear h0 h1' hb0 hN hT hbz
 generalize omz z=M at *
 generalize oe z ex=E at *
 go_enter Tryz.func76,Tryz.ntmps76
 go_wp2_with fail
 refine HN.mono ?_
 rintro e t1 ⟨⟨b1,a1,n1,c1,X1,rfl,rfl,N1,hb1⟩,g1⟩
 have c0:=ac g1 H0.out
 have c1':=ac g1 H1.out
 have hf0:=ak c0
 obtain⟨k0,k1,k2⟩:=tri8 c0
 have d0:=ay c0 (.bool b1) (.slice a1 X1.length c1) (.int .i64 E)
 have G1:Below w.heap.size w (((t1.setCell ⟨w.heap.size,0,none⟩ (.bool b1)).setCell ⟨w.heap.size,1,none⟩ (.slice a1 X1.length c1)).setCell ⟨w.heap.size,2,none⟩ (.int .i64 E)):=an (ae HB.out g1) (Nat.le_refl _) _ _ _
 have d1:(((t1.setCell ⟨w.heap.size,0,none⟩ (.bool b1)).setCell ⟨w.heap.size,1,none⟩ (.slice a1 X1.length c1)).setCell ⟨w.heap.size,2,none⟩ (.int .i64 E)).heap[w.heap.size+1]?=some (.cells #[.bool false,.slice none 0 0,.int .i64 0] 43):=by
  rw [Below.heap_setCell _ _ _ _ (by simp),Below.heap_setCell _ _ _ _ (by simp),Below.heap_setCell _ _ _ _ (by simp)];exact c1'
 have NA:=N1.tri8 c0 b1 a1 X1.length c1 (.int .i64 E)
 have hzz:=N1.val
 have HM:=oY b1 _ X1 _ NA.arg NA.norm
 rw [hzz] at HM
 have hfd:=ak d0
 obtain⟨q0,q1,q2⟩:=tri8 d0
 have HD0:=ab d0
 have HD1:=ab d1
 have HG1:=ab G1
 clear c0 c1' d0 d1 G1 NA N1 hb1 g1 HN hzz H0 H1 HB
 go_wp2_with fail
 generalize ((t1.setCell ⟨w.heap.size,0,none⟩ (.bool b1)).setCell ⟨w.heap.size,1,none⟩ (.slice a1 X1.length c1)).setCell ⟨w.heap.size,2,none⟩ (.int .i64 E)=t2 at *
 refine HM.mono ?_
 rintro e t3 ⟨⟨b3,a3,n3,c3,r3,rfl,hzr⟩,g3⟩
 have G3:=ae HG1.out g3
 obtain⟨w4,hw4,hb4,h4⟩:=ag t3 (.cells #[.bool b3,.slice a3 n3 c3] 41)
 have G4:=ae G3 hb4
 have c0:=ac hb4 (ac g3 HD0.out)
 have c1:=ac hb4 (ac g3 HD1.out)
 have hfe:=ak c1
 obtain⟨k0,k1,k2⟩:=tri8 c0
 obtain⟨m0,m1,m2⟩:=tri8 c1
 obtain⟨l0,l1⟩:=duo h4
 have HP:=dM E w4
 have HC1:=ab c1
 have HG:=ab G4
 have hsz:=HG1.out.size
 have ZR4:=(hzr.below hb4).base hsz
 clear c0 c1 g3 G3 G4 h4 hb4 HM hzr hsz
 obtain⟨rs,hans,hcase⟩:=ZR4
 rcases hcase with ⟨rfl,hb3,hv3,ht3,hbl3⟩|⟨rfl,hb3,hv3,hr3,hbl3⟩
 ·by_cases hfit:ah E=true
  ·rw [hfit] at HP
   have DRX:DR w4 w.heap.size b3 (.slice a3 n3 c3) E 0 M E:=⟨rs,hans,.inl ⟨rfl,hb3,hv3,ht3,rfl,hbl3,hfit⟩⟩
   have HDR:=ab DRX
   clear DRX hans hb3 hv3 ht3 hbl3 hfit
   go_wp2_with fail
   refine HP.mono ?_
   rintro e wn ⟨rfl,hw⟩;rw [hw];clear hw wn HP
   go_wp2
   have T3:=ay HC1.out (.bool b3) (.slice a3 n3 c3) (.int .i64 E)
   have T4:=an HG.out (show w.heap.size≤w.heap.size+1 by omega) (.bool b3) (.slice a3 n3 c3) (.int .i64 E)
   have T5:=HDR.out.tri8 HC1.out (by decide) (.bool b3) (.slice a3 n3 c3) (.int .i64 E)
   obtain⟨p0,p1,p2⟩:=tri8 T3
   have HE:=ab (And.intro T5 T4)
   clear T3 T4 T5
   generalize ((w4.setCell ⟨w.heap.size+1,0,none⟩ (.bool b3)).setCell ⟨w.heap.size+1,1,none⟩ (.slice a3 n3 c3)).setCell ⟨w.heap.size+1,2,none⟩ (.int .i64 E)=w5 at *
   refine bodyPost_ret (v:=.tuple #[.agg #[.bool b3,.slice a3 n3 c3,.int .i64 E],.int .i64 0]) (by simp [results,Tryz.results76,go_sem,p0,p1,p2]) rfl ?_
   exact⟨⟨_,_,_,_,_,_,rfl,HE.out.1⟩,HE.out.2⟩
  ·have hfit2:ah E=false:=by simpa using hfit
   rw [hfit2] at HP
   have DRX:DR w4 w.heap.size false (.slice none 0 0) 0 80 M E:=⟨[],Ans.nil _ _,.inr (.inr ⟨rfl,rfl,rfl,rfl,rfl,hbl3,hfit2⟩)⟩
   have HDR:=ab DRX
   clear DRX hans hb3 hv3 ht3 hbl3 hfit hfit2
   go_wp2_with fail
   refine HP.mono ?_
   rintro e wn ⟨rfl,hw⟩;rw [hw];clear hw wn HP
   go_wp2
   have T3:=ay HC1.out (.bool false) (.slice none 0 0) (.int .i64 0)
   have T4:=an HG.out (show w.heap.size≤w.heap.size+1 by omega) (.bool false) (.slice none 0 0) (.int .i64 0)
   have T5:=HDR.out.tri8 HC1.out (by decide) (.bool false) (.slice none 0 0) (.int .i64 0)
   obtain⟨p0,p1,p2⟩:=tri8 T3
   have HE:=ab (And.intro T5 T4)
   clear T3 T4 T5
   generalize ((w4.setCell ⟨w.heap.size+1,0,none⟩ (.bool false)).setCell ⟨w.heap.size+1,1,none⟩ (.slice none 0 0)).setCell ⟨w.heap.size+1,2,none⟩ (.int .i64 0)=w5 at *
   refine bodyPost_ret (v:=.tuple #[.agg #[.bool false,.slice none 0 0,.int .i64 0],.int .i64 80]) (by simp [results,Tryz.results76,go_sem,p0,p1,p2]) rfl ?_
   exact⟨⟨_,_,_,_,_,_,rfl,HE.out.1⟩,HE.out.2⟩
 ·have DRX:DR w4 w.heap.size false (.slice none 0 0) 0 3 M E:=⟨[],Ans.nil _ _,.inr (.inl ⟨rfl,rfl,rfl,rfl,rfl,hbl3⟩)⟩
  have HDR:=ab DRX
  clear DRX hans hb3 hv3 hr3 hbl3 HP
  go_wp2
  have T3:=ay HC1.out (.bool false) (.slice none 0 0) (.int .i64 0)
  have T4:=an HG.out (show w.heap.size≤w.heap.size+1 by omega) (.bool false) (.slice none 0 0) (.int .i64 0)
  have T5:=HDR.out.tri8 HC1.out (by decide) (.bool false) (.slice none 0 0) (.int .i64 0)
  obtain⟨p0,p1,p2⟩:=tri8 T3
  have HE:=ab (And.intro T5 T4)
  clear T3 T4 T5
  generalize ((w4.setCell ⟨w.heap.size+1,0,none⟩ (.bool false)).setCell ⟨w.heap.size+1,1,none⟩ (.slice none 0 0)).setCell ⟨w.heap.size+1,2,none⟩ (.int .i64 0)=w5 at *
  refine bodyPost_ret (v:=.tuple #[.agg #[.bool false,.slice none 0 0,.int .i64 0],.int .i64 3]) (by simp [results,Tryz.results76,go_sem,p0,p1,p2]) rfl ?_
  exact⟨⟨_,_,_,_,_,_,rfl,HE.out.1⟩,HE.out.2⟩

def iq (c:Int)(e:Ending):Prop:=e=.returned (.tuple #[.agg #[.bool false,.slice none 0 0,.int .i64 0],.int .i64 c])

theorem pX (b:Bool)(a:Option Addr)(c:Nat)(X:List Nat)(ex:Int)(w:World)(hA:Arg w (.slice a X.length c) X)(hT:Tab w)(hf:X.length≤17592186044416)(hE:ah ex=true) :
  Calls Tryz.prog 50 #[.agg #[.bool b,.slice a X.length c],.int .i64 ex] w fun e w'=>aT w' w.heap.size e (omz (zz b (val X))) (oe (zz b (val X)) ex)∧Below w.heap.size w w':=by
 obtain⟨w0,hw0,hb0,h0,h1'⟩:=al w (.cells #[.bool b,.slice a X.length c] 41) (.cells #[.bool false,.slice none 0 0,.int .i64 0] 43)
 obtain⟨k0,k1⟩:=duo h0
 have HP:=dM ex w0
 rw [hE] at HP
 have HO:=iv b a c X w0 (hA.below hb0)
 have hAT:Arg w (.slice a (tr X).length c) (tr X):=hA.trim
 have hEr:=(aH ex).1 hE
 have HN:=ab (fun (W:World) (hg:Below w.heap.size w W)=>hU b a c (tr X) (zz b (val X)) ex W ⟨hAT.below hg,tr_tr X,by rw [val_tr]⟩ (hT.below hg) (by omega) (by omega) (by have:=tr_length_le X;omega))
 have HC:=ab h1'
 have HB:=ab hb0
 clear h0 h1' hb0 hE hA hT hAT
 generalize omz (zz b (val X))=M at *
 generalize oe (zz b (val X)) ex=E at *
 go_enter Tryz.func50,Tryz.ntmps50
 go_wp2_with fail
 refine HP.mono ?_
 rintro e wn ⟨rfl,hw⟩;rw [hw];clear hw wn HP
 go_wp2_with fail
 refine HO.mono ?_
 rintro e t1 ⟨rfl,g1⟩
 have G1:=ae HB.out g1
 have HA:=HN.out t1 G1
 have HG1:=ab G1
 have HC0:=ab (ac g1 HC.out)
 clear HO g1 G1 HN HC HB k0 k1
 go_wp2_with fail
 refine HA.mono ?_
 rintro e t2 ⟨⟨b1,a1,n1,c1,e1,r1,rfl,hdr⟩,g2⟩
 have HC1:=ab (ac g2 HC0.out)
 have HG:=ab (ae HG1.out g2)
 have HDR:=ab (hdr.base HG1.out.size)
 have hf1:=ak HC1.out
 obtain⟨m0,m1,m2⟩:=tri8 HC1.out
 clear hdr g2 HA HC0
 go_wp2
 have T3:=ay HC1.out (.bool b1) (.slice a1 n1 c1) (.int .i64 e1)
 have T4:=an HG.out (show w.heap.size≤w.heap.size+1 by omega) (.bool b1) (.slice a1 n1 c1) (.int .i64 e1)
 have T5:=HDR.out.tri8 HC1.out (by decide) (.bool b1) (.slice a1 n1 c1) (.int .i64 e1)
 obtain⟨p0,p1,p2⟩:=tri8 T3
 have HE:=ab (And.intro T5 T4)
 clear T3 T4 T5
 generalize ((t2.setCell ⟨w.heap.size+1,0,none⟩ (.bool b1)).setCell ⟨w.heap.size+1,1,none⟩ (.slice a1 n1 c1)).setCell ⟨w.heap.size+1,2,none⟩ (.int .i64 e1)=w5 at *
 refine bodyPost_ret (v:=.tuple #[.agg #[.bool b1,.slice a1 n1 c1,.int .i64 e1],.int .i64 r1]) (by simp [results,Tryz.results50,go_sem,p0,p1,p2]) rfl ?_
 exact⟨⟨_,_,_,_,_,_,rfl,HE.out.1⟩,HE.out.2⟩

theorem cV.trimmed {w w':World}{g:Nat}{Z:List Nat}{x:Nat}(hg:w.heap.size≤g)(hb:Blk w' g Z)(hl:Limbs Z)(hz:Z.length≤1125899906842624)(hx:val Z=x)(hbel:Below w.heap.size w w') :
  Calls Tryz.prog 95 #[.slice (some ⟨g,0,none⟩) Z.length Z.length] w' fun e w''=>e=.returned (.slice (some ⟨g,0,none⟩) (tr Z).length Z.length)∧w''=w'∧cV w x e w'':=by
 have HA:=Ans.of_blk (base:=w.heap.size) (zs:=Z) hg hb (by simp) (Nat.le_refl _) (by omega) hl
 obtain⟨a,c,e,T,_⟩:=(HA.arg hz).ytrim
 cases e
 refine (T w' (Below.refl _ _)).mono ?_
 rintro e w'' ⟨rfl,rfl⟩
 exact⟨rfl,rfl,⟨_,_,_,tr Z,rfl,HA.trim,rfl,by rw [val_tr];exact hx,tr_tr Z⟩,hbel⟩

theorem kM (X:List Nat)(k:Nat):lm X (k:Int)=X.getD k 0:=by unfold lm;rw [if_neg (by omega)];rfl

theorem se {X Y out:List Nat}{m cy:Nat}(hX:Limbs X)(hY:Limbs Y)(h1:X.length<m)(h2:Y.length<m)(ho:out.length=m)(h:val (out.take m)+cy*18446744073709551616 ^ m=val (X.take m)+val (Y.take m)):val out=val X+val Y:=by
 rw [List.take_of_length_le (by omega),List.take_of_length_le (by omega),List.take_of_length_le (by omega)] at h
 have k1:=val_lt hX
 have k2:=val_lt hY
 obtain⟨q,rfl⟩:∃q,m=q+1:=⟨m - 1,by omega⟩
 have p1:(18446744073709551616:Nat) ^ X.length≤18446744073709551616 ^ q:=Nat.pow_le_pow_right (by omega) (by omega)
 have p2:(18446744073709551616:Nat) ^ Y.length≤18446744073709551616 ^ q:=Nat.pow_le_pow_right (by omega) (by omega)
 rw [Nat.pow_succ] at h
 rcases Nat.eq_zero_or_pos cy with h0|h0
 ·subst h0;omega
 ·exfalso
  have h3:1*(18446744073709551616 ^ q*18446744073709551616)≤cy*(18446744073709551616 ^ q*18446744073709551616):=Nat.mul_le_mul_right _ h0
  generalize (18446744073709551616:Nat) ^ q=B at *
  generalize cy*(B*18446744073709551616)=C at *
  omega

theorem jP (v1 v2:Value)(X Y:List Nat)(w:World)(h1:Arg w v1 X)(h2:Arg w v2 Y)(f1:X.length≤35184372088000)(f2:Y.length≤35184372088000) :
  Calls Tryz.prog 119 #[v1,v2] w (cV w (val X+val Y)):=by
 obtain⟨m,hm⟩:∃m,m=max X.length Y.length+1:=⟨_,rfl⟩
 have e1:max (X.length:Int) (Y.length:Int)=((m - 1:Nat):Int):=by omega
 obtain⟨q,hq⟩:∃q,m=q+1:=⟨m - 1,by omega⟩
 have e2:max (X.length:Int) (Y.length:Int)=(q:Int):=by omega
 have e3:(q:Int)+1=(m:Int):=by omega
 have hXm:X.length<m:=by omega
 have hYm:Y.length<m:=by omega
 have hmm:m≤35184372088001:=by omega
 obtain⟨i0,hi,hz0,hz1,hz2⟩:=info_parts Tryz.infoU
 obtain⟨a1,c1,rfl,hc1,hm1,hl1⟩:=h1.form
 obtain⟨a2,c2,rfl,hc2,hm2,hl2⟩:=h2.form
 have M1:=h1.limbs
 have M2:=h2.limbs
 have HLS:=ab (And.intro hl1 hl2)
 clear e1 hm hq h1 h2 hl1 hl2
 go_enter Tryz.func119,Tryz.ntmps119
 go_wp2_with (at_make;refine wpList_make_full _ rfl _ _ 39 rfl w.heap.size 51 i0 (.int .u64 0) 1 Tryz.underlying39 hi hz0 hz1 .i64 .i64 _ _ m rfl rfl (by omega) (by omega) (by rw [hz2];omega) (by unfold maxLen;omega) (Nat.le_refl _) ?_;intro wm hown hgrow)
 have hb1:=Blk.made hown
 have hbel:Below w.heap.size w wm:=(Below.refl _ _).grown hgrow (Nat.le_refl _) (fun k hk=>by cases hk)
 clear hown hgrow hi hz0 hz1 hz2
 go_loopw [6,17] (fun c i wr=>∃(k cy:Nat) (out:List Nat),k≤m∧i=.int .i64 k∧c=.int .u64 cy∧cy≤1∧out.length=m∧Limbs out∧Blk wr w.heap.size out∧Below w.heap.size w wr ∧
   val (out.take k)+cy*18446744073709551616 ^ k=val (X.take k)+val (Y.take k)) (fun _ i _=>m - (intOf i).toNat)
 case atStart=>exact⟨0,0,_,Nat.zero_le _,rfl,rfl,by omega,by simp,limbs_replicate _,hb1,hbel,by simp [val]⟩
 case round=>
  obtain⟨k,cy,out,hk,rfl,rfl,hcy,hlen,hlo,hblk,hbl,hval⟩:=hrel
  clear hb1 hbel
  by_cases hkl:k<m
  ·have L1:=eo a1 c1 X (k:Int) wr hc1 hm1 (HLS.out.1.below hbl)
   have L2:=eo a2 c2 Y (k:Int) wr hc2 hm2 (HLS.out.2.below hbl)
   rw [kM] at L1 L2
   have hfr:=hblk.free k
   have hco:=hblk.cell k (by omega)
   have ha:=gO (X.getD k 0) (Y.getD k 0) cy hcy
   have hst:=add_step X Y out k cy (by omega) hval
   have z1:=limb_lt M1 k
   have z2:=limb_lt M2 k
   have HB:=ab hblk
   have HL:=ab hbl
   clear hval hblk hbl
   generalize X.getD k 0=x at *
   generalize Y.getD k 0=y at *
   generalize out.getD k 0=o at *
   have hs1:(x+y+cy) % 18446744073709551616<18446744073709551616:=Nat.mod_lt _ (by omega)
   have hd1:(x+y+cy) / 18446744073709551616≤1:=by omega
   generalize (x+y+cy) % 18446744073709551616=s at *
   generalize (x+y+cy) / 18446744073709551616=d at *
   have HS:=ab hst
   clear hst
   have hi1:(0:Int)≤(k:Int):=by omega
   have hi2:(k:Int)<(m:Int):=by omega
   go_wp2_with fail
   refine L1.mono ?_
   rintro e wn ⟨rfl,hw⟩;rw [hw];clear hw wn L1
   go_wp2_with fail
   refine L2.mono ?_
   rintro e wn ⟨rfl,hw⟩;rw [hw];clear hw wn L2
   go_wp2
   go_roundw
   case rel=>exact⟨k+1,d,out.set k s,by omega,by go_num,rfl,hd1,by simp;omega,limbs_set hlo _ _ hs1,HB.out.set k s,HL.out.setCell (Nat.le_refl _) _,HS.out⟩
   case measure=>simp [intOf];omega
  ·have ek:k=m:=by omega
   subst ek
   have hv:=se M1 M2 hXm hYm hlen hval
   have HT:=cV.trimmed (Nat.le_refl _) hblk hlo (by omega) hv hbl
   rw [hlen] at HT
   clear hv hval hblk hlo hbl
   go_wp2_with fail
   refine HT.mono ?_
   rintro e wn ⟨rfl,hw,hd⟩;rw [hw] at hd ⊢;clear hw wn HT
   have HD:=ab hd
   clear hd
   go_wp2
   go_returns
   exact HD.out

def qQ (w:World)(M E:Int)(e:Ending)(w':World):Prop:=
 (∃b a n k X,e=.returned (.tuple #[.agg #[.bool b,.slice a n k,.int .i64 E],.int .i64 0])∧n=X.length∧Nm w' b (.slice a n k) X M∧(X=[]→b=false))∧Below w.heap.size w w'

theorem eC (b:Bool)(a:Option Addr)(c:Nat)(X:List Nat)(ex:Int)(w:World)(hA:Arg w (.slice a X.length c) X)(hT:Tab w)(hf:X.length≤17592186044416)(hE:ah ex=true) :
  Calls Tryz.prog 89 #[.agg #[.bool b,.slice a X.length c,.int .i64 ex]] w (qQ w (omz (zz b (val X))) (oe (zz b (val X)) ex)):=by
 obtain⟨w0,hw0,hb0,h0,h1'⟩:=al w (.cells #[.bool b,.slice a X.length c,.int .i64 ex] 43) (.cells #[.bool false,.slice none 0 0,.int .i64 0] 125)
 obtain⟨k0,k1,k2⟩:=tri8 h0
 have HP:=eH b a c X ex w0 (hA.below hb0) hE
 have hAT:Arg w (.slice a (tr X).length c) (tr X):=hA.trim
 have hEr:=(aH ex).1 hE
 have HN:=ab (fun (W:World) (hg:Below w.heap.size w W)=>jT b a c (tr X) (zz b (val X)) ex W ⟨hAT.below hg,tr_tr X,by rw [val_tr]⟩ (hT.below hg) (by omega) (by omega) (by have:=tr_length_le X;omega))
 have HC:=ab h1'
 have HB:=ab hb0
 clear h0 h1' hb0 hE hA hT hAT
 generalize oe (zz b (val X)) ex=E at *
 generalize omz (zz b (val X))=M at *
 go_enter Tryz.func89,Tryz.ntmps89
 go_wp2_with fail
 refine HP.mono ?_
 rintro e t1 ⟨rfl,g1⟩
 obtain⟨w4,hw4,hb4,h4⟩:=ag t1 (.cells #[.bool b,.slice a (tr X).length c,.int .i64 ex] 125)
 have HG1:=ab (ae (ae HB.out g1) hb4)
 have HC0:=ab (ac hb4 (ac g1 HC.out))
 have HH:=HN.out w4 HG1.out
 obtain⟨l0,l1,l2⟩:=tri8 h4
 clear g1 hb4 h4 HP HN HC HB k0 k1 k2
 go_wp2_with fail
 refine HH.mono ?_
 rintro e t2 ⟨⟨b1,a1,n1,c1,X1,rfl,hn,N1,hb1⟩,g2⟩
 have HC1:=ab (ac g2 HC0.out)
 have HG:=ab (ae HG1.out g2)
 have HNM:=ab N1
 have HHN:=ab (And.intro hn hb1)
 have hf1:=ak HC1.out
 obtain⟨m0,m1,m2⟩:=tri8 HC1.out
 clear N1 g2 HH HC0 hn hb1
 go_wp2
 have T3:=ay HC1.out (.bool b1) (.slice a1 n1 c1) (.int .i64 E)
 have T4:=an HG.out (show w.heap.size≤w.heap.size+1 by omega) (.bool b1) (.slice a1 n1 c1) (.int .i64 E)
 have T5:=HNM.out.tri8 HC1.out b1 a1 n1 c1 (.int .i64 E)
 obtain⟨p0,p1,p2⟩:=tri8 T3
 have HE:=ab (And.intro T5 T4)
 clear T3 T4 T5
 generalize ((t2.setCell ⟨w.heap.size+1,0,none⟩ (.bool b1)).setCell ⟨w.heap.size+1,1,none⟩ (.slice a1 n1 c1)).setCell ⟨w.heap.size+1,2,none⟩ (.int .i64 E)=w5 at *
 refine bodyPost_ret (v:=.tuple #[.agg #[.bool b1,.slice a1 n1 c1,.int .i64 E],.int .i64 0]) (by simp [results,Tryz.results89,go_sem,p0,p1,p2]) rfl ?_
 exact⟨⟨_,_,_,_,X1,rfl,HHN.out.1,HE.out.1,HHN.out.2⟩,HE.out.2⟩
end Go.Proofs.YtkfbobefkbpdoaaGreatDoor
namespace Go.Proofs.YtkfbobefkbpdoaaGreatDoor
open Go.RowKit
open Lm

def Nr8 (M E:Int):Prop:=(M=0∧E=0)∨M.natAbs % 2=1

theorem ba (z e:Int):Nr8 (omz z) (oe z e):=by
 by_cases h:z=0
 ·subst h;exact .inl ⟨bC,by simp [oe]⟩
 ·refine .inr ?_
  rw [ct]
  exact (fD (by omega)).2

theorem Nr8.stay {M E:Int}(h:Nr8 M E):omz M=M∧oe M E=E:=by
 rcases h with ⟨rfl,rfl⟩|h
 ·exact⟨bC,by simp [oe]⟩
 ·exact fJ h E

def Rp (L:Nat)(z e V:Int):Prop:=0≤e+L∧z*2 ^ (e+L).toNat=V

theorem Rp.norm {L:Nat}{z e V:Int}(h:Rp L z e V):Rp L (omz z) (oe z e) V:=by
 obtain⟨h1,h2⟩:=h
 by_cases h0:z=0
 ·subst h0
  rw [bC,show oe 0 e=0 by simp [oe]]
  refine⟨by omega,?_⟩
  rw [←h2,Int.zero_mul,Int.zero_mul]
 ·have e1:oe z e=e+(tl z.natAbs:Int):=by unfold oe;rw [if_neg h0]
  have e2:(oe z e+L).toNat=tl z.natAbs+(e+L).toNat:=by rw [e1];omega
  refine⟨by rw [e1];omega,?_⟩
  rw [e2,Int.pow_add,←Int.mul_assoc,←ob,h2]

theorem Rp.one {L:Nat}{M E M' E' V:Int}(h:Rp L M E V)(h':Rp L M' E' V)(n:Nr8 M E)(n':Nr8 M' E'):M=M'∧E=E':=by
 have a:∀ {z e:Int},Rp L z e V→omz V=omz z∧oe V (-(L:Int))=oe z e:=by
  intro z e h
  have hs:=jK z (-(L:Int)) (e+L).toNat
  rw [h.2] at hs
  refine⟨hs.1,?_⟩
  rw [hs.2]
  have:=h.1
  congr 1
  omega
 have h1:=a h
 have h2:=a h'
 rw [n.stay.1,n.stay.2] at h1
 rw [n'.stay.1,n'.stay.2] at h2
 exact⟨h1.1.symm.trans h2.1,h1.2.symm.trans h2.2⟩

theorem Rp.mul {L K:Nat}{z e V z' e' V':Int}(h:Rp L z e V)(h':Rp K z' e' V'):Rp (L+K) (z*z') (e+e') (V*V'):=by
 obtain⟨h1,h2⟩:=h
 obtain⟨k1,k2⟩:=h'
 refine⟨by omega,?_⟩
 have e1:(e+e'+((L+K:Nat):Int)).toNat=(e+L).toNat+(e'+K).toNat:=by omega
 rw [e1,Int.pow_add,←h2,←k2]
 generalize (2:Int) ^ (e+L).toNat=a
 generalize (2:Int) ^ (e'+K).toNat=b
 grind

def sm (z e z' e':Int):Int:=z*2 ^ (e - min e e').toNat+z'*2 ^ (e' - min e e').toNat

theorem Rp.add {L:Nat}{z e V z' e' V':Int}(h:Rp L z e V)(h':Rp L z' e' V'):Rp L (sm z e z' e') (min e e') (V+V'):=by
 obtain⟨h1,h2⟩:=h
 obtain⟨k1,k2⟩:=h'
 refine⟨by omega,?_⟩
 unfold sm
 rw [Int.add_mul,Int.mul_assoc,Int.mul_assoc,←Int.pow_add,←Int.pow_add,show (e - min e e').toNat+(min e e'+L).toNat=(e+L).toNat by omega,show (e' - min e e').toNat+(min e e'+L).toNat=(e'+L).toNat by omega,h2,k2]

theorem Rp.pos {L:Nat}{z e V:Int}(h:Rp L z e V):(V<0 ↔ z<0)∧(V=0 ↔ z=0):=by
 obtain⟨h1,h2⟩:=h
 have hp:(0:Int)<2 ^ (e+L).toNat:=Int.pow_pos (by omega)
 generalize (2:Int) ^ (e+L).toNat=P at *
 subst h2
 constructor
 ·constructor
  ·intro h
   refine Int.lt_of_not_ge fun hz=>?_
   have:=Int.mul_nonneg hz (Int.le_of_lt hp)
   omega
  ·intro h;exact Int.mul_neg_of_neg_of_pos h hp
 ·constructor
  ·intro h
   rcases Int.mul_eq_zero.1 h with h|h
   ·exact h
   ·omega
  ·rintro rfl;exact Int.zero_mul _

theorem Rp.make (L:Nat)(z e:Int)(h:0≤e+L):Rp L z e (z*2 ^ (e+L).toNat):=⟨h,rfl⟩

theorem eX (z e e':Int):omz (sm 0 e z e')=omz z∧oe (sm 0 e z e') (min e e')=oe z e':=by
 unfold sm
 rw [Int.zero_mul,Int.zero_add]
 have h:=jK z (min e e') (e' - min e e').toNat
 refine⟨h.1,?_⟩
 rw [h.2]
 congr 1
 omega

theorem lr (z e z' e':Int):sm z e z' e'=sm z' e' z e:=by
 unfold sm
 rw [Int.min_comm,Int.add_comm]
end Go.Proofs.YtkfbobefkbpdoaaGreatDoor
namespace Go.Proofs.YtkfbobefkbpdoaaGreatDoor
open Go.RowKit
open Lm
attribute [local go_sem ↓] Go.wp_at_zero Go.wp_at_succ

theorem jh (v1 v2:Value)(zs ys:List Nat)(w:World)(h1:Arg w v1 zs)(h2:Arg w v2 ys)(f1:zs.length≤35184372088831)(hyl:ys.length≤zs.length)(hle:val ys≤val zs) :
  Calls Tryz.prog 121 #[v1,v2] w (cV w (val zs - val ys)):=by
 obtain⟨i0,hi,hz0,hz1,hz2⟩:=info_parts Tryz.infoU
 obtain⟨a1,c1,rfl,hc1,hm1,hl1⟩:=h1.form
 obtain⟨a2,c2,rfl,hc2,hm2,hl2⟩:=h2.form
 have M1:=h1.limbs
 have M2:=h2.limbs
 have HX:Hid (val ys≤val zs):=hle
 have L1:=hl1
 have L2:=hl2
 clear h1 h2 hl1 hl2 hle
 go_enter Tryz.func121,Tryz.ntmps121
 go_wp2_with (at_make;refine wpList_make_full _ rfl _ _ 39 rfl w.heap.size 51 i0 (.int .u64 0) 1 Tryz.underlying39 hi hz0 hz1 .i64 .i64 _ _ zs.length rfl rfl (by omega) (by omega) (by rw [hz2];omega) (by unfold maxLen;omega) (Nat.le_refl _) ?_;intro wm hown hgrow)
 have hb1:=Blk.made hown
 have hbel:Below w.heap.size w wm:=(Below.refl _ _).grown hgrow (Nat.le_refl _) (fun k hk=>by cases hk)
 clear hown hgrow hi hz0 hz1 hz2
 go_loopw [6,13] (fun c i wr=>∃(k cy:Nat) (out:List Nat),k≤zs.length∧i=.int .i64 k∧c=.int .u64 cy∧cy≤1∧out.length=zs.length∧Limbs out∧Blk wr w.heap.size out∧Below w.heap.size w wr ∧
   val (out.take k)+val (ys.take k)=val (zs.take k)+cy*18446744073709551616 ^ k) (fun _ i _=>zs.length - (intOf i).toNat)
 case atStart=>exact⟨0,0,_,Nat.zero_le _,rfl,rfl,by omega,by simp,limbs_replicate _,hb1,hbel,by simp [val]⟩
 case round=>
  obtain⟨k,cy,out,hk,rfl,rfl,hcy,hlen,hlo,hblk,hbl,hval⟩:=hrel
  clear hb1 hbel
  have HV:Hid (val (out.take k)+val (ys.take k)=val (zs.take k)+cy*18446744073709551616 ^ k):=hval
  clear hval
  have HB:Hid (Blk wr w.heap.size out):=hblk
  have HL:Hid (Below w.heap.size w wr):=hbl
  by_cases hkl:k<zs.length
  ·rcases L1.below hbl with h0|⟨b,off,rfl,hcell⟩
   ·simp [h0] at hkl
   ·have H42:=eo a2 c2 ys (k:Int) wr.drew hc2 hm2 (L2.below hbl.drew)
    rw [kM] at H42
    have hck:=hcell k hkl
    have hbw:=aC.block (L1:aC w (some ⟨b,off,none⟩) zs) (by omega)
    have hne1:¬b=w.heap.size:=by omega
    have hne2:¬w.heap.size=b:=by omega
    have hfr:=hblk.free k
    have hco:=hblk.cell k (by omega)
    have ha:=qO (zs.getD k 0) (ys.getD k 0) cy hcy
    have z1:=limb_lt M1 k
    have z2:=limb_lt M2 k
    have hst:=sub_step zs ys out k cy (by omega) z1 z2 hcy HV.out
    have hd1:=ml (zs.getD k 0) (ys.getD k 0) cy
    generalize bor (zs.getD k 0) (ys.getD k 0) cy=d at *
    generalize zs.getD k 0=x at *
    generalize ys.getD k 0=y at *
    generalize out.getD k 0=o at *
    have hs1:(x+18446744073709551616 - y - cy) % 18446744073709551616<18446744073709551616:=Nat.mod_lt _ (by omega)
    generalize (x+18446744073709551616 - y - cy) % 18446744073709551616=s at *
    have HS':Hid (val ((out.set k s).take (k+1))+val (ys.take (k+1))=val (zs.take (k+1))+d*18446744073709551616 ^ (k+1)):=hst
    clear hst hcell hblk hbl HV L1 L2 M1 M2
    have hi1:(0:Int)≤(k:Int):=by omega
    have hi2:(k:Int)<(zs.length:Int):=by omega
    go_wp2
    go_region_held3 (fun w'=>w'.cell? ⟨b,off+k,none⟩=some (.int .u64 x)) (go_keep) (first | (go_at_call 133;refine H42.mono ?_;rintro e w2 ⟨rfl,rfl⟩))
    go_wp2
    go_roundw
    case rel=>exact⟨k+1,d,out.set k s,by omega,by go_num,rfl,hd1,by simp;omega,limbs_set hlo _ _ hs1,HB.out.set k s,(HL.out.setCell (Nat.le_refl _) _).drew,HS'.out⟩
    case measure=>simp [intOf];omega
  ·have ek:k=zs.length:=by omega
   subst ek
   have hvl:val out=val zs - val ys:=oB hlo hlen hyl HX.out cy hcy HV.out
   have HT:=cV.trimmed (Nat.le_refl _) hblk hlo (by omega) hvl hbl
   rw [hlen] at HT
   clear hvl hblk hbl HV L1 L2 M1 M2 HB hlo
   go_wp2_with fail
   refine HT.mono ?_
   rintro e wn ⟨rfl,hw,hd⟩;rw [hw] at hd ⊢;clear hw wn HT
   have HD:=ab hd
   clear hd
   go_wp2
   go_returns
   exact HD.out

theorem gB (b:Bool)(a:Option Addr)(n c:Nat)(w:World) :
  Calls Tryz.prog 92 #[.agg #[.bool b,.slice a n c]] w fun e w'=>e=.returned (.agg #[.bool b,.slice a n c])∧Below w.heap.size w w':=by
 obtain⟨w0,hw0,hb0,h0,h1⟩:=al w (.cells #[.bool b,.slice a n c] 122) (.cells #[.bool false,.slice none 0 0] 41)
 obtain⟨k0,k1⟩:=duo h0
 have hf:=aB h1
 obtain⟨m0,m1⟩:=duo h1
 have H1:=ab h1
 have HB:=ab hb0
 clear h0 h1 hb0
 go_enter Tryz.func92,Tryz.ntmps92
 go_wp2
 have T3:=aP H1.out (a':=.bool b) (b':=.slice a n c)
 have T4:=aO HB.out (g:=w.heap.size+1) (u0:=.bool b) (u1:=.slice a n c) (by omega)
 obtain⟨p0,p1⟩:=duo T3
 have HE:=ab T4
 clear T3 T4
 generalize (w0.setCell ⟨w.heap.size+1,0,none⟩ (.bool b)).setCell ⟨w.heap.size+1,1,none⟩ (.slice a n c)=w5 at *
 refine bodyPost_ret (v:=.agg #[.bool b,.slice a n c]) (by simp [results,Tryz.results92,go_sem,p0,p1]) rfl ?_
 exact⟨rfl,HE.out⟩

theorem kl {x y:Nat}(n:Nat)(hx:blen x≤n)(hy:blen y≤n):blen (x+y)≤n+1:=by
 have h1:=(blen_le_iff _ _).1 hx
 have h2:=(blen_le_iff _ _).1 hy
 refine (blen_le_iff _ _).2 ?_
 rw [Nat.pow_succ]
 omega

theorem bO {X:List Nat}(h:Limbs X):blen (val X)≤64*X.length:=by rw [blen_le_iff,Nat.mul_comm,←W_pow];exact val_lt h

def nj (w:World)(z:Int)(e:Ending)(w':World):Prop:=
 (∃b a n k X,e=.returned (.agg #[.bool b,.slice a n k])∧n=X.length∧Nm w' b (.slice a n k) X z)∧Below w.heap.size w w'

theorem kD {X Y:List Nat}(hX:Limbs X)(h:tr Y=Y)(hle:val Y≤val X):Y.length≤X.length:=by
 have h1:=val_lt hX
 rw [W_pow] at h1
 have h2:blen (val Y)≤X.length*64:=(blen_le_iff _ _).2 (Nat.lt_of_le_of_lt hle h1)
 exact bu h rfl h2

theorem ls (b1:Bool)(a1:Option Addr)(c1:Nat)(X:List Nat)(y:Int)(b2:Bool)(a2:Option Addr)(c2:Nat)(Y:List Nat)(z:Int)(w:World)(h1:Nm w b1 (.slice a1 X.length c1) X y)(h2:Nm w b2 (.slice a2 Y.length c2) Y z)(f1:X.length≤35184372088000)(f2:Y.length≤35184372088000) :
  Calls Tryz.prog 106 #[.agg #[.bool b1,.slice a1 X.length c1],.agg #[.bool b2,.slice a2 Y.length c2]] w (nj w (y+z)):=by
 obtain⟨w0,hw0,hb0,k0,k1,k2⟩:=aM w (.cells #[.bool b1,.slice a1 X.length c1] 122) (.cells #[.bool b2,.slice a2 Y.length c2] 122) (.cells #[.bool false,.slice none 0 0] 122)
 obtain⟨x0,x1⟩:=duo k0
 obtain⟨x2,x3⟩:=duo k1
 have hlen:∀rs:List Nat,tr rs=rs→val rs≤val X+val Y→rs.length≤35184372088001:=by
  intro rs hr hv
  refine bu hr rfl ?_
  have l1:=bO h1.arg.limbs
  have l2:=bO h2.arg.limbs
  have l3:=kl (x:=val X) (y:=val Y) 2251799813632000 (by omega) (by omega)
  have l4:=blen_mono hv
  omega
 have HLEN:=ab hlen
 have HN1:=ab h1
 have HN2:=ab h2
 by_cases hb:b1=b2
 ·subst hb
  have gdW:Below w.heap.size w w0.drew:=hb0.drew
  have HW:=jP _ _ X Y w0.drew (h1.arg.below gdW) (h2.arg.below gdW) f1 f2
  have hyz:y+z=zz b1 (val X+val Y):=by rw [←h1.val,←h2.val,gW]
  rw [hyz]
  have hbe:(b1 == b1)=true:=by simp
  have g0:Below w0.drew.heap.size w0.drew w0.drew:=Below.refl _ _
  have KS:=ab (fun (W:World) (hg:Below w0.drew.heap.size w0.drew W)=>show W.cell? ⟨w.heap.size,0,none⟩=some (.bool b1)∧W.cell? ⟨w.heap.size,1,none⟩=some (.slice a1 X.length c1)∧W.cell? ⟨w.heap.size+1,0,none⟩=some (.bool b1)∧W.cell? ⟨w.heap.size+1,1,none⟩=some (.slice a2 Y.length c2) from by
   obtain⟨y0,y1⟩:=duo (ac hg (show w0.drew.heap[w.heap.size]?=some (.cells #[.bool b1,.slice a1 X.length c1] 122) from k0))
   obtain⟨y2,y3⟩:=duo (ac hg (show w0.drew.heap[w.heap.size+1]?=some (.cells #[.bool b1,.slice a2 Y.length c2] 122) from k1))
   exact⟨y0,y1,y2,y3⟩)
  have so:∀(W:World) (k:Nat) (u:Value) (k':Nat),(W.setCell ⟨w.heap.size+2,k,none⟩ u).cell? ⟨w.heap.size,k',none⟩=W.cell? ⟨w.heap.size,k',none⟩:=fun W k u k'=>aZ (by omega)
  have so2:∀(W:World) (k:Nat) (u:Value) (k':Nat),(W.setCell ⟨w.heap.size+2,k,none⟩ u).cell? ⟨w.heap.size+1,k',none⟩=W.cell? ⟨w.heap.size+1,k',none⟩:=fun W k u k'=>aZ (by omega)
  have H1:=ab (show w0.drew.heap[w.heap.size+2]?=some (.cells #[.bool false,.slice none 0 0] 122) from k2)
  have HB:=ab gdW
  clear k0 k1 k2 hb0 gdW hlen h1 h2 hyz
  go_enter Tryz.func106,Tryz.ntmps106
  go_wp2
  go_region_held3 (fun w'=>w'.cell? ⟨w.heap.size,0,none⟩=some (.bool b1)∧w'.cell? ⟨w.heap.size,1,none⟩=some (.slice a1 X.length c1)∧w'.cell? ⟨w.heap.size+1,0,none⟩=some (.bool b1)∧w'.cell? ⟨w.heap.size+1,1,none⟩=some (.slice a2 Y.length c2)) (first|with_reducible exact KS.out _ g1|with_reducible exact KS.out _ g0 | (refine⟨?_,?_,?_,?_⟩ <;> (first|rw [so,so] | rw [so2,so2]) <;> first|exact (KS.out _ g1).1|exact (KS.out _ g1).2.1|exact (KS.out _ g1).2.2.1|exact (KS.out _ g1).2.2.2)) (first
   | (go_at_call 119;refine HW.mono ?_;rintro e' t1 ⟨⟨a3,n3,c3,r3,rfl,A3,hn3,v3,q3⟩,g1⟩;have HN3:=ab hn3;clear hn3;have hz:=ac g1 H1.out;have hf:=aB hz;obtain⟨m0,m1⟩:=duo hz))
  have T3:=aP hz (a':=.bool b1) (b':=.slice a3 n3 c3)
  have T4:=aO (ae HB.out g1) (g:=w.heap.size+1+1) (u0:=.bool b1) (u1:=.slice a3 n3 c3) (by omega)
  have T5:Ans ((t1.setCell ⟨w.heap.size+1+1,0,none⟩ (.bool b1)).setCell ⟨w.heap.size+1+1,1,none⟩ (.slice a3 n3 c3)) _ (.slice a3 n3 c3) r3:=(A3.off8 hz (by decide)).off8 (az hz (.bool b1)) (by decide)
  obtain⟨p0,p1⟩:=duo T3
  have HE:=ab (And.intro T5 T4)
  have HN:=ab (And.intro HN3.out (And.intro v3 q3))
  clear T3 T4 T5 so so2 m0 m1 hf KS g0 g1 HW hz A3 HN3 v3 q3
  generalize (t1.setCell ⟨w.heap.size+1+1,0,none⟩ (.bool b1)).setCell ⟨w.heap.size+1+1,1,none⟩ (.slice a3 n3 c3)=w5 at *
  go_wp2
  refine bodyPost_ret (v:=.agg #[.bool b1,.slice a3 n3 c3]) (by simp [results,Tryz.results106,go_sem,p0,p1]) rfl ?_
  exact⟨⟨_,_,_,_,r3,rfl,HN.out.1,⟨HE.out.1.arg (by have:=HLEN.out r3 HN.out.2.2 (by rw [HN.out.2.1];omega);omega),HN.out.2.2,by rw [HN.out.2.1]⟩⟩,HE.out.2⟩
 ·have hbe:(b1 == b2)=false:=by rw [beq_eq_false_iff_ne];exact hb
  have hb2:b2=!b1:=by cases b1 <;> cases b2 <;> simp_all
  have HC:=kN _ _ X Y w0 (h1.arg.below hb0) (h2.arg.below hb0)
  by_cases hlt:val X<val Y
  ·rw [cmpN_lt hlt] at HC
   have HWW:=ab (fun (W:World) (hg:Below w.heap.size w W)=>jh _ _ Y X W (h2.arg.below hg) (h1.arg.below hg) (by omega) (kD h2.arg.limbs h1.norm (by omega)) (by omega))
   have hyz:y+z=zz b2 (val Y - val X):=by rw [←h1.val,←h2.val,hb2,gS b1 (by omega)]
   rw [hyz]
   have HK:=ab (And.intro k0 (And.intro k1 k2))
   have HB0:=ab hb0
   clear hb0 hlen h1 h2 hyz hlt hb hb2 k0 k1 k2
   go_enter Tryz.func106,Tryz.ntmps106
   go_wp2_with fail
   refine HC.mono ?_
   rintro e ta ⟨rfl,hs⟩
   obtain⟨k0,k1,k2⟩:=HK.out
   have gdW:Below w.heap.size w ta.drew:=(HB0.out.trans (hs.below _)).drew
   have hh:ta.drew.heap=w0.heap:=hs.heap
   rw [←hh] at k0 k1 k2
   have HW:=HWW.out ta.drew gdW
   have g0:Below ta.drew.heap.size ta.drew ta.drew:=Below.refl _ _
   have KS:=ab (fun (W:World) (hg:Below ta.drew.heap.size ta.drew W)=>show W.cell? ⟨w.heap.size,0,none⟩=some (.bool b1)∧W.cell? ⟨w.heap.size,1,none⟩=some (.slice a1 X.length c1)∧W.cell? ⟨w.heap.size+1,0,none⟩=some (.bool b2)∧W.cell? ⟨w.heap.size+1,1,none⟩=some (.slice a2 Y.length c2) from by
    obtain⟨y0,y1⟩:=duo (ac hg (show ta.drew.heap[w.heap.size]?=some (.cells #[.bool b1,.slice a1 X.length c1] 122) from k0))
    obtain⟨y2,y3⟩:=duo (ac hg (show ta.drew.heap[w.heap.size+1]?=some (.cells #[.bool b2,.slice a2 Y.length c2] 122) from k1))
    exact⟨y0,y1,y2,y3⟩)
   have so:∀(W:World) (k:Nat) (u:Value) (k':Nat),(W.setCell ⟨w.heap.size+2,k,none⟩ u).cell? ⟨w.heap.size,k',none⟩=W.cell? ⟨w.heap.size,k',none⟩:=fun W k u k'=>aZ (by omega)
   have so2:∀(W:World) (k:Nat) (u:Value) (k':Nat),(W.setCell ⟨w.heap.size+2,k,none⟩ u).cell? ⟨w.heap.size+1,k',none⟩=W.cell? ⟨w.heap.size+1,k',none⟩:=fun W k u k'=>aZ (by omega)
   have H1:=ab (show ta.drew.heap[w.heap.size+2]?=some (.cells #[.bool false,.slice none 0 0] 122) from k2)
   have HB:=ab gdW
   clear k0 k1 k2 gdW hs hh HC HK HWW
   go_wp2
   go_region_held3 (fun w'=>w'.cell? ⟨w.heap.size,0,none⟩=some (.bool b1)∧w'.cell? ⟨w.heap.size,1,none⟩=some (.slice a1 X.length c1)∧w'.cell? ⟨w.heap.size+1,0,none⟩=some (.bool b2)∧w'.cell? ⟨w.heap.size+1,1,none⟩=some (.slice a2 Y.length c2)) (first|with_reducible exact KS.out _ g1|with_reducible exact KS.out _ g0 | (refine⟨?_,?_,?_,?_⟩ <;> (first|rw [so,so] | rw [so2,so2]) <;> first|exact (KS.out _ g1).1|exact (KS.out _ g1).2.1|exact (KS.out _ g1).2.2.1|exact (KS.out _ g1).2.2.2)) (first
    | (go_at_call 121;refine HW.mono ?_;rintro e' t1 ⟨⟨a3,n3,c3,r3,rfl,A3,hn3,v3,q3⟩,g1⟩;have HN3:=ab hn3;clear hn3;have hz:=ac g1 H1.out;have hf:=aB hz;obtain⟨m0,m1⟩:=duo hz))
   have T3:=aP hz (a':=.bool b2) (b':=.slice a3 n3 c3)
   have T4:=aO (ae HB.out g1) (g:=w.heap.size+1+1) (u0:=.bool b2) (u1:=.slice a3 n3 c3) (by omega)
   have T5:Ans ((t1.setCell ⟨w.heap.size+1+1,0,none⟩ (.bool b2)).setCell ⟨w.heap.size+1+1,1,none⟩ (.slice a3 n3 c3)) _ (.slice a3 n3 c3) r3:=(A3.off8 hz (by decide)).off8 (az hz (.bool b2)) (by decide)
   obtain⟨p0,p1⟩:=duo T3
   have HE:=ab (And.intro T5 T4)
   have HN:=ab (And.intro HN3.out (And.intro v3 q3))
   clear T3 T4 T5 so so2 m0 m1 hf KS g0 g1 HW hz A3 HN3 v3 q3
   generalize (t1.setCell ⟨w.heap.size+1+1,0,none⟩ (.bool b2)).setCell ⟨w.heap.size+1+1,1,none⟩ (.slice a3 n3 c3)=w5 at *
   go_wp2
   refine bodyPost_ret (v:=.agg #[.bool b2,.slice a3 n3 c3]) (by simp [results,Tryz.results106,go_sem,p0,p1]) rfl ?_
   exact⟨⟨_,_,_,_,r3,rfl,HN.out.1,⟨HE.out.1.arg (by have:=HLEN.out r3 HN.out.2.2 (by rw [HN.out.2.1];omega);omega),HN.out.2.2,by rw [HN.out.2.1]⟩⟩,HE.out.2⟩
  ·have hcm:¬cmpN (val X) (val Y)<0:=by
    rcases cmpN_range (val X) (val Y) with h|h|h <;> omega
   generalize cmpN (val X) (val Y)=cc at *
   have hcd:decide (cc<0)=false:=decide_eq_false hcm
   have HWW:=ab (fun (W:World) (hg:Below w.heap.size w W)=>jh _ _ X Y W (h1.arg.below hg) (h2.arg.below hg) (by omega) (kD h1.arg.limbs h2.norm (by omega)) (by omega))
   have hyz:y+z=zz b1 (val X - val Y):=by rw [←h1.val,←h2.val,hb2,gm b1 (by omega)]
   rw [hyz]
   have HK:=ab (And.intro k0 (And.intro k1 k2))
   have HB0:=ab hb0
   clear hb0 hlen h1 h2 hyz hlt hb hb2 k0 k1 k2
   go_enter Tryz.func106,Tryz.ntmps106
   go_wp2_with fail
   refine HC.mono ?_
   rintro e ta ⟨rfl,hs⟩
   obtain⟨k0,k1,k2⟩:=HK.out
   have gdW:Below w.heap.size w ta.drew:=(HB0.out.trans (hs.below _)).drew
   have hh:ta.drew.heap=w0.heap:=hs.heap
   rw [←hh] at k0 k1 k2
   have HW:=HWW.out ta.drew gdW
   have g0:Below ta.drew.heap.size ta.drew ta.drew:=Below.refl _ _
   have KS:=ab (fun (W:World) (hg:Below ta.drew.heap.size ta.drew W)=>show W.cell? ⟨w.heap.size,0,none⟩=some (.bool b1)∧W.cell? ⟨w.heap.size,1,none⟩=some (.slice a1 X.length c1)∧W.cell? ⟨w.heap.size+1,0,none⟩=some (.bool b2)∧W.cell? ⟨w.heap.size+1,1,none⟩=some (.slice a2 Y.length c2) from by
    obtain⟨y0,y1⟩:=duo (ac hg (show ta.drew.heap[w.heap.size]?=some (.cells #[.bool b1,.slice a1 X.length c1] 122) from k0))
    obtain⟨y2,y3⟩:=duo (ac hg (show ta.drew.heap[w.heap.size+1]?=some (.cells #[.bool b2,.slice a2 Y.length c2] 122) from k1))
    exact⟨y0,y1,y2,y3⟩)
   have so:∀(W:World) (k:Nat) (u:Value) (k':Nat),(W.setCell ⟨w.heap.size+2,k,none⟩ u).cell? ⟨w.heap.size,k',none⟩=W.cell? ⟨w.heap.size,k',none⟩:=fun W k u k'=>aZ (by omega)
   have so2:∀(W:World) (k:Nat) (u:Value) (k':Nat),(W.setCell ⟨w.heap.size+2,k,none⟩ u).cell? ⟨w.heap.size+1,k',none⟩=W.cell? ⟨w.heap.size+1,k',none⟩:=fun W k u k'=>aZ (by omega)
   have H1:=ab (show ta.drew.heap[w.heap.size+2]?=some (.cells #[.bool false,.slice none 0 0] 122) from k2)
   have HB:=ab gdW
   clear k0 k1 k2 gdW hs hh HC HK HWW
   go_wp2
   go_region_held3 (fun w'=>w'.cell? ⟨w.heap.size,0,none⟩=some (.bool b1)∧w'.cell? ⟨w.heap.size,1,none⟩=some (.slice a1 X.length c1)∧w'.cell? ⟨w.heap.size+1,0,none⟩=some (.bool b2)∧w'.cell? ⟨w.heap.size+1,1,none⟩=some (.slice a2 Y.length c2)) (first|with_reducible exact KS.out _ g1|with_reducible exact KS.out _ g0 | (refine⟨?_,?_,?_,?_⟩ <;> (first|rw [so,so] | rw [so2,so2]) <;> first|exact (KS.out _ g1).1|exact (KS.out _ g1).2.1|exact (KS.out _ g1).2.2.1|exact (KS.out _ g1).2.2.2)) (first
    | (go_at_call 121;refine HW.mono ?_;rintro e' t1 ⟨⟨a3,n3,c3,r3,rfl,A3,hn3,v3,q3⟩,g1⟩;have HN3:=ab hn3;clear hn3;have hz:=ac g1 H1.out;have hf:=aB hz;obtain⟨m0,m1⟩:=duo hz))
   have T3:=aP hz (a':=.bool b1) (b':=.slice a3 n3 c3)
   have T4:=aO (ae HB.out g1) (g:=w.heap.size+1+1) (u0:=.bool b1) (u1:=.slice a3 n3 c3) (by omega)
   have T5:Ans ((t1.setCell ⟨w.heap.size+1+1,0,none⟩ (.bool b1)).setCell ⟨w.heap.size+1+1,1,none⟩ (.slice a3 n3 c3)) _ (.slice a3 n3 c3) r3:=(A3.off8 hz (by decide)).off8 (az hz (.bool b1)) (by decide)
   obtain⟨p0,p1⟩:=duo T3
   have HE:=ab (And.intro T5 T4)
   have HN:=ab (And.intro HN3.out (And.intro v3 q3))
   clear T3 T4 T5 so so2 m0 m1 hf KS g0 g1 HW hz A3 HN3 v3 q3
   generalize (t1.setCell ⟨w.heap.size+1+1,0,none⟩ (.bool b1)).setCell ⟨w.heap.size+1+1,1,none⟩ (.slice a3 n3 c3)=w5 at *
   go_wp2
   refine bodyPost_ret (v:=.agg #[.bool b1,.slice a3 n3 c3]) (by simp [results,Tryz.results106,go_sem,p0,p1]) rfl ?_
   exact⟨⟨_,_,_,_,r3,rfl,HN.out.1,⟨HE.out.1.arg (by have:=HLEN.out r3 HN.out.2.2 (by rw [HN.out.2.1];omega);omega),HN.out.2.2,by rw [HN.out.2.1]⟩⟩,HE.out.2⟩

theorem oZ (b:Bool)(a:Option Addr)(c:Nat)(X:List Nat)(z ex:Int)(w:World)(hN:Nm w b (.slice a X.length c) X z)(hT:Tab w)(h1:-2305843009213693952≤ex)(h2:ex≤2305843009213693952)(hf:X.length≤35184372088800) :
  Calls Tryz.prog 90 #[.agg #[.bool b,.slice a X.length c,.int .i64 ex],.int .i64 0] w fun e w'=>aT w' w.heap.size e (omz z) (oe z ex)∧Below w.heap.size w w':=by
 obtain⟨w0,hw0,hb0,h0,h1'⟩:=al w (.cells #[.bool b,.slice a X.length c,.int .i64 ex] 125) (.cells #[.bool false,.slice none 0 0,.int .i64 0] 43)
 obtain⟨k0,k1,k2⟩:=tri8 h0
 have HN:=hU b a c X z ex w0 (hN.below hb0) (hT.below hb0) h1 h2 hf
 have HC:=ab h1'
 have HB:=ab hb0
 clear h0 h1' hb0 hN hT
 generalize omz z=M at *
 generalize oe z ex=E at *
 go_enter Tryz.func90,Tryz.ntmps90
 go_wp2_with fail
 refine HN.mono ?_
 rintro e t2 ⟨⟨b1,a1,n1,c1,e1,r1,rfl,hdr⟩,g2⟩
 have HC1:=ab (ac g2 HC.out)
 have HG:=ab (ae HB.out g2)
 have HDR:=ab (hdr.base HB.out.size)
 have hf1:=ak HC1.out
 obtain⟨m0,m1,m2⟩:=tri8 HC1.out
 clear hdr g2 HN
 go_wp2
 have T3:=ay HC1.out (.bool b1) (.slice a1 n1 c1) (.int .i64 e1)
 have T4:=an HG.out (show w.heap.size≤w.heap.size+1 by omega) (.bool b1) (.slice a1 n1 c1) (.int .i64 e1)
 have T5:=HDR.out.tri8 HC1.out (by decide) (.bool b1) (.slice a1 n1 c1) (.int .i64 e1)
 obtain⟨p0,p1,p2⟩:=tri8 T3
 have HE:=ab (And.intro T5 T4)
 clear T3 T4 T5
 generalize ((t2.setCell ⟨w.heap.size+1,0,none⟩ (.bool b1)).setCell ⟨w.heap.size+1,1,none⟩ (.slice a1 n1 c1)).setCell ⟨w.heap.size+1,2,none⟩ (.int .i64 e1)=w5 at *
 refine bodyPost_ret (v:=.tuple #[.agg #[.bool b1,.slice a1 n1 c1,.int .i64 e1],.int .i64 r1]) (by simp [results,Tryz.results90,go_sem,p0,p1,p2]) rfl ?_
 exact⟨⟨_,_,_,_,_,_,rfl,HE.out.1⟩,HE.out.2⟩

theorem nJ (b:Bool)(a:Option Addr)(n c:Nat)(ex r:Int)(w:World)(hr:r≠0) :
  Calls Tryz.prog 90 #[.agg #[.bool b,.slice a n c,.int .i64 ex],.int .i64 r] w fun e w'=>iq r e∧Below w.heap.size w w':=by
 obtain⟨w0,hw0,hb0,h0,h1'⟩:=al w (.cells #[.bool b,.slice a n c,.int .i64 ex] 125) (.cells #[.bool false,.slice none 0 0,.int .i64 0] 43)
 obtain⟨k0,k1,k2⟩:=tri8 h0
 have hr1:((r:Int) == 0)=false:=by rw [beq_eq_false_iff_ne];exact hr
 have hr2:((r:Int) != 0)=true:=by rw [bne,hr1];rfl
 have hf1:=ak h1'
 obtain⟨m0,m1,m2⟩:=tri8 h1'
 have HC1:=ab h1'
 have HG:=ab hb0
 clear h0 h1' hb0
 go_enter Tryz.func90,Tryz.ntmps90
 go_wp2
 have T3:=ay HC1.out (.bool false) (.slice none 0 0) (.int .i64 0)
 have T4:=an HG.out (show w.heap.size≤w.heap.size+1 by omega) (.bool false) (.slice none 0 0) (.int .i64 0)
 obtain⟨p0,p1,p2⟩:=tri8 T3
 have HE:=ab T4
 clear T3 T4
 generalize ((w0.setCell ⟨w.heap.size+1,0,none⟩ (.bool false)).setCell ⟨w.heap.size+1,1,none⟩ (.slice none 0 0)).setCell ⟨w.heap.size+1,2,none⟩ (.int .i64 0)=w5 at *
 refine bodyPost_ret (v:=.tuple #[.agg #[.bool false,.slice none 0 0,.int .i64 0],.int .i64 r]) (by simp [results,Tryz.results90,go_sem,p0,p1,p2]) rfl ?_
 exact⟨rfl,HE.out⟩

theorem dP (b:Bool)(a:Option Addr)(c:Nat)(X:List Nat)(w:World)(hA:Arg w (.slice a X.length c) X) :
  Calls Tryz.prog 103 #[.agg #[.bool b,.slice a X.length c]] w fun e w'=>e=.returned (.int .i64 ((blen (val X):Nat):Int))∧Below w.heap.size w w':=by
 obtain⟨w0,hw0,hb0,h0⟩:=ag w (.cells #[.bool b,.slice a X.length c] 122)
 obtain⟨k0,k1⟩:=duo h0
 have HL:=cO _ X w0 (hA.below hb0)
 have HB:=ab hb0
 clear h0 hb0 hA
 go_enter Tryz.func103,Tryz.ntmps103
 go_wp2_with fail
 refine HL.mono ?_
 rintro e wn ⟨rfl,hw⟩;rw [hw];clear hw wn HL
 go_wp2
 go_ret
 exact⟨rfl,HB.out⟩

theorem iy (b:Bool)(a:Option Addr)(c:Nat)(X:List Nat)(ex:Int)(w:World)(hA:Arg w (.slice a X.length c) X)(h1:-2305843009213693951≤ex)(h2:ex≤2305843009213693952) :
  Calls Tryz.prog 104 #[.agg #[.bool b,.slice a X.length c,.int .i64 ex]] w fun e w'=>e=.returned (.int .i64 (ex+((blen (val X):Nat):Int) - 1))∧Below w.heap.size w w':=by
 obtain⟨w0,hw0,hb0,h0⟩:=ag w (.cells #[.bool b,.slice a X.length c,.int .i64 ex] 125)
 have gd:Below w.heap.size w w0.drew:=hb0.drew
 have g0:Below w0.drew.heap.size w0.drew w0.drew:=Below.refl _ _
 have KS:=ab (fun (W:World) (hg:Below w0.drew.heap.size w0.drew W)=>show W.cell? ⟨w.heap.size,0,none⟩=some (.bool b)∧W.cell? ⟨w.heap.size,1,none⟩=some (.slice a X.length c)∧W.cell? ⟨w.heap.size,2,none⟩=some (.int .i64 ex) from tri8 (ac hg (show w0.drew.heap[w.heap.size]?=some (.cells #[.bool b,.slice a X.length c,.int .i64 ex] 125) from h0)))
 have HL:=dP b a c X w0.drew (hA.below gd)
 have hbl:=bO hA.limbs
 have hfw:=hA.few
 have w1:IntKind.i64.wrap (ex+((blen (val X):Nat):Int))=ex+((blen (val X):Nat):Int):=by rw [IntKind.wrap_i64];omega
 have w2:IntKind.i64.wrap (ex+((blen (val X):Nat):Int) - 1)=ex+((blen (val X):Nat):Int) - 1:=by rw [IntKind.wrap_i64];omega
 generalize blen (val X)=l at *
 have HB:=ab gd
 obtain⟨x0,x1,x2⟩:=KS.out _ g0
 clear h0 hb0 gd hA hbl hfw
 generalize hs1:ex+(l:Int)=s1 at *
 have hs2:ex+(l:Int)=s1:=hs1
 clear hs1
 go_enter Tryz.func104,Tryz.ntmps104
 go_wp2
 go_region_held3 (fun w'=>w'.cell? ⟨w.heap.size,0,none⟩=some (.bool b)∧w'.cell? ⟨w.heap.size,1,none⟩=some (.slice a X.length c)∧w'.cell? ⟨w.heap.size,2,none⟩=some (.int .i64 ex)) (first|with_reducible exact KS.out _ g1|with_reducible exact KS.out _ g0) (first
  | (go_at_call 103;refine HL.mono ?_;rintro e' t1 ⟨rfl,g1⟩))
 have HE:=ab (ae HB.out g1)
 clear g1 g0 KS HL
 go_wp2
 go_ret
 exact⟨rfl,HE.out⟩

def di (w:World)(M E:Int)(e:Ending)(w':World):Prop:=
 ((∃b a n k X z ex,e=.returned (.tuple #[.agg #[.bool b,.slice a n k,.int .i64 ex],.int .i64 0])∧n=X.length∧Nm w' b (.slice a n k) X z∧omz z=M∧oe z ex=E∧-2305843009213693951≤ex∧ex≤2305843009213693952∧X.length≤35184372088800) ∨
  (e=.returned (.tuple #[.agg #[.bool false,.slice none 0 0,.int .i64 0],.int .i64 3])∧67108864<blen M.natAbs))∧Below w.heap.size w w'

theorem qD (b1:Bool)(a1:Option Addr)(c1:Nat)(X:List Nat)(M1 E1:Int)(b2:Bool)(a2:Option Addr)(c2:Nat)(Y:List Nat)(M2 E2:Int)(w:World)(h1:Nm w b1 (.slice a1 X.length c1) X M1)(h2:Nm w b2 (.slice a2 Y.length c2) Y M2)(f2:Y.length≤17592186043904)(he1:-2305843009213693951≤E2)(he2:E2≤2305843009213693952)(hX:X.length=0) :
  Calls Tryz.prog 85 #[.agg #[.bool b1,.slice a1 X.length c1,.int .i64 E1],.agg #[.bool b2,.slice a2 Y.length c2,.int .i64 E2]] w (di w (omz M2) (oe M2 E2)):=by
 obtain⟨w0,hw0,hb0,k0,k1,k2⟩:=aM w (.cells #[.bool b1,.slice a1 X.length c1,.int .i64 E1] 125) (.cells #[.bool b2,.slice a2 Y.length c2,.int .i64 E2] 125) (.cells #[.bool false,.slice none 0 0,.int .i64 0] 125)
 obtain⟨x0,x1,x2⟩:=tri8 k0
 obtain⟨x3,x4,x5⟩:=tri8 k1
 have HZ1:=bJ b1 a1 X.length c1 w0
 have HK0:=ab k0
 have HK1:=ab k1
 have HK2:=ab k2
 have HB:=ab hb0
 have HN1:=ab h1
 have HN2:=ab h2
 clear k0 k1 k2 hb0 h1 h2
 rw [decide_eq_true hX] at HZ1
 clear hX
 go_enter Tryz.func85,Tryz.ntmps85
 go_wp2_with fail
 refine HZ1.mono ?_
 rintro e t1 ⟨rfl,g1⟩
 have HC1:=ab (ac g1 HK2.out)
 have HG:=ab (ae HB.out g1)
 have HNM:=ab (HN2.out.below HG.out)
 have hf1:=ak HC1.out
 obtain⟨m0,m1,m2⟩:=tri8 HC1.out
 obtain⟨l0,l1,l2⟩:=tri8 (ac g1 HK1.out)
 clear g1 HZ1
 go_wp2
 have T3:=ay HC1.out (.bool b2) (.slice a2 Y.length c2) (.int .i64 E2)
 have T4:=an HG.out (show w.heap.size≤w.heap.size+1+1 by omega) (.bool b2) (.slice a2 Y.length c2) (.int .i64 E2)
 have T5:=HNM.out.tri8 HC1.out b2 a2 Y.length c2 (.int .i64 E2)
 obtain⟨p0,p1,p2⟩:=tri8 T3
 have HE:=ab (And.intro T5 T4)
 clear T3 T4 T5
 generalize ((t1.setCell ⟨w.heap.size+1+1,0,none⟩ (.bool b2)).setCell ⟨w.heap.size+1+1,1,none⟩ (.slice a2 Y.length c2)).setCell ⟨w.heap.size+1+1,2,none⟩ (.int .i64 E2)=w5 at *
 refine bodyPost_ret (v:=.tuple #[.agg #[.bool b2,.slice a2 Y.length c2,.int .i64 E2],.int .i64 0]) (by simp [results,Tryz.results85,go_sem,p0,p1,p2]) rfl ?_
 exact⟨.inl ⟨_,_,_,_,Y,M2,_,rfl,rfl,HE.out.1,rfl,rfl,he1,he2,by omega⟩,HE.out.2⟩

theorem qK (b1:Bool)(a1:Option Addr)(c1:Nat)(X:List Nat)(M1 E1:Int)(b2:Bool)(a2:Option Addr)(c2:Nat)(Y:List Nat)(M2 E2:Int)(w:World)(h1:Nm w b1 (.slice a1 X.length c1) X M1)(h2:Nm w b2 (.slice a2 Y.length c2) Y M2)(f1:X.length≤17592186043904)(he1:-2305843009213693951≤E1)(he2:E1≤2305843009213693952)(hX:¬X.length=0)(hY:Y.length=0) :
  Calls Tryz.prog 85 #[.agg #[.bool b1,.slice a1 X.length c1,.int .i64 E1],.agg #[.bool b2,.slice a2 Y.length c2,.int .i64 E2]] w (di w (omz M1) (oe M1 E1)):=by
 obtain⟨w0,hw0,hb0,k0,k1,k2⟩:=aM w (.cells #[.bool b1,.slice a1 X.length c1,.int .i64 E1] 125) (.cells #[.bool b2,.slice a2 Y.length c2,.int .i64 E2] 125) (.cells #[.bool false,.slice none 0 0,.int .i64 0] 125)
 obtain⟨x0,x1,x2⟩:=tri8 k0
 obtain⟨x3,x4,x5⟩:=tri8 k1
 have HZ1:=bJ b1 a1 X.length c1 w0
 have HK0:=ab k0
 have HK1:=ab k1
 have HK2:=ab k2
 have HB:=ab hb0
 have HN1:=ab h1
 have HN2:=ab h2
 clear k0 k1 k2 hb0 h1 h2
 rw [decide_eq_false hX] at HZ1
 have HZ2:=ab (fun (W:World)=>bJ b2 a2 Y.length c2 W)
 rw [decide_eq_true hY] at HZ2
 clear hY
 go_enter Tryz.func85,Tryz.ntmps85
 go_wp2_with fail
 refine HZ1.mono ?_
 rintro e t1 ⟨rfl,g1⟩
 have HC0:=ab (ac g1 HK2.out)
 have HG0:=ab (ae HB.out g1)
 have HL0:=ab (ac g1 HK0.out)
 obtain⟨l3,l4,l5⟩:=tri8 (ac g1 HK1.out)
 have HZZ:=HZ2.out t1
 clear g1 HZ1
 go_wp2_with fail
 refine HZZ.mono ?_
 rintro e t2 ⟨rfl,g2⟩
 have HC1:=ab (ac g2 HC0.out)
 have HG:=ab (ae HG0.out g2)
 have HNM:=ab (HN1.out.below HG.out)
 have hf1:=ak HC1.out
 obtain⟨m0,m1,m2⟩:=tri8 HC1.out
 obtain⟨l0,l1,l2⟩:=tri8 (ac g2 HL0.out)
 clear g2 HZZ
 go_wp2
 have T3:=ay HC1.out (.bool b1) (.slice a1 X.length c1) (.int .i64 E1)
 have T4:=an HG.out (show w.heap.size≤w.heap.size+1+1 by omega) (.bool b1) (.slice a1 X.length c1) (.int .i64 E1)
 have T5:=HNM.out.tri8 HC1.out b1 a1 X.length c1 (.int .i64 E1)
 obtain⟨p0,p1,p2⟩:=tri8 T3
 have HE:=ab (And.intro T5 T4)
 clear T3 T4 T5
 generalize ((t2.setCell ⟨w.heap.size+1+1,0,none⟩ (.bool b1)).setCell ⟨w.heap.size+1+1,1,none⟩ (.slice a1 X.length c1)).setCell ⟨w.heap.size+1+1,2,none⟩ (.int .i64 E1)=w5 at *
 refine bodyPost_ret (v:=.tuple #[.agg #[.bool b1,.slice a1 X.length c1,.int .i64 E1],.int .i64 0]) (by simp [results,Tryz.results85,go_sem,p0,p1,p2]) rfl ?_
 exact⟨.inl ⟨_,_,_,_,X,M1,_,rfl,rfl,HE.out.1,rfl,rfl,he1,he2,by omega⟩,HE.out.2⟩
end Go.Proofs.YtkfbobefkbpdoaaGreatDoor

