/- Package div: Lehmer's steps of two numbers' highest bits. -/
import Derived.Test.YtdbjbbdhlpfhjaaGreatDoorB11
import Derived.Test.YtdbjbbdhlpfhjaaGreatDoorB05
import Derived.Deep.RegionWith
import Derived.Deep.CutBlock
import Derived.Deep.DeepCutAuto
import Derived.Deep.RegionHeld3
import Derived.BigQuiet
namespace Go.Proofs.YtdbjbbdhlpfhjaaGreatDoor
open Go.RowKit
open Lm
attribute [local go_sem ↓] Go.wp_at_zero Go.wp_at_succ

structure cV (x y a b c d:Nat):Prop where
 ab:a≤b
 cd:c≤d
 c1:1≤c
 b1:1≤b
 bd:b≤d
 dy:d≤y
 xy:y+(b+d)≤x

def cR (xh yh x y a b c d:Nat)(o:Bool):Prop:=
 LSteps xh yh x y a b c d o∧((a=1∧b=0∧c=0∧d=1∧y≤x)∨cV x y a b c d)

theorem cR.next {xh yh x y a b c d:Nat}{o:Bool}(h:cR xh yh x y a b c d o)(hy:0<y) :
  LSteps xh yh y (x % y) c d (a+x / y*c) (b+x / y*d) (!o)∧c≤d∧a+x / y*c≤b+x / y*d∧1≤a+x / y*c∧1≤d∧d≤b+x / y*d∧y≤x:=by
 have hs:=h.1.next hy
 have hyx:y≤x:=by
  rcases h.2 with ⟨_,_,_,_,h5⟩|h2
  ·exact h5
  ·have:=h2.xy;omega
 have hq:1≤x / y:=(Nat.le_div_iff_mul_le hy).2 (by omega)
 refine⟨hs,?_⟩
 rcases h.2 with ⟨rfl,rfl,rfl,rfl,_⟩|h2
 ·generalize x / y=q at *
  refine⟨by omega,by omega,by omega,by omega,by omega,hyx⟩
 ·have p1:x / y*c≤x / y*d:=Nat.mul_le_mul_left _ h2.cd
  have p2:c≤x / y*c:=Nat.le_mul_of_pos_left _ hq
  have p3:d≤x / y*d:=Nat.le_mul_of_pos_left _ hq
  have:=h2.ab
  have:=h2.cd
  have:=h2.c1
  generalize x / y*c=u at *
  generalize x / y*d=v at *
  exact⟨h2.cd,by omega,by omega,by omega,by omega,hyx⟩

def nc (xh yh:Nat)(w:World)(e:Ending)(w':World):Prop:=
 (∃(a b c d:Nat) (o:Bool),e=.returned (stv a b c d o)∧(b=0∨(∃x y,LSteps xh yh x y a b c d o∧cV x y a b c d)∧d<4294967296))∧Below w.heap.size w w'

def stc (a b c d:Nat)(o:Bool):Array Value:=#[.int .u64 a,.int .u64 b,.int .u64 c,.int .u64 d,.bool o]

theorem bh {w:World}{h:Nat}{a b c d f:Value}{t:TypeId}(e:w.heap[h]?=some (.cells #[a,b,c,d,f] t)):∀k,w.frozen? ⟨h,k,none⟩=false:=fun k=>by simp [World.frozen?,e]

theorem bE {w:World}{h:Nat}{a b c d f a' b' c' d' f':Value}{t:TypeId}(e:w.heap[h]?=some (.cells #[a,b,c,d,f] t)) :
  (((((w.setCell ⟨h,0,none⟩ a').setCell ⟨h,1,none⟩ b').setCell ⟨h,2,none⟩ c').setCell ⟨h,3,none⟩ d').setCell ⟨h,4,none⟩ f').heap[h]?=some (.cells #[a',b',c',d',f'] t):=
 aN (aN (aN (aN (aN e a') b') c') d') f'

theorem aC {w:World}{h g o:Nat}{x:Obj}{v:Value}(e:w.heap[h]?=some x)(hne:h≠g):(w.setCell ⟨g,o,none⟩ v).heap[h]?=some x:=by
 rw [Below.heap_setCell _ _ _ _ hne];exact e

theorem iH {w w':World}{g o:Nat}{v:Value}(hb:Below w.heap.size w w')(h:w.cell? ⟨g,o,none⟩=some v):w'.cell? ⟨g,o,none⟩=some v:=by
 rw [hb.cell (p:=⟨g,o,none⟩) ?_]
 ·exact h
 ·show g<w.heap.size
  rcases Nat.lt_or_ge g w.heap.size with h' | h'
  ·exact h'
  ·simp [World.cell?,Array.getElem?_eq_none h'] at h

theorem f9 {w w2:World}{o:Obj}(hb:Below (w.alloc o).drew.heap.size (w.alloc o).drew w2):w2.heap[w.heap.size]?=some o:=by
 rw [hb.block w.heap.size (by show w.heap.size<(w.alloc o).heap.size;rw [World.size_alloc];omega)]
 exact heap_alloc_new ..

theorem aY {w:World}{g:Nat}{x:Obj}(h:w.heap[g]?=some x):g<w.heap.size:=by
 rcases Nat.lt_or_ge g w.heap.size with h' | h'
 ·exact h'
 ·simp [Array.getElem?_eq_none h'] at h

theorem gp {w:World}{g:Nat}{x o:Obj}(h:w.heap[g]?=some x):(w.alloc o).heap[g]?=some x:=by
 have hb:Below w.heap.size w (w.alloc o):=(Below.refl _ _).alloc (Nat.le_refl _) _
 rw [hb.block g (aY h)];exact h

theorem qE {wr w2 W0:World}{B:Nat}(h0:Below wr.heap.size wr W0)(hb2:Below W0.heap.size W0 w2)(hlt:B+1<wr.heap.size)(o:Obj) :
  ∃g:Nat,Value.pointer (some ⟨w2.heap.size,0,none⟩)=Value.pointer (some ⟨g,0,none⟩)∧g≠B∧g≠B+1∧(w2.alloc o).heap[g]?=some o∧Below wr.heap.size wr (w2.alloc o):=by
 have hb:=h0.trans (hb2.mono h0.size)
 have:=hb.size
 exact⟨w2.heap.size,rfl,by omega,by omega,heap_alloc_new ..,hb.alloc hb.size _⟩

theorem oH {wr w2 W0:World}{B:Nat}(h0:Below wr.heap.size wr W0)(hb2:Below W0.heap.size W0 w2)(hlt:B+1<wr.heap.size){a b c d f a' b' c' d' f':Value}{t:TypeId}(hk:w2.heap[wr.heap.size]?=some (.cells #[a,b,c,d,f] t)) :
  ∃g:Nat,Value.pointer (some ⟨wr.heap.size,0,none⟩)=Value.pointer (some ⟨g,0,none⟩)∧g≠B∧g≠B+1∧(((((w2.setCell ⟨wr.heap.size,0,none⟩ a').setCell ⟨wr.heap.size,1,none⟩ b').setCell ⟨wr.heap.size,2,none⟩ c').setCell ⟨wr.heap.size,3,none⟩ d').setCell ⟨wr.heap.size,4,none⟩ f').heap[g]?=some (.cells #[a',b',c',d',f'] t) ∧
   Below wr.heap.size wr (((((w2.setCell ⟨wr.heap.size,0,none⟩ a').setCell ⟨wr.heap.size,1,none⟩ b').setCell ⟨wr.heap.size,2,none⟩ c').setCell ⟨wr.heap.size,3,none⟩ d').setCell ⟨wr.heap.size,4,none⟩ f'):=by
 have hb:=h0.trans (hb2.mono h0.size)
 exact⟨wr.heap.size,rfl,by omega,by omega,bE hk,((((hb.setCell (p:=⟨wr.heap.size,0,none⟩) (Nat.le_refl _) a').setCell (p:=⟨wr.heap.size,1,none⟩) (Nat.le_refl _) b').setCell (p:=⟨wr.heap.size,2,none⟩) (Nat.le_refl _) c').setCell (p:=⟨wr.heap.size,3,none⟩) (Nat.le_refl _) d').setCell (p:=⟨wr.heap.size,4,none⟩) (Nat.le_refl _) f'⟩

theorem cR.small {xh yh x y a b c d:Nat}{o:Bool}(h:cR xh yh x y a b c d o)(hx:xh<18446744073709551616):a<18446744073709551616∧b<18446744073709551616∧c<18446744073709551616∧d<18446744073709551616:=by
 rcases h.2 with ⟨rfl,rfl,rfl,rfl,_⟩|h2
 ·omega
 ·have:=h.1.d_le (by have:=h2.xy;have:=h2.b1;omega)
  have:=h2.ab
  have:=h2.cd
  have:=h2.bd
  omega

set_option maxRecDepth 20000 in
set_option maxHeartbeats 1000000 in
theorem ic (xh yh:Nat)(w:World)(hx:xh<18446744073709551616)(hyx:yh≤xh) :
  Calls Tryz.prog 109 #[.int .u64 xh,.int .u64 yh] w (nc xh yh w):=by
 obtain⟨w0,hw0⟩:∃w0,w0=w.alloc (.cells (stc 0 0 0 0 false) 129):=⟨_,rfl⟩
 obtain⟨w1,hw1⟩:∃w1,w1=w0.alloc (.cells (stc 1 0 0 1 false) 129):=⟨_,rfl⟩
 have hs0:w0.heap.size=w.heap.size+1:=by rw [hw0];exact World.size_alloc _ _
 have hb0:Below w.heap.size w w0:=by rw [hw0];exact (Below.refl _ _).alloc (Nat.le_refl _) _
 have hb1:Below w.heap.size w w1:=by rw [hw1];exact hb0.alloc hb0.size _
 have h0:w0.heap[w.heap.size]?=some (.cells (stc 0 0 0 0 false) 129):=by rw [hw0];exact heap_alloc_new ..
 have h1:w1.heap[w0.heap.size]?=some (.cells (stc 1 0 0 1 false) 129):=by rw [hw1];exact heap_alloc_new ..
 have h10:w1.heap[w.heap.size]?=some (.cells (stc 0 0 0 0 false) 129):=by
  have hb:Below w0.heap.size w0 w1:=by rw [hw1];exact (Below.refl _ _).alloc (Nat.le_refl _) _
  rw [hb.block w.heap.size (by omega)];exact h0
 have HW0:=aa hw0
 have HW1:=aa hw1
 have HB1:=aa hb1
 have H1:=aa h1
 have H10:=aa h10
 rw [hs0] at H1
 have HX:=aa hx
 have HTOP0:Hid (cR xh yh xh yh 1 0 0 1 false):=aa ⟨LSteps.start _ _,.inl ⟨rfl,rfl,rfl,rfl,hyx⟩⟩
 clear hw0 hw1 hb0 hb1 h0 h1 h10
 go_enter Tryz.func109,Tryz.ntmps109
 go_wp2
 rw [show ((w.alloc (Obj.cells #[.int .u64 0,.int .u64 0,.int .u64 0,.int .u64 0,.bool false] 129)).alloc (Obj.cells #[.int .u64 1,.int .u64 0,.int .u64 0,.int .u64 1,.bool false] 129))=w1 by rw [HW1.out,HW0.out];rfl]
 go_loopw [0,1] (fun X Y wr=>∃(x y a b c d:Nat) (o:Bool),X=.int .u64 x∧Y=.int .u64 y∧x<18446744073709551616∧y<18446744073709551616∧cR xh yh x y a b c d o∧wr.heap[w.heap.size]?=some (.cells (stc 0 0 0 0 false) 129)∧wr.heap[w.heap.size+1]?=some (.cells (stc a b c d o) 129)∧Below w.heap.size w wr) (fun _ Y _=>(intOf Y).toNat)
 case atStart=>exact⟨xh,yh,1,0,0,1,false,rfl,rfl,hx,by omega,HTOP0.out,H10.out,H1.out,HB1.out⟩
 case round=>
  obtain⟨x,y,a,b,c,d,o,rfl,rfl,hxl,hyl,htop,r0,r1,hbel⟩:=hrel
  have HTOP:=aa htop
  have R0:=aa r0
  have R1:=aa r1
  have BB:=aa hbel
  obtain⟨sa,sb,sc,sd⟩:=htop.small hx
  unfold stc at r0 r1 R0 R1
  obtain⟨hr0,hr1,hr2,hr3,hr4⟩:=aw r1
  obtain⟨hq0,hq1,hq2,hq3,hq4⟩:=aw r0
  have hqf:=bh r0
  have hrf:=bh r1
  clear HB1 H1 H10 HW0 HW1 HTOP0 hs0
  by_cases hy0:y=0
  ·subst hy0
   clear htop r0 r1 hbel
   go_wp2
   have HE:Hid (b=0∨(∃x y,LSteps xh yh x y a b c d o∧cV x y a b c d)∧d<4294967296):=by
    rcases HTOP.out.2 with ⟨_,h,_⟩|h2
    ·exact aa (.inl h)
    ·exact aa (.inr ⟨⟨_,_,HTOP.out.1,h2⟩,HTOP.out.1.half (by have:=h2.xy;have:=h2.dy;omega) HX.out⟩)
   have R5:=bE R0.out (a':=.int .u64 a) (b':=.int .u64 b) (c':=.int .u64 c) (d':=.int .u64 d) (f':=.bool o)
   have W5:=aa (((((BB.out.setCell (p:=⟨w.heap.size,0,none⟩) (Nat.le_refl _) (.int .u64 a)).setCell (p:=⟨w.heap.size,1,none⟩) (Nat.le_refl _) (.int .u64 b)).setCell (p:=⟨w.heap.size,2,none⟩) (Nat.le_refl _) (.int .u64 c)).setCell (p:=⟨w.heap.size,3,none⟩) (Nat.le_refl _) (.int .u64 d)).setCell (p:=⟨w.heap.size,4,none⟩) (Nat.le_refl _) (.bool o))
   generalize ((((wr.setCell ⟨w.heap.size,0,none⟩ (.int .u64 a)).setCell ⟨w.heap.size,1,none⟩ (.int .u64 b)).setCell ⟨w.heap.size,2,none⟩ (.int .u64 c)).setCell ⟨w.heap.size,3,none⟩ (.int .u64 d)).setCell ⟨w.heap.size,4,none⟩ (.bool o)=w5 at *
   obtain⟨hk0,hk1,hk2,hk3,hk4⟩:=aw R5
   refine bodyPost_ret (v:=.agg #[.int .u64 a,.int .u64 b,.int .u64 c,.int .u64 d,.bool o]) (by simp [results,Tryz.results109,go_sem,hk0,hk1,hk2,hk3,hk4]) rfl ?_
   exact⟨⟨a,b,c,d,o,rfl,HE.out⟩,W5.out⟩
  ·have hy:0<y:=by omega
   have hypos:(0:Int)<(y:Int):=by omega
   have hz:((y:Int) == 0)=false:=by rw [beq_eq_false_iff_ne];omega
   obtain⟨n1,n2,n3,n4,n5,n6,n7⟩:=htop.next hy
   have hdiv:(x:Int) / (y:Int)=((x / y:Nat):Int):=by omega
   have hmod:(x:Int) % (y:Int)=((x % y:Nat):Int):=by omega
   have hml:x % y<y:=Nat.mod_lt _ hy
   have hdl:=n1.d_le hy
   have hql:x / y≤x:=Nat.div_le_self _ _
   have HNX:=fun W=>nb a b c d (x / y) o W (by omega) (by omega)
   generalize x / y=q at *
   generalize x % y=r at *
   generalize a+q*c=c' at *
   generalize b+q*d=d' at *
   unfold stv at HNX
   have hlt1:w.heap.size+1<wr.heap.size:=lt_of_block R1.out
   have hne1:¬(w.heap.size+1=wr.heap.size):=by omega
   have hne2:¬(wr.heap.size=w.heap.size+1):=by omega
   obtain⟨ha0,ha1,ha2,ha3,ha4⟩:=aw (gp (o:=.cells #[.int .u64 0,.int .u64 0,.int .u64 0,.int .u64 0,.bool false] 129) R1.out)
   have wq:IntKind.u64.wrap (q:Int)=(q:Int):=by rw [IntKind.wrap_u64];omega
   have wr':IntKind.u64.wrap (r:Int)=(r:Int):=by rw [IntKind.wrap_u64];omega
   have HN:=aa n1
   clear htop r0 r1 hbel n1 hy0
   go_upto_region 3 with fail
   go_cut [6] from 10 to 14 (fun s wx=>∃g:Nat,s=.pointer (some ⟨g,0,none⟩)∧g≠w.heap.size∧g≠w.heap.size+1∧wx.heap[g]?=some (.cells #[.int .u64 c,.int .u64 d,.int .u64 c',.int .u64 d',.bool (!o)] 129)∧Below wr.heap.size wr wx)
   case first=>
    go_region_with (first | (go_at_call 154;refine (HNX _).mono ?_;rintro e w2 ⟨rfl,hb2⟩;first | (obtain⟨hl0,hl1,hl2,hl3,hl4⟩:=aw (f9 hb2);have hlf:=bh (f9 hb2)) | skip))
    all_goals (go_wp2_with fail;go_meet;first|exact qE (Below.refl _ _).drew hb2 hlt1 _|exact oH ((Below.refl _ _).alloc (Nat.le_refl _) _).drew hb2 hlt1 (f9 hb2))
   case rest=>
    obtain⟨g,rfl,hg1,hg2,hgc,hbx⟩:=hcut
    have S0:=aa ((hbx.block w.heap.size (by omega)).trans R0.out)
    have S1:=aa ((hbx.block (w.heap.size+1) hlt1).trans R1.out)
    have HGC:=aa hgc
    have BX:=aa (BB.out.trans (hbx.mono BB.out.size))
    obtain⟨k0,k1,k2,k3,k4⟩:=aw hgc
    obtain⟨m0,m1,m2,m3,m4⟩:=aw S1.out
    have mf:=bh S1.out
    obtain⟨z0,z1,z2,z3,z4⟩:=aw S0.out
    have zf:=bh S0.out
    clear hbx hgc hr0 hr1 hr2 hr3 hr4 hq0 hq1 hq2 hq3 hq4 hqf hrf R0 R1 BB ha0 ha1 ha2 ha3 ha4 HNX
    go_wp2
    go_quiet (fail)
    by_cases t1:r<d'
    ·have t1':(r:Int)<(d':Int):=by omega
     go_wp2
     obtain⟨wd,hwd⟩:∃wd,wd=wc.drewN nq:=⟨_,rfl⟩
     rw [←hwd]
     have R0:=S0
     rw [show wc.heap=wd.heap by rw [hwd];rfl] at R0
     have BB:=aa (show Below w.heap.size w wd by rw [hwd];exact BX.out.trans (((ak.refl _).drewN _).below _))
     clear hwd
     have HE:Hid (b=0∨(∃x y,LSteps xh yh x y a b c d o∧cV x y a b c d)∧d<4294967296):=by
      rcases HTOP.out.2 with ⟨_,h,_⟩|h2
      ·exact aa (.inl h)
      ·exact aa (.inr ⟨⟨_,_,HTOP.out.1,h2⟩,HTOP.out.1.half (by have:=h2.xy;have:=h2.dy;omega) HX.out⟩)
     have R5:=bE R0.out (a':=.int .u64 a) (b':=.int .u64 b) (c':=.int .u64 c) (d':=.int .u64 d) (f':=.bool o)
     have W5:=aa (((((BB.out.setCell (p:=⟨w.heap.size,0,none⟩) (Nat.le_refl _) (.int .u64 a)).setCell (p:=⟨w.heap.size,1,none⟩) (Nat.le_refl _) (.int .u64 b)).setCell (p:=⟨w.heap.size,2,none⟩) (Nat.le_refl _) (.int .u64 c)).setCell (p:=⟨w.heap.size,3,none⟩) (Nat.le_refl _) (.int .u64 d)).setCell (p:=⟨w.heap.size,4,none⟩) (Nat.le_refl _) (.bool o))
     generalize ((((wd.setCell ⟨w.heap.size,0,none⟩ (.int .u64 a)).setCell ⟨w.heap.size,1,none⟩ (.int .u64 b)).setCell ⟨w.heap.size,2,none⟩ (.int .u64 c)).setCell ⟨w.heap.size,3,none⟩ (.int .u64 d)).setCell ⟨w.heap.size,4,none⟩ (.bool o)=w5 at *
     obtain⟨hk0,hk1,hk2,hk3,hk4⟩:=aw R5
     refine bodyPost_ret (v:=.agg #[.int .u64 a,.int .u64 b,.int .u64 c,.int .u64 d,.bool o]) (by simp [results,Tryz.results109,go_sem,hk0,hk1,hk2,hk3,hk4]) rfl ?_
     exact⟨⟨a,b,c,d,o,rfl,HE.out⟩,W5.out⟩
    ·have t1':¬((r:Int)<(d':Int)):=by omega
     have hsum:=HN.out.sum_le hy (show 0<r by omega)
     obtain⟨e1,he1,hf1⟩:∃e1:Nat,(y:Int) - (r:Int)=(e1:Int)∧e1+r=y:=⟨y - r,by omega,by omega⟩
     obtain⟨e2,he2,hf2⟩:∃e2:Nat,(d:Int)+(d':Int)=(e2:Int)∧d+d'=e2:=⟨d+d',by omega,rfl⟩
     have hl1:e1<18446744073709551616:=by omega
     have hl2:e2<18446744073709551616:=by omega
     by_cases t2:e1<e2
     ·have t2':(e1:Int)<(e2:Int):=by omega
      clear hf1 hf2
      go_wp2
      obtain⟨wd,hwd⟩:∃wd,wd=wc.drewN nq:=⟨_,rfl⟩
      rw [←hwd]
      have R0:=S0
      rw [show wc.heap=wd.heap by rw [hwd];rfl] at R0
      have BB:=aa (show Below w.heap.size w wd by rw [hwd];exact BX.out.trans (((ak.refl _).drewN _).below _))
      clear hwd
      have HE:Hid (b=0∨(∃x y,LSteps xh yh x y a b c d o∧cV x y a b c d)∧d<4294967296):=by
       rcases HTOP.out.2 with ⟨_,h,_⟩|h2
       ·exact aa (.inl h)
       ·exact aa (.inr ⟨⟨_,_,HTOP.out.1,h2⟩,HTOP.out.1.half (by have:=h2.xy;have:=h2.dy;omega) HX.out⟩)
      have R5:=bE R0.out (a':=.int .u64 a) (b':=.int .u64 b) (c':=.int .u64 c) (d':=.int .u64 d) (f':=.bool o)
      have W5:=aa (((((BB.out.setCell (p:=⟨w.heap.size,0,none⟩) (Nat.le_refl _) (.int .u64 a)).setCell (p:=⟨w.heap.size,1,none⟩) (Nat.le_refl _) (.int .u64 b)).setCell (p:=⟨w.heap.size,2,none⟩) (Nat.le_refl _) (.int .u64 c)).setCell (p:=⟨w.heap.size,3,none⟩) (Nat.le_refl _) (.int .u64 d)).setCell (p:=⟨w.heap.size,4,none⟩) (Nat.le_refl _) (.bool o))
      generalize ((((wd.setCell ⟨w.heap.size,0,none⟩ (.int .u64 a)).setCell ⟨w.heap.size,1,none⟩ (.int .u64 b)).setCell ⟨w.heap.size,2,none⟩ (.int .u64 c)).setCell ⟨w.heap.size,3,none⟩ (.int .u64 d)).setCell ⟨w.heap.size,4,none⟩ (.bool o)=w5 at *
      obtain⟨hk0,hk1,hk2,hk3,hk4⟩:=aw R5
      refine bodyPost_ret (v:=.agg #[.int .u64 a,.int .u64 b,.int .u64 c,.int .u64 d,.bool o]) (by simp [results,Tryz.results109,go_sem,hk0,hk1,hk2,hk3,hk4]) rfl ?_
      exact⟨⟨a,b,c,d,o,rfl,HE.out⟩,W5.out⟩
     ·have t2':¬((e1:Int)<(e2:Int)):=by omega
      have HACC:Hid (cR xh yh y r c d c' d' (!o)):=aa ⟨HN.out,.inr ⟨n2,n3,n4,n5,n6,by omega,by omega⟩⟩
      clear hf1 hf2
      go_wp2
      go_roundw
      case rel=>
       refine⟨y,r,c,d,c',d',!o,rfl,by rw [hmod],hyl,by omega,HACC.out,?_,?_,?_⟩
       ·exact aC (aC (aC (aC (aC S0.out (by omega)) (by omega)) (by omega)) (by omega)) (by omega)
       ·exact bE S1.out
       ·exact (((((BX.out.trans (((ak.refl _).drewN _).below _)).setCell (p:=⟨w.heap.size+1,0,none⟩) (by show w.heap.size≤w.heap.size+1;omega) _).setCell (p:=⟨w.heap.size+1,1,none⟩) (by show w.heap.size≤w.heap.size+1;omega) _).setCell (p:=⟨w.heap.size+1,2,none⟩) (by show w.heap.size≤w.heap.size+1;omega) _).setCell (p:=⟨w.heap.size+1,3,none⟩) (by show w.heap.size≤w.heap.size+1;omega) _).setCell (p:=⟨w.heap.size+1,4,none⟩) (by show w.heap.size≤w.heap.size+1;omega) _
      case measure=>simp [intOf];omega

end Go.Proofs.YtdbjbbdhlpfhjaaGreatDoor
