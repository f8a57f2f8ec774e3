/- What the law WholeFermat wants: PowMod by a prime, boxes in drawn regions. -/
import Derived.Test.YtemgogeokkeipaaGreatDoorB09
import Derived.Test.YtemgogeokkeipaaGreatDoorB10
namespace Go.Proofs.YtemgogeokkeipaaGreatDoor
open Go.RowKit
open Lm
attribute [local go_sem ↓] Go.wp_at_zero Go.wp_at_succ

theorem g9 (b:Bool)(a:Option Addr)(n k:Nat)(w:World):(Instr.field 40 (.agg #[.bool b,.slice a n k]) 1).run Tryz.prog w=.ok (.slice a n k) w:=by kernel_rfl

abbrev dB (p:Nat):Obj:=.cells #[.int .u64 (p:Int)] 34

theorem gH {w:World}{g p:Nat}(h:w.heap[g]?=some (dB p))(hp:p<18446744073709551616):Arg w (.slice (some ⟨g,0,none⟩) 1 1) [p]:=by
 have hblk:Blk w g [p]:=h
 have hlt:=lt_of_block h
 exact (Ans.of_blk (base:=0) (zs:=[p]) (Nat.zero_le _) hblk (by simp) (by simp) (by simp) (by intro z hz;simp at hz;omega)).arg (by simp)

def gf (w:World)(z:Int)(e:Ending)(w':World):Prop:=
 (∃b a n k rs,e=.returned (.tuple #[.agg #[.bool b,.slice a n k],.int .i64 0])∧Arg w' (.slice a n k) rs∧zz b (val rs)=z)∧Below w.heap.size w w'

theorem gV (b:Bool)(v:Value)(X:List Nat)(g:Nat)(bm:Bool)(u:Value)(M:List Nat)(p:Nat)(w:World)(hA:Arg w v X)(hB:w.heap[g]?=some (dB p))(hM:Arg w u M)(hT:Tab w)(hx:X.length≤17592186044000)(hm:M.length≤1000000000000)(hv:val M=p)(h2:2≤p)(h3:p≤1000)(hd:∀k,2≤k→k*k≤p→p % k≠0) :
  Calls Tryz.prog 10 #[.agg #[.bool b,v],.slice (some ⟨g,0,none⟩) 1 1,.agg #[.bool bm,u]] w (gf w ((er b (val X) p:Nat):Int)):=by
 have C:=iE b v X _ [p] bm u M w hA (gH hB (by omega)) hM hT hx hm (by omega)
 have hlt:=dQ b (val X) p (by omega)
 have e1:val [p]=p:=by simp [val]
 rw [hv,e1,jC h2 h3 hd,Nat.mod_eq_of_lt hlt] at C
 refine C.mono ?_
 rintro e w' ⟨⟨b',a,n,k,c,rfl,rs,hA,hc⟩,hb⟩
 refine⟨?_,hb⟩
 have hf:=ZR.few hc
 rcases hc with ⟨rfl,hb9,hv9,_,_⟩|⟨_,_,_,_,hbig⟩
 ·exact⟨b',a,n,k,rs,rfl,hA.arg (by omega),by rw [hb9,hv9,dK]⟩
 ·have:blen (((er b (val X) p:Nat):Int)).natAbs≤10:=(blen_le_iff _ _).2 (by simp;omega)
  omega

def RX (w:World)(z:Int)(big:Prop)(b:Bool)(a:Option Addr)(n k:Nat)(c:Int):Prop:=
 (c=0∧∃rs,Arg w (.slice a n k) rs∧zz b (val rs)=z)∨(c≠0∧big)

theorem RX.below {w w':World}{z:Int}{big:Prop}{b:Bool}{a:Option Addr}{n k:Nat}{c:Int}(h:RX w z big b a n k c)(hb:Below w.heap.size w w'):RX w' z big b a n k c:=by
 rcases h with ⟨h1,rs,h2,h3⟩|h
 ·exact .inl ⟨h1,rs,h2.below hb,h3⟩
 ·exact .inr h

theorem RX.duo {w:World}{z:Int}{big:Prop}{b:Bool}{a:Option Addr}{n k:Nat}{c:Int}{g:Nat}{p:Bool}{a':Option Addr}{n' c':Nat}{t:TypeId}{p1:Bool}{r1:Value}(h:RX w z big b a n k c)(hl:w.heap[g]?=some (.cells #[.bool p,.slice a' n' c'] t)):RX ((w.setCell ⟨g,0,none⟩ (.bool p1)).setCell ⟨g,1,none⟩ r1) z big b a n k c:=by
 rcases h with ⟨h1,rs,h2,h3⟩|h
 ·exact .inl ⟨h1,rs,h2.duo hl,h3⟩
 ·exact .inr h

def iy (w:World)(z:Int)(big:Prop)(e:Ending)(w':World):Prop:=
 (∃b1 a1 n1 k1 b a n k c,e=.returned (.tuple #[.agg #[.bool b1,.slice a1 n1 k1],.agg #[.bool b,.slice a n k],.int .i64 c])∧RX w' z big b a n k c)∧Below w.heap.size w w'

theorem fG (b:Bool)(v:Value)(X:List Nat)(u:Value)(M:List Nat)(p:Nat)(w:World)(hA:Arg w v X)(hM:Arg w u M)(hT:Tab w)(hx:X.length≤17592186043904)(hm:M.length≤1000000000000)(hv:val M=p)(h2:2≤p)(h3:p≤1000) :
  Calls Tryz.prog 12 #[.agg #[.bool b,v],.agg #[.bool false,u]] w (iy w ((er b (val X) p:Nat):Int) (67108864<blen (val X))):=by
 obtain⟨qz,hqz⟩:∃qz,zz b (val X / p+if b && decide (0<val X % p) then 1 else 0)=qz:=⟨_,rfl⟩
 have hrz:((er b (val X) p:Nat):Int)=zz (if b && decide (0<val X % p) then !b else b) (if b && decide (0<val X % p) then p - val X % p else val X % p):=by
  unfold er
  cases b
  ·simp [zz]
  ·by_cases h:0<val X % p
   ·simp [zz,h]
   ·simp [zz,h];omega
 have C:=gk b v X false u M b b qz ((er b (val X) p:Nat):Int) w hA hM hT hx (by omega) (by omega) (by cases b <;> rfl) rfl (by rw [hv];exact hqz.symm) (by rw [hv];exact hrz)
 refine C.mono ?_
 rintro e w' ⟨⟨b1,a1,n1,k1,b2,a2,n2,k2,c,rfl,r1,r2,_,A2,_,hc⟩,hb⟩
 refine⟨⟨b1,a1,n1,k1,b2,a2,n2,k2,c,rfl,?_⟩,hb⟩
 have hlt:=dQ b (val X) p (by omega)
 have hbe:blen (((er b (val X) p:Nat):Int)).natAbs≤10:=(blen_le_iff _ _).2 (by simp;omega)
 rcases hc with ⟨rfl,_,_,_,h4,h5,h6,_,h8⟩|⟨rfl,_,_,_,_,_,_,hbig⟩
 ·exact .inl ⟨rfl,r2,A2.arg (by have:=bH h6 h5 (n:=1048576) (by omega);omega),by rw [h4,h5,dK]⟩
 ·refine .inr ⟨by decide,?_⟩
  have hq:qz.natAbs≤val X:=by
   rw [←hqz,au]
   have hdm:=Nat.div_add_mod (val X) p
   have h9:val X / p≤val X / 2:=Nat.div_le_div_left h2 (by omega)
   split
   ·rename_i hh
    have h10:0<val X % p:=by simpa using (Bool.and_eq_true_iff.1 hh).2
    have h11:val X % p≤val X:=Nat.mod_le _ _
    omega
   ·omega
  have:=blen_mono hq
  omega

def bO (U:World)(z:Int)(big:Prop)(s q f:Value)(wx:World):Prop:=
 ∃(g h:Nat) (b:Bool) (a:Option Addr) (n k:Nat) (c:Int),s=.pointer (some ⟨g,0,none⟩)∧q=.pointer (some ⟨h,0,none⟩)∧f=.int .i64 c∧wx.heap[h]?=some (.cells #[.bool b,.slice a n k] 28)∧RX wx z big b a n k c∧Below U.heap.size U wx

def dE (U:World)(z:Int)(s f:Value)(wx:World):Prop:=
 ∃(g:Nat) (b:Bool) (a:Option Addr) (n k:Nat) (rs:List Nat),s=.pointer (some ⟨g,0,none⟩)∧f=.int .i64 0∧wx.heap[g]?=some (.cells #[.bool b,.slice a n k] 28)∧Arg wx (.slice a n k) rs∧zz b (val rs)=z∧Below U.heap.size U wx

abbrev bZ:Obj:=.cells #[.bool false,.slice none 0 0] 28

theorem aM {W0 W:World}(h:Below W0.heap.size W0 W)(o:Obj):Below W0.heap.size W0 (W.alloc o):=h.alloc h.size _
theorem cR {W0 W:World}(h:Below W0.heap.size W0 W):Below W0.heap.size W0 W.drew:=h.drew
theorem aV {W:World}{g:Nat}{x:Obj}(h:W.heap[g]?=some x)(o:Obj):(W.alloc o).heap[g]?=some x:=ae (aG W o) h
theorem dC {W t:World}{o:Obj}(h:Below (W.alloc o).heap.size (W.alloc o) t):t.heap[W.heap.size]?=some o:=ae h (heap_alloc_new W o)
theorem dt {W t:World}{o1 o2:Obj}(h:Below ((W.alloc o1).alloc o2).heap.size ((W.alloc o1).alloc o2) t):t.heap[W.heap.size]?=some o1:=ae h (aV (heap_alloc_new W o1) o2)
theorem cL {W:World}{o1 o2:Obj}:((W.alloc o1).alloc o2).heap[W.heap.size+1]?=some o2:=by
 have h2:=heap_alloc_new (W.alloc o1) o2
 rw [World.size_alloc] at h2
 exact h2
theorem dL {W t:World}{o1 o2:Obj}(h:Below ((W.alloc o1).alloc o2).heap.size ((W.alloc o1).alloc o2) t):t.heap[W.heap.size+1]?=some o2:=ae h cL
theorem fF {W t:World}{o:Obj}(h:Below (W.alloc o).drew.heap.size (W.alloc o).drew t):t.heap[W.heap.size]?=some o:=ae h (heap_alloc_new W o)
theorem d6 {W t:World}{o1 o2:Obj}(h:Below ((W.alloc o1).alloc o2).drew.heap.size ((W.alloc o1).alloc o2).drew t):t.heap[W.heap.size]?=some o1:=ae h (show ((W.alloc o1).alloc o2).heap[W.heap.size]?=some o1 from aV (heap_alloc_new W o1) o2)
theorem eE {W t:World}{o1 o2:Obj}(h:Below ((W.alloc o1).alloc o2).drew.heap.size ((W.alloc o1).alloc o2).drew t):t.heap[W.heap.size+1]?=some o2:=ae h (show ((W.alloc o1).alloc o2).drew.heap[W.heap.size+1]?=some o2 from cL)

theorem aS {W:World}{g k:Nat}{v:Value}(h:W.cell? ⟨g,k,none⟩=some v)(o:Obj):(W.alloc o).cell? ⟨g,k,none⟩=some v:=av (aG W o) h

theorem bN {W:World}{g:Nat}{a b:Value}{t:TypeId}(h:W.heap[g]?=some (.cells #[a,b] t))(o:Obj):∀k,(W.alloc o).frozen? ⟨g,k,none⟩=false:=ag (aV h o)

theorem iQ {U t:World}{z:Int}{b:Bool}{a:Option Addr}{n k:Nat}{rs:List Nat}(h:Arg t (.slice a n k) rs)(hz:zz b (val rs)=z)(g:Below U.heap.size U t):dE U z (.pointer (some ⟨t.heap.size,0,none⟩)) (.int .i64 0) (t.alloc (.cells #[.bool b,.slice a n k] 28)):=
 ⟨_,b,a,n,k,rs,rfl,rfl,heap_alloc_new _ _,h.below (aG _ _),hz,aM g _⟩

theorem cB {U t:World}{z:Int}{b:Bool}{a:Option Addr}{n k:Nat}{rs:List Nat}{gg:Nat}(hq:t.heap[gg]?=some bZ)(hge:U.heap.size≤gg)(h:Arg t (.slice a n k) rs)(hz:zz b (val rs)=z)(g:Below U.heap.size U t):dE U z (.pointer (some ⟨gg,0,none⟩)) (.int .i64 0) ((t.setCell ⟨gg,0,none⟩ (.bool b)).setCell ⟨gg,1,none⟩ (.slice a n k)):=
 ⟨_,b,a,n,k,rs,rfl,rfl,aJ hq,h.duo hq,hz,aF g hge⟩

theorem jT {U t:World}{z:Int}{big:Prop}{o:Obj}{b:Bool}{a:Option Addr}{n k:Nat}{c:Int}(h:RX t z big b a n k c)(g:Below U.heap.size U t) :
  bO U z big (.pointer (some ⟨t.heap.size,0,none⟩)) (.pointer (some ⟨t.heap.size+1,0,none⟩)) (.int .i64 c) ((t.alloc o).alloc (.cells #[.bool b,.slice a n k] 28)):=
 ⟨_,_,b,a,n,k,c,rfl,rfl,rfl,cL,(h.below (aG _ _)).below (aG _ _),aM (aM g _) _⟩

theorem jH {U t:World}{z:Int}{big:Prop}{o:Obj}{b:Bool}{a:Option Addr}{n k:Nat}{c:Int}(h:RX t z big b a n k c)(g:Below U.heap.size U t) :
  bO U z big (.pointer (some ⟨t.heap.size+1,0,none⟩)) (.pointer (some ⟨t.heap.size,0,none⟩)) (.int .i64 c) ((t.alloc (.cells #[.bool b,.slice a n k] 28)).alloc o):=
 ⟨_,_,b,a,n,k,c,rfl,rfl,rfl,aV (heap_alloc_new _ _) _,(h.below (aG _ _)).below (aG _ _),aM (aM g _) _⟩

theorem ct {U t:World}{z:Int}{big:Prop}{gg:Nat}{bq:Bool}{vq:Value}{b:Bool}{a:Option Addr}{n k:Nat}{c:Int}(hq:t.heap[gg]?=some bZ)(hge:U.heap.size≤gg)(h:RX t z big b a n k c)(g:Below U.heap.size U t) :
  bO U z big (.pointer (some ⟨gg,0,none⟩)) (.pointer (some ⟨t.heap.size,0,none⟩)) (.int .i64 c) (((t.setCell ⟨gg,0,none⟩ (.bool bq)).setCell ⟨gg,1,none⟩ vq).alloc (.cells #[.bool b,.slice a n k] 28)):=by
 have hs:((t.setCell ⟨gg,0,none⟩ (.bool bq)).setCell ⟨gg,1,none⟩ vq).heap.size=t.heap.size:=by simp
 refine⟨_,_,b,a,n,k,c,rfl,rfl,rfl,?_,(h.duo hq).below (aG _ _),aM (aF g hge) _⟩
 rw [←hs]
 exact heap_alloc_new _ _

theorem cC {U t:World}{z:Int}{big:Prop}{o:Obj}{gg:Nat}{b:Bool}{a:Option Addr}{n k:Nat}{c:Int}(hq:t.heap[gg]?=some bZ)(hge:U.heap.size≤gg)(h:RX t z big b a n k c)(g:Below U.heap.size U t) :
  bO U z big (.pointer (some ⟨t.heap.size,0,none⟩)) (.pointer (some ⟨gg,0,none⟩)) (.int .i64 c) (((t.setCell ⟨gg,0,none⟩ (.bool b)).setCell ⟨gg,1,none⟩ (.slice a n k)).alloc o):=
 ⟨_,_,b,a,n,k,c,rfl,rfl,rfl,aV (aJ hq) _,(h.duo hq).below (aG _ _),aM (aF g hge) _⟩

theorem cJ {U t:World}{z:Int}{big:Prop}{o:Obj}{gg:Nat}{b:Bool}{a:Option Addr}{n k:Nat}{c:Int}(hq:t.heap[gg]?=some bZ)(hge:U.heap.size≤gg)(h:RX t z big b a n k c)(g:Below U.heap.size U t) :
  bO U z big (.pointer (some ⟨t.heap.size,0,none⟩)) (.pointer (some ⟨gg,0,none⟩)) (.int .i64 c) ((((t.alloc o).setCell ⟨gg,0,none⟩ (.bool b)).setCell ⟨gg,1,none⟩ (.slice a n k))):=
 ⟨_,_,b,a,n,k,c,rfl,rfl,rfl,aJ (aV hq _),(h.below (aG _ _)).duo (aV hq _),aF (aM g _) hge⟩

theorem bf {U t:World}{z:Int}{big:Prop}{g1 h1:Nat}{bq:Bool}{vq:Value}{b:Bool}{a:Option Addr}{n k:Nat}{c:Int}(hq:t.heap[g1]?=some bZ)(hr:t.heap[h1]?=some bZ)(hg:U.heap.size≤g1)(hh:U.heap.size≤h1)(hne:g1≠h1)(h:RX t z big b a n k c)(g:Below U.heap.size U t) :
  bO U z big (.pointer (some ⟨g1,0,none⟩)) (.pointer (some ⟨h1,0,none⟩)) (.int .i64 c) ((((t.setCell ⟨g1,0,none⟩ (.bool bq)).setCell ⟨g1,1,none⟩ vq).setCell ⟨h1,0,none⟩ (.bool b)).setCell ⟨h1,1,none⟩ (.slice a n k)):=by
 have h4:=dw (u0:=.bool bq) (u1:=vq) hr (Ne.symm hne)
 exact⟨_,_,b,a,n,k,c,rfl,rfl,rfl,aJ h4,(h.duo hq).duo h4,aF (aF g hg) hh⟩

end Go.Proofs.YtemgogeokkeipaaGreatDoor
