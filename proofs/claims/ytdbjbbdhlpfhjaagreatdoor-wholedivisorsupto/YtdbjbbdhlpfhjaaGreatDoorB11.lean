/- Package div: oddPart, timesTwos. -/
import Derived.Test.YtdbjbbdhlpfhjaaGreatDoorB09
import Derived.Test.YtdbjbbdhlpfhjaaGreatDoorB01
import Derived.Deep.RegionWith
import Derived.Test.YtdbjbbdhlpfhjaaGreatDoorB08
import Derived.Test.YtdbjbbdhlpfhjaaGreatDoorB10
import Derived.Test.YtdbjbbdhlpfhjaaGreatDoorB02
set_option maxRecDepth 20000
set_option maxHeartbeats 4000000
namespace Go.Proofs.YtdbjbbdhlpfhjaaGreatDoor
open Go.RowKit
open Lm
attribute [local go_sem ↓] Go.wp_at_zero Go.wp_at_succ

theorem iJ {Z:List Nat}(h:val Z<18446744073709551616)(h1:1≤Z.length):Z.getD 0 0=val Z:=by
 match Z with
 | []=>simp at h1
 | a :: r=>
  simp only [val] at h ⊢
  have:val r=0:=by omega
  rw [this]
  simp

theorem jW {n V A B L:Nat}{p q c:Int}(N:Nat)(hn:N=18446744073709551616 ^ n)(hL:L<N)(hV:V<N)(h:(L:Int)+N*c=p*A - q*B)(R:Nat)(hVe:(V:Int)=p*(A+N*R) - q*B):L=V:=by
 have e:(V:Int)=L+N*(c+p*R):=by
  have:p*((A:Int)+N*R) - q*B=p*A - q*B+N*(p*R):=by grind
  rw [hVe,this,←h];grind
 generalize c+p*R=z at e
 have hz:z=0:=by
  rcases Int.lt_trichotomy z 0 with h1|h1|h1
  ·have:=Int.mul_le_mul_of_nonneg_left (show z≤-1 by omega) (show (0:Int)≤(N:Int) by omega)
   omega
  ·exact h1
  ·have:=Int.mul_le_mul_of_nonneg_left (show 1≤z by omega) (show (0:Int)≤(N:Int) by omega)
   omega
 subst hz
 omega

theorem Ans.front {w:World}{base g cap:Nat}{zs:List Nat}(h:Ans w base (.slice (some ⟨g,0,none⟩) zs.length cap) zs)(n:Nat)(hn:n≤zs.length):Ans w base (.slice (some ⟨g,0,none⟩) n cap) (zs.take n):=by
 refine⟨?_,fun z hz=>h.limbs z (List.mem_of_mem_take hz)⟩
 obtain⟨_,h2⟩:=h.own
 have e:(zs.take n).length=n:=by simp;omega
 refine⟨by simp,?_⟩
 rcases h2 with ⟨h1,_⟩|⟨g',cap',cur,hv,hg,hh,hnn,hcm,hs,ht⟩
 ·cases h1
 ·cases hv
  refine .inr ⟨g,cap,cur,by rw [e],hg,hh,by rw [e];omega,hcm,hs,?_⟩
  rw [e]
  have e2:cur.toList.take (n*1)=(cur.toList.take (zs.length*1)).take n:=by
   rw [List.take_take,Nat.mul_one,Nat.mul_one,Nat.min_eq_left hn]
  rw [e2,ht,List.map_take]

def rdN (w:World):Value→Nat
 | .slice (some a) n _=>val ((List.range n).map fun k=>match w.cell? ⟨a.block,a.off+k,none⟩ with
  | some v=>(intOf v).toNat
  | none=>0)
 | _=>0

theorem fZ {w:World}{v:Value}{zs:List Nat}(h:Arg w v zs):rdN w v=val zs:=by
 obtain⟨ao,cap,rfl,_,_,hl⟩:=h.form
 rcases hl with rfl|⟨b,off,rfl,hc⟩
 ·cases ao with
  | none=>rfl
  | some a=>rfl
 ·show val _=val zs
  congr 1
  apply List.ext_getElem
  ·simp
  ·intro i h1 h2
   simp only [List.getElem_map,List.getElem_range]
   rw [hc i h2]
   simp [intOf,List.getD,h2]

theorem Ans.kept {w w':World}{base:Nat}{v:Value}{zs:List Nat}(h:Ans w base v zs)(hk:∀k,v.ownBlock=some k→w'.heap[k]?=w.heap[k]?):Ans w' base v zs:=by
 refine⟨?_,h.limbs⟩
 obtain⟨h1,h2⟩:=h.own
 refine⟨h1,?_⟩
 rcases h2 with h2|⟨g',cap,cur,hv,hg',hh,r⟩
 ·exact .inl h2
 ·exact .inr ⟨g',cap,cur,hv,hg',by rw [hk g' (by rw [hv];rfl)];exact hh,r⟩

theorem aP.ltx {w:World}{g bF:Nat}{vx vy:Value}{fx fy:Nat}{o:Bool}(h:aP w g bF vx vy fx fy o):∀k,vx.ownBlock=some k→bF≤k∧k<w.heap.size:=by
 obtain⟨X,Y,h1,h2,_⟩:=h.at2
 exact h1.own.lt

theorem aP.lty {w:World}{g bF:Nat}{vx vy:Value}{fx fy:Nat}{o:Bool}(h:aP w g bF vx vy fx fy o):∀k,vy.ownBlock=some k→bF≤k∧k<w.heap.size:=by
 obtain⟨X,Y,h1,h2,_⟩:=h.at2
 exact h2.own.lt

theorem aP.kept {w w':World}{g bF:Nat}{vx vy:Value}{fx fy:Nat}{o:Bool}(h:aP w g bF vx vy fx fy o)(hg:w'.heap[g]?=w.heap[g]?)(hx:∀k,vx.ownBlock=some k→w'.heap[k]?=w.heap[k]?)(hy:∀k,vy.ownBlock=some k→w'.heap[k]?=w.heap[k]?):aP w' g bF vx vy fx fy o:=by
 obtain⟨X,Y,h1,h2,h3⟩:=h.at2
 exact⟨by rw [hg];exact h.box,h.gb,⟨X,Y,h1.kept hx,h2.kept hy,h3⟩,h.apart⟩

theorem aP.low {w:World}{g bF:Nat}{vx vy:Value}{fx fy:Nat}{o:Bool}(h:aP w g bF vx vy fx fy o){k:Nat}(hk:k<bF∧k≠g):Pk g vx vy k:=
 ⟨hk.2,fun e=>by have:=(h.ltx k e).1;omega,fun e=>by have:=(h.lty k e).1;omega⟩

theorem aP.high {w:World}{g bF:Nat}{vx vy:Value}{fx fy:Nat}{o:Bool}(h:aP w g bF vx vy fx fy o){k:Nat}(hk:w.heap.size≤k):Pk g vx vy k:=by
 have:=bh h.box
 exact⟨by omega,fun e=>by have:=(h.ltx k e).2;omega,fun e=>by have:=(h.lty k e).2;omega⟩

theorem Tab.kept {w w':World}(h:Tab w)(hs:w.heap.size≤w'.heap.size)(hk:w'.heap[(0:Nat)]?=w.heap[(0:Nat)]?):Tab w':=by
 refine⟨Nat.lt_of_lt_of_le h.1 hs,fun i hi=>?_⟩
 have e:=h.2 i hi
 simp only [World.cell?] at e ⊢
 rw [hk];exact e

theorem aO.kept {R:Nat}{w w':World}(h:aO w R)(hk:w'.heap[R]?=w.heap[R]?):aO w' R:=by
 obtain⟨xs,h1,h2⟩:=h
 exact⟨xs,by unfold Blk at h1 ⊢;rw [hk];exact h1,h2⟩

structure be (w wr:World)(g bF R:Nat)(vx vy:Value)(X Y:List Nat)(f0x f0y vfx vfy:Value)(fx fy:Nat)(o:Bool):Prop where
 ax:Ans wr w.heap.size vx X
 ay:Ans wr w.heap.size vy Y
 tx:tr X=X
 ty:tr Y=Y
 apart:∀k,vx.ownBlock=some k→vy.ownBlock≠some k
 fa:aP wr g bF vfx vfy fx fy o
 room:aO wr R
 px:∀k,vx.ownBlock=some k→Pk g vfx vfy k∧k≠R
 py:∀k,vy.ownBlock=some k→Pk g vfx vfy k∧k≠R
 pR:Pk g vfx vfy R
 rw:w.heap.size≤R
 nx:Nx w.heap.size f0x f0y vfx
 ny:Nx w.heap.size f0x f0y vfy
 fr:FrP (Pk g f0x f0y) w wr
 tab:Tab wr
 tg:0<bF∧0≠g
 bw:bF≤w.heap.size∧g<w.heap.size

section
variable {w wr:World} {g bF R:Nat} {vx vy:Value} {X Y:List Nat} {f0x f0y vfx vfy:Value} {fx fy:Nat} {o:Bool}

theorem be.size (h:be w wr g bF R vx vy X Y f0x f0y vfx vfy fx fy o):w.heap.size≤wr.heap.size:=h.fr.size

theorem be.gl (h:be w wr g bF R vx vy X Y f0x f0y vfx vfy fx fy o):g<w.heap.size:=h.bw.2

theorem be.keep (h:be w wr g bF R vx vy X Y f0x f0y vfx vfy fx fy o){w':World}(hf:Fr R wr w')(hR:aO w' R):be w w' g bF R vx vy X Y f0x f0y vfx vfy fx fy o:=by
 have hgl:=h.gl
 have hs:=h.size
 have hrw:=h.rw
 have htg:=h.tg
 have hbw:=h.bw
 refine⟨h.ax.kept (fun k e=>hf.block k (h.ax.own.lt k e).2 (h.px k e).2),h.ay.kept (fun k e=>hf.block k (h.ay.own.lt k e).2 (h.py k e).2),h.tx,h.ty,h.apart,
  h.fa.kept (hf.block g (by omega) (by omega)) (fun k e=>hf.block k (h.fa.ltx k e).2 (fun e2=>h.pR.2.1 (by rw [←e2];exact e))) (fun k e=>hf.block k (h.fa.lty k e).2 (fun e2=>h.pR.2.2 (by rw [←e2];exact e))),hR,h.px,h.py,h.pR,h.rw,h.nx,h.ny,?_,h.tab.kept hf.size (hf.block _ (by omega) (by omega)),h.tg,h.bw⟩
 exact⟨hf.os.trans h.fr.os,hf.tape.trans h.fr.tape,hf.output.trans h.fr.output,Nat.le_trans h.fr.size hf.size,fun k h1 h2=>(hf.block k (by omega) (by omega)).trans (h.fr.block k h1 h2)⟩

theorem be.below (h:be w wr g bF R vx vy X Y f0x f0y vfx vfy fx fy o){w':World}(hb:Below wr.heap.size wr w'):be w w' g bF R vx vy X Y f0x f0y vfx vfy fx fy o:=
 h.keep (Fr.of_below hb) (h.room.fr hb)

theorem be.shift (h:be w wr g bF R vx vy X Y f0x f0y vfx vfy fx fy o){w':World}(hb:Below wr.heap.size wr w'){v2:Value}{r2:List Nat}(hA:Ans w' wr.heap.size v2 r2)(ht:tr r2=r2):be w w' g bF R vy v2 Y r2 f0x f0y vfx vfy fx fy o:=by
 have h2:=h.below hb
 have hs:=h.size
 have hRl:=h.room.lt
 refine⟨h2.ay,hA.base hs,h.ty,ht,fun k e e2=>?_,h2.fa,h2.room,h.py,fun k e=>⟨h.fa.high (hA.own.lt k e).1,fun e2=>by have:=(hA.own.lt k e).1;omega⟩,h.pR,h.rw,h.nx,h.ny,h2.fr,h2.tab,h.tg,h.bw⟩
 have:=(h.ay.own.lt k e).2
 have:=(hA.own.lt k e2).1
 omega

theorem be.step (h:be w wr g bF R vx vy X Y f0x f0y vfx vfy fx fy o){w':World}{vfx' vfy':Value}{fx' fy':Nat}{o':Bool}(hF:aP w' g bF vfx' vfy' fx' fy' o')(n1:Nx wr.heap.size vfx vfy vfx')(n2:Nx wr.heap.size vfx vfy vfy')(hf:FrP (Pk g vfx vfy) wr w'):be w w' g bF R vx vy X Y f0x f0y vfx' vfy' fx' fy' o':=by
 have hgl:=h.gl
 have hs:=h.size
 have hrw:=h.rw
 have htg:=h.tg
 have hbw:=h.bw
 have hRl:=h.room.lt
 have off:∀k,Pk g vfx vfy k→k<wr.heap.size→Pk g vfx' vfy' k:=fun k hp hk=>⟨hp.1,fun e=>by
  rcases n1 k e with h1|h1|h1
  ·exact hp.2.1 h1
  ·exact hp.2.2 h1
  ·omega,fun e=>by
  rcases n2 k e with h1|h1|h1
  ·exact hp.2.1 h1
  ·exact hp.2.2 h1
  ·omega⟩
 have nn:∀v,Nx wr.heap.size vfx vfy v→Nx w.heap.size f0x f0y v:=fun v hn k e=>by
  rcases hn k e with h1|h1|h1
  ·exact h.nx k h1
  ·exact h.ny k h1
  ·exact .inr (.inr (by omega))
 refine⟨h.ax.kept (fun k e=>hf.block k (h.ax.own.lt k e).2 (h.px k e).1),h.ay.kept (fun k e=>hf.block k (h.ay.own.lt k e).2 (h.py k e).1),h.tx,h.ty,h.apart,hF,h.room.kept (hf.block R hRl h.pR),fun k e=>⟨off k (h.px k e).1 (h.ax.own.lt k e).2,(h.px k e).2⟩,fun k e=>⟨off k (h.py k e).1 (h.ay.own.lt k e).2,(h.py k e).2⟩,off R h.pR hRl,h.rw,nn _ n1,nn _ n2,?_,h.tab.kept hf.size (hf.block _ (by omega) (h.fa.low htg)),h.tg,h.bw⟩
 refine⟨hf.os.trans h.fr.os,hf.tape.trans h.fr.tape,hf.output.trans h.fr.output,Nat.le_trans h.fr.size hf.size,fun k h1 h2=>?_⟩
 rw [hf.block k (by omega) ?_,h.fr.block k h1 h2]
 refine⟨h2.1,fun e=>?_,fun e=>?_⟩
 ·rcases h.nx k e with h3|h3|h3
  ·exact h2.2.1 h3
  ·exact h2.2.2 h3
  ·omega
 ·rcases h.ny k e with h3|h3|h3
  ·exact h2.2.1 h3
  ·exact h2.2.2 h3
  ·omega

theorem be.took {gx gy cx cy:Nat}(h:be w wr g bF R (.slice (some ⟨gx,0,none⟩) X.length cx) (.slice (some ⟨gy,0,none⟩) Y.length cy) X Y f0x f0y vfx vfy fx fy o){w':World}{X' Y':List Nat}(hX:Ans w' w.heap.size (.slice (some ⟨gx,0,none⟩) X'.length cx) X')(hY:Ans w' w.heap.size (.slice (some ⟨gy,0,none⟩) Y'.length cy) Y')(hn:Y.length≤X'.length)(hf:FrP (fun k=>k≠gx∧k≠gy) wr w') :
  be w w' g bF R (.slice (some ⟨gx,0,none⟩) (tr (X'.take Y.length)).length cx) (.slice (some ⟨gy,0,none⟩) (tr Y').length cy) (tr (X'.take Y.length)) (tr Y') f0x f0y vfx vfy fx fy o:=by
 have hgl:=h.gl
 have hs:=h.size
 have htg:=h.tg
 have hbw:=h.bw
 have hRl:=h.room.lt
 obtain⟨hpx,hxR⟩:=h.px gx rfl
 obtain⟨hpy,hyR⟩:=h.py gy rfl
 have lx:=(h.ax.own.lt gx rfl).1
 have ly:=(h.ay.own.lt gy rfl).1
 have kb:∀k,k<wr.heap.size→k≠gx→k≠gy→w'.heap[k]?=wr.heap[k]?:=fun k h1 h2 h3=>hf.block k h1 ⟨h2,h3⟩
 have hfr:=hX.front Y.length hn
 have l1:(X'.take Y.length).length=Y.length:=by simp;omega
 have hfr2:Ans w' w.heap.size (.slice (some ⟨gx,0,none⟩) (X'.take Y.length).length cx) (X'.take Y.length):=by rw [l1];exact hfr
 refine⟨hfr2.trim,hY.trim,tr_tr _,tr_tr _,fun k e=>h.apart k e,h.fa.kept (kb g (by omega) (by omega) (by omega)) (fun k e=>kb k (h.fa.ltx k e).2 (fun e2=>hpx.2.1 (by rw [←e2];exact e)) (fun e2=>hpy.2.1 (by rw [←e2];exact e))) (fun k e=>kb k (h.fa.lty k e).2 (fun e2=>hpx.2.2 (by rw [←e2];exact e)) (fun e2=>hpy.2.2 (by rw [←e2];exact e))),h.room.kept (kb R hRl (Ne.symm hxR) (Ne.symm hyR)),fun k e=>h.px k e,fun k e=>h.py k e,h.pR,h.rw,h.nx,h.ny,?_,h.tab.kept hf.size (kb _ (by omega) (by omega) (by omega)),h.tg,h.bw⟩
 exact⟨hf.os.trans h.fr.os,hf.tape.trans h.fr.tape,hf.output.trans h.fr.output,Nat.le_trans h.fr.size hf.size,fun k h1 h2=>(kb k (by omega) (by omega) (by omega)).trans (h.fr.block k h1 h2)⟩
end

theorem fN {m a x y fx fy:Nat}{o:Bool}(h:Fac m a x y fx fy o)(hm:0<m):0<fy:=by
 refine Nat.pos_of_ne_zero fun e=>?_
 have h1:=h.sum
 have h2:=h.le
 have h3:fx=0:=by omega
 rw [e,h3] at h1
 simp at h1
 omega

theorem fO {m a x y fx fy:Nat}{o:Bool}(h:Fac m a x y fx fy o)(hx:0<x):fy≤m:=by
 have h1:=h.sum
 have h2:fy≤x*fy:=Nat.le_mul_of_pos_left _ hx
 omega

theorem ql (g:Nat):∀w:World,(method 137 109 (.pointer (some ⟨g,0,none⟩)) "surd/whole.one").run Tryz.prog w=.ok (246,.pointer (some ⟨g,0,none⟩)) w:=fun _=>by kernel_rfl

theorem qD (g:Nat):∀w:World,(method 137 109 (.pointer (some ⟨g,0,none⟩)) "surd/whole.many").run Tryz.prog w=.ok (245,.pointer (some ⟨g,0,none⟩)) w:=fun _=>by kernel_rfl

theorem ch {X:List Nat}{n:Nat}(ht:tr X=X)(h:val X<18446744073709551616 ^ n):X.length≤n:=by
 have:=aQ X n h
 rwa [ht] at this

theorem gB {X:List Nat}(h:0<val X):1≤X.length:=by
 refine Nat.pos_of_ne_zero fun e=>?_
 rw [List.length_eq_zero_iff.1 e] at h
 simp [val] at h

theorem aP.lists {w:World}{g bF:Nat}{vx vy:Value}{fx fy:Nat}{o:Bool}(h:aP w g bF vx vy fx fy o)(K:Nat)(hle:fx≤fy)(hp:0<fy)(hK:fy<18446744073709551616 ^ K) :
  ∃X Y,Ans w bF vx X∧Ans w bF vy Y∧val X=fx∧val Y=fy∧tr Y=Y∧X.length≤Y.length∧1≤Y.length∧Y.length≤K:=by
 obtain⟨X,Y,h1,h2,h3,h4,h5,h6⟩:=h.at2
 refine⟨X,Y,h1,h2,h3,h4,h6,ch h5 ?_,gB (by omega),ch h6 (by rw [h4];exact hK)⟩
 have:=val_lt h2.limbs
 omega

theorem aP.many {w:World}{g bF:Nat}{vx vy:Value}{fx fy:Nat}{o:Bool}(h:aP w g bF vx vy fx fy o)(hbF:bF≤w.heap.size)(K:Nat)(hK0:K≤17592186044000)(hle:fx≤fy)(hp:0<fy)(hK:fy<18446744073709551616 ^ K)(a b c d R n:Nat)
  (ha:a<18446744073709551616) (hb:b<18446744073709551616) (hc:c<18446744073709551616) (hd:d<18446744073709551616) (hab0:0<a+b) (hab:a+b≤18446744073709551616) (hcd0:0<c+d) (hcd:c+d≤18446744073709551616) :
  Calls Tryz.prog 245 #[.pointer (some ⟨g,0,none⟩),stw a b c d (some ⟨R,0,none⟩) n 128] w (ig g bF vx vy (a*fx+b*fy) (c*fx+d*fy) (o != aZ n) w):=by
 obtain⟨X,Y,h1,h2,h3,h4,h5,h6,h7,h8⟩:=h.lists K hle hp hK
 subst h3
 subst h4
 exact mU g bF vx vy X Y o a b c d R n w h hbF h1 h2 h6 h7 (by omega) ha hb hc hd hab0 hab hcd0 hcd

theorem pD {Q Y:List Nat}{K:Nat}(hQ:tr Q=Q)(hY:tr Y=Y)(h1:1≤Q.length)(h2:1≤Y.length)(h:val Q*val Y<18446744073709551616 ^ K):Q.length+Y.length≤K+1:=by
 obtain⟨p,hp⟩:∃p,Q.length=p+1:=⟨Q.length - 1,by omega⟩
 obtain⟨q,hq⟩:∃q,Y.length=q+1:=⟨Y.length - 1,by omega⟩
 have e1:=tr_val_ge Q p (by rw [hQ];exact hp)
 have e2:=tr_val_ge Y q (by rw [hY];exact hq)
 rw [hQ] at e1
 rw [hY] at e2
 have e3:(18446744073709551616:Nat) ^ (p+q)≤val Q*val Y:=by rw [Nat.pow_add];exact Nat.mul_le_mul e1 e2
 have e4:p+q<K:=by
  refine Nat.lt_of_not_le fun hge=>?_
  have:(18446744073709551616:Nat) ^ K≤18446744073709551616 ^ (p+q):=Nat.pow_le_pow_right (by omega) hge
  omega
 omega

theorem aP.one {w:World}{g bF:Nat}{vx vy:Value}{fx fy:Nat}{o:Bool}(h:aP w g bF vx vy fx fy o)(hbF:bF≤w.heap.size)(K:Nat)(hK0:K≤17592186043904)(hle:fx≤fy)(hp:0<fy){vq:Value}{Q:List Nat}(hQ:Arg w vq Q)(tQ:tr Q=Q)(hT:Tab w)(hq:0<val Q)(hqK:val Q*fy<18446744073709551616 ^ K) :
  Calls Tryz.prog 246 #[.pointer (some ⟨g,0,none⟩),vq] w (ig g bF vx vy fy (fx+val Q*fy) (!o) w):=by
 have hK:fy<18446744073709551616 ^ K:=Nat.lt_of_le_of_lt (Nat.le_mul_of_pos_left _ hq) hqK
 obtain⟨X,Y,h1,h2,h3,h4,h5,h6,h7,h8⟩:=h.lists K hle hp hK
 subst h3
 subst h4
 have hl:=pD tQ h5 (gB hq) h7 hqK
 have hgb:=bh h.box
 refine (lf g vx vy vq X Y Q o w h.box (h1.arg (by omega)) (h2.arg (by omega)) hQ hT (by omega) (by omega)).mono ?_
 rintro e w' ⟨rfl,v,rs,hb,hA,hv,ht,hf⟩
 have hA2:Ans w' bF vy Y:=h2.kept (fun k e=>hf.block k (h2.own.lt k e).2 (fun e2=>h.gb.2 (by rw [←e2];exact e)))
 refine⟨rfl,vy,v,⟨hb,⟨h.gb.2,fun e=>by have:=(hA.own.lt g e).1;omega⟩,⟨Y,rs,hA2,hA.base hbF,rfl,hv,h5,ht⟩,fun k e e2=>?_⟩,fun k e=>.inr (.inl e),fun k e=>.inr (.inr (hA.own.lt k e).1),⟨hf.os,hf.tape,hf.output,hf.size,fun k h1 h2=>hf.block k h1 h2.1⟩⟩
 have:=(h2.own.lt k e).2
 have:=(hA.own.lt k e2).1
 omega

theorem pz {w w':World}{base gx cx gy cy:Nat}{X Y X' Y':List Nat}{a b c d:Nat}{o:Bool}{ov un:Int}(h:cE w w' base gx cx gy cy X Y X' Y' Y.length (sgL o a) (sgL o b) (sgL o d) (sgL o c) ov un)(hY:Limbs Y)(hxy:Y.length≤X.length){V W:Nat}(ht:LTake (val X) (val Y) V W)
  (k1:sgL o a*(val X:Int) - sgL o b*(val Y:Int)=(V:Int)) (k2:sgL o d*(val Y:Int) - sgL o c*(val X:Int)=(W:Int)):val (X'.take Y.length)=V∧val Y'=W:=by
 have hYl:=val_lt hY
 have hX'l:val (X'.take Y.length)<18446744073709551616 ^ Y.length:=Nat.lt_of_lt_of_le (val_lt (fun z hz=>h.ax.limbs z (List.mem_of_mem_take hz))) (Nat.pow_le_pow_right (by omega) (by simp;omega))
 have hY'l:val Y'<18446744073709551616 ^ Y.length:=by rw [←h.ly];exact val_lt h.ay.limbs
 have eXs:val X=val (X.take Y.length)+18446744073709551616 ^ Y.length*val (X.drop Y.length):=by
  conv=>lhs;rw [←List.take_append_drop Y.length X,val_append]
  rw [List.length_take,Nat.min_eq_left hxy]
 have vx:=h.vx
 have vy:=h.vy
 rw [List.take_of_length_le (Nat.le_of_eq h.ly),List.take_length] at vy
 rw [List.take_length] at vx
 obtain⟨N,hN⟩:∃N:Nat,N=18446744073709551616 ^ Y.length:=⟨_,rfl⟩
 have hNI:(18446744073709551616:Int) ^ Y.length=(N:Int):=by rw [hN,Int.natCast_pow];rfl
 rw [hNI] at vx vy
 rw [←hN] at hYl hX'l hY'l eXs
 have hVl:V<N:=Nat.lt_of_le_of_lt ht.le hYl
 have hWl:W<N:=Nat.lt_trans ht.lt hVl
 refine⟨?_,?_⟩
 ·refine jW N hN hX'l hVl vx (val (X.drop Y.length)) ?_
  rw [←k1,eXs,Int.natCast_add,Int.natCast_mul]
 ·have vy':(val Y':Int)+N*un=(-sgL o c)*(val (X.take Y.length):Int) - (-sgL o d)*(val Y:Int):=by rw [vy];grind
  refine jW N hN hY'l hWl vy' (val (X.drop Y.length)) ?_
  rw [←k2,eXs,Int.natCast_add,Int.natCast_mul];grind

theorem nd {o:Bool}{a b c d X Y V W:Nat}(h0:o=false→V+b*Y=a*X∧W+c*X=d*Y)(h1:o=true→V+a*X=b*Y∧W+d*Y=c*X) :
  sgL o a*(X:Int) - sgL o b*(Y:Int)=(V:Int)∧sgL o d*(Y:Int) - sgL o c*(X:Int)=(W:Int):=by
 cases o with
 | false=>
  obtain⟨f1,f2⟩:=h0 rfl
  have e1:((V+b*Y:Nat):Int)=((a*X:Nat):Int):=by rw [f1]
  have e2:((W+c*X:Nat):Int)=((d*Y:Nat):Int):=by rw [f2]
  rw [Int.natCast_add,Int.natCast_mul,Int.natCast_mul] at e1 e2
  simp only [sgL]
  omega
 | true=>
  obtain⟨f1,f2⟩:=h1 rfl
  have e1:((V+a*X:Nat):Int)=((b*Y:Nat):Int):=by rw [f1]
  have e2:((W+d*Y:Nat):Int)=((c*X:Nat):Int):=by rw [f2]
  rw [Int.natCast_add,Int.natCast_mul,Int.natCast_mul] at e1 e2
  simp only [sgL]
  rw [Int.neg_mul,Int.neg_mul,Int.neg_mul,Int.neg_mul]
  omega

theorem lb (w:World):(Instr.makeSlice 22 (.int .i64 0) (.int .i64 128)).run Tryz.prog w=.ok (.slice (some ⟨w.heap.size,0,none⟩) 0 128) (w.alloc (.cells (Array.replicate 128 (lv 0)) 61)):=by
 obtain⟨i0,hi,hz0,hz1,hz2⟩:=info_parts Tryz.infoU
 rw [run_make w 22 61 i0 (.int .u64 0) Tryz.underlying22 hi hz0 .i64 .i64 0 128 (by omega) (by omega) (by rw [hz2];omega) (by omega)]
 have e:(madeCells (Value.int .u64 0).cells ((128:Int).toNat*i0.size))=Array.replicate 128 (lv 0):=by
  apply Array.toList_inj.1
  rw [hz1,Nat.mul_one]
  show (madeCells #[Value.int .u64 0] _).toList=_
  rw [toList_madeCells_one,Array.toList_replicate];rfl
 rw [e];rfl

theorem mJ (w:World):aO (w.alloc (.cells (Array.replicate 128 (lv 0)) 61)) w.heap.size:=by
 refine⟨List.replicate 128 0,?_,by simp⟩
 unfold Blk
 rw [heap_alloc_new,List.map_replicate,List.toArray_replicate]

def im (m a g bF:Nat)(f0x f0y:Value)(w:World)(e:Ending)(w':World):Prop:=
 ∃(v:Value) (rs:List Nat) (vfx vfy:Value) (fx fy:Nat) (o:Bool),e=.returned v∧Ans w' w.heap.size v rs∧tr rs=rs∧Fac m a (val rs) 0 fx fy o∧aP w' g bF vfx vfy fx fy o∧Nx w.heap.size f0x f0y vfx∧Nx w.heap.size f0x f0y vfy∧FrP (Pk g f0x f0y) w w'∧(∀k,v.ownBlock=some k→Pk g vfx vfy k)∧Tab w'

theorem be.start {w w1 w2:World}{g bF:Nat}{f0x f0y:Value}{fx fy:Nat}{o:Bool}{v1 v2:Value}{X Y:List Nat}(hF:aP w g bF f0x f0y fx fy o)(hbF:bF≤w.heap.size)(hT:Tab w)(tg:0<bF∧0≠g)(h1:Below w.heap.size w w1)(h2:Below w1.heap.size w1 w2)(hX:Ans w1 w.heap.size v1 X)(hY:Ans w2 w1.heap.size v2 Y)(tx:tr X=X)(ty:tr Y=Y) :
  be w (w2.alloc (.cells (Array.replicate 128 (lv 0)) 61)) g bF w2.heap.size v1 v2 X Y f0x f0y f0x f0y fx fy o:=by
 have b3:Below w2.heap.size w2 (w2.alloc (.cells (Array.replicate 128 (lv 0)) 61)):=(Below.refl _ _).alloc (Nat.le_refl _) _
 have b2:Below w.heap.size w w2:=h1.trans (h2.mono h1.size)
 have bb:Below w.heap.size w (w2.alloc (.cells (Array.replicate 128 (lv 0)) 61)):=b2.trans (b3.mono b2.size)
 have s1:=h1.size
 have s2:=h2.size
 refine⟨(hX.below h2).below b3,(hY.below b3).base s1,tx,ty,fun k e e2=>?_,hF.below bb,mJ w2,fun k e=>⟨hF.high (hX.own.lt k e).1,fun e2=>?_⟩,fun k e=>⟨hF.high (by have:=(hY.own.lt k e).1;omega),fun e2=>?_⟩,hF.high (by omega),by omega,fun k e=>.inl e,fun k e=>.inr (.inl e),FrP.of_below bb,hT.below bb,tg,hbF,bh hF.box⟩
 ·have:=(hX.own.lt k e).2
  have:=(hY.own.lt k e2).1
  omega
 ·have:=(hX.own.lt k e).2
  omega
 ·have:=(hY.own.lt k e).2
  omega

structure fG (m a K:Nat)(X Y:List Nat)(fx fy:Nat)(o:Bool):Prop where
 fac:Fac m a (val X) (val Y) fx fy o
 le:val Y≤val X
 pos:0<val X
 lx:X.length≤K

theorem pO (g bF K:Nat)(va vb f0x f0y:Value)(M B:List Nat)(w:World)(hA:Arg w va M)(hB:Arg w vb B)(hT:Tab w)(hF:aP w g bF f0x f0y 0 1 false)(hbF:bF≤w.heap.size)(tg:0<bF∧0≠g)(hlt:val B<val M)(hK:K≤17592186043904)(lM:M.length≤K)(lB:B.length≤K) :
  Calls Tryz.prog 83 #[va,vb,.iface 109 (.pointer (some ⟨g,0,none⟩))] w (im (val M) (val B) g bF f0x f0y w):=by
 have MO:=ql g
 have MM:=qD g
 have MK:=lb
 have N1:=gE va M w hA (by omega)
 have N2:=ac (fun (w1:World) (hb:Below w.heap.size w w1)=>gE vb B w1 (hB.below hb) (by omega))
 have HS:=ac (fun (w1 w2:World) (v1 v2:Value) (h1:Below w.heap.size w w1) (h2:Below w1.heap.size w1 w2) (hX:Ans w1 w.heap.size v1 (tr M)) (hY:Ans w2 w1.heap.size v2 (tr B))=>be.start hF hbF hT tg h1 h2 hX hY (tr_tr M) (tr_tr B))
 obtain⟨m,hm⟩:∃m,val M=m:=⟨_,rfl⟩
 obtain⟨a,ha⟩:∃a,val B=a:=⟨_,rfl⟩
 have lX:=tr_length_le M
 have HP0:Hid (fG m a K (tr M) (tr B) 0 1 false):=ac ⟨by rw [val_tr,val_tr,hm,ha];exact Fac.start m a,by rw [val_tr,val_tr];omega,by rw [val_tr];omega,by omega⟩
 rw [hm,ha]
 have hm0:0<m:=by omega
 have HMK:Hid (m<18446744073709551616 ^ K):=ac (by rw [←hm];exact Nat.lt_of_lt_of_le (val_lt hA.limbs) (Nat.pow_le_pow_right (by omega) lM))
 clear hm ha hA hB hF hT hbF hlt lX lM lB
 go_enter Tryz.func83,Tryz.ntmps83
 go_wp2_with fail
 refine N1.mono ?_
 rintro e w1 ⟨⟨v1,rfl,hX⟩,h1⟩
 have C2:=N2.out w1 h1
 clear N1
 go_wp2_with fail
 refine C2.mono ?_
 rintro e w2 ⟨⟨v2,rfl,hY⟩,h2⟩
 have HM0:=ac (HS.out w1 w2 v1 v2 h1 h2 hX hY)
 have hRw:w.heap.size≤w2.heap.size:=by have:=h1.size;have:=h2.size;omega
 clear C2 N2 HS h1 h2 hX hY
 obtain⟨R,hR⟩:∃R,w2.heap.size=R:=⟨_,rfl⟩
 obtain⟨w3,hw3⟩:∃w3,w2.alloc (.cells (Array.replicate 128 (lv 0)) 61)=w3:=⟨_,rfl⟩
 rw [hR,hw3] at HM0
 go_wp2
 clear hw3 hR hRw MK
 go_loopw [0,1] (fun vx vy wr=>∃(X Y:List Nat) (vfx vfy:Value) (fx fy:Nat) (o:Bool),be w wr g bF R vx vy X Y f0x f0y vfx vfy fx fy o∧fG m a K X Y fx fy o) (fun _ vy wr=>rdN wr vy)
 case atStart=>exact⟨_,_,_,_,_,_,_,HM0.out,HP0.out⟩
 case round=>
  obtain⟨X,Y,vfx,vfy,fx,fy,o,hmem,hpure⟩:=hrel
  have HM:=ac hmem
  have HP:=ac hpure
  have hxl:=hpure.lx
  have hyl:Y.length≤X.length:=ch hmem.ty (Nat.lt_of_le_of_lt hpure.le (val_lt hmem.ax.limbs))
  have hx1:=gB hpure.pos
  clear HM0 HP0
  rcases hmem.ax.form with ⟨_,h0⟩|⟨gx,cx,rfl,hgx,_,hcx,hcx2,fx',cellx⟩
  ·rw [h0] at hx1;simp at hx1
  ·by_cases hy0:Y.length=0
   ·have hY:Y=[]:=List.length_eq_zero_iff.1 hy0
    subst hY
    obtain⟨ay,cy,rfl,_,_,_⟩:=(hmem.ay.arg (by simp)).form
    have HE:Hid (im m a g bF f0x f0y w (.returned (.slice (some ⟨gx,0,none⟩) X.length cx)) wr):=by
     have hfac:=hpure.fac
     exact ac ⟨_,X,vfx,vfy,fx,fy,o,rfl,hmem.ax,hmem.tx,hfac,hmem.fa,hmem.nx,hmem.ny,hmem.fr,fun k e=>(hmem.px k e).1,hmem.tab⟩
    clear hmem hpure fx' cellx hy0 hyl HM HP
    by_cases hx2:2≤X.length
    ·have i1:(1:Int)<(X.length:Int):=by omega
     go_wp2
     go_ret
     exact HE.out
    ·have i1:¬(1:Int)<(X.length:Int):=by omega
     go_wp2
     go_ret
     exact HE.out
   ·rcases hmem.ay.form with ⟨_,h0⟩|⟨gy,cy,rfl,hgy,_,hcy,hcy2,fy',celly⟩
    ·rw [h0] at hy0;simp at hy0
    ·have hy1:1≤Y.length:=by omega
     have i0:(0:Int)<(Y.length:Int):=by omega
     have hvy:0<val Y:=by
      refine Nat.pos_of_ne_zero fun e=>?_
      have:=ch hmem.ty (n:=0) (by rw [e];simp)
      omega
     by_cases hx2:2≤X.length
     ·have i1:(1:Int)<(X.length:Int):=by omega
      have hne:gx≠gy:=fun e=>hmem.apart gx rfl (by rw [e];rfl)
      have HHB:=nV gx 0 cx (some ⟨gy,0,none⟩) cy X Y wr (.inr ⟨gx,0,rfl,fun k hk=>by rw [Nat.zero_add];exact cellx k hk⟩) (.inr ⟨gy,0,rfl,fun k hk=>by rw [Nat.zero_add];exact celly k hk⟩) hmem.ax.limbs hmem.ay.limbs (by omega) hmem.tx hx2 hpure.le hyl
      clear hmem hpure fx' fy' cellx celly
      go_wp2_with fail
      refine HHB.mono ?_
      rintro e u2 ⟨⟨xh,yh,xl,yl,Pw,rfl,f1,f2,f3,f4,f5,f6,f7⟩,hb2⟩
      have HM2:=ac (HM.out.below hb2)
      have HSO:=qe xh yh R u2 f5 f6 f7 HM2.out.room
      have HF:=ac (And.intro f1 (And.intro f2 (And.intro f3 f4)))
      clear HHB f1 f2 f3 f4 f5 f6 f7 hb2
      go_wp2_with fail
      refine HSO.mono ?_
      rintro e u3 ⟨⟨sa,sb,sc,sd,sn,sx,sy,rfl,hst,hn128,hd32⟩,hR3,hF3⟩
      have HM3:=ac (HM2.out.keep hF3 hR3)
      have HST:=ac hst
      have HD:=ac hd32
      obtain⟨u4,hu4,hb4,h4⟩:=aL u3 (.cells #[.int .u64 sa,.int .u64 sb,.int .u64 sc,.int .u64 sd,.slice (some ⟨R,0,none⟩) sn 128] 139)
      have HM4:=ac (HM3.out.below hb4)
      have hU:=HM3.out.fa.high (Nat.le_refl _)
      obtain⟨G,hG⟩:∃G,u3.heap.size=G:=⟨_,rfl⟩
      rw [hG] at h4 hU
      have HU:=ac hU
      clear hU
      have NO:=mn sa sb sc sd (some ⟨R,0,none⟩) sn 128 u4
      obtain⟨s0,s1,s2,s3,s4⟩:=aM h4
      have H4:=ac h4
      unfold stw at NO ⊢
      clear HSO hst hd32 hR3 hF3 hb4 h4
      go_wp2_with fail
      clear hu4 hG
      by_cases hn0:sn=0
      ·rw [decide_eq_true hn0] at NO
       clear hn0
       refine NO.mono ?_
       rintro e u5 ⟨rfl,hb5⟩
       have HM5:=ac (HM4.out.below hb5)
       have BO:=wboth_any (blen (val X)) X Y _ _ u5 (by omega) (HM5.out.ax.arg (by omega)) (HM5.out.ay.arg (by omega)) HM5.out.tab (by omega) (by omega) hvy
       clear NO hb5 s0 s1 s2 s3 s4 H4
       go_wp2_with fail
       refine BO.mono ?_
       rintro e u6 ⟨⟨q1,q2,r1,r2,rfl,hA1,hA2,e1,t1,e2,t2,_⟩,hb6⟩
       have HM6:=ac (HM5.out.shift hb6 hA2 t2)
       have hfac:=HP.out.fac
       have hq0:0<val X / val Y:=(Nat.le_div_iff_mul_le hvy).2 (by have:=HP.out.le;omega)
       have hnew:=hfac.one hvy hq0
       have hle2:=fO hnew hvy
       have hmK:=HMK.out
       have hl1:r1.length≤K:=Nat.le_trans (ch t1 (by rw [e1];exact Nat.lt_of_le_of_lt (Nat.div_le_self _ _) (val_lt HM5.out.ax.limbs))) hxl
       have C1:=HM6.out.fa.one (by have:=HM6.out.bw;have:=HM6.out.size;omega) K hK hfac.le (fN hfac hm0) (hA1.arg (by omega)) t1 HM6.out.tab (by rw [e1];exact hq0) (by rw [e1];omega)
       have HP6:Hid (fG m a K Y r2 fy (fx+val X / val Y*fy) (!o)∧val r2<val Y):=ac ⟨⟨by rw [e2];exact hnew,by rw [e2];exact Nat.le_of_lt (Nat.mod_lt _ hvy),hvy,by omega⟩,by rw [e2];exact Nat.mod_lt _ hvy⟩
       rw [e1] at C1
       clear BO hb6 hA1 hA2 e1 t1 e2 t2 hfac hq0 hnew hle2 hmK
       go_wp2_with fail
       refine C1.mono ?_
       rintro e u7 ⟨rfl,vfx',vfy',hFa,n1,n2,hfr⟩
       have HM7:=ac (HM6.out.step hFa n1 n2 hfr)
       clear C1 hFa n1 n2 hfr
       go_wp2
       go_roundw
       case rel=>exact⟨_,_,_,_,_,_,_,HM7.out,HP6.out.1⟩
       case measure=>
        rw [fZ (HM7.out.ay.arg (by have:=ch HM7.out.ty (Nat.lt_trans HP6.out.2 (val_lt HM7.out.ax.limbs));omega)),fZ (HM.out.ay.arg (by omega))]
        exact HP6.out.2
      ·rw [decide_eq_false hn0] at NO
       have hn1:1≤sn:=by omega
       refine NO.mono ?_
       rintro e u5 ⟨rfl,hb5⟩
       have HM5:=ac (HM4.out.below hb5)
       have hfac:=HP.out.fac
       have h5:=ae hb5 H4.out
       have H5:=ac h5
       obtain⟨hla,hac⟩:=HST.out.acc hn1
       have b1:=hla.bd
       have b2:=hla.cd
       have b3:=hla.ab
       have b4:=hla.c1
       have b6:=hla.b1
       have b5:=HD.out hn1
       obtain⟨V,W,hLT,hMany,hEv,hOd⟩:=HST.out.many hn1 HF.out.1 HF.out.2.1 HF.out.2.2.1 HF.out.2.2.2
       have hnew:=hfac.many hMany hvy
       have hmK:=HMK.out
       have hle2:=fO hfac HP.out.pos
       have C1:=HM5.out.fa.many (by have:=HM5.out.bw;have:=HM5.out.size;omega) K (by omega) hfac.le (fN hfac hm0) (by omega) sa sb sc sd R sn (by omega) (by omega) (by omega) (by omega) (by omega) (by omega) (by omega) (by omega)
       have HSG:=ac (nd (o:=aZ sn) hEv hOd)
       have HN:=ac (And.intro hLT hnew)
       have hG5:G<u5.heap.size:=bh h5
       obtain⟨r0,r1,r2,r3,r4⟩:=aM h5
       unfold stw at C1
       clear NO hb5 s0 s1 s2 s3 s4 H4 h5 hla hac hLT hMany hEv hOd hnew hmK hle2 hfac b1 b2 b3 b4 b6 hn0
       go_wp2_with fail
       refine C1.mono ?_
       rintro e u6 ⟨rfl,vfx',vfy',hFa,n1,n2,hfr⟩
       have HM6:=ac (HM5.out.step hFa n1 n2 hfr)
       have h6:=(hfr.block G hG5 HU.out).trans H5.out
       obtain⟨r0,r1,r2,r3,r4⟩:=aM h6
       obtain⟨hla,hac⟩:=HST.out.acc hn1
       have b1:=hla.bd
       have b2:=hla.cd
       have b3:=hla.ab
       have hbs6:w.heap.size≤u6.heap.size:=HM6.out.size
       have HTK:Calls Tryz.prog 121 #[stw sa sb sc sd (some ⟨R,0,none⟩) sn 128,.slice (some ⟨gx,0,none⟩) X.length cx,.slice (some ⟨gy,0,none⟩) Y.length cy] u6 fun e w'=>gJ w.heap.size gx cx gy cy X Y (sgL (aZ sn) sa) (sgL (aZ sn) sb) (sgL (aZ sn) sd) (sgL (aZ sn) sc) u6 e w'∧FrP (fun k=>k≠gx∧k≠gy) u6 w':=by
        cases ho:aZ sn with
        | false=>exact rA w.heap.size gx cx gy cy sa sb sc sd X Y u6 HM6.out.ax HM6.out.ay hne hyl hgx hgy hbs6 (by omega) (by omega) (by omega) b5 _ _ _ (by unfold aZ at ho;simpa using ho) _ (fun h=>h.1 rfl) (fun h=>h.2 rfl)
        | true=>exact lW w.heap.size gx cx gy cy sa sb sc sd X Y u6 HM6.out.ax HM6.out.ay hne hyl hgx hgy hbs6 (by omega) (by omega) (by omega) b5 _ _ _ (by unfold aZ at ho;simpa using ho) _ (fun h=>h.1 rfl) (fun h=>h.2 rfl)
       unfold stw at HTK
       clear C1 hFa n1 n2 hfr h6 hla hac b1 b2 b3 H5
       go_wp2_with fail
       refine HTK.mono ?_
       rintro e u7 ⟨⟨rfl,X',Y',ov,un,htk⟩,hfp⟩
       have hlx':=htk.lx
       have hly':=htk.ly
       have HM7:=ac (HM6.out.took htk.ax htk.ay (by omega) hfp)
       obtain⟨vX,vY⟩:=pz htk HM6.out.ay.limbs hyl HN.out.1 HSG.out.1 HSG.out.2
       have lt':(X'.take Y.length).length=Y.length:=by simp;omega
       have af:=htk.ax.front Y.length (by omega)
       have afa:=af.arg (by omega)
       obtain⟨ao1,cp1,e1,g1,g2,g3⟩:=afa.form
       rw [lt'] at e1
       cases e1
       have T1:=cV _ _ (X'.take Y.length) u7 g1 g2 g3
       rw [lt'] at T1
       obtain⟨ao2,cp2,e2,g4,g5,g6⟩:=(htk.ay.arg (by omega)).form
       cases e2
       have T2:=cV _ _ Y' u7 g4 g5 g6
       rw [hly'] at T2
       have k1:(Y.length:Int)≤(cx:Int):=by omega
       have k0:(0:Int)≤(Y.length:Int):=by omega
       have HP7:Hid (fG m a K (tr (X'.take Y.length)) (tr Y') (sa*fx+sb*fy) (sc*fx+sd*fy) (o != aZ sn)∧val Y'<val Y):=by
        have q1:=HN.out.1.lt
        have q2:=HN.out.1.le
        refine ac ⟨⟨by rw [val_tr,val_tr,vX,vY];exact HN.out.2,by rw [val_tr,val_tr,vX,vY];omega,by rw [val_tr,vX];omega,by have:=tr_length_le (X'.take Y.length);omega⟩,by rw [vY];omega⟩
       have HLY:=ac hly'
       clear htk hfp af afa g1 g2 g3 g4 g5 g6 r0 r1 r2 r3 r4 HTK vX vY hlx' hly' lt'
       go_wp2_with fail
       refine T1.mono ?_
       rintro e wn ⟨rfl,hw⟩;rw [hw];clear hw wn T1
       go_wp2_with fail
       refine T2.mono ?_
       rintro e wn ⟨rfl,hw⟩;rw [hw];clear hw wn T2
       go_wp2
       go_roundw
       case rel=>exact⟨_,_,_,_,_,_,_,HM7.out,HP7.out.1⟩
       case measure=>
        rw [fZ (HM7.out.ay.arg (by have:=tr_length_le Y';have:=HLY.out;omega)),fZ (HM.out.ay.arg (by omega)),val_tr]
        exact HP7.out.2
     ·have i1:¬(1:Int)<(X.length:Int):=by omega
      have eX:X.length=1:=by omega
      have eY:Y.length=1:=by omega
      have i2:(0:Int)<(X.length:Int):=by omega
      have hvl:val X<18446744073709551616:=by
       have:=val_lt hmem.ax.limbs
       rw [eX] at this
       omega
      have hyle:=hpure.le
      have cx0:=cellx 0 (by omega)
      have cy0:=celly 0 (by omega)
      rw [iJ hvl (by omega)] at cx0
      rw [iJ (show val Y<18446744073709551616 by omega) (by omega)] at cy0
      have HP0:=ac (And.intro hpure.fac (And.intro hyle (And.intro hpure.pos hvl)))
      clear hmem hpure HP eX eY hyle hvl hvy fx' fy' cellx celly hx2
      obtain⟨xv,hxv⟩:∃xv,val X=xv:=⟨_,rfl⟩
      obtain⟨yv,hyv⟩:∃yv,val Y=yv:=⟨_,rfl⟩
      rw [hxv] at cx0 HP0
      rw [hyv] at cy0 HP0
      clear hxv hyv
      go_wp2
      go_quiet (fail)
      go_wp2
      clear cx0 cy0
      rename World=>wo
      go_loopw [13,14] (fun v r wr=>∃(x y:Nat) (vfx vfy:Value) (fx fy:Nat) (o:Bool),v=.int .u64 (x:Int)∧r=.int .u64 (y:Int)∧Fac m a x y fx fy o∧y≤x∧0<x∧x<18446744073709551616∧be w wr g bF R (.slice (some ⟨gx,0,none⟩) X.length cx) (.slice (some ⟨gy,0,none⟩) Y.length cy) X Y f0x f0y vfx vfy fx fy o) (fun _ r _=>(intOf r).toNat)
      case atStart=>exact⟨xv,yv,_,_,_,_,_,rfl,rfl,HP0.out.1,HP0.out.2.1,HP0.out.2.2.1,HP0.out.2.2.2,HM.out.below (((aD.refl _).drewN _).below _)⟩
      case round=>
       obtain⟨x,y,vfx2,vfy2,fx2,fy2,o2,rfl,rfl,hfac,hyx,hx0,hxl,hm⟩:=hrel
       have HN:=ac hm
       have HFC:=ac hfac
       clear HP0 HM hm
       by_cases hy0:y=0
       ·subst hy0
        have HE:Hid (im m a g bF f0x f0y w (.returned (.slice (some ⟨wr.heap.size,0,none⟩) 1 1)) (wr.alloc (.cells #[.int .u64 (x:Int)] 61))):=by
         have hb:Below wr.heap.size wr (wr.alloc (.cells #[.int .u64 (x:Int)] 61)):=(Below.refl _ _).alloc (Nat.le_refl _) _
         have hbk:Blk (wr.alloc (.cells #[.int .u64 (x:Int)] 61)) wr.heap.size [x]:=heap_alloc_new ..
         have AN:=Ans.of_blk (base:=w.heap.size) (zs:=[x]) HN.out.size hbk (by simp) (by simp) (by simp) (by intro z hz;simp at hz;omega)
         have HB:=HN.out.below hb
         have hv:val [x]=x:=by simp [val]
         refine ac ⟨_,[x],vfx2,vfy2,fx2,fy2,o2,rfl,AN,?_,?_,HB.fa,HB.nx,HB.ny,HB.fr,fun k e=>?_,HB.tab⟩
         ·have:x≠0:=by omega
          simp [tr,this]
         ·rw [hv];exact HFC.out
         ·have e2:k=wr.heap.size:=(Option.some.inj e).symm
          rw [e2]
          exact HN.out.fa.high (Nat.le_refl _)
        go_wp2
        go_ret
        exact HE.out
       ·have i3:(0:Int)<(y:Int):=by omega
        obtain⟨u1,hu1,hb1,h1⟩:=aL wr (.cells #[.int .u64 0,.int .u64 0,.int .u64 0,.int .u64 0,.slice none 0 0] 139)
        have HM1:=ac (HN.out.below hb1)
        have LS:=nJ x y R u1 hxl hyx hx0 HM1.out.room
        have hRl:=HN.out.room.lt
        have H1:=ac h1
        have HF1:=ac (Fr.of_below (bz:=R) hb1)
        have hSl:=bh h1
        clear hb1 h1
        go_wp2_with fail
        clear hu1
        refine LS.mono ?_
        rintro e u2 ⟨⟨sa,sb,sc,sd,sn,x',y',rfl,hlt,hx',hn128,hn1⟩,hR2,hF2⟩
        have hn:=hn1 (by omega)
        have h2:=(hF2.block wr.heap.size hSl (by omega)).trans H1.out
        obtain⟨s0,s1,s2,s3,s4⟩:=aM h2
        have sf:=cA h2
        have R5:=cI h2 (a':=.int .u64 sa) (b':=.int .u64 sb) (c':=.int .u64 sc) (d':=.int .u64 sd) (f':=.slice (some ⟨R,0,none⟩) sn 128)
        have HRB:R≠wr.heap.size:=by omega
        have W5:=ac (And.intro (((((hR2.set HRB).set HRB).set HRB).set HRB).set HRB:aO (((((u2.setCell ⟨wr.heap.size,0,none⟩ (.int .u64 sa)).setCell ⟨wr.heap.size,1,none⟩ (.int .u64 sb)).setCell ⟨wr.heap.size,2,none⟩ (.int .u64 sc)).setCell ⟨wr.heap.size,3,none⟩ (.int .u64 sd)).setCell ⟨wr.heap.size,4,none⟩ (.slice (some ⟨R,0,none⟩) sn 128)) R) (cL (g:=wr.heap.size) (u0:=.int .u64 sa) (u1:=.int .u64 sb) (u2:=.int .u64 sc) (u3:=.int .u64 sd) (u4:=.slice (some ⟨R,0,none⟩) sn 128) (HF1.out.trans hF2) (Nat.le_refl _)))
        have HLT:=ac hlt
        unfold stw
        clear LS hR2 hF2 h2 hn1 H1 HF1 HM1
        go_wp2_with fail
        have HM3:=ac (HN.out.keep W5.out.2 W5.out.1)
        generalize ((((u2.setCell ⟨wr.heap.size,0,none⟩ (.int .u64 sa)).setCell ⟨wr.heap.size,1,none⟩ (.int .u64 sb)).setCell ⟨wr.heap.size,2,none⟩ (.int .u64 sc)).setCell ⟨wr.heap.size,3,none⟩ (.int .u64 sd)).setCell ⟨wr.heap.size,4,none⟩ (.slice (some ⟨R,0,none⟩) sn 128)=u3 at *
        obtain⟨hmany,hyl⟩:=hlt.many hn
        obtain⟨p1,p2,p3,p4,p5,p6,p7⟩:=hlt.pos hn
        have hle2:=fO hfac hx0
        have hmK:=HMK.out
        have C1:=HM3.out.fa.many (by have:=HM3.out.bw;have:=HM3.out.size;omega) K (by omega) hfac.le (fN hfac hm0) (by omega) sa sb sc sd R sn (by omega) (by omega) (by omega) (by omega) (by omega) (by omega) (by omega) (by omega)
        have hxl2:x'<18446744073709551616:=by
         have h1:=hmany.hx
         have h2:x'≤sd*x':=Nat.le_mul_of_pos_left _ (by omega)
         omega
        have HNF:=ac (hfac.many hmany (by omega))
        have hyx2:=hlt.yx
        unfold stw at C1
        clear hfac hmany p1 p2 p3 p4 p5 p6 p7 hle2 hmK HLT W5 R5 s0 s1 s2 s3 s4 sf hlt HFC HN
        refine C1.mono ?_
        rintro e u4 ⟨rfl,vfx',vfy',hFa,n1,n2,hfr⟩
        have HM6:=ac (HM3.out.step hFa n1 n2 hfr)
        clear C1 hFa n1 n2 hfr
        go_wp2
        go_roundw
        case rel=>exact⟨x',y',vfx',vfy',_,_,_,rfl,rfl,HNF.out,hyx2,hx',hxl2,HM6.out⟩
        case measure=>simp [intOf];omega

def oth (ba bb:Bool)(A B g x:Nat):Int:=if ba then zz bb ((g+A*x) / B) else if A*x<g then zz bb ((g - A*x) / B) else zz (!bb) ((A*x - g) / B)

def qM (z:Int)(w:World)(e:Ending)(w':World):Prop:=
 (∃b a n k rs,e=.returned (.agg #[.bool b,.slice a n k])∧b=decide (z<0)∧Ans w' w.heap.size (.slice a n k) rs∧val rs=z.natAbs∧tr rs=rs)∧Below w.heap.size w w'

theorem dF (b:Bool)(v:Value)(rs:List Nat)(base:Nat)(w:World)(x:Nat)(z:Int)(hz:zz b x=z)(hA:Ans w base v rs)(hv:val rs=x)(ht:tr rs=rs) :
  Calls Tryz.prog 47 #[.bool b,v] w fun e w'=>e=.returned (.agg #[.bool (decide (z<0)),v])∧Below w.heap.size w w':=by
 have C:=bI b v rs base w hA
 rw [bN b ht hv,hz] at C
 exact C

theorem iB {Q R:List Nat}(m:Nat)(h1:Limbs Q)(h3:Q.length≤m)(hv:val R≤val Q)(ht:tr R=R):R.length≤m:=by
 have e1:=val_lt h1
 have e3:val R<2 ^ (Q.length*64):=by
  rw [←W_pow]
  exact Nat.lt_of_le_of_lt hv e1
 have e5:=few_limbs R Q.length ((blen_le_iff _ _).2 e3)
 rw [ht] at e5
 omega

theorem oP (ba bb:Bool)(va vb vg vx:Value)(X Y G Z:List Nat)(w:World)(hA:Arg w va X)(hB:Arg w vb Y)(hG:Arg w vg G)(hZ:Arg w vx Z)(hT:Tab w)(hy:0<val Y)(lA:X.length≤17592186043904)(lZ:Z.length≤17592186043904)(hpn:∀r:List Nat,val r=val X*val Z→tr r=r→r.length≤17592186043000)(lG:G.length≤17592186043000)(lY:Y.length≤17592186043904) :
  Calls Tryz.prog 46 #[.agg #[.bool ba,va],.agg #[.bool bb,vb],vg,vx] w (qM (oth ba bb (val X) (val Y) (val G) (val Z)) w):=by
 obtain⟨a1,c1,rfl,_,_,_⟩:=hA.form
 obtain⟨a2,c2,rfl,_,_,_⟩:=hB.form
 obtain⟨a3,c3,rfl,_,_,_⟩:=hG.form
 obtain⟨a4,c4,rfl,_,_,_⟩:=hZ.form
 obtain⟨w0,hw0,hb0,h0,h1,h2⟩:=cO w (.cells #[.bool ba,.slice a1 X.length c1] 27) (.cells #[.bool bb,.slice a2 Y.length c2] 27) (.cells #[.bool false,.slice none 0 0] 27)
 obtain⟨k0,k1⟩:=duo h0
 have PR:=gQ (X.length+Z.length+1) X Z _ _ w0 (by omega) (by omega) (hA.below hb0) (hZ.below hb0) (hT.below hb0)
 have HB:=ac (hB.below hb0)
 have HG:=ac (hG.below hb0)
 have HT:=ac (hT.below hb0)
 have HL:=ac (And.intro (And.intro hA.limbs (And.intro hZ.limbs (And.intro lA lZ))) (And.intro hG.limbs (And.intro lG lY)))
 have HPN:=ac hpn
 have HY0:=ac hy
 have H0:=ac h0
 have H1:=ac h1
 have H2:=ac h2
 have HB0:=ac hb0
 clear hA hB hG hZ hT hb0 h0 h1 h2 hy lA lZ hpn lG lY
 cases ba
 ·obtain⟨p,hp⟩:∃p,val X*val Z=p:=⟨_,rfl⟩
  have HPP:=ac hp
  unfold oth
  rw [if_neg (by decide),hp]
  clear hp
  by_cases hlt:p<val G
  ·rw [if_pos hlt]
   obtain⟨P,hP⟩:∃P,val G - p=P:=⟨_,rfl⟩
   rw [hP]
   have HP:=ac hP
   have HLT:=ac hlt
   clear hP hlt
   go_enter Tryz.func46,Tryz.ntmps46
   go_wp2_with fail
   refine PR.mono ?_
   rintro e t1 ⟨⟨v5,r5,rfl,hA5,hv5,ht5⟩,hb1⟩
   have L5:r5.length≤17592186043000:=HPN.out r5 hv5 ht5
   have N5:=hA5.arg (by omega)
   obtain⟨a5,c5,rfl,_,_,_⟩:=N5.form
   obtain⟨m0,m1⟩:=duo (ae hb1 H0.out)
   have CM:=gv _ _ r5 G t1 N5 (HG.out.below hb1)
   rw [hv5,HPP.out,cmpN_lt HLT.out] at CM
   have LS:=fun W hg=>dq _ _ G r5 W (HG.out.below (bC hb1 hg)) (N5.below hg) (by have:=HL.out.2.2.1;omega) (by rw [hv5,HPP.out];have:=HLT.out;omega)
   have HB1:=ac hb1
   have HL5:=ac (And.intro N5.limbs (And.intro L5 hv5))
   clear PR k0 k1 hA5 hv5 ht5 hb1 N5 L5
   go_wp2_with fail
   refine CM.mono ?_
   rintro e t3 ⟨rfl,hsm⟩
   have hb3:=hsm.below t1.heap.size
   have SM:=LS t3 hb3
   rw [HL5.out.2.2,HPP.out,HP.out] at SM
   obtain⟨m0',m1'⟩:=duo (ae (bC HB1.out hb3) H0.out)
   have HB3:=ac (bC HB1.out hb3)
   clear CM LS m0 m1 hsm hb3
   go_wp2_with fail
   refine SM.mono ?_
   rintro e tp ⟨⟨vp,rp,rfl,hAp,hvp,htp⟩,hb2⟩
   have HBP:=ac (bC HB3.out hb2)
   have lrp:rp.length≤17592186043001:=by
    have:=iB 17592186043000 HL.out.2.1 HL.out.2.2.1 (show val rp≤val G by rw [hvp,←HP.out];omega) htp
    omega
   clear SM hb2 m0' m1'
   have NP:=hAp.arg (by omega)
   obtain⟨ap,cp,rfl,_,_,_⟩:=NP.form
   have BO:=wboth_any (blen (val rp)) rp Y _ _ tp (by omega) NP (HB.out.below HBP.out) (HT.out.below HBP.out) (by omega) (by have:=HL.out.2.2.2;omega) HY0.out
   rw [hvp] at BO
   obtain⟨mb0,mb1⟩:=duo (ae HBP.out H1.out)
   go_wp2_with fail
   refine BO.mono ?_
   rintro e t7 ⟨⟨v7,v8,r7,r8,rfl,hA7,hA8,hv7,ht7,_,_,_⟩,hb7⟩
   obtain⟨a7,c7,rfl⟩:=hA7.shape
   have HBQ:=HBP
   have SG:=dF bb _ r7 _ t7 (P / val Y) (zz bb (P / val Y)) rfl hA7 hv7 ht7
   have HB7:=ac (bC HBP.out hb7)
   obtain⟨nb0,nb1⟩:=duo (ae HB7.out H1.out)
   have HA7:=ac hA7
   have HV7:=ac (And.intro hv7 ht7)
   clear BO mb0 mb1 hb7 hA7 hA8 hv7 ht7 NP hAp hvp htp
   go_wp2_with fail
   refine SG.mono ?_
   rintro e t8 ⟨rfl,hb8⟩
   have HB8:=ac (bC HB7.out hb8)
   have hx8:=ae HB8.out H2.out
   obtain⟨y0,y1⟩:=duo hx8
   have hy8:=av hx8
   have R5:=aH (a':=.bool (decide (zz bb (P / val Y)<0))) (b':=.slice a7 r7.length c7) hx8
   have HE:=ac (And.intro ((HA7.out.below hb8).duo (u0:=.bool (decide (zz bb (P / val Y)<0))) (u1:=.slice a7 r7.length c7) hx8) (aC (u0:=.bool (decide (zz bb (P / val Y)<0))) (u1:=.slice a7 r7.length c7) (bC HB0.out HB8.out) (show w.heap.size≤w.heap.size+2 by omega)))
   obtain⟨q0,q1⟩:=duo R5
   clear SG nb0 nb1 hb8 hx8 R5
   go_wp2
   clear y0 y1 hy8
   generalize (t8.setCell ⟨w.heap.size+2,0,none⟩ (.bool (decide (zz bb (P / val Y)<0)))).setCell ⟨w.heap.size+2,1,none⟩ (.slice a7 r7.length c7)=w9 at *
   refine bodyPost_ret (v:=.agg #[.bool (decide (zz bb (P / val Y)<0)),.slice a7 r7.length c7]) (by simp [results,Tryz.results46,go_sem,q0,q1]) rfl ?_
   exact⟨⟨_,_,_,_,r7,rfl,rfl,HE.out.1.base (Nat.le_trans HB0.out.size HBQ.out.size),by rw [HV7.out.1,aB],HV7.out.2⟩,HE.out.2⟩
  ·rw [if_neg hlt]
   obtain⟨P,hP⟩:∃P,p - val G=P:=⟨_,rfl⟩
   rw [hP]
   have HP:=ac hP
   have HLT:=ac hlt
   clear hP hlt
   go_enter Tryz.func46,Tryz.ntmps46
   go_wp2_with fail
   refine PR.mono ?_
   rintro e t1 ⟨⟨v5,r5,rfl,hA5,hv5,ht5⟩,hb1⟩
   have L5:r5.length≤17592186043000:=HPN.out r5 hv5 ht5
   have N5:=hA5.arg (by omega)
   obtain⟨a5,c5,rfl,_,_,_⟩:=N5.form
   obtain⟨m0,m1⟩:=duo (ae hb1 H0.out)
   have CM:=gv _ _ r5 G t1 N5 (HG.out.below hb1)
   rw [hv5,HPP.out] at CM
   obtain⟨cc,hcc,hc0⟩:∃cc:Int,cmpN p (val G)=cc∧¬cc<0:=⟨_,rfl,by unfold cmpN;rw [if_neg HLT.out];split <;> omega⟩
   rw [hcc] at CM
   have LS:=fun W hg=>dq _ _ r5 G W (N5.below hg) (HG.out.below (bC hb1 hg)) (by omega) (by rw [hv5,HPP.out];have:=HLT.out;omega)
   clear hcc
   have HB1:=ac hb1
   have HL5:=ac (And.intro N5.limbs (And.intro L5 hv5))
   clear PR k0 k1 hA5 hv5 ht5 hb1 N5 L5
   go_wp2_with fail
   refine CM.mono ?_
   rintro e t3 ⟨rfl,hsm⟩
   have hb3:=hsm.below t1.heap.size
   have SM:=LS t3 hb3
   rw [HL5.out.2.2,HPP.out,HP.out] at SM
   have HB3:=ac (bC HB1.out hb3)
   clear CM LS m0 m1 hsm hb3
   go_wp2_with fail
   refine SM.mono ?_
   rintro e tp ⟨⟨vp,rp,rfl,hAp,hvp,htp⟩,hb2⟩
   have HBP:=ac (bC HB3.out hb2)
   have lrp:rp.length≤17592186043001:=by
    have:=iB 17592186043000 HL5.out.1 HL5.out.2.1 (show val rp≤val r5 by rw [hvp,←HP.out,HL5.out.2.2,HPP.out];omega) htp
    omega
   clear SM hb2
   have NP:=hAp.arg (by omega)
   obtain⟨ap,cp,rfl,_,_,_⟩:=NP.form
   have BO:=wboth_any (blen (val rp)) rp Y _ _ tp (by omega) NP (HB.out.below HBP.out) (HT.out.below HBP.out) (by omega) (by have:=HL.out.2.2.2;omega) HY0.out
   rw [hvp] at BO
   obtain⟨mb0,mb1⟩:=duo (ae HBP.out H1.out)
   go_wp2_with fail
   refine BO.mono ?_
   rintro e t7 ⟨⟨v7,v8,r7,r8,rfl,hA7,hA8,hv7,ht7,_,_,_⟩,hb7⟩
   obtain⟨a7,c7,rfl⟩:=hA7.shape
   have HBQ:=HBP
   have SG:=dF (!bb) _ r7 _ t7 (P / val Y) (zz (!bb) (P / val Y)) rfl hA7 hv7 ht7
   have HB7:=ac (bC HBP.out hb7)
   obtain⟨nb0,nb1⟩:=duo (ae HB7.out H1.out)
   have HA7:=ac hA7
   have HV7:=ac (And.intro hv7 ht7)
   clear BO mb0 mb1 hb7 hA7 hA8 hv7 ht7 NP hAp hvp htp
   go_wp2_with fail
   refine SG.mono ?_
   rintro e t8 ⟨rfl,hb8⟩
   have HB8:=ac (bC HB7.out hb8)
   have hx8:=ae HB8.out H2.out
   obtain⟨y0,y1⟩:=duo hx8
   have hy8:=av hx8
   have R5:=aH (a':=.bool (decide (zz (!bb) (P / val Y)<0))) (b':=.slice a7 r7.length c7) hx8
   have HE:=ac (And.intro ((HA7.out.below hb8).duo (u0:=.bool (decide (zz (!bb) (P / val Y)<0))) (u1:=.slice a7 r7.length c7) hx8) (aC (u0:=.bool (decide (zz (!bb) (P / val Y)<0))) (u1:=.slice a7 r7.length c7) (bC HB0.out HB8.out) (show w.heap.size≤w.heap.size+2 by omega)))
   obtain⟨q0,q1⟩:=duo R5
   clear SG nb0 nb1 hb8 hx8 R5
   go_wp2
   clear y0 y1 hy8
   generalize (t8.setCell ⟨w.heap.size+2,0,none⟩ (.bool (decide (zz (!bb) (P / val Y)<0)))).setCell ⟨w.heap.size+2,1,none⟩ (.slice a7 r7.length c7)=w9 at *
   refine bodyPost_ret (v:=.agg #[.bool (decide (zz (!bb) (P / val Y)<0)),.slice a7 r7.length c7]) (by simp [results,Tryz.results46,go_sem,q0,q1]) rfl ?_
   exact⟨⟨_,_,_,_,r7,rfl,rfl,HE.out.1.base (Nat.le_trans HB0.out.size HBQ.out.size),by rw [HV7.out.1,aB],HV7.out.2⟩,HE.out.2⟩
 ·have eo:oth true bb (val X) (val Y) (val G) (val Z)=zz bb ((val G+val X*val Z) / val Y):=rfl
  rw [eo]
  clear eo
  obtain⟨P,hP⟩:∃P,val G+val X*val Z=P:=⟨_,rfl⟩
  rw [hP]
  have HP:=ac hP
  clear hP
  go_enter Tryz.func46,Tryz.ntmps46
  go_wp2_with fail
  refine PR.mono ?_
  rintro e t1 ⟨⟨v5,r5,rfl,hA5,hv5,ht5⟩,hb1⟩
  have L5:r5.length≤17592186043000:=HPN.out r5 hv5 ht5
  have N5:=hA5.arg (by omega)
  obtain⟨a5,c5,rfl,_,_,_⟩:=N5.form
  obtain⟨m0,m1⟩:=duo (ae hb1 H0.out)
  have SM:=gC _ _ G r5 t1 (HG.out.below hb1) N5 (by have:=HL.out.2.2.1;omega) (by omega)
  rw [hv5,HP.out] at SM
  have HB1:=ac hb1
  have HL5:=ac (And.intro N5.limbs (And.intro L5 hv5))
  clear PR k0 k1 hA5 hv5 ht5 hb1 N5 L5
  go_wp2_with fail
  refine SM.mono ?_
  rintro e tp ⟨⟨vp,rp,rfl,hAp,hvp,htp⟩,hb2⟩
  have HBP:=ac (bC HB1.out hb2)
  have lrp:rp.length≤17592186043001:=jq 17592186043000 HL.out.2.1 HL.out.2.2.1 HL5.out.1 HL5.out.2.1 (by rw [hvp,←HP.out,HL5.out.2.2]) htp
  clear SM hb2 m0 m1
  have NP:=hAp.arg (by omega)
  obtain⟨ap,cp,rfl,_,_,_⟩:=NP.form
  have BO:=wboth_any (blen (val rp)) rp Y _ _ tp (by omega) NP (HB.out.below HBP.out) (HT.out.below HBP.out) (by omega) (by have:=HL.out.2.2.2;omega) HY0.out
  rw [hvp] at BO
  obtain⟨mb0,mb1⟩:=duo (ae HBP.out H1.out)
  go_wp2_with fail
  refine BO.mono ?_
  rintro e t7 ⟨⟨v7,v8,r7,r8,rfl,hA7,hA8,hv7,ht7,_,_,_⟩,hb7⟩
  obtain⟨a7,c7,rfl⟩:=hA7.shape
  have HBQ:=HBP
  have SG:=dF bb _ r7 _ t7 (P / val Y) (zz bb (P / val Y)) rfl hA7 hv7 ht7
  have HB7:=ac (bC HBP.out hb7)
  obtain⟨nb0,nb1⟩:=duo (ae HB7.out H1.out)
  have HA7:=ac hA7
  have HV7:=ac (And.intro hv7 ht7)
  clear BO mb0 mb1 hb7 hA7 hA8 hv7 ht7 NP hAp hvp htp
  go_wp2_with fail
  refine SG.mono ?_
  rintro e t8 ⟨rfl,hb8⟩
  have HB8:=ac (bC HB7.out hb8)
  have hx8:=ae HB8.out H2.out
  obtain⟨y0,y1⟩:=duo hx8
  have hy8:=av hx8
  have R5:=aH (a':=.bool (decide (zz bb (P / val Y)<0))) (b':=.slice a7 r7.length c7) hx8
  have HE:=ac (And.intro ((HA7.out.below hb8).duo (u0:=.bool (decide (zz bb (P / val Y)<0))) (u1:=.slice a7 r7.length c7) hx8) (aC (u0:=.bool (decide (zz bb (P / val Y)<0))) (u1:=.slice a7 r7.length c7) (bC HB0.out HB8.out) (show w.heap.size≤w.heap.size+2 by omega)))
  obtain⟨q0,q1⟩:=duo R5
  clear SG nb0 nb1 hb8 hx8 R5
  go_wp2
  clear y0 y1 hy8
  generalize (t8.setCell ⟨w.heap.size+2,0,none⟩ (.bool (decide (zz bb (P / val Y)<0)))).setCell ⟨w.heap.size+2,1,none⟩ (.slice a7 r7.length c7)=w9 at *
  refine bodyPost_ret (v:=.agg #[.bool (decide (zz bb (P / val Y)<0)),.slice a7 r7.length c7]) (by simp [results,Tryz.results46,go_sem,q0,q1]) rfl ?_
  exact⟨⟨_,_,_,_,r7,rfl,rfl,HE.out.1.base (Nat.le_trans HB0.out.size HBQ.out.size),by rw [HV7.out.1,aB],HV7.out.2⟩,HE.out.2⟩

def dg (m a:Nat)(w:World)(e:Ending)(w':World):Prop:=
 (∃v1 v2 r1 r2,e=.returned (.tuple #[v1,v2])∧Ans w' w.heap.size v1 r1∧Ans w' w.heap.size v2 r2∧val r1=Nat.gcd m a∧tr r1=r1∧IsInv m a (Nat.gcd m a) (val r2)∧tr r2=r2∧(∀k,v1.ownBlock=some k→v2.ownBlock≠some k))∧Below w.heap.size w w'

theorem dg.below {m a:Nat}{w w1 w2:World}{e:Ending}(h:dg m a w e w1)(hb:Below w1.heap.size w1 w2):dg m a w e w2:=by
 obtain⟨⟨v1,v2,r1,r2,h1,h2,h3,h4⟩,h5⟩:=h
 exact⟨⟨v1,v2,r1,r2,h1,h2.below hb,h3.below hb,h4⟩,h5.trans (hb.mono h5.size)⟩

theorem qj {w w0:World}{a b c:Value}(hb0:Below w.heap.size w w0)(h0:w0.heap[w.heap.size]?=some (.cells #[.int .u64 1] 61))(h1:w0.heap[w.heap.size+1]?=some (.cells #[a,b,c] 107)) :
  aP (((w0.setCell ⟨w.heap.size+1,0,none⟩ (.slice none 0 0)).setCell ⟨w.heap.size+1,1,none⟩ (.slice (some ⟨w.heap.size,0,none⟩) 1 1)).setCell ⟨w.heap.size+1,2,none⟩ (.bool false)) (w.heap.size+1) w.heap.size (.slice none 0 0) (.slice (some ⟨w.heap.size,0,none⟩) 1 1) 0 1 false ∧
  Below w.heap.size w (((w0.setCell ⟨w.heap.size+1,0,none⟩ (.slice none 0 0)).setCell ⟨w.heap.size+1,1,none⟩ (.slice (some ⟨w.heap.size,0,none⟩) 1 1)).setCell ⟨w.heap.size+1,2,none⟩ (.bool false)):=by
 have hne:w.heap.size≠w.heap.size+1:=by omega
 have hblk:Blk (((w0.setCell ⟨w.heap.size+1,0,none⟩ (.slice none 0 0)).setCell ⟨w.heap.size+1,1,none⟩ (.slice (some ⟨w.heap.size,0,none⟩) 1 1)).setCell ⟨w.heap.size+1,2,none⟩ (.bool false)) w.heap.size [1]:=aR (aR (aR h0 hne) hne) hne
 have A1:=Ans.of_blk (base:=w.heap.size) (zs:=[1]) (Nat.le_refl _) hblk (by simp) (by simp) (by simp) (by intro z hz;simp at hz;omega)
 refine⟨⟨aY (aY (aY h1 _) _) _,⟨by simp [Value.ownBlock],fun e=>?_⟩,⟨[],[1],Ans.nil _ _,A1,rfl,by simp [val],rfl,by simp [tr]⟩,fun k e=>by simp [Value.ownBlock] at e⟩,?_⟩
 ·have h9:w.heap.size=w.heap.size+1:=Option.some.inj e
  omega
 ·exact ((hb0.setCell (p:=⟨w.heap.size+1,0,none⟩) (by simp) _).setCell (p:=⟨w.heap.size+1,1,none⟩) (by simp) _).setCell (p:=⟨w.heap.size+1,2,none⟩) (by simp) _

theorem pH {w w1 w2:World}(h1:Below w.heap.size w w1)(hf:FrP (Pk (w.heap.size+1) (.slice none 0 0) (.slice (some ⟨w.heap.size,0,none⟩) 1 1)) w1 w2):Below w.heap.size w w2:=by
 refine⟨hf.os.trans h1.os,hf.tape.trans h1.tape,hf.output.trans h1.output,Nat.le_trans h1.size hf.size,fun k hk=>?_⟩
 have hs:=h1.size
 rw [hf.block k (by omega) ⟨by omega,by simp [Value.ownBlock],fun e=>?_⟩]
 ·exact h1.block k hk
 ·have h9:w.heap.size=k:=Option.some.inj e
  omega

theorem mK {m a g fx fy:Nat}{o:Bool}(h:Fac m a g 0 fx fy o)(hm:0<m)(ham:a<m)(ho:o=true∨fx=0):g=Nat.gcd m a∧IsInv m a (Nat.gcd m a) fx:=by
 obtain⟨h1,h2,h3⟩:=h.ended hm ham
 rw [if_pos ho] at h3
 exact⟨h1,by rw [←h1];exact h3⟩

theorem ry {m a g fx fy:Nat}(h:Fac m a g 0 fx fy false)(hm:0<m)(ham:a<m)(ho:0<fx):g=Nat.gcd m a∧0<g∧fx≤m / g∧IsInv m a (Nat.gcd m a) (m / g - fx):=by
 obtain⟨h1,h2,h3⟩:=h.ended hm ham
 rw [if_neg (by rintro (e|e);exact absurd e (by decide);omega)] at h3
 have hg:0<g:=by rw [h1];exact Nat.gcd_pos_of_pos_left a hm
 have e:m / g=fy:=by rw [←h2,Nat.mul_div_cancel _ hg]
 refine⟨h1,hg,by rw [e];omega,?_⟩
 rw [e,←h1];exact h3.2

theorem kd (va vm:Value)(A M:List Nat)(w:World)(hA:Arg w va A)(hM:Arg w vm M)(hT:Tab w)(hlt:val A<val M)(lA:A.length≤17592186043904)(lM:M.length≤17592186043904) :
  Calls Tryz.prog 43 #[va,vm] w (dg (val M) (val A) w):=by
 obtain⟨a1,c1,rfl,_,_,_⟩:=hA.form
 obtain⟨a2,c2,rfl,_,_,_⟩:=hM.form
 obtain⟨w0,hw0,hb0,h0,h1⟩:=bD w (.cells #[.int .u64 1] 61) (.cells #[.slice none 0 0,.slice none 0 0,.bool false] 107)
 obtain⟨hF,hB⟩:=qj hb0 h0 h1
 obtain⟨k0,k1,k2⟩:=cF h1
 have kf:=fj h1
 have tg:0<w.heap.size∧0≠w.heap.size+1:=⟨hT.1,by have:=hT.1;omega⟩
 obtain⟨w1,hw1⟩:∃w1,((w0.setCell ⟨w.heap.size+1,0,none⟩ (.slice none 0 0)).setCell ⟨w.heap.size+1,1,none⟩ (.slice (some ⟨w.heap.size,0,none⟩) 1 1)).setCell ⟨w.heap.size+1,2,none⟩ (.bool false)=w1:=⟨_,rfl⟩
 rw [hw1] at hF hB
 have C:=pO (w.heap.size+1) w.heap.size 17592186043904 _ _ _ _ M A w1 (hM.below hB) (hA.below hB) (hT.below hB) hF hB.size tg hlt (by omega) lM lA
 have HB:=ac hB
 have HM:=ac hM
 have HLT:=ac hlt
 clear hA hM hT hF hB hb0 h0 h1 tg
 go_enter Tryz.func43,Tryz.ntmps43
 go_wp2_with fail
 refine C.mono ?_
 rintro e w2 ⟨v,rs,vfx,vfy,fx,fy,o,rfl,hG,tG,hfac,hfa,hnx,hny,hfr,hpk,htab⟩
 have HB2:=ac (pH HB.out hfr)
 have HG:=ac (hG.base HB.out.size)
 obtain⟨X,Y,hX,hY,hvx,hvy,tX,tY⟩:=hfa.at2
 have HX:=ac (hX.below (Below.refl _ _))
 have hxl:X.length=0 ↔ fx=0:=by rw [←hvx];exact⟨fun e=>by rw [List.length_eq_zero_iff.1 e];rfl,fun e=>by have:=ch (X:=X) (n:=0) tX (by rw [e];simp);omega⟩
 obtain⟨a3,c3,rfl⟩:=hG.shape
 obtain⟨a4,c4,rfl⟩:=hX.shape
 obtain⟨q0,q1,q2⟩:=cF hfa.box
 have HV:=ac (And.intro hvx (And.intro tX (And.intro tG hpk)))
 clear hw0 hw1 k0 k1 k2 kf C
 by_cases hc:o=true∨fx=0
 ·obtain⟨e1,e2⟩:=mK hfac (by have:=HLT.out;omega) HLT.out hc
  have HE:Hid (dg (val M) (val A) w (.returned (.tuple #[.slice a3 rs.length c3,.slice a4 X.length c4])) w2):=by
   refine ac ⟨⟨_,_,rs,X,rfl,HG.out,HX.out,e1,HV.out.2.2.1,by rw [HV.out.1];exact e2,HV.out.2.1,fun k e=>(HV.out.2.2.2 k e).2.1⟩,HB2.out⟩
  clear e1 e2 hfac hfa hX hY hG hnx hny hfr htab hvx hvy tX tY tG hpk
  have hcs:o=true∨(o=false∧X.length=0):=by
   rcases hc with h|h
   ·exact .inl h
   ·cases o
    ·exact .inr ⟨rfl,hxl.2 h⟩
    ·exact .inl rfl
  clear hc hxl
  rcases hcs with rfl|⟨rfl,hx0⟩
  ·go_wp2
   go_quiet (fail)
   go_wp2
   go_returns
   exact HE.out.below (((aD.refl _).drewN _).below _)
  ·obtain⟨n,hn⟩:∃n,X.length=n:=⟨_,rfl⟩
   rw [hn] at q0 hx0 HE
   subst hx0
   go_wp2
   go_quiet (fail)
   go_wp2
   go_returns
   exact HE.out.below (((aD.refl _).drewN _).below _)
 ·have ho:o=false:=by cases o;rfl;exact absurd (.inl rfl) hc
  subst ho
  have hfx:0<fx:=Nat.pos_of_ne_zero fun e=>hc (.inr e)
  obtain⟨e1,eg,e2,e3⟩:=ry hfac (by have:=HLT.out;omega) HLT.out hfx
  have hx1:(0:Int)<(X.length:Int):=by
   have:X.length≠0:=fun e=>by have:=hxl.1 e;omega
   omega
  have hx2:¬(X.length:Int)=0:=by omega
  have lrs:rs.length≤17592186043904:=by
   refine Nat.le_trans (ch tG ?_) lM
   have:val rs≤val M:=by rw [e1];exact Nat.gcd_le_left _ (by have:=HLT.out;omega)
   exact Nat.lt_of_le_of_lt this (val_lt HM.out.limbs)
  have C:=wboth_any (blen (val M)) M rs _ _ w2 (by omega) (HM.out.below HB2.out) (hG.arg (by omega)) htab (by omega) (by omega) eg
  have HE:=ac (And.intro e1 (And.intro e2 e3))
  have HF:=ac hfa.box
  have HL:=ac (And.intro lM (val_lt HM.out.limbs))
  clear e1 eg e2 e3 hfac hfa hX hY hG hnx hny hfr htab hvx hvy tX tY tG hpk hxl hc hfx
  go_wp2_with fail
  refine C.mono ?_
  rintro e w3 ⟨⟨v5,v6,r5,r6,rfl,hA5,hA6,hv5,ht5,_,_,_⟩,hb3⟩
  obtain⟨a5,c5,rfl⟩:=hA5.shape
  obtain⟨a6,c6,rfl⟩:=hA6.shape
  have l5:r5.length≤17592186043904:=by
   refine Nat.le_trans (ch ht5 ?_) HL.out.1
   rw [hv5]
   exact Nat.lt_of_le_of_lt (Nat.div_le_self _ _) HL.out.2
  have hle:val X≤val r5:=by rw [hv5,HV.out.1];exact HE.out.2.1
  have l4:X.length≤17592186043904:=Nat.le_trans (ch HV.out.2.1 (Nat.lt_of_le_of_lt hle (val_lt hA5.limbs))) l5
  have LS:=dq _ _ r5 X w3 (hA5.arg (by omega)) ((HX.out.below hb3).arg (by omega)) (by omega) hle
  rw [hv5,HV.out.1] at LS
  obtain⟨p0,p1,p2⟩:=cF (ae hb3 HF.out)
  have HG3:=ac (HG.out.below hb3)
  have HB3:=ac (aA HB2.out hb3)
  clear C q0 q1 q2 hb3 hA5 hA6 hv5 ht5 l5 hle l4
  go_wp2_with fail
  refine LS.mono ?_
  rintro e w4 ⟨⟨v7,r7,rfl,hA7,hv7,ht7⟩,hb4⟩
  have HZ:Hid (dg (val M) (val A) w (.returned (.tuple #[.slice a3 rs.length c3,v7])) w4):=by
   refine ac ⟨⟨_,_,rs,r7,rfl,HG3.out.below hb4,hA7.base HB3.out.size,HE.out.1,HV.out.2.2.1,by rw [hv7];exact HE.out.2.2,ht7,fun k e e2=>?_⟩,aA HB3.out hb4⟩
   have h1:=(HG3.out.own.lt k e).2
   have h2:=(hA7.own.lt k e2).1
   omega
  clear LS hA7 hv7 ht7 hb4 p0 p1 p2
  go_wp2
  go_returns
  exact HZ.out
end Go.Proofs.YtdbjbbdhlpfhjaaGreatDoor
namespace Go.Proofs.YtdbjbbdhlpfhjaaGreatDoor
open Go.RowKit
open Lm

def er (b:Bool)(x m:Nat):Nat:=if b=true∧0<x % m then m - x % m else x % m

theorem gL (b:Bool)(x m:Nat)(hm:0<m):er b x m<m:=by
 have:=Nat.mod_lt x hm
 unfold er
 split <;> omega

theorem oH (b:Bool)(x m:Nat)(hm:0<m):((er b x m:Nat):Int)=zz b x % (m:Int):=by
 have hlt:=Nat.mod_lt x hm
 have hd:=Nat.div_add_mod x m
 cases b
 ·simp [er,zz]
 ·obtain⟨q,hq⟩:∃q,x / m=q:=⟨_,rfl⟩
  obtain⟨r,hr⟩:∃r,x % m=r:=⟨_,rfl⟩
  rw [hq,hr] at hd
  rw [hr] at hlt
  have hx:(x:Int)=(m:Int)*(q:Int)+(r:Int):=by rw [←hd];push_cast;rfl
  simp only [er,zz,true_and,if_true,hr]
  by_cases h0:0<r
  ·rw [if_pos h0]
   have e:-(x:Int)=((m - r:Nat):Int)+(m:Int)*(-(q:Int) - 1):=by
    rw [hx,Int.mul_sub,Int.mul_neg,Int.mul_one]
    omega
   rw [e,Int.add_mul_emod_self_left,Int.emod_eq_of_lt (by omega) (by omega)]
  ·rw [if_neg h0]
   have e:-(x:Int)=((r:Nat):Int)+(m:Int)*(-(q:Int)):=by
    rw [hx,Int.mul_neg]
    omega
   rw [e,Int.add_mul_emod_self_left,Int.emod_eq_of_lt (by omega) (by omega)]

theorem eW (ba:Bool)(A B:Nat)(hB:0<B):∃l:Int,zz ba A=(er ba A B:Int)+l*(B:Int):=by
 refine⟨zz ba A / (B:Int),?_⟩
 rw [oH ba A B hB,Int.emod_def]
 grind

theorem jw (b:Bool)(d A:Nat):(d:Int) ∣ zz b A ↔ d ∣ A:=by
 cases b
 ·simp only [zz,Bool.false_eq_true,if_false]
  exact Int.natCast_dvd_natCast
 ·simp only [zz,if_true]
  rw [Int.dvd_neg]
  exact Int.natCast_dvd_natCast

theorem dI (ba:Bool)(A B:Nat)(hB:0<B):Nat.gcd B (er ba A B)=Nat.gcd A B:=by
 obtain⟨l,hl⟩:=eW ba A B hB
 have key:∀d:Nat,d ∣ B→(d ∣ er ba A B ↔ d ∣ A):=by
  intro d hd
  have h1:(d:Int) ∣ l*(B:Int):=Int.dvd_trans (Int.natCast_dvd_natCast.2 hd) (Int.dvd_mul_left _ _)
  constructor
  ·intro h
   rw [←jw ba d A,hl]
   exact Int.dvd_add (Int.natCast_dvd_natCast.2 h) h1
  ·intro h
   rw [←jw ba d A,hl] at h
   exact Int.natCast_dvd_natCast.1 ((Int.dvd_add_left h1).1 h)
 refine Nat.dvd_antisymm (Nat.dvd_gcd ?_ (Nat.gcd_dvd_left _ _)) (Nat.dvd_gcd (Nat.gcd_dvd_right _ _) ?_)
 ·exact (key _ (Nat.gcd_dvd_left _ _)).1 (Nat.gcd_dvd_right _ _)
 ·exact (key _ (Nat.gcd_dvd_right _ _)).2 (Nat.gcd_dvd_left _ _)

theorem iS (b:Bool)(B n:Nat):zz b B*zz b n=(B:Int)*(n:Int):=by
 cases b <;> simp [zz,Int.neg_mul,Int.mul_neg]

theorem mb (b:Bool)(B n:Nat):zz b B*zz (!b) n=-((B:Int)*(n:Int)):=by
 cases b <;> simp [zz,Int.neg_mul,Int.mul_neg]

theorem ee {m a g x:Nat}(h:IsInv m a g x)(hm:0<m)(hg:0<g):x<m:=by
 rcases h.lt with h1|⟨h1,_⟩
 ·exact Nat.lt_of_le_of_lt (Nat.le_mul_of_pos_right x hg) h1
 ·omega

theorem oa (ba bb:Bool)(A B g x:Nat)(hB:0<B)(hg:g=Nat.gcd A B)(hi:IsInv B (er ba A B) g x) :
  zz ba A*(x:Int)+zz bb B*oth ba bb A B g x=(g:Int)∧((oth ba bb A B g x).natAbs≤A∨(oth ba bb A B g x).natAbs≤1):=by
 obtain⟨l,hl⟩:=eW ba A B hB
 obtain⟨k,hk⟩:=hi.eq
 have hgB:g≤B:=by rw [hg];exact Nat.gcd_le_right A hB
 have hg0:0<g:=by rw [hg];exact Nat.gcd_pos_of_pos_right A hB
 have hx:=ee hi hB hg0
 obtain⟨t,ht⟩:∃t:Int,zz ba A*(x:Int)=(g:Int)+t*(B:Int):=⟨k+l*x,by rw [hl];grind⟩
 have hAB:A*x≤A*B:=Nat.mul_le_mul_left _ (Nat.le_of_lt hx)
 cases ba
 ·have ht2:((A*x:Nat):Int)=(g:Int)+t*(B:Int):=by rw [Int.natCast_mul];exact ht
  unfold oth
  rw [if_neg (by decide)]
  by_cases hlt:A*x<g
  ·rw [if_pos hlt]
   obtain⟨n,hn⟩:B ∣ g - A*x:=by
    apply Int.natCast_dvd_natCast.1
    rw [Int.natCast_sub (Nat.le_of_lt hlt),ht2]
    exact⟨-t,by grind⟩
   have hne:((g - A*x:Nat):Int)=((B*n:Nat):Int):=by rw [hn]
   rw [Int.natCast_sub (Nat.le_of_lt hlt),ht2,Int.natCast_mul] at hne
   rw [hn,Nat.mul_div_cancel_left _ hB,iS,ht,aB]
   refine⟨by omega,.inr ?_⟩
   have:B*n≤B*1:=by omega
   exact Nat.le_of_mul_le_mul_left this hB
  ·rw [if_neg hlt]
   obtain⟨n,hn⟩:B ∣ A*x - g:=by
    apply Int.natCast_dvd_natCast.1
    rw [Int.natCast_sub (by omega),ht2]
    exact⟨t,by grind⟩
   have hne:((A*x - g:Nat):Int)=((B*n:Nat):Int):=by rw [hn]
   rw [Int.natCast_sub (by omega),ht2,Int.natCast_mul] at hne
   rw [hn,Nat.mul_div_cancel_left _ hB,mb,ht,aB]
   refine⟨by omega,.inl ?_⟩
   have:B*n≤B*A:=by rw [Nat.mul_comm B A];omega
   exact Nat.le_of_mul_le_mul_left this hB
 ·have ht2:-((A*x:Nat):Int)=(g:Int)+t*(B:Int):=by
   rw [←ht,Int.natCast_mul]
   simp [zz,Int.neg_mul]
  unfold oth
  rw [if_pos rfl]
  obtain⟨n,hn⟩:B ∣ g+A*x:=by
   apply Int.natCast_dvd_natCast.1
   rw [Int.natCast_add]
   exact⟨-t,by grind⟩
  have hne:((g+A*x:Nat):Int)=((B*n:Nat):Int):=by rw [hn]
  rw [Int.natCast_add,Int.natCast_mul B n] at hne
  rw [hn,Nat.mul_div_cancel_left _ hB,iS,ht,aB]
  refine⟨by omega,?_⟩
  rcases Nat.eq_zero_or_pos A with h0|h0
  ·refine .inr ?_
   subst h0
   have:B*n≤B*1:=by omega
   exact Nat.le_of_mul_le_mul_left this hB
  ·refine .inl ?_
   have hgA:g≤A:=by rw [hg];exact Nat.gcd_le_left B h0
   have h2:A+A*x≤A*B:=by
    have:A*(x+1)≤A*B:=Nat.mul_le_mul_left _ hx
    rw [Nat.mul_add,Nat.mul_one] at this
    omega
   have:B*n≤B*A:=by rw [Nat.mul_comm B A];omega
   exact Nat.le_of_mul_le_mul_left this hB
end Go.Proofs.YtdbjbbdhlpfhjaaGreatDoor
namespace Go.Proofs.YtdbjbbdhlpfhjaaGreatDoor
open Go.RowKit
open Lm
attribute [local go_sem ↓] Go.wp_at_zero Go.wp_at_succ

def ZA (w:World)(base:Nat)(b:Bool)(u:Value)(z:Int):Prop:=∃rs,Ans w base u rs∧b=decide (z<0)∧val rs=z.natAbs∧tr rs=rs

theorem gK (n:Int)(w:World)(h1:-9223372036854775808≤n)(h2:n≤9223372036854775807) :
  Calls Tryz.prog 41 #[.int .i64 n] w fun e w'=>(∃b a l k,e=.returned (.agg #[.bool b,.slice a l k])∧ZA w' w.heap.size b (.slice a l k) n)∧Below w.heap.size w w':=by
 obtain⟨w0,hw0,hb0,hx0⟩:=aL w (.cells #[.bool false,.slice none 0 0] 27)
 by_cases hn:n<0
 ·obtain⟨m,hm⟩:∃m,IntKind.i64.wrap (-n)=m:=⟨_,rfl⟩
  have hm2:IntKind.u64.wrap m=((n.natAbs:Nat):Int):=by rw [←hm,IntKind.wrap_i64,IntKind.wrap_u64];omega
  have hm3:IntKind.u64.wrap ((n.natAbs:Nat):Int)=((n.natAbs:Nat):Int):=by rw [IntKind.wrap_u64];omega
  have HM:=kP n.natAbs w0 (by omega)
  have HB0:=ac hb0
  have HX0:=ac hx0
  clear hb0 hx0
  go_enter Tryz.func41,Tryz.ntmps41
  go_wp2_with fail
  refine HM.mono ?_
  rintro e w1 ⟨⟨v1,rfl,A1⟩,hb1⟩
  have HS:=bI true v1 _ _ w1 A1
  rw [bN true (tr_tr _) (val_tr _)] at HS
  have e1:zz true (val [n.natAbs])=n:=by simp [zz,val];omega
  rw [e1] at HS
  have hv:val (tr [n.natAbs])=n.natAbs:=by rw [val_tr];simp [val]
  have ht:=tr_tr [n.natAbs]
  generalize tr [n.natAbs]=rs at *
  obtain⟨a1,k1,rfl⟩:=A1.shape
  have HA1:=ac A1
  have HW1:=ac hb1
  have HV:=ac (And.intro hv ht)
  clear A1 hb1 HM e1 hv ht
  go_wp2_with fail
  refine HS.mono ?_
  rintro e w2 ⟨rfl,hb2⟩
  have HW:=ac (HW1.out.trans (hb2.mono HW1.out.size))
  have HAN:=ac ((HA1.out.below hb2).base HB0.out.size)
  have hbx:=ae HW.out HX0.out
  have hf1:=av hbx
  obtain⟨l0,l1⟩:=duo hbx
  have HBX:=ac hbx
  have HBE:=ac (HB0.out.trans (HW.out.mono HB0.out.size))
  clear hbx hb2 HS hw0
  obtain⟨ub,hub⟩:∃ub,decide (n<0)=ub:=⟨_,rfl⟩
  rw [hub]
  go_wp2
  have R5:=aH HBX.out (a':=.bool ub) (b':=.slice a1 rs.length k1)
  have HD:=ac (And.intro (HAN.out.duo (u0:=.bool ub) (u1:=.slice a1 rs.length k1) HBX.out) (aC HBE.out (g:=w.heap.size) (u0:=.bool ub) (u1:=.slice a1 rs.length k1) (Nat.le_refl _)))
  generalize (w2.setCell ⟨w.heap.size,0,none⟩ (.bool ub)).setCell ⟨w.heap.size,1,none⟩ (.slice a1 rs.length k1)=w5 at *
  obtain⟨q0,q1⟩:=duo R5
  refine bodyPost_ret (v:=.agg #[.bool ub,.slice a1 rs.length k1]) (by simp [results,Tryz.results41,go_sem,q0,q1]) rfl ?_
  exact⟨⟨_,_,_,_,rfl,rs,HD.out.1,hub.symm,HV.out⟩,HD.out.2⟩
 ·have hm2:IntKind.u64.wrap n=((n.natAbs:Nat):Int):=by rw [IntKind.wrap_u64];omega
  have hm3:IntKind.u64.wrap ((n.natAbs:Nat):Int)=((n.natAbs:Nat):Int):=by rw [IntKind.wrap_u64];omega
  have HM:=kP n.natAbs w0 (by omega)
  have HB0:=ac hb0
  have HX0:=ac hx0
  clear hb0 hx0
  go_enter Tryz.func41,Tryz.ntmps41
  go_wp2_with fail
  refine HM.mono ?_
  rintro e w1 ⟨⟨v1,rfl,A1⟩,hb1⟩
  have HS:=bI false v1 _ _ w1 A1
  rw [bN false (tr_tr _) (val_tr _)] at HS
  have e1:zz false (val [n.natAbs])=n:=by simp [zz,val];omega
  rw [e1] at HS
  have hv:val (tr [n.natAbs])=n.natAbs:=by rw [val_tr];simp [val]
  have ht:=tr_tr [n.natAbs]
  generalize tr [n.natAbs]=rs at *
  obtain⟨a1,k1,rfl⟩:=A1.shape
  have HA1:=ac A1
  have HW1:=ac hb1
  have HV:=ac (And.intro hv ht)
  clear A1 hb1 HM e1 hv ht
  go_wp2_with fail
  refine HS.mono ?_
  rintro e w2 ⟨rfl,hb2⟩
  have HW:=ac (HW1.out.trans (hb2.mono HW1.out.size))
  have HAN:=ac ((HA1.out.below hb2).base HB0.out.size)
  have hbx:=ae HW.out HX0.out
  have hf1:=av hbx
  obtain⟨l0,l1⟩:=duo hbx
  have HBX:=ac hbx
  have HBE:=ac (HB0.out.trans (HW.out.mono HB0.out.size))
  clear hbx hb2 HS hw0
  obtain⟨ub,hub⟩:∃ub,decide (n<0)=ub:=⟨_,rfl⟩
  rw [hub]
  go_wp2
  have R5:=aH HBX.out (a':=.bool ub) (b':=.slice a1 rs.length k1)
  have HD:=ac (And.intro (HAN.out.duo (u0:=.bool ub) (u1:=.slice a1 rs.length k1) HBX.out) (aC HBE.out (g:=w.heap.size) (u0:=.bool ub) (u1:=.slice a1 rs.length k1) (Nat.le_refl _)))
  generalize (w2.setCell ⟨w.heap.size,0,none⟩ (.bool ub)).setCell ⟨w.heap.size,1,none⟩ (.slice a1 rs.length k1)=w5 at *
  obtain⟨q0,q1⟩:=duo R5
  refine bodyPost_ret (v:=.agg #[.bool ub,.slice a1 rs.length k1]) (by simp [results,Tryz.results41,go_sem,q0,q1]) rfl ?_
  exact⟨⟨_,_,_,_,rfl,rs,HD.out.1,hub.symm,HV.out⟩,HD.out.2⟩

theorem dr (L:Nat)(v1 v2:Value)(X Y:List Nat)(w:World)(hL:w.heap[L]?=some (.cells #[v1,v2] 25))(hA:Arg w v1 X)(hB:Arg w v2 Y) :
  Calls Tryz.prog 45 #[.slice (some ⟨L,0,none⟩) 2 2] w fun e w'=>e=.returned (.bool (decide (67108864<blen (val X)∨67108864<blen (val Y))))∧w'=w:=by
 obtain⟨c0,c1⟩:=duo hL
 have L1:=bB v1 X w hA
 have L2:=bB v2 Y w hB
 obtain⟨a1,n1,rfl,_,_,_⟩:=hA.form
 obtain⟨a2,n2,rfl,_,_,_⟩:=hB.form
 clear hA hB hL
 generalize blen (val X)=lx at *
 generalize blen (val Y)=ly at *
 by_cases h1:67108864<lx
 ·have i1:(67108864:Int)<(lx:Int):=by omega
  rw [decide_eq_true (.inl h1)]
  go_enter Tryz.func45,Tryz.ntmps45
  go_wp2
  refine wp_loop_rounds 1 ?_
  rw [rounds_succ]
  go_wp2_with fail
  refine L1.mono ?_
  rintro e wn ⟨rfl,hw⟩;rw [hw];clear hw wn L1
  go_wp2
  go_ret
  exact⟨rfl,rfl⟩
 ·have i1:¬(67108864:Int)<(lx:Int):=by omega
  by_cases h2:67108864<ly
  ·have i2:(67108864:Int)<(ly:Int):=by omega
   rw [decide_eq_true (.inr h2)]
   go_enter Tryz.func45,Tryz.ntmps45
   go_wp2
   refine wp_loop_rounds 2 ?_
   rw [rounds_succ]
   go_wp2_with fail
   refine L1.mono ?_
   rintro e wn ⟨rfl,hw⟩;rw [hw];clear hw wn L1
   go_wp2
   rw [rounds_succ]
   go_wp2_with fail
   refine L2.mono ?_
   rintro e wn ⟨rfl,hw⟩;rw [hw];clear hw wn L2
   go_wp2
   go_ret
   exact⟨rfl,rfl⟩
  ·have i2:¬(67108864:Int)<(ly:Int):=by omega
   rw [decide_eq_false (by omega)]
   go_enter Tryz.func45,Tryz.ntmps45
   go_wp2
   refine wp_loop_rounds 3 ?_
   rw [rounds_succ]
   go_wp2_with fail
   refine L1.mono ?_
   rintro e wn ⟨rfl,hw⟩;rw [hw];clear hw wn L1
   go_wp2
   rw [rounds_succ]
   go_wp2_with fail
   refine L2.mono ?_
   rintro e wn ⟨rfl,hw⟩;rw [hw];clear hw wn L2
   go_wp2
   rw [rounds_succ]
   go_wp2
   go_ret
   exact⟨rfl,rfl⟩

def ij:Value:=.agg #[.func (.func 168) #[] #[],.func (.func 169) #[] #[],.func (.func 170) #[] #[],.func (.func 171) #[] #[],.func (.func 173) #[] #[]]

theorem qF {P:Program}(w:World)(a:Addr)(m:Mode)(f:Fn)(x y:Array Value):(store a (.func f x y) m).run P w=stored P w a (.func f x y) m:=run_store P w a _ m rfl

attribute [local go_sem] qF in
theorem wdivs_any (w:World):Calls Tryz.prog 130 #[] w fun e w'=>e=.returned ij∧Below w.heap.size w w':=by
 have HB:=ac (cn w (.cells #[.func (.func 168) #[] #[],.func (.func 169) #[] #[],.func (.func 170) #[] #[],.func (.func 171) #[] #[],.func (.func 173) #[] #[]] 151))
 go_enter Tryz.func130,Tryz.ntmps130
 go_wp2
 go_returns
 exact⟨rfl,HB.out⟩

def dX (q r l:Value)(bl ap:Bool):Value:=.agg #[q,r,l,.bool bl,.bool ap]

theorem rD (a1 a2 a3:Option Addr)(n1 k1 n2 k2 n3 k3:Nat)(bl ap:Bool)(w:World):Calls Tryz.prog 169 #[dX (.slice a1 n1 k1) (.slice a2 n2 k2) (.slice a3 n3 k3) bl ap] w fun e w'=>e=.returned (.bool ap)∧Below w.heap.size w w':=by
 obtain⟨w0,hw0,hb0,hx0⟩:=aL w (.cells #[.slice a1 n1 k1,.slice a2 n2 k2,.slice a3 n3 k3,.bool bl,.bool ap] 154)
 have c3:w0.cell? ⟨w.heap.size,3,none⟩=some (.bool bl):=by simp [World.cell?,hx0]
 have c4:w0.cell? ⟨w.heap.size,4,none⟩=some (.bool ap):=by simp [World.cell?,hx0]
 have HB0:=ac hb0
 clear hb0 hx0
 unfold dX
 go_enter Tryz.func169,Tryz.ntmps169
 go_wp2
 go_ret
 exact⟨rfl,HB0.out⟩

theorem ow (w:World):(Instr.index 151 ij (.int .i64 1)).run Tryz.prog w=.ok (.agg #[.func (.func 169) #[] #[]]) w:=by kernel_rfl

theorem oc (w:World):(Instr.index 151 ij (.int .i64 3)).run Tryz.prog w=.ok (.agg #[.func (.func 171) #[] #[]]) w:=by kernel_rfl

theorem nQ (w:World):(Instr.field 150 (.agg #[.func (.func 169) #[] #[]]) 0).run Tryz.prog w=.ok (.func (.func 169) #[] #[]) w:=by kernel_rfl

theorem nR (w:World):(Instr.field 150 (.agg #[.func (.func 171) #[] #[]]) 0).run Tryz.prog w=.ok (.func (.func 171) #[] #[]) w:=by kernel_rfl
end Go.Proofs.YtdbjbbdhlpfhjaaGreatDoor
namespace Go.Proofs.YtdbjbbdhlpfhjaaGreatDoor
open Go.RowKit
open Lm

theorem dj (w:World)(o1 o2 o3 o4:Obj):∃w0,(((w.alloc o1).alloc o2).alloc o3).alloc o4=w0∧Below w.heap.size w w0∧w0.heap[w.heap.size]?=some o1∧w0.heap[w.heap.size+1]?=some o2∧w0.heap[w.heap.size+2]?=some o3∧w0.heap[w.heap.size+3]?=some o4:=by
 obtain⟨w1,h1,b1,c1,c2,c3⟩:=cO w o1 o2 o3
 obtain⟨w2,h2,b2,c4⟩:=aL w1 o4
 have hs:w1.heap.size=w.heap.size+3:=by rw [←h1,World.size_alloc,World.size_alloc,World.size_alloc]
 refine⟨w2,by rw [h1];exact h2,b1.trans (b2.mono b1.size),?_,?_,?_,by rw [←hs];exact c4⟩
 ·rw [b2.block _ (lt_of_block c1)];exact c1
 ·rw [b2.block _ (lt_of_block c2)];exact c2
 ·rw [b2.block _ (lt_of_block c3)];exact c3

theorem bj {B:Nat}{w0 w:World}{g:Nat}{u0 u1 u2 u3:Value}(h:Below B w0 w)(hg:B≤g):Below B w0 ((((w.setCell ⟨g,0,none⟩ u0).setCell ⟨g,1,none⟩ u1).setCell ⟨g+1,0,none⟩ u2).setCell ⟨g+1,1,none⟩ u3):=
 aC (aC h hg) (by omega)
end Go.Proofs.YtdbjbbdhlpfhjaaGreatDoor

