/- Package whole: Lehmer's steps taken: and nothing else has turned. -/
import Derived.Test.YtdbjbbdhlpfhjaaGreatDoorB09
import Derived.Test.YtdbjbbdhlpfhjaaGreatDoorB08
import Derived.Deep.RegionHeld3
import Derived.BigQuiet
import Derived.Deep.QuietTactic
import Derived.Deep.RegionLaw
import Derived.Deep.CutBlock
import Derived.Deep.DeepCutAuto
set_option maxRecDepth 20000
set_option maxHeartbeats 16000000
namespace Go.Proofs.YtdbjbbdhlpfhjaaGreatDoor
open Go.RowKit
open Lm
attribute [local go_sem ↓] Go.wp_at_zero Go.wp_at_succ

theorem rA (base gx cx gy cy a b c d:Nat)(X Y:List Nat)(w:World)(hX:Ans w base (.slice (some ⟨gx,0,none⟩) X.length cx) X)(hY:Ans w base (.slice (some ⟨gy,0,none⟩) Y.length cy) Y)(hne:gx≠gy)(hxy:Y.length≤X.length)(hbx:base≤gx)(hby:base≤gy)(hbw:base≤w.heap.size)
  (ha:a<4294967296) (hb:b<4294967296) (hc:c<4294967296) (hd:d<4294967296) (aq:Option Addr) (lq kq:Nat) (hod:(0<lq % 2)=(false=true)) (P:Nat→Prop) (hPx:¬P gx) (hPy:¬P gy) :
  Calls Tryz.prog 121 #[stw a b c d aq lq kq,.slice (some ⟨gx,0,none⟩) X.length cx,.slice (some ⟨gy,0,none⟩) Y.length cy] w fun e w'=>gJ base gx cx gy cy X Y (sgL false a) (sgL false b) (sgL false d) (sgL false c) w e w'∧FrP P w w':=by
 unfold stw
 obtain⟨w0,hw0⟩:∃w0,w0=w.alloc (.cells #[.int .u64 a,.int .u64 b,.int .u64 c,.int .u64 d,.slice aq lq kq] 139):=⟨_,rfl⟩
 have hb0:Below w.heap.size w w0:=by rw [hw0];exact (Below.refl _ _).alloc (Nat.le_refl _) _
 have h0:w0.heap[w.heap.size]?=some (.cells #[.int .u64 a,.int .u64 b,.int .u64 c,.int .u64 d,.slice aq lq kq] 139):=by rw [hw0];exact heap_alloc_new ..
 have hgx:gx≠w.heap.size:=fun e=>by
  have:=(hX.own.lt gx rfl).2;omega
 have hgy:gy≠w.heap.size:=fun e=>by
  have:=(hY.own.lt gy rfl).2;omega
 have O:=ii a b c d aq lq kq false w0 hod
 unfold stw at O
 obtain⟨d0,d1,d2,d3,d4⟩:=aM h0
 have HXA:=ac (hX.below hb0)
 have HYA:=ac (hY.below hb0)
 have H00:=ac h0
 have HB0:=ac (hb0.mono hbw)
 have HBS:=ac (Nat.le_trans hbw hb0.size)
 have HW0:=ac hw0
 clear hX hY hb0 h0 hw0 hod
 go_enter Tryz.func121,Tryz.ntmps121
 go_upto_region 2 with fail
 rw [←HW0.out]
 go_wp2_with fail
 refine O.mono ?_
 rintro e w2 ⟨rfl,hb2⟩
 have HT0:Hid (cE w w2 base gx cx gy cy X Y X Y 0 (sgL false a) (sgL false b) (sgL false d) (sgL false c) 0 0):=ac ⟨rfl,rfl,HXA.out.below hb2,HYA.out.below hb2,fun _ _=>rfl,fun _ _=>rfl,by omega,by omega,by omega,by omega,by simp [val],by simp [val],HB0.out.trans (hb2.mono HBS.out)⟩
 have H0:=ac (ae hb2 H00.out)
 have HF0:Hid (FrP P w w2):=ac ((FrP.of_below (by rw [HW0.out];exact (Below.refl _ _).alloc (Nat.le_refl _) _)).below hb2)
 clear O hb2 d0 d1 d2 d3 d4 HXA HYA H00 HB0 HW0 HBS
 go_wp2
 go_loopw [6,7,16] (fun ov un i wr=>∃(k:Nat) (X' Y':List Nat) (over under:Int),k≤Y.length∧ov=.int .i64 over∧un=.int .i64 under∧i=.int .i64 (k:Int)∧cE w wr base gx cx gy cy X Y X' Y' k (sgL false a) (sgL false b) (sgL false d) (sgL false c) over under∧wr.heap[w.heap.size]?=some (.cells #[.int .u64 a,.int .u64 b,.int .u64 c,.int .u64 d,.slice aq lq kq] 139)∧FrP P w wr) (fun _ _ i _=>Y.length - (intOf i).toNat)
 case atStart=>exact⟨0,X,Y,0,0,Nat.zero_le _,rfl,rfl,rfl,HT0.out,H0.out,HF0.out⟩
 case round=>
  obtain⟨k,X',Y',over,under,hk,rfl,rfl,rfl,htk,hbk,hfp⟩:=hrel
  have HFP:=ac hfp
  have HTK:=ac htk
  have HBK:=ac hbk
  have hlx:=htk.lx
  have hly:=htk.ly
  have ax:=htk.ax
  have ay:=htk.ay
  rw [hlx] at ax
  rw [hly] at ay
  clear HT0 H0 HF0 hfp
  by_cases hkl:k<Y.length
  ·have i1:(k:Int)<(Y.length:Int):=by omega
   have i2:(k:Int)<(X.length:Int):=by omega
   have i0:(0:Int)≤(k:Int):=by omega
   have hkb:k<9223372036854775807:=by
    have:=(htk.ay.cellAt).1
    omega
   have wk:IntKind.i64.wrap (k:Int)=(k:Int):=by
    rw [IntKind.wrap_i64];omega
   have fx:=htk.ax.cellAt.2.1
   have fy:=htk.ay.cellAt.2.1
   have cxk:=htk.ax.cellAt.2.2 k (by omega)
   have cyk:=htk.ay.cellAt.2.2 k (by omega)
   rw [htk.sx k (Nat.le_refl _)] at cxk
   rw [htk.sy k (Nat.le_refl _)] at cyk
   have lv:X.getD k 0<18446744073709551616:=by have:=limb_lt htk.ax.limbs k;rw [htk.sx k (Nat.le_refl _)] at this;exact this
   have lw:Y.getD k 0<18446744073709551616:=by have:=limb_lt htk.ay.limbs k;rw [htk.sy k (Nat.le_refl _)] at this;exact this
   obtain⟨s0,s1,s2,s3,s4⟩:=aM hbk
   obtain⟨xk,hxk⟩:∃xk,X.getD k 0=xk:=⟨_,rfl⟩
   obtain⟨yk,hyk⟩:∃yk,Y.getD k 0=yk:=⟨_,rfl⟩
   rw [hxk] at cxk lv
   rw [hyk] at cyk lw
   have L1:=fun W=>fJ a xk b yk over W (by omega) (by omega) (by omega) (by omega) htk.o1 htk.o2
   have L2:=fun W=>fJ d yk c xk under W (by omega) (by omega) (by omega) (by omega) htk.u1 htk.u2
   have HNX:=ac (fun l m o' u'=>htk.next (l:=l) (m:=m) (o':=o') (u':=u') hne hkl hxy hbx hby)
   rw [hxk,hyk] at HNX
   clear hxk hyk htk hbk ax ay
   go_wp2_with fail
   refine (L1 _).mono ?_
   rintro e w2 ⟨l,t,rfl,hl,he1,ht1,ht2,hw⟩
   rw [hw];clear hw w2 L1
   have cyk2:(wr.setCell ⟨gx,k,none⟩ (.int .u64 (l:Int))).cell? ⟨gy,k,none⟩=some (.int .u64 (yk:Int)):=by rw [bk hne];exact cyk
   have q0:∀i v,wr.cell? ⟨w.heap.size,i,none⟩=some v→(wr.setCell ⟨gx,k,none⟩ (.int .u64 (l:Int))).cell? ⟨w.heap.size,i,none⟩=some v:=fun i v h=>by rw [bk hgx];exact h
   have r0:=q0 _ _ s0
   have r1:=q0 _ _ s1
   have r2:=q0 _ _ s2
   have r3:=q0 _ _ s3
   have r4:=q0 _ _ s4
   have HL1:=ac (And.intro hl (And.intro he1 (And.intro ht1 ht2)))
   clear q0 he1 ht1 ht2
   go_wp2_with fail
   refine (L2 _).mono ?_
   rintro e w2 ⟨m,u,rfl,hm,he2,hu1,hu2,hw⟩
   rw [hw];clear hw w2 L2
   have HL2:=ac (And.intro hm (And.intro he2 (And.intro hu1 hu2)))
   have fy2:(wr.setCell ⟨gx,k,none⟩ (.int .u64 (l:Int))).frozen? ⟨gy,k,none⟩=false:=by
    simp only [World.frozen?]
    rw [Below.heap_setCell _ _ _ _ (Ne.symm hne)]
    exact fy k
   clear he2 hu1 hu2
   go_wp2
   go_roundw
   case rel=>
    obtain⟨a1,a2,a3,a4⟩:=HL1.out
    obtain⟨b1,b2,b3,b4⟩:=HL2.out
    refine⟨k+1,_,_,t,u,hkl,rfl,rfl,by go_num,HNX.out l m t u a1 b1 ?_ ?_ a3 a4 b3 b4,?_,(HFP.out.setCell gx k _ (fun _=>hPx)).setCell gy k _ (fun _=>hPy)⟩
    ·rw [a2,Int.natCast_mul,Int.natCast_mul] <;> simp only [sgL] <;> grind
    ·rw [b2,Int.natCast_mul,Int.natCast_mul] <;> simp only [sgL] <;> grind
    ·rw [Below.heap_setCell _ _ _ _ (Ne.symm hgy),Below.heap_setCell _ _ _ _ (Ne.symm hgx)];exact HBK.out
   case measure=>simp [intOf];omega
  ·have i1:¬((k:Int)<(Y.length:Int)):=by omega
   have ek:k=Y.length:=by omega
   have HE:Hid (cE w wr base gx cx gy cy X Y X' Y' Y.length (sgL false a) (sgL false b) (sgL false d) (sgL false c) over under):=by rw [←ek];exact HTK
   clear htk hbk ax ay ek
   go_wp2
   go_end0
   exact⟨⟨rfl,X',Y',over,under,HE.out⟩,HFP.out⟩

theorem lW (base gx cx gy cy a b c d:Nat)(X Y:List Nat)(w:World)(hX:Ans w base (.slice (some ⟨gx,0,none⟩) X.length cx) X)(hY:Ans w base (.slice (some ⟨gy,0,none⟩) Y.length cy) Y)(hne:gx≠gy)(hxy:Y.length≤X.length)(hbx:base≤gx)(hby:base≤gy)(hbw:base≤w.heap.size)
  (ha:a<4294967296) (hb:b<4294967296) (hc:c<4294967296) (hd:d<4294967296) (aq:Option Addr) (lq kq:Nat) (hod:(0<lq % 2)=(true=true)) (P:Nat→Prop) (hPx:¬P gx) (hPy:¬P gy) :
  Calls Tryz.prog 121 #[stw a b c d aq lq kq,.slice (some ⟨gx,0,none⟩) X.length cx,.slice (some ⟨gy,0,none⟩) Y.length cy] w fun e w'=>gJ base gx cx gy cy X Y (sgL true a) (sgL true b) (sgL true d) (sgL true c) w e w'∧FrP P w w':=by
 unfold stw
 obtain⟨w0,hw0⟩:∃w0,w0=w.alloc (.cells #[.int .u64 a,.int .u64 b,.int .u64 c,.int .u64 d,.slice aq lq kq] 139):=⟨_,rfl⟩
 have hb0:Below w.heap.size w w0:=by rw [hw0];exact (Below.refl _ _).alloc (Nat.le_refl _) _
 have h0:w0.heap[w.heap.size]?=some (.cells #[.int .u64 a,.int .u64 b,.int .u64 c,.int .u64 d,.slice aq lq kq] 139):=by rw [hw0];exact heap_alloc_new ..
 have hgx:gx≠w.heap.size:=fun e=>by
  have:=(hX.own.lt gx rfl).2;omega
 have hgy:gy≠w.heap.size:=fun e=>by
  have:=(hY.own.lt gy rfl).2;omega
 have O:=ii a b c d aq lq kq true w0 hod
 unfold stw at O
 obtain⟨d0,d1,d2,d3,d4⟩:=aM h0
 have HXA:=ac (hX.below hb0)
 have HYA:=ac (hY.below hb0)
 have H00:=ac h0
 have HB0:=ac (hb0.mono hbw)
 have HBS:=ac (Nat.le_trans hbw hb0.size)
 have HW0:=ac hw0
 clear hX hY hb0 h0 hw0 hod
 go_enter Tryz.func121,Tryz.ntmps121
 go_upto_region 2 with fail
 rw [←HW0.out]
 go_wp2_with fail
 refine O.mono ?_
 rintro e w2 ⟨rfl,hb2⟩
 have HT0:Hid (cE w w2 base gx cx gy cy X Y X Y 0 (sgL true a) (sgL true b) (sgL true d) (sgL true c) 0 0):=ac ⟨rfl,rfl,HXA.out.below hb2,HYA.out.below hb2,fun _ _=>rfl,fun _ _=>rfl,by omega,by omega,by omega,by omega,by simp [val],by simp [val],HB0.out.trans (hb2.mono HBS.out)⟩
 have H0:=ac (ae hb2 H00.out)
 have HF0:Hid (FrP P w w2):=ac ((FrP.of_below (by rw [HW0.out];exact (Below.refl _ _).alloc (Nat.le_refl _) _)).below hb2)
 clear O hb2 d0 d1 d2 d3 d4 HXA HYA H00 HB0 HW0 HBS
 go_wp2
 go_loopw [6,7,16] (fun ov un i wr=>∃(k:Nat) (X' Y':List Nat) (over under:Int),k≤Y.length∧ov=.int .i64 over∧un=.int .i64 under∧i=.int .i64 (k:Int)∧cE w wr base gx cx gy cy X Y X' Y' k (sgL true a) (sgL true b) (sgL true d) (sgL true c) over under∧wr.heap[w.heap.size]?=some (.cells #[.int .u64 a,.int .u64 b,.int .u64 c,.int .u64 d,.slice aq lq kq] 139)∧FrP P w wr) (fun _ _ i _=>Y.length - (intOf i).toNat)
 case atStart=>exact⟨0,X,Y,0,0,Nat.zero_le _,rfl,rfl,rfl,HT0.out,H0.out,HF0.out⟩
 case round=>
  obtain⟨k,X',Y',over,under,hk,rfl,rfl,rfl,htk,hbk,hfp⟩:=hrel
  have HFP:=ac hfp
  have HTK:=ac htk
  have HBK:=ac hbk
  have hlx:=htk.lx
  have hly:=htk.ly
  have ax:=htk.ax
  have ay:=htk.ay
  rw [hlx] at ax
  rw [hly] at ay
  clear HT0 H0 HF0 hfp
  by_cases hkl:k<Y.length
  ·have i1:(k:Int)<(Y.length:Int):=by omega
   have i2:(k:Int)<(X.length:Int):=by omega
   have i0:(0:Int)≤(k:Int):=by omega
   have hkb:k<9223372036854775807:=by
    have:=(htk.ay.cellAt).1
    omega
   have wk:IntKind.i64.wrap (k:Int)=(k:Int):=by
    rw [IntKind.wrap_i64];omega
   have fx:=htk.ax.cellAt.2.1
   have fy:=htk.ay.cellAt.2.1
   have cxk:=htk.ax.cellAt.2.2 k (by omega)
   have cyk:=htk.ay.cellAt.2.2 k (by omega)
   rw [htk.sx k (Nat.le_refl _)] at cxk
   rw [htk.sy k (Nat.le_refl _)] at cyk
   have lv:X.getD k 0<18446744073709551616:=by have:=limb_lt htk.ax.limbs k;rw [htk.sx k (Nat.le_refl _)] at this;exact this
   have lw:Y.getD k 0<18446744073709551616:=by have:=limb_lt htk.ay.limbs k;rw [htk.sy k (Nat.le_refl _)] at this;exact this
   obtain⟨s0,s1,s2,s3,s4⟩:=aM hbk
   obtain⟨xk,hxk⟩:∃xk,X.getD k 0=xk:=⟨_,rfl⟩
   obtain⟨yk,hyk⟩:∃yk,Y.getD k 0=yk:=⟨_,rfl⟩
   rw [hxk] at cxk lv
   rw [hyk] at cyk lw
   have L1:=fun W=>fJ b yk a xk over W (by omega) (by omega) (by omega) (by omega) htk.o1 htk.o2
   have L2:=fun W=>fJ c xk d yk under W (by omega) (by omega) (by omega) (by omega) htk.u1 htk.u2
   have HNX:=ac (fun l m o' u'=>htk.next (l:=l) (m:=m) (o':=o') (u':=u') hne hkl hxy hbx hby)
   rw [hxk,hyk] at HNX
   clear hxk hyk htk hbk ax ay
   go_wp2_with fail
   refine (L1 _).mono ?_
   rintro e w2 ⟨l,t,rfl,hl,he1,ht1,ht2,hw⟩
   rw [hw];clear hw w2 L1
   have cyk2:(wr.setCell ⟨gx,k,none⟩ (.int .u64 (l:Int))).cell? ⟨gy,k,none⟩=some (.int .u64 (yk:Int)):=by rw [bk hne];exact cyk
   have q0:∀i v,wr.cell? ⟨w.heap.size,i,none⟩=some v→(wr.setCell ⟨gx,k,none⟩ (.int .u64 (l:Int))).cell? ⟨w.heap.size,i,none⟩=some v:=fun i v h=>by rw [bk hgx];exact h
   have r0:=q0 _ _ s0
   have r1:=q0 _ _ s1
   have r2:=q0 _ _ s2
   have r3:=q0 _ _ s3
   have r4:=q0 _ _ s4
   have HL1:=ac (And.intro hl (And.intro he1 (And.intro ht1 ht2)))
   clear q0 he1 ht1 ht2
   go_wp2_with fail
   refine (L2 _).mono ?_
   rintro e w2 ⟨m,u,rfl,hm,he2,hu1,hu2,hw⟩
   rw [hw];clear hw w2 L2
   have HL2:=ac (And.intro hm (And.intro he2 (And.intro hu1 hu2)))
   have fy2:(wr.setCell ⟨gx,k,none⟩ (.int .u64 (l:Int))).frozen? ⟨gy,k,none⟩=false:=by
    simp only [World.frozen?]
    rw [Below.heap_setCell _ _ _ _ (Ne.symm hne)]
    exact fy k
   clear he2 hu1 hu2
   go_wp2
   go_roundw
   case rel=>
    obtain⟨a1,a2,a3,a4⟩:=HL1.out
    obtain⟨b1,b2,b3,b4⟩:=HL2.out
    refine⟨k+1,_,_,t,u,hkl,rfl,rfl,by go_num,HNX.out l m t u a1 b1 ?_ ?_ a3 a4 b3 b4,?_,(HFP.out.setCell gx k _ (fun _=>hPx)).setCell gy k _ (fun _=>hPy)⟩
    ·rw [a2,Int.natCast_mul,Int.natCast_mul] <;> simp only [sgL] <;> grind
    ·rw [b2,Int.natCast_mul,Int.natCast_mul] <;> simp only [sgL] <;> grind
    ·rw [Below.heap_setCell _ _ _ _ (Ne.symm hgy),Below.heap_setCell _ _ _ _ (Ne.symm hgx)];exact HBK.out
   case measure=>simp [intOf];omega
  ·have i1:¬((k:Int)<(Y.length:Int)):=by omega
   have ek:k=Y.length:=by omega
   have HE:Hid (cE w wr base gx cx gy cy X Y X' Y' Y.length (sgL true a) (sgL true b) (sgL true d) (sgL true c) over under):=by rw [←ek];exact HTK
   clear htk hbk ax ay ek
   go_wp2
   go_end0
   exact⟨⟨rfl,X',Y',over,under,HE.out⟩,HFP.out⟩

def gh:Value→Nat
 | .slice _ n _=>n
 | _=>0

theorem iw {w:World}(z:Nat)(j:Nat)(u:Value)(hj:([Value.int .u64 (z:Int)]:List Value)[j]?=some u):(w.alloc (.cells #[.int .u64 (z:Int)] 61)).cell? ((⟨w.heap.size,0,none⟩:Addr).add j)=some u:=by
 cases j with
 | zero=>
  simp at hj
  subst hj
  obtain⟨W,hW⟩:∃W,w.alloc (.cells #[.int .u64 (z:Int)] 61)=W:=⟨_,rfl⟩
  have hh:W.heap[w.heap.size]?=some (.cells #[.int .u64 (z:Int)] 61):=by rw [←hW];exact heap_alloc_new w _
  rw [hW]
  simp [Addr.add,World.cell?,hh]
 | succ j=>simp at hj

theorem om {w:World}(j:Nat)(u:Value)(hj:([Value.int .u64 0]:List Value)[j]?=some u):(w.alloc (.cells #[.int .u64 0] 61)).cell? ((⟨w.heap.size,0,none⟩:Addr).add j)=some u:=iw 0 j u hj

theorem me:∀u ∈ ([Value.int .u64 0]:List Value),u.oneCell'=true:=by
 intro u hu;simp at hu;subst hu;rfl

theorem kz (z:Nat):∀u ∈ ([Value.int .u64 (z:Int)]:List Value),u.oneCell'=true:=by
 intro u hu;simp at hu;subst hu;rfl

theorem MSt.noughts {w:World}{g base:Nat}{vx vy:Value}{o:Bool}{S5:Array Value}{wr:World}{vx' vy':Value}{X' Y':List Nat}(h:MSt w g base vx vy o S5 wr vx' vy' X' Y'){v':Value}{w1:World}{c:Obj}(ho:w1.ownsRow base 61 1 v' (X'.length+1) (X'.map lv ++ [.int .u64 0]))(hg:(wr.alloc c).grownBy w1 vx'.ownBlock)(hat:v'.ownBlock=vx'.ownBlock∨v'.ownBlock=some (wr.alloc c).heap.size):MSt w g base vx vy o S5 w1 v' vy' (X' ++ [0]) Y'∧gh v'=X'.length+1:=by
 have h1:=h.growx 0 (by omega) ho hg hat
 refine⟨h1,?_⟩
 obtain⟨a,c,e⟩:=h1.x.shape
 rw [e]
 simp [gh]

theorem rL (X:List Nat):val (X ++ [0])=val X:=by
 have:=my X 1
 exact this

theorem mU (g base:Nat)(vx vy:Value)(X Y:List Nat)(o:Bool)(a b c d R n:Nat)(w:World)(hF:aP w g base vx vy (val X) (val Y) o)(hbase:base≤w.heap.size)(hX:Ans w base vx X)(hY:Ans w base vy Y)(hXY:X.length≤Y.length)(hY0:1≤Y.length)(lY:Y.length≤17592186044000)
  (ha:a<18446744073709551616) (hb:b<18446744073709551616) (hc:c<18446744073709551616) (hd:d<18446744073709551616) (hab0:0<a+b) (hab:a+b≤18446744073709551616) (hcd0:0<c+d) (hcd:c+d≤18446744073709551616) :
  Calls Tryz.prog 245 #[.pointer (some ⟨g,0,none⟩),stw a b c d (some ⟨R,0,none⟩) n 128] w (ig g base vx vy (a*val X+b*val Y) (c*val X+d*val Y) (o != aZ n) w):=by
 unfold stw
 obtain⟨S5,hS5⟩:∃S5:Array Value,#[Value.int .u64 (a:Int),.int .u64 (b:Int),.int .u64 (c:Int),.int .u64 (d:Int),.slice (some ⟨R,0,none⟩) n 128]=S5:=⟨_,rfl⟩
 obtain⟨ay,cy,rfl⟩:=hY.shape
 obtain⟨ax,cx,rfl⟩:=hX.shape
 obtain⟨i0,hi,hz0,hz1,hz2⟩:=info_parts Tryz.infoU
 have M0:=hF.start hbase S5 hX hY
 obtain⟨w0,hw0⟩:∃w0,w.alloc (.cells S5 139)=w0:=⟨_,rfl⟩
 rw [hw0] at M0
 have HM0:=ac M0
 obtain⟨k0,k1,k2⟩:=cF M0.box
 rw [←hS5] at hw0
 have HS5:=ac hS5
 have HXY:=ac hXY
 have HY0:=ac hY0
 clear hF hX hY hXY M0 hS5
 go_enter Tryz.func245,Tryz.ntmps245
 go_wp2
 go_quiet (fail)
 go_wp2
 go_loopw [4] (fun v wr=>∃(X1:List Nat) (a1:Option Addr) (c1:Nat),v=.slice a1 X1.length c1∧MSt w g base (.slice ax X.length cx) (.slice ay Y.length cy) o S5 wr (.slice a1 X1.length c1) (.slice ay Y.length cy) X1 Y∧val X1=val X∧X1.length≤Y.length) (fun v _=>Y.length - gh v)
 case atStart=>exact⟨X,ax,cx,rfl,HM0.out.below (((aD.refl _).drewN _).below _),rfl,HXY.out⟩
 case round=>
  obtain⟨X1,a1,c1,rfl,hm,hv,hle⟩:=hrel
  have HM:=ac hm
  have HV:=ac hv
  have HLE:=ac hle
  clear HM0 hm hv k0 k1 k2
  by_cases hlt:X1.length<Y.length
  ·have i1:(X1.length:Int)<(Y.length:Int):=by omega
   have hbs:base≤wr.heap.size:=by have:=HM.out.wsz;omega
   have HO:=ac (World.ownsRow.alloc HM.out.x.own (.cells #[.int .u64 0] 61))
   go_wp2_with (at_builtin;refine wpList_append_own_at _ rfl _ _ 25 rfl base 61 i0 (.int .u64 0) 1 8 Tryz.underlying25 hi hz0 hz1 hz2 rfl (by decide) (.slice a1 X1.length c1) X1.length (X1.map lv) rfl HO.out ⟨wr.heap.size,0,none⟩ 1 1 [.int .u64 0] rfl rfl om me (by unfold maxLen;omega) (by omega) (by simp;omega) ?_;intro v' w2 hown hgrow _ hat)
   have HN:=ac (HM.out.noughts hown hgrow hat)
   clear hown hgrow hat HO
   go_wp2
   go_roundw
   case rel=>
    obtain⟨a9,c9,he9⟩:=HN.out.1.x.shape
    subst he9
    exact⟨X1 ++ [0],a9,c9,rfl,HN.out.1,by rw [rL];exact HV.out,by simp;omega⟩
   case measure=>
    have:=HN.out.2
    simp only [gh] at this ⊢
    omega
  ·have i1:¬(X1.length:Int)<(Y.length:Int):=by omega
   have heq:X1.length=Y.length:=by omega
   obtain⟨gx,ha1⟩:∃gx,a1=some ⟨gx,0,none⟩:=by
    rcases HM.out.x.form with ⟨_,e⟩|⟨gx,_,e,_⟩
    ·exact absurd (congrArg List.length e) (by rw [List.length_nil];have:=HY0.out;omega)
    ·cases e;exact⟨gx,rfl⟩
   obtain⟨gy,ha2⟩:∃gy,ay=some ⟨gy,0,none⟩:=by
    rcases HM.out.y.form with ⟨_,e⟩|⟨gy,_,e,_⟩
    ·exact absurd (congrArg List.length e) (by rw [List.length_nil];have:=HY0.out;omega)
    ·cases e;exact⟨gy,rfl⟩
   subst ha1
   subst ha2
   have HB0:=ac (Bl.start X1 Y hab0 hcd0)
   have HEQ:=ac heq
   have HML:=ac (And.intro HM.out.x.cellAt.1 HM.out.y.cellAt.1)
   clear heq hlt
   go_wp2
   rename World=>wo
   go_loopw [6,7,29] (fun ov un i wr=>∃(k:Nat) (X2 Y2:List Nat) (over under:Nat),k≤Y.length∧ov=.int .u64 over∧un=.int .u64 under∧i=.int .i64 (k:Int)∧MSt w g base (.slice ax X.length cx) (.slice (some ⟨gy,0,none⟩) Y.length cy) o S5 wr (.slice (some ⟨gx,0,none⟩) X2.length c1) (.slice (some ⟨gy,0,none⟩) Y2.length cy) X2 Y2∧Bl k X1 Y X2 Y2 a b c d over under) (fun _ _ i _=>Y.length - (intOf i).toNat)
   case atStart=>exact⟨0,X1,Y,0,0,Nat.zero_le _,rfl,rfl,rfl,HM.out,HB0.out⟩
   case round=>
    obtain⟨k,X2,Y2,over,under,hk,rfl,rfl,rfl,hm2,hbl⟩:=hrel
    have HM2:=ac hm2
    have HBL:=ac hbl
    have hlx:=hbl.lx
    have hly:=hbl.ly
    have ax2:=hm2.x
    have ay2:=hm2.y
    rw [hlx] at ax2
    rw [hly] at ay2
    have sb:=hm2.sb
    rw [←HS5.out] at sb
    obtain⟨s0,s1,s2,s3,s4⟩:=aM sb
    clear HM HB0 sb
    by_cases hkl:k<Y.length
    ·have i1:(k:Int)<(Y.length:Int):=by omega
     have i2:(k:Int)<(X1.length:Int):=by have:=HEQ.out;omega
     have i0:(0:Int)≤(k:Int):=by omega
     have hkb:k<9223372036854775807:=by omega
     have wk:IntKind.i64.wrap (k:Int)=(k:Int):=by
      rw [IntKind.wrap_i64];omega
     have hne:gx≠gy:=fun e=>hm2.apart gx rfl (by rw [e];rfl)
     have hgx:gx≠w.heap.size:=fun e=>hm2.xne.2 (by rw [←e];rfl)
     have fx:=hm2.x.cellAt.2.1
     have fy:=hm2.y.cellAt.2.1
     have cxk:=hm2.x.cellAt.2.2 k (by have:=HEQ.out;omega)
     have cyk:=hm2.y.cellAt.2.2 k (by omega)
     rw [hbl.sx k (Nat.le_refl _)] at cxk
     rw [hbl.sy k (Nat.le_refl _)] at cyk
     have lv:X1.getD k 0<18446744073709551616:=by have:=limb_lt hm2.x.limbs k;rw [hbl.sx k (Nat.le_refl _)] at this;exact this
     have lw:Y.getD k 0<18446744073709551616:=by have:=limb_lt hm2.y.limbs k;rw [hbl.sy k (Nat.le_refl _)] at this;exact this
     have HNX:=ac (fun l m o' u'=>hbl.next (l:=l) (m:=m) (ov2:=o') (un2:=u') (by have:=HEQ.out;omega) hkl)
     have hou:=hbl.o
     have hun:=hbl.u
     obtain⟨xk,hxk⟩:∃xk,X1.getD k 0=xk:=⟨_,rfl⟩
     obtain⟨yk,hyk⟩:∃yk,Y.getD k 0=yk:=⟨_,rfl⟩
     rw [hxk] at cxk lv HNX
     rw [hyk] at cyk lw HNX
     have L1:=fun W=>kT a xk b yk over W (by omega) (by omega) hab hab0 (by omega) (by omega) hou
     have L2:=fun W=>kT c xk d yk under W (by omega) (by omega) hcd hcd0 (by omega) (by omega) hun
     clear hxk hyk hm2 hbl ax2 ay2
     go_wp2_with fail
     refine (L1 _).mono ?_
     rintro e w2 ⟨l,t,rfl,hl,he1,ht1,hw⟩
     rw [hw];clear hw w2 L1
     have cyk2:(wr.setCell ⟨gx,k,none⟩ (.int .u64 (l:Int))).cell? ⟨gy,k,none⟩=some (.int .u64 (yk:Int)):=by rw [bk hne];exact cyk
     have q0:∀i v,wr.cell? ⟨w.heap.size,i,none⟩=some v→(wr.setCell ⟨gx,k,none⟩ (.int .u64 (l:Int))).cell? ⟨w.heap.size,i,none⟩=some v:=fun i v h=>by rw [bk hgx];exact h
     have r0:=q0 _ _ s0
     have r1:=q0 _ _ s1
     have r2:=q0 _ _ s2
     have r3:=q0 _ _ s3
     have r4:=q0 _ _ s4
     have HL1:=ac (And.intro hl (And.intro he1 ht1))
     clear q0 he1 ht1
     go_wp2_with fail
     refine (L2 _).mono ?_
     rintro e w2 ⟨m,u,rfl,hm,he2,hu1,hw⟩
     rw [hw];clear hw w2 L2
     have HL2:=ac (And.intro hm (And.intro he2 hu1))
     have fy2:(wr.setCell ⟨gx,k,none⟩ (.int .u64 (l:Int))).frozen? ⟨gy,k,none⟩=false:=by
      simp only [World.frozen?]
      rw [Below.heap_setCell _ _ _ _ (Ne.symm hne)]
      exact fy k
     clear he2 hu1
     go_wp2
     go_roundw
     case rel=>
      obtain⟨a1,a2,a3⟩:=HL1.out
      obtain⟨b1,b2,b3⟩:=HL2.out
      exact⟨k+1,X2.set k l,Y2.set k m,t,u,hkl,rfl,rfl,by go_num,HM2.out.set2 k l m a1 b1,HNX.out l m t u a2 a3 b2 b3⟩
     case measure=>simp [intOf];omega
    ·have i1:¬((k:Int)<(Y.length:Int)):=by omega
     have ek:k=Y.length:=by omega
     have HE:=ac ((ek ▸ HBL.out).ends HEQ.out rfl)
     have hou:=hbl.o
     have hun:=hbl.u
     rw [←hlx] at HML HEQ
     rw [←hly] at HML HEQ i1
     rw [←hlx,←hly]
     have hl2:X2.length=Y2.length:=HEQ.out
     have hly2:Y2.length≤17592186044000:=by omega
     clear hlx hly ax2 ay2 hm2 hbl s0 s1 s2 s3 s4 ek HBL
     have HO:=ac (World.ownsRow.alloc HM2.out.x.own (.cells #[.int .u64 (over:Int)] 61))
     have hbs:base≤wr.heap.size:=by have:=HM2.out.wsz;omega
     go_wp2_with (at_builtin;refine wpList_append_own_at _ rfl _ _ 25 rfl base 61 i0 (.int .u64 0) 1 8 Tryz.underlying25 hi hz0 hz1 hz2 rfl (by decide) (.slice (some ⟨gx,0,none⟩) X2.length c1) X2.length (X2.map lv) rfl HO.out ⟨wr.heap.size,0,none⟩ 1 1 [.int .u64 (over:Int)] rfl rfl (iw over) (kz over) (by unfold maxLen;omega) (by omega) (by simp;omega) ?_;intro v' w2 hown hgrow _ hat)
     have HX9:=ac (HM2.out.growx over (by omega) hown hgrow hat)
     clear hown hgrow hat HO
     obtain⟨a3,c3,e3⟩:=HX9.out.x.shape
     subst e3
     obtain⟨_,_,e4,p1,p2,p3⟩:=(HX9.out.x.arg (by simp;omega)).form
     cases e4
     have T1:=cV a3 c3 (X2 ++ [over]) w2 p1 p2 p3
     have HX8:=ac HX9.out.trimx
     have hb2:base≤w2.heap.size:=by have:=HX9.out.wsz;omega
     clear p1 p2 p3 HX9
     refine T1.mono ?_
     rintro e w2' ⟨rfl,hw⟩;rw [hw];clear hw w2' T1
     have HO:=ac (World.ownsRow.alloc HX8.out.y.own (.cells #[.int .u64 (under:Int)] 61))
     go_wp2_with (at_builtin;refine wpList_append_own_at _ rfl _ _ 25 rfl base 61 i0 (.int .u64 0) 1 8 Tryz.underlying25 hi hz0 hz1 hz2 rfl (by decide) (.slice (some ⟨gy,0,none⟩) Y2.length cy) Y2.length (Y2.map lv) rfl HO.out ⟨w2.heap.size,0,none⟩ 1 1 [.int .u64 (under:Int)] rfl rfl (iw under) (kz under) (by unfold maxLen;omega) (by omega) (by simp;omega) ?_;intro v' w3 hown hgrow _ hat)
     have HY9:=ac (HX8.out.growy under (by omega) hown hgrow hat)
     clear hown hgrow hat HO HX8
     obtain⟨a5,c5,e5⟩:=HY9.out.y.shape
     subst e5
     obtain⟨_,_,e4,p1,p2,p3⟩:=(HY9.out.y.arg (by simp;omega)).form
     cases e4
     have T2:=cV a5 c5 (Y2 ++ [under]) w3 p1 p2 p3
     have HY8:=ac HY9.out.trimy
     clear p1 p2 p3 HY9
     refine T2.mono ?_
     rintro e w3' ⟨rfl,hw⟩;rw [hw];clear hw w3' T2
     obtain⟨q0,q1,q2⟩:=cF HY8.out.box
     have qf:=fj HY8.out.box
     obtain⟨X9,hX9⟩:∃X9,tr (X2 ++ [over])=X9:=⟨_,rfl⟩
     obtain⟨Y9,hY9⟩:∃Y9,tr (Y2 ++ [under])=Y9:=⟨_,rfl⟩
     have HX9:=ac hX9
     have HY9:=ac hY9
     rw [hX9,hY9] at HY8
     rw [hX9,hY9]
     have E1:val X9=a*val X+b*val Y:=by rw [←hX9,val_tr,HE.out.1,HV.out]
     have E2:val Y9=c*val X+d*val Y:=by rw [←hY9,val_tr,HE.out.2,HV.out]
     have hST:=HY8.out.stored (by rw [←hX9,tr_tr]) (by rw [←hY9,tr_tr])
     rw [E1,E2] at hST
     obtain⟨w4,hw4⟩:∃w4,(w3.setCell ⟨g,0,none⟩ (.slice a3 X9.length c3)).setCell ⟨g,1,none⟩ (.slice a5 Y9.length c5)=w4:=⟨_,rfl⟩
     rw [hw4] at hST
     obtain⟨hF,hS,hR,hN1,hN2⟩:=hST
     have HF:=ac hF
     have HR:=ac (And.intro hR (And.intro hN1 hN2))
     rw [←HS5.out] at hS
     obtain⟨s0,s1,s2,s3,s4⟩:=aM hS
     have OD:=ii a b c d (some ⟨R,0,none⟩) n 128 (aZ n) w4.drew (by unfold aZ;simp)
     unfold stw at OD
     have g0:Below w4.heap.size w4 w4.drew:=(Below.refl _ _).drew
     obtain⟨m0,m1,m2⟩:=cF (ae g0 hF.box)
     clear hX9 hY9 E1 E2 hF hS hR hN1 hN2 HX9 HY9 HE HV HLE HML HEQ HY8 hou hun HM2
     go_wp2
     go_region_with (go_at_call 163;refine OD.mono ?_;rintro e w6 ⟨rfl,hb6⟩;have g6:=bC g0 hb6;clear m0 m1 m2;obtain⟨m0,m1,m2⟩:=cF (ae g6 HF.out.box);have mf:=fj (ae g6 HF.out.box))
     all_goals
      go_wp2_with fail
      go_end0
      exact⟨rfl,_,_,(HF.out.below g6).flip _,HR.out.2.1,HR.out.2.2,(HR.out.1.below g6).setCell g 2 _ (fun _ e=>e.1 rfl)⟩

theorem fk {bz g o:Nat}{a w:World}{u:Value}(h:Fr bz a w)(hg:a.heap.size≤g):Fr bz a (w.setCell ⟨g,o,none⟩ u):=
 ⟨h.os,h.tape,h.output,by simpa using h.size,fun k h1 h2=>(Below.heap_setCell w _ u k (show k≠g by omega)).trans (h.block k h1 h2)⟩

theorem cL {bz g:Nat}{a w:World}{u0 u1 u2 u3 u4:Value}(h:Fr bz a w)(hg:a.heap.size≤g):Fr bz a (((((w.setCell ⟨g,0,none⟩ u0).setCell ⟨g,1,none⟩ u1).setCell ⟨g,2,none⟩ u2).setCell ⟨g,3,none⟩ u3).setCell ⟨g,4,none⟩ u4):=
 fk (fk (fk (fk (fk h hg) hg) hg) hg) hg

theorem d5 {W0 W:World}(h:Below W0.heap.size W0 W):Below W0.heap.size W0 W.drew:=h.drew

theorem iP {W0 W:World}(h:Below W0.heap.size W0 W)(o:Obj):Below W0.heap.size W0 (W.alloc o):=h.alloc h.size _

def aO (w:World)(R:Nat):Prop:=∃xs:List Nat,Blk w R xs∧xs.length=128

theorem i6 (a b c d q R n:Nat)(w:World)(h1:a+q*c<18446744073709551616)(h2:b+q*d<18446744073709551616)(hR:aO w R)(hn:n<128) :
  Calls Tryz.prog 162 #[stw a b c d (some ⟨R,0,none⟩) n 128,.int .u64 q] w fun e w'=>e=.returned (stw c d (a+q*c) (b+q*d) (some ⟨R,0,none⟩) (n+1) 128)∧aO w' R∧Fr R w w':=by
 unfold stw
 obtain⟨xs,hB,hl⟩:=hR
 obtain⟨w0,hw0,hb0,h0,hx0⟩:=bD w (.cells #[.int .u64 a,.int .u64 b,.int .u64 c,.int .u64 d,.slice (some ⟨R,0,none⟩) n 128] 139) (.cells #[.int .u64 0,.int .u64 0,.int .u64 0,.int .u64 0,.slice none 0 0] 139)
 obtain⟨c0,c1,c2,c3,c4⟩:=aM h0
 have hB0:=hB.below' hb0
 have hRlt:=hB.lt
 obtain⟨i0,hi,hza,hzb,hzc⟩:=info_parts Tryz.infoU
 obtain⟨p,hp,ep⟩:∃p:Nat,q*c=p∧(q:Int)*(c:Int)=(p:Int):=⟨q*c,rfl,by rw [Int.natCast_mul]⟩
 obtain⟨r,hr,er⟩:∃r:Nat,q*d=r∧(q:Int)*(d:Int)=(r:Int):=⟨q*d,rfl,by rw [Int.natCast_mul]⟩
 rw [hp] at h1 ⊢
 rw [hr] at h2 ⊢
 have wp:IntKind.u64.wrap (p:Int)=(p:Int):=by rw [IntKind.wrap_u64];omega
 have wr:IntKind.u64.wrap (r:Int)=(r:Int):=by rw [IntKind.wrap_u64];omega
 obtain⟨ap',hap⟩:∃x,a+p=x:=⟨_,rfl⟩
 obtain⟨ar',har⟩:∃x,b+r=x:=⟨_,rfl⟩
 rw [hap] at h1 ⊢
 rw [har] at h2 ⊢
 have ap:(a:Int)+(p:Int)=(ap':Int):=by omega
 have ar:(b:Int)+(r:Int)=(ar':Int):=by omega
 have wp2:IntKind.u64.wrap (ap':Int)=(ap':Int):=by rw [IntKind.wrap_u64];omega
 have wr2:IntKind.u64.wrap (ar':Int)=(ar':Int):=by rw [IntKind.wrap_u64];omega
 have hRn:R≠w.heap.size+1:=by omega
 obtain⟨W,hW⟩:∃W,(w0.alloc (.cells #[.int .u64 (q:Int)] 61)).drew=W:=⟨_,rfl⟩
 have gW:Below w0.heap.size w0 W:=by rw [←hW];exact ((Below.refl _ _).alloc (Nat.le_refl _) _).drew
 have hBW:=hB0.below' gW
 have hnews:∀j u,([Value.int .u64 (q:Int)]:List Value)[j]?=some u→W.cell? ((⟨w0.heap.size,0,none⟩:Addr).add j)=some u:=by
  intro j u hj
  cases j with
  | zero=>
   simp at hj
   subst hj
   have hh:W.heap[w0.heap.size]?=some (.cells #[.int .u64 (q:Int)] 61):=by rw [←hW];exact heap_alloc_new w0 _
   simp [Addr.add,World.cell?,hh]
  | succ j=>simp at hj
 have h1c:∀u ∈ ([Value.int .u64 (q:Int)]:List Value),u.oneCell'=true:=by intro u hu;simp at hu;subst hu;rfl
 have hspare:∀j,j<([Value.int .u64 (q:Int)]:List Value).length→(W.cell? ⟨R,0+n*1+j,none⟩).isSome=true∧W.frozen? ⟨R,0+n*1+j,none⟩=false:=by
  intro j hj
  have ej:j=0:=by simp at hj;omega
  subst ej
  have hcl:=hBW.cell n (by omega)
  have hfr:=hBW.free n
  have en:0+n*1+0=n:=by omega
  rw [en]
  exact⟨by rw [hcl];rfl,hfr⟩
 obtain⟨W2,hW2⟩:∃W2,W.setCells R (0+n*1) [Value.int .u64 (q:Int)]=W2:=⟨_,rfl⟩
 have hW2':W2=W.setCell ⟨R,n,none⟩ (.int .u64 (q:Int)):=by rw [←hW2];simp [World.setCells]
 have hB2:Blk W2 R (xs.set n q):=by rw [hW2'];exact hBW.set n q
 have hx2:W2.heap[w.heap.size+1]?=some (.cells #[.int .u64 0,.int .u64 0,.int .u64 0,.int .u64 0,.slice none 0 0] 139):=by rw [hW2'];exact aR (ae gW hx0) (Ne.symm hRn)
 have hF2:Fr R w W2:=by rw [hW2'];exact (Fr.of_below (hb0.trans (gW.mono hb0.size))).setCell n _
 obtain⟨e0,e1,e2,e3,e4⟩:=aM hx2
 have ef:=cA hx2
 obtain⟨g0,g1,g2,g3,g4⟩:=aM (ae gW h0)
 rw [←hW] at g0 g1 g2 g3 g4
 have hRn0:R≠w.heap.size:=by omega
 have hy2:W2.heap[w.heap.size]?=some (.cells #[.int .u64 a,.int .u64 b,.int .u64 c,.int .u64 d,.slice (some ⟨R,0,none⟩) n 128] 139):=by rw [hW2'];exact aR (ae gW h0) (Ne.symm hRn0)
 obtain⟨k0,k1,k2,k3,k4⟩:=aM hy2
 have KS:=ac (fun (W9:World) (hg:Below w0.heap.size w0 W9)=>show W9.cell? ⟨w.heap.size,0,none⟩=some (.int .u64 a)∧W9.cell? ⟨w.heap.size,1,none⟩=some (.int .u64 b)∧W9.cell? ⟨w.heap.size,2,none⟩=some (.int .u64 c)∧W9.cell? ⟨w.heap.size,3,none⟩=some (.int .u64 d)∧W9.cell? ⟨w.heap.size,4,none⟩=some (.slice (some ⟨R,0,none⟩) n 128) from aM (ae hg h0))
 have KS2:=ac (show W2.cell? ⟨w.heap.size,0,none⟩=some (.int .u64 a)∧W2.cell? ⟨w.heap.size,1,none⟩=some (.int .u64 b)∧W2.cell? ⟨w.heap.size,2,none⟩=some (.int .u64 c)∧W2.cell? ⟨w.heap.size,3,none⟩=some (.int .u64 d)∧W2.cell? ⟨w.heap.size,4,none⟩=some (.slice (some ⟨R,0,none⟩) n 128) from aM hy2)
 have KS3:=ac (show (((((W2.setCell ⟨w.heap.size+1,0,none⟩ (.int .u64 c)).setCell ⟨w.heap.size+1,1,none⟩ (.int .u64 d)).setCell ⟨w.heap.size+1,2,none⟩ (.int .u64 (ap':Int))).setCell ⟨w.heap.size+1,3,none⟩ (.int .u64 (ar':Int))).setCell ⟨w.heap.size+1,4,none⟩ (.slice (some ⟨R,0,none⟩) (n+1) 128)).cell? ⟨w.heap.size,0,none⟩=some (.int .u64 a)∧(((((W2.setCell ⟨w.heap.size+1,0,none⟩ (.int .u64 c)).setCell ⟨w.heap.size+1,1,none⟩ (.int .u64 d)).setCell ⟨w.heap.size+1,2,none⟩ (.int .u64 (ap':Int))).setCell ⟨w.heap.size+1,3,none⟩ (.int .u64 (ar':Int))).setCell ⟨w.heap.size+1,4,none⟩ (.slice (some ⟨R,0,none⟩) (n+1) 128)).cell? ⟨w.heap.size,1,none⟩=some (.int .u64 b)∧(((((W2.setCell ⟨w.heap.size+1,0,none⟩ (.int .u64 c)).setCell ⟨w.heap.size+1,1,none⟩ (.int .u64 d)).setCell ⟨w.heap.size+1,2,none⟩ (.int .u64 (ap':Int))).setCell ⟨w.heap.size+1,3,none⟩ (.int .u64 (ar':Int))).setCell ⟨w.heap.size+1,4,none⟩ (.slice (some ⟨R,0,none⟩) (n+1) 128)).cell? ⟨w.heap.size,2,none⟩=some (.int .u64 c)∧(((((W2.setCell ⟨w.heap.size+1,0,none⟩ (.int .u64 c)).setCell ⟨w.heap.size+1,1,none⟩ (.int .u64 d)).setCell ⟨w.heap.size+1,2,none⟩ (.int .u64 (ap':Int))).setCell ⟨w.heap.size+1,3,none⟩ (.int .u64 (ar':Int))).setCell ⟨w.heap.size+1,4,none⟩ (.slice (some ⟨R,0,none⟩) (n+1) 128)).cell? ⟨w.heap.size,3,none⟩=some (.int .u64 d)∧(((((W2.setCell ⟨w.heap.size+1,0,none⟩ (.int .u64 c)).setCell ⟨w.heap.size+1,1,none⟩ (.int .u64 d)).setCell ⟨w.heap.size+1,2,none⟩ (.int .u64 (ap':Int))).setCell ⟨w.heap.size+1,3,none⟩ (.int .u64 (ar':Int))).setCell ⟨w.heap.size+1,4,none⟩ (.slice (some ⟨R,0,none⟩) (n+1) 128)).cell? ⟨w.heap.size,4,none⟩=some (.slice (some ⟨R,0,none⟩) n 128) from aM (aR (aR (aR (aR (aR hy2 (by omega)) (by omega)) (by omega)) (by omega)) (by omega)))
 have HB3:Hid (Blk (((((W2.setCell ⟨w.heap.size+1,0,none⟩ (.int .u64 c)).setCell ⟨w.heap.size+1,1,none⟩ (.int .u64 d)).setCell ⟨w.heap.size+1,2,none⟩ (.int .u64 (ap':Int))).setCell ⟨w.heap.size+1,3,none⟩ (.int .u64 (ar':Int))).setCell ⟨w.heap.size+1,4,none⟩ (.slice (some ⟨R,0,none⟩) (n+1) 128)) R (xs.set n q)):=ac (aR (aR (aR (aR (aR hB2 hRn) hRn) hRn) hRn) hRn)
 have HX3:=ac (cI (a':=.int .u64 c) (b':=.int .u64 d) (c':=.int .u64 (ap':Int)) (d':=.int .u64 (ar':Int)) (f':=.slice (some ⟨R,0,none⟩) (n+1) 128) hx2)
 have HGW:=ac gW
 have HN:=ac hnews
 have HC1:=ac h1c
 have HSP:=ac hspare
 have HB2:=ac hB2
 have HF2:=ac hF2
 have HX2:=ac hx2
 have HW:=ac hW
 have HW2:=ac hW2
 have HB:=ac hB
 have HB0:=ac hb0
 have HW0:=ac hw0
 clear hp hr hap har hb0 hw0 hB hnews h1c hspare hB2 hF2 hx2 hW hW2 hW2' hx0 hBW hB0 gW hy2 h0
 go_enter Tryz.func162,Tryz.ntmps162
 go_upto_region 1 with fail
 rw [HW0.out]
 refine wp_region_held_drew (S:=fun w'=>w'.cell? ⟨w.heap.size,0,none⟩=some (.int .u64 a)∧w'.cell? ⟨w.heap.size,1,none⟩=some (.int .u64 b)∧w'.cell? ⟨w.heap.size,2,none⟩=some (.int .u64 c)∧w'.cell? ⟨w.heap.size,3,none⟩=some (.int .u64 d)∧w'.cell? ⟨w.heap.size,4,none⟩=some (.slice (some ⟨R,0,none⟩) n 128)) (by kernel_rfl) (KS.out _ (d5 (Below.refl _ _))) (fun hHeld0=>?_)
 refine wpAnyH_take (i:=0) (oi:={ dst:=some 5,op:=Op.fieldAddr 139 (Operand.tmp 2) 2,type:=0,pos:="steps.go:34",after:=#[],guard:=none }) (v:=.pointer (some ⟨w.heap.size,2,none⟩)) rfl (by kernel_rfl) (by kernel_rfl) (by kernel_rfl) (fun _ _ _ h=>h) (Or.inl ⟨by rfl,fun w9 hSw=>?_⟩) hHeld0 ?_
 ·(try dsimp only at hSw);go_simp
 try simp only [Act.put,List.setIfInBounds_toArray,List.set_cons_zero,List.set_cons_succ]
 refine wpAnyH_take (i:=1) (oi:={ dst:=some 6,op:=Op.load 61 (Operand.tmp 5),type:=61,pos:="steps.go:34",after:=#[{ on:=0,ground:=Ground.data }],guard:=none }) (v:=.int .u64 (c:Int)) rfl (by kernel_rfl) (by kernel_rfl) (by kernel_rfl) (fun _ _ _ h=>h) (Or.inl ⟨by rfl,fun w9 hSw=>?_⟩) hHeld0 ?_
 ·(try dsimp only at hSw);go_simp
 try simp only [Act.put,List.setIfInBounds_toArray,List.set_cons_zero,List.set_cons_succ]
 refine wpAnyH_take (i:=2) (oi:={ dst:=some 7,op:=Op.fieldAddr 139 (Operand.tmp 2) 3,type:=0,pos:="steps.go:34",after:=#[],guard:=none }) (v:=.pointer (some ⟨w.heap.size,3,none⟩)) rfl (by kernel_rfl) (by kernel_rfl) (by kernel_rfl) (fun _ _ _ h=>h) (Or.inl ⟨by rfl,fun w9 hSw=>?_⟩) hHeld0 ?_
 ·(try dsimp only at hSw);go_simp
 try simp only [Act.put,List.setIfInBounds_toArray,List.set_cons_zero,List.set_cons_succ]
 refine wpAnyH_take (i:=3) (oi:={ dst:=some 8,op:=Op.load 61 (Operand.tmp 7),type:=61,pos:="steps.go:34",after:=#[{ on:=2,ground:=Ground.data }],guard:=none }) (v:=.int .u64 (d:Int)) rfl (by kernel_rfl) (by kernel_rfl) (by kernel_rfl) (fun _ _ _ h=>h) (Or.inl ⟨by rfl,fun w9 hSw=>?_⟩) hHeld0 ?_
 ·(try dsimp only at hSw);go_simp
 try simp only [Act.put,List.setIfInBounds_toArray,List.set_cons_zero,List.set_cons_succ]
 refine wpAnyH_take (i:=4) (oi:={ dst:=some 9,op:=Op.fieldAddr 139 (Operand.tmp 2) 0,type:=0,pos:="steps.go:34",after:=#[],guard:=none }) (v:=.pointer (some ⟨w.heap.size,0,none⟩)) rfl (by kernel_rfl) (by kernel_rfl) (by kernel_rfl) (fun _ _ _ h=>h) (Or.inl ⟨by rfl,fun w9 hSw=>?_⟩) hHeld0 ?_
 ·(try dsimp only at hSw);go_simp
 try simp only [Act.put,List.setIfInBounds_toArray,List.set_cons_zero,List.set_cons_succ]
 refine wpAnyH_take (i:=5) (oi:={ dst:=some 10,op:=Op.load 61 (Operand.tmp 9),type:=61,pos:="steps.go:34",after:=#[{ on:=4,ground:=Ground.data }],guard:=none }) (v:=.int .u64 (a:Int)) rfl (by kernel_rfl) (by kernel_rfl) (by kernel_rfl) (fun _ _ _ h=>h) (Or.inl ⟨by rfl,fun w9 hSw=>?_⟩) hHeld0 ?_
 ·(try dsimp only at hSw);go_simp
 try simp only [Act.put,List.setIfInBounds_toArray,List.set_cons_zero,List.set_cons_succ]
 refine wpAnyH_take (i:=6) (oi:={ dst:=some 11,op:=Op.move (Operand.tmp 1),type:=61,pos:="steps.go:34",after:=#[],guard:=none }) (v:=.int .u64 (q:Int)) rfl (by kernel_rfl) (by kernel_rfl) (by kernel_rfl) (fun _ _ _ h=>h) (Or.inl ⟨by rfl,fun w9 hSw=>?_⟩) hHeld0 ?_
 ·(try dsimp only at hSw);go_simp
 try simp only [Act.put,List.setIfInBounds_toArray,List.set_cons_zero,List.set_cons_succ]
 refine wpAnyH_take (i:=7) (oi:={ dst:=some 12,op:=Op.fieldAddr 139 (Operand.tmp 2) 2,type:=0,pos:="steps.go:34",after:=#[],guard:=none }) (v:=.pointer (some ⟨w.heap.size,2,none⟩)) rfl (by kernel_rfl) (by kernel_rfl) (by kernel_rfl) (fun _ _ _ h=>h) (Or.inl ⟨by rfl,fun w9 hSw=>?_⟩) hHeld0 ?_
 ·(try dsimp only at hSw);go_simp
 try simp only [Act.put,List.setIfInBounds_toArray,List.set_cons_zero,List.set_cons_succ]
 refine wpAnyH_take (i:=8) (oi:={ dst:=some 13,op:=Op.load 61 (Operand.tmp 12),type:=61,pos:="steps.go:34",after:=#[{ on:=7,ground:=Ground.data }],guard:=none }) (v:=.int .u64 (c:Int)) rfl (by kernel_rfl) (by kernel_rfl) (by kernel_rfl) (fun _ _ _ h=>h) (Or.inl ⟨by rfl,fun w9 hSw=>?_⟩) hHeld0 ?_
 ·(try dsimp only at hSw);go_simp
 try simp only [Act.put,List.setIfInBounds_toArray,List.set_cons_zero,List.set_cons_succ]
 refine wpAnyH_take (i:=9) (oi:={ dst:=some 14,op:=Op.binOp BinOp.mul 61 (Operand.tmp 11) (Operand.tmp 13) 61,type:=61,pos:="steps.go:34",after:=#[{ on:=6,ground:=Ground.data },{ on:=8,ground:=Ground.data }],guard:=none }) (v:=.int .u64 (p:Int)) rfl (by kernel_rfl) (by kernel_rfl) (by kernel_rfl) (fun _ _ _ h=>h) (Or.inl ⟨by rfl,fun w9 hSw=>?_⟩) hHeld0 ?_
 ·(try dsimp only at hSw);go_simp
 try simp only [Act.put,List.setIfInBounds_toArray,List.set_cons_zero,List.set_cons_succ]
 refine wpAnyH_take (i:=10) (oi:={ dst:=some 15,op:=Op.binOp BinOp.add 61 (Operand.tmp 10) (Operand.tmp 14) 61,type:=61,pos:="steps.go:34",after:=#[{ on:=5,ground:=Ground.data },{ on:=9,ground:=Ground.data }],guard:=none }) (v:=.int .u64 (ap':Int)) rfl (by kernel_rfl) (by kernel_rfl) (by kernel_rfl) (fun _ _ _ h=>h) (Or.inl ⟨by rfl,fun w9 hSw=>?_⟩) hHeld0 ?_
 ·(try dsimp only at hSw);go_simp
 try simp only [Act.put,List.setIfInBounds_toArray,List.set_cons_zero,List.set_cons_succ]
 refine wpAnyH_take (i:=11) (oi:={ dst:=some 16,op:=Op.fieldAddr 139 (Operand.tmp 2) 1,type:=0,pos:="steps.go:34",after:=#[],guard:=none }) (v:=.pointer (some ⟨w.heap.size,1,none⟩)) rfl (by kernel_rfl) (by kernel_rfl) (by kernel_rfl) (fun _ _ _ h=>h) (Or.inl ⟨by rfl,fun w9 hSw=>?_⟩) hHeld0 ?_
 ·(try dsimp only at hSw);go_simp
 try simp only [Act.put,List.setIfInBounds_toArray,List.set_cons_zero,List.set_cons_succ]
 refine wpAnyH_take (i:=12) (oi:={ dst:=some 17,op:=Op.load 61 (Operand.tmp 16),type:=61,pos:="steps.go:34",after:=#[{ on:=11,ground:=Ground.data }],guard:=none }) (v:=.int .u64 (b:Int)) rfl (by kernel_rfl) (by kernel_rfl) (by kernel_rfl) (fun _ _ _ h=>h) (Or.inl ⟨by rfl,fun w9 hSw=>?_⟩) hHeld0 ?_
 ·(try dsimp only at hSw);go_simp
 try simp only [Act.put,List.setIfInBounds_toArray,List.set_cons_zero,List.set_cons_succ]
 refine wpAnyH_take (i:=13) (oi:={ dst:=some 18,op:=Op.move (Operand.tmp 1),type:=61,pos:="steps.go:34",after:=#[],guard:=none }) (v:=.int .u64 (q:Int)) rfl (by kernel_rfl) (by kernel_rfl) (by kernel_rfl) (fun _ _ _ h=>h) (Or.inl ⟨by rfl,fun w9 hSw=>?_⟩) hHeld0 ?_
 ·(try dsimp only at hSw);go_simp
 try simp only [Act.put,List.setIfInBounds_toArray,List.set_cons_zero,List.set_cons_succ]
 refine wpAnyH_take (i:=14) (oi:={ dst:=some 19,op:=Op.fieldAddr 139 (Operand.tmp 2) 3,type:=0,pos:="steps.go:34",after:=#[],guard:=none }) (v:=.pointer (some ⟨w.heap.size,3,none⟩)) rfl (by kernel_rfl) (by kernel_rfl) (by kernel_rfl) (fun _ _ _ h=>h) (Or.inl ⟨by rfl,fun w9 hSw=>?_⟩) hHeld0 ?_
 ·(try dsimp only at hSw);go_simp
 try simp only [Act.put,List.setIfInBounds_toArray,List.set_cons_zero,List.set_cons_succ]
 refine wpAnyH_take (i:=15) (oi:={ dst:=some 20,op:=Op.load 61 (Operand.tmp 19),type:=61,pos:="steps.go:34",after:=#[{ on:=14,ground:=Ground.data }],guard:=none }) (v:=.int .u64 (d:Int)) rfl (by kernel_rfl) (by kernel_rfl) (by kernel_rfl) (fun _ _ _ h=>h) (Or.inl ⟨by rfl,fun w9 hSw=>?_⟩) hHeld0 ?_
 ·(try dsimp only at hSw);go_simp
 try simp only [Act.put,List.setIfInBounds_toArray,List.set_cons_zero,List.set_cons_succ]
 refine wpAnyH_take (i:=16) (oi:={ dst:=some 21,op:=Op.binOp BinOp.mul 61 (Operand.tmp 18) (Operand.tmp 20) 61,type:=61,pos:="steps.go:34",after:=#[{ on:=13,ground:=Ground.data },{ on:=15,ground:=Ground.data }],guard:=none }) (v:=.int .u64 (r:Int)) rfl (by kernel_rfl) (by kernel_rfl) (by kernel_rfl) (fun _ _ _ h=>h) (Or.inl ⟨by rfl,fun w9 hSw=>?_⟩) hHeld0 ?_
 ·(try dsimp only at hSw);go_simp
 try simp only [Act.put,List.setIfInBounds_toArray,List.set_cons_zero,List.set_cons_succ]
 refine wpAnyH_take (i:=17) (oi:={ dst:=some 22,op:=Op.binOp BinOp.add 61 (Operand.tmp 17) (Operand.tmp 21) 61,type:=61,pos:="steps.go:34",after:=#[{ on:=12,ground:=Ground.data },{ on:=16,ground:=Ground.data }],guard:=none }) (v:=.int .u64 (ar':Int)) rfl (by kernel_rfl) (by kernel_rfl) (by kernel_rfl) (fun _ _ _ h=>h) (Or.inl ⟨by rfl,fun w9 hSw=>?_⟩) hHeld0 ?_
 ·(try dsimp only at hSw);go_simp
 try simp only [Act.put,List.setIfInBounds_toArray,List.set_cons_zero,List.set_cons_succ]
 refine wpAnyH_take (i:=18) (oi:={ dst:=some 23,op:=Op.fieldAddr 139 (Operand.tmp 2) 4,type:=0,pos:="steps.go:34",after:=#[],guard:=none }) (v:=.pointer (some ⟨w.heap.size,4,none⟩)) rfl (by kernel_rfl) (by kernel_rfl) (by kernel_rfl) (fun _ _ _ h=>h) (Or.inl ⟨by rfl,fun w9 hSw=>?_⟩) hHeld0 ?_
 ·(try dsimp only at hSw);go_simp
 try simp only [Act.put,List.setIfInBounds_toArray,List.set_cons_zero,List.set_cons_succ]
 refine wpAnyH_take (i:=19) (oi:={ dst:=some 24,op:=Op.load 22 (Operand.tmp 23),type:=22,pos:="steps.go:34",after:=#[{ on:=18,ground:=Ground.data }],guard:=none }) (v:=.slice (some ⟨R,0,none⟩) n 128) rfl (by kernel_rfl) (by kernel_rfl) (by kernel_rfl) (fun _ _ _ h=>h) (Or.inl ⟨by rfl,fun w9 hSw=>?_⟩) hHeld0 ?_
 ·(try dsimp only at hSw);go_simp
 try simp only [Act.put,List.setIfInBounds_toArray,List.set_cons_zero,List.set_cons_succ]
 refine wpAnyH_take (i:=20) (oi:={ dst:=some 25,op:=Op.move (Operand.tmp 1),type:=61,pos:="steps.go:34",after:=#[],guard:=none }) (v:=.int .u64 (q:Int)) rfl (by kernel_rfl) (by kernel_rfl) (by kernel_rfl) (fun _ _ _ h=>h) (Or.inl ⟨by rfl,fun w9 hSw=>?_⟩) hHeld0 ?_
 ·(try dsimp only at hSw);go_simp
 try simp only [Act.put,List.setIfInBounds_toArray,List.set_cons_zero,List.set_cons_succ]
 refine wpAnyH_ready (rs:=[21]) (by kernel_rfl) (by simp) ?_
 refine AllReadyH.cons rfl (fun K hK=>?_) AllReadyH.nil
 go_simp
 rw [HW.out]
 refine hK.out _ _ (KS.out _ HGW.out) (fun hHeld1=>?_)
 clear hK K
 try simp only [Act.put,List.setIfInBounds_toArray,List.set_cons_zero,List.set_cons_succ]
 refine wpAnyH_ready (rs:=[22]) (by kernel_rfl) (by simp) ?_
 refine AllReadyH.cons rfl (fun K hK=>?_) AllReadyH.nil
 refine step_append_room rfl (.tmp 24) (.tmp 26) 22 rfl 61 i0 1 Tryz.underlying22 hi hzb R 0 n 128 rfl ⟨w0.heap.size,0,none⟩ 1 1 [.int .u64 (q:Int)] rfl rfl HN.out HC1.out (by omega) HSP.out ?_
 rw [HW2.out]
 refine hK.out _ _ KS2.out (fun hHeld2=>?_)
 clear hK K
 try simp only [Act.put,List.setIfInBounds_toArray]
 refine wpAnyH_take (i:=23) (oi:={ dst:=some 28,op:=Op.build 139 #[(0,Operand.tmp 6),(1,Operand.tmp 8),(2,Operand.tmp 15),(3,Operand.tmp 22),(4,Operand.tmp 27)],type:=139,pos:="steps.go:34",after:=#[{ on:=1,ground:=Ground.data },{ on:=3,ground:=Ground.data },{ on:=10,ground:=Ground.data },{ on:=17,ground:=Ground.data },{ on:=22,ground:=Ground.data }],guard:=none }) (v:=.agg #[.int .u64 c,.int .u64 d,.int .u64 (ap':Int),.int .u64 (ar':Int),.slice (some ⟨R,0,none⟩) (n+1) 128]) rfl (by kernel_rfl) (by kernel_rfl) (by kernel_rfl) (fun _ _ _ h=>h) (Or.inl ⟨by rfl,fun w9 hSw=>?_⟩) hHeld2 ?_
 ·(try dsimp only at hSw);go_simp
 try simp only [Act.put]
 refine wpAnyH_ready (rs:=[24]) (by kernel_rfl) (by simp) ?_
 refine AllReadyH.cons rfl (fun K hK=>?_) AllReadyH.nil
 go_simp
 refine hK.out _ _ KS3.out (fun hHeld3=>?_)
 clear hK K
 try simp only [Act.put,List.setIfInBounds_toArray,List.set_cons_zero,List.set_cons_succ]
 refine wpAnyH_done (by kernel_rfl) ?_ _
 clear hHeld0 hHeld1 hHeld2 hHeld3
 clear KS KS2 KS3 HN HC1 HSP g0 g1 g2 g3 g4 k0 k1 k2 k3 k4 e0 e1 e2 e3 e4 ef c0 c1 c2 c3 c4
 have HR:=ac (show aO (((((W2.setCell ⟨w.heap.size+1,0,none⟩ (.int .u64 c)).setCell ⟨w.heap.size+1,1,none⟩ (.int .u64 d)).setCell ⟨w.heap.size+1,2,none⟩ (.int .u64 (ap':Int))).setCell ⟨w.heap.size+1,3,none⟩ (.int .u64 (ar':Int))).setCell ⟨w.heap.size+1,4,none⟩ (.slice (some ⟨R,0,none⟩) (n+1) 128)) R from ⟨_,HB3.out,by rw [List.length_set];exact hl⟩)
 have HF3:=ac (show Fr R w (((((W2.setCell ⟨w.heap.size+1,0,none⟩ (.int .u64 c)).setCell ⟨w.heap.size+1,1,none⟩ (.int .u64 d)).setCell ⟨w.heap.size+1,2,none⟩ (.int .u64 (ap':Int))).setCell ⟨w.heap.size+1,3,none⟩ (.int .u64 (ar':Int))).setCell ⟨w.heap.size+1,4,none⟩ (.slice (some ⟨R,0,none⟩) (n+1) 128)) from cL HF2.out (by omega))
 obtain⟨q0,q1,q2,q3,q4⟩:=aM HX3.out
 clear HB2 HB3 HX2 HX3 HF2
 generalize ((((W2.setCell ⟨w.heap.size+1,0,none⟩ (.int .u64 c)).setCell ⟨w.heap.size+1,1,none⟩ (.int .u64 d)).setCell ⟨w.heap.size+1,2,none⟩ (.int .u64 (ap':Int))).setCell ⟨w.heap.size+1,3,none⟩ (.int .u64 (ar':Int))).setCell ⟨w.heap.size+1,4,none⟩ (.slice (some ⟨R,0,none⟩) (n+1) 128)=w5 at *
 go_wp2
 refine bodyPost_ret (v:=stw c d ap' ar' (some ⟨R,0,none⟩) (n+1) 128) (by simp [stw,results,Tryz.results162,go_sem,q0,q1,q2,q3,q4]) rfl ?_
 exact⟨rfl,HR.out,HF3.out⟩

theorem aO.fr {R:Nat}{w w':World}(h:aO w R)(hb:Below w.heap.size w w'):aO w' R:=by
 obtain⟨xs,h1,h2⟩:=h
 exact⟨xs,h1.below' hb,h2⟩

theorem aO.lt {R:Nat}{w:World}(h:aO w R):R<w.heap.size:=by
 obtain⟨xs,h1,_⟩:=h
 exact h1.lt

theorem aO.set {R g o:Nat}{w:World}{u:Value}(h:aO w R)(hne:R≠g):aO (w.setCell ⟨g,o,none⟩ u) R:=by
 obtain⟨xs,h1,h2⟩:=h
 exact⟨xs,aR h1 hne,h2⟩

theorem jj (R:Nat)(w:World) :
  Calls Tryz.prog 161 #[.slice (some ⟨R,0,none⟩) 0 128] w fun e w'=>e=.returned (.agg #[.int .u64 1,.int .u64 0,.int .u64 0,.int .u64 1,.slice (some ⟨R,0,none⟩) 0 128])∧Below w.heap.size w w':=by
 have hb:Below w.heap.size w (w.alloc (.cells #[.int .u64 1,.int .u64 0,.int .u64 0,.int .u64 1,.slice (some ⟨R,0,none⟩) 0 128] 139)):=(Below.refl _ _).alloc (Nat.le_refl _) _
 have HB:=ac hb
 clear hb
 go_enter Tryz.func161,Tryz.ntmps161
 go_wp2
 go_returns
 exact⟨rfl,HB.out⟩

theorem kA {wr w2 W0:World}{R B0 G1:Nat}(h0:Below wr.heap.size wr W0)(hf:Fr R W0 w2)(hR:aO w2 R)(hR0:R<wr.heap.size)(hB:B0<wr.heap.size)(hG:G1<wr.heap.size)(o:Obj) :
  ∃g:Nat,Value.pointer (some ⟨w2.heap.size,0,none⟩)=Value.pointer (some ⟨g,0,none⟩)∧g≠B0∧g≠G1∧g≠R∧(w2.alloc o).heap[g]?=some o∧aO (w2.alloc o) R∧Fr R wr (w2.alloc o):=by
 have h1:Fr R wr w2:=(Fr.of_below h0).trans hf
 have h2:=h1.size
 exact⟨w2.heap.size,rfl,by omega,by omega,by omega,heap_alloc_new ..,hR.fr ((Below.refl _ _).alloc (Nat.le_refl _) o),h1.trans (Fr.alloc R w2 o)⟩

theorem kB {wr w2 W0:World}{R B0 G1:Nat}(h0:Below wr.heap.size wr W0)(hf:Fr R W0 w2)(hR:aO w2 R)(hR0:R<wr.heap.size)(hB:B0<wr.heap.size)(hG:G1<wr.heap.size){a b c d f a' b' c' d' f':Value}{t:TypeId}(hk:w2.heap[wr.heap.size]?=some (.cells #[a,b,c,d,f] t)) :
  ∃g:Nat,Value.pointer (some ⟨wr.heap.size,0,none⟩)=Value.pointer (some ⟨g,0,none⟩)∧g≠B0∧g≠G1∧g≠R∧(((((w2.setCell ⟨wr.heap.size,0,none⟩ a').setCell ⟨wr.heap.size,1,none⟩ b').setCell ⟨wr.heap.size,2,none⟩ c').setCell ⟨wr.heap.size,3,none⟩ d').setCell ⟨wr.heap.size,4,none⟩ f').heap[g]?=some (.cells #[a',b',c',d',f'] t) ∧
   aO (((((w2.setCell ⟨wr.heap.size,0,none⟩ a').setCell ⟨wr.heap.size,1,none⟩ b').setCell ⟨wr.heap.size,2,none⟩ c').setCell ⟨wr.heap.size,3,none⟩ d').setCell ⟨wr.heap.size,4,none⟩ f') R ∧
   Fr R wr (((((w2.setCell ⟨wr.heap.size,0,none⟩ a').setCell ⟨wr.heap.size,1,none⟩ b').setCell ⟨wr.heap.size,2,none⟩ c').setCell ⟨wr.heap.size,3,none⟩ d').setCell ⟨wr.heap.size,4,none⟩ f'):=by
 have h1:Fr R wr w2:=(Fr.of_below h0).trans hf
 have hne:R≠wr.heap.size:=by omega
 exact⟨wr.heap.size,rfl,by omega,by omega,by omega,cI hk,((((hR.set hne).set hne).set hne).set hne).set hne,cL h1 (Nat.le_refl _)⟩

theorem aA {W0 W t:World}(h:Below W0.heap.size W0 W)(h2:Below W.heap.size W t):Below W0.heap.size W0 t:=h.trans (h2.mono h.size)

def lT (xh yh R:Nat)(w:World)(e:Ending)(w':World):Prop:=
 (∃a b c d n x y:Nat,e=.returned (stw a b c d (some ⟨R,0,none⟩) n 128)∧bT n xh yh x y a b c d∧n<128∧(1≤n→d<4294967296))∧aO w' R∧Fr R w w'

theorem qe (xh yh R:Nat)(w:World)(hx:xh<18446744073709551616)(hyx:yh≤xh)(hx0:0<xh)(hR:aO w R) :
  Calls Tryz.prog 119 #[.int .u64 xh,.int .u64 yh,.slice (some ⟨R,0,none⟩) 0 128] w (lT xh yh R w):=by
 obtain⟨w0,hw0,hb0,h0⟩:=aL w (.cells #[.int .u64 0,.int .u64 0,.int .u64 0,.int .u64 0,.slice none 0 0] 139)
 have NS:=jj R w0
 have HB0:=ac hb0
 have H0:=ac h0
 have HR:=ac hR
 have HX:=ac (And.intro hx hx0)
 have HYX:=ac hyx
 have hs0:w0.heap.size=w.heap.size+1:=by rw [←hw0];exact World.size_alloc _ _
 have HS0:=ac hs0
 have hRw:=hR.lt
 clear hb0 h0 hR hs0
 go_enter Tryz.func119,Tryz.ntmps119
 go_wp2_with fail
 refine NS.mono ?_
 rintro e w1 ⟨rfl,hb1⟩
 obtain⟨w2,hw2,hb2,h2⟩:=aL w1 (.cells #[.int .u64 1,.int .u64 0,.int .u64 0,.int .u64 1,.slice (some ⟨R,0,none⟩) 0 128] 139)
 have HS1:=ac hb1.size
 have HRM:=ac (((HR.out.fr HB0.out).fr hb1).fr hb2)
 have HFR:=ac (Fr.of_below (bz:=R) ((aA HB0.out hb1).trans (hb2.mono (aA HB0.out hb1).size)))
 have H02:=ac (ae hb2 (ae hb1 H0.out))
 have H12:=ac h2
 have HTOP0:=ac (bT.start HYX.out)
 obtain⟨G1,hG1⟩:∃G1,w1.heap.size=G1:=⟨_,rfl⟩
 rw [hG1] at H12
 have hG:w.heap.size+1≤G1:=by have:=HS1.out;have:=HS0.out;omega
 have HG:=ac hG
 clear hb1 hb2 h2 NS
 go_wp2
 clear hG1 HS1
 go_loopw [0,1] (fun X Y wr=>∃(x y a b c d n:Nat),X=.int .u64 x∧Y=.int .u64 y∧x<18446744073709551616∧y<18446744073709551616∧0<x∧bT n xh yh x y a b c d∧wr.heap[w.heap.size]?=some (.cells #[.int .u64 0,.int .u64 0,.int .u64 0,.int .u64 0,.slice none 0 0] 139)∧wr.heap[G1]?=some (.cells #[.int .u64 (a:Int),.int .u64 (b:Int),.int .u64 (c:Int),.int .u64 (d:Int),.slice (some ⟨R,0,none⟩) n 128] 139)∧aO wr R∧Fr R w wr) (fun _ Y _=>(intOf Y).toNat)
 case atStart=>exact⟨xh,yh,1,0,0,1,0,rfl,rfl,HX.out.1,by have:=HX.out.1;have:=HYX.out;omega,HX.out.2,HTOP0.out,H02.out,H12.out,HRM.out,HFR.out⟩
 case round=>
  obtain⟨x,y,a,b,c,d,n,rfl,rfl,hxl,hyl,hxp,htop,r0,r1,hrm,hfr⟩:=hrel
  have HTOP:=ac htop
  have R0:=ac r0
  have R1:=ac r1
  have RM:=ac hrm
  have FR:=ac hfr
  have hn:=htop.few hxp HX.out.1
  have HLN:=ac hn
  have HRB:=ac (show R≠w.heap.size by omega)
  obtain⟨sa,sb,sc,sd⟩:=htop.top.small HX.out.1
  obtain⟨hr0,hr1,hr2,hr3,hr4⟩:=aM r1
  obtain⟨hq0,hq1,hq2,hq3,hq4⟩:=aM r0
  have hqf:=cA r0
  have hrf:=cA r1
  clear H02 H12 HRM HFR HTOP0
  by_cases hy0:y=0
  ·subst hy0
   clear htop r0 r1 hrm hfr
   replace HX:=ac HX.out.1
   go_wp2
   have HE:=ac (show ∃x y:Nat,bT n xh yh x y a b c d∧n<128∧(1≤n→d<4294967296) from ⟨_,_,HTOP.out,HLN.out,fun h1=>HTOP.out.top.1.half (by have h2:=(HTOP.out.acc h1).1;have:=h2.xy;have:=h2.dy;omega) HX.out⟩)
   have R5:=cI R0.out (a':=.int .u64 a) (b':=.int .u64 b) (c':=.int .u64 c) (d':=.int .u64 d) (f':=.slice (some ⟨R,0,none⟩) n 128)
   have W5:=ac (And.intro ((((((RM.out.set HRB.out).set HRB.out).set HRB.out).set HRB.out).set HRB.out:aO (((((wr.setCell ⟨w.heap.size,0,none⟩ (.int .u64 a)).setCell ⟨w.heap.size,1,none⟩ (.int .u64 b)).setCell ⟨w.heap.size,2,none⟩ (.int .u64 c)).setCell ⟨w.heap.size,3,none⟩ (.int .u64 d)).setCell ⟨w.heap.size,4,none⟩ (.slice (some ⟨R,0,none⟩) n 128)) R)) (cL (g:=w.heap.size) (u0:=.int .u64 a) (u1:=.int .u64 b) (u2:=.int .u64 c) (u3:=.int .u64 d) (u4:=.slice (some ⟨R,0,none⟩) n 128) FR.out (Nat.le_refl _)))
   generalize ((((wr.setCell ⟨w.heap.size,0,none⟩ (.int .u64 a)).setCell ⟨w.heap.size,1,none⟩ (.int .u64 b)).setCell ⟨w.heap.size,2,none⟩ (.int .u64 c)).setCell ⟨w.heap.size,3,none⟩ (.int .u64 d)).setCell ⟨w.heap.size,4,none⟩ (.slice (some ⟨R,0,none⟩) n 128)=w5 at *
   obtain⟨hk0,hk1,hk2,hk3,hk4⟩:=aM R5
   refine bodyPost_ret (v:=stw a b c d (some ⟨R,0,none⟩) n 128) (by simp [stw,results,Tryz.results119,go_sem,hk0,hk1,hk2,hk3,hk4]) rfl ?_
   obtain⟨x9,y9,q1,q2,q3⟩:=HE.out
   exact⟨⟨a,b,c,d,n,x9,y9,rfl,q1,q2,q3⟩,W5.out.1,W5.out.2⟩
  ·have hy:0<y:=by omega
   have hypos:(0:Int)<(y:Int):=by omega
   have hz:((y:Int) == 0)=false:=by rw [beq_eq_false_iff_ne];omega
   obtain⟨n1,n2,n3,n4,n5,n6,n7⟩:=htop.top.next hy
   have hdiv:(x:Int) / (y:Int)=((x / y:Nat):Int):=by omega
   have hmod:(x:Int) % (y:Int)=((x % y:Nat):Int):=by omega
   have hml:x % y<y:=Nat.mod_lt _ hy
   have hdl:=n1.d_le hy
   have hql:x / y≤x:=Nat.div_le_self _ _
   have HNX:=fun W hR=>i6 a b c d (x / y) R n W (by have:=HX.out.1;omega) (by have:=HX.out.1;omega) hR hn
   have HNE:=ac (fun h1 h2=>htop.next hy h1 h2)
   generalize x / y=q at *
   generalize x % y=r at *
   generalize a+q*c=c' at *
   generalize b+q*d=d' at *
   unfold stw at HNX
   have hlt0:w.heap.size<wr.heap.size:=bh R0.out
   have hlt1:G1<wr.heap.size:=bh R1.out
   have hRlt:=RM.out.lt
   have hRG:R≠G1:=by have:=HG.out;omega
   have HRG:=ac hRG
   have hne1:¬(G1=wr.heap.size):=by omega
   have hne2:¬(wr.heap.size=G1):=by omega
   obtain⟨ha0,ha1,ha2,ha3,ha4⟩:=aM (jy (o:=.cells #[.int .u64 0,.int .u64 0,.int .u64 0,.int .u64 0,.slice none 0 0] 139) R1.out)
   have wq:IntKind.u64.wrap (q:Int)=(q:Int):=by rw [IntKind.wrap_u64];omega
   have wr':IntKind.u64.wrap (r:Int)=(r:Int):=by rw [IntKind.wrap_u64];omega
   have RW1:=ac (RM.out.fr (d5 (Below.refl _ _)))
   have RW2:=ac (RM.out.fr (d5 (iP (Below.refl _ _) (.cells #[.int .u64 0,.int .u64 0,.int .u64 0,.int .u64 0,.slice none 0 0] 139))))
   have HN1:=ac n1
   clear htop r0 r1 hrm hfr n1 hy0 hRG hn
   go_upto_region 3 with fail
   go_cut [8] from 13 to 18 (fun s wx=>∃g:Nat,s=.pointer (some ⟨g,0,none⟩)∧g≠w.heap.size∧g≠G1∧g≠R∧wx.heap[g]?=some (.cells #[.int .u64 (c:Int),.int .u64 (d:Int),.int .u64 (c':Int),.int .u64 (d':Int),.slice (some ⟨R,0,none⟩) (n+1) 128] 139)∧aO wx R∧Fr R wr wx)
   case first=>
    go_region_with (first | (go_at_call 162;refine (HNX _ (by first|exact RW1.out|exact RW2.out)).mono ?_;rintro e w3 ⟨rfl,hR3,hF3⟩;first | (have hz3:=(hF3.block wr.heap.size (by simp [World.size_alloc]) (by omega)).trans (show (wr.alloc (.cells #[.int .u64 0,.int .u64 0,.int .u64 0,.int .u64 0,.slice none 0 0] 139)).drew.heap[wr.heap.size]?=_ from heap_alloc_new ..);obtain⟨hl0,hl1,hl2,hl3,hl4⟩:=aM hz3;have hlf:=cA hz3) | skip))
    all_goals (go_wp2_with fail;go_meet;first|exact kA (Below.refl _ _).drew hF3 hR3 hRlt hlt0 hlt1 _|exact kB ((Below.refl _ _).alloc (Nat.le_refl _) _).drew hF3 hR3 hRlt hlt0 hlt1 hz3)
   case rest=>
    obtain⟨g,rfl,hg1,hg2,hg3,hgc,hrm,hbx⟩:=hcut
    have S0:=ac ((hbx.block w.heap.size hlt0 (by omega)).trans R0.out)
    have S1:=ac ((hbx.block G1 hlt1 (fun e=>HRG.out e.symm)).trans R1.out)
    have SR:=ac hrm
    have SF:=ac (FR.out.trans hbx)
    obtain⟨k0,k1,k2,k3,k4⟩:=aM hgc
    obtain⟨m0,m1,m2,m3,m4⟩:=aM S1.out
    have mf:=cA S1.out
    obtain⟨z0,z1,z2,z3,z4⟩:=aM S0.out
    have zf:=cA S0.out
    clear hbx hgc hrm hr0 hr1 hr2 hr3 hr4 hq0 hq1 hq2 hq3 hq4 hqf hrf R0 R1 RM FR ha0 ha1 ha2 ha3 ha4 HNX RW1 RW2
    go_wp2
    go_quiet (fail)
    by_cases t1:r<d'
    ·have t1':(r:Int)<(d':Int):=by omega
     replace HX:=ac HX.out.1
     clear HNE HN1
     go_wp2
     obtain⟨wd,hwd⟩:∃wd,wd=wc.drewN nq:=⟨_,rfl⟩
     rw [←hwd]
     have R0:=S0
     rw [show wc.heap=wd.heap by rw [hwd];rfl] at R0
     have hbd:Below wc.heap.size wc wd:=by rw [hwd];exact (((aD.refl _).drewN _).below _)
     have RM:=ac (SR.out.fr hbd)
     have FR:=ac (SF.out.trans (Fr.of_below hbd))
     clear hwd
     have HE:=ac (show ∃x y:Nat,bT n xh yh x y a b c d∧n<128∧(1≤n→d<4294967296) from ⟨_,_,HTOP.out,HLN.out,fun h1=>HTOP.out.top.1.half (by have h2:=(HTOP.out.acc h1).1;have:=h2.xy;have:=h2.dy;omega) HX.out⟩)
     have R5:=cI R0.out (a':=.int .u64 a) (b':=.int .u64 b) (c':=.int .u64 c) (d':=.int .u64 d) (f':=.slice (some ⟨R,0,none⟩) n 128)
     have W5:=ac (And.intro ((((((RM.out.set HRB.out).set HRB.out).set HRB.out).set HRB.out).set HRB.out:aO (((((wd.setCell ⟨w.heap.size,0,none⟩ (.int .u64 a)).setCell ⟨w.heap.size,1,none⟩ (.int .u64 b)).setCell ⟨w.heap.size,2,none⟩ (.int .u64 c)).setCell ⟨w.heap.size,3,none⟩ (.int .u64 d)).setCell ⟨w.heap.size,4,none⟩ (.slice (some ⟨R,0,none⟩) n 128)) R)) (cL (g:=w.heap.size) (u0:=.int .u64 a) (u1:=.int .u64 b) (u2:=.int .u64 c) (u3:=.int .u64 d) (u4:=.slice (some ⟨R,0,none⟩) n 128) FR.out (Nat.le_refl _)))
     generalize ((((wd.setCell ⟨w.heap.size,0,none⟩ (.int .u64 a)).setCell ⟨w.heap.size,1,none⟩ (.int .u64 b)).setCell ⟨w.heap.size,2,none⟩ (.int .u64 c)).setCell ⟨w.heap.size,3,none⟩ (.int .u64 d)).setCell ⟨w.heap.size,4,none⟩ (.slice (some ⟨R,0,none⟩) n 128)=w5 at *
     obtain⟨hk0,hk1,hk2,hk3,hk4⟩:=aM R5
     refine bodyPost_ret (v:=stw a b c d (some ⟨R,0,none⟩) n 128) (by simp [stw,results,Tryz.results119,go_sem,hk0,hk1,hk2,hk3,hk4]) rfl ?_
     obtain⟨x9,y9,q1,q2,q3⟩:=HE.out
     exact⟨⟨a,b,c,d,n,x9,y9,rfl,q1,q2,q3⟩,W5.out.1,W5.out.2⟩
    ·have t1':¬((r:Int)<(d':Int)):=by omega
     have hsum:=HN1.out.sum_le hy (show 0<r by omega)
     obtain⟨e1,he1,hf1⟩:∃e1:Nat,(y:Int) - (r:Int)=(e1:Int)∧e1+r=y:=⟨y - r,by omega,by omega⟩
     obtain⟨e2,he2,hf2⟩:∃e2:Nat,(d:Int)+(d':Int)=(e2:Int)∧d+d'=e2:=⟨d+d',by omega,rfl⟩
     have hl1:e1<18446744073709551616:=by omega
     have hl2:e2<18446744073709551616:=by have:=HX.out.1;omega
     by_cases t2:e1<e2
     ·have t2':(e1:Int)<(e2:Int):=by omega
      replace HX:=ac HX.out.1
      clear hf1 hf2 HNE HN1
      go_wp2
      obtain⟨wd,hwd⟩:∃wd,wd=wc.drewN nq:=⟨_,rfl⟩
      rw [←hwd]
      have R0:=S0
      rw [show wc.heap=wd.heap by rw [hwd];rfl] at R0
      have hbd:Below wc.heap.size wc wd:=by rw [hwd];exact (((aD.refl _).drewN _).below _)
      have RM:=ac (SR.out.fr hbd)
      have FR:=ac (SF.out.trans (Fr.of_below hbd))
      clear hwd
      have HE:=ac (show ∃x y:Nat,bT n xh yh x y a b c d∧n<128∧(1≤n→d<4294967296) from ⟨_,_,HTOP.out,HLN.out,fun h1=>HTOP.out.top.1.half (by have h2:=(HTOP.out.acc h1).1;have:=h2.xy;have:=h2.dy;omega) HX.out⟩)
      have R5:=cI R0.out (a':=.int .u64 a) (b':=.int .u64 b) (c':=.int .u64 c) (d':=.int .u64 d) (f':=.slice (some ⟨R,0,none⟩) n 128)
      have W5:=ac (And.intro ((((((RM.out.set HRB.out).set HRB.out).set HRB.out).set HRB.out).set HRB.out:aO (((((wd.setCell ⟨w.heap.size,0,none⟩ (.int .u64 a)).setCell ⟨w.heap.size,1,none⟩ (.int .u64 b)).setCell ⟨w.heap.size,2,none⟩ (.int .u64 c)).setCell ⟨w.heap.size,3,none⟩ (.int .u64 d)).setCell ⟨w.heap.size,4,none⟩ (.slice (some ⟨R,0,none⟩) n 128)) R)) (cL (g:=w.heap.size) (u0:=.int .u64 a) (u1:=.int .u64 b) (u2:=.int .u64 c) (u3:=.int .u64 d) (u4:=.slice (some ⟨R,0,none⟩) n 128) FR.out (Nat.le_refl _)))
      generalize ((((wd.setCell ⟨w.heap.size,0,none⟩ (.int .u64 a)).setCell ⟨w.heap.size,1,none⟩ (.int .u64 b)).setCell ⟨w.heap.size,2,none⟩ (.int .u64 c)).setCell ⟨w.heap.size,3,none⟩ (.int .u64 d)).setCell ⟨w.heap.size,4,none⟩ (.slice (some ⟨R,0,none⟩) n 128)=w5 at *
      obtain⟨hk0,hk1,hk2,hk3,hk4⟩:=aM R5
      refine bodyPost_ret (v:=stw a b c d (some ⟨R,0,none⟩) n 128) (by simp [stw,results,Tryz.results119,go_sem,hk0,hk1,hk2,hk3,hk4]) rfl ?_
      obtain⟨x9,y9,q1,q2,q3⟩:=HE.out
      exact⟨⟨a,b,c,d,n,x9,y9,rfl,q1,q2,q3⟩,W5.out.1,W5.out.2⟩
     ·have t2':¬((e1:Int)<(e2:Int)):=by omega
      have HNT:=ac (HNE.out (by omega) (by omega))
      have hrp:0<r:=by omega
      clear hf1 hf2 HNE HN1
      go_wp2
      go_roundw
      case rel=>
       have hdr:Below wc.heap.size wc (wc.drewN nq):=((aD.refl _).drewN _).below _
       have hwG:w.heap.size≤G1:=by have:=HG.out;omega
       refine⟨y,r,c,d,c',d',n+1,rfl,by rw [hmod],hyl,by omega,hy,HNT.out,?_,?_,?_,?_⟩
       ·exact aR (aR (aR (aR (aR S0.out (by omega)) (by omega)) (by omega)) (by omega)) (by omega)
       ·exact cI S1.out
       ·exact (((((SR.out.fr hdr).set HRG.out).set HRG.out).set HRG.out).set HRG.out).set HRG.out
       ·exact cL (SF.out.trans (Fr.of_below hdr)) hwG
      case measure=>simp [intOf];omega

structure LTo (n xh yh x y a b c d:Nat):Prop where
 steps:LSteps xh yh x y a b c d (aZ n)
 yx:y≤x
 zero:n=0→a=1∧b=0∧c=0∧d=1
 pos:1≤n→a≤b∧c≤d∧1≤c∧b≤d∧a≤c∧1≤b∧c+d≤18446744073709551616
 grow:2 ^ (n / 2)≤d
 grow1:1≤n→2 ^ ((n - 1) / 2)≤b
 lt:1≤n→y<x

theorem LTo.start {x y:Nat}(h:y≤x):LTo 0 x y x y 1 0 0 1:=
 ⟨LSteps.start _ _,h,fun _=>⟨rfl,rfl,rfl,rfl⟩,fun h=>by omega,by simp,fun h=>by omega,fun h=>by omega⟩

theorem LTo.parts {n xh yh x y a b c d:Nat}(h:LTo n xh yh x y a b c d)(hy:0<y) :
  c≤d∧a+x / y*c≤b+x / y*d∧1≤a+x / y*c∧d≤b+x / y*d∧c≤a+x / y*c∧1≤d∧b+d≤b+x / y*d∧a≤d:=by
 have hq:1≤x / y:=(Nat.le_div_iff_mul_le hy).2 (by have:=h.yx;omega)
 have p2:c≤x / y*c:=Nat.le_mul_of_pos_left _ hq
 have p3:d≤x / y*d:=Nat.le_mul_of_pos_left _ hq
 rcases Nat.eq_zero_or_pos n with h0|h0
 ·obtain⟨rfl,rfl,rfl,rfl⟩:=h.zero h0
  generalize x / y=q at *
  refine⟨by omega,by omega,by omega,by omega,by omega,by omega,by omega,by omega⟩
 ·obtain⟨k1,k2,k3,k4,k5,k6,k7⟩:=h.pos h0
  have p1:x / y*c≤x / y*d:=Nat.mul_le_mul_left _ k2
  generalize x / y*c=u at *
  generalize x / y*d=v at *
  refine⟨by omega,by omega,by omega,by omega,by omega,by omega,by omega,by omega⟩

theorem LTo.next {n xh yh x y a b c d:Nat}(h:LTo n xh yh x y a b c d)(hy:0<y)(h2:a+x / y*c+(b+x / y*d)≤18446744073709551616) :
  LTo (n+1) xh yh y (x % y) c d (a+x / y*c) (b+x / y*d):=by
 obtain⟨p1,p2,p3,p4,p5,p6,p7,_⟩:=h.parts hy
 have hm:=Nat.mod_lt x hy
 refine⟨by rw [ja];exact h.steps.next hy,by omega,fun h=>by omega,fun _=>⟨p1,p2,p3,p4,p5,p6,h2⟩,?_,fun _=>?_,fun _=>hm⟩
 ·rcases Nat.eq_zero_or_pos n with h0|h0
  ·subst h0
   simp
   omega
  ·have g:=h.grow
   have g1:=h.grow1 h0
   rcases Nat.mod_two_eq_zero_or_one n with hm|hm
   ·have e:(n+1) / 2=n / 2:=by omega
    rw [e];omega
   ·have e:(n+1) / 2=n / 2+1:=by omega
    have e1:(n - 1) / 2=n / 2:=by omega
    rw [e1] at g1
    rw [e,Nat.pow_succ];omega
 ·rw [show n+1 - 1=n by omega];exact h.grow

theorem LTo.few {n xh yh x y a b c d:Nat}(h:LTo n xh yh x y a b c d)(hx:0<x)(hl:xh<18446744073709551616):n<128:=by
 have h1:=h.steps.d_le hx
 have h2:=h.grow
 rcases Nat.lt_or_ge n 128 with h3|h3
 ·exact h3
 ·exfalso
  have h4:2 ^ 64≤2 ^ (n / 2):=Nat.pow_le_pow_right (by omega) (by omega)
  have h5:(2:Nat) ^ 64=18446744073709551616:=rfl
  omega

theorem LTo.small {n xh yh x y a b c d:Nat}(h:LTo n xh yh x y a b c d)(hx:0<x)(hl:xh<18446744073709551616):a<18446744073709551616∧b<18446744073709551616∧c<18446744073709551616∧d<18446744073709551616:=by
 have h1:=h.steps.d_le hx
 rcases Nat.eq_zero_or_pos n with h0|h0
 ·obtain⟨rfl,rfl,rfl,rfl⟩:=h.zero h0
  omega
 ·obtain⟨k1,k2,k3,k4,k5,k6,k7⟩:=h.pos h0
  omega

theorem LTo.many {n xh yh x y a b c d:Nat}(h:LTo n xh yh x y a b c d)(hn:1≤n):Many a b c d (aZ n) xh yh x y∧y<yh:=by
 obtain⟨k1,k2,k3,k4,k5,k6,k7⟩:=h.pos hn
 have hl:=h.lt hn
 have ex:=h.steps.hx
 have ey:=h.steps.hy
 have hxy:x≤yh:=by
  rw [ey]
  have:=Nat.le_mul_of_pos_left x k3
  omega
 have e1:(x:Int)=fsg (aZ n)*((a:Int)*xh - (b:Int)*yh)∧(y:Int)=fsg (aZ n)*((d:Int)*yh - (c:Int)*xh):=by
  rw [ex,ey,Int.natCast_add,Int.natCast_mul,Int.natCast_mul,Int.natCast_add,Int.natCast_mul,Int.natCast_mul]
  cases ho:aZ n with
  | false=>
   have hd:((a*d:Nat):Int)=((b*c+1:Nat):Int):=by rw [h.steps.even ho]
   rw [Int.natCast_mul,Int.natCast_add,Int.natCast_mul] at hd
   simp only [fsg,Bool.false_eq_true,if_false]
   constructor <;> grind
  | true=>
   have hd:((b*c:Nat):Int)=((a*d+1:Nat):Int):=by rw [h.steps.odd ho]
   rw [Int.natCast_mul,Int.natCast_add,Int.natCast_mul] at hd
   simp only [fsg,if_true]
   constructor <;> grind
 refine⟨⟨ex,ey,e1.1,e1.2,?_,⟨k5,k4⟩,by omega⟩,by omega⟩
 refine Nat.dvd_antisymm (Nat.dvd_gcd ?_ ?_) (Nat.dvd_gcd ?_ ?_)
 ·rw [ex]
  exact Nat.dvd_add (Nat.dvd_trans (Nat.gcd_dvd_left x y) (Nat.dvd_mul_left _ _)) (Nat.dvd_trans (Nat.gcd_dvd_right x y) (Nat.dvd_mul_left _ _))
 ·rw [ey]
  exact Nat.dvd_add (Nat.dvd_trans (Nat.gcd_dvd_left x y) (Nat.dvd_mul_left _ _)) (Nat.dvd_trans (Nat.gcd_dvd_right x y) (Nat.dvd_mul_left _ _))
 ·have g1:((Nat.gcd xh yh:Nat):Int) ∣ (xh:Int):=Int.natCast_dvd_natCast.2 (Nat.gcd_dvd_left xh yh)
  have g2:((Nat.gcd xh yh:Nat):Int) ∣ (yh:Int):=Int.natCast_dvd_natCast.2 (Nat.gcd_dvd_right xh yh)
  refine Int.natCast_dvd_natCast.1 ?_
  rw [e1.1]
  exact Int.dvd_trans (Int.dvd_sub (Int.dvd_trans g1 (Int.dvd_mul_left _ _)) (Int.dvd_trans g2 (Int.dvd_mul_left _ _))) (Int.dvd_mul_left _ _)
 ·have g1:((Nat.gcd xh yh:Nat):Int) ∣ (xh:Int):=Int.natCast_dvd_natCast.2 (Nat.gcd_dvd_left xh yh)
  have g2:((Nat.gcd xh yh:Nat):Int) ∣ (yh:Int):=Int.natCast_dvd_natCast.2 (Nat.gcd_dvd_right xh yh)
  refine Int.natCast_dvd_natCast.1 ?_
  rw [e1.2]
  exact Int.dvd_trans (Int.dvd_sub (Int.dvd_trans g2 (Int.dvd_mul_left _ _)) (Int.dvd_trans g1 (Int.dvd_mul_left _ _))) (Int.dvd_mul_left _ _)

theorem LTo.first {xh yh x y a b c d:Nat}(h:LTo 0 xh yh x y a b c d)(hx:x<18446744073709551616):a+x / y*c+(b+x / y*d)≤18446744073709551616:=by
 obtain⟨rfl,rfl,rfl,rfl⟩:=h.zero rfl
 have:=Nat.div_le_self x y
 generalize x / y=q at *
 omega

def mO (xh yh R:Nat)(w:World)(e:Ending)(w':World):Prop:=
 (∃a b c d n x y:Nat,e=.returned (.tuple #[stw a b c d (some ⟨R,0,none⟩) n 128,.int .u64 (x:Int),.int .u64 (y:Int)])∧LTo n xh yh x y a b c d∧0<x∧n<128∧(0<yh→1≤n))∧aO w' R∧Fr R w w'

theorem nJ (xh yh R:Nat)(w:World)(hx:xh<18446744073709551616)(hyx:yh≤xh)(hx0:0<xh)(hR:aO w R) :
  Calls Tryz.prog 123 #[.int .u64 xh,.int .u64 yh,.slice (some ⟨R,0,none⟩) 0 128] w (mO xh yh R w):=by
 obtain⟨w0,hw0,hb0,h0⟩:=aL w (.cells #[.int .u64 0,.int .u64 0,.int .u64 0,.int .u64 0,.slice none 0 0] 139)
 have NS:=jj R w0
 have HB0:=ac hb0
 have H0:=ac h0
 have HR:=ac hR
 have HX:=ac (And.intro hx hx0)
 have HYX:=ac hyx
 have hs0:w0.heap.size=w.heap.size+1:=by rw [←hw0];exact World.size_alloc _ _
 have HS0:=ac hs0
 have hRw:=hR.lt
 clear hb0 h0 hR hs0
 go_enter Tryz.func123,Tryz.ntmps123
 go_wp2_with fail
 refine NS.mono ?_
 rintro e w1 ⟨rfl,hb1⟩
 obtain⟨w2,hw2,hb2,h2⟩:=aL w1 (.cells #[.int .u64 1,.int .u64 0,.int .u64 0,.int .u64 1,.slice (some ⟨R,0,none⟩) 0 128] 139)
 have HS1:=ac hb1.size
 have HRM:=ac (((HR.out.fr HB0.out).fr hb1).fr hb2)
 have HFR:=ac (Fr.of_below (bz:=R) ((aA HB0.out hb1).trans (hb2.mono (aA HB0.out hb1).size)))
 have H02:=ac (ae hb2 (ae hb1 H0.out))
 have H12:=ac h2
 have HTOP0:=ac (LTo.start HYX.out)
 obtain⟨G1,hG1⟩:∃G1,w1.heap.size=G1:=⟨_,rfl⟩
 rw [hG1] at H12
 have hG:w.heap.size+1≤G1:=by have:=HS1.out;have:=HS0.out;omega
 have HG:=ac hG
 clear hb1 hb2 h2 NS
 go_wp2
 clear hG1 HS1
 go_loopw [0,1] (fun X Y wr=>∃(x y a b c d n:Nat),X=.int .u64 x∧Y=.int .u64 y∧x<18446744073709551616∧y<18446744073709551616∧0<x∧(n=0→x=xh∧y=yh)∧LTo n xh yh x y a b c d∧wr.heap[w.heap.size]?=some (.cells #[.int .u64 0,.int .u64 0,.int .u64 0,.int .u64 0,.slice none 0 0] 139)∧wr.heap[G1]?=some (.cells #[.int .u64 (a:Int),.int .u64 (b:Int),.int .u64 (c:Int),.int .u64 (d:Int),.slice (some ⟨R,0,none⟩) n 128] 139)∧aO wr R∧Fr R w wr) (fun _ Y _=>(intOf Y).toNat)
 case atStart=>exact⟨xh,yh,1,0,0,1,0,rfl,rfl,HX.out.1,by have:=HX.out.1;have:=HYX.out;omega,HX.out.2,fun _=>⟨rfl,rfl⟩,HTOP0.out,H02.out,H12.out,HRM.out,HFR.out⟩
 case round=>
  obtain⟨x,y,a,b,c,d,n,rfl,rfl,hxl,hyl,hxp,hn0,htop,r0,r1,hrm,hfr⟩:=hrel
  have HTOP:=ac htop
  have R0:=ac r0
  have R1:=ac r1
  have RM:=ac hrm
  have FR:=ac hfr
  have hn:=htop.few hxp HX.out.1
  have HLN:=ac hn
  have HXP:=ac hxp
  have HZ0:=ac hn0
  clear hn0
  have HRB:=ac (show R≠w.heap.size by omega)
  obtain⟨sa,sb,sc,sd⟩:=htop.small hxp HX.out.1
  obtain⟨hr0,hr1,hr2,hr3,hr4⟩:=aM r1
  obtain⟨hq0,hq1,hq2,hq3,hq4⟩:=aM r0
  have hqf:=cA r0
  have hrf:=cA r1
  clear H02 H12 HRM HFR HTOP0
  by_cases hy0:y=0
  ·subst hy0
   clear htop r0 r1 hrm hfr
   have HN0:Hid (0<yh→1≤n):=ac (fun h=>Nat.pos_of_ne_zero (fun h0=>by have:=(HZ0.out h0).2;omega))
   go_wp2
   have HE:=ac (And.intro HTOP.out (And.intro HXP.out (And.intro HLN.out HN0.out)))
   have R5:=cI R0.out (a':=.int .u64 a) (b':=.int .u64 b) (c':=.int .u64 c) (d':=.int .u64 d) (f':=.slice (some ⟨R,0,none⟩) n 128)
   have W5:=ac (And.intro ((((((RM.out.set HRB.out).set HRB.out).set HRB.out).set HRB.out).set HRB.out:aO (((((wr.setCell ⟨w.heap.size,0,none⟩ (.int .u64 a)).setCell ⟨w.heap.size,1,none⟩ (.int .u64 b)).setCell ⟨w.heap.size,2,none⟩ (.int .u64 c)).setCell ⟨w.heap.size,3,none⟩ (.int .u64 d)).setCell ⟨w.heap.size,4,none⟩ (.slice (some ⟨R,0,none⟩) n 128)) R)) (cL (g:=w.heap.size) (u0:=.int .u64 a) (u1:=.int .u64 b) (u2:=.int .u64 c) (u3:=.int .u64 d) (u4:=.slice (some ⟨R,0,none⟩) n 128) FR.out (Nat.le_refl _)))
   generalize ((((wr.setCell ⟨w.heap.size,0,none⟩ (.int .u64 a)).setCell ⟨w.heap.size,1,none⟩ (.int .u64 b)).setCell ⟨w.heap.size,2,none⟩ (.int .u64 c)).setCell ⟨w.heap.size,3,none⟩ (.int .u64 d)).setCell ⟨w.heap.size,4,none⟩ (.slice (some ⟨R,0,none⟩) n 128)=w5 at *
   obtain⟨hk0,hk1,hk2,hk3,hk4⟩:=aM R5
   refine bodyPost_ret (v:=.tuple #[stw a b c d (some ⟨R,0,none⟩) n 128,.int .u64 (x:Int),.int .u64 ((0:Nat):Int)]) (by simp [stw,results,Tryz.results123,go_sem,hk0,hk1,hk2,hk3,hk4]) rfl ?_
   exact⟨⟨a,b,c,d,n,x,(0:Nat),rfl,HE.out⟩,W5.out.1,W5.out.2⟩
  ·have hy:0<y:=by omega
   have hypos:(0:Int)<(y:Int):=by omega
   have hz:((y:Int) == 0)=false:=by rw [beq_eq_false_iff_ne];omega
   have n1:=htop.steps.next hy
   obtain⟨n2,n3,n4,n5,n6,n7,n8,n9⟩:=htop.parts hy
   have hdiv:(x:Int) / (y:Int)=((x / y:Nat):Int):=by omega
   have hmod:(x:Int) % (y:Int)=((x % y:Nat):Int):=by omega
   have hml:x % y<y:=Nat.mod_lt _ hy
   have hdl:=n1.d_le hy
   have hql:x / y≤x:=Nat.div_le_self _ _
   have HNX:=fun W hR=>i6 a b c d (x / y) R n W (by have:=HX.out.1;omega) (by have:=HX.out.1;omega) hR hn
   have HNE:=ac (fun h2=>htop.next hy h2)
   have HFI:=ac (fun h0:n=0=>LTo.first (h0 ▸ htop) hxl)
   generalize x / y=q at *
   generalize x % y=r at *
   generalize a+q*c=c' at *
   generalize b+q*d=d' at *
   unfold stw at HNX
   have hlt0:w.heap.size<wr.heap.size:=bh R0.out
   have hlt1:G1<wr.heap.size:=bh R1.out
   have hRlt:=RM.out.lt
   have hRG:R≠G1:=by have:=HG.out;omega
   have HRG:=ac hRG
   have hne1:¬(G1=wr.heap.size):=by omega
   have hne2:¬(wr.heap.size=G1):=by omega
   obtain⟨ha0,ha1,ha2,ha3,ha4⟩:=aM (jy (o:=.cells #[.int .u64 0,.int .u64 0,.int .u64 0,.int .u64 0,.slice none 0 0] 139) R1.out)
   have wq:IntKind.u64.wrap (q:Int)=(q:Int):=by rw [IntKind.wrap_u64];omega
   have wr':IntKind.u64.wrap (r:Int)=(r:Int):=by rw [IntKind.wrap_u64];omega
   have RW1:=ac (RM.out.fr (d5 (Below.refl _ _)))
   have RW2:=ac (RM.out.fr (d5 (iP (Below.refl _ _) (.cells #[.int .u64 0,.int .u64 0,.int .u64 0,.int .u64 0,.slice none 0 0] 139))))
   have HN1:=ac n1
   clear htop r0 r1 hrm hfr n1 hy0 hRG hn
   go_upto_region 3 with fail
   go_cut [10] from 15 to 20 (fun s wx=>∃g:Nat,s=.pointer (some ⟨g,0,none⟩)∧g≠w.heap.size∧g≠G1∧g≠R∧wx.heap[g]?=some (.cells #[.int .u64 (c:Int),.int .u64 (d:Int),.int .u64 (c':Int),.int .u64 (d':Int),.slice (some ⟨R,0,none⟩) (n+1) 128] 139)∧aO wx R∧Fr R wr wx)
   case first=>
    go_region_with (first | (go_at_call 162;refine (HNX _ (by first|exact RW1.out|exact RW2.out)).mono ?_;rintro e w3 ⟨rfl,hR3,hF3⟩;first | (have hz3:=(hF3.block wr.heap.size (by simp [World.size_alloc]) (by omega)).trans (show (wr.alloc (.cells #[.int .u64 0,.int .u64 0,.int .u64 0,.int .u64 0,.slice none 0 0] 139)).drew.heap[wr.heap.size]?=_ from heap_alloc_new ..);obtain⟨hl0,hl1,hl2,hl3,hl4⟩:=aM hz3;have hlf:=cA hz3) | skip))
    all_goals (go_wp2_with fail;go_meet;first|exact kA (Below.refl _ _).drew hF3 hR3 hRlt hlt0 hlt1 _|exact kB ((Below.refl _ _).alloc (Nat.le_refl _) _).drew hF3 hR3 hRlt hlt0 hlt1 hz3)
   case rest=>
    obtain⟨g,rfl,hg1,hg2,hg3,hgc,hrm,hbx⟩:=hcut
    have S0:=ac ((hbx.block w.heap.size hlt0 (by omega)).trans R0.out)
    have S1:=ac ((hbx.block G1 hlt1 (fun e=>HRG.out e.symm)).trans R1.out)
    have SR:=ac hrm
    have SF:=ac (FR.out.trans hbx)
    obtain⟨k0,k1,k2,k3,k4⟩:=aM hgc
    obtain⟨m0,m1,m2,m3,m4⟩:=aM S1.out
    have mf:=cA S1.out
    obtain⟨z0,z1,z2,z3,z4⟩:=aM S0.out
    have zf:=cA S0.out
    clear hbx hgc hrm hr0 hr1 hr2 hr3 hr4 hq0 hq1 hq2 hq3 hq4 hqf hrf R0 R1 RM FR ha0 ha1 ha2 ha3 ha4 HNX RW1 RW2
    have MB:=qB c' d' wc (by have:=HX.out.1;omega) (by have:=HX.out.1;omega) (by omega)
    by_cases t1:c'+d'≤18446744073709551616
    ·rw [decide_eq_true t1] at MB
     have HNT:=ac (HNE.out t1)
     have HRP:=ac hy
     clear HNE HN1 HFI
     go_wp2_with fail
     refine MB.mono ?_
     rintro e wn ⟨rfl,hw⟩;rw [hw];clear hw wn MB
     go_wp2
     go_quiet (fail)
     go_wp2
     go_roundw
     case rel=>
      obtain⟨wd,hwd⟩:∃wd,wd=((((((wc.setCell ⟨G1,0,none⟩ (.int .u64 (c:Int))).setCell ⟨G1,1,none⟩ (.int .u64 (d:Int))).setCell ⟨G1,2,none⟩ (.int .u64 (c':Int))).setCell ⟨G1,3,none⟩ (.int .u64 (d':Int))).setCell ⟨G1,4,none⟩ (.slice (some ⟨R,0,none⟩) (n+1) 128))):=⟨_,rfl⟩
      have hwG:w.heap.size≤G1:=by have:=HG.out;omega
      have q1:wd.heap[w.heap.size]?=some (.cells #[.int .u64 0,.int .u64 0,.int .u64 0,.int .u64 0,.slice none 0 0] 139):=by rw [hwd];exact aR (aR (aR (aR (aR S0.out (by omega)) (by omega)) (by omega)) (by omega)) (by omega)
      have q2:wd.heap[G1]?=some (.cells #[.int .u64 (c:Int),.int .u64 (d:Int),.int .u64 (c':Int),.int .u64 (d':Int),.slice (some ⟨R,0,none⟩) (n+1) 128] 139):=by rw [hwd];exact cI S1.out
      have q3:aO wd R:=by rw [hwd];exact ((((SR.out.set HRG.out).set HRG.out).set HRG.out).set HRG.out).set HRG.out
      have q4:Fr R w wd:=by rw [hwd];exact cL SF.out hwG
      rw [←hwd]
      have hdr:Below wd.heap.size wd (wd.drewN nq):=((aD.refl _).drewN _).below _
      exact⟨y,r,c,d,c',d',n+1,rfl,by rw [hmod],hyl,by omega,HRP.out,fun h=>by omega,HNT.out,q1,q2,q3.fr hdr,q4.trans (Fr.of_below hdr)⟩
     case measure=>simp [intOf];omega
    ·rw [decide_eq_false t1] at MB
     have HN0:Hid (0<yh→1≤n):=ac (fun _=>Nat.pos_of_ne_zero (fun h0=>t1 (HFI.out h0)))
     clear HNE HN1 HFI
     go_wp2_with fail
     refine MB.mono ?_
     rintro e wn ⟨rfl,hw⟩;rw [hw];clear hw wn MB
     go_wp2
     have R0:=S0
     have RM:=SR
     have FR:=SF
     have HE:=ac (And.intro HTOP.out (And.intro HXP.out (And.intro HLN.out HN0.out)))
     have R5:=cI R0.out (a':=.int .u64 a) (b':=.int .u64 b) (c':=.int .u64 c) (d':=.int .u64 d) (f':=.slice (some ⟨R,0,none⟩) n 128)
     have W5:=ac (And.intro ((((((RM.out.set HRB.out).set HRB.out).set HRB.out).set HRB.out).set HRB.out:aO (((((wc.setCell ⟨w.heap.size,0,none⟩ (.int .u64 a)).setCell ⟨w.heap.size,1,none⟩ (.int .u64 b)).setCell ⟨w.heap.size,2,none⟩ (.int .u64 c)).setCell ⟨w.heap.size,3,none⟩ (.int .u64 d)).setCell ⟨w.heap.size,4,none⟩ (.slice (some ⟨R,0,none⟩) n 128)) R)) (cL (g:=w.heap.size) (u0:=.int .u64 a) (u1:=.int .u64 b) (u2:=.int .u64 c) (u3:=.int .u64 d) (u4:=.slice (some ⟨R,0,none⟩) n 128) FR.out (Nat.le_refl _)))
     generalize ((((wc.setCell ⟨w.heap.size,0,none⟩ (.int .u64 a)).setCell ⟨w.heap.size,1,none⟩ (.int .u64 b)).setCell ⟨w.heap.size,2,none⟩ (.int .u64 c)).setCell ⟨w.heap.size,3,none⟩ (.int .u64 d)).setCell ⟨w.heap.size,4,none⟩ (.slice (some ⟨R,0,none⟩) n 128)=w5 at *
     obtain⟨hk0,hk1,hk2,hk3,hk4⟩:=aM R5
     refine bodyPost_ret (v:=.tuple #[stw a b c d (some ⟨R,0,none⟩) n 128,.int .u64 (x:Int),.int .u64 (y:Int)]) (by simp [stw,results,Tryz.results123,go_sem,hk0,hk1,hk2,hk3,hk4]) rfl ?_
     exact⟨⟨a,b,c,d,n,x,y,rfl,HE.out⟩,W5.out.1,W5.out.2⟩
end Go.Proofs.YtdbjbbdhlpfhjaaGreatDoor

