/- Package div: Lehmer's steps taken in place. -/
import Derived.Test.YtdbjbbdhlpfhjaaGreatDoorB12
set_option maxRecDepth 20000
set_option maxHeartbeats 1000000
namespace Go.Proofs.YtdbjbbdhlpfhjaaGreatDoor
open Go.RowKit
open Lm
attribute [local go_sem ↓] Go.wp_at_zero Go.wp_at_succ

theorem Ans.stored' {w:World}{base g cap:Nat}{zs:List Nat}(h:Ans w base (.slice (some ⟨g,0,none⟩) zs.length cap) zs)(j z:Nat)(hz:z<18446744073709551616):Ans (w.setCell ⟨g,j,none⟩ (.int .u64 (z:Int))) base (.slice (some ⟨g,0,none⟩) (zs.set j z).length cap) (zs.set j z):=by
 refine⟨?_,limbs_set h.limbs _ _ hz⟩
 have:=(h.own.stored j (.int .u64 (z:Int))).1
 rw [List.length_set,List.map_set]
 exact this

theorem Ans.apart {w:World}{base:Nat}{v:Value}{zs:List Nat}(h:Ans w base v zs)(g o:Nat)(u:Value)(hne:v.ownBlock≠some g):Ans (w.setCell ⟨g,o,none⟩ u) base v zs:=
 ⟨ownsRow_setCell_other h.own hne _,h.limbs⟩

theorem iY {A B P:Int}{vo va vb x a b cy cy2 l:Int}(h:vo+P*cy=A*va - B*vb)(hl:l+18446744073709551616*cy2=A*a - B*b+cy)(_:x=0) :
  vo+P*l+P*18446744073709551616*cy2=A*(va+P*a) - B*(vb+P*b):=by
 have h1:P*(l+18446744073709551616*cy2)=P*(A*a - B*b+cy):=by rw [hl]
 grind

theorem dG (a k z:Nat):((a+18446744073709551616 ^ k*z:Nat):Int)=(a:Int)+(18446744073709551616:Int) ^ k*(z:Int):=by
 rw [Int.natCast_add,Int.natCast_mul,Int.natCast_pow];rfl

structure be (w w':World)(base gx cx gy cy:Nat)(X Y X' Y':List Nat)(k:Nat)(p q r s:Int)(over under:Int):Prop where
 lx:X'.length=X.length
 ly:Y'.length=Y.length
 ax:Ans w' base (.slice (some ⟨gx,0,none⟩) X'.length cx) X'
 ay:Ans w' base (.slice (some ⟨gy,0,none⟩) Y'.length cy) Y'
 sx:∀i,k≤i→X'.getD i 0=X.getD i 0
 sy:∀i,k≤i→Y'.getD i 0=Y.getD i 0
 o1:-4294967296≤over
 o2:over≤4294967296
 u1:-4294967296≤under
 u2:under≤4294967296
 vx:(val (X'.take k):Int)+18446744073709551616 ^ k*over=p*val (X.take k) - q*val (Y.take k)
 vy:(val (Y'.take k):Int)+18446744073709551616 ^ k*under=r*val (Y.take k) - s*val (X.take k)
 bel:Below base w w'

def dn (base gx cx gy cy:Nat)(X Y:List Nat)(p q r s:Int)(w:World)(e:Ending)(w':World):Prop:=
 e=.returned (.tuple #[])∧∃X' Y' over under,be w w' base gx cx gy cy X Y X' Y' Y.length p q r s over under

theorem be.next {w w':World}{base gx cx gy cy:Nat}{X Y X' Y':List Nat}{k:Nat}{p q r s over under:Int}(h:be w w' base gx cx gy cy X Y X' Y' k p q r s over under)(hne:gx≠gy)(hk:k<Y.length)(hxy:Y.length≤X.length)(hbx:base≤gx)(hby:base≤gy)
  {l m:Nat} {o' u':Int} (hl:l<18446744073709551616) (hm:m<18446744073709551616) (e1:(l:Int)+18446744073709551616*o'=p*X.getD k 0 - q*Y.getD k 0+over) (e2:(m:Int)+18446744073709551616*u'=r*Y.getD k 0 - s*X.getD k 0+under)
  (b1:-4294967296≤o') (b2:o'≤4294967296) (b3:-4294967296≤u') (b4:u'≤4294967296) :
  be w ((w'.setCell ⟨gx,k,none⟩ (.int .u64 (l:Int))).setCell ⟨gy,k,none⟩ (.int .u64 (m:Int))) base gx cx gy cy X Y (X'.set k l) (Y'.set k m) (k+1) p q r s o' u':=by
 have lx:=h.lx
 have ly:=h.ly
 have n1:∀(z:List Nat) (i v:Nat),k+1≤i→(z.set k v).getD i 0=z.getD i 0:=by
  intro z i v hi
  simp only [List.getD,List.getElem?_set]
  rw [if_neg (by omega)]
 refine⟨by rw [List.length_set,lx],by rw [List.length_set,ly],?_,?_,fun i hi=>by rw [n1 _ _ _ hi];exact h.sx i (by omega),fun i hi=>by rw [n1 _ _ _ hi];exact h.sy i (by omega),b1,b2,b3,b4,?_,?_,(h.bel.setCell (p:=⟨gx,k,none⟩) hbx _).setCell (p:=⟨gy,k,none⟩) hby _⟩
 ·exact (h.ax.stored' k l hl).apart gy k _ (by simp [Value.ownBlock,hne])
 ·exact (h.ay.apart gx k _ (by simp [Value.ownBlock,Ne.symm hne])).stored' k m hm
 ·rw [take_set_succ _ _ _ (by omega),val_take_next X,val_take_next Y,Int.pow_succ]
  rw [dG,dG,dG]
  exact iY (x:=0) h.vx e1 rfl
 ·rw [take_set_succ _ _ _ (by omega),val_take_next X,val_take_next Y,Int.pow_succ]
  rw [dG,dG,dG]
  exact iY (x:=0) h.vy e2 rfl

theorem Ans.cellAt {w:World}{base g cap:Nat}{zs:List Nat}(h:Ans w base (.slice (some ⟨g,0,none⟩) zs.length cap) zs):(zs.length≤cap∧cap≤9223372036854775807)∧(∀k,w.frozen? ⟨g,k,none⟩=false)∧∀k,k<zs.length→w.cell? ⟨g,k,none⟩=some (.int .u64 ((zs.getD k 0:Nat):Int)):=by
 rcases h.form with ⟨e,_⟩|⟨g',cap',e,_,_,h1,h2,h3,h4⟩
 ·cases e
 ·cases e
  exact⟨⟨h1,h2⟩,h3,h4⟩

theorem aT {w:World}{g k g' k':Nat}{u:Value}(h:g≠g'):(w.setCell ⟨g,k,none⟩ u).cell? ⟨g',k',none⟩=w.cell? ⟨g',k',none⟩:=by
 simp only [World.cell?]
 rw [Below.heap_setCell _ _ _ _ (by exact Ne.symm h)]

def sgL:Bool→Nat→Int
 | false,a=>(a:Int)
 | true,a=>-(a:Int)

theorem jz (base gx cx gy cy a b c d:Nat)(X Y:List Nat)(w:World)(hX:Ans w base (.slice (some ⟨gx,0,none⟩) X.length cx) X)(hY:Ans w base (.slice (some ⟨gy,0,none⟩) Y.length cy) Y)(hne:gx≠gy)(hxy:Y.length≤X.length)(hbx:base≤gx)(hby:base≤gy)(hbw:base≤w.heap.size)
  (ha:a<4294967296) (hb:b<4294967296) (hc:c<4294967296) (hd:d<4294967296) :
  Calls Tryz.prog 112 #[stv a b c d false,.slice (some ⟨gx,0,none⟩) X.length cx,.slice (some ⟨gy,0,none⟩) Y.length cy] w (dn base gx cx gy cy X Y (sgL false a) (sgL false b) (sgL false d) (sgL false c) w):=by
 unfold stv
 obtain⟨w0,hw0⟩:∃w0,w0=w.alloc (.cells #[.int .u64 a,.int .u64 b,.int .u64 c,.int .u64 d,.bool false] 129):=⟨_,rfl⟩
 have hb0:Below w.heap.size w w0:=by rw [hw0];exact (Below.refl _ _).alloc (Nat.le_refl _) _
 have h0:w0.heap[w.heap.size]?=some (.cells #[.int .u64 a,.int .u64 b,.int .u64 c,.int .u64 d,.bool false] 129):=by rw [hw0];exact heap_alloc_new ..
 have T0:be w w0 base gx cx gy cy X Y X Y 0 (sgL false a) (sgL false b) (sgL false d) (sgL false c) 0 0:=⟨rfl,rfl,hX.below hb0,hY.below hb0,fun _ _=>rfl,fun _ _=>rfl,by omega,by omega,by omega,by omega,by simp [val],by simp [val],hb0.mono hbw⟩
 have hgx:gx≠w.heap.size:=fun e=>by
  have:=(hX.own.lt gx rfl).2;omega
 have hgy:gy≠w.heap.size:=fun e=>by
  have:=(hY.own.lt gy rfl).2;omega
 have HT0:=aa T0
 have H0:=aa h0
 have HW0:=aa hw0
 clear hX hY hb0 h0 hw0 T0
 go_enter Tryz.func112,Tryz.ntmps112
 go_wp2
 rw [←HW0.out]
 go_loopw [6,7,13] (fun ov un i wr=>∃(k:Nat) (X' Y':List Nat) (over under:Int),k≤Y.length∧ov=.int .i64 over∧un=.int .i64 under∧i=.int .i64 (k:Int)∧be w wr base gx cx gy cy X Y X' Y' k (sgL false a) (sgL false b) (sgL false d) (sgL false c) over under∧wr.heap[w.heap.size]?=some (.cells #[.int .u64 a,.int .u64 b,.int .u64 c,.int .u64 d,.bool false] 129)) (fun _ _ i _=>Y.length - (intOf i).toNat)
 case atStart=>exact⟨0,X,Y,0,0,Nat.zero_le _,rfl,rfl,rfl,HT0.out,H0.out⟩
 case round=>
  obtain⟨k,X',Y',over,under,hk,rfl,rfl,rfl,htk,hbk⟩:=hrel
  have HTK:=aa htk
  have HBK:=aa hbk
  have hlx:=htk.lx
  have hly:=htk.ly
  have ax:=htk.ax
  have ay:=htk.ay
  rw [hlx] at ax
  rw [hly] at ay
  clear HT0 H0 HW0
  by_cases hkl:k<Y.length
  ·have i1:(k:Int)<(Y.length:Int):=by omega
   have i2:(k:Int)<(X.length:Int):=by omega
   have i0:(0:Int)≤(k:Int):=by omega
   have hkb:k<9223372036854775807:=by
    have:=(htk.ay.cellAt).1
    omega
   have wk:IntKind.i64.wrap (k:Int)=(k:Int):=by
    rw [IntKind.wrap_i64];omega
   have fx:=htk.ax.cellAt.2.1
   have fy:=htk.ay.cellAt.2.1
   have cxk:=htk.ax.cellAt.2.2 k (by omega)
   have cyk:=htk.ay.cellAt.2.2 k (by omega)
   rw [htk.sx k (Nat.le_refl _)] at cxk
   rw [htk.sy k (Nat.le_refl _)] at cyk
   have lv:X.getD k 0<18446744073709551616:=by have:=limb_lt htk.ax.limbs k;rw [htk.sx k (Nat.le_refl _)] at this;exact this
   have lw:Y.getD k 0<18446744073709551616:=by have:=limb_lt htk.ay.limbs k;rw [htk.sy k (Nat.le_refl _)] at this;exact this
   obtain⟨s0,s1,s2,s3,s4⟩:=aw hbk
   obtain⟨xk,hxk⟩:∃xk,X.getD k 0=xk:=⟨_,rfl⟩
   obtain⟨yk,hyk⟩:∃yk,Y.getD k 0=yk:=⟨_,rfl⟩
   rw [hxk] at cxk lv
   rw [hyk] at cyk lw
   have L1:=fun W=>eF a xk b yk over W (by omega) (by omega) (by omega) (by omega) htk.o1 htk.o2
   have L2:=fun W=>eF d yk c xk under W (by omega) (by omega) (by omega) (by omega) htk.u1 htk.u2
   have HNX:=aa (fun l m o' u'=>htk.next (l:=l) (m:=m) (o':=o') (u':=u') hne hkl hxy hbx hby)
   rw [hxk,hyk] at HNX
   clear hxk hyk htk hbk ax ay
   go_wp2_with fail
   refine (L1 _).mono ?_
   rintro e w2 ⟨l,t,rfl,hl,he1,ht1,ht2,hw⟩
   rw [hw];clear hw w2 L1
   have cyk2:(wr.setCell ⟨gx,k,none⟩ (.int .u64 (l:Int))).cell? ⟨gy,k,none⟩=some (.int .u64 (yk:Int)):=by rw [aT hne];exact cyk
   have q0:∀i v,wr.cell? ⟨w.heap.size,i,none⟩=some v→(wr.setCell ⟨gx,k,none⟩ (.int .u64 (l:Int))).cell? ⟨w.heap.size,i,none⟩=some v:=fun i v h=>by rw [aT hgx];exact h
   have r0:=q0 _ _ s0
   have r1:=q0 _ _ s1
   have r2:=q0 _ _ s2
   have r3:=q0 _ _ s3
   have r4:=q0 _ _ s4
   have HL1:=aa (And.intro hl (And.intro he1 (And.intro ht1 ht2)))
   clear q0 he1 ht1 ht2
   go_wp2_with fail
   refine (L2 _).mono ?_
   rintro e w2 ⟨m,u,rfl,hm,he2,hu1,hu2,hw⟩
   rw [hw];clear hw w2 L2
   have HL2:=aa (And.intro hm (And.intro he2 (And.intro hu1 hu2)))
   have fy2:(wr.setCell ⟨gx,k,none⟩ (.int .u64 (l:Int))).frozen? ⟨gy,k,none⟩=false:=by
    simp only [World.frozen?]
    rw [Below.heap_setCell _ _ _ _ (Ne.symm hne)]
    exact fy k
   clear he2 hu1 hu2
   go_wp2
   go_roundw
   case rel=>
    obtain⟨a1,a2,a3,a4⟩:=HL1.out
    obtain⟨b1,b2,b3,b4⟩:=HL2.out
    refine⟨k+1,_,_,t,u,hkl,rfl,rfl,by go_num,HNX.out l m t u a1 b1 ?_ ?_ a3 a4 b3 b4,?_⟩
    ·rw [a2,Int.natCast_mul,Int.natCast_mul] <;> simp only [sgL] <;> grind
    ·rw [b2,Int.natCast_mul,Int.natCast_mul] <;> simp only [sgL] <;> grind
    ·rw [Below.heap_setCell _ _ _ _ (Ne.symm hgy),Below.heap_setCell _ _ _ _ (Ne.symm hgx)];exact HBK.out
   case measure=>simp [intOf];omega
  ·have i1:¬((k:Int)<(Y.length:Int)):=by omega
   have ek:k=Y.length:=by omega
   have HE:Hid (be w wr base gx cx gy cy X Y X' Y' Y.length (sgL false a) (sgL false b) (sgL false d) (sgL false c) over under):=by rw [←ek];exact HTK
   clear htk hbk ax ay ek
   go_wp2
   go_end0
   exact⟨rfl,X',Y',over,under,HE.out⟩

theorem iQ (base gx cx gy cy a b c d:Nat)(X Y:List Nat)(w:World)(hX:Ans w base (.slice (some ⟨gx,0,none⟩) X.length cx) X)(hY:Ans w base (.slice (some ⟨gy,0,none⟩) Y.length cy) Y)(hne:gx≠gy)(hxy:Y.length≤X.length)(hbx:base≤gx)(hby:base≤gy)(hbw:base≤w.heap.size)
  (ha:a<4294967296) (hb:b<4294967296) (hc:c<4294967296) (hd:d<4294967296) :
  Calls Tryz.prog 112 #[stv a b c d true,.slice (some ⟨gx,0,none⟩) X.length cx,.slice (some ⟨gy,0,none⟩) Y.length cy] w (dn base gx cx gy cy X Y (sgL true a) (sgL true b) (sgL true d) (sgL true c) w):=by
 unfold stv
 obtain⟨w0,hw0⟩:∃w0,w0=w.alloc (.cells #[.int .u64 a,.int .u64 b,.int .u64 c,.int .u64 d,.bool true] 129):=⟨_,rfl⟩
 have hb0:Below w.heap.size w w0:=by rw [hw0];exact (Below.refl _ _).alloc (Nat.le_refl _) _
 have h0:w0.heap[w.heap.size]?=some (.cells #[.int .u64 a,.int .u64 b,.int .u64 c,.int .u64 d,.bool true] 129):=by rw [hw0];exact heap_alloc_new ..
 have T0:be w w0 base gx cx gy cy X Y X Y 0 (sgL true a) (sgL true b) (sgL true d) (sgL true c) 0 0:=⟨rfl,rfl,hX.below hb0,hY.below hb0,fun _ _=>rfl,fun _ _=>rfl,by omega,by omega,by omega,by omega,by simp [val],by simp [val],hb0.mono hbw⟩
 have hgx:gx≠w.heap.size:=fun e=>by
  have:=(hX.own.lt gx rfl).2;omega
 have hgy:gy≠w.heap.size:=fun e=>by
  have:=(hY.own.lt gy rfl).2;omega
 have HT0:=aa T0
 have H0:=aa h0
 have HW0:=aa hw0
 clear hX hY hb0 h0 hw0 T0
 go_enter Tryz.func112,Tryz.ntmps112
 go_wp2
 rw [←HW0.out]
 go_loopw [6,7,13] (fun ov un i wr=>∃(k:Nat) (X' Y':List Nat) (over under:Int),k≤Y.length∧ov=.int .i64 over∧un=.int .i64 under∧i=.int .i64 (k:Int)∧be w wr base gx cx gy cy X Y X' Y' k (sgL true a) (sgL true b) (sgL true d) (sgL true c) over under∧wr.heap[w.heap.size]?=some (.cells #[.int .u64 a,.int .u64 b,.int .u64 c,.int .u64 d,.bool true] 129)) (fun _ _ i _=>Y.length - (intOf i).toNat)
 case atStart=>exact⟨0,X,Y,0,0,Nat.zero_le _,rfl,rfl,rfl,HT0.out,H0.out⟩
 case round=>
  obtain⟨k,X',Y',over,under,hk,rfl,rfl,rfl,htk,hbk⟩:=hrel
  have HTK:=aa htk
  have HBK:=aa hbk
  have hlx:=htk.lx
  have hly:=htk.ly
  have ax:=htk.ax
  have ay:=htk.ay
  rw [hlx] at ax
  rw [hly] at ay
  clear HT0 H0 HW0
  by_cases hkl:k<Y.length
  ·have i1:(k:Int)<(Y.length:Int):=by omega
   have i2:(k:Int)<(X.length:Int):=by omega
   have i0:(0:Int)≤(k:Int):=by omega
   have hkb:k<9223372036854775807:=by
    have:=(htk.ay.cellAt).1
    omega
   have wk:IntKind.i64.wrap (k:Int)=(k:Int):=by
    rw [IntKind.wrap_i64];omega
   have fx:=htk.ax.cellAt.2.1
   have fy:=htk.ay.cellAt.2.1
   have cxk:=htk.ax.cellAt.2.2 k (by omega)
   have cyk:=htk.ay.cellAt.2.2 k (by omega)
   rw [htk.sx k (Nat.le_refl _)] at cxk
   rw [htk.sy k (Nat.le_refl _)] at cyk
   have lv:X.getD k 0<18446744073709551616:=by have:=limb_lt htk.ax.limbs k;rw [htk.sx k (Nat.le_refl _)] at this;exact this
   have lw:Y.getD k 0<18446744073709551616:=by have:=limb_lt htk.ay.limbs k;rw [htk.sy k (Nat.le_refl _)] at this;exact this
   obtain⟨s0,s1,s2,s3,s4⟩:=aw hbk
   obtain⟨xk,hxk⟩:∃xk,X.getD k 0=xk:=⟨_,rfl⟩
   obtain⟨yk,hyk⟩:∃yk,Y.getD k 0=yk:=⟨_,rfl⟩
   rw [hxk] at cxk lv
   rw [hyk] at cyk lw
   have L1:=fun W=>eF b yk a xk over W (by omega) (by omega) (by omega) (by omega) htk.o1 htk.o2
   have L2:=fun W=>eF c xk d yk under W (by omega) (by omega) (by omega) (by omega) htk.u1 htk.u2
   have HNX:=aa (fun l m o' u'=>htk.next (l:=l) (m:=m) (o':=o') (u':=u') hne hkl hxy hbx hby)
   rw [hxk,hyk] at HNX
   clear hxk hyk htk hbk ax ay
   go_wp2_with fail
   refine (L1 _).mono ?_
   rintro e w2 ⟨l,t,rfl,hl,he1,ht1,ht2,hw⟩
   rw [hw];clear hw w2 L1
   have cyk2:(wr.setCell ⟨gx,k,none⟩ (.int .u64 (l:Int))).cell? ⟨gy,k,none⟩=some (.int .u64 (yk:Int)):=by rw [aT hne];exact cyk
   have q0:∀i v,wr.cell? ⟨w.heap.size,i,none⟩=some v→(wr.setCell ⟨gx,k,none⟩ (.int .u64 (l:Int))).cell? ⟨w.heap.size,i,none⟩=some v:=fun i v h=>by rw [aT hgx];exact h
   have r0:=q0 _ _ s0
   have r1:=q0 _ _ s1
   have r2:=q0 _ _ s2
   have r3:=q0 _ _ s3
   have r4:=q0 _ _ s4
   have HL1:=aa (And.intro hl (And.intro he1 (And.intro ht1 ht2)))
   clear q0 he1 ht1 ht2
   go_wp2_with fail
   refine (L2 _).mono ?_
   rintro e w2 ⟨m,u,rfl,hm,he2,hu1,hu2,hw⟩
   rw [hw];clear hw w2 L2
   have HL2:=aa (And.intro hm (And.intro he2 (And.intro hu1 hu2)))
   have fy2:(wr.setCell ⟨gx,k,none⟩ (.int .u64 (l:Int))).frozen? ⟨gy,k,none⟩=false:=by
    simp only [World.frozen?]
    rw [Below.heap_setCell _ _ _ _ (Ne.symm hne)]
    exact fy k
   clear he2 hu1 hu2
   go_wp2
   go_roundw
   case rel=>
    obtain⟨a1,a2,a3,a4⟩:=HL1.out
    obtain⟨b1,b2,b3,b4⟩:=HL2.out
    refine⟨k+1,_,_,t,u,hkl,rfl,rfl,by go_num,HNX.out l m t u a1 b1 ?_ ?_ a3 a4 b3 b4,?_⟩
    ·rw [a2,Int.natCast_mul,Int.natCast_mul] <;> simp only [sgL] <;> grind
    ·rw [b2,Int.natCast_mul,Int.natCast_mul] <;> simp only [sgL] <;> grind
    ·rw [Below.heap_setCell _ _ _ _ (Ne.symm hgy),Below.heap_setCell _ _ _ _ (Ne.symm hgx)];exact HBK.out
   case measure=>simp [intOf];omega
  ·have i1:¬((k:Int)<(Y.length:Int)):=by omega
   have ek:k=Y.length:=by omega
   have HE:Hid (be w wr base gx cx gy cy X Y X' Y' Y.length (sgL true a) (sgL true b) (sgL true d) (sgL true c) over under):=by rw [←ek];exact HTK
   clear htk hbk ax ay ek
   go_wp2
   go_end0
   exact⟨rfl,X',Y',over,under,HE.out⟩

end Go.Proofs.YtdbjbbdhlpfhjaaGreatDoor
