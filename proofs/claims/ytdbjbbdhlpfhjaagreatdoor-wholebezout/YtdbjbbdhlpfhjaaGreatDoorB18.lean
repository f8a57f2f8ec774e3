/- Package div: euclid, walked. -/
import Derived.Test.YtdbjbbdhlpfhjaaGreatDoorB17
import Derived.Deep.RegionWith
namespace Go.Proofs.YtdbjbbdhlpfhjaaGreatDoor
open Go.RowKit
open Lm
attribute [local go_sem ↓] Go.wp_at_zero Go.wp_at_succ

def rdN (w:World):Value→Nat
 | .slice (some a) n _=>val ((List.range n).map fun k=>match w.cell? ⟨a.block,a.off+k,none⟩ with
  | some v=>(intOf v).toNat
  | none=>0)
 | _=>0

theorem b8 {w:World}{v:Value}{zs:List Nat}(h:Arg w v zs):rdN w v=val zs:=by
 obtain⟨ao,cap,rfl,_,_,hl⟩:=h.form
 rcases hl with rfl|⟨b,off,rfl,hc⟩
 ·cases ao with
  | none=>rfl
  | some a=>rfl
 ·show val _=val zs
  congr 1
  apply List.ext_getElem
  ·simp
  ·intro i h1 h2
   simp only [List.getElem_map,List.getElem_range]
   rw [hc i h2]
   simp [intOf,List.getD,h2]

theorem Ans.few {w:World}{base:Nat}{v:Value}{zs:List Nat}(_:Ans w base v zs)(n:Nat)(hv:val zs<18446744073709551616 ^ n)(ht:tr zs=zs):zs.length≤n:=by
 have:=aH zs n hv
 rwa [ht] at this

structure bZ (w wr:World)(base G K:Nat)(vx vy:Value)(X Y:List Nat):Prop where
 ax:Ans wr base vx X
 ay:Ans wr base vy Y
 tx:tr X=X
 ty:tr Y=Y
 le:val Y≤val X
 pos:0<val X
 gcd:Nat.gcd (val X) (val Y)=G
 apart:∀g,vx.ownBlock=some g→vy.ownBlock≠some g
 lx:X.length≤K
 bel:Below base w wr
 tab:Tab wr
 bw:base≤wr.heap.size

theorem bZ.ylen {w wr:World}{base G K:Nat}{vx vy:Value}{X Y:List Nat}(h:bZ w wr base G K vx vy X Y):Y.length≤X.length:=
 h.ay.few _ (Nat.lt_of_le_of_lt h.le (val_lt h.ax.limbs)) h.ty

theorem bZ.up {w wr w':World}{base G K:Nat}{vx vy:Value}{X Y:List Nat}(h:bZ w wr base G K vx vy X Y)(hb:Below wr.heap.size wr w'):bZ w w' base G K vx vy X Y:=
 ⟨h.ax.below hb,h.ay.below hb,h.tx,h.ty,h.le,h.pos,h.gcd,h.apart,h.lx,h.bel.trans (hb.mono h.bw),h.tab.below hb,Nat.le_trans h.bw hb.size⟩

theorem Tab.base {w w':World}{base:Nat}(h:Tab w)(hb:Below base w w')(ht:0<base):Tab w':=by
 refine⟨Nat.lt_of_lt_of_le h.1 hb.size,fun i hi=>?_⟩
 rw [hb.cell (p:=⟨0,i,none⟩) ht]
 exact h.2 i hi

def d9 (w:World)(base G:Nat)(e:Ending)(w':World):Prop:=(∃v rs,e=.returned v∧Ans w' base v rs∧tr rs=rs∧val rs=G)∧Below base w w'

set_option maxRecDepth 20000 in
set_option maxHeartbeats 2000000 in
theorem pA (x y:Nat)(hx:0<x)(hy:0<y):jb x y:=by
 intro gx gy base Zx Zy w hBx hLx hBy hLy hne hb1 hb2 hT htb ex ey hfx hfy
 have A1:=hBx.arg_tr hLx (by omega)
 have A2:=hBy.arg_tr hLy (by omega)
 have HC:=b7 _ _ (tr Zx) (tr Zy) w A1 A2
 rw [val_tr,val_tr,ex,ey] at HC
 have N1:Ans w base (.slice (some ⟨gx,0,none⟩) (tr Zx).length Zx.length) (tr Zx):=Ans.of_blk hb1 hBx (tr_take Zx) (tr_length_le Zx) (by omega) (limbs_tr hLx)
 have N2:Ans w base (.slice (some ⟨gy,0,none⟩) (tr Zy).length Zy.length) (tr Zy):=Ans.of_blk hb2 hBy (tr_take Zy) (tr_length_le Zy) (by omega) (limbs_tr hLy)
 obtain⟨K,hK1,hK2,hK3⟩:∃K,(tr Zx).length≤K∧(tr Zy).length≤K∧K≤17592186044416:=⟨17592186044416,by have:=tr_length_le Zx;omega,by have:=tr_length_le Zy;omega,Nat.le_refl _⟩
 have hbw:base≤w.heap.size:=by have:=hBx.lt;omega
 have HTB:=aa htb
 obtain⟨G,hG⟩:∃G,Nat.gcd x y=G:=⟨_,rfl⟩
 rw [hG]
 show Calls Tryz.prog 74 _ w (d9 w base G)
 by_cases hlt:x<y
 ·have ST:=aa (show ∀w1,ak w w1→bZ w w1 base G K (.slice (some ⟨gy,0,none⟩) (tr Zy).length Zy.length) (.slice (some ⟨gx,0,none⟩) (tr Zx).length Zx.length) (tr Zy) (tr Zx) from fun w1 h1=>
   ⟨N2.below (h1.below _),N1.below (h1.below _),tr_tr _,tr_tr _,by rw [val_tr,val_tr];omega,by rw [val_tr];omega,by rw [val_tr,val_tr,ex,ey,Nat.gcd_comm];exact hG,fun g e=>by cases e;simp [Value.ownBlock,hne],hK2,h1.below _,hT.below (h1.below _),by rw [h1.size];exact hbw⟩)
  rw [cmpN_lt hlt] at HC
  clear A1 A2 N1 N2 hBx hBy hLx hLy hT htb ex ey hfx hfy hG
  go_enter Tryz.func74,Tryz.ntmps74
  go_wp2_with fail
  refine HC.mono ?_
  rintro e w1 ⟨rfl,hs1⟩
  replace ST:=aa (ST.out w1 hs1)
  clear HC hs1
  go_wp2
  go_loopw [0,1] (fun vx vy wr=>∃X Y,bZ w wr base G K vx vy X Y) (fun _ vy wr=>rdN wr vy)
  case atStart=>exact⟨_,_,ST.out⟩
  case round=>
   obtain⟨X,Y,hst⟩:=hrel
   have HST:=aa hst
   have hyl:=hst.ylen
   have hxl:=hst.lx
   clear ST
   rcases hst.ax.form with ⟨_,h0⟩|⟨gx,cx,rfl,hgx,_,hcx,hcx2,fx,cellx⟩
   ·have:=hst.pos;rw [h0] at this;simp [val] at this
   ·by_cases hy2:2≤Y.length
    ·rcases hst.ay.form with ⟨_,h0⟩|⟨gy,cy,rfl,hgy,_,hcy,hcy2,fy,celly⟩
     ·rw [h0] at hy2;simp at hy2
     ·have hne:gx≠gy:=fun e=>hst.apart gx rfl (by rw [e];rfl)
      have i1:(1:Int)<(Y.length:Int):=by omega
      have HHB:=iv gx 0 cx (some ⟨gy,0,none⟩) cy X Y wr (.inr ⟨gx,0,rfl,fun k hk=>by rw [Nat.zero_add];exact cellx k hk⟩) (.inr ⟨gy,0,rfl,fun k hk=>by rw [Nat.zero_add];exact celly k hk⟩) hst.ax.limbs hst.ay.limbs (by omega) hst.tx (by omega) hst.le hyl
      clear hst fx fy cellx celly
      go_wp2_with fail
      refine HHB.mono ?_
      rintro e w2 ⟨⟨xh,yh,xl,yl,Pw,rfl,f1,f2,f3,f4,f5,f6⟩,hb2⟩
      have HSO:=ic xh yh w2 f5 f6
      have HF:=aa (And.intro f1 (And.intro f2 (And.intro f3 f4)))
      have HB2:=aa hb2
      clear HHB f1 f2 f3 f4 f5 f6 hb2
      go_wp2_with fail
      refine HSO.mono ?_
      rintro e w3 ⟨⟨a,b,c,d,o,rfl,hk⟩,hb3⟩
      have HK:=aa hk
      have HB3:=aa (HB2.out.trans (hb3.mono HB2.out.size))
      clear HSO hk hb3
      obtain⟨w4,hw4⟩:∃w4,w4=w3.alloc (.cells #[.int .u64 a,.int .u64 b,.int .u64 c,.int .u64 d,.bool o] 129):=⟨_,rfl⟩
      have h4:w4.heap[w3.heap.size]?=some (.cells #[.int .u64 a,.int .u64 b,.int .u64 c,.int .u64 d,.bool o] 129):=by rw [hw4];exact heap_alloc_new ..
      have HB4:=aa (show Below wr.heap.size wr w4 by rw [hw4];exact HB3.out.alloc HB3.out.size _)
      have HNO:=iJ a b c d o w4
      obtain⟨s0,s1,s2,s3,s4⟩:=aw h4
      have H4:=aa h4
      have HW4:=aa hw4
      rw [hw4] at s0 s1 s2 s3 s4
      unfold stv at HNO ⊢
      have hl4:w3.heap.size<w4.heap.size:=aY h4
      clear hw4 h4 HB3 HB2
      by_cases hb0:b=0
      ·rw [decide_eq_true hb0] at HNO
       clear HK hb0
       go_wp2_with fail
       rw [←HW4.out]
       refine HNO.mono ?_
       rintro e w5 ⟨rfl,hb5⟩
       have HB5:=aa (HB4.out.trans (hb5.mono HB4.out.size))
       have hst5:=HST.out.up HB5.out
       have hv0:val Y≠0:=fun h=>by
        have:=HST.out.ay.few 0 (by rw [h];simp) HST.out.ty
        omega
       have HDV:=dj _ Y w5 (hst5.ay.arg (by omega)) hst5.tab hv0 (by omega)
       have HV0:=aa hv0
       clear HNO hb5 hst5 s0 s1 s2 s3 s4 H4 hv0
       go_wp2_with fail
       refine HDV.mono ?_
       rintro e w6 ⟨⟨vd,rfl,hd⟩,hb6⟩
       have HB6:=aa (HB5.out.trans (hb6.mono HB5.out.size))
       have hst6:=HST.out.up HB6.out
       have HRS:=dQ _ vd X _ _ _ w6 (hst6.ax.arg (by omega)) hd hst6.tab (by omega)
       clear HDV hd hb6 hst6
       go_wp2_with fail
       refine HRS.mono ?_
       rintro e w7 ⟨⟨vr,rs,rfl,A3,e3,l3,_⟩,hb7⟩
       have HB7:=aa (HB6.out.trans (hb7.mono HB6.out.size))
       obtain⟨ar,cr,rfl,hcr,hcr2,hlr⟩:=(A3.arg (by omega)).form
       have HTR:=aZ ar cr rs w7 hcr hcr2 hlr
       have HNEW:Hid (bZ w w7 base G K (.slice (some ⟨gy,0,none⟩) Y.length cy) (.slice ar (tr rs).length cr) Y (tr rs)∧val rs<val Y):=by
        have h7:=HST.out.up HB7.out
        have hpos:0<val Y:=Nat.pos_of_ne_zero HV0.out
        have hlt:val rs<val Y:=by rw [e3];exact Nat.mod_lt _ hpos
        have q1:=HB6.out.size
        have q2:=HST.out.ay.own.lt gy rfl
        have q3:=h7.bw
        refine aa ⟨⟨h7.ay,(A3.base (Nat.le_trans HST.out.bw q1)).trim,h7.ty,tr_tr _,by rw [val_tr];omega,hpos,?_,?_,by omega,h7.bel,h7.tab,h7.bw⟩,hlt⟩
        ·rw [val_tr,e3,←HST.out.gcd,Nat.gcd_comm (val X),Nat.gcd_rec (val Y) (val X),Nat.gcd_comm]
        ·intro g e
         cases e
         intro e2
         have:=(A3.own.lt gy (by rw [←e2];cases ar <;> rfl)).1
         omega
       clear HRS hb7 A3 e3 l3 hlr
       go_wp2_with fail
       refine HTR.mono ?_
       rintro e wn ⟨rfl,hw⟩;rw [hw];clear hw wn HTR
       go_wp2
       go_roundw
       case rel=>exact⟨_,_,HNEW.out.1⟩
       case measure=>
        rw [b8 (HNEW.out.1.ay.arg (by have:=tr_length_le rs;have:=HNEW.out.1.ylen;omega)),b8 (HST.out.ay.arg (by omega)),val_tr]
        exact HNEW.out.2
      ·rw [decide_eq_false hb0] at HNO
       go_wp2_with fail
       rw [←HW4.out]
       refine HNO.mono ?_
       rintro e w5 ⟨rfl,hb5⟩
       have HB5:=aa (HB4.out.trans (hb5.mono HB4.out.size))
       have hst5:=HST.out.up HB5.out
       obtain⟨r0,r1,r2,r3,r4⟩:=aw ((hb5.block w3.heap.size hl4).trans H4.out)
       obtain⟨⟨x',y',hls,hla⟩,hd32⟩:=HK.out.resolve_left hb0
       have ba:=hla.ab
       have bb:=hla.bd
       have bc:=hla.cd
       have HTK:Calls Tryz.prog 112 #[stv a b c d o,.slice (some ⟨gx,0,none⟩) X.length cx,.slice (some ⟨gy,0,none⟩) Y.length cy] w5 (dn base gx cx gy cy X Y (sgL o a) (sgL o b) (sgL o d) (sgL o c) w5):=by
        cases o with
        | false=>exact jz base gx cx gy cy a b c d X Y w5 hst5.ax hst5.ay hne hyl hgx hgy hst5.bw (by omega) (by omega) (by omega) hd32
        | true=>exact iQ base gx cx gy cy a b c d X Y w5 hst5.ax hst5.ay hne hyl hgx hgy hst5.bw (by omega) (by omega) (by omega) hd32
       have HLS:=aa (And.intro hls hla)
       unfold stv at HTK
       clear HNO hb5 hst5 s0 s1 s2 s3 s4 H4 hls hla ba bb bc HK
       go_wp2_with fail
       refine HTK.mono ?_
       rintro e w6 ⟨rfl,X',Y',ov,un,htk⟩
       have HTOOK:=aa htk
       have hlx':=htk.lx
       have hly':=htk.ly
       have lt':(X'.take Y.length).length=Y.length:=by simp;omega
       have af:=htk.ax.front Y.length (by omega)
       have afa:=af.arg (by omega)
       obtain⟨ao1,cp1,e1,g1,g2,g3⟩:=afa.form
       rw [lt'] at e1
       cases e1
       have T1:=aZ _ _ (X'.take Y.length) w6 g1 g2 g3
       rw [lt'] at T1
       obtain⟨ao2,cp2,e2,g4,g5,g6⟩:=(htk.ay.arg (by omega)).form
       cases e2
       have T2:=aZ _ _ Y' w6 g4 g5 g6
       rw [hly'] at T2
       have k1:(Y.length:Int)≤(cx:Int):=by omega
       have k0:(0:Int)≤(Y.length:Int):=by omega
       have HNEW:Hid (bZ w w6 base G K (.slice (some ⟨gx,0,none⟩) (tr (X'.take Y.length)).length cx) (.slice (some ⟨gy,0,none⟩) (tr Y').length cy) (tr (X'.take Y.length)) (tr Y')∧val Y'<val Y):=by
        have h5:=HST.out.up HB5.out
        obtain⟨V,W,q1,q2,q3⟩:=jv htk HST.out.ay.limbs hyl HLS.out.1 HLS.out.2 HF.out.1 HF.out.2.1 HF.out.2.2.1 HF.out.2.2.2
        have af':Ans w6 base (.slice (some ⟨gx,0,none⟩) (X'.take Y.length).length cx) (X'.take Y.length):=by rw [lt'];exact af
        refine aa ⟨⟨af'.trim,htk.ay.trim,tr_tr _,tr_tr _,?_,?_,?_,?_,?_,h5.bel.trans htk.bel,h5.tab.base htk.bel HTB.out,Nat.le_trans h5.bw htk.bel.size⟩,?_⟩
        ·rw [val_tr,val_tr,q2,q3];exact Nat.le_of_lt q1.lt
        ·rw [val_tr,q2];have:=q1.lt;omega
        ·rw [val_tr,val_tr,q2,q3,q1.gcd];exact HST.out.gcd
        ·intro g e;cases e;simp [Value.ownBlock,Ne.symm hne]
        ·have:=tr_length_le (X'.take Y.length);omega
        ·rw [q3];have:=q1.lt;have:=q1.le;omega
       clear htk af afa g1 g2 g3 g4 g5 g6 r0 r1 r2 r3 r4 HTK HTOOK
       go_wp2_with fail
       refine T1.mono ?_
       rintro e wn ⟨rfl,hw⟩;rw [hw];clear hw wn T1
       go_wp2_with fail
       refine T2.mono ?_
       rintro e wn ⟨rfl,hw⟩;rw [hw];clear hw wn T2
       go_wp2
       go_roundw
       case rel=>exact⟨_,_,HNEW.out.1⟩
       case measure=>
        rw [b8 (HNEW.out.1.ay.arg (by have:=tr_length_le Y';omega)),b8 (HST.out.ay.arg (by omega)),val_tr]
        exact HNEW.out.2
    ·by_cases hy0:Y.length=0
     ·have hY:Y=[]:=List.length_eq_zero_iff.1 hy0
      subst hY
      obtain⟨ay,cy,rfl,_,_,_⟩:=(hst.ay.arg (by simp)).form
      have HE:Hid (d9 w base G (.returned (.slice (some ⟨gx,0,none⟩) X.length cx)) wr):=by
       refine aa ⟨⟨_,X,rfl,hst.ax,hst.tx,?_⟩,hst.bel⟩
       have:=hst.gcd
       simpa [val] using this
      clear hst fx cellx hy0 hy2 hyl
      go_wp2
      go_ret
      exact HE.out
     ·have hy1:Y.length=1:=by omega
      rcases hst.ay.form with ⟨_,h0⟩|⟨gy,cy,rfl,hgy,hgyw,hcy,hcy2,fy,celly⟩
      ·rw [h0] at hy1;simp at hy1
      ·obtain⟨sm,hsm⟩:∃sm,val Y=sm:=⟨_,rfl⟩
       have hYl:val Y<18446744073709551616:=by have:=val_lt hst.ay.limbs;rw [hy1] at this;simpa using this
       have hsm0:0<sm:=by
        rw [←hsm]
        refine Nat.pos_of_ne_zero fun h=>?_
        have:=hst.ay.few 0 (by rw [h];simp) hst.ty
        omega
       have SM:sm<18446744073709551616:=by rw [←hsm];exact hYl
       have hcell:wr.cell? ⟨gy,0,none⟩=some (.int .u64 (sm:Int)):=by
        have h:=celly 0 (by omega)
        rw [dw (Z:=Y) hYl (by omega),hsm] at h
        exact h
       have hle:sm≤val X:=by rw [←hsm];exact hst.le
       obtain⟨big,hbig⟩:∃big,val X=big:=⟨_,rfl⟩
       rw [hbig] at hle
       have AY:=(hst.ay.arg (by omega)).drew
       have AX:=aa ((hst.ax.arg (by omega)).drew)
       have HTW:=aa (hst.tab.below (Below.refl _ _).drew)
       have HDV:=dj _ Y wr.drew AY HTW.out (by rw [hsm];omega) (by omega)
       rw [hsm,hy1] at HDV
       have HRS:=aa (fun (w2:World) (vd:Value) (hd:Dvs w2 wr.drew.heap.size vd sm (tr Y).length) (hb:Below wr.drew.heap.size wr.drew w2)=>
        show Calls Tryz.prog 78 #[vd,.slice (some ⟨gx,0,none⟩) X.length cx] w2 (fl w2 big sm X.length) by
         have h:=dQ _ vd X _ sm _ w2 (AX.out.below hb) hd (HTW.out.below hb) (by omega)
         rw [hbig] at h
         exact h)
       have HGC:Hid (Nat.gcd big sm=G):=by rw [←hbig,←hsm];exact aa hst.gcd
       have hgs1:gy<wr.drew.heap.size:=hgyw
       have HBW:=aa (And.intro hst.bel hst.bw)
       rw [hy1]
       clear AY hst fx fy cellx celly hYl hy0 hy2 hyl HST
       go_wp2
       go_region_with (first
        | (go_at_call 77;refine HDV.mono ?_;rintro e w2 ⟨⟨vd,rfl,hd⟩,hb2'⟩;have hcell2:=ee hb2' (show wr.drew.cell? ⟨gy,0,none⟩=some (.int .u64 (sm:Int)) from hcell) hgs1)
        | (go_at_call 78;refine (HRS.out _ _ hd hb2').mono ?_;rintro e w3 ⟨⟨vr,rs,rfl,A3,e3,l3,l4⟩,hb3'⟩;obtain⟨g3,c3,z3,rfl,hg3,hc3,hz3⟩:=jg A3 (l4 hle);have hl3:(0:Int)<(rs.length:Int):=(by have:=l4 hle;omega);have hl5:0<rs.length:=l4 hle;have hcell3:=ee hb3' hcell2 (Nat.lt_of_lt_of_le hgs1 hb2'.size)))
       all_goals
        have hr:z3=big % sm:=by
         have h1:val rs<18446744073709551616:=by rw [e3];exact Nat.lt_trans (Nat.mod_lt _ hsm0) SM
         rw [←hz3.out,dw h1 (l4 hle),e3]
        have hrl:z3<18446744073709551616:=by rw [hr];exact Nat.lt_trans (Nat.mod_lt _ hsm0) SM
        have HGG:Hid (Nat.gcd sm z3=G):=by rw [←HGC.out,hr,Nat.gcd_comm big sm,Nat.gcd_rec sm big,Nat.gcd_comm];exact aa rfl
        have HW3:Hid (Below base w w3∧base≤w3.heap.size):=by
         have q1:Below wr.heap.size wr wr.drew:=(Below.refl _ _).drew
         have q2:Below wr.heap.size wr w2:=q1.trans (hb2'.mono q1.size)
         have q3:=q2.trans (hb3'.mono q2.size)
         exact aa ⟨HBW.out.1.trans (q3.mono HBW.out.2),by have:=q3.size;have:=HBW.out.2;omega⟩
        clear hz3 A3 e3 l3 l4 hb3' hb2' hd HDV HRS hcell hcell2 hcell3 hl3 hc3 hr
        simp only [List.getElem_toArray,List.getElem_cons_succ,List.getElem_cons_zero,Act.put,List.setIfInBounds_toArray,List.set_cons_zero,List.set_cons_succ]
        go_wp2
        go_loopw [6,7] (fun v u wq=>∃a b:Nat,v=.int .u64 a∧u=.int .u64 b∧a<18446744073709551616∧b<18446744073709551616∧Nat.gcd a b=G∧ak w3 wq) (fun _ u _=>(intOf u).toNat)
        case atStart=>exact⟨sm,z3,rfl,rfl,SM,hrl,HGG.out,(ak.refl _)⟩
        case round=>
         obtain⟨a,b,rfl,rfl,ha,hb,hg,hsame⟩:=hrel
         have HG:=aa hg
         have HS:=aa hsame
         clear hg hsame
         by_cases hb0:b=0
         ·subst hb0
          have HE:Hid (d9 w base G (.returned (.slice (some ⟨wr.heap.size,0,none⟩) 1 1)) (wr.alloc (.cells #[.int .u64 (a:Int)] 61))):=by
           have hga:=HG.out
           rw [Nat.gcd_zero_right] at hga
           have hpos:0<G:=by rw [←HGC.out];exact Nat.gcd_pos_of_pos_right _ hsm0
           have hbk:Blk (wr.alloc (.cells #[.int .u64 (a:Int)] 61)) wr.heap.size [a]:=heap_alloc_new ..
           have hsz:wr.heap.size=w3.heap.size:=HS.out.size
           have AN:=Ans.of_blk (base:=base) (zs:=[a]) (show base≤wr.heap.size by have:=HW3.out.2;omega) hbk (by simp) (by simp) (by simp) (by intro z hz;simp at hz;omega)
           refine aa ⟨⟨_,[a],rfl,AN,?_,?_⟩,?_⟩
           ·have:a≠0:=by omega
            simp [tr,this]
           ·simp [val];exact hga
           ·have q1:Below base w wr:=HW3.out.1.trans ((HS.out.below _).mono HW3.out.2)
            exact q1.alloc (show base≤wr.heap.size by have:=HW3.out.2;omega) _
          go_wp2
          go_ret
          exact HE.out
         ·have hpos:(0:Int)<(b:Int):=by omega
          have hz:((b:Int) == 0)=false:=by rw [beq_eq_false_iff_ne];omega
          have hlt':a % b<b:=Nat.mod_lt _ (by omega)
          have HGN:Hid (Nat.gcd b (a % b)=G):=by rw [←HG.out,Nat.gcd_comm a b,Nat.gcd_rec b a,Nat.gcd_comm];exact aa rfl
          have hmod:(a:Int) % (b:Int)=((a % b:Nat):Int):=by omega
          generalize a % b=c at *
          clear hb0
          go_wp2
          go_quiet (fail)
          go_wp2
          go_roundw
          case rel=>exact⟨b,c,rfl,(by rw [hmod]),hb,by omega,HGN.out,HS.out.drewN _⟩
          case measure=>simp [intOf];omega
 ·have ST:=aa (show ∀w1,ak w w1→bZ w w1 base G K (.slice (some ⟨gx,0,none⟩) (tr Zx).length Zx.length) (.slice (some ⟨gy,0,none⟩) (tr Zy).length Zy.length) (tr Zx) (tr Zy) from fun w1 h1=>
   ⟨N1.below (h1.below _),N2.below (h1.below _),tr_tr _,tr_tr _,by rw [val_tr,val_tr];omega,by rw [val_tr];omega,by rw [val_tr,val_tr,ex,ey];exact hG,fun g e=>by cases e;simp [Value.ownBlock,Ne.symm hne],hK1,h1.below _,hT.below (h1.below _),by rw [h1.size];exact hbw⟩)
  have hc:decide (cmpN x y<0)=false:=by
   unfold cmpN;rw [if_neg hlt];split <;> decide
  generalize cmpN x y=cc at *
  clear A1 A2 N1 N2 hBx hBy hLx hLy hT htb ex ey hfx hfy hG
  go_enter Tryz.func74,Tryz.ntmps74
  go_wp2_with fail
  refine HC.mono ?_
  rintro e w1 ⟨rfl,hs1⟩
  replace ST:=aa (ST.out w1 hs1)
  clear HC hs1
  go_wp2
  go_loopw [0,1] (fun vx vy wr=>∃X Y,bZ w wr base G K vx vy X Y) (fun _ vy wr=>rdN wr vy)
  case atStart=>exact⟨_,_,ST.out⟩
  case round=>
   obtain⟨X,Y,hst⟩:=hrel
   have HST:=aa hst
   have hyl:=hst.ylen
   have hxl:=hst.lx
   clear ST
   rcases hst.ax.form with ⟨_,h0⟩|⟨gx,cx,rfl,hgx,_,hcx,hcx2,fx,cellx⟩
   ·have:=hst.pos;rw [h0] at this;simp [val] at this
   ·by_cases hy2:2≤Y.length
    ·rcases hst.ay.form with ⟨_,h0⟩|⟨gy,cy,rfl,hgy,_,hcy,hcy2,fy,celly⟩
     ·rw [h0] at hy2;simp at hy2
     ·have hne:gx≠gy:=fun e=>hst.apart gx rfl (by rw [e];rfl)
      have i1:(1:Int)<(Y.length:Int):=by omega
      have HHB:=iv gx 0 cx (some ⟨gy,0,none⟩) cy X Y wr (.inr ⟨gx,0,rfl,fun k hk=>by rw [Nat.zero_add];exact cellx k hk⟩) (.inr ⟨gy,0,rfl,fun k hk=>by rw [Nat.zero_add];exact celly k hk⟩) hst.ax.limbs hst.ay.limbs (by omega) hst.tx (by omega) hst.le hyl
      clear hst fx fy cellx celly
      go_wp2_with fail
      refine HHB.mono ?_
      rintro e w2 ⟨⟨xh,yh,xl,yl,Pw,rfl,f1,f2,f3,f4,f5,f6⟩,hb2⟩
      have HSO:=ic xh yh w2 f5 f6
      have HF:=aa (And.intro f1 (And.intro f2 (And.intro f3 f4)))
      have HB2:=aa hb2
      clear HHB f1 f2 f3 f4 f5 f6 hb2
      go_wp2_with fail
      refine HSO.mono ?_
      rintro e w3 ⟨⟨a,b,c,d,o,rfl,hk⟩,hb3⟩
      have HK:=aa hk
      have HB3:=aa (HB2.out.trans (hb3.mono HB2.out.size))
      clear HSO hk hb3
      obtain⟨w4,hw4⟩:∃w4,w4=w3.alloc (.cells #[.int .u64 a,.int .u64 b,.int .u64 c,.int .u64 d,.bool o] 129):=⟨_,rfl⟩
      have h4:w4.heap[w3.heap.size]?=some (.cells #[.int .u64 a,.int .u64 b,.int .u64 c,.int .u64 d,.bool o] 129):=by rw [hw4];exact heap_alloc_new ..
      have HB4:=aa (show Below wr.heap.size wr w4 by rw [hw4];exact HB3.out.alloc HB3.out.size _)
      have HNO:=iJ a b c d o w4
      obtain⟨s0,s1,s2,s3,s4⟩:=aw h4
      have H4:=aa h4
      have HW4:=aa hw4
      rw [hw4] at s0 s1 s2 s3 s4
      unfold stv at HNO ⊢
      have hl4:w3.heap.size<w4.heap.size:=aY h4
      clear hw4 h4 HB3 HB2
      by_cases hb0:b=0
      ·rw [decide_eq_true hb0] at HNO
       clear HK hb0
       go_wp2_with fail
       rw [←HW4.out]
       refine HNO.mono ?_
       rintro e w5 ⟨rfl,hb5⟩
       have HB5:=aa (HB4.out.trans (hb5.mono HB4.out.size))
       have hst5:=HST.out.up HB5.out
       have hv0:val Y≠0:=fun h=>by
        have:=HST.out.ay.few 0 (by rw [h];simp) HST.out.ty
        omega
       have HDV:=dj _ Y w5 (hst5.ay.arg (by omega)) hst5.tab hv0 (by omega)
       have HV0:=aa hv0
       clear HNO hb5 hst5 s0 s1 s2 s3 s4 H4 hv0
       go_wp2_with fail
       refine HDV.mono ?_
       rintro e w6 ⟨⟨vd,rfl,hd⟩,hb6⟩
       have HB6:=aa (HB5.out.trans (hb6.mono HB5.out.size))
       have hst6:=HST.out.up HB6.out
       have HRS:=dQ _ vd X _ _ _ w6 (hst6.ax.arg (by omega)) hd hst6.tab (by omega)
       clear HDV hd hb6 hst6
       go_wp2_with fail
       refine HRS.mono ?_
       rintro e w7 ⟨⟨vr,rs,rfl,A3,e3,l3,_⟩,hb7⟩
       have HB7:=aa (HB6.out.trans (hb7.mono HB6.out.size))
       obtain⟨ar,cr,rfl,hcr,hcr2,hlr⟩:=(A3.arg (by omega)).form
       have HTR:=aZ ar cr rs w7 hcr hcr2 hlr
       have HNEW:Hid (bZ w w7 base G K (.slice (some ⟨gy,0,none⟩) Y.length cy) (.slice ar (tr rs).length cr) Y (tr rs)∧val rs<val Y):=by
        have h7:=HST.out.up HB7.out
        have hpos:0<val Y:=Nat.pos_of_ne_zero HV0.out
        have hlt:val rs<val Y:=by rw [e3];exact Nat.mod_lt _ hpos
        have q1:=HB6.out.size
        have q2:=HST.out.ay.own.lt gy rfl
        have q3:=h7.bw
        refine aa ⟨⟨h7.ay,(A3.base (Nat.le_trans HST.out.bw q1)).trim,h7.ty,tr_tr _,by rw [val_tr];omega,hpos,?_,?_,by omega,h7.bel,h7.tab,h7.bw⟩,hlt⟩
        ·rw [val_tr,e3,←HST.out.gcd,Nat.gcd_comm (val X),Nat.gcd_rec (val Y) (val X),Nat.gcd_comm]
        ·intro g e
         cases e
         intro e2
         have:=(A3.own.lt gy (by rw [←e2];cases ar <;> rfl)).1
         omega
       clear HRS hb7 A3 e3 l3 hlr
       go_wp2_with fail
       refine HTR.mono ?_
       rintro e wn ⟨rfl,hw⟩;rw [hw];clear hw wn HTR
       go_wp2
       go_roundw
       case rel=>exact⟨_,_,HNEW.out.1⟩
       case measure=>
        rw [b8 (HNEW.out.1.ay.arg (by have:=tr_length_le rs;have:=HNEW.out.1.ylen;omega)),b8 (HST.out.ay.arg (by omega)),val_tr]
        exact HNEW.out.2
      ·rw [decide_eq_false hb0] at HNO
       go_wp2_with fail
       rw [←HW4.out]
       refine HNO.mono ?_
       rintro e w5 ⟨rfl,hb5⟩
       have HB5:=aa (HB4.out.trans (hb5.mono HB4.out.size))
       have hst5:=HST.out.up HB5.out
       obtain⟨r0,r1,r2,r3,r4⟩:=aw ((hb5.block w3.heap.size hl4).trans H4.out)
       obtain⟨⟨x',y',hls,hla⟩,hd32⟩:=HK.out.resolve_left hb0
       have ba:=hla.ab
       have bb:=hla.bd
       have bc:=hla.cd
       have HTK:Calls Tryz.prog 112 #[stv a b c d o,.slice (some ⟨gx,0,none⟩) X.length cx,.slice (some ⟨gy,0,none⟩) Y.length cy] w5 (dn base gx cx gy cy X Y (sgL o a) (sgL o b) (sgL o d) (sgL o c) w5):=by
        cases o with
        | false=>exact jz base gx cx gy cy a b c d X Y w5 hst5.ax hst5.ay hne hyl hgx hgy hst5.bw (by omega) (by omega) (by omega) hd32
        | true=>exact iQ base gx cx gy cy a b c d X Y w5 hst5.ax hst5.ay hne hyl hgx hgy hst5.bw (by omega) (by omega) (by omega) hd32
       have HLS:=aa (And.intro hls hla)
       unfold stv at HTK
       clear HNO hb5 hst5 s0 s1 s2 s3 s4 H4 hls hla ba bb bc HK
       go_wp2_with fail
       refine HTK.mono ?_
       rintro e w6 ⟨rfl,X',Y',ov,un,htk⟩
       have HTOOK:=aa htk
       have hlx':=htk.lx
       have hly':=htk.ly
       have lt':(X'.take Y.length).length=Y.length:=by simp;omega
       have af:=htk.ax.front Y.length (by omega)
       have afa:=af.arg (by omega)
       obtain⟨ao1,cp1,e1,g1,g2,g3⟩:=afa.form
       rw [lt'] at e1
       cases e1
       have T1:=aZ _ _ (X'.take Y.length) w6 g1 g2 g3
       rw [lt'] at T1
       obtain⟨ao2,cp2,e2,g4,g5,g6⟩:=(htk.ay.arg (by omega)).form
       cases e2
       have T2:=aZ _ _ Y' w6 g4 g5 g6
       rw [hly'] at T2
       have k1:(Y.length:Int)≤(cx:Int):=by omega
       have k0:(0:Int)≤(Y.length:Int):=by omega
       have HNEW:Hid (bZ w w6 base G K (.slice (some ⟨gx,0,none⟩) (tr (X'.take Y.length)).length cx) (.slice (some ⟨gy,0,none⟩) (tr Y').length cy) (tr (X'.take Y.length)) (tr Y')∧val Y'<val Y):=by
        have h5:=HST.out.up HB5.out
        obtain⟨V,W,q1,q2,q3⟩:=jv htk HST.out.ay.limbs hyl HLS.out.1 HLS.out.2 HF.out.1 HF.out.2.1 HF.out.2.2.1 HF.out.2.2.2
        have af':Ans w6 base (.slice (some ⟨gx,0,none⟩) (X'.take Y.length).length cx) (X'.take Y.length):=by rw [lt'];exact af
        refine aa ⟨⟨af'.trim,htk.ay.trim,tr_tr _,tr_tr _,?_,?_,?_,?_,?_,h5.bel.trans htk.bel,h5.tab.base htk.bel HTB.out,Nat.le_trans h5.bw htk.bel.size⟩,?_⟩
        ·rw [val_tr,val_tr,q2,q3];exact Nat.le_of_lt q1.lt
        ·rw [val_tr,q2];have:=q1.lt;omega
        ·rw [val_tr,val_tr,q2,q3,q1.gcd];exact HST.out.gcd
        ·intro g e;cases e;simp [Value.ownBlock,Ne.symm hne]
        ·have:=tr_length_le (X'.take Y.length);omega
        ·rw [q3];have:=q1.lt;have:=q1.le;omega
       clear htk af afa g1 g2 g3 g4 g5 g6 r0 r1 r2 r3 r4 HTK HTOOK
       go_wp2_with fail
       refine T1.mono ?_
       rintro e wn ⟨rfl,hw⟩;rw [hw];clear hw wn T1
       go_wp2_with fail
       refine T2.mono ?_
       rintro e wn ⟨rfl,hw⟩;rw [hw];clear hw wn T2
       go_wp2
       go_roundw
       case rel=>exact⟨_,_,HNEW.out.1⟩
       case measure=>
        rw [b8 (HNEW.out.1.ay.arg (by have:=tr_length_le Y';omega)),b8 (HST.out.ay.arg (by omega)),val_tr]
        exact HNEW.out.2
    ·by_cases hy0:Y.length=0
     ·have hY:Y=[]:=List.length_eq_zero_iff.1 hy0
      subst hY
      obtain⟨ay,cy,rfl,_,_,_⟩:=(hst.ay.arg (by simp)).form
      have HE:Hid (d9 w base G (.returned (.slice (some ⟨gx,0,none⟩) X.length cx)) wr):=by
       refine aa ⟨⟨_,X,rfl,hst.ax,hst.tx,?_⟩,hst.bel⟩
       have:=hst.gcd
       simpa [val] using this
      clear hst fx cellx hy0 hy2 hyl
      go_wp2
      go_ret
      exact HE.out
     ·have hy1:Y.length=1:=by omega
      rcases hst.ay.form with ⟨_,h0⟩|⟨gy,cy,rfl,hgy,hgyw,hcy,hcy2,fy,celly⟩
      ·rw [h0] at hy1;simp at hy1
      ·obtain⟨sm,hsm⟩:∃sm,val Y=sm:=⟨_,rfl⟩
       have hYl:val Y<18446744073709551616:=by have:=val_lt hst.ay.limbs;rw [hy1] at this;simpa using this
       have hsm0:0<sm:=by
        rw [←hsm]
        refine Nat.pos_of_ne_zero fun h=>?_
        have:=hst.ay.few 0 (by rw [h];simp) hst.ty
        omega
       have SM:sm<18446744073709551616:=by rw [←hsm];exact hYl
       have hcell:wr.cell? ⟨gy,0,none⟩=some (.int .u64 (sm:Int)):=by
        have h:=celly 0 (by omega)
        rw [dw (Z:=Y) hYl (by omega),hsm] at h
        exact h
       have hle:sm≤val X:=by rw [←hsm];exact hst.le
       obtain⟨big,hbig⟩:∃big,val X=big:=⟨_,rfl⟩
       rw [hbig] at hle
       have AY:=(hst.ay.arg (by omega)).drew
       have AX:=aa ((hst.ax.arg (by omega)).drew)
       have HTW:=aa (hst.tab.below (Below.refl _ _).drew)
       have HDV:=dj _ Y wr.drew AY HTW.out (by rw [hsm];omega) (by omega)
       rw [hsm,hy1] at HDV
       have HRS:=aa (fun (w2:World) (vd:Value) (hd:Dvs w2 wr.drew.heap.size vd sm (tr Y).length) (hb:Below wr.drew.heap.size wr.drew w2)=>
        show Calls Tryz.prog 78 #[vd,.slice (some ⟨gx,0,none⟩) X.length cx] w2 (fl w2 big sm X.length) by
         have h:=dQ _ vd X _ sm _ w2 (AX.out.below hb) hd (HTW.out.below hb) (by omega)
         rw [hbig] at h
         exact h)
       have HGC:Hid (Nat.gcd big sm=G):=by rw [←hbig,←hsm];exact aa hst.gcd
       have hgs1:gy<wr.drew.heap.size:=hgyw
       have HBW:=aa (And.intro hst.bel hst.bw)
       rw [hy1]
       clear AY hst fx fy cellx celly hYl hy0 hy2 hyl HST
       go_wp2
       go_region_with (first
        | (go_at_call 77;refine HDV.mono ?_;rintro e w2 ⟨⟨vd,rfl,hd⟩,hb2'⟩;have hcell2:=ee hb2' (show wr.drew.cell? ⟨gy,0,none⟩=some (.int .u64 (sm:Int)) from hcell) hgs1)
        | (go_at_call 78;refine (HRS.out _ _ hd hb2').mono ?_;rintro e w3 ⟨⟨vr,rs,rfl,A3,e3,l3,l4⟩,hb3'⟩;obtain⟨g3,c3,z3,rfl,hg3,hc3,hz3⟩:=jg A3 (l4 hle);have hl3:(0:Int)<(rs.length:Int):=(by have:=l4 hle;omega);have hl5:0<rs.length:=l4 hle;have hcell3:=ee hb3' hcell2 (Nat.lt_of_lt_of_le hgs1 hb2'.size)))
       all_goals
        have hr:z3=big % sm:=by
         have h1:val rs<18446744073709551616:=by rw [e3];exact Nat.lt_trans (Nat.mod_lt _ hsm0) SM
         rw [←hz3.out,dw h1 (l4 hle),e3]
        have hrl:z3<18446744073709551616:=by rw [hr];exact Nat.lt_trans (Nat.mod_lt _ hsm0) SM
        have HGG:Hid (Nat.gcd sm z3=G):=by rw [←HGC.out,hr,Nat.gcd_comm big sm,Nat.gcd_rec sm big,Nat.gcd_comm];exact aa rfl
        have HW3:Hid (Below base w w3∧base≤w3.heap.size):=by
         have q1:Below wr.heap.size wr wr.drew:=(Below.refl _ _).drew
         have q2:Below wr.heap.size wr w2:=q1.trans (hb2'.mono q1.size)
         have q3:=q2.trans (hb3'.mono q2.size)
         exact aa ⟨HBW.out.1.trans (q3.mono HBW.out.2),by have:=q3.size;have:=HBW.out.2;omega⟩
        clear hz3 A3 e3 l3 l4 hb3' hb2' hd HDV HRS hcell hcell2 hcell3 hl3 hc3 hr
        simp only [List.getElem_toArray,List.getElem_cons_succ,List.getElem_cons_zero,Act.put,List.setIfInBounds_toArray,List.set_cons_zero,List.set_cons_succ]
        go_wp2
        go_loopw [6,7] (fun v u wq=>∃a b:Nat,v=.int .u64 a∧u=.int .u64 b∧a<18446744073709551616∧b<18446744073709551616∧Nat.gcd a b=G∧ak w3 wq) (fun _ u _=>(intOf u).toNat)
        case atStart=>exact⟨sm,z3,rfl,rfl,SM,hrl,HGG.out,(ak.refl _)⟩
        case round=>
         obtain⟨a,b,rfl,rfl,ha,hb,hg,hsame⟩:=hrel
         have HG:=aa hg
         have HS:=aa hsame
         clear hg hsame
         by_cases hb0:b=0
         ·subst hb0
          have HE:Hid (d9 w base G (.returned (.slice (some ⟨wr.heap.size,0,none⟩) 1 1)) (wr.alloc (.cells #[.int .u64 (a:Int)] 61))):=by
           have hga:=HG.out
           rw [Nat.gcd_zero_right] at hga
           have hpos:0<G:=by rw [←HGC.out];exact Nat.gcd_pos_of_pos_right _ hsm0
           have hbk:Blk (wr.alloc (.cells #[.int .u64 (a:Int)] 61)) wr.heap.size [a]:=heap_alloc_new ..
           have hsz:wr.heap.size=w3.heap.size:=HS.out.size
           have AN:=Ans.of_blk (base:=base) (zs:=[a]) (show base≤wr.heap.size by have:=HW3.out.2;omega) hbk (by simp) (by simp) (by simp) (by intro z hz;simp at hz;omega)
           refine aa ⟨⟨_,[a],rfl,AN,?_,?_⟩,?_⟩
           ·have:a≠0:=by omega
            simp [tr,this]
           ·simp [val];exact hga
           ·have q1:Below base w wr:=HW3.out.1.trans ((HS.out.below _).mono HW3.out.2)
            exact q1.alloc (show base≤wr.heap.size by have:=HW3.out.2;omega) _
          go_wp2
          go_ret
          exact HE.out
         ·have hpos:(0:Int)<(b:Int):=by omega
          have hz:((b:Int) == 0)=false:=by rw [beq_eq_false_iff_ne];omega
          have hlt':a % b<b:=Nat.mod_lt _ (by omega)
          have HGN:Hid (Nat.gcd b (a % b)=G):=by rw [←HG.out,Nat.gcd_comm a b,Nat.gcd_rec b a,Nat.gcd_comm];exact aa rfl
          have hmod:(a:Int) % (b:Int)=((a % b:Nat):Int):=by omega
          generalize a % b=c at *
          clear hb0
          go_wp2
          go_quiet (fail)
          go_wp2
          go_roundw
          case rel=>exact⟨b,c,rfl,(by rw [hmod]),hb,by omega,HGN.out,HS.out.drewN _⟩
          case measure=>simp [intOf];omega

end Go.Proofs.YtdbjbbdhlpfhjaaGreatDoor
