/- The walk of the law WholeFermat. -/
import Derived.Test.YtemgogeokkeipaaGreatDoorB11
import Derived.Test.YtemgogeokkeipaaGreatDoorB10
namespace Go.Proofs.YtemgogeokkeipaaGreatDoor
open Go.RowKit
open Lm
attribute [local go_sem ↓] Go.wp_at_zero Go.wp_at_succ
attribute [local go_sem] g9

set_option maxRecDepth 20000 in
set_option maxHeartbeats 16000000 in
theorem iR (b0:Bool)(v0:Value)(z0:List Nat)(p:Int)(w:World)(hT:Tab w)(A0:Arg w v0 z0)(s0:z0.length≤17592186043904)(_:-9223372036854775808≤p)(_:p≤9223372036854775807) :
  Calls Tryz.prog 3 #[.agg #[.bool b0,v0],.int .i64 p] w fun e w'=>e=.returned (.bool true)∧Below w.heap.size w w':=by
 obtain⟨a0,n0,rfl,_,_,_⟩:=A0.form
 obtain⟨w0,hw0,hb0,h0⟩:=aC w (.cells #[.bool b0,.slice a0 z0.length n0] 24)
 have HA0:=ac (A0.below hb0)
 have HT:=ac (hT.below hb0)
 have HB0:=ac hb0
 have HX0:=ac h0
 obtain⟨k0,k1⟩:=duo h0
 clear A0 hT hb0 h0
 by_cases hp1:p<2
 ·go_enter Tryz.func3,Tryz.ntmps3
  have CA:=cO w0 HT.out
  clear k0 k1
  go_wp2_with fail
  refine CA.mono ?_
  rintro e w1 ⟨rfl,hb⟩
  have HF:=ac (bt6 HB0.out hb)
  clear CA hb
  go_wp2
  go_ret
  exact⟨rfl,HF.out⟩
 by_cases hp2:1000<p
 ·go_enter Tryz.func3,Tryz.ntmps3
  have CA:=cO w0 HT.out
  clear k0 k1
  go_wp2_with fail
  refine CA.mono ?_
  rintro e w1 ⟨rfl,hb⟩
  have HF:=ac (bt6 HB0.out hb)
  clear CA hb
  go_wp2
  go_ret
  exact⟨rfl,HF.out⟩
 obtain⟨p,rfl⟩:∃p':Nat,p=(p':Int):=⟨p.toNat,by omega⟩
 have h2:2≤p:=by omega
 have h3:p≤1000:=by omega
 go_enter Tryz.func3,Tryz.ntmps3
 go_wp2
 go_loop [5] (fun i=>∃d:Nat,i=.int .i64 d∧2≤d∧d≤40∧∀j,2≤j→j<d→p % j≠0) (fun i=>40 - (intOf i).toNat)
 case atStart=>exact⟨2,rfl,Nat.le_refl _,by omega,fun j h1 h2=>by omega⟩
 case round=>
  obtain⟨d,rfl,hd2,hd40,hnd⟩:=hrel
  have HND:=ac hnd
  clear hnd
  obtain⟨dd,hdd,hdn⟩:∃dd:Nat,(d:Int)*(d:Int)=(dd:Int)∧dd=d*d:=⟨d*d,by push_cast;rfl,rfl⟩
  have hddb:dd≤1600:=by rw [hdn];exact Nat.le_trans (Nat.mul_le_mul hd40 hd40) (by omega)
  have HDN:=ac hdn
  clear hdn
  by_cases hle:dd≤p
  ·have hlei:(dd:Int)≤(p:Int):=by omega
   have hd32:d<32:=by
    rcases Nat.lt_or_ge d 32 with h|h
    ·exact h
    ·have h5:=Nat.mul_le_mul h h
     have:=HDN.out
     omega
   obtain⟨r,hr,hrn⟩:∃r:Nat,(p:Int).tmod (d:Int)=(r:Int)∧r=p % d:=⟨p % d,rfl,rfl⟩
   have hz:((d:Int) == 0)=false:=by rw [beq_eq_false_iff_ne];omega
   have hz2:¬(d:Int)=0:=by omega
   have hz3:¬d=0:=by omega
   have hrl:r<40:=by rw [hrn];exact Nat.lt_of_lt_of_le (Nat.mod_lt _ (by omega)) (by omega)
   have HRN:=ac hrn
   clear hrn
   by_cases hr0:r=0
   ·subst hr0
    have CA:=cO w0 HT.out
    clear k0 k1
    go_wp2_with fail
    refine CA.mono ?_
    rintro e w1 ⟨rfl,hb⟩
    have HF:=ac (bt6 HB0.out hb)
    clear CA hb
    go_wp2
    go_ret
    exact⟨rfl,HF.out⟩
   ·have hrz:((r:Int) == 0)=false:=by rw [beq_eq_false_iff_ne];omega
    go_wp2
    go_round
    case rel=>
     refine⟨d+1,by go_num,by omega,by omega,fun j h1 h4=>?_⟩
     rcases Nat.lt_or_ge j d with h|h
     ·exact HND.out j h1 h
     ·obtain rfl:j=d:=by omega
      rw [←HRN.out]
      exact hr0
    case measure=>simp [intOf];omega
  ·have hlei:¬((dd:Int)≤(p:Int)):=by omega
   have HPR:Hid (∀k,2≤k→k*k≤p→p % k≠0):=ac (fun k h4 h5=>HND.out k h4 (by
    rcases Nat.lt_or_ge k d with h|h
    ·exact h
    ·have h6:=Nat.mul_le_mul h h
     have:=HDN.out
     omega))
   have C:=dS p w0 (by omega) (by omega)
   clear HND HDN
   go_wp2_with fail
   refine C.mono ?_
   rintro e w1 ⟨⟨bm,am,nm,km,rfl,rm,Am,hbm,vm,tm⟩,hb1⟩
   have hbf:bm=false:=by rw [hbm];exact decide_eq_false (by omega)
   subst hbf
   have hvm:val rm=p:=by rw [vm];rfl
   have hfm:rm.length≤1:=bH tm hvm (by have:blen p≤10:=(blen_le_iff _ _).2 (by omega);omega)
   have hnm:nm=rm.length:=by obtain⟨aa,cc,ee⟩:=Am.shape;cases ee;rfl
   replace HA0:=ac (HA0.out.below hb1)
   replace HT:=ac (HT.out.below hb1)
   replace HB0:=ac (bt6 HB0.out hb1)
   replace HX0:=ac (ae hb1 HX0.out)
   have HAM:=ac (Am.arg (by omega))
   have HVM:=ac (And.intro hvm hfm)
   clear C Am hbm vm tm hb1 hvm hfm hnm k0 k1
   obtain⟨u1,hu1,hbu,hxu⟩:=aC w1 (.cells #[.bool false,.slice am nm km] 28)
   replace HA0:=ac (HA0.out.below hbu)
   replace HT:=ac (HT.out.below hbu)
   replace HB0:=ac (bt6 HB0.out hbu)
   replace HX0:=ac (ae hbu HX0.out)
   replace HAM:=ac (HAM.out.below hbu)
   have HXM:=ac hxu
   clear hbu hxu
   have KS:=ac (fun (W:World) (hg:Below u1.heap.size u1 W)=>show W.cell? ⟨w.heap.size,0,none⟩=some (.bool b0)∧W.cell? ⟨w.heap.size,1,none⟩=some (.slice a0 z0.length n0)∧W.cell? ⟨w1.heap.size,0,none⟩=some (.bool false)∧W.cell? ⟨w1.heap.size,1,none⟩=some (.slice am nm km) from
    ⟨(duo (ae hg HX0.out)).1,(duo (ae hg HX0.out)).2,(duo (ae hg HXM.out)).1,(duo (ae hg HXM.out)).2⟩)
   have IN:=ac (fun (W:World)=>jV b0 a0 z0.length n0 W)
   have PW:=ac (fun (W:World) (g:Nat) (hg:Below u1.heap.size u1 W) (hB:W.heap[g]?=some (dB p))=>gV b0 _ z0 g false _ rm p W (HA0.out.below hg) hB (HAM.out.below hg) (HT.out.below hg) (by omega) (by have:=HVM.out.2;omega) HVM.out.1 h2 h3 HPR.out)
   have EU:=ac (fun (W:World) (hg:Below u1.heap.size u1 W)=>fG b0 _ z0 _ rm p W (HA0.out.below hg) (HAM.out.below hg) (HT.out.below hg) (by omega) (by have:=HVM.out.2;omega) HVM.out.1 h2 h3)
   have hwp:IntKind.u64.wrap (p:Int)=(p:Int):=by rw [IntKind.wrap_u64];omega
   go_upto_region 9 with fail
   go_cut [7,8] from 34 to 42 (fun s f wx=>dE u1 ((er b0 (val z0) p:Nat):Int) s f wx)
   case first=>
    go_region_held3 (fun w'=>w'.cell? ⟨w.heap.size,0,none⟩=some (.bool b0)∧w'.cell? ⟨w.heap.size,1,none⟩=some (.slice a0 z0.length n0)∧w'.cell? ⟨w1.heap.size,0,none⟩=some (.bool false)∧w'.cell? ⟨w1.heap.size,1,none⟩=some (.slice am nm km)) (first | (refine KS.out _ ?_;repeat (first|with_reducible assumption|with_reducible exact Below.refl _ _|with_reducible apply aM|with_reducible apply cR | (with_reducible refine aF ?_ (by omega))))) (first
     | (go_at_call 11;refine (IN.out _).mono ?_;rintro e' t1 ⟨rfl,hb1⟩;have g1:Below u1.heap.size u1 t1:=bt6 (by repeat (first|with_reducible exact Below.refl _ _|with_reducible apply aM|with_reducible apply cR)) hb1;(first | (with_reducible have p1:=d6 hb1;with_reducible have p2:=eE hb1) | (with_reducible have p1:=dt hb1;with_reducible have p2:=dL hb1) | (with_reducible have p1:=fF hb1) | (with_reducible have p1:=dC hb1) | skip))
     | (go_at_call 10;refine (PW.out _ _ (by repeat (first|with_reducible exact g1|with_reducible apply aM)) (by first|with_reducible exact p1|with_reducible exact p2|with_reducible exact aV p1 _|with_reducible exact aV p2 _|with_reducible exact heap_alloc_new _ _|with_reducible exact aV (heap_alloc_new _ _) _|with_reducible exact cL)).mono ?_;rintro e' t2 ⟨⟨b2,a2,n2,k2,r2,rfl,hA2,hz2⟩,hb2⟩;have g2:Below u1.heap.size u1 t2:=bt6 (by repeat (first|with_reducible exact g1|with_reducible apply aM)) hb2;have hle:=g1.size;(first | (with_reducible have z1:=ae hb2 p1;obtain⟨z10,z11⟩:=duo z1;have z1f:=ag z1) | (with_reducible have z1:=ae hb2 (aV p1 _);obtain⟨z10,z11⟩:=duo z1;have z1f:=ag z1) | skip);(first | (with_reducible have z2:=ae hb2 p2;obtain⟨z20,z21⟩:=duo z2;have z2f:=ag z2) | (with_reducible have z2:=ae hb2 (aV p2 _);obtain⟨z20,z21⟩:=duo z2;have z2f:=ag z2) | skip);(first | (with_reducible have z3:=dt hb2;obtain⟨z30,z31⟩:=duo z3;have z3f:=ag z3) | (with_reducible have z3:=dC hb2;obtain⟨z30,z31⟩:=duo z3;have z3f:=ag z3) | skip);(first | (with_reducible have z4:=dL hb2;obtain⟨z40,z41⟩:=duo z4;have z4f:=ag z4) | skip)))
    all_goals (go_wp2_with fail;go_meet;first
     | with_reducible exact iQ hA2 hz2 g2
     | with_reducible exact cB z1 (by omega) hA2 hz2 g2
     | with_reducible exact cB z2 (by omega) hA2 hz2 g2
     | with_reducible exact cB z3 (by omega) hA2 hz2 g2
     | with_reducible exact cB z4 (by omega) hA2 hz2 g2)
   case rest=>
    obtain⟨gx,bx,ax,nx,kx,rx,rfl,rfl,hx,hAx,hzx,hbx⟩:=hcut
    clear PW KS EU
    replace HA0:=ac (HA0.out.below hbx)
    replace HT:=ac (HT.out.below hbx)
    replace HB0:=ac (bt6 HB0.out hbx)
    replace HX0:=ac (ae hbx HX0.out)
    replace HXM:=ac (ae hbx HXM.out)
    replace HAM:=ac (HAM.out.below hbx)
    have HXX:=ac hx
    have HAX:=ac (And.intro hAx hzx)
    clear hbx hx hAx hzx hu1
    have KS:=ac (fun (W:World) (hg:Below wc.heap.size wc W)=>show W.cell? ⟨w.heap.size,0,none⟩=some (.bool b0)∧W.cell? ⟨w.heap.size,1,none⟩=some (.slice a0 z0.length n0)∧W.cell? ⟨w1.heap.size,0,none⟩=some (.bool false)∧W.cell? ⟨w1.heap.size,1,none⟩=some (.slice am nm km) from
     ⟨(duo (ae hg HX0.out)).1,(duo (ae hg HX0.out)).2,(duo (ae hg HXM.out)).1,(duo (ae hg HXM.out)).2⟩)
    have EU:=ac (fun (W:World) (hg:Below wc.heap.size wc W)=>fG b0 _ z0 _ rm p W (HA0.out.below hg) (HAM.out.below hg) (HT.out.below hg) (by omega) (by have:=HVM.out.2;omega) HVM.out.1 h2 h3)
    go_upto_region 10 with fail
    go_cut [9,10,11] from 44 to 50 (fun s q f wx=>bO wc ((er b0 (val z0) p:Nat):Int) (67108864<blen (val z0)) s q f wx)
    case first=>
     go_region_held3 (fun w'=>w'.cell? ⟨w.heap.size,0,none⟩=some (.bool b0)∧w'.cell? ⟨w.heap.size,1,none⟩=some (.slice a0 z0.length n0)∧w'.cell? ⟨w1.heap.size,0,none⟩=some (.bool false)∧w'.cell? ⟨w1.heap.size,1,none⟩=some (.slice am nm km)) (first | (refine KS.out _ ?_;repeat (first|with_reducible assumption|with_reducible exact Below.refl _ _|with_reducible apply aM|with_reducible apply cR | (with_reducible refine aF ?_ (by omega))))) (first
      | (go_at_call 11;refine (IN.out _).mono ?_;rintro e' t1 ⟨rfl,hb1⟩;have g1:Below wc.heap.size wc t1:=bt6 (by repeat (first|with_reducible exact Below.refl _ _|with_reducible apply aM|with_reducible apply cR)) hb1;(first | (with_reducible have p1:=d6 hb1;with_reducible have p2:=eE hb1;have p1l:=lt_of_block p1) | (with_reducible have p1:=fF hb1;have p1l:=lt_of_block p1) | skip))
      | (go_at_call 12;refine (EU.out _ (by repeat (first|with_reducible exact g1|with_reducible apply aM))).mono ?_;rintro e' t2 ⟨⟨b2,a2,n2,k2,b3,a3,n3,k3,c3,rfl,hR⟩,hb2⟩;have g2:Below wc.heap.size wc t2:=bt6 (by repeat (first|with_reducible exact g1|with_reducible apply aM)) hb2;have hle:=g1.size;(first | (with_reducible have z1:=ae hb2 p1;obtain⟨z10,z11⟩:=duo z1;have z1f:=ag z1;have z1c:=fun (o:Obj)=>aS z10 o;have z1d:=fun (o:Obj)=>aS z11 o;have z1g:=fun (o:Obj)=>bN z1 o;have z1l:=lt_of_block z1;have z1n:=fun (W:World) (j:Nat) (u:Value) (j':Nat)=>aD (w:=W) (g:=wc.heap.size) (k:=j) (g':=t2.heap.size) (k':=j') (u:=u) (Nat.ne_of_lt z1l);have z1m:=fun (W:World) (j:Nat) (u:Value) (j':Nat)=>aD (w:=W) (g:=t2.heap.size) (k:=j) (g':=wc.heap.size) (k':=j') (u:=u) (Nat.ne_of_gt z1l)) | (with_reducible have z1:=ae hb2 (aV p1 _);obtain⟨z10,z11⟩:=duo z1;have z1f:=ag z1;have z1c:=fun (o:Obj)=>aS z10 o;have z1d:=fun (o:Obj)=>aS z11 o;have z1g:=fun (o:Obj)=>bN z1 o;have z1l:=lt_of_block z1;have z1n:=fun (W:World) (j:Nat) (u:Value) (j':Nat)=>aD (w:=W) (g:=wc.heap.size) (k:=j) (g':=t2.heap.size) (k':=j') (u:=u) (Nat.ne_of_lt z1l);have z1m:=fun (W:World) (j:Nat) (u:Value) (j':Nat)=>aD (w:=W) (g:=t2.heap.size) (k:=j) (g':=wc.heap.size) (k':=j') (u:=u) (Nat.ne_of_gt z1l)) | skip);(first | (with_reducible have z2:=ae hb2 p2;obtain⟨z20,z21⟩:=duo z2;have z2f:=ag z2;have z2c:=fun (o:Obj)=>aS z20 o;have z2d:=fun (o:Obj)=>aS z21 o;have z2g:=fun (o:Obj)=>bN z2 o;have z2l:=lt_of_block z2;have z2n:=fun (W:World) (j:Nat) (u:Value) (j':Nat)=>aD (w:=W) (g:=wc.heap.size+1) (k:=j) (g':=t2.heap.size) (k':=j') (u:=u) (Nat.ne_of_lt z2l);have z2m:=fun (W:World) (j:Nat) (u:Value) (j':Nat)=>aD (w:=W) (g:=t2.heap.size) (k:=j) (g':=wc.heap.size+1) (k':=j') (u:=u) (Nat.ne_of_gt z2l)) | (with_reducible have z2:=ae hb2 (aV p2 _);obtain⟨z20,z21⟩:=duo z2;have z2f:=ag z2;have z2c:=fun (o:Obj)=>aS z20 o;have z2d:=fun (o:Obj)=>aS z21 o;have z2g:=fun (o:Obj)=>bN z2 o;have z2l:=lt_of_block z2;have z2n:=fun (W:World) (j:Nat) (u:Value) (j':Nat)=>aD (w:=W) (g:=wc.heap.size+1) (k:=j) (g':=t2.heap.size) (k':=j') (u:=u) (Nat.ne_of_lt z2l);have z2m:=fun (W:World) (j:Nat) (u:Value) (j':Nat)=>aD (w:=W) (g:=t2.heap.size) (k:=j) (g':=wc.heap.size+1) (k':=j') (u:=u) (Nat.ne_of_gt z2l)) | skip);(first | (with_reducible have z3:=dt hb2;obtain⟨z30,z31⟩:=duo z3;have z3f:=ag z3;have z3c:=fun (o:Obj)=>aS z30 o;have z3d:=fun (o:Obj)=>aS z31 o;have z3g:=fun (o:Obj)=>bN z3 o;have z3l:=lt_of_block z3;have z3n:=fun (W:World) (j:Nat) (u:Value) (j':Nat)=>aD (w:=W) (g:=t1.heap.size) (k:=j) (g':=t2.heap.size) (k':=j') (u:=u) (Nat.ne_of_lt z3l);have z3m:=fun (W:World) (j:Nat) (u:Value) (j':Nat)=>aD (w:=W) (g:=t2.heap.size) (k:=j) (g':=t1.heap.size) (k':=j') (u:=u) (Nat.ne_of_gt z3l)) | (with_reducible have z3:=dC hb2;obtain⟨z30,z31⟩:=duo z3;have z3f:=ag z3;have z3c:=fun (o:Obj)=>aS z30 o;have z3d:=fun (o:Obj)=>aS z31 o;have z3g:=fun (o:Obj)=>bN z3 o;have z3l:=lt_of_block z3;have z3n:=fun (W:World) (j:Nat) (u:Value) (j':Nat)=>aD (w:=W) (g:=t1.heap.size) (k:=j) (g':=t2.heap.size) (k':=j') (u:=u) (Nat.ne_of_lt z3l);have z3m:=fun (W:World) (j:Nat) (u:Value) (j':Nat)=>aD (w:=W) (g:=t2.heap.size) (k:=j) (g':=t1.heap.size) (k':=j') (u:=u) (Nat.ne_of_gt z3l)) | skip);(first | (with_reducible have z4:=dL hb2;obtain⟨z40,z41⟩:=duo z4;have z4f:=ag z4;have z4c:=fun (o:Obj)=>aS z40 o;have z4d:=fun (o:Obj)=>aS z41 o;have z4g:=fun (o:Obj)=>bN z4 o;have z4l:=lt_of_block z4;have z4n:=fun (W:World) (j:Nat) (u:Value) (j':Nat)=>aD (w:=W) (g:=t1.heap.size+1) (k:=j) (g':=t2.heap.size) (k':=j') (u:=u) (Nat.ne_of_lt z4l);have z4m:=fun (W:World) (j:Nat) (u:Value) (j':Nat)=>aD (w:=W) (g:=t2.heap.size) (k:=j) (g':=t1.heap.size+1) (k':=j') (u:=u) (Nat.ne_of_gt z4l)) | skip);(first | (have s12:=fun (W:World) (j:Nat) (u:Value) (j':Nat)=>(aD (w:=W) (g:=wc.heap.size) (k:=j) (g':=wc.heap.size+1) (k':=j') (u:=u) (Nat.ne_of_lt (Nat.lt_succ_self _)));have s21:=fun (W:World) (j:Nat) (u:Value) (j':Nat)=>(aD (w:=W) (g:=wc.heap.size+1) (k:=j) (g':=wc.heap.size) (k':=j') (u:=u) (Nat.ne_of_gt (Nat.lt_succ_self _)));have e12:=And.intro z1 z2;clear e12) | skip);(first | (have s34:=fun (W:World) (j:Nat) (u:Value) (j':Nat)=>(aD (w:=W) (g:=t1.heap.size) (k:=j) (g':=t1.heap.size+1) (k':=j') (u:=u) (Nat.ne_of_lt (Nat.lt_succ_self _)));have s43:=fun (W:World) (j:Nat) (u:Value) (j':Nat)=>(aD (w:=W) (g:=t1.heap.size+1) (k:=j) (g':=t1.heap.size) (k':=j') (u:=u) (Nat.ne_of_gt (Nat.lt_succ_self _)));have e34:=And.intro z3 z4;clear e34) | skip);(first | (have s13:=fun (W:World) (j:Nat) (u:Value) (j':Nat)=>(aD (w:=W) (g:=wc.heap.size) (k:=j) (g':=t1.heap.size) (k':=j') (u:=u) (Nat.ne_of_lt p1l));have s31:=fun (W:World) (j:Nat) (u:Value) (j':Nat)=>(aD (w:=W) (g:=t1.heap.size) (k:=j) (g':=wc.heap.size) (k':=j') (u:=u) (Nat.ne_of_gt p1l));have e13:=And.intro z1 z3;clear e13) | skip)))
     all_goals (go_wp2_with fail;go_meet;first
      | with_reducible exact jT hR g2
      | with_reducible exact jH hR g2
      | with_reducible exact ct z1 (by omega) hR g2
      | with_reducible exact cC z1 (by omega) hR g2
      | with_reducible exact cJ z1 (by omega) hR g2
      | with_reducible exact ct z2 (by omega) hR g2
      | with_reducible exact cC z2 (by omega) hR g2
      | with_reducible exact cJ z2 (by omega) hR g2
      | with_reducible exact ct z3 (by omega) hR g2
      | with_reducible exact cC z3 (by omega) hR g2
      | with_reducible exact cJ z3 (by omega) hR g2
      | with_reducible exact ct z4 (by omega) hR g2
      | with_reducible exact cC z4 (by omega) hR g2
      | with_reducible exact cJ z4 (by omega) hR g2
      | with_reducible exact bf z1 z2 (by omega) (by omega) (by omega) hR g2
      | with_reducible exact bf z1 z3 (by omega) (by omega) (by omega) hR g2
      | with_reducible exact bf z1 z4 (by omega) (by omega) (by omega) hR g2
      | with_reducible exact bf z2 z1 (by omega) (by omega) (by omega) hR g2
      | with_reducible exact bf z2 z3 (by omega) (by omega) (by omega) hR g2
      | with_reducible exact bf z2 z4 (by omega) (by omega) (by omega) hR g2
      | with_reducible exact bf z3 z1 (by omega) (by omega) (by omega) hR g2
      | with_reducible exact bf z3 z2 (by omega) (by omega) (by omega) hR g2
      | with_reducible exact bf z3 z4 (by omega) (by omega) (by omega) hR g2
      | with_reducible exact bf z4 z1 (by omega) (by omega) (by omega) hR g2
      | with_reducible exact bf z4 z2 (by omega) (by omega) (by omega) hR g2
      | with_reducible exact bf z4 z3 (by omega) (by omega) (by omega) hR g2)
    case rest=>
     obtain⟨gq,gr,br,ar,nr,kr,cr,rfl,rfl,rfl,hr,hR,hbx⟩:=hcut
     clear EU KS IN
     replace HA0:=ac (HA0.out.below hbx)
     replace HT:=ac (HT.out.below hbx)
     replace HB0:=ac (bt6 HB0.out hbx)
     have hx0:=ae hbx HX0.out
     have hxx:=ae hbx HXX.out
     have hax:=HAX.out.1.below hbx
     have CN0:=dI 0 wc
     have CN:=dI cr wc
     obtain⟨ca0,ca1⟩:=duo hx0
     obtain⟨cx0,cx1⟩:=duo hxx
     obtain⟨cr0,cr1⟩:=duo hr
     have KA:=ac (fun (W:World) (hg:Below wc.heap.size wc W)=>cO W (HT.out.below hg))
     rcases hR with ⟨hc0,rr,hArr,hzr⟩|⟨hc0,hbig⟩
     ·subst hc0
      have CS:=jr bx _ rx br _ rr wc hax hArr (by rw [HAX.out.2,hzr])
      clear hbx hx0 hxx hax hr hArr hzr
      go_wp2_with fail
      refine CN0.mono ?_
      rintro e wn ⟨rfl,hw⟩;rw [hw];clear hw wn CN0
      go_wp2_with fail
      refine CN.mono ?_
      rintro e wn ⟨rfl,hw⟩;rw [hw];clear hw wn
      go_wp2_with fail
      refine CN.mono ?_
      rintro e wn ⟨rfl,hw⟩;rw [hw];clear hw wn CN
      go_wp2_with fail
      refine CS.mono ?_
      rintro e w6 ⟨rfl,hb6⟩
      have CA:=KA.out w6 hb6
      replace HB0:=ac (bt6 HB0.out hb6)
      clear CS hb6
      go_wp2_with fail
      refine CA.mono ?_
      rintro e w7 ⟨rfl,hb7⟩
      replace HB0:=ac (bt6 HB0.out hb7)
      clear CA hb7 ca0 ca1 cx0 cx1 cr0 cr1
      go_wp2
      go_ret
      exact⟨rfl,HB0.out⟩
     ·have hne:(cr == 0)=false:=by rw [beq_eq_false_iff_ne];exact hc0
      have CO:=gw b0 _ z0 wc HA0.out (by omega)
      have hza:=au b0 (val z0)
      obtain⟨lz,hlz⟩:∃lz,blen (val z0)=lz:=⟨_,rfl⟩
      rw [hlz] at hbig
      have hbi:(67108864:Int)<(lz:Int):=by omega
      have HLZ:=ac (And.intro hza hlz)
      have hne2:¬cr=0:=hc0
      have hne3:decide (cr=0)=false:=decide_eq_false hc0
      clear hbx hx0 hxx hax hr hc0 hza hlz
      go_wp2_with fail
      refine CN0.mono ?_
      rintro e wn ⟨rfl,hw⟩;rw [hw];clear hw wn CN0
      go_wp2_with fail
      refine CN.mono ?_
      rintro e wn ⟨rfl,hw⟩;rw [hw];clear hw wn CN
      go_wp2_with fail
      refine CO.mono ?_
      rintro e w6 ⟨⟨bo,ao,no,ko,rfl,hzo⟩,hb6⟩
      obtain⟨uo,huo,hno⟩:=hzo
      obtain⟨_,rfl⟩:bo=decide (zz b0 (val z0)<0)∧uo=.slice ao no ko:=by simp at huo;exact⟨huo.1,huo.2.symm⟩
      have CL:=jF _ _ w6 hno
      rw [HLZ.out.1,HLZ.out.2] at CL
      have CA:=KA.out w6 hb6
      replace HB0:=ac (bt6 HB0.out hb6)
      clear CO hb6 hno huo
      go_wp2_with fail
      refine CL.mono ?_
      rintro e wn ⟨rfl,hw⟩;rw [hw];clear hw wn CL
      go_wp2_with fail
      refine CA.mono ?_
      rintro e w7 ⟨rfl,hb7⟩
      replace HB0:=ac (bt6 HB0.out hb7)
      clear CA hb7 ca0 ca1 cx0 cx1 cr0 cr1
      go_wp2
      go_ret
      exact⟨rfl,HB0.out⟩

end Go.Proofs.YtemgogeokkeipaaGreatDoor
