/- The document's whole numbers: Is, Sign, Neg, Abs, Cmp, Add, Sub, Mul. -/
import Derived.Test.YtcbpdngogkbndaaGreatDoorB10
import Derived.Test.YtcbpdngogkbndaaGreatDoorB02
import Derived.Test.YtcbpdngogkbndaaGreatDoorB09
import Derived.Deep.RegionHeld3
import Derived.Test.YtcbpdngogkbndaaGreatDoorB01
import Derived.Test.YtcbpdngogkbndaaGreatDoorB05
set_option maxRecDepth 20000
set_option maxHeartbeats 2000000
namespace Go.Proofs.YtcbpdngogkbndaaGreatDoor
open Go.RowKit
open Lm
attribute [local go_sem ↓] Go.wp_at_zero Go.wp_at_succ

theorem Zn.parts {w:World}{v:Value}{z:Int}(h:Zn w v z):∃b a n k,v=.agg #[.bool b,.slice a n k]∧b=decide (z<0)∧Num w (.slice a n k) z.natAbs∧z=zz b z.natAbs:=by
 obtain⟨u,h1,h2⟩:=h
 obtain⟨a,n,k,rfl⟩:=h2.sl
 exact⟨_,a,n,k,h1,rfl,h2,(jT z).symm⟩

theorem Num.drew6 {w:World}{v:Value}{x:Nat}(h:Num w v x):Num w.drew v x:=h.below (Below.refl _ _).drew

theorem Zn.drew6 {w:World}{v:Value}{z:Int}(h:Zn w v z):Zn w.drew v z:=h.below (Below.refl _ _).drew

theorem cv {w w':World}(h:Below w.drew.heap.size w.drew w'):Below w.heap.size w w':=(Below.refl w.heap.size w).drew.trans h

theorem ac {w w':World}{g o:Nat}{v:Value}(hb:Below w.heap.size w w')(h:w.cell? ⟨g,o,none⟩=some v):w'.cell? ⟨g,o,none⟩=some v:=by
 rw [hb.cell (p:=⟨g,o,none⟩) ?_]
 ·exact h
 ·show g<w.heap.size
  rcases Nat.lt_or_ge g w.heap.size with h' | h'
  ·exact h'
  ·simp [World.cell?,Array.getElem?_eq_none h'] at h

theorem kf (v:Value)(z:Int)(w:World)(h:Zn w v z):Calls Tryz.prog 53 #[v] w (bf w (-z)):=by
 obtain⟨b,a,n,k,rfl,hb,hn,hz⟩:=h.parts
 obtain⟨w0,hw0,hb0,h0,hx0⟩:=cu w (.cells #[.bool b,.slice a n k] 32) (.cells #[.bool false,.slice none 0 0] 32)
 obtain⟨k0,k1⟩:=duo h0
 have HM:=bJ (!b) _ z.natAbs w0 (hn.below hb0)
 rw [od,←hz] at HM
 have HB0:=aa hb0
 have HX0:=aa hx0
 clear h hb hn hz hb0 h0 hx0
 go_enter Tryz.func53,Tryz.ntmps53
 go_wp2_with fail
 refine HM.mono ?_
 rintro e w1 ⟨⟨b1,a1,n1,k1,rfl,hzn⟩,hb1⟩
 have HZN:=aa hzn
 have HW:=aa hb1
 clear hzn hb1 HM hw0 k0
 have hbx:=ab HW.out HX0.out
 have hf1:=af hbx
 obtain⟨l0,l1⟩:=duo hbx
 have HBX:=aa hbx
 have HBE:=aa (HB0.out.trans (HW.out.mono HB0.out.size))
 clear hbx
 go_wp2
 have R5:=av HBX.out (a':=.bool b1) (b':=.slice a1 n1 k1)
 have HD:=aa (And.intro (HZN.out.duo (p1:=b1) (r1:=.slice a1 n1 k1) HBX.out) (az HBE.out (g:=w.heap.size+1) (u0:=.bool b1) (u1:=.slice a1 n1 k1) (by omega)))
 generalize (w1.setCell ⟨w.heap.size+1,0,none⟩ (.bool b1)).setCell ⟨w.heap.size+1,1,none⟩ (.slice a1 n1 k1)=w5 at *
 obtain⟨q0,q1⟩:=duo R5
 refine bodyPost_ret (v:=.agg #[.bool b1,.slice a1 n1 k1]) (by simp [results,Tryz.results53,go_sem,q0,q1]) rfl ?_
 exact⟨⟨_,_,_,_,rfl,HD.out.1⟩,HD.out.2⟩

theorem mQ {w:World}{v u:Value}{x:Nat}{rs:List Nat}(hn:Num w v x)(ha:Arg w u rs)(ht:tr rs=rs)(hv:val rs=x)(hf:blen x≤1125899906842624) :
  Calls Tryz.prog 77 #[v,u] w fun e w'=>e=.returned (.bool true)∧Below w.heap.size w w':=iX v u x rs w hn ha ht hv hf

theorem fp (v:Value)(z:Int)(u:Value)(rs:List Nat)(w:World)(h:Zn w v z)(ha:Arg w u rs)(ht:tr rs=rs)(hv:val rs=z.natAbs)(hf:blen z.natAbs≤1125899906842624) :
  Calls Tryz.prog 48 #[v,.bool (decide (z<0)),u] w fun e w'=>e=.returned (.bool true)∧Below w.heap.size w w':=by
 obtain⟨b,a,n,k,rfl,hb,hn,hz⟩:=h.parts
 rw [←hb]
 obtain⟨w0,hw0,hb0,h0⟩:=aB w (.cells #[.bool b,.slice a n k] 32)
 obtain⟨k0,k1⟩:=duo h0
 obtain⟨a2,k2,rfl,_,_,_⟩:=ha.form
 have HI:=mQ (hn.below hb0) (ha.below hb0) ht hv hf
 have HB0:=aa hb0
 clear h hn hz hb0 h0 ha hb hv hf ht
 have hbb:(b == b)=true:=by simp
 go_enter Tryz.func48,Tryz.ntmps48
 go_wp2_with fail
 refine HI.mono ?_
 rintro e w1 ⟨rfl,hb1⟩
 have HB1:=aa (HB0.out.trans (hb1.mono HB0.out.size))
 clear hb1 HI
 go_wp2
 go_ret
 exact⟨rfl,HB1.out⟩

theorem lk (v:Value)(z:Int)(w:World)(h:Zn w v z):Calls Tryz.prog 15 #[v] w fun e w'=>e=.returned (.int .i64 z.sign)∧Below w.heap.size w w':=by
 obtain⟨b,a,n,k,rfl,hb,hn,hz⟩:=h.parts
 obtain⟨w0,hw0,hb0,h0⟩:=aB w (.cells #[.bool b,.slice a n k] 32)
 obtain⟨k0,k1⟩:=duo h0
 have HZ:=gb _ z.natAbs w0 (hn.below hb0)
 have HB0:=aa hb0
 clear h hn hb0 h0 hz
 by_cases hneg:z<0
 ·rw [decide_eq_true hneg] at hb
  subst hb
  rw [Int.sign_eq_neg_one_of_neg hneg]
  go_enter Tryz.func15,Tryz.ntmps15
  go_wp2
  go_ret
  exact⟨rfl,HB0.out⟩
 ·rw [decide_eq_false hneg] at hb
  subst hb
  by_cases h0:z=0
  ·subst h0
   rw [Int.sign_zero]
   simp only [Int.natAbs_zero,beq_self_eq_true] at HZ
   go_enter Tryz.func15,Tryz.ntmps15
   go_wp2_with fail
   refine HZ.mono ?_
   rintro e wn ⟨rfl,hw⟩;rw [hw];clear hw wn HZ
   go_wp2
   go_ret
   exact⟨rfl,HB0.out⟩
  ·rw [Int.sign_eq_one_of_pos (by omega)]
   have hne:(z.natAbs == 0)=false:=by rw [beq_eq_false_iff_ne];omega
   rw [hne] at HZ
   go_enter Tryz.func15,Tryz.ntmps15
   go_wp2_with fail
   refine HZ.mono ?_
   rintro e wn ⟨rfl,hw⟩;rw [hw];clear hw wn HZ
   go_wp2
   go_ret
   exact⟨rfl,HB0.out⟩

theorem gI (v1 v2:Value)(y z:Int)(w:World)(h1:Zn w v1 y)(h2:Zn w v2 z)(hf1:blen y.natAbs≤1125899906840000)(hf2:blen z.natAbs≤1125899906840000) :
  Calls Tryz.prog 52 #[v1,v2] w (bf w (y+z)):=by
 obtain⟨b,a,n,k,rfl,hb,hn,hz⟩:=h1.parts
 obtain⟨b2,a2,n2,k2,rfl,hb2,hn2,hz2⟩:=h2.parts
 obtain⟨w0,hw0,hb0,h0,h1',hx0⟩:=bP w (.cells #[.bool b,.slice a n k] 32) (.cells #[.bool b2,.slice a2 n2 k2] 32) (.cells #[.bool false,.slice none 0 0] 32)
 obtain⟨c0,c1⟩:=duo h0
 obtain⟨c2,c3⟩:=duo h1'
 have HB0:=aa hb0
 have HX0:=aa hx0
 have hso:∀(W:World) (k:Nat) (u:Value) (k':Nat),(W.setCell ⟨w.heap.size+2,k,none⟩ u).cell? ⟨w.heap.size,k',none⟩=W.cell? ⟨w.heap.size,k',none⟩:=fun W k u k'=>aN (by omega)
 have hso2:∀(W:World) (k:Nat) (u:Value) (k':Nat),(W.setCell ⟨w.heap.size+2,k,none⟩ u).cell? ⟨w.heap.size+1,k',none⟩=W.cell? ⟨w.heap.size+1,k',none⟩:=fun W k u k'=>aN (by omega)
 cases b <;> cases b2
 ·have HM:=fU _ _ y.natAbs z.natAbs w0.drew (hn.below hb0).drew6 (hn2.below hb0).drew6 hf1 hf2
  have HEQ:Hid (zz false (y.natAbs+z.natAbs)=y+z):=by
   refine aa ?_
   rw [←gG,←hz,←hz2]
  have HMK:=aa (fun (w1:World) (v:Value) (hv:Num w1 v (y.natAbs+z.natAbs))=>bJ false v _ w1 hv)
  have HXD:=aa (show w0.drew.heap[w.heap.size+2]?=some (.cells #[.bool false,.slice none 0 0] 32) from hx0)
  obtain⟨d0,d1⟩:=duo (show w0.drew.heap[w.heap.size]?=some (.cells #[.bool false,.slice a n k] 32) from h0)
  obtain⟨d2,d3⟩:=duo (show w0.drew.heap[w.heap.size+1]?=some (.cells #[.bool false,.slice a2 n2 k2] 32) from h1')
  clear h1 h2 hn hn2 hb hb2 hz hz2 hb0 h0 h1' hx0
  go_enter Tryz.func52,Tryz.ntmps52
  go_wp2
  go_region_held3 (fun w'=>w'.cell? ⟨w.heap.size,0,none⟩=some (.bool false)∧w'.cell? ⟨w.heap.size,1,none⟩=some (.slice a n k)∧w'.cell? ⟨w.heap.size+1,0,none⟩=some (.bool false)∧w'.cell? ⟨w.heap.size+1,1,none⟩=some (.slice a2 n2 k2)) (go_keep) (first
   | (go_at_call 78;refine HM.mono ?_;rintro e' w1 ⟨⟨v1,rfl,N1⟩,hb1⟩;have x0:=ac hb1 d0;have x1:=ac hb1 d1;have x2:=ac hb1 d2;have x3:=ac hb1 d3)
   | (go_at_call 50;refine (HMK.out w1 _ N1).mono ?_;rintro e' w2 ⟨⟨b1,a1,n1,k1,rfl,hzn⟩,hb2⟩;have y0:=ac hb2 x0;have y1:=ac hb2 x1;have y2:=ac hb2 x2;have y3:=ac hb2 x3;have hz4:=ab hb2 (ab hb1 HXD.out);have hf4:=af hz4;obtain⟨t0,t1⟩:=duo hz4))
  have hb1':=cv hb1
  rw [HEQ.out] at hzn
  have HZN:=aa hzn
  have HBX:=aa hz4
  have HBE:=aa (HB0.out.trans ((hb1'.trans (hb2.mono hb1'.size)).mono HB0.out.size))
  have R5:=av HBX.out (a':=.bool b1) (b':=.slice a1 n1 k1)
  have HD:=aa (And.intro (HZN.out.duo (p1:=b1) (r1:=.slice a1 n1 k1) HBX.out) (az HBE.out (g:=w.heap.size+2) (u0:=.bool b1) (u1:=.slice a1 n1 k1) (by omega)))
  clear hso hso2 hf4 t0 t1 y0 y1 y2 y3 x0 x1 x2 x3 hz4 N1 hb1 hb1' hb2 hzn
  generalize (w2.setCell ⟨w.heap.size+2,0,none⟩ (.bool b1)).setCell ⟨w.heap.size+2,1,none⟩ (.slice a1 n1 k1)=w5 at *
  obtain⟨q0,q1⟩:=duo R5
  go_wp2
  refine bodyPost_ret (v:=.agg #[.bool b1,.slice a1 n1 k1]) (by simp [results,Tryz.results52,go_sem,q0,q1]) rfl ?_
  exact⟨⟨_,_,_,_,rfl,HD.out.1⟩,HD.out.2⟩
 ·have HC:=f9 _ _ y.natAbs z.natAbs w0 (hn.below hb0) (hn2.below hb0)
  have HN:=aa (hn.below hb0)
  have HN2:=aa (hn2.below hb0)
  have HK0:=aa h0
  have HK1:=aa h1'
  clear h1 h2 hn hn2 hb hb2 hb0 h0 h1' hx0
  by_cases hle:z.natAbs≤y.natAbs
  ·obtain⟨cc,hcc,hc0⟩:∃cc:Int,cmpN y.natAbs z.natAbs=cc∧0≤cc:=⟨_,rfl,by unfold cmpN;rw [if_neg (by omega)];split <;> omega⟩
   rw [hcc] at HC
   clear hcc
   have hz9:=gF false (x:=y.natAbs) (y:=z.natAbs) (by omega)
   rw [show (!false)=true from rfl,←hz,←hz2] at hz9
   have HEQ:Hid (zz false (y.natAbs - z.natAbs)=y+z):=aa hz9.symm
   have HMK:=aa (fun (w1:World) (v:Value) (hv:Num w1 v (y.natAbs - z.natAbs))=>bJ false v _ w1 hv)
   have HLE:=aa hle
   clear hz hz2 hz9 hle
   go_enter Tryz.func52,Tryz.ntmps52
   go_wp2_with fail
   refine HC.mono ?_
   rintro e ws ⟨rfl,hs⟩
   have hbs:Below w0.heap.size w0 ws:=hs.below _
   have hbw:=HB0.out.trans (hbs.mono HB0.out.size)
   have HM:=dv _ _ y.natAbs z.natAbs ws.drew (HN.out.below hbs).drew6 (HN2.out.below hbs).drew6 (by have:=HLE.out;omega) hf1
   have HXD:=aa (show ws.drew.heap[w.heap.size+2]?=some (.cells #[.bool false,.slice none 0 0] 32) from ab hbs.drew HX0.out)
   obtain⟨d0,d1⟩:=duo (show ws.drew.heap[w.heap.size]?=some (.cells #[.bool false,.slice a n k] 32) from ab hbs.drew HK0.out)
   obtain⟨d2,d3⟩:=duo (show ws.drew.heap[w.heap.size+1]?=some (.cells #[.bool true,.slice a2 n2 k2] 32) from ab hbs.drew HK1.out)
   obtain⟨f0,f1⟩:=duo (ab hbs HK0.out)
   obtain⟨f2,f3⟩:=duo (ab hbs HK1.out)
   clear HB0
   have HB0:=aa hbw
   clear hbs hs HC hbw c0 c1 c2 c3
   go_wp2
   go_region_held3 (fun w'=>w'.cell? ⟨w.heap.size,0,none⟩=some (.bool false)∧w'.cell? ⟨w.heap.size,1,none⟩=some (.slice a n k)∧w'.cell? ⟨w.heap.size+1,0,none⟩=some (.bool true)∧w'.cell? ⟨w.heap.size+1,1,none⟩=some (.slice a2 n2 k2)) (go_keep) (first
    | (go_at_call 44;refine HM.mono ?_;rintro e' w1 ⟨⟨v1,rfl,N1⟩,hb1⟩;have x0:=ac hb1 d0;have x1:=ac hb1 d1;have x2:=ac hb1 d2;have x3:=ac hb1 d3)
    | (go_at_call 50;refine (HMK.out w1 _ N1).mono ?_;rintro e' w2 ⟨⟨b1,a1,n1,k1,rfl,hzn⟩,hb2⟩;have y0:=ac hb2 x0;have y1:=ac hb2 x1;have y2:=ac hb2 x2;have y3:=ac hb2 x3;have hz4:=ab hb2 (ab hb1 HXD.out);have hf4:=af hz4;obtain⟨t0,t1⟩:=duo hz4))
   have hb1':=cv hb1
   rw [HEQ.out] at hzn
   have HZN:=aa hzn
   have HBX:=aa hz4
   have HBE:=aa (HB0.out.trans ((hb1'.trans (hb2.mono hb1'.size)).mono HB0.out.size))
   have R5:=av HBX.out (a':=.bool b1) (b':=.slice a1 n1 k1)
   have HD:=aa (And.intro (HZN.out.duo (p1:=b1) (r1:=.slice a1 n1 k1) HBX.out) (az HBE.out (g:=w.heap.size+2) (u0:=.bool b1) (u1:=.slice a1 n1 k1) (by omega)))
   clear hso hso2 hf4 t0 t1 y0 y1 y2 y3 x0 x1 x2 x3 hz4 N1 hb1 hb1' hb2 hzn
   generalize (w2.setCell ⟨w.heap.size+2,0,none⟩ (.bool b1)).setCell ⟨w.heap.size+2,1,none⟩ (.slice a1 n1 k1)=w5 at *
   obtain⟨q0,q1⟩:=duo R5
   go_wp2
   refine bodyPost_ret (v:=.agg #[.bool b1,.slice a1 n1 k1]) (by simp [results,Tryz.results52,go_sem,q0,q1]) rfl ?_
   exact⟨⟨_,_,_,_,rfl,HD.out.1⟩,HD.out.2⟩
  ·rw [cmpN_lt (by omega)] at HC
   have hz9:=fB false (x:=y.natAbs) (y:=z.natAbs) (by omega)
   rw [show (!false)=true from rfl,←hz,←hz2] at hz9
   have HEQ:Hid (zz true (z.natAbs - y.natAbs)=y+z):=aa hz9.symm
   have HMK:=aa (fun (w1:World) (v:Value) (hv:Num w1 v (z.natAbs - y.natAbs))=>bJ true v _ w1 hv)
   have HLE:=aa hle
   clear hz hz2 hz9 hle
   go_enter Tryz.func52,Tryz.ntmps52
   go_wp2_with fail
   refine HC.mono ?_
   rintro e ws ⟨rfl,hs⟩
   have hbs:Below w0.heap.size w0 ws:=hs.below _
   have hbw:=HB0.out.trans (hbs.mono HB0.out.size)
   have HM:=dv _ _ z.natAbs y.natAbs ws.drew (HN2.out.below hbs).drew6 (HN.out.below hbs).drew6 (by have:=HLE.out;omega) hf2
   have HXD:=aa (show ws.drew.heap[w.heap.size+2]?=some (.cells #[.bool false,.slice none 0 0] 32) from ab hbs.drew HX0.out)
   obtain⟨d0,d1⟩:=duo (show ws.drew.heap[w.heap.size]?=some (.cells #[.bool false,.slice a n k] 32) from ab hbs.drew HK0.out)
   obtain⟨d2,d3⟩:=duo (show ws.drew.heap[w.heap.size+1]?=some (.cells #[.bool true,.slice a2 n2 k2] 32) from ab hbs.drew HK1.out)
   obtain⟨f0,f1⟩:=duo (ab hbs HK0.out)
   obtain⟨f2,f3⟩:=duo (ab hbs HK1.out)
   clear HB0
   have HB0:=aa hbw
   clear hbs hs HC hbw c0 c1 c2 c3
   go_wp2
   go_region_held3 (fun w'=>w'.cell? ⟨w.heap.size,0,none⟩=some (.bool false)∧w'.cell? ⟨w.heap.size,1,none⟩=some (.slice a n k)∧w'.cell? ⟨w.heap.size+1,0,none⟩=some (.bool true)∧w'.cell? ⟨w.heap.size+1,1,none⟩=some (.slice a2 n2 k2)) (go_keep) (first
    | (go_at_call 44;refine HM.mono ?_;rintro e' w1 ⟨⟨v1,rfl,N1⟩,hb1⟩;have x0:=ac hb1 d0;have x1:=ac hb1 d1;have x2:=ac hb1 d2;have x3:=ac hb1 d3)
    | (go_at_call 50;refine (HMK.out w1 _ N1).mono ?_;rintro e' w2 ⟨⟨b1,a1,n1,k1,rfl,hzn⟩,hb2⟩;have y0:=ac hb2 x0;have y1:=ac hb2 x1;have y2:=ac hb2 x2;have y3:=ac hb2 x3;have hz4:=ab hb2 (ab hb1 HXD.out);have hf4:=af hz4;obtain⟨t0,t1⟩:=duo hz4))
   have hb1':=cv hb1
   rw [HEQ.out] at hzn
   have HZN:=aa hzn
   have HBX:=aa hz4
   have HBE:=aa (HB0.out.trans ((hb1'.trans (hb2.mono hb1'.size)).mono HB0.out.size))
   have R5:=av HBX.out (a':=.bool b1) (b':=.slice a1 n1 k1)
   have HD:=aa (And.intro (HZN.out.duo (p1:=b1) (r1:=.slice a1 n1 k1) HBX.out) (az HBE.out (g:=w.heap.size+2) (u0:=.bool b1) (u1:=.slice a1 n1 k1) (by omega)))
   clear hso hso2 hf4 t0 t1 y0 y1 y2 y3 x0 x1 x2 x3 hz4 N1 hb1 hb1' hb2 hzn
   generalize (w2.setCell ⟨w.heap.size+2,0,none⟩ (.bool b1)).setCell ⟨w.heap.size+2,1,none⟩ (.slice a1 n1 k1)=w5 at *
   obtain⟨q0,q1⟩:=duo R5
   go_wp2
   refine bodyPost_ret (v:=.agg #[.bool b1,.slice a1 n1 k1]) (by simp [results,Tryz.results52,go_sem,q0,q1]) rfl ?_
   exact⟨⟨_,_,_,_,rfl,HD.out.1⟩,HD.out.2⟩
 ·have HC:=f9 _ _ y.natAbs z.natAbs w0 (hn.below hb0) (hn2.below hb0)
  have HN:=aa (hn.below hb0)
  have HN2:=aa (hn2.below hb0)
  have HK0:=aa h0
  have HK1:=aa h1'
  clear h1 h2 hn hn2 hb hb2 hb0 h0 h1' hx0
  by_cases hle:z.natAbs≤y.natAbs
  ·obtain⟨cc,hcc,hc0⟩:∃cc:Int,cmpN y.natAbs z.natAbs=cc∧0≤cc:=⟨_,rfl,by unfold cmpN;rw [if_neg (by omega)];split <;> omega⟩
   rw [hcc] at HC
   clear hcc
   have hz9:=gF true (x:=y.natAbs) (y:=z.natAbs) (by omega)
   rw [show (!true)=false from rfl,←hz,←hz2] at hz9
   have HEQ:Hid (zz true (y.natAbs - z.natAbs)=y+z):=aa hz9.symm
   have HMK:=aa (fun (w1:World) (v:Value) (hv:Num w1 v (y.natAbs - z.natAbs))=>bJ true v _ w1 hv)
   have HLE:=aa hle
   clear hz hz2 hz9 hle
   go_enter Tryz.func52,Tryz.ntmps52
   go_wp2_with fail
   refine HC.mono ?_
   rintro e ws ⟨rfl,hs⟩
   have hbs:Below w0.heap.size w0 ws:=hs.below _
   have hbw:=HB0.out.trans (hbs.mono HB0.out.size)
   have HM:=dv _ _ y.natAbs z.natAbs ws.drew (HN.out.below hbs).drew6 (HN2.out.below hbs).drew6 (by have:=HLE.out;omega) hf1
   have HXD:=aa (show ws.drew.heap[w.heap.size+2]?=some (.cells #[.bool false,.slice none 0 0] 32) from ab hbs.drew HX0.out)
   obtain⟨d0,d1⟩:=duo (show ws.drew.heap[w.heap.size]?=some (.cells #[.bool true,.slice a n k] 32) from ab hbs.drew HK0.out)
   obtain⟨d2,d3⟩:=duo (show ws.drew.heap[w.heap.size+1]?=some (.cells #[.bool false,.slice a2 n2 k2] 32) from ab hbs.drew HK1.out)
   obtain⟨f0,f1⟩:=duo (ab hbs HK0.out)
   obtain⟨f2,f3⟩:=duo (ab hbs HK1.out)
   clear HB0
   have HB0:=aa hbw
   clear hbs hs HC hbw c0 c1 c2 c3
   go_wp2
   go_region_held3 (fun w'=>w'.cell? ⟨w.heap.size,0,none⟩=some (.bool true)∧w'.cell? ⟨w.heap.size,1,none⟩=some (.slice a n k)∧w'.cell? ⟨w.heap.size+1,0,none⟩=some (.bool false)∧w'.cell? ⟨w.heap.size+1,1,none⟩=some (.slice a2 n2 k2)) (go_keep) (first
    | (go_at_call 44;refine HM.mono ?_;rintro e' w1 ⟨⟨v1,rfl,N1⟩,hb1⟩;have x0:=ac hb1 d0;have x1:=ac hb1 d1;have x2:=ac hb1 d2;have x3:=ac hb1 d3)
    | (go_at_call 50;refine (HMK.out w1 _ N1).mono ?_;rintro e' w2 ⟨⟨b1,a1,n1,k1,rfl,hzn⟩,hb2⟩;have y0:=ac hb2 x0;have y1:=ac hb2 x1;have y2:=ac hb2 x2;have y3:=ac hb2 x3;have hz4:=ab hb2 (ab hb1 HXD.out);have hf4:=af hz4;obtain⟨t0,t1⟩:=duo hz4))
   have hb1':=cv hb1
   rw [HEQ.out] at hzn
   have HZN:=aa hzn
   have HBX:=aa hz4
   have HBE:=aa (HB0.out.trans ((hb1'.trans (hb2.mono hb1'.size)).mono HB0.out.size))
   have R5:=av HBX.out (a':=.bool b1) (b':=.slice a1 n1 k1)
   have HD:=aa (And.intro (HZN.out.duo (p1:=b1) (r1:=.slice a1 n1 k1) HBX.out) (az HBE.out (g:=w.heap.size+2) (u0:=.bool b1) (u1:=.slice a1 n1 k1) (by omega)))
   clear hso hso2 hf4 t0 t1 y0 y1 y2 y3 x0 x1 x2 x3 hz4 N1 hb1 hb1' hb2 hzn
   generalize (w2.setCell ⟨w.heap.size+2,0,none⟩ (.bool b1)).setCell ⟨w.heap.size+2,1,none⟩ (.slice a1 n1 k1)=w5 at *
   obtain⟨q0,q1⟩:=duo R5
   go_wp2
   refine bodyPost_ret (v:=.agg #[.bool b1,.slice a1 n1 k1]) (by simp [results,Tryz.results52,go_sem,q0,q1]) rfl ?_
   exact⟨⟨_,_,_,_,rfl,HD.out.1⟩,HD.out.2⟩
  ·rw [cmpN_lt (by omega)] at HC
   have hz9:=fB true (x:=y.natAbs) (y:=z.natAbs) (by omega)
   rw [show (!true)=false from rfl,←hz,←hz2] at hz9
   have HEQ:Hid (zz false (z.natAbs - y.natAbs)=y+z):=aa hz9.symm
   have HMK:=aa (fun (w1:World) (v:Value) (hv:Num w1 v (z.natAbs - y.natAbs))=>bJ false v _ w1 hv)
   have HLE:=aa hle
   clear hz hz2 hz9 hle
   go_enter Tryz.func52,Tryz.ntmps52
   go_wp2_with fail
   refine HC.mono ?_
   rintro e ws ⟨rfl,hs⟩
   have hbs:Below w0.heap.size w0 ws:=hs.below _
   have hbw:=HB0.out.trans (hbs.mono HB0.out.size)
   have HM:=dv _ _ z.natAbs y.natAbs ws.drew (HN2.out.below hbs).drew6 (HN.out.below hbs).drew6 (by have:=HLE.out;omega) hf2
   have HXD:=aa (show ws.drew.heap[w.heap.size+2]?=some (.cells #[.bool false,.slice none 0 0] 32) from ab hbs.drew HX0.out)
   obtain⟨d0,d1⟩:=duo (show ws.drew.heap[w.heap.size]?=some (.cells #[.bool true,.slice a n k] 32) from ab hbs.drew HK0.out)
   obtain⟨d2,d3⟩:=duo (show ws.drew.heap[w.heap.size+1]?=some (.cells #[.bool false,.slice a2 n2 k2] 32) from ab hbs.drew HK1.out)
   obtain⟨f0,f1⟩:=duo (ab hbs HK0.out)
   obtain⟨f2,f3⟩:=duo (ab hbs HK1.out)
   clear HB0
   have HB0:=aa hbw
   clear hbs hs HC hbw c0 c1 c2 c3
   go_wp2
   go_region_held3 (fun w'=>w'.cell? ⟨w.heap.size,0,none⟩=some (.bool true)∧w'.cell? ⟨w.heap.size,1,none⟩=some (.slice a n k)∧w'.cell? ⟨w.heap.size+1,0,none⟩=some (.bool false)∧w'.cell? ⟨w.heap.size+1,1,none⟩=some (.slice a2 n2 k2)) (go_keep) (first
    | (go_at_call 44;refine HM.mono ?_;rintro e' w1 ⟨⟨v1,rfl,N1⟩,hb1⟩;have x0:=ac hb1 d0;have x1:=ac hb1 d1;have x2:=ac hb1 d2;have x3:=ac hb1 d3)
    | (go_at_call 50;refine (HMK.out w1 _ N1).mono ?_;rintro e' w2 ⟨⟨b1,a1,n1,k1,rfl,hzn⟩,hb2⟩;have y0:=ac hb2 x0;have y1:=ac hb2 x1;have y2:=ac hb2 x2;have y3:=ac hb2 x3;have hz4:=ab hb2 (ab hb1 HXD.out);have hf4:=af hz4;obtain⟨t0,t1⟩:=duo hz4))
   have hb1':=cv hb1
   rw [HEQ.out] at hzn
   have HZN:=aa hzn
   have HBX:=aa hz4
   have HBE:=aa (HB0.out.trans ((hb1'.trans (hb2.mono hb1'.size)).mono HB0.out.size))
   have R5:=av HBX.out (a':=.bool b1) (b':=.slice a1 n1 k1)
   have HD:=aa (And.intro (HZN.out.duo (p1:=b1) (r1:=.slice a1 n1 k1) HBX.out) (az HBE.out (g:=w.heap.size+2) (u0:=.bool b1) (u1:=.slice a1 n1 k1) (by omega)))
   clear hso hso2 hf4 t0 t1 y0 y1 y2 y3 x0 x1 x2 x3 hz4 N1 hb1 hb1' hb2 hzn
   generalize (w2.setCell ⟨w.heap.size+2,0,none⟩ (.bool b1)).setCell ⟨w.heap.size+2,1,none⟩ (.slice a1 n1 k1)=w5 at *
   obtain⟨q0,q1⟩:=duo R5
   go_wp2
   refine bodyPost_ret (v:=.agg #[.bool b1,.slice a1 n1 k1]) (by simp [results,Tryz.results52,go_sem,q0,q1]) rfl ?_
   exact⟨⟨_,_,_,_,rfl,HD.out.1⟩,HD.out.2⟩
 ·have HM:=fU _ _ y.natAbs z.natAbs w0.drew (hn.below hb0).drew6 (hn2.below hb0).drew6 hf1 hf2
  have HEQ:Hid (zz true (y.natAbs+z.natAbs)=y+z):=by
   refine aa ?_
   rw [←gG,←hz,←hz2]
  have HMK:=aa (fun (w1:World) (v:Value) (hv:Num w1 v (y.natAbs+z.natAbs))=>bJ true v _ w1 hv)
  have HXD:=aa (show w0.drew.heap[w.heap.size+2]?=some (.cells #[.bool false,.slice none 0 0] 32) from hx0)
  obtain⟨d0,d1⟩:=duo (show w0.drew.heap[w.heap.size]?=some (.cells #[.bool true,.slice a n k] 32) from h0)
  obtain⟨d2,d3⟩:=duo (show w0.drew.heap[w.heap.size+1]?=some (.cells #[.bool true,.slice a2 n2 k2] 32) from h1')
  clear h1 h2 hn hn2 hb hb2 hz hz2 hb0 h0 h1' hx0
  go_enter Tryz.func52,Tryz.ntmps52
  go_wp2
  go_region_held3 (fun w'=>w'.cell? ⟨w.heap.size,0,none⟩=some (.bool true)∧w'.cell? ⟨w.heap.size,1,none⟩=some (.slice a n k)∧w'.cell? ⟨w.heap.size+1,0,none⟩=some (.bool true)∧w'.cell? ⟨w.heap.size+1,1,none⟩=some (.slice a2 n2 k2)) (go_keep) (first
   | (go_at_call 78;refine HM.mono ?_;rintro e' w1 ⟨⟨v1,rfl,N1⟩,hb1⟩;have x0:=ac hb1 d0;have x1:=ac hb1 d1;have x2:=ac hb1 d2;have x3:=ac hb1 d3)
   | (go_at_call 50;refine (HMK.out w1 _ N1).mono ?_;rintro e' w2 ⟨⟨b1,a1,n1,k1,rfl,hzn⟩,hb2⟩;have y0:=ac hb2 x0;have y1:=ac hb2 x1;have y2:=ac hb2 x2;have y3:=ac hb2 x3;have hz4:=ab hb2 (ab hb1 HXD.out);have hf4:=af hz4;obtain⟨t0,t1⟩:=duo hz4))
  have hb1':=cv hb1
  rw [HEQ.out] at hzn
  have HZN:=aa hzn
  have HBX:=aa hz4
  have HBE:=aa (HB0.out.trans ((hb1'.trans (hb2.mono hb1'.size)).mono HB0.out.size))
  have R5:=av HBX.out (a':=.bool b1) (b':=.slice a1 n1 k1)
  have HD:=aa (And.intro (HZN.out.duo (p1:=b1) (r1:=.slice a1 n1 k1) HBX.out) (az HBE.out (g:=w.heap.size+2) (u0:=.bool b1) (u1:=.slice a1 n1 k1) (by omega)))
  clear hso hso2 hf4 t0 t1 y0 y1 y2 y3 x0 x1 x2 x3 hz4 N1 hb1 hb1' hb2 hzn
  generalize (w2.setCell ⟨w.heap.size+2,0,none⟩ (.bool b1)).setCell ⟨w.heap.size+2,1,none⟩ (.slice a1 n1 k1)=w5 at *
  obtain⟨q0,q1⟩:=duo R5
  go_wp2
  refine bodyPost_ret (v:=.agg #[.bool b1,.slice a1 n1 k1]) (by simp [results,Tryz.results52,go_sem,q0,q1]) rfl ?_
  exact⟨⟨_,_,_,_,rfl,HD.out.1⟩,HD.out.2⟩

theorem ji (v1 v2:Value)(y z:Int)(w:World)(h1:Zn w v1 y)(h2:Zn w v2 z)(hf1:blen y.natAbs≤1125899906840000)(hf2:blen z.natAbs≤1125899906840000) :
  Calls Tryz.prog 19 #[v1,v2] w (bf w (y - z)):=by
 obtain⟨b,a,n,k,rfl,hb,hn,hz⟩:=h1.parts
 obtain⟨b2,a2,n2,k2,rfl,hb2,hn2,hz2⟩:=h2.parts
 obtain⟨w0,hw0,hb0,h0,h1',hx0⟩:=bP w (.cells #[.bool b,.slice a n k] 32) (.cells #[.bool b2,.slice a2 n2 k2] 32) (.cells #[.bool false,.slice none 0 0] 32)
 obtain⟨c0,c1⟩:=duo h0
 obtain⟨c2,c3⟩:=duo h1'
 have HB0:=aa hb0
 have HX0:=aa hx0
 have hso:∀(W:World) (k:Nat) (u:Value) (k':Nat),(W.setCell ⟨w.heap.size+2,k,none⟩ u).cell? ⟨w.heap.size,k',none⟩=W.cell? ⟨w.heap.size,k',none⟩:=fun W k u k'=>aN (by omega)
 have hso2:∀(W:World) (k:Nat) (u:Value) (k':Nat),(W.setCell ⟨w.heap.size+2,k,none⟩ u).cell? ⟨w.heap.size+1,k',none⟩=W.cell? ⟨w.heap.size+1,k',none⟩:=fun W k u k'=>aN (by omega)
 have HM:=kf _ z w0.drew (h2.below hb0).drew6
 have HZ1:=aa (h1.below hb0).drew6
 have HEQ:Hid (y+-z=y - z):=aa (by omega)
 have HMK:=aa (fun (w1:World) (v:Value) (hb1:Below w0.drew.heap.size w0.drew w1) (hv:Zn w1 v (-z))=>gI _ v y (-z) w1 (HZ1.out.below hb1) hv hf1 (by rw [Int.natAbs_neg];exact hf2))
 have HXD:=aa (show w0.drew.heap[w.heap.size+2]?=some (.cells #[.bool false,.slice none 0 0] 32) from hx0)
 obtain⟨d0,d1⟩:=duo (show w0.drew.heap[w.heap.size]?=some (.cells #[.bool b,.slice a n k] 32) from h0)
 obtain⟨d2,d3⟩:=duo (show w0.drew.heap[w.heap.size+1]?=some (.cells #[.bool b2,.slice a2 n2 k2] 32) from h1')
 clear h1 h2 hn hn2 hb hb2 hz hz2 hb0 h0 h1' hx0
 go_enter Tryz.func19,Tryz.ntmps19
 go_wp2
 go_region_held3 (fun w'=>w'.cell? ⟨w.heap.size,0,none⟩=some (.bool b)∧w'.cell? ⟨w.heap.size,1,none⟩=some (.slice a n k)∧w'.cell? ⟨w.heap.size+1,0,none⟩=some (.bool b2)∧w'.cell? ⟨w.heap.size+1,1,none⟩=some (.slice a2 n2 k2)) (go_keep) (first
  | (go_at_call 53;refine HM.mono ?_;rintro e' w1 ⟨⟨b9,a9,n9,k9,rfl,N1⟩,hb1⟩;have x0:=ac hb1 d0;have x1:=ac hb1 d1;have x2:=ac hb1 d2;have x3:=ac hb1 d3)
  | (go_at_call 52;refine (HMK.out w1 _ hb1 N1).mono ?_;rintro e' w2 ⟨⟨b1,a1,n1,k1,rfl,hzn⟩,hb2⟩;have y0:=ac hb2 x0;have y1:=ac hb2 x1;have y2:=ac hb2 x2;have y3:=ac hb2 x3;have hz4:=ab hb2 (ab hb1 HXD.out);have hf4:=af hz4;obtain⟨t0,t1⟩:=duo hz4))
 have hb1':=cv hb1
 rw [HEQ.out] at hzn
 have HZN:=aa hzn
 have HBX:=aa hz4
 have HBE:=aa (HB0.out.trans ((hb1'.trans (hb2.mono hb1'.size)).mono HB0.out.size))
 have R5:=av HBX.out (a':=.bool b1) (b':=.slice a1 n1 k1)
 have HD:=aa (And.intro (HZN.out.duo (p1:=b1) (r1:=.slice a1 n1 k1) HBX.out) (az HBE.out (g:=w.heap.size+2) (u0:=.bool b1) (u1:=.slice a1 n1 k1) (by omega)))
 clear hso hso2 hf4 t0 t1 y0 y1 y2 y3 x0 x1 x2 x3 hz4 N1 hb1 hb1' hb2 hzn
 generalize (w2.setCell ⟨w.heap.size+2,0,none⟩ (.bool b1)).setCell ⟨w.heap.size+2,1,none⟩ (.slice a1 n1 k1)=w5 at *
 obtain⟨q0,q1⟩:=duo R5
 go_wp2
 refine bodyPost_ret (v:=.agg #[.bool b1,.slice a1 n1 k1]) (by simp [results,Tryz.results19,go_sem,q0,q1]) rfl ?_
 exact⟨⟨_,_,_,_,rfl,HD.out.1⟩,HD.out.2⟩

theorem kH (c:Nat)(w:World)(hc:c<9223372036854775808):Calls Tryz.prog 45 #[.int .i64 c] w fun e w'=>(∃v,e=.returned v∧Num w' v c)∧Below w.heap.size w w':=by
 have hA:=Arg.lits w [c] #[.int .u64 (c:Int)] 1 rfl rfl (by intro z hz;simp at hz;omega) (by simp)
 have hb:Below w.heap.size w (w.alloc (.cells #[.int .u64 (c:Int)] 60)):=(Below.refl _ _).alloc (Nat.le_refl _) _
 have HO:=dz _ [c] _ hA (by simp)
 rw [show val [c]=c by simp [val]] at HO
 have HB:=aa hb
 clear hA hb
 go_enter Tryz.func45,Tryz.ntmps45
 go_wp2_with fail
 refine HO.mono ?_
 rintro e w2 ⟨⟨v,rfl,N⟩,hb2⟩
 have HX:=aa (And.intro N (HB.out.trans (hb2.mono HB.out.size)))
 clear N hb2 HO
 go_wp2
 go_ret
 exact⟨⟨v,rfl,HX.out.1⟩,HX.out.2⟩

theorem df (c:Int)(w:World):Calls Tryz.prog 13 #[.int .i64 c] w fun e w'=>e=.returned (.int .i64 c)∧w'=w:=by
 go_enter Tryz.func13,Tryz.ntmps13
 go_wp2
 go_ret
 exact⟨rfl,rfl⟩

theorem eC (n:Int)(w:World)(h1:-9223372036854775808≤n)(h2:n≤9223372036854775807) :
  Calls Tryz.prog 20 #[.int .i64 n] w (bf w n):=by
 obtain⟨w0,hw0,hb0,hx0⟩:=aB w (.cells #[.bool false,.slice none 0 0] 32)
 have HB0:=aa hb0
 have HX0:=aa hx0
 by_cases hn:n<0
 ·obtain⟨x,hx,hx2⟩:∃x:Nat,n=-(x:Int)∧x<18446744073709551616:=⟨n.natAbs,by omega,by omega⟩
  have q1:IntKind.i64.wrap (n+1)=n+1:=by rw [IntKind.wrap_i64];omega
  have q2:IntKind.i64.wrap (-(n+1))=-(n+1):=by rw [IntKind.wrap_i64];omega
  have q3:IntKind.u64.wrap (-(n+1))=-(n+1):=by rw [IntKind.wrap_u64];omega
  have q4:IntKind.u64.wrap (-(n+1)+1)=(x:Int):=by rw [IntKind.wrap_u64];omega
  obtain⟨w6,hw6,hb6,hx6⟩:=aB w0 (.cells #[.int .u64 x] 60)
  have hblk:Blk w6 w0.heap.size [x]:=hx6
  have A6:=Ans.of_blk (base:=w0.heap.size) (zs:=[x]) (Nat.le_refl _) hblk (by simp) (by simp) (by simp) (by intro z hz;simp at hz;omega)
  have HO:=dz (.slice (some ⟨w0.heap.size,0,none⟩) 1 1) [x] w6 (A6.arg (by simp)) (by simp)
  rw [show val [x]=x from by simp [val]] at HO
  have HB6:=aa hb6
  have ez:zz true x=n:=by simp [zz];omega
  have HEZ:=aa ez
  clear hb0 hx0 hb6 hx6 hblk A6 hx ez
  go_enter Tryz.func20,Tryz.ntmps20
  go_wp2_with fail
  refine HO.mono ?_
  rintro e w1 ⟨⟨v1,rfl,hn1⟩,hb1⟩
  have HM:=bJ true v1 x w1 hn1
  rw [HEZ.out] at HM
  have HW1:=aa (HB6.out.trans (hb1.mono HB6.out.size))
  obtain⟨a2,n2,k2,rfl⟩:=hn1.sl
  clear hn1 hb1 HO
  go_wp2_with fail
  refine HM.mono ?_
  rintro e w2 ⟨⟨b1,a1,n1,k1,rfl,hzn⟩,hb2⟩
  have HZN:=aa hzn
  have HW:=aa (HW1.out.trans (hb2.mono HW1.out.size))
  clear hzn hb2 HM hw0 hw6
  have hbx:=ab HW.out HX0.out
  have hf1:=af hbx
  obtain⟨l0,l1⟩:=duo hbx
  have HBX:=aa hbx
  have HBE:=aa (HB0.out.trans (HW.out.mono HB0.out.size))
  clear hbx
  go_wp2
  have R5:=av HBX.out (a':=.bool b1) (b':=.slice a1 n1 k1)
  have HD:=aa (And.intro (HZN.out.duo (p1:=b1) (r1:=.slice a1 n1 k1) HBX.out) (az HBE.out (g:=w.heap.size) (u0:=.bool b1) (u1:=.slice a1 n1 k1) (by omega)))
  generalize (w2.setCell ⟨w.heap.size,0,none⟩ (.bool b1)).setCell ⟨w.heap.size,1,none⟩ (.slice a1 n1 k1)=w5 at *
  obtain⟨q0,q1⟩:=duo R5
  refine bodyPost_ret (v:=.agg #[.bool b1,.slice a1 n1 k1]) (by simp [results,Tryz.results20,go_sem,q0,q1]) rfl ?_
  exact⟨⟨_,_,_,_,rfl,HD.out.1⟩,HD.out.2⟩
 ·obtain⟨x,hx,hx2⟩:∃x:Nat,n=(x:Int)∧x<9223372036854775808:=⟨n.natAbs,by omega,by omega⟩
  subst hx
  have HO:=kH x w0 hx2
  have ez:zz false x=(x:Int):=by simp [zz]
  have HEZ:=aa ez
  clear hb0 hx0 ez
  go_enter Tryz.func20,Tryz.ntmps20
  go_wp2_with fail
  refine HO.mono ?_
  rintro e w1 ⟨⟨v1,rfl,hn1⟩,hb1⟩
  have HM:=bJ false v1 x w1 hn1
  rw [HEZ.out] at HM
  have HW1:=aa hb1
  obtain⟨a2,n2,k2,rfl⟩:=hn1.sl
  clear hn1 hb1 HO
  go_wp2_with fail
  refine HM.mono ?_
  rintro e w2 ⟨⟨b1,a1,n1,k1,rfl,hzn⟩,hb2⟩
  have HZN:=aa hzn
  have HW:=aa (HW1.out.trans (hb2.mono HW1.out.size))
  clear hzn hb2 HM hw0
  have hbx:=ab HW.out HX0.out
  have hf1:=af hbx
  obtain⟨l0,l1⟩:=duo hbx
  have HBX:=aa hbx
  have HBE:=aa (HB0.out.trans (HW.out.mono HB0.out.size))
  clear hbx
  go_wp2
  have R5:=av HBX.out (a':=.bool b1) (b':=.slice a1 n1 k1)
  have HD:=aa (And.intro (HZN.out.duo (p1:=b1) (r1:=.slice a1 n1 k1) HBX.out) (az HBE.out (g:=w.heap.size) (u0:=.bool b1) (u1:=.slice a1 n1 k1) (by omega)))
  generalize (w2.setCell ⟨w.heap.size,0,none⟩ (.bool b1)).setCell ⟨w.heap.size,1,none⟩ (.slice a1 n1 k1)=w5 at *
  obtain⟨q0,q1⟩:=duo R5
  refine bodyPost_ret (v:=.agg #[.bool b1,.slice a1 n1 k1]) (by simp [results,Tryz.results20,go_sem,q0,q1]) rfl ?_
  exact⟨⟨_,_,_,_,rfl,HD.out.1⟩,HD.out.2⟩

theorem fO (b:Bool)(v:Value)(X:List Nat)(w:World)(hA:Arg w v X)(hf:X.length≤17592186044416) :
  Calls Tryz.prog 6 #[.agg #[.bool b,v]] w (bf w (zz b (val X))):=by
 obtain⟨a,n,rfl,_,_,_⟩:=hA.form
 obtain⟨w0,hw0,hb0,h0,hx0⟩:=cu w (.cells #[.bool b,.slice a X.length n] 24) (.cells #[.bool false,.slice none 0 0] 32)
 obtain⟨k0,k1⟩:=duo h0
 have HM:=iD b _ X w0 (hA.below hb0) hf
 have HB0:=aa hb0
 have HX0:=aa hx0
 clear hA hb0 h0 hx0
 go_enter Tryz.func6,Tryz.ntmps6
 go_wp2_with fail
 refine HM.mono ?_
 rintro e w1 ⟨⟨b1,a1,n1,k1,rfl,hzn⟩,hb1⟩
 have HZN:=aa hzn
 have HW:=aa hb1
 clear hzn hb1 HM hw0 k0
 have hbx:=ab HW.out HX0.out
 have hf1:=af hbx
 obtain⟨l0,l1⟩:=duo hbx
 have HBX:=aa hbx
 have HBE:=aa (HB0.out.trans (HW.out.mono HB0.out.size))
 clear hbx
 go_wp2
 have R5:=av HBX.out (a':=.bool b1) (b':=.slice a1 n1 k1)
 have HD:=aa (And.intro (HZN.out.duo (p1:=b1) (r1:=.slice a1 n1 k1) HBX.out) (az HBE.out (g:=w.heap.size+1) (u0:=.bool b1) (u1:=.slice a1 n1 k1) (by omega)))
 generalize (w1.setCell ⟨w.heap.size+1,0,none⟩ (.bool b1)).setCell ⟨w.heap.size+1,1,none⟩ (.slice a1 n1 k1)=w5 at *
 obtain⟨q0,q1⟩:=duo R5
 refine bodyPost_ret (v:=.agg #[.bool b1,.slice a1 n1 k1]) (by simp [results,Tryz.results6,go_sem,q0,q1]) rfl ?_
 exact⟨⟨_,_,_,_,rfl,HD.out.1⟩,HD.out.2⟩

theorem d4 (b:Bool)(a:Option Addr)(m n:Nat)(c:Int)(v:Value)(z:Int)(base:Nat)(w:World)(h:ZR w base b (.slice a m n) c z)(hz:Zn w v z) :
  Calls Tryz.prog 17 #[.agg #[.bool b,.slice a m n],.int .i64 c,v,.int .i64 0] w fun e w'=>e=.returned (.bool true)∧Below w.heap.size w w':=by
 obtain⟨b9,a9,n9,k9,rfl,hb9,hn9,hz9⟩:=hz.parts
 obtain⟨w0,hw0,hb0,h0,h1⟩:=cu w (.cells #[.bool b,.slice a m n] 27) (.cells #[.bool b9,.slice a9 n9 k9] 32)
 obtain⟨k0,k1⟩:=duo h0
 obtain⟨k2,k3⟩:=duo h1
 have HL:=fi _ z.natAbs w0 (hn9.below hb0)
 have HN:=df c w0
 obtain⟨rs,hA,hc⟩:=h
 have HB0:=aa hb0
 rcases hc with ⟨rfl,hb,hv,ht,hbl⟩|⟨rfl,rfl,hva,hrs,hbl⟩
 ·have i1:¬(67108864:Int)<((blen z.natAbs:Nat):Int):=by omega
  have hlm:rs.length≤1048576:=cA ht hv (by omega)
  have HI:=fp _ z (.slice a m n) rs w0 (hz.below hb0) ((hA.arg (by omega)).below hb0) ht hv (by omega)
  rw [←hb] at HI
  clear hA hz hn9 hz9 hb0 h0 h1 hv ht hb9 hb hlm
  generalize blen z.natAbs=l at *
  go_enter Tryz.func17,Tryz.ntmps17
  go_wp2_with fail
  refine HL.mono ?_
  rintro e wn ⟨rfl,hw⟩;rw [hw];clear hw wn HL
  go_wp2_with fail
  refine HN.mono ?_
  rintro e wn ⟨rfl,hw⟩;rw [hw];clear hw wn HN
  go_wp2_with fail
  refine HI.mono ?_
  rintro e w1 ⟨rfl,hb1⟩
  have HB1:=aa (HB0.out.trans (hb1.mono HB0.out.size))
  clear hb1 HI
  go_wp2
  go_ret
  exact⟨rfl,HB1.out⟩
 ·have i1:(67108864:Int)<((blen z.natAbs:Nat):Int):=by omega
  simp only [Value.slice.injEq] at hva
  obtain⟨rfl,rfl,rfl⟩:=hva
  clear hA hz hn9 hz9 hb0 h0 h1 hb9
  generalize blen z.natAbs=l at *
  go_enter Tryz.func17,Tryz.ntmps17
  go_wp2_with fail
  refine HL.mono ?_
  rintro e wn ⟨rfl,hw⟩;rw [hw];clear hw wn HL
  go_wp2_with fail
  refine HN.mono ?_
  rintro e wn ⟨rfl,hw⟩;rw [hw];clear hw wn HN
  go_wp2
  go_ret
  exact⟨rfl,HB0.out⟩

theorem kO (w:World)(hT:Tab w):Calls Tryz.prog 23 #[] w fun e w'=>e=.returned (.bool true)∧Below w.heap.size w w':=by
 have H1:=ic (-7) w (by omega) (by omega)
 have HT:=aa hT
 clear hT
 go_enter Tryz.func23,Tryz.ntmps23
 go_wp2_with fail
 refine H1.mono ?_
 rintro e w1 ⟨⟨b1,a1,l1,k1,rfl,rs1,A1,hb1,v1,t1⟩,hw1⟩
 have H2:=ic 2 w1 (by omega) (by omega)
 have HW1:=aa hw1
 have HA1:=aa A1
 have HV1:=aa (And.intro hb1 (And.intro v1 t1))
 clear H1 hw1 A1 hb1 v1 t1
 go_wp2_with fail
 refine H2.mono ?_
 rintro e w2 ⟨⟨b2,a2,l2,k2,rfl,rs2,A2,hb2,v2,t2⟩,hw2⟩
 have HW2:=aa (HW1.out.trans (hw2.mono HW1.out.size))
 obtain⟨hb1,v1,t1⟩:=HV1.out
 have e1:b1=true:=hb1
 have e2:b2=false:=hb2
 subst e1
 subst e2
 have x1:val rs1=7:=v1
 have x2:val rs2=2:=v2
 have f1:rs1.length≤1:=cA t1 x1 (by decide)
 have f2:rs2.length≤1:=cA t2 x2 (by decide)
 have H3:=jK true _ rs1 false _ rs2 true true (-4) 1 w2 ((HA1.out.arg (by omega)).below hw2) (A2.arg (by omega)) (HT.out.below HW2.out) (by omega) (by omega) (by omega) rfl rfl (by rw [x1,x2];decide) (by rw [x1,x2];decide)
 clear H2 hw2 A2 hb2 v2 t2 HA1 HV1 HW1 hb1 v1 t1 x1 x2 f1 f2
 go_wp2_with fail
 refine H3.mono ?_
 rintro e w3 ⟨⟨b3,a3,n3,m3,b4,a4,n4,m4,c,rfl,rs3,rs4,A3,A4,hap,hcase⟩,hw3⟩
 rcases hcase with ⟨rfl,hb3,v3,t3,hb4,v4,t4,_,_⟩|⟨_,_,_,_,_,_,_,hbig⟩
 ·have e3:b3=true:=hb3
  have e4:b4=false:=hb4
  subst e3
  subst e4
  have HW3:=aa (HW2.out.trans (hw3.mono HW2.out.size))
  have HA3:=aa (And.intro A3 (And.intro v3 t3))
  have HA4:=aa (And.intro A4 (And.intro v4 t4))
  clear H3 hw3 A3 A4 hap hb3 hb4 v3 v4 t3 t4 HW2 HT
  obtain⟨w4,hw4,hb4,h40,h41⟩:=cu w3 (.cells #[.bool true,.slice a3 n3 m3] 27) (.cells #[.bool false,.slice a4 n4 m4] 27)
  obtain⟨d0,d1⟩:=duo (show w4.drew.heap[w3.heap.size]?=some (.cells #[.bool true,.slice a3 n3 m3] 27) from h40)
  obtain⟨d2,d3⟩:=duo (show w4.drew.heap[w3.heap.size+1]?=some (.cells #[.bool false,.slice a4 n4 m4] 27) from h41)
  have hf3:rs3.length≤1:=cA HA3.out.2.2 HA3.out.2.1 (by decide)
  have hf4:rs4.length≤1:=cA HA4.out.2.2 HA4.out.2.1 (by decide)
  have hq4:blen (Int.natAbs (-4))≤64:=by decide
  have hq1:blen (Int.natAbs 1)≤64:=by decide
  have HIS1:=aa (fun (W:World) (v:Value) (hz:Zn W v (-4)) (hb:Below w4.drew.heap.size w4.drew W)=>
   show Calls Tryz.prog 48 #[v,.bool true,.slice a3 n3 m3] W (fun e w'=>e=.returned (.bool true)∧Below W.heap.size W w') by
    have h:=fp v (-4) (.slice a3 n3 m3) rs3 W hz ((((HA3.out.1.arg (by omega)).below hb4).drew).below hb) HA3.out.2.2 HA3.out.2.1 (Nat.le_trans hq4 (by omega))
    rw [show decide ((-4:Int)<0)=true by decide] at h
    exact h)
  have HIS2:=aa (fun (W:World) (v:Value) (hz:Zn W v 1) (hb:Below w4.drew.heap.size w4.drew W)=>
   show Calls Tryz.prog 48 #[v,.bool false,.slice a4 n4 m4] W (fun e w'=>e=.returned (.bool true)∧Below W.heap.size W w') by
    have h:=fp v 1 (.slice a4 n4 m4) rs4 W hz ((((HA4.out.1.arg (by omega)).below hb4).drew).below hb) HA4.out.2.2 HA4.out.2.1 (Nat.le_trans hq1 (by omega))
    rw [show decide ((1:Int)<0)=false by decide] at h
    exact h)
  have HN:=df 0 w4.drew
  have HI1:=eC (-4) w4.drew (by omega) (by omega)
  have HI2:=aa (fun (W:World)=>eC 1 W (by omega) (by omega))
  have HW4:=aa (HW3.out.trans (hb4.mono HW3.out.size))
  clear hb4 h40 h41 hf3 hf4 HA3 HA4 hq4 hq1
  go_wp2
  go_region_held3 (fun w'=>w'.cell? ⟨w3.heap.size,0,none⟩=some (.bool true)∧w'.cell? ⟨w3.heap.size,1,none⟩=some (.slice a3 n3 m3)∧w'.cell? ⟨w3.heap.size+1,0,none⟩=some (.bool false)∧w'.cell? ⟨w3.heap.size+1,1,none⟩=some (.slice a4 n4 m4)) (go_keep) (first
   | (go_at_call 13;refine HN.mono ?_;rintro e' wn ⟨rfl,hw⟩;rw [hw];clear hw wn)
   | (go_at_call_of 20 (Value.int IntKind.i64 1);refine (HI2.out w6).mono ?_;rintro e' w7 ⟨⟨b7,a7,n7,k7,rfl,z7⟩,hb7⟩;have u0:=ac hb7 y0;have u1:=ac hb7 y1;have u2:=ac hb7 y2;have u3:=ac hb7 y3)
   | (go_at_call 20;refine HI1.mono ?_;rintro e' w5 ⟨⟨b5,a5,n5,k5,rfl,z5⟩,hb5⟩;have x0:=ac hb5 d0;have x1:=ac hb5 d1;have x2:=ac hb5 d2;have x3:=ac hb5 d3)
   | (go_at_call_of 48 a3;refine (HIS1.out w5 _ z5 hb5).mono ?_;rintro e' w6 ⟨rfl,hb6⟩;have y0:=ac hb6 x0;have y1:=ac hb6 x1;have y2:=ac hb6 x2;have y3:=ac hb6 x3)
   | (go_at_call_of 48 a4;refine (HIS2.out w7 _ z7 (hb5.trans ((hb6.trans (hb7.mono hb6.size)).mono hb5.size))).mono ?_;rintro e' w8 ⟨rfl,hb8⟩;have t0:=ac hb8 u0;have t1:=ac hb8 u1;have t2:=ac hb8 u2;have t3:=ac hb8 u3))
  have HB8:=aa (HW4.out.trans ((cv (hb5.trans ((hb6.trans ((hb7.trans (hb8.mono hb7.size)).mono hb6.size)).mono hb5.size))).mono HW4.out.size))
  clear hb5 hb6 hb7 hb8 z5 z7
  go_wp2
  go_ret
  exact⟨rfl,HB8.out⟩
 ·exfalso
  revert hbig
  decide

theorem fz (b:Bool)(v:Value)(X:List Nat)(w:World)(hA:Arg w v X)(hf:X.length≤35184372088000) :
  Calls Tryz.prog 5 #[.agg #[.bool b,v]] w fun e w'=>(∃aw mw nw a m n,e=.returned (.tuple #[.slice aw mw nw,.agg #[.bool b,.slice a m n]])∧cP w' (.slice aw mw nw) X∧Arg w' (.slice a m n) X)∧Below w.heap.size w w':=by
 obtain⟨a,n,rfl,_,_,_⟩:=hA.form
 obtain⟨w0,hw0,hb0,h0,hx0⟩:=cu w (.cells #[.bool b,.slice a X.length n] 24) (.cells #[.bool false,.slice none 0 0] 27)
 obtain⟨k0,k1⟩:=duo h0
 have HM:=j5 _ X w0 (hA.below hb0) hf
 have HB0:=aa hb0
 have HX0:=aa hx0
 have HK0:=aa h0
 clear hA hb0 h0 hx0
 go_enter Tryz.func5,Tryz.ntmps5
 go_wp2_with fail
 refine HM.mono ?_
 rintro e w1 ⟨⟨vw,vp,rfl,hL,hP⟩,hb1⟩
 obtain⟨gw,rfl,hgw⟩:=hL
 obtain⟨a1,n1,rfl,_,_,_⟩:=hP.form
 have hbx:=ab hb1 HX0.out
 have hf1:=af hbx
 obtain⟨l0,l1⟩:=duo hbx
 obtain⟨j0,j1⟩:=duo (ab hb1 HK0.out)
 have HBX:=aa hbx
 have HBE:=aa (HB0.out.trans (hb1.mono HB0.out.size))
 have HP:=aa hP
 have HG:=aa hgw
 clear hbx hb1 HM hw0 k0 k1 hP hgw
 go_wp2
 go_region
 have R5:=av HBX.out (a':=.bool b) (b':=.slice a1 X.length n1)
 have HD:=aa (And.intro (HP.out.duo (p1:=b) (r1:=.slice a1 X.length n1) HBX.out) (az HBE.out (g:=w.heap.size+1) (u0:=.bool b) (u1:=.slice a1 X.length n1) (by omega)))
 have hgl:gw≠w.heap.size+1:=by
  rintro rfl
  have h:=HG.out
  unfold Blk at h
  rw [HBX.out] at h
  simp at h
 have HLT:Hid (Blk ((w1.setCell ⟨w.heap.size+1,0,none⟩ (.bool b)).setCell ⟨w.heap.size+1,1,none⟩ (.slice a1 X.length n1)) gw (ba X)):=aa (by
  have h:=HG.out
  unfold Blk at h ⊢
  rw [Below.heap_setCell _ _ _ _ hgl,Below.heap_setCell _ _ _ _ hgl]
  exact h)
 generalize (w1.setCell ⟨w.heap.size+1,0,none⟩ (.bool b)).setCell ⟨w.heap.size+1,1,none⟩ (.slice a1 X.length n1)=w5 at *
 obtain⟨q0,q1⟩:=duo (show w5.drew.heap[w.heap.size+1]?=_ from R5)
 go_wp2
 refine bodyPost_ret (v:=.tuple #[.slice (some ⟨gw,0,none⟩) (X.length+4) (X.length+4),.agg #[.bool b,.slice a1 X.length n1]]) (by simp [results,Tryz.results5,go_sem,q0,q1]) rfl ?_
 exact⟨⟨_,_,_,_,_,_,rfl,⟨gw,rfl,HLT.out⟩,HD.out.1.below (Below.refl _ _).drew⟩,HD.out.2.drew⟩





theorem iH {x t n:Nat}(h:aS x t)(hn:n<t):x / 2 ^ n % 2=0:=by
 have e:=cQ h
 generalize x / 2 ^ t / 2=m at e
 obtain⟨d,rfl⟩:∃d,t=n+(d+1):=⟨t - n - 1,by omega⟩
 have e2:x=2 ^ n*(2*(2 ^ d*(2*m+1))):=by
  rw [e,Nat.pow_add,Nat.pow_succ]
  generalize 2 ^ n=a
  generalize 2 ^ d=b
  grind
 rw [e2,Nat.mul_div_cancel_left _ (Nat.two_pow_pos n)]
 omega

theorem jc (v:Value)(x t:Nat)(w:World)(hn:Num w v x)(h:(x=0∧t=0)∨aS x t) :
  Calls Tryz.prog 16 #[v] w fun e w'=>e=.returned (.int .i64 (t:Int))∧w'=w:=by
 have hn0:=hn
 obtain⟨ds,hd1,hd2,hd3,hd4,hd5⟩:=hn
 obtain⟨ao,cap,rfl,hcap,hmax,L1⟩:=hd1.form
 clear hd1 L1
 by_cases h0:ds.length=0
 ·have hz:ds=[]:=List.length_eq_zero_iff.1 h0
  subst hz
  have hx:x=0:=hd4.symm
  have ht:t=0:=by
   rcases h with h|h
   ·exact h.2
   ·have:=h.2;rw [hx] at this;simp at this
  subst ht
  clear hd2 hd3 hd4 hd5 h0 hn0 h hx
  go_enter Tryz.func16,Tryz.ntmps16
  go_wp2
  go_ret
  exact⟨rfl,rfl⟩
 ·obtain⟨n,hn⟩:∃n,ds.length=n+1:=⟨ds.length - 1,by omega⟩
  have hx:x≠0:=by
   intro e
   have h1:=tr_last' ds n hd3 hn
   have h2:=vb_split ds n hn
   rw [hd4,e] at h2
   have h3:2 ^ (32*n)*ds.getD n 0=0:=by omega
   rcases Nat.mul_eq_zero.1 h3 with h6|h6
   ·exact absurd h6 (Nat.pos_iff_ne_zero.1 (Nat.two_pow_pos _))
   ·exact h1 h6
  have hT:aS x t:=by
   rcases h with h|h
   ·exact absurd h.1 hx
   ·exact h
  have hlt:x<2 ^ (32*ds.length):=by
   have:=vb_lt hd2
   rw [hd4] at this
   rw [Nat.pow_mul];exact this
  have htl:=dL hT hlt
  have HT:=aa hT
  have i0:((ds.length:Int) == 0)=false:=by rw [beq_eq_false_iff_ne];omega
  clear hT h hx hlt hd2 hd3 hd4 hn
  go_enter Tryz.func16,Tryz.ntmps16
  go_wp2
  go_loopw [3] (fun i wr=>∃k:Nat,k≤t∧i=.int .i64 k∧wr=w) (fun i _=>t - (intOf i).toNat)
  case atStart=>exact⟨0,Nat.zero_le _,rfl,rfl⟩
  case round=>
   obtain⟨k,hk,rfl,rfl⟩:=hrel
   have B:=eT _ _ k _ hn0 (by omega)
   by_cases hkl:k<t
   ·rw [iH HT.out hkl] at B
    clear hn0
    go_wp2_with fail
    refine B.mono ?_
    rintro e wn ⟨rfl,hw⟩;subst hw
    clear B
    go_wp2
    go_roundw
    case rel=>exact⟨k+1,by omega,by go_num,trivial⟩
    case measure=>simp [intOf];omega
   ·have ek:k=t:=by omega
    subst ek
    rw [HT.out.2] at B
    clear hn0
    go_wp2_with fail
    refine B.mono ?_
    rintro e wn ⟨rfl,hw⟩;subst hw
    clear B
    go_wp2
    go_ret
    exact⟨rfl,rfl⟩

structure BK (base:Nat)(w w':World):Prop where
 below:Below base w w'
 box:∀(g:Nat) (cs:Array Value) (t:TypeId),t≠60→t≠22→w.heap[g]?=some (.cells cs t)→w'.heap[g]?=some (.cells cs t)

theorem BK.refl (base:Nat)(w:World):BK base w w:=⟨Below.refl _ _,fun _ _ _ _ _ h=>h⟩

theorem BK.store {base:Nat}{w wr:World}{g n cap:Nat}{zs:List Nat}(h:BK base w wr)(ha:Ans wr base (.slice (some ⟨g,0,none⟩) n cap) zs)(j:Nat)(u:Value):BK base w (wr.setCell ⟨g,j,none⟩ u):=by
 obtain⟨_,h2⟩:=ha.own
 rcases h2 with ⟨e,_⟩|⟨g',cap',cur,e,hge,hh,_⟩
 ·cases e
 ·simp only [Value.slice.injEq,Option.some.injEq,Addr.mk.injEq] at e
  obtain⟨⟨rfl,_⟩,_⟩:=e
  refine⟨h.below.setCell (p:=⟨g,j,none⟩) hge u,fun g2 cs t ht ht2 hc=>?_⟩
  have h1:=h.box g2 cs t ht ht2 hc
  rw [Below.heap_setCell _ _ _ _ ?_]
  ·exact h1
  ·rintro rfl
   rw [hh] at h1
   simp only [Option.some.injEq,Obj.cells.injEq] at h1
   exact ht h1.2.1.symm

theorem BK.grew {base:Nat}{w wr w2:World}{v:Value}{zs:List Nat}{L:Nat}{vs:Array Value}{o:Obj}(h:BK base w wr)(hrow:Ans wr base v zs)(hL:wr.heap[L]?=some (.cells vs 22 (0,0)))(hb:base≤L)(hg:(wr.alloc o).grownBy w2 v.ownBlock)(k:Nat)(u:Value) :
  BK base w (w2.setCell ⟨L,k,none⟩ u):=by
 have hLs:=lt_of_block hL
 refine⟨((h.below.alloc (by omega) _).grown hg (by simp;omega) (fun g hg=>(hrow.own.lt g hg).1)).setCell hb _,fun g2 cs t ht ht2 hc=>?_⟩
 have h1:=h.box g2 cs t ht ht2 hc
 have h1s:=lt_of_block h1
 have hsz:(wr.alloc o).heap.size=wr.heap.size+1:=by simp
 rw [Below.heap_setCell _ _ _ _ ?_]
 ·have e1:(wr.alloc o).heap[g2]?=wr.heap[g2]?:=Below.heap_alloc wr o g2 h1s
  rw [hg.block g2 (by omega) ?_,e1]
  ·exact h1
  ·intro e
   obtain⟨_,h2⟩:=hrow.own
   rcases h2 with ⟨rfl,_⟩|⟨g',cap',cur,rfl,hge,hh,_⟩
   ·simp [Value.ownBlock] at e
   ·simp [Value.ownBlock] at e
    subst e
    rw [hh] at h1
    simp only [Option.some.injEq,Obj.cells.injEq] at h1
    exact ht h1.2.1.symm
 ·rintro rfl
  rw [hL] at h1
  simp only [Option.some.injEq,Obj.cells.injEq] at h1
  exact ht2 h1.2.1.symm

theorem jB (L base:Nat)(vs:List Value)(rows:Nat→List Nat)(w:World)(h:St w base L vs rows)(hn:vs.length≤1000)(hl:∀i,i<vs.length→(rows i).length≤17592186044000)(hb:base≤L) :
  Calls Tryz.prog 21 #[.slice (some ⟨L,0,none⟩) vs.length vs.length] w fun e w'=>e=.returned (.bool true)∧BK base w w':=by
 go_enter Tryz.func21,Tryz.ntmps21
 go_wp2
 go_loopw [15] (fun i wr=>∃k:Nat,k≤vs.length∧i=.int .i64 k∧St wr base L vs (bE rows k)∧BK base w wr) (fun i _=>vs.length - (intOf i).toNat)
 case atStart=>exact⟨0,Nat.zero_le _,rfl,h.congr (fun i _=>by simp [bE]),BK.refl _ _⟩
 case round=>
  obtain⟨k,hk,rfl,hst,hbl⟩:=hrel
  by_cases hkl:k<vs.length
  ·have hck:=hst.cell k hkl
   have hrow:=hst.row k hkl
   have hrk:bE rows k k=rows k:=by simp [bE]
   rw [hrk] at hrow
   have hlk:=hl k hkl
   have ec:(k:Int) % 251+1=((k % 251+1:Nat):Int):=by omega
   have bc:k % 251+1<18446744073709551616:=by omega
   have HRK:=aa hrk
   have HOV:Hid (over rows k=List.replicate (rows k).length (k % 251+1)):=rfl
   have HST:=aa hst
   have HBL:=aa hbl
   generalize k % 251+1=c at *
   clear hst hbl hrk h
   rcases hrow.form with ⟨hv,hz⟩|⟨g,cap,hv,hg1,hg2,hcap,hmax,_,_⟩
   ·rw [hv] at hck
    have HZ:=aa hz
    clear hrow hv hz
    go_wp2
    refine wp_loop_rounds 1 ?_
    rw [rounds_succ]
    go_wp2
    go_roundw
    case rel=>
     refine⟨k+1,by omega,by go_num,HST.out.congr (fun m _=>?_),HBL.out⟩
     by_cases e:m=k
     ·subst e
      rw [HRK.out]
      simp [bE,over,HZ.out]
     ·exact gL rows k m e
    case measure=>simp [intOf];omega
   ·rw [hv] at hck
    go_wp2
    go_loopw [22] (fun i wr=>∃j:Nat,j≤(rows k).length∧i=.int .i64 j∧St wr base L vs (upd (bE rows k) k (List.replicate j c ++ (rows k).drop j))∧BK base w wr) (fun i _=>(rows k).length - (intOf i).toNat)
    case atStart=>
     refine⟨0,Nat.zero_le _,rfl,HST.out.congr (fun m _=>?_),HBL.out⟩
     by_cases e:m=k
     ·subst e;rw [HRK.out,bR];simp
     ·rw [cg _ _ _ _ e]
    case round=>
     obtain⟨j,hj,rfl,hst,hbl⟩:=hrel
     clear HST HBL
     by_cases hjl:j<(rows k).length
     ·have hr2:=hst.row k hkl
      rw [bR] at hr2
      have hfl:=lT (rows k) j c hj
      rcases hr2.form with ⟨hv2,_⟩|⟨g',cap',hv2,hg1',hg2',_,_,hfr',hcl'⟩
      ·rw [hv2] at hv;cases hv
      ·have hgg:g'=g:=by rw [hv2] at hv;simp only [Value.slice.injEq,Option.some.injEq,Addr.mk.injEq] at hv;exact hv.1.1
       subst hgg
       have hfr:=hfr' j
       have hco:=hcl' j (by omega)
       have hst2:=hst.store k g' cap' hkl (by rw [bR];exact hv2) j c bc
       rw [bR,jF (rows k) j c hjl] at hst2
       have HS:=aa hst2
       have HL:=aa (hbl.store (hv2 ▸ hr2) j (.int .u64 (c:Int)))
       generalize (List.replicate j c ++ (rows k).drop j).getD j 0=o at *
       clear hst hbl hst2 hr2 hv2 hfr' hcl' hrow hv hck hfl
       go_wp2
       go_roundw
       case rel=>
        refine⟨j+1,by omega,by go_num,HS.out.congr (fun m _=>?_),HL.out⟩
        by_cases e:m=k
        ·subst e;rw [bR,bR]
        ·rw [cg _ _ _ _ e,cg _ _ _ _ e,cg _ _ _ _ e]
       case measure=>simp [intOf];omega
     ·have ej:j=(rows k).length:=by omega
      subst ej
      have HS:=aa hst
      have HL:=aa hbl
      clear hst hbl hrow hv hck
      go_wp2
      go_roundw
      case rel=>
       refine⟨k+1,by omega,by go_num,HS.out.congr (fun m _=>?_),HL.out⟩
       by_cases e:m=k
       ·subst e
        rw [bR]
        have:bE rows (m+1) m=over rows m:=by simp [bE]
        rw [this,HOV.out];simp
       ·rw [cg _ _ _ _ e];exact gL rows k m e
      case measure=>simp [intOf];omega
  ·have ek:k=vs.length:=by omega
   subst ek
   have hst3:St wr base L vs (over rows):=hst.congr (fun m hm=>by simp [bE,hm])
   have HST:=aa hst3
   have HBL:=aa hbl
   clear hst hbl hst3 h
   obtain⟨i0,hi,hz0,hz1,hz2⟩:=info_parts Tryz.infoU
   go_wp2
   go_loopw [36] (fun i wr=>∃(k:Nat) (us:List Value),k≤vs.length∧us.length=vs.length∧i=.int .i64 k∧St wr base L us (fun m=>if m<k then over rows m ++ aY (300+5*m) else over rows m)∧BK base w wr) (fun i _=>vs.length - (intOf i).toNat)
   case atStart=>exact⟨0,vs,Nat.zero_le _,rfl,rfl,HST.out.congr (fun m _=>by simp),HBL.out⟩
   case round=>
    obtain⟨k,us,hk',hus,rfl,hst,hbl⟩:=hrel
    clear HST HBL
    by_cases hkl':k<vs.length
    ·have hku:k<us.length:=by omega
     have hck:=hst.cell k hku
     have hrow:=hst.row k hku
     simp only [Nat.lt_irrefl,if_false] at hrow
     have hfr:=hst.free k
     have hlen:(over rows k).length≤17592186044000:=by unfold over;rw [List.length_replicate];exact hl k hkl'
     have eb:(300:Int)+5*(k:Int)=((300+5*k:Nat):Int):=by omega
     have HST:=aa hst
     have HBL:=aa hbl
     have HV:=aa (rfl:us.getD k aA=us.getD k aA)
     have HB5:Hid (300+5*k<6000):=by unfold Hid;omega
     obtain⟨bb,hbb⟩:∃bb,bb=300+5*k:=⟨_,rfl⟩
     rw [←hbb] at eb
     have hb6:bb<6000:=by omega
     have HBB:=aa hbb
     generalize hv:us.getD k aA=v at *
     have HVV:=aa hv
     obtain⟨b1,h1⟩:∃b1,b1=bb+1:=⟨_,rfl⟩
     obtain⟨b2,h2⟩:∃b2,b2=bb+2:=⟨_,rfl⟩
     obtain⟨b3,h3⟩:∃b3,b3=bb+3:=⟨_,rfl⟩
     obtain⟨b4,h4⟩:∃b4,b4=bb+4:=⟨_,rfl⟩
     have g1:(bb:Int)+1=(b1:Int):=by omega
     have g2:(bb:Int)+2=(b2:Int):=by omega
     have g3:(bb:Int)+3=(b3:Int):=by omega
     have g4:(bb:Int)+4=(b4:Int):=by omega
     have q1:b1<18446744073709551616:=by omega
     have q2:b2<18446744073709551616:=by omega
     have q3:b3<18446744073709551616:=by omega
     have q4:b4<18446744073709551616:=by omega
     have H5:Hid ([bb,b1,b2,b3,b4]=aY (300+5*k)):=aa (by rw [h1,h2,h3,h4,hbb];rfl)
     clear hst hbl hv hbb HV h1 h2 h3 h4
     go_wp2_with (at_builtin;refine wpList_append_own_at _ rfl _ _ 22 rfl base 60 i0 (.int .u64 0) 1 8 Tryz.underlying22 hi hz0 hz1 hz2 rfl (by decide) v (over rows k).length _ rfl (hrow.own.alloc _) ⟨wr.heap.size,0,none⟩ 5 5 ([bb,b1,b2,b3,b4].map lv) rfl rfl (dK [bb,b1,b2,b3,b4]) (dn _) (by unfold maxLen;omega) (by omega) (by have:=lt_of_block HST.out.list;simp;omega) ?_;intro v' w2 hown2 hgrow2 _ hat2;have hkp:=HST.out.kept k hku HVV.out _ hgrow2;have hck2:=hkp.1;have hfr2:=hkp.2;clear hkp;obtain⟨g5,cap5,hv5⟩:=oA hown2 (by omega);subst hv5;have HO:=aa hown2;have HG:=aa hgrow2;have HAT:=aa hat2;clear hown2 hgrow2 hat2)
     go_roundw
     case rel=>
      refine⟨k+1,us.set k _,by omega,by rw [List.length_set];exact hus,by go_num,(HST.out.grow k hku _ _ (over rows k ++ aY (300+5*k)) ?_ ?_ (by rw [HVV.out];exact HG.out) (by rw [HVV.out];exact HAT.out)).congr (fun m _=>?_),?_⟩
      ·rw [←H5.out,List.length_append,List.map_append];exact HO.out
      ·exact nB rows k (by omega)
      ·by_cases e:m=k
       ·subst e;rw [bR];simp
       ·rw [cg _ _ _ _ e]
        by_cases h1:m<k
        ·rw [if_pos h1,if_pos (by omega)]
        ·rw [if_neg h1,if_neg (by omega)]
      ·have hLs:=lt_of_block HST.out.list
       exact HBL.out.grew hrow HST.out.list hb HG.out k _
     case measure=>simp [intOf];omega
    ·have ek:k=vs.length:=by omega
     subst ek
     have hst4:St wr base L us (fun m=>over rows m ++ aY (300+5*m)):=hst.congr (fun m hm=>by simp [show m<vs.length by omega])
     have HST:=aa hst4
     have HBL:=aa hbl
     clear hst hbl hst4 hi hz0 hz1 hz2
     go_wp2
     go_loop [64] (fun i=>∃k:Nat,k≤vs.length∧i=.int .i64 k) (fun i=>vs.length - (intOf i).toNat)
     case atStart=>exact⟨0,Nat.zero_le _,rfl⟩
     case round=>
      obtain⟨k,hk4,rfl⟩:=hrel
      by_cases hkl4:k<vs.length
      ·have hku:k<us.length:=by omega
       have hck:=HST.out.cell k hku
       have hrow:=HST.out.row k hku
       have hlr:(over rows k ++ aY (300+5*k)).length=(rows k).length+5:=by simp [over,aY]
       rcases hrow.form with ⟨_,h0⟩|⟨g,cap,hv,_,_,hgl,hgm,_,hgc⟩
       ·rw [h0] at hlr;simp at hlr
       ·rw [hlr] at hv hgl hgc
        rw [hv] at hck
        have hzl:=hl k hkl4
        have HGC:=aa hgc
        clear hrow hgc hv hlr
        go_wp2
        go_loop [71] (fun i=>∃j:Nat,j≤(rows k).length+5∧i=.int .i64 j) (fun i=>(rows k).length+5 - (intOf i).toNat)
        case atStart=>exact⟨0,Nat.zero_le _,rfl⟩
        case round=>
         obtain⟨j,hj,rfl⟩:=hrel
         by_cases hjl:j<(rows k).length+5
         ·have hcj:=HGC.out j hjl
          by_cases hj2:j<(rows k).length
          ·rw [oy rows k j hj2] at hcj
           have ec:(k:Int) % 251+1=((k % 251+1:Nat):Int):=by omega
           have bc:k % 251+1<18446744073709551616:=by omega
           generalize k % 251+1=c at *
           have hne:((c:Int) != (c:Int))=false:=by simp
           have i1:(j:Int)<((rows k).length:Int):=by omega
           have hd2:decide (((rows k).length:Int)≤(j:Int))=false:=decide_eq_false (by omega)
           generalize (rows k).length=zl at *
           go_wp2
           go_round
           case rel=>exact⟨j+1,by omega,by go_num⟩
           case measure=>simp [intOf];omega
          ·rw [lO rows k j (by omega) hjl] at hcj
           have hd1:decide ((j:Int)<((rows k).length:Int))=false:=decide_eq_false (by omega)
           have i1:((rows k).length:Int)≤(j:Int):=by omega
           generalize (rows k).length=zl at *
           obtain⟨t,ht⟩:∃t,t=300+5*k+(j - zl):=⟨_,rfl⟩
           rw [←ht] at hcj
           have et:(300:Int)+5*(k:Int)+(j:Int) - ((zl:Int)+5)+5=(t:Int):=by omega
           have bt:t<18446744073709551616:=by omega
           have hne:((t:Int) != (t:Int))=false:=by simp
           have HT:=aa ht
           clear ht
           go_wp2
           go_round
           case rel=>exact⟨j+1,by omega,by go_num⟩
           case measure=>simp [intOf];omega
         ·go_wp2
          go_round
          case rel=>exact⟨k+1,by omega,by go_num⟩
          case measure=>simp [intOf];omega
      ·go_wp2
       go_ret
       exact⟨rfl,HBL.out⟩

structure dq (w:World)(base:Nat)(vs:List Value)(rss:List (List Nat)):Prop where
 len:vs.length=rss.length
 row:∀i,i<vs.length→Ans w base (vs.getD i aA) (rss.getD i [])
 apart:∀i j,i<vs.length→j<vs.length→i≠j→(vs.getD i aA).ownBlock=none∨(vs.getD i aA).ownBlock≠(vs.getD j aA).ownBlock

theorem aJ.aparts {w:World}{base:Nat}{vs:List Value}{rss:List (List Nat)}(h:aJ w base vs rss):dq w base vs rss:=⟨h.length,h.row,h.apart⟩

theorem dq.below {w w':World}{base:Nat}{vs:List Value}{rss:List (List Nat)}(h:dq w base vs rss)(hb:Below w.heap.size w w'):dq w' base vs rss:=⟨h.len,fun i hi=>(h.row i hi).below hb,h.apart⟩

theorem jr (base:Nat)(vs:List Value)(rss:List (List Nat))(w:World)(h:dq w base vs rss)(hn:vs.length≤1000)(hl:∀r ∈ rss,r.length≤17592186044000)(hb:base≤w.heap.size) :
  Calls Tryz.prog 21 #[.slice (some ⟨w.heap.size,0,none⟩) vs.length vs.length] (w.alloc (.cells vs.toArray 22)) fun e w'=>e=.returned (.bool true)∧BK base w w':=by
 have hst:St (w.alloc (.cells vs.toArray 22)) base w.heap.size vs (fun i=>rss.getD i []):=by
  have h':=h.below ((Below.refl _ _).alloc (Nat.le_refl _) (.cells vs.toArray 22))
  exact⟨by rw [heap_alloc_new],h'.row,h'.apart⟩
 refine (jB w.heap.size base vs (fun i=>rss.getD i []) _ hst hn ?_ hb).mono ?_
 ·intro i hi
  have hi':i<rss.length:=by rw [←h.len];exact hi
  show (rss.getD i []).length≤_
  have e:rss.getD i []=rss[i]:=by simp [List.getD,hi']
  rw [e]
  exact hl _ (List.getElem_mem _)
 ·rintro e w' ⟨rfl,hbel⟩
  refine⟨rfl,((Below.refl _ _).alloc hb _).trans hbel.below,fun g cs t ht ht2 hc=>hbel.box g cs t ht ht2 ?_⟩
  rw [Below.heap_alloc w _ g (lt_of_block hc)];exact hc

theorem ZR.few {rs:List Nat}{b:Bool}{va:Value}{c z:Int}(h:(c=0∧b=decide (z<0)∧val rs=z.natAbs∧tr rs=rs∧blen z.natAbs≤67108864)∨(c=3∧b=false∧va=.slice none 0 0∧rs=[]∧67108864<blen z.natAbs)):rs.length≤1048576:=by
 rcases h with ⟨_,_,h3,h4,h5⟩|⟨_,_,_,h4,_⟩
 ·exact cA h4 h3 (by omega)
 ·rw [h4];simp

theorem bH {W0 W:World}(h:Below W0.heap.size W0 W)(o:Obj):Below W0.heap.size W0 (W.alloc o):=h.alloc h.size _

theorem fb {W0 W t:World}(h:Below W0.heap.size W0 W)(h2:Below W.heap.size W t):Below W0.heap.size W0 t:=h.trans (h2.mono h.size)

theorem aL {W:World}{g k:Nat}{v:Value}(h:W.cell? ⟨g,k,none⟩=some v)(o:Obj):(W.alloc o).cell? ⟨g,k,none⟩=some v:=ac (aI W o) h

theorem iN {W:World}{g k g' k':Nat}{u v:Value}(h:W.cell? ⟨g',k',none⟩=some v)(hne:g≠g'):(W.setCell ⟨g,k,none⟩ u).cell? ⟨g',k',none⟩=some v:=by rw [aN hne];exact h

theorem gR {W:World}{g k:Nat}{v:Value}(h:W.cell? ⟨g,k,none⟩=some v):g<W.heap.size:=by
 rcases Nat.lt_or_ge g W.heap.size with h' | h'
 ·exact h'
 ·simp [World.cell?,Array.getElem?_eq_none h'] at h

theorem ci {W:World}{g:Nat}{x:Obj}(h:W.heap[g]?=some x)(o:Obj):(W.alloc o).heap[g]?=some x:=ab (aI W o) h

theorem lm {W t:World}{o:Obj}(h:Below (W.alloc o).heap.size (W.alloc o) t):t.heap[W.heap.size]?=some o:=ab h (heap_alloc_new W o)

theorem nk {W t:World}{o1 o2:Obj}(h:Below ((W.alloc o1).alloc o2).heap.size ((W.alloc o1).alloc o2) t):t.heap[W.heap.size]?=some o1:=ab h (ci (heap_alloc_new W o1) o2)

theorem nl {W t:World}{o1 o2:Obj}(h:Below ((W.alloc o1).alloc o2).heap.size ((W.alloc o1).alloc o2) t):t.heap[W.heap.size+1]?=some o2:=by
 have h2:=heap_alloc_new (W.alloc o1) o2
 rw [World.size_alloc] at h2
 exact ab h h2

theorem nc {W t:World}{o:Obj}(h:Below (W.alloc o).drew.heap.size (W.alloc o).drew t):t.heap[W.heap.size]?=some o:=ab h (heap_alloc_new W o)

theorem ks {W t:World}{o1 o2:Obj}(h:Below ((W.alloc o1).alloc o2).drew.heap.size ((W.alloc o1).alloc o2).drew t):t.heap[W.heap.size]?=some o1:=ab h (show ((W.alloc o1).alloc o2).heap[W.heap.size]?=some o1 from ci (heap_alloc_new W o1) o2)

theorem iJ {W t:World}{o1 o2:Obj}(h:Below ((W.alloc o1).alloc o2).drew.heap.size ((W.alloc o1).alloc o2).drew t):t.heap[W.heap.size+1]?=some o2:=by
 have h2:=heap_alloc_new (W.alloc o1) o2
 rw [World.size_alloc] at h2
 exact ab h (show ((W.alloc o1).alloc o2).drew.heap[W.heap.size+1]?=some o2 from h2)

theorem fS {W0 W:World}(h:Below W0.heap.size W0 W):Below W0.heap.size W0 W.drew:=h.drew

theorem dt {W:World}{g k:Nat}{v:Value}(h:W.cell? ⟨g,k,none⟩=some v):W.drew.cell? ⟨g,k,none⟩=some v:=h

theorem up0 {W t:World}{g:Nat}{x:Obj}(h:Below W.heap.size W t)(hx:W.heap[g]?=some x):t.heap[g]?=some x:=ab h hx

theorem up1 {W t:World}{g:Nat}{x o:Obj}(h:Below (W.alloc o).heap.size (W.alloc o) t)(hx:W.heap[g]?=some x):t.heap[g]?=some x:=ab h (ci hx o)

theorem cZ {W:World}{g:Nat}{a b:Value}{t:TypeId}(h:W.heap[g]?=some (.cells #[a,b] t))(o:Obj):∀k,(W.alloc o).frozen? ⟨g,k,none⟩=false:=af (ci h o)

def cW (u:World)(zA zB:Int)(s t:Value)(wx:World):Prop:=
 ∃(g h:Nat) (bm:Bool) (am:Option Addr) (nm km:Nat) (bn:Bool) (an:Option Addr) (nn kn:Nat),s=.pointer (some ⟨g,0,none⟩)∧t=.pointer (some ⟨h,0,none⟩) ∧
  wx.heap[g]?=some (.cells #[.bool bm,.slice am nm km] 32)∧wx.heap[h]?=some (.cells #[.bool bn,.slice an nn kn] 32)∧Zn wx (.agg #[.bool bm,.slice am nm km]) zA∧Zn wx (.agg #[.bool bn,.slice an nn kn]) zB∧Below u.heap.size u wx

theorem fF (W:World)(o1 o2:Obj):((W.alloc o1).alloc o2).heap[W.heap.size+1]?=some o2:=by
 have h:=heap_alloc_new (W.alloc o1) o2
 rw [World.size_alloc] at h
 exact h

theorem lB {u tn:World}{zA zB:Int}{bm:Bool}{am:Option Addr}{nm km:Nat}{bn:Bool}{an:Option Addr}{nn kn:Nat}(ym:Zn tn (.agg #[.bool bm,.slice am nm km]) zA)(yn:Zn tn (.agg #[.bool bn,.slice an nn kn]) zB)(gn:Below u.heap.size u tn) :
  cW u zA zB (.pointer (some ⟨tn.heap.size,0,none⟩)) (.pointer (some ⟨tn.heap.size+1,0,none⟩)) ((tn.alloc (.cells #[.bool bm,.slice am nm km] 32)).alloc (.cells #[.bool bn,.slice an nn kn] 32)):=
 ⟨_,_,bm,am,nm,km,bn,an,nn,kn,rfl,rfl,ci (heap_alloc_new _ _) _,fF _ _ _,(ym.below (aI _ _)).below (aI _ _),(yn.below (aI _ _)).below (aI _ _),bH (bH gn _) _⟩

theorem kg {u tn:World}{zA zB:Int}{bm:Bool}{am:Option Addr}{nm km:Nat}{bn:Bool}{an:Option Addr}{nn kn:Nat}(ym:Zn tn (.agg #[.bool bm,.slice am nm km]) zA)(yn:Zn tn (.agg #[.bool bn,.slice an nn kn]) zB)(gn:Below u.heap.size u tn) :
  cW u zA zB (.pointer (some ⟨tn.heap.size+1,0,none⟩)) (.pointer (some ⟨tn.heap.size,0,none⟩)) ((tn.alloc (.cells #[.bool bn,.slice an nn kn] 32)).alloc (.cells #[.bool bm,.slice am nm km] 32)):=
 ⟨_,_,bm,am,nm,km,bn,an,nn,kn,rfl,rfl,fF _ _ _,ci (heap_alloc_new _ _) _,(ym.below (aI _ _)).below (aI _ _),(yn.below (aI _ _)).below (aI _ _),bH (bH gn _) _⟩

theorem fy {u tn:World}{zA zB:Int}{g:Nat}{bm:Bool}{am:Option Addr}{nm km:Nat}{bn:Bool}{an:Option Addr}{nn kn:Nat}(hq:tn.heap[g]?=some (.cells #[.bool false,.slice none 0 0] 32))(ym:Zn tn (.agg #[.bool bm,.slice am nm km]) zA)(yn:Zn tn (.agg #[.bool bn,.slice an nn kn]) zB)(gn:Below u.heap.size u tn)(hg:u.heap.size≤g) :
  cW u zA zB (.pointer (some ⟨g,0,none⟩)) (.pointer (some ⟨tn.heap.size,0,none⟩)) (((tn.setCell ⟨g,0,none⟩ (.bool bm)).setCell ⟨g,1,none⟩ (.slice am nm km)).alloc (.cells #[.bool bn,.slice an nn kn] 32)):=by
 have hs:((tn.setCell ⟨g,0,none⟩ (.bool bm)).setCell ⟨g,1,none⟩ (.slice am nm km)).heap.size=tn.heap.size:=by simp
 refine⟨_,_,bm,am,nm,km,bn,an,nn,kn,rfl,rfl,ci (av hq) _,?_,(ym.duo hq).below (aI _ _),(yn.duo hq).below (aI _ _),bH (az gn hg) _⟩
 rw [←hs]
 exact heap_alloc_new _ _

theorem gi {u tn:World}{zA zB:Int}{g:Nat}{bm:Bool}{am:Option Addr}{nm km:Nat}{bn:Bool}{an:Option Addr}{nn kn:Nat}(hq:tn.heap[g]?=some (.cells #[.bool false,.slice none 0 0] 32))(ym:Zn tn (.agg #[.bool bm,.slice am nm km]) zA)(yn:Zn tn (.agg #[.bool bn,.slice an nn kn]) zB)(gn:Below u.heap.size u tn)(hg:u.heap.size≤g) :
  cW u zA zB (.pointer (some ⟨tn.heap.size,0,none⟩)) (.pointer (some ⟨g,0,none⟩)) (((tn.setCell ⟨g,0,none⟩ (.bool bn)).setCell ⟨g,1,none⟩ (.slice an nn kn)).alloc (.cells #[.bool bm,.slice am nm km] 32)):=by
 have hs:((tn.setCell ⟨g,0,none⟩ (.bool bn)).setCell ⟨g,1,none⟩ (.slice an nn kn)).heap.size=tn.heap.size:=by simp
 refine⟨_,_,bm,am,nm,km,bn,an,nn,kn,rfl,rfl,?_,ci (av hq) _,(ym.duo hq).below (aI _ _),(yn.duo hq).below (aI _ _),bH (az gn hg) _⟩
 rw [←hs]
 exact heap_alloc_new _ _

theorem cG {u tn:World}{zA zB:Int}{g h:Nat}{bm:Bool}{am:Option Addr}{nm km:Nat}{bn:Bool}{an:Option Addr}{nn kn:Nat}(hq:tn.heap[g]?=some (.cells #[.bool false,.slice none 0 0] 32))(hr:tn.heap[h]?=some (.cells #[.bool false,.slice none 0 0] 32))(ym:Zn tn (.agg #[.bool bm,.slice am nm km]) zA)(yn:Zn tn (.agg #[.bool bn,.slice an nn kn]) zB)(gn:Below u.heap.size u tn)(hg:u.heap.size≤g)(hh:u.heap.size≤h)(hne:g≠h) :
  cW u zA zB (.pointer (some ⟨g,0,none⟩)) (.pointer (some ⟨h,0,none⟩)) ((((tn.setCell ⟨g,0,none⟩ (.bool bm)).setCell ⟨g,1,none⟩ (.slice am nm km)).setCell ⟨h,0,none⟩ (.bool bn)).setCell ⟨h,1,none⟩ (.slice an nn kn)):=by
 have h4:=dA (u0:=.bool bm) (u1:=.slice am nm km) hr (Ne.symm hne)
 exact⟨_,_,bm,am,nm,km,bn,an,nn,kn,rfl,rfl,dA (av hq) hne,av h4,(ym.duo hq).duo h4,(yn.duo hq).duo h4,az (az gn hg) hh⟩
end Go.Proofs.YtcbpdngogkbndaaGreatDoor
namespace Go.Proofs.YtcbpdngogkbndaaGreatDoor

theorem nr {x y:Nat}:(x &&& y) % 2=(x % 2 &&& y % 2):=Nat.and_mod_two_pow (n:=1)

theorem jp {x y:Nat}:(x ||| y) % 2=(x % 2 ||| y % 2):=Nat.or_mod_two_pow (n:=1)

theorem ki {x y:Nat}:(x ^^^ y) % 2=(x % 2 ^^^ y % 2):=Nat.xor_mod_two_pow (n:=1)

theorem m5:∀(x y:Nat),(x ^^^ y)+(x &&& y)=x ||| y:=by
 intro x
 induction x using Nat.strongRecOn with
 | _ x ih=>
  intro y
  by_cases h:x=0
  ·subst h;simp
  ·have i:=ih (x / 2) (by omega) (y / 2)
   have a1:(x &&& y) / 2=x / 2 &&& y / 2:=Nat.and_div_two
   have a2:(x ||| y) / 2=x / 2 ||| y / 2:=Nat.or_div_two
   have a3:(x ^^^ y) / 2=x / 2 ^^^ y / 2:=Nat.xor_div_two
   have b1:(x ^^^ y) % 2+(x &&& y) % 2=(x ||| y) % 2:=by
    rw [nr,jp,ki]
    rcases Nat.mod_two_eq_zero_or_one x with h1|h1 <;> rcases Nat.mod_two_eq_zero_or_one y with h2|h2 <;> rw [h1,h2] <;> rfl
   omega

theorem fJ {k b i:Nat}(hb:b<2 ^ k):(2 ^ k - 1 - b).testBit i=(decide (i<k) && !b.testBit i):=by
 have h:=Nat.testBit_two_pow_sub_succ hb i
 rw [show 2 ^ k - 1 - b=2 ^ k - (b+1) by omega]
 exact h

theorem dp {k a i:Nat}(ha:a<2 ^ k)(h:¬i<k):a.testBit i=false:=Nat.testBit_lt_two_pow (Nat.lt_of_lt_of_le ha (Nat.pow_le_pow_right (by omega) (by omega)))

theorem io (a b i:Nat):(a - (a &&& b)).testBit i=(a.testBit i && !b.testBit i):=by
 have e:a - (a &&& b)=a ^^^ (a &&& b):=by
  have h:=m5 a (a &&& b)
  have h1:a &&& (a &&& b)=a &&& b:=by apply Nat.eq_of_testBit_eq;intro i;simp [Nat.testBit_and]
  have h2:a ||| (a &&& b)=a:=by apply Nat.eq_of_testBit_eq;intro i;simp [Nat.testBit_and,Nat.testBit_or];cases a.testBit i <;> simp
  rw [h1,h2] at h
  omega
 rw [e]
 simp [Nat.testBit_xor,Nat.testBit_and]
 cases a.testBit i <;> cases b.testBit i <;> rfl

def tcv (k:Nat)(s:Bool)(m:Nat):Nat:=if s then 2 ^ k - 1 - m else m

theorem bY {k:Nat}{s:Bool}{m:Nat}(hm:m<2 ^ k)(i:Nat):(tcv k s m).testBit i=(decide (i<k) && (s != m.testBit i)):=by
 unfold tcv
 by_cases hi:i<k
 ·cases s
  ·simp [hi]
  ·simp [hi,fJ hm]
 ·cases s
  ·simp [hi,dp hm hi]
  ·simp [hi,fJ hm]

def cb (s t:Bool)(x y:Nat):Nat:=if s then (if t then x ||| y else y - (y &&& x)) else (if t then x - (x &&& y) else x &&& y)

def ca (s t:Bool)(x y:Nat):Nat:=if s then (if t then x &&& y else x - (x &&& y)) else (if t then y - (y &&& x) else x ||| y)

theorem im {k a:Nat}(h:∀i,k≤i→a.testBit i=false):a<2 ^ k:=Nat.lt_pow_two_of_testBit a h

theorem ee (s t:Bool)(x y i:Nat):(cb s t x y).testBit i=((s && t) != ((s != x.testBit i) && (t != y.testBit i))):=by
 unfold cb
 cases s <;> cases t <;> simp [Nat.testBit_and,Nat.testBit_or,io] <;> cases x.testBit i <;> cases y.testBit i <;> rfl

theorem fv (s t:Bool)(x y i:Nat):(ca s t x y).testBit i=((s || t) != ((s != x.testBit i) || (t != y.testBit i))):=by
 unfold ca
 cases s <;> cases t <;> simp [Nat.testBit_and,Nat.testBit_or,io] <;> cases x.testBit i <;> cases y.testBit i <;> rfl

theorem ei {k x y:Nat}(s t:Bool)(hx:x<2 ^ k)(hy:y<2 ^ k):cb s t x y<2 ^ k:=
 im fun i hi=>by rw [ee,dp hx (by omega),dp hy (by omega)];cases s <;> cases t <;> rfl

theorem fw {k x y:Nat}(s t:Bool)(hx:x<2 ^ k)(hy:y<2 ^ k):ca s t x y<2 ^ k:=
 im fun i hi=>by rw [fv,dp hx (by omega),dp hy (by omega)];cases s <;> cases t <;> rfl

theorem jC {k:Nat}{s t:Bool}{x y:Nat}(hx:x<2 ^ k)(hy:y<2 ^ k):tcv k s x &&& tcv k t y=tcv k (s && t) (cb s t x y):=by
 apply Nat.eq_of_testBit_eq
 intro i
 rw [Nat.testBit_and,bY hx,bY hy,bY (ei s t hx hy),ee]
 cases decide (i<k) <;> cases s <;> cases t <;> cases x.testBit i <;> cases y.testBit i <;> rfl

theorem j4 {k:Nat}{s t:Bool}{x y:Nat}(hx:x<2 ^ k)(hy:y<2 ^ k):tcv k s x ||| tcv k t y=tcv k (s || t) (ca s t x y):=by
 apply Nat.eq_of_testBit_eq
 intro i
 rw [Nat.testBit_or,bY hx,bY hy,bY (fw s t hx hy),fv]
 cases decide (i<k) <;> cases s <;> cases t <;> cases x.testBit i <;> cases y.testBit i <;> rfl

theorem jI {k:Nat}{s t:Bool}{x y:Nat}(hx:x<2 ^ k)(hy:y<2 ^ k):tcv k s x ^^^ tcv k t y=tcv k (s != t) (x ^^^ y):=by
 apply Nat.eq_of_testBit_eq
 intro i
 rw [Nat.testBit_xor,bY hx,bY hy,bY (Nat.xor_lt_two_pow hx hy),Nat.testBit_xor]
 cases decide (i<k) <;> cases s <;> cases t <;> cases x.testBit i <;> cases y.testBit i <;> rfl

def enc (s:Bool)(m:Nat):Int:=if s then -((m:Int)+1) else (m:Int)

def zsg (z:Int):Bool:=decide (z<0)

def zmg (z:Int):Nat:=if z<0 then z.natAbs - 1 else z.natAbs

theorem cM (s:Bool)(m:Nat):zsg (enc s m)=s:=by
 unfold enc zsg
 cases s <;> simp <;> omega

theorem cX (s:Bool)(m:Nat):zmg (enc s m)=m:=by
 unfold enc zmg
 cases s
 ·simp;omega
 ·simp only [if_true]
  rw [if_pos (by omega)]
  omega

def bg (x y:Int):Int:=enc (zsg x && zsg y) (cb (zsg x) (zsg y) (zmg x) (zmg y))

def zor (x y:Int):Int:=enc (zsg x || zsg y) (ca (zsg x) (zsg y) (zmg x) (zmg y))

def bi (x y:Int):Int:=enc (zsg x != zsg y) (zmg x ^^^ zmg y)

theorem fR (m p:Nat)(hp:0<p):(-((m:Int)+1)) / (p:Int)=-((m / p:Nat):Int) - 1:=by
 have h1:=Nat.div_add_mod m p
 have h2:=Nat.mod_lt m hp
 have h3:(m:Int)=(p:Int)*((m / p:Nat):Int)+((m % p:Nat):Int):=by
  rw [←Int.natCast_mul]
  omega
 generalize ((m / p:Nat):Int)=q at *
 refine ((Int.ediv_emod_unique (r:=(p:Int) - ((m % p:Nat):Int) - 1) (q:=-q - 1) (by omega)).2 ⟨?_,by omega,by omega⟩).1
 have h4:(p:Int)*(-q - 1)=-((p:Int)*q) - (p:Int):=by grind
 omega

theorem m7 {x p:Nat}(hx:0<x)(hp:0<p):(x - 1) / p=if x % p=0 then x / p - 1 else x / p:=by
 have h1:=Nat.div_add_mod x p
 have h2:=Nat.mod_lt x hp
 split
 ·rename_i h
  rw [h,Nat.add_zero] at h1
  have hq:0<x / p:=by
   rcases Nat.eq_zero_or_pos (x / p) with e|e
   ·rw [e,Nat.mul_zero] at h1;omega
   ·exact e
  obtain⟨q,hq2⟩:∃q,x / p=q+1:=⟨x / p - 1,by omega⟩
  rw [hq2] at h1 ⊢
  have h3:p*(q+1)=p*q+p:=Nat.mul_succ p q
  have e:x - 1=p - 1+p*q:=by omega
  rw [e,Nat.add_mul_div_left _ _ hp,Nat.div_eq_of_lt (by omega)]
  omega
 ·rename_i h
  have e:x - 1=(x % p - 1)+p*(x / p):=by omega
  rw [e,Nat.add_mul_div_left _ _ hp,Nat.div_eq_of_lt (by omega)]
  omega

theorem hJ {t k i:Nat}:(2 ^ t*(2*k+1)) % 2 ^ i=0 ↔ i≤t:=by
 constructor
 ·intro h
  rcases Nat.lt_or_ge t i with h1|h1
  ·exfalso
   obtain⟨d,rfl⟩:∃d,i=t+1+d:=⟨i - t - 1,by omega⟩
   have h2:2 ^ t*2 ∣ 2 ^ t*(2*k+1):=by
    refine Nat.dvd_trans ⟨2 ^ d,?_⟩ (Nat.dvd_of_mod_eq_zero h)
    rw [Nat.pow_add,Nat.pow_succ]
   have h3:=Nat.dvd_of_mul_dvd_mul_left (Nat.pow_pos (by omega)) h2
   omega
  ·exact h1
 ·intro h
  obtain⟨d,rfl⟩:∃d,t=i+d:=⟨t - i,by omega⟩
  rw [Nat.pow_add,Nat.mul_assoc]
  exact Nat.mul_mod_right _ _

def aW (z:Int)(i:Nat):Int:=z / ((2 ^ i:Nat):Int) % 2

theorem d7 (x i:Nat):aW (x:Int) i=((x / 2 ^ i % 2:Nat):Int):=by
 unfold aW
 rw [←Int.natCast_ediv]
 omega

theorem kG {x t k:Nat}(hx:x=2 ^ t*(2*k+1))(i:Nat):aW (-(x:Int)) i=if t<i then 1 - ((x / 2 ^ i % 2:Nat):Int) else ((x / 2 ^ i % 2:Nat):Int):=by
 have hp:0<2 ^ i:=Nat.pow_pos (by omega)
 have hx0:0<x:=by rw [hx];exact Nat.mul_pos (Nat.pow_pos (by omega)) (by omega)
 have e:-(x:Int)=-(((x - 1:Nat):Int)+1):=by omega
 unfold aW
 rw [e,fR _ _ hp,m7 hx0 hp]
 have ht:=hJ (t:=t) (k:=k) (i:=i)
 rw [←hx] at ht
 generalize 2 ^ i=p at *
 by_cases h:t<i
 ·rw [if_pos h,if_neg (fun h2=>by have:=ht.1 h2;omega)]
  omega
 ·rw [if_neg h,if_pos (ht.2 (by omega))]
  have h1:=Nat.div_add_mod x p
  have h2:=ht.2 (by omega)
  have hq:0<x / p:=by
   rcases Nat.eq_zero_or_pos (x / p) with e|e
   ·rw [e,Nat.mul_zero] at h1;omega
   ·exact e
  omega
end Go.Proofs.YtcbpdngogkbndaaGreatDoor

