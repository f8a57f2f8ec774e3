/- The document's Int; what the laws of whole numbers use: num, of, in, lent, alike. -/
import Derived.Test.YtdbjbbdhlpfhjaaGreatDoorB13
import Derived.Test.YtdbjbbdhlpfhjaaGreatDoorB03
import Derived.Test.YtdbjbbdhlpfhjaaGreatDoorB01
import Derived.Test.YtdbjbbdhlpfhjaaGreatDoorB11
import Derived.Test.YtdbjbbdhlpfhjaaGreatDoorB07
import Derived.Handy
import Derived.Test.YtdbjbbdhlpfhjaaGreatDoorB08
import Derived.Test.YtdbjbbdhlpfhjaaGreatDoorB10
import Derived.Test.YtdbjbbdhlpfhjaaGreatDoorB12
import Derived.Test.YtdbjbbdhlpfhjaaGreatDoorB02
set_option maxRecDepth 20000
set_option maxHeartbeats 4000000
namespace Go.Proofs.YtdbjbbdhlpfhjaaGreatDoor
open Go.RowKit
open Lm
attribute [local go_sem ↓] Go.wp_at_zero Go.wp_at_succ

theorem dZ (c:Int)(w:World):Calls Tryz.prog 20 #[.int .i64 c] w fun e w'=>e=.returned (.int .i64 c)∧w'=w:=by
 go_enter Tryz.func20,Tryz.ntmps20
 go_wp2
 go_ret
 exact⟨rfl,rfl⟩

theorem fi (n:Int)(w:World)(h1:-9223372036854775808≤n)(h2:n≤9223372036854775807) :
  Calls Tryz.prog 27 #[.int .i64 n] w (bj w n):=by
 obtain⟨w0,hw0,hb0,hx0⟩:=aO w (.cells #[.bool false,.slice none 0 0] 32)
 have HB0:=aa hb0
 have HX0:=aa hx0
 by_cases hn:n<0
 ·obtain⟨x,hx,hx2⟩:∃x:Nat,n=-(x:Int)∧x<18446744073709551616:=⟨n.natAbs,by omega,by omega⟩
  have q1:IntKind.i64.wrap (n+1)=n+1:=by rw [IntKind.wrap_i64];omega
  have q2:IntKind.i64.wrap (-(n+1))=-(n+1):=by rw [IntKind.wrap_i64];omega
  have q3:IntKind.u64.wrap (-(n+1))=-(n+1):=by rw [IntKind.wrap_u64];omega
  have q4:IntKind.u64.wrap (-(n+1)+1)=(x:Int):=by rw [IntKind.wrap_u64];omega
  obtain⟨w6,hw6,hb6,hx6⟩:=aO w0 (.cells #[.int .u64 x] 61)
  have hblk:Blk w6 w0.heap.size [x]:=hx6
  have A6:=Ans.of_blk (base:=w0.heap.size) (zs:=[x]) (Nat.le_refl _) hblk (by simp) (by simp) (by simp) (by intro z hz;simp at hz;omega)
  have HO:=gi (.slice (some ⟨w0.heap.size,0,none⟩) 1 1) [x] w6 (A6.arg (by simp)) (by simp)
  rw [show val [x]=x from by simp [val]] at HO
  have HB6:=aa hb6
  have ez:zz true x=n:=by simp [zz];omega
  have HEZ:=aa ez
  clear hb0 hx0 hb6 hx6 hblk A6 hx ez
  go_enter Tryz.func27,Tryz.ntmps27
  go_wp2_with fail
  refine HO.mono ?_
  rintro e w1 ⟨⟨v1,rfl,hn1⟩,hb1⟩
  have HM:=ce true v1 x w1 hn1
  rw [HEZ.out] at HM
  have HW1:=aa (HB6.out.trans (hb1.mono HB6.out.size))
  obtain⟨a2,n2,k2,rfl⟩:=hn1.sl
  clear hn1 hb1 HO
  go_wp2_with fail
  refine HM.mono ?_
  rintro e w2 ⟨⟨b1,a1,n1,k1,rfl,hzn⟩,hb2⟩
  have HZN:=aa hzn
  have HW:=aa (HW1.out.trans (hb2.mono HW1.out.size))
  clear hzn hb2 HM hw0 hw6
  have hbx:=ac HW.out HX0.out
  have hf1:=av hbx
  obtain⟨l0,l1⟩:=duo hbx
  have HBX:=aa hbx
  have HBE:=aa (HB0.out.trans (HW.out.mono HB0.out.size))
  clear hbx
  go_wp2
  have R5:=aI HBX.out (a':=.bool b1) (b':=.slice a1 n1 k1)
  have HD:=aa (And.intro (HZN.out.duo (p1:=b1) (r1:=.slice a1 n1 k1) HBX.out) (aC HBE.out (g:=w.heap.size) (u0:=.bool b1) (u1:=.slice a1 n1 k1) (by omega)))
  generalize (w2.setCell ⟨w.heap.size,0,none⟩ (.bool b1)).setCell ⟨w.heap.size,1,none⟩ (.slice a1 n1 k1)=w5 at *
  obtain⟨q0,q1⟩:=duo R5
  refine bodyPost_ret (v:=.agg #[.bool b1,.slice a1 n1 k1]) (by simp [results,Tryz.results27,go_sem,q0,q1]) rfl ?_
  exact⟨⟨_,_,_,_,rfl,HD.out.1⟩,HD.out.2⟩
 ·obtain⟨x,hx,hx2⟩:∃x:Nat,n=(x:Int)∧x<9223372036854775808:=⟨n.natAbs,by omega,by omega⟩
  subst hx
  have HO:=lf x w0 hx2
  have ez:zz false x=(x:Int):=by simp [zz]
  have HEZ:=aa ez
  clear hb0 hx0 ez
  go_enter Tryz.func27,Tryz.ntmps27
  go_wp2_with fail
  refine HO.mono ?_
  rintro e w1 ⟨⟨v1,rfl,hn1⟩,hb1⟩
  have HM:=ce false v1 x w1 hn1
  rw [HEZ.out] at HM
  have HW1:=aa hb1
  obtain⟨a2,n2,k2,rfl⟩:=hn1.sl
  clear hn1 hb1 HO
  go_wp2_with fail
  refine HM.mono ?_
  rintro e w2 ⟨⟨b1,a1,n1,k1,rfl,hzn⟩,hb2⟩
  have HZN:=aa hzn
  have HW:=aa (HW1.out.trans (hb2.mono HW1.out.size))
  clear hzn hb2 HM hw0
  have hbx:=ac HW.out HX0.out
  have hf1:=av hbx
  obtain⟨l0,l1⟩:=duo hbx
  have HBX:=aa hbx
  have HBE:=aa (HB0.out.trans (HW.out.mono HB0.out.size))
  clear hbx
  go_wp2
  have R5:=aI HBX.out (a':=.bool b1) (b':=.slice a1 n1 k1)
  have HD:=aa (And.intro (HZN.out.duo (p1:=b1) (r1:=.slice a1 n1 k1) HBX.out) (aC HBE.out (g:=w.heap.size) (u0:=.bool b1) (u1:=.slice a1 n1 k1) (by omega)))
  generalize (w2.setCell ⟨w.heap.size,0,none⟩ (.bool b1)).setCell ⟨w.heap.size,1,none⟩ (.slice a1 n1 k1)=w5 at *
  obtain⟨q0,q1⟩:=duo R5
  refine bodyPost_ret (v:=.agg #[.bool b1,.slice a1 n1 k1]) (by simp [results,Tryz.results27,go_sem,q0,q1]) rfl ?_
  exact⟨⟨_,_,_,_,rfl,HD.out.1⟩,HD.out.2⟩

theorem jj (b:Bool)(v:Value)(X:List Nat)(w:World)(hA:Arg w v X)(hf:X.length≤17592186044416) :
  Calls Tryz.prog 7 #[.agg #[.bool b,v]] w (bj w (zz b (val X))):=by
 obtain⟨a,n,rfl,_,_,_⟩:=hA.form
 obtain⟨w0,hw0,hb0,h0,hx0⟩:=bR w (.cells #[.bool b,.slice a X.length n] 24) (.cells #[.bool false,.slice none 0 0] 32)
 obtain⟨k0,k1⟩:=duo h0
 have HM:=dv b _ X w0 (hA.below hb0) hf
 have HB0:=aa hb0
 have HX0:=aa hx0
 clear hA hb0 h0 hx0
 go_enter Tryz.func7,Tryz.ntmps7
 go_wp2_with fail
 refine HM.mono ?_
 rintro e w1 ⟨⟨b1,a1,n1,k1,rfl,hzn⟩,hb1⟩
 have HZN:=aa hzn
 have HW:=aa hb1
 clear hzn hb1 HM hw0 k0
 have hbx:=ac HW.out HX0.out
 have hf1:=av hbx
 obtain⟨l0,l1⟩:=duo hbx
 have HBX:=aa hbx
 have HBE:=aa (HB0.out.trans (HW.out.mono HB0.out.size))
 clear hbx
 go_wp2
 have R5:=aI HBX.out (a':=.bool b1) (b':=.slice a1 n1 k1)
 have HD:=aa (And.intro (HZN.out.duo (p1:=b1) (r1:=.slice a1 n1 k1) HBX.out) (aC HBE.out (g:=w.heap.size+1) (u0:=.bool b1) (u1:=.slice a1 n1 k1) (by omega)))
 generalize (w1.setCell ⟨w.heap.size+1,0,none⟩ (.bool b1)).setCell ⟨w.heap.size+1,1,none⟩ (.slice a1 n1 k1)=w5 at *
 obtain⟨q0,q1⟩:=duo R5
 refine bodyPost_ret (v:=.agg #[.bool b1,.slice a1 n1 k1]) (by simp [results,Tryz.results7,go_sem,q0,q1]) rfl ?_
 exact⟨⟨_,_,_,_,rfl,HD.out.1⟩,HD.out.2⟩

theorem il (b:Bool)(a:Option Addr)(m n:Nat)(w:World) :
  Calls Tryz.prog 19 #[.agg #[.bool b,.slice a m n]] w fun e w'=>e=.returned (.agg #[.bool b,.slice a m n])∧Below w.heap.size w w':=by
 obtain⟨w0,hw0,hb0,h0,hx0⟩:=bR w (.cells #[.bool b,.slice a m n] 24) (.cells #[.bool false,.slice none 0 0] 27)
 obtain⟨k0,k1⟩:=duo h0
 have HB0:=aa hb0
 have HX0:=aa hx0
 have HW:Hid (Below w0.heap.size w0 w0):=aa (Below.refl _ _)
 clear hb0 h0 hx0
 have hbx:=ac HW.out HX0.out
 have hf1:=av hbx
 obtain⟨l0,l1⟩:=duo hbx
 have HBX:=aa hbx
 have HBE:=aa (HB0.out.trans (HW.out.mono HB0.out.size))
 clear hbx
 go_enter Tryz.func19,Tryz.ntmps19
 go_wp2
 have R5:=aI HBX.out (a':=.bool b) (b':=.slice a m n)
 have HD:=aa (aC HBE.out (g:=w.heap.size+1) (u0:=.bool b) (u1:=.slice a m n) (by omega))
 generalize (w0.setCell ⟨w.heap.size+1,0,none⟩ (.bool b)).setCell ⟨w.heap.size+1,1,none⟩ (.slice a m n)=w5 at *
 obtain⟨q0,q1⟩:=duo R5
 refine bodyPost_ret (v:=.agg #[.bool b,.slice a m n]) (by simp [results,Tryz.results19,go_sem,q0,q1]) rfl ?_
 exact⟨rfl,HD.out⟩



theorem oX (x:Int):cv x x=0:=by unfold cv;rw [if_neg (by omega),if_neg (by omega)]



theorem nN (ba bb:Bool)(va vb:Value)(X Y:List Nat)(w:World)(hA:Arg w va X)(hB:Arg w vb Y)(hT:Tab w)(lX:X.length≤17592186043904)(lY:Y.length≤17592186043904)(bX:blen (val X)≤67108864)(bY:blen (val Y)≤67108864) :
  Calls Tryz.prog 9 #[.agg #[.bool ba,va],.agg #[.bool bb,vb]] w (fA (zz ba (val X)) (zz bb (val Y)) w):=by
 rcases Nat.eq_zero_or_pos (val Y) with h|h
 ·exact nX ba bb va vb X Y w hA hB lX bX h
 ·exact lk ba bb va vb X Y w hA hB hT lX lY bX bY h

theorem ka {az bz:Int}{g:Nat}{x y:Int}{n:Nat}(h:dX az bz g x y)(ha:blen az.natAbs≤n)(hb:blen bz.natAbs≤n)(hn:1≤n):blen x.natAbs≤n∧blen y.natAbs≤n∧blen g≤n:=by
 have h1:∀r:Nat,r≤1→blen r≤n:=fun r hr=>by
  have:blen r≤1:=(blen_le_iff _ _).2 (by omega)
  omega
 refine⟨?_,?_,?_⟩
 ·by_cases hz:bz=0
  ·obtain⟨e,_⟩:=h.none hz
   refine h1 _ ?_
   rw [e]
   rcases Int.lt_trichotomy az 0 with h2|h2|h2
   ·rw [Int.sign_eq_neg_one_of_neg h2];decide
   ·rw [h2];decide
   ·rw [Int.sign_eq_one_of_pos h2];decide
  ·obtain⟨_,h3⟩:=h.some hz
   have hg:0<g:=by rw [h.gcd];exact Nat.gcd_pos_of_pos_right _ (by omega)
   have h4:x.natAbs≤x.natAbs*g:=Nat.le_mul_of_pos_right _ hg
   exact Nat.le_trans (cJ (by omega)) hb
 ·rcases h.ly with h2|h2
  ·exact Nat.le_trans (cJ h2) ha
  ·exact h1 _ h2
 ·rcases Nat.eq_zero_or_pos bz.natAbs with h2|h2
  ·rw [h.gcd,h2,Nat.gcd_zero_right];exact ha
  ·exact Nat.le_trans (cJ (by rw [h.gcd];exact Nat.gcd_le_right _ h2)) hb

theorem ZA.getB {w:World}{base:Nat}{b:Bool}{v:Value}{z:Int}(h:ZA w base b v z)(hz:blen z.natAbs≤67108864):∃rs,Arg w v rs∧zz b (val rs)=z∧rs.length≤1048576∧val rs=z.natAbs∧tr rs=rs:=by
 obtain⟨rs,hA,h2,h3,h4⟩:=h
 have hl:=cK h4 (by rw [h3];exact hz)
 exact⟨rs,hA.arg (by omega),by rw [h2,h3];exact fh z,hl,h3,h4⟩

theorem pn {z:Int}{n:Nat}(h:blen z.natAbs≤n):blen (z - 1).natAbs≤n+1:=by
 refine (blen_le_iff _ _).2 ?_
 have h1:=(blen_le_iff _ _).1 h
 have h3:(2:Nat) ^ (n+1)=2 ^ n*2:=Nat.pow_succ ..
 have h4:1≤(2:Nat) ^ n:=Nat.one_le_two_pow
 rw [h3]
 generalize (2:Nat) ^ n=N at *
 omega

theorem jR {x y n:Nat}(hy:0<y)(h:n+blen y<blen x):n<blen (x / y):=by
 refine Nat.lt_of_not_le fun hle=>?_
 have h1:=(blen_le_iff (x / y) n).1 hle
 have h2:=(blen_le_iff y _).1 (Nat.le_refl _)
 have h3:x<2 ^ (n+blen y):=by
  rw [Nat.pow_add]
  have h4:=Nat.div_add_mod x y
  have h5:=Nat.mod_lt x hy
  have h6:y*(x / y+1)≤2 ^ blen y*2 ^ n:=Nat.mul_le_mul (Nat.le_of_lt h2) h1
  rw [Nat.mul_add,Nat.mul_one] at h6
  rw [Nat.mul_comm (2 ^ n)]
  omega
 have h7:=(blen_le_iff x _).2 h3
 omega

attribute [local go_sem] mM kI in
theorem wdivide_2 (b1:Bool)(v:Value)(X:List Nat)(b2:Bool)(u:Value)(Y:List Nat)(ap fu:Bool)(qz rz:Int)(w:World)(hA:Arg w v X)(hB:Arg w u Y)(hT:Tab w)(hx:X.length≤17592186043904)(hy:Y.length≤17592186043904)(hy0:0<val Y)
  (hap:(b1 != b2)=ap) (hfu:ap=fu)
  (hqz:qz=zz ap (val X / val Y+if fu && decide (0<val X % val Y) then 1 else 0)) (hrz:rz=zz (if fu && decide (0<val X % val Y) then !b1 else b1) (if fu && decide (0<val X % val Y) then val Y - val X % val Y else val X % val Y)) :
  Calls Tryz.prog 90 #[.int .i64 1,.agg #[.bool b1,v],.agg #[.bool b2,u]] w (i8 w qz rz):=by
 have hap2:(!(b1 == b2))=ap:=hap
 have HFU:=aa hfu
 clear hfu
 obtain⟨a,n,rfl,hn1,hn2,_⟩:=hA.form
 obtain⟨a9,n9,rfl,hn3,hn4,_⟩:=hB.form
 obtain⟨w0,hw0,hb0,h0,h1,h2,h3⟩:=fp w (.cells #[.bool b1,.slice a X.length n] 27) (.cells #[.bool b2,.slice a9 Y.length n9] 27) (.cells #[.bool false,.slice none 0 0] 27) (.cells #[.bool false,.slice none 0 0] 27)
 obtain⟨k0,k1⟩:=duo h0
 obtain⟨k2,k3⟩:=duo h1
 have hbx:blen (val X)≤64*X.length:=ev X hA.limbs
 have hby:blen (val Y)≤64*Y.length:=ev Y hB.limbs
 have HZ:=dW _ Y w0 (hB.below hb0)
 rw [decide_eq_false (by omega)] at HZ
 obtain⟨wd,hwd⟩:∃wd,w0.drew=wd:=⟨_,rfl⟩
 have hbd:Below w0.heap.size w0 wd:=by rw [←hwd];exact (Below.refl _ _).drew
 have hbwd:=hb0.trans (hbd.mono hb0.size)
 have L1:=bf _ X wd (hA.below hbwd)
 have L2:=bf _ Y wd (hB.below hbwd)
 have g0:=ac hbd h0
 have g1:=ac hbd h1
 obtain⟨d0,d1⟩:=duo g0
 obtain⟨d2,d3⟩:=duo g1
 have HG0:=aa g0
 have HG1:=aa g1
 have HG2:=aa (ac hbd h2)
 have HG3:=aa (ac hbd h3)
 have HWD:=aa hbwd
 obtain⟨dd,hdd⟩:∃dd:Int,((blen (val X):Nat):Int) - ((blen (val Y):Nat):Int)=dd:=⟨_,rfl⟩
 have wdd:IntKind.i64.wrap dd=dd:=by rw [IntKind.wrap_i64];omega
 have wdd2:IntKind.i64.wrap (((blen (val X):Nat):Int) - ((blen (val Y):Nat):Int))=dd:=by rw [IntKind.wrap_i64];omega
 have HQZ:=aa hqz
 have HRZ:=aa hrz
 have HA:=aa (hA.below hbwd)
 have HB:=aa (hB.below hbwd)
 have HT:=aa (hT.below hbwd)
 by_cases hbig:67108864+blen (val Y)<blen (val X)
 ·have i1:(67108864:Int)<dd:=by omega
  have HBQ:Hid (67108864<blen qz.natAbs):=by
   refine aa ?_
   rw [hqz,aF]
   refine Nat.lt_of_lt_of_le ?_ (fo (Nat.le_add_right _ _))
   exact jR (by omega) hbig
  generalize blen (val X)=lx at *
  generalize blen (val Y)=ly at *
  clear hA hB hT hb0 h0 h1 h2 h3 hbd hbwd g0 g1 HQZ HRZ hqz hrz hbig
  go_enter Tryz.func90,Tryz.ntmps90
  go_wp2_with fail
  refine HZ.mono ?_
  rintro e wn ⟨rfl,hw⟩;rw [hw];clear hw wn HZ
  go_wp2
  go_region_held3 (fun w'=>w'.cell? ⟨w.heap.size,1,none⟩=some (.slice a X.length n)∧w'.cell? ⟨w.heap.size+1,1,none⟩=some (.slice a9 Y.length n9)) (go_keep) (first
   | (go_at_call_of 80 a;(try rw [hwd]);refine L1.mono ?_;rintro e' wn ⟨rfl,hw⟩;rw [hw];clear hw wn)
   | (go_at_call_of 80 a9;(try rw [hwd]);refine L2.mono ?_;rintro e' wn ⟨rfl,hw⟩;rw [hw];clear hw wn))

  have HR2:=HG2
  have HR3:=HG3
  have HBE:=HWD
  have hf2:=av HR2.out
  have hf3:=av HR3.out
  obtain⟨m0,m1⟩:=duo HR2.out
  obtain⟨m2,m3⟩:=duo HR3.out
  go_wp2
  have hq4:=cH (base:=w.heap.size) (u0:=.bool false) (u1:=(.slice none 0 0)) (u2:=.bool false) (u3:=(.slice none 0 0)) HR2.out HR3.out
  have HD:=aa (And.intro hq4.2.2 (cb HBE.out (g:=w.heap.size+2) (u0:=.bool false) (u1:=(.slice none 0 0)) (u2:=.bool false) (u3:=(.slice none 0 0)) (by omega)))
  obtain⟨R5,R6,_⟩:=hq4
  generalize (((wd.setCell ⟨w.heap.size+2,0,none⟩ (.bool false)).setCell ⟨w.heap.size+2,1,none⟩ ((.slice none 0 0))).setCell ⟨w.heap.size+2+1,0,none⟩ (.bool false)).setCell ⟨w.heap.size+2+1,1,none⟩ ((.slice none 0 0))=w5 at *
  obtain⟨q0,q1⟩:=duo R5
  obtain⟨q2,q3⟩:=duo R6
  refine bodyPost_ret (v:=.tuple #[.agg #[.bool false,(.slice none 0 0)],.agg #[.bool false,(.slice none 0 0)],.int .i64 3]) (by simp [results,Tryz.results90,go_sem,q0,q1,q2,q3]) rfl ?_
  exact⟨⟨_,_,_,_,_,_,_,_,3,rfl,[],[],Ans.nil _ _,Ans.nil _ _,.inl rfl,.inr ⟨rfl,rfl,rfl,rfl,rfl,rfl,rfl,.inl HBQ.out⟩⟩,HD.out.2⟩
 ·have i1:¬(67108864:Int)<dd:=by omega
  have HBO:=wboth_any (blen (val X)) X Y _ _ wd (by omega) HA.out HB.out HT.out (by omega) (by omega) hy0
  generalize blen (val X)=lx at *
  generalize blen (val Y)=ly at *
  clear hA hB hT hb0 h0 h1 h2 h3 hbd hbwd g0 g1 hqz hrz hbig
  go_enter Tryz.func90,Tryz.ntmps90
  go_wp2_with fail
  refine HZ.mono ?_
  rintro e wn ⟨rfl,hw⟩;rw [hw];clear hw wn HZ
  go_wp2
  go_region_held3 (fun w'=>w'.cell? ⟨w.heap.size,1,none⟩=some (.slice a X.length n)∧w'.cell? ⟨w.heap.size+1,1,none⟩=some (.slice a9 Y.length n9)) (go_keep) (first
   | (go_at_call_of 80 a;(try rw [hwd]);refine L1.mono ?_;rintro e' wn ⟨rfl,hw⟩;rw [hw];clear hw wn)
   | (go_at_call_of 80 a9;(try rw [hwd]);refine L2.mono ?_;rintro e' wn ⟨rfl,hw⟩;rw [hw];clear hw wn))

  go_wp2_with fail
  refine HBO.mono ?_
  rintro e w1 ⟨⟨v1,v2,rq,rr,rfl,A1,A2,e1,t1,e2,t2,hapt⟩,hb1⟩
  obtain⟨aq,kq,rfl⟩:=A1.shape
  obtain⟨ar,kr,rfl⟩:=A2.shape
  have hlq:rq.length≤X.length:=by
   rw [←t1];refine aQ rq _ ?_
   rw [e1];exact Nat.lt_of_le_of_lt (Nat.div_le_self _ _) (val_lt HA.out.limbs)
  have hlr:rr.length≤Y.length:=by
   rw [←t2];refine aQ rr _ ?_
   rw [e2];exact Nat.lt_trans (Nat.mod_lt _ hy0) (val_lt HB.out.limbs)
  have hnz:=gc t2
  rw [e2] at hnz
  have HWB:=aa (HWD.out.trans (hb1.mono HWD.out.size))
  have HK0:=aa (ac hb1 HG0.out)
  have HK1:=aa (ac hb1 HG1.out)
  have HR2:=aa (ac hb1 HG2.out)
  have HR3:=aa (ac hb1 HG3.out)
  have HB1:=aa (HB.out.below hb1)
  have HT1:=aa (HT.out.below hb1)
  have HQA:=aa (And.intro (A1.base HWD.out.size) (And.intro e1 t1))
  have HRA:=aa (And.intro (A2.base HWD.out.size) (And.intro e2 t2))
  have HAP:=aa hapt
  have HLQ:=aa (And.intro (show rq.length≤1125899906842624 by omega) (show rr.length≤1125899906842624 by omega))
  obtain⟨f0,f1⟩:=duo HK0.out
  obtain⟨f2,f3⟩:=duo HK1.out
  obtain⟨lq,hnq⟩:∃lq,rq.length=lq:=⟨_,rfl⟩
  obtain⟨lr,hnr⟩:∃lr,rr.length=lr:=⟨_,rfl⟩
  rw [hnq] at HQA HAP ⊢
  rw [hnr] at HRA HAP ⊢
  have HLN:=aa (And.intro hlq (And.intro hlr (And.intro hnq hnr)))
  rw [hnr] at hnz
  clear A1 A2 e1 e2 t1 t2 hapt hb1 HBO k0 k1 k2 k3 d0 d1 d2 d3 hlq hlr hnq hnr HG0 HG1 HG2 HG3 HA HB HT L1 L2
  go_wp2
  go_quiet (fail)
  obtain⟨wq,hwq⟩:∃wq,wq=w1.drewN nq:=⟨_,rfl⟩
  have hbq:Below w1.heap.size w1 wq:=by rw [hwq];exact ((aA.refl w1).drewN nq).below _
  rw [←hwq]
  have HWB2:=aa (HWB.out.trans (hbq.mono HWB.out.size))
  have HK12:=aa (ac hbq HK1.out)
  have HR22:=aa (ac hbq HR2.out)
  have HR32:=aa (ac hbq HR3.out)
  have HB12:=aa (HB1.out.below hbq)
  have HQA2:=aa (And.intro (HQA.out.1.below hbq) HQA.out.2)
  have HRA2:=aa (And.intro (HRA.out.1.below hbq) HRA.out.2)
  clear HWB HK0 HK1 HR2 HR3 HB1 HQA HRA f0 f1 f2 f3 hwq hbq HT1
  have HWB:=HWB2
  have HR2:=HR22
  have HR3:=HR32
  obtain⟨f2,f3⟩:=duo HK12.out
  clear HWB2 HR22 HR32
  by_cases hr:0<lr
  ·have i3:(0:Int)<(lr:Int):=by omega
   have hr0:0<val X % val Y:=by omega
   have hml:=Nat.mod_lt (val X) hy0
   clear hnz
   have HLS:=dp _ (.slice ar lr kr) Y rr wq HB12.out (HRA2.out.1.arg HLQ.out.2) (by omega) (by rw [HRA2.out.2.1];omega)
   rw [HRA2.out.2.1] at HLS
   go_wp2_with fail
   refine HLS.mono ?_
   rintro e w3 ⟨⟨v3,r3,rfl,A3,e3,t3⟩,hb3⟩
   obtain⟨a3,k3,rfl⟩:=A3.shape
   have hl3:r3.length≤Y.length:=by
    rw [←t3];refine aQ r3 _ ?_
    rw [e3];exact Nat.lt_of_le_of_lt (Nat.sub_le _ _) (val_lt HB12.out.limbs)
   obtain⟨l3,hl3e⟩:∃l3,r3.length=l3:=⟨_,rfl⟩
   rw [hl3e] at A3 ⊢
   have hDV:=wdivs_any w3
   have HB3:=aa hb3
   have HA3:=aa (And.intro A3 (And.intro e3 (And.intro t3 (show r3.length≤1125899906842624 by omega))))
   clear A3 e3 t3 hb3 hl3 hl3e HLS f2 f3 HK12 HB12
   go_wp2_with fail
   refine hDV.mono ?_
   rintro e w4 ⟨rfl,hb4⟩
   have HB4:=aa (HB3.out.trans (hb4.mono HB3.out.size))
   have HA4:=aa (HA3.out.1.below hb4)
   have hFU:Calls Tryz.prog 169 #[f9 (.slice aq lq kq) (.slice ar lr kr) (.slice a3 l3 k3) b1 ap] w4 (fun e w'=>e=.returned (.bool fu)∧Below w4.heap.size w4 w'):=(pu aq ar a3 lq kq lr kr l3 k3 b1 ap w4).mono (fun e w' h=>⟨h.1.trans (by rw [HFU.out]),h.2⟩)
   clear hb4 hDV HB3
   go_wp2_with fail
   refine hFU.mono ?_
   rintro e w5 ⟨rfl,hb5⟩
   have hb45:=HB4.out.trans (hb5.mono HB4.out.size)
   have HR2':=aa (ac hb45 HR2.out)
   have HR3':=aa (ac hb45 HR3.out)
   have HQ5:=aa (And.intro (HQA2.out.1.below hb45) HQA2.out.2)
   have HR5:=aa (And.intro (HRA2.out.1.below hb45) HRA2.out.2)
   have HL5:=aa (And.intro ((HA4.out.below hb5).base (Nat.le_trans HWB.out.size (Nat.le_refl _))) (And.intro HA3.out.2.1 HA3.out.2.2.1))
   have HWB5:=aa (HWB.out.trans (hb45.mono HWB.out.size))
   have HLN3:=aa HA3.out.2.2.2
   clear hb5 hb45 hFU HA4 HB4 HA3 HR2 HR3 HWB HQA2 HRA2
   have HR2:=HR2'
   have HR3:=HR3'
   clear HR2' HR3'
   cases fu
   ·have HQ:=HQ5
    have HR:=HR5
    have HWB:=HWB5
    have hq9:=HQZ.out
    have hr9:=HRZ.out
    simp only [Bool.false_and,Bool.false_eq_true,if_false,Nat.add_zero] at hq9 hr9
    clear HQZ HRZ
    have HQZ:=aa hq9
    have HRZ:=aa hr9
    clear hq9 hr9 HQ5 HR5 HL5 HWB5
    obtain⟨wv,hwv,hbv,hxv⟩:=aO w5 (.cells #[.slice aq lq kq,.slice ar lr kr] 25)
    have hAB:=fq w5.heap.size (.slice aq lq kq) (.slice ar lr kr) rq rr wv hxv ((HQ.out.1.arg HLQ.out.1).below hbv) ((HR.out.1.arg HLQ.out.2).below hbv)
    have HR2v:=aa (ac hbv HR2.out)
    have HR3v:=aa (ac hbv HR3.out)
    have HBV:=aa (HWB.out.trans (hbv.mono HWB.out.size))
    have HQv:=aa (HQ.out.1.below hbv)
    have HRv:=aa (HR.out.1.below hbv)
    clear hbv hxv HR2 HR3
    by_cases hbig:67108864<blen (val rq)∨67108864<blen (val rr)
    ·rw [decide_eq_true hbig] at hAB
     have HBIG:=aa hbig
     clear hbig
     go_wp2_with fail
     refine hAB.mono ?_
     rintro e wn ⟨rfl,hw⟩;rw [hw];clear hw wn hAB
     have HR2:=HR2v
     have HR3:=HR3v
     have HBE:=HBV
     have hf2:=av HR2.out
     have hf3:=av HR3.out
     obtain⟨m0,m1⟩:=duo HR2.out
     obtain⟨m2,m3⟩:=duo HR3.out
     go_wp2
     have hq4:=cH (base:=w.heap.size) (u0:=.bool false) (u1:=(.slice none 0 0)) (u2:=.bool false) (u3:=(.slice none 0 0)) HR2.out HR3.out
     have HD:=aa (And.intro hq4.2.2 (cb HBE.out (g:=w.heap.size+2) (u0:=.bool false) (u1:=(.slice none 0 0)) (u2:=.bool false) (u3:=(.slice none 0 0)) (by omega)))
     obtain⟨R5,R6,_⟩:=hq4
     generalize (((wv.setCell ⟨w.heap.size+2,0,none⟩ (.bool false)).setCell ⟨w.heap.size+2,1,none⟩ ((.slice none 0 0))).setCell ⟨w.heap.size+2+1,0,none⟩ (.bool false)).setCell ⟨w.heap.size+2+1,1,none⟩ ((.slice none 0 0))=w5 at *
     obtain⟨q0,q1⟩:=duo R5
     obtain⟨q2,q3⟩:=duo R6
     refine bodyPost_ret (v:=.tuple #[.agg #[.bool false,(.slice none 0 0)],.agg #[.bool false,(.slice none 0 0)],.int .i64 3]) (by simp [results,Tryz.results90,go_sem,q0,q1,q2,q3]) rfl ?_
     refine⟨⟨_,_,_,_,_,_,_,_,3,rfl,[],[],Ans.nil _ _,Ans.nil _ _,.inl rfl,.inr ⟨rfl,rfl,rfl,rfl,rfl,rfl,rfl,?_⟩⟩,HD.out.2⟩
     rw [HQZ.out,HRZ.out,aF,aF,←HQ.out.2.1,←HR.out.2.1]
     exact HBIG.out
    ·rw [decide_eq_false hbig] at hAB
     have HBIG:=aa hbig
     clear hbig
     go_wp2_with fail
     refine hAB.mono ?_
     rintro e wn ⟨rfl,hw⟩;rw [hw];clear hw wn hAB
     have hS1:=ct ap (.slice aq lq kq) rq _ wv HQv.out
     rw [cA ap HQ.out.2.2 HQ.out.2.1,←HQZ.out] at hS1
     go_wp2_with fail
     refine hS1.mono ?_
     rintro e ws ⟨rfl,hbs⟩
     have hS2:=ct b1 (.slice ar lr kr) rr _ ws (HRv.out.below hbs)
     rw [cA b1 HR.out.2.2 HR.out.2.1,←HRZ.out] at hS2
     have HBS:=aa hbs
     clear hbs hS1
     go_wp2_with fail
     refine hS2.mono ?_
     rintro e wt ⟨rfl,hbt⟩
     have hbst:=HBS.out.trans (hbt.mono HBS.out.size)
     have HR2:=aa (ac hbst HR2v.out)
     have HR3:=aa (ac hbst HR3v.out)
     have HBE:=aa (HBV.out.trans (hbst.mono HBV.out.size))
     have HQt:=aa (HQv.out.below hbst)
     have HRt:=aa (HRv.out.below hbst)
     have hf2:=av HR2.out
     have hf3:=av HR3.out
     obtain⟨m0,m1⟩:=duo HR2.out
     obtain⟨m2,m3⟩:=duo HR3.out
     clear hbt hbst hS2 HR2v HR3v hwv
     obtain⟨uq,huq⟩:∃ub,decide (qz<0)=ub:=⟨_,rfl⟩
     obtain⟨ur,hur⟩:∃ub,decide (rz<0)=ub:=⟨_,rfl⟩
     rw [huq,hur]
     go_wp2
     have hq4:=cH (base:=w.heap.size) (u0:=.bool uq) (u1:=(.slice aq lq kq)) (u2:=.bool ur) (u3:=(.slice ar lr kr)) HR2.out HR3.out
     have HD:=aa (And.intro hq4.2.2 (cb HBE.out (g:=w.heap.size+2) (u0:=.bool uq) (u1:=(.slice aq lq kq)) (u2:=.bool ur) (u3:=(.slice ar lr kr)) (by omega)))
     obtain⟨R5,R6,_⟩:=hq4
     generalize (((wt.setCell ⟨w.heap.size+2,0,none⟩ (.bool uq)).setCell ⟨w.heap.size+2,1,none⟩ ((.slice aq lq kq))).setCell ⟨w.heap.size+2+1,0,none⟩ (.bool ur)).setCell ⟨w.heap.size+2+1,1,none⟩ ((.slice ar lr kr))=w5 at *
     obtain⟨q0,q1⟩:=duo R5
     obtain⟨q2,q3⟩:=duo R6
     refine bodyPost_ret (v:=.tuple #[.agg #[.bool uq,(.slice aq lq kq)],.agg #[.bool ur,(.slice ar lr kr)],.int .i64 0]) (by simp [results,Tryz.results90,go_sem,q0,q1,q2,q3]) rfl ?_
     refine⟨⟨_,_,_,_,_,_,_,_,0,rfl,rq,rr,HD.out.1 _ _ HQt.out,HD.out.1 _ _ HRt.out,HAP.out,.inl ⟨rfl,huq.symm,?_,HQ.out.2.2,hur.symm,?_,HR.out.2.2,?_,?_⟩⟩,HD.out.2⟩
     ·rw [HQZ.out,aF];exact HQ.out.2.1
     ·rw [HRZ.out,aF];exact HR.out.2.1
     ·rw [HQZ.out,aF,←HQ.out.2.1];have:=HBIG.out;omega
     ·rw [HRZ.out,aF,←HR.out.2.1];have:=HBIG.out;omega
   ·obtain⟨w6,hw6,hb6,hx6⟩:=aO w5 (.cells #[.int .u64 1] 61)
    have hblk:Blk w6 w5.heap.size [1]:=hx6
    have A6:=Ans.of_blk (base:=w5.heap.size) (zs:=[1]) (Nat.le_refl _) hblk (by simp) (by simp) (by simp) (by intro z hz;simp at hz;omega)
    have hSM:=fW (.slice aq lq kq) (.slice (some ⟨w5.heap.size,0,none⟩) 1 1) rq [1] w6 ((HQ5.out.1.arg HLQ.out.1).below hb6) (A6.arg (by simp)) (by have:=HLN.out.1;omega) (by simp)
    rw [HQ5.out.2.1,show val [1]=1 from by simp [val]] at hSM
    have HB6:=aa hb6
    clear hb6 hx6 hblk A6
    go_wp2_with fail
    refine hSM.mono ?_
    rintro e w7 ⟨⟨v7,r7,rfl,A7,e7,t7⟩,hb7⟩
    obtain⟨a7,k7,rfl⟩:=A7.shape
    have hb67:=HB6.out.trans (hb7.mono HB6.out.size)
    have HR2':=aa (ac hb67 HR2.out)
    have HR3':=aa (ac hb67 HR3.out)
    have HWB:=aa (HWB5.out.trans (hb67.mono HWB5.out.size))
    have hl7:r7.length≤rq.length+1:=by
     rw [←t7];refine aQ r7 _ ?_
     rw [e7]
     have h1:=val_lt HQ5.out.1.limbs
     rw [HQ5.out.2.1] at h1
     rw [Nat.pow_succ]
     have h0:=W_pos rq.length
     generalize 18446744073709551616 ^ rq.length=P9 at *
     omega
    have hlqx:=HLN.out.1
    obtain⟨l7,hl7e⟩:∃l7,r7.length=l7:=⟨_,rfl⟩
    rw [hl7e] at A7 ⊢
    have hAP7:=apart_of2 (v2:=.slice a3 l3 k3) (fun g hg=>Nat.lt_of_lt_of_le (HL5.out.1.own.lt g hg).2 HB6.out.size) A7
    have hs57:w.heap.size≤w6.heap.size:=Nat.le_trans HWB5.out.size HB6.out.size
    have HQ:=aa (And.intro (A7.base hs57) (And.intro e7 t7))
    have HR:=aa (And.intro (HL5.out.1.below hb67) HL5.out.2)
    have hq9:=HQZ.out
    have hr9:=HRZ.out
    rw [decide_eq_true hr0] at hq9 hr9
    simp only [Bool.true_and,if_true] at hq9 hr9
    clear HQ5 HR5 HAP HLQ HR2 HR3 HWB5 HQZ HRZ
    have HAP:=aa hAP7
    have HLQ:=aa (And.intro (show r7.length≤1125899906842624 by omega) HLN3.out)
    have HR2:=HR2'
    have HR3:=HR3'
    have HQZ:=aa hq9
    have HRZ:=aa hr9
    clear hq9 hr9 HL5 hb7 hb67 A7 e7 t7 hSM HB6 hs57 HR2' HR3' hw6
    obtain⟨wv,hwv,hbv,hxv⟩:=aO w7 (.cells #[.slice a7 l7 k7,.slice a3 l3 k3] 25)
    have hAB:=fq w7.heap.size (.slice a7 l7 k7) (.slice a3 l3 k3) r7 r3 wv hxv ((HQ.out.1.arg HLQ.out.1).below hbv) ((HR.out.1.arg HLQ.out.2).below hbv)
    have HR2v:=aa (ac hbv HR2.out)
    have HR3v:=aa (ac hbv HR3.out)
    have HBV:=aa (HWB.out.trans (hbv.mono HWB.out.size))
    have HQv:=aa (HQ.out.1.below hbv)
    have HRv:=aa (HR.out.1.below hbv)
    clear hbv hxv HR2 HR3
    by_cases hbig:67108864<blen (val r7)∨67108864<blen (val r3)
    ·rw [decide_eq_true hbig] at hAB
     have HBIG:=aa hbig
     clear hbig
     go_wp2_with fail
     refine hAB.mono ?_
     rintro e wn ⟨rfl,hw⟩;rw [hw];clear hw wn hAB
     have HR2:=HR2v
     have HR3:=HR3v
     have HBE:=HBV
     have hf2:=av HR2.out
     have hf3:=av HR3.out
     obtain⟨m0,m1⟩:=duo HR2.out
     obtain⟨m2,m3⟩:=duo HR3.out
     go_wp2
     have hq4:=cH (base:=w.heap.size) (u0:=.bool false) (u1:=(.slice none 0 0)) (u2:=.bool false) (u3:=(.slice none 0 0)) HR2.out HR3.out
     have HD:=aa (And.intro hq4.2.2 (cb HBE.out (g:=w.heap.size+2) (u0:=.bool false) (u1:=(.slice none 0 0)) (u2:=.bool false) (u3:=(.slice none 0 0)) (by omega)))
     obtain⟨R5,R6,_⟩:=hq4
     generalize (((wv.setCell ⟨w.heap.size+2,0,none⟩ (.bool false)).setCell ⟨w.heap.size+2,1,none⟩ ((.slice none 0 0))).setCell ⟨w.heap.size+2+1,0,none⟩ (.bool false)).setCell ⟨w.heap.size+2+1,1,none⟩ ((.slice none 0 0))=w5 at *
     obtain⟨q0,q1⟩:=duo R5
     obtain⟨q2,q3⟩:=duo R6
     refine bodyPost_ret (v:=.tuple #[.agg #[.bool false,(.slice none 0 0)],.agg #[.bool false,(.slice none 0 0)],.int .i64 3]) (by simp [results,Tryz.results90,go_sem,q0,q1,q2,q3]) rfl ?_
     refine⟨⟨_,_,_,_,_,_,_,_,3,rfl,[],[],Ans.nil _ _,Ans.nil _ _,.inl rfl,.inr ⟨rfl,rfl,rfl,rfl,rfl,rfl,rfl,?_⟩⟩,HD.out.2⟩
     rw [HQZ.out,HRZ.out,aF,aF,←HQ.out.2.1,←HR.out.2.1]
     exact HBIG.out
    ·rw [decide_eq_false hbig] at hAB
     have HBIG:=aa hbig
     clear hbig
     go_wp2_with fail
     refine hAB.mono ?_
     rintro e wn ⟨rfl,hw⟩;rw [hw];clear hw wn hAB
     have hS1:=ct ap (.slice a7 l7 k7) r7 _ wv HQv.out
     rw [cA ap HQ.out.2.2 HQ.out.2.1,←HQZ.out] at hS1
     go_wp2_with fail
     refine hS1.mono ?_
     rintro e ws ⟨rfl,hbs⟩
     have hS2:=ct (!b1) (.slice a3 l3 k3) r3 _ ws (HRv.out.below hbs)
     rw [cA (!b1) HR.out.2.2 HR.out.2.1,←HRZ.out] at hS2
     have HBS:=aa hbs
     clear hbs hS1
     go_wp2_with fail
     refine hS2.mono ?_
     rintro e wt ⟨rfl,hbt⟩
     have hbst:=HBS.out.trans (hbt.mono HBS.out.size)
     have HR2:=aa (ac hbst HR2v.out)
     have HR3:=aa (ac hbst HR3v.out)
     have HBE:=aa (HBV.out.trans (hbst.mono HBV.out.size))
     have HQt:=aa (HQv.out.below hbst)
     have HRt:=aa (HRv.out.below hbst)
     have hf2:=av HR2.out
     have hf3:=av HR3.out
     obtain⟨m0,m1⟩:=duo HR2.out
     obtain⟨m2,m3⟩:=duo HR3.out
     clear hbt hbst hS2 HR2v HR3v hwv
     obtain⟨uq,huq⟩:∃ub,decide (qz<0)=ub:=⟨_,rfl⟩
     obtain⟨ur,hur⟩:∃ub,decide (rz<0)=ub:=⟨_,rfl⟩
     rw [huq,hur]
     go_wp2
     have hq4:=cH (base:=w.heap.size) (u0:=.bool uq) (u1:=(.slice a7 l7 k7)) (u2:=.bool ur) (u3:=(.slice a3 l3 k3)) HR2.out HR3.out
     have HD:=aa (And.intro hq4.2.2 (cb HBE.out (g:=w.heap.size+2) (u0:=.bool uq) (u1:=(.slice a7 l7 k7)) (u2:=.bool ur) (u3:=(.slice a3 l3 k3)) (by omega)))
     obtain⟨R5,R6,_⟩:=hq4
     generalize (((wt.setCell ⟨w.heap.size+2,0,none⟩ (.bool uq)).setCell ⟨w.heap.size+2,1,none⟩ ((.slice a7 l7 k7))).setCell ⟨w.heap.size+2+1,0,none⟩ (.bool ur)).setCell ⟨w.heap.size+2+1,1,none⟩ ((.slice a3 l3 k3))=w5 at *
     obtain⟨q0,q1⟩:=duo R5
     obtain⟨q2,q3⟩:=duo R6
     refine bodyPost_ret (v:=.tuple #[.agg #[.bool uq,(.slice a7 l7 k7)],.agg #[.bool ur,(.slice a3 l3 k3)],.int .i64 0]) (by simp [results,Tryz.results90,go_sem,q0,q1,q2,q3]) rfl ?_
     refine⟨⟨_,_,_,_,_,_,_,_,0,rfl,r7,r3,HD.out.1 _ _ HQt.out,HD.out.1 _ _ HRt.out,HAP.out,.inl ⟨rfl,huq.symm,?_,HQ.out.2.2,hur.symm,?_,HR.out.2.2,?_,?_⟩⟩,HD.out.2⟩
     ·rw [HQZ.out,aF];exact HQ.out.2.1
     ·rw [HRZ.out,aF];exact HR.out.2.1
     ·rw [HQZ.out,aF,←HQ.out.2.1];have:=HBIG.out;omega
     ·rw [HRZ.out,aF,←HR.out.2.1];have:=HBIG.out;omega
  ·have i3:¬(0:Int)<(lr:Int):=by omega
   have hr0:val X % val Y=0:=by omega
   have HQ:=HQA2
   have HR:=HRA2
   have hfz:(fu && decide (0<val X % val Y))=false:=by rw [hr0];simp
   have hq9:=HQZ.out
   have hr9:=HRZ.out
   rw [hfz] at hq9 hr9
   simp only [Bool.false_eq_true,if_false,Nat.add_zero] at hq9 hr9
   clear HQZ HRZ
   have HQZ:=aa hq9
   have HRZ:=aa hr9
   clear hq9 hr9 hfz HQA2 HRA2 hnz f2 f3 HK12 HB12
   obtain⟨wv,hwv,hbv,hxv⟩:=aO wq (.cells #[.slice aq lq kq,.slice ar lr kr] 25)
   have hAB:=fq wq.heap.size (.slice aq lq kq) (.slice ar lr kr) rq rr wv hxv ((HQ.out.1.arg HLQ.out.1).below hbv) ((HR.out.1.arg HLQ.out.2).below hbv)
   have HR2v:=aa (ac hbv HR2.out)
   have HR3v:=aa (ac hbv HR3.out)
   have HBV:=aa (HWB.out.trans (hbv.mono HWB.out.size))
   have HQv:=aa (HQ.out.1.below hbv)
   have HRv:=aa (HR.out.1.below hbv)
   clear hbv hxv HR2 HR3
   by_cases hbig:67108864<blen (val rq)∨67108864<blen (val rr)
   ·rw [decide_eq_true hbig] at hAB
    have HBIG:=aa hbig
    clear hbig
    go_wp2_with fail
    refine hAB.mono ?_
    rintro e wn ⟨rfl,hw⟩;rw [hw];clear hw wn hAB
    have HR2:=HR2v
    have HR3:=HR3v
    have HBE:=HBV
    have hf2:=av HR2.out
    have hf3:=av HR3.out
    obtain⟨m0,m1⟩:=duo HR2.out
    obtain⟨m2,m3⟩:=duo HR3.out
    go_wp2
    have hq4:=cH (base:=w.heap.size) (u0:=.bool false) (u1:=(.slice none 0 0)) (u2:=.bool false) (u3:=(.slice none 0 0)) HR2.out HR3.out
    have HD:=aa (And.intro hq4.2.2 (cb HBE.out (g:=w.heap.size+2) (u0:=.bool false) (u1:=(.slice none 0 0)) (u2:=.bool false) (u3:=(.slice none 0 0)) (by omega)))
    obtain⟨R5,R6,_⟩:=hq4
    generalize (((wv.setCell ⟨w.heap.size+2,0,none⟩ (.bool false)).setCell ⟨w.heap.size+2,1,none⟩ ((.slice none 0 0))).setCell ⟨w.heap.size+2+1,0,none⟩ (.bool false)).setCell ⟨w.heap.size+2+1,1,none⟩ ((.slice none 0 0))=w5 at *
    obtain⟨q0,q1⟩:=duo R5
    obtain⟨q2,q3⟩:=duo R6
    refine bodyPost_ret (v:=.tuple #[.agg #[.bool false,(.slice none 0 0)],.agg #[.bool false,(.slice none 0 0)],.int .i64 3]) (by simp [results,Tryz.results90,go_sem,q0,q1,q2,q3]) rfl ?_
    refine⟨⟨_,_,_,_,_,_,_,_,3,rfl,[],[],Ans.nil _ _,Ans.nil _ _,.inl rfl,.inr ⟨rfl,rfl,rfl,rfl,rfl,rfl,rfl,?_⟩⟩,HD.out.2⟩
    rw [HQZ.out,HRZ.out,aF,aF,←HQ.out.2.1,←HR.out.2.1]
    exact HBIG.out
   ·rw [decide_eq_false hbig] at hAB
    have HBIG:=aa hbig
    clear hbig
    go_wp2_with fail
    refine hAB.mono ?_
    rintro e wn ⟨rfl,hw⟩;rw [hw];clear hw wn hAB
    have hS1:=ct ap (.slice aq lq kq) rq _ wv HQv.out
    rw [cA ap HQ.out.2.2 HQ.out.2.1,←HQZ.out] at hS1
    go_wp2_with fail
    refine hS1.mono ?_
    rintro e ws ⟨rfl,hbs⟩
    have hS2:=ct b1 (.slice ar lr kr) rr _ ws (HRv.out.below hbs)
    rw [cA b1 HR.out.2.2 HR.out.2.1,←HRZ.out] at hS2
    have HBS:=aa hbs
    clear hbs hS1
    go_wp2_with fail
    refine hS2.mono ?_
    rintro e wt ⟨rfl,hbt⟩
    have hbst:=HBS.out.trans (hbt.mono HBS.out.size)
    have HR2:=aa (ac hbst HR2v.out)
    have HR3:=aa (ac hbst HR3v.out)
    have HBE:=aa (HBV.out.trans (hbst.mono HBV.out.size))
    have HQt:=aa (HQv.out.below hbst)
    have HRt:=aa (HRv.out.below hbst)
    have hf2:=av HR2.out
    have hf3:=av HR3.out
    obtain⟨m0,m1⟩:=duo HR2.out
    obtain⟨m2,m3⟩:=duo HR3.out
    clear hbt hbst hS2 HR2v HR3v hwv
    obtain⟨uq,huq⟩:∃ub,decide (qz<0)=ub:=⟨_,rfl⟩
    obtain⟨ur,hur⟩:∃ub,decide (rz<0)=ub:=⟨_,rfl⟩
    rw [huq,hur]
    go_wp2
    have hq4:=cH (base:=w.heap.size) (u0:=.bool uq) (u1:=(.slice aq lq kq)) (u2:=.bool ur) (u3:=(.slice ar lr kr)) HR2.out HR3.out
    have HD:=aa (And.intro hq4.2.2 (cb HBE.out (g:=w.heap.size+2) (u0:=.bool uq) (u1:=(.slice aq lq kq)) (u2:=.bool ur) (u3:=(.slice ar lr kr)) (by omega)))
    obtain⟨R5,R6,_⟩:=hq4
    generalize (((wt.setCell ⟨w.heap.size+2,0,none⟩ (.bool uq)).setCell ⟨w.heap.size+2,1,none⟩ ((.slice aq lq kq))).setCell ⟨w.heap.size+2+1,0,none⟩ (.bool ur)).setCell ⟨w.heap.size+2+1,1,none⟩ ((.slice ar lr kr))=w5 at *
    obtain⟨q0,q1⟩:=duo R5
    obtain⟨q2,q3⟩:=duo R6
    refine bodyPost_ret (v:=.tuple #[.agg #[.bool uq,(.slice aq lq kq)],.agg #[.bool ur,(.slice ar lr kr)],.int .i64 0]) (by simp [results,Tryz.results90,go_sem,q0,q1,q2,q3]) rfl ?_
    refine⟨⟨_,_,_,_,_,_,_,_,0,rfl,rq,rr,HD.out.1 _ _ HQt.out,HD.out.1 _ _ HRt.out,HAP.out,.inl ⟨rfl,huq.symm,?_,HQ.out.2.2,hur.symm,?_,HR.out.2.2,?_,?_⟩⟩,HD.out.2⟩
    ·rw [HQZ.out,aF];exact HQ.out.2.1
    ·rw [HRZ.out,aF];exact HR.out.2.1
    ·rw [HQZ.out,aF,←HQ.out.2.1];have:=HBIG.out;omega
    ·rw [HRZ.out,aF,←HR.out.2.1];have:=HBIG.out;omega
end Go.Proofs.YtdbjbbdhlpfhjaaGreatDoor
namespace Go.Proofs.YtdbjbbdhlpfhjaaGreatDoor
open Go.RowKit
open Lm
attribute [local go_sem ↓] Go.wp_at_zero Go.wp_at_succ

theorem oo (b1:Bool)(v:Value)(X:List Nat)(b2:Bool)(u:Value)(Y:List Nat)(ap fu:Bool)(qz rz:Int)(w:World)(hA:Arg w v X)(hB:Arg w u Y)(hT:Tab w)(hx:X.length≤17592186043904)(hy:Y.length≤17592186043904)(hy0:0<val Y)
  (hap:(b1 != b2)=ap) (hfu:ap=fu)
  (hqz:qz=zz ap (val X / val Y+if fu && decide (0<val X % val Y) then 1 else 0)) (hrz:rz=zz (if fu && decide (0<val X % val Y) then !b1 else b1) (if fu && decide (0<val X % val Y) then val Y - val X % val Y else val X % val Y)) :
  Calls Tryz.prog 52 #[.agg #[.bool b1,v],.agg #[.bool b2,u]] w (i8 w qz rz):=by
 obtain⟨a,n,rfl,_,_,_⟩:=hA.form
 obtain⟨a9,n9,rfl,_,_,_⟩:=hB.form
 obtain⟨w0,hw0,hb0,h0,h1,h2,h3⟩:=fp w (.cells #[.bool b1,.slice a X.length n] 27) (.cells #[.bool b2,.slice a9 Y.length n9] 27) (.cells #[.bool false,.slice none 0 0] 27) (.cells #[.bool false,.slice none 0 0] 27)
 obtain⟨k0,k1⟩:=duo h0
 obtain⟨k2,k3⟩:=duo h1
 have HM:=wdivide_2 b1 _ X b2 _ Y ap fu qz rz w0 (hA.below hb0) (hB.below hb0) (hT.below hb0) hx hy hy0 hap hfu hqz hrz
 have HB0:=aa hb0
 have H2:=aa h2
 have H3:=aa h3
 clear hA hB hT hb0 h0 h1 h2 h3 hqz hrz hap hfu
 go_enter Tryz.func52,Tryz.ntmps52
 go_wp2_with fail
 refine HM.mono ?_
 rintro e w1 ⟨⟨b3,a3,n3,m3,b4,a4,n4,m4,c,rfl,rs1,rs2,A1,A2,hap,hcase⟩,hb1⟩
 have HR2:=aa (ac hb1 H2.out)
 have HR3:=aa (ac hb1 H3.out)
 have HBE:=aa (HB0.out.trans (hb1.mono HB0.out.size))
 have HC:=aa (And.intro (A1.base HB0.out.size) (And.intro (A2.base HB0.out.size) (And.intro hap hcase)))
 have hf2:=av HR2.out
 have hf3:=av HR3.out
 obtain⟨m0,m1⟩:=duo HR2.out
 obtain⟨m2,m3'⟩:=duo HR3.out
 clear A1 A2 hap hcase hb1 HM hw0 k0 k1 k2 k3 H2 H3
 go_wp2
 have hq4:=cH (base:=w.heap.size) (u0:=.bool b3) (u1:=.slice a3 n3 m3) (u2:=.bool b4) (u3:=.slice a4 n4 m4) HR2.out HR3.out
 have HD:=aa (And.intro hq4.2.2 (cb HBE.out (g:=w.heap.size+2) (u0:=.bool b3) (u1:=.slice a3 n3 m3) (u2:=.bool b4) (u3:=.slice a4 n4 m4) (by omega)))
 obtain⟨R5,R6,_⟩:=hq4
 generalize (((w1.setCell ⟨w.heap.size+2,0,none⟩ (.bool b3)).setCell ⟨w.heap.size+2,1,none⟩ (.slice a3 n3 m3)).setCell ⟨w.heap.size+2+1,0,none⟩ (.bool b4)).setCell ⟨w.heap.size+2+1,1,none⟩ (.slice a4 n4 m4)=w5 at *
 obtain⟨q0,q1⟩:=duo R5
 obtain⟨q2,q3⟩:=duo R6
 refine bodyPost_ret (v:=.tuple #[.agg #[.bool b3,.slice a3 n3 m3],.agg #[.bool b4,.slice a4 n4 m4],.int .i64 c]) (by simp [results,Tryz.results52,go_sem,q0,q1,q2,q3]) rfl ?_
 exact⟨⟨_,_,_,_,_,_,_,_,_,rfl,rs1,rs2,HD.out.1 _ _ HC.out.1,HD.out.1 _ _ HC.out.2.1,HC.out.2.2⟩,HD.out.2⟩

theorem fd (w:World)(hT:Tab w):Calls Tryz.prog 18 #[] w fun e w'=>e=.returned (.bool true)∧Below w.heap.size w w':=by
 have H1:=fJ (-7) w (by omega) (by omega)
 have HT:=aa hT
 clear hT
 go_enter Tryz.func18,Tryz.ntmps18
 go_wp2_with fail
 refine H1.mono ?_
 rintro e w1 ⟨⟨b1,a1,l1,k1,rfl,rs1,A1,hb1,v1,t1⟩,hw1⟩
 have H2:=fJ 2 w1 (by omega) (by omega)
 have HW1:=aa hw1
 have HA1:=aa A1
 have HV1:=aa (And.intro hb1 (And.intro v1 t1))
 clear H1 hw1 A1 hb1 v1 t1
 go_wp2_with fail
 refine H2.mono ?_
 rintro e w2 ⟨⟨b2,a2,l2,k2,rfl,rs2,A2,hb2,v2,t2⟩,hw2⟩
 have HW2:=aa (HW1.out.trans (hw2.mono HW1.out.size))
 obtain⟨hb1,v1,t1⟩:=HV1.out
 have e1:b1=true:=hb1
 have e2:b2=false:=hb2
 subst e1
 subst e2
 have x1:val rs1=7:=v1
 have x2:val rs2=2:=v2
 have f1:rs1.length≤1:=dI t1 x1 (by decide)
 have f2:rs2.length≤1:=dI t2 x2 (by decide)
 have H3:=oo true _ rs1 false _ rs2 true true (-4) 1 w2 ((HA1.out.arg (by omega)).below hw2) (A2.arg (by omega)) (HT.out.below HW2.out) (by omega) (by omega) (by omega) rfl rfl (by rw [x1,x2];decide) (by rw [x1,x2];decide)
 clear H2 hw2 A2 hb2 v2 t2 HA1 HV1 HW1 hb1 v1 t1 x1 x2 f1 f2
 go_wp2_with fail
 refine H3.mono ?_
 rintro e w3 ⟨⟨b3,a3,n3,m3,b4,a4,n4,m4,c,rfl,rs3,rs4,A3,A4,hap,hcase⟩,hw3⟩
 rcases hcase with ⟨rfl,hb3,v3,t3,hb4,v4,t4,_,_⟩|⟨_,_,_,_,_,_,_,hbig⟩
 ·have e3:b3=true:=hb3
  have e4:b4=false:=hb4
  subst e3
  subst e4
  have HW3:=aa (HW2.out.trans (hw3.mono HW2.out.size))
  have HA3:=aa (And.intro A3 (And.intro v3 t3))
  have HA4:=aa (And.intro A4 (And.intro v4 t4))
  clear H3 hw3 A3 A4 hap hb3 hb4 v3 v4 t3 t4 HW2 HT
  obtain⟨w4,hw4,hb4,h40,h41⟩:=bR w3 (.cells #[.bool true,.slice a3 n3 m3] 27) (.cells #[.bool false,.slice a4 n4 m4] 27)
  obtain⟨d0,d1⟩:=duo (show w4.drew.heap[w3.heap.size]?=some (.cells #[.bool true,.slice a3 n3 m3] 27) from h40)
  obtain⟨d2,d3⟩:=duo (show w4.drew.heap[w3.heap.size+1]?=some (.cells #[.bool false,.slice a4 n4 m4] 27) from h41)
  have hf3:rs3.length≤1:=dI HA3.out.2.2 HA3.out.2.1 (by decide)
  have hf4:rs4.length≤1:=dI HA4.out.2.2 HA4.out.2.1 (by decide)
  have hq4:blen (Int.natAbs (-4))≤64:=by decide
  have hq1:blen (Int.natAbs 1)≤64:=by decide
  have HIS1:=aa (fun (W:World) (v:Value) (hz:Zn W v (-4)) (hb:Below w4.drew.heap.size w4.drew W)=>
   show Calls Tryz.prog 48 #[v,.bool true,.slice a3 n3 m3] W (fun e w'=>e=.returned (.bool true)∧Below W.heap.size W w') by
    have h:=jf v (-4) (.slice a3 n3 m3) rs3 W hz ((((HA3.out.1.arg (by omega)).below hb4).drew).below hb) HA3.out.2.2 HA3.out.2.1 (Nat.le_trans hq4 (by omega))
    rw [show decide ((-4:Int)<0)=true by decide] at h
    exact h)
  have HIS2:=aa (fun (W:World) (v:Value) (hz:Zn W v 1) (hb:Below w4.drew.heap.size w4.drew W)=>
   show Calls Tryz.prog 48 #[v,.bool false,.slice a4 n4 m4] W (fun e w'=>e=.returned (.bool true)∧Below W.heap.size W w') by
    have h:=jf v 1 (.slice a4 n4 m4) rs4 W hz ((((HA4.out.1.arg (by omega)).below hb4).drew).below hb) HA4.out.2.2 HA4.out.2.1 (Nat.le_trans hq1 (by omega))
    rw [show decide ((1:Int)<0)=false by decide] at h
    exact h)
  have HN:=dZ 0 w4.drew
  have HI1:=fi (-4) w4.drew (by omega) (by omega)
  have HI2:=aa (fun (W:World)=>fi 1 W (by omega) (by omega))
  have HW4:=aa (HW3.out.trans (hb4.mono HW3.out.size))
  clear hb4 h40 h41 hf3 hf4 HA3 HA4 hq4 hq1
  go_wp2
  go_region_held3 (fun w'=>w'.cell? ⟨w3.heap.size,0,none⟩=some (.bool true)∧w'.cell? ⟨w3.heap.size,1,none⟩=some (.slice a3 n3 m3)∧w'.cell? ⟨w3.heap.size+1,0,none⟩=some (.bool false)∧w'.cell? ⟨w3.heap.size+1,1,none⟩=some (.slice a4 n4 m4)) (go_keep) (first
   | (go_at_call 20;refine HN.mono ?_;rintro e' wn ⟨rfl,hw⟩;rw [hw];clear hw wn)
   | (go_at_call_of 27 (Value.int IntKind.i64 1);refine (HI2.out w6).mono ?_;rintro e' w7 ⟨⟨b7,a7,n7,k7,rfl,z7⟩,hb7⟩;have u0:=ae hb7 y0;have u1:=ae hb7 y1;have u2:=ae hb7 y2;have u3:=ae hb7 y3)
   | (go_at_call 27;refine HI1.mono ?_;rintro e' w5 ⟨⟨b5,a5,n5,k5,rfl,z5⟩,hb5⟩;have x0:=ae hb5 d0;have x1:=ae hb5 d1;have x2:=ae hb5 d2;have x3:=ae hb5 d3)
   | (go_at_call_of 48 a3;refine (HIS1.out w5 _ z5 hb5).mono ?_;rintro e' w6 ⟨rfl,hb6⟩;have y0:=ae hb6 x0;have y1:=ae hb6 x1;have y2:=ae hb6 x2;have y3:=ae hb6 x3)
   | (go_at_call_of 48 a4;refine (HIS2.out w7 _ z7 (hb5.trans ((hb6.trans (hb7.mono hb6.size)).mono hb5.size))).mono ?_;rintro e' w8 ⟨rfl,hb8⟩;have t0:=ae hb8 u0;have t1:=ae hb8 u1;have t2:=ae hb8 u2;have t3:=ae hb8 u3))
  have HB8:=aa (HW4.out.trans ((cI (hb5.trans ((hb6.trans ((hb7.trans (hb8.mono hb7.size)).mono hb6.size)).mono hb5.size))).mono HW4.out.size))
  clear hb5 hb6 hb7 hb8 z5 z7
  go_wp2
  go_ret
  exact⟨rfl,HB8.out⟩
 ·exfalso
  revert hbig
  decide









theorem ca {W0 W:World}(h:Below W0.heap.size W0 W)(o:Obj):Below W0.heap.size W0 (W.alloc o):=h.alloc h.size _

theorem cO {W0 W t:World}(h:Below W0.heap.size W0 W)(h2:Below W.heap.size W t):Below W0.heap.size W0 t:=h.trans (h2.mono h.size)

theorem jH {W0 W:World}(h:Below W0.heap.size W0 W):Below W0.heap.size W0 W.drew:=h.drew
end Go.Proofs.YtdbjbbdhlpfhjaaGreatDoor
namespace Go.Proofs.YtdbjbbdhlpfhjaaGreatDoor
open Go.RowKit
open Lm

theorem iy {W W':World}{u:Nat}{y:Value}{x:Obj}(hb:Below W.heap.size W W')(h:∃g,y=.pointer (some ⟨g,0,none⟩)∧u≤g∧W.heap[g]?=some x):∃g,y=.pointer (some ⟨g,0,none⟩)∧u≤g∧W'.heap[g]?=some x:=by
 obtain⟨g,h1,h2,h3⟩:=h
 exact⟨g,h1,h2,ac hb h3⟩

theorem iM {W:World}{u:Nat}{y:Value}{x:Obj}(h:∃g,y=.pointer (some ⟨g,0,none⟩)∧u≤g∧W.heap[g]?=some x):y≠.pointer (some ⟨W.heap.size,0,none⟩):=by
 obtain⟨g,rfl,_,h3⟩:=h
 intro e
 simp only [Value.pointer.injEq,Option.some.injEq,Addr.mk.injEq,and_true] at e
 have:=lt_of_block h3
 omega

structure JW (u:World)(v1 v2:Value)(c1 c2 k1 k2:Bool)(x1 x2 y1 y2:Value)(W:World):Prop where
 up:Below u.heap.size u W
 ch:c2=true→c1=true
 q1:c1=true→x1=v1
 q2:c2=true→x2=v2
 r1:k1=true→∃g,y1=.pointer (some ⟨g,0,none⟩)∧u.heap.size≤g∧W.heap[g]?=some (.cells #[.bool false,.slice none 0 0] 27)
 r2:k2=true→∃g,y2=.pointer (some ⟨g,0,none⟩)∧u.heap.size≤g∧W.heap[g]?=some (.cells #[.bool false,.slice none 0 0] 27)
 d12:k1=true→k2=true→y1≠y2

theorem JW.below {u:World}{v1 v2:Value}{c1 c2 k1 k2:Bool}{x1 x2 y1 y2:Value}{W W':World}(h:JW u v1 v2 c1 c2 k1 k2 x1 x2 y1 y2 W)(hb:Below W.heap.size W W'):JW u v1 v2 c1 c2 k1 k2 x1 x2 y1 y2 W':=
 ⟨cO h.up hb,h.ch,h.q1,h.q2,fun e=>iy hb (h.r1 e),fun e=>iy hb (h.r2 e),h.d12⟩

theorem JW.call1 {u:World}{v1 v2:Value}{c1 c2 k1 k2:Bool}{x1 x2 y1 y2:Value}{W W':World}(h:JW u v1 v2 c1 c2 k1 k2 x1 x2 y1 y2 W)(hb:Below W.heap.size W W'):JW u v1 v2 true c2 k1 k2 v1 x2 y1 y2 W':=
 have j:=h.below hb
 ⟨j.up,fun _=>rfl,fun _=>rfl,j.q2,j.r1,j.r2,j.d12⟩

theorem JW.call2 {u:World}{v1 v2:Value}{c2 k1 k2:Bool}{x1 x2 y1 y2:Value}{W W':World}(h:JW u v1 v2 true c2 k1 k2 x1 x2 y1 y2 W)(hb:Below W.heap.size W W'):JW u v1 v2 true true k1 k2 x1 v2 y1 y2 W':=
 have j:=h.below hb
 ⟨j.up,fun _=>rfl,j.q1,fun _=>rfl,j.r1,j.r2,j.d12⟩

theorem JW.make1 {u:World}{v1 v2:Value}{c1 c2 k1 k2:Bool}{x1 x2 y1 y2:Value}{W:World}(h:JW u v1 v2 c1 c2 k1 k2 x1 x2 y1 y2 W) :
  JW u v1 v2 c1 c2 true k2 x1 x2 (.pointer (some ⟨W.heap.size,0,none⟩)) y2 (W.alloc (.cells #[.bool false,.slice none 0 0] 27)):=
 have j:=h.below (bo W (.cells #[.bool false,.slice none 0 0] 27))
 ⟨j.up,j.ch,j.q1,j.q2,fun _=>⟨_,rfl,h.up.size,heap_alloc_new _ _⟩,j.r2,fun _ e=>(iM (h.r2 e)).symm⟩

theorem JW.make2 {u:World}{v1 v2:Value}{c1 c2 k1 k2:Bool}{x1 x2 y1 y2:Value}{W:World}(h:JW u v1 v2 c1 c2 k1 k2 x1 x2 y1 y2 W) :
  JW u v1 v2 c1 c2 k1 true x1 x2 y1 (.pointer (some ⟨W.heap.size,0,none⟩)) (W.alloc (.cells #[.bool false,.slice none 0 0] 27)):=
 have j:=h.below (bo W (.cells #[.bool false,.slice none 0 0] 27))
 ⟨j.up,j.ch,j.q1,j.q2,j.r1,fun _=>⟨_,rfl,h.up.size,heap_alloc_new _ _⟩,fun e _=>iM (h.r1 e)⟩

theorem JW.start {u:World}(v1 v2 x1 x2 y1 y2:Value){W:World}(h:Below u.heap.size u W):JW u v1 v2 false false false false x1 x2 y1 y2 W:=
 ⟨h,nofun,nofun,nofun,nofun,nofun,nofun⟩

def aY (c1 c2 k1 k2:Bool):Nat:=2+(!c1).toNat+(!c2).toNat+(!k1).toNat+(!k2).toNat

theorem kE {P:Program}{md:Region.Mode}{ops:Array Oper}{Q:Exit→Act→World→Prop}{S:World→Prop}(u:World)(v1 v2:Value)(s1 s2 t1 t2:Nat)(LST:Bool→Bool→Bool→Bool→Array Bool){W:World}{n:Nat}{listed:Array Bool}{a:Act}(hn:n=6)(hl:listed=LST false false false false)(ha:a=(((a.put (some s1) undef).put (some s2) undef).put (some t1) undef).put (some t2) undef)(hu:Below u.heap.size u W)
  (h:∀(n:Nat) (c1 c2 k1 k2:Bool) (x1 x2 y1 y2:Value) (W:World),n=aY c1 c2 k1 k2→JW u v1 v2 c1 c2 k1 k2 x1 x2 y1 y2 W→wpAnyH P md ops Q S n (LST c1 c2 k1 k2) ((((a.put (some s1) x1).put (some s2) x2).put (some t1) y1).put (some t2) y2) W) :
  wpAnyH P md ops Q S n listed a W:=by
 subst hn hl
 rw [ha]
 exact h 6 _ _ _ _ _ _ _ _ W rfl (JW.start v1 v2 _ _ _ _ hu)

def g7 (u:World)(b0 b1:Bool)(v0 v1:Value)(s t:Value)(wx:World):Prop:=
 ∃g h:Nat,s=.pointer (some ⟨g,0,none⟩)∧t=.pointer (some ⟨h,0,none⟩) ∧
  wx.heap[g]?=some (.cells #[.bool b0,v0] 27)∧wx.heap[h]?=some (.cells #[.bool b1,v1] 27)∧Below u.heap.size u wx

theorem jO {u W:World}{b0 b1:Bool}{v0 v1:Value}{g h:Nat}(h1:W.heap[g]?=some (.cells #[.bool false,.slice none 0 0] 27))(h2:W.heap[h]?=some (.cells #[.bool false,.slice none 0 0] 27))(l1:u.heap.size≤g)(l2:u.heap.size≤h)(d12:g≠h)(hu:Below u.heap.size u W) :
  g7 u b0 b1 v0 v1 (.pointer (some ⟨g,0,none⟩)) (.pointer (some ⟨h,0,none⟩)) ((((W.setCell ⟨g,0,none⟩ (.bool b0)).setCell ⟨g,1,none⟩ v0).setCell ⟨h,0,none⟩ (.bool b1)).setCell ⟨h,1,none⟩ v1):=by
 have e2:=bA (u0:=.bool b0) (u1:=v0) h2 (Ne.symm d12)
 exact⟨g,h,rfl,rfl,bA (aI h1) d12,aI e2,aC (aC hu l1) l2⟩
end Go.Proofs.YtdbjbbdhlpfhjaaGreatDoor
namespace Go.Proofs.YtdbjbbdhlpfhjaaGreatDoor
open Lm

theorem jE (B:Nat)(X:List Nat)(j:Nat)(h:j<X.length):vb B (X.drop j)=X.getD j 0+B*vb B (X.drop (j+1)):=by
 rw [List.drop_eq_getElem_cons h,vb]
 simp [List.getD,h]

theorem pL (B:Nat)(out:List Nat)(j q:Nat)(h:j<out.length):vb B ((out.set j q).drop j)=q+B*vb B (out.drop (j+1)):=by
 rw [jE B _ j (by simpa using h)]
 congr 1
 ·simp [List.getD,h]
 ·congr 2
  rw [List.drop_set_of_lt (by omega)]

theorem l8 (X out:List Nat)(j y R q R2:Nat)(hX:j<X.length)(ho:j<out.length)
  (h:vb 4294967296 (X.drop (j+1))=vb 4294967296 (out.drop (j+1))*y+R) (hq:R*2 ^ 32+X.getD j 0=q*y+R2) :
  vb 4294967296 (X.drop j)=vb 4294967296 ((out.set j q).drop j)*y+R2:=by
 rw [jE _ X j hX,pL _ _ _ _ ho,h]
 have e:(2:Nat) ^ 32=4294967296:=by decide
 rw [e] at hq
 generalize vb 4294967296 (out.drop (j+1))=V at *
 generalize X.getD j 0=x at *
 grind

theorem nL (y R t:Nat)(h:R<y*2 ^ (t+1))(hge:y*2 ^ t≤R):R - y*2 ^ t<y*2 ^ t:=by
 rw [Nat.pow_succ,←Nat.mul_assoc] at h
 omega

theorem oV (y R R2 q t:Nat)(h:R=q*y+R2)(hge:y*2 ^ t≤R2):R=(q+2 ^ t)*y+(R2 - y*2 ^ t):=by
 rw [Nat.add_mul,Nat.mul_comm (2 ^ t) y]
 omega

theorem jM (y R x:Nat)(hR:R<y)(hx:x<4294967296):R*2 ^ 32+x<y*2 ^ 32:=by
 have h1:(R+1)*2 ^ 32≤y*2 ^ 32:=Nat.mul_le_mul_right _ hR
 have e:(2:Nat) ^ 32=4294967296:=by decide
 rw [Nat.add_mul,Nat.one_mul] at h1
 omega

theorem pB (x y V R:Nat)(h:x=V*y+R)(hR:R<y):V=x / y∧R=x % y:=by
 subst h
 rw [Nat.mul_comm]
 refine⟨?_,?_⟩
 ·rw [Nat.mul_add_div (by omega),Nat.div_eq_of_lt hR,Nat.add_zero]
 ·rw [Nat.mul_add_mod,Nat.mod_eq_of_lt hR]

theorem jv {a b:Nat}(h:a<b):blen a≤blen b:=fo (Nat.le_of_lt h)

theorem jh (y n:Nat):blen (y*2 ^ n)≤blen y+n:=by
 rw [blen_le_iff,Nat.pow_add]
 exact Nat.mul_lt_mul_of_pos_right ((blen_le_iff _ _).1 (Nat.le_refl _)) (Nat.two_pow_pos _)
end Go.Proofs.YtdbjbbdhlpfhjaaGreatDoor
namespace Go.Proofs.YtdbjbbdhlpfhjaaGreatDoor
open Go.RowKit
open Lm
attribute [local go_sem ↓] Go.wp_at_zero Go.wp_at_succ

theorem de {a b c:World}(h:Below a.heap.size a b)(k:Below b.heap.size b c):Below a.heap.size a c:=h.trans (k.mono h.size)

theorem Below.one (w:World)(o:Obj):Below w.heap.size w (w.alloc o):=(Below.refl _ _).alloc (Nat.le_refl _) _

theorem Blk.kept {w w':World}{b:Nat}{xs:List Nat}(h:Blk w b xs)(hb:Below w.heap.size w w'):Blk w' b xs:=by
 unfold Blk
 rw [hb.block b h.lt];exact h

theorem Arg.one (w:World)(z:Nat)(hz:z<18446744073709551616):Arg (w.alloc (.cells #[.int .u64 (z:Int)] 61)) (.slice (some ⟨w.heap.size,0,none⟩) 1 1) [z]:=by
 have hb:Blk (w.alloc (.cells #[.int .u64 (z:Int)] 61)) w.heap.size [z]:=by
  unfold Blk
  rw [heap_alloc_new]
  rfl
 exact⟨⟨_,_,rfl,Nat.le_refl _,by simp,.inr ⟨_,0,rfl,fun k hk=>by rw [Nat.zero_add];exact hb.cell k hk⟩⟩,by intro y hy;simp at hy;omega,by simp,fun n c e=>by cases e⟩

theorem pG (v1 v2:Value)(x y:Nat)(w:World)(h1:Num w v1 x)(h2:Num w v2 y)(hy:y≠0)(f1:blen x≤1125899906840000)(f2:blen y≤1125899906810000) :
  Calls Tryz.prog 59 #[v1,v2] w fun e w'=>(∃vq vr,e=.returned (.tuple #[vq,vr])∧Num w' vq (x / y)∧Num w' vr (x % y)∧New w.heap.size vq∧New w.heap.size vr)∧Below w.heap.size w w':=by
 obtain⟨X,A1,hX,hXt,rfl,_⟩:=h1
 have lX:=eT hX hXt 35184372088750 (by omega)
 obtain⟨a1,c1,rfl,hc1,hm1,L1⟩:=A1.form
 obtain⟨i0,hi,hz0,hz1,hz2⟩:=info_parts Tryz.infoU
 have NY:=aa h2
 have F2:=aa f2
 have HY0:=aa hy
 clear f1 f2 hXt A1 h2 hy
 go_enter Tryz.func59,Tryz.ntmps59
 go_wp2_with (at_make;refine wpList_make_full _ rfl _ _ 30 rfl w.heap.size 61 i0 (.int .u64 0) 1 Tryz.underlying30 hi hz0 hz1 .i64 .i64 _ _ X.length rfl rfl (by omega) (by omega) (by rw [hz2];omega) (by unfold maxLen;omega) (Nat.le_refl _) ?_;intro w1 hown hgrow)
 have hb1:=Blk.made hown
 have hbel:Below w.heap.size w w1:=(Below.refl _ _).grown hgrow (Nat.le_refl _) (fun k hk=>by cases hk)
 clear hown hgrow hi hz0 hz1 hz2
 go_loopw [6,8] (fun r i wr=>∃(k R:Nat) (out:List Nat),k≤X.length∧i=.int .i64 ((k:Int) - 1)∧Num wr r R∧New (w.heap.size+1) r∧R<y∧out.length=X.length∧Digs 4294967296 out∧Blk wr w.heap.size out∧Below w.heap.size w wr ∧
   vb 4294967296 (X.drop k)=vb 4294967296 (out.drop k)*y+R) (fun _ i _=>(intOf i+1).toNat)
 case atStart=>exact⟨X.length,0,_,Nat.le_refl _,rfl,Num.nil _,New.nil _ _ _,by have:=HY0.out;omega,by simp,digs_replicate (by omega) _,hb1,hbel,by simp [vb]⟩
 case round=>
  obtain⟨k,R,out,hk,rfl,hnr,hnw0,hR,hlen,hdo,hblk,hbl,hval⟩:=hrel
  clear hb1 hbel
  by_cases hk0:k=0
  ·subst hk0
   have hve:=pB _ y _ R hval hR
   rw [List.drop_zero,List.drop_zero] at hve
   have hA:=Ans.of_blk (base:=w.heap.size) (zs:=out) (Nat.le_refl _) hblk List.take_length.symm (Nat.le_refl _) (by omega) (digs_limbs hdo)
   have H:=dL w.heap.size _ _ _ (hA.arg (by omega)) hdo (by omega) (fun b off n c e=>by cases e;exact Nat.le_refl _)
   rw [hlen,hve.1] at H
   have HR:Hid (Num wr u6 (vb 4294967296 X % y)):=aa (by rw [←hve.2];exact hnr)
   have HL:=aa hbl
   have HNW:=aa (hnw0.mono (Nat.le_succ _))
   clear hval hblk hbl hX hA hve L1 hnr hnw0
   go_wp2_with fail
   refine H.mono ?_
   rintro e w2 ⟨⟨v',rfl,hnum,hnv⟩,rfl⟩
   have HN:=aa (And.intro hnum hnv)
   clear hnum hnv H
   go_wp2
   go_ret2
   exact⟨⟨v',u6,rfl,HN.out.1,HR.out,HN.out.2,HNW.out⟩,HL.out⟩
  ·obtain⟨j,rfl⟩:∃j,k=j+1:=⟨k - 1,by omega⟩
   rcases L1.below hbl with h0|⟨b,off,rfl,hcell⟩
   ·rw [h0] at hk;simp at hk
   ·have hck:=hcell j (by omega)
    have hbw:b<wr.heap.size:=aD.block (zs:=X) (.inr ⟨b,off,rfl,hcell⟩) (by omega)
    have ej:(((j+1:Nat):Int) - 1)=(j:Int):=by omega
    rw [ej]
    have z1:=dig_lt (by omega) hX j
    have HST:=aa (fun q R2 hq=>l8 X out j y R q R2 (by omega) (by omega) hval hq)
    have HRL:=aa (jM y R (X.getD j 0) hR z1)
    have hfR:blen R+32≤1125899906840000:=by have:=jv hR;have:=F2.out;omega
    generalize X.getD j 0=x at *
    have HC:=aa (fun (u:World) (hu:Below wr.heap.size wr u)=>(show u.cell? ⟨b,off+j,none⟩=some (.int .u64 (x:Int)) by rw [hu.cell (p:=⟨b,off+j,none⟩) hbw];exact hck))
    have D0:Hid (Below wr.heap.size wr wr.drew):=aa ((Below.refl _ _).drew)
    obtain⟨RS,hRS⟩:∃RS,RS=R*2 ^ 32:=⟨_,rfl⟩
    have HSH:=aa (fun (u:World) (hu:Below wr.heap.size wr u)=>(by have h:=iX _ R 32 u (hnr.below hu) hfR;rw [←hRS] at h;exact h:Calls Tryz.prog 93 #[u6,.int .i64 32] u fun e w'=>(∃v',e=.returned v'∧Num w' v' RS)∧Below u.heap.size u w'))
    have ex:vb 4294967296 [x]=x:=by simp [vb]
    have HNO:=aa (fun (u:World) (v:Value) (hv:Arg u v [x])=>(by have h:=fj v [x] u hv (by intro z hz;simp at hz;omega) (by simp);rw [ex] at h;exact h:Calls Tryz.prog 91 #[v] u fun e w'=>(∃v',e=.returned v'∧Num u v' x)∧w'=u))
    have hfA:blen RS≤1125899906840000:=by rw [hRS];have:=jh R 32;omega
    have hfB:blen x≤1125899906840000:=by have:=(blen_le_iff x 32).2 (by omega);omega
    have HAD:=aa (fun (u:World) (va vb':Value) (na:Num u va RS) (nb:Num u vb' x)=>jI va vb' _ _ u na nb hfA hfB)
    have HB:=aa hblk
    have HL:=aa hbl
    rw [←hRS] at HST HRL
    have HRS:=aa hRS
    clear hRS
    have hx18:x<18446744073709551616:=by omega
    have hi1:(0:Int)≤(j:Int):=by omega
    have hi2:(j:Int)<(X.length:Int):=by omega
    have hnew:=World.new_ne wr ⟨b,off+j,none⟩ hck
    clear hval hblk hbl hcell hnr hnw0 hX L1 ex hfA hfB
    go_wp2
    go_region_held3 (fun w'=>w'.cell? ⟨b,off+j,none⟩=some (.int .u64 x)) (go_keep) (first
     | (go_at_call 93;refine (HSH.out _ (by first|exact D0.out|exact de D0.out (Below.one _ _))).mono ?_;rintro e u1 ⟨⟨v1',rfl,N1⟩,b1⟩;(first | (have BU:=de D0.out b1) | (have BU:=de (de D0.out (Below.one _ _)) b1));(have hkS:=HC.out u1 BU);(try replace N2:=N2.below b1))
     | (go_at_call 91;refine (HNO.out _ _ (by first|exact Arg.one u1 x hx18|exact Arg.one wr.drew x hx18|exact (Arg.one wr.drew x hx18).below b1)).mono ?_;rintro e u2 ⟨⟨v2',rfl,N2⟩,hw⟩;subst hw)
     | (go_at_call 55;refine (HAD.out _ _ _ (by first|exact N1|exact N1.below (Below.one _ _)) N2).mono ?_;rintro e u3 ⟨⟨v3,rfl,N3,nw3⟩,b3⟩;(first | (have B3:=de BU b3) | (have B3:=de (de BU (Below.one _ _)) b3));(have hkS3:=HC.out u3 B3)))
    all_goals
     have N3':=aa N3
     have hsz3:w.heap.size<wr.heap.size:=HB.out.lt
     have NW3:Hid (New (w.heap.size+1) v3):=aa (nw3.mono (by first | (have:=BU.size;omega) | (have:=BU.size;simp;omega)))
     clear nw3 hsz3
     have BW:=aa (HL.out.trans (B3.mono HL.out.size))
     have HB3:=aa (HB.out.kept B3)
     clear N1 N2 b1 b3 BU hkS hkS3 N3 B3 HSH HNO HAD HC D0 HB HL hck hnew HRS hfR hx18 hi2 hi1
     obtain⟨R',hR'⟩:∃R',R'=RS+x:=⟨_,rfl⟩
     rw [←hR'] at N3' HRL HST
     clear hR'
     have HCMP:=dJ v3 v2 R' y u3 N3'.out (NY.out.below BW.out)
     have hi1:(0:Int)≤(j:Int):=by omega
     have hi2:(j:Int)<(X.length:Int):=by omega
     by_cases hlt:R'<y
     ·have HST2:=aa (HST.out 0 R' (by omega))
      have hc:cmpN R' y=-1:=cmpN_lt hlt
      rw [hc] at HCMP
      go_wp2_with fail
      refine HCMP.mono ?_
      rintro e u4 ⟨rfl,hs⟩
      have BW4:=aa (BW.out.trans ((hs.below u3.heap.size).mono BW.out.size))
      have HN4:=aa (N3'.out.below (hs.below _))
      have hb4:=HB3.out.kept (hs.below _)
      have hfr:=hb4.free j
      have hco:=hb4.cell j (by omega)
      generalize out.getD j 0=o at *
      have HB4:=aa hb4
      have HLT:=aa hlt
      clear hb4 hs HCMP hc hlt HB3 BW N3' HST HRL
      go_wp2
      go_roundw
      case rel=>exact⟨j,R',out.set j 0,by omega,rfl,HN4.out.store NW3.out,NW3.out,HLT.out,by simp;omega,digs_set hdo _ _ (by omega),HB4.out.set j 0,BW4.out.setCell (Nat.le_refl _) _,HST2.out⟩
      case measure=>simp [intOf]
     ·have hd:decide (cmpN R' y ≥ 0)=true:=by
       unfold cmpN;rw [if_neg hlt];split <;> decide
      have hd2:decide (0≤cmpN R' y)=true:=hd
      have HGE:=aa hlt
      go_wp2_with fail
      refine HCMP.mono ?_
      rintro e u4 ⟨rfl,hs⟩
      generalize cmpN R' y=cc at *
      have BW4:=aa (BW.out.trans ((hs.below u3.heap.size).mono BW.out.size))
      have HN4:=aa (N3'.out.below (hs.below _))
      have HB4:=aa (HB3.out.kept (hs.below _))
      clear hs HCMP hlt HB3 BW N3'
      go_wp2
      go_loopw [6,9,10] (fun r q s wr2=>∃(t Q R2:Nat),t≤32∧s=.int .i64 ((t:Int) - 1)∧q=.int .u64 Q∧Num wr2 r R2∧New (w.heap.size+1) r∧R'=Q*y+R2∧R2<y*2 ^ t∧Q+2 ^ t≤4294967296∧Blk wr2 w.heap.size out∧Below w.heap.size w wr2) (fun _ _ s _=>(intOf s+1).toNat)
      case atStart=>exact⟨32,0,R',Nat.le_refl _,rfl,rfl,HN4.out,NW3.out,by omega,HRL.out,by decide,HB4.out,BW4.out⟩
      case round=>
       obtain⟨t,Q,R2,ht,rfl,rfl,hn2,hnw2,hsum,hR2,hQ,hblk2,hbl2⟩:=hrel
       clear HN4 HB4 BW4 hd hd2
       have HSUM:=aa hsum
       have HR2:=aa hR2
       have HQ:=aa hQ
       have HB5:=aa hblk2
       have HL5:=aa hbl2
       have HN5:=aa hn2
       have NW5:=aa hnw2
       clear hnw2 NW3
       clear hsum hR2 hQ
       by_cases ht0:t=0
       ·subst ht0
        have HST2:=aa (HST.out Q R2 HSUM.out)
        have bQ:Q<4294967296:=by have:=HQ.out;rw [Nat.pow_zero] at this;omega
        have HLT:Hid (R2<y):=aa (by have:=HR2.out;rwa [Nat.pow_zero,Nat.mul_one] at this)
        have hfr:=hblk2.free j
        have hco:=hblk2.cell j (by omega)
        generalize out.getD j 0=o at *
        clear hblk2 hbl2 hn2 HST HRL HSUM HQ HR2
        go_wp2
        go_roundw
        case rel=>exact⟨j,R2,out.set j Q,by omega,rfl,HN5.out.store NW5.out,NW5.out,HLT.out,by simp;omega,digs_set hdo _ _ bQ,HB5.out.set j Q,HL5.out.setCell (Nat.le_refl _) _,HST2.out⟩
        case measure=>simp [intOf]
       ·obtain⟨m,rfl⟩:∃m,t=m+1:=⟨t - 1,by omega⟩
        have em:(((m+1:Nat):Int) - 1)=(m:Int):=by omega
        rw [em]
        have HS:=iX v2 y m wr (NY.out.below hbl2) (by have:=F2.out;omega)
        have hfR2:blen R2≤1125899906840000:=by
         have h1:=jv HR2.out
         have h2:=jh y (m+1)
         have:=F2.out
         omega
        clear hblk2 hbl2 hn2
        go_wp2_with fail
        refine HS.mono ?_
        rintro e u5 ⟨⟨vx,rfl,Nx⟩,hb5⟩
        have HL6:=aa (HL5.out.trans (hb5.mono HL5.out.size))
        have HB6:=aa (HB5.out.kept hb5)
        have HN6:=aa (HN5.out.below hb5)
        have HCM:=dJ u6 vx R2 (y*2 ^ m) u5 HN6.out Nx
        clear HS hb5 HL5 HB5 HN5
        by_cases hge:y*2 ^ m≤R2
        ·have hd:decide (cmpN R2 (y*2 ^ m) ≥ 0)=true:=by
          unfold cmpN;rw [if_neg (by omega)];split <;> decide
         have hd2:decide (0≤cmpN R2 (y*2 ^ m))=true:=hd
         have HSUM2:=aa (oV y R' R2 Q m HSUM.out hge)
         have HR3:=aa (nL y R2 m HR2.out hge)
         have HSB:=fun (u:World) (ha:Num u u6 R2) (hb:Num u vx (y*2 ^ m))=>iI u6 vx R2 (y*2 ^ m) u ha hb hge hfR2
         have HQ2:Hid (Q+2 ^ m+2 ^ m≤4294967296):=aa (by have:=HQ.out;rw [Nat.pow_succ] at this;omega)
         have hP0:0<2 ^ m:=Nat.two_pow_pos m
         have HN7:=aa Nx
         generalize cmpN R2 (y*2 ^ m)=cc at *
         generalize hYm:y*2 ^ m=Y2 at *
         have HYm:=aa hYm
         clear hYm
         go_wp2_with fail
         refine HCM.mono ?_
         rintro e u7 ⟨rfl,hs⟩
         have HL7:=aa (HL6.out.trans ((hs.below u5.heap.size).mono HL6.out.size))
         have HB7:=aa (HB6.out.kept (hs.below _))
         have HS7:=HSB u7 (HN6.out.below (hs.below _)) (HN7.out.below (hs.below _))
         clear HCM hs HL6 HB6 HN6 HN7 Nx HSB
         go_wp2_with fail
         refine HS7.mono ?_
         rintro e u8 ⟨⟨vr,rfl,Nr,nwr⟩,hb8⟩
         have HL8:=aa (HL7.out.trans (hb8.mono HL7.out.size))
         have HB8:=aa (HB7.out.kept hb8)
         have HN8:=aa Nr
         have NW8:Hid (New (w.heap.size+1) vr):=aa (nwr.mono HB7.out.lt)
         clear HS7 hb8 Nr nwr HL7 HB7 hge hd hd2
         obtain⟨P,hP⟩:∃P,P=2 ^ m:=⟨_,rfl⟩
         have HPm:=aa hP
         have eP:(2:Int) ^ m=(P:Int):=by rw [hP];push_cast;rfl
         have bP:Q+P+P≤4294967296:=by rw [hP];exact HQ2.out
         have bP0:0<P:=by rw [hP];exact hP0
         rw [←hP] at HSUM2
         clear hP hP0 HQ2
         have eQ:(Q:Int)+(P:Int)=((Q+P:Nat):Int):=by omega
         generalize Q+P=Q2 at *
         have wP:IntKind.u64.wrap (P:Int)=(P:Int):=by rw [IntKind.wrap_u64];omega
         have wQ:IntKind.u64.wrap (Q2:Int)=(Q2:Int):=by rw [IntKind.wrap_u64];omega
         go_wp2
         go_roundw
         case rel=>
          refine⟨m,Q2,R2 - Y2,by omega,rfl,rfl,HN8.out,NW8.out,HSUM2.out,?_,?_,HB8.out,HL8.out⟩
          ·rw [HYm.out];exact HR3.out
          ·rw [←HPm.out];exact bP
         case measure=>simp [intOf]
        ·have hlt2:R2<y*2 ^ m:=by omega
         have hc:cmpN R2 (y*2 ^ m)=-1:=cmpN_lt hlt2
         rw [hc] at HCM
         have HLT2:=aa hlt2
         have HQ2:Hid (Q+2 ^ m≤4294967296):=aa (by have:=HQ.out;rw [Nat.pow_succ] at this;omega)
         clear hlt2 hc hge Nx
         go_wp2_with fail
         refine HCM.mono ?_
         rintro e u7 ⟨rfl,hs⟩
         have HL7:=aa (HL6.out.trans ((hs.below u5.heap.size).mono HL6.out.size))
         have HB7:=aa (HB6.out.kept (hs.below _))
         have HN7:=aa (HN6.out.below (hs.below _))
         clear HCM hs HL6 HB6 HN6
         go_wp2
         go_roundw
         case rel=>exact⟨m,Q,R2,by omega,rfl,rfl,HN7.out,NW5.out,HSUM.out,HLT2.out,HQ2.out,HB7.out,HL7.out⟩
         case measure=>simp [intOf]

theorem mu (v1 v2:Value)(x y:Nat)(w:World)(h1:Num w v1 x)(h2:Num w v2 y)(hy:y≠0)(f1:blen x≤1125899906840000)(f2:blen y≤1125899906810000) :
  Calls Tryz.prog 59 #[v1,v2] w fun e w'=>(∃vq vr,e=.returned (.tuple #[vq,vr])∧Num w' vq (x / y)∧Num w' vr (x % y))∧Below w.heap.size w w':=
 (pG v1 v2 x y w h1 h2 hy f1 f2).mono fun _ _ h=>⟨h.1.elim fun vq h=>h.elim fun vr h=>⟨vq,vr,h.1,h.2.1,h.2.2.1⟩,h.2⟩
end Go.Proofs.YtdbjbbdhlpfhjaaGreatDoor

