/- The document's Int; what the laws of whole numbers use: num, of, in, lent, alike. -/
import Derived.Test.YtkhckcfikljjhaaGreatDoorB11
import Derived.Test.YtkhckcfikljjhaaGreatDoorB10
import Derived.Test.YtkhckcfikljjhaaGreatDoorB02
import Derived.Test.YtkhckcfikljjhaaGreatDoorB01
import Derived.Test.YtkhckcfikljjhaaGreatDoorB03
import Derived.Test.YtkhckcfikljjhaaGreatDoorB05
import Derived.Handy
import Derived.Test.YtkhckcfikljjhaaGreatDoorB07
import Derived.Test.YtkhckcfikljjhaaGreatDoorB08
set_option maxRecDepth 20000
set_option maxHeartbeats 1000000
namespace Go.Proofs.YtkhckcfikljjhaaGreatDoor
open Go.RowKit
open Lm
attribute [local go_sem ↓] Go.wp_at_zero Go.wp_at_succ

theorem dr (c:Int)(w:World):Calls Tryz.prog 16 #[.int .i64 c] w fun e w'=>e=.returned (.int .i64 c)∧w'=w:=by
 go_enter Tryz.func16,Tryz.ntmps16
 go_wp2
 go_ret
 exact⟨rfl,rfl⟩

theorem iy (n:Int)(w:World)(h1:-9223372036854775808≤n)(h2:n≤9223372036854775807) :
  Calls Tryz.prog 35 #[.int .i64 n] w (iI w n):=by
 obtain⟨w0,hw0,hb0,hx0⟩:=aI w (.cells #[.bool false,.slice none 0 0] 32)
 have HB0:=aa hb0
 have HX0:=aa hx0
 by_cases hn:n<0
 ·obtain⟨x,hx,hx2⟩:∃x:Nat,n=-(x:Int)∧x<18446744073709551616:=⟨n.natAbs,by omega,by omega⟩
  have q1:IntKind.i64.wrap (n+1)=n+1:=by rw [IntKind.wrap_i64];omega
  have q2:IntKind.i64.wrap (-(n+1))=-(n+1):=by rw [IntKind.wrap_i64];omega
  have q3:IntKind.u64.wrap (-(n+1))=-(n+1):=by rw [IntKind.wrap_u64];omega
  have q4:IntKind.u64.wrap (-(n+1)+1)=(x:Int):=by rw [IntKind.wrap_u64];omega
  obtain⟨w6,hw6,hb6,hx6⟩:=aI w0 (.cells #[.int .u64 x] 65)
  have hblk:Blk w6 w0.heap.size [x]:=hx6
  have A6:=Ans.of_blk (base:=w0.heap.size) (zs:=[x]) (Nat.le_refl _) hblk (by simp) (by simp) (by simp) (by intro z hz;simp at hz;omega)
  have HO:=gI (.slice (some ⟨w0.heap.size,0,none⟩) 1 1) [x] w6 (A6.arg (by simp)) (by simp)
  rw [show val [x]=x from by simp [val]] at HO
  have HB6:=aa hb6
  have ez:zz true x=n:=by simp [zz];omega
  have HEZ:=aa ez
  clear hb0 hx0 hb6 hx6 hblk A6 hx ez
  go_enter Tryz.func35,Tryz.ntmps35
  go_wp2_with fail
  refine HO.mono ?_
  rintro e w1 ⟨⟨v1,rfl,hn1⟩,hb1⟩
  have HM:=fT true v1 x w1 hn1
  rw [HEZ.out] at HM
  have HW1:=aa (HB6.out.trans (hb1.mono HB6.out.size))
  obtain⟨a2,n2,k2,rfl⟩:=hn1.sl
  clear hn1 hb1 HO
  go_wp2_with fail
  refine HM.mono ?_
  rintro e w2 ⟨⟨b1,a1,n1,k1,rfl,hzn⟩,hb2⟩
  have HZN:=aa hzn
  have HW:=aa (HW1.out.trans (hb2.mono HW1.out.size))
  clear hzn hb2 HM hw0 hw6
  have hbx:=ag HW.out HX0.out
  have hf1:=az hbx
  obtain⟨l0,l1⟩:=duo hbx
  have HBX:=aa hbx
  have HBE:=aa (HB0.out.trans (HW.out.mono HB0.out.size))
  clear hbx
  go_wp2
  have R5:=bk HBX.out (a':=.bool b1) (b':=.slice a1 n1 k1)
  have HD:=aa (And.intro (HZN.out.duo (p1:=b1) (r1:=.slice a1 n1 k1) HBX.out) (bj HBE.out (g:=w.heap.size) (u0:=.bool b1) (u1:=.slice a1 n1 k1) (by omega)))
  generalize (w2.setCell ⟨w.heap.size,0,none⟩ (.bool b1)).setCell ⟨w.heap.size,1,none⟩ (.slice a1 n1 k1)=w5 at *
  obtain⟨q0,q1⟩:=duo R5
  refine bodyPost_ret (v:=.agg #[.bool b1,.slice a1 n1 k1]) (by simp [results,Tryz.results35,go_sem,q0,q1]) rfl ?_
  exact⟨⟨_,_,_,_,rfl,HD.out.1⟩,HD.out.2⟩
 ·obtain⟨x,hx,hx2⟩:∃x:Nat,n=(x:Int)∧x<9223372036854775808:=⟨n.natAbs,by omega,by omega⟩
  subst hx
  have HO:=mW x w0 hx2
  have ez:zz false x=(x:Int):=by simp [zz]
  have HEZ:=aa ez
  clear hb0 hx0 ez
  go_enter Tryz.func35,Tryz.ntmps35
  go_wp2_with fail
  refine HO.mono ?_
  rintro e w1 ⟨⟨v1,rfl,hn1⟩,hb1⟩
  have HM:=fT false v1 x w1 hn1
  rw [HEZ.out] at HM
  have HW1:=aa hb1
  obtain⟨a2,n2,k2,rfl⟩:=hn1.sl
  clear hn1 hb1 HO
  go_wp2_with fail
  refine HM.mono ?_
  rintro e w2 ⟨⟨b1,a1,n1,k1,rfl,hzn⟩,hb2⟩
  have HZN:=aa hzn
  have HW:=aa (HW1.out.trans (hb2.mono HW1.out.size))
  clear hzn hb2 HM hw0
  have hbx:=ag HW.out HX0.out
  have hf1:=az hbx
  obtain⟨l0,l1⟩:=duo hbx
  have HBX:=aa hbx
  have HBE:=aa (HB0.out.trans (HW.out.mono HB0.out.size))
  clear hbx
  go_wp2
  have R5:=bk HBX.out (a':=.bool b1) (b':=.slice a1 n1 k1)
  have HD:=aa (And.intro (HZN.out.duo (p1:=b1) (r1:=.slice a1 n1 k1) HBX.out) (bj HBE.out (g:=w.heap.size) (u0:=.bool b1) (u1:=.slice a1 n1 k1) (by omega)))
  generalize (w2.setCell ⟨w.heap.size,0,none⟩ (.bool b1)).setCell ⟨w.heap.size,1,none⟩ (.slice a1 n1 k1)=w5 at *
  obtain⟨q0,q1⟩:=duo R5
  refine bodyPost_ret (v:=.agg #[.bool b1,.slice a1 n1 k1]) (by simp [results,Tryz.results35,go_sem,q0,q1]) rfl ?_
  exact⟨⟨_,_,_,_,rfl,HD.out.1⟩,HD.out.2⟩

theorem jt (b:Bool)(a:Option Addr)(m n:Nat)(w:World) :
  Calls Tryz.prog 15 #[.agg #[.bool b,.slice a m n]] w fun e w'=>e=.returned (.agg #[.bool b,.slice a m n])∧Below w.heap.size w w':=by
 obtain⟨w0,hw0,hb0,h0,hx0⟩:=cK w (.cells #[.bool b,.slice a m n] 24) (.cells #[.bool false,.slice none 0 0] 27)
 obtain⟨k0,k1⟩:=duo h0
 have HB0:=aa hb0
 have HX0:=aa hx0
 have HW:Hid (Below w0.heap.size w0 w0):=aa (Below.refl _ _)
 clear hb0 h0 hx0
 have hbx:=ag HW.out HX0.out
 have hf1:=az hbx
 obtain⟨l0,l1⟩:=duo hbx
 have HBX:=aa hbx
 have HBE:=aa (HB0.out.trans (HW.out.mono HB0.out.size))
 clear hbx
 go_enter Tryz.func15,Tryz.ntmps15
 go_wp2
 have R5:=bk HBX.out (a':=.bool b) (b':=.slice a m n)
 have HD:=aa (bj HBE.out (g:=w.heap.size+1) (u0:=.bool b) (u1:=.slice a m n) (by omega))
 generalize (w0.setCell ⟨w.heap.size+1,0,none⟩ (.bool b)).setCell ⟨w.heap.size+1,1,none⟩ (.slice a m n)=w5 at *
 obtain⟨q0,q1⟩:=duo R5
 refine bodyPost_ret (v:=.agg #[.bool b,.slice a m n]) (by simp [results,Tryz.results15,go_sem,q0,q1]) rfl ?_
 exact⟨rfl,HD.out⟩

theorem mu (x y:Int)(w:World):Calls Tryz.prog 55 #[.int .i64 x,.int .i64 y] w fun e w'=>e=.returned (.int .i64 (aM x y))∧w'=w:=by
 unfold aM
 by_cases h1:x<y
 ·rw [if_pos h1]
  go_enter Tryz.func55,Tryz.ntmps55
  go_wp2
  go_ret
  exact⟨rfl,rfl⟩
 ·rw [if_neg h1]
  by_cases h2:y<x
  ·rw [if_pos h2]
   go_enter Tryz.func55,Tryz.ntmps55
   go_wp2
   go_ret
   exact⟨rfl,rfl⟩
  ·rw [if_neg h2]
   go_enter Tryz.func55,Tryz.ntmps55
   go_wp2
   go_ret
   exact⟨rfl,rfl⟩

def iY:Value→Nat
 | .string s=>s.size
 | _=>0


end Go.Proofs.YtkhckcfikljjhaaGreatDoor
namespace Go.Proofs.YtkhckcfikljjhaaGreatDoor
open Go.RowKit
open Lm

theorem nT (x:Nat):∃n,aE 10 x n:=by
 induction x using Nat.strongRecOn with
 | ind x ih=>
  by_cases h:x<10
  ·exact⟨1,Nat.le_refl _,by omega,.inl rfl⟩
  ·obtain⟨n,h1,h2,h3⟩:=ih (x / 10) (by omega)
   refine⟨n+1,by omega,?_,.inr ?_⟩
   ·rw [Nat.pow_succ]
    omega
   ·rw [Nat.add_sub_cancel]
    rcases h3 with h3|h3
    ·subst h3;omega
    ·obtain⟨m,rfl⟩:∃m,n=m+1:=⟨n - 1,by omega⟩
     rw [Nat.add_sub_cancel] at h3
     rw [Nat.pow_succ]
     omega

theorem gJ {b:Nat}{D E:List Nat}{o:Nat}:∀ {n:Nat},(∀i,i<n→D.getD (o+i) 0=E.getD i 0)→dvr b D o n=dvr b E 0 n
 | 0,_=>rfl
 | n+1,h=>by rw [dvr,dvr,gJ (fun i hi=>h i (by omega)),h n (by omega),Nat.zero_add]

theorem jr {b n i:Nat}{D:List Nat}(hb:0<b)(hd:∀i,i<n→D.getD i 0<b)(hi:i<n):dvr b D 0 n / b ^ (n - 1 - i) % b=D.getD i 0:=by
 obtain⟨m,hm⟩:∃m,n=(i+1)+m:=⟨n - 1 - i,by omega⟩
 subst hm
 rw [show i+1+m - 1 - i=m by omega,bF,Nat.zero_add]
 have h1:=ci b D (i+1) hb m (fun j hj=>hd (i+1+j) (by omega))
 have hp:0<b ^ m:=Nat.pow_pos hb
 rw [Nat.add_comm,Nat.add_mul_div_right _ _ hp,Nat.div_eq_of_lt h1,Nat.zero_add,dvr,Nat.zero_add,Nat.add_comm,Nat.add_mul_mod_self_right,Nat.mod_eq_of_lt (hd i hi)]

theorem eE {T:ByteArray}(h:DgT T):∀i,i<T.size→(dgL T).getD i 0<10:=fun i hi=>by
 rw [cj T i hi]
 have:=h.2 i hi
 omega

theorem gk {T:ByteArray}(h:DgT T):dgL T=digs 10 T.size (nmT T):=
 d4 (cQ T) fun i hi=>by
  rw [cQ] at hi ⊢
  exact (jr (by omega) (eE h) hi).symm

theorem ee (d:Nat)(h:d<10):(sgn d).toNat=d+48:=by
 rw [f7]
 have:∀d:Fin 10,fig d.1=d.1+48:=by decide
 exact this ⟨d,h⟩

theorem eY (T:ByteArray)(i:Nat)(h:i<T.data.toList.length):byteN T i=(T.data.toList[i]).toNat:=by
 rw [byteN,List.getD,List.getElem?_eq_getElem h];rfl

theorem dT {T:ByteArray}(h:DgT T):T=an ((digs 10 T.size (nmT T)).map fig):=by
 apply dM
 rw [cd,←gk h]
 have hl:T.data.toList.length=T.size:=rfl
 apply List.ext_getElem
 ·rw [List.length_map,cQ,hl]
 ·intro i h1 h2
  have hi:i<T.size:=by rw [←hl];exact h1
  have hb:=h.2 i hi
  have e:=eY T i h1
  have e2:(dgL T)[i]'(by rw [cQ];exact hi)=byteN T i - 48:=by simp [dgL]
  rw [List.getElem_map,e2]
  apply UInt8.toNat_inj.1
  rw [ee _ (by omega),←e]
  omega

theorem fI (T:ByteArray):(T.extract 1 T.size).data.toList=T.data.toList.drop 1:=by
 have hl:T.data.toList.length=T.size:=rfl
 rw [ByteArray.data_extract,Array.toList_extract,List.extract_eq_take_drop]
 rw [List.take_of_length_le (by rw [List.length_drop,hl];exact Nat.le_refl _)]

theorem ii (T:ByteArray)(i:Nat):byteN (T.extract 1 T.size) i=byteN T (i+1):=by
 unfold byteN
 rw [fI]
 simp only [List.getD,List.getElem?_drop]
 rw [Nat.add_comm]

theorem cO (T:ByteArray):(T.extract 1 T.size).size=T.size - 1:=by rw [ByteArray.size_extract];omega

theorem jS {T:ByteArray}(h:DgT T)(h1:1<T.size):DgT (T.extract 1 T.size):=by
 refine⟨by rw [cO];omega,fun i hi=>?_⟩
 rw [cO] at hi
 rw [ii]
 exact h.2 (i+1) (by omega)

theorem np {T:ByteArray}(_:DgT T)(h1:1<T.size)(h0:byteN T 0=48):nmT (T.extract 1 T.size)=nmT T:=by
 unfold nmT
 rw [cO]
 obtain⟨m,hm⟩:∃m,T.size=1+m:=⟨T.size - 1,by omega⟩
 have e0:(dgL T).getD 0 0=0:=by rw [cj T 0 (by omega),h0]
 have e1:dvr 10 (dgL T) 0 1=0:=by show 0*10+(dgL T).getD (0+0) 0=0;rw [Nat.add_zero,e0]
 have e2:dvr 10 (dgL T) (0+1) m=dvr 10 (dgL (T.extract 1 T.size)) 0 m:=gJ fun i hi=>by
  rw [cj T _ (by omega),cj _ i (by rw [cO];omega),ii,show 0+1+i=i+1 by omega]
 rw [hm,bF,e1,Nat.zero_mul,Nat.zero_add,e2,Nat.add_sub_cancel_left]
 rw [←hm]

theorem gO {T:ByteArray}(h:DgT T)(h1:T.size=1∨byteN T 0≠48):aE 10 (nmT T) T.size:=by
 have hlt:=ci 10 (dgL T) 0 (by omega) T.size (fun i hi=>by rw [Nat.zero_add];exact eE h i hi)
 refine⟨h.1,hlt,?_⟩
 rcases h1 with h1|h1
 ·exact .inl h1
 ·right
  have h0:=h.2 0 h.1
  exact gR (b:=10) (D:=dgL T) (o:=0) h.1 (by rw [cj T 0 h.1];omega)

theorem d9 {n x:Nat}(hn:1≤n):DgT (an ((digs 10 n x).map fig)):=by
 refine⟨by rw [ch,aF];omega,fun i hi=>?_⟩
 rw [ch,aF] at hi
 have hl:i<(an ((digs 10 n x).map fig)).data.toList.length:=by rw [cd,List.length_map,aF];exact hi
 have hd:(digs 10 n x)[i]'(by rw [aF];exact hi)<10:=gF 10 n x (by omega) _ (List.getElem_mem _)
 have e:byteN (an ((digs 10 n x).map fig)) i=(digs 10 n x)[i]'(by rw [aF];exact hi)+48:=by
  rw [eY _ _ hl]
  have e2:(an ((digs 10 n x).map fig)).data.toList[i]=sgn ((digs 10 n x)[i]'(by rw [aF];exact hi)):=by
   simp only [cd,List.getElem_map]
  rw [e2,ee _ hd]
 omega

theorem oI {n x:Nat}(hn:1≤n)(hx:x<10 ^ n):nmT (an ((digs 10 n x).map fig))=x:=by
 have hD:=d9 (x:=x) hn
 have h1:=dT hD
 have hs:(an ((digs 10 n x).map fig)).size=n:=by rw [ch,aF]
 have hlt:nmT (an ((digs 10 n x).map fig))<10 ^ n:=by
  have:=ci 10 (dgL (an ((digs 10 n x).map fig))) 0 (by omega) (an ((digs 10 n x).map fig)).size (fun i hi=>by rw [Nat.zero_add];exact eE hD i hi)
  rw [hs] at this
  unfold nmT
  rw [hs]
  exact this
 have h2:digs 10 n (nmT (an ((digs 10 n x).map fig)))=digs 10 n x:=by
  have h3:=gk hD
  rw [hs] at h3
  rw [←h3]
  apply List.ext_getElem
  ·rw [cQ,hs,aF]
  ·intro i h4 h5
   rw [aF] at h5
   have hl:i<(an ((digs 10 n x).map fig)).data.toList.length:=by rw [cd,List.length_map,aF];exact h5
   have hd:(digs 10 n x)[i]'(by rw [aF];exact h5)<10:=gF 10 n x (by omega) _ (List.getElem_mem _)
   have e:byteN (an ((digs 10 n x).map fig)) i=(digs 10 n x)[i]'(by rw [aF];exact h5)+48:=by
    rw [eY _ _ hl]
    have e2:(an ((digs 10 n x).map fig)).data.toList[i]=sgn ((digs 10 n x)[i]'(by rw [aF];exact h5)):=by
     simp only [cd,List.getElem_map]
    rw [e2,ee _ hd]
   have e3:(dgL (an ((digs 10 n x).map fig)))[i]=byteN (an ((digs 10 n x).map fig)) i - 48:=by simp [dgL]
   omega
 have k1:=fw (b:=10) (k:=0) hlt
 have k2:=fw (b:=10) (k:=0) hx
 rw [h2] at k1
 exact k1.symm.trans k2

theorem ns (a b:ByteArray)(i:Nat)(h:i<a.size):byteN (a ++ b) i=byteN a i:=by
 have hl:a.data.toList.length=a.size:=rfl
 unfold byteN
 rw [dh]
 simp [List.getD,List.getElem?_append,hl,h]

theorem j4 {z:Int}{n:Nat}(h:aE 10 z.natAbs n):isM (aK z n)=decide (z<0)∧aG (aK z n)=an ((digs 10 n z.natAbs).map fig):=by
 have hD:=d9 (x:=z.natAbs) h.1
 have hs:(an ((digs 10 n z.natAbs).map fig)).size=n:=by rw [ch,aF]
 by_cases hz:z<0
 ·have hp:0<(aK z n).size:=by rw [kh];have:=h.1;omega
  have hc:byteN (aK z n) 0=45:=by
   rw [dv n hz,ns _ _ _ (by decide)]
   rfl
  obtain⟨h1,h2⟩:=ff hp hc
  rw [h1,h2,decide_eq_true hz]
  refine⟨rfl,dM ?_⟩
  rw [fI,dv n hz,dh]
  rfl
 ·rw [dZ n hz,decide_eq_false hz]
  have h0:=hD.2 0 hD.1
  exact ft (by omega) (by omega)
end Go.Proofs.YtkhckcfikljjhaaGreatDoor
namespace Go.Proofs.YtkhckcfikljjhaaGreatDoor
open Go.RowKit
open Lm
attribute [local go_sem ↓] Go.wp_at_zero Go.wp_at_succ
end Go.Proofs.YtkhckcfikljjhaaGreatDoor
namespace Go.Proofs.YtkhckcfikljjhaaGreatDoor
open Go.RowKit
open Lm

def Bx (w:World)(l:List (Nat × Obj)):Prop:=∀(i g:Nat) (o:Obj),l[i]?=some (g,o)→w.heap[g]?=some o

theorem Bx.nil (w:World):Bx w []:=by intro i g o h;simp at h

theorem Bx.cons {w:World}{g:Nat}{o:Obj}{l:List (Nat × Obj)}(hx:w.heap[g]?=some o)(h:Bx w l):Bx w ((g,o) :: l):=by
 intro i g' o' e
 cases i with
 | zero=>simp at e;obtain⟨rfl,rfl⟩:=e;exact hx
 | succ i=>rw [List.getElem?_cons_succ] at e;exact h i g' o' e

theorem Bx.below {w w':World}{l:List (Nat × Obj)}(h:Bx w l)(hb:Below w.heap.size w w'):Bx w' l:=fun i g o e=>ag hb (h i g o e)
end Go.Proofs.YtkhckcfikljjhaaGreatDoor
namespace Go.Proofs.YtkhckcfikljjhaaGreatDoor
open Go.RowKit
open Lm
attribute [local go_sem ↓] Go.wp_at_zero Go.wp_at_succ

def ZA (w:World)(base:Nat)(b:Bool)(u:Value)(z:Int):Prop:=∃rs,Ans w base u rs∧b=decide (z<0)∧val rs=z.natAbs∧tr rs=rs

theorem iE (n:Int)(w:World)(h1:-9223372036854775808≤n)(h2:n≤9223372036854775807) :
  Calls Tryz.prog 34 #[.int .i64 n] w fun e w'=>(∃b a l k,e=.returned (.agg #[.bool b,.slice a l k])∧ZA w' w.heap.size b (.slice a l k) n)∧Below w.heap.size w w':=by
 obtain⟨w0,hw0,hb0,hx0⟩:=aI w (.cells #[.bool false,.slice none 0 0] 27)
 by_cases hn:n<0
 ·obtain⟨m,hm⟩:∃m,IntKind.i64.wrap (-n)=m:=⟨_,rfl⟩
  have hm2:IntKind.u64.wrap m=((n.natAbs:Nat):Int):=by rw [←hm,IntKind.wrap_i64,IntKind.wrap_u64];omega
  have hm3:IntKind.u64.wrap ((n.natAbs:Nat):Int)=((n.natAbs:Nat):Int):=by rw [IntKind.wrap_u64];omega
  have HM:=ce n.natAbs w0 (by omega)
  have HB0:=aa hb0
  have HX0:=aa hx0
  clear hb0 hx0
  go_enter Tryz.func34,Tryz.ntmps34
  go_wp2_with fail
  refine HM.mono ?_
  rintro e w1 ⟨⟨v1,rfl,A1⟩,hb1⟩
  have HS:=bK true v1 _ _ w1 A1
  rw [bE true (tr_tr _) (val_tr _)] at HS
  have e1:zz true (val [n.natAbs])=n:=by simp [zz,val];omega
  rw [e1] at HS
  have hv:val (tr [n.natAbs])=n.natAbs:=by rw [val_tr];simp [val]
  have ht:=tr_tr [n.natAbs]
  generalize tr [n.natAbs]=rs at *
  obtain⟨a1,k1,rfl⟩:=A1.shape
  have HA1:=aa A1
  have HW1:=aa hb1
  have HV:=aa (And.intro hv ht)
  clear A1 hb1 HM e1 hv ht
  go_wp2_with fail
  refine HS.mono ?_
  rintro e w2 ⟨rfl,hb2⟩
  have HW:=aa (HW1.out.trans (hb2.mono HW1.out.size))
  have HAN:=aa ((HA1.out.below hb2).base HB0.out.size)
  have hbx:=ag HW.out HX0.out
  have hf1:=az hbx
  obtain⟨l0,l1⟩:=duo hbx
  have HBX:=aa hbx
  have HBE:=aa (HB0.out.trans (HW.out.mono HB0.out.size))
  clear hbx hb2 HS hw0
  obtain⟨ub,hub⟩:∃ub,decide (n<0)=ub:=⟨_,rfl⟩
  rw [hub]
  go_wp2
  have R5:=bk HBX.out (a':=.bool ub) (b':=.slice a1 rs.length k1)
  have HD:=aa (And.intro (HAN.out.duo (u0:=.bool ub) (u1:=.slice a1 rs.length k1) HBX.out) (bj HBE.out (g:=w.heap.size) (u0:=.bool ub) (u1:=.slice a1 rs.length k1) (Nat.le_refl _)))
  generalize (w2.setCell ⟨w.heap.size,0,none⟩ (.bool ub)).setCell ⟨w.heap.size,1,none⟩ (.slice a1 rs.length k1)=w5 at *
  obtain⟨q0,q1⟩:=duo R5
  refine bodyPost_ret (v:=.agg #[.bool ub,.slice a1 rs.length k1]) (by simp [results,Tryz.results34,go_sem,q0,q1]) rfl ?_
  exact⟨⟨_,_,_,_,rfl,rs,HD.out.1,hub.symm,HV.out⟩,HD.out.2⟩
 ·have hm2:IntKind.u64.wrap n=((n.natAbs:Nat):Int):=by rw [IntKind.wrap_u64];omega
  have hm3:IntKind.u64.wrap ((n.natAbs:Nat):Int)=((n.natAbs:Nat):Int):=by rw [IntKind.wrap_u64];omega
  have HM:=ce n.natAbs w0 (by omega)
  have HB0:=aa hb0
  have HX0:=aa hx0
  clear hb0 hx0
  go_enter Tryz.func34,Tryz.ntmps34
  go_wp2_with fail
  refine HM.mono ?_
  rintro e w1 ⟨⟨v1,rfl,A1⟩,hb1⟩
  have HS:=bK false v1 _ _ w1 A1
  rw [bE false (tr_tr _) (val_tr _)] at HS
  have e1:zz false (val [n.natAbs])=n:=by simp [zz,val];omega
  rw [e1] at HS
  have hv:val (tr [n.natAbs])=n.natAbs:=by rw [val_tr];simp [val]
  have ht:=tr_tr [n.natAbs]
  generalize tr [n.natAbs]=rs at *
  obtain⟨a1,k1,rfl⟩:=A1.shape
  have HA1:=aa A1
  have HW1:=aa hb1
  have HV:=aa (And.intro hv ht)
  clear A1 hb1 HM e1 hv ht
  go_wp2_with fail
  refine HS.mono ?_
  rintro e w2 ⟨rfl,hb2⟩
  have HW:=aa (HW1.out.trans (hb2.mono HW1.out.size))
  have HAN:=aa ((HA1.out.below hb2).base HB0.out.size)
  have hbx:=ag HW.out HX0.out
  have hf1:=az hbx
  obtain⟨l0,l1⟩:=duo hbx
  have HBX:=aa hbx
  have HBE:=aa (HB0.out.trans (HW.out.mono HB0.out.size))
  clear hbx hb2 HS hw0
  obtain⟨ub,hub⟩:∃ub,decide (n<0)=ub:=⟨_,rfl⟩
  rw [hub]
  go_wp2
  have R5:=bk HBX.out (a':=.bool ub) (b':=.slice a1 rs.length k1)
  have HD:=aa (And.intro (HAN.out.duo (u0:=.bool ub) (u1:=.slice a1 rs.length k1) HBX.out) (bj HBE.out (g:=w.heap.size) (u0:=.bool ub) (u1:=.slice a1 rs.length k1) (Nat.le_refl _)))
  generalize (w2.setCell ⟨w.heap.size,0,none⟩ (.bool ub)).setCell ⟨w.heap.size,1,none⟩ (.slice a1 rs.length k1)=w5 at *
  obtain⟨q0,q1⟩:=duo R5
  refine bodyPost_ret (v:=.agg #[.bool ub,.slice a1 rs.length k1]) (by simp [results,Tryz.results34,go_sem,q0,q1]) rfl ?_
  exact⟨⟨_,_,_,_,rfl,rs,HD.out.1,hub.symm,HV.out⟩,HD.out.2⟩

theorem dY (L:Nat)(v1 v2:Value)(X Y:List Nat)(w:World)(hL:w.heap[L]?=some (.cells #[v1,v2] 25))(hA:Arg w v1 X)(hB:Arg w v2 Y) :
  Calls Tryz.prog 73 #[.slice (some ⟨L,0,none⟩) 2 2] w fun e w'=>e=.returned (.bool (decide (67108864<blen (val X)∨67108864<blen (val Y))))∧w'=w:=by
 obtain⟨c0,c1⟩:=duo hL
 have L1:=aA v1 X w hA
 have L2:=aA v2 Y w hB
 obtain⟨a1,n1,rfl,_,_,_⟩:=hA.form
 obtain⟨a2,n2,rfl,_,_,_⟩:=hB.form
 clear hA hB hL
 generalize blen (val X)=lx at *
 generalize blen (val Y)=ly at *
 by_cases h1:67108864<lx
 ·have i1:(67108864:Int)<(lx:Int):=by omega
  rw [decide_eq_true (.inl h1)]
  go_enter Tryz.func73,Tryz.ntmps73
  go_wp2
  refine wp_loop_rounds 1 ?_
  rw [rounds_succ]
  go_wp2_with fail
  refine L1.mono ?_
  rintro e wn ⟨rfl,hw⟩;rw [hw];clear hw wn L1
  go_wp2
  go_ret
  exact⟨rfl,rfl⟩
 ·have i1:¬(67108864:Int)<(lx:Int):=by omega
  by_cases h2:67108864<ly
  ·have i2:(67108864:Int)<(ly:Int):=by omega
   rw [decide_eq_true (.inr h2)]
   go_enter Tryz.func73,Tryz.ntmps73
   go_wp2
   refine wp_loop_rounds 2 ?_
   rw [rounds_succ]
   go_wp2_with fail
   refine L1.mono ?_
   rintro e wn ⟨rfl,hw⟩;rw [hw];clear hw wn L1
   go_wp2
   rw [rounds_succ]
   go_wp2_with fail
   refine L2.mono ?_
   rintro e wn ⟨rfl,hw⟩;rw [hw];clear hw wn L2
   go_wp2
   go_ret
   exact⟨rfl,rfl⟩
  ·have i2:¬(67108864:Int)<(ly:Int):=by omega
   rw [decide_eq_false (by omega)]
   go_enter Tryz.func73,Tryz.ntmps73
   go_wp2
   refine wp_loop_rounds 3 ?_
   rw [rounds_succ]
   go_wp2_with fail
   refine L1.mono ?_
   rintro e wn ⟨rfl,hw⟩;rw [hw];clear hw wn L1
   go_wp2
   rw [rounds_succ]
   go_wp2_with fail
   refine L2.mono ?_
   rintro e wn ⟨rfl,hw⟩;rw [hw];clear hw wn L2
   go_wp2
   rw [rounds_succ]
   go_wp2
   go_ret
   exact⟨rfl,rfl⟩

def iQ:Value:=.agg #[.func (.func 100) #[] #[],.func (.func 101) #[] #[],.func (.func 102) #[] #[],.func (.func 103) #[] #[],.func (.func 105) #[] #[]]

theorem oa {P:Program}(w:World)(a:Addr)(m:Mode)(f:Fn)(x y:Array Value):(store a (.func f x y) m).run P w=stored P w a (.func f x y) m:=run_store P w a _ m rfl

attribute [local go_sem] oa in
theorem wdivs_any (w:World):Calls Tryz.prog 71 #[] w fun e w'=>e=.returned iQ∧Below w.heap.size w w':=by
 have HB:=aa (bH w (.cells #[.func (.func 100) #[] #[],.func (.func 101) #[] #[],.func (.func 102) #[] #[],.func (.func 103) #[] #[],.func (.func 105) #[] #[]] 115))
 go_enter Tryz.func71,Tryz.ntmps71
 go_wp2
 go_returns
 exact⟨rfl,HB.out⟩

def d5 (q r l:Value)(bl ap:Bool):Value:=.agg #[q,r,l,.bool bl,.bool ap]

theorem kI (a1 a2 a3:Option Addr)(n1 k1 n2 k2 n3 k3:Nat)(bl ap:Bool)(w:World):Calls Tryz.prog 101 #[d5 (.slice a1 n1 k1) (.slice a2 n2 k2) (.slice a3 n3 k3) bl ap] w fun e w'=>e=.returned (.bool ap)∧Below w.heap.size w w':=by
 obtain⟨w0,hw0,hb0,hx0⟩:=aI w (.cells #[.slice a1 n1 k1,.slice a2 n2 k2,.slice a3 n3 k3,.bool bl,.bool ap] 118)
 have c3:w0.cell? ⟨w.heap.size,3,none⟩=some (.bool bl):=by simp [World.cell?,hx0]
 have c4:w0.cell? ⟨w.heap.size,4,none⟩=some (.bool ap):=by simp [World.cell?,hx0]
 have HB0:=aa hb0
 clear hb0 hx0
 unfold d5
 go_enter Tryz.func101,Tryz.ntmps101
 go_wp2
 go_ret
 exact⟨rfl,HB0.out⟩

theorem md (w:World):(Instr.index 115 iQ (.int .i64 1)).run Tryz.prog w=.ok (.agg #[.func (.func 101) #[] #[]]) w:=by kernel_rfl

theorem lW (w:World):(Instr.field 114 (.agg #[.func (.func 101) #[] #[]]) 0).run Tryz.prog w=.ok (.func (.func 101) #[] #[]) w:=by kernel_rfl
end Go.Proofs.YtkhckcfikljjhaaGreatDoor
namespace Go.Proofs.YtkhckcfikljjhaaGreatDoor
open Go.RowKit
open Lm

theorem gE (w:World)(o1 o2 o3 o4:Obj):∃w0,(((w.alloc o1).alloc o2).alloc o3).alloc o4=w0∧Below w.heap.size w w0∧w0.heap[w.heap.size]?=some o1∧w0.heap[w.heap.size+1]?=some o2∧w0.heap[w.heap.size+2]?=some o3∧w0.heap[w.heap.size+3]?=some o4:=by
 obtain⟨w1,h1,b1,c1,c2,c3⟩:=kB w o1 o2 o3
 obtain⟨w2,h2,b2,c4⟩:=aI w1 o4
 have hs:w1.heap.size=w.heap.size+3:=by rw [←h1,World.size_alloc,World.size_alloc,World.size_alloc]
 refine⟨w2,by rw [h1];exact h2,b1.trans (b2.mono b1.size),?_,?_,?_,by rw [←hs];exact c4⟩
 ·rw [b2.block _ (lt_of_block c1)];exact c1
 ·rw [b2.block _ (lt_of_block c2)];exact c2
 ·rw [b2.block _ (lt_of_block c3)];exact c3

theorem bV {B:Nat}{w0 w:World}{g:Nat}{u0 u1 u2 u3:Value}(h:Below B w0 w)(hg:B≤g):Below B w0 ((((w.setCell ⟨g,0,none⟩ u0).setCell ⟨g,1,none⟩ u1).setCell ⟨g+1,0,none⟩ u2).setCell ⟨g+1,1,none⟩ u3):=
 bj (bj h hg) (by omega)
end Go.Proofs.YtkhckcfikljjhaaGreatDoor
namespace Go.Proofs.YtkhckcfikljjhaaGreatDoor
open Go.RowKit
open Lm
attribute [local go_sem ↓] Go.wp_at_zero Go.wp_at_succ

theorem oG (b off cap:Nat)(zs:List Nat)(w:World)(hcap:zs.length≤cap)(hmax:cap≤9223372036854775807)
  (hc:∀k,k<zs.length→w.cell? ⟨b,off+k,none⟩=some (.int .u64 ((zs.getD k 0:Nat):Int))) :
  Calls Tryz.prog 94 #[.slice (some ⟨b,off,none⟩) zs.length cap] w fun e w'=>e=.returned (.slice (some ⟨b,off,none⟩) (tr zs).length cap)∧w'=w:=by
 go_enter Tryz.func94,Tryz.ntmps94
 go_wp2
 go_loop [3] (fun n=>∃k:Nat,k≤zs.length∧n=.int .i64 k∧tr (zs.take k)=tr zs) (fun n=>(intOf n).toNat)
 case atStart=>exact⟨zs.length,Nat.le_refl _,rfl,by rw [List.take_length]⟩
 case round=>
  obtain⟨k,hk,rfl,ht⟩:=hrel
  have HT:Hid (tr (zs.take k)=tr zs):=ht
  clear ht
  by_cases h0:k=0
  ·subst h0
   go_wp2
   go_ret
   have e:=HT.out
   simp only [List.take_zero,tr] at e
   rw [←e]
   exact⟨rfl,rfl⟩
  ·obtain⟨j,rfl⟩:∃j,k=j+1:=⟨k - 1,by omega⟩
   have hcj:=hc j (by omega)
   clear hc
   by_cases hz:zs.getD j 0=0
   ·have HZ:Hid (tr (zs.take j)=tr zs):=by rw [←tr_step zs j (by omega) hz];exact HT.out
    rw [hz] at hcj
    clear hz HT
    go_wp2
    go_round
    case rel=>exact⟨j,by omega,by go_num,HZ.out⟩
    case measure=>simp [intOf]
   ·have HZ:Hid (tr zs=zs.take (j+1)):=by rw [←HT.out];exact tr_stop zs j (by omega) hz
    clear HT
    generalize zs.getD j 0=z at hcj hz
    have hne:((z:Int) == 0)=false:=by rw [beq_eq_false_iff_ne];omega
    clear hz
    go_wp2
    go_ret
    rw [HZ.out]
    have e:(zs.take (j+1)).length=j+1:=by simp;omega
    rw [e]
    exact⟨rfl,rfl⟩

theorem ow (ao:Option Addr)(cap:Nat)(w:World)(_hmax:cap≤9223372036854775807) :
  Calls Tryz.prog 94 #[.slice ao 0 cap] w fun e w'=>e=.returned (.slice ao 0 cap)∧w'=w:=by
 go_enter Tryz.func94,Tryz.ntmps94
 go_wp2
 refine wp_loop_rounds 1 ?_
 rw [rounds_succ]
 go_wp2
 go_ret
 exact⟨rfl,rfl⟩

theorem cN (ao:Option Addr)(cap:Nat)(zs:List Nat)(w:World)(hcap:zs.length≤cap)(hmax:cap≤9223372036854775807)(hl:ae w ao zs) :
  Calls Tryz.prog 94 #[.slice ao zs.length cap] w fun e w'=>e=.returned (.slice ao (tr zs).length cap)∧w'=w:=by
 rcases hl with rfl|⟨b,off,rfl,hc⟩
 ·exact ow ao cap w hmax
 ·exact oG b off cap zs w hcap hmax hc

theorem du (bz zo n cap:Nat)(Z:List Nat)(va:Value)(X:List Nat)(w:World)(hB:Blk w bz Z)(hLZ:Limbs Z)(hA:Arg w va X)(ho:0<X.length→Off va bz zo (zo+n))
  (hzo:zo+n≤Z.length) (hc1:n≤cap) (hc2:cap≤9223372036854775807) (hXn:X.length≤n) (hfit:sv Z zo n+val X<18446744073709551616 ^ n) :
  Calls Tryz.prog 106 #[.slice (some ⟨bz,zo,none⟩) n cap,va] w (af bz zo n Z w (sv Z zo n+val X)):=by
 obtain⟨a1,c1,rfl,hcc1,hcm1,hl1⟩:=hA.form
 have hX:=hA.few
 have M1:=hA.limbs
 have hao:0<X.length→∀b off,a1=some ⟨b,off,none⟩→b≠bz∨off+X.length≤zo∨zo+n≤off:=fun h b off e=>by
  subst e
  exact ho h b off _ _ rfl
 have L1:=hl1
 have hln:=hXn
 clear ho hA hl1 hXn
 generalize X=P at *
 have HFIT:=aa hfit
 have HB0:=aa hB
 have HLZ:=aa hLZ
 clear hfit
 go_enter Tryz.func106,Tryz.ntmps106
 go_wp2
 go_loopw [4,10] (fun c i wr=>∃(k cy:Nat) (Z':List Nat),k≤P.length∧i=.int .i64 k∧c=.int .u64 cy∧cy≤1∧Out Z Z' zo (zo+k)∧Limbs Z'∧Blk wr bz Z'∧Fr bz w wr ∧
   sv Z' zo k+cy*18446744073709551616 ^ k=sv Z zo k+val (P.take k)) (fun _ i _=>P.length - (intOf i).toNat)
 case atStart=>exact⟨0,0,Z,Nat.zero_le _,rfl,rfl,by omega,Out.refl _ _ _,HLZ.out,HB0.out,Fr.refl _ _,by simp [aw,val]⟩
 case round=>
  obtain⟨k,cy,Z',hk,rfl,rfl,hcy,hout,hlz,hblk,hfr0,hval⟩:=hrel
  have HV:=aa hval
  have HB:=aa hblk
  have HF:=aa hfr0
  have HO:=aa hout
  have hl:=hout.len
  clear hval
  by_cases hkl:k<P.length
  ·rcases L1.fr (hao (by omega)) hfr0 hB hblk (hout.wider (Nat.le_refl _) (by omega)) with h0|⟨b,off,rfl,hcell⟩
   ·rw [h0] at hkl;simp at hkl
   ·have hck:=hcell k hkl
    have hfr:=hblk.free (zo+k)
    have hco:=hblk.cell (zo+k) (by omega)
    have z1:=limb_lt M1 k
    have z2:=limb_lt hlz (zo+k)
    have hsame:=hout.same (zo+k) (by omega)
    have ha:=cC (Z'.getD (zo+k) 0) (P.getD k 0) cy hcy
    obtain⟨q1,q2,q3⟩:=cG (Z'.getD (zo+k) 0) (P.getD k 0) cy z2 z1 hcy
    have HS:=aa (b8 Z Z' zo k cy _ _ (P.getD k 0) _ (by omega) hl HV.out (by rw [←hsame];exact q1))
    rw [←val_take_next P k] at HS
    generalize Z'.getD (zo+k) 0=z at *
    generalize P.getD k 0=x at *
    clear hsame q1
    generalize (z+x+cy) % 18446744073709551616=s at *
    generalize (z+x+cy) / 18446744073709551616=c2 at *
    clear hcell hblk hfr0 hout HV M1 L1 hB hLZ
    go_wp2
    go_roundw
    case rel=>exact⟨k+1,c2,Z'.set (zo+k) s,by omega,by go_num,rfl,q2,(HO.out.wider (Nat.le_refl _) (by omega)).set _ _ (by omega) (by omega),limbs_set hlz _ _ q3,HB.out.set _ s,HF.out.setCell _ _,HS.out⟩
    case measure=>simp [intOf];omega
  ·have ek:k=P.length:=by omega
   subst ek
   rw [List.take_length] at HV
   clear hblk hfr0 hout L1 hB M1 hLZ hl
   go_wp2
   go_loopw [4,7] (fun c i wr2=>∃(k cy:Nat) (Z2:List Nat),k≤n∧i=.int .i64 k∧c=.int .u64 cy∧cy≤1∧Out Z Z2 zo (zo+k)∧Limbs Z2∧Blk wr2 bz Z2∧Fr bz w wr2 ∧
     sv Z2 zo k+cy*18446744073709551616 ^ k=sv Z zo k+val P) (fun _ i _=>n - (intOf i).toNat)
   case atStart=>exact⟨P.length,cy,Z',hln,rfl,rfl,hcy,HO.out,hlz,HB.out,HF.out,HV.out⟩
   case round=>
    obtain⟨k,cy2,Z2,hk2,rfl,rfl,hcy2,hout2,hlz2,hblk2,hfr2,hval2⟩:=hrel
    clear HV HB HF HO
    have HV:=aa hval2
    have HB:=aa hblk2
    have HF:=aa hfr2
    have HO:=aa hout2
    have hl:=hout2.len
    clear hval2
    by_cases hc0:cy2=0
    ·subst hc0
     have HR:=aa (dA Z Z2 zo k n _ hk2 hzo hout2 (by have h:=HV.out;rw [Nat.zero_mul,Nat.add_zero] at h;exact h))
     clear hblk2 hfr2 hout2 HV
     go_wp2
     go_end0
     exact⟨rfl,Z2,HO.out.wider (Nat.le_refl _) (by omega),hlz2,HB.out,HF.out,HR.out⟩
    ·have hpos:(0:Int)<(cy2:Int):=by omega
     have hkn:k<n:=by
      rcases Nat.lt_or_ge k n with h|h
      ·exact h
      ·have ek:k=n:=by omega
       subst ek
       exact absurd (dQ Z Z2 zo k cy2 (val P) HFIT.out HV.out) hc0
     have hfr:=hblk2.free (zo+k)
     have hco:=hblk2.cell (zo+k) (by omega)
     have z2:=limb_lt hlz2 (zo+k)
     have hsame:=hout2.same (zo+k) (by omega)
     have ha:=be (Z2.getD (zo+k) 0) cy2
     obtain⟨q1,q2,q3⟩:=cG (Z2.getD (zo+k) 0) 0 cy2 z2 (by omega) hcy2
     have HS:=aa (b8 Z Z2 zo k cy2 _ _ 0 _ (by omega) hl HV.out (by rw [←hsame];exact q1))
     rw [Nat.mul_zero,Nat.add_zero] at HS
     rw [Nat.add_zero] at HS q2 q3
     generalize Z2.getD (zo+k) 0=z at *
     clear hsame q1
     generalize (z+cy2) % 18446744073709551616=s at *
     generalize (z+cy2) / 18446744073709551616=c2 at *
     clear hblk2 hfr2 hout2 HV hc0
     go_wp2
     go_roundw
     case rel=>exact⟨k+1,c2,Z2.set (zo+k) s,by omega,by go_num,rfl,q2,(HO.out.wider (Nat.le_refl _) (by omega)).set _ _ (by omega) (by omega),limbs_set hlz2 _ _ q3,HB.out.set _ s,HF.out.setCell _ _,HS.out⟩
     case measure=>simp [intOf];omega

def aW (w:World)(x:Nat)(e:Ending)(w':World):Prop:=
 (∃v rs,e=.returned v∧Ans w' w.heap.size v rs∧val rs=x∧tr rs=rs)∧Below w.heap.size w w'

theorem Arg.wtrim {w:World}{v:Value}{X:List Nat}(h:Arg w v X):∃ao cap,v=.slice ao X.length cap∧(∀w',Below w.heap.size w w'→Calls Tryz.prog 94 #[v] w' fun e w''=>e=.returned (.slice ao (tr X).length cap)∧w''=w')∧Arg w (.slice ao (tr X).length cap) (tr X):=by
 obtain⟨ao,cap,rfl,h1,h2,h3⟩:=h.form
 exact⟨ao,cap,rfl,fun w' hb=>cN ao cap X w' h1 h2 (h3.below hb),h.trim⟩

theorem Arg.wlies {w:World}{a:Option Addr}{n c:Nat}{X:List Nat}(h:Arg w (.slice a n c) X):ae w a X:=by
 obtain⟨_,_,e,_,_,hl⟩:=h.form
 cases e
 exact hl

theorem aW.trimmed {w w':World}{g:Nat}{Z:List Nat}{x:Nat}(hg:w.heap.size≤g)(hb:Blk w' g Z)(hl:Limbs Z)(hz:Z.length≤1125899906842624)(hx:val Z=x)(hbel:Below w.heap.size w w') :
  Calls Tryz.prog 94 #[.slice (some ⟨g,0,none⟩) Z.length Z.length] w' fun e w''=>e=.returned (.slice (some ⟨g,0,none⟩) (tr Z).length Z.length)∧w''=w'∧aW w x e w'':=by
 have A1:=Ans.of_blk (base:=w.heap.size) (zs:=Z) hg hb List.take_length.symm (Nat.le_refl _) (by omega) hl
 have hA:=A1.arg hz
 obtain⟨ao,cap,e0,hT,_⟩:=hA.wtrim
 cases e0
 refine (hT w' (Below.refl _ _)).mono ?_
 rintro e w2 ⟨rfl,rfl⟩
 exact⟨rfl,rfl,⟨_,tr Z,rfl,A1.trim,by rw [val_tr];exact hx,tr_tr Z⟩,hbel⟩

theorem ou (va vb:Value)(X Y:List Nat)(w:World)(hA:Arg w va X)(hB:Arg w vb Y)(hx:X.length≤17592186044416)(hy:Y.length≤17592186044416) :
  Calls Tryz.prog 72 #[va,vb] w (aW w (val X+val Y)):=by
 obtain⟨a1,c1,rfl,T1,A1⟩:=hA.wtrim
 obtain⟨a2,c2,rfl,T2,A2⟩:=hB.wtrim
 have f1:=A1.few
 have f2:=A2.few
 have g1:=tr_length_le X
 have g2:=tr_length_le Y
 rw [←val_tr X,←val_tr Y]
 have HT1:=T1 w (Below.refl _ _)
 have HT2:=T2 w (Below.refl _ _)
 clear T1 T2
 generalize tr X=P at *
 generalize tr Y=Q at *
 clear hA hB
 obtain⟨i0,hi,hz0,hz1,hz2⟩:=info_parts Tryz.infoU
 go_enter Tryz.func72,Tryz.ntmps72
 go_wp2_with fail
 refine HT1.mono ?_
 rintro e wn ⟨rfl,hw⟩;rw [hw];clear hw wn HT1
 go_wp2_with fail
 refine HT2.mono ?_
 rintro e wn ⟨rfl,hw⟩;rw [hw];clear hw wn HT2
 by_cases hlt:P.length<Q.length
 ·have i1:(P.length:Int)<(Q.length:Int):=by omega
  obtain⟨H',eH,hH1,hH2⟩:∃H':Nat,(Q.length:Int)+1=(H':Int)∧H'≤Q.length+1∧Q.length+1≤H':=⟨Q.length+1,by omega,by omega,by omega⟩
  go_wp2_with (at_make;refine wpList_make_full _ rfl _ _ 25 rfl w.heap.size 65 i0 (.int .u64 0) 1 Tryz.underlying25 hi hz0 hz1 .i64 .i64 _ _ H' rfl rfl (by omega) (by omega) (by rw [hz2];omega) (by unfold maxLen;omega) (Nat.le_refl _) ?_;intro w1 hown hgrow;obtain⟨w2,M2,hcp,B2,L2,F2,O2,S2⟩:=aH w.heap.size 0 H' H' (List.replicate H' 0) a2 c2 Q w1 (Blk.made hown) (limbs_replicate _) A2.limbs (aL H' 0 H') (by simp) (by omega) (A2.below ((Below.refl w.heap.size w).grown hgrow (Nat.le_refl _) (fun k hk=>by cases hk))).wlies)
  have hb1:Below w.heap.size w w1:=(Below.refl w.heap.size w).grown hgrow (Nat.le_refl _) (fun k hk=>by cases hk)
  have hb2:Below w.heap.size w w2:=hb1.trans (F2.below (Nat.le_refl _) hb1.size)
  have l2:M2.length=H':=by rw [O2.len,List.length_replicate]
  have s2:sv M2 0 H'=val Q:=S2
  have hfit:sv M2 0 H'+val P<18446744073709551616 ^ H':=by
   rw [s2]
   have h1:=val_lt A2.limbs
   have h2:=val_lt A1.limbs
   have h3:18446744073709551616 ^ P.length≤18446744073709551616 ^ Q.length:=Nat.pow_le_pow_right (by omega) (by omega)
   have h4:18446744073709551616 ^ H'=18446744073709551616 ^ Q.length*18446744073709551616:=by rw [show H'=Q.length+1 by omega,Nat.pow_succ]
   omega
  have HP:=du w.heap.size 0 H' H' M2 _ P w2 B2 L2 (A1.below hb2) (fun h0 b off n c e=>.inl (by cases e;have:=A1.block h0;omega)) (by omega) (Nat.le_refl _) (by omega) (by omega) hfit
  clear B2 L2 F2 O2 S2 hown hgrow hb1
  refine HP.mono ?_
  rintro e w3 ⟨rfl,M3,O3,L3,B3,F3,S3⟩
  have HR:=aW.trimmed (w:=w) (x:=val Q+val P) (Nat.le_refl _) B3 L3 (by rw [O3.len];omega) (by rw [←s2,←S3,←l2,←O3.len,aN]) (hb2.trans (F3.below (Nat.le_refl _) hb2.size))
  have l3:M3.length=H':=by rw [O3.len];exact l2
  rw [l3] at HR
  clear HP O3 L3 B3 F3 S3 hb2 s2 hfit
  go_wp2_with fail
  refine HR.mono ?_
  rintro e w4 ⟨rfl,rfl,hd⟩
  have HD:=aa hd
  go_wp2
  go_returns
  rw [Nat.add_comm];exact HD.out
 ·have i1:¬(P.length:Int)<(Q.length:Int):=by omega
  obtain⟨H',eH,hH1,hH2⟩:∃H':Nat,(P.length:Int)+1=(H':Int)∧H'≤P.length+1∧P.length+1≤H':=⟨P.length+1,by omega,by omega,by omega⟩
  go_wp2_with (at_make;refine wpList_make_full _ rfl _ _ 25 rfl w.heap.size 65 i0 (.int .u64 0) 1 Tryz.underlying25 hi hz0 hz1 .i64 .i64 _ _ H' rfl rfl (by omega) (by omega) (by rw [hz2];omega) (by unfold maxLen;omega) (Nat.le_refl _) ?_;intro w1 hown hgrow;obtain⟨w2,M2,hcp,B2,L2,F2,O2,S2⟩:=aH w.heap.size 0 H' H' (List.replicate H' 0) a1 c1 P w1 (Blk.made hown) (limbs_replicate _) A1.limbs (aL H' 0 H') (by simp) (by omega) (A1.below ((Below.refl w.heap.size w).grown hgrow (Nat.le_refl _) (fun k hk=>by cases hk))).wlies)
  have hb1:Below w.heap.size w w1:=(Below.refl w.heap.size w).grown hgrow (Nat.le_refl _) (fun k hk=>by cases hk)
  have hb2:Below w.heap.size w w2:=hb1.trans (F2.below (Nat.le_refl _) hb1.size)
  have l2:M2.length=H':=by rw [O2.len,List.length_replicate]
  have s2:sv M2 0 H'=val P:=S2
  have hfit:sv M2 0 H'+val Q<18446744073709551616 ^ H':=by
   rw [s2]
   have h1:=val_lt A1.limbs
   have h2:=val_lt A2.limbs
   have h3:18446744073709551616 ^ Q.length≤18446744073709551616 ^ P.length:=Nat.pow_le_pow_right (by omega) (by omega)
   have h4:18446744073709551616 ^ H'=18446744073709551616 ^ P.length*18446744073709551616:=by rw [show H'=P.length+1 by omega,Nat.pow_succ]
   omega
  have HP:=du w.heap.size 0 H' H' M2 _ Q w2 B2 L2 (A2.below hb2) (fun h0 b off n c e=>.inl (by cases e;have:=A2.block h0;omega)) (by omega) (Nat.le_refl _) (by omega) (by omega) hfit
  clear B2 L2 F2 O2 S2 hown hgrow hb1
  refine HP.mono ?_
  rintro e w3 ⟨rfl,M3,O3,L3,B3,F3,S3⟩
  have HR:=aW.trimmed (w:=w) (x:=val P+val Q) (Nat.le_refl _) B3 L3 (by rw [O3.len];omega) (by rw [←s2,←S3,←l2,←O3.len,aN]) (hb2.trans (F3.below (Nat.le_refl _) hb2.size))
  have l3:M3.length=H':=by rw [O3.len];exact l2
  rw [l3] at HR
  clear HP O3 L3 B3 F3 S3 hb2 s2 hfit
  go_wp2_with fail
  refine HR.mono ?_
  rintro e w4 ⟨rfl,rfl,hd⟩
  have HD:=aa hd
  go_wp2
  go_returns
  exact HD.out

theorem ij (va vb:Value)(X Y:List Nat)(w:World)(hA:Arg w va X)(hB:Arg w vb Y)(hx:X.length≤17592186044416)(hle:val Y≤val X) :
  Calls Tryz.prog 70 #[va,vb] w (aW w (val X - val Y)):=by
 obtain⟨a1,c1,rfl,T1,A1⟩:=hA.wtrim
 obtain⟨a2,c2,rfl,T2,A2⟩:=hB.wtrim
 have f1:=A1.few
 have f2:=A2.few
 have g1:=tr_length_le X
 have hln:(tr Y).length≤(tr X).length:=au Y _ (by have:=val_lt A1.limbs;rw [val_tr] at this;omega)
 rw [←val_tr X,←val_tr Y] at hle ⊢
 have HT1:=T1 w (Below.refl _ _)
 have HT2:=T2 w (Below.refl _ _)
 clear T1 T2
 generalize tr X=P at *
 generalize tr Y=Q at *
 clear hA hB
 obtain⟨i0,hi,hz0,hz1,hz2⟩:=info_parts Tryz.infoU
 go_enter Tryz.func70,Tryz.ntmps70
 go_wp2_with fail
 refine HT1.mono ?_
 rintro e wn ⟨rfl,hw⟩;rw [hw];clear hw wn HT1
 go_wp2_with fail
 refine HT2.mono ?_
 rintro e wn ⟨rfl,hw⟩;rw [hw];clear hw wn HT2
 obtain⟨n,hn⟩:∃n,P.length=n:=⟨_,rfl⟩
 have hPn:P.length≤n:=by omega
 rw [hn] at A1 f1 g1 hln ⊢
 go_wp2_with (at_make;refine wpList_make_full _ rfl _ _ 25 rfl w.heap.size 65 i0 (.int .u64 0) 1 Tryz.underlying25 hi hz0 hz1 .i64 .i64 _ _ n rfl rfl (by omega) (by omega) (by rw [hz2];omega) (by unfold maxLen;omega) (Nat.le_refl _) ?_;intro w1 hown hgrow;obtain⟨w2,M2,hcp,B2,L2,F2,O2,S2⟩:=aH w.heap.size 0 n n (List.replicate n 0) a1 c1 P w1 (Blk.made hown) (limbs_replicate _) A1.limbs (aL n 0 n) (by simp) (by omega) (A1.below ((Below.refl w.heap.size w).grown hgrow (Nat.le_refl _) (fun k hk=>by cases hk))).wlies;rw [hn] at hcp)
 have hb1:Below w.heap.size w w1:=(Below.refl w.heap.size w).grown hgrow (Nat.le_refl _) (fun k hk=>by cases hk)
 have hb2:Below w.heap.size w w2:=hb1.trans (F2.below (Nat.le_refl _) hb1.size)
 have l2:M2.length=n:=by rw [O2.len,List.length_replicate]
 have s2:sv M2 0 n=val P:=S2
 have hao:0<Q.length→∀b off,a2=some ⟨b,off,none⟩→b≠w.heap.size∨off+Q.length≤0∨0+n≤off:=fun h b off e=>by
  subst e
  have:=A2.block h
  exact .inl (by omega)
 have L1:=(A2.below hb2).wlies
 have M1:=A2.limbs
 have HB2:=aa hb2
 have HS2:=aa s2
 have HB0:=aa B2
 have HL0:=aa L2
 have HLE:=aa hle
 clear A1 A2 S2 O2 F2 hown hgrow hb1 hb2 s2 hle hcp hi hz0 hz1 hz2
 go_loopw [6,22] (fun c i wr=>∃(k cy:Nat) (Z':List Nat),k≤Q.length∧i=.int .i64 k∧c=.int .u64 cy∧cy≤1∧Out M2 Z' 0 (0+k)∧Limbs Z'∧Blk wr w.heap.size Z'∧Fr w.heap.size w2 wr ∧
   sv Z' 0 k+val (Q.take k)=sv M2 0 k+cy*18446744073709551616 ^ k) (fun _ i _=>Q.length - (intOf i).toNat)
 case atStart=>exact⟨0,0,M2,Nat.zero_le _,rfl,rfl,by omega,Out.refl _ _ _,HL0.out,HB0.out,Fr.refl _ _,by simp [aw,val]⟩
 case round=>
  obtain⟨k,cy,Z',hk,rfl,rfl,hcy,hout,hlz,hblk,hfr0,hval⟩:=hrel
  have HV:=aa hval
  have HB:=aa hblk
  have HF:=aa hfr0
  have HO:=aa hout
  have hl:=hout.len
  clear hval
  by_cases hkl:k<Q.length
  ·rcases L1.fr (hao (by omega)) hfr0 B2 hblk (hout.wider (Nat.le_refl _) (by omega)) with h0|⟨b,off,rfl,hcell⟩
   ·rw [h0] at hkl;simp at hkl
   ·have hck:=hcell k hkl
    have hfr:=hblk.free k
    have hco:=hblk.cell k (by omega)
    have z1:=limb_lt M1 k
    have z2:=limb_lt hlz k
    have hsame:=hout.same k (by omega)
    have ha:=cL (Z'.getD k 0) (Q.getD k 0) cy hcy
    obtain⟨q1,q2,q3⟩:=cz (Z'.getD k 0) (Q.getD k 0) cy z2 z1 hcy
    have HS:=bT M2 Z' 0 k cy _ _ (Q.getD k 0) _ (by omega) hl HV.out (by rw [Nat.zero_add k,←hsame];exact q1)
    rw [←val_take_next Q k,Nat.zero_add k] at HS
    replace HS:=aa HS
    generalize Z'.getD k 0=z at *
    generalize Q.getD k 0=x at *
    clear hsame q1
    generalize (z+18446744073709551616 - x - cy) % 18446744073709551616=s at *
    generalize bor z x cy=c2 at *
    have i1:(k:Int)<(n:Int):=by omega
    clear hcell hblk hfr0 hout HV M1 L1 B2 L2
    go_wp2
    go_roundw
    case rel=>exact⟨k+1,c2,Z'.set k s,by omega,by go_num,rfl,q2,(HO.out.wider (Nat.le_refl _) (by omega)).set _ _ (by omega) (by omega),limbs_set hlz _ _ q3,HB.out.set _ s,HF.out.setCell _ _,HS.out⟩
    case measure=>simp [intOf];omega
  ·have ek:k=Q.length:=by omega
   subst ek
   rw [List.take_length] at HV
   clear hblk hfr0 hout L1 B2 M1 L2 hl
   go_wp2
   go_loopw [6,9] (fun c i wr2=>∃(k cy:Nat) (Z2:List Nat),k≤n∧i=.int .i64 k∧c=.int .u64 cy∧cy≤1∧Out M2 Z2 0 (0+k)∧Limbs Z2∧Blk wr2 w.heap.size Z2∧Fr w.heap.size w2 wr2 ∧
     sv Z2 0 k+val Q=sv M2 0 k+cy*18446744073709551616 ^ k) (fun _ i _=>n - (intOf i).toNat)
   case atStart=>exact⟨Q.length,cy,Z',hln,rfl,rfl,hcy,HO.out,hlz,HB.out,HF.out,HV.out⟩
   case round=>
    obtain⟨k,cy2,Z2,hk2,rfl,rfl,hcy2,hout2,hlz2,hblk2,hfr2,hval2⟩:=hrel
    clear HV HB HF HO
    have HV:=aa hval2
    have HB:=aa hblk2
    have HF:=aa hfr2
    have HO:=aa hout2
    have hl:=hout2.len
    clear hval2
    by_cases hc0:cy2=0
    ·subst hc0
     have hr:=d8 M2 Z2 0 k n _ hk2 (by omega) hout2 (by have h:=HV.out;rw [Nat.zero_mul,Nat.add_zero] at h;exact h)
     have hlZ:Z2.length=n:=by rw [hl];exact l2
     have HR:=aW.trimmed (w:=w) (x:=val P - val Q) (Nat.le_refl _) hblk2 hlz2 (by omega) (by rw [←HS2.out,←hr,←hlZ,aN]) (HB2.out.trans (hfr2.below (Nat.le_refl _) HB2.out.size))
     rw [hlZ] at HR
     clear hblk2 hfr2 hout2 HV hr
     go_wp2_with fail
     refine HR.mono ?_
     rintro e w4 ⟨rfl,rfl,hd⟩
     have HD:=aa hd
     go_wp2
     go_returns
     exact HD.out
    ·have hpos:(0:Int)<(cy2:Int):=by omega
     have hkn:k<n:=by
      rcases Nat.lt_or_ge k n with h|h
      ·exact h
      ·have ek:k=n:=by omega
       subst ek
       exact absurd (eT M2 Z2 0 k cy2 (val Q) hlz2 (by rw [HS2.out];exact HLE.out) HV.out) hc0
     have hfr:=hblk2.free k
     have hco:=hblk2.cell k (by omega)
     have z2:=limb_lt hlz2 k
     have hsame:=hout2.same k (by omega)
     have ha:=eC (Z2.getD k 0) cy2 hcy2
     obtain⟨q1,q2,q3⟩:=cz (Z2.getD k 0) 0 cy2 z2 (by omega) hcy2
     have HS:=bT M2 Z2 0 k cy2 _ _ 0 _ (by omega) hl HV.out (by rw [Nat.zero_add k,←hsame];exact q1)
     rw [Nat.mul_zero,Nat.add_zero,Nat.zero_add k] at HS
     replace HS:=aa HS
     generalize Z2.getD k 0=z at *
     clear hsame q1
     generalize (z+18446744073709551616 - 0 - cy2) % 18446744073709551616=s at *
     generalize bor z 0 cy2=c2 at *
     have i1:(k:Int)<(n:Int):=by omega
     clear hblk2 hfr2 hout2 HV hc0
     go_wp2
     go_roundw
     case rel=>exact⟨k+1,c2,Z2.set k s,by omega,by go_num,rfl,q2,(HO.out.wider (Nat.le_refl _) (by omega)).set _ _ (by omega) (by omega),limbs_set hlz2 _ _ q3,HB.out.set _ s,HF.out.setCell _ _,HS.out⟩
     case measure=>simp [intOf];omega

theorem lF:∀(N:Nat) (X Y:List Nat) (va vb:Value) (w:World),X.length+Y.length<N→X.length+Y.length≤35184372088830→Arg w va X→Arg w vb Y→Tab w →
  Calls Tryz.prog 98 #[va,vb] w (aW w (val X*val Y)):=by
 intro N
 induction N with
 | zero=>intro X Y va vb w h;omega
 | succ N ih=>
  intro X Y va vb w hN hfew hA hA2 hT
  obtain⟨a1,c1,rfl,hc1,hm1,hl1⟩:=hA.form
  obtain⟨a2,c2,rfl,hc2,hm2,hl2⟩:=hA2.form
  have T1:=cN a1 c1 X w hc1 hm1 hl1
  have T2:=cN a2 c2 Y w hc2 hm2 hl2
  have A1:=hA.trim
  have A2:=hA2.trim
  have m1:=limbs_tr hA.limbs
  have m2:=limbs_tr hA2.limbs
  have l1:=tr_length_le X
  have l2:=tr_length_le Y
  rw [←val_tr X,←val_tr Y]
  clear hA hA2 hl1 hl2
  generalize tr X=P at *
  generalize tr Y=R at *
  by_cases hsw:P.length<R.length
  ·have hsw2:(P.length:Int)<(R.length:Int):=by omega
   rw [Nat.mul_comm]
   have AL:=A2
   have AS:=A1
   have mL:=m2
   have mS:=m1
   have hfit:=bd R P mL mS
   by_cases hsm:R.length+P.length≤1048576
   ·have HM:=bW _ _ R P w AL AS hT (by omega)
    have hbl:blen (val R*val P)≤67108864:=by
     have:blen (val R*val P)≤64*(R.length+P.length):=(blen_le_iff _ _).2 (by rw [Nat.pow_mul];exact hfit)
     omega
    have hsm2:(R.length:Int)+(P.length:Int)≤1048576:=by omega
    clear AL AS hT hfit
    go_enter Tryz.func98,Tryz.ntmps98
    go_wp2_with fail
    refine T1.mono ?_
    rintro e wn ⟨rfl,hw⟩;rw [hw];clear hw wn
    go_wp2_with fail
    refine T2.mono ?_
    rintro e wn ⟨rfl,hw⟩;rw [hw];clear hw wn
    clear T1 T2
    go_wp2_with fail
    refine HM.mono ?_
    rintro e w2 ⟨hb,v,c,rs,rfl,hans,hres⟩
    have HX:Hid (aW w (val R*val P) (.returned v) w2):=by
     rcases hres with ⟨_,hv,ht,_⟩|⟨_,_,hbig⟩
     ·exact⟨⟨v,rs,rfl,hans,hv,ht⟩,hb⟩
     ·omega
    clear hb hans hres HM
    go_wp2
    go_ret
    exact HX.out
   ·obtain⟨half,eh,hh1,hh2⟩:∃half:Nat,(R.length:Int) / 2=(half:Int)∧2*half≤R.length∧R.length≤2*half+1:=⟨R.length / 2,by omega,by omega,by omega⟩
    have hord:P.length≤R.length:=by omega
    obtain⟨K0,eK,hK01,hK02⟩:∃K:Nat,(R.length:Int)+(P.length:Int)=(K:Int)∧K≤R.length+P.length∧R.length+P.length≤K:=⟨_,rfl,Nat.le_refl _,Nat.le_refl _⟩
    have hsm2:¬((K0:Int)≤1048576):=by omega
    obtain⟨K,eK1,hK1,hK2⟩:∃K:Nat,(K0:Int)+1=(K:Int)∧K≤R.length+P.length+1∧R.length+P.length+1≤K:=⟨K0+1,by omega,by omega,by omega⟩
    have hKb:K≤35184372088831:=by omega
    have HFIT:=aa hfit
    have HT:=aa hT
    have HAL:=aa AL
    have HAS:=aa AS
    have HMS:=aa (And.intro mL mS)
    obtain⟨bL,oL,rfl⟩:∃b off,a2=some ⟨b,off,none⟩:=by
     obtain⟨_,_,e,_,_,hl⟩:=AL.form
     cases e
     rcases hl with h0|⟨b,off,e,_⟩
     ·have hz:R.length=0:=by rw [h0];rfl
      omega
     ·exact⟨b,off,e⟩
    obtain⟨i0,hi,hz0,hz1,hz2⟩:=info_parts Tryz.infoU
    clear AL AS hT hfit A1 A2 mL mS m1 m2
    go_enter Tryz.func98,Tryz.ntmps98
    go_wp2_with fail
    refine T1.mono ?_
    rintro e wn ⟨rfl,hw⟩;rw [hw];clear hw wn
    go_wp2_with fail
    refine T2.mono ?_
    rintro e wn ⟨rfl,hw⟩;rw [hw];clear hw wn
    clear T1 T2
    go_wp2_with (at_make;refine wpList_make_full _ rfl _ _ 25 rfl w.heap.size 65 i0 (.int .u64 0) 1 Tryz.underlying25 hi hz0 hz1 .i64 .i64 _ _ K rfl rfl (by omega) (by omega) (by rw [hz2];omega) (by unfold maxLen;omega) (Nat.le_refl _) ?_;intro w1 hown hgrow)
    have hb1:=Blk.made hown
    have hbel:Below w.heap.size w w1:=(Below.refl _ _).grown hgrow (Nat.le_refl _) (fun k hk=>by cases hk)
    have HB1:=aa hb1
    have HBE:=aa hbel
    clear hown hgrow hi hz0 hz1 hz2 hb1 hbel
    have lt1:(R.take half).length=half:=by simp;omega
    have ld1:(R.drop half).length=R.length - half:=by simp
    have IH1:=ih (R.take half) P _ _ w1 (by omega) (by omega) ((HAL.out.below HBE.out).front half (by omega)) (HAS.out.below HBE.out) (HT.out.below HBE.out)
    go_wp2_with fail
    refine IH1.mono ?_
    rintro e w2 ⟨⟨v1,rs1,rfl,An1,e1,t1⟩,hb2⟩
    have mT:=(HAL.out.front half (by omega)).limbs
    have mD:=(HAL.out.drop half (by omega)).limbs
    have f1:=bd (R.take half) P mT HMS.out.2
    have f2:=bd (R.drop half) P mD HMS.out.2
    have r1:=au rs1 (half+P.length) (by rw [e1];rw [lt1] at f1;exact f1)
    rw [t1] at r1
    have A1':=An1.arg (by omega)
    obtain⟨ao,co,rfl,_,_,hlo⟩:=A1'.form
    have B2:=HB1.out.below hb2 HB1.out.lt
    obtain⟨w3,M1,hcp,B3,L3,F3,O3,S3⟩:=aH w.heap.size 0 K K (List.replicate K 0) ao co rs1 w2 B2 (limbs_replicate _) An1.limbs (aL K 0 K) (by simp) (by omega) hlo
    have HB3:Hid (Below w.heap.size w w3):=(HBE.out.trans (hb2.mono HBE.out.size)).trans (F3.below (Nat.le_refl _) (by have:=HBE.out.size;have:=hb2.size;omega))
    have IH2:=ih (R.drop half) P _ _ w3.drew (by omega) (by omega) ((HAL.out.below HB3.out).drop half (by omega)).drew (HAS.out.below HB3.out).drew (HT.out.below HB3.out.drew)
    have hch:¬K=half:=by omega
    have hcl:¬c2=half:=by omega
    have lM:M1.length=K:=by rw [O3.len];simp
    have HM1:=aa (And.intro L3 (And.intro S3 lM))
    have HE1:=aa e1
    have HBK:=aa B3
    have k1:(0:Int)≤(half:Int):=by omega
    have k2:(half:Int)≤(K:Int):=by omega
    have k3:(half:Int)≤(R.length:Int):=by omega
    have k4:(half:Int)≤(c2:Int):=by omega
    clear IH1 An1 hb2 A1' hlo B2 B3 L3 F3 O3 S3 lM e1 t1 mT mD f1 hN hfew
    go_wp2
    have HF2:Hid (sv M1 half (K - half)+val (R.drop half)*val P<18446744073709551616 ^ (K - half)):=by
     refine aa ?_
     obtain⟨d,hd⟩:∃d,K=half+(d+1):=⟨K - half - 1,by omega⟩
     have s0:=ac M1 0 half (d+1) (by rw [HM1.out.2.2];omega)
     have s3:=HM1.out.2.1
     have s4:=aZ R half (by omega)
     have s6:K - half=d+1:=by omega
     have s7:=HFIT.out
     have s8:R.length+P.length=half+d:=by omega
     rw [hd] at s3
     rw [s8,Nat.pow_add] at s7
     rw [Nat.zero_add] at s0
     rw [HE1.out] at s3
     rw [s4,Nat.add_mul,Nat.mul_assoc] at s7
     rw [s0] at s3
     rw [s6,Nat.pow_succ]
     generalize val (R.take half)*val P=a at *
     generalize val (R.drop half)*val P=b at *
     generalize sv M1 0 half=x at *
     generalize sv M1 half (d+1)=y at *
     have hWp:=W_pos half
     generalize (18446744073709551616:Nat) ^ half=W at *
     generalize (18446744073709551616:Nat) ^ d=V at *
     have t1:W*(y+b)<W*V:=by rw [Nat.mul_add];omega
     have t2:=Nat.lt_of_mul_lt_mul_left t1
     omega
    have HPP:=aa (fun (w4:World) (v2:Value) (rs2:List Nat) (An2:Ans w4 w3.drew.heap.size v2 rs2) (t2:tr rs2=rs2) (e2:val rs2=val (R.drop half)*val P) (hb4:Below w3.drew.heap.size w3.drew w4)=>
     show Calls Tryz.prog 106 #[.slice (some ⟨w.heap.size,half,none⟩) (K - half) (K - half),v2] w4 (af w.heap.size half (K - half) M1 w4 (sv M1 half (K - half)+val rs2)) by
      have r2:=au rs2 (R.length - half+P.length) (by rw [e2];rw [ld1] at f2;exact f2)
      rw [t2] at r2
      have hlt4:w.heap.size<w3.drew.heap.size:=HBK.out.lt
      exact du w.heap.size half (K - half) (K - half) M1 v2 rs2 w4 (HBK.out.below (bP hb4) HBK.out.lt) HM1.out.1 (An2.arg (by omega)) (fun _ b off n c e=>by subst e;exact .inl (fun h=>by have:=(An2.own.lt b rfl).1;omega)) (by rw [HM1.out.2.2];omega) (Nat.le_refl _) (by omega) (by omega) (by rw [e2];exact HF2.out))
    go_region_held3 (fun _=>True) (trivial) (first
     | (go_at_call 98;refine IH2.mono ?_;rintro e w4 ⟨⟨v2,rs2,rfl,An2,e2,t2⟩,hb4⟩)
     | (go_at_call 106;refine (HPP.out _ _ _ An2 t2 e2 hb4).mono ?_;rintro e w5 ⟨rfl,M2,O5,L5,B5,F5,S5⟩))
    have l5:M2.length=K:=by rw [O5.len,HM1.out.2.2]
    have HTR:=cN (some ⟨w.heap.size,0,none⟩) K M2 w5 (by omega) (by omega) (.inr ⟨_,0,rfl,fun j hj=>by rw [Nat.zero_add];exact B5.cell j hj⟩)
    rw [l5] at HTR
    have HVAL:Hid (val M2=val R*val P):=by
     refine aa ?_
     obtain⟨d,hd⟩:∃d,K=half+d:=⟨K - half,by omega⟩
     have s0:=ac M1 0 half d (by rw [HM1.out.2.2];omega)
     have s1:=ac M2 0 half d (by omega)
     have s2:=O5.sv 0 half (by omega)
     have s3:=HM1.out.2.1
     have s4:=aZ R half (by omega)
     have s5:sv M2 0 (half+d)=val M2:=by rw [←hd,←l5,aN]
     have s6:K - half=d:=by omega
     rw [s6] at S5
     rw [hd] at s3
     rw [Nat.zero_add] at s0 s1
     rw [HE1.out] at s3
     rw [e2] at S5
     rw [s4,Nat.add_mul,Nat.mul_assoc]
     rw [←s5,s1,s2,S5,Nat.mul_add]
     rw [s0] at s3
     omega
    have HEND:Hid (aW w (val R*val P) (.returned (.slice (some ⟨w.heap.size,0,none⟩) (tr M2).length K)) w5):=by
     have hb5:Below w.heap.size w w4:=HB3.out.trans ((bP hb4).mono HB3.out.size)
     have AM:=(Ans.of_blk (base:=w.heap.size) (zs:=M2) (Nat.le_refl _) B5 List.take_length.symm (Nat.le_refl _) (by omega) L5).trim
     rw [l5] at AM
     exact⟨⟨_,tr M2,rfl,AM,by rw [val_tr];exact HVAL.out,tr_tr _⟩,hb5.trans (F5.below (Nat.le_refl _) hb5.size)⟩
    clear An2 t2 e2 hb4 O5 L5 B5 F5 S5 HVAL HPP IH2 hcp
    go_wp2_with fail
    refine HTR.mono ?_
    rintro e w6 ⟨rfl,hw⟩;subst hw
    clear HTR
    go_wp2
    go_ret
    exact HEND.out
  ·have hsw2:¬((P.length:Int)<(R.length:Int)):=by omega
   have AL:=A1
   have AS:=A2
   have mL:=m1
   have mS:=m2
   have hfit:=bd P R mL mS
   by_cases hsm:P.length+R.length≤1048576
   ·have HM:=bW _ _ P R w AL AS hT (by omega)
    have hbl:blen (val P*val R)≤67108864:=by
     have:blen (val P*val R)≤64*(P.length+R.length):=(blen_le_iff _ _).2 (by rw [Nat.pow_mul];exact hfit)
     omega
    have hsm2:(P.length:Int)+(R.length:Int)≤1048576:=by omega
    clear AL AS hT hfit
    go_enter Tryz.func98,Tryz.ntmps98
    go_wp2_with fail
    refine T1.mono ?_
    rintro e wn ⟨rfl,hw⟩;rw [hw];clear hw wn
    go_wp2_with fail
    refine T2.mono ?_
    rintro e wn ⟨rfl,hw⟩;rw [hw];clear hw wn
    clear T1 T2
    go_wp2_with fail
    refine HM.mono ?_
    rintro e w2 ⟨hb,v,c,rs,rfl,hans,hres⟩
    have HX:Hid (aW w (val P*val R) (.returned v) w2):=by
     rcases hres with ⟨_,hv,ht,_⟩|⟨_,_,hbig⟩
     ·exact⟨⟨v,rs,rfl,hans,hv,ht⟩,hb⟩
     ·omega
    clear hb hans hres HM
    go_wp2
    go_ret
    exact HX.out
   ·obtain⟨half,eh,hh1,hh2⟩:∃half:Nat,(P.length:Int) / 2=(half:Int)∧2*half≤P.length∧P.length≤2*half+1:=⟨P.length / 2,by omega,by omega,by omega⟩
    have hord:R.length≤P.length:=by omega
    obtain⟨K0,eK,hK01,hK02⟩:∃K:Nat,(P.length:Int)+(R.length:Int)=(K:Int)∧K≤P.length+R.length∧P.length+R.length≤K:=⟨_,rfl,Nat.le_refl _,Nat.le_refl _⟩
    have hsm2:¬((K0:Int)≤1048576):=by omega
    obtain⟨K,eK1,hK1,hK2⟩:∃K:Nat,(K0:Int)+1=(K:Int)∧K≤P.length+R.length+1∧P.length+R.length+1≤K:=⟨K0+1,by omega,by omega,by omega⟩
    have hKb:K≤35184372088831:=by omega
    have HFIT:=aa hfit
    have HT:=aa hT
    have HAL:=aa AL
    have HAS:=aa AS
    have HMS:=aa (And.intro mL mS)
    obtain⟨bL,oL,rfl⟩:∃b off,a1=some ⟨b,off,none⟩:=by
     obtain⟨_,_,e,_,_,hl⟩:=AL.form
     cases e
     rcases hl with h0|⟨b,off,e,_⟩
     ·have hz:P.length=0:=by rw [h0];rfl
      omega
     ·exact⟨b,off,e⟩
    obtain⟨i0,hi,hz0,hz1,hz2⟩:=info_parts Tryz.infoU
    clear AL AS hT hfit A1 A2 mL mS m1 m2
    go_enter Tryz.func98,Tryz.ntmps98
    go_wp2_with fail
    refine T1.mono ?_
    rintro e wn ⟨rfl,hw⟩;rw [hw];clear hw wn
    go_wp2_with fail
    refine T2.mono ?_
    rintro e wn ⟨rfl,hw⟩;rw [hw];clear hw wn
    clear T1 T2
    go_wp2_with (at_make;refine wpList_make_full _ rfl _ _ 25 rfl w.heap.size 65 i0 (.int .u64 0) 1 Tryz.underlying25 hi hz0 hz1 .i64 .i64 _ _ K rfl rfl (by omega) (by omega) (by rw [hz2];omega) (by unfold maxLen;omega) (Nat.le_refl _) ?_;intro w1 hown hgrow)
    have hb1:=Blk.made hown
    have hbel:Below w.heap.size w w1:=(Below.refl _ _).grown hgrow (Nat.le_refl _) (fun k hk=>by cases hk)
    have HB1:=aa hb1
    have HBE:=aa hbel
    clear hown hgrow hi hz0 hz1 hz2 hb1 hbel
    have lt1:(P.take half).length=half:=by simp;omega
    have ld1:(P.drop half).length=P.length - half:=by simp
    have IH1:=ih (P.take half) R _ _ w1 (by omega) (by omega) ((HAL.out.below HBE.out).front half (by omega)) (HAS.out.below HBE.out) (HT.out.below HBE.out)
    go_wp2_with fail
    refine IH1.mono ?_
    rintro e w2 ⟨⟨v1,rs1,rfl,An1,e1,t1⟩,hb2⟩
    have mT:=(HAL.out.front half (by omega)).limbs
    have mD:=(HAL.out.drop half (by omega)).limbs
    have f1:=bd (P.take half) R mT HMS.out.2
    have f2:=bd (P.drop half) R mD HMS.out.2
    have r1:=au rs1 (half+R.length) (by rw [e1];rw [lt1] at f1;exact f1)
    rw [t1] at r1
    have A1':=An1.arg (by omega)
    obtain⟨ao,co,rfl,_,_,hlo⟩:=A1'.form
    have B2:=HB1.out.below hb2 HB1.out.lt
    obtain⟨w3,M1,hcp,B3,L3,F3,O3,S3⟩:=aH w.heap.size 0 K K (List.replicate K 0) ao co rs1 w2 B2 (limbs_replicate _) An1.limbs (aL K 0 K) (by simp) (by omega) hlo
    have HB3:Hid (Below w.heap.size w w3):=(HBE.out.trans (hb2.mono HBE.out.size)).trans (F3.below (Nat.le_refl _) (by have:=HBE.out.size;have:=hb2.size;omega))
    have IH2:=ih (P.drop half) R _ _ w3.drew (by omega) (by omega) ((HAL.out.below HB3.out).drop half (by omega)).drew (HAS.out.below HB3.out).drew (HT.out.below HB3.out.drew)
    have hch:¬K=half:=by omega
    have hcl:¬c1=half:=by omega
    have lM:M1.length=K:=by rw [O3.len];simp
    have HM1:=aa (And.intro L3 (And.intro S3 lM))
    have HE1:=aa e1
    have HBK:=aa B3
    have k1:(0:Int)≤(half:Int):=by omega
    have k2:(half:Int)≤(K:Int):=by omega
    have k3:(half:Int)≤(P.length:Int):=by omega
    have k4:(half:Int)≤(c1:Int):=by omega
    clear IH1 An1 hb2 A1' hlo B2 B3 L3 F3 O3 S3 lM e1 t1 mT mD f1 hN hfew
    go_wp2
    have HF2:Hid (sv M1 half (K - half)+val (P.drop half)*val R<18446744073709551616 ^ (K - half)):=by
     refine aa ?_
     obtain⟨d,hd⟩:∃d,K=half+(d+1):=⟨K - half - 1,by omega⟩
     have s0:=ac M1 0 half (d+1) (by rw [HM1.out.2.2];omega)
     have s3:=HM1.out.2.1
     have s4:=aZ P half (by omega)
     have s6:K - half=d+1:=by omega
     have s7:=HFIT.out
     have s8:P.length+R.length=half+d:=by omega
     rw [hd] at s3
     rw [s8,Nat.pow_add] at s7
     rw [Nat.zero_add] at s0
     rw [HE1.out] at s3
     rw [s4,Nat.add_mul,Nat.mul_assoc] at s7
     rw [s0] at s3
     rw [s6,Nat.pow_succ]
     generalize val (P.take half)*val R=a at *
     generalize val (P.drop half)*val R=b at *
     generalize sv M1 0 half=x at *
     generalize sv M1 half (d+1)=y at *
     have hWp:=W_pos half
     generalize (18446744073709551616:Nat) ^ half=W at *
     generalize (18446744073709551616:Nat) ^ d=V at *
     have t1:W*(y+b)<W*V:=by rw [Nat.mul_add];omega
     have t2:=Nat.lt_of_mul_lt_mul_left t1
     omega
    have HPP:=aa (fun (w4:World) (v2:Value) (rs2:List Nat) (An2:Ans w4 w3.drew.heap.size v2 rs2) (t2:tr rs2=rs2) (e2:val rs2=val (P.drop half)*val R) (hb4:Below w3.drew.heap.size w3.drew w4)=>
     show Calls Tryz.prog 106 #[.slice (some ⟨w.heap.size,half,none⟩) (K - half) (K - half),v2] w4 (af w.heap.size half (K - half) M1 w4 (sv M1 half (K - half)+val rs2)) by
      have r2:=au rs2 (P.length - half+R.length) (by rw [e2];rw [ld1] at f2;exact f2)
      rw [t2] at r2
      have hlt4:w.heap.size<w3.drew.heap.size:=HBK.out.lt
      exact du w.heap.size half (K - half) (K - half) M1 v2 rs2 w4 (HBK.out.below (bP hb4) HBK.out.lt) HM1.out.1 (An2.arg (by omega)) (fun _ b off n c e=>by subst e;exact .inl (fun h=>by have:=(An2.own.lt b rfl).1;omega)) (by rw [HM1.out.2.2];omega) (Nat.le_refl _) (by omega) (by omega) (by rw [e2];exact HF2.out))
    go_region_held3 (fun _=>True) (trivial) (first
     | (go_at_call 98;refine IH2.mono ?_;rintro e w4 ⟨⟨v2,rs2,rfl,An2,e2,t2⟩,hb4⟩)
     | (go_at_call 106;refine (HPP.out _ _ _ An2 t2 e2 hb4).mono ?_;rintro e w5 ⟨rfl,M2,O5,L5,B5,F5,S5⟩))
    have l5:M2.length=K:=by rw [O5.len,HM1.out.2.2]
    have HTR:=cN (some ⟨w.heap.size,0,none⟩) K M2 w5 (by omega) (by omega) (.inr ⟨_,0,rfl,fun j hj=>by rw [Nat.zero_add];exact B5.cell j hj⟩)
    rw [l5] at HTR
    have HVAL:Hid (val M2=val P*val R):=by
     refine aa ?_
     obtain⟨d,hd⟩:∃d,K=half+d:=⟨K - half,by omega⟩
     have s0:=ac M1 0 half d (by rw [HM1.out.2.2];omega)
     have s1:=ac M2 0 half d (by omega)
     have s2:=O5.sv 0 half (by omega)
     have s3:=HM1.out.2.1
     have s4:=aZ P half (by omega)
     have s5:sv M2 0 (half+d)=val M2:=by rw [←hd,←l5,aN]
     have s6:K - half=d:=by omega
     rw [s6] at S5
     rw [hd] at s3
     rw [Nat.zero_add] at s0 s1
     rw [HE1.out] at s3
     rw [e2] at S5
     rw [s4,Nat.add_mul,Nat.mul_assoc]
     rw [←s5,s1,s2,S5,Nat.mul_add]
     rw [s0] at s3
     omega
    have HEND:Hid (aW w (val P*val R) (.returned (.slice (some ⟨w.heap.size,0,none⟩) (tr M2).length K)) w5):=by
     have hb5:Below w.heap.size w w4:=HB3.out.trans ((bP hb4).mono HB3.out.size)
     have AM:=(Ans.of_blk (base:=w.heap.size) (zs:=M2) (Nat.le_refl _) B5 List.take_length.symm (Nat.le_refl _) (by omega) L5).trim
     rw [l5] at AM
     exact⟨⟨_,tr M2,rfl,AM,by rw [val_tr];exact HVAL.out,tr_tr _⟩,hb5.trans (F5.below (Nat.le_refl _) hb5.size)⟩
    clear An2 t2 e2 hb4 O5 L5 B5 F5 S5 HVAL HPP IH2 hcp
    go_wp2_with fail
    refine HTR.mono ?_
    rintro e w6 ⟨rfl,hw⟩;subst hw
    clear HTR
    go_wp2
    go_ret
    exact HEND.out

theorem kV {M:List Nat}{s u V:Nat}(hM:s+u≤M.length)(h:sv M 0 (s+u)=V)(hV:V<18446744073709551616 ^ s):sv M s u=0∧sv M 0 s=V:=by
 rw [ac M 0 s u (by omega),Nat.zero_add] at h
 have h0:sv M s u=0:=by
  rcases Nat.eq_zero_or_pos (sv M s u) with h1|h1
  ·exact h1
  ·have:=Nat.mul_le_mul_left (18446744073709551616 ^ s) h1
   omega
 rw [h0,Nat.mul_zero,Nat.add_zero] at h
 exact⟨h0,h⟩

theorem lf {M M' U:List Nat}{s o V:Nat}(hl:M'.length=s+U.length)(h0:sv M 0 s=V)(hO:Out M M' o (o+U.length))(hv:sv M' o U.length=val U)(ho:o=s∨(U.length=0∧o=0)):val M'=V+18446744073709551616 ^ s*val U:=by
 rw [←aN M',hl,ac M' 0 s U.length (by omega),Nat.zero_add]
 rcases ho with rfl|⟨hu,rfl⟩
 ·rw [hv,hO.sv 0 o (by omega),h0]
 ·have hU:U=[]:=List.eq_nil_of_length_eq_zero hu
  rw [hU] at hO ⊢
  rw [hO.sv 0 s (by simp),h0]
  simp [sv,seg,val]

theorem iR (va vb:Value)(X Y:List Nat)(n:Nat)(w:World)(hA:Arg w va X)(hB:Arg w vb Y)(hx:X.length≤17592186044416)(hn:n≤17592186044416)(hy:Y.length≤n) :
  Calls Tryz.prog 95 #[va,.int .i64 n,vb] w (aW w (val Y+18446744073709551616 ^ n*val X)):=by
 obtain⟨a5,c5,rfl,_,_,_⟩:=hA.form
 obtain⟨a6,c6,rfl,_,_,_⟩:=hB.form
 obtain⟨i0,hi,hz0,hz1,hz2⟩:=info_parts Tryz.infoU
 obtain⟨N,hN,hNi⟩:∃N,N=n+X.length∧(n:Int)+(X.length:Int)=(N:Int):=⟨_,rfl,by omega⟩
 have hNs:N - n=X.length:=by omega
 obtain⟨o5,hif5,ho5⟩:∃o5,(∀g:Nat,(if N=n then some (⟨g,0,none⟩:Addr) else some ⟨g,n,none⟩)=some ⟨g,o5,none⟩)∧((o5=n∨(X.length=0∧o5=0))∧o5+X.length≤N):=by
  by_cases h:N=n
  ·exact⟨0,fun g=>by rw [if_pos h],.inr ⟨by omega,rfl⟩,by omega⟩
  ·exact⟨n,fun g=>by rw [if_neg h],.inl rfl,by omega⟩
 have HA:=aa hA
 have HBa:=aa hB
 have HNN:=aa hN
 have HO5:=aa ho5
 have hsN:n≤N:=by omega
 have hyN:Y.length≤N:=by omega
 have hNb:N≤35184372088832:=by omega
 have hyv:val Y<18446744073709551616 ^ n:=Nat.lt_of_lt_of_le (val_lt hB.limbs) (Nat.pow_le_pow_right (by omega) hy)
 have HYV:=aa hyv
 clear hA hB hN ho5 hyv
 go_enter Tryz.func95,Tryz.ntmps95
 go_wp2_with (at_make;refine wpList_make_full _ rfl _ _ 25 rfl w.heap.size 65 i0 (.int .u64 0) 1 Tryz.underlying25 hi hz0 hz1 .i64 .i64 _ _ N rfl rfl (by omega) (by omega) (by rw [hz2];omega) (by unfold maxLen;omega) (Nat.le_refl _) ?_;intro w3 hown hgrow;have hbel3:Below w.heap.size w w3:=(Below.refl w.heap.size w).grown hgrow (Nat.le_refl _) (fun k hk=>by cases hk);obtain⟨w4,M4,hcp,B4,L4,F4,O4,S4⟩:=aH w.heap.size 0 N N (List.replicate N 0) a6 c6 Y w3 (Blk.made hown) (limbs_replicate _) HBa.out.limbs (aL N 0 N) (by simp) (by omega) (HBa.out.below hbel3).wlies;have hbel4:Below w.heap.size w w4:=hbel3.trans (F4.below (Nat.le_refl _) hbel3.size);have hM4l:M4.length=N:=by rw [O4.len,List.length_replicate])
 obtain⟨z0,z1⟩:=kV (M:=M4) (s:=n) (u:=X.length) (by have:=HNN.out;omega) (by rw [←HNN.out];exact S4) HYV.out
 have hz5:sv M4 o5 X.length=0:=by
  rcases HO5.out.1 with h|⟨h,_⟩
  ·rw [h];exact z0
  ·rw [h];exact aw _ _
 obtain⟨w5,M5,hcp2,B5,L5,F5,O5,S5⟩:=aH w.heap.size o5 X.length X.length M4 a5 c5 X w4 B4 L4 HA.out.limbs hz5 (by rw [hM4l];exact HO5.out.2) (Nat.le_refl _) (HA.out.below hbel4).wlies
 have hbel5:Below w.heap.size w w5:=hbel4.trans (F5.below (Nat.le_refl _) hbel4.size)
 have hM5l:M5.length=n+X.length:=by rw [O5.len,hM4l];exact HNN.out
 have hval:=lf hM5l z1 O5 S5 HO5.out.1
 have HR:=aW.trimmed (w:=w) (x:=val Y+18446744073709551616 ^ n*val X) (Nat.le_refl _) B5 L5 (by omega) hval hbel5
 rw [hM5l,←HNN.out] at HR
 clear hown hgrow hbel3 hbel4 hbel5 B4 L4 F4 O4 S4 B5 L5 F5 O5 S5 hval hz5 z0 z1 hM5l hi hz0 hz1 hz2
 go_wp2
 rw [hcp2]
 go_wp2_with fail
 refine HR.mono ?_
 rintro e w6 ⟨rfl,rfl,hd⟩
 have HD:=aa hd
 go_wp2
 go_returns
 exact HD.out

theorem kU (va vb:Value)(X Y:List Nat)(w:World)(hA:Arg w va X)(hA2:Arg w vb Y)(hT:Tab w)(hf1:X.length≤17592186044416)(hf2:Y.length≤17592186044416)(hY:val Y≠0) :
  Calls Tryz.prog 97 #[va,vb] w fun e w'=>Below w.heap.size w w'∧Res w' w.heap.size e (val X / val Y):=by
 have HR:=ie va vb X Y w hA hA2
 have HDV:=fE vb Y w hA2 hT hY (by omega)
 have HA:=aa hA
 have HT:=aa hT
 obtain⟨a1,c1,rfl,_,_,_⟩:=hA.form
 obtain⟨a2,c2,rfl,_,_,_⟩:=hA2.form
 have hr:bD (val X) (val Y)=if 67108864+blen (val Y)<blen (val X) then 3 else 0:=by unfold bD;rw [if_neg hY]
 rw [hr] at HR
 have HY:=aa (show 0<val Y by omega)
 clear hA hA2 hT hr hY
 by_cases hb:67108864+blen (val Y)<blen (val X)
 ·rw [if_pos hb] at HR
  have HX:Hid (67108864<blen (val X / val Y)):=aa (gi HY.out hb)
  clear HDV hb
  go_enter Tryz.func97,Tryz.ntmps97
  go_wp2_with fail
  refine HR.mono ?_
  rintro e wn ⟨rfl,hw⟩;subst hw
  clear HR
  go_wp2
  go_returns
  exact⟨Below.refl _ _,_,_,[],rfl,Ans.nil _ _,.inr ⟨rfl,rfl,HX.out⟩⟩
 ·rw [if_neg hb] at HR
  clear hb
  go_enter Tryz.func97,Tryz.ntmps97
  go_wp2_with fail
  refine HR.mono ?_
  rintro e wn ⟨rfl,hw⟩;rw [hw];clear hw wn
  go_wp2_with fail
  refine HDV.mono ?_
  rintro e w1 ⟨⟨vd,rfl,hd⟩,hb1⟩
  have H1:=gW _ vd X _ _ _ w1 (HA.out.below hb1) hd (HT.out.below hb1) hf1
  have HB1:=aa hb1
  clear hd hb1 HDV HR
  go_wp2_with fail
  refine H1.mono ?_
  rintro e w2 ⟨⟨vq,vr,qs,rs,mid,rfl,A1,hmid,hq,A2,e1,e2,l1,l2,_⟩,hb2⟩
  have HQ:=fC vq w1.heap.size qs w2 A1 (by omega)
  have HB2:=aa (HB1.out.trans (hb2.mono HB1.out.size))
  rw [e1] at HQ
  clear A1 A2 hmid hq e1 e2 l1 l2 hb2 H1
  go_wp2_with fail
  refine HQ.mono ?_
  rintro e w3 ⟨hw,v1,c1,r1,rfl,An1,hres⟩;subst hw
  have H1:=aa (And.intro An1 hres)
  clear HQ An1 hres
  go_wp2
  go_returns
  exact⟨HB2.out,v1,_,r1,rfl,H1.out.1.base HB1.out.size,H1.out.2⟩
end Go.Proofs.YtkhckcfikljjhaaGreatDoor

