/- Lehmer's steps in plain numbers. -/
import Derived.Test.YtplegacjglaenaaGreatDoorB01
import Derived.Test.YtplegacjglaenaaGreatDoorB03
import Derived.Handy
namespace Go.Proofs.YtplegacjglaenaaGreatDoor
namespace Lm

theorem lehmer_gcd {X Y X' Y' a b c d:Nat}(h1:X=d*X'+b*Y')(h2:Y=c*X'+a*Y')(h3:∀g,g ∣ X→g ∣ Y→g ∣ X'∧g ∣ Y'):Nat.gcd X' Y'=Nat.gcd X Y:=by
 refine Nat.dvd_antisymm (Nat.dvd_gcd ?_ ?_) ?_
 ·rw [h1];exact Nat.dvd_add (Nat.dvd_trans (Nat.gcd_dvd_left _ _) (Nat.dvd_mul_left _ _)) (Nat.dvd_trans (Nat.gcd_dvd_right _ _) (Nat.dvd_mul_left _ _))
 ·rw [h2];exact Nat.dvd_add (Nat.dvd_trans (Nat.gcd_dvd_left _ _) (Nat.dvd_mul_left _ _)) (Nat.dvd_trans (Nat.gcd_dvd_right _ _) (Nat.dvd_mul_left _ _))
 ·obtain⟨k1,k2⟩:=h3 _ (Nat.gcd_dvd_left X Y) (Nat.gcd_dvd_right X Y)
  exact Nat.dvd_gcd k1 k2

theorem dvd_of_sum {g p q r:Nat}(h:p+q=r)(hq:g ∣ q)(hr:g ∣ r):g ∣ p:=by
 have:p=r - q:=by omega
 rw [this];exact Nat.dvd_sub hr hq

structure LTake (X Y X' Y':Nat):Prop where
 lt:Y'<X'
 le:X'≤Y
 gcd:Nat.gcd X' Y'=Nat.gcd X Y

theorem lehmer_even {X Y P xh yh xl yl x y a b c d:Nat}(det:a*d=b*c+1)(hx:xh=d*x+b*y)(hy:yh=c*x+a*y)(eX:X=xh*P+xl)(eY:Y=yh*P+yl)(lx:xl<P)(ly:yl<P)
  (h1:d≤y) (h2:y+(b+d)≤x) (hcd:c≤d) (hc:1≤c) :
  ∃X' Y',X'+b*Y=a*X∧Y'+c*X=d*Y∧LTake X Y X' Y':=by
 have e1:a*xh=b*yh+x:=by rw [hx,hy];grind
 have e2:d*yh=c*xh+y:=by rw [hx,hy];grind
 have b1:b*yl≤b*P:=Nat.mul_le_mul_left _ (Nat.le_of_lt ly)
 have b2:c*xl≤c*P:=Nat.mul_le_mul_left _ (Nat.le_of_lt lx)
 have b3:(b+d)*yl<(b+d)*P:=Nat.mul_lt_mul_of_pos_left ly (by omega)
 have b4:(y+(b+d))*P≤x*P:=Nat.mul_le_mul_right _ h2
 have b5:c*P≤y*P:=Nat.mul_le_mul_right _ (by omega)
 rw [Nat.add_mul,Nat.add_mul b d P] at b4
 rw [Nat.add_mul,Nat.add_mul b d P] at b3
 obtain⟨X',eX'⟩:∃X',X'+b*yl=x*P+a*xl:=⟨x*P+a*xl - b*yl,by omega⟩
 obtain⟨Y',eY'⟩:∃Y',Y'+c*xl=y*P+d*yl:=⟨y*P+d*yl - c*xl,by omega⟩
 have f1:X'+b*Y=a*X:=by
  rw [eX,eY,Nat.mul_add,Nat.mul_add,←Nat.mul_assoc,←Nat.mul_assoc,e1,Nat.add_mul];omega
 have f2:Y'+c*X=d*Y:=by
  rw [eX,eY,Nat.mul_add,Nat.mul_add,←Nat.mul_assoc,←Nat.mul_assoc,e2,Nat.add_mul];omega
 have g1:X=d*X'+b*Y':=by
  have k1:d*(X'+b*Y)=d*(a*X):=by rw [f1]
  have k2:b*(Y'+c*X)=b*(d*Y):=by rw [f2]
  have k3:a*d*X=(b*c+1)*X:=by rw [det]
  grind
 have g2:Y=c*X'+a*Y':=by
  have k1:c*(X'+b*Y)=c*(a*X):=by rw [f1]
  have k2:a*(Y'+c*X)=a*(d*Y):=by rw [f2]
  have k3:a*d*Y=(b*c+1)*Y:=by rw [det]
  grind
 refine⟨X',Y',f1,f2,?_,?_,lehmer_gcd g1 g2 fun g k1 k2=>⟨dvd_of_sum f1 (Nat.dvd_mul_left_of_dvd k2 _) (Nat.dvd_mul_left_of_dvd k1 _),dvd_of_sum f2 (Nat.dvd_mul_left_of_dvd k1 _) (Nat.dvd_mul_left_of_dvd k2 _)⟩⟩
 ·omega
 ·rw [g2]
  have:=Nat.le_mul_of_pos_left X' (show 0<c by omega)
  omega

theorem lehmer_odd {X Y P xh yh xl yl x y a b c d:Nat}(det:b*c=a*d+1)(hx:xh=d*x+b*y)(hy:yh=c*x+a*y)(eX:X=xh*P+xl)(eY:Y=yh*P+yl)(lx:xl<P)(ly:yl<P)
  (h1:d≤y) (h2:y+(b+d)≤x) (hab:a≤b) (hcd:c≤d) (hc:1≤c) :
  ∃X' Y',X'+a*X=b*Y∧Y'+d*Y=c*X∧LTake X Y X' Y':=by
 have e1:b*yh=a*xh+x:=by rw [hx,hy];grind
 have e2:c*xh=d*yh+y:=by rw [hx,hy];grind
 have b1:a*xl≤a*P:=Nat.mul_le_mul_left _ (Nat.le_of_lt lx)
 have b2:d*yl≤d*P:=Nat.mul_le_mul_left _ (Nat.le_of_lt ly)
 have b3:(a+c)*xl<(a+c)*P:=Nat.mul_lt_mul_of_pos_left lx (by omega)
 have b4:(y+(a+c))*P≤x*P:=Nat.mul_le_mul_right _ (by omega)
 have b5:d*P≤y*P:=Nat.mul_le_mul_right _ (by omega)
 rw [Nat.add_mul,Nat.add_mul a c P] at b4
 rw [Nat.add_mul,Nat.add_mul a c P] at b3
 obtain⟨X',eX'⟩:∃X',X'+a*xl=x*P+b*yl:=⟨x*P+b*yl - a*xl,by omega⟩
 obtain⟨Y',eY'⟩:∃Y',Y'+d*yl=y*P+c*xl:=⟨y*P+c*xl - d*yl,by omega⟩
 have f1:X'+a*X=b*Y:=by
  rw [eX,eY,Nat.mul_add,Nat.mul_add,←Nat.mul_assoc,←Nat.mul_assoc,e1,Nat.add_mul];omega
 have f2:Y'+d*Y=c*X:=by
  rw [eX,eY,Nat.mul_add,Nat.mul_add,←Nat.mul_assoc,←Nat.mul_assoc,e2,Nat.add_mul];omega
 have g1:X=d*X'+b*Y':=by
  have k1:d*(X'+a*X)=d*(b*Y):=by rw [f1]
  have k2:b*(Y'+d*Y)=b*(c*X):=by rw [f2]
  have k3:b*c*X=(a*d+1)*X:=by rw [det]
  grind
 have g2:Y=c*X'+a*Y':=by
  have k1:c*(X'+a*X)=c*(b*Y):=by rw [f1]
  have k2:a*(Y'+d*Y)=a*(c*X):=by rw [f2]
  have k3:b*c*Y=(a*d+1)*Y:=by rw [det]
  grind
 refine⟨X',Y',f1,f2,?_,?_,lehmer_gcd g1 g2 fun g k1 k2=>⟨dvd_of_sum f1 (Nat.dvd_mul_left_of_dvd k1 _) (Nat.dvd_mul_left_of_dvd k2 _),dvd_of_sum f2 (Nat.dvd_mul_left_of_dvd k2 _) (Nat.dvd_mul_left_of_dvd k1 _)⟩⟩
 ·omega
 ·rw [g2]
  have:=Nat.le_mul_of_pos_left X' (show 0<c by omega)
  omega

structure LSteps (xh yh x y a b c d:Nat)(odd:Bool):Prop where
 hx:xh=d*x+b*y
 hy:yh=c*x+a*y
 even:odd=false→a*d=b*c+1
 odd:odd=true→b*c=a*d+1

theorem LSteps.start (x y:Nat):LSteps x y x y 1 0 0 1 false:=⟨by simp,by simp,by simp,by simp⟩

theorem LSteps.next {xh yh x y a b c d:Nat}{o:Bool}(h:LSteps xh yh x y a b c d o)(_hy:0<y):LSteps xh yh y (x % y) c d (a+x / y*c) (b+x / y*d) (!o):=by
 have e:=Nat.div_add_mod x y
 have h1:=h.hx
 have h2:=h.hy
 generalize x / y=q at *
 generalize x % y=r at *
 subst e
 refine⟨by rw [h1];grind,by rw [h2];grind,?_,?_⟩
 ·intro ho
  have:=h.odd (by cases o <;> simp_all)
  grind
 ·intro ho
  have:=h.even (by cases o <;> simp_all)
  grind

theorem LSteps.d_le {xh yh x y a b c d:Nat}{o:Bool}(h:LSteps xh yh x y a b c d o)(hx:0<x):d≤xh:=by
 have h1:=h.hx
 have:=Nat.le_mul_of_pos_right d hx
 omega

theorem LSteps.sum_le {xh yh x y a b c d:Nat}{o:Bool}(h:LSteps xh yh x y a b c d o)(hx:0<x)(hy:0<y):b+d≤xh:=by
 have h1:=h.hx
 have:=Nat.le_mul_of_pos_right d hx
 have:=Nat.le_mul_of_pos_right b hy
 omega

theorem LSteps.half {xh yh x y a b c d:Nat}{o:Bool}(h:LSteps xh yh x y a b c d o)(hx:d≤x)(hl:xh<18446744073709551616):d<4294967296:=by
 have h1:=h.hx
 have h2:=Nat.mul_le_mul_left d hx
 refine Nat.lt_of_not_le fun hle=>?_
 have h3:=Nat.mul_le_mul hle hle
 omega

end Lm
end Go.Proofs.YtplegacjglaenaaGreatDoor
namespace Go.Proofs.YtplegacjglaenaaGreatDoor
open Go.RowKit
open Lm
attribute [local go_sem ↓] Go.wp_at_zero Go.wp_at_succ

def nO (p q:Nat)(c:Int)(w:World)(e:Ending)(w':World):Prop:=
 ∃(l:Nat) (t:Int),e=.returned (.tuple #[.int .u64 (l:Int),.int .i64 t])∧l<18446744073709551616∧(l:Int)+18446744073709551616*t=(p:Int) - q+c∧-4294967296≤t∧t≤4294967296∧w'=w

theorem nu (p q l1 h1 l2 h2 l3 br b2 h3 cu cs l4 m h4 b3:Nat)(c:Int)(hp:p≤79228162495817593515539431425)(hq:q≤79228162495817593515539431425)(hc1:-4294967296≤c)(hc2:c≤4294967296)
  (e1:p=h1*18446744073709551616+l1) (e2:q=h2*18446744073709551616+l2) (_:l1<18446744073709551616) (_:l2<18446744073709551616)
  (e3:l3+l2=l1+br*18446744073709551616) (e4:h3+h2+br=h1+b2*18446744073709551616) (e5:l4+m*18446744073709551616=l3+cu) (e6:h4+b3*18446744073709551616=h3+cs+m)
  (hl4:l4<18446744073709551616) (hh4:h4<18446744073709551616) (hc:(cu=c∧cs=0)∨((cu:Int)=c+18446744073709551616∧cs=18446744073709551615∧c<0)) :
  (l4:Int)+18446744073709551616*wrap64 (h4:Int)=(p:Int) - q+c∧-4294967296≤wrap64 (h4:Int)∧wrap64 (h4:Int)≤4294967296:=by
 have key:∃t:Int,(l4:Int)+18446744073709551616*t=(p:Int) - q+c∧((h4:Int)=t∨(h4:Int)=t+18446744073709551616):=by
  have h0:∃s:Int,(l4:Int)+18446744073709551616*((h4:Int)+18446744073709551616*s)=(p:Int) - q+c:=by
   rcases hc with ⟨k1,k2⟩|⟨k1,k2,_⟩
   ·exact⟨(b3:Int) - b2,by omega⟩
   ·exact⟨(b3:Int) - b2 - 1,by omega⟩
  obtain⟨s,hs⟩:=h0
  refine⟨(h4:Int)+18446744073709551616*s,hs,?_⟩
  have:s=0∨s=-1:=by omega
  rcases this with rfl|rfl <;> omega
 obtain⟨t,h1,h2⟩:=key
 have ht1:-4294967296≤t:=by omega
 have ht2:t≤4294967296:=by omega
 have ew:wrap64 (h4:Int)=t:=by
  unfold wrap64
  omega
 rw [ew]
 exact⟨h1,ht1,ht2⟩

theorem jl (c:Int)(hc1:-4294967296≤c)(hc2:c≤4294967296) :
  ∃cu cs:Nat,IntKind.u64.wrap c=(cu:Int)∧IntKind.u64.wrap (c / 9223372036854775808)=(cs:Int)∧((cu=c∧cs=0)∨((cu:Int)=c+18446744073709551616∧cs=18446744073709551615∧c<0)):=by
 rw [IntKind.wrap_u64,IntKind.wrap_u64]
 by_cases h0:0≤c
 ·exact⟨c.toNat,0,by omega,by omega,.inl (by omega)⟩
 ·exact⟨(c+18446744073709551616).toNat,18446744073709551615,by omega,by omega,.inr (by omega)⟩

set_option maxRecDepth 20000 in
theorem dk (a v b u:Nat)(c:Int)(w:World)(ha:a<4294967296)(hv:v<18446744073709551616)(hb:b<4294967296)(hu:u<18446744073709551616)(hc1:-4294967296≤c)(hc2:c≤4294967296) :
  Calls Tryz.prog 133 #[.int .u64 a,.int .u64 v,.int .u64 b,.int .u64 u,.int .i64 c] w (nO (a*v) (b*u) c w):=by
 have hM1:=Tryz.bits_Mul64 a v (by omega) hv w
 have hM2:=Tryz.bits_Mul64 b u (by omega) hu w
 have hPl:a*v≤79228162495817593515539431425:=Nat.mul_le_mul (Nat.le_sub_one_of_lt ha) (Nat.le_sub_one_of_lt hv)
 have hQl:b*u≤79228162495817593515539431425:=Nat.mul_le_mul (Nat.le_sub_one_of_lt hb) (Nat.le_sub_one_of_lt hu)
 obtain⟨P,hP⟩:∃P,a*v=P:=⟨_,rfl⟩
 obtain⟨Q,hQ⟩:∃Q,b*u=Q:=⟨_,rfl⟩
 rw [hP] at hM1 hPl ⊢
 rw [hQ] at hM2 hQl ⊢
 clear hP hQ
 obtain⟨h1,eh1⟩:∃h1,P / 18446744073709551616=h1:=⟨_,rfl⟩
 obtain⟨l1,el1⟩:∃l1,P % 18446744073709551616=l1:=⟨_,rfl⟩
 obtain⟨h2,eh2⟩:∃h2,Q / 18446744073709551616=h2:=⟨_,rfl⟩
 obtain⟨l2,el2⟩:∃l2,Q % 18446744073709551616=l2:=⟨_,rfl⟩
 rw [eh1,el1] at hM1
 rw [eh2,el2] at hM2
 have p1:P=h1*18446744073709551616+l1∧l1<18446744073709551616∧h1<18446744073709551616:=by omega
 have p2:Q=h2*18446744073709551616+l2∧l2<18446744073709551616∧h2<18446744073709551616:=by omega
 clear eh1 el1 eh2 el2
 obtain⟨cu,cs,ecu,ecs,hcc⟩:=jl c hc1 hc2
 have s1:=cQ l1 l2
 obtain⟨q1,q2,q3⟩:=ck l1 l2 0 p1.2.1 p2.2.1 (by omega)
 rw [Nat.sub_zero] at q1 q3
 generalize (l1+18446744073709551616 - l2) % 18446744073709551616=l3 at *
 generalize bor l1 l2 0=br at *
 have s2:=cR h1 h2 br q2
 obtain⟨r1,r2,r3⟩:=ck h1 h2 br p1.2.2 p2.2.2 q2
 generalize (h1+18446744073709551616 - h2 - br) % 18446744073709551616=h3 at *
 generalize bor h1 h2 br=b2 at *
 have a1:=bi l3 cu
 have t1:(l3+cu) % 18446744073709551616+(l3+cu) / 18446744073709551616*18446744073709551616=l3+cu∧(l3+cu) % 18446744073709551616<18446744073709551616∧(l3+cu) / 18446744073709551616≤1:=by omega
 generalize (l3+cu) % 18446744073709551616=l4 at *
 generalize (l3+cu) / 18446744073709551616=m at *
 have a2:=dA h3 cs m t1.2.2
 have t2:(h3+cs+m) % 18446744073709551616+(h3+cs+m) / 18446744073709551616*18446744073709551616=h3+cs+m∧(h3+cs+m) % 18446744073709551616<18446744073709551616:=by omega
 generalize (h3+cs+m) % 18446744073709551616=h4 at *
 generalize (h3+cs+m) / 18446744073709551616=b3 at *
 have HF:=ac (nu P Q l1 h1 l2 h2 l3 br b2 h3 cu cs l4 m h4 b3 c hPl hQl hc1 hc2 p1.1 p2.1 p1.2.1 p2.2.1 (by omega) (by omega) t1.1 t2.1 t1.2.1 t2.2 hcc)
 have HL:=ac t1.2.1
 clear p1 p2 hcc q1 q2 q3 r1 r2 r3 t1 t2 hPl hQl
 go_enter Tryz.func133,Tryz.ntmps133
 go_wp2_with fail
 refine hM1.mono ?_
 rintro e w2 ⟨rfl,rfl⟩
 go_wp2_with fail
 refine hM2.mono ?_
 rintro e w2 ⟨rfl,rfl⟩
 clear hM1 hM2
 go_wp2
 go_ret2
 exact⟨l4,_,rfl,HL.out,HF.out.1,HF.out.2.1,HF.out.2.2,rfl⟩

def stv (a b c d:Nat)(o:Bool):Value:=.agg #[.int .u64 a,.int .u64 b,.int .u64 c,.int .u64 d,.bool o]

theorem aH {w:World}{h:Nat}{a b c d f:Value}{t:TypeId}(e:w.heap[h]?=some (.cells #[a,b,c,d,f] t)):w.cell? ⟨h,0,none⟩=some a∧w.cell? ⟨h,1,none⟩=some b∧w.cell? ⟨h,2,none⟩=some c∧w.cell? ⟨h,3,none⟩=some d∧w.cell? ⟨h,4,none⟩=some f:=
 ⟨by simp [World.cell?,e],by simp [World.cell?,e],by simp [World.cell?,e],by simp [World.cell?,e],by simp [World.cell?,e]⟩

theorem fV (a b c d:Nat)(o:Bool)(w:World):Calls Tryz.prog 102 #[stv a b c d o] w fun e w'=>e=.returned (.bool (decide (b=0)))∧Below w.heap.size w w':=by
 unfold stv
 have hb:Below w.heap.size w (w.alloc (.cells #[.int .u64 a,.int .u64 b,.int .u64 c,.int .u64 d,.bool o] 121)):=(Below.refl _ _).alloc (Nat.le_refl _) _
 obtain⟨_,hc,_,_,_⟩:=aH (show (w.alloc (.cells #[.int .u64 a,.int .u64 b,.int .u64 c,.int .u64 d,.bool o] 121)).heap[w.heap.size]?=_ from heap_alloc_new ..)
 have hdec:((b:Int) == 0)=decide (b=0):=by by_cases h:b=0 <;> simp [h]
 have HB:=ac hb
 clear hb
 go_enter Tryz.func102,Tryz.ntmps102
 go_wp2
 go_ret
 exact⟨rfl,HB.out⟩

theorem kd (a b c d q:Nat)(o:Bool)(w:World)(h1:a+q*c<18446744073709551616)(h2:b+q*d<18446744073709551616) :
  Calls Tryz.prog 128 #[stv a b c d o,.int .u64 q] w fun e w'=>e=.returned (stv c d (a+q*c) (b+q*d) (!o))∧Below w.heap.size w w':=by
 unfold stv
 have hb:Below w.heap.size w (w.alloc (.cells #[.int .u64 a,.int .u64 b,.int .u64 c,.int .u64 d,.bool o] 121)):=(Below.refl _ _).alloc (Nat.le_refl _) _
 obtain⟨c0,c1,c2,c3,c4⟩:=aH (show (w.alloc (.cells #[.int .u64 a,.int .u64 b,.int .u64 c,.int .u64 d,.bool o] 121)).heap[w.heap.size]?=_ from heap_alloc_new ..)
 obtain⟨p,hp,ep⟩:∃p:Nat,q*c=p∧(q:Int)*(c:Int)=(p:Int):=⟨q*c,rfl,by rw [Int.natCast_mul]⟩
 obtain⟨r,hr,er⟩:∃r:Nat,q*d=r∧(q:Int)*(d:Int)=(r:Int):=⟨q*d,rfl,by rw [Int.natCast_mul]⟩
 rw [hp] at h1 ⊢
 rw [hr] at h2 ⊢
 have wp:IntKind.u64.wrap (p:Int)=(p:Int):=by rw [IntKind.wrap_u64];omega
 have wr:IntKind.u64.wrap (r:Int)=(r:Int):=by rw [IntKind.wrap_u64];omega
 have ap:(a:Int)+(p:Int)=((a+p:Nat):Int):=by omega
 have ar:(b:Int)+(r:Int)=((b+r:Nat):Int):=by omega
 clear hp hr
 generalize a+p=ap' at *
 generalize b+r=ar' at *
 have HB:=ac (hb.alloc hb.size (.cells #[.int .u64 c,.int .u64 d,.int .u64 ap',.int .u64 ar',.bool (!o)] 121))
 clear hb
 go_enter Tryz.func128,Tryz.ntmps128
 go_wp2
 go_returns
 exact⟨rfl,HB.out⟩
end Go.Proofs.YtplegacjglaenaaGreatDoor

