/- Package roots: its inner functions, of numbers. -/
import Derived.Test.YtiagnfghnfhlnaaGreatDoorB11
import Derived.Test.YtiagnfghnfhlnaaGreatDoorB02
import Derived.Test.YtiagnfghnfhlnaaGreatDoorB10
import Derived.Test.YtiagnfghnfhlnaaGreatDoorB01
import Derived.Test.YtiagnfghnfhlnaaGreatDoorB09
import Derived.Test.YtiagnfghnfhlnaaGreatDoorB07
import Derived.Test.YtiagnfghnfhlnaaGreatDoorB08
import Derived.Deep.RegionHeld3
import Derived.BigQuiet
set_option maxRecDepth 20000
set_option maxHeartbeats 4000000
namespace Go.Proofs.YtiagnfghnfhlnaaGreatDoor
open Go.RowKit
open Lm

def Nb (w:World)(base:Nat)(v:Value)(x:Nat):Prop:=∃rs,Ans w base v rs∧val rs=x∧tr rs=rs

theorem Nb.below {w w':World}{base:Nat}{v:Value}{x:Nat}(h:Nb w base v x)(hb:Below w.heap.size w w'):Nb w' base v x:=by
 obtain⟨rs,h1,h2⟩:=h
 exact⟨rs,h1.below hb,h2⟩

theorem Nb.base {w:World}{base base':Nat}{v:Value}{x:Nat}(h:Nb w base v x)(hb:base'≤base):Nb w base' v x:=by
 obtain⟨rs,h1,h2⟩:=h
 exact⟨rs,h1.base hb,h2⟩

theorem Nb.arg {w:World}{base:Nat}{v:Value}{x:Nat}(h:Nb w base v x)(hb:blen x≤1125899906816000):∃rs,Arg w v rs∧val rs=x∧tr rs=rs∧rs.length≤17592186044000:=by
 obtain⟨rs,h1,h2,h3⟩:=h
 have hl:rs.length≤17592186044000:=bU h3 h2 (by omega)
 exact⟨rs,h1.arg (by omega),h2,h3,hl⟩

def NbDone (w:World)(x:Nat)(e:Ending)(w':World):Prop:=(∃v,e=.returned v∧Nb w' w.heap.size v x)∧Below w.heap.size w w'

theorem aw.nb {w:World}{x:Nat}{e:Ending}{w':World}(h:aw w x e w'):NbDone w x e w':=by
 obtain⟨⟨v,rs,rfl,h1,h2,h3⟩,hb⟩:=h
 exact⟨⟨v,rfl,rs,h1,h2,h3⟩,hb⟩

def NbDone2 (w:World)(x y:Nat)(e:Ending)(w':World):Prop:=(∃v1 v2,e=.returned (.tuple #[v1,v2])∧Nb w' w.heap.size v1 x∧Nb w' w.heap.size v2 y)∧Below w.heap.size w w'

theorem NumDone2.nb {w:World}{x y:Nat}{e:Ending}{w':World}(h:NumDone2 w x y e w'):NbDone2 w x y e w':=by
 obtain⟨⟨v1,v2,r1,r2,rfl,h1,h2,h3,h4,h5,h6⟩,hb⟩:=h
 exact⟨⟨v1,v2,rfl,⟨r1,h1,h3,h4⟩,r2,h2,h5,h6⟩,hb⟩

theorem nsum {w:World}{b1 b2:Nat}{v1 v2:Value}{x y:Nat}(h1:Nb w b1 v1 x)(h2:Nb w b2 v2 y)(l1:blen x≤1125899906816000)(l2:blen y≤1125899906816000):Calls Tryz.prog 55 #[v1,v2] w (NbDone w (x+y)):=by
 obtain⟨r1,a1,rfl,_,n1⟩:=h1.arg l1
 obtain⟨r2,a2,rfl,_,n2⟩:=h2.arg l2
 exact (jO v1 v2 r1 r2 w a1 a2 (by omega) (by omega)).mono fun _ _ h=>h.nb

theorem nless {w:World}{b1 b2:Nat}{v1 v2:Value}{x y:Nat}(h1:Nb w b1 v1 x)(h2:Nb w b2 v2 y)(l1:blen x≤1125899906816000)(hle:y≤x):Calls Tryz.prog 23 #[v1,v2] w (NbDone w (x - y)):=by
 obtain⟨r1,a1,rfl,_,n1⟩:=h1.arg l1
 obtain⟨r2,a2,rfl,_,n2⟩:=h2.arg (Nat.le_trans (blen_mono hle) l1)
 exact (dm v1 v2 r1 r2 w a1 a2 (by omega) hle).mono fun _ _ h=>h.nb

theorem njoin {w:World}{b1 b2:Nat}{v1 v2:Value}{x y n:Nat}(h1:Nb w b1 v1 x)(h2:Nb w b2 v2 y)(l1:blen x≤1125899906816000)(hn:n≤1125899906816000)(hy:y<2 ^ n):Calls Tryz.prog 52 #[v1,.int .i64 n,v2] w (NbDone w (y+2 ^ n*x)):=by
 obtain⟨r1,a1,rfl,_,n1⟩:=h1.arg l1
 obtain⟨r2,a2,rfl,t2,n2⟩:=h2.arg (Nat.le_trans ((blen_le_iff y n).2 hy) hn)
 exact (rjoin_any v1 v2 r1 r2 n w a1 a2 (by omega) (by omega) hy t2).mono fun _ _ h=>h.nb

theorem nup {w:World}{b1:Nat}{v1:Value}{x n:Nat}(h1:Nb w b1 v1 x)(l1:blen x≤1125899906816000)(hn:n≤1125899906816000):Calls Tryz.prog 54 #[v1,.int .i64 n] w (NbDone w (2 ^ n*x)):=by
 obtain⟨r1,a1,rfl,_,n1⟩:=h1.arg l1
 exact (rup_any v1 r1 n w a1 (by omega) (by omega)).mono fun _ _ h=>h.nb

theorem nprod {w:World}{b1 b2:Nat}{v1 v2:Value}{x y:Nat}(h1:Nb w b1 v1 x)(h2:Nb w b2 v2 y)(hT:Tab w)(l1:blen x≤1125899906816000)(l2:blen y≤1125899906816000):Calls Tryz.prog 56 #[v1,v2] w (NbDone w (x*y)):=by
 obtain⟨r1,a1,rfl,_,n1⟩:=h1.arg l1
 obtain⟨r2,a2,rfl,_,n2⟩:=h2.arg l2
 exact (dV (r1.length+r2.length+1) r1 r2 v1 v2 w (by omega) (by omega) a1 a2 hT).mono fun _ _ h=>h.nb

theorem nboth {w:World}{b1 b2:Nat}{v1 v2:Value}{x y:Nat}(h1:Nb w b1 v1 x)(h2:Nb w b2 v2 y)(hT:Tab w)(l1:blen x≤1125899906816000)(l2:blen y≤1125899906816000)(hy:0<y):Calls Tryz.prog 51 #[v1,v2] w (NbDone2 w (x / y) (x % y)):=by
 obtain⟨r1,a1,rfl,_,n1⟩:=h1.arg l1
 obtain⟨r2,a2,rfl,_,n2⟩:=h2.arg l2
 exact (je (blen (val r1)) r1 r2 v1 v2 w (by omega) a1 a2 hT (by omega) (by omega) hy).mono fun _ _ h=>h.nb

theorem nfrom (x:Nat)(w:World)(hx:x<18446744073709551616):Calls Tryz.prog 21 #[.int .u64 (x:Int)] w (NbDone w x):=by
 refine (bM x w hx).mono ?_
 rintro e w' ⟨⟨v,rfl,h⟩,hb⟩
 exact⟨⟨v,rfl,tr [x],h,by rw [val_tr];simp [val],tr_tr _⟩,hb⟩

namespace Lm

theorem second_step {a s u q r n a1 a0:Nat}(hA:a=(s*s+u)*(2 ^ n*2 ^ n)+a1*2 ^ n+a0)(hu:u≤2*s)(h1:a1<2 ^ n)(h0:a0<2 ^ n)(hs:2 ^ n≤2*s)(hq:(a1+2 ^ n*u) / (2*s)=q)(hr:(a1+2 ^ n*u) % (2*s)=r) :
  (2 ^ n*s+q)*(2 ^ n*s+q)+(a0+2 ^ n*r)=a+q*q∧a0+2 ^ n*r≤2*(2 ^ n*s+q)∧q≤2 ^ n∧q*q≤2*(2 ^ n*s+q) - 1:=by
 have hsp:0<2*s:=by have:=Nat.two_pow_pos n;omega
 have hdm:=Nat.div_add_mod (a1+2 ^ n*u) (2*s)
 have hrl:=Nat.mod_lt (a1+2 ^ n*u) hsp
 rw [hq,hr] at hdm
 rw [hr] at hrl
 have hqn:q≤2 ^ n:=by
  rw [←hq]
  refine Nat.le_of_lt_succ ?_
  rw [Nat.div_lt_iff_lt_mul hsp]
  have h2:2 ^ n*u≤2 ^ n*(2*s):=Nat.mul_le_mul_left _ hu
  rw [Nat.succ_mul]
  omega
 generalize 2 ^ n=K at *
 have hKs:K*K≤2*(K*s):=by
  have:=Nat.mul_le_mul_left K hs
  rw [show K*(2*s)=2*(K*s) by rw [←Nat.mul_assoc,Nat.mul_comm K 2,Nat.mul_assoc]] at this
  exact this
 have hqq:q*q≤K*K:=Nat.mul_le_mul hqn hqn
 have hKp:0<K:=by omega
 refine⟨?_,?_,hqn,?_⟩
 ·have e1:(K*s+q)*(K*s+q)=s*s*(K*K)+2*s*q*K+q*q:=by grind
  have e2:(s*s+u)*(K*K)=s*s*(K*K)+K*u*K:=by grind
  have e3:(2*s*q+r)*K=(a1+K*u)*K:=by rw [hdm]
  rw [Nat.add_mul,Nat.add_mul] at e3
  rw [hA,e1,e2,Nat.mul_comm K r]
  omega
 ·have h2:K*r≤K*(2*s - 1):=Nat.mul_le_mul_left _ (by omega)
  have h3:K*(2*s - 1)+K=2*(K*s):=by
   obtain⟨t,ht⟩:∃t,2*s=t+1:=⟨2*s - 1,by omega⟩
   have h4:K*(2*s)=2*(K*s):=by rw [←Nat.mul_assoc,Nat.mul_comm K 2,Nat.mul_assoc]
   rw [←h4,ht,Nat.add_sub_cancel,Nat.mul_add,Nat.mul_one]
  omega
 ·rcases Nat.eq_zero_or_pos q with h|h
  ·rw [h];omega
  ·omega

theorem second_end {a R l Q:Nat}(he:R*R+l=a+Q)(hl:l≤2*R)(hQ:Q≤2*R - 1)(hR:0<R) :
  (Q≤l→IsRoot2 a R∧l - Q=a - R*R)∧(l<Q→Q≤l+(1+2*(R - 1))∧IsRoot2 a (R - 1)∧l+(1+2*(R - 1)) - Q=a - (R - 1)*(R - 1)):=by
 obtain⟨t,rfl⟩:∃t,R=t+1:=⟨R - 1,by omega⟩
 rw [Nat.add_sub_cancel]
 have e1:(t+1)*(t+1)=t*t+2*t+1:=by grind
 have e2:(t+1+1)*(t+1+1)=t*t+4*t+4:=by grind
 unfold IsRoot2
 rw [e1] at he
 rw [e2,e1]
 refine⟨fun h=>⟨⟨by omega,by omega⟩,by omega⟩,fun h=>⟨by omega,⟨by omega,by omega⟩,by omega⟩⟩

end Lm
end Go.Proofs.YtiagnfghnfhlnaaGreatDoor
namespace Go.Proofs.YtiagnfghnfhlnaaGreatDoor
open Go.RowKit
open Lm
attribute [local go_sem ↓] Go.wp_at_zero Go.wp_at_succ

theorem second_zero (vb:Value)(X:List Nat)(w:World)(hA:Arg w vb X)(hX:val X=0) :
  Calls Tryz.prog 24 #[vb] w (NbDone2 w 0 0):=by
 have HS:=dp vb X w hA
 have ht:tr X=[]:=val_zero (tr_tr X) (by rw [val_tr];exact hX)
 rw [ht] at HS
 have HS2:Calls Tryz.prog 48 #[vb] w fun e w'=>e=.returned (.tuple #[.int .u64 0,.bool true])∧w'=w:=HS
 have HF:=nfrom 0 w (by omega)
 clear HS hA ht
 go_enter Tryz.func24,Tryz.ntmps24
 go_wp2_with fail
 refine HS2.mono ?_
 rintro e wn ⟨rfl,hw⟩;rw [hw];clear hw wn HS2
 have HL:Calls Tryz.prog 49 #[.int .u64 0] w fun e w'=>e=.returned (.int .u64 0)∧w'=w:=by
  go_enter Tryz.func49,Tryz.ntmps49
  go_wp2
  go_ret
  exact⟨rfl,rfl⟩
 go_wp2_with fail
 refine HL.mono ?_
 rintro e wn ⟨rfl,hw⟩;rw [hw];clear hw wn HL
 go_wp2_with fail
 refine HF.mono ?_
 rintro e w1 ⟨⟨v1,rfl,n1⟩,hb1⟩
 have HF2:=nfrom 0 w1 (by omega)
 have H1:=aa (And.intro n1 hb1)
 clear n1 hb1 HF
 go_wp2_with fail
 refine HF2.mono ?_
 rintro e w2 ⟨⟨v2,rfl,n2⟩,hb2⟩
 have HD:=aa (show NbDone2 w 0 0 (.returned (.tuple #[v1,v2])) w2 from ⟨⟨v1,v2,rfl,H1.out.1.below hb2,n2.base H1.out.2.size⟩,H1.out.2.trans (hb2.mono H1.out.2.size)⟩)
 clear n2 hb2
 go_wp2
 go_returns
 exact HD.out

theorem ncmp {w:World}{b1 b2:Nat}{v1 v2:Value}{x y:Nat}(h1:Nb w b1 v1 x)(h2:Nb w b2 v2 y)(l1:blen x≤1125899906816000)(l2:blen y≤1125899906816000):Calls Tryz.prog 10 #[v1,v2] w fun e w'=>e=.returned (.int .i64 (cmpN x y))∧ai w w':=by
 obtain⟨r1,a1,rfl,_,n1⟩:=h1.arg l1
 obtain⟨r2,a2,rfl,_,n2⟩:=h2.arg l2
 exact cu v1 v2 r1 r2 w a1 a2

namespace Lm

theorem cmpN_ge {x y:Nat}(h:y≤x):(0:Int)≤cmpN x y:=by
 unfold cmpN
 rw [if_neg (by omega)]
 split <;> omega

theorem blen_le4 {x y:Nat}(h:y≤8*x):blen y≤blen x+3:=by
 refine (blen_le_iff _ _).2 ?_
 have h1:=(blen_le_iff x _).1 (Nat.le_refl _)
 rw [Nat.pow_add]
 omega

theorem second_halves {x n s:Nat}(hL:4*n≤blen x+1)(hn:1≤n)(hs:IsRoot2 (x / 2 ^ (2*n)) s) :
  x=(s*s+(x / 2 ^ (2*n) - s*s))*(2 ^ n*2 ^ n)+x / 2 ^ n % 2 ^ n*2 ^ n+x % 2 ^ n∧x / 2 ^ (2*n) - s*s≤2*s∧2 ^ n≤2*s∧2 ^ n≤x∧2 ^ n*(x / 2 ^ (2*n))≤x∧s≤x / 2 ^ (2*n):=by
 have hx0:x≠0:=by
  rintro rfl
  rw [show blen 0=0 from (aU 0).2 rfl] at hL
  omega
 have hp:=bi x hx0
 have e2:2 ^ (2*n)=2 ^ n*2 ^ n:=by rw [←Nat.pow_add];congr 1;omega
 have hkx:2 ^ n≤x:=Nat.le_trans (Nat.pow_le_pow_right (by omega) (by omega)) hp
 have hA:2 ^ (2*n - 2)≤x / 2 ^ (2*n):=by
  rw [Nat.le_div_iff_mul_le (Nat.two_pow_pos _),←Nat.pow_add]
  exact Nat.le_trans (Nat.pow_le_pow_right (by omega) (by omega)) hp
 have e3:2 ^ n=2*2 ^ (n - 1):=by rw [←Nat.pow_succ'];congr 1;omega
 have e4:2 ^ (2*n - 2)=2 ^ (n - 1)*2 ^ (n - 1):=by rw [←Nat.pow_add];congr 1;omega
 obtain⟨s1,s2⟩:=hs
 have e5:(s+1)*(s+1)=s*s+2*s+1:=by grind
 have hm1:=Nat.div_add_mod x (2 ^ n)
 have hm2:=Nat.div_add_mod (x / 2 ^ n) (2 ^ n)
 rw [Nat.div_div_eq_div_mul,←e2] at hm2
 have hss:s≤s*s:=by
  rcases Nat.eq_zero_or_pos s with h|h
  ·rw [h];exact Nat.le_refl _
  ·exact Nat.le_mul_of_pos_left s h
 refine⟨?_,by omega,?_,hkx,?_,by omega⟩
 ·rw [Nat.add_sub_cancel' s1]
  generalize x / 2 ^ (2*n)=A at *
  generalize x / 2 ^ n % 2 ^ n=b at *
  generalize x / 2 ^ n=c at *
  generalize x % 2 ^ n=d at *
  generalize 2 ^ n=K at *
  rw [←hm1,←hm2]
  grind
 ·refine Nat.le_of_not_lt fun hlt=>?_
  rw [e3] at hlt
  have h1:s+1≤2 ^ (n - 1):=by omega
  have h2:=Nat.mul_le_mul h1 h1
  rw [e4] at hA
  omega
 ·have h1:x / 2 ^ (2*n)≤x / 2 ^ n:=by rw [e2,←Nat.div_div_eq_div_mul];exact Nat.div_le_self _ _
  have h2:=Nat.mul_le_mul_left (2 ^ n) h1
  omega

end Lm

theorem rsecond_any:∀(N:Nat) (X:List Nat) (va:Value) (w:World) (s:Nat),blen (val X)≤N→blen (val X)≤1125899906815900→Arg w va X→Tab w→X.length≤17592186044000→IsRoot2 (val X) s →
  Calls Tryz.prog 24 #[va] w (NbDone2 w s (val X - s*s)):=by
 intro N
 induction N with
 | zero=>
  intro X va w s hN hxb hA hT hx hs
  have h0:val X=0:=(aU _).1 (by omega)
  have hs0:s=0:=by
   refine root2_uniq hs ?_
   rw [h0];exact⟨Nat.le_refl _,by omega⟩
  rw [hs0,h0]
  exact second_zero va X w hA h0
 | succ N ih=>
  intro X va w s hN hxb hA hT hx hs
  by_cases hsm:(tr X).length≤1
  ·by_cases h0:val X=0
   ·have hs0:s=0:=by
     refine root2_uniq hs ?_
     rw [h0];exact⟨Nat.le_refl _,by omega⟩
    rw [hs0,h0]
    exact second_zero va X w hA h0
   ·exact (gj va X s w hA (by omega) hsm hs).mono fun e w' h=>NumDone2.nb h
  ·have HS:=dp va X w hA
   rw [if_neg hsm,decide_eq_false hsm] at HS
   have L1:=az _ _ w hA
   have hbx:blen (val X)≤X.length*64:=(blen_le_iff _ _).2 (by have:=val_lt hA.limbs;rw [W_pow] at this;exact this)
   have hb64:64<blen (val X):=by
    refine Nat.lt_of_not_le fun h=>hsm ?_
    exact few_limbs X 1 (by omega)
   obtain⟨n,hn⟩:∃n,(blen (val X)+1) / 4=n:=⟨_,rfl⟩
   obtain⟨t,ht⟩:∃t,IsRoot2 (val X / 2 ^ (2*n)) t:=root2_is _
   obtain⟨P1,P2,P3,P4,P5,P6⟩:=second_halves (x:=val X) (n:=n) (s:=t) (by omega) (by omega) ht
   obtain⟨u,hu⟩:∃u,val X / 2 ^ (2*n) - t*t=u:=⟨_,rfl⟩
   rw [hu] at P1 P2
   have h1l:val X / 2 ^ n % 2 ^ n<2 ^ n:=Nat.mod_lt _ (Nat.two_pow_pos n)
   have h0l:val X % 2 ^ n<2 ^ n:=Nat.mod_lt _ (Nat.two_pow_pos n)
   have HDN:=cr va X (2*n) w hA (by omega) (by omega)
   have hul:u≤val X / 2 ^ (2*n):=by omega
   have hA1x:val X / 2 ^ (2*n)≤val X:=Nat.div_le_self _ _
   have hblA:blen (val X / 2 ^ (2*n))≤N:=by
    refine Nat.le_trans ((blen_le_iff _ (blen (val X) - 2*n)).2 ?_) (by omega)
    rw [Nat.div_lt_iff_lt_mul (Nat.two_pow_pos _),←Nat.pow_add,show blen (val X) - 2*n+2*n=blen (val X) by omega]
    exact (blen_le_iff _ _).1 (Nat.le_refl _)
   obtain⟨a1,ha1⟩:∃a1,val X / 2 ^ n % 2 ^ n=a1:=⟨_,rfl⟩
   obtain⟨a0,ha0⟩:∃a0,val X % 2 ^ n=a0:=⟨_,rfl⟩
   rw [ha1] at P1 h1l
   rw [ha0] at P1 h0l
   obtain⟨q,hq⟩:∃q,(a1+2 ^ n*u) / (2*t)=q:=⟨_,rfl⟩
   obtain⟨r,hr⟩:∃r,(a1+2 ^ n*u) % (2*t)=r:=⟨_,rfl⟩
   obtain⟨S1,S2,S3,S4⟩:=second_step P1 P2 h1l h0l P3 hq hr
   have htp:0<t:=by have:=Nat.two_pow_pos n;omega
   have hKu:2 ^ n*u≤val X:=Nat.le_trans (Nat.mul_le_mul_left _ hul) P5
   have hKt:2 ^ n*t≤val X:=Nat.le_trans (Nat.mul_le_mul_left _ P6) P5
   have hrb:r≤2*t:=by rw [←hr];exact Nat.le_of_lt (Nat.mod_lt _ (by omega))
   obtain⟨R,hR⟩:∃R,2 ^ n*t+q=R:=⟨_,rfl⟩
   obtain⟨l,hl⟩:∃l,a0+2 ^ n*r=l:=⟨_,rfl⟩
   rw [hR,hl] at S1 S2
   rw [hR] at S4
   have hRp:0<R:=by
    have:=Nat.mul_pos (Nat.two_pow_pos n) htp
    omega
   have hRb:R≤2*val X:=by omega
   obtain⟨E1,E2⟩:=second_end S1 S2 S4 hRp
   have B:Hid (∀y,y≤8*val X→blen y≤1125899906816000):=aa fun y hy=>by
    have:=blen_le4 hy
    omega
   have BB:Hid (u≤8*val X∧t≤8*val X∧a1+2 ^ n*u≤8*val X∧2 ^ 1*t≤8*val X∧2 ^ n*t≤8*val X∧q≤8*val X∧r≤8*val X∧R≤8*val X∧l≤8*val X):=aa ⟨by omega,by omega,by omega,by omega,by omega,by omega,by omega,by omega,by omega⟩
   have HXB:Hid (∀m,blen (val X / m)≤1125899906815900):=aa fun m=>Nat.le_trans (blen_mono (Nat.div_le_self _ _)) hxb
   have HA:=aa hA
   have HT:=aa hT
   have HIH:=aa ih
   have HE:=aa (And.intro E1 E2)
   have HX:=aa (And.intro ht (And.intro hu (And.intro ha1 (And.intro ha0 (And.intro hq (And.intro hr (And.intro hR (And.intro hl (And.intro h1l (And.intro h0l (And.intro htp hblA)))))))))))
   have HSS:=aa hs
   have HQQ:=aa (And.intro S4 hRb)
   obtain⟨n2,hn2⟩:∃n2,2*n=n2:=⟨_,rfl⟩
   have en:(((blen (val X):Nat):Int)+1) / 4=(n:Int):=by omega
   have en2:(2:Int)*(n:Int)=(n2:Int):=by omega
   have hnb:n≤281474976710656:=by omega
   rw [hn2] at HDN
   have HN2:=aa hn2
   clear P1 P2 P3 P4 P5 P6 S1 S2 S3 S4 E1 E2 hA hT ih hs ht hu ha1 ha0 hq hr hR hl h1l h0l htp hblA hul hA1x hKu hKt hrb hn hn2 hRp hRb hsm
   generalize hlx:blen (val X)=lx at *
   clear hlx
   have HB:Hid (Below w.heap.size w w):=Below.refl _ _
   go_enter Tryz.func24,Tryz.ntmps24
   go_wp2_with fail
   refine HS.mono ?_
   rintro e wn ⟨rfl,hw⟩;rw [hw];clear hw wn HS
   go_wp2_with fail
   refine L1.mono ?_
   rintro e wn ⟨rfl,hw⟩;rw [hw];clear hw wn L1
   go_wp2_with fail
   refine HDN.mono ?_
   rintro e w1 ⟨⟨v1,r1,rfl,d1,p1,t1⟩,hb⟩
   replace HB:=aa (HB.out.trans (hb.mono HB.out.size))
   obtain⟨ht,hu,ha1,ha0,hq,hr,hR,hl,h1l,h0l,htp,hblA⟩:=HX.out
   obtain⟨bu,bt,bj,b2t,bkt,bq,br,bR,bl⟩:=BB.out
   have lr1:r1.length≤X.length:=by
    rw [←t1]
    refine ay r1 _ ?_
    rw [p1]
    exact Nat.lt_of_le_of_lt (Nat.div_le_self _ _) (val_lt HA.out.limbs)
   have F1:=HIH.out r1 v1 w1 t (by rw [p1,←HN2.out];exact hblA) (by rw [p1];exact HXB.out _) (d1.arg (by omega)) (HT.out.below HB.out) (by omega) (by rw [p1,←HN2.out];exact ht)
   rw [p1,←HN2.out,hu] at F1
   clear d1 p1 t1 hb HDN HIH ht hu hblA lr1
   go_wp2_with fail
   refine F1.mono ?_
   rintro e w2 ⟨⟨vt,vu,rfl,Nt,Nu⟩,hb⟩
   replace HB:=aa (HB.out.trans (hb.mono HB.out.size))
   clear hb F1
   have F1:=(rbits_any va X n n w2 (HA.out.below HB.out) (by omega) (by omega) (by omega)).mono fun _ _ h=>h.nb
   rw [ha1] at F1
   go_wp2_with fail
   refine F1.mono ?_
   rintro e w3 ⟨⟨va1,rfl,Na1⟩,hb⟩
   replace Na1:=Na1.base HB.out.size
   replace HB:=aa (HB.out.trans (hb.mono HB.out.size))
   replace Nt:=Nt.below hb;replace Nu:=Nu.below hb;clear hb F1
   have F1:=njoin (n:=n) Nu Na1 (B.out _ bu) (by omega) h1l
   clear Nu Na1
   go_wp2_with fail
   refine F1.mono ?_
   rintro e w4 ⟨⟨vj,rfl,Nj⟩,hb⟩
   replace Nj:=Nj.base HB.out.size
   replace HB:=aa (HB.out.trans (hb.mono HB.out.size))
   replace Nt:=Nt.below hb;clear hb F1
   have F1:=nup (n:=1) Nt (B.out _ bt) (by omega)
   go_wp2_with fail
   refine F1.mono ?_
   rintro e w5 ⟨⟨v2t,rfl,N2t⟩,hb⟩
   replace N2t:=N2t.base HB.out.size
   replace HB:=aa (HB.out.trans (hb.mono HB.out.size))
   replace Nt:=Nt.below hb;replace Nj:=Nj.below hb;clear hb F1
   have F1:=nboth Nj N2t (HT.out.below HB.out) (B.out _ bj) (B.out _ b2t) (by rw [Nat.pow_one];omega)
   rw [Nat.pow_one,hq,hr] at F1
   clear Nj N2t
   go_wp2_with fail
   refine F1.mono ?_
   rintro e w6 ⟨⟨vq,vr,rfl,Nq,Nr⟩,hb⟩
   replace HB:=aa (HB.out.trans (hb.mono HB.out.size))
   replace Nt:=Nt.below hb;clear hb F1
   have F1:=nup (n:=n) Nt (B.out _ bt) (by omega)
   clear Nt
   go_wp2_with fail
   refine F1.mono ?_
   rintro e w7 ⟨⟨vkt,rfl,Nkt⟩,hb⟩
   replace Nkt:=Nkt.base HB.out.size
   replace HB:=aa (HB.out.trans (hb.mono HB.out.size))
   replace Nq:=Nq.below hb;replace Nr:=Nr.below hb;clear hb F1
   have F1:=nsum Nkt Nq (B.out _ bkt) (B.out _ bq)
   rw [hR] at F1
   clear Nkt
   go_wp2_with fail
   refine F1.mono ?_
   rintro e w8 ⟨⟨vR,rfl,NR⟩,hb⟩
   replace NR:=NR.base HB.out.size
   replace HB:=aa (HB.out.trans (hb.mono HB.out.size))
   replace Nq:=Nq.below hb;replace Nr:=Nr.below hb;clear hb F1
   have F1:=(rbits_any va X 0 n w8 (HA.out.below HB.out) (by omega) (by omega) (by omega)).mono fun _ _ h=>h.nb
   rw [Nat.pow_zero,Nat.div_one,ha0] at F1
   go_wp2_with fail
   refine F1.mono ?_
   rintro e w9 ⟨⟨va0,rfl,Na0⟩,hb⟩
   replace Na0:=Na0.base HB.out.size
   replace HB:=aa (HB.out.trans (hb.mono HB.out.size))
   replace Nq:=Nq.below hb;replace Nr:=Nr.below hb;replace NR:=NR.below hb;clear hb F1
   have F1:=njoin (n:=n) Nr Na0 (B.out _ br) (by omega) h0l
   rw [hl] at F1
   clear Nr Na0
   go_wp2_with fail
   refine F1.mono ?_
   rintro e w10 ⟨⟨vl,rfl,Nl⟩,hb⟩
   replace Nl:=Nl.base HB.out.size
   replace HB:=aa (HB.out.trans (hb.mono HB.out.size))
   replace Nq:=Nq.below hb;replace NR:=NR.below hb;clear hb F1
   have F1:=nprod Nq Nq (HT.out.below HB.out) (B.out _ bq) (B.out _ bq)
   clear Nq
   go_wp2_with fail
   refine F1.mono ?_
   rintro e w11 ⟨⟨vQ,rfl,NQ⟩,hb⟩
   replace NQ:=NQ.base HB.out.size
   replace HB:=aa (HB.out.trans (hb.mono HB.out.size))
   replace NR:=NR.below hb;replace Nl:=Nl.below hb;clear hb F1
   clear ha1 ha0 hq hr hR hl h1l h0l htp bu bt bj b2t bkt bq br HX BB
   have hQb:=HQQ.out
   obtain⟨Q,hQ⟩:∃Q,q*q=Q:=⟨_,rfl⟩
   rw [hQ] at NQ HE hQb
   have bQ:Q≤8*val X:=by omega
   by_cases hfin:Q≤l
   ·obtain⟨E1,E2⟩:=HE.out.1 hfin
    have es:s=R:=root2_uniq HSS.out E1
    have hc:(0:Int)≤cmpN l Q:=cmpN_ge hfin
    have GG:Hid (R=s∧l - Q=val X - s*s):=aa ⟨es.symm,by rw [es];exact E2⟩
    clear HE HSS HQQ E1 E2 hQ hQb es
    go_wp2
    refine wp_loop_rounds 1 ?_
    rw [rounds_succ]
    have F1:=ncmp Nl NQ (B.out _ bl) (B.out _ bQ)
    go_wp2_with fail
    refine F1.mono ?_
    rintro e w20 ⟨rfl,hsm⟩
    have hb:=hsm.below w11.heap.size
    replace HB:=aa (HB.out.trans (hb.mono HB.out.size))
    replace NR:=NR.below hb;replace Nl:=Nl.below hb;replace NQ:=NQ.below hb;clear hb F1 hsm
    have F1:=nless Nl NQ (B.out _ bl) (by omega)
    clear Nl NQ
    go_wp2_with fail
    refine F1.mono ?_
    rintro e w21 ⟨⟨vz,rfl,Nz⟩,hb⟩
    have HD:=aa (show NbDone2 w s (val X - s*s) (.returned (.tuple #[vR,vz])) w21 from ⟨⟨vR,vz,rfl,by rw [←GG.out.1];exact NR.below hb,by rw [←GG.out.2];exact Nz.base HB.out.size⟩,HB.out.trans (hb.mono HB.out.size)⟩)
    clear NR Nz hb F1
    go_wp2
    go_returns
    exact HD.out
   ·obtain⟨E0,E1,E2⟩:=HE.out.2 (by omega)
    have es:s=R - 1:=root2_uniq HSS.out E1
    have hc:¬(0:Int)≤cmpN l Q:=by rw [cmpN_lt (by omega)];omega
    have bl2:l+(1+2*(R - 1))≤8*val X+8*val X:=by omega
    have GG:Hid (R - 1=s∧l+(1+2*(R - 1)) - Q=val X - s*s):=aa ⟨es.symm,by rw [es];exact E2⟩
    clear HE HSS HQQ E1 E2 hQ es
    go_wp2
    refine wp_loop_rounds 2 ?_
    rw [rounds_succ]
    have F1:=ncmp Nl NQ (B.out _ bl) (B.out _ bQ)
    go_wp2_with fail
    refine F1.mono ?_
    rintro e w12 ⟨rfl,hsm⟩
    have hb:=hsm.below w11.heap.size
    replace HB:=aa (HB.out.trans (hb.mono HB.out.size))
    replace NR:=NR.below hb;replace Nl:=Nl.below hb;replace NQ:=NQ.below hb;clear hb F1 hsm
    have F1:=nfrom 1 w12 (by omega)
    go_wp2_with fail
    refine F1.mono ?_
    rintro e w13 ⟨⟨vo,rfl,No⟩,hb⟩
    replace No:=No.base HB.out.size
    replace HB:=aa (HB.out.trans (hb.mono HB.out.size))
    replace NR:=NR.below hb;replace Nl:=Nl.below hb;replace NQ:=NQ.below hb;clear hb F1
    have F1:=nless NR No (B.out _ bR) (by omega)
    clear NR No
    go_wp2_with fail
    refine F1.mono ?_
    rintro e w14 ⟨⟨vR2,rfl,NR2⟩,hb⟩
    replace NR2:=NR2.base HB.out.size
    replace HB:=aa (HB.out.trans (hb.mono HB.out.size))
    replace Nl:=Nl.below hb;replace NQ:=NQ.below hb;clear hb F1
    have F1:=nfrom 1 w14 (by omega)
    go_wp2_with fail
    refine F1.mono ?_
    rintro e w15 ⟨⟨vo2,rfl,No2⟩,hb⟩
    replace No2:=No2.base HB.out.size
    replace HB:=aa (HB.out.trans (hb.mono HB.out.size))
    replace NR2:=NR2.below hb;replace Nl:=Nl.below hb;replace NQ:=NQ.below hb;clear hb F1
    have F1:=njoin (n:=1) NR2 No2 (B.out _ (by omega)) (by omega) (by omega)
    rw [Nat.pow_one] at F1
    clear No2
    go_wp2_with fail
    refine F1.mono ?_
    rintro e w16 ⟨⟨vj2,rfl,Nj2⟩,hb⟩
    replace Nj2:=Nj2.base HB.out.size
    replace HB:=aa (HB.out.trans (hb.mono HB.out.size))
    replace NR2:=NR2.below hb;replace Nl:=Nl.below hb;replace NQ:=NQ.below hb;clear hb F1
    have F1:=nsum Nl Nj2 (B.out _ bl) (B.out _ (by omega))
    clear Nl Nj2
    go_wp2_with fail
    refine F1.mono ?_
    rintro e w17 ⟨⟨vl2,rfl,Nl2⟩,hb⟩
    replace Nl2:=Nl2.base HB.out.size
    replace HB:=aa (HB.out.trans (hb.mono HB.out.size))
    replace NR2:=NR2.below hb;replace NQ:=NQ.below hb;clear hb F1
    obtain⟨l2,hl2⟩:∃l2,l+(1+2*(R - 1))=l2:=⟨_,rfl⟩
    obtain⟨R2,hR2⟩:∃R2,R - 1=R2:=⟨_,rfl⟩
    rw [hR2] at hl2 NR2
    rw [hR2,hl2] at Nl2 E0 bl2 GG
    have hc2:(0:Int)≤cmpN l2 Q:=cmpN_ge E0
    have bl3:l2≤8*val X:=by omega
    clear hl2 hR2 bl2
    go_wp2
    rw [rounds_succ]
    have F1:=ncmp Nl2 NQ (B.out _ bl3) (B.out _ bQ)
    go_wp2_with fail
    refine F1.mono ?_
    rintro e w20 ⟨rfl,hsm⟩
    have hb:=hsm.below w17.heap.size
    replace HB:=aa (HB.out.trans (hb.mono HB.out.size))
    replace NR2:=NR2.below hb;replace Nl2:=Nl2.below hb;replace NQ:=NQ.below hb;clear hb F1 hsm
    have F1:=nless Nl2 NQ (B.out _ bl3) (by omega)
    clear Nl2 NQ
    go_wp2_with fail
    refine F1.mono ?_
    rintro e w21 ⟨⟨vz,rfl,Nz⟩,hb⟩
    have HD:=aa (show NbDone2 w s (val X - s*s) (.returned (.tuple #[vR2,vz])) w21 from ⟨⟨vR2,vz,rfl,by rw [←GG.out.1];exact NR2.below hb,by rw [←GG.out.2];exact Nz.base HB.out.size⟩,HB.out.trans (hb.mono HB.out.size)⟩)
    clear NR2 Nz hb F1
    go_wp2
    go_returns
    exact HD.out

def Tell2 (w:World)(base:Nat)(e:Ending)(x y:Nat):Prop:=
 (blen x≤67108864∧blen y≤67108864∧∃v1 v2,e=.returned (.tuple #[v1,v2,.int .i64 0])∧Nb w base v1 x∧Nb w base v2 y) ∨
 ((67108864<blen x∨67108864<blen y)∧e=.returned (.tuple #[.slice none 0 0,.slice none 0 0,.int .i64 3]))

theorem ranswers_any (v1 v2:Value)(b1 b2:Nat)(x y:Nat)(w:World)(h1:Nb w b1 v1 x)(h2:Nb w b2 v2 y)(hx:blen x≤67108864)(ly:blen y≤1125899906816000) :
  Calls Tryz.prog 22 #[v1,v2] w fun e w'=>w'=w∧Tell2 w (min b1 b2) e x y:=by
 obtain⟨r2,a2,p2,t2⟩:=h2
 have l2:r2.length≤17592186044000:=bU t2 p2 (by omega)
 have HA:=ranswer_any v2 b2 r2 w a2 (by omega) t2
 rw [p2] at HA
 have H1:=aa h1
 clear h1 a2
 go_enter Tryz.func22,Tryz.ntmps22
 go_wp2_with fail
 refine HA.mono ?_
 rintro e w1 ⟨hw,v,c,rs,rfl,ha,hres⟩
 subst hw
 rcases hres with ⟨rfl,q1,q2,q3⟩|⟨rfl,rfl,q3⟩
 ·have HD:=aa (And.intro ha (And.intro q1 q2))
  clear ha q1 q2 HA
  go_wp2
  go_returns
  exact⟨rfl,.inl ⟨hx,q3,_,_,rfl,H1.out.base (Nat.min_le_left _ _),(show Nb _ b2 v y from ⟨rs,HD.out.1,HD.out.2.1,HD.out.2.2⟩).base (Nat.min_le_right _ _)⟩⟩
 ·clear ha HA
  go_wp2
  go_returns
  exact⟨rfl,.inr ⟨.inr q3,rfl⟩⟩

namespace Lm

theorem root2_len {x s:Nat}(h:IsRoot2 x s):blen s=(blen x+1) / 2:=by
 obtain⟨h1,h2⟩:=h
 rcases Nat.eq_zero_or_pos s with h0|h0
 ·subst h0
  have hx:x=0:=by omega
  rw [hx,show blen 0=0 from (aU 0).2 rfl]
 ·have p1:=bi s (by omega)
  have p2:=(blen_le_iff s _).1 (Nat.le_refl _)
  have hl:0<blen s:=by
   rcases Nat.eq_zero_or_pos (blen s) with h|h
   ·have:=(aU s).1 h;omega
   ·exact h
  obtain⟨k,hk⟩:∃k,blen s=k+1:=⟨blen s - 1,by omega⟩
  rw [hk] at p1 p2
  rw [Nat.add_sub_cancel] at p1
  have hlo:2 ^ (k+k)≤x:=by rw [Nat.pow_add];exact Nat.le_trans (Nat.mul_le_mul p1 p1) h1
  have hhi:x<2 ^ (k+1+(k+1)):=by rw [Nat.pow_add];exact Nat.lt_of_lt_of_le h2 (Nat.mul_le_mul p2 p2)
  have b1:k+k<blen x:=Nat.lt_of_not_le fun h=>by have:=(blen_le_iff x _).1 h;omega
  have b2:=(blen_le_iff x _).2 hhi
  omega

end Lm

theorem rsqrt_any (va:Value)(X:List Nat)(s:Nat)(w:World)(hA:Arg w va X)(hT:Tab w)(hx:X.length≤17592186044000)(hs:IsRoot2 (val X) s) :
  Calls Tryz.prog 12 #[va] w fun e w'=>Tell2 w' w.heap.size e s (val X - s*s)∧Below w.heap.size w w':=by
 have HL:=fu va X w hA
 have hlen:=root2_len hs
 rw [←hlen] at HL
 by_cases hb:blen s≤67108864
 ·have HS:=rsecond_any (blen (val X)) X va w s (Nat.le_refl _) (by omega) hA hT hx hs
  have hbr:blen (val X - s*s)≤1125899906816000:=by
   have:=blen_mono (Nat.sub_le (val X) (s*s))
   omega
  clear hA hlen
  generalize val X - s*s=rest at *
  have i1:¬(67108864:Int)<((blen s:Nat):Int):=by omega
  have HB:=aa hb
  generalize blen s=ls at HL i1
  go_enter Tryz.func12,Tryz.ntmps12
  go_wp2_with fail
  refine HL.mono ?_
  rintro e wn ⟨rfl,hw⟩;rw [hw];clear hw wn HL
  go_wp2_with fail
  refine HS.mono ?_
  rintro e w1 ⟨⟨v1,v2,rfl,n1,n2⟩,hb1⟩
  have HA:=ranswers_any v1 v2 w.heap.size w.heap.size s rest w1 n1 n2 HB.out hbr
  rw [Nat.min_self] at HA
  have HB1:=aa hb1
  clear n1 n2 hb1 HS
  go_wp2_with fail
  refine HA.mono ?_
  rintro e w2 ⟨hw,ht⟩
  subst hw
  rcases ht with ⟨q1,q2,v3,v4,rfl,n3,n4⟩|⟨q1,rfl⟩
  ·have HD:=aa (And.intro n3 n4)
   clear n3 n4 HA
   go_wp2
   go_returns
   exact⟨.inl ⟨q1,q2,_,_,rfl,HD.out.1,HD.out.2⟩,HB1.out⟩
  ·clear HA
   go_wp2
   go_returns
   exact⟨.inr ⟨q1,rfl⟩,HB1.out⟩
 ·have i1:(67108864:Int)<((blen s:Nat):Int):=by omega
  have HB:=aa hb
  clear hA hlen
  generalize val X - s*s=rest at *
  generalize blen s=ls at HL i1
  go_enter Tryz.func12,Tryz.ntmps12
  go_wp2_with fail
  refine HL.mono ?_
  rintro e wn ⟨rfl,hw⟩;rw [hw];clear hw wn HL
  go_wp2
  go_returns
  exact⟨.inr ⟨.inl (by have:=HB.out;omega),rfl⟩,Below.refl _ _⟩

theorem gX:∀(N n:Nat),n≤N→N≤9223372036854775807→∀(X:List Nat) (va:Value) (w:World),Arg w va X→Tab w→X.length≤17592186044000→blen (val X ^ n)≤1125899906816000 →
  Calls Tryz.prog 58 #[va,.int .i64 n] w (NbDone w (val X ^ n)):=by
 intro N
 induction N with
 | zero=>
  intro n hn _ X va w hA hT hx hb
  obtain rfl:n=0:=by omega
  have HP:=cz va X 0 w hA hT (by omega) (by omega)
  clear hA hT
  go_enter Tryz.func58,Tryz.ntmps58
  go_wp2_with fail
  refine HP.mono ?_
  rintro e w1 ⟨hb,v,c,rs,rfl,ha,hres⟩
  rcases hres with ⟨rfl,q1,q2,_⟩|⟨_,_,q3⟩
  ·have HD:=aa (show NbDone w (val X ^ 0) (.returned v) w1 from ⟨⟨v,rfl,rs,ha,q1,q2⟩,hb⟩)
   clear ha q1 q2 hb HP
   go_wp2
   go_returns
   exact HD.out
  ·exfalso
   rw [Nat.pow_zero] at q3
   have:blen 1≤1:=(blen_le_iff 1 1).2 (by omega)
   omega
 | succ N ih=>
  intro n hn hN X va w hA hT hx hbl
  have HP:=cz va X n w hA hT (by omega) (by omega)
  have HA:=aa hA
  have HT:=aa hT
  have HIH:Hid (∀m,m≤N→∀(X:List Nat) (va:Value) (w:World),Arg w va X→Tab w→X.length≤17592186044000→blen (val X ^ m)≤1125899906816000→Calls Tryz.prog 58 #[va,.int .i64 m] w (NbDone w (val X ^ m))):=aa fun m hm=>ih m hm (by omega)
  clear hA hT ih
  by_cases hfit:blen (val X ^ n)≤67108864
  ·clear HIH
   go_enter Tryz.func58,Tryz.ntmps58
   go_wp2_with fail
   refine HP.mono ?_
   rintro e w1 ⟨hb,v,c,rs,rfl,ha,hres⟩
   rcases hres with ⟨rfl,q1,q2,_⟩|⟨_,_,q3⟩
   ·have HD:=aa (show NbDone w (val X ^ n) (.returned v) w1 from ⟨⟨v,rfl,rs,ha,q1,q2⟩,hb⟩)
    clear ha q1 q2 hb HP
    go_wp2
    go_returns
    exact HD.out
   ·omega
  ·obtain⟨h,hh⟩:∃h,n / 2=h:=⟨_,rfl⟩
   have eh:(n:Int) / 2=(h:Int):=by omega
   have hn1:1≤n:=by
    rcases Nat.eq_zero_or_pos n with h0|h0
    ·subst h0
     exfalso
     rw [Nat.pow_zero] at hfit
     have:blen 1≤1:=(blen_le_iff 1 1).2 (by omega)
     omega
    ·exact h0
   have hx0:0<val X:=by
    rcases Nat.eq_zero_or_pos (val X) with h0|h0
    ·exfalso
     rw [h0,Nat.zero_pow hn1,show blen 0=0 from (aU 0).2 rfl] at hfit
     omega
    ·exact h0
   have hp1:val X ^ h≤val X ^ n:=Nat.pow_le_pow_right hx0 (by omega)
   have hp2:val X ^ h*val X ^ h≤val X ^ n:=by rw [←Nat.pow_add];exact Nat.pow_le_pow_right hx0 (by omega)
   have HL:=aa (And.intro (Nat.le_trans (blen_mono hp1) hbl) (Nat.le_trans (blen_mono hp2) hbl))
   have HFT:=aa hfit
   clear hp1 hp2 hbl hfit
   rcases Nat.mod_two_eq_zero_or_one n with hm|hm
   ·have em:(n:Int) % 2=0:=by omega
    have HV:Hid (val X ^ h*val X ^ h=val X ^ n):=by rw [←Nat.pow_add,show h+h=n by omega];exact aa rfl
    have hhN:h≤N:=by omega
    clear hm hh
    go_enter Tryz.func58,Tryz.ntmps58
    go_wp2_with fail
    refine HP.mono ?_
    rintro e w1 ⟨hb,v,c,rs,rfl,ha,hres⟩
    obtain rfl:c=3:=by
     rcases hres with ⟨_,_,_,q⟩|⟨q,_⟩
     ·exact absurd q HFT.out
     ·exact q
    obtain⟨ao,cap,rfl⟩:=ha.sl
    have F1:=HIH.out h (by omega) X va w1 (HA.out.below hb) (HT.out.below hb) hx (HL.out.1)
    have HB:=aa hb
    clear ha hb hres HP
    go_wp2_with fail
    refine F1.mono ?_
    rintro e w2 ⟨⟨vh,rfl,Nh⟩,hb⟩
    replace HB:=aa (HB.out.trans (hb.mono HB.out.size))
    clear hb F1
    have F1:=nprod Nh Nh (HT.out.below HB.out) HL.out.1 HL.out.1
    clear Nh
    go_wp2_with fail
    refine F1.mono ?_
    rintro e w3 ⟨⟨vm,rfl,Nm⟩,hb⟩
    replace Nm:=Nm.base HB.out.size
    replace HB:=aa (HB.out.trans (hb.mono HB.out.size))
    clear hb F1
    have HD:=aa (show NbDone w (val X ^ n) (.returned vm) w3 from ⟨⟨vm,rfl,by rw [←HV.out];exact Nm⟩,HB.out⟩)
    clear Nm
    go_wp2
    go_returns
    exact HD.out
   ·have em:(n:Int) % 2=1:=by omega
    have HV:Hid (val X ^ h*val X ^ h*val X=val X ^ n):=by rw [←Nat.pow_add,←Nat.pow_succ,show (h+h).succ=n by omega];exact aa rfl
    have hhN:h≤N:=by omega
    clear hm hh
    go_enter Tryz.func58,Tryz.ntmps58
    go_wp2_with fail
    refine HP.mono ?_
    rintro e w1 ⟨hb,v,c,rs,rfl,ha,hres⟩
    obtain rfl:c=3:=by
     rcases hres with ⟨_,_,_,q⟩|⟨q,_⟩
     ·exact absurd q HFT.out
     ·exact q
    obtain⟨ao,cap,rfl⟩:=ha.sl
    have F1:=HIH.out h (by omega) X va w1 (HA.out.below hb) (HT.out.below hb) hx (HL.out.1)
    have HB:=aa hb
    clear ha hb hres HP
    go_wp2_with fail
    refine F1.mono ?_
    rintro e w2 ⟨⟨vh,rfl,Nh⟩,hb⟩
    replace HB:=aa (HB.out.trans (hb.mono HB.out.size))
    clear hb F1
    have F1:=nprod Nh Nh (HT.out.below HB.out) HL.out.1 HL.out.1
    clear Nh
    go_wp2_with fail
    refine F1.mono ?_
    rintro e w3 ⟨⟨vm,rfl,Nm⟩,hb⟩
    replace Nm:=Nm.base HB.out.size
    replace HB:=aa (HB.out.trans (hb.mono HB.out.size))
    clear hb F1
    obtain⟨r1,a1,e1,_,l1⟩:=Nm.arg HL.out.2
    have F1:=(dV (r1.length+X.length+1) r1 X vm va w3 (by omega) (by omega) a1 (HA.out.below HB.out) (HT.out.below HB.out)).mono fun _ _ h=>h.nb
    rw [e1,HV.out] at F1
    clear Nm a1 e1
    go_wp2_with fail
    refine F1.mono ?_
    rintro e w4 ⟨⟨vz,rfl,Nz⟩,hb⟩
    have HD:=aa (show NbDone w (val X ^ n) (.returned vz) w4 from ⟨⟨vz,rfl,Nz.base HB.out.size⟩,HB.out.trans (hb.mono HB.out.size)⟩)
    clear Nz hb F1
    go_wp2
    go_returns
    exact HD.out
end Go.Proofs.YtiagnfghnfhlnaaGreatDoor
namespace Go.Proofs.YtiagnfghnfhlnaaGreatDoor
namespace Lm

def AbtR (p c l h e:Nat):Prop:=
 0<l∧l*2 ^ e≤p∧p≤h*2 ^ e∧l≤h∧h*2 ^ 250≤l*2 ^ 250+c*h∧((e=0∧l=h)∨2 ^ 255≤h)

def Abt (p c l h e:Nat):Prop:=AbtR p c l h e∧h≤2 ^ 256

theorem abt_mul_rel {T lx hx ly hy cx cy:Nat}(h1:hx*T≤lx*T+cx*hx)(h2:hy*T≤ly*T+cy*hy)(l2:ly≤hy) :
  hx*hy*T≤lx*ly*T+(cx+cy)*(hx*hy):=by
 have a1:=Nat.mul_le_mul_left hx h2
 have a2:=Nat.mul_le_mul_left ly h1
 have a3:=Nat.mul_le_mul_left (cx*hx) l2
 have e1:hx*(hy*T)=hx*hy*T:=by grind
 have e2:hx*(ly*T+cy*hy)=ly*(hx*T)+cy*(hx*hy):=by grind
 have e3:ly*(lx*T+cx*hx)=lx*ly*T+cx*hx*ly:=by grind
 have e4:(cx+cy)*(hx*hy)=cx*hx*hy+cy*(hx*hy):=by grind
 omega

theorem abt_mul {p q cx cy lx hx ex ly hy ey:Nat}(h1:AbtR p cx lx hx ex)(h2:AbtR q cy ly hy ey):AbtR (p*q) (cx+cy) (lx*ly) (hx*hy) (ex+ey):=by
 obtain⟨a0,a1,a2,a3,a4,a6⟩:=h1
 obtain⟨b0,b1,b2,b3,b4,b6⟩:=h2
 refine⟨Nat.mul_pos a0 b0,?_,?_,Nat.mul_le_mul a3 b3,abt_mul_rel a4 b4 b3,?_⟩
 ·have:=Nat.mul_le_mul a1 b1
  rw [Nat.pow_add]
  have e:lx*2 ^ ex*(ly*2 ^ ey)=lx*ly*(2 ^ ex*2 ^ ey):=by grind
  rw [←e];exact this
 ·have:=Nat.mul_le_mul a2 b2
  rw [Nat.pow_add]
  have e:hx*2 ^ ex*(hy*2 ^ ey)=hx*hy*(2 ^ ex*2 ^ ey):=by grind
  rw [←e];exact this
 ·have px:0<hx:=Nat.lt_of_lt_of_le a0 a3
  have py:0<hy:=Nat.lt_of_lt_of_le b0 b3
  rcases a6 with ⟨c1,c2⟩|c1
  ·rcases b6 with ⟨d1,d2⟩|d1
   ·exact .inl ⟨by omega,by rw [c2,d2]⟩
   ·exact .inr (Nat.le_trans d1 (Nat.le_mul_of_pos_left _ px))
  ·exact .inr (Nat.le_trans c1 (Nat.le_mul_of_pos_right _ py))

theorem abt_first {v:Nat}(hv:0<v):AbtR v 0 v v 0:=
 ⟨hv,by simp,by simp,Nat.le_refl _,by omega,.inl ⟨rfl,rfl⟩⟩

theorem abt_cut_rel {T K l h c:Nat}(hK:0<K)(hT:2*(K*T)≤h)(h1:h*T≤l*T+c*h) :
  (h / K+1)*T≤l / K*T+(c+1)*(h / K+1):=by
 refine Nat.le_of_mul_le_mul_left (c:=K) ?_ hK
 have d1:=Nat.div_add_mod h K
 have d2:=Nat.div_add_mod l K
 have m1:=Nat.mod_lt h hK
 have m2:=Nat.mod_lt l hK
 generalize h / K=qh at *
 generalize l / K=ql at *
 generalize h % K=rh at *
 generalize l % K=rl at *
 have e1:K*((qh+1)*T)=(K*qh)*T+K*T:=by grind
 have e2:K*(ql*T+(c+1)*(qh+1))=(K*ql)*T+(c+1)*(K*qh+K):=by grind
 have f1:(K*qh)*T≤h*T:=Nat.mul_le_mul_right _ (by omega)
 have f2:l*T≤(K*ql+K)*T:=Nat.mul_le_mul_right _ (by omega)
 have f3:(c+1)*h≤(c+1)*(K*qh+K):=Nat.mul_le_mul_left _ (by omega)
 have e3:(K*ql+K)*T=(K*ql)*T+K*T:=by grind
 have e4:(c+1)*h=c*h+h:=by grind
 omega

theorem abt_cut {p c l h e n:Nat}(hc:c≤2 ^ 249)(h1:AbtR p c l h e)(lo:2 ^ (n+255)≤h)(hi:h<2 ^ (n+256)):Abt p (c+1) (l / 2 ^ n) (h / 2 ^ n+1) (e+n):=by
 obtain⟨a0,a1,a2,a3,a4,a6⟩:=h1
 have hK:=Nat.two_pow_pos n
 rw [Nat.pow_add] at lo hi
 have l1:=Nat.div_add_mod l (2 ^ n)
 have m1:=Nat.mod_lt l hK
 have l2:=Nat.div_add_mod h (2 ^ n)
 have m2:=Nat.mod_lt h hK
 have hq:2 ^ 255≤h / 2 ^ n:=by rw [Nat.le_div_iff_mul_le hK,Nat.mul_comm];exact lo
 have hr:h / 2 ^ n<2 ^ 256:=by rw [Nat.div_lt_iff_lt_mul hK,Nat.mul_comm];exact hi
 have hl:h≤2*l:=by
  have:=Nat.mul_le_mul_right h hc
  omega
 refine⟨⟨?_,?_,?_,?_,?_,.inr (by omega)⟩,by omega⟩
 ·have h2:1*2 ^ n≤l:=by omega
  exact (Nat.le_div_iff_mul_le hK).2 h2
 ·rw [Nat.pow_add]
  have:l / 2 ^ n*(2 ^ e*2 ^ n)≤l*2 ^ e:=by
   have e1:l / 2 ^ n*(2 ^ e*2 ^ n)=(2 ^ n*(l / 2 ^ n))*2 ^ e:=by grind
   rw [e1]
   exact Nat.mul_le_mul_right _ (by omega)
  omega
 ·rw [Nat.pow_add]
  have:h*2 ^ e≤(h / 2 ^ n+1)*(2 ^ e*2 ^ n):=by
   have e1:(h / 2 ^ n+1)*(2 ^ e*2 ^ n)=(2 ^ n*(h / 2 ^ n)+2 ^ n)*2 ^ e:=by grind
   rw [e1]
   exact Nat.mul_le_mul_right _ (by omega)
  omega
 ·have:=Nat.div_le_div_right (c:=2 ^ n) a3
  omega
 ·exact abt_cut_rel hK (by omega) a4

def Near (a l h e:Nat):Prop:=l≤a / 2 ^ e∧a / 2 ^ e≤h

theorem bern (v m:Nat):v ^ m*(v+m)≤(v+1) ^ m*v:=by
 induction m with
 | zero=>simp
 | succ m ih=>
  have h1:=Nat.mul_le_mul_right (v+1) ih
  have e1:(v+1) ^ m*v*(v+1)=(v+1) ^ (m+1)*v:=by rw [Nat.pow_succ];grind
  have e2:v ^ (m+1)*(v+(m+1))+v ^ m*m=v ^ m*(v+m)*(v+1):=by rw [Nat.pow_succ];grind
  omega

theorem near_lt {a m v c l h e:Nat}(hA:AbtR (v ^ m) c l h e)(hN:Near a l h e)(hv:v<2 ^ 64)(hm1:1≤m)(hc:c≤2*m)(hm:m≤2 ^ 60):a<(v+1) ^ m:=by
 obtain⟨a0,a1,a2,a3,a4,a6⟩:=hA
 obtain⟨n1,n2⟩:=hN
 rcases a6 with ⟨rfl,rfl⟩|a6
 ·rw [Nat.pow_zero,Nat.div_one] at n1 n2
  rw [Nat.pow_zero,Nat.mul_one] at a1 a2
  have:a=v ^ m:=by omega
  rw [this]
  exact Nat.pow_lt_pow_left (Nat.lt_succ_self v) (by omega)
 ·have hK:=Nat.two_pow_pos e
  have hlt:a<(h+1)*2 ^ e:=by
   have:=Nat.lt_mul_div_succ a hK
   rw [Nat.mul_comm] at this
   exact Nat.lt_of_lt_of_le this (Nat.mul_le_mul_right _ (by omega))
  have hvp:0<v:=by
   rcases Nat.eq_zero_or_pos v with z|z
   ·subst z
    rw [Nat.zero_pow (by omega)] at a1
    have:=Nat.mul_pos a0 hK
    omega
   ·exact z
  have hl:h≤2*l:=by
   have:=Nat.mul_le_mul_right h (show c≤2 ^ 249 by omega)
   omega
  have key:(h+1)*v≤l*(v+m):=by
   have t1:2 ^ 250=32768*2 ^ 235:=by decide
   have t2:2 ^ 255=1048576*2 ^ 235:=by decide
   have t3:2 ^ 249=16384*2 ^ 235:=by decide
   have t4:2 ^ 65*32768≤2 ^ 235:=by decide
   have t5:0<2 ^ 250:=by decide
   have t6:2 ^ 64≤2 ^ 65:=by decide
   have t7:2 ^ 65=2*2 ^ 64:=by decide
   rw [t2] at a6
   rw [t1] at a4
   clear t2 t3 t1 t5
   generalize hT:2 ^ 235=T at *
   have tp:0<T:=by omega
   generalize 2 ^ 65=V at *
   generalize 2 ^ 64=U at *
   refine Nat.le_of_mul_le_mul_right (c:=32768*T) ?_ (by omega)
   have k1:=Nat.mul_le_mul_right v a4
   have k2:c*h*v≤m*h*V:=by
    have k3:c*h≤2*m*h:=Nat.mul_le_mul_right _ hc
    have k4:=Nat.mul_le_mul k3 (Nat.le_of_lt hv)
    have e1:2*m*h*U=m*h*V:=by rw [t7];grind
    omega
   have k6:1048576*T≤m*h:=Nat.le_trans a6 (Nat.le_mul_of_pos_left _ hm1)
   have k5:v*(32768*T)≤m*h*V:=by
    have q1:(32768*T)*v≤(m*h)*V:=Nat.mul_le_mul (by omega) (by omega)
    rw [Nat.mul_comm] at q1
    exact q1
   have k7:m*h*(16384*T)≤l*m*(32768*T):=by
    have q0:=Nat.mul_le_mul_left m hl
    have e1:m*(2*l)=2*(l*m):=by grind
    have q1:m*h*(16384*T)≤2*(l*m)*(16384*T):=Nat.mul_le_mul_right _ (by omega)
    have e2:2*(l*m)*(16384*T)=l*m*(32768*T):=by grind
    omega
   have k8:m*h*V+m*h*V≤m*h*(16384*T):=by
    rw [←Nat.mul_add]
    exact Nat.mul_le_mul_left _ (by omega)
   have e1:(h+1)*v*(32768*T)=h*(32768*T)*v+v*(32768*T):=by grind
   have e2:(l*(32768*T)+c*h)*v=l*(32768*T)*v+c*h*v:=by grind
   have e3:l*(v+m)*(32768*T)=l*(32768*T)*v+l*m*(32768*T):=by grind
   omega
  refine Nat.lt_of_mul_lt_mul_right (a:=v) ?_
  have b:=bern v m
  have c1:a*v<(h+1)*2 ^ e*v:=Nat.mul_lt_mul_of_pos_right hlt hvp
  have c2:=Nat.mul_le_mul_right (2 ^ e) key
  have c3:=Nat.mul_le_mul_right (v+m) a1
  have e1:(h+1)*2 ^ e*v=(h+1)*v*2 ^ e:=by grind
  have e2:l*2 ^ e*(v+m)=l*(v+m)*2 ^ e:=by grind
  omega

theorem abt_below {a p c l h e:Nat}(hA:AbtR p c l h e)(hlt:h<a / 2 ^ e):p<a:=by
 obtain⟨a0,a1,a2,a3,a4,a6⟩:=hA
 have h1:(h+1)*2 ^ e≤a / 2 ^ e*2 ^ e:=Nat.mul_le_mul_right _ hlt
 have h2:=Nat.div_mul_le_self a (2 ^ e)
 have h3:=Nat.two_pow_pos e
 rw [Nat.add_mul] at h1
 omega

theorem abt_above {a p c l h e:Nat}(hA:AbtR p c l h e)(hlt:a / 2 ^ e<l):a<p:=by
 obtain⟨a0,a1,a2,a3,a4,a6⟩:=hA
 have h1:=(Nat.div_lt_iff_lt_mul (Nat.two_pow_pos e)).1 hlt
 omega

theorem abt_exp {p c l h e N:Nat}(hA:AbtR p c l h e)(hp:p<2 ^ N):e<N:=by
 obtain⟨a0,a1,_⟩:=hA
 have h1:2 ^ e≤l*2 ^ e:=Nat.le_mul_of_pos_left _ a0
 exact (Nat.pow_lt_pow_iff_right (a:=2) (by omega)).1 (by omega)

end Lm
end Go.Proofs.YtiagnfghnfhlnaaGreatDoor
namespace Go.Proofs.YtiagnfghnfhlnaaGreatDoor
open Go.RowKit
open Lm
attribute [local go_sem ↓] Go.wp_at_zero Go.wp_at_succ

def Ab (w:World)(v:Value)(p c:Nat):Prop:=∃vl vh l h e,v=.agg #[vl,vh,.int .i64 ((e:Nat):Int)]∧Nb w 0 vl l∧Nb w 0 vh h∧Abt p c l h e

theorem Ab.below {w w':World}{v:Value}{p c:Nat}(h:Ab w v p c)(hb:Below w.heap.size w w'):Ab w' v p c:=by
 obtain⟨vl,vh,l,h,e,h1,h2,h3,h4⟩:=h
 exact⟨vl,vh,l,h,e,h1,h2.below hb,h3.below hb,h4⟩

namespace Lm

theorem abtR_mono {p c d l h e:Nat}(hA:AbtR p c l h e)(hcd:c≤d):AbtR p d l h e:=by
 obtain⟨a0,a1,a2,a3,a4,a6⟩:=hA
 exact⟨a0,a1,a2,a3,Nat.le_trans a4 (Nat.add_le_add_left (Nat.mul_le_mul_right _ hcd) _),a6⟩

theorem abt_le {p c d l h e:Nat}(hA:Abt p c l h e)(hcd:c≤d):Abt p d l h e:=⟨abtR_mono hA.1 hcd,hA.2⟩

theorem cmpN_le {x y:Nat}(h:x≤y):cmpN x y≤0:=by
 unfold cmpN
 split
 ·omega
 ·rw [if_neg (by omega)];omega

theorem blen_pow5 {x n:Nat}(h:x≤2 ^ n):blen x≤n+1:=(blen_le_iff x _).2 (Nat.lt_of_le_of_lt h (Nat.pow_lt_pow_right (by omega) (by omega)))

theorem blen_mul4 {a b m n:Nat}(ha:blen a≤m)(hb:blen b≤n):blen (a*b)≤m+n:=by
 refine (blen_le_iff _ _).2 ?_
 have h1:=(blen_le_iff a m).1 ha
 have h2:=(blen_le_iff b n).1 hb
 rw [Nat.pow_add]
 exact Nat.mul_lt_mul_of_lt_of_lt h1 h2

theorem abt_whole {p c l h e:Nat}(hA:AbtR p c l h e)(hb:blen h≤256):Abt p c l h e:=⟨hA,Nat.le_of_lt ((blen_le_iff h 256).1 hb)⟩

theorem abt_shorter {p c l h e n:Nat}(hc:c≤2 ^ 249)(hA:AbtR p c l h e)(hn:blen h=n+256):Abt p (c+1) (l / 2 ^ n) (h / 2 ^ n+1) (e+n):=by
 refine abt_cut hc hA ?_ ?_
 ·have h0:h≠0:=by
   rintro rfl
   rw [show blen 0=0 from (aU 0).2 rfl] at hn
   omega
  have:=bi h h0
  rwa [hn,show n+256 - 1=n+255 by omega] at this
 ·rw [←hn];exact (blen_le_iff h _).1 (Nat.le_refl _)

end Lm

theorem cell_up4 {w w':World}{g o:Nat}{v:Value}(hb:Below w.heap.size w w')(h:w.cell? ⟨g,o,none⟩=some v):w'.cell? ⟨g,o,none⟩=some v:=by
 rw [hb.cell (p:=⟨g,o,none⟩) ?_]
 ·exact h
 ·show g<w.heap.size
  rcases Nat.lt_or_ge g w.heap.size with h' | h'
  ·exact h'
  ·simp [World.cell?,Array.getElem?_eq_none h'] at h

theorem box_other4 {w:World}{h g o:Nat}{x:Obj}{v:Value}(e:w.heap[h]?=some x)(hne:h≠g):(w.setCell ⟨g,o,none⟩ v).heap[h]?=some x:=by
 rw [Below.heap_setCell _ _ _ _ hne];exact e

theorem Nb.slice {w:World}{base:Nat}{v:Value}{x:Nat}(h:Nb w base v x):∃ao n cap,v=.slice ao n cap:=by
 obtain⟨rs,ha,_⟩:=h
 obtain⟨ao,cap,e⟩:=ha.sl
 exact⟨ao,_,cap,e⟩

theorem set_other4 {w:World}{g k g' k':Nat}{u:Value}(h:g≠g'):(w.setCell ⟨g,k,none⟩ u).cell? ⟨g',k',none⟩=w.cell? ⟨g',k',none⟩:=by
 simp only [World.cell?]
 rw [Below.heap_setCell _ _ _ _ (by exact Ne.symm h)]

theorem Nb.drew4 {w:World}{base:Nat}{v:Value}{x:Nat}(h:Nb w base v x):Nb w.drew base v x:=h.below (Below.refl _ _).drew

theorem ndown {w:World}{b1:Nat}{v1:Value}{x n:Nat}(h1:Nb w b1 v1 x)(l1:blen x≤1125899906816000)(hn:n≤4611686018427387904):Calls Tryz.prog 50 #[v1,.int .i64 n] w (NbDone w (x / 2 ^ n)):=by
 obtain⟨r1,a1,rfl,_,n1⟩:=h1.arg l1
 exact (cr v1 r1 n w a1 (by omega) hn).mono fun _ _ h=>h.nb

theorem nlength {w:World}{b1:Nat}{v1:Value}{x:Nat}(h1:Nb w b1 v1 x)(l1:blen x≤1125899906816000):Calls Tryz.prog 13 #[v1] w fun e w'=>e=.returned (.int .i64 ((blen x:Nat):Int))∧w'=w:=by
 obtain⟨r1,a1,rfl,_,n1⟩:=h1.arg l1
 exact az v1 r1 w a1

theorem nmul {w:World}{b1 b2:Nat}{v1 v2:Value}{x y:Nat}(h1:Nb w b1 v1 x)(h2:Nb w b2 v2 y)(hT:Tab w)(hl:blen x≤1000000)(hl2:blen y≤1000000) :
  Calls Tryz.prog 16 #[v1,v2] w fun e w'=>(∃v,e=.returned (.tuple #[v,.int .i64 0])∧Nb w' w.heap.size v (x*y))∧Below w.heap.size w w':=by
 obtain⟨r1,a1,rfl,_,n1⟩:=h1.arg (by omega)
 obtain⟨r2,a2,rfl,_,n2⟩:=h2.arg (by omega)
 refine (bO v1 v2 r1 r2 w a1 a2 hT (by omega)).mono ?_
 rintro e w' ⟨hb,v,c,rs,rfl,ha,hres⟩
 rcases hres with ⟨rfl,q1,q2,_⟩|⟨_,_,q3⟩
 ·exact⟨⟨v,rfl,rs,ha,q1,q2⟩,hb⟩
 ·exfalso
  have:=blen_mul4 hl hl2
  omega

theorem Nb.set {w:World}{base g o:Nat}{v u:Value}{x:Nat}{vs:Array Value}(h:Nb w base v x)(hl:w.heap[g]?=some (.cells vs 93)):Nb (w.setCell ⟨g,o,none⟩ u) base v x:=by
 obtain⟨rs,ha,h2⟩:=h
 have hne:v.ownBlock≠some g:=by
  obtain⟨_,h2⟩:=ha.own
  rcases h2 with ⟨rfl,_⟩|⟨g',cap,cur,rfl,_,hh,_⟩
  ·simp [Value.ownBlock]
  ·intro e
   simp [Value.ownBlock] at e
   subst e
   rw [hl] at hh
   simp at hh
 exact⟨rs,⟨ownsRow_setCell_other ha.own hne _,ha.limbs⟩,h2⟩

theorem Nb.set3 {w:World}{base g:Nat}{v u0 u1 u2 a b d:Value}{x:Nat}(h:Nb w base v x)(hl:w.heap[g]?=some (.cells #[a,b,d] 93)):Nb (((w.setCell ⟨g,0,none⟩ u0).setCell ⟨g,1,none⟩ u1).setCell ⟨g,2,none⟩ u2) base v x:=
 ((h.set hl).set (bn hl u0)).set (bn (bn hl u0) u1)

theorem Ab.set3 {w:World}{g p c:Nat}{v u0 u1 u2 a b d:Value}(h:Ab w v p c)(hl:w.heap[g]?=some (.cells #[a,b,d] 93)):Ab (((w.setCell ⟨g,0,none⟩ u0).setCell ⟨g,1,none⟩ u1).setCell ⟨g,2,none⟩ u2) v p c:=by
 obtain⟨vl,vh,l,h,e,h1,h2,h3,h4⟩:=h
 exact⟨vl,vh,l,h,e,h1,h2.set3 hl,h3.set3 hl,h4⟩

theorem below_one (w:World)(o:Obj):Below w.heap.size w (w.alloc o):=(Below.refl _ _).alloc (Nat.le_refl _) _

theorem below_set3 {B:Nat}{w0 w:World}{g:Nat}{u0 u1 u2:Value}(h:Below B w0 w)(hg:B≤g):Below B w0 (((w.setCell ⟨g,0,none⟩ u0).setCell ⟨g,1,none⟩ u1).setCell ⟨g,2,none⟩ u2):=
 ((h.setCell (p:=⟨g,0,none⟩) hg u0).setCell (p:=⟨g,1,none⟩) hg u1).setCell (p:=⟨g,2,none⟩) hg u2

theorem block_up {w w':World}{g:Nat}{x:Obj}(hb:Below w.heap.size w w')(h:w.heap[g]?=some x):w'.heap[g]?=some x:=by
 rw [hb.block g (lt_of_block h)];exact h

theorem cut_any (vl vh:Value)(l h e p c:Nat)(w:World)(Nl:Nb w 0 vl l)(Nh:Nb w 0 vh h)(hA:AbtR p c l h e)(hc:c≤2 ^ 200)(bh:blen h≤67108864)(he:e≤2305843009213693952) :
  Calls Tryz.prog 93 #[.agg #[vl,vh,.int .i64 (e:Int)]] w fun en w'=>(∃v,en=.returned v∧Ab w' v p (c+1))∧Below w.heap.size w w':=by
 have bl:blen l≤67108864:=Nat.le_trans (blen_mono hA.2.2.2.1) bh
 obtain⟨al,ml,kl,rfl⟩:=Nl.slice
 obtain⟨ah,mh,kh,rfl⟩:=Nh.slice
 obtain⟨w0,hw0⟩:∃w0,w0=(w.alloc (.cells #[(.slice al ml kl),(.slice ah mh kh),.int .i64 (e:Int)] 93)).alloc (.cells #[.slice none 0 0,.slice none 0 0,.int .i64 0] 93):=⟨_,rfl⟩
 have hba:Below w.heap.size w (w.alloc (.cells #[(.slice al ml kl),(.slice ah mh kh),.int .i64 (e:Int)] 93)):=below_one _ _
 have hb0:Below w.heap.size w w0:=by rw [hw0];exact hba.alloc hba.size _
 have hs1:(w.alloc (.cells #[(.slice al ml kl),(.slice ah mh kh),.int .i64 (e:Int)] 93)).heap.size=w.heap.size+1:=World.size_alloc _ _
 obtain⟨c0,c1,c2⟩:=ax (show w0.heap[w.heap.size]?=some (.cells #[(.slice al ml kl),(.slice ah mh kh),.int .i64 (e:Int)] 93) by
  have hb:Below (w.alloc (.cells #[(.slice al ml kl),(.slice ah mh kh),.int .i64 (e:Int)] 93)).heap.size (w.alloc (.cells #[(.slice al ml kl),(.slice ah mh kh),.int .i64 (e:Int)] 93)) w0:=by rw [hw0];exact below_one _ _
  rw [hb.block w.heap.size (by omega)];exact heap_alloc_new ..)
 have hz:w0.heap[w.heap.size+1]?=some (.cells #[.slice none 0 0,.slice none 0 0,.int .i64 0] 93):=by
  have h:=heap_alloc_new (w.alloc (.cells #[(.slice al ml kl),(.slice ah mh kh),.int .i64 (e:Int)] 93)) (.cells #[.slice none 0 0,.slice none 0 0,.int .i64 0] 93)
  rw [hs1,←hw0] at h
  exact h
 obtain⟨g,hg⟩:∃g,w.heap.size+1=g:=⟨_,rfl⟩
 rw [hg] at hz
 have hgw:w.heap.size<g:=by omega
 have HZ:=aa hz
 have HGG:=aa hg
 have HW0:=aa hw0
 have N0:=Nl.below hb0
 have N1:=Nh.below hb0
 have L1:=nlength N1 (by omega)
 have HB:Hid (Below w.heap.size w w0):=aa hb0
 clear Nl Nh hw0 hb0 hs1 hba hz hg
 by_cases hn:blen h≤256
 ·have HR:=aa (abt_le (abt_whole hA hn) (Nat.le_succ c))
  obtain⟨n,hn2⟩:∃n:Nat,(blen h:Int) - 256=-(n:Int):=⟨256 - blen h,by omega⟩
  have hnb:n≤256:=by omega
  have i1:-(n:Int)≤0:=by omega
  have HAB:Hid (Ab w0 (.agg #[(.slice al ml kl),(.slice ah mh kh),.int .i64 (e:Int)]) p (c+1)):=aa ⟨_,_,l,h,e,rfl,N0,N1,HR.out⟩
  have hf:=b9 HZ.out
  obtain⟨r0,r1,r2⟩:=ax HZ.out
  clear N0 N1 HR hA
  generalize blen h=lh at *
  go_enter Tryz.func93,Tryz.ntmps93
  go_wp2_with fail
  rw [←HW0.out]
  refine L1.mono ?_
  rintro e' wn ⟨rfl,hw⟩;rw [hw,HGG.out];clear hw wn L1
  go_wp2
  have R5:=cm HZ.out (a':=.slice al ml kl) (b':=.slice ah mh kh) (c':=.int .i64 (e:Int))
  have HD:=aa (And.intro (HAB.out.set3 (u0:=.slice al ml kl) (u1:=.slice ah mh kh) (u2:=.int .i64 (e:Int)) HZ.out) (below_set3 HB.out (g:=g) (u0:=.slice al ml kl) (u1:=.slice ah mh kh) (u2:=.int .i64 (e:Int)) (by omega)))
  generalize ((w0.setCell ⟨g,0,none⟩ (.slice al ml kl)).setCell ⟨g,1,none⟩ (.slice ah mh kh)).setCell ⟨g,2,none⟩ (.int .i64 (e:Int))=w5 at *
  obtain⟨q0,q1,q2⟩:=ax R5
  refine bodyPost_ret (v:=.agg #[.slice al ml kl,.slice ah mh kh,.int .i64 (e:Int)]) (by simp [results,Tryz.results93,go_sem,q0,q1,q2]) rfl ?_
  exact⟨⟨_,rfl,HD.out.1⟩,HD.out.2⟩
 ·obtain⟨n,hn2⟩:∃n:Nat,blen h=n+256:=⟨blen h - 256,by omega⟩
  have HR:=aa (abt_shorter (Nat.le_trans hc (by decide)) hA hn2)
  rw [hn2] at L1
  obtain⟨lh,elh⟩:∃lh:Nat,n+256=lh:=⟨_,rfl⟩
  rw [elh] at L1
  have e1:(lh:Int) - 256=(n:Int):=by omega
  have i1:¬(n:Int)≤0:=by omega
  have hnb:n≤67108864:=by omega
  obtain⟨en,hen,een⟩:∃en:Nat,e+n=en∧(e:Int)+(n:Int)=(en:Int):=⟨e+n,rfl,by omega⟩
  rw [hen] at HR
  have wen:IntKind.i64.wrap ((e:Int)+(n:Int))=(en:Int):=by rw [IntKind.wrap_i64];omega
  have wen2:IntKind.i64.wrap (en:Int)=(en:Int):=by rw [IntKind.wrap_i64];omega
  have F1:=ndown (n:=n) N0.drew4 (by omega) (by omega)
  have F2:=aa (fun (w1:World) (hb1:Below w0.drew.heap.size w0.drew w1)=>ndown (n:=n) (N1.drew4.below hb1) (by omega) (by omega))
  have hbd2:blen (h / 2 ^ n)≤67108864:=Nat.le_trans (blen_mono (Nat.div_le_self _ _)) bh
  have F4:=aa (fun (w2 w3:World) (v2 v3:Value) (b2:Nat) (M2:Nb w2 b2 v2 (h / 2 ^ n)) (hb3:Below w2.heap.size w2 w3) (M3:Nb w3 w2.heap.size v3 1)=>nsum (M2.below hb3) M3 (by omega) (by rw [show blen 1=1 from rfl];omega))
  clear hA hn hn2 hen N0 N1 elh
  have hso:∀(W:World) (k:Nat) (u:Value) (k':Nat),(W.setCell ⟨g,k,none⟩ u).cell? ⟨w.heap.size,k',none⟩=W.cell? ⟨w.heap.size,k',none⟩:=fun W k u k'=>set_other4 (by omega)
  have HZD:Hid (w0.drew.heap[g]?=some (.cells #[.slice none 0 0,.slice none 0 0,.int .i64 0] 93)):=HZ
  have d0:w0.drew.cell? ⟨w.heap.size,0,none⟩=some (.slice al ml kl):=c0
  have d1:w0.drew.cell? ⟨w.heap.size,1,none⟩=some (.slice ah mh kh):=c1
  have d2:w0.drew.cell? ⟨w.heap.size,2,none⟩=some (.int .i64 (e:Int)):=c2
  go_enter Tryz.func93,Tryz.ntmps93
  go_wp2_with fail
  rw [←HW0.out]
  refine L1.mono ?_
  rintro e' wn ⟨rfl,hw⟩;rw [hw,HGG.out];clear hw wn L1
  go_wp2
  go_region_held3 (fun w'=>w'.cell? ⟨w.heap.size,0,none⟩=some (.slice al ml kl)∧w'.cell? ⟨w.heap.size,1,none⟩=some (.slice ah mh kh)∧w'.cell? ⟨w.heap.size,2,none⟩=some (.int .i64 (e:Int))) (go_keep) (first
   | (go_at_call_of 50 al;refine F1.mono ?_;rintro e' w1 ⟨⟨v1,rfl,M1⟩,hb1⟩;obtain⟨a1,m1,k1,rfl⟩:=M1.slice;have x0:=cell_up4 hb1 d0;have x1:=cell_up4 hb1 d1;have x2:=cell_up4 hb1 d2)
   | (go_at_call 50;refine (F2.out w1 hb1).mono ?_;rintro e' w2 ⟨⟨v2,rfl,M2⟩,hb2⟩;have y0:=cell_up4 hb2 x0;have y1:=cell_up4 hb2 x1;have y2:=cell_up4 hb2 x2)
   | (go_at_call 21;refine (nfrom 1 w2 (by omega)).mono ?_;rintro e' w3 ⟨⟨v3,rfl,M3⟩,hb3⟩;have z0:=cell_up4 hb3 y0;have z1:=cell_up4 hb3 y1;have z2:=cell_up4 hb3 y2)
   | (go_at_call 55;refine (F4.out w2 w3 v2 v3 _ M2 hb3 M3).mono ?_;rintro e' w4 ⟨⟨v4,rfl,M4⟩,hb4⟩;obtain⟨a4,m4,k4,rfl⟩:=M4.slice;have u0:=cell_up4 hb4 z0;have u1:=cell_up4 hb4 z1;have u2:=cell_up4 hb4 z2;have hz4:=block_up hb4 (block_up hb3 (block_up hb2 (block_up hb1 HZD.out)));have hf4:=b9 hz4;obtain⟨t0,t1,t2⟩:=ax hz4))
  have hb1':=aO hb1
  replace HB:=ak (ak (ak (ak HB hb1') hb2) hb3) hb4
  have HZ4:=aa hz4
  have HAB:Hid (Ab w4 (.agg #[.slice a1 m1 k1,.slice a4 m4 k4,.int .i64 (en:Int)]) p (c+1)):=aa ⟨_,_,_,_,en,rfl,(((M1.below hb2).below hb3).below hb4).base (Nat.zero_le _),M4.base (Nat.zero_le _),HR.out⟩
  have R5:=cm HZ4.out (a':=.slice a1 m1 k1) (b':=.slice a4 m4 k4) (c':=.int .i64 (en:Int))
  have HD:=aa (And.intro (HAB.out.set3 (u0:=.slice a1 m1 k1) (u1:=.slice a4 m4 k4) (u2:=.int .i64 (en:Int)) HZ4.out) (below_set3 HB.out (g:=g) (u0:=.slice a1 m1 k1) (u1:=.slice a4 m4 k4) (u2:=.int .i64 (en:Int)) (by omega)))
  clear hso hf4 t0 t1 t2 u0 u1 u2 x0 x1 x2 y0 y1 y2 z0 z1 z2 hz4 M1 M2 M3 M4 hb1 hb1' hb2 hb3 hb4
  generalize ((w4.setCell ⟨g,0,none⟩ (.slice a1 m1 k1)).setCell ⟨g,1,none⟩ (.slice a4 m4 k4)).setCell ⟨g,2,none⟩ (.int .i64 (en:Int))=w5 at *
  obtain⟨q0,q1,q2⟩:=ax R5
  go_wp2
  refine bodyPost_ret (v:=.agg #[.slice a1 m1 k1,.slice a4 m4 k4,.int .i64 (en:Int)]) (by simp [results,Tryz.results93,go_sem,q0,q1,q2]) rfl ?_
  exact⟨⟨_,rfl,HD.out.1⟩,HD.out.2⟩

theorem times_any (vx vy:Value)(p q c d:Nat)(w:World)(hx:Ab w vx p c)(hy:Ab w vy q d)(hT:Tab w)(hcd:c+d≤2 ^ 200)(hp:blen (p*q)≤2305843009213693952) :
  Calls Tryz.prog 94 #[vx,vy] w fun en w'=>(∃v,en=.returned v∧Ab w' v (p*q) (c+d+1))∧Below w.heap.size w w':=by
 obtain⟨xl,xh,lx,hx,ex,rfl,N1,N2,X⟩:=hx
 obtain⟨yl,yh,ly,hy,ey,rfl,N3,N4,Y⟩:=hy
 have XY:=abt_mul X.1 Y.1
 have hex:ex+ey≤2305843009213693952:=Nat.le_trans (Nat.le_of_lt (abt_exp XY ((blen_le_iff _ _).1 (Nat.le_refl _)))) hp
 have bx:blen hx≤257:=blen_pow5 X.2
 have by_:blen hy≤257:=blen_pow5 Y.2
 have blx:blen lx≤257:=Nat.le_trans (blen_mono X.1.2.2.2.1) bx
 have bly:blen ly≤257:=Nat.le_trans (blen_mono Y.1.2.2.2.1) by_
 have bxy:blen (hx*hy)≤257+257:=blen_mul4 bx by_
 obtain⟨a1,m1,k1,rfl⟩:=N1.slice
 obtain⟨a2,m2,k2,rfl⟩:=N2.slice
 obtain⟨a3,m3,k3,rfl⟩:=N3.slice
 obtain⟨a4,m4,k4,rfl⟩:=N4.slice
 obtain⟨wa,hwa⟩:∃wa,wa=w.alloc (.cells #[.slice a1 m1 k1,.slice a2 m2 k2,.int .i64 (ex:Int)] 93):=⟨_,rfl⟩
 obtain⟨wb,hwb⟩:∃wb,wb=wa.alloc (.cells #[.slice a3 m3 k3,.slice a4 m4 k4,.int .i64 (ey:Int)] 93):=⟨_,rfl⟩
 obtain⟨w0,hw0⟩:∃w0,w0=wb.alloc (.cells #[.slice none 0 0,.slice none 0 0,.int .i64 0] 93):=⟨_,rfl⟩
 have ha:Below w.heap.size w wa:=by rw [hwa];exact below_one _ _
 have hb:Below wa.heap.size wa wb:=by rw [hwb];exact below_one _ _
 have hc:Below wb.heap.size wb w0:=by rw [hw0];exact below_one _ _
 have sa:wa.heap.size=w.heap.size+1:=by rw [hwa];exact World.size_alloc _ _
 have sb:wb.heap.size=w.heap.size+1+1:=by rw [hwb,World.size_alloc,sa]
 have hb0:Below w.heap.size w w0:=(ha.trans (hb.mono ha.size)).trans (hc.mono (ha.trans (hb.mono ha.size)).size)
 obtain⟨c0,c1,c2⟩:=ax (show w0.heap[w.heap.size]?=some (.cells #[.slice a1 m1 k1,.slice a2 m2 k2,.int .i64 (ex:Int)] 93) from block_up hc (block_up hb (by rw [hwa];exact heap_alloc_new ..)))
 obtain⟨d0,d1,d2⟩:=ax (show w0.heap[w.heap.size+1]?=some (.cells #[.slice a3 m3 k3,.slice a4 m4 k4,.int .i64 (ey:Int)] 93) from block_up hc (by rw [hwb,←sa];exact heap_alloc_new ..))
 have hz:w0.heap[w.heap.size+1+1]?=some (.cells #[.slice none 0 0,.slice none 0 0,.int .i64 0] 93):=by rw [hw0,←sb];exact heap_alloc_new ..
 have HW0:Hid (((w.alloc (.cells #[.slice a1 m1 k1,.slice a2 m2 k2,.int .i64 (ex:Int)] 93)).alloc (.cells #[.slice a3 m3 k3,.slice a4 m4 k4,.int .i64 (ey:Int)] 93)).alloc (.cells #[.slice none 0 0,.slice none 0 0,.int .i64 0] 93)=w0):=aa (by rw [hw0,hwb,hwa])
 obtain⟨g,hg⟩:∃g,w.heap.size+1+1=g:=⟨_,rfl⟩
 rw [hg] at hz
 have hgw:w.heap.size<g:=by omega
 have HGG:=aa hg
 have HB:Hid (Below w.heap.size w w0):=aa hb0
 have HT:=aa hT
 replace N1:=N1.below hb0;replace N2:=N2.below hb0;replace N3:=N3.below hb0;replace N4:=N4.below hb0
 have F1:=nmul N1 N3 (hT.below hb0) (by omega) (by omega)
 obtain⟨es,hes,ees⟩:∃es:Nat,ex+ey=es∧(ex:Int)+(ey:Int)=(es:Int):=⟨ex+ey,rfl,by omega⟩
 rw [hes] at XY hex
 have HXY:=aa XY
 clear N1 N3 hw0 hwa hwb ha hb hc sa sb hb0 XY X Y hes hT hp hg
 go_enter Tryz.func94,Tryz.ntmps94
 go_wp2_with fail
 rw [HW0.out]
 refine F1.mono ?_
 rintro e' w1 ⟨⟨v1,rfl,M1⟩,hb⟩
 obtain⟨a5,m5,k5,rfl⟩:=M1.slice
 replace M1:=M1.base (Nat.zero_le _)
 replace N2:=N2.below hb;replace N4:=N4.below hb
 replace c0:=cell_up4 hb c0;replace c1:=cell_up4 hb c1;replace c2:=cell_up4 hb c2;replace d0:=cell_up4 hb d0;replace d1:=cell_up4 hb d1;replace d2:=cell_up4 hb d2
 replace HB:=ak HB hb
 replace hz:=block_up hb hz
 clear hb F1
 have F2:=nmul N2 N4 (HT.out.below HB.out) (by omega) (by omega)
 clear N2 N4
 go_wp2_with fail
 refine F2.mono ?_
 rintro e' w2 ⟨⟨v2,rfl,M2⟩,hb⟩
 obtain⟨a6,m6,k6,rfl⟩:=M2.slice
 replace M1:=M1.below hb;replace M2:=M2.base (Nat.zero_le _)
 replace c0:=cell_up4 hb c0;replace c1:=cell_up4 hb c1;replace c2:=cell_up4 hb c2;replace d0:=cell_up4 hb d0;replace d1:=cell_up4 hb d1;replace d2:=cell_up4 hb d2
 replace HB:=ak HB hb
 replace hz:=block_up hb hz
 clear hb F2
 have F3:=cut_any _ _ _ _ es (p*q) (c+d) w2 M1 M2 HXY.out hcd (by omega) hex
 clear M1 M2
 go_wp2_with fail
 refine F3.mono ?_
 rintro e' w4 ⟨⟨v4,rfl,M4⟩,hb⟩
 obtain⟨vl,vh,l,h,e4,rfl,Q1,Q2,Q3⟩:=M4
 obtain⟨a7,m7,k7,rfl⟩:=Q1.slice
 obtain⟨a8,m8,k8,rfl⟩:=Q2.slice
 have HAB:Hid (Ab w4 (.agg #[.slice a7 m7 k7,.slice a8 m8 k8,.int .i64 (e4:Int)]) (p*q) (c+d+1)):=aa ⟨_,_,l,h,e4,rfl,Q1,Q2,Q3⟩
 replace HB:=ak HB hb
 replace hz:=block_up hb hz
 have hf:=b9 hz
 obtain⟨r0,r1,r2⟩:=ax hz
 rw [HGG.out]
 have HZ:=aa hz
 clear hb F3 Q1 Q2 Q3 c0 c1 c2 d0 d1 d2 hz
 go_wp2
 have R5:=cm HZ.out (a':=.slice a7 m7 k7) (b':=.slice a8 m8 k8) (c':=.int .i64 (e4:Int))
 have HD:=aa (And.intro (HAB.out.set3 (u0:=.slice a7 m7 k7) (u1:=.slice a8 m8 k8) (u2:=.int .i64 (e4:Int)) HZ.out) (below_set3 HB.out (g:=g) (u0:=.slice a7 m7 k7) (u1:=.slice a8 m8 k8) (u2:=.int .i64 (e4:Int)) (by omega)))
 clear r0 r1 r2 hf
 generalize ((w4.setCell ⟨g,0,none⟩ (.slice a7 m7 k7)).setCell ⟨g,1,none⟩ (.slice a8 m8 k8)).setCell ⟨g,2,none⟩ (.int .i64 (e4:Int))=w5 at *
 obtain⟨q0,q1,q2⟩:=ax R5
 refine bodyPost_ret (v:=.agg #[.slice a7 m7 k7,.slice a8 m8 k8,.int .i64 (e4:Int)]) (by simp [results,Tryz.results94,go_sem,q0,q1,q2]) rfl ?_
 exact⟨⟨_,rfl,HD.out.1⟩,HD.out.2⟩

namespace Lm

theorem len_below {p c l h e x:Nat}(hA:AbtR p c l h e)(hb:blen h+e<blen x):p<x:=by
 have h1:=(blen_le_iff h _).1 (Nat.le_refl _)
 have hx:x≠0:=by
  rintro rfl
  rw [show blen 0=0 from (aU 0).2 rfl] at hb
  omega
 have h2:=bi x hx
 have h3:h*2 ^ e<2 ^ (blen h+e):=by rw [Nat.pow_add];exact Nat.mul_lt_mul_of_pos_right h1 (Nat.two_pow_pos e)
 have h4:2 ^ (blen h+e)≤2 ^ (blen x - 1):=Nat.pow_le_pow_right (by omega) (by omega)
 have:=hA.2.2.1
 omega

theorem len_above {p c l h e x:Nat}(hA:AbtR p c l h e)(hb:blen x<blen l+e):x<p:=by
 have h1:=(blen_le_iff x _).1 (Nat.le_refl _)
 have h0:=hA.1
 have h2:=bi l (by omega)
 have hl:blen l≠0:=fun h=>by have:=(aU l).1 h;omega
 have h3:2 ^ (blen l - 1+e)≤l*2 ^ e:=by rw [Nat.pow_add];exact Nat.mul_le_mul_right _ h2
 have h4:2 ^ blen x≤2 ^ (blen l - 1+e):=Nat.pow_le_pow_right (by omega) (by omega)
 have:=hA.2.1
 omega

end Lm

def Side (s:Int)(p c x:Nat):Prop:=(s=-1∧p<x)∨(s=1∧x<p)∨(s=0∧∃l h e,AbtR p c l h e∧Near x l h e)

theorem against_any (v va:Value)(p c:Nat)(X:List Nat)(w:World)(hA:Ab w v p c)(hX:Arg w va X)(hx:X.length≤17592186044000)(hbx:blen (val X)≤1125899906816000)(hp:blen p≤2305843009213693952) :
  Calls Tryz.prog 79 #[v,va] w fun en w'=>(∃s,en=.returned (.int .i64 s)∧Side s p c (val X))∧Below w.heap.size w w':=by
 obtain⟨vl,vh,l,h,e,rfl,Nl,Nh,HR⟩:=hA
 have he:e≤2305843009213693952:=Nat.le_trans (Nat.le_of_lt (abt_exp HR.1 ((blen_le_iff _ _).1 (Nat.le_refl _)))) hp
 have bh:blen h≤257:=blen_pow5 HR.2
 have bl:blen l≤257:=Nat.le_trans (blen_mono HR.1.2.2.2.1) bh
 obtain⟨al,ml,kl,rfl⟩:=Nl.slice
 obtain⟨ah,mh,kh,rfl⟩:=Nh.slice
 have HBD:Hid (blen (val X / 2 ^ e)≤1125899906816000):=aa (Nat.le_trans (blen_mono (Nat.div_le_self _ _)) (by omega))
 obtain⟨w0,hw0⟩:∃w0,w0=w.alloc (.cells #[.slice al ml kl,.slice ah mh kh,.int .i64 (e:Int)] 93):=⟨_,rfl⟩
 have hb0:Below w.heap.size w w0:=by rw [hw0];exact (Below.refl _ _).alloc (Nat.le_refl _) _
 obtain⟨c0,c1,c2⟩:=ax (show w0.heap[w.heap.size]?=_ by rw [hw0];exact heap_alloc_new ..)
 have HW0:=aa hw0
 have HB:Hid (Below w.heap.size w w0):=aa hb0
 replace Nl:=Nl.below hb0;replace Nh:=Nh.below hb0;replace hX:=hX.below hb0
 have LA:=az va X w0 hX
 have LH:=nlength Nh.drew4 (by omega)
 have LL:=nlength Nl.drew4.drew4 (by omega)
 obtain⟨sh,hsh,esh⟩:∃sh:Nat,blen h+e=sh∧(blen h:Int)+(e:Int)=(sh:Int):=⟨_,rfl,by omega⟩
 obtain⟨sl,hsl,esl⟩:∃sl:Nat,blen l+e=sl∧(blen l:Int)+(e:Int)=(sl:Int):=⟨_,rfl,by omega⟩
 obtain⟨lx,hlx⟩:∃lx,blen (val X)=lx:=⟨_,rfl⟩
 obtain⟨lh,hlh⟩:∃lh,blen h=lh:=⟨_,rfl⟩
 obtain⟨ll,hll⟩:∃ll,blen l=ll:=⟨_,rfl⟩
 have hshb:sh≤2305843009213694300:=by omega
 have hslb:sl≤2305843009213694300:=by omega
 have wsh:IntKind.i64.wrap (sh:Int)=sh:=by rw [IntKind.wrap_i64];omega
 have wsl:IntKind.i64.wrap (sl:Int)=sl:=by rw [IntKind.wrap_i64];omega
 have HS1:Hid (sh<lx→p<val X):=aa fun h=>len_below HR.1 (by omega)
 have HS2:Hid (lx<sl→val X<p):=aa fun h=>len_above HR.1 (by omega)
 have HRR:=aa HR.1
 rw [hlx] at LA hbx
 rw [hlh] at LH esh bh
 rw [hll] at LL esl bl
 have HBH:=aa (And.intro (show blen h≤257 by omega) (show blen l≤257 by omega))
 clear hw0 hb0 hsh hsl hlx hlh hll HR hp
 by_cases h1:sh<lx
 ·have i1:(sh:Int)<(lx:Int):=by omega
  have HP:=aa (HS1.out h1)
  clear HS1 HS2 HRR Nl Nh hX h1 LL
  go_enter Tryz.func79,Tryz.ntmps79
  go_wp2_with fail
  rw [←HW0.out]
  refine LA.mono ?_
  rintro e' wn ⟨rfl,hw⟩;rw [hw];clear hw wn LA
  go_wp2
  go_region_held3 (fun w'=>w'.cell? ⟨w.heap.size,0,none⟩=some (.slice al ml kl)∧w'.cell? ⟨w.heap.size,1,none⟩=some (.slice ah mh kh)∧w'.cell? ⟨w.heap.size,2,none⟩=some (.int .i64 (e:Int))) (go_keep) (first | (go_at_call 13;refine LH.mono ?_;rintro e' wn ⟨rfl,hw⟩;subst hw))
  go_wp2
  go_ret
  exact⟨⟨_,rfl,.inl ⟨rfl,HP.out⟩⟩,HB.out.drew⟩
 ·have i1:¬(sh:Int)<(lx:Int):=by omega
  by_cases h2:lx<sl
  ·have i2:(lx:Int)<(sl:Int):=by omega
   have HP:=aa (HS2.out h2)
   clear HS1 HS2 HRR Nl Nh hX h1 h2
   go_enter Tryz.func79,Tryz.ntmps79
   go_wp2_with fail
   rw [←HW0.out]
   refine LA.mono ?_
   rintro e' wn ⟨rfl,hw⟩;rw [hw];clear hw wn LA
   go_wp2
   go_region_held3 (fun w'=>w'.cell? ⟨w.heap.size,0,none⟩=some (.slice al ml kl)∧w'.cell? ⟨w.heap.size,1,none⟩=some (.slice ah mh kh)∧w'.cell? ⟨w.heap.size,2,none⟩=some (.int .i64 (e:Int))) (go_keep) (first | (go_at_call 13;refine LH.mono ?_;rintro e' wn ⟨rfl,hw⟩;subst hw))
   go_wp2
   go_region_held3 (fun w'=>w'.cell? ⟨w.heap.size,0,none⟩=some (.slice al ml kl)∧w'.cell? ⟨w.heap.size,1,none⟩=some (.slice ah mh kh)∧w'.cell? ⟨w.heap.size,2,none⟩=some (.int .i64 (e:Int))) (go_keep) (first | (go_at_call 13;refine LL.mono ?_;rintro e' wn ⟨rfl,hw⟩;subst hw))
   go_wp2
   go_ret
   exact⟨⟨_,rfl,.inr (.inl ⟨rfl,HP.out⟩)⟩,HB.out.drew.drew⟩
  ·have i2:¬(lx:Int)<(sl:Int):=by omega
   have FD:=(cr va X e w0.drew.drew hX.drew.drew (by omega) (by omega)).mono fun _ _ h=>h.nb
   replace HB:Hid (Below w.heap.size w w0.drew.drew):=aa HB.out.drew.drew
   replace Nl:=Nl.drew4.drew4;replace Nh:=Nh.drew4.drew4
   clear HS1 HS2 h1 h2 hX
   go_enter Tryz.func79,Tryz.ntmps79
   go_wp2_with fail
   rw [←HW0.out]
   refine LA.mono ?_
   rintro e' wn ⟨rfl,hw⟩;rw [hw];clear hw wn LA
   go_wp2
   go_region_held3 (fun w'=>w'.cell? ⟨w.heap.size,0,none⟩=some (.slice al ml kl)∧w'.cell? ⟨w.heap.size,1,none⟩=some (.slice ah mh kh)∧w'.cell? ⟨w.heap.size,2,none⟩=some (.int .i64 (e:Int))) (go_keep) (first | (go_at_call 13;refine LH.mono ?_;rintro e' wn ⟨rfl,hw⟩;subst hw))
   go_wp2
   go_region_held3 (fun w'=>w'.cell? ⟨w.heap.size,0,none⟩=some (.slice al ml kl)∧w'.cell? ⟨w.heap.size,1,none⟩=some (.slice ah mh kh)∧w'.cell? ⟨w.heap.size,2,none⟩=some (.int .i64 (e:Int))) (go_keep) (first | (go_at_call 13;refine LL.mono ?_;rintro e' wn ⟨rfl,hw⟩;subst hw))
   go_wp2_with fail
   refine FD.mono ?_
   rintro e' w1 ⟨⟨vd,rfl,Nd⟩,hb⟩
   replace c0:=cell_up4 hb (show w0.drew.drew.cell? _=_ from c0);replace c1:=cell_up4 hb (show w0.drew.drew.cell? _=_ from c1);replace Nl:=Nl.below hb;replace Nh:=Nh.below hb
   replace HB:=ak HB hb
   clear hb FD c2 i1 i2
   have hbd:=HBD.out
   have HC:=ncmp Nh Nd (by have:=HBH.out.1;omega) hbd
   by_cases h1:h<val X / 2 ^ e
   ·rw [cmpN_lt h1] at HC
    have HP:=aa (abt_below HRR.out h1)
    clear h1 Nl Nh Nd hbd
    go_wp2_with fail
    refine HC.mono ?_
    rintro e' w2 ⟨rfl,hsm⟩
    have hb:=hsm.below w1.heap.size
    replace HB:=ak HB hb
    clear hb hsm HC
    go_wp2
    go_ret
    exact⟨⟨_,rfl,.inl ⟨rfl,HP.out⟩⟩,HB.out⟩
   ·have hge:=cmpN_ge (show val X / 2 ^ e≤h by omega)
    obtain⟨cc,hcc⟩:∃cc,cmpN h (val X / 2 ^ e)=cc:=⟨_,rfl⟩
    rw [hcc] at HC hge
    have i3:¬cc<0:=by omega
    have H1:=aa h1
    clear hcc hge h1
    go_wp2_with fail
    refine HC.mono ?_
    rintro e' w2 ⟨rfl,hsm⟩
    have hb:=hsm.below w1.heap.size
    replace HB:=ak HB hb
    replace c0:=cell_up4 hb c0;replace Nl:=Nl.below hb;replace Nd:=Nd.below hb
    clear hb hsm HC c1 Nh
    have HC:=ncmp Nl Nd (by have:=HBH.out.2;omega) hbd
    clear hbd Nl Nd
    by_cases h2:val X / 2 ^ e<l
    ·rw [cmpN_gt h2] at HC
     have HP:=aa (abt_above HRR.out h2)
     clear h2
     go_wp2_with fail
     refine HC.mono ?_
     rintro e' w3 ⟨rfl,hsm⟩
     have hb:=hsm.below w2.heap.size
     replace HB:=ak HB hb
     clear hb hsm HC
     go_wp2
     go_ret
     exact⟨⟨_,rfl,.inr (.inl ⟨rfl,HP.out⟩)⟩,HB.out⟩
    ·have i4:¬(0:Int)<cmpN l (val X / 2 ^ e):=by
      have:=cmpN_le (show l≤val X / 2 ^ e by omega)
      omega
     obtain⟨cd,hcd⟩:∃cd,cmpN l (val X / 2 ^ e)=cd:=⟨_,rfl⟩
     rw [hcd] at HC i4
     have HP:Hid (Side 0 p c (val X)):=aa (.inr (.inr ⟨rfl,l,h,e,HRR.out,by omega,by have:=H1.out;omega⟩))
     clear h2 hcd
     go_wp2_with fail
     refine HC.mono ?_
     rintro e' w3 ⟨rfl,hsm⟩
     have hb:=hsm.below w2.heap.size
     replace HB:=ak HB hb
     clear hb hsm HC
     go_wp2
     go_ret
     exact⟨⟨_,rfl,HP.out⟩,HB.out⟩
end Go.Proofs.YtiagnfghnfhlnaaGreatDoor

