/- Package numeral: powers. -/
import Derived.Test.YteehipcoeocojaaGreatDoorB07
import Derived.Test.YteehipcoeocojaaGreatDoorB02
import Derived.Deep.RegionHeld3
import Derived.Test.YteehipcoeocojaaGreatDoorB03
import Derived.Test.YteehipcoeocojaaGreatDoorB01
set_option maxRecDepth 20000
set_option maxHeartbeats 4000000
namespace Go.Proofs.YteehipcoeocojaaGreatDoor
open Go.RowKit
open Lm
attribute [local go_sem ↓] Go.wp_at_zero Go.wp_at_succ

def aq:List (Nat × Value × Nat)→List Value
 | []=>[]
 | (d,o,s) :: l=>.int .i64 d :: o :: .int .i64 s :: aq l

theorem jF (l:List (Nat × Value × Nat))(d:Nat)(o:Value)(s:Nat):aq (l ++ [(d,o,s)])=aq l ++ [.int .i64 d,o,.int .i64 s]:=by
 induction l with
 | nil=>rfl
 | cons p l ih=>obtain⟨d,o,s⟩:=p;simp [aq,ih]

theorem fE (l:List (Nat × Value × Nat)):∀(i d:Nat) (o:Value) (s:Nat),l[i]?=some (d,o,s)→(aq l)[i*3]?=some (.int .i64 d)∧(aq l)[i*3+1]?=some o∧(aq l)[i*3+2]?=some (.int .i64 s):=by
 induction l with
 | nil=>intro i d o s h;simp at h
 | cons p l ih=>
  obtain⟨d0,o0,s0⟩:=p
  intro i d o s h
  cases i with
  | zero=>simp at h;obtain⟨rfl,rfl,rfl⟩:=h;exact⟨rfl,rfl,rfl⟩
  | succ i=>
   obtain⟨h1,h2,h3⟩:=ih i d o s (by simpa using h)
   have e1:(i+1)*3=i*3+1+1+1:=by omega
   rw [e1]
   exact⟨by simpa [aq] using h1,by simpa [aq] using h2,by simpa [aq] using h3⟩

def bJ (w:World)(b n:Nat)(p:Nat × Value × Nat):Prop:=
 ∃a O c,p.2.1=.slice a O.length c∧Arg w p.2.1 O∧18446744073709551616 ^ p.2.2*val O=b ^ p.1∧2≤p.1∧p.1+2≤n∧val O≠0∧O.length≤1048576∧blen (val O)≤67108864∧p.2.2≤1125899906842624

theorem bJ.below {w w':World}{b n:Nat}{p:Nat × Value × Nat}(h:bJ w b n p)(hb:Below w.heap.size w w'):bJ w' b n p:=by
 obtain⟨a,O,c,h1,h2,h3⟩:=h
 exact⟨a,O,c,h1,h2.below hb,h3⟩

def bj (w:World)(v:Value)(b n:Nat):Prop:=∃l,bh w v l∧∀p ∈ l,bJ w b n p

theorem bh.below {w w':World}{v:Value}{l:List (Nat × Value × Nat)}(h:bh w v l)(hb:Below w.heap.size w w'):bh w' v l:=by
 rcases h with h|⟨g,cap,h1,h2,h3,h4,h5⟩
 ·exact .inl h
 ·refine .inr ⟨g,cap,h1,Nat.lt_of_lt_of_le h2 hb.size,h3,h4,fun i d o s hi=>?_⟩
  obtain⟨q1,q2,q3,q4⟩:=h5 i d o s hi
  have e:∀k,w'.cell? ⟨g,k,none⟩=w.cell? ⟨g,k,none⟩:=fun k=>World.cell?_of_block (hb.block g h2)
  rw [e,e,e]
  exact⟨q1,q2,q3,q4⟩

theorem bj.below {w w':World}{v:Value}{b n:Nat}(h:bj w v b n)(hb:Below w.heap.size w w'):bj w' v b n:=by
 obtain⟨l,h1,h2⟩:=h
 exact⟨l,h1.below hb,fun p hp=>(h2 p hp).below hb⟩

theorem Ans.grown5 {w w':World}{base:Nat}{v:Value}{zs:List Nat}{row:Option Nat}(h:Ans w base v zs)(hg:w.grownBy w' row)(hne:v.ownBlock=none∨v.ownBlock≠row):Ans w' base v zs:=by
 refine⟨?_,h.limbs⟩
 obtain⟨h1,h2⟩:=h.own
 refine⟨h1,?_⟩
 rcases h2 with h2|⟨g',cap,cur,hv,hg',hh,r⟩
 ·exact .inl h2
 ·refine .inr ⟨g',cap,cur,hv,hg',?_,r⟩
  rw [hg.block g' (lt_of_block hh) ?_]
  ·exact hh
  ·rcases hne with hne|hne
   ·rw [hv] at hne;cases hne
   ·rw [hv] at hne;exact hne

def jr (w:World)(row:Option Nat)(f t n:Nat)(p:Nat × Value × Nat):Prop:=
 ∃O,Ans w 0 p.2.1 O∧val O=f ^ p.1∧64*p.2.2=t*p.1∧2≤p.1∧p.1+2≤n∧O.length≤1048576∧blen (val O)≤67108864∧(p.2.1.ownBlock=none∨p.2.1.ownBlock≠row)

theorem gI:(Tryz.prog.info? 88).map (fun i=>(i.zero,i.size,i.bytes))=some (some (.agg #[.int .i64 0,.slice none 0 0,.int .i64 0]),3,40):=by kernel_rfl

theorem d7 {w:World}{base:Nat}{v:Value}{zs:List Nat}(h:Ans w base v zs){g:Nat}(hg:v.ownBlock=some g):base≤g∧g<w.heap.size:=by
 obtain⟨_,h2⟩:=h.own
 rcases h2 with ⟨rfl,_⟩|⟨g',cap,cur,rfl,hg',hh,_⟩
 ·cases hg
 ·simp [Value.ownBlock] at hg
  subst hg
  exact⟨hg',lt_of_block hh⟩

theorem gS {w:World}{base:Nat}{v:Value}{l:List (Nat × Value × Nat)}(ho:w.ownsRow base 88 3 v l.length (aq l))(hs:∀p ∈ l,p.1≤9223372036854775807∧p.2.2≤9223372036854775807∧∃a n c,p.2.1=.slice a n c):bh w v l:=by
 obtain⟨h1,h2⟩:=ho
 rcases h2 with ⟨rfl,h3⟩|⟨g,cap,cur,rfl,hge,hh,hle,hml,hsz,htk⟩
 ·exact .inl ⟨rfl,List.length_eq_zero_iff.1 h3⟩
 ·refine .inr ⟨g,cap,rfl,lt_of_block hh,hle,by have:maxLen=9223372036854775807:=rfl;omega,fun i d o s hi=>?_⟩
  obtain⟨q1,q2,q3⟩:=fE l i d o s hi
  have hil:i<l.length:=(List.getElem?_eq_some_iff.1 hi).1
  have e:∀k,k<l.length*3→w.cell? ⟨g,k,none⟩=(aq l)[k]?:=fun k hk=>by
   have:(aq l)[k]?=cur.toList[k]?:=by rw [←htk,List.getElem?_take,if_pos hk]
   rw [this]
   simp [World.cell?,hh]
  rw [e _ (by omega),e _ (by omega),e _ (by omega)]
  obtain⟨r1,r2,r3⟩:=hs _ (List.mem_of_getElem? hi)
  exact⟨q1,q2,q3,r1,r2,r3⟩

theorem fk {n k J W0 i W:Nat}(h1:n≤k*2 ^ J)(h2:k*2 ^ J<n+2 ^ J)(h3:J=0∨512<k)(hk:k≤W0)(hW0:W0≤k+63)(hW:W=W0*2 ^ i)(hle:W+1≤n):W+2≤n:=by
 rcases Nat.lt_or_ge i J with hi|hi
 ·have h4:2*W≤W0*2 ^ J:=by
   rw [hW,Nat.mul_left_comm,←Nat.pow_succ']
   exact Nat.mul_le_mul_left _ (Nat.pow_le_pow_right (by omega) hi)
  have h5:W0*2 ^ J≤(k+63)*2 ^ J:=Nat.mul_le_mul_right _ hW0
  have h6:513*2 ^ J≤k*2 ^ J:=Nat.mul_le_mul_right _ (by omega)
  have h7:2 ^ 1≤2 ^ J:=Nat.pow_le_pow_right (by omega) (by omega)
  rw [Nat.add_mul] at h5
  omega
 ·have h4:W0*2 ^ J≤W:=by
   rw [hW]
   exact Nat.mul_le_mul_left _ (Nat.pow_le_pow_right (by omega) hi)
  have h5:k*2 ^ J≤W0*2 ^ J:=Nat.mul_le_mul_right _ hk
  omega

def PSt (base F t n:Nat)(w:World)(v:Value)(l:List (Nat × Value × Nat)):Prop:=w.ownsRow base 88 3 v l.length (aq l)∧∀p ∈ l,jr w v.ownBlock F t n p

theorem hG {w w':World}{base sz m:Nat}{e:TypeId}{v:Value}{xs:List Value}(h:w.ownsRow base e sz v m xs)(hb:Below w.heap.size w w'):w'.ownsRow base e sz v m xs:=by
 obtain⟨h1,h2⟩:=h
 refine⟨h1,?_⟩
 rcases h2 with h2|⟨g,cap,cur,hv,hg,hh,r⟩
 ·exact .inl h2
 ·exact .inr ⟨g,cap,cur,hv,hg,by rw [hb.block g (lt_of_block hh)];exact hh,r⟩

theorem bU {w:World}{base sz m:Nat}{e:TypeId}{v:Value}{xs:List Value}(h:w.ownsRow base e sz v m xs):∀g,v.ownBlock=some g→g<w.heap.size:=by
 obtain⟨h1,h2⟩:=h
 intro g hg
 rcases h2 with ⟨rfl,_⟩|⟨g',cap,cur,rfl,_,hh,_⟩
 ·cases hg
 ·simp [Value.ownBlock] at hg
  subst hg
  exact lt_of_block hh

theorem eV {w:World}{base sz m:Nat}{e:TypeId}{v:Value}{xs:List Value}(h:w.ownsRow base e sz v m xs):∀g,v.ownBlock=some g→base≤g:=by
 obtain⟨h1,h2⟩:=h
 intro g hg
 rcases h2 with ⟨rfl,_⟩|⟨g',cap,cur,rfl,hge,_⟩
 ·cases hg
 ·simp [Value.ownBlock] at hg
  subst hg
  exact hge

theorem PSt.below {base F t n:Nat}{w w':World}{v:Value}{l:List (Nat × Value × Nat)}(h:PSt base F t n w v l)(hb:Below w.heap.size w w'):PSt base F t n w' v l:=by
 refine⟨hG h.1 hb,fun p hp=>?_⟩
 obtain⟨O,h1,h2⟩:=h.2 p hp
 exact⟨O,h1.below hb,h2⟩

theorem PSt.step {base F t n:Nat}{w w':World}{v v':Value}{l:List (Nat × Value × Nat)}{o:Obj}{d s bo:Nat}{vo:Value}{O:List Nat}(h:PSt base F t n w v l)(ho:Ans w bo vo O)(hv:∀g,v.ownBlock=some g→g<bo)
  (hval:val O=F ^ d) (hs:64*s=t*d) (h1:2≤d) (h2:d+2≤n) (hl:O.length≤1048576) (hb:blen (val O)≤67108864)
  (hown:w'.ownsRow base 88 3 v' (l.length+1) (aq l ++ [.int .i64 d,vo,.int .i64 s])) (hgrow:(w.alloc o).grownBy w' v.ownBlock) (hat:v'.ownBlock=v.ownBlock∨v'.ownBlock=some (w.alloc o).heap.size):PSt base F t n w' v' (l ++ [(d,vo,s)]):=by
 have hal:Below w.heap.size w (w.alloc o):=ac w o
 have key:∀(u:Value) (B0:Nat) (U:List Nat),Ans w B0 u U→(u.ownBlock=none∨u.ownBlock≠v.ownBlock)→Ans w' B0 u U∧(u.ownBlock=none∨u.ownBlock≠v'.ownBlock):=by
  intro u B0 U hu hne
  refine⟨(hu.below hal).grown5 hgrow hne,?_⟩
  rcases hat with e|e
  ·rw [e];exact hne
  ·rcases hub:u.ownBlock with _|g
   ·exact .inl rfl
   ·have:=(d7 hu hub).2
    rw [e]
    refine .inr fun h=>?_
    have h:=Option.some.inj h
    have:=hal.size
    omega
 refine⟨by rw [jF,List.length_append];exact hown,fun p hp=>?_⟩
 rcases List.mem_append.1 hp with hp|hp
 ·obtain⟨U,q1,q2,q3,q4,q5,q6,q7,q8⟩:=h.2 p hp
  obtain⟨r1,r2⟩:=key _ _ _ q1 q8
  exact⟨U,r1,q2,q3,q4,q5,q6,q7,r2⟩
 ·simp at hp
  subst hp
  obtain⟨r1,r2⟩:=key vo bo O ho (by
   rcases hub:vo.ownBlock with _|g
   ·exact .inl rfl
   ·refine .inr fun h=>?_
    have h3:=hv g h.symm
    have h4:=(d7 ho hub).1
    omega)
  exact⟨O,r1.base (Nat.zero_le _),hval,hs,h1,h2,hl,hb,r2⟩

theorem PSt.ok {base F t n b:Nat}{w:World}{v:Value}{l:List (Nat × Value × Nat)}(h:PSt base F t n w v l)(hb:b=2 ^ t*F)(hF:1≤F)(ht:t≤5)(hn:n≤1125899906842624):∀p ∈ l,bJ w b n p:=by
 intro p hp
 obtain⟨O,q1,q2,q3,q4,q5,q6,q7,_⟩:=h.2 p hp
 have hA:=q1.arg (by omega)
 obtain⟨a,c,e,_,_,_⟩:=hA.form
 have hts:t*p.1≤5*p.1:=Nat.mul_le_mul_right _ ht
 refine⟨a,O,c,e,hA,?_,q4,q5,?_,q6,q7,by omega⟩
 ·rw [q2,hb,Nat.mul_pow,←Nat.pow_mul,←q3,Nat.pow_mul]
 ·rw [q2]
  exact Nat.pos_iff_ne_zero.1 (Nat.pow_pos (by omega))

theorem PSt.at {base F t n b:Nat}{w:World}{v:Value}{l:List (Nat × Value × Nat)}(h:PSt base F t n w v l)(hb:b=2 ^ t*F)(hF:1≤F)(ht:t≤5)(hn:n≤1125899906842624):bh w v l:=by
 refine gS h.1 (fun p hp=>?_)
 obtain⟨a,O,c,e,_,_,_,q,_,_,_,r⟩:=h.ok hb hF ht hn p hp
 exact⟨by omega,by omega,a,_,c,e⟩

theorem PSt.pows {base F t n b:Nat}{w:World}{v:Value}{l:List (Nat × Value × Nat)}(h:PSt base F t n w v l)(hb:b=2 ^ t*F)(hF:1≤F)(ht:t≤5)(hn:n≤1125899906842624):bj w v b n:=
 ⟨l,h.at hb hF ht hn,h.ok hb hF ht hn⟩

theorem c7 {w:World}(l:List Value)(t:TypeId)(j:Nat)(u:Value)(hj:l[j]?=some u):(w.alloc (.cells l.toArray t)).cell? ((⟨w.heap.size,0,none⟩:Addr).add j)=some u:=by
 have e:(⟨w.heap.size,0,none⟩:Addr).add j=⟨w.heap.size,j,none⟩:=by
  unfold Addr.add;split <;> simp_all
 rw [e]
 simp only [World.cell?,heap_alloc_new]
 simpa using hj

theorem dD (b n:Nat)(w:World)(hT:Tab w)(hb:2≤b)(hb2:b≤36)(hn:n≤1125899906842624) :
  Calls Tryz.prog 51 #[.int .i64 b,.int .i64 n] w fun e w'=>(∃v,e=.returned v∧bj w' v b n)∧Below w.heap.size w w':=by
 obtain⟨t,htl,ht5⟩:=iI b hb hb2
 obtain⟨F,hF⟩:∃F,b / 2 ^ t=F:=⟨_,rfl⟩
 have hbF:b=2 ^ t*F:=by rw [←hF];exact (Nat.mul_div_cancel' (Nat.dvd_of_mod_eq_zero htl.1)).symm
 have hF1:1≤F:=by
  rcases Nat.eq_zero_or_pos F with h|h
  ·rw [h] at hbF;omega
  ·exact h
 have hF2:F≤36:=by rw [←hF];exact Nat.le_trans (Nat.div_le_self _ _) hb2
 have HLN:=fun W=>Tryz.bits_Len (F:Int) W (by omega) (by omega)
 simp only [Int.toNat_natCast] at HLN
 obtain⟨K,hK⟩:∃K,Lib.bitLen F=K:=⟨_,rfl⟩
 have hKF:F<2 ^ K:=by rw [←hK];exact (Lib.bitLenAux_bounds 64 F (by omega) (by omega)).2.2
 have hK6:K≤6:=by rw [←hK];exact Lib.bitLen_le F 6 (by omega) (by omega)
 have hK1:1≤K:=by
  rcases Nat.eq_zero_or_pos K with h|h
  ·rw [h] at hKF;omega
  ·exact h
 rw [hK] at HLN
 obtain⟨i0,hi,hz0,hz1,hz2⟩:=info_parts gI
 have HT:=aa hT
 have HBF:=aa hbF
 have HKF:=aa hKF
 have HTL:=aa htl
 have HLN2:=aa HLN
 have hsh:(b:Int) / 2 ^ t=(F:Int):=by rw [←hF];simp
 have t64:t<64:=by omega
 obtain⟨Q,hQ,hQK⟩:∃Q:Nat,(67108864:Int).tdiv (K:Int)=(Q:Int)∧Q*K≤67108864:=⟨67108864 / K,by rfl,Nat.div_mul_le_self _ _⟩
 have HQK:=aa hQK
 have kz:((K:Int) == 0)=false:=by rw [beq_eq_false_iff_ne];omega
 have hQ67:Q≤67108864:=Nat.le_trans (Nat.le_mul_of_pos_right _ (by omega)) hQK
 clear hbF hKF htl hT hF hK hQK HLN
 go_enter Tryz.func51,Tryz.ntmps51
 go_wp2
 go_loopw [5] (fun i wr=>∃k J:Nat,i=.int .i64 k∧k≤n∧(1≤n→1≤k)∧(n≤k*2 ^ J∧k*2 ^ J<n+2 ^ J∧(J=0∨512<k))∧Below w.heap.size w wr) (fun i _=>(intOf i).toNat)
 case atStart=>exact⟨n,0,rfl,Nat.le_refl _,fun h=>h,⟨by simp,by simp,.inl rfl⟩,Below.refl _ _⟩
 case round=>
  obtain⟨k,J,rfl,hk,hk1,hJ,hbr⟩:=hrel
  by_cases hk10:1024<k
  ·have i1:(1024:Int)<(k:Int):=by omega
   obtain⟨k9,hk9⟩:∃k9:Nat,(k:Int)+1=(k9:Int):=⟨k+1,by omega⟩
   obtain⟨q,hq,hq2⟩:∃q:Nat,((k9:Nat):Int).tdiv 2=(q:Int)∧q=k9 / 2:=⟨k9 / 2,rfl,rfl⟩
   have hql:q<k∧1≤q:=by omega
   have HJ:Hid (n≤q*2 ^ (J+1)∧q*2 ^ (J+1)<n+2 ^ (J+1)∧(J+1=0∨512<q)):=aa (by
    obtain⟨j1,j2,_⟩:=hJ
    have e1:q*2 ^ (J+1)=2*q*2 ^ J:=by rw [Nat.pow_succ,Nat.mul_comm (2 ^ J) 2,←Nat.mul_assoc,Nat.mul_comm q 2]
    have e2:2 ^ (J+1)=2*2 ^ J:=by rw [Nat.pow_succ,Nat.mul_comm]
    have e3:k*2 ^ J≤2*q*2 ^ J:=Nat.mul_le_mul_right _ (by omega)
    have e4:2*q*2 ^ J≤(k+1)*2 ^ J:=Nat.mul_le_mul_right _ (by omega)
    rw [Nat.add_mul,Nat.one_mul] at e4
    rw [e1,e2]
    exact⟨by omega,by omega,.inr (by omega)⟩)
   have HBR:=aa hbr
   have HQ2:=aa hq2
   have HK1:=aa hk1
   clear hbr hk1 hq2 hJ
   go_wp2
   go_roundw
   case rel=>exact⟨q,J+1,rfl,by omega,fun _=>by omega,HJ.out,HBR.out⟩
   case measure=>simp [intOf];omega
  ·have i1:¬(1024:Int)<(k:Int):=by omega
   obtain⟨k4,hk4⟩:∃k4:Nat,(k:Int)+64=(k4:Int):=⟨k+64,by omega⟩
   obtain⟨k3,hk3⟩:∃k3:Nat,(k4:Int) - 1=(k3:Int):=⟨k4 - 1,by omega⟩
   obtain⟨q,hq,hq2⟩:∃q:Nat,((k3:Nat):Int).tdiv 64=(q:Int)∧q=k3 / 64:=⟨k3 / 64,rfl,rfl⟩
   obtain⟨W0,hW0⟩:∃W0:Nat,(q:Int)*64=(W0:Int):=⟨q*64,by omega⟩
   have hqb:q≤16:=by omega
   have hWb:W0≤1024:=by omega
   have hW9:W0≤2000∧(1≤n→64≤W0)∧W0 % 64=0:=by omega
   have T1:=tzb b t wr hb2 HTL.out (HT.out.below hbr)
   have L1:=HLN2.out wr
   obtain⟨mo,hmo,hmo1,hmo2⟩:∃mo:Int,min ((n:Int) - 1) (Q:Int)=mo∧mo≤(n:Int) - 1∧mo≤Q:=⟨_,rfl,by omega,by omega⟩
   have HBR:=aa hbr
   have HW9:=aa hW9
   have HRM:Hid (∀i W,W=W0*2 ^ i→W+1≤n→W+2≤n):=aa (fun i W e h=>fk hJ.1 hJ.2.1 hJ.2.2 (by omega) (by omega) e h)
   clear hbr hk1 hW9 hq2 hJ
   go_wp2_with fail
   refine T1.mono ?_
   rintro e wn ⟨rfl,hw⟩;rw [hw];clear hw wn T1
   go_wp2_with fail
   refine L1.mono ?_
   rintro e wn ⟨rfl,hw⟩;rw [hw];clear hw wn L1
   go_wp2
   go_loopw [9,10] (fun v i wr=>∃(l:List (Nat × Value × Nat)) (W:Nat) (av:Option Addr) (cv:Nat),v=.slice av l.length cv∧i=.int .i64 W∧PSt w.heap.size F t n wr (.slice av l.length cv) l∧W % 64=0∧(1≤n→64≤W)∧(∃i,W=W0*2 ^ i)∧W≤134217728∧l.length≤W∧(l=[]∨∃l0 d ol s0,l=l0 ++ [(d,ol,s0)]∧W=2*d)∧Below w.heap.size w wr) (fun _ i _=>134217729 - (intOf i).toNat)
   case atStart=>exact⟨[],W0,none,0,rfl,rfl,⟨World.ownsRow_nil _ _ _ _,fun p hp=>by cases hp⟩,HW9.out.2.2,HW9.out.2.1,⟨0,by simp⟩,by have:=HW9.out.1;omega,Nat.zero_le _,.inl rfl,HBR.out⟩
   case round=>
    obtain⟨l,W,av,cv,rfl,rfl,hP,hW64,hW1,⟨pi,hpi⟩,hW2,hlW,hlast,hbr2⟩:=hrel
    have HBR2:=aa hbr2
    clear hbr2 HBR HW9 hk4 hk3 hq hW0
    by_cases hWm:(W:Int)≤mo
    ·have hn1:1≤n:=by omega
     have hW3:=hW1 hn1
     have hWn:W+2≤n:=HRM.out pi W hpi (by omega)
     have HPI:Hid (∀U:Nat,U=W*2→∃i,U=W0*2 ^ i):=aa (fun U hU=>⟨pi+1,by rw [hU,hpi,Nat.pow_succ,Nat.mul_assoc]⟩)
     clear hpi
     have hWQ:W≤Q:=by omega
     have hbl:blen (F ^ W)≤67108864:=by
      have h1:F ^ W<2 ^ (K*W):=by rw [Nat.pow_mul];exact Nat.pow_lt_pow_left HKF.out (by omega)
      have h2:=(blen_le_iff _ _).2 h1
      have h3:K*W≤K*Q:=Nat.mul_le_mul_left _ hWQ
      have h4:=HQK.out
      rw [Nat.mul_comm] at h4
      omega
     obtain⟨m9,hm9⟩:∃m9,W=64*m9:=⟨W / 64,by omega⟩
     obtain⟨s,hs⟩:∃s,64*s=t*W:=⟨t*m9,by rw [hm9,Nat.mul_left_comm]⟩
     clear hm9
     have hsb:t*W≤5*W:=Nat.mul_le_mul_right _ ht5
     obtain⟨TW,hTW,hTW2⟩:∃TW:Nat,(t:Int)*(W:Int)=(TW:Int)∧TW=t*W:=⟨t*W,by simp,rfl⟩
     have hTs:(TW:Int).tdiv 64=(s:Int):=by rw [hTW2,←hs];show ((64*s / 64:Nat):Int)=_;rw [Nat.mul_div_cancel_left _ (by omega)]
     have hTW5:TW≤671088640:=by omega
     obtain⟨W2,hW2i⟩:∃W2:Nat,(W:Int)*2=(W2:Int):=⟨W*2,by omega⟩
     have hs9:s≤671088640:=by omega
     clear hTW2
     rcases hlast with hl0|⟨l0,d,ol,s0,hl0,hd⟩
     ·have hlz:((l.length:Int) == 0)=true:=by rw [hl0];rfl
      clear hl0
      have C1:=cO F wr (by omega)
      go_wp2_with fail
      refine C1.mono ?_
      rintro e w1 ⟨⟨v1,rfl,A1⟩,hb1⟩
      have hl1:(tr [F]).length≤1:=tr_length_le [F]
      have C2:=jm v1 (tr [F]) W w1 (A1.arg (by omega)) ((HT.out.below HBR2.out).below hb1) (by omega) (by omega)
      rw [show val (tr [F])=F by rw [val_tr];simp [val]] at C2
      clear C1 A1
      go_wp2_with fail
      refine C2.mono ?_
      rintro e w2 ⟨hb2,vo,c,O,rfl,AO,hcase⟩
      rcases hcase with ⟨rfl,hvO,hno,_⟩|⟨_,_,hbad⟩
      ·have hbq:=bt5 hb1 hb2
       have hb1s:=hb1.size
       clear C2 hb1 hb2
       have hOl:O.length≤1048576:=bw hno (by rw [hvO];exact hbl)
       obtain⟨ao,co,rfl,_,_,_⟩:=(AO.arg (by omega)).form
       have hPq:=hP.below hbq
       have hPO:=aa hPq.1
       have hQB:w.heap.size≤w2.heap.size:=Nat.le_trans HBR2.out.size hbq.size
       have HST:=aa (fun (v':Value) (w':World) (h1:w'.ownsRow w.heap.size 88 3 v' (l.length+1) (aq l ++ [.int .i64 W,.slice ao O.length co,.int .i64 s])) (h2:(w2.alloc (.cells #[.int .i64 W,.slice ao O.length co,.int .i64 s] 88)).grownBy w' (Value.slice av l.length cv).ownBlock) (h3:v'.ownBlock=(Value.slice av l.length cv).ownBlock∨v'.ownBlock=some (w2.alloc (.cells #[.int .i64 W,.slice ao O.length co,.int .i64 s] 88)).heap.size)=>hPq.step AO (fun g hg=>Nat.lt_of_lt_of_le (bU hP.1 g hg) hb1s) hvO hs (by omega) hWn hOl (by rw [hvO];exact hbl) h1 h2 h3)
       have HLT:=aa (fun g hg=>(bU hP.1 g hg))
       have HBQ:=aa (HBR2.out.trans (hbq.mono HBR2.out.size))
       have HVB:Hid (∀g,(Value.slice av l.length cv).ownBlock=some g→w.heap.size≤g):=aa (eV hP.1)
       clear hP hPq AO hbq hvO hno
       go_wp2_with (at_builtin;refine wpList_append_own_at _ rfl _ _ 84 rfl w.heap.size 88 i0 (.agg #[.int .i64 0,.slice none 0 0,.int .i64 0]) 3 40 Tryz.underlying84 hi hz0 hz1 hz2 rfl (by decide) (.slice av l.length cv) l.length (aq l) rfl (hPO.out.alloc _) ⟨w2.heap.size,0,none⟩ 1 1 [.int .i64 W,.slice ao O.length co,.int .i64 s] rfl rfl (c7 [.int .i64 W,.slice ao O.length co,.int .i64 s] 88) (by intro u hu;simp at hu;rcases hu with rfl|rfl|rfl <;> rfl) (by unfold maxLen;omega) (by omega) (by simp;omega) ?_;intro v' w' hown hgrow _ hat)
       have hst:=HST.out v' w' hown hgrow hat
       have HS9:=aa hst
       have HB9:Hid (Below w.heap.size w w'):=aa ((HBQ.out.alloc hQB _).grown hgrow (by simp;omega) HVB.out)
       clear hown hgrow hat hst HST hPO
       go_wp2
       go_roundw
       case rel=>
        obtain⟨a9,c9,he9⟩:∃a9 c9,v'=.slice a9 (l ++ [(W,Value.slice ao O.length co,s)]).length c9:=by
         rcases HS9.out.1.2 with ⟨h1,h2⟩|⟨g,cap,cur,h1,_⟩
         ·exact⟨none,0,by rw [h1,h2]⟩
         ·exact⟨_,_,h1⟩
        subst he9
        exact⟨l ++ [(W,.slice ao O.length co,s)],W2,a9,c9,rfl,rfl,HS9.out,by omega,fun _=>by omega,HPI.out W2 (by omega),by omega,by simp;omega,.inr ⟨l,W,_,s,rfl,by omega⟩,HB9.out⟩
       case measure=>simp [intOf];omega
      ·exact absurd hbad (by omega)
     ·have hlen:l.length=l0.length+1:=by rw [hl0];simp
      have hat:=hP.at HBF.out hF1 ht5 hn
      rcases hat with ⟨_,h0⟩|⟨g,cap,he,hgl,hle,hcm,hrow⟩
      ·rw [h0] at hlen;simp at hlen
      ·cases he
       have hmem:(d,ol,s0) ∈ l:=by rw [hl0];simp
       obtain⟨q1,q2,q3,q4⟩:=hrow l0.length d ol s0 (by rw [hl0];simp)
       obtain⟨O0,AO0,hv0,_,_,_,hO0l,_,_⟩:=hP.2 _ hmem
       obtain⟨a1,c1,hol,_,_,_⟩:=(AO0.arg (by omega)).form
       replace hol:ol=.slice a1 O0.length c1:=hol
       subst hol
       have C2:=e8 _ O0 wr (AO0.arg (by omega)) (HT.out.below HBR2.out) (by omega)
       rw [hv0,show F ^ (d,Value.slice a1 O0.length c1,s0).1=F ^ d from rfl,←Nat.pow_add,show d+d=W by omega] at C2
       obtain⟨j,hj,hji⟩:∃j:Nat,j=l0.length∧(l.length:Int) - 1=(j:Int):=⟨l0.length,rfl,by omega⟩
       rw [←hj] at q2
       have hjl:j<l.length:=by omega
       have hlz:((l.length:Int) == 0)=false:=by rw [beq_eq_false_iff_ne];omega
       have hl9:l.length≤9223372036854775807:=by omega
       have HL0:=aa hl0
       clear AO0 hv0 hl0 hmem hrow q1 q3 q4 hj hlen hgl hd
       go_wp2_with fail
       refine C2.mono ?_
       rintro e w2 ⟨hb2,vo,c,O,rfl,AO,hcase⟩
       rcases hcase with ⟨rfl,hvO,hno,_⟩|⟨_,_,hbad⟩
       ·have hbq:=hb2
        clear C2 hb2
        have hOl:O.length≤1048576:=bw hno (by rw [hvO];exact hbl)
        obtain⟨ao,co,rfl,_,_,_⟩:=(AO.arg (by omega)).form
        have hPq:=hP.below hbq
        have hPO:=aa hPq.1
        have hQB:w.heap.size≤w2.heap.size:=Nat.le_trans HBR2.out.size hbq.size
        have HST:=aa (fun (v':Value) (w':World) (h1:w'.ownsRow w.heap.size 88 3 v' (l.length+1) (aq l ++ [.int .i64 W,.slice ao O.length co,.int .i64 s])) (h2:(w2.alloc (.cells #[.int .i64 W,.slice ao O.length co,.int .i64 s] 88)).grownBy w' (Value.slice (some ⟨g,0,none⟩) l.length cv).ownBlock) (h3:v'.ownBlock=(Value.slice (some ⟨g,0,none⟩) l.length cv).ownBlock∨v'.ownBlock=some (w2.alloc (.cells #[.int .i64 W,.slice ao O.length co,.int .i64 s] 88)).heap.size)=>hPq.step AO (fun g hg=>Nat.lt_of_lt_of_le (bU hP.1 g hg) (Nat.le_refl _)) hvO hs (by omega) hWn hOl (by rw [hvO];exact hbl) h1 h2 h3)
        have HLT:=aa (fun g hg=>(bU hP.1 g hg))
        have HBQ:=aa (HBR2.out.trans (hbq.mono HBR2.out.size))
        have HVB:Hid (∀g8,(Value.slice (some ⟨g,0,none⟩) l.length cv).ownBlock=some g8→w.heap.size≤g8):=aa (eV hP.1)
        clear hP hPq AO hbq hvO hno
        go_wp2_with (at_builtin;refine wpList_append_own_at _ rfl _ _ 84 rfl w.heap.size 88 i0 (.agg #[.int .i64 0,.slice none 0 0,.int .i64 0]) 3 40 Tryz.underlying84 hi hz0 hz1 hz2 rfl (by decide) (.slice (some ⟨g,0,none⟩) l.length cv) l.length (aq l) rfl (hPO.out.alloc _) ⟨w2.heap.size,0,none⟩ 1 1 [.int .i64 W,.slice ao O.length co,.int .i64 s] rfl rfl (c7 [.int .i64 W,.slice ao O.length co,.int .i64 s] 88) (by intro u hu;simp at hu;rcases hu with rfl|rfl|rfl <;> rfl) (by unfold maxLen;omega) (by omega) (by simp;omega) ?_;intro v' w' hown hgrow _ hat)
        have hst:=HST.out v' w' hown hgrow hat
        have HS9:=aa hst
        have HB9:Hid (Below w.heap.size w w'):=aa ((HBQ.out.alloc hQB _).grown hgrow (by simp;omega) HVB.out)
        clear hown hgrow hat hst HST hPO
        go_wp2
        go_roundw
        case rel=>
         obtain⟨a9,c9,he9⟩:∃a9 c9,v'=.slice a9 (l ++ [(W,Value.slice ao O.length co,s)]).length c9:=by
          rcases HS9.out.1.2 with ⟨h1,h2⟩|⟨g,cap,cur,h1,_⟩
          ·exact⟨none,0,by rw [h1,h2]⟩
          ·exact⟨_,_,h1⟩
         subst he9
         exact⟨l ++ [(W,.slice ao O.length co,s)],W2,a9,c9,rfl,rfl,HS9.out,by omega,fun _=>by omega,HPI.out W2 (by omega),by omega,by simp;omega,.inr ⟨l,W,_,s,rfl,by omega⟩,HB9.out⟩
        case measure=>simp [intOf];omega
       ·exact absurd hbad (by omega)
    ·have HP9:=aa (hP.pows HBF.out hF1 ht5 hn)
     clear hP hlast hpi
     go_wp2
     go_ret
     exact⟨⟨_,rfl,HP9.out⟩,HBR2.out⟩

theorem aA {w w':World}{g:Nat}{v:Value}(hb:Below w.heap.size w w')(h:w.cell? ⟨g,0,none⟩=some v):w'.cell? ⟨g,0,none⟩=some v:=by
 rw [hb.cell (p:=⟨g,0,none⟩) ?_]
 ·exact h
 ·rcases Nat.lt_or_ge g w.heap.size with h' | h'
  ·exact h'
  ·simp [World.cell?,Array.getElem?_eq_none h'] at h

theorem br {w:World}{h:Nat}{a b a' b':Value}{t:TypeId}(e:w.heap[h]?=some (.cells #[a,b] t)):((w.setCell ⟨h,0,none⟩ a').setCell ⟨h,1,none⟩ b').heap[h]?=some (.cells #[a',b'] t):=
 aF (aF e a') b'

theorem aD {w:World}{h g o:Nat}{x:Obj}{v:Value}(e:w.heap[h]?=some x)(hne:h≠g):(w.setCell ⟨g,o,none⟩ v).heap[h]?=some x:=by
 rw [Below.heap_setCell _ _ _ _ hne];exact e

theorem bk {B:Nat}{w0 w:World}{g:Nat}{u0 u1:Value}(h:Below B w0 w)(hg:B≤g):Below B w0 ((w.setCell ⟨g,0,none⟩ u0).setCell ⟨g,1,none⟩ u1):=
 (h.setCell (p:=⟨g,0,none⟩) hg u0).setCell (p:=⟨g,1,none⟩) hg u1

theorem gj (w:World):Calls Tryz.prog 88 #[.int .u64 16,.int .i64 1] w fun e w'=>e=.returned (.agg #[.int .u64 9223372036854775808,.int .i64 (-59)])∧Below w.heap.size w w':=by
 have HLN:=fun W=>Tryz.bits_Len 1 W (by omega) (by omega)
 rw [show Lib.bitLen (1:Int).toNat=1 from rfl] at HLN
 obtain⟨w0,hw0⟩:∃w0,w.alloc (.cells #[.int .u64 0,.int .i64 0] 128)=w0:=⟨_,rfl⟩
 have hb0:Below w.heap.size w w0:=by rw [←hw0];exact ac _ _
 have h0:w0.heap[w.heap.size]?=some (.cells #[.int .u64 0,.int .i64 0] 128):=by rw [←hw0];exact heap_alloc_new ..
 have HW0:=aa hw0
 have HB0:=aa hb0
 have H0:=aa h0
 clear hw0 hb0 h0
 go_enter Tryz.func88,Tryz.ntmps88
 go_wp2_with fail
 rw [HW0.out]
 refine (dd w0).mono ?_
 rintro e w1 ⟨rfl,hb1⟩
 have HB1:=aa hb1
 clear hb1
 go_wp2_with fail
 refine (fa w1).mono ?_
 rintro e w2 ⟨rfl,hb2⟩
 have hb02:=HB1.out.trans (hb2.mono HB1.out.size)
 obtain⟨wa,hwa⟩:∃wa,w2.alloc (.cells #[.int .u64 9223372036854775808,.int .i64 (-63)] 128)=wa:=⟨_,rfl⟩
 have hsa:wa.heap.size=w2.heap.size+1:=by rw [←hwa];exact World.size_alloc _ _
 obtain⟨w3,hw3⟩:∃w3,wa.alloc (.cells #[.int .u64 9223372036854775808,.int .i64 (-59)] 128)=w3:=⟨_,rfl⟩
 have hba:Below w2.heap.size w2 wa:=by rw [←hwa];exact ac _ _
 have hb3:Below wa.heap.size wa w3:=by rw [←hw3];exact ac _ _
 have hb23:=hba.trans (hb3.mono hba.size)
 have k5:w3.heap[w2.heap.size]?=some (.cells #[.int .u64 9223372036854775808,.int .i64 (-63)] 128):=an hb3 (by rw [←hwa];exact heap_alloc_new ..)
 have k6:w3.heap[w2.heap.size+1]?=some (.cells #[.int .u64 9223372036854775808,.int .i64 (-59)] 128):=by
  have h:=heap_alloc_new wa (.cells #[.int .u64 9223372036854775808,.int .i64 (-59)] 128)
  rw [hsa,hw3] at h
  exact h
 have hb03:=hb02.trans (hb23.mono hb02.size)
 have k4:=an hb03 H0.out
 have HW3:=aa (show (w2.alloc (.cells #[.int .u64 9223372036854775808,.int .i64 (-63)] 128)).alloc (.cells #[.int .u64 9223372036854775808,.int .i64 (-59)] 128)=w3 by rw [hwa,hw3])
 have HB3:=aa (HB0.out.trans (hb03.mono HB0.out.size))
 have hlt:w.heap.size<w2.heap.size:=Nat.lt_of_lt_of_le (lt_of_block H0.out) hb02.size
 obtain⟨g,hg⟩:∃g,w2.heap.size=g:=⟨_,rfl⟩
 obtain⟨g6,hg6⟩:∃g6,g+1=g6:=⟨_,rfl⟩
 rw [hg] at k5 hlt
 rw [hg,hg6] at k6
 have HG:=aa (And.intro hg hg6)
 have hg6':g<g6:=by omega
 have HK:=aa (And.intro k4 (And.intro k5 k6))
 clear hb2 hb02 hwa hw3 hba hb3 hb23 hb03 hsa k4 k5 k6 hg hg6
 go_wp2_with fail
 rw [HW3.out]
 refine (HLN _).mono ?_
 rintro e wn ⟨rfl,hw⟩;rw [hw,HG.out.1,HG.out.2];clear hw wn HLN
 go_wp2
 refine wp_loop_rounds 2 ?_
 rw [rounds_succ]
 obtain⟨c50,c51⟩:=ak HK.out.2.1
 obtain⟨c60,c61⟩:=ak HK.out.2.2
 have F1:=dT (-63) (-63) (-126) (-62) (-63) w3 (by omega) (by omega) (by omega) (by omega) (by omega)
 go_wp2_with fail
 refine F1.mono ?_
 rintro e w4 ⟨rfl,hb4⟩
 have k5:=an hb4 HK.out.2.1
 have k6:=an hb4 HK.out.2.2
 have k4:=an hb4 HK.out.1
 have HB4:=aa (HB3.out.trans (hb4.mono HB3.out.size))
 have hf5:=bu k5
 obtain⟨d50,d51⟩:=ak k5
 have s5:=br k5 (a':=.int .u64 9223372036854775808) (b':=.int .i64 (-63))
 obtain⟨w5,hw5⟩:∃w5,(w4.setCell ⟨g,0,none⟩ (.int .u64 9223372036854775808)).setCell ⟨g,1,none⟩ (.int .i64 (-63))=w5:=⟨_,rfl⟩
 have s6:w5.heap[g6]?=some (.cells #[.int .u64 9223372036854775808,.int .i64 (-59)] 128):=by rw [←hw5];exact aD (aD k6 (by omega)) (by omega)
 have s4:w5.heap[w.heap.size]?=some (.cells #[.int .u64 0,.int .i64 0] 128):=by rw [←hw5];exact aD (aD k4 (by omega)) (by omega)
 have HB5:=aa (show Below w.heap.size w w5 by rw [←hw5];exact bk HB4.out (by omega))
 rw [hw5] at s5
 have x5:=ak s5
 have x6:=ak s6
 rw [←hw5] at x5 x6
 obtain⟨x50,x51⟩:=x5
 obtain⟨x60,x61⟩:=x6
 have F2:=dT (-63) (-59) (-122) (-58) (-59) w5 (by omega) (by omega) (by omega) (by omega) (by omega)
 have HW5:=aa hw5
 have HS:=aa (And.intro s4 s5)
 clear F1 hb4 k4 k5 k6 hw5 s4 s5 s6 HK c50 c51 c60 c61
 go_wp2_with fail
 rw [HW5.out]
 refine F2.mono ?_
 rintro e w6 ⟨rfl,hb6⟩
 have k5:=an hb6 HS.out.2
 have k4:=an hb6 HS.out.1
 have HB6:=aa (HB5.out.trans (hb6.mono HB5.out.size))
 clear x50 x51 x60 x61 hf5 d50 d51 F2 hb6
 have hf5:=bu k5
 obtain⟨d50,d51⟩:=ak k5
 have s5:=br k5 (a':=.int .u64 9223372036854775808) (b':=.int .i64 (-59))
 obtain⟨w7,hw7⟩:∃w7,(w6.setCell ⟨g,0,none⟩ (.int .u64 9223372036854775808)).setCell ⟨g,1,none⟩ (.int .i64 (-59))=w7:=⟨_,rfl⟩
 have s4:w7.heap[w.heap.size]?=some (.cells #[.int .u64 0,.int .i64 0] 128):=by rw [←hw7];exact aD (aD k4 (by omega)) (by omega)
 have HB7:=aa (show Below w.heap.size w w7 by rw [←hw7];exact bk HB6.out (by omega))
 rw [hw7] at s5
 have x5:=ak s5
 have x4:=ak s4
 have f4:=bu s4
 rw [←hw7] at x5 x4 f4
 obtain⟨x50,x51⟩:=x5
 obtain⟨x40,x41⟩:=x4
 have HW7:=aa hw7
 have HS7:=aa s4
 clear k4 k5 hw7 s4 s5
 go_wp2
 rw [rounds_succ]
 go_wp2
 rw [HW7.out]
 have R5:=br HS7.out (a':=.int .u64 9223372036854775808) (b':=.int .i64 (-59))
 have HD:=aa (bk HB7.out (g:=w.heap.size) (u0:=.int .u64 9223372036854775808) (u1:=.int .i64 (-59)) (Nat.le_refl _))
 clear x50 x51 x40 x41 f4 hf5 d50 d51
 generalize (w7.setCell ⟨w.heap.size,0,none⟩ (.int .u64 9223372036854775808)).setCell ⟨w.heap.size,1,none⟩ (.int .i64 (-59))=w8 at *
 obtain⟨q0,q1⟩:=ak R5
 refine bodyPost_ret (v:=.agg #[.int .u64 9223372036854775808,.int .i64 (-59)]) (by simp [results,Tryz.results88,go_sem,q0,q1]) rfl ?_
 exact⟨rfl,HD.out⟩

theorem fI (w:World):Calls Tryz.prog 91 #[.int .i64 2,.int .u64 16] w fun e w'=>e=.returned (.bool false)∧Below w.heap.size w w':=by
 go_enter Tryz.func91,Tryz.ntmps91
 go_wp2_with fail
 refine (gj w).mono ?_
 rintro e w1 ⟨rfl,hb⟩
 have HB:=aa (hb.trans ((ac w1 (.cells #[.int .u64 9223372036854775808,.int .i64 (-59)] 128)).mono hb.size))
 clear hb
 go_wp2
 go_ret
 exact⟨rfl,HB.out⟩

theorem ix (v more:Int)(w:World):Calls Tryz.prog 114 #[.slice none 0 0,.int .u64 v,.int .u64 more] w fun e w'=>e=.returned (.int .u64 more)∧w'=w:=by
 go_enter Tryz.func114,Tryz.ntmps114
 go_wp2
 refine wp_loop_rounds 1 ?_
 rw [rounds_succ]
 go_wp2
 go_ret
 exact⟨rfl,rfl⟩

theorem iG (gd:Nat)(w:World)(hd:w.heap[gd]?=some (.cells #[.int .u8 0,.int .u8 0,.int .u8 15,.int .u8 15] 5)) :
  Calls Tryz.prog 93 #[.slice (some ⟨gd,2,none⟩) 2 2,.int .i64 16] w fun e w'=>(∃v,e=.returned v∧Ans w' w.heap.size v [255])∧Below w.heap.size w w':=by
 have HU:=dY w
 obtain⟨i0,hi,hz0,hz1,hz2⟩:=info_parts Tryz.infoU
 have c2:w.cell? ⟨gd,2,none⟩=some (.int .u8 15):=by simp [World.cell?,hd]
 have c3:w.cell? ⟨gd,3,none⟩=some (.int .u8 15):=by simp [World.cell?,hd]
 have HG:=ix 1152921504606846976 255 w
 clear hd
 go_enter Tryz.func93,Tryz.ntmps93
 go_wp2_with fail
 refine HU.mono ?_
 rintro e wn ⟨rfl,hw⟩;rw [hw];clear hw wn HU
 go_wp2
 refine wp_loop_rounds 2 ?_
 rw [rounds_succ]
 go_wp2
 refine wp_loop_rounds 3 ?_
 rw [rounds_succ]
 go_wp2
 rw [rounds_succ]
 go_wp2
 rw [rounds_succ]
 go_wp2_with fail
 refine HG.mono ?_
 rintro e wn ⟨rfl,hw⟩;rw [hw];clear hw wn HG
 go_wp2_with (at_builtin;refine wpList_append_own _ rfl _ _ 23 rfl w.heap.size 63 i0 (.int .u64 0) 1 8 Tryz.underlying23 hi hz0 hz1 hz2 rfl (by decide) _ 0 [] rfl (World.ownsRow_nil _ _ _ _) ⟨w.heap.size,0,none⟩ 1 1 ([255].map lv) rfl rfl (bp [255]) (bi _) (by unfold maxLen;omega) (by omega) (by rw [World.size_alloc];omega) ?_;intro v' w1 hown hgrow _)
 rw [Nat.zero_add,List.nil_append] at hown
 have HA:Hid (Ans w1 w.heap.size v' [255]):=aa ⟨hown,by intro z hz;simp at hz;omega⟩
 have HB:=aa ((ac w (.cells #[.int .u64 255] 63)).grown hgrow (by rw [World.size_alloc];omega) (fun k hk=>by cases hk))
 clear hown hgrow hi hz0 hz1 hz2
 rw [rounds_succ]
 go_wp2
 go_ret
 exact⟨⟨_,rfl,HA.out⟩,HB.out⟩

attribute [local go_sem] cT

theorem fc (gl gb gv gd:Nat)(w:World)(hd:w.heap[gd]?=some (.cells #[.int .u8 0,.int .u8 0,.int .u8 15,.int .u8 15] 5))(cl:w.cell? ⟨gl,0,none⟩=some (.slice none 0 0))(cb:w.cell? ⟨gb,0,none⟩=some (.int .i64 16)) :
  Calls Tryz.prog 92 #[.slice (some ⟨gd,2,none⟩) 2 2,.pointer (some ⟨gl,0,none⟩),.pointer (some ⟨gb,0,none⟩),.pointer (some ⟨gv,0,none⟩)] w fun e w'=>(∃v,e=.returned (.tuple #[v,.int .i64 0])∧Ans w' w.heap.size v [255])∧Below w.heap.size w w':=by
 have HG:=eU w
 have FW:=aa (fun (w2:World) (hb:Below w.heap.size w w2)=>iG gd w2 (an hb hd))
 clear hd
 go_enter Tryz.func92,Tryz.ntmps92
 go_wp2_with fail
 refine HG.mono ?_
 rintro e w1 ⟨rfl,hb1⟩
 obtain⟨w2,hw2⟩:∃w2,w1.alloc (.cells #[.int .i64 0,.slice none 0 0,.int .i64 0] 88)=w2:=⟨_,rfl⟩
 have hb12:Below w1.heap.size w1 w2:=by rw [←hw2];exact ac _ _
 have hb2:=hb1.trans (hb12.mono hb1.size)
 have cb2:=aP hb2 cb
 rw [←hw2] at cb2
 have F2:=FW.out w2 hb2
 have HB2:=aa hb2
 have HW2:=aa hw2
 clear HG hb1 hb12 hb2 FW hw2
 go_wp2_with fail
 rw [HW2.out]
 refine F2.mono ?_
 rintro e w3 ⟨⟨v,rfl,hA⟩,hb3⟩
 have HD:=aa (And.intro (hA.base HB2.out.size) (HB2.out.trans (hb3.mono HB2.out.size)))
 clear F2 hA hb3 cb2
 go_wp2
 go_returns
 exact⟨⟨v,rfl,HD.out.1⟩,HD.out.2⟩

theorem fK (gd:Nat)(w:World)(hT:Tab w)(hd:w.heap[gd]?=some (.cells #[.int .u8 0,.int .u8 0,.int .u8 15,.int .u8 15] 5)) :
  Calls Tryz.prog 63 #[.slice (some ⟨gd,2,none⟩) 2 2,.int .i64 16] w fun e w'=>(∃v,e=.returned (.tuple #[v,.int .i64 0])∧Ans w' w.heap.size v [255])∧Below w.heap.size w w':=by
 obtain⟨w0,hw0⟩:∃w0,w.alloc (.cells #[.int .i64 16] 3)=w0:=⟨_,rfl⟩
 have hb0:Below w.heap.size w w0:=by rw [←hw0];exact ac _ _
 have cb:w0.cell? ⟨w.heap.size,0,none⟩=some (.int .i64 16):=aX (by rw [←hw0];exact heap_alloc_new ..)
 have HS:=fI w0
 have HT:=aa hT
 have HW0:=aa hw0
 have HB0:=aa hb0
 have HD0:=aa hd
 clear hT hw0 hb0 hd
 go_enter Tryz.func63,Tryz.ntmps63
 go_wp2_with fail
 rw [HW0.out]
 refine HS.mono ?_
 rintro e w1 ⟨rfl,hb1⟩
 have cb1:=aP hb1 cb
 have HBB:=aQ HB0 hb1
 have HP:=dz w1 (HT.out.below HBB.out)
 clear HS hb1 cb
 go_wp2_with fail
 refine HP.mono ?_
 rintro e wn ⟨rfl,hw⟩;rw [hw];clear hw wn HP
 obtain⟨w2,hw2⟩:∃w2,w1.alloc (.cells #[.slice none 0 0] 84)=w2:=⟨_,rfl⟩
 have hs2:w2.heap.size=w1.heap.size+1:=by rw [←hw2];exact World.size_alloc _ _
 obtain⟨w3,hw3⟩:∃w3,w2.alloc (.cells #[.func (.func 92) #[] #[.pointer (some ⟨w1.heap.size,0,none⟩),.pointer (some ⟨w.heap.size,0,none⟩),.pointer (some ⟨w1.heap.size+1,0,none⟩)]] 134)=w3:=⟨_,rfl⟩
 have hb2:Below w1.heap.size w1 w2:=by rw [←hw2];exact ac _ _
 have hb3:Below w2.heap.size w2 w3:=by rw [←hw3];exact ac _ _
 have hb13:=hb2.trans (hb3.mono hb2.size)
 have cl:=aP hb3 (aX (show w2.heap[w1.heap.size]?=some (.cells #[.slice none 0 0] 84) by rw [←hw2];exact heap_alloc_new ..))
 have cb3:=aP hb13 cb1
 have cw:w3.cell? ⟨w1.heap.size+1,0,none⟩=some (.func (.func 92) #[] #[.pointer (some ⟨w1.heap.size,0,none⟩),.pointer (some ⟨w.heap.size,0,none⟩),.pointer (some ⟨w1.heap.size+1,0,none⟩)]):=aX (t:=134) (by
  have h:=heap_alloc_new w2 (.cells #[.func (.func 92) #[] #[.pointer (some ⟨w1.heap.size,0,none⟩),.pointer (some ⟨w.heap.size,0,none⟩),.pointer (some ⟨w1.heap.size+1,0,none⟩)]] 134)
  rw [hs2,hw3] at h
  exact h)
 have HBB3:=aQ HBB hb13
 have FW:=fc w1.heap.size w.heap.size (w1.heap.size+1) gd w3 (an HBB3.out HD0.out) cl cb3
 have HW3:=aa (show (w1.alloc (.cells #[.slice none 0 0] 84)).alloc (.cells #[.func (.func 92) #[] #[.pointer (some ⟨w1.heap.size,0,none⟩),.pointer (some ⟨w.heap.size,0,none⟩),.pointer (some ⟨w1.heap.size+1,0,none⟩)]] 134)=w3 by rw [hw2,hw3])
 rw [←HW3.out] at cw
 clear hb2 hb3 hb13 cl cb3 hw2 hw3 hs2 cb1
 go_wp2_with fail
 rw [HW3.out]
 refine FW.mono ?_
 rintro e w4 ⟨⟨v,rfl,hA⟩,hb4⟩
 have HD:=aa (And.intro (hA.base HBB3.out.size) (aQ HBB3 hb4).out)
 clear FW hA hb4 cw
 go_wp2
 go_returns
 exact⟨⟨v,rfl,HD.out.1⟩,HD.out.2⟩
end Go.Proofs.YteehipcoeocojaaGreatDoor
namespace Go.Proofs.YteehipcoeocojaaGreatDoor
open Go.RowKit
open Lm
attribute [local go_sem ↓] Go.wp_at_zero Go.wp_at_succ

theorem dQ (w:World):Calls Tryz.prog 40 #[.string ⟨#[48,49,50,51,52,53,54,55,56,57,97,98,99,100,101,102,103,104,105,106,107,108,109,110,111,112,113,114,115,116,117,118,119,120,121,122]⟩,.int .u8 48] w fun e w'=>e=.returned (.int .i64 0)∧w'=w:=
 Tryz.strings_IndexByte _ 48 w

theorem d8 (w:World):Calls Tryz.prog 40 #[.string ⟨#[48,49,50,51,52,53,54,55,56,57,97,98,99,100,101,102,103,104,105,106,107,108,109,110,111,112,113,114,115,116,117,118,119,120,121,122]⟩,.int .u8 102] w fun e w'=>e=.returned (.int .i64 15)∧w'=w:=
 Tryz.strings_IndexByte _ 102 w

theorem s0 (h:0<(ByteArray.mk #[48,48,102,102]).size):(ByteArray.mk #[48,48,102,102])[0].toNat=48:=rfl
theorem s1 (h:1<(ByteArray.mk #[48,48,102,102]).size):(ByteArray.mk #[48,48,102,102])[1].toNat=48:=rfl
theorem s2 (h:2<(ByteArray.mk #[48,48,102,102]).size):(ByteArray.mk #[48,48,102,102])[2].toNat=102:=rfl
theorem s3 (h:3<(ByteArray.mk #[48,48,102,102]).size):(ByteArray.mk #[48,48,102,102])[3].toNat=102:=rfl

attribute [local go_sem] s0 s1 s2 s3

theorem jN
(gs:Nat) (w:World) (h:w.cell? ⟨gs,0,none⟩=some (.string ⟨#[48,48,102,102]⟩)) :
  Calls Tryz.prog 39 #[.int .i64 0,.pointer (some ⟨gs,0,none⟩)] w fun e w'=>e=.returned (.int .i64 0)∧w'=w:=by
 go_enter Tryz.func39,Tryz.ntmps39
 go_wp2_with fail
 refine (dQ _).mono ?_
 rintro e wn ⟨rfl,hw⟩;rw [hw];clear hw wn
 go_wp2
 go_ret
 exact⟨rfl,rfl⟩

theorem go
(gs:Nat) (w:World) (h:w.cell? ⟨gs,0,none⟩=some (.string ⟨#[48,48,102,102]⟩)) :
  Calls Tryz.prog 39 #[.int .i64 1,.pointer (some ⟨gs,0,none⟩)] w fun e w'=>e=.returned (.int .i64 0)∧w'=w:=by
 go_enter Tryz.func39,Tryz.ntmps39
 go_wp2_with fail
 refine (dQ _).mono ?_
 rintro e wn ⟨rfl,hw⟩;rw [hw];clear hw wn
 go_wp2
 go_ret
 exact⟨rfl,rfl⟩

theorem f8
(gs:Nat) (w:World) (h:w.cell? ⟨gs,0,none⟩=some (.string ⟨#[48,48,102,102]⟩)) :
  Calls Tryz.prog 39 #[.int .i64 2,.pointer (some ⟨gs,0,none⟩)] w fun e w'=>e=.returned (.int .i64 15)∧w'=w:=by
 go_enter Tryz.func39,Tryz.ntmps39
 go_wp2_with fail
 refine (d8 _).mono ?_
 rintro e wn ⟨rfl,hw⟩;rw [hw];clear hw wn
 go_wp2
 go_ret
 exact⟨rfl,rfl⟩

theorem jh
(gs:Nat) (w:World) (h:w.cell? ⟨gs,0,none⟩=some (.string ⟨#[48,48,102,102]⟩)) :
  Calls Tryz.prog 39 #[.int .i64 3,.pointer (some ⟨gs,0,none⟩)] w fun e w'=>e=.returned (.int .i64 15)∧w'=w:=by
 go_enter Tryz.func39,Tryz.ntmps39
 go_wp2_with fail
 refine (d8 _).mono ?_
 rintro e wn ⟨rfl,hw⟩;rw [hw];clear hw wn
 go_wp2
 go_ret
 exact⟨rfl,rfl⟩

theorem gB {w:World}{g k g' k':Nat}{u:Value}(h:g≠g'):(w.setCell ⟨g,k,none⟩ u).cell? ⟨g',k',none⟩=w.cell? ⟨g',k',none⟩:=by
 simp only [World.cell?]
 rw [Below.heap_setCell _ _ _ _ (by exact Ne.symm h)]

theorem jg (gs:Nat)(w:World)(hT:Tab w)(hs:w.cell? ⟨gs,0,none⟩=some (.string ⟨#[48,48,102,102]⟩)) :
  Calls Tryz.prog 38 #[.int .i64 16,.int .i64 4,.func (.func 39) #[] #[.pointer (some ⟨gs,0,none⟩)]] w fun e w'=>(∃v,e=.returned (.tuple #[v,.int .i64 0])∧Ans w' w.heap.size v [255])∧Below w.heap.size w w':=by
 obtain⟨i0,hi,hz0,hz1,hz2⟩:=info_parts Tryz.infoB
 have HT:=aa hT
 have hgs:gs<w.heap.size:=by
  rcases Nat.lt_or_ge gs w.heap.size with h' | h'
  ·exact h'
  ·simp [World.cell?,Array.getElem?_eq_none h'] at hs
 have hso:∀(W:World) (k:Nat) (u:Value),(W.setCell ⟨w.heap.size,k,none⟩ u).cell? ⟨gs,0,none⟩=W.cell? ⟨gs,0,none⟩:=fun W k u=>gB (by omega)
 clear hT
 go_enter Tryz.func38,Tryz.ntmps38
 go_wp2_with (at_make;refine wpList_make_full _ rfl _ _ 67 rfl w.heap.size 5 i0 (.int .u8 0) 1 Tryz.underlying67 hi hz0 hz1 .i64 .i64 _ _ 4 rfl rfl (by rfl) (by rfl) (by rw [hz2];omega) (by unfold maxLen;omega) (Nat.le_refl _) ?_;intro w1 hown hgrow)
 have hb1:Below w.heap.size w w1:=(Below.refl w.heap.size w).grown hgrow (Nat.le_refl _) (fun k hk=>by cases hk)
 have hs1:=aP hb1 hs
 have k0:w1.heap[w.heap.size]?=some (.cells #[.int .u8 0,.int .u8 0,.int .u8 0,.int .u8 0] 5):=cL (n:=4) hown
 have hf:∀k,w1.frozen? ⟨w.heap.size,k,none⟩=false:=fun k=>by simp [World.frozen?,k0]
 have c0:w1.cell? ⟨w.heap.size,0,none⟩=some (.int .u8 0):=by simp [World.cell?,k0]
 have c1:w1.cell? ⟨w.heap.size,1,none⟩=some (.int .u8 0):=by simp [World.cell?,k0]
 have c2:w1.cell? ⟨w.heap.size,2,none⟩=some (.int .u8 0):=by simp [World.cell?,k0]
 have c3:w1.cell? ⟨w.heap.size,3,none⟩=some (.int .u8 0):=by simp [World.cell?,k0]
 have HB1:=aa hb1
 have HK0:=aa k0
 clear hown hgrow hi hz0 hz1 hz2 hb1 k0 hs
 refine wp_loop_rounds 5 ?_
 have m0:=aF (k:=0) HK0.out (.int .u8 0)
 have m1:=aF (k:=1) m0 (.int .u8 0)
 have m2:=aF (k:=2) m1 (.int .u8 15)
 have m3:=aF (k:=3) m2 (.int .u8 15)
 obtain⟨w5,hw5⟩:∃w5,(((w1.setCell ⟨w.heap.size,0,none⟩ (.int .u8 0)).setCell ⟨w.heap.size,1,none⟩ (.int .u8 0)).setCell ⟨w.heap.size,2,none⟩ (.int .u8 15)).setCell ⟨w.heap.size,3,none⟩ (.int .u8 15)=w5:=⟨_,rfl⟩
 rw [hw5] at m3
 have k5:w5.heap[w.heap.size]?=some (.cells #[.int .u8 0,.int .u8 0,.int .u8 15,.int .u8 15] 5):=m3
 have x0:w5.cell? ⟨w.heap.size,0,none⟩=some (.int .u8 0):=by simp [World.cell?,k5]
 have x1:w5.cell? ⟨w.heap.size,1,none⟩=some (.int .u8 0):=by simp [World.cell?,k5]
 have x2:w5.cell? ⟨w.heap.size,2,none⟩=some (.int .u8 15):=by simp [World.cell?,k5]
 rw [←hw5] at x0 x1 x2
 have HB5:=aa (show Below w.heap.size w w5 by
  rw [←hw5]
  exact (((HB1.out.setCell (p:=⟨w.heap.size,0,none⟩) (Nat.le_refl _) _).setCell (p:=⟨w.heap.size,1,none⟩) (Nat.le_refl _) _).setCell (p:=⟨w.heap.size,2,none⟩) (Nat.le_refl _) _).setCell (p:=⟨w.heap.size,3,none⟩) (Nat.le_refl _) _)
 have FR:=fK w.heap.size w5 (HT.out.below HB5.out) k5
 have HW5:=aa hw5
 clear m0 m1 m2 m3 k5 hw5
 rw [rounds_succ]
 go_wp2_with fail
 refine (jN gs w1 hs1).mono ?_
 rintro e wn ⟨rfl,hw⟩;rw [hw];clear hw wn
 go_wp2
 rw [rounds_succ]
 go_wp2_with fail
 refine (go gs _ (by rw [hso];exact hs1)).mono ?_
 rintro e wn ⟨rfl,hw⟩;rw [hw];clear hw wn
 go_wp2
 rw [rounds_succ]
 go_wp2_with fail
 refine (f8 gs _ (by rw [hso,hso];exact hs1)).mono ?_
 rintro e wn ⟨rfl,hw⟩;rw [hw];clear hw wn
 go_wp2
 rw [rounds_succ]
 go_wp2_with fail
 refine (jh gs _ (by rw [hso,hso,hso];exact hs1)).mono ?_
 rintro e wn ⟨rfl,hw⟩;rw [hw];clear hw wn
 go_wp2
 rw [rounds_succ]
 go_wp2
 refine wp_loop_rounds 3 ?_
 rw [rounds_succ]
 go_wp2
 rw [rounds_succ]
 go_wp2
 rw [rounds_succ]
 go_wp2_with fail
 rw [HW5.out]
 refine FR.mono ?_
 rintro e w6 ⟨⟨v,rfl,hA⟩,hb6⟩
 have HL:=aK v [255] w6 (hA.arg (by simp))
 rw [show blen (val [255])=8 from rfl] at HL
 have HD:=aa (And.intro (hA.base HB5.out.size) (HB5.out.trans (hb6.mono HB5.out.size)))
 clear FR hA hb6 x0 x1 x2 hs1 c0 c1 c2 c3 hf
 go_wp2_with fail
 refine HL.mono ?_
 rintro e wn ⟨rfl,hw⟩;rw [hw];clear hw wn HL
 go_wp2
 go_returns
 exact⟨⟨v,rfl,HD.out.1⟩,HD.out.2⟩

theorem jO (w:World)(hT:Tab w) :
  Calls Tryz.prog 19 #[.string ⟨#[48,48,102,102]⟩,.int .i64 16] w fun e w'=>(∃v,e=.returned (.tuple #[v,.int .i64 0])∧Ans w' w.heap.size v [255])∧Below w.heap.size w w':=by
 obtain⟨w0,hw0⟩:∃w0,w.alloc (.cells #[.string ⟨#[48,48,102,102]⟩] 9)=w0:=⟨_,rfl⟩
 have hb0:Below w.heap.size w w0:=by rw [←hw0];exact ac _ _
 have cs:w0.cell? ⟨w.heap.size,0,none⟩=some (.string ⟨#[48,48,102,102]⟩):=aX (by rw [←hw0];exact heap_alloc_new ..)
 have HI:=eC w0
 have FN:=jg w.heap.size w0 (hT.below hb0) cs
 have HW0:=aa hw0
 have HB0:=aa hb0
 clear hT hw0 hb0
 go_enter Tryz.func19,Tryz.ntmps19
 go_wp2_with fail
 rw [HW0.out]
 refine HI.mono ?_
 rintro e wn ⟨rfl,hw⟩;rw [hw];clear hw wn HI
 go_wp2_with fail
 refine FN.mono ?_
 rintro e w1 ⟨⟨v,rfl,hA⟩,hb1⟩
 have HD:=aa (And.intro (hA.base HB0.out.size) (HB0.out.trans (hb1.mono HB0.out.size)))
 clear FN hA hb1
 go_wp2
 go_returns
 exact⟨⟨v,rfl,HD.out.1⟩,HD.out.2⟩
end Go.Proofs.YteehipcoeocojaaGreatDoor
namespace Go.Proofs.YteehipcoeocojaaGreatDoor
open Go.RowKit
open Lm
attribute [local go_sem ↓] Go.wp_at_zero Go.wp_at_succ

def bZ (b o n:Nat)(D:List Nat)(w:World)(e:Ending)(w':World):Prop:=
 Below w.heap.size w w'∧((∃v Z,e=.returned (.tuple #[v,.int .i64 0])∧Ans w' w.heap.size v Z∧Z.length≤1125899906842624∧val Z=dvr b D o n∧tr Z=Z)∨(∃v,e=.returned (.tuple #[v,.int .i64 3])∧67108864<blen (dvr b D o n)))

theorem Byt.made {w:World}{base n g:Nat}(h:w.ownsRow base 5 1 (.slice (some ⟨g,0,none⟩) n n) n (madeCells (Value.int .u8 0).cells (n*1)).toList):Byt w g (List.replicate n 0):=by
 have:=cL h
 unfold Byt
 rw [this,List.map_replicate]
 rfl

theorem dW (b:Nat)(D:List Nat):∀k,(∀i,i<k→D.getD i 0=0)→dvr b D 0 k=0
 | 0,_=>rfl
 | k+1,h=>by rw [dvr,dW b D k (fun i hi=>h i (by omega)),Nat.zero_add,h k (by omega)];omega

def bM (b n:Nat)(dg:Nat→Int)(w:World)(e:Ending)(w':World):Prop:=
 Below w.heap.size w w'∧((∃i,i<n∧(dg i<0∨(b:Int)≤dg i)∧e=.returned (.tuple #[.slice none 0 0,.int .i64 51])) ∨
  (∃D:List Nat,D.length=n∧(∀i,i<n→((D.getD i 0:Nat):Int)=dg i∧D.getD i 0<b)∧Res w' w.heap.size e (dvr b D 0 n)))

theorem gf (c1:Value)(b n:Nat)(dg:Nat→Int)(w:World)(hT:Tab w)(hb:2≤b)(hb2:b≤36)(hn:n≤140737488351232)
  (HS:∀i,i<n→∀W,Below w.heap.size w W→Calls Tryz.prog 43 #[.int .i64 i,c1] W fun e w'=>e=.returned (.int .i64 (dg i))∧w'=W)
  (HR:∀(W:World) (D:List Nat) (k:Nat) (ao:Option Addr) (cc:Nat),Tab W→Byt W w.heap.size D→D.length=n→k≤n→(∀i,i<n→D.getD i 0<b)→(k<n→ao=some ⟨w.heap.size,k,none⟩∧cc=n - k∧D.getD k 0≠0) →
   Calls Tryz.prog 63 #[.slice ao (n - k) cc,.int .i64 b] W (bZ b k (n - k) D W)) :
  Calls Tryz.prog 38 #[.int .i64 b,.int .i64 n,.func (.func 43) #[] #[c1]] w (bM b n dg w):=by
 obtain⟨i0,hi,hz0,hz1,hz2⟩:=info_parts Tryz.infoB
 have HT:=aa hT
 have HHS:=aa HS
 have HHR:=aa HR
 clear hT HS HR
 go_enter Tryz.func38,Tryz.ntmps38
 go_wp2_with (at_make;refine wpList_make_full _ rfl _ _ 67 rfl w.heap.size 5 i0 (.int .u8 0) 1 Tryz.underlying67 hi hz0 hz1 .i64 .i64 _ _ n rfl rfl (by omega) (by omega) (by rw [hz2];omega) (by unfold maxLen;omega) (Nat.le_refl _) ?_;intro w1 hown hgrow)
 have HB1:=aa ((Below.refl w.heap.size w).grown hgrow (Nat.le_refl _) (fun k hk=>by cases hk))
 have HY1:=aa (Byt.made hown)
 clear hown hgrow hi hz0 hz1 hz2
 go_loopw [17] (fun i wr=>∃(k:Nat) (D:List Nat),k≤n∧i=.int .i64 k∧Byt wr w.heap.size D∧D.length=n∧(∀i,i<k→((D.getD i 0:Nat):Int)=dg i∧D.getD i 0<b)∧Below w.heap.size w wr) (fun i _=>n - (intOf i).toNat)
 case atStart=>exact⟨0,_,Nat.zero_le _,rfl,HY1.out,by simp,fun i hi=>by omega,HB1.out⟩
 case round=>
  obtain⟨k,D,hk,rfl,hY,hlen,hdg,hbel⟩:=hrel
  clear HB1 HY1
  have HY:=aa hY
  have HB:=aa hbel
  have HDG:=aa hdg
  clear hY hbel hdg
  by_cases hkn:k<n
  ·have hi1:(k:Int)<(n:Int):=by omega
   have HC:=HHS.out k hkn wr HB.out
   have hco:=HY.out.cell k (by omega)
   have hfr:=HY.out.free k
   obtain⟨z,hz⟩:∃z,dg k=z:=⟨_,rfl⟩
   rw [hz] at HC
   generalize D.getD k 0=old at *
   have HZ:=aa hz
   clear hz
   go_wp2_with fail
   refine HC.mono ?_
   rintro e wn ⟨rfl,hw⟩;rw [hw];clear hw wn HC
   by_cases hz0:z<0
   ·go_wp2
    go_returns
    exact⟨HB.out,.inl ⟨k,hkn,.inl (by rw [HZ.out];exact hz0),rfl⟩⟩
   ·by_cases hzb:(b:Int)≤z
    ·go_wp2
     go_returns
     exact⟨HB.out,.inl ⟨k,hkn,.inr (by rw [HZ.out];exact hzb),rfl⟩⟩
    ·obtain⟨y,rfl⟩:∃y:Nat,z=(y:Int):=⟨z.toNat,by omega⟩
     have hyb:y<b:=by omega
     have e256:(y:Int) % 256=(y:Int):=by omega
     go_wp2
     go_roundw
     case rel=>
      refine⟨k+1,D.set k y,by omega,by go_num,HY.out.set _ _,by simp [hlen],fun i hi=>?_,HB.out.setCell (p:=⟨w.heap.size,k,none⟩) (Nat.le_refl _) _⟩
      rw [List.getD,List.getElem?_set]
      by_cases e:k=i
      ·subst e;rw [if_pos rfl,if_pos (by omega)];exact⟨HZ.out.symm,hyb⟩
      ·rw [if_neg e];exact HDG.out i (by omega)
     case measure=>simp [intOf];omega
  ·obtain rfl:k=n:=by omega
   clear HHS
   go_wp2
   go_loop [8] (fun t=>∃(j cc:Nat) (ao:Option Addr),j≤k∧t=.slice ao (k - j) cc∧(j<k→ao=some ⟨w.heap.size,j,none⟩∧cc=k - j)∧∀i,i<j→D.getD i 0=0) (fun t=>match t with | .slice _ l _=>l | _=>0)
   case atStart=>exact⟨0,k,_,Nat.zero_le _,rfl,fun _=>⟨rfl,rfl⟩,fun i hi=>by omega⟩
   case round=>
    obtain⟨j,cc,ao,hj,rfl,hao,hze⟩:=hrel
    have HZE:=aa hze
    clear hze
    by_cases hjz:j<k∧D.getD j 0=0
    ·obtain⟨hjk,hz⟩:=hjz
     obtain⟨rfl,rfl⟩:=hao hjk
     have hco:=HY.out.cell j (by omega)
     rw [hz] at hco
     obtain⟨R,hR,hR2⟩:∃R,k - j=R+1∧k - (j+1)=R:=⟨k - j - 1,by omega,by omega⟩
     rw [hR]
     have HZ:=aa hz
     clear hz hao
     go_wp2
     go_round
     case rel=>
      refine⟨j+1,R,_,by omega,by rw [hR2],fun h=>⟨by rw [if_neg (by omega)],by omega⟩,fun i hi=>?_⟩
      rcases Nat.lt_or_ge i j with h|h
      ·exact HZE.out i h
      ·obtain rfl:i=j:=by omega
       exact HZ.out
     case measure=>show R<R+1;omega
    ·have HC:=HHR.out wr D j ao cc (HT.out.below HB.out) HY.out hlen hj (fun i hi=>(HDG.out i hi).2) (fun h=>⟨(hao h).1,(hao h).2,fun h2=>hjz ⟨h,h2⟩⟩)
     have HDV:Hid (dvr b D 0 k=dvr b D j (k - j)):=aa (by
      have h:=bA b D 0 j (k - j)
      rw [show j+(k - j)=k by omega,dW b D j HZE.out,Nat.zero_mul,Nat.zero_add,Nat.zero_add] at h
      exact h)
     by_cases hjk:j<k
     ·obtain⟨rfl,rfl⟩:=hao hjk
      have hco:=HY.out.cell j (by omega)
      have hnz:D.getD j 0≠0:=fun h=>hjz ⟨hjk,h⟩
      generalize D.getD j 0=g at *
      have hgz:((g:Int) == 0)=false:=by rw [beq_eq_false_iff_ne];omega
      have hr0:(0:Int)<((k - j:Nat):Int):=by omega
      have hr1:0<k - j:=by omega
      generalize k - j=R at *
      clear hao hjz HHR
      go_wp2_with fail
      refine HC.mono ?_
      rintro e w2 ⟨hb2,hres⟩
      have HB2:=aa (HB.out.trans (hb2.mono HB.out.size))
      rcases hres with ⟨v,Z,rfl,hA,hZl,hZv,hZn⟩|⟨v,rfl,hbig⟩
      ·have HL:=aK v Z w2 (hA.arg hZl)
       have HA:=aa (hA.base HB.out.size)
       rw [hZv,←HDV.out] at HL
       have HZ:=aa (And.intro (hZv.trans HDV.out.symm) hZn)
       obtain⟨L,hL⟩:∃L,blen (dvr b D 0 k)=L:=⟨_,rfl⟩
       rw [hL] at HL
       have HLL:=aa hL
       clear hL hA hZv hZn hb2 HC
       by_cases hbig:67108864<L
       ·have i1:(67108864:Int)<(L:Int):=by omega
        go_wp2_with fail
        refine HL.mono ?_
        rintro e wn ⟨rfl,hw⟩;rw [hw];clear hw wn HL
        go_wp2
        go_returns
        exact⟨HB2.out,.inr ⟨D,hlen,HDG.out,_,_,[],rfl,Ans.nil _ _,.inr ⟨rfl,rfl,by rw [HLL.out];exact hbig⟩⟩⟩
       ·have i1:¬((67108864:Int)<(L:Int)):=by omega
        go_wp2_with fail
        refine HL.mono ?_
        rintro e wn ⟨rfl,hw⟩;rw [hw];clear hw wn HL
        go_wp2
        go_returns
        exact⟨HB2.out,.inr ⟨D,hlen,HDG.out,_,_,Z,rfl,HA.out,.inl ⟨rfl,HZ.out.1,HZ.out.2,by rw [HLL.out];omega⟩⟩⟩
      ·rw [←HDV.out] at hbig
       have HBG:=aa hbig
       clear hbig hb2 HC
       go_wp2
       go_returns
       exact⟨HB2.out,.inr ⟨D,hlen,HDG.out,_,_,[],rfl,Ans.nil _ _,.inr ⟨rfl,rfl,HBG.out⟩⟩⟩
     ·obtain rfl:j=k:=by omega
      rw [Nat.sub_self] at HC ⊢
      have HDV:=aa (show dvr b D 0 j=dvr b D j 0 by have:=HDV.out;rw [Nat.sub_self] at this;exact this)
      clear hao hjz HHR
      go_wp2_with fail
      refine HC.mono ?_
      rintro e w2 ⟨hb2,hres⟩
      have HB2:=aa (HB.out.trans (hb2.mono HB.out.size))
      rcases hres with ⟨v,Z,rfl,hA,hZl,hZv,hZn⟩|⟨v,rfl,hbig⟩
      ·have HL:=aK v Z w2 (hA.arg hZl)
       have HA:=aa (hA.base HB.out.size)
       rw [hZv,←HDV.out] at HL
       have HZ:=aa (And.intro (hZv.trans HDV.out.symm) hZn)
       obtain⟨L,hL⟩:∃L,blen (dvr b D 0 j)=L:=⟨_,rfl⟩
       rw [hL] at HL
       have HLL:=aa hL
       clear hL hA hZv hZn hb2 HC
       by_cases hbig:67108864<L
       ·have i1:(67108864:Int)<(L:Int):=by omega
        go_wp2_with fail
        refine HL.mono ?_
        rintro e wn ⟨rfl,hw⟩;rw [hw];clear hw wn HL
        go_wp2
        go_returns
        exact⟨HB2.out,.inr ⟨D,hlen,HDG.out,_,_,[],rfl,Ans.nil _ _,.inr ⟨rfl,rfl,by rw [HLL.out];exact hbig⟩⟩⟩
       ·have i1:¬((67108864:Int)<(L:Int)):=by omega
        go_wp2_with fail
        refine HL.mono ?_
        rintro e wn ⟨rfl,hw⟩;rw [hw];clear hw wn HL
        go_wp2
        go_returns
        exact⟨HB2.out,.inr ⟨D,hlen,HDG.out,_,_,Z,rfl,HA.out,.inl ⟨rfl,HZ.out.1,HZ.out.2,by rw [HLL.out];omega⟩⟩⟩
      ·rw [←HDV.out] at hbig
       have HBG:=aa hbig
       clear hbig hb2 HC
       go_wp2
       go_returns
       exact⟨HB2.out,.inr ⟨D,hlen,HDG.out,_,_,[],rfl,Ans.nil _ _,.inr ⟨rfl,rfl,HBG.out⟩⟩⟩

def ic (b o n:Nat)(D:List Nat)(w:World)(e:Ending)(w':World):Prop:=
 Below w.heap.size w w'∧((∃v Z,e=.returned (.tuple #[v,.int .i64 0])∧Ans w' w.heap.size v Z∧Z.length≤70000000∧val Z=dvr b D o n∧(D.getD o 0≠0→tr Z=Z))∨(e=.returned (.tuple #[.slice none 0 0,.int .i64 3])∧67108864<blen (dvr b D o n)))

theorem eW {b N m x:Nat}(hb:2≤b)(hNB:blen (b ^ (N - 1))≤67108865)(hm:m+2≤N)(hx:x<b ^ m):blen x≤67108864:=by
 have h1:b ^ (m+1)≤b ^ (N - 1):=Nat.pow_le_pow_right (by omega) (by omega)
 have h2:2*b ^ m≤b ^ (m+1):=by rw [Nat.pow_succ,Nat.mul_comm];exact Nat.mul_le_mul_left _ hb
 have h3:b ^ (N - 1)<2 ^ blen (b ^ (N - 1)):=(blen_le_iff _ _).1 (Nat.le_refl _)
 obtain⟨K,hK⟩:∃K,blen (b ^ (N - 1))=K:=⟨_,rfl⟩
 rw [hK] at h3 hNB
 have hK1:1≤K:=by
  rcases Nat.eq_zero_or_pos K with h|h
  ·rw [h,Nat.pow_zero] at h3
   have:=Nat.pow_pos (n:=m) (show 0<b by omega)
   omega
  ·exact h
 have h4:2 ^ K=2*2 ^ (K - 1):=by rw [←Nat.pow_succ',Nat.succ_eq_add_one,show K - 1+1=K by omega]
 have h5:=(blen_le_iff x (K - 1)).2 (by omega)
 omega

theorem gH (d s:Nat)(ao:Option Addr)(co:Nat)(vh vl:Value)(O H Lw:List Nat)(base:Nat)(w:World)(hO:Arg w (.slice ao O.length co) O)(hH:Arg w vh H)(hL:Ans w base vl Lw)(hT:Tab w)
  (hl1:O.length+H.length≤1099511627776) (hl2:Lw.length≤1099511627776) (hs:s≤1099511627776) :
  Calls Tryz.prog 94 #[.agg #[.int .i64 d,.slice ao O.length co,.int .i64 s],vh,vl] w (Joined (val H) (val O) s (val Lw) w):=by
 have hA:=hL.arg (by omega)
 rcases hL.own.2 with ⟨rfl,h0⟩|⟨g,cap,cur,rfl,_⟩
 ·obtain rfl:=List.length_eq_zero_iff.1 h0
  exact gg d s ao co vh O H w hO hH hT hl1 hs
 ·exact gJ d s ao co vh g 0 cap O H Lw w hO hH hA hT hl1 hl2 hs

theorem ii {b o n:Nat}{D:List Nat}(hn:1≤n)(h0:D.getD o 0≠0)(hb:0<b):0<dvr b D o n:=by
 obtain⟨m,rfl⟩:∃m,n=1+m:=⟨n - 1,by omega⟩
 rw [bA]
 have h1:dvr b D o 1=D.getD o 0:=by simp [dvr]
 have h2:0<dvr b D o 1*b ^ m:=Nat.mul_pos (by rw [h1];omega) (Nat.pow_pos hb)
 omega

theorem ct (gl gb gw gd b N:Nat)(vl:Value)(hb:2≤b)(hb2:b≤36)(hNB:blen (b ^ (N - 1))≤67108865)(hN9:N≤67108867):∀(M n o cap:Nat) (D:List Nat) (w:World),n<M →
  Byt w gd D→o+n≤D.length→n≤cap→cap≤9223372036854775807→n≤N→(∀i,i<n→D.getD (o+i) 0<b)→Tab w →
  w.cell? ⟨gl,0,none⟩=some vl→w.cell? ⟨gb,0,none⟩=some (.int .i64 b)→w.cell? ⟨gw,0,none⟩=some (.func (.func 92) #[] #[.pointer (some ⟨gl,0,none⟩),.pointer (some ⟨gb,0,none⟩),.pointer (some ⟨gw,0,none⟩)])→bj w vl b N →
  Calls Tryz.prog 92 #[.slice (some ⟨gd,o,none⟩) n cap,.pointer (some ⟨gl,0,none⟩),.pointer (some ⟨gb,0,none⟩),.pointer (some ⟨gw,0,none⟩)] w (ic b o n D w)
 | 0,n,o,cap,D,w,h,_,_,_,_,_,_,_,_,_,_,_=>absurd h (Nat.not_lt_zero n)
 | M+1,n,o,cap,D,w,hM,hD,ho,hnc,hcm,hnN,hdig,hT,cl,cb,cw,hP=>by
  have HPP:=aa hP
  obtain⟨l,hPA,hPO⟩:=hP
  have C:=dV vl n l w hPA
  have HD:=aa hD
  have HT:=aa hT
  have HPO:=aa hPO
  have HDG:=aa hdig
  clear hD hT hPA hPO hdig
  go_enter Tryz.func92,Tryz.ntmps92
  go_wp2_with fail
  refine C.mono ?_
  rintro e w1 ⟨hcase,hb1⟩
  rcases hcase with ⟨i,d,ov,s,hli,hdn,_,he⟩|⟨_,he⟩
  ·obtain⟨a1,O,c1,hov,hAO,hpw,hd2,hdN,hO0,hOl,hOb,hs9⟩:=HPO.out _ (List.mem_of_getElem? hli)
   replace hov:ov=.slice a1 O.length c1:=hov
   replace hAO:Arg w ov O:=hAO
   replace hpw:18446744073709551616 ^ s*val O=b ^ d:=hpw
   replace hd2:2≤d:=hd2
   replace hdN:d+2≤N:=hdN
   subst hov
   subst he
   have hs1:s≤1048577:=by
    have h1:18446744073709551616 ^ s≤b ^ (N - 1):=by
     rw [show b ^ (N - 1)=b ^ (N - 1) from rfl]
     have h2:18446744073709551616 ^ s≤18446744073709551616 ^ s*val O:=Nat.le_mul_of_pos_right _ (by omega)
     rw [hpw] at h2
     exact Nat.le_trans h2 (Nat.pow_le_pow_right (by omega) (by omega))
    have h3:=bn h1
    have h4:64*s<blen (18446744073709551616 ^ s):=by
     rcases Nat.lt_or_ge (64*s) (blen (18446744073709551616 ^ s)) with h|h
     ·exact h
     ·have h5:=(blen_le_iff _ _).1 h
      rw [Nat.pow_mul,show (2:Nat) ^ 64=18446744073709551616 from rfl] at h5
      exact absurd h5 (Nat.lt_irrefl _)
    omega
   obtain⟨w2,hw2⟩:∃W,w1.alloc (.cells #[.int .i64 d,.slice a1 O.length c1,.int .i64 s] 88)=W:=⟨_,rfl⟩
   have hb2':Below w1.heap.size w1 w2:=by rw [←hw2];exact ac _ _
   have hx2:w2.heap[w1.heap.size]?=some (.cells #[.int .i64 d,.slice a1 O.length c1,.int .i64 s] 88):=by rw [←hw2];exact heap_alloc_new ..
   have hB2:=bt5 hb1 hb2'
   obtain⟨k0,k1,k2⟩:=tri hx2
   obtain⟨h,hh,hhi⟩:∃h:Nat,n=h+d∧(n:Int) - (d:Int)=(h:Int):=⟨n - d,by omega,by omega⟩
   have g2:Below w.heap.size w w2.drew:=hB2.drew
   have cw2:w2.drew.cell? ⟨gw,0,none⟩=some (.func (.func 92) #[] #[.pointer (some ⟨gl,0,none⟩),.pointer (some ⟨gb,0,none⟩),.pointer (some ⟨gw,0,none⟩)]):=aA g2 cw
   have I1:=ct gl gb gw gd b N vl hb hb2 hNB hN9 M h o cap D w2.drew (by omega) (HD.out.below g2 HD.out.lt) (by omega) (by omega) hcm (by omega) (fun i hi=>HDG.out i (by omega)) (HT.out.below g2) (aA g2 cl) (aA g2 cb) cw2 (HPP.out.below g2)
   have hcap0:¬cap=h:=by omega
   have hhn:h≤n:=by omega
   have hhc:h≤cap:=by omega
   have hnh:n - h=d:=by omega
   have HAO:=aa hAO
   have HPW:=aa hpw
   have HX2:=aa hx2
   have HG2:=aa g2
   have HHD:=aa hh
   have HOO:=aa (And.intro hO0 hOl)
   have HS1:=aa (And.intro (eW (m:=h) hb hNB (by omega) (bN b D o (by omega) h (fun i hi=>HDG.out i (by omega)))) (eW (m:=d) hb hNB hdN (bN b D (o+h) (by omega) d (fun i hi=>by rw [Nat.add_assoc];exact HDG.out (h+i) (by omega)))))
   clear C hb1 hb2' hx2 hB2 hAO hpw hO0 hOb hs9 HPO hli g2 hh
   go_upto_region 5 with fail
   go_region_held3 (fun w'=>w'.cell? ⟨gw,0,none⟩=some (.func (.func 92) #[] #[.pointer (some ⟨gl,0,none⟩),.pointer (some ⟨gb,0,none⟩),.pointer (some ⟨gw,0,none⟩)])) (first|with_reducible exact cw3|with_reducible exact cw2) (first
    | (go_at_call 92;refine I1.mono ?_;rintro e' w3 ⟨hb3,hc3⟩;have cw3:=aA hb3 cw2;obtain⟨v3,Z3,rfl,hZ3,hl3,hv3,_⟩:=hc3.resolve_right (fun hx=>absurd hx.2 (Nat.not_lt.2 HS1.out.1))))
   have g3:Below w.heap.size w w3.drew:=(bt5 HG2.out hb3).drew
   have cw4:w3.drew.cell? ⟨gw,0,none⟩=some (.func (.func 92) #[] #[.pointer (some ⟨gl,0,none⟩),.pointer (some ⟨gb,0,none⟩),.pointer (some ⟨gw,0,none⟩)]):=aA g3 cw
   have I2:=ct gl gb gw gd b N vl hb hb2 hNB hN9 M d (o+h) (cap - h) D w3.drew (by omega) (HD.out.below g3 HD.out.lt) (by have:=HHD.out;omega) (by omega) (by omega) (by omega) (fun i hi=>by rw [Nat.add_assoc];exact HDG.out (h+i) (by have:=HHD.out;omega)) (HT.out.below g3) (aA g3 cl) (aA g3 cb) cw4 (HPP.out.below g3)
   have HZ3:=aa hZ3
   have HL3:=aa (And.intro hl3 hv3)
   have HB3:=aa hb3
   have HG3:=aa g3
   clear I1 hZ3 hl3 hv3 hb3 g3 cw2 cw3 k0 k1 k2
   have i8:h≤n:=hhn
   go_upto_region 6 with fail
   go_region_held3 (fun w'=>w'.cell? ⟨gw,0,none⟩=some (.func (.func 92) #[] #[.pointer (some ⟨gl,0,none⟩),.pointer (some ⟨gb,0,none⟩),.pointer (some ⟨gw,0,none⟩)])) (first|with_reducible exact cw5|with_reducible exact cw4) (first
    | (go_at_call 92;refine I2.mono ?_;rintro e' w4 ⟨hb4,hc4⟩;have cw5:=aA hb4 cw4;obtain⟨v4,Z4,rfl,hZ4,hl4,hv4,_⟩:=hc4.resolve_right (fun hx=>absurd hx.2 (Nat.not_lt.2 HS1.out.2))))
   have hB4:=bt5 HG3.out hb4
   have hx4:=(bt5 (bt5 ((Below.refl w2.heap.size w2).drew) HB3.out) (bt5 ((Below.refl w3.heap.size w3).drew) hb4))
   have hc4':=(hx4.block w1.heap.size (lt_of_block HX2.out)).trans HX2.out
   obtain⟨j0,j1,j2⟩:=tri hc4'
   have hA3:Arg w4 v3 Z3:=((HZ3.out.arg (by have:=HL3.out.1;omega)).below ((Below.refl w3.heap.size w3).drew)).below hb4
   have C7:=gH d s a1 c1 v3 v4 O Z3 Z4 w3.drew.heap.size w4 (HAO.out.below hB4) hA3 hZ4 (HT.out.below hB4) (by have:=HOO.out.2;have:=HL3.out.1;omega) (by omega) (by omega)
   obtain⟨a3,c3,rfl,_,_,_⟩:=hA3.form
   have HV4:=aa hv4
   have HB4:=aa hB4
   clear I2 hZ4 hl4 hv4 hb4 hB4 hx4 hc4' cw4 cw5 hA3
   go_wp2_with fail
   refine C7.mono ?_
   rintro e w5 ⟨hb5,hc5⟩
   have HB5:=aa (bt5 HB4.out hb5)
   have hval:val Z3*val O*18446744073709551616 ^ s+val Z4=dvr b D o n:=by
    rw [HHD.out,bA,HL3.out.2,HV4.out,Nat.mul_assoc,Nat.mul_comm (val O),HPW.out]
   have HVL:=aa hval
   have hbs:=HB4.out.size
   rcases hc5 with ⟨v5,Z5,rfl,hZ5,hv5,ht5,hl5⟩|⟨rfl,hbig⟩
   ·have HF:=aa (And.intro (hZ5.base hbs) (And.intro hv5 (And.intro ht5 hl5)))
    clear C7 hb5 hZ5 hv5 ht5 hl5 hval
    go_wp2
    go_ret2
    refine⟨HB5.out,.inl ⟨v5,Z5,rfl,HF.out.1,by have:=HF.out.2.2.2;omega,by rw [HF.out.2.1];exact HVL.out,fun h0=>HF.out.2.2.1 (Nat.mul_pos ?_ (by have:=HOO.out.1;omega))⟩⟩
    rw [HL3.out.2]
    exact ii (by have:=HHD.out;omega) h0 (by omega)
   ·have HBG:Hid (67108864<blen (dvr b D o n)):=aa (Nat.lt_of_lt_of_le hbig (bn (by
     rw [←hval]
     have e1:val Z3*val O≤val Z3*val O*18446744073709551616 ^ s:=Nat.le_mul_of_pos_right _ (Nat.pow_pos (by omega))
     have e2:=Nat.div_le_self (val Z4) (18446744073709551616 ^ s)
     omega)))
    clear C7 hb5 hbig hval
    go_wp2
    go_ret2
    exact⟨HB5.out,.inr ⟨rfl,HBG.out⟩⟩
  ·obtain⟨x0,a0,n0,c0,y0,rfl,_⟩:∃(x0:Int) (a0:Option Addr) (n0 c0:Nat) (y0:Int),e=.returned (.tuple #[.agg #[.int .i64 x0,.slice a0 n0 c0,.int .i64 y0],.bool false])∧True:=⟨0,none,0,0,0,he,trivial⟩
   clear he
   obtain⟨w2,hw2⟩:∃W,w1.alloc (.cells #[.int .i64 x0,.slice a0 n0 c0,.int .i64 y0] 88)=W:=⟨_,rfl⟩
   have hb2':Below w1.heap.size w1 w2:=by rw [←hw2];exact ac _ _
   have hB2:=bt5 hb1 hb2'
   have cb2:=aA hB2 cb
   have C2:=fA gd o n cap b D w2 (HD.out.below hB2 HD.out.lt) ho hnc hcm (by omega) HDG.out hb hb2
   have HB2:=aa hB2
   clear C hb1 hb2' hB2 HPO
   go_wp2_with fail
   refine C2.mono ?_
   rintro e w3 ⟨v,Z,rfl,hZ,hvZ,htZ,hlZ,hb3⟩
   have HF:=aa (And.intro (hZ.base HB2.out.size) (And.intro hvZ (And.intro htZ (And.intro hlZ (bt5 HB2.out hb3)))))
   clear C2 hZ hvZ htZ hlZ hb3
   go_wp2
   go_ret2
   exact⟨HF.out.2.2.2.2,.inl ⟨v,Z,rfl,HF.out.1,by have:=HF.out.2.2.2.1;omega,HF.out.2.1,fun _=>HF.out.2.2.1⟩⟩

theorem gQ {b n:Nat}(hb2:b≤36)(hn:1≤n):blen (b ^ n)≤6*n:=by
 have h1:b ^ n<2 ^ (6*n):=by rw [Nat.pow_mul];exact Nat.pow_lt_pow_left (by omega) (by omega)
 exact (blen_le_iff _ _).2 h1

theorem aN {w:World}{g:Nat}{u:Value}{t:TypeId}(h:w.heap[g]?=some (.cells #[u] t)):w.cell? ⟨g,0,none⟩=some u:=by simp [World.cell?,h]

structure Nr (V m f c:Nat):Prop where
 low:9223372036854775808≤m
 high:m<18446744073709551616
 below:m*2 ^ f≤V*9223372036854775808
 cuts:V*9223372036854775808*9223372036854775807 ^ c≤m*2 ^ f*9223372036854775808 ^ c

theorem Nr.ge {V m f c:Nat}(h:Nr V m f c):2 ^ f≤V:=by
 have h1:=Nat.mul_le_mul_right (2 ^ f) h.low
 have h2:=h.below
 omega

def ay (P:Nat):Nat:=if P<170141183460469231731687303715884105728 then P / 9223372036854775808 else P / 18446744073709551616
def az (P:Nat):Nat:=if P<170141183460469231731687303715884105728 then 0 else 1

theorem gC {m1 m2:Nat}(h1:9223372036854775808≤m1)(h1':m1<18446744073709551616)(h2:9223372036854775808≤m2)(h2':m2<18446744073709551616) :
  9223372036854775808≤ay (m1*m2)∧ay (m1*m2)<18446744073709551616∧ay (m1*m2)*2 ^ az (m1*m2)*9223372036854775808≤m1*m2∧m1*m2*9223372036854775807≤ay (m1*m2)*2 ^ az (m1*m2)*9223372036854775808*9223372036854775808:=by
 have a1:9223372036854775808*9223372036854775808≤m1*m2:=Nat.mul_le_mul h1 h2
 have a2:m1*m2<18446744073709551616*18446744073709551616:=Nat.mul_lt_mul_of_lt_of_lt h1' h2'
 generalize m1*m2=P at *
 unfold ay az
 split
 ·rename_i h
  simp only [Nat.pow_zero,Nat.mul_one]
  omega
 ·rename_i h
  simp only [Nat.pow_one]
  omega

theorem fF (K m T F1 F2 m1 m2 V1 V2:Nat)(hK:0<K)(t3:m*T*K≤m1*m2)(b1:m1*F1*(m2*F2)≤V1*K*(V2*K)):m*(F1*F2*T)≤V1*V2*K:=by
 refine Nat.le_of_mul_le_mul_right (c:=K) ?_ hK
 have h1:=Nat.mul_le_mul_right (F1*F2) t3
 have e1:m*T*K*(F1*F2)=m*(F1*F2*T)*K:=by ac_rfl
 have e2:m1*m2*(F1*F2)=m1*F1*(m2*F2):=by ac_rfl
 have e3:V1*K*(V2*K)=V1*V2*K*K:=by ac_rfl
 omega

theorem gp (K k m T F1 F2 m1 m2 V1 V2 k1 k2 K1 K2:Nat)(hK:0<K)(t4:m1*m2*k≤m*T*K*K)(b2:V1*K*k1*(V2*K*k2)≤m1*F1*K1*(m2*F2*K2)):V1*V2*K*(k1*k2*k)≤m*(F1*F2*T)*(K1*K2*K):=by
 refine Nat.le_of_mul_le_mul_right (c:=K) ?_ hK
 have h1:=Nat.mul_le_mul_right k b2
 have h2:=Nat.mul_le_mul_right (F1*F2*(K1*K2)) t4
 have e1:V1*V2*K*(k1*k2*k)*K=V1*K*k1*(V2*K*k2)*k:=by ac_rfl
 have e2:m1*F1*K1*(m2*F2*K2)*k=m1*m2*k*(F1*F2*(K1*K2)):=by ac_rfl
 have e3:m*T*K*K*(F1*F2*(K1*K2))=m*(F1*F2*T)*(K1*K2*K)*K:=by ac_rfl
 omega

theorem Nr.times {V1 m1 f1 c1 V2 m2 f2 c2:Nat}(h1:Nr V1 m1 f1 c1)(h2:Nr V2 m2 f2 c2):Nr (V1*V2) (ay (m1*m2)) (f1+f2+az (m1*m2)) (c1+c2+1):=by
 obtain⟨t1,t2,t3,t4⟩:=gC h1.low h1.high h2.low h2.high
 have b1:=Nat.mul_le_mul h1.below h2.below
 have b2:=Nat.mul_le_mul h1.cuts h2.cuts
 generalize ay (m1*m2)=m at *
 obtain⟨T,hT⟩:∃T,2 ^ az (m1*m2)=T:=⟨_,rfl⟩
 rw [hT] at t3 t4
 refine⟨t1,t2,?_,?_⟩
 ·rw [Nat.pow_add,Nat.pow_add,hT]
  exact fF _ _ _ _ _ _ _ _ _ (by omega) t3 b1
 ·rw [Nat.pow_add 2,Nat.pow_add 2,Nat.pow_add,Nat.pow_add,Nat.pow_add,Nat.pow_add,Nat.pow_one,Nat.pow_one,hT]
  exact gp _ _ _ _ _ _ _ _ _ _ _ _ _ _ (by omega) t4 b2

theorem Nr.one_times {V m f c:Nat}(h:Nr V m f c):ay (9223372036854775808*m)=m∧az (9223372036854775808*m)=0:=by
 have h1:=h.low
 have h2:=h.high
 unfold ay az
 rw [if_pos (by omega),if_pos (by omega)]
 omega

theorem Nr.exact (v s:Nat)(h1:9223372036854775808≤v*2 ^ s)(h2:v*2 ^ s<18446744073709551616)(hs:s≤63):Nr v (v*2 ^ s) (63 - s) 0:=by
 have e:v*2 ^ s*2 ^ (63 - s)=v*9223372036854775808:=by
  rw [Nat.mul_assoc,←Nat.pow_add,show s+(63 - s)=63 by omega]
 exact⟨h1,h2,by rw [e];exact Nat.le_refl _,by rw [e];exact Nat.le_refl _⟩

theorem gO (K c:Nat)(hK:1≤K):K ^ c*K≤(K - 1) ^ c*K+c*K ^ c:=by
 obtain⟨k,rfl⟩:∃k,K=k+1:=⟨K - 1,by omega⟩
 rw [Nat.add_sub_cancel]
 induction c with
 | zero=>simp
 | succ c ih=>
  have hle:k ^ c≤(k+1) ^ c:=Nat.pow_le_pow_left (by omega) c
  have h1:=Nat.mul_le_mul_right k ih
  rw [Nat.pow_succ,Nat.pow_succ]
  generalize (k+1) ^ c=A at *
  generalize k ^ c=B at *
  have e1:A*(k+1)*(k+1)=A*(k+1)*k+A*(k+1):=by rw [Nat.mul_add,Nat.mul_one]
  have e2:(B*(k+1)+c*A)*k=B*k*(k+1)+c*(A*k):=by rw [Nat.add_mul];ac_rfl
  have e3:(c+1)*(A*(k+1))=c*(A*k)+c*A+A*(k+1):=by rw [Nat.add_mul,Nat.one_mul,Nat.mul_add,Nat.mul_one,Nat.mul_add]
  omega

theorem Nr.above {V m f c:Nat}(h:Nr V m f c)(hc:c≤1152921504606846976):V*9223372036854775808≤(m+4*c)*2 ^ f:=by
 have h1:=h.cuts
 have h2:=gO 9223372036854775808 c (by omega)
 rw [show 9223372036854775808 - 1=9223372036854775807 from rfl] at h2
 have hp:0<9223372036854775808 ^ c:=Nat.pow_pos (by omega)
 have hm:=h.high
 generalize (9223372036854775808:Nat) ^ c=A at *
 generalize (9223372036854775807:Nat) ^ c=B at *
 generalize 2 ^ f=F at *
 have h3:V*9223372036854775808*(9223372036854775808 - c)*A≤m*F*9223372036854775808*A:=by
  have h4:=Nat.mul_le_mul_left (V*9223372036854775808) h2
  have h5:=Nat.mul_le_mul_right 9223372036854775808 h1
  have e1:V*9223372036854775808*(A*9223372036854775808)=V*9223372036854775808*(9223372036854775808 - c)*A+V*9223372036854775808*(c*A):=by
   rw [Nat.mul_assoc _ (9223372036854775808 - c),←Nat.mul_add,←Nat.add_mul,Nat.sub_add_cancel (by omega),Nat.mul_comm A]
  have e2:V*9223372036854775808*(B*9223372036854775808+c*A)=V*9223372036854775808*B*9223372036854775808+V*9223372036854775808*(c*A):=by rw [Nat.mul_add,Nat.mul_assoc _ B]
  have e3:m*F*A*9223372036854775808=m*F*9223372036854775808*A:=by ac_rfl
  omega
 have h6:=Nat.le_of_mul_le_mul_right h3 hp
 refine Nat.le_of_mul_le_mul_right (c:=9223372036854775808 - c) ?_ (by omega)
 refine Nat.le_trans h6 ?_
 have e4:m*F*9223372036854775808=(m*9223372036854775808)*F:=by ac_rfl
 have e5:(m+4*c)*F*(9223372036854775808 - c)=((m+4*c)*(9223372036854775808 - c))*F:=by ac_rfl
 rw [e4,e5]
 refine Nat.mul_le_mul_right F ?_
 rw [Nat.mul_sub]
 have h7:(m+4*c)*c≤4*c*9223372036854775808:=by
  have h8:m+4*c≤4*9223372036854775808:=by omega
  have h9:=Nat.mul_le_mul_right c h8
  have e6:4*9223372036854775808*c=4*c*9223372036854775808:=by ac_rfl
  omega
 have e7:(m+4*c)*9223372036854775808=m*9223372036854775808+4*c*9223372036854775808:=Nat.add_mul _ _ _
 refine Nat.le_sub_of_add_le ?_
 rw [e7]
 exact Nat.add_le_add_left h7 _

theorem eX (m1 m2:Nat)(e1 e2:Int)(w:World)(h1':m1<18446744073709551616)(h2':m2<18446744073709551616)(b1:-1000≤e1)(b1':e1≤2305843009213693952)(b2:-1000≤e2)(b2':e2≤2305843009213693952) :
  Calls Tryz.prog 113 #[.agg #[.int .u64 m1,.int .i64 e1],.agg #[.int .u64 m2,.int .i64 e2]] w fun e w'=>e=.returned (.agg #[.int .u64 (ay (m1*m2):Nat),.int .i64 (e1+e2+63+(az (m1*m2):Nat))])∧Below w.heap.size w w':=by
 have a2:m1*m2<18446744073709551616*18446744073709551616:=Nat.mul_lt_mul_of_lt_of_lt h1' h2'
 have hM:=fun W=>Tryz.bits_Mul64 m1 m2 h1' h2' W
 obtain⟨e3,he3⟩:∃e3:Int,e1+e2=e3:=⟨_,rfl⟩
 obtain⟨e4,he4⟩:∃e4:Int,e3+64=e4:=⟨_,rfl⟩
 have w3:IntKind.i64.wrap e3=e3:=by rw [IntKind.wrap_i64];omega
 have w4:IntKind.i64.wrap e4=e4:=by rw [IntKind.wrap_i64];omega
 generalize m1*m2=P at *
 have hHi:P / 18446744073709551616<18446744073709551616:=by omega
 have hLo:P % 18446744073709551616<18446744073709551616:=by omega
 unfold ay az
 by_cases hP:P<170141183460469231731687303715884105728
 ·rw [if_pos hP,if_pos hP]
  obtain⟨e5,he5⟩:∃e5:Int,e4 - 1=e5:=⟨_,rfl⟩
  have w5:IntKind.i64.wrap e5=e5:=by rw [IntKind.wrap_i64];omega
  have hres:e3+63+((0:Nat):Int)=e5:=by omega
  rw [he3,hres]
  have q1:((P / 18446744073709551616:Nat):Int) / 9223372036854775808=0:=by omega
  obtain⟨l,hl,hl2⟩:∃l:Nat,((P % 18446744073709551616:Nat):Int) / 9223372036854775808=(l:Int)∧l<2:=⟨P % 18446744073709551616 / 9223372036854775808,by omega,by omega⟩
  have q2:=dO (P / 18446744073709551616) 1 (P / 18446744073709551616*2) (by omega)
  have q3:=gX (P / 18446744073709551616) 1 l (P / 9223372036854775808) (by omega) (by omega) (by omega) (by omega)
  rw [Int.pow_one] at q2
  rw [Nat.pow_one] at q3
  generalize P / 9223372036854775808=R at *
  generalize P / 18446744073709551616=H at *
  generalize P % 18446744073709551616=Lo at *
  have q4:bits BinOp.or IntKind.u64 ((H:Int)*2) (l:Int)=(R:Int):=by have:=q3;push_cast at this;exact this
  clear q3
  have ba:=ac w (.cells #[.int .u64 m1,.int .i64 e1] 128)
  have bb:=ac (w.alloc (.cells #[.int .u64 m1,.int .i64 e1] 128)) (.cells #[.int .u64 m2,.int .i64 e2] 128)
  have bc:=ac ((w.alloc (.cells #[.int .u64 m1,.int .i64 e1] 128)).alloc (.cells #[.int .u64 m2,.int .i64 e2] 128)) (.cells #[.int .u64 R,.int .i64 e5] 128)
  have bab:=ba.trans (bb.mono ba.size)
  have HB:=aa (bab.trans (bc.mono bab.size))
  clear ba bb bc bab
  go_enter Tryz.func113,Tryz.ntmps113
  go_wp2_with fail
  refine (hM _).mono ?_
  rintro e wn ⟨rfl,hw⟩;rw [hw];clear hw wn hM
  go_wp2
  go_returns
  exact⟨rfl,HB.out⟩
 ·rw [if_neg hP,if_neg hP]
  have hres:e3+63+((1:Nat):Int)=e4:=by omega
  rw [he3,hres]
  have q1:((P / 18446744073709551616:Nat):Int) / 9223372036854775808=1:=by omega
  generalize P / 18446744073709551616=H at *
  generalize P % 18446744073709551616=Lo at *
  have ba:=ac w (.cells #[.int .u64 m1,.int .i64 e1] 128)
  have bb:=ac (w.alloc (.cells #[.int .u64 m1,.int .i64 e1] 128)) (.cells #[.int .u64 m2,.int .i64 e2] 128)
  have bc:=ac ((w.alloc (.cells #[.int .u64 m1,.int .i64 e1] 128)).alloc (.cells #[.int .u64 m2,.int .i64 e2] 128)) (.cells #[.int .u64 H,.int .i64 e4] 128)
  have bab:=ba.trans (bb.mono ba.size)
  have HB:=aa (bab.trans (bc.mono bab.size))
  clear ba bb bc bab
  go_enter Tryz.func113,Tryz.ntmps113
  go_wp2_with fail
  refine (hM _).mono ?_
  rintro e wn ⟨rfl,hw⟩;rw [hw];clear hw wn hM
  go_wp2
  go_returns
  exact⟨rfl,HB.out⟩

theorem eG (v:Nat)(w:World)(hv:0<v)(hv2:v<18446744073709551616) :
  Calls Tryz.prog 112 #[.int .u64 v] w fun e w'=>∃m f:Nat,e=.returned (.agg #[.int .u64 m,.int .i64 ((f:Int) - 63)])∧Nr v m f 0∧f≤63∧Below w.heap.size w w':=by
 have HZ:=fun W=>Tryz.bits_LeadingZeros64 v W (by omega) (by omega)
 obtain⟨hb1,hb2,hb3⟩:1≤Lib.bitLen v∧2 ^ (Lib.bitLen v - 1)≤v∧v<2 ^ Lib.bitLen v:=Lib.bitLenAux_bounds 64 v hv2 (by omega)
 have hb64:Lib.bitLen v≤64:=Lib.bitLen_le v 64 (by omega) hv2
 obtain⟨s,hs,hs1,hs2⟩:∃s:Nat,64 - (Lib.bitLen v:Int)=(s:Int)∧Lib.bitLen v=64 - s∧s≤63:=⟨64 - Lib.bitLen v,by omega,by omega,by omega⟩
 simp only [Int.toNat_natCast,hs] at HZ
 rw [hs1] at hb2 hb3
 have h1:9223372036854775808≤v*2 ^ s:=by
  have:=Nat.mul_le_mul_right (2 ^ s) hb2
  rw [←Nat.pow_add,show 64 - s - 1+s=63 by omega] at this
  exact this
 have h2:v*2 ^ s<18446744073709551616:=by
  have:=Nat.mul_lt_mul_of_pos_right hb3 (show 0<2 ^ s from Nat.pow_pos (by omega))
  rw [←Nat.pow_add,show 64 - s+s=64 by omega] at this
  exact this
 have HN:=aa (Nr.exact v s h1 h2 hs2)
 have hw:=dO v s (v*2 ^ s) (Nat.mod_eq_of_lt h2)
 have hsl:(s:Int)<64:=by omega
 have hs0:(0:Int)≤(s:Int):=by omega
 have he:((63 - s:Nat):Int) - 63=-(s:Int):=by omega
 generalize v*2 ^ s=m at *
 have HB:=aa (ac w (.cells #[.int .u64 m,.int .i64 (-(s:Int))] 128))
 clear hb1 hb2 hb3 hb64 hs hs1 h1 h2
 go_enter Tryz.func112,Tryz.ntmps112
 go_wp2_with fail
 refine (HZ _).mono ?_
 rintro e wn ⟨rfl,hw⟩;rw [hw];clear hw wn HZ
 go_wp2
 go_returns
 exact⟨m,63 - s,by rw [he],HN.out,by omega,HB.out⟩
end Go.Proofs.YteehipcoeocojaaGreatDoor

