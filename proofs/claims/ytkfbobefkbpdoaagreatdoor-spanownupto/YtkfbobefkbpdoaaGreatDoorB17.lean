/- Package mul: three blocks of one length that are worked on in place. -/
import Derived.Test.YtkfbobefkbpdoaaGreatDoorB16
set_option maxRecDepth 20000
set_option maxHeartbeats 1000000
namespace Go.Proofs.YtkfbobefkbpdoaaGreatDoor
open Go.RowKit
open Lm

def bF (w:World)(g N v:Nat):Prop:=∃A:List Nat,Blk w g A∧Limbs A∧A.length=N∧val A=v

theorem bF.fr {w w':World}{g N v bz:Nat}(h:bF w g N v)(hf:Fr bz w w')(hne:g≠bz):bF w' g N v:=by
 obtain⟨A,h1,h2⟩:=h
 exact⟨A,hf.blk h1 hne,h2⟩

theorem bF.arg {w:World}{g N v:Nat}(h:bF w g N v)(hN:N≤1125899906842624):∃A:List Nat,Arg w (.slice (some ⟨g,0,none⟩) N N) A∧val A=v:=by
 obtain⟨A,h1,h2,h3,h4⟩:=h
 refine⟨A,?_,h4⟩
 have:=h1.take_arg h2 N N (by omega) (Nat.le_refl _) (by omega)
 rwa [List.take_of_length_le (by omega)] at this

theorem aA {g g' o n c:Nat}(h:g≠g'):∀lo hi,Off (.slice (some ⟨g,o,none⟩) n c) g' lo hi:=fun lo hi b off n c e=>by
 cases e
 exact .inl h

structure St3 (w0 ws w:World)(bz o e t N:Nat)(Z:List Nat)(vo ve vt:Nat):Prop where
 fr:Fr bz w0 w
 blk:Blk w bz Z
 lz:Limbs Z
 lt:bz<w0.heap.size
 no:w0.heap.size≤o
 ne:w0.heap.size≤e
 nt:w0.heap.size≤t
 oe:o≠e
 ot:o≠t
 et:e≠t
 ho:bF w o N vo
 he:bF w e N ve
 ht:bF w t N vt
 size:ws.heap.size≤w.heap.size
 keep:∀k,k<ws.heap.size→k≠bz→k≠o→k≠e→k≠t→w.heap[k]?=ws.heap[k]?

theorem St3.oe' {w0 ws w:World}{bz o e t N:Nat}{Z:List Nat}{vo ve vt:Nat}(h:St3 w0 ws w bz o e t N Z vo ve vt):St3 w0 ws w bz e o t N Z ve vo vt:=
 ⟨h.fr,h.blk,h.lz,h.lt,h.ne,h.no,h.nt,Ne.symm h.oe,h.et,h.ot,h.he,h.ho,h.ht,h.size,fun k a b c d e=>h.keep k a b d c e⟩

theorem St3.et' {w0 ws w:World}{bz o e t N:Nat}{Z:List Nat}{vo ve vt:Nat}(h:St3 w0 ws w bz o e t N Z vo ve vt):St3 w0 ws w bz o t e N Z vo vt ve:=
 ⟨h.fr,h.blk,h.lz,h.lt,h.no,h.nt,h.ne,h.ot,h.oe,Ne.symm h.et,h.ho,h.ht,h.he,h.size,fun k a b c d e=>h.keep k a b c e d⟩

theorem St3.up {w0 ws w:World}{bz o e t N:Nat}{Z:List Nat}{vo ve vt:Nat}(h:St3 w0 ws w bz o e t N Z vo ve vt){E:List Nat}{p:Nat}{en:Ending}{w':World}(hl:E.length=N)(hd:aI e 0 N E w p en w') :
  en=.returned (.tuple #[])∧St3 w0 ws w' bz o e t N Z vo p vt:=by
 obtain⟨rfl,E',q1,q2,q3,q4,q5⟩:=hd
 have hlt:=h.lt
 have hne:=h.ne
 have hE:E'.length=N:=by rw [q1.len,hl]
 refine⟨rfl,h.fr.other q4 h.ne,q4.blk h.blk (by omega),h.lz,h.lt,h.no,h.ne,h.nt,h.oe,h.ot,h.et,h.ho.fr q4 h.oe,⟨E',q3,q2,hE,?_⟩,h.ht.fr q4 (Ne.symm h.et),Nat.le_trans h.size q4.size,fun k a b c d f=>(q4.block k (Nat.lt_of_lt_of_le a h.size) d).trans (h.keep k a b c d f)⟩
 rw [←q5,←hE,dV]

theorem St3.upz {w0 ws w:World}{bz o e t N:Nat}{Z:List Nat}{vo ve vt:Nat}(h:St3 w0 ws w bz o e t N Z vo ve vt){zo n p:Nat}{en:Ending}{w':World}(hd:aI bz zo n Z w p en w') :
  en=.returned (.tuple #[])∧∃Z',St3 w0 ws w' bz o e t N Z' vo ve vt∧Out Z Z' zo (zo+n)∧sv Z' zo n=p:=by
 obtain⟨rfl,Z',q1,q2,q3,q4,q5⟩:=hd
 have hlt:=h.lt
 have h1:=h.no
 have h2:=h.ne
 have h3:=h.nt
 exact⟨rfl,Z',⟨h.fr.trans q4,q3,q2,h.lt,h.no,h.ne,h.nt,h.oe,h.ot,h.et,h.ho.fr q4 (by omega),h.he.fr q4 (by omega),h.ht.fr q4 (by omega),Nat.le_trans h.size q4.size,fun k a b c d f=>(q4.block k (Nat.lt_of_lt_of_le a h.size) b).trans (h.keep k a b c d f)⟩,q1,q5⟩

theorem cn {E:List Nat}{N:Nat}(h:E.length=N):sv E 0 N=val E:=by rw [←h,dV]

theorem St3.plus {w0 ws w:World}{bz o e t N:Nat}{Z:List Nat}{vo ve vt:Nat}(h:St3 w0 ws w bz o e t N Z vo ve vt)(hN:N≤1125899906842624)(p:Nat){va:Value}{A:List Nat}(hA:Arg w va A)(hoff:Off va e 0 (0+N))(hp:p=ve+val A)(hfit:p<18446744073709551616 ^ N) :
  Calls Tryz.prog 152 #[.slice (some ⟨e,0,none⟩) N N,va] w fun en w'=>en=.returned (.tuple #[])∧St3 w0 ws w' bz o e t N Z vo p vt:=by
 obtain⟨E,h1,h2,h3,h4⟩:=h.he
 have:=cF e 0 N N E va A w h1 h2 hA hoff (by omega) (Nat.le_refl _) (by omega) (by rw [cn h3,h4];omega)
 rw [cn h3,h4,←hp] at this
 exact this.mono fun en w' hd=>h.up h3 hd

theorem St3.minus {w0 ws w:World}{bz o e t N:Nat}{Z:List Nat}{vo ve vt:Nat}(h:St3 w0 ws w bz o e t N Z vo ve vt)(hN:N≤1125899906842624)(p:Nat){va:Value}{A:List Nat}(hA:Arg w va A)(hoff:Off va e 0 (0+N))(hp:ve=p+val A) :
  Calls Tryz.prog 154 #[.slice (some ⟨e,0,none⟩) N N,va] w fun en w'=>en=.returned (.tuple #[])∧St3 w0 ws w' bz o e t N Z vo p vt:=by
 obtain⟨E,h1,h2,h3,h4⟩:=h.he
 have:=eG e 0 N N E va A w h1 h2 hA hoff (by omega) (Nat.le_refl _) (by omega) (by rw [cn h3,h4];omega)
 rw [cn h3,h4,show ve - val A=p by omega] at this
 exact this.mono fun en w' hd=>h.up h3 hd

theorem St3.minusTimes {w0 ws w:World}{bz o e t N:Nat}{Z:List Nat}{vo ve vt:Nat}(h:St3 w0 ws w bz o e t N Z vo ve vt)(hN:N≤1125899906842624)(p k:Nat){va:Value}{A:List Nat}(hA:Arg w va A)(hoff:Off va e 0 (0+N))(hp:ve=p+val A*k)(hk0:0<k)(hk:k<18446744073709551616) :
  Calls Tryz.prog 155 #[.slice (some ⟨e,0,none⟩) N N,va,.int .u64 k] w fun en w'=>en=.returned (.tuple #[])∧St3 w0 ws w' bz o e t N Z vo p vt:=by
 obtain⟨E,h1,h2,h3,h4⟩:=h.he
 have:=ow e 0 N N E va A k w h1 h2 hA hoff (by omega) (Nat.le_refl _) (by omega) hk0 hk (by rw [cn h3,h4];omega)
 rw [cn h3,h4,show ve - val A*k=p by omega] at this
 exact this.mono fun en w' hd=>h.up h3 hd

theorem St3.half {w0 ws w:World}{bz o e t N:Nat}{Z:List Nat}{vo ve vt:Nat}(h:St3 w0 ws w bz o e t N Z vo ve vt)(hN:N≤1125899906842624)(p:Nat)(hp:ve=2*p) :
  Calls Tryz.prog 153 #[.slice (some ⟨e,0,none⟩) N N] w fun en w'=>en=.returned (.tuple #[])∧St3 w0 ws w' bz o e t N Z vo p vt:=by
 obtain⟨E,h1,h2,h3,h4⟩:=h.he
 have:=qG e 0 N N E w h1 h2 (by omega) (Nat.le_refl _) (by omega)
 rw [cn h3,h4,show ve / 2=p by omega] at this
 exact this.mono fun en w' hd=>h.up h3 hd

theorem St3.third {w0 ws w:World}{bz o e t N:Nat}{Z:List Nat}{vo ve vt:Nat}(h:St3 w0 ws w bz o e t N Z vo ve vt)(hN:N≤1125899906842624)(p:Nat)(hp:ve=3*p) :
  Calls Tryz.prog 156 #[.slice (some ⟨e,0,none⟩) N N] w fun en w'=>en=.returned (.tuple #[])∧St3 w0 ws w' bz o e t N Z vo p vt:=by
 obtain⟨E,h1,h2,h3,h4⟩:=h.he
 have:=qR e 0 N N E w h1 h2 (by omega) (Nat.le_refl _) (by omega) (by rw [cn h3,h4];omega)
 rw [cn h3,h4,show ve / 3=p by omega] at this
 exact this.mono fun en w' hd=>h.up h3 hd

theorem St3.add {w0 ws w:World}{bz o e t N:Nat}{Z:List Nat}{vo ve vt:Nat}(h:St3 w0 ws w bz o e t N Z vo ve vt)(zo n k cap:Nat){va:Value}{A:List Nat}(hA:Arg w va A)(hoff:Off va bz (zo+k) (zo+k+(n - k)))(hk:k≤n)(hz:zo+n≤Z.length)(hc1:n - k≤cap)(hc2:cap≤9223372036854775807)
  (tot:Nat) (hle:sv Z zo n+18446744073709551616 ^ k*val A≤tot) (htot:tot<18446744073709551616 ^ n) :
  Calls Tryz.prog 152 #[.slice (some ⟨bz,zo+k,none⟩) (n - k) cap,va] w fun en w'=>en=.returned (.tuple #[])∧∃Z',St3 w0 ws w' bz o e t N Z' vo ve vt∧Out Z Z' zo (zo+n)∧sv Z' zo n=sv Z zo n+18446744073709551616 ^ k*val A:=by
 have hfit:=gX Z zo k n (val A) tot hk hz hle htot
 have:=cF bz (zo+k) (n - k) cap Z va A w h.blk h.lz hA hoff (by omega) hc1 hc2 hfit
 refine this.mono fun en w' hd=>?_
 obtain⟨he,Z',h1,h2,h3⟩:=h.upz hd
 rw [show zo+k+(n - k)=zo+n by omega] at h2
 exact⟨he,Z',h1,h2.wider (by omega) (Nat.le_refl _),gY Z Z' zo k n _ hk hz h2 h3⟩

theorem pH (X:List Nat)(d:Nat)(h:X.length≤d):val (X.drop d)=0:=by
 rw [List.drop_of_length_le h];rfl

theorem kb (Z:List Nat)(zo d q n zh c0 c4:Nat)(hd:d≤q)(hq:q≤n)(hl:zo+n≤Z.length)(h0:sv Z zo d=c0)(h1:sv Z (zo+d) (q - d)=0)(h2:sv Z zh (n - q)=c4)(hz:zh=zo+q∨(zh=zo∧n - q=0)) :
  sv Z zo n=c0+18446744073709551616 ^ q*c4:=by
 have e1:sv Z zo q=c0:=by
  have:=aY Z zo d (q - d) (by omega)
  rw [show d+(q - d)=q by omega,h0,h1,Nat.mul_zero,Nat.add_zero] at this
  exact this
 have e2:=aY Z zo q (n - q) (by omega)
 rw [show q+(n - q)=n by omega,e1] at e2
 rw [e2]
 rcases hz with rfl|⟨rfl,h⟩
 ·rw [h2]
 ·rw [h,bE] at h2
  rw [h,bE,←h2]

theorem nM (Z:List Nat)(o a c:Nat)(hl:o+a≤Z.length)(h:sv Z o (a+c)=0):sv Z o a=0∧sv Z (o+a) c=0:=by
 rw [aY Z o a c hl] at h
 have h1:sv Z o a=0:=by omega
 have h2:18446744073709551616 ^ a*sv Z (o+a) c=0:=by omega
 refine⟨h1,?_⟩
 rcases Nat.mul_eq_zero.1 h2 with h3|h3
 ·exact absurd h3 (Nat.pos_iff_ne_zero.1 (Nat.pow_pos (by omega)))
 ·exact h3

theorem iZ (A B s m:Nat)(hA:A<3*18446744073709551616 ^ s)(hB:B<3*18446744073709551616 ^ s)(hm:m=s+1):2*(A*B)<18446744073709551616 ^ (m+m):=by
 subst hm
 rw [Nat.pow_add,Nat.pow_succ]
 generalize (18446744073709551616:Nat) ^ s=P at *
 have h:=Nat.mul_lt_mul'' hA hB
 have e1:3*P*(3*P)=9*(P*P):=by grind
 have e2:P*18446744073709551616*(P*18446744073709551616)=340282366920938463463374607431768211456*(P*P):=by grind
 rw [e1] at h
 rw [e2]
 generalize P*P=S at *
 omega

def Env (w:World)(kw kx gx gy bz:Nat)(cw cx cy:Array Value)(tw tv:TypeId)(MX MY Z:List Nat):Prop:=
 w.heap[kw]?=some (.cells cw tw)∧w.heap[kx]?=some (.cells cx tv)∧w.heap[kx+1]?=some (.cells cy tv)∧Blk w gx MX∧Blk w gy MY∧Blk w bz Z

theorem dT {w w':World}{k:Nat}{o:Obj}(h:w.heap[k]?=some o)(hb:Below w.heap.size w w'):w'.heap[k]?=some o:=by
 have hlt:k<w.heap.size:=by
  refine Nat.lt_of_not_le fun hle=>?_
  rw [Array.getElem?_eq_none hle] at h;cases h
 rw [hb.block k hlt];exact h

theorem Env.below {w w':World}{kw kx gx gy bz:Nat}{cw cx cy:Array Value}{tw tv:TypeId}{MX MY Z:List Nat}(h:Env w kw kx gx gy bz cw cx cy tw tv MX MY Z)(hb:Below w.heap.size w w'):Env w' kw kx gx gy bz cw cx cy tw tv MX MY Z:=
 ⟨dT h.1 hb,dT h.2.1 hb,dT h.2.2.1 hb,h.2.2.2.1.below' hb,h.2.2.2.2.1.below' hb,h.2.2.2.2.2.below' hb⟩

theorem dC {w:World}{h:Nat}{a b:Value}{t:TypeId}(e:w.heap[h]?=some (.cells #[a,b] t)):w.cell? ⟨h,0,none⟩=some a∧w.cell? ⟨h,1,none⟩=some b:=
 ⟨by simp [World.cell?,e],by simp [World.cell?,e]⟩

theorem dA (H T:Int)(gx gy o m R n:Nat)(MX MY:List Nat)(w:World)(x y:Nat)(BX:Blk w gx MX)(BY:Blk w gy MY)(LX:Limbs MX)(LY:Limbs MY)(hx:o+m≤MX.length)(hy:o+m≤MY.length)(hc:m≤R - o)(hR:R≤35184372088831)(hm:0<m)(hmn:m+m<n)
  (vx:sv MX o m=x) (vy:sv MY o m=y) (hI:∀P Q:List Nat,P.length+Q.length<n→bR H T P Q) (hmm:m+m≤35184372088831) :
  Calls Tryz.prog 151 #[way H T,.slice (some ⟨gx,o,none⟩) m (R - o),.slice (some ⟨gy,o,none⟩) m (R - o)] w (jU w (m+m) (x*y)):=by
 have s1:=cG MX o m hx
 have s2:=cG MY o m hy
 have:=oq H T _ _ (seg MX o m) (seg MY o m) w (BX.seg_arg LX o m (R - o) hx hc (by omega) (by omega)) (BY.seg_arg LY o m (R - o) hy hc (by omega) (by omega)) (by omega) (by omega) (by omega) (hI _ _ (by omega))
 rw [s1,s2,show val (seg MX o m)=x from vx,show val (seg MY o m)=y from vy] at this
 exact this

theorem fj (X:List Nat)(s d:Nat)(h1:d≤X.length)(h2:d≤s+s)(h3:s+s≤d):val X=val (X.take s)+18446744073709551616 ^ s*val ((X.drop s).take s)+18446744073709551616 ^ s*18446744073709551616 ^ s*val (X.drop d):=by
 have e1:=eE X s (by omega)
 have e2:=eE (X.drop s) s (by simp;omega)
 rw [List.drop_drop,show s+s=d by omega] at e2
 rw [e1,e2,Nat.mul_add,←Nat.add_assoc,←Nat.mul_assoc]

theorem fv {X:List Nat}(hX:Limbs X)(s d:Nat)(h1:X.length≤3*s)(h2:d≤s+s∧s+s≤d)(h3:d≤X.length):val (X.take s)+val ((X.drop s).take s)+val (X.drop d)<3*18446744073709551616 ^ s:=by
 have a:=dj hX s (by omega)
 have b:=dj (X:=X.drop s) (fun z hz=>hX z (List.mem_of_mem_drop hz)) s (by simp;omega)
 have c:=dI hX d s (by omega)
 omega

theorem kV (H T:Int)(bz zo cap s:Nat)(Z:List Nat)(b off c1 b2 off2 c2:Nat)(X Y:List Nat)(w:World)(hB:Blk w bz Z)(hLZ:Limbs Z)
  (hA:Arg w (.slice (some ⟨b,off,none⟩) X.length c1) X) (hA2:Arg w (.slice (some ⟨b2,off2,none⟩) Y.length c2) Y) (hb:b≠bz) (hb2:b2≠bz)
  (hzo:zo+(X.length+Y.length)≤Z.length) (hc1:X.length+Y.length≤cap) (hc2:cap≤9223372036854775807) (hs0:0<s) (hYs:2*s≤Y.length) (hYX:Y.length≤X.length) (hXs:X.length≤3*s) (hlX:X.length≤4398046511103) (h22:2*s+2<X.length+Y.length)
  (hI:∀P Q:List Nat,P.length+Q.length<X.length+Y.length→bR H T P Q) :
  Calls Tryz.prog 146 #[way H T,.slice (some ⟨bz,zo,none⟩) (X.length+Y.length) cap,.slice (some ⟨b,off,none⟩) X.length c1,.slice (some ⟨b2,off2,none⟩) Y.length c2,.int .i64 s] w (aI bz zo (X.length+Y.length) Z w (val X*val Y)):=by
 unfold way
 obtain⟨_,_,e0,hcc1,hcm1,_⟩:=hA.form
 cases e0
 obtain⟨_,_,e0,hcc2,hcm2,_⟩:=hA2.form
 cases e0
 have hbz:=hB.lt
 have hbw:=hA.block (by omega)
 have hbw2:=hA2.block (by omega)
 obtain⟨w1,hw1⟩:∃w1,w1=w.alloc (.cells #[.int .i64 H,.int .i64 T] 161):=⟨_,rfl⟩
 have hbel1:Below w.heap.size w w1:=by rw [hw1];exact (Below.refl _ _).alloc (Nat.le_refl _) _
 have hs1:w1.heap.size=w.heap.size+1:=by rw [hw1];simp
 have hb1:w1.heap[w.heap.size]?=some (.cells #[.int .i64 H,.int .i64 T] 161):=by rw [hw1];exact heap_alloc_new ..
 have HW1:=ab hw1
 have HX1:=ab hb1
 have HB1:=ab (hB.below' hbel1)
 have HA1:=ab (hA.below hbel1)
 have HA2:=ab (hA2.below hbel1)
 have HF1:=ab (Fr.of_below (bz:=bz) hbel1)
 have HII:=ab hI
 have mX:=hA.limbs
 have mY:=hA2.limbs
 clear hw1 hbel1 hb1 hB hA hA2 hI
 obtain⟨n,hn⟩:∃n:Nat,X.length+Y.length=n:=⟨_,rfl⟩
 have hn1:n≤X.length+Y.length:=by omega
 have hn2:X.length+Y.length≤n:=by omega
 rw [hn] at hzo hc1 HII h22 ⊢
 have HN:=ab hn
 clear hn
 obtain⟨d,ed,hd1,hd2⟩:∃d:Nat,(2:Int)*(s:Int)=(d:Int)∧d≤2*s∧2*s≤d:=⟨2*s,by omega,by omega,by omega⟩
 obtain⟨q,eq,hq1,hq2⟩:∃d:Nat,(4:Int)*(s:Int)=(d:Int)∧d≤4*s∧4*s≤d:=⟨4*s,by omega,by omega,by omega⟩
 obtain⟨r,er,hr1,hr2⟩:∃d:Nat,(3:Int)*(s:Int)=(d:Int)∧d≤3*s∧3*s≤d:=⟨3*s,by omega,by omega,by omega⟩
 have wd:IntKind.i64.wrap (d:Int)=(d:Int):=by rw [IntKind.wrap_i64];omega
 have wq:IntKind.i64.wrap (q:Int)=(q:Int):=by rw [IntKind.wrap_i64];omega
 have kd0:(0:Int)≤(d:Int):=by omega
 have kd1:(d:Int)≤(n:Int):=by omega
 have kd2:¬cap=d:=by omega
 have kd3:(d:Int)≤(cap:Int):=by omega
 have kq0:(0:Int)≤(q:Int):=by omega
 have kq1:(q:Int)≤(n:Int):=by omega
 have kq3:(q:Int)≤(cap:Int):=by omega
 obtain⟨zh,ezh,hzh⟩:∃zh:Nat,(if cap=q then (some ⟨bz,zo,none⟩:Option Addr) else some ⟨bz,zo+q,none⟩)=some ⟨bz,zh,none⟩∧((zh=zo+q)∨(zh=zo∧n - q=0)):=by
  by_cases hc:cap=q
  ·exact⟨zo,by rw [if_pos hc],.inr ⟨rfl,by omega⟩⟩
  ·exact⟨zo+q,by rw [if_neg hc],.inl rfl⟩
 have HZH:=ab hzh
 clear hzh
 go_enter Tryz.func146,Tryz.ntmps146
 go_wp2_with fail
 rw [←HW1.out]
 go_region
 obtain⟨w2,Z1,hrun,O2,L2,B2,F2,S2⟩:=gA bz (zo+d) (n - d) (cap - d) Z w1.drew HB1.out hLZ (by omega)
 have F2':=F2.undrew
 have l1:=O2.len
 have HX2:=ab ((F2'.block w.heap.size (by omega) (by omega)).trans HX1.out)
 have HA3:=ab (HA1.out.frb F2' hb)
 have HA23:=ab (HA2.out.frb F2' hb2)
 have HF2:=ab (HF1.out.trans F2')
 have tk1:(X.take s).length=s:=by simp;omega
 have tk2:(Y.take s).length=s:=by simp;omega
 have HI1:=HII.out (X.take s) (Y.take s) (by rw [tk1,tk2];omega) bz zo cap Z1 _ _ w2.drew B2 L2 (HA3.out.front s (by omega)).drew (HA23.out.front s (by omega)).drew
  (fun b' off' n' c' e=>by cases e;exact hb) (fun b' off' n' c' e=>by cases e;exact hb2) (by rw [tk1,tk2];omega) (by rw [tk1,tk2];omega) (by omega)
 rw [tk1,tk2,show s+s=d by omega] at HI1
 unfold way at HI1
 have HK1:=ab (fun (w7:World) (hF:Fr bz w2.drew w7)=>(by
  have e:w7.heap[w.heap.size]?=some (.cells #[.int .i64 H,.int .i64 T] 161):=by rw [hF.block w.heap.size (by show _<w2.heap.size;have:=F2'.size;omega) (by omega)];exact HX2.out
  exact⟨e,by simp [World.cell?,e],by simp [World.cell?,e]⟩:w7.heap[w.heap.size]?=some (.cells #[.int .i64 H,.int .i64 T] 161)∧w7.cell? ⟨w.heap.size,0,none⟩=some (.int .i64 H)∧w7.cell? ⟨w.heap.size,1,none⟩=some (.int .i64 T)))
 have hq0:w2.cell? ⟨w.heap.size,0,none⟩=some (.int .i64 H):=by have e:=HX2.out;simp [World.cell?,e]
 have hq1':w2.cell? ⟨w.heap.size,1,none⟩=some (.int .i64 T):=by have e:=HX2.out;simp [World.cell?,e]
 have hsz2:w.heap.size<w2.heap.size:=by have:=F2'.size;omega
 have HS2:=ab (nM Z1 (zo+d) (q - d) (n - q) (by omega) (by rw [show q - d+(n - q)=n - d by omega];exact S2))
 rw [show zo+d+(q - d)=zo+q by omega] at HS2
 have HO2:=ab (O2.wider (lo':=zo) (hi':=zo+n) (by omega) (by omega))
 have ks0:(0:Int)≤(s:Int):=by omega
 have ks1:(s:Int)≤(X.length:Int):=by omega
 have ks2:(s:Int)≤(Y.length:Int):=by omega
 have ks3:(s:Int)≤(c1:Int):=by omega
 have ks4:(s:Int)≤(c2:Int):=by omega
 clear O2 L2 B2 F2 S2 F2' HB1 HF1 HA1 HA2 HX1 tk1 tk2 hLZ
 go_wp2
 clear hrun HW1 hs1
 go_region_held3 (fun w'=>w'.cell? ⟨w.heap.size,0,none⟩=some (.int .i64 H)∧w'.cell? ⟨w.heap.size,1,none⟩=some (.int .i64 T)) (go_keep) (first | (go_at_call 144;refine HI1.mono ?_;rintro e w3 ⟨rfl,Z2,p1,p2,p3,p4,p5⟩;obtain⟨hx3,hk2,hk3⟩:=HK1.out w3 p4))
 have F3:=p4.undrew
 have HX3:=ab hx3
 have HA4:=ab (HA3.out.frb F3 hb)
 have HA24:=ab (HA23.out.frb F3 hb2)
 have HF3:=ab (HF2.out.trans F3)
 have hsz3:w.heap.size<w3.heap.size:=by have:=F3.size;omega
 have l2:=p1.len
 have HO3:=ab (HO2.out.trans (p1.wider (Nat.le_refl _) (by omega)))
 have S3:=ab p5
 have S3b:Hid (sv Z2 (zo+d) (q - d)=0):=ab (by rw [p1.sv (zo+d) (q - d) (by omega)];exact HS2.out.1)
 have S3c:Hid (sv Z2 (zo+q) (n - q)=0):=ab (by rw [p1.sv (zo+q) (n - q) (by omega)];exact HS2.out.2)
 have HB3:=ab p3
 have HL3:=ab p2
 clear p1 p2 p3 p4 p5 hx3 HI1 HK1 hq0 hq1' HX2 HA3 HA23 HF2 F3 HO2 HS2 hsz2
 by_cases hYd:d<Y.length
 ·have kY:(d:Int)<(Y.length:Int):=by omega
  have kY1:(d:Int)≤(X.length:Int):=by omega
  have kY2:(d:Int)≤(Y.length:Int):=by omega
  have kY3:¬c1=d:=by omega
  have kY4:¬c2=d:=by omega
  have hzq:zh=zo+q:=by
   rcases HZH.out with h|h
   ·exact h
   ·omega
  have HI2:=HII.out (X.drop d) (Y.drop d) (by simp;omega) bz zh (cap - q) Z2 _ _ w3.drew HB3.out HL3.out (HA4.out.drop d (by omega)).drew (HA24.out.drop d (by omega)).drew
   (fun b' off' n' c' e=>by cases e;exact hb) (fun b' off' n' c' e=>by cases e;exact hb2) (by simp;omega) (by simp;omega) (by omega)
  rw [List.length_drop,List.length_drop,show X.length - d+(Y.length - d)=n - q by omega] at HI2
  unfold way at HI2
  have HZQ:=ab hzq
  have HK2:=ab (fun (w7:World) (hF:Fr bz w3.drew w7)=>(by
   have e:w7.heap[w.heap.size]?=some (.cells #[.int .i64 H,.int .i64 T] 161):=by rw [hF.block w.heap.size (by show _<w3.heap.size;omega) (by omega)];exact HX3.out
   exact⟨e,by simp [World.cell?,e],by simp [World.cell?,e]⟩:w7.heap[w.heap.size]?=some (.cells #[.int .i64 H,.int .i64 T] 161)∧w7.cell? ⟨w.heap.size,0,none⟩=some (.int .i64 H)∧w7.cell? ⟨w.heap.size,1,none⟩=some (.int .i64 T)))
  clear hzq
  go_wp2
  go_region_held3 (fun w'=>w'.cell? ⟨w.heap.size,0,none⟩=some (.int .i64 H)∧w'.cell? ⟨w.heap.size,1,none⟩=some (.int .i64 T)) (go_keep) (first | (go_at_call 144;refine HI2.mono ?_;rintro e w4 ⟨rfl,Z3,p1,p2,p3,p4,p5⟩;obtain⟨hx4,hk0,hk1⟩:=HK2.out w4 p4))
  have F4:=p4.undrew
  have CX:=ab hx4
  have CA:=ab (HA4.out.frb F4 hb)
  have CA2:=ab (HA24.out.frb F4 hb2)
  have CF:=ab (HF3.out.trans F4)
  have CB:=ab p3
  have CL:=ab p2
  have lC:zo+n≤Z3.length:=by have:=p1.len;omega
  have hzq:=HZQ.out
  have CO:=ab (HO3.out.trans (p1.wider (by omega) (by omega)))
  have S0:sv Z3 zo d=val (X.take s)*val (Y.take s):=by rw [p1.sv zo d (by omega)];exact S3.out
  have S1:sv Z3 (zo+d) (q - d)=0:=by rw [p1.sv (zo+d) (q - d) (by omega)];exact S3b.out
  have CS0:=ab S0
  have CS2:=ab p5
  have CT:=ab (kb Z3 zo d q n zh _ _ (by omega) (by omega) (by omega) S0 S1 p5 HZH.out)
  have hsz4:w.heap.size<w4.heap.size:=by have:=F4.size;omega
  clear p1 p2 p3 p4 p5 hx4 HI2 HK2 hk2 hk3 HX3 HA4 HA24 HF3 F4 HO3 S3 S3b S3c HB3 HL3 hsz3 S0 S1 l2 hzq
  have HV1:=eY b off c1 s X w4 CA.out hs0 (by omega) hXs hlX
  rw [show 2*s=d by omega] at HV1
  go_wp2_with fail
  refine HV1.mono ?_
  rintro e w5 ⟨gx,m,d2,d3,R,ex,MX,em,eR,rfl,hgx,BMX,bel5,QX⟩
  have HV2:=eY b2 off2 c2 s Y w5 (CA2.out.below bel5) hs0 (by omega) (by omega) (by omega)
  rw [show 2*s=d by omega] at HV2
  have HD5:=ab (And.intro BMX (And.intro bel5 QX))
  have HEM:=ab (And.intro em eR)
  have hm1:m≤s+1:=by omega
  have hm2:s+1≤m:=by omega
  have hR1:R≤4*m:=by omega
  have hR2:4*m≤R:=by omega
  clear BMX bel5 QX HV1 em eR
  generalize hbx:decide (val (X.take s)+val (X.drop d)<val ((X.drop s).take s))=bx
  have HBX:=ab hbx
  clear hbx
  go_wp2_with fail
  refine HV2.mono ?_
  rintro e w6 ⟨gy,m',d2',d3',R',ey,MY,em',eR',rfl,hgy,BMY,bel6,QY⟩
  obtain rfl:m=m':=by have:=HEM.out.1;omega
  obtain rfl:R=R':=by have:=HEM.out.2;omega
  obtain rfl:d2=d2':=by have:=HD5.out.2.2.h2;have:=QY.h2;omega
  obtain rfl:d3=d3':=by have:=HD5.out.2.2.h3;have:=QY.h3;omega
  obtain⟨BMX,bel5,QX⟩:=HD5.out
  have hd2a:d2≤m+m:=Nat.le_of_eq QX.h2
  have hd2b:m+m≤d2:=Nat.le_of_eq QX.h2.symm
  have hd3a:d3≤m+m+m:=Nat.le_of_eq QX.h3
  have hd3b:m+m+m≤d3:=Nat.le_of_eq QX.h3.symm
  have lX:m+m+m+m≤MX.length:=Nat.le_of_eq QX.len.symm
  have lY:m+m+m+m≤MY.length:=Nat.le_of_eq QY.len.symm
  generalize hby:decide (val (Y.take s)+val (Y.drop d)<val ((Y.drop s).take s))=by'
  obtain⟨w7,hw7⟩:∃w7,w7=(w6.alloc (.cells #[.slice (some ⟨gx,m,none⟩) m (R - m),.slice (some ⟨gx,d2,none⟩) m (R - d2),.slice (some ⟨gx,d3,none⟩) m (R - d3),.bool bx] 178)).alloc (.cells #[.slice (some ⟨gy,m,none⟩) m (R - m),.slice (some ⟨gy,d2,none⟩) m (R - d2),.slice (some ⟨gy,d3,none⟩) m (R - d3),.bool by'] 178):=⟨_,rfl⟩
  have bel7:Below w6.heap.size w6 w7:=by rw [hw7];exact ((Below.refl _ _).alloc (Nat.le_refl _) _).alloc (by simp) _
  obtain⟨kx,hkx⟩:∃k,k=w6.heap.size:=⟨_,rfl⟩
  have belC:Below w4.heap.size w4 w7:=bel5.trans ((bel6.mono bel5.size).trans (bel7.mono (Nat.le_trans bel5.size bel6.size)))
  have E7:Env w7 w.heap.size kx gx gy bz #[.int .i64 H,.int .i64 T] #[.slice (some ⟨gx,m,none⟩) m (R - m),.slice (some ⟨gx,d2,none⟩) m (R - d2),.slice (some ⟨gx,d3,none⟩) m (R - d3),.bool bx] #[.slice (some ⟨gy,m,none⟩) m (R - m),.slice (some ⟨gy,d2,none⟩) m (R - d2),.slice (some ⟨gy,d3,none⟩) m (R - d3),.bool by'] 161 178 MX MY Z3:=by
   refine⟨dT CX.out belC,?_,?_,(BMX.below' bel6).below' bel7,BMY.below' bel7,CB.out.below' belC⟩
   ·rw [hkx,hw7,Below.heap_alloc _ _ _ (by simp)];exact heap_alloc_new ..
   ·rw [hkx,hw7,show w6.heap.size+1=(w6.alloc (.cells #[.slice (some ⟨gx,m,none⟩) m (R - m),.slice (some ⟨gx,d2,none⟩) m (R - d2),.slice (some ⟨gx,d3,none⟩) m (R - d3),.bool bx] 178)).heap.size by simp];exact heap_alloc_new ..
  have hN:m+m=m+m:=rfl
  have HF1:=dA H T gx gy m m R n MX MY w7 _ _ E7.2.2.2.1 E7.2.2.2.2.1 QX.limbs QY.limbs (by omega) (by omega) (by omega) (by omega) (by omega) (by omega) QX.v1 QY.v1 HII.out (by omega)
  unfold way at HF1
  obtain⟨hq0,hq1'⟩:=dC E7.1
  obtain⟨hx0,_,_,_⟩:=aU E7.2.1
  obtain⟨hy0,_,_,_⟩:=aU E7.2.2.1
  have HE7:=ab E7
  have HQX:=ab QX
  have HQY:=ab QY
  have HBEL:=ab belC
  have HW7:=ab hw7
  have HKX:=ab hkx
  have HBY:=ab hby
  rw [hkx] at hx0 hy0
  rw [hw7] at hq0 hq1' hx0 hy0
  obtain⟨N,hNm,hN1,hN2⟩:∃N:Nat,m+m=N∧N≤2*m∧2*m≤N:=⟨_,rfl,by omega,by omega⟩
  have HNM:=ab hNm
  have hNb:N≤1125899906842624:=by omega
  rw [hNm] at HF1
  have hszC:=belC.size
  have hkx7:kx+1<w7.heap.size:=lt_of_block HE7.out.2.2.1
  have hkxb:w.heap.size<kx:=by have:=HKX.out;have:=bel5.size;have:=bel6.size;omega
  clear E7 QX QY belC bel5 bel6 bel7 BMX BMY hw7 hkx hby HD5 hgx hgy HV2 em' eR' hN hNm hk0 hk1
  go_wp2_with fail
  rw [←HW7.out,←HKX.out]
  clear hq0 hq1' hx0 hy0
  refine HF1.mono ?_
  rintro e w8 ⟨g1,V1,rfl,hg1,lV1,LV1,BV1,vV1,bel8⟩
  have E8:=HE7.out.below bel8
  have HF2:=dA H T gx gy d3 m R n MX MY w8 _ _ E8.2.2.2.1 E8.2.2.2.2.1 HQX.out.limbs HQY.out.limbs (by omega) (by omega) (by omega) (by omega) (by omega) (by omega) HQX.out.v3 HQY.out.v3 HII.out (by omega)
  unfold way at HF2
  rw [HNM.out] at HF2
  obtain⟨hq0,hq1'⟩:=dC E8.1
  obtain⟨_,_,hx2,_⟩:=aU E8.2.1
  obtain⟨_,_,hy2,_⟩:=aU E8.2.2.1
  have HE8:=ab E8
  have hlt1:=BV1.lt
  have hsz8:=bel8.size
  have HBEL8:=ab (HBEL.out.trans (bel8.mono HBEL.out.size))
  have HV1:Hid (bF w8 g1 N _):=ab ⟨V1,BV1,LV1,lV1,vV1⟩
  clear E8 bel8 BV1 LV1 lV1 vV1 V1 HF1 HE7 HBEL
  go_wp2_with fail
  refine HF2.mono ?_
  rintro e w9 ⟨g2,V2,rfl,hg2,lV2,LV2,BV2,vV2,bel9⟩
  have E9:=HE8.out.below bel9
  have HF3:=dA H T gx gy d2 m R n MX MY w9 _ _ E9.2.2.2.1 E9.2.2.2.2.1 HQX.out.limbs HQY.out.limbs (by omega) (by omega) (by omega) (by omega) (by omega) (by omega) HQX.out.v2 HQY.out.v2 HII.out (by omega)
  unfold way at HF3
  rw [HNM.out] at HF3
  clear hq0 hq1' hx2 hy2
  obtain⟨hq0,hq1'⟩:=dC E9.1
  obtain⟨_,hx1,_,_⟩:=aU E9.2.1
  obtain⟨_,hy1,_,_⟩:=aU E9.2.2.1
  have HE9:=ab E9
  have hlt2:=BV2.lt
  have hsz9:=bel9.size
  have HBEL9:=ab (HBEL8.out.trans (bel9.mono HBEL8.out.size))
  have HV1':=ab (HV1.out.fr (Fr.of_below (bz:=bz) bel9) (by omega))
  have HV2:Hid (bF w9 g2 N _):=ab ⟨V2,BV2,LV2,lV2,vV2⟩
  clear E9 bel9 BV2 LV2 lV2 vV2 V2 HF2 HE8 HBEL8 HV1
  go_wp2_with fail
  refine HF3.mono ?_
  rintro e w10 ⟨g3,V3,rfl,hg3,lV3,LV3,BV3,vV3,bel10⟩
  have E10:=HE9.out.below bel10
  have hlt3:=BV3.lt
  have HS0:=St3.mk (CF.out.trans (Fr.of_below (HBEL9.out.trans (bel10.mono HBEL9.out.size)))) E10.2.2.2.2.2 CL.out hbz (by omega) (by omega) (by omega) (by omega) (by omega) (by omega) (HV1'.out.fr (Fr.of_below (bz:=bz) bel10) (by omega)) (HV2.out.fr (Fr.of_below (bz:=bz) bel10) (by omega)) (⟨V3,BV3,LV3,lV3,vV3⟩:bF w10 g3 N _) (Nat.le_refl w10.heap.size) (fun _ _ _ _ _ _=>rfl)
  have T1:=jQ (val (X.take s)) (val ((X.drop s).take s)) (val (X.drop d)) (val (Y.take s)) (val ((Y.drop s).take s)) (val (Y.drop d))
  have T2:=lM (val (X.take s)) (val ((X.drop s).take s)) (val (X.drop d)) (val (Y.take s)) (val ((Y.drop s).take s)) (val (Y.drop d))
  have T3:=lB (val (X.take s)) (val ((X.drop s).take s)) (val (X.drop d)) (val (Y.take s)) (val ((Y.drop s).take s)) (val (Y.drop d)) _ _ rfl rfl
  rw [HBX.out,HBY.out] at T3
  have FT:=iZ (val (X.take s)+val ((X.drop s).take s)+val (X.drop d)) (val (Y.take s)+val ((Y.drop s).take s)+val (Y.drop d)) s m (fv mX s d (by omega) ⟨by omega,by omega⟩ (by omega)) (fv mY s d (by omega) ⟨by omega,by omega⟩ (by omega)) HEM.out.1
  rw [HNM.out] at FT
  have TT:=i5 (val (X.take s)) (val ((X.drop s).take s)) (val (X.drop d)) (val (Y.take s)) (val ((Y.drop s).take s)) (val (Y.drop d)) (18446744073709551616 ^ s)
  rw [←fj X s d (by omega) (by omega) (by omega),←fj Y s d (by omega) (by omega) (by omega),←Nat.pow_add,←Nat.pow_add,←Nat.pow_add,show s+s+(s+s)=q by omega,show s+s+s=r by omega,show s+s=d by omega] at TT
  obtain⟨c0,k0⟩:∃c,val (X.take s)*val (Y.take s)=c:=⟨_,rfl⟩
  obtain⟨c1',k1⟩:∃c,val (X.take s)*val ((Y.drop s).take s)+val ((X.drop s).take s)*val (Y.take s)=c:=⟨_,rfl⟩
  obtain⟨c2',k2⟩:∃c,val (X.take s)*val (Y.drop d)+val ((X.drop s).take s)*val ((Y.drop s).take s)+val (X.drop d)*val (Y.take s)=c:=⟨_,rfl⟩
  obtain⟨c3,k3⟩:∃c,val ((X.drop s).take s)*val (Y.drop d)+val (X.drop d)*val ((Y.drop s).take s)=c:=⟨_,rfl⟩
  obtain⟨c4,k4⟩:∃c,val (X.drop d)*val (Y.drop d)=c:=⟨_,rfl⟩
  rw [k0,k1,k2,k3,k4] at T1 T2 T3 TT
  rw [k0] at CS0
  rw [k0,k4] at CT
  rw [k4] at CS2
  clear k0 k1 k2 k3 k4
  obtain⟨v1,e1⟩:∃v,(val (X.take s)+val ((X.drop s).take s)+val (X.drop d))*(val (Y.take s)+val ((Y.drop s).take s)+val (Y.drop d))=v:=⟨_,rfl⟩
  obtain⟨v2,e2⟩:∃v,(if val (X.take s)+val (X.drop d)<val ((X.drop s).take s) then val ((X.drop s).take s) - (val (X.take s)+val (X.drop d)) else val (X.take s)+val (X.drop d) - val ((X.drop s).take s))*(if val (Y.take s)+val (Y.drop d)<val ((Y.drop s).take s) then val ((Y.drop s).take s) - (val (Y.take s)+val (Y.drop d)) else val (Y.take s)+val (Y.drop d) - val ((Y.drop s).take s))=v:=⟨_,rfl⟩
  obtain⟨v3,e3⟩:∃v,(val (X.take s)+val ((X.drop s).take s)*2+val (X.drop d)*4)*(val (Y.take s)+val ((Y.drop s).take s)*2+val (Y.drop d)*4)=v:=⟨_,rfl⟩
  rw [e1] at T1 T3 FT
  rw [e2] at T3
  rw [e3] at T2
  rw [e1,e2,e3] at HS0
  clear e1 e2 e3
  have hXY:val X*val Y<18446744073709551616 ^ n:=by
   rw [←HN.out,Nat.pow_add];exact Nat.mul_lt_mul'' (val_lt mX) (val_lt mY)
  have TOT:=ab (And.intro hXY (And.intro (show c0+18446744073709551616 ^ q*c4+18446744073709551616 ^ s*c1'≤val X*val Y by omega) (And.intro (show c0+18446744073709551616 ^ q*c4+18446744073709551616 ^ s*c1'+18446744073709551616 ^ d*c2'≤val X*val Y by omega) TT.symm)))
  have hv3:=ab T2
  have HFT:=ab FT
  have HE10:=ab E10
  have HT1:=ab T1
  clear hXY TT T1 T2 FT E10 bel10 BV3 LV3 lV3 vV3 V3 HF3 HE9 HBEL9 HV1' HV2 hq0 hq1' hx1 hy1 HQX HQY HBX HBY HEM HNM HW7 HKX mX mY CB CF CX CL CA CA2
  by_cases hsame:bx=by'
  ·subst hsame
   rw [if_pos rfl] at T3
   obtain⟨kv,hkv⟩:∃k,k=c0+c2'+c4:=⟨_,rfl⟩
   obtain⟨ov,hov⟩:∃k,k=c1'+c3:=⟨_,rfl⟩
   have HKV:=ab (show v2+v1=2*kv by omega)
   have HOV:=ab (show v1=ov+kv by have:=HT1.out;omega)
   have HDE:=ab (And.intro hkv hov)
   clear hkv hov T3
   obtain⟨EL,hEL,vEL⟩:=HS0.ho.arg hNb
   have HC:=HS0.plus hNb (v2+v1) hEL (aA HS0.oe _ _) (by rw [vEL]) (by have:=HKV.out;have:=HOV.out;have:=HFT.out;omega)
   have HS:=ab HS0
   clear hEL vEL EL HS0
   go_wp2_with fail
   refine HC.mono ?_
   rintro e wp1 ⟨rfl,h⟩
   clear HS HC
   have HS:=ab h
   have HC:=h.half hNb kv HKV.out
   clear h
   go_wp2_with fail
   refine HC.mono ?_
   rintro e wp2 ⟨rfl,h⟩
   clear HS HC
   have HS:=ab h
   obtain⟨EL,hEL,vEL⟩:=h.he.arg hNb
   have HC:=h.oe'.minus hNb ov hEL (aA (Ne.symm h.oe) _ _) (by rw [vEL];exact HOV.out)
   clear h hEL vEL EL
   go_wp2_with fail
   refine HC.mono ?_
   rintro e wp3 ⟨rfl,h⟩
   clear HS HC
   obtain⟨_,_,_,hx3⟩:=aU ((h.keep kx (by omega) (by omega) (by omega) (by omega) (by omega)).trans HE10.out.2.1)
   obtain⟨_,_,_,hy3⟩:=aU ((h.keep (kx+1) (by omega) (by omega) (by omega) (by omega) (by omega)).trans HE10.out.2.2.1)
   have HS:=ab h.oe'
   rw [HDE.out.1,HDE.out.2] at HS
   clear h
   have h:=HS.out
   have HC:=h.minus hNb (c2'+c4) (h.blk.seg_arg h.lz zo d cap (by omega) (by omega) (by omega) (by omega)) (aA (by have:=h.lt;have:=h.ne;omega) _ _) (by rw [show val (seg Z3 zo d)=c0 from CS0.out];omega)
   clear h
   go_wp2_with fail
   refine HC.mono ?_
   rintro e wa ⟨rfl,h⟩
   clear HS HC
   have HS:=ab h
   have HC:=h.minus hNb c2' (h.blk.seg_arg h.lz zh (n - q) (cap - q) (by rcases HZH.out with h|h <;> omega) (by omega) (by omega) (by omega)) (aA (by have:=h.lt;have:=h.ne;omega) _ _) (by rw [show val (seg Z3 zh (n - q))=c4 from CS2.out])
   clear h
   go_wp2_with fail
   refine HC.mono ?_
   rintro e wb ⟨rfl,h⟩
   clear HS HC
   have HS:=ab h
   have HC:=h.et'.minus hNb (2*c1'+4*c2'+8*c3+16*c4) (h.blk.seg_arg h.lz zo d cap (by omega) (by omega) (by omega) (by omega)) (aA (by have:=h.lt;have:=h.nt;omega) _ _) (by rw [show val (seg Z3 zo d)=c0 from CS0.out,hv3.out];omega)
   clear h
   go_wp2_with fail
   refine HC.mono ?_
   rintro e wc ⟨rfl,h⟩
   clear HS HC
   have HS:=ab h
   have HC:=h.half hNb (c1'+2*c2'+4*c3+8*c4) (by omega)
   clear h
   go_wp2_with fail
   refine HC.mono ?_
   rintro e wd' ⟨rfl,h⟩
   clear HS HC
   have HS:=ab h
   obtain⟨EL,hEL,vEL⟩:=h.ht.arg hNb
   have HC:=h.minusTimes hNb (c1'+4*c3+8*c4) 2 hEL (aA (Ne.symm h.et) _ _) (by rw [vEL];omega) (by omega) (by omega)
   rw [show ((2:Nat):Int)=2 from rfl] at HC
   clear h hEL vEL EL
   go_wp2_with fail
   refine HC.mono ?_
   rintro e we ⟨rfl,h⟩
   clear HS HC
   have HS:=ab h
   have HC:=h.minusTimes hNb (c1'+4*c3) 8 (h.blk.seg_arg h.lz zh (n - q) (cap - q) (by rcases HZH.out with h|h <;> omega) (by omega) (by omega) (by omega)) (aA (by have:=h.lt;have:=h.ne;omega) _ _) (by rw [show val (seg Z3 zh (n - q))=c4 from CS2.out];omega) (by omega) (by omega)
   rw [show ((8:Nat):Int)=8 from rfl] at HC
   clear h
   go_wp2_with fail
   refine HC.mono ?_
   rintro e wf ⟨rfl,h⟩
   clear HS HC
   have HS:=ab h
   obtain⟨EL,hEL,vEL⟩:=h.ho.arg hNb
   have HC:=h.minus hNb (3*c3) hEL (aA h.oe _ _) (by rw [vEL];omega)
   clear h hEL vEL EL
   go_wp2_with fail
   refine HC.mono ?_
   rintro e wg ⟨rfl,h⟩
   clear HS HC
   have HS:=ab h
   have HC:=h.third hNb c3 rfl
   clear h
   go_wp2_with fail
   refine HC.mono ?_
   rintro e wh ⟨rfl,h⟩
   clear HS HC
   have HS:=ab h
   obtain⟨EL,hEL,vEL⟩:=h.he.arg hNb
   have HC:=h.oe'.minus hNb c1' hEL (aA (Ne.symm h.oe) _ _) (by rw [vEL])
   clear h hEL vEL EL
   go_wp2_with fail
   refine HC.mono ?_
   rintro e wi ⟨rfl,h⟩
   clear HS HC
   have HS:=ab h
   obtain⟨EL,hEL,vEL⟩:=h.he.arg hNb
   have HC:=h.add zo n s (cap - s) hEL (aA (by have:=h.lt;have:=h.ne;omega) _ _) (by omega) (by omega) (by omega) (by omega) _ (by rw [vEL,CT.out];exact TOT.out.2.1) TOT.out.1
   rw [vEL,CT.out] at HC
   clear h hEL vEL EL
   go_wp2_with fail
   refine HC.mono ?_
   rintro e wj ⟨rfl,ZJ,h,OJ,SJ⟩
   have lJ:=OJ.len
   clear HS HC
   have HS:=ab h
   have HSJ:=ab SJ
   have HOJ:=ab OJ
   obtain⟨EL,hEL,vEL⟩:=h.ht.arg hNb
   have HC:=h.add zo n d (cap - d) hEL (aA (by have:=h.lt;have:=h.nt;omega) _ _) (by omega) (by omega) (by omega) (by omega) _ (by rw [vEL,SJ];exact TOT.out.2.2.1) TOT.out.1
   rw [vEL,SJ] at HC
   clear h hEL vEL EL OJ SJ
   go_wp2_with fail
   refine HC.mono ?_
   rintro e wk' ⟨rfl,ZK,h,OK',SK⟩
   have lK:=OK'.len
   clear HS HC HSJ
   have HS:=ab h
   have HSK:=ab SK
   have HOK:=ab (HOJ.out.trans OK')
   obtain⟨EL,hEL,vEL⟩:=h.ho.arg hNb
   have HC:=h.add zo n r (cap - r) hEL (aA (by have:=h.lt;have:=h.no;omega) _ _) (by omega) (by omega) (by omega) (by omega) _ (by rw [vEL,SK];exact Nat.le_of_eq TOT.out.2.2.2) TOT.out.1
   rw [vEL,SK] at HC
   clear h hEL vEL EL OK' SK
   go_wp2_with fail
   refine HC.mono ?_
   rintro e wl ⟨rfl,ZL,h,OL,SL⟩
   have HD:=ab (show aI bz zo n Z w (val X*val Y) (.returned (.tuple #[])) wl from ⟨rfl,ZL,CO.out.trans (HOK.out.trans OL),h.lz,h.blk,h.fr,by rw [SL,TOT.out.2.2.2]⟩)
   clear h OL SL HS HC HSK HOK
   go_wp2
   go_end0
   exact HD.out
  ·rw [if_neg hsame] at T3
   obtain⟨kv,hkv⟩:∃k,k=c1'+c3:=⟨_,rfl⟩
   obtain⟨ov,hov⟩:∃k,k=c0+c2'+c4:=⟨_,rfl⟩
   have HKV:=ab (show v2+v1=2*kv by omega)
   have HOV:=ab (show v1=ov+kv by have:=HT1.out;omega)
   have HDE:=ab (And.intro hkv hov)
   have hs1':(bx == by')=false:=by simpa using hsame
   have hs2':decide (bx=by')=false:=by simpa using hsame
   clear hkv hov T3
   obtain⟨EL,hEL,vEL⟩:=HS0.ho.arg hNb
   have HC:=HS0.plus hNb (v2+v1) hEL (aA HS0.oe _ _) (by rw [vEL]) (by have:=HKV.out;have:=HOV.out;have:=HFT.out;omega)
   have HS:=ab HS0
   clear hEL vEL EL HS0
   go_wp2_with fail
   refine HC.mono ?_
   rintro e wp1 ⟨rfl,h⟩
   clear HS HC
   have HS:=ab h
   have HC:=h.half hNb kv HKV.out
   clear h
   go_wp2_with fail
   refine HC.mono ?_
   rintro e wp2 ⟨rfl,h⟩
   clear HS HC
   have HS:=ab h
   obtain⟨EL,hEL,vEL⟩:=h.he.arg hNb
   have HC:=h.oe'.minus hNb ov hEL (aA (Ne.symm h.oe) _ _) (by rw [vEL];exact HOV.out)
   clear h hEL vEL EL
   go_wp2_with fail
   refine HC.mono ?_
   rintro e wp3 ⟨rfl,h⟩
   clear HS HC
   obtain⟨_,_,_,hx3⟩:=aU ((h.keep kx (by omega) (by omega) (by omega) (by omega) (by omega)).trans HE10.out.2.1)
   obtain⟨_,_,_,hy3⟩:=aU ((h.keep (kx+1) (by omega) (by omega) (by omega) (by omega) (by omega)).trans HE10.out.2.2.1)
   have HS:=ab h
   rw [HDE.out.1,HDE.out.2] at HS
   clear h
   have h:=HS.out
   have HC:=h.minus hNb (c2'+c4) (h.blk.seg_arg h.lz zo d cap (by omega) (by omega) (by omega) (by omega)) (aA (by have:=h.lt;have:=h.ne;omega) _ _) (by rw [show val (seg Z3 zo d)=c0 from CS0.out];omega)
   clear h
   go_wp2_with fail
   refine HC.mono ?_
   rintro e wa ⟨rfl,h⟩
   clear HS HC
   have HS:=ab h
   have HC:=h.minus hNb c2' (h.blk.seg_arg h.lz zh (n - q) (cap - q) (by rcases HZH.out with h|h <;> omega) (by omega) (by omega) (by omega)) (aA (by have:=h.lt;have:=h.ne;omega) _ _) (by rw [show val (seg Z3 zh (n - q))=c4 from CS2.out])
   clear h
   go_wp2_with fail
   refine HC.mono ?_
   rintro e wb ⟨rfl,h⟩
   clear HS HC
   have HS:=ab h
   have HC:=h.et'.minus hNb (2*c1'+4*c2'+8*c3+16*c4) (h.blk.seg_arg h.lz zo d cap (by omega) (by omega) (by omega) (by omega)) (aA (by have:=h.lt;have:=h.nt;omega) _ _) (by rw [show val (seg Z3 zo d)=c0 from CS0.out,hv3.out];omega)
   clear h
   go_wp2_with fail
   refine HC.mono ?_
   rintro e wc ⟨rfl,h⟩
   clear HS HC
   have HS:=ab h
   have HC:=h.half hNb (c1'+2*c2'+4*c3+8*c4) (by omega)
   clear h
   go_wp2_with fail
   refine HC.mono ?_
   rintro e wd' ⟨rfl,h⟩
   clear HS HC
   have HS:=ab h
   obtain⟨EL,hEL,vEL⟩:=h.ht.arg hNb
   have HC:=h.minusTimes hNb (c1'+4*c3+8*c4) 2 hEL (aA (Ne.symm h.et) _ _) (by rw [vEL];omega) (by omega) (by omega)
   rw [show ((2:Nat):Int)=2 from rfl] at HC
   clear h hEL vEL EL
   go_wp2_with fail
   refine HC.mono ?_
   rintro e we ⟨rfl,h⟩
   clear HS HC
   have HS:=ab h
   have HC:=h.minusTimes hNb (c1'+4*c3) 8 (h.blk.seg_arg h.lz zh (n - q) (cap - q) (by rcases HZH.out with h|h <;> omega) (by omega) (by omega) (by omega)) (aA (by have:=h.lt;have:=h.ne;omega) _ _) (by rw [show val (seg Z3 zh (n - q))=c4 from CS2.out];omega) (by omega) (by omega)
   rw [show ((8:Nat):Int)=8 from rfl] at HC
   clear h
   go_wp2_with fail
   refine HC.mono ?_
   rintro e wf ⟨rfl,h⟩
   clear HS HC
   have HS:=ab h
   obtain⟨EL,hEL,vEL⟩:=h.ho.arg hNb
   have HC:=h.minus hNb (3*c3) hEL (aA h.oe _ _) (by rw [vEL];omega)
   clear h hEL vEL EL
   go_wp2_with fail
   refine HC.mono ?_
   rintro e wg ⟨rfl,h⟩
   clear HS HC
   have HS:=ab h
   have HC:=h.third hNb c3 rfl
   clear h
   go_wp2_with fail
   refine HC.mono ?_
   rintro e wh ⟨rfl,h⟩
   clear HS HC
   have HS:=ab h
   obtain⟨EL,hEL,vEL⟩:=h.he.arg hNb
   have HC:=h.oe'.minus hNb c1' hEL (aA (Ne.symm h.oe) _ _) (by rw [vEL])
   clear h hEL vEL EL
   go_wp2_with fail
   refine HC.mono ?_
   rintro e wi ⟨rfl,h⟩
   clear HS HC
   have HS:=ab h
   obtain⟨EL,hEL,vEL⟩:=h.he.arg hNb
   have HC:=h.add zo n s (cap - s) hEL (aA (by have:=h.lt;have:=h.ne;omega) _ _) (by omega) (by omega) (by omega) (by omega) _ (by rw [vEL,CT.out];exact TOT.out.2.1) TOT.out.1
   rw [vEL,CT.out] at HC
   clear h hEL vEL EL
   go_wp2_with fail
   refine HC.mono ?_
   rintro e wj ⟨rfl,ZJ,h,OJ,SJ⟩
   have lJ:=OJ.len
   clear HS HC
   have HS:=ab h
   have HSJ:=ab SJ
   have HOJ:=ab OJ
   obtain⟨EL,hEL,vEL⟩:=h.ht.arg hNb
   have HC:=h.add zo n d (cap - d) hEL (aA (by have:=h.lt;have:=h.nt;omega) _ _) (by omega) (by omega) (by omega) (by omega) _ (by rw [vEL,SJ];exact TOT.out.2.2.1) TOT.out.1
   rw [vEL,SJ] at HC
   clear h hEL vEL EL OJ SJ
   go_wp2_with fail
   refine HC.mono ?_
   rintro e wk' ⟨rfl,ZK,h,OK',SK⟩
   have lK:=OK'.len
   clear HS HC HSJ
   have HS:=ab h
   have HSK:=ab SK
   have HOK:=ab (HOJ.out.trans OK')
   obtain⟨EL,hEL,vEL⟩:=h.ho.arg hNb
   have HC:=h.add zo n r (cap - r) hEL (aA (by have:=h.lt;have:=h.no;omega) _ _) (by omega) (by omega) (by omega) (by omega) _ (by rw [vEL,SK];exact Nat.le_of_eq TOT.out.2.2.2) TOT.out.1
   rw [vEL,SK] at HC
   clear h hEL vEL EL OK' SK
   go_wp2_with fail
   refine HC.mono ?_
   rintro e wl ⟨rfl,ZL,h,OL,SL⟩
   have HD:=ab (show aI bz zo n Z w (val X*val Y) (.returned (.tuple #[])) wl from ⟨rfl,ZL,CO.out.trans (HOK.out.trans OL),h.lz,h.blk,h.fr,by rw [SL,TOT.out.2.2.2]⟩)
   clear h OL SL HS HC HSK HOK
   go_wp2
   go_end0
   exact HD.out
 ·have kY:¬(d:Int)<(Y.length:Int):=by omega
  have hY0:val (Y.drop d)=0:=pH Y d (by omega)
  have CX:=HX3
  have CA:=HA4
  have CA2:=HA24
  have CF:=HF3
  have CB:=HB3
  have CL:=HL3
  have lC:zo+n≤Z2.length:=by omega
  have CO:=HO3
  have CS0:=S3
  have S2:sv Z2 zh (n - q)=val (X.drop d)*val (Y.drop d):=by
   rw [hY0,Nat.mul_zero]
   rcases HZH.out with h|h
   ·rw [h];exact S3c.out
   ·rw [h.2,bE]
  have CS2:=ab S2
  have CT:=ab (kb Z2 zo d q n zh _ _ (by omega) (by omega) (by omega) S3.out S3b.out S2 HZH.out)
  have hsz4:=hsz3
  have hk0:=hk2
  have hk1:=hk3
  clear hk2 hk3 HX3 HA4 HA24 HF3 HO3 S3 S3b S3c HB3 HL3 S2 hY0 l2 hYd
  have HV1:=eY b off c1 s X w3 CA.out hs0 (by omega) hXs hlX
  rw [show 2*s=d by omega] at HV1
  go_wp2_with fail
  refine HV1.mono ?_
  rintro e w5 ⟨gx,m,d2,d3,R,ex,MX,em,eR,rfl,hgx,BMX,bel5,QX⟩
  have HV2:=eY b2 off2 c2 s Y w5 (CA2.out.below bel5) hs0 (by omega) (by omega) (by omega)
  rw [show 2*s=d by omega] at HV2
  have HD5:=ab (And.intro BMX (And.intro bel5 QX))
  have HEM:=ab (And.intro em eR)
  have hm1:m≤s+1:=by omega
  have hm2:s+1≤m:=by omega
  have hR1:R≤4*m:=by omega
  have hR2:4*m≤R:=by omega
  clear BMX bel5 QX HV1 em eR
  generalize hbx:decide (val (X.take s)+val (X.drop d)<val ((X.drop s).take s))=bx
  have HBX:=ab hbx
  clear hbx
  go_wp2_with fail
  refine HV2.mono ?_
  rintro e w6 ⟨gy,m',d2',d3',R',ey,MY,em',eR',rfl,hgy,BMY,bel6,QY⟩
  obtain rfl:m=m':=by have:=HEM.out.1;omega
  obtain rfl:R=R':=by have:=HEM.out.2;omega
  obtain rfl:d2=d2':=by have:=HD5.out.2.2.h2;have:=QY.h2;omega
  obtain rfl:d3=d3':=by have:=HD5.out.2.2.h3;have:=QY.h3;omega
  obtain⟨BMX,bel5,QX⟩:=HD5.out
  have hd2a:d2≤m+m:=Nat.le_of_eq QX.h2
  have hd2b:m+m≤d2:=Nat.le_of_eq QX.h2.symm
  have hd3a:d3≤m+m+m:=Nat.le_of_eq QX.h3
  have hd3b:m+m+m≤d3:=Nat.le_of_eq QX.h3.symm
  have lX:m+m+m+m≤MX.length:=Nat.le_of_eq QX.len.symm
  have lY:m+m+m+m≤MY.length:=Nat.le_of_eq QY.len.symm
  generalize hby:decide (val (Y.take s)+val (Y.drop d)<val ((Y.drop s).take s))=by'
  obtain⟨w7,hw7⟩:∃w7,w7=(w6.alloc (.cells #[.slice (some ⟨gx,m,none⟩) m (R - m),.slice (some ⟨gx,d2,none⟩) m (R - d2),.slice (some ⟨gx,d3,none⟩) m (R - d3),.bool bx] 178)).alloc (.cells #[.slice (some ⟨gy,m,none⟩) m (R - m),.slice (some ⟨gy,d2,none⟩) m (R - d2),.slice (some ⟨gy,d3,none⟩) m (R - d3),.bool by'] 178):=⟨_,rfl⟩
  have bel7:Below w6.heap.size w6 w7:=by rw [hw7];exact ((Below.refl _ _).alloc (Nat.le_refl _) _).alloc (by simp) _
  obtain⟨kx,hkx⟩:∃k,k=w6.heap.size:=⟨_,rfl⟩
  have belC:Below w3.heap.size w3 w7:=bel5.trans ((bel6.mono bel5.size).trans (bel7.mono (Nat.le_trans bel5.size bel6.size)))
  have E7:Env w7 w.heap.size kx gx gy bz #[.int .i64 H,.int .i64 T] #[.slice (some ⟨gx,m,none⟩) m (R - m),.slice (some ⟨gx,d2,none⟩) m (R - d2),.slice (some ⟨gx,d3,none⟩) m (R - d3),.bool bx] #[.slice (some ⟨gy,m,none⟩) m (R - m),.slice (some ⟨gy,d2,none⟩) m (R - d2),.slice (some ⟨gy,d3,none⟩) m (R - d3),.bool by'] 161 178 MX MY Z2:=by
   refine⟨dT CX.out belC,?_,?_,(BMX.below' bel6).below' bel7,BMY.below' bel7,CB.out.below' belC⟩
   ·rw [hkx,hw7,Below.heap_alloc _ _ _ (by simp)];exact heap_alloc_new ..
   ·rw [hkx,hw7,show w6.heap.size+1=(w6.alloc (.cells #[.slice (some ⟨gx,m,none⟩) m (R - m),.slice (some ⟨gx,d2,none⟩) m (R - d2),.slice (some ⟨gx,d3,none⟩) m (R - d3),.bool bx] 178)).heap.size by simp];exact heap_alloc_new ..
  have hN:m+m=m+m:=rfl
  have HF1:=dA H T gx gy m m R n MX MY w7 _ _ E7.2.2.2.1 E7.2.2.2.2.1 QX.limbs QY.limbs (by omega) (by omega) (by omega) (by omega) (by omega) (by omega) QX.v1 QY.v1 HII.out (by omega)
  unfold way at HF1
  obtain⟨hq0,hq1'⟩:=dC E7.1
  obtain⟨hx0,_,_,_⟩:=aU E7.2.1
  obtain⟨hy0,_,_,_⟩:=aU E7.2.2.1
  have HE7:=ab E7
  have HQX:=ab QX
  have HQY:=ab QY
  have HBEL:=ab belC
  have HW7:=ab hw7
  have HKX:=ab hkx
  have HBY:=ab hby
  rw [hkx] at hx0 hy0
  rw [hw7] at hq0 hq1' hx0 hy0
  obtain⟨N,hNm,hN1,hN2⟩:∃N:Nat,m+m=N∧N≤2*m∧2*m≤N:=⟨_,rfl,by omega,by omega⟩
  have HNM:=ab hNm
  have hNb:N≤1125899906842624:=by omega
  rw [hNm] at HF1
  have hszC:=belC.size
  have hkx7:kx+1<w7.heap.size:=lt_of_block HE7.out.2.2.1
  have hkxb:w.heap.size<kx:=by have:=HKX.out;have:=bel5.size;have:=bel6.size;omega
  clear E7 QX QY belC bel5 bel6 bel7 BMX BMY hw7 hkx hby HD5 hgx hgy HV2 em' eR' hN hNm hk0 hk1
  go_wp2_with fail
  rw [←HW7.out,←HKX.out]
  clear hq0 hq1' hx0 hy0
  refine HF1.mono ?_
  rintro e w8 ⟨g1,V1,rfl,hg1,lV1,LV1,BV1,vV1,bel8⟩
  have E8:=HE7.out.below bel8
  have HF2:=dA H T gx gy d3 m R n MX MY w8 _ _ E8.2.2.2.1 E8.2.2.2.2.1 HQX.out.limbs HQY.out.limbs (by omega) (by omega) (by omega) (by omega) (by omega) (by omega) HQX.out.v3 HQY.out.v3 HII.out (by omega)
  unfold way at HF2
  rw [HNM.out] at HF2
  obtain⟨hq0,hq1'⟩:=dC E8.1
  obtain⟨_,_,hx2,_⟩:=aU E8.2.1
  obtain⟨_,_,hy2,_⟩:=aU E8.2.2.1
  have HE8:=ab E8
  have hlt1:=BV1.lt
  have hsz8:=bel8.size
  have HBEL8:=ab (HBEL.out.trans (bel8.mono HBEL.out.size))
  have HV1:Hid (bF w8 g1 N _):=ab ⟨V1,BV1,LV1,lV1,vV1⟩
  clear E8 bel8 BV1 LV1 lV1 vV1 V1 HF1 HE7 HBEL
  go_wp2_with fail
  refine HF2.mono ?_
  rintro e w9 ⟨g2,V2,rfl,hg2,lV2,LV2,BV2,vV2,bel9⟩
  have E9:=HE8.out.below bel9
  have HF3:=dA H T gx gy d2 m R n MX MY w9 _ _ E9.2.2.2.1 E9.2.2.2.2.1 HQX.out.limbs HQY.out.limbs (by omega) (by omega) (by omega) (by omega) (by omega) (by omega) HQX.out.v2 HQY.out.v2 HII.out (by omega)
  unfold way at HF3
  rw [HNM.out] at HF3
  clear hq0 hq1' hx2 hy2
  obtain⟨hq0,hq1'⟩:=dC E9.1
  obtain⟨_,hx1,_,_⟩:=aU E9.2.1
  obtain⟨_,hy1,_,_⟩:=aU E9.2.2.1
  have HE9:=ab E9
  have hlt2:=BV2.lt
  have hsz9:=bel9.size
  have HBEL9:=ab (HBEL8.out.trans (bel9.mono HBEL8.out.size))
  have HV1':=ab (HV1.out.fr (Fr.of_below (bz:=bz) bel9) (by omega))
  have HV2:Hid (bF w9 g2 N _):=ab ⟨V2,BV2,LV2,lV2,vV2⟩
  clear E9 bel9 BV2 LV2 lV2 vV2 V2 HF2 HE8 HBEL8 HV1
  go_wp2_with fail
  refine HF3.mono ?_
  rintro e w10 ⟨g3,V3,rfl,hg3,lV3,LV3,BV3,vV3,bel10⟩
  have E10:=HE9.out.below bel10
  have hlt3:=BV3.lt
  have HS0:=St3.mk (CF.out.trans (Fr.of_below (HBEL9.out.trans (bel10.mono HBEL9.out.size)))) E10.2.2.2.2.2 CL.out hbz (by omega) (by omega) (by omega) (by omega) (by omega) (by omega) (HV1'.out.fr (Fr.of_below (bz:=bz) bel10) (by omega)) (HV2.out.fr (Fr.of_below (bz:=bz) bel10) (by omega)) (⟨V3,BV3,LV3,lV3,vV3⟩:bF w10 g3 N _) (Nat.le_refl w10.heap.size) (fun _ _ _ _ _ _=>rfl)
  have T1:=jQ (val (X.take s)) (val ((X.drop s).take s)) (val (X.drop d)) (val (Y.take s)) (val ((Y.drop s).take s)) (val (Y.drop d))
  have T2:=lM (val (X.take s)) (val ((X.drop s).take s)) (val (X.drop d)) (val (Y.take s)) (val ((Y.drop s).take s)) (val (Y.drop d))
  have T3:=lB (val (X.take s)) (val ((X.drop s).take s)) (val (X.drop d)) (val (Y.take s)) (val ((Y.drop s).take s)) (val (Y.drop d)) _ _ rfl rfl
  rw [HBX.out,HBY.out] at T3
  have FT:=iZ (val (X.take s)+val ((X.drop s).take s)+val (X.drop d)) (val (Y.take s)+val ((Y.drop s).take s)+val (Y.drop d)) s m (fv mX s d (by omega) ⟨by omega,by omega⟩ (by omega)) (fv mY s d (by omega) ⟨by omega,by omega⟩ (by omega)) HEM.out.1
  rw [HNM.out] at FT
  have TT:=i5 (val (X.take s)) (val ((X.drop s).take s)) (val (X.drop d)) (val (Y.take s)) (val ((Y.drop s).take s)) (val (Y.drop d)) (18446744073709551616 ^ s)
  rw [←fj X s d (by omega) (by omega) (by omega),←fj Y s d (by omega) (by omega) (by omega),←Nat.pow_add,←Nat.pow_add,←Nat.pow_add,show s+s+(s+s)=q by omega,show s+s+s=r by omega,show s+s=d by omega] at TT
  obtain⟨c0,k0⟩:∃c,val (X.take s)*val (Y.take s)=c:=⟨_,rfl⟩
  obtain⟨c1',k1⟩:∃c,val (X.take s)*val ((Y.drop s).take s)+val ((X.drop s).take s)*val (Y.take s)=c:=⟨_,rfl⟩
  obtain⟨c2',k2⟩:∃c,val (X.take s)*val (Y.drop d)+val ((X.drop s).take s)*val ((Y.drop s).take s)+val (X.drop d)*val (Y.take s)=c:=⟨_,rfl⟩
  obtain⟨c3,k3⟩:∃c,val ((X.drop s).take s)*val (Y.drop d)+val (X.drop d)*val ((Y.drop s).take s)=c:=⟨_,rfl⟩
  obtain⟨c4,k4⟩:∃c,val (X.drop d)*val (Y.drop d)=c:=⟨_,rfl⟩
  rw [k0,k1,k2,k3,k4] at T1 T2 T3 TT
  rw [k0] at CS0
  rw [k0,k4] at CT
  rw [k4] at CS2
  clear k0 k1 k2 k3 k4
  obtain⟨v1,e1⟩:∃v,(val (X.take s)+val ((X.drop s).take s)+val (X.drop d))*(val (Y.take s)+val ((Y.drop s).take s)+val (Y.drop d))=v:=⟨_,rfl⟩
  obtain⟨v2,e2⟩:∃v,(if val (X.take s)+val (X.drop d)<val ((X.drop s).take s) then val ((X.drop s).take s) - (val (X.take s)+val (X.drop d)) else val (X.take s)+val (X.drop d) - val ((X.drop s).take s))*(if val (Y.take s)+val (Y.drop d)<val ((Y.drop s).take s) then val ((Y.drop s).take s) - (val (Y.take s)+val (Y.drop d)) else val (Y.take s)+val (Y.drop d) - val ((Y.drop s).take s))=v:=⟨_,rfl⟩
  obtain⟨v3,e3⟩:∃v,(val (X.take s)+val ((X.drop s).take s)*2+val (X.drop d)*4)*(val (Y.take s)+val ((Y.drop s).take s)*2+val (Y.drop d)*4)=v:=⟨_,rfl⟩
  rw [e1] at T1 T3 FT
  rw [e2] at T3
  rw [e3] at T2
  rw [e1,e2,e3] at HS0
  clear e1 e2 e3
  have hXY:val X*val Y<18446744073709551616 ^ n:=by
   rw [←HN.out,Nat.pow_add];exact Nat.mul_lt_mul'' (val_lt mX) (val_lt mY)
  have TOT:=ab (And.intro hXY (And.intro (show c0+18446744073709551616 ^ q*c4+18446744073709551616 ^ s*c1'≤val X*val Y by omega) (And.intro (show c0+18446744073709551616 ^ q*c4+18446744073709551616 ^ s*c1'+18446744073709551616 ^ d*c2'≤val X*val Y by omega) TT.symm)))
  have hv3:=ab T2
  have HFT:=ab FT
  have HE10:=ab E10
  have HT1:=ab T1
  clear hXY TT T1 T2 FT E10 bel10 BV3 LV3 lV3 vV3 V3 HF3 HE9 HBEL9 HV1' HV2 hq0 hq1' hx1 hy1 HQX HQY HBX HBY HEM HNM HW7 HKX mX mY CB CF CX CL CA CA2
  by_cases hsame:bx=by'
  ·subst hsame
   rw [if_pos rfl] at T3
   obtain⟨kv,hkv⟩:∃k,k=c0+c2'+c4:=⟨_,rfl⟩
   obtain⟨ov,hov⟩:∃k,k=c1'+c3:=⟨_,rfl⟩
   have HKV:=ab (show v2+v1=2*kv by omega)
   have HOV:=ab (show v1=ov+kv by have:=HT1.out;omega)
   have HDE:=ab (And.intro hkv hov)
   clear hkv hov T3
   obtain⟨EL,hEL,vEL⟩:=HS0.ho.arg hNb
   have HC:=HS0.plus hNb (v2+v1) hEL (aA HS0.oe _ _) (by rw [vEL]) (by have:=HKV.out;have:=HOV.out;have:=HFT.out;omega)
   have HS:=ab HS0
   clear hEL vEL EL HS0
   go_wp2_with fail
   refine HC.mono ?_
   rintro e wp1 ⟨rfl,h⟩
   clear HS HC
   have HS:=ab h
   have HC:=h.half hNb kv HKV.out
   clear h
   go_wp2_with fail
   refine HC.mono ?_
   rintro e wp2 ⟨rfl,h⟩
   clear HS HC
   have HS:=ab h
   obtain⟨EL,hEL,vEL⟩:=h.he.arg hNb
   have HC:=h.oe'.minus hNb ov hEL (aA (Ne.symm h.oe) _ _) (by rw [vEL];exact HOV.out)
   clear h hEL vEL EL
   go_wp2_with fail
   refine HC.mono ?_
   rintro e wp3 ⟨rfl,h⟩
   clear HS HC
   obtain⟨_,_,_,hx3⟩:=aU ((h.keep kx (by omega) (by omega) (by omega) (by omega) (by omega)).trans HE10.out.2.1)
   obtain⟨_,_,_,hy3⟩:=aU ((h.keep (kx+1) (by omega) (by omega) (by omega) (by omega) (by omega)).trans HE10.out.2.2.1)
   have HS:=ab h.oe'
   rw [HDE.out.1,HDE.out.2] at HS
   clear h
   have h:=HS.out
   have HC:=h.minus hNb (c2'+c4) (h.blk.seg_arg h.lz zo d cap (by omega) (by omega) (by omega) (by omega)) (aA (by have:=h.lt;have:=h.ne;omega) _ _) (by rw [show val (seg Z2 zo d)=c0 from CS0.out];omega)
   clear h
   go_wp2_with fail
   refine HC.mono ?_
   rintro e wa ⟨rfl,h⟩
   clear HS HC
   have HS:=ab h
   have HC:=h.minus hNb c2' (h.blk.seg_arg h.lz zh (n - q) (cap - q) (by rcases HZH.out with h|h <;> omega) (by omega) (by omega) (by omega)) (aA (by have:=h.lt;have:=h.ne;omega) _ _) (by rw [show val (seg Z2 zh (n - q))=c4 from CS2.out])
   clear h
   go_wp2_with fail
   refine HC.mono ?_
   rintro e wb ⟨rfl,h⟩
   clear HS HC
   have HS:=ab h
   have HC:=h.et'.minus hNb (2*c1'+4*c2'+8*c3+16*c4) (h.blk.seg_arg h.lz zo d cap (by omega) (by omega) (by omega) (by omega)) (aA (by have:=h.lt;have:=h.nt;omega) _ _) (by rw [show val (seg Z2 zo d)=c0 from CS0.out,hv3.out];omega)
   clear h
   go_wp2_with fail
   refine HC.mono ?_
   rintro e wc ⟨rfl,h⟩
   clear HS HC
   have HS:=ab h
   have HC:=h.half hNb (c1'+2*c2'+4*c3+8*c4) (by omega)
   clear h
   go_wp2_with fail
   refine HC.mono ?_
   rintro e wd' ⟨rfl,h⟩
   clear HS HC
   have HS:=ab h
   obtain⟨EL,hEL,vEL⟩:=h.ht.arg hNb
   have HC:=h.minusTimes hNb (c1'+4*c3+8*c4) 2 hEL (aA (Ne.symm h.et) _ _) (by rw [vEL];omega) (by omega) (by omega)
   rw [show ((2:Nat):Int)=2 from rfl] at HC
   clear h hEL vEL EL
   go_wp2_with fail
   refine HC.mono ?_
   rintro e we ⟨rfl,h⟩
   clear HS HC
   have HS:=ab h
   have HC:=h.minusTimes hNb (c1'+4*c3) 8 (h.blk.seg_arg h.lz zh (n - q) (cap - q) (by rcases HZH.out with h|h <;> omega) (by omega) (by omega) (by omega)) (aA (by have:=h.lt;have:=h.ne;omega) _ _) (by rw [show val (seg Z2 zh (n - q))=c4 from CS2.out];omega) (by omega) (by omega)
   rw [show ((8:Nat):Int)=8 from rfl] at HC
   clear h
   go_wp2_with fail
   refine HC.mono ?_
   rintro e wf ⟨rfl,h⟩
   clear HS HC
   have HS:=ab h
   obtain⟨EL,hEL,vEL⟩:=h.ho.arg hNb
   have HC:=h.minus hNb (3*c3) hEL (aA h.oe _ _) (by rw [vEL];omega)
   clear h hEL vEL EL
   go_wp2_with fail
   refine HC.mono ?_
   rintro e wg ⟨rfl,h⟩
   clear HS HC
   have HS:=ab h
   have HC:=h.third hNb c3 rfl
   clear h
   go_wp2_with fail
   refine HC.mono ?_
   rintro e wh ⟨rfl,h⟩
   clear HS HC
   have HS:=ab h
   obtain⟨EL,hEL,vEL⟩:=h.he.arg hNb
   have HC:=h.oe'.minus hNb c1' hEL (aA (Ne.symm h.oe) _ _) (by rw [vEL])
   clear h hEL vEL EL
   go_wp2_with fail
   refine HC.mono ?_
   rintro e wi ⟨rfl,h⟩
   clear HS HC
   have HS:=ab h
   obtain⟨EL,hEL,vEL⟩:=h.he.arg hNb
   have HC:=h.add zo n s (cap - s) hEL (aA (by have:=h.lt;have:=h.ne;omega) _ _) (by omega) (by omega) (by omega) (by omega) _ (by rw [vEL,CT.out];exact TOT.out.2.1) TOT.out.1
   rw [vEL,CT.out] at HC
   clear h hEL vEL EL
   go_wp2_with fail
   refine HC.mono ?_
   rintro e wj ⟨rfl,ZJ,h,OJ,SJ⟩
   have lJ:=OJ.len
   clear HS HC
   have HS:=ab h
   have HSJ:=ab SJ
   have HOJ:=ab OJ
   obtain⟨EL,hEL,vEL⟩:=h.ht.arg hNb
   have HC:=h.add zo n d (cap - d) hEL (aA (by have:=h.lt;have:=h.nt;omega) _ _) (by omega) (by omega) (by omega) (by omega) _ (by rw [vEL,SJ];exact TOT.out.2.2.1) TOT.out.1
   rw [vEL,SJ] at HC
   clear h hEL vEL EL OJ SJ
   go_wp2_with fail
   refine HC.mono ?_
   rintro e wk' ⟨rfl,ZK,h,OK',SK⟩
   have lK:=OK'.len
   clear HS HC HSJ
   have HS:=ab h
   have HSK:=ab SK
   have HOK:=ab (HOJ.out.trans OK')
   obtain⟨EL,hEL,vEL⟩:=h.ho.arg hNb
   have HC:=h.add zo n r (cap - r) hEL (aA (by have:=h.lt;have:=h.no;omega) _ _) (by omega) (by omega) (by omega) (by omega) _ (by rw [vEL,SK];exact Nat.le_of_eq TOT.out.2.2.2) TOT.out.1
   rw [vEL,SK] at HC
   clear h hEL vEL EL OK' SK
   go_wp2_with fail
   refine HC.mono ?_
   rintro e wl ⟨rfl,ZL,h,OL,SL⟩
   have HD:=ab (show aI bz zo n Z w (val X*val Y) (.returned (.tuple #[])) wl from ⟨rfl,ZL,CO.out.trans (HOK.out.trans OL),h.lz,h.blk,h.fr,by rw [SL,TOT.out.2.2.2]⟩)
   clear h OL SL HS HC HSK HOK
   go_wp2
   go_end0
   exact HD.out
  ·rw [if_neg hsame] at T3
   obtain⟨kv,hkv⟩:∃k,k=c1'+c3:=⟨_,rfl⟩
   obtain⟨ov,hov⟩:∃k,k=c0+c2'+c4:=⟨_,rfl⟩
   have HKV:=ab (show v2+v1=2*kv by omega)
   have HOV:=ab (show v1=ov+kv by have:=HT1.out;omega)
   have HDE:=ab (And.intro hkv hov)
   have hs1':(bx == by')=false:=by simpa using hsame
   have hs2':decide (bx=by')=false:=by simpa using hsame
   clear hkv hov T3
   obtain⟨EL,hEL,vEL⟩:=HS0.ho.arg hNb
   have HC:=HS0.plus hNb (v2+v1) hEL (aA HS0.oe _ _) (by rw [vEL]) (by have:=HKV.out;have:=HOV.out;have:=HFT.out;omega)
   have HS:=ab HS0
   clear hEL vEL EL HS0
   go_wp2_with fail
   refine HC.mono ?_
   rintro e wp1 ⟨rfl,h⟩
   clear HS HC
   have HS:=ab h
   have HC:=h.half hNb kv HKV.out
   clear h
   go_wp2_with fail
   refine HC.mono ?_
   rintro e wp2 ⟨rfl,h⟩
   clear HS HC
   have HS:=ab h
   obtain⟨EL,hEL,vEL⟩:=h.he.arg hNb
   have HC:=h.oe'.minus hNb ov hEL (aA (Ne.symm h.oe) _ _) (by rw [vEL];exact HOV.out)
   clear h hEL vEL EL
   go_wp2_with fail
   refine HC.mono ?_
   rintro e wp3 ⟨rfl,h⟩
   clear HS HC
   obtain⟨_,_,_,hx3⟩:=aU ((h.keep kx (by omega) (by omega) (by omega) (by omega) (by omega)).trans HE10.out.2.1)
   obtain⟨_,_,_,hy3⟩:=aU ((h.keep (kx+1) (by omega) (by omega) (by omega) (by omega) (by omega)).trans HE10.out.2.2.1)
   have HS:=ab h
   rw [HDE.out.1,HDE.out.2] at HS
   clear h
   have h:=HS.out
   have HC:=h.minus hNb (c2'+c4) (h.blk.seg_arg h.lz zo d cap (by omega) (by omega) (by omega) (by omega)) (aA (by have:=h.lt;have:=h.ne;omega) _ _) (by rw [show val (seg Z2 zo d)=c0 from CS0.out];omega)
   clear h
   go_wp2_with fail
   refine HC.mono ?_
   rintro e wa ⟨rfl,h⟩
   clear HS HC
   have HS:=ab h
   have HC:=h.minus hNb c2' (h.blk.seg_arg h.lz zh (n - q) (cap - q) (by rcases HZH.out with h|h <;> omega) (by omega) (by omega) (by omega)) (aA (by have:=h.lt;have:=h.ne;omega) _ _) (by rw [show val (seg Z2 zh (n - q))=c4 from CS2.out])
   clear h
   go_wp2_with fail
   refine HC.mono ?_
   rintro e wb ⟨rfl,h⟩
   clear HS HC
   have HS:=ab h
   have HC:=h.et'.minus hNb (2*c1'+4*c2'+8*c3+16*c4) (h.blk.seg_arg h.lz zo d cap (by omega) (by omega) (by omega) (by omega)) (aA (by have:=h.lt;have:=h.nt;omega) _ _) (by rw [show val (seg Z2 zo d)=c0 from CS0.out,hv3.out];omega)
   clear h
   go_wp2_with fail
   refine HC.mono ?_
   rintro e wc ⟨rfl,h⟩
   clear HS HC
   have HS:=ab h
   have HC:=h.half hNb (c1'+2*c2'+4*c3+8*c4) (by omega)
   clear h
   go_wp2_with fail
   refine HC.mono ?_
   rintro e wd' ⟨rfl,h⟩
   clear HS HC
   have HS:=ab h
   obtain⟨EL,hEL,vEL⟩:=h.ht.arg hNb
   have HC:=h.minusTimes hNb (c1'+4*c3+8*c4) 2 hEL (aA (Ne.symm h.et) _ _) (by rw [vEL];omega) (by omega) (by omega)
   rw [show ((2:Nat):Int)=2 from rfl] at HC
   clear h hEL vEL EL
   go_wp2_with fail
   refine HC.mono ?_
   rintro e we ⟨rfl,h⟩
   clear HS HC
   have HS:=ab h
   have HC:=h.minusTimes hNb (c1'+4*c3) 8 (h.blk.seg_arg h.lz zh (n - q) (cap - q) (by rcases HZH.out with h|h <;> omega) (by omega) (by omega) (by omega)) (aA (by have:=h.lt;have:=h.ne;omega) _ _) (by rw [show val (seg Z2 zh (n - q))=c4 from CS2.out];omega) (by omega) (by omega)
   rw [show ((8:Nat):Int)=8 from rfl] at HC
   clear h
   go_wp2_with fail
   refine HC.mono ?_
   rintro e wf ⟨rfl,h⟩
   clear HS HC
   have HS:=ab h
   obtain⟨EL,hEL,vEL⟩:=h.ho.arg hNb
   have HC:=h.minus hNb (3*c3) hEL (aA h.oe _ _) (by rw [vEL];omega)
   clear h hEL vEL EL
   go_wp2_with fail
   refine HC.mono ?_
   rintro e wg ⟨rfl,h⟩
   clear HS HC
   have HS:=ab h
   have HC:=h.third hNb c3 rfl
   clear h
   go_wp2_with fail
   refine HC.mono ?_
   rintro e wh ⟨rfl,h⟩
   clear HS HC
   have HS:=ab h
   obtain⟨EL,hEL,vEL⟩:=h.he.arg hNb
   have HC:=h.oe'.minus hNb c1' hEL (aA (Ne.symm h.oe) _ _) (by rw [vEL])
   clear h hEL vEL EL
   go_wp2_with fail
   refine HC.mono ?_
   rintro e wi ⟨rfl,h⟩
   clear HS HC
   have HS:=ab h
   obtain⟨EL,hEL,vEL⟩:=h.he.arg hNb
   have HC:=h.add zo n s (cap - s) hEL (aA (by have:=h.lt;have:=h.ne;omega) _ _) (by omega) (by omega) (by omega) (by omega) _ (by rw [vEL,CT.out];exact TOT.out.2.1) TOT.out.1
   rw [vEL,CT.out] at HC
   clear h hEL vEL EL
   go_wp2_with fail
   refine HC.mono ?_
   rintro e wj ⟨rfl,ZJ,h,OJ,SJ⟩
   have lJ:=OJ.len
   clear HS HC
   have HS:=ab h
   have HSJ:=ab SJ
   have HOJ:=ab OJ
   obtain⟨EL,hEL,vEL⟩:=h.ht.arg hNb
   have HC:=h.add zo n d (cap - d) hEL (aA (by have:=h.lt;have:=h.nt;omega) _ _) (by omega) (by omega) (by omega) (by omega) _ (by rw [vEL,SJ];exact TOT.out.2.2.1) TOT.out.1
   rw [vEL,SJ] at HC
   clear h hEL vEL EL OJ SJ
   go_wp2_with fail
   refine HC.mono ?_
   rintro e wk' ⟨rfl,ZK,h,OK',SK⟩
   have lK:=OK'.len
   clear HS HC HSJ
   have HS:=ab h
   have HSK:=ab SK
   have HOK:=ab (HOJ.out.trans OK')
   obtain⟨EL,hEL,vEL⟩:=h.ho.arg hNb
   have HC:=h.add zo n r (cap - r) hEL (aA (by have:=h.lt;have:=h.no;omega) _ _) (by omega) (by omega) (by omega) (by omega) _ (by rw [vEL,SK];exact Nat.le_of_eq TOT.out.2.2.2) TOT.out.1
   rw [vEL,SK] at HC
   clear h hEL vEL EL OK' SK
   go_wp2_with fail
   refine HC.mono ?_
   rintro e wl ⟨rfl,ZL,h,OL,SL⟩
   have HD:=ab (show aI bz zo n Z w (val X*val Y) (.returned (.tuple #[])) wl from ⟨rfl,ZL,CO.out.trans (HOK.out.trans OL),h.lz,h.blk,h.fr,by rw [SL,TOT.out.2.2.2]⟩)
   clear h OL SL HS HC HSK HOK
   go_wp2
   go_end0
   exact HD.out

theorem Arg.addr {w:World}{v:Value}{X:List Nat}(h:Arg w v X)(h0:0<X.length):∃b off c,v=.slice (some ⟨b,off,none⟩) X.length c:=by
 obtain⟨ao,c,rfl,_,_,hl⟩:=h.form
 rcases hl with h1|⟨b,off,rfl,_⟩
 ·rw [h1] at h0;simp at h0
 ·exact⟨b,off,c,rfl⟩

theorem qx (H T:Int)(hH:2≤H)(hT:3≤T)(P Q:List Nat)(hle:Q.length≤P.length)(hb4:P.length+Q.length≤4398046511103)(hns:¬((Q.length:Int)<H∧(Q.length:Int)<T))(hI:∀X Y:List Nat,X.length+Y.length<P.length+Q.length→bR H T X Y):bR H T P Q:=by
 intro bz zo cap Z va vb w hB hLZ hAP hAQ ho ho2 hzo hc1 hc2
 have hQ0:2≤Q.length:=by omega
 obtain⟨b,off,c1,rfl⟩:=hAP.addr (by omega)
 obtain⟨b2,off2,c2,rfl⟩:=hAQ.addr (by omega)
 have hb:=ho _ _ _ _ rfl
 have hb2:=ho2 _ _ _ _ rfl
 unfold way
 have hd0:decide ((P.length:Int)<(Q.length:Int))=false:=decide_eq_false (by omega)
 obtain⟨_,_,e0,hcc1,hcm1,_⟩:=hAP.form
 cases e0
 obtain⟨_,_,e0,hcc2,hcm2,_⟩:=hAQ.form
 cases e0
 have fP:=hAP.few
 have fQ:=hAQ.few
 obtain⟨hf,ehf,hf1,hf2⟩:∃k:Nat,((P.length:Int)+1) / 2=(k:Int)∧2*k≤P.length+1∧P.length≤2*k:=⟨(P.length+1) / 2,by omega,by omega,by omega⟩
 obtain⟨th,eth,ht1,ht2⟩:∃k:Nat,((P.length:Int)+2) / 3=(k:Int)∧3*k≤P.length+2∧P.length≤3*k:=⟨(P.length+2) / 3,by omega,by omega,by omega⟩
 obtain⟨t2,et2,ht3,ht4⟩:∃k:Nat,(2:Int)*(th:Int)=(k:Int)∧k≤2*th∧2*th≤k:=⟨2*th,by omega,by omega,by omega⟩
 by_cases hTl:T≤(Q.length:Int)
 ·have d1:decide ((Q.length:Int)<T)=false:=decide_eq_false (by omega)
  by_cases h2:t2≤Q.length
  ·have i2:(t2:Int)≤(Q.length:Int):=by omega
   have HC:=kV H T bz zo cap th Z b off c1 b2 off2 c2 P Q (w.alloc (.cells #[.int .i64 H,.int .i64 T] 161)) (hB.alloc _) hLZ (hAP.more _) (hAQ.more _) hb hb2 hzo hc1 hc2 (by omega) (by omega) hle (by omega) (by omega) (by omega) hI
   unfold way at HC
   by_cases hHl:(Q.length:Int)<H
   ·have d2:decide ((Q.length:Int)<H)=true:=decide_eq_true hHl
    go_enter Tryz.func144,Tryz.ntmps144
    go_wp2_with fail
    refine HC.mono ?_
    rintro e w2 hd
    have HD:=ab (aI.after hd (Fr.alloc bz w _))
    obtain⟨he,_⟩:=hd
    subst he
    clear hAP hAQ hB HC
    go_wp2
    go_end0
    exact HD.out
   ·have d2:decide ((Q.length:Int)<H)=false:=decide_eq_false hHl
    go_enter Tryz.func144,Tryz.ntmps144
    go_wp2_with fail
    refine HC.mono ?_
    rintro e w2 hd
    have HD:=ab (aI.after hd (Fr.alloc bz w _))
    obtain⟨he,_⟩:=hd
    subst he
    clear hAP hAQ hB HC
    go_wp2
    go_end0
    exact HD.out
  ·have i2:decide ((t2:Int)≤(Q.length:Int))=false:=decide_eq_false (by omega)
   have HC:=fU H T bz zo cap Z _ _ P Q (w.alloc (.cells #[.int .i64 H,.int .i64 T] 161)) (hB.alloc _) hLZ (hAP.more _) (hAQ.more _) (aA hb _ _) (aA hb2 _ _) hzo hc1 hc2 (by omega) (by omega) (fun t _=>hI _ _ (by simp;omega))
   unfold way at HC
   by_cases hHl:(Q.length:Int)<H
   ·have d2:decide ((Q.length:Int)<H)=true:=decide_eq_true hHl
    go_enter Tryz.func144,Tryz.ntmps144
    go_wp2_with fail
    refine HC.mono ?_
    rintro e w2 hd
    have HD:=ab (aI.after hd (Fr.alloc bz w _))
    obtain⟨he,_⟩:=hd
    subst he
    clear hAP hAQ hB HC
    go_wp2
    go_end0
    exact HD.out
   ·have d2:decide ((Q.length:Int)<H)=false:=decide_eq_false hHl
    go_enter Tryz.func144,Tryz.ntmps144
    go_wp2_with fail
    refine HC.mono ?_
    rintro e w2 hd
    have HD:=ab (aI.after hd (Fr.alloc bz w _))
    obtain⟨he,_⟩:=hd
    subst he
    clear hAP hAQ hB HC
    go_wp2
    go_end0
    exact HD.out
 ·have d1:(Q.length:Int)<T:=by omega
  have d0:decide (T≤(Q.length:Int))=false:=decide_eq_false (by omega)
  have d2:decide ((Q.length:Int)<H)=false:=decide_eq_false (by omega)
  by_cases h3:hf<Q.length
  ·have i3:(hf:Int)<(Q.length:Int):=by omega
   have HC:=kG H T bz zo cap hf Z b off c1 b2 off2 c2 P Q (w.alloc (.cells #[.int .i64 H,.int .i64 T] 161)) (hB.alloc _) hLZ (hAP.more _) (hAQ.more _) hb hb2 hzo hc1 hc2 (by omega) h3 hle (by omega) (by omega) hI
   unfold way at HC
   go_enter Tryz.func144,Tryz.ntmps144
   go_wp2_with fail
   refine HC.mono ?_
   rintro e w2 hd
   have HD:=ab (aI.after hd (Fr.alloc bz w _))
   obtain⟨he,_⟩:=hd
   subst he
   clear hAP hAQ hB HC
   go_wp2
   go_end0
   exact HD.out
  ·have i3:decide ((hf:Int)<(Q.length:Int))=false:=decide_eq_false (by omega)
   have HC:=fU H T bz zo cap Z _ _ P Q (w.alloc (.cells #[.int .i64 H,.int .i64 T] 161)) (hB.alloc _) hLZ (hAP.more _) (hAQ.more _) (aA hb _ _) (aA hb2 _ _) hzo hc1 hc2 (by omega) (by omega) (fun t _=>hI _ _ (by simp;omega))
   unfold way at HC
   go_enter Tryz.func144,Tryz.ntmps144
   go_wp2_with fail
   refine HC.mono ?_
   rintro e w2 hd
   have HD:=ab (aI.after hd (Fr.alloc bz w _))
   obtain⟨he,_⟩:=hd
   subst he
   clear hAP hAQ hB HC
   go_wp2
   go_end0
   exact HD.out

theorem mH (H T:Int)(hH:2≤H)(hT:3≤T)(P Q:List Nat)(hlt:Q.length<P.length)(hb4:P.length+Q.length≤4398046511103)(hns:¬((Q.length:Int)<H∧(Q.length:Int)<T))(hI:∀X Y:List Nat,X.length+Y.length<P.length+Q.length→bR H T X Y):bR H T Q P:=by
 intro bz zo cap Z va vb w hB hLZ hAQ hAP ho2 ho hzo hc1 hc2
 have hQ0:2≤Q.length:=by omega
 have hle:Q.length≤P.length:=by omega
 obtain⟨b,off,c1,rfl⟩:=hAP.addr (by omega)
 obtain⟨b2,off2,c2,rfl⟩:=hAQ.addr (by omega)
 have hb:=ho _ _ _ _ rfl
 have hb2:=ho2 _ _ _ _ rfl
 unfold way
 rw [Nat.add_comm Q.length,Nat.mul_comm (val Q)]
 rw [Nat.add_comm Q.length] at hzo hc1
 have hd0:(Q.length:Int)<(P.length:Int):=by omega
 obtain⟨_,_,e0,hcc1,hcm1,_⟩:=hAP.form
 cases e0
 obtain⟨_,_,e0,hcc2,hcm2,_⟩:=hAQ.form
 cases e0
 have fP:=hAP.few
 have fQ:=hAQ.few
 obtain⟨hf,ehf,hf1,hf2⟩:∃k:Nat,((P.length:Int)+1) / 2=(k:Int)∧2*k≤P.length+1∧P.length≤2*k:=⟨(P.length+1) / 2,by omega,by omega,by omega⟩
 obtain⟨th,eth,ht1,ht2⟩:∃k:Nat,((P.length:Int)+2) / 3=(k:Int)∧3*k≤P.length+2∧P.length≤3*k:=⟨(P.length+2) / 3,by omega,by omega,by omega⟩
 obtain⟨t2,et2,ht3,ht4⟩:∃k:Nat,(2:Int)*(th:Int)=(k:Int)∧k≤2*th∧2*th≤k:=⟨2*th,by omega,by omega,by omega⟩
 by_cases hTl:T≤(Q.length:Int)
 ·have d1:decide ((Q.length:Int)<T)=false:=decide_eq_false (by omega)
  by_cases h2:t2≤Q.length
  ·have i2:(t2:Int)≤(Q.length:Int):=by omega
   have HC:=kV H T bz zo cap th Z b off c1 b2 off2 c2 P Q (w.alloc (.cells #[.int .i64 H,.int .i64 T] 161)) (hB.alloc _) hLZ (hAP.more _) (hAQ.more _) hb hb2 hzo hc1 hc2 (by omega) (by omega) hle (by omega) (by omega) (by omega) hI
   unfold way at HC
   by_cases hHl:(Q.length:Int)<H
   ·have d2:decide ((Q.length:Int)<H)=true:=decide_eq_true hHl
    go_enter Tryz.func144,Tryz.ntmps144
    go_wp2_with fail
    refine HC.mono ?_
    rintro e w2 hd
    have HD:=ab (aI.after hd (Fr.alloc bz w _))
    obtain⟨he,_⟩:=hd
    subst he
    clear hAP hAQ hB HC
    go_wp2
    go_end0
    exact HD.out
   ·have d2:decide ((Q.length:Int)<H)=false:=decide_eq_false hHl
    go_enter Tryz.func144,Tryz.ntmps144
    go_wp2_with fail
    refine HC.mono ?_
    rintro e w2 hd
    have HD:=ab (aI.after hd (Fr.alloc bz w _))
    obtain⟨he,_⟩:=hd
    subst he
    clear hAP hAQ hB HC
    go_wp2
    go_end0
    exact HD.out
  ·have i2:decide ((t2:Int)≤(Q.length:Int))=false:=decide_eq_false (by omega)
   have HC:=fU H T bz zo cap Z _ _ P Q (w.alloc (.cells #[.int .i64 H,.int .i64 T] 161)) (hB.alloc _) hLZ (hAP.more _) (hAQ.more _) (aA hb _ _) (aA hb2 _ _) hzo hc1 hc2 (by omega) (by omega) (fun t _=>hI _ _ (by simp;omega))
   unfold way at HC
   by_cases hHl:(Q.length:Int)<H
   ·have d2:decide ((Q.length:Int)<H)=true:=decide_eq_true hHl
    go_enter Tryz.func144,Tryz.ntmps144
    go_wp2_with fail
    refine HC.mono ?_
    rintro e w2 hd
    have HD:=ab (aI.after hd (Fr.alloc bz w _))
    obtain⟨he,_⟩:=hd
    subst he
    clear hAP hAQ hB HC
    go_wp2
    go_end0
    exact HD.out
   ·have d2:decide ((Q.length:Int)<H)=false:=decide_eq_false hHl
    go_enter Tryz.func144,Tryz.ntmps144
    go_wp2_with fail
    refine HC.mono ?_
    rintro e w2 hd
    have HD:=ab (aI.after hd (Fr.alloc bz w _))
    obtain⟨he,_⟩:=hd
    subst he
    clear hAP hAQ hB HC
    go_wp2
    go_end0
    exact HD.out
 ·have d1:(Q.length:Int)<T:=by omega
  have d0:decide (T≤(Q.length:Int))=false:=decide_eq_false (by omega)
  have d2:decide ((Q.length:Int)<H)=false:=decide_eq_false (by omega)
  by_cases h3:hf<Q.length
  ·have i3:(hf:Int)<(Q.length:Int):=by omega
   have HC:=kG H T bz zo cap hf Z b off c1 b2 off2 c2 P Q (w.alloc (.cells #[.int .i64 H,.int .i64 T] 161)) (hB.alloc _) hLZ (hAP.more _) (hAQ.more _) hb hb2 hzo hc1 hc2 (by omega) h3 hle (by omega) (by omega) hI
   unfold way at HC
   go_enter Tryz.func144,Tryz.ntmps144
   go_wp2_with fail
   refine HC.mono ?_
   rintro e w2 hd
   have HD:=ab (aI.after hd (Fr.alloc bz w _))
   obtain⟨he,_⟩:=hd
   subst he
   clear hAP hAQ hB HC
   go_wp2
   go_end0
   exact HD.out
  ·have i3:decide ((hf:Int)<(Q.length:Int))=false:=decide_eq_false (by omega)
   have HC:=fU H T bz zo cap Z _ _ P Q (w.alloc (.cells #[.int .i64 H,.int .i64 T] 161)) (hB.alloc _) hLZ (hAP.more _) (hAQ.more _) (aA hb _ _) (aA hb2 _ _) hzo hc1 hc2 (by omega) (by omega) (fun t _=>hI _ _ (by simp;omega))
   unfold way at HC
   go_enter Tryz.func144,Tryz.ntmps144
   go_wp2_with fail
   refine HC.mono ?_
   rintro e w2 hd
   have HD:=ab (aI.after hd (Fr.alloc bz w _))
   obtain⟨he,_⟩:=hd
   subst he
   clear hAP hAQ hB HC
   go_wp2
   go_end0
   exact HD.out

theorem sx (H T:Int)(hH:2≤H)(hT:3≤T):∀(k:Nat) (X Y:List Nat),X.length+Y.length≤k→k≤4398046511103→bR H T X Y:=by
 intro k
 induction k with
 | zero=>
  intro X Y h _
  exact gH H T X Y (.inr ⟨by omega,by omega,by omega⟩)
 | succ k ih=>
  intro X Y h hk
  have hI:∀P Q:List Nat,P.length+Q.length<X.length+Y.length→bR H T P Q:=fun P Q hl=>ih P Q (by omega) (by omega)
  by_cases hlt:X.length<Y.length
  ·by_cases hs:(X.length:Int)<H∧(X.length:Int)<T
   ·exact gH H T X Y (.inl ⟨hlt,hs⟩)
   ·exact mH H T hH hT Y X hlt (by omega) hs (fun P Q hl=>hI P Q (by omega))
  ·by_cases hs:(Y.length:Int)<H∧(Y.length:Int)<T
   ·exact gH H T X Y (.inr ⟨by omega,hs⟩)
   ·exact qx H T hH hT X Y (by omega) (by omega) hs hI
end Go.Proofs.YtkfbobefkbpdoaaGreatDoor

