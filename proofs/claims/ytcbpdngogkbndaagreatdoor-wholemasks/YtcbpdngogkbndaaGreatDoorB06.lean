/- Package div: byLimbs, its plain facts. -/
import Derived.Test.YtcbpdngogkbndaaGreatDoorB05
import Derived.Test.YtcbpdngogkbndaaGreatDoorB04
import Derived.Test.YtcbpdngogkbndaaGreatDoorB03
import Derived.Test.YtcbpdngogkbndaaGreatDoorB01
namespace Go.Proofs.YtcbpdngogkbndaaGreatDoor
open Go.RowKit
open Lm

structure Fr2 (b1 b2:Nat)(w w':World):Prop where
 os:w'.os=w.os
 tape:w'.tape=w.tape
 output:w'.output=w.output
 size:w.heap.size≤w'.heap.size
 block:∀k,k<w.heap.size→k≠b1→k≠b2→w'.heap[k]?=w.heap[k]?

theorem Fr2.refl (b1 b2:Nat)(w:World):Fr2 b1 b2 w w:=⟨rfl,rfl,rfl,Nat.le_refl _,fun _ _ _ _=>rfl⟩

theorem Fr2.trans {b1 b2:Nat}{a b c:World}(h:Fr2 b1 b2 a b)(k:Fr2 b1 b2 b c):Fr2 b1 b2 a c:=
 ⟨k.os.trans h.os,k.tape.trans h.tape,k.output.trans h.output,Nat.le_trans h.size k.size,fun i h1 h2 h3=>(k.block i (Nat.lt_of_lt_of_le h1 h.size) h2 h3).trans (h.block i h1 h2 h3)⟩

theorem Fr.left2 {b1 b2:Nat}{w w':World}(h:Fr b1 w w'):Fr2 b1 b2 w w':=⟨h.os,h.tape,h.output,h.size,fun k h1 h2 _=>h.block k h1 h2⟩

theorem Fr.right2 {b1 b2:Nat}{w w':World}(h:Fr b2 w w'):Fr2 b1 b2 w w':=⟨h.os,h.tape,h.output,h.size,fun k h1 _ h3=>h.block k h1 h3⟩

theorem Blk.frb {w w':World}{b bz:Nat}{xs:List Nat}(h:Blk w b xs)(hf:Fr bz w w')(hne:b≠bz):Blk w' b xs:=(hf.block b h.lt hne).trans h

theorem j6 {S V q S1 X:Nat}(hV:0<V)(hq:q=S / V∨q=S / V+1)(h1:S1+V*q=S)(_hX:S1<X):q=S / V∧S1=S % V:=by
 have h2:=Nat.div_add_mod S V
 have h3:=Nat.mod_lt S hV
 rcases hq with h|h
 ·rw [h] at h1
  exact⟨h,by omega⟩
 ·rw [h,Nat.mul_add,Nat.mul_one] at h1
  omega

theorem iw {S V q S1 S2 c X:Nat}(hV:0<V)(hq:q=S / V∨q=S / V+1)(h1:S1+V*q=S+1*X)(hX:S1<X)(h2:S2+c*X=S1+V)(hX2:S2<X)(hc:c≤1):q - 1=S / V∧1≤q∧S2=S % V:=by
 have h3:=Nat.div_add_mod S V
 have h4:=Nat.mod_lt S hV
 generalize S / V=d at *
 generalize S % V=r at *
 rcases hq with h|h
 ·rw [h] at h1
  omega
 ·rw [h,Nat.mul_add,Nat.mul_one] at h1
  generalize V*d=y at *
  refine⟨by omega,by omega,?_⟩
  rcases (by omega:c=0∨c=1) with rfl|rfl
  ·omega
  ·omega

structure aM (bq qo m bu uo n VV:Nat)(Q U:List Nat)(w wr:World)(k:Nat)(Q' U':List Nat):Prop where
 outQ:Out Q Q' (qo+k) (qo+m)
 limQ:Limbs Q'
 blkQ:Blk wr bq Q'
 outU:Out U U' (uo+k) (uo+(m+n))
 limU:Limbs U'
 blkU:Blk wr bu U'
 fr:Fr2 bq bu w wr
 eq:sv Q' (qo+k) (m - k)*VV+sv U' (uo+k) n=sv U (uo+k) (n+(m - k))
 lt:sv U' (uo+k) n<VV
 top:sv U' (uo+k+n) (m - k)=0

theorem aM.step {bq qo m bu uo n VV:Nat}{Q U:List Nat}{w wr w2:World}{i:Nat}{Q' U' U2:List Nat}(h:aM bq qo m bu uo n VV Q U w wr (i+1) Q' U')(hi:i<m)
  (hq:qo+m≤Q.length) (hu:uo+(m+n)≤U.length) (hV:0<VV) (hVn:VV≤18446744073709551616 ^ n) (qd:Nat) (hqd:qd<18446744073709551616) (e1:qd=sv U' (uo+i) (n+1) / VV)
  (hO:Out U' U2 (uo+i) (uo+i+(n+1))) (hL:Limbs U2) (e2:sv U2 (uo+i) (n+1)=sv U' (uo+i) (n+1) % VV)
  (hB:Blk w2 bu U2) (hBq:Blk w2 bq (Q'.set (qo+i) qd)) (hf:Fr2 bq bu wr w2):aM bq qo m bu uo n VV Q U w w2 i (Q'.set (qo+i) qd) U2:=by
 have hlQ:=h.outQ.len
 have hlU:=h.outU.len
 have hlU2:=hO.len
 have hr:sv U' (uo+i) (n+1) % VV<VV:=Nat.mod_lt _ hV
 have hsp:=af U2 (uo+i) n 1 (by omega)
 have hone:=du U2 (uo+i+n) (by omega)
 rw [hone] at hsp
 have htop:U2.getD (uo+i+n) 0=0:=by
  rcases Nat.eq_zero_or_pos (U2.getD (uo+i+n) 0) with h0|h0
  ·exact h0
  ·have:=Nat.mul_le_mul_left (18446744073709551616 ^ n) h0
   omega
 rw [htop,Nat.mul_zero] at hsp
 simp only [Nat.add_zero] at hsp
 have hS:=bU U' (uo+i) 0 (n+1) (by omega) (by omega)
 rw [Nat.add_zero,Nat.sub_zero,Nat.zero_add,Nat.add_sub_cancel] at hS
 have hUi:=h.outU.same (uo+i) (by omega)
 have hUs:=bU U (uo+i) 0 (n+(m - i)) (by omega) (by omega)
 rw [Nat.add_zero,Nat.sub_zero,Nat.zero_add,show n+(m - i) - 1=n+(m - (i+1)) by omega] at hUs
 have hQs:=bU (Q'.set (qo+i) qd) (qo+i) 0 (m - i) (by simp;omega) (by omega)
 rw [Nat.add_zero,Nat.sub_zero,Nat.zero_add,bY,if_pos ⟨rfl,by omega⟩,show m - i - 1=m - (i+1) by omega] at hQs
 have eO:Out Q' (Q'.set (qo+i) qd) (qo+i) (qo+(i+1)):=(Out.refl _ _ _).set _ _ (by omega) (by omega)
 rw [show qo+i+1=qo+(i+1) from rfl,eO.sv (qo+(i+1)) (m - (i+1)) (by omega)] at hQs
 refine⟨?_,limbs_set h.limQ _ _ hqd,hBq,?_,hL,hB,h.fr.trans hf,?_,?_,?_⟩
 ·exact (h.outQ.wider (by omega) (Nat.le_refl _)).set _ _ (by omega) (by omega)
 ·exact (h.outU.wider (by omega) (Nat.le_refl _)).trans (hO.wider (by omega) (by omega))
 ·rw [hQs,hUs,←hUi,←hsp,e2,show uo+i+1=uo+(i+1) from rfl,←h.eq]
  rw [show uo+i+1=uo+(i+1) from rfl] at hS
  have h5:=Nat.div_add_mod (sv U' (uo+i) (n+1)) VV
  rw [←e1] at h5
  generalize sv U' (uo+i) (n+1) % VV=r at *
  generalize sv U' (uo+i) (n+1)=S at *
  generalize sv Q' (qo+(i+1)) (m - (i+1))=a at *
  generalize sv U' (uo+(i+1)) n=b at *
  generalize U'.getD (uo+i) 0=c at *
  have e6:(qd+18446744073709551616*a)*VV=VV*qd+18446744073709551616*(a*VV):=by
   rw [Nat.add_mul,Nat.mul_comm qd,Nat.mul_assoc]
  rw [e6,Nat.mul_add]
  omega
 ·rw [←hsp,e2];exact hr
 ·have hc:=bU U2 (uo+i+n) 0 (m - i) (by omega) (by omega)
  rw [Nat.add_zero,Nat.sub_zero,Nat.zero_add,htop,Nat.zero_add,show m - i - 1=m - (i+1) by omega] at hc
  rw [hc,hO.sv (uo+i+n+1) (m - (i+1)) (by omega),show uo+i+n+1=uo+(i+1)+n by omega,h.top]

def aT (w:World)(g N v:Nat):Prop:=∃A:List Nat,Blk w g A∧Limbs A∧A.length=N∧val A=v

theorem aT.fr {w w':World}{g N v bz:Nat}(h:aT w g N v)(hf:Fr bz w w')(hne:g≠bz):aT w' g N v:=by
 obtain⟨A,h1,h2⟩:=h
 exact⟨A,hf.blk h1 hne,h2⟩

theorem aT.arg {w:World}{g N v:Nat}(h:aT w g N v)(hN:N≤1125899906842624):∃A:List Nat,Arg w (.slice (some ⟨g,0,none⟩) N N) A∧val A=v:=by
 obtain⟨A,h1,h2,h3,h4⟩:=h
 refine⟨A,?_,h4⟩
 have:=h1.take_arg h2 N N (by omega) (Nat.le_refl _) (by omega)
 rwa [List.take_of_length_le (by omega)] at this

theorem ac {g g' o n c:Nat}(h:g≠g'):∀lo hi,Off (.slice (some ⟨g,o,none⟩) n c) g' lo hi:=fun lo hi b off n c e=>by
 cases e
 exact .inl h

structure St3 (w0 ws w:World)(bz o e t N:Nat)(Z:List Nat)(vo ve vt:Nat):Prop where
 fr:Fr bz w0 w
 blk:Blk w bz Z
 lz:Limbs Z
 lt:bz<w0.heap.size
 no:w0.heap.size≤o
 ne:w0.heap.size≤e
 nt:w0.heap.size≤t
 oe:o≠e
 ot:o≠t
 et:e≠t
 ho:aT w o N vo
 he:aT w e N ve
 ht:aT w t N vt
 size:ws.heap.size≤w.heap.size
 keep:∀k,k<ws.heap.size→k≠bz→k≠o→k≠e→k≠t→w.heap[k]?=ws.heap[k]?

theorem St3.oe' {w0 ws w:World}{bz o e t N:Nat}{Z:List Nat}{vo ve vt:Nat}(h:St3 w0 ws w bz o e t N Z vo ve vt):St3 w0 ws w bz e o t N Z ve vo vt:=
 ⟨h.fr,h.blk,h.lz,h.lt,h.ne,h.no,h.nt,Ne.symm h.oe,h.et,h.ot,h.he,h.ho,h.ht,h.size,fun k a b c d e=>h.keep k a b d c e⟩

theorem St3.et' {w0 ws w:World}{bz o e t N:Nat}{Z:List Nat}{vo ve vt:Nat}(h:St3 w0 ws w bz o e t N Z vo ve vt):St3 w0 ws w bz o t e N Z vo vt ve:=
 ⟨h.fr,h.blk,h.lz,h.lt,h.no,h.nt,h.ne,h.ot,h.oe,Ne.symm h.et,h.ho,h.ht,h.he,h.size,fun k a b c d e=>h.keep k a b c e d⟩

theorem St3.up {w0 ws w:World}{bz o e t N:Nat}{Z:List Nat}{vo ve vt:Nat}(h:St3 w0 ws w bz o e t N Z vo ve vt){E:List Nat}{p:Nat}{en:Ending}{w':World}(hl:E.length=N)(hd:an e 0 N E w p en w') :
  en=.returned (.tuple #[])∧St3 w0 ws w' bz o e t N Z vo p vt:=by
 obtain⟨rfl,E',q1,q2,q3,q4,q5⟩:=hd
 have hlt:=h.lt
 have hne:=h.ne
 have hE:E'.length=N:=by rw [q1.len,hl]
 refine⟨rfl,h.fr.other q4 h.ne,q4.blk h.blk (by omega),h.lz,h.lt,h.no,h.ne,h.nt,h.oe,h.ot,h.et,h.ho.fr q4 h.oe,⟨E',q3,q2,hE,?_⟩,h.ht.fr q4 (Ne.symm h.et),Nat.le_trans h.size q4.size,fun k a b c d f=>(q4.block k (Nat.lt_of_lt_of_le a h.size) d).trans (h.keep k a b c d f)⟩
 rw [←q5,←hE,aK]

theorem St3.upz {w0 ws w:World}{bz o e t N:Nat}{Z:List Nat}{vo ve vt:Nat}(h:St3 w0 ws w bz o e t N Z vo ve vt){zo n p:Nat}{en:Ending}{w':World}(hd:an bz zo n Z w p en w') :
  en=.returned (.tuple #[])∧∃Z',St3 w0 ws w' bz o e t N Z' vo ve vt∧Out Z Z' zo (zo+n)∧sv Z' zo n=p:=by
 obtain⟨rfl,Z',q1,q2,q3,q4,q5⟩:=hd
 have hlt:=h.lt
 have h1:=h.no
 have h2:=h.ne
 have h3:=h.nt
 exact⟨rfl,Z',⟨h.fr.trans q4,q3,q2,h.lt,h.no,h.ne,h.nt,h.oe,h.ot,h.et,h.ho.fr q4 (by omega),h.he.fr q4 (by omega),h.ht.fr q4 (by omega),Nat.le_trans h.size q4.size,fun k a b c d f=>(q4.block k (Nat.lt_of_lt_of_le a h.size) b).trans (h.keep k a b c d f)⟩,q1,q5⟩

theorem aX {E:List Nat}{N:Nat}(h:E.length=N):sv E 0 N=val E:=by rw [←h,aK]

theorem St3.plus {w0 ws w:World}{bz o e t N:Nat}{Z:List Nat}{vo ve vt:Nat}(h:St3 w0 ws w bz o e t N Z vo ve vt)(hN:N≤1125899906842624)(p:Nat){va:Value}{A:List Nat}(hA:Arg w va A)(hoff:Off va e 0 (0+N))(hp:p=ve+val A)(hfit:p<18446744073709551616 ^ N) :
  Calls Tryz.prog 143 #[.slice (some ⟨e,0,none⟩) N N,va] w fun en w'=>en=.returned (.tuple #[])∧St3 w0 ws w' bz o e t N Z vo p vt:=by
 obtain⟨E,h1,h2,h3,h4⟩:=h.he
 have:=bW e 0 N N E va A w h1 h2 hA hoff (by omega) (Nat.le_refl _) (by omega) (by rw [aX h3,h4];omega)
 rw [aX h3,h4,←hp] at this
 exact this.mono fun en w' hd=>h.up h3 hd

theorem St3.minus {w0 ws w:World}{bz o e t N:Nat}{Z:List Nat}{vo ve vt:Nat}(h:St3 w0 ws w bz o e t N Z vo ve vt)(hN:N≤1125899906842624)(p:Nat){va:Value}{A:List Nat}(hA:Arg w va A)(hoff:Off va e 0 (0+N))(hp:ve=p+val A) :
  Calls Tryz.prog 145 #[.slice (some ⟨e,0,none⟩) N N,va] w fun en w'=>en=.returned (.tuple #[])∧St3 w0 ws w' bz o e t N Z vo p vt:=by
 obtain⟨E,h1,h2,h3,h4⟩:=h.he
 have:=dl e 0 N N E va A w h1 h2 hA hoff (by omega) (Nat.le_refl _) (by omega) (by rw [aX h3,h4];omega)
 rw [aX h3,h4,show ve - val A=p by omega] at this
 exact this.mono fun en w' hd=>h.up h3 hd

theorem St3.minusTimes {w0 ws w:World}{bz o e t N:Nat}{Z:List Nat}{vo ve vt:Nat}(h:St3 w0 ws w bz o e t N Z vo ve vt)(hN:N≤1125899906842624)(p k:Nat){va:Value}{A:List Nat}(hA:Arg w va A)(hoff:Off va e 0 (0+N))(hp:ve=p+val A*k)(hk0:0<k)(hk:k<18446744073709551616) :
  Calls Tryz.prog 146 #[.slice (some ⟨e,0,none⟩) N N,va,.int .u64 k] w fun en w'=>en=.returned (.tuple #[])∧St3 w0 ws w' bz o e t N Z vo p vt:=by
 obtain⟨E,h1,h2,h3,h4⟩:=h.he
 have:=iN e 0 N N E va A k w h1 h2 hA hoff (by omega) (Nat.le_refl _) (by omega) hk0 hk (by rw [aX h3,h4];omega)
 rw [aX h3,h4,show ve - val A*k=p by omega] at this
 exact this.mono fun en w' hd=>h.up h3 hd

theorem St3.half {w0 ws w:World}{bz o e t N:Nat}{Z:List Nat}{vo ve vt:Nat}(h:St3 w0 ws w bz o e t N Z vo ve vt)(hN:N≤1125899906842624)(p:Nat)(hp:ve=2*p) :
  Calls Tryz.prog 144 #[.slice (some ⟨e,0,none⟩) N N] w fun en w'=>en=.returned (.tuple #[])∧St3 w0 ws w' bz o e t N Z vo p vt:=by
 obtain⟨E,h1,h2,h3,h4⟩:=h.he
 have:=jx e 0 N N E w h1 h2 (by omega) (Nat.le_refl _) (by omega)
 rw [aX h3,h4,show ve / 2=p by omega] at this
 exact this.mono fun en w' hd=>h.up h3 hd

theorem St3.third {w0 ws w:World}{bz o e t N:Nat}{Z:List Nat}{vo ve vt:Nat}(h:St3 w0 ws w bz o e t N Z vo ve vt)(hN:N≤1125899906842624)(p:Nat)(hp:ve=3*p) :
  Calls Tryz.prog 147 #[.slice (some ⟨e,0,none⟩) N N] w fun en w'=>en=.returned (.tuple #[])∧St3 w0 ws w' bz o e t N Z vo p vt:=by
 obtain⟨E,h1,h2,h3,h4⟩:=h.he
 have:=kB e 0 N N E w h1 h2 (by omega) (Nat.le_refl _) (by omega) (by rw [aX h3,h4];omega)
 rw [aX h3,h4,show ve / 3=p by omega] at this
 exact this.mono fun en w' hd=>h.up h3 hd

theorem St3.add {w0 ws w:World}{bz o e t N:Nat}{Z:List Nat}{vo ve vt:Nat}(h:St3 w0 ws w bz o e t N Z vo ve vt)(zo n k cap:Nat){va:Value}{A:List Nat}(hA:Arg w va A)(hoff:Off va bz (zo+k) (zo+k+(n - k)))(hk:k≤n)(hz:zo+n≤Z.length)(hc1:n - k≤cap)(hc2:cap≤9223372036854775807)
  (tot:Nat) (hle:sv Z zo n+18446744073709551616 ^ k*val A≤tot) (htot:tot<18446744073709551616 ^ n) :
  Calls Tryz.prog 143 #[.slice (some ⟨bz,zo+k,none⟩) (n - k) cap,va] w fun en w'=>en=.returned (.tuple #[])∧∃Z',St3 w0 ws w' bz o e t N Z' vo ve vt∧Out Z Z' zo (zo+n)∧sv Z' zo n=sv Z zo n+18446744073709551616 ^ k*val A:=by
 have hfit:=ep Z zo k n (val A) tot hk hz hle htot
 have:=bW bz (zo+k) (n - k) cap Z va A w h.blk h.lz hA hoff (by omega) hc1 hc2 hfit
 refine this.mono fun en w' hd=>?_
 obtain⟨he,Z',h1,h2,h3⟩:=h.upz hd
 rw [show zo+k+(n - k)=zo+n by omega] at h2
 exact⟨he,Z',h1,h2.wider (by omega) (Nat.le_refl _),d5 Z Z' zo k n _ hk hz h2 h3⟩
end Go.Proofs.YtcbpdngogkbndaaGreatDoor
namespace Go.Proofs.YtcbpdngogkbndaaGreatDoor
open Go.RowKit
open Lm
attribute [local go_sem ↓] Go.wp_at_zero Go.wp_at_succ

theorem Arg.fr2 {w w':World}{b off n c b1 b2:Nat}{X:List Nat}(h:Arg w (.slice (some ⟨b,off,none⟩) n c) X)(hf:Fr2 b1 b2 w w')(h1:b≠b1)(h2:b≠b2):Arg w' (.slice (some ⟨b,off,none⟩) n c) X:=by
 by_cases hb:b<w.heap.size
 ·obtain⟨ao,cap,e1,g1,g2,g3⟩:=h.form
  refine⟨⟨ao,cap,e1,g1,g2,?_⟩,h.limbs,h.few,h.nz⟩
  rcases g3 with h0|⟨b',off',rfl,hc⟩
  ·exact .inl h0
  ·cases e1
   refine .inr ⟨_,_,rfl,fun k hk=>?_⟩
   rw [World.cell?_of_block (w:=w) (hf.block b hb h1 h2)]
   exact hc k hk
 ·obtain⟨ao,cap,e1,g1,g2,g3⟩:=h.form
  refine⟨⟨ao,cap,e1,g1,g2,?_⟩,h.limbs,h.few,h.nz⟩
  rcases g3 with h0|⟨b',off',rfl,hc⟩
  ·exact .inl h0
  ·cases e1
   by_cases hX:X.length=0
   ·exact .inl (List.length_eq_zero_iff.1 hX)
   ·exact absurd (am.block (zs:=X) (.inr ⟨_,_,rfl,hc⟩) (by omega)) hb

def bX (bq qo m bu uo n VV:Nat)(Q U:List Nat)(w:World)(e:Ending)(w':World):Prop:=
 e=.returned (.tuple #[])∧∃Q' U':List Nat,aM bq qo m bu uo n VV Q U w w' 0 Q' U'

set_option maxRecDepth 20000 in
set_option maxHeartbeats 1000000 in
theorem fc (bq qo m qcap bu uo ucap bv ov vcap j:Nat)(Q U V:List Nat)(w:World)
  (hQ:Blk w bq Q) (lQ:Limbs Q) (hU:Blk w bu U) (lU:Limbs U) (hV:Arg w (.slice (some ⟨bv,ov,none⟩) V.length vcap) V) (lV:V.length=j+1) (ht:9223372036854775808≤V.getD j 0)
  (n1:bq≠bu) (n2:bv≠bq) (n3:bv≠bu) (q1:qo+m≤Q.length) (q2:m≤qcap) (q3:qcap≤9223372036854775807) (u1:uo+(m+V.length)≤U.length) (u2:m+V.length≤ucap) (u3:ucap≤9223372036854775807)
  (few:m+V.length≤1125899906842623) (hlt:sv U (uo+m) V.length<val V) :
  Calls Tryz.prog 119 #[.slice (some ⟨bq,qo,none⟩) m qcap,.slice (some ⟨bu,uo,none⟩) (m+V.length) ucap,.slice (some ⟨bv,ov,none⟩) V.length vcap] w (bX bq qo m bu uo V.length (val V) Q U w):=by
 have HJ:=aa lV
 have HV0:Hid (0<val V∧val V≤18446744073709551616 ^ V.length):=⟨by omega,Nat.le_of_lt (val_lt hV.limbs)⟩
 have START:Hid (aM bq qo m bu uo V.length (val V) Q U w w m Q U):=⟨Out.refl _ _ _,lQ,hQ,Out.refl _ _ _,lU,hU,Fr2.refl _ _ _,by rw [Nat.sub_self,aC,Nat.zero_mul,Nat.zero_add,Nat.add_zero],hlt,by rw [Nat.sub_self,aC]⟩
 have HVA:=aa hV
 have vc:=hV.form
 clear lV hQ lQ hU lU hlt hV vc
 go_enter Tryz.func119,Tryz.ntmps119
 go_wp2
 go_loopw [6] (fun i wr=>∃(k:Nat) (Q' U':List Nat),k≤m∧i=.int .i64 ((k:Int) - 1)∧aM bq qo m bu uo V.length (val V) Q U w wr k Q' U') (fun i _=>(intOf i+1).toNat)
 case atStart=>exact⟨m,Q,U,Nat.le_refl _,rfl,START.out⟩
 case round=>
  obtain⟨k,Q',U',hk,rfl,hrel⟩:=hrel
  have HR:=aa hrel
  clear hrel START
  by_cases hk0:k=0
  ·subst hk0
   go_wp2
   go_end0
   exact⟨rfl,Q',U',HR.out⟩
  ·obtain⟨i,rfl⟩:∃i,k=i+1:=⟨k - 1,by omega⟩
   have ej:(((i+1:Nat):Int) - 1)=(i:Int):=by omega
   rw [ej]
   clear ej hk0
   have hcu:¬ucap=i:=by omega
   have y1:(0:Int)≤(i:Int):=by omega
   have y2:(i:Int)<(m:Int):=by omega
   have y3:(i:Int)+(V.length:Int)+1≤(ucap:Int):=by omega
   have y4:i+V.length+1 - i=V.length+1:=by omega
   have hsl:(seg U' (uo+i) (V.length+1)).length=V.length+1:=aN _ _ _ (by rw [HR.out.outU.len];omega)
   have hS:=bU U' (uo+i) 0 (V.length+1) (by rw [HR.out.outU.len];omega) (by omega)
   rw [Nat.add_zero,Nat.sub_zero,Nat.zero_add,Nat.add_sub_cancel,show uo+i+1=uo+(i+1) from rfl] at hS
   have hlim:=limb_lt HR.out.limU (uo+i)
   have hlow:=HR.out.lt
   have huv:val (seg U' (uo+i) (V.length+1))<val V*18446744073709551616:=by
    show sv U' (uo+i) (V.length+1)<_
    rw [hS];omega
   have hVr:=HVA.out.fr2 HR.out.fr n2 n3
   have HG:=lk (.slice (some ⟨bu,uo+i,none⟩) (V.length+1) (ucap - i)) (.slice (some ⟨bv,ov,none⟩) V.length vcap) (seg U' (uo+i) (V.length+1)) V j wr
    (HR.out.blkU.seg_arg HR.out.limU (uo+i) (V.length+1) (ucap - i) (by rw [HR.out.outU.len];omega) (by omega) (by omega) (by omega)) hVr HJ.out (by have:=HJ.out;omega) ht huv
   have HS:=aa hsl
   clear hS hlim hlow huv hsl
   have HVR:=aa hVr
   clear hVr
   go_wp2_with fail
   refine HG.mono ?_
   rintro e w2 ⟨⟨qd,rfl,hqd,hqe⟩,hs⟩
   have HQE:Hid (qd=sv U' (uo+i) (V.length+1) / val V∨qd=sv U' (uo+i) (V.length+1) / val V+1):=hqe
   have bq2:=HR.out.blkQ.below (hs.below _) HR.out.blkQ.lt
   have bu2:=HR.out.blkU.below (hs.below _) HR.out.blkU.lt
   have f1:=bq2.free (qo+i)
   have c1:=bq2.cell (qo+i) (by rw [HR.out.outQ.len];omega)
   have bq3:=bq2.set (qo+i) qd
   have bu3:=bu2.other ⟨bq,qo+i,none⟩ (.int .u64 (qd:Int)) (Ne.symm n1)
   have F3:=aa (show Fr2 bq bu wr (w2.setCell ⟨bq,qo+i,none⟩ (.int .u64 (qd:Int))) from (Fr.of_below (hs.below _):Fr bq wr w2).left2.trans ((Fr.refl bq w2).setCell _ _).left2)
   have HM:=g6 bu (uo+i) (V.length+1) (ucap - i) U' _ V qd _ bu3 HR.out.limU (HVR.out.fr2 F3.out n2 n3) (ac n3 _ _) (by rw [HR.out.outU.len];omega) (by omega) (by omega) hqd (by omega)
   have BQ3:=aa bq3
   generalize Q'.getD (qo+i) 0=oq at *
   clear hqe HG bq2 bu2 bq3 bu3 hs
   go_wp2_with fail
   refine HM.mono ?_
   rintro e w4 ⟨cy,U2,hcy,rfl,ho4,hl4,hb4,hf4,hv4⟩
   have hX1:=aU hl4 (uo+i) (V.length+1)
   have hX2:=aU HR.out.limU (uo+i) (V.length+1)
   have bq4:=BQ3.out.frb hf4 n1
   have F4:=aa (F3.out.trans hf4.right2)
   clear HM
   by_cases hc0:cy=0
   ·subst hc0
    obtain⟨k1,k2⟩:=j6 HV0.out.1 HQE.out (show _+val V*qd=_ by rw [hv4];omega) hX1
    have HSTEP:=aa (HR.out.step (by omega) q1 u1 HV0.out.1 HV0.out.2 qd hqd k1 ho4 hl4 k2 hb4 bq4 F4.out)
    clear ho4 hl4 hb4 hf4 hv4 hX1 hX2 bq4 k1 k2 F4 HR
    go_wp2
    go_roundw
    case rel=>exact⟨i,_,U2,by omega,rfl,HSTEP.out⟩
    case measure=>simp [intOf]
   ·have hc1:cy=1:=by omega
    have hpos:(0:Int)<(cy:Int):=by omega
    have hq1:1≤qd:=by
     rcases Nat.eq_zero_or_pos qd with h|h
     ·rw [h,hc1,Nat.mul_zero] at hv4
      omega
     ·exact h
    have lq:(Q'.set (qo+i) qd).length=Q.length:=by rw [List.length_set,HR.out.outQ.len]
    have f4:=bq4.free (qo+i)
    have c4:w4.cell? ⟨bq,qo+i,none⟩=some (.int .u64 (qd:Int)):=by
     have:=bq4.cell (qo+i) (by omega)
     rw [bY,if_pos ⟨rfl,by rw [HR.out.outQ.len];omega⟩] at this
     exact this
    have bq5:=bq4.set (qo+i) (qd - 1)
    rw [List.set_set] at bq5
    have bu5:=hb4.other ⟨bq,qo+i,none⟩ (.int .u64 ((qd - 1:Nat):Int)) (Ne.symm n1)
    have F5:=aa (F4.out.trans ((Fr.refl bq w4).setCell (qo+i) (.int .u64 ((qd - 1:Nat):Int))).left2)
    have HP:=cN bu (uo+i) (V.length+1) (ucap - i) U2 _ V _ bu5 hl4 (HVR.out.fr2 F5.out n2 n3) (ac n3 _ _) (by rw [ho4.len,HR.out.outU.len];omega) (by omega) (by omega) (by omega)
    have BQ5:=aa bq5
    have H4:=aa (And.intro ho4 (And.intro hl4 (And.intro hv4 hX1)))
    have eq1:(qd:Int) - 1=((qd - 1:Nat):Int):=by omega
    have hq2:qd - 1<18446744073709551616:=by omega
    obtain⟨q',hq'⟩:∃q',qd - 1=q':=⟨_,rfl⟩
    have HQ':=aa hq'
    rw [hq'] at eq1 hq2 HP BQ5 F5
    clear bq4 bq5 bu5 hq' hv4 ho4 hl4 hb4 hf4 hX1 hX2 F4 lq
    have HC1:=aa hc1
    clear hc1
    go_wp2_with fail
    refine HP.mono ?_
    rintro e w6 ⟨c6,U6,hc6,rfl,ho6,hl6,hb6,hf6,hv6⟩
    have hX6:=aU hl6 (uo+i) (V.length+1)
    obtain⟨k1,k2,k3⟩:=iw HV0.out.1 HQE.out (show _+val V*qd=_+1*_ by rw [H4.out.2.2.1,HC1.out]) H4.out.2.2.2 hv6 hX6 hc6
    rw [HQ'.out] at k1
    have HSTEP:=aa (HR.out.step (by omega) q1 u1 HV0.out.1 HV0.out.2 q' hq2 k1 (H4.out.1.trans ho6) hl6 k3 hb6 (BQ5.out.frb hf6 n1) (F5.out.trans hf6.right2))
    clear ho6 hl6 hb6 hf6 hv6 hX6 k1 k2 k3 HP HR
    go_wp2
    go_roundw
    case rel=>exact⟨i,_,U6,by omega,rfl,HSTEP.out⟩
    case measure=>simp [intOf]
end Go.Proofs.YtcbpdngogkbndaaGreatDoor
namespace Go.Proofs.YtcbpdngogkbndaaGreatDoor
open Go.RowKit
open Lm

theorem fZ (v:Value)(base:Nat)(xs:List Nat)(w:World)(h:Ans w base v xs)(hf:xs.length≤1125899906842624) :
  Calls Tryz.prog 107 #[v] w fun e w'=>w'=w∧Res w base e (val xs):=by
 have ha:=h.arg hf
 obtain⟨ao,cap,rfl,hcap,hmax,hlies⟩:=ha.form
 have hle:=tr_length_le xs
 have H1:=bK _ cap xs w hcap hmax hlies
 have H2:=aF _ _ _ ha
 have HA:Hid (Ans w base (.slice ao (tr xs).length cap) (tr xs)):=h.trim
 have HT:Hid (tr (tr xs)=tr xs∧val (tr xs)=val xs):=⟨tr_tr xs,val_tr xs⟩
 unfold Res
 generalize tr xs=T at *
 generalize val xs=V at *
 generalize blen V=y at *
 clear hlies h ha
 by_cases hy:y≤67108864
 ·go_enter Tryz.func107,Tryz.ntmps107
  go_wp2_with fail
  refine H2.mono ?_
  rintro e w' ⟨rfl,rfl⟩
  go_wp2_with fail
  refine H1.mono ?_
  rintro e w' ⟨rfl,rfl⟩
  go_wp2
  go_ret2
  exact⟨rfl,_,_,T,rfl,HA.out,.inl ⟨rfl,HT.out.2,HT.out.1,hy⟩⟩
 ·go_enter Tryz.func107,Tryz.ntmps107
  go_wp2_with fail
  refine H2.mono ?_
  rintro e w' ⟨rfl,rfl⟩
  go_wp2
  go_ret2
  exact⟨rfl,_,_,[],rfl,Ans.nil _ _,.inr ⟨rfl,rfl,by omega⟩⟩

theorem iV (x:Nat):blen x=0 ↔ x=0:=by
 have:=blen_le_iff x 0
 simp at this
 omega

theorem kk (v:Value)(X:List Nat)(w:World)(h:Arg w v X) :
  Calls Tryz.prog 109 #[v] w fun e w'=>e=.returned (.bool (decide (val X=0)))∧w'=w:=by
 have H:=aF _ _ w h
 have hz:=iV (val X)
 obtain⟨ao,cap,rfl,hcap,hmax,hl⟩:=h.form
 clear hl h
 generalize blen (val X)=y at *
 by_cases h0:val X=0
 ·rw [decide_eq_true h0]
  have e0:y=0:=hz.2 h0
  subst e0
  clear hz
  go_enter Tryz.func109,Tryz.ntmps109
  go_wp2_with fail
  refine H.mono ?_
  rintro e w2 ⟨rfl,rfl⟩
  clear H
  go_wp2
  go_ret
  exact⟨rfl,rfl⟩
 ·rw [decide_eq_false h0]
  have e0:y≠0:=fun e=>h0 (hz.1 e)
  have hne:((y:Int) == 0)=false:=by rw [beq_eq_false_iff_ne];omega
  clear hz e0
  go_enter Tryz.func109,Tryz.ntmps109
  go_wp2_with fail
  refine H.mono ?_
  rintro e w2 ⟨rfl,rfl⟩
  clear H
  go_wp2
  go_ret
  exact⟨rfl,rfl⟩

def bI (x y:Nat):Int:=if y=0 then 30 else if 67108864+blen y<blen x then 3 else 0

theorem gB (v1 v2:Value)(X Y:List Nat)(w:World)(h1:Arg w v1 X)(h2:Arg w v2 Y) :
  Calls Tryz.prog 104 #[v1,v2] w fun e w'=>e=.returned (.int .i64 (bI (val X) (val Y)))∧w'=w:=by
 have HZ:=kk _ _ w h2
 have L1:=aF _ _ w h1
 have L2:=aF _ _ w h2
 have b1:blen (val X)≤64*X.length:=(blen_le_iff _ _).2 (by have:=val_lt h1.limbs;rw [show (18446744073709551616:Nat)=2 ^ 64 from rfl,←Nat.pow_mul] at this;exact this)
 have b2:blen (val Y)≤64*Y.length:=(blen_le_iff _ _).2 (by have:=val_lt h2.limbs;rw [show (18446744073709551616:Nat)=2 ^ 64 from rfl,←Nat.pow_mul] at this;exact this)
 have c1:=h1.few
 have c2:=h2.few
 obtain⟨a1,d1,rfl,_,_,_⟩:=h1.form
 obtain⟨a2,d2,rfl,_,_,_⟩:=h2.form
 clear h1 h2
 by_cases h0:val Y=0
 ·have e:bI (val X) (val Y)=30:=if_pos h0
  rw [e]
  rw [decide_eq_true h0] at HZ
  clear L1 L2
  go_enter Tryz.func104,Tryz.ntmps104
  go_wp2_with fail
  refine HZ.mono ?_
  rintro e w2 ⟨rfl,rfl⟩
  clear HZ
  go_wp2
  go_ret
  exact⟨rfl,rfl⟩
 ·rw [decide_eq_false h0] at HZ
  by_cases hb:67108864+blen (val Y)<blen (val X)
  ·have e:bI (val X) (val Y)=3:=by unfold bI;rw [if_neg h0,if_pos hb]
   rw [e]
   clear h0 e
   generalize blen (val X)=x at *
   generalize blen (val Y)=y at *
   have i1:(67108864:Int)<(x:Int) - (y:Int):=by omega
   go_enter Tryz.func104,Tryz.ntmps104
   go_wp2_with fail
   refine HZ.mono ?_
   rintro e w2 ⟨rfl,rfl⟩
   clear HZ
   go_wp2_with fail
   refine L1.mono ?_
   rintro e w2 ⟨rfl,rfl⟩
   go_wp2_with fail
   refine L2.mono ?_
   rintro e w2 ⟨rfl,rfl⟩
   clear L1 L2
   go_wp2
   go_ret
   exact⟨rfl,rfl⟩
  ·have e:bI (val X) (val Y)=0:=by unfold bI;rw [if_neg h0,if_neg hb]
   rw [e]
   clear h0 e
   generalize blen (val X)=x at *
   generalize blen (val Y)=y at *
   have i1:¬((67108864:Int)<(x:Int) - (y:Int)):=by omega
   go_enter Tryz.func104,Tryz.ntmps104
   go_wp2_with fail
   refine HZ.mono ?_
   rintro e w2 ⟨rfl,rfl⟩
   clear HZ
   go_wp2_with fail
   refine L1.mono ?_
   rintro e w2 ⟨rfl,rfl⟩
   go_wp2_with fail
   refine L2.mono ?_
   rintro e w2 ⟨rfl,rfl⟩
   clear L1 L2
   go_wp2
   go_ret
   exact⟨rfl,rfl⟩
end Go.Proofs.YtcbpdngogkbndaaGreatDoor

