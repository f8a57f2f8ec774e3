/- Package div: byLimbs. -/
import Derived.Test.YteehipcoeocojaaGreatDoorB05
import Derived.Test.YteehipcoeocojaaGreatDoorB04
import Derived.Test.YteehipcoeocojaaGreatDoorB03
import Derived.Test.YteehipcoeocojaaGreatDoorB01
set_option maxRecDepth 20000
set_option maxHeartbeats 1000000
namespace Go.Proofs.YteehipcoeocojaaGreatDoor
open Go.RowKit
open Lm
attribute [local go_sem ↓] Go.wp_at_zero Go.wp_at_succ

theorem Arg.fr2 {w w':World}{b off n c b1 b2:Nat}{X:List Nat}(h:Arg w (.slice (some ⟨b,off,none⟩) n c) X)(hf:Fr2 b1 b2 w w')(h1:b≠b1)(h2:b≠b2):Arg w' (.slice (some ⟨b,off,none⟩) n c) X:=by
 by_cases hb:b<w.heap.size
 ·obtain⟨ao,cap,e1,g1,g2,g3⟩:=h.form
  refine⟨⟨ao,cap,e1,g1,g2,?_⟩,h.limbs,h.few,h.nz⟩
  rcases g3 with h0|⟨b',off',rfl,hc⟩
  ·exact .inl h0
  ·cases e1
   refine .inr ⟨_,_,rfl,fun k hk=>?_⟩
   rw [World.cell?_of_block (w:=w) (hf.block b hb h1 h2)]
   exact hc k hk
 ·obtain⟨ao,cap,e1,g1,g2,g3⟩:=h.form
  refine⟨⟨ao,cap,e1,g1,g2,?_⟩,h.limbs,h.few,h.nz⟩
  rcases g3 with h0|⟨b',off',rfl,hc⟩
  ·exact .inl h0
  ·cases e1
   by_cases hX:X.length=0
   ·exact .inl (List.length_eq_zero_iff.1 hX)
   ·exact absurd (af.block (zs:=X) (.inr ⟨_,_,rfl,hc⟩) (by omega)) hb

def bJ (bq qo m bu uo n VV:Nat)(Q U:List Nat)(w:World)(e:Ending)(w':World):Prop:=
 e=.returned (.tuple #[])∧∃Q' U':List Nat,az bq qo m bu uo n VV Q U w w' 0 Q' U'

theorem eX (bq qo m qcap bu uo ucap bv ov vcap j:Nat)(Q U V:List Nat)(w:World)
  (hQ:Blk w bq Q) (lQ:Limbs Q) (hU:Blk w bu U) (lU:Limbs U) (hV:Arg w (.slice (some ⟨bv,ov,none⟩) V.length vcap) V) (lV:V.length=j+1) (ht:9223372036854775808≤V.getD j 0)
  (n1:bq≠bu) (n2:bv≠bq) (n3:bv≠bu) (q1:qo+m≤Q.length) (q2:m≤qcap) (q3:qcap≤9223372036854775807) (u1:uo+(m+V.length)≤U.length) (u2:m+V.length≤ucap) (u3:ucap≤9223372036854775807)
  (few:m+V.length≤1125899906842623) (hlt:sv U (uo+m) V.length<val V) :
  Calls Tryz.prog 138 #[.slice (some ⟨bq,qo,none⟩) m qcap,.slice (some ⟨bu,uo,none⟩) (m+V.length) ucap,.slice (some ⟨bv,ov,none⟩) V.length vcap] w (bJ bq qo m bu uo V.length (val V) Q U w):=by
 have HJ:=aa lV
 have HV0:Hid (0<val V∧val V≤18446744073709551616 ^ V.length):=⟨by omega,Nat.le_of_lt (val_lt hV.limbs)⟩
 have START:Hid (az bq qo m bu uo V.length (val V) Q U w w m Q U):=⟨Out.refl _ _ _,lQ,hQ,Out.refl _ _ _,lU,hU,Fr2.refl _ _ _,by rw [Nat.sub_self,aj,Nat.zero_mul,Nat.zero_add,Nat.add_zero],hlt,by rw [Nat.sub_self,aj]⟩
 have HVA:=aa hV
 have vc:=hV.form
 clear lV hQ lQ hU lU hlt hV vc
 go_enter Tryz.func138,Tryz.ntmps138
 go_wp2
 go_loopw [6] (fun i wr=>∃(k:Nat) (Q' U':List Nat),k≤m∧i=.int .i64 ((k:Int) - 1)∧az bq qo m bu uo V.length (val V) Q U w wr k Q' U') (fun i _=>(intOf i+1).toNat)
 case atStart=>exact⟨m,Q,U,Nat.le_refl _,rfl,START.out⟩
 case round=>
  obtain⟨k,Q',U',hk,rfl,hrel⟩:=hrel
  have HR:=aa hrel
  clear hrel START
  by_cases hk0:k=0
  ·subst hk0
   go_wp2
   go_end0
   exact⟨rfl,Q',U',HR.out⟩
  ·obtain⟨i,rfl⟩:∃i,k=i+1:=⟨k - 1,by omega⟩
   have ej:(((i+1:Nat):Int) - 1)=(i:Int):=by omega
   rw [ej]
   clear ej hk0
   have hcu:¬ucap=i:=by omega
   have y1:(0:Int)≤(i:Int):=by omega
   have y2:(i:Int)<(m:Int):=by omega
   have y3:(i:Int)+(V.length:Int)+1≤(ucap:Int):=by omega
   have y4:i+V.length+1 - i=V.length+1:=by omega
   have hsl:(seg U' (uo+i) (V.length+1)).length=V.length+1:=ay _ _ _ (by rw [HR.out.outU.len];omega)
   have hS:=bw U' (uo+i) 0 (V.length+1) (by rw [HR.out.outU.len];omega) (by omega)
   rw [Nat.add_zero,Nat.sub_zero,Nat.zero_add,Nat.add_sub_cancel,show uo+i+1=uo+(i+1) from rfl] at hS
   have hlim:=limb_lt HR.out.limU (uo+i)
   have hlow:=HR.out.lt
   have huv:val (seg U' (uo+i) (V.length+1))<val V*18446744073709551616:=by
    show sv U' (uo+i) (V.length+1)<_
    rw [hS];omega
   have hVr:=HVA.out.fr2 HR.out.fr n2 n3
   have HG:=jt (.slice (some ⟨bu,uo+i,none⟩) (V.length+1) (ucap - i)) (.slice (some ⟨bv,ov,none⟩) V.length vcap) (seg U' (uo+i) (V.length+1)) V j wr
    (HR.out.blkU.seg_arg HR.out.limU (uo+i) (V.length+1) (ucap - i) (by rw [HR.out.outU.len];omega) (by omega) (by omega) (by omega)) hVr HJ.out (by have:=HJ.out;omega) ht huv
   have HS:=aa hsl
   clear hS hlim hlow huv hsl
   have HVR:=aa hVr
   clear hVr
   go_wp2_with fail
   refine HG.mono ?_
   rintro e w2 ⟨⟨qd,rfl,hqd,hqe⟩,hs⟩
   have HQE:Hid (qd=sv U' (uo+i) (V.length+1) / val V∨qd=sv U' (uo+i) (V.length+1) / val V+1):=hqe
   have bq2:=HR.out.blkQ.below (hs.below _) HR.out.blkQ.lt
   have bu2:=HR.out.blkU.below (hs.below _) HR.out.blkU.lt
   have f1:=bq2.free (qo+i)
   have c1:=bq2.cell (qo+i) (by rw [HR.out.outQ.len];omega)
   have bq3:=bq2.set (qo+i) qd
   have bu3:=bu2.other ⟨bq,qo+i,none⟩ (.int .u64 (qd:Int)) (Ne.symm n1)
   have F3:=aa (show Fr2 bq bu wr (w2.setCell ⟨bq,qo+i,none⟩ (.int .u64 (qd:Int))) from (Fr.of_below (hs.below _):Fr bq wr w2).left2.trans ((Fr.refl bq w2).setCell _ _).left2)
   have HM:=gT bu (uo+i) (V.length+1) (ucap - i) U' _ V qd _ bu3 HR.out.limU (HVR.out.fr2 F3.out n2 n3) (ac n3 _ _) (by rw [HR.out.outU.len];omega) (by omega) (by omega) hqd (by omega)
   have BQ3:=aa bq3
   generalize Q'.getD (qo+i) 0=oq at *
   clear hqe HG bq2 bu2 bq3 bu3 hs
   go_wp2_with fail
   refine HM.mono ?_
   rintro e w4 ⟨cy,U2,hcy,rfl,ho4,hl4,hb4,hf4,hv4⟩
   have hX1:=aL hl4 (uo+i) (V.length+1)
   have hX2:=aL HR.out.limU (uo+i) (V.length+1)
   have bq4:=BQ3.out.frb hf4 n1
   have F4:=aa (F3.out.trans hf4.right2)
   clear HM
   by_cases hc0:cy=0
   ·subst hc0
    obtain⟨k1,k2⟩:=iD HV0.out.1 HQE.out (show _+val V*qd=_ by rw [hv4];omega) hX1
    have HSTEP:=aa (HR.out.step (by omega) q1 u1 HV0.out.1 HV0.out.2 qd hqd k1 ho4 hl4 k2 hb4 bq4 F4.out)
    clear ho4 hl4 hb4 hf4 hv4 hX1 hX2 bq4 k1 k2 F4 HR
    go_wp2
    go_roundw
    case rel=>exact⟨i,_,U2,by omega,rfl,HSTEP.out⟩
    case measure=>simp [intOf]
   ·have hc1:cy=1:=by omega
    have hpos:(0:Int)<(cy:Int):=by omega
    have hq1:1≤qd:=by
     rcases Nat.eq_zero_or_pos qd with h|h
     ·rw [h,hc1,Nat.mul_zero] at hv4
      omega
     ·exact h
    have lq:(Q'.set (qo+i) qd).length=Q.length:=by rw [List.length_set,HR.out.outQ.len]
    have f4:=bq4.free (qo+i)
    have c4:w4.cell? ⟨bq,qo+i,none⟩=some (.int .u64 (qd:Int)):=by
     have:=bq4.cell (qo+i) (by omega)
     rw [bO,if_pos ⟨rfl,by rw [HR.out.outQ.len];omega⟩] at this
     exact this
    have bq5:=bq4.set (qo+i) (qd - 1)
    rw [List.set_set] at bq5
    have bu5:=hb4.other ⟨bq,qo+i,none⟩ (.int .u64 ((qd - 1:Nat):Int)) (Ne.symm n1)
    have F5:=aa (F4.out.trans ((Fr.refl bq w4).setCell (qo+i) (.int .u64 ((qd - 1:Nat):Int))).left2)
    have HP:=cf bu (uo+i) (V.length+1) (ucap - i) U2 _ V _ bu5 hl4 (HVR.out.fr2 F5.out n2 n3) (ac n3 _ _) (by rw [ho4.len,HR.out.outU.len];omega) (by omega) (by omega) (by omega)
    have BQ5:=aa bq5
    have H4:=aa (And.intro ho4 (And.intro hl4 (And.intro hv4 hX1)))
    have eq1:(qd:Int) - 1=((qd - 1:Nat):Int):=by omega
    have hq2:qd - 1<18446744073709551616:=by omega
    obtain⟨q',hq'⟩:∃q',qd - 1=q':=⟨_,rfl⟩
    have HQ':=aa hq'
    rw [hq'] at eq1 hq2 HP BQ5 F5
    clear bq4 bq5 bu5 hq' hv4 ho4 hl4 hb4 hf4 hX1 hX2 F4 lq
    have HC1:=aa hc1
    clear hc1
    go_wp2_with fail
    refine HP.mono ?_
    rintro e w6 ⟨c6,U6,hc6,rfl,ho6,hl6,hb6,hf6,hv6⟩
    have hX6:=aL hl6 (uo+i) (V.length+1)
    obtain⟨k1,k2,k3⟩:=mF HV0.out.1 HQE.out (show _+val V*qd=_+1*_ by rw [H4.out.2.2.1,HC1.out]) H4.out.2.2.2 hv6 hX6 hc6
    rw [HQ'.out] at k1
    have HSTEP:=aa (HR.out.step (by omega) q1 u1 HV0.out.1 HV0.out.2 q' hq2 k1 (H4.out.1.trans ho6) hl6 k3 hb6 (BQ5.out.frb hf6 n1) (F5.out.trans hf6.right2))
    clear ho6 hl6 hb6 hf6 hv6 hX6 k1 k2 k3 HP HR
    go_wp2
    go_roundw
    case rel=>exact⟨i,_,U6,by omega,rfl,HSTEP.out⟩
    case measure=>simp [intOf]
end Go.Proofs.YteehipcoeocojaaGreatDoor
namespace Go.Proofs.YteehipcoeocojaaGreatDoor
namespace Lm

theorem block_first {U V Uh Ul Vh Vl B q R H:Nat}(eU:U=Uh*B+Ul)(hUl:Ul<B)(eV:V=Vh*B+Vl)(hV:0<V)(e:q*Vh+R=Uh)(hc:R<Vh∨q=H - 1)(hUV:U<V*H):U / V≤q:=by
 have h1:=Nat.div_mul_le_self U V
 generalize hQ:U / V=Q at *
 rcases hc with hc|hc
 ·have h2:Q*Vh≤Uh:=by
   have h3:Q*Vh*B<(Uh+1)*B:=by
    have:Q*V=Q*Vh*B+Q*Vl:=by rw [eV,Nat.mul_add,Nat.mul_assoc]
    rw [Nat.add_mul,Nat.one_mul]
    omega
   have:=Nat.lt_of_mul_lt_mul_right h3
   omega
  refine Nat.le_of_not_lt fun h=>?_
  have h4:=Nat.mul_le_mul_right Vh (Nat.succ_le_of_lt h)
  rw [Nat.succ_eq_add_one,Nat.add_mul,Nat.one_mul] at h4
  omega
 ·have h2:Q<H:=by
   rw [←hQ,Nat.div_lt_iff_lt_mul hV,Nat.mul_comm];exact hUV
  omega

theorem block_turn {U V q X M:Nat}(hV:0<V)(h:X+q*V=U+1*M)(hX:X<M):U / V<q:=by
 rw [Nat.div_lt_iff_lt_mul hV]
 omega

theorem block_next {U V q X X' M c:Nat}(hq:1≤q)(h:X+q*V=U+1*M)(hp:X'+c*M=X+V)(hc:c≤1):X'+(q - 1)*V=U+(1 - c)*M:=by
 obtain⟨p,rfl⟩:∃p,q=p+1:=⟨q - 1,by omega⟩
 rw [Nat.add_mul,Nat.one_mul] at h
 rw [Nat.add_sub_cancel]
 rcases (by omega:c=0∨c=1) with rfl|rfl
 ·omega
 ·omega

theorem block_end {U V q X:Nat}(hV:0<V)(h:X+q*V=U+0*0)(hq:U / V≤q):q=U / V∧X=U % V:=by
 have h1:q≤U / V:=(Nat.le_div_iff_mul_le hV).2 (by omega)
 have h2:q=U / V:=by omega
 have h3:=Nat.div_add_mod U V
 rw [Nat.mul_comm,←h2] at h3
 exact⟨h2,by omega⟩

theorem block_take {U V Uh Ul Vh Vl B q R X M c:Nat}(eU:U=Uh*B+Ul)(eV:V=Vh*B+Vl)(e:q*Vh+R=Uh)(hm:X+q*Vl=R*B+Ul+c*M):X+q*V=U+c*M:=by
 have h1:q*V=q*Vh*B+q*Vl:=by rw [eV,Nat.mul_add,Nat.mul_assoc]
 rw [h1,eU,←e,Nat.add_mul]
 omega

end Lm
end Go.Proofs.YteehipcoeocojaaGreatDoor
namespace Go.Proofs.YteehipcoeocojaaGreatDoor
open Go.RowKit
open Lm

theorem az.block {bq qo m bu uo n VV:Nat}{Q U:List Nat}{w wr w2:World}{k d:Nat}{Q' U' Q2 U2:List Nat}(h:az bq qo m bu uo n VV Q U w wr (k+d) Q' U')(g:az bq (qo+k) d bu (uo+k) n VV Q' U' wr w2 0 Q2 U2)
  (hk:k+d≤m) (hq:qo+m≤Q.length) (hu:uo+(m+n)≤U.length):az bq qo m bu uo n VV Q U w w2 k Q2 U2:=by
 have hlQ:=h.outQ.len
 have hlU:=h.outU.len
 have hlQ2:=g.outQ.len
 have hlU2:=g.outU.len
 obtain⟨r,rfl⟩:∃r,m=k+d+r:=⟨m - (k+d),by omega⟩
 have e1:=h.eq
 have e2:=g.eq
 have t1:=h.top
 have t2:=g.top
 have l2:=g.lt
 rw [show k+d+r - (k+d)=r by omega] at e1 t1
 rw [Nat.sub_zero] at e2 t2
 rw [Nat.add_zero,Nat.add_zero] at e2
 rw [Nat.add_zero] at t2 l2
 have p1:=g.outQ
 have p2:=g.outU
 rw [Nat.add_zero] at p1 p2
 refine⟨?_,g.limQ,g.blkQ,?_,g.limU,g.blkU,h.fr.trans g.fr,?_,l2,?_⟩
 ·exact (h.outQ.wider (by omega) (Nat.le_refl _)).trans (p1.wider (Nat.le_refl _) (by omega))
 ·exact (h.outU.wider (by omega) (Nat.le_refl _)).trans (p2.wider (Nat.le_refl _) (by omega))
 ·rw [show k+d+r - k=d+r by omega,ae Q2 (qo+k) d r (by omega),p1.sv (qo+k+d) r (by omega)]
  rw [show n+(d+r)=d+(n+r) by omega,ae U (uo+k) d (n+r) (by omega),←h.outU.sv (uo+k) d (by omega)]
  rw [show qo+(k+d)=qo+k+d by omega,show uo+(k+d)=uo+k+d by omega] at e1
  rw [←e1]
  rw [show n+d=d+n by omega,ae U' (uo+k) d n (by omega)] at e2
  generalize sv Q2 (qo+k) d=a at *
  generalize sv U2 (uo+k) n=b at *
  generalize sv U' (uo+k) d=c at *
  generalize sv U' (uo+k+d) n=f at *
  generalize sv Q' (qo+k+d) r=x at *
  generalize (18446744073709551616:Nat) ^ d=W at *
  rw [Nat.add_mul,Nat.mul_add,Nat.mul_assoc]
  omega
 ·rw [show k+d+r - k=d+r by omega,ae U2 (uo+k+n) d r (by omega),t2,p2.sv (uo+k+n+d) r (by omega),show uo+k+n+d=uo+(k+d)+n by omega,t1,Nat.mul_zero]

theorem Tab.fr2 {w w':World}{b1 b2:Nat}(h:Tab w)(hf:Fr2 b1 b2 w w')(h1:1≠b1)(h2:1≠b2):Tab w':=
 ⟨Nat.lt_of_lt_of_le h.1 hf.size,fun i hi=>by rw [World.cell?_of_block (w:=w) (hf.block _ h.1 h1 h2)];exact h.2 i hi⟩

theorem d6:∀(a b:List Nat),a.length=b.length→Limbs a→Limbs b→val a=val b→a=b
 | [],[],_,_,_,_=>rfl
 | [],_ :: _,h,_,_,_=>by simp at h
 | _ :: _,[],h,_,_,_=>by simp at h
 | x :: a,y :: b,h,ha,hb,e=>by
  have h1:=ha x (by simp)
  have h2:=hb y (by simp)
  simp only [val] at e
  have h3:x=y:=by omega
  have h4:val a=val b:=by omega
  rw [h3,d6 a b (by simpa using h) (fun z hz=>ha z (by simp [hz])) (fun z hz=>hb z (by simp [hz])) h4]

def rd (w:World)(b:Nat):List Nat:=match w.heap[b]? with
 | some (.cells a _ _)=>a.toList.map fun v=>(intOf v).toNat
 | _=>[]

theorem f9 {w:World}{b:Nat}{Q:List Nat}(h:Blk w b Q):rd w b=Q:=by
 unfold Blk at h
 unfold rd
 rw [h]
 simp only [List.map_map]
 have:((fun v=>(intOf v).toNat) ∘ lv)=id:=by
  funext z
  simp [lv,intOf]
 rw [this]
 simp

def bU (bq qo bu uo m VV:Nat)(Q U:List Nat)(w:World)(e:Ending)(w':World):Prop:=
 e=.returned (.tuple #[])∧∃Q' U':List Nat,Out Q Q' qo (qo+m)∧Limbs Q'∧Blk w' bq Q'∧Out U U' uo (uo+(m+m))∧Limbs U'∧Blk w' bu U'∧Fr2 bq bu w w' ∧
  sv Q' qo m*VV+sv U' uo (m+m)=sv U uo (m+m)∧(sv U' uo (m+m)<VV∨sv Q' qo m=18446744073709551616 ^ m - 1)

theorem bJ.guess {bq qo bu uo m VV:Nat}{Q U:List Nat}{w w':World}{e:Ending}(h:bJ bq qo m bu uo m VV Q U w e w')(hu:uo+(m+m)≤U.length):bU bq qo bu uo m VV Q U w e w':=by
 obtain⟨he,Q',U',h⟩:=h
 have e1:=h.eq
 have e2:=h.top
 have e3:=h.lt
 have o1:=h.outQ
 have o2:=h.outU
 simp only [Nat.add_zero,Nat.sub_zero] at e1 e2 e3 o1 o2
 have e4:=ae U' uo m m (by rw [o2.len];omega)
 rw [e2,Nat.mul_zero,Nat.add_zero] at e4
 exact⟨he,Q',U',o1,h.limQ,h.blkQ,o2,h.limU,h.blkU,h.fr,by rw [e4];exact e1,.inl (by rw [e4];exact e3)⟩

theorem bU.same {bq qo bu uo m VV:Nat}{Q U:List Nat}{w wn w':World}{e:Ending}(h:bU bq qo bu uo m VV Q U wn e w')(hs:ag w wn):bU bq qo bu uo m VV Q U w e w':=by
 obtain⟨he,Q',U',h1,h2,h3,h4,h5,h6,h7,h8⟩:=h
 exact⟨he,Q',U',h1,h2,h3,h4,h5,h6,(Fr.left2 (Fr.same (bz:=bq) hs)).trans h7,h8⟩

def cN (V:List Nat):Prop:=
 ∀(bq qo m qcap bu uo ucap bv ov vcap:Nat) (Q U:List Nat) (w:World),Blk w bq Q→Limbs Q→Blk w bu U→Limbs U→Arg w (.slice (some ⟨bv,ov,none⟩) V.length vcap) V→Tab w→1≠bq→1≠bu →
  bq≠bu→bv≠bq→bv≠bu→qo+m≤Q.length→m≤qcap→qcap≤9223372036854775807→uo+(m+V.length)≤U.length→m+V.length≤ucap→ucap≤9223372036854775807→m+V.length≤35184372088831→sv U (uo+m) V.length<val V →
  Calls Tryz.prog 134 #[.slice (some ⟨bq,qo,none⟩) m qcap,.slice (some ⟨bu,uo,none⟩) (m+V.length) ucap,.slice (some ⟨bv,ov,none⟩) V.length vcap] w (bJ bq qo m bu uo V.length (val V) Q U w)

theorem iZ {Q' U':List Nat}{qo uo m VV lo hi X cy:Nat}(hQ:sv Q' qo m+1=18446744073709551616 ^ m)(hlo:lo<18446744073709551616 ^ m)(hV:VV<18446744073709551616 ^ m)(hX:X=lo+18446744073709551616 ^ m*hi)(he:hi=VV)(hm:1≤m)
  (hp:sv U' uo (m+m)+cy*18446744073709551616 ^ (m+m)=lo+VV):sv Q' qo m*VV+sv U' uo (m+m)=X:=by
 subst he
 rw [hX,←hQ]
 rw [Nat.pow_add] at hp
 have h2:2≤18446744073709551616 ^ m:=by
  have:=Nat.pow_le_pow_right (n:=18446744073709551616) (by omega) hm
  omega
 rw [←hQ] at hlo hV hp h2
 generalize sv Q' qo m=a at *
 generalize sv U' uo (m+m)=u at *
 have h3:cy=0:=by
  rcases Nat.eq_zero_or_pos cy with h|h
  ·exact h
  ·have h4:1*((a+1)*(a+1))≤cy*((a+1)*(a+1)):=Nat.mul_le_mul_right _ h
   have h5:2*(a+1)≤(a+1)*(a+1):=Nat.mul_le_mul_right _ h2
   omega
 subst h3
 rw [Nat.add_mul,Nat.one_mul]
 omega

structure aV (bq qo m bu uo n VV q0:Nat)(Q U:List Nat)(w wr:World)(un:Nat)(Q' U':List Nat):Prop where
 outQ:Out Q Q' qo (qo+m)
 limQ:Limbs Q'
 blkQ:Blk wr bq Q'
 outU:Out U U' uo (uo+(m+n))
 limU:Limbs U'
 blkU:Blk wr bu U'
 fr:Fr2 bq bu w wr
 eq:sv U' uo (m+n)+sv Q' qo m*VV=sv U uo (m+n)+un*18446744073709551616 ^ (m+n)
 ge:sv U uo (m+n) / VV≤sv Q' qo m

theorem aV.done {bq qo m bu uo n VV q0:Nat}{Q U:List Nat}{w wr:World}{Q' U':List Nat}(h:aV bq qo m bu uo n VV q0 Q U w wr 0 Q' U')(hV:0<VV)(hVn:VV≤18446744073709551616 ^ n)(hu:uo+(m+n)≤U.length) :
  bJ bq qo m bu uo n VV Q U w (.returned (.tuple #[])) wr:=by
 have e1:=h.eq
 obtain⟨e2,e3⟩:=block_end hV (by simpa using e1) h.ge
 have e4:sv U' uo (m+n)<VV:=by rw [e3];exact Nat.mod_lt _ hV
 have e5:=ae U' uo n m (by rw [h.outU.len];omega)
 have e6:sv U' (uo+n) m=0:=by
  rcases Nat.eq_zero_or_pos (sv U' (uo+n) m) with h0|h0
  ·exact h0
  ·have:=Nat.mul_le_mul_left (18446744073709551616 ^ n) h0
   rw [Nat.add_comm n m] at e5
   omega
 rw [e6,Nat.mul_zero,Nat.add_zero,Nat.add_comm n m] at e5
 refine⟨rfl,Q',U',?_,h.limQ,h.blkQ,?_,h.limU,h.blkU,h.fr,?_,?_,?_⟩
 ·rw [Nat.add_zero];exact h.outQ
 ·rw [Nat.add_zero];exact h.outU
 ·rw [Nat.add_zero,Nat.add_zero,Nat.sub_zero,←e5,Nat.add_comm n m,Nat.add_comm];simpa using e1
 ·rw [Nat.add_zero,←e5];exact e4
 ·rw [Nat.add_zero,Nat.sub_zero];exact e6

theorem aV.next {bq qo m bu uo n VV q0:Nat}{Q U:List Nat}{w wr w2:World}{Q' U' Q2 U2:List Nat}{c b1:Nat}(h:aV bq qo m bu uo n VV q0 Q U w wr 1 Q' U')(hV:0<VV)
  (o1:Out Q' Q2 qo (qo+m)) (l1:Limbs Q2) (k1:Blk w2 bq Q2) (m1:sv Q2 qo m+1=sv Q' qo m+b1*18446744073709551616 ^ m) (hb:b1≤1)
  (o2:Out U' U2 uo (uo+(m+n))) (l2:Limbs U2) (k2:Blk w2 bu U2) (m2:sv U2 uo (m+n)+c*18446744073709551616 ^ (m+n)=sv U' uo (m+n)+VV) (hc:c≤1) (hf:Fr2 bq bu wr w2) :
  aV bq qo m bu uo n VV q0 Q U w w2 (1 - c) Q2 U2∧sv Q2 qo m<sv Q' qo m:=by
 have hX:=aL h.limU uo (m+n)
 have t:=block_turn hV h.eq hX
 have hq1:1≤sv Q' qo m:=Nat.lt_of_le_of_lt (Nat.zero_le _) t
 have hX2:=aL l1 qo m
 have hX3:=aL h.limQ qo m
 have hq2:sv Q2 qo m=sv Q' qo m - 1:=by
  rcases (by omega:b1=0∨b1=1) with rfl|rfl
  ·omega
  ·omega
 have e:=block_next hq1 h.eq m2 hc
 refine⟨⟨h.outQ.trans o1,l1,k1,h.outU.trans o2,l2,k2,h.fr.trans hf,by rw [hq2];exact e,by rw [hq2];exact Nat.le_sub_one_of_lt t⟩,by omega⟩

theorem aV.start {bq qo m bu uo n r VH VL:Nat}{Q U:List Nat}{w w2:World}{Q' U' U2:List Nat}{un:Nat}(hn:n=r+m)
  (o1:Out Q Q' qo (qo+m)) (l1:Limbs Q') (k1:Blk w2 bq Q') (o2:Out U U' (uo+r) (uo+r+(m+m))) (lU:Limbs U) (hu:uo+(m+n)≤U.length)
  (e1:sv Q' qo m*VH+sv U' (uo+r) (m+m)=sv U (uo+r) (m+m)) (hc:sv U' (uo+r) (m+m)<VH∨sv Q' qo m=18446744073709551616 ^ m - 1)
  (o3:Out U' U2 uo (uo+(m+n))) (l3:Limbs U2) (k3:Blk w2 bu U2) (e3:sv U2 uo (m+n)+sv Q' qo m*VL=sv U' uo (m+n)+un*18446744073709551616 ^ (m+n)) (hf:Fr2 bq bu w w2)
  (hV:0<VL+18446744073709551616 ^ r*VH) (hlt:sv U (uo+m) n<VL+18446744073709551616 ^ r*VH):aV bq qo m bu uo n (VL+18446744073709551616 ^ r*VH) 0 Q U w w2 un Q' U2:=by
 subst hn
 have s1:=ae U uo r (m+m) (by omega)
 have s2:=ae U' uo r (m+m) (by rw [o2.len];omega)
 rw [show r+(m+m)=m+(r+m) by omega] at s1 s2
 rw [o2.sv uo r (by omega)] at s2
 have s3:=ae U uo m (r+m) (by omega)
 have s4:=aL lU uo r
 have s5:=aL lU uo m
 rw [s2] at e3
 have eU:sv U uo (m+(r+m))=sv U (uo+r) (m+m)*18446744073709551616 ^ r+sv U uo r:=by rw [s1,Nat.mul_comm,Nat.add_comm]
 have eV:VL+18446744073709551616 ^ r*VH=VH*18446744073709551616 ^ r+VL:=by rw [Nat.mul_comm,Nat.add_comm]
 have hUV:sv U uo (m+(r+m))<(VL+18446744073709551616 ^ r*VH)*18446744073709551616 ^ m:=by
  rw [s3]
  have:=Nat.mul_le_mul_left (18446744073709551616 ^ m) (Nat.succ_le_of_lt hlt)
  rw [Nat.succ_eq_add_one,Nat.mul_add,Nat.mul_one,Nat.mul_comm _ (VL+18446744073709551616 ^ r*VH)] at this
  omega
 refine⟨o1,l1,k1,(o2.wider (by omega) (by omega)).trans o3,l3,k3,hf,?_,?_⟩
 ·exact block_take eU eV e1 (by rw [e3,Nat.mul_comm (sv U' (uo+r) (m+m))];omega)
 ·exact block_first eU s4 eV hV e1 hc hUV
end Go.Proofs.YteehipcoeocojaaGreatDoor
namespace Go.Proofs.YteehipcoeocojaaGreatDoor
open Go.RowKit
open Lm
attribute [local go_sem ↓] Go.wp_at_zero Go.wp_at_succ

theorem kr (bq qo qcap bu uo ucap bv ov vcap m:Nat)(Q U V:List Nat)(w:World)(hok:cN V)
  (hQ:Blk w bq Q) (lQ:Limbs Q) (hU:Blk w bu U) (lU:Limbs U) (hV:Arg w (.slice (some ⟨bv,ov,none⟩) m vcap) V) (hT:Tab w) (t1:1≠bq) (t2:1≠bu) (lV:V.length=m) (hm:0<m)
  (n1:bq≠bu) (n2:bv≠bq) (n3:bv≠bu) (q1:qo+m≤Q.length) (q2:m≤qcap) (q3:qcap≤9223372036854775807) (u1:uo+(m+m)≤U.length) (u2:m+m≤ucap) (u3:ucap≤9223372036854775807)
  (few:m+m≤35184372088831) (hle:sv U (uo+m) m≤val V) :
  Calls Tryz.prog 147 #[.slice (some ⟨bq,qo,none⟩) m qcap,.slice (some ⟨bu,uo,none⟩) (m+m) ucap,.slice (some ⟨bv,ov,none⟩) m vcap] w (bU bq qo bu uo m (val V) Q U w):=by
 have HD:Hid (∀wn,ag w wn→sv U (uo+m) m<val V→Calls Tryz.prog 134 #[.slice (some ⟨bq,qo,none⟩) m qcap,.slice (some ⟨bu,uo,none⟩) (m+m) ucap,.slice (some ⟨bv,ov,none⟩) m vcap] wn (bJ bq qo m bu uo m (val V) Q U wn)):=by
  intro wn hs h
  have H:=hok bq qo m qcap bu uo ucap bv ov vcap Q U wn (hQ.below (hs.below _) hQ.lt) lQ (hU.below (hs.below _) hU.lt) lU (by rw [lV];exact hV.below (hs.below _)) (hT.below (hs.below _)) t1 t2 n1 n2 n3 q1 q2 q3 (by rw [lV];exact u1) (by rw [lV];exact u2) u3 (by rw [lV];exact few) (by rw [lV];exact h)
  rw [lV] at H
  exact H
 obtain⟨_,_,e0,hvc,hvm,hlv⟩:=hV.form
 rw [lV] at e0 hvc
 cases e0
 have hcv:∀k,k<m→w.cell? ⟨bv,ov+k,none⟩=some (.int .u64 ((V.getD k 0:Nat):Int)):=by
  intro k hk
  rcases hlv with h0|⟨b,off,e,hc⟩
  ·rw [h0] at lV;simp at lV;omega
  ·cases e;exact hc k (by omega)
 have HVV:=aa (And.intro hV lV)
 have hcu:¬ucap=m:=by omega
 have y1:m+m - m=m:=by omega
 have HLE:=aa hle
 have HQ:=aa (And.intro hQ lQ)
 have HU:=aa (And.intro hU lU)
 clear hok hlv hV hT hle hQ lQ lU lV
 go_enter Tryz.func147,Tryz.ntmps147
 go_wp2
 go_loopw [15] (fun i wr=>∃k:Nat,k≤m∧i=.int .i64 k∧ag w wr∧∀i,i<k→U.getD (uo+m+i) 0=V.getD i 0) (fun i _=>m - (intOf i).toNat)
 case atStart=>exact⟨0,Nat.zero_le _,rfl,ag.refl _,fun i hi=>absurd hi (Nat.not_lt_zero _)⟩
 case round=>
  obtain⟨k,hk,rfl,hsame,hv⟩:=hrel
  have HEQ:=aa hv
  clear hv
  by_cases hkl:k<m
  ·have hck:wr.cell? ⟨bv,ov+k,none⟩=some (.int .u64 ((V.getD k 0:Nat):Int)):=by
    unfold World.cell?;rw [hsame.heap];exact hcv k hkl
   have hcu2:wr.cell? ⟨bu,uo+m+k,none⟩=some (.int .u64 ((U.getD (uo+m+k) 0:Nat):Int)):=(HU.out.1.below (hsame.below _) HU.out.1.lt).cell _ (by omega)
   clear hcv
   have hi1:(0:Int)≤(k:Int):=by omega
   have hi2:(k:Int)<(m:Int):=by omega
   by_cases hxy:U.getD (uo+m+k) 0=V.getD k 0
   ·have HN:Hid (∀i,i<k+1→U.getD (uo+m+i) 0=V.getD i 0):=aa (fun i hi=>by
     rcases (by omega:i<k∨i=k) with h|h
     ·exact HEQ.out i h
     ·subst h;exact hxy)
    rw [hxy] at hcu2
    generalize V.getD k 0=y at *
    clear hxy HEQ
    go_wp2
    go_quiet (fail)
    go_wp2
    go_roundw
    case rel=>exact⟨k+1,by omega,by go_num,hsame.drewN _,HN.out⟩
    case measure=>simp [intOf];omega
   ·have hne:(((U.getD (uo+m+k) 0:Nat):Int) != ((V.getD k 0:Nat):Int))=true:=by rw [bne_iff_ne];omega
    have hlt:sv U (uo+m) m<val V:=by
     refine Nat.lt_of_le_of_ne HLE.out fun e=>hxy ?_
     have e2:=d6 (seg U (uo+m) m) V (by rw [ay _ _ _ (by omega),HVV.out.2]) (bV HU.out.2 _ _) HVV.out.1.limbs e
     rw [←bQ U (uo+m) m k hkl,e2]
    have HDD:=aa (fun wn (hs:ag w wn)=>HD.out wn hs hlt)
    have HSM:=aa hsame
    clear hxy HEQ hlt HD
    generalize U.getD (uo+m+k) 0=x at *
    generalize V.getD k 0=y at *
    go_wp2
    go_quiet (fail)
    go_wp2_with fail
    refine (HDD.out _ (HSM.out.drewN _)).mono ?_
    intro e w2 hd
    have HG:=aa ((hd.guess u1).same (HSM.out.drewN _))
    have he:=hd.1
    subst he
    clear hd HDD
    go_wp2
    go_end0
    exact HG.out
  ·have ek:k=m:=by omega
   subst ek
   have HSM:=aa hsame
   have HBQ:=aa (HQ.out.1.below (hsame.below _) HQ.out.1.lt)
   have HBU:=aa (HU.out.1.below (hsame.below _) HU.out.1.lt)
   clear hcv HD hsame
   go_wp2
   rename World=>w1
   go_loopw [34] (fun i wq=>∃(t:Nat) (Q':List Nat),t≤k∧i=.int .i64 t∧Out Q Q' qo (qo+t)∧Limbs Q'∧Blk wq bq Q'∧Fr bq w1 wq∧sv Q' qo t+1=18446744073709551616 ^ t) (fun i _=>k - (intOf i).toNat)
   case atStart=>exact⟨0,Q,Nat.zero_le _,rfl,Out.refl _ _ _,HQ.out.2,HBQ.out,Fr.refl _ _,by rw [aj]⟩
   case round=>
    obtain⟨t,Q',ht,rfl,o1,l1,b1,f1,s1⟩:=hrel
    by_cases htl:t<k
    ·have hfr:=b1.free (qo+t)
     have hco:=b1.cell (qo+t) (by rw [o1.len];omega)
     have HX:Hid (Out Q (Q'.set (qo+t) 18446744073709551615) qo (qo+(t+1))∧Limbs (Q'.set (qo+t) 18446744073709551615)∧Blk (wr.setCell ⟨bq,qo+t,none⟩ (.int .u64 ((18446744073709551615:Nat):Int))) bq (Q'.set (qo+t) 18446744073709551615)∧Fr bq w1 (wr.setCell ⟨bq,qo+t,none⟩ (.int .u64 ((18446744073709551615:Nat):Int)))∧sv (Q'.set (qo+t) 18446744073709551615) qo (t+1)+1=18446744073709551616 ^ (t+1)):=by
      refine aa ⟨(o1.wider (Nat.le_refl _) (by omega)).set _ _ (by omega) (by omega),limbs_set l1 _ _ (by omega),b1.set _ _,f1.setCell _ _,?_⟩
      rw [bB Q' qo t _ (by rw [o1.len];omega),Nat.pow_succ,←s1]
      omega
     generalize Q'.getD (qo+t) 0=oq at *
     clear o1 l1 b1 f1 s1
     go_wp2
     go_roundw
     case rel=>exact⟨t+1,_,by omega,by go_num,HX.out⟩
     case measure=>simp [intOf];omega
    ·have et:t=k:=by omega
     subst et
     have hbu:=HBU.out.frb f1 (Ne.symm n1)
     have hrun:=fun ty=>ch bu (uo+t) t (ucap - t) U wr ty hbu (by omega) hm
     have e1:=aX (List.replicate t 0) U (uo+t)
     have e2:=bk (List.replicate t 0) U (uo+t) (by simp;omega)
     have e3:=bi (List.replicate t 0) (limbs_replicate _) U (uo+t) HU.out.2
     have hb2:=Blk.setCells (List.replicate t 0) (uo+t) hbu
     have hf2:=(Fr.refl bu wr).setCells ((List.replicate t 0).map lv) (uo+t)
     have hbq2:=b1.frb hf2 n1
     rw [List.length_replicate] at e1 e2
     rw [val_replicate] at e2
     obtain⟨w3,hw3⟩:∃w3,w3=wr.setCells bu (uo+t) ((List.replicate t 0).map lv):=⟨_,rfl⟩
     rw [←hw3] at hrun hb2 hf2 hbq2
     generalize lay U (uo+t) (List.replicate t 0)=U2 at *
     have F3:=aa ((Fr.left2 (b2:=bu) (Fr.same (bz:=bq) HSM.out)).trans (f1.left2.trans hf2.right2))
     have HP:=cf bu uo (t+t) ucap U2 _ V w3 hb2 e3 ((HVV.out.1.below (HSM.out.below _)).fr2 (f1.left2.trans hf2.right2) n2 n3) (ac n3 _ _) (by rw [e1.len];omega) u2 u3 (by rw [HVV.out.2];omega)
     have HX:=aa (And.intro o1 (And.intro l1 (And.intro hbq2 (And.intro s1 (And.intro e1 e2)))))
     clear hw3 o1 l1 b1 f1 s1 hbu e1 e2 e3 hb2 hf2 hbq2
     go_wp2_with fail
     refine HP.mono ?_
     rintro e w4 ⟨c4,U4,hc4,rfl,o4,l4,b4,f4,s4⟩
     have HG:Hid (bU bq qo bu uo t (val V) Q U w (.returned (.tuple #[])) w4):=by
      obtain⟨o1,l1,hbq2,s1,e1,e2⟩:=HX.out
      have hhi:sv U (uo+t) t=val V:=by
       unfold sv
       rw [fj (a:=seg U (uo+t) t) (b:=V) (by rw [ay _ _ _ (by omega),HVV.out.2]) (fun i hi=>by
        rw [ay _ _ _ (by omega)] at hi
        rw [bQ _ _ _ _ hi];exact HEQ.out i hi)]
      have s5:=ae U2 uo t t (by rw [e1.len];omega)
      rw [e2,Nat.mul_zero,Nat.add_zero,e1.sv uo t (by omega)] at s5
      rw [s5] at s4
      refine aa ⟨rfl,Q',U4,o1,l1,hbq2.frb f4 n1,(e1.wider (by omega) (by omega)).trans o4,l4,b4,F3.out.trans f4.right2,?_,.inr (by omega)⟩
      exact iZ s1 (aL HU.out.2 _ _) (by have:=val_lt HVV.out.1.limbs;rw [HVV.out.2] at this;exact this) (ae U uo t t (by omega)) hhi hm s4
     clear o4 l4 b4 f4 s4 HP HX
     go_wp2
     go_end0
     exact HG.out
end Go.Proofs.YteehipcoeocojaaGreatDoor
namespace Go.Proofs.YteehipcoeocojaaGreatDoor
open Go.RowKit
open Lm

theorem lS (v:Value)(base:Nat)(xs:List Nat)(w:World)(h:Ans w base v xs)(hf:xs.length≤1125899906842624) :
  Calls Tryz.prog 126 #[v] w fun e w'=>w'=w∧Res w base e (val xs):=by
 have ha:=h.arg hf
 obtain⟨ao,cap,rfl,hcap,hmax,hlies⟩:=ha.form
 have hle:=tr_length_le xs
 have H1:=bn _ cap xs w hcap hmax hlies
 have H2:=ar _ _ _ ha
 have HA:Hid (Ans w base (.slice ao (tr xs).length cap) (tr xs)):=h.trim
 have HT:Hid (tr (tr xs)=tr xs∧val (tr xs)=val xs):=⟨tr_tr xs,val_tr xs⟩
 unfold Res
 generalize tr xs=T at *
 generalize val xs=V at *
 generalize blen V=y at *
 clear hlies h ha
 by_cases hy:y≤67108864
 ·go_enter Tryz.func126,Tryz.ntmps126
  go_wp2_with fail
  refine H2.mono ?_
  rintro e w' ⟨rfl,rfl⟩
  go_wp2_with fail
  refine H1.mono ?_
  rintro e w' ⟨rfl,rfl⟩
  go_wp2
  go_ret2
  exact⟨rfl,_,_,T,rfl,HA.out,.inl ⟨rfl,HT.out.2,HT.out.1,hy⟩⟩
 ·go_enter Tryz.func126,Tryz.ntmps126
  go_wp2_with fail
  refine H2.mono ?_
  rintro e w' ⟨rfl,rfl⟩
  go_wp2
  go_ret2
  exact⟨rfl,_,_,[],rfl,Ans.nil _ _,.inr ⟨rfl,rfl,by omega⟩⟩

theorem kU (x:Nat):blen x=0 ↔ x=0:=by
 have:=blen_le_iff x 0
 simp at this
 omega

theorem jA (v:Value)(X:List Nat)(w:World)(h:Arg w v X) :
  Calls Tryz.prog 131 #[v] w fun e w'=>e=.returned (.bool (decide (val X=0)))∧w'=w:=by
 have H:=ar _ _ w h
 have hz:=kU (val X)
 obtain⟨ao,cap,rfl,hcap,hmax,hl⟩:=h.form
 clear hl h
 generalize blen (val X)=y at *
 by_cases h0:val X=0
 ·rw [decide_eq_true h0]
  have e0:y=0:=hz.2 h0
  subst e0
  clear hz
  go_enter Tryz.func131,Tryz.ntmps131
  go_wp2_with fail
  refine H.mono ?_
  rintro e w2 ⟨rfl,rfl⟩
  clear H
  go_wp2
  go_ret
  exact⟨rfl,rfl⟩
 ·rw [decide_eq_false h0]
  have e0:y≠0:=fun e=>h0 (hz.1 e)
  have hne:((y:Int) == 0)=false:=by rw [beq_eq_false_iff_ne];omega
  clear hz e0
  go_enter Tryz.func131,Tryz.ntmps131
  go_wp2_with fail
  refine H.mono ?_
  rintro e w2 ⟨rfl,rfl⟩
  clear H
  go_wp2
  go_ret
  exact⟨rfl,rfl⟩

def bG (x y:Nat):Int:=if y=0 then 30 else if 67108864+blen y<blen x then 3 else 0

theorem lr (v1 v2:Value)(X Y:List Nat)(w:World)(h1:Arg w v1 X)(h2:Arg w v2 Y) :
  Calls Tryz.prog 123 #[v1,v2] w fun e w'=>e=.returned (.int .i64 (bG (val X) (val Y)))∧w'=w:=by
 have HZ:=jA _ _ w h2
 have L1:=ar _ _ w h1
 have L2:=ar _ _ w h2
 have b1:blen (val X)≤64*X.length:=(blen_le_iff _ _).2 (by have:=val_lt h1.limbs;rw [show (18446744073709551616:Nat)=2 ^ 64 from rfl,←Nat.pow_mul] at this;exact this)
 have b2:blen (val Y)≤64*Y.length:=(blen_le_iff _ _).2 (by have:=val_lt h2.limbs;rw [show (18446744073709551616:Nat)=2 ^ 64 from rfl,←Nat.pow_mul] at this;exact this)
 have c1:=h1.few
 have c2:=h2.few
 obtain⟨a1,d1,rfl,_,_,_⟩:=h1.form
 obtain⟨a2,d2,rfl,_,_,_⟩:=h2.form
 clear h1 h2
 by_cases h0:val Y=0
 ·have e:bG (val X) (val Y)=30:=if_pos h0
  rw [e]
  rw [decide_eq_true h0] at HZ
  clear L1 L2
  go_enter Tryz.func123,Tryz.ntmps123
  go_wp2_with fail
  refine HZ.mono ?_
  rintro e w2 ⟨rfl,rfl⟩
  clear HZ
  go_wp2
  go_ret
  exact⟨rfl,rfl⟩
 ·rw [decide_eq_false h0] at HZ
  by_cases hb:67108864+blen (val Y)<blen (val X)
  ·have e:bG (val X) (val Y)=3:=by unfold bG;rw [if_neg h0,if_pos hb]
   rw [e]
   clear h0 e
   generalize blen (val X)=x at *
   generalize blen (val Y)=y at *
   have i1:(67108864:Int)<(x:Int) - (y:Int):=by omega
   go_enter Tryz.func123,Tryz.ntmps123
   go_wp2_with fail
   refine HZ.mono ?_
   rintro e w2 ⟨rfl,rfl⟩
   clear HZ
   go_wp2_with fail
   refine L1.mono ?_
   rintro e w2 ⟨rfl,rfl⟩
   go_wp2_with fail
   refine L2.mono ?_
   rintro e w2 ⟨rfl,rfl⟩
   clear L1 L2
   go_wp2
   go_ret
   exact⟨rfl,rfl⟩
  ·have e:bG (val X) (val Y)=0:=by unfold bG;rw [if_neg h0,if_neg hb]
   rw [e]
   clear h0 e
   generalize blen (val X)=x at *
   generalize blen (val Y)=y at *
   have i1:¬((67108864:Int)<(x:Int) - (y:Int)):=by omega
   go_enter Tryz.func123,Tryz.ntmps123
   go_wp2_with fail
   refine HZ.mono ?_
   rintro e w2 ⟨rfl,rfl⟩
   clear HZ
   go_wp2_with fail
   refine L1.mono ?_
   rintro e w2 ⟨rfl,rfl⟩
   go_wp2_with fail
   refine L2.mono ?_
   rintro e w2 ⟨rfl,rfl⟩
   clear L1 L2
   go_wp2
   go_ret
   exact⟨rfl,rfl⟩
end Go.Proofs.YteehipcoeocojaaGreatDoor

