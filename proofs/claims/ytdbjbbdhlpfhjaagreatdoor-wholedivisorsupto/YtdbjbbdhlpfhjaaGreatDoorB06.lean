/- Package div: guessBlock. -/
import Derived.Test.YtdbjbbdhlpfhjaaGreatDoorB05
import Derived.Test.YtdbjbbdhlpfhjaaGreatDoorB03
import Derived.Test.YtdbjbbdhlpfhjaaGreatDoorB01
set_option maxRecDepth 20000
set_option maxHeartbeats 1000000
namespace Go.Proofs.YtdbjbbdhlpfhjaaGreatDoor
open Go.RowKit
open Lm
attribute [local go_sem ↓] Go.wp_at_zero Go.wp_at_succ

theorem qV (bq qo qcap bu uo ucap bv ov vcap m:Nat)(Q U V:List Nat)(w:World)(hok:gk V)
  (hQ:Blk w bq Q) (lQ:Limbs Q) (hU:Blk w bu U) (lU:Limbs U) (hV:Arg w (.slice (some ⟨bv,ov,none⟩) m vcap) V) (hT:Tab w) (t1:0≠bq) (t2:0≠bu) (lV:V.length=m) (hm:0<m)
  (n1:bq≠bu) (n2:bv≠bq) (n3:bv≠bu) (q1:qo+m≤Q.length) (q2:m≤qcap) (q3:qcap≤9223372036854775807) (u1:uo+(m+m)≤U.length) (u2:m+m≤ucap) (u3:ucap≤9223372036854775807)
  (few:m+m≤35184372088831) (hle:sv U (uo+m) m≤val V) :
  Calls Tryz.prog 209 #[.slice (some ⟨bq,qo,none⟩) m qcap,.slice (some ⟨bu,uo,none⟩) (m+m) ucap,.slice (some ⟨bv,ov,none⟩) m vcap] w (dA bq qo bu uo m (val V) Q U w):=by
 have HD:Hid (∀wn,aD w wn→sv U (uo+m) m<val V→Calls Tryz.prog 158 #[.slice (some ⟨bq,qo,none⟩) m qcap,.slice (some ⟨bu,uo,none⟩) (m+m) ucap,.slice (some ⟨bv,ov,none⟩) m vcap] wn (du bq qo m bu uo m (val V) Q U wn)):=by
  intro wn hs h
  have H:=hok bq qo m qcap bu uo ucap bv ov vcap Q U wn (hQ.below (hs.below _) hQ.lt) lQ (hU.below (hs.below _) hU.lt) lU (by rw [lV];exact hV.below (hs.below _)) (hT.below (hs.below _)) t1 t2 n1 n2 n3 q1 q2 q3 (by rw [lV];exact u1) (by rw [lV];exact u2) u3 (by rw [lV];exact few) (by rw [lV];exact h)
  rw [lV] at H
  exact H
 obtain⟨_,_,e0,hvc,hvm,hlv⟩:=hV.form
 rw [lV] at e0 hvc
 cases e0
 have hcv:∀k,k<m→w.cell? ⟨bv,ov+k,none⟩=some (.int .u64 ((V.getD k 0:Nat):Int)):=by
  intro k hk
  rcases hlv with h0|⟨b,off,e,hc⟩
  ·rw [h0] at lV;simp at lV;omega
  ·cases e;exact hc k (by omega)
 have HVV:=ac (And.intro hV lV)
 have hcu:¬ucap=m:=by omega
 have y1:m+m - m=m:=by omega
 have HLE:=ac hle
 have HQ:=ac (And.intro hQ lQ)
 have HU:=ac (And.intro hU lU)
 clear hok hlv hV hT hle hQ lQ lU lV
 go_enter Tryz.func209,Tryz.ntmps209
 go_wp2
 go_loopw [15] (fun i wr=>∃k:Nat,k≤m∧i=.int .i64 k∧aD w wr∧∀i,i<k→U.getD (uo+m+i) 0=V.getD i 0) (fun i _=>m - (intOf i).toNat)
 case atStart=>exact⟨0,Nat.zero_le _,rfl,aD.refl _,fun i hi=>absurd hi (Nat.not_lt_zero _)⟩
 case round=>
  obtain⟨k,hk,rfl,hsame,hv⟩:=hrel
  have HEQ:=ac hv
  clear hv
  by_cases hkl:k<m
  ·have hck:wr.cell? ⟨bv,ov+k,none⟩=some (.int .u64 ((V.getD k 0:Nat):Int)):=by
    unfold World.cell?;rw [hsame.heap];exact hcv k hkl
   have hcu2:wr.cell? ⟨bu,uo+m+k,none⟩=some (.int .u64 ((U.getD (uo+m+k) 0:Nat):Int)):=(HU.out.1.below (hsame.below _) HU.out.1.lt).cell _ (by omega)
   clear hcv
   have hi1:(0:Int)≤(k:Int):=by omega
   have hi2:(k:Int)<(m:Int):=by omega
   by_cases hxy:U.getD (uo+m+k) 0=V.getD k 0
   ·have HN:Hid (∀i,i<k+1→U.getD (uo+m+i) 0=V.getD i 0):=ac (fun i hi=>by
     rcases (by omega:i<k∨i=k) with h|h
     ·exact HEQ.out i h
     ·subst h;exact hxy)
    rw [hxy] at hcu2
    generalize V.getD k 0=y at *
    clear hxy HEQ
    go_wp2
    go_quiet (fail)
    go_wp2
    go_roundw
    case rel=>exact⟨k+1,by omega,by go_num,hsame.drewN _,HN.out⟩
    case measure=>simp [intOf];omega
   ·have hne:(((U.getD (uo+m+k) 0:Nat):Int) != ((V.getD k 0:Nat):Int))=true:=by rw [bne_iff_ne];omega
    have hlt:sv U (uo+m) m<val V:=by
     refine Nat.lt_of_le_of_ne HLE.out fun e=>hxy ?_
     have e2:=iL (seg U (uo+m) m) V (by rw [bK _ _ _ (by omega),HVV.out.2]) (dS HU.out.2 _ _) HVV.out.1.limbs e
     rw [←dD U (uo+m) m k hkl,e2]
    have HDD:=ac (fun wn (hs:aD w wn)=>HD.out wn hs hlt)
    have HSM:=ac hsame
    clear hxy HEQ hlt HD
    generalize U.getD (uo+m+k) 0=x at *
    generalize V.getD k 0=y at *
    go_wp2
    go_quiet (fail)
    go_wp2_with fail
    refine (HDD.out _ (HSM.out.drewN _)).mono ?_
    intro e w2 hd
    have HG:=ac ((hd.guess u1).same (HSM.out.drewN _))
    have he:=hd.1
    subst he
    clear hd HDD
    go_wp2
    go_end0
    exact HG.out
  ·have ek:k=m:=by omega
   subst ek
   have HSM:=ac hsame
   have HBQ:=ac (HQ.out.1.below (hsame.below _) HQ.out.1.lt)
   have HBU:=ac (HU.out.1.below (hsame.below _) HU.out.1.lt)
   clear hcv HD hsame
   go_wp2
   rename World=>w1
   go_loopw [34] (fun i wq=>∃(t:Nat) (Q':List Nat),t≤k∧i=.int .i64 t∧Out Q Q' qo (qo+t)∧Limbs Q'∧Blk wq bq Q'∧Fr bq w1 wq∧sv Q' qo t+1=18446744073709551616 ^ t) (fun i _=>k - (intOf i).toNat)
   case atStart=>exact⟨0,Q,Nat.zero_le _,rfl,Out.refl _ _ _,HQ.out.2,HBQ.out,Fr.refl _ _,by rw [aW]⟩
   case round=>
    obtain⟨t,Q',ht,rfl,o1,l1,b1,f1,s1⟩:=hrel
    by_cases htl:t<k
    ·have hfr:=b1.free (qo+t)
     have hco:=b1.cell (qo+t) (by rw [o1.len];omega)
     have HX:Hid (Out Q (Q'.set (qo+t) 18446744073709551615) qo (qo+(t+1))∧Limbs (Q'.set (qo+t) 18446744073709551615)∧Blk (wr.setCell ⟨bq,qo+t,none⟩ (.int .u64 ((18446744073709551615:Nat):Int))) bq (Q'.set (qo+t) 18446744073709551615)∧Fr bq w1 (wr.setCell ⟨bq,qo+t,none⟩ (.int .u64 ((18446744073709551615:Nat):Int)))∧sv (Q'.set (qo+t) 18446744073709551615) qo (t+1)+1=18446744073709551616 ^ (t+1)):=by
      refine ac ⟨(o1.wider (Nat.le_refl _) (by omega)).set _ _ (by omega) (by omega),limbs_set l1 _ _ (by omega),b1.set _ _,f1.setCell _ _,?_⟩
      rw [dm Q' qo t _ (by rw [o1.len];omega),Nat.pow_succ,←s1]
      omega
     generalize Q'.getD (qo+t) 0=oq at *
     clear o1 l1 b1 f1 s1
     go_wp2
     go_roundw
     case rel=>exact⟨t+1,_,by omega,by go_num,HX.out⟩
     case measure=>simp [intOf];omega
    ·have et:t=k:=by omega
     subst et
     have hbu:=HBU.out.frb f1 (Ne.symm n1)
     have hrun:=fun ty=>ei bu (uo+t) t (ucap - t) U wr ty hbu (by omega) hm
     have e1:=cB (List.replicate t 0) U (uo+t)
     have e2:=cR (List.replicate t 0) U (uo+t) (by simp;omega)
     have e3:=cU (List.replicate t 0) (limbs_replicate _) U (uo+t) HU.out.2
     have hb2:=Blk.setCells (List.replicate t 0) (uo+t) hbu
     have hf2:=(Fr.refl bu wr).setCells ((List.replicate t 0).map lv) (uo+t)
     have hbq2:=b1.frb hf2 n1
     rw [List.length_replicate] at e1 e2
     rw [val_replicate] at e2
     obtain⟨w3,hw3⟩:∃w3,w3=wr.setCells bu (uo+t) ((List.replicate t 0).map lv):=⟨_,rfl⟩
     rw [←hw3] at hrun hb2 hf2 hbq2
     generalize lay U (uo+t) (List.replicate t 0)=U2 at *
     have F3:=ac ((Fr.left2 (b2:=bu) (Fr.same (bz:=bq) HSM.out)).trans (f1.left2.trans hf2.right2))
     have HP:=fe bu uo (t+t) ucap U2 _ V w3 hb2 e3 ((HVV.out.1.below (HSM.out.below _)).fr2 (f1.left2.trans hf2.right2) n2 n3) (aE n3 _ _) (by rw [e1.len];omega) u2 u3 (by rw [HVV.out.2];omega)
     have HX:=ac (And.intro o1 (And.intro l1 (And.intro hbq2 (And.intro s1 (And.intro e1 e2)))))
     clear hw3 o1 l1 b1 f1 s1 hbu e1 e2 e3 hb2 hf2 hbq2
     go_wp2_with fail
     refine HP.mono ?_
     rintro e w4 ⟨c4,U4,hc4,rfl,o4,l4,b4,f4,s4⟩
     have HG:Hid (dA bq qo bu uo t (val V) Q U w (.returned (.tuple #[])) w4):=by
      obtain⟨o1,l1,hbq2,s1,e1,e2⟩:=HX.out
      have hhi:sv U (uo+t) t=val V:=by
       unfold sv
       rw [jQ (a:=seg U (uo+t) t) (b:=V) (by rw [bK _ _ _ (by omega),HVV.out.2]) (fun i hi=>by
        rw [bK _ _ _ (by omega)] at hi
        rw [dD _ _ _ _ hi];exact HEQ.out i hi)]
      have s5:=aF U2 uo t t (by rw [e1.len];omega)
      rw [e2,Nat.mul_zero,Nat.add_zero,e1.sv uo t (by omega)] at s5
      rw [s5] at s4
      refine ac ⟨rfl,Q',U4,o1,l1,hbq2.frb f4 n1,(e1.wider (by omega) (by omega)).trans o4,l4,b4,F3.out.trans f4.right2,?_,.inr (by omega)⟩
      exact oD s1 (cm HU.out.2 _ _) (by have:=val_lt HVV.out.1.limbs;rw [HVV.out.2] at this;exact this) (aF U uo t t (by omega)) hhi hm s4
     clear o4 l4 b4 f4 s4 HP HX
     go_wp2
     go_end0
     exact HG.out
end Go.Proofs.YtdbjbbdhlpfhjaaGreatDoor
namespace Go.Proofs.YtdbjbbdhlpfhjaaGreatDoor
open Go.RowKit
open Lm

theorem jG (v:Value)(base:Nat)(xs:List Nat)(w:World)(h:Ans w base v xs)(hf:xs.length≤1125899906842624) :
  Calls Tryz.prog 167 #[v] w fun e w'=>w'=w∧Res w base e (val xs):=by
 have ha:=h.arg hf
 obtain⟨ao,cap,rfl,hcap,hmax,hlies⟩:=ha.form
 have hle:=tr_length_le xs
 have H1:=cQ _ cap xs w hcap hmax hlies
 have H2:=bB _ _ _ ha
 have HA:Hid (Ans w base (.slice ao (tr xs).length cap) (tr xs)):=h.trim
 have HT:Hid (tr (tr xs)=tr xs∧val (tr xs)=val xs):=⟨tr_tr xs,val_tr xs⟩
 unfold Res
 generalize tr xs=T at *
 generalize val xs=V at *
 generalize blen V=y at *
 clear hlies h ha
 by_cases hy:y≤67108864
 ·go_enter Tryz.func167,Tryz.ntmps167
  go_wp2_with fail
  refine H2.mono ?_
  rintro e w' ⟨rfl,rfl⟩
  go_wp2_with fail
  refine H1.mono ?_
  rintro e w' ⟨rfl,rfl⟩
  go_wp2
  go_ret2
  exact⟨rfl,_,_,T,rfl,HA.out,.inl ⟨rfl,HT.out.2,HT.out.1,hy⟩⟩
 ·go_enter Tryz.func167,Tryz.ntmps167
  go_wp2_with fail
  refine H2.mono ?_
  rintro e w' ⟨rfl,rfl⟩
  go_wp2
  go_ret2
  exact⟨rfl,_,_,[],rfl,Ans.nil _ _,.inr ⟨rfl,rfl,by omega⟩⟩

theorem nc (x:Nat):blen x=0 ↔ x=0:=by
 have:=blen_le_iff x 0
 simp at this
 omega

theorem nG (v:Value)(X:List Nat)(w:World)(h:Arg w v X) :
  Calls Tryz.prog 71 #[v] w fun e w'=>e=.returned (.bool (decide (val X=0)))∧w'=w:=by
 have H:=bB _ _ w h
 have hz:=nc (val X)
 obtain⟨ao,cap,rfl,hcap,hmax,hl⟩:=h.form
 clear hl h
 generalize blen (val X)=y at *
 by_cases h0:val X=0
 ·rw [decide_eq_true h0]
  have e0:y=0:=hz.2 h0
  subst e0
  clear hz
  go_enter Tryz.func71,Tryz.ntmps71
  go_wp2_with fail
  refine H.mono ?_
  rintro e w2 ⟨rfl,rfl⟩
  clear H
  go_wp2
  go_ret
  exact⟨rfl,rfl⟩
 ·rw [decide_eq_false h0]
  have e0:y≠0:=fun e=>h0 (hz.1 e)
  have hne:((y:Int) == 0)=false:=by rw [beq_eq_false_iff_ne];omega
  clear hz e0
  go_enter Tryz.func71,Tryz.ntmps71
  go_wp2_with fail
  refine H.mono ?_
  rintro e w2 ⟨rfl,rfl⟩
  clear H
  go_wp2
  go_ret
  exact⟨rfl,rfl⟩

def cK (x y:Nat):Int:=if y=0 then 30 else if 67108864+blen y<blen x then 3 else 0

theorem jJ (v1 v2:Value)(X Y:List Nat)(w:World)(h1:Arg w v1 X)(h2:Arg w v2 Y) :
  Calls Tryz.prog 166 #[v1,v2] w fun e w'=>e=.returned (.int .i64 (cK (val X) (val Y)))∧w'=w:=by
 have HZ:=nG _ _ w h2
 have L1:=bB _ _ w h1
 have L2:=bB _ _ w h2
 have b1:blen (val X)≤64*X.length:=(blen_le_iff _ _).2 (by have:=val_lt h1.limbs;rw [show (18446744073709551616:Nat)=2 ^ 64 from rfl,←Nat.pow_mul] at this;exact this)
 have b2:blen (val Y)≤64*Y.length:=(blen_le_iff _ _).2 (by have:=val_lt h2.limbs;rw [show (18446744073709551616:Nat)=2 ^ 64 from rfl,←Nat.pow_mul] at this;exact this)
 have c1:=h1.few
 have c2:=h2.few
 obtain⟨a1,d1,rfl,_,_,_⟩:=h1.form
 obtain⟨a2,d2,rfl,_,_,_⟩:=h2.form
 clear h1 h2
 by_cases h0:val Y=0
 ·have e:cK (val X) (val Y)=30:=if_pos h0
  rw [e]
  rw [decide_eq_true h0] at HZ
  clear L1 L2
  go_enter Tryz.func166,Tryz.ntmps166
  go_wp2_with fail
  refine HZ.mono ?_
  rintro e w2 ⟨rfl,rfl⟩
  clear HZ
  go_wp2
  go_ret
  exact⟨rfl,rfl⟩
 ·rw [decide_eq_false h0] at HZ
  by_cases hb:67108864+blen (val Y)<blen (val X)
  ·have e:cK (val X) (val Y)=3:=by unfold cK;rw [if_neg h0,if_pos hb]
   rw [e]
   clear h0 e
   generalize blen (val X)=x at *
   generalize blen (val Y)=y at *
   have i1:(67108864:Int)<(x:Int) - (y:Int):=by omega
   go_enter Tryz.func166,Tryz.ntmps166
   go_wp2_with fail
   refine HZ.mono ?_
   rintro e w2 ⟨rfl,rfl⟩
   clear HZ
   go_wp2_with fail
   refine L1.mono ?_
   rintro e w2 ⟨rfl,rfl⟩
   go_wp2_with fail
   refine L2.mono ?_
   rintro e w2 ⟨rfl,rfl⟩
   clear L1 L2
   go_wp2
   go_ret
   exact⟨rfl,rfl⟩
  ·have e:cK (val X) (val Y)=0:=by unfold cK;rw [if_neg h0,if_neg hb]
   rw [e]
   clear h0 e
   generalize blen (val X)=x at *
   generalize blen (val Y)=y at *
   have i1:¬((67108864:Int)<(x:Int) - (y:Int)):=by omega
   go_enter Tryz.func166,Tryz.ntmps166
   go_wp2_with fail
   refine HZ.mono ?_
   rintro e w2 ⟨rfl,rfl⟩
   clear HZ
   go_wp2_with fail
   refine L1.mono ?_
   rintro e w2 ⟨rfl,rfl⟩
   go_wp2_with fail
   refine L2.mono ?_
   rintro e w2 ⟨rfl,rfl⟩
   clear L1 L2
   go_wp2
   go_ret
   exact⟨rfl,rfl⟩

theorem mg (X:List Nat)(d:Nat)(h:X.length≤d):val (X.drop d)=0:=by
 rw [List.drop_of_length_le h];rfl

theorem kF (Z:List Nat)(zo d q n zh c0 c4:Nat)(hd:d≤q)(hq:q≤n)(hl:zo+n≤Z.length)(h0:sv Z zo d=c0)(h1:sv Z (zo+d) (q - d)=0)(h2:sv Z zh (n - q)=c4)(hz:zh=zo+q∨(zh=zo∧n - q=0)) :
  sv Z zo n=c0+18446744073709551616 ^ q*c4:=by
 have e1:sv Z zo q=c0:=by
  have:=aF Z zo d (q - d) (by omega)
  rw [show d+(q - d)=q by omega,h0,h1,Nat.mul_zero,Nat.add_zero] at this
  exact this
 have e2:=aF Z zo q (n - q) (by omega)
 rw [show q+(n - q)=n by omega,e1] at e2
 rw [e2]
 rcases hz with rfl|⟨rfl,h⟩
 ·rw [h2]
 ·rw [h,aW] at h2
  rw [h,aW,←h2]

theorem pk (Z:List Nat)(o a c:Nat)(hl:o+a≤Z.length)(h:sv Z o (a+c)=0):sv Z o a=0∧sv Z (o+a) c=0:=by
 rw [aF Z o a c hl] at h
 have h1:sv Z o a=0:=by omega
 have h2:18446744073709551616 ^ a*sv Z (o+a) c=0:=by omega
 refine⟨h1,?_⟩
 rcases Nat.mul_eq_zero.1 h2 with h3|h3
 ·exact absurd h3 (Nat.pos_iff_ne_zero.1 (Nat.pow_pos (by omega)))
 ·exact h3

theorem jB (A B s m:Nat)(hA:A<3*18446744073709551616 ^ s)(hB:B<3*18446744073709551616 ^ s)(hm:m=s+1):2*(A*B)<18446744073709551616 ^ (m+m):=by
 subst hm
 rw [Nat.pow_add,Nat.pow_succ]
 generalize (18446744073709551616:Nat) ^ s=P at *
 have h:=Nat.mul_lt_mul'' hA hB
 have e1:3*P*(3*P)=9*(P*P):=by grind
 have e2:P*18446744073709551616*(P*18446744073709551616)=340282366920938463463374607431768211456*(P*P):=by grind
 rw [e1] at h
 rw [e2]
 generalize P*P=S at *
 omega

def Env (w:World)(kw kx gx gy bz:Nat)(cw cx cy:Array Value)(tw tv:TypeId)(MX MY Z:List Nat):Prop:=
 w.heap[kw]?=some (.cells cw tw)∧w.heap[kx]?=some (.cells cx tv)∧w.heap[kx+1]?=some (.cells cy tv)∧Blk w gx MX∧Blk w gy MY∧Blk w bz Z

theorem ff {w w':World}{k:Nat}{o:Obj}(h:w.heap[k]?=some o)(hb:Below w.heap.size w w'):w'.heap[k]?=some o:=by
 have hlt:k<w.heap.size:=by
  refine Nat.lt_of_not_le fun hle=>?_
  rw [Array.getElem?_eq_none hle] at h;cases h
 rw [hb.block k hlt];exact h

theorem Env.below {w w':World}{kw kx gx gy bz:Nat}{cw cx cy:Array Value}{tw tv:TypeId}{MX MY Z:List Nat}(h:Env w kw kx gx gy bz cw cx cy tw tv MX MY Z)(hb:Below w.heap.size w w'):Env w' kw kx gx gy bz cw cx cy tw tv MX MY Z:=
 ⟨ff h.1 hb,ff h.2.1 hb,ff h.2.2.1 hb,h.2.2.2.1.below' hb,h.2.2.2.2.1.below' hb,h.2.2.2.2.2.below' hb⟩

theorem dY (H T:Int)(gx gy o m R n:Nat)(MX MY:List Nat)(w:World)(x y:Nat)(BX:Blk w gx MX)(BY:Blk w gy MY)(LX:Limbs MX)(LY:Limbs MY)(hx:o+m≤MX.length)(hy:o+m≤MY.length)(hc:m≤R - o)(hR:R≤35184372088831)(hm:0<m)(hmn:m+m<n)
  (vx:sv MX o m=x) (vy:sv MY o m=y) (hI:∀P Q:List Nat,P.length+Q.length<n→cf H T P Q) (hmm:m+m≤35184372088831) :
  Calls Tryz.prog 214 #[way H T,.slice (some ⟨gx,o,none⟩) m (R - o),.slice (some ⟨gy,o,none⟩) m (R - o)] w (jm w (m+m) (x*y)):=by
 have s1:=bK MX o m hx
 have s2:=bK MY o m hy
 have:=oV H T _ _ (seg MX o m) (seg MY o m) w (BX.seg_arg LX o m (R - o) hx hc (by omega) (by omega)) (BY.seg_arg LY o m (R - o) hy hc (by omega) (by omega)) (by omega) (by omega) (by omega) (hI _ _ (by omega))
 rw [s1,s2,show val (seg MX o m)=x from vx,show val (seg MY o m)=y from vy] at this
 exact this

theorem fw (X:List Nat)(s d:Nat)(h1:d≤X.length)(h2:d≤s+s)(h3:s+s≤d):val X=val (X.take s)+18446744073709551616 ^ s*val ((X.drop s).take s)+18446744073709551616 ^ s*18446744073709551616 ^ s*val (X.drop d):=by
 have e1:=ce X s (by omega)
 have e2:=ce (X.drop s) s (by simp;omega)
 rw [List.drop_drop,show s+s=d by omega] at e2
 rw [e1,e2,Nat.mul_add,←Nat.add_assoc,←Nat.mul_assoc]

theorem fS {X:List Nat}(hX:Limbs X)(s d:Nat)(h1:X.length≤3*s)(h2:d≤s+s∧s+s≤d)(h3:d≤X.length):val (X.take s)+val ((X.drop s).take s)+val (X.drop d)<3*18446744073709551616 ^ s:=by
 have a:=cC hX s (by omega)
 have b:=cC (X:=X.drop s) (fun z hz=>hX z (List.mem_of_mem_drop hz)) s (by simp;omega)
 have c:=dM hX d s (by omega)
 omega

theorem jI (H T:Int)(bz zo cap s:Nat)(Z:List Nat)(b off c1 b2 off2 c2:Nat)(X Y:List Nat)(w:World)(hB:Blk w bz Z)(hLZ:Limbs Z)
  (hA:Arg w (.slice (some ⟨b,off,none⟩) X.length c1) X) (hA2:Arg w (.slice (some ⟨b2,off2,none⟩) Y.length c2) Y) (hb:b≠bz) (hb2:b2≠bz)
  (hzo:zo+(X.length+Y.length)≤Z.length) (hc1:X.length+Y.length≤cap) (hc2:cap≤9223372036854775807) (hs0:0<s) (hYs:2*s≤Y.length) (hYX:Y.length≤X.length) (hXs:X.length≤3*s) (hlX:X.length≤4398046511103) (h22:2*s+2<X.length+Y.length)
  (hI:∀P Q:List Nat,P.length+Q.length<X.length+Y.length→cf H T P Q) :
  Calls Tryz.prog 191 #[way H T,.slice (some ⟨bz,zo,none⟩) (X.length+Y.length) cap,.slice (some ⟨b,off,none⟩) X.length c1,.slice (some ⟨b2,off2,none⟩) Y.length c2,.int .i64 s] w (aK bz zo (X.length+Y.length) Z w (val X*val Y)):=by
 unfold way
 obtain⟨_,_,e0,hcc1,hcm1,_⟩:=hA.form
 cases e0
 obtain⟨_,_,e0,hcc2,hcm2,_⟩:=hA2.form
 cases e0
 have hbz:=hB.lt
 have hbw:=hA.block (by omega)
 have hbw2:=hA2.block (by omega)
 obtain⟨w1,hw1⟩:∃w1,w1=w.alloc (.cells #[.int .i64 H,.int .i64 T] 117):=⟨_,rfl⟩
 have hbel1:Below w.heap.size w w1:=by rw [hw1];exact (Below.refl _ _).alloc (Nat.le_refl _) _
 have hs1:w1.heap.size=w.heap.size+1:=by rw [hw1];simp
 have hb1:w1.heap[w.heap.size]?=some (.cells #[.int .i64 H,.int .i64 T] 117):=by rw [hw1];exact heap_alloc_new ..
 have HW1:=ac hw1
 have HX1:=ac hb1
 have HB1:=ac (hB.below' hbel1)
 have HA1:=ac (hA.below hbel1)
 have HA2:=ac (hA2.below hbel1)
 have HF1:=ac (Fr.of_below (bz:=bz) hbel1)
 have HII:=ac hI
 have mX:=hA.limbs
 have mY:=hA2.limbs
 clear hw1 hbel1 hb1 hB hA hA2 hI
 obtain⟨n,hn⟩:∃n:Nat,X.length+Y.length=n:=⟨_,rfl⟩
 have hn1:n≤X.length+Y.length:=by omega
 have hn2:X.length+Y.length≤n:=by omega
 rw [hn] at hzo hc1 HII h22 ⊢
 have HN:=ac hn
 clear hn
 obtain⟨d,ed,hd1,hd2⟩:∃d:Nat,(2:Int)*(s:Int)=(d:Int)∧d≤2*s∧2*s≤d:=⟨2*s,by omega,by omega,by omega⟩
 obtain⟨q,eq,hq1,hq2⟩:∃d:Nat,(4:Int)*(s:Int)=(d:Int)∧d≤4*s∧4*s≤d:=⟨4*s,by omega,by omega,by omega⟩
 obtain⟨r,er,hr1,hr2⟩:∃d:Nat,(3:Int)*(s:Int)=(d:Int)∧d≤3*s∧3*s≤d:=⟨3*s,by omega,by omega,by omega⟩
 have wd:IntKind.i64.wrap (d:Int)=(d:Int):=by rw [IntKind.wrap_i64];omega
 have wq:IntKind.i64.wrap (q:Int)=(q:Int):=by rw [IntKind.wrap_i64];omega
 have kd0:(0:Int)≤(d:Int):=by omega
 have kd1:(d:Int)≤(n:Int):=by omega
 have kd2:¬cap=d:=by omega
 have kd3:(d:Int)≤(cap:Int):=by omega
 have kq0:(0:Int)≤(q:Int):=by omega
 have kq1:(q:Int)≤(n:Int):=by omega
 have kq3:(q:Int)≤(cap:Int):=by omega
 obtain⟨zh,ezh,hzh⟩:∃zh:Nat,(if cap=q then (some ⟨bz,zo,none⟩:Option Addr) else some ⟨bz,zo+q,none⟩)=some ⟨bz,zh,none⟩∧((zh=zo+q)∨(zh=zo∧n - q=0)):=by
  by_cases hc:cap=q
  ·exact⟨zo,by rw [if_pos hc],.inr ⟨rfl,by omega⟩⟩
  ·exact⟨zo+q,by rw [if_neg hc],.inl rfl⟩
 have HZH:=ac hzh
 clear hzh
 go_enter Tryz.func191,Tryz.ntmps191
 go_wp2_with fail
 rw [←HW1.out]
 go_region
 obtain⟨w2,Z1,hrun,O2,L2,B2,F2,S2⟩:=g8 bz (zo+d) (n - d) (cap - d) Z w1.drew HB1.out hLZ (by omega)
 have F2':=F2.undrew
 have l1:=O2.len
 have HX2:=ac ((F2'.block w.heap.size (by omega) (by omega)).trans HX1.out)
 have HA3:=ac (HA1.out.frb F2' hb)
 have HA23:=ac (HA2.out.frb F2' hb2)
 have HF2:=ac (HF1.out.trans F2')
 have tk1:(X.take s).length=s:=by simp;omega
 have tk2:(Y.take s).length=s:=by simp;omega
 have HI1:=HII.out (X.take s) (Y.take s) (by rw [tk1,tk2];omega) bz zo cap Z1 _ _ w2.drew B2 L2 (HA3.out.front s (by omega)).drew (HA23.out.front s (by omega)).drew
  (fun b' off' n' c' e=>by cases e;exact hb) (fun b' off' n' c' e=>by cases e;exact hb2) (by rw [tk1,tk2];omega) (by rw [tk1,tk2];omega) (by omega)
 rw [tk1,tk2,show s+s=d by omega] at HI1
 unfold way at HI1
 have HK1:=ac (fun (w7:World) (hF:Fr bz w2.drew w7)=>(by
  have e:w7.heap[w.heap.size]?=some (.cells #[.int .i64 H,.int .i64 T] 117):=by rw [hF.block w.heap.size (by show _<w2.heap.size;have:=F2'.size;omega) (by omega)];exact HX2.out
  exact⟨e,by simp [World.cell?,e],by simp [World.cell?,e]⟩:w7.heap[w.heap.size]?=some (.cells #[.int .i64 H,.int .i64 T] 117)∧w7.cell? ⟨w.heap.size,0,none⟩=some (.int .i64 H)∧w7.cell? ⟨w.heap.size,1,none⟩=some (.int .i64 T)))
 have hq0:w2.cell? ⟨w.heap.size,0,none⟩=some (.int .i64 H):=by have e:=HX2.out;simp [World.cell?,e]
 have hq1':w2.cell? ⟨w.heap.size,1,none⟩=some (.int .i64 T):=by have e:=HX2.out;simp [World.cell?,e]
 have hsz2:w.heap.size<w2.heap.size:=by have:=F2'.size;omega
 have HS2:=ac (pk Z1 (zo+d) (q - d) (n - q) (by omega) (by rw [show q - d+(n - q)=n - d by omega];exact S2))
 rw [show zo+d+(q - d)=zo+q by omega] at HS2
 have HO2:=ac (O2.wider (lo':=zo) (hi':=zo+n) (by omega) (by omega))
 have ks0:(0:Int)≤(s:Int):=by omega
 have ks1:(s:Int)≤(X.length:Int):=by omega
 have ks2:(s:Int)≤(Y.length:Int):=by omega
 have ks3:(s:Int)≤(c1:Int):=by omega
 have ks4:(s:Int)≤(c2:Int):=by omega
 clear O2 L2 B2 F2 S2 F2' HB1 HF1 HA1 HA2 HX1 tk1 tk2 hLZ
 go_wp2
 clear hrun HW1 hs1
 go_region_held3 (fun w'=>w'.cell? ⟨w.heap.size,0,none⟩=some (.int .i64 H)∧w'.cell? ⟨w.heap.size,1,none⟩=some (.int .i64 T)) (go_keep) (first | (go_at_call 175;refine HI1.mono ?_;rintro e w3 ⟨rfl,Z2,p1,p2,p3,p4,p5⟩;obtain⟨hx3,hk2,hk3⟩:=HK1.out w3 p4))
 have F3:=p4.undrew
 have HX3:=ac hx3
 have HA4:=ac (HA3.out.frb F3 hb)
 have HA24:=ac (HA23.out.frb F3 hb2)
 have HF3:=ac (HF2.out.trans F3)
 have hsz3:w.heap.size<w3.heap.size:=by have:=F3.size;omega
 have l2:=p1.len
 have HO3:=ac (HO2.out.trans (p1.wider (Nat.le_refl _) (by omega)))
 have S3:=ac p5
 have S3b:Hid (sv Z2 (zo+d) (q - d)=0):=ac (by rw [p1.sv (zo+d) (q - d) (by omega)];exact HS2.out.1)
 have S3c:Hid (sv Z2 (zo+q) (n - q)=0):=ac (by rw [p1.sv (zo+q) (n - q) (by omega)];exact HS2.out.2)
 have HB3:=ac p3
 have HL3:=ac p2
 clear p1 p2 p3 p4 p5 hx3 HI1 HK1 hq0 hq1' HX2 HA3 HA23 HF2 F3 HO2 HS2 hsz2
 by_cases hYd:d<Y.length
 ·have kY:(d:Int)<(Y.length:Int):=by omega
  have kY1:(d:Int)≤(X.length:Int):=by omega
  have kY2:(d:Int)≤(Y.length:Int):=by omega
  have kY3:¬c1=d:=by omega
  have kY4:¬c2=d:=by omega
  have hzq:zh=zo+q:=by
   rcases HZH.out with h|h
   ·exact h
   ·omega
  have HI2:=HII.out (X.drop d) (Y.drop d) (by simp;omega) bz zh (cap - q) Z2 _ _ w3.drew HB3.out HL3.out (HA4.out.drop d (by omega)).drew (HA24.out.drop d (by omega)).drew
   (fun b' off' n' c' e=>by cases e;exact hb) (fun b' off' n' c' e=>by cases e;exact hb2) (by simp;omega) (by simp;omega) (by omega)
  rw [List.length_drop,List.length_drop,show X.length - d+(Y.length - d)=n - q by omega] at HI2
  unfold way at HI2
  have HZQ:=ac hzq
  have HK2:=ac (fun (w7:World) (hF:Fr bz w3.drew w7)=>(by
   have e:w7.heap[w.heap.size]?=some (.cells #[.int .i64 H,.int .i64 T] 117):=by rw [hF.block w.heap.size (by show _<w3.heap.size;omega) (by omega)];exact HX3.out
   exact⟨e,by simp [World.cell?,e],by simp [World.cell?,e]⟩:w7.heap[w.heap.size]?=some (.cells #[.int .i64 H,.int .i64 T] 117)∧w7.cell? ⟨w.heap.size,0,none⟩=some (.int .i64 H)∧w7.cell? ⟨w.heap.size,1,none⟩=some (.int .i64 T)))
  clear hzq
  go_wp2
  go_region_held3 (fun w'=>w'.cell? ⟨w.heap.size,0,none⟩=some (.int .i64 H)∧w'.cell? ⟨w.heap.size,1,none⟩=some (.int .i64 T)) (go_keep) (first | (go_at_call 175;refine HI2.mono ?_;rintro e w4 ⟨rfl,Z3,p1,p2,p3,p4,p5⟩;obtain⟨hx4,hk0,hk1⟩:=HK2.out w4 p4))
  have F4:=p4.undrew
  have CX:=ac hx4
  have CA:=ac (HA4.out.frb F4 hb)
  have CA2:=ac (HA24.out.frb F4 hb2)
  have CF:=ac (HF3.out.trans F4)
  have CB:=ac p3
  have CL:=ac p2
  have lC:zo+n≤Z3.length:=by have:=p1.len;omega
  have hzq:=HZQ.out
  have CO:=ac (HO3.out.trans (p1.wider (by omega) (by omega)))
  have S0:sv Z3 zo d=val (X.take s)*val (Y.take s):=by rw [p1.sv zo d (by omega)];exact S3.out
  have S1:sv Z3 (zo+d) (q - d)=0:=by rw [p1.sv (zo+d) (q - d) (by omega)];exact S3b.out
  have CS0:=ac S0
  have CS2:=ac p5
  have CT:=ac (kF Z3 zo d q n zh _ _ (by omega) (by omega) (by omega) S0 S1 p5 HZH.out)
  have hsz4:w.heap.size<w4.heap.size:=by have:=F4.size;omega
  clear p1 p2 p3 p4 p5 hx4 HI2 HK2 hk2 hk3 HX3 HA4 HA24 HF3 F4 HO3 S3 S3b S3c HB3 HL3 hsz3 S0 S1 l2 hzq
  have HV1:=fM b off c1 s X w4 CA.out hs0 (by omega) hXs hlX
  rw [show 2*s=d by omega] at HV1
  go_wp2_with fail
  refine HV1.mono ?_
  rintro e w5 ⟨gx,m,d2,d3,R,ex,MX,em,eR,rfl,hgx,BMX,bel5,QX⟩
  have HV2:=fM b2 off2 c2 s Y w5 (CA2.out.below bel5) hs0 (by omega) (by omega) (by omega)
  rw [show 2*s=d by omega] at HV2
  have HD5:=ac (And.intro BMX (And.intro bel5 QX))
  have HEM:=ac (And.intro em eR)
  have hm1:m≤s+1:=by omega
  have hm2:s+1≤m:=by omega
  have hR1:R≤4*m:=by omega
  have hR2:4*m≤R:=by omega
  clear BMX bel5 QX HV1 em eR
  generalize hbx:decide (val (X.take s)+val (X.drop d)<val ((X.drop s).take s))=bx
  have HBX:=ac hbx
  clear hbx
  go_wp2_with fail
  refine HV2.mono ?_
  rintro e w6 ⟨gy,m',d2',d3',R',ey,MY,em',eR',rfl,hgy,BMY,bel6,QY⟩
  obtain rfl:m=m':=by have:=HEM.out.1;omega
  obtain rfl:R=R':=by have:=HEM.out.2;omega
  obtain rfl:d2=d2':=by have:=HD5.out.2.2.h2;have:=QY.h2;omega
  obtain rfl:d3=d3':=by have:=HD5.out.2.2.h3;have:=QY.h3;omega
  obtain⟨BMX,bel5,QX⟩:=HD5.out
  have hd2a:d2≤m+m:=Nat.le_of_eq QX.h2
  have hd2b:m+m≤d2:=Nat.le_of_eq QX.h2.symm
  have hd3a:d3≤m+m+m:=Nat.le_of_eq QX.h3
  have hd3b:m+m+m≤d3:=Nat.le_of_eq QX.h3.symm
  have lX:m+m+m+m≤MX.length:=Nat.le_of_eq QX.len.symm
  have lY:m+m+m+m≤MY.length:=Nat.le_of_eq QY.len.symm
  generalize hby:decide (val (Y.take s)+val (Y.drop d)<val ((Y.drop s).take s))=by'
  obtain⟨w7,hw7⟩:∃w7,w7=(w6.alloc (.cells #[.slice (some ⟨gx,m,none⟩) m (R - m),.slice (some ⟨gx,d2,none⟩) m (R - d2),.slice (some ⟨gx,d3,none⟩) m (R - d3),.bool bx] 201)).alloc (.cells #[.slice (some ⟨gy,m,none⟩) m (R - m),.slice (some ⟨gy,d2,none⟩) m (R - d2),.slice (some ⟨gy,d3,none⟩) m (R - d3),.bool by'] 201):=⟨_,rfl⟩
  have bel7:Below w6.heap.size w6 w7:=by rw [hw7];exact ((Below.refl _ _).alloc (Nat.le_refl _) _).alloc (by simp) _
  obtain⟨kx,hkx⟩:∃k,k=w6.heap.size:=⟨_,rfl⟩
  have belC:Below w4.heap.size w4 w7:=bel5.trans ((bel6.mono bel5.size).trans (bel7.mono (Nat.le_trans bel5.size bel6.size)))
  have E7:Env w7 w.heap.size kx gx gy bz #[.int .i64 H,.int .i64 T] #[.slice (some ⟨gx,m,none⟩) m (R - m),.slice (some ⟨gx,d2,none⟩) m (R - d2),.slice (some ⟨gx,d3,none⟩) m (R - d3),.bool bx] #[.slice (some ⟨gy,m,none⟩) m (R - m),.slice (some ⟨gy,d2,none⟩) m (R - d2),.slice (some ⟨gy,d3,none⟩) m (R - d3),.bool by'] 117 201 MX MY Z3:=by
   refine⟨ff CX.out belC,?_,?_,(BMX.below' bel6).below' bel7,BMY.below' bel7,CB.out.below' belC⟩
   ·rw [hkx,hw7,Below.heap_alloc _ _ _ (by simp)];exact heap_alloc_new ..
   ·rw [hkx,hw7,show w6.heap.size+1=(w6.alloc (.cells #[.slice (some ⟨gx,m,none⟩) m (R - m),.slice (some ⟨gx,d2,none⟩) m (R - d2),.slice (some ⟨gx,d3,none⟩) m (R - d3),.bool bx] 201)).heap.size by simp];exact heap_alloc_new ..
  have hN:m+m=m+m:=rfl
  have HF1:=dY H T gx gy m m R n MX MY w7 _ _ E7.2.2.2.1 E7.2.2.2.2.1 QX.limbs QY.limbs (by omega) (by omega) (by omega) (by omega) (by omega) (by omega) QX.v1 QY.v1 HII.out (by omega)
  unfold way at HF1
  obtain⟨hq0,hq1'⟩:=dR E7.1
  obtain⟨hx0,_,_,_⟩:=aT E7.2.1
  obtain⟨hy0,_,_,_⟩:=aT E7.2.2.1
  have HE7:=ac E7
  have HQX:=ac QX
  have HQY:=ac QY
  have HBEL:=ac belC
  have HW7:=ac hw7
  have HKX:=ac hkx
  have HBY:=ac hby
  rw [hkx] at hx0 hy0
  rw [hw7] at hq0 hq1' hx0 hy0
  obtain⟨N,hNm,hN1,hN2⟩:∃N:Nat,m+m=N∧N≤2*m∧2*m≤N:=⟨_,rfl,by omega,by omega⟩
  have HNM:=ac hNm
  have hNb:N≤1125899906842624:=by omega
  rw [hNm] at HF1
  have hszC:=belC.size
  have hkx7:kx+1<w7.heap.size:=lt_of_block HE7.out.2.2.1
  have hkxb:w.heap.size<kx:=by have:=HKX.out;have:=bel5.size;have:=bel6.size;omega
  clear E7 QX QY belC bel5 bel6 bel7 BMX BMY hw7 hkx hby HD5 hgx hgy HV2 em' eR' hN hNm hk0 hk1
  go_wp2_with fail
  rw [←HW7.out,←HKX.out]
  clear hq0 hq1' hx0 hy0
  refine HF1.mono ?_
  rintro e w8 ⟨g1,V1,rfl,hg1,lV1,LV1,BV1,vV1,bel8⟩
  have E8:=HE7.out.below bel8
  have HF2:=dY H T gx gy d3 m R n MX MY w8 _ _ E8.2.2.2.1 E8.2.2.2.2.1 HQX.out.limbs HQY.out.limbs (by omega) (by omega) (by omega) (by omega) (by omega) (by omega) HQX.out.v3 HQY.out.v3 HII.out (by omega)
  unfold way at HF2
  rw [HNM.out] at HF2
  obtain⟨hq0,hq1'⟩:=dR E8.1
  obtain⟨_,_,hx2,_⟩:=aT E8.2.1
  obtain⟨_,_,hy2,_⟩:=aT E8.2.2.1
  have HE8:=ac E8
  have hlt1:=BV1.lt
  have hsz8:=bel8.size
  have HBEL8:=ac (HBEL.out.trans (bel8.mono HBEL.out.size))
  have HV1:Hid (bZ w8 g1 N _):=ac ⟨V1,BV1,LV1,lV1,vV1⟩
  clear E8 bel8 BV1 LV1 lV1 vV1 V1 HF1 HE7 HBEL
  go_wp2_with fail
  refine HF2.mono ?_
  rintro e w9 ⟨g2,V2,rfl,hg2,lV2,LV2,BV2,vV2,bel9⟩
  have E9:=HE8.out.below bel9
  have HF3:=dY H T gx gy d2 m R n MX MY w9 _ _ E9.2.2.2.1 E9.2.2.2.2.1 HQX.out.limbs HQY.out.limbs (by omega) (by omega) (by omega) (by omega) (by omega) (by omega) HQX.out.v2 HQY.out.v2 HII.out (by omega)
  unfold way at HF3
  rw [HNM.out] at HF3
  clear hq0 hq1' hx2 hy2
  obtain⟨hq0,hq1'⟩:=dR E9.1
  obtain⟨_,hx1,_,_⟩:=aT E9.2.1
  obtain⟨_,hy1,_,_⟩:=aT E9.2.2.1
  have HE9:=ac E9
  have hlt2:=BV2.lt
  have hsz9:=bel9.size
  have HBEL9:=ac (HBEL8.out.trans (bel9.mono HBEL8.out.size))
  have HV1':=ac (HV1.out.fr (Fr.of_below (bz:=bz) bel9) (by omega))
  have HV2:Hid (bZ w9 g2 N _):=ac ⟨V2,BV2,LV2,lV2,vV2⟩
  clear E9 bel9 BV2 LV2 lV2 vV2 V2 HF2 HE8 HBEL8 HV1
  go_wp2_with fail
  refine HF3.mono ?_
  rintro e w10 ⟨g3,V3,rfl,hg3,lV3,LV3,BV3,vV3,bel10⟩
  have E10:=HE9.out.below bel10
  have hlt3:=BV3.lt
  have HS0:=St3.mk (CF.out.trans (Fr.of_below (HBEL9.out.trans (bel10.mono HBEL9.out.size)))) E10.2.2.2.2.2 CL.out hbz (by omega) (by omega) (by omega) (by omega) (by omega) (by omega) (HV1'.out.fr (Fr.of_below (bz:=bz) bel10) (by omega)) (HV2.out.fr (Fr.of_below (bz:=bz) bel10) (by omega)) (⟨V3,BV3,LV3,lV3,vV3⟩:bZ w10 g3 N _) (Nat.le_refl w10.heap.size) (fun _ _ _ _ _ _=>rfl)
  have T1:=jF (val (X.take s)) (val ((X.drop s).take s)) (val (X.drop d)) (val (Y.take s)) (val ((Y.drop s).take s)) (val (Y.drop d))
  have T2:=kI (val (X.take s)) (val ((X.drop s).take s)) (val (X.drop d)) (val (Y.take s)) (val ((Y.drop s).take s)) (val (Y.drop d))
  have T3:=kO (val (X.take s)) (val ((X.drop s).take s)) (val (X.drop d)) (val (Y.take s)) (val ((Y.drop s).take s)) (val (Y.drop d)) _ _ rfl rfl
  rw [HBX.out,HBY.out] at T3
  have FT:=jB (val (X.take s)+val ((X.drop s).take s)+val (X.drop d)) (val (Y.take s)+val ((Y.drop s).take s)+val (Y.drop d)) s m (fS mX s d (by omega) ⟨by omega,by omega⟩ (by omega)) (fS mY s d (by omega) ⟨by omega,by omega⟩ (by omega)) HEM.out.1
  rw [HNM.out] at FT
  have TT:=ji (val (X.take s)) (val ((X.drop s).take s)) (val (X.drop d)) (val (Y.take s)) (val ((Y.drop s).take s)) (val (Y.drop d)) (18446744073709551616 ^ s)
  rw [←fw X s d (by omega) (by omega) (by omega),←fw Y s d (by omega) (by omega) (by omega),←Nat.pow_add,←Nat.pow_add,←Nat.pow_add,show s+s+(s+s)=q by omega,show s+s+s=r by omega,show s+s=d by omega] at TT
  obtain⟨c0,k0⟩:∃c,val (X.take s)*val (Y.take s)=c:=⟨_,rfl⟩
  obtain⟨c1',k1⟩:∃c,val (X.take s)*val ((Y.drop s).take s)+val ((X.drop s).take s)*val (Y.take s)=c:=⟨_,rfl⟩
  obtain⟨c2',k2⟩:∃c,val (X.take s)*val (Y.drop d)+val ((X.drop s).take s)*val ((Y.drop s).take s)+val (X.drop d)*val (Y.take s)=c:=⟨_,rfl⟩
  obtain⟨c3,k3⟩:∃c,val ((X.drop s).take s)*val (Y.drop d)+val (X.drop d)*val ((Y.drop s).take s)=c:=⟨_,rfl⟩
  obtain⟨c4,k4⟩:∃c,val (X.drop d)*val (Y.drop d)=c:=⟨_,rfl⟩
  rw [k0,k1,k2,k3,k4] at T1 T2 T3 TT
  rw [k0] at CS0
  rw [k0,k4] at CT
  rw [k4] at CS2
  clear k0 k1 k2 k3 k4
  obtain⟨v1,e1⟩:∃v,(val (X.take s)+val ((X.drop s).take s)+val (X.drop d))*(val (Y.take s)+val ((Y.drop s).take s)+val (Y.drop d))=v:=⟨_,rfl⟩
  obtain⟨v2,e2⟩:∃v,(if val (X.take s)+val (X.drop d)<val ((X.drop s).take s) then val ((X.drop s).take s) - (val (X.take s)+val (X.drop d)) else val (X.take s)+val (X.drop d) - val ((X.drop s).take s))*(if val (Y.take s)+val (Y.drop d)<val ((Y.drop s).take s) then val ((Y.drop s).take s) - (val (Y.take s)+val (Y.drop d)) else val (Y.take s)+val (Y.drop d) - val ((Y.drop s).take s))=v:=⟨_,rfl⟩
  obtain⟨v3,e3⟩:∃v,(val (X.take s)+val ((X.drop s).take s)*2+val (X.drop d)*4)*(val (Y.take s)+val ((Y.drop s).take s)*2+val (Y.drop d)*4)=v:=⟨_,rfl⟩
  rw [e1] at T1 T3 FT
  rw [e2] at T3
  rw [e3] at T2
  rw [e1,e2,e3] at HS0
  clear e1 e2 e3
  have hXY:val X*val Y<18446744073709551616 ^ n:=by
   rw [←HN.out,Nat.pow_add];exact Nat.mul_lt_mul'' (val_lt mX) (val_lt mY)
  have TOT:=ac (And.intro hXY (And.intro (show c0+18446744073709551616 ^ q*c4+18446744073709551616 ^ s*c1'≤val X*val Y by omega) (And.intro (show c0+18446744073709551616 ^ q*c4+18446744073709551616 ^ s*c1'+18446744073709551616 ^ d*c2'≤val X*val Y by omega) TT.symm)))
  have hv3:=ac T2
  have HFT:=ac FT
  have HE10:=ac E10
  have HT1:=ac T1
  clear hXY TT T1 T2 FT E10 bel10 BV3 LV3 lV3 vV3 V3 HF3 HE9 HBEL9 HV1' HV2 hq0 hq1' hx1 hy1 HQX HQY HBX HBY HEM HNM HW7 HKX mX mY CB CF CX CL CA CA2
  by_cases hsame:bx=by'
  ·subst hsame
   rw [if_pos rfl] at T3
   obtain⟨kv,hkv⟩:∃k,k=c0+c2'+c4:=⟨_,rfl⟩
   obtain⟨ov,hov⟩:∃k,k=c1'+c3:=⟨_,rfl⟩
   have HKV:=ac (show v2+v1=2*kv by omega)
   have HOV:=ac (show v1=ov+kv by have:=HT1.out;omega)
   have HDE:=ac (And.intro hkv hov)
   clear hkv hov T3
   obtain⟨EL,hEL,vEL⟩:=HS0.ho.arg hNb
   have HC:=HS0.plus hNb (v2+v1) hEL (aE HS0.oe _ _) (by rw [vEL]) (by have:=HKV.out;have:=HOV.out;have:=HFT.out;omega)
   have HS:=ac HS0
   clear hEL vEL EL HS0
   go_wp2_with fail
   refine HC.mono ?_
   rintro e wp1 ⟨rfl,h⟩
   clear HS HC
   have HS:=ac h
   have HC:=h.half hNb kv HKV.out
   clear h
   go_wp2_with fail
   refine HC.mono ?_
   rintro e wp2 ⟨rfl,h⟩
   clear HS HC
   have HS:=ac h
   obtain⟨EL,hEL,vEL⟩:=h.he.arg hNb
   have HC:=h.oe'.minus hNb ov hEL (aE (Ne.symm h.oe) _ _) (by rw [vEL];exact HOV.out)
   clear h hEL vEL EL
   go_wp2_with fail
   refine HC.mono ?_
   rintro e wp3 ⟨rfl,h⟩
   clear HS HC
   obtain⟨_,_,_,hx3⟩:=aT ((h.keep kx (by omega) (by omega) (by omega) (by omega) (by omega)).trans HE10.out.2.1)
   obtain⟨_,_,_,hy3⟩:=aT ((h.keep (kx+1) (by omega) (by omega) (by omega) (by omega) (by omega)).trans HE10.out.2.2.1)
   have HS:=ac h.oe'
   rw [HDE.out.1,HDE.out.2] at HS
   clear h
   have h:=HS.out
   have HC:=h.minus hNb (c2'+c4) (h.blk.seg_arg h.lz zo d cap (by omega) (by omega) (by omega) (by omega)) (aE (by have:=h.lt;have:=h.ne;omega) _ _) (by rw [show val (seg Z3 zo d)=c0 from CS0.out];omega)
   clear h
   go_wp2_with fail
   refine HC.mono ?_
   rintro e wa ⟨rfl,h⟩
   clear HS HC
   have HS:=ac h
   have HC:=h.minus hNb c2' (h.blk.seg_arg h.lz zh (n - q) (cap - q) (by rcases HZH.out with h|h <;> omega) (by omega) (by omega) (by omega)) (aE (by have:=h.lt;have:=h.ne;omega) _ _) (by rw [show val (seg Z3 zh (n - q))=c4 from CS2.out])
   clear h
   go_wp2_with fail
   refine HC.mono ?_
   rintro e wb ⟨rfl,h⟩
   clear HS HC
   have HS:=ac h
   have HC:=h.et'.minus hNb (2*c1'+4*c2'+8*c3+16*c4) (h.blk.seg_arg h.lz zo d cap (by omega) (by omega) (by omega) (by omega)) (aE (by have:=h.lt;have:=h.nt;omega) _ _) (by rw [show val (seg Z3 zo d)=c0 from CS0.out,hv3.out];omega)
   clear h
   go_wp2_with fail
   refine HC.mono ?_
   rintro e wc ⟨rfl,h⟩
   clear HS HC
   have HS:=ac h
   have HC:=h.half hNb (c1'+2*c2'+4*c3+8*c4) (by omega)
   clear h
   go_wp2_with fail
   refine HC.mono ?_
   rintro e wd' ⟨rfl,h⟩
   clear HS HC
   have HS:=ac h
   obtain⟨EL,hEL,vEL⟩:=h.ht.arg hNb
   have HC:=h.minusTimes hNb (c1'+4*c3+8*c4) 2 hEL (aE (Ne.symm h.et) _ _) (by rw [vEL];omega) (by omega) (by omega)
   rw [show ((2:Nat):Int)=2 from rfl] at HC
   clear h hEL vEL EL
   go_wp2_with fail
   refine HC.mono ?_
   rintro e we ⟨rfl,h⟩
   clear HS HC
   have HS:=ac h
   have HC:=h.minusTimes hNb (c1'+4*c3) 8 (h.blk.seg_arg h.lz zh (n - q) (cap - q) (by rcases HZH.out with h|h <;> omega) (by omega) (by omega) (by omega)) (aE (by have:=h.lt;have:=h.ne;omega) _ _) (by rw [show val (seg Z3 zh (n - q))=c4 from CS2.out];omega) (by omega) (by omega)
   rw [show ((8:Nat):Int)=8 from rfl] at HC
   clear h
   go_wp2_with fail
   refine HC.mono ?_
   rintro e wf ⟨rfl,h⟩
   clear HS HC
   have HS:=ac h
   obtain⟨EL,hEL,vEL⟩:=h.ho.arg hNb
   have HC:=h.minus hNb (3*c3) hEL (aE h.oe _ _) (by rw [vEL];omega)
   clear h hEL vEL EL
   go_wp2_with fail
   refine HC.mono ?_
   rintro e wg ⟨rfl,h⟩
   clear HS HC
   have HS:=ac h
   have HC:=h.third hNb c3 rfl
   clear h
   go_wp2_with fail
   refine HC.mono ?_
   rintro e wh ⟨rfl,h⟩
   clear HS HC
   have HS:=ac h
   obtain⟨EL,hEL,vEL⟩:=h.he.arg hNb
   have HC:=h.oe'.minus hNb c1' hEL (aE (Ne.symm h.oe) _ _) (by rw [vEL])
   clear h hEL vEL EL
   go_wp2_with fail
   refine HC.mono ?_
   rintro e wi ⟨rfl,h⟩
   clear HS HC
   have HS:=ac h
   obtain⟨EL,hEL,vEL⟩:=h.he.arg hNb
   have HC:=h.add zo n s (cap - s) hEL (aE (by have:=h.lt;have:=h.ne;omega) _ _) (by omega) (by omega) (by omega) (by omega) _ (by rw [vEL,CT.out];exact TOT.out.2.1) TOT.out.1
   rw [vEL,CT.out] at HC
   clear h hEL vEL EL
   go_wp2_with fail
   refine HC.mono ?_
   rintro e wj ⟨rfl,ZJ,h,OJ,SJ⟩
   have lJ:=OJ.len
   clear HS HC
   have HS:=ac h
   have HSJ:=ac SJ
   have HOJ:=ac OJ
   obtain⟨EL,hEL,vEL⟩:=h.ht.arg hNb
   have HC:=h.add zo n d (cap - d) hEL (aE (by have:=h.lt;have:=h.nt;omega) _ _) (by omega) (by omega) (by omega) (by omega) _ (by rw [vEL,SJ];exact TOT.out.2.2.1) TOT.out.1
   rw [vEL,SJ] at HC
   clear h hEL vEL EL OJ SJ
   go_wp2_with fail
   refine HC.mono ?_
   rintro e wk' ⟨rfl,ZK,h,OK',SK⟩
   have lK:=OK'.len
   clear HS HC HSJ
   have HS:=ac h
   have HSK:=ac SK
   have HOK:=ac (HOJ.out.trans OK')
   obtain⟨EL,hEL,vEL⟩:=h.ho.arg hNb
   have HC:=h.add zo n r (cap - r) hEL (aE (by have:=h.lt;have:=h.no;omega) _ _) (by omega) (by omega) (by omega) (by omega) _ (by rw [vEL,SK];exact Nat.le_of_eq TOT.out.2.2.2) TOT.out.1
   rw [vEL,SK] at HC
   clear h hEL vEL EL OK' SK
   go_wp2_with fail
   refine HC.mono ?_
   rintro e wl ⟨rfl,ZL,h,OL,SL⟩
   have HD:=ac (show aK bz zo n Z w (val X*val Y) (.returned (.tuple #[])) wl from ⟨rfl,ZL,CO.out.trans (HOK.out.trans OL),h.lz,h.blk,h.fr,by rw [SL,TOT.out.2.2.2]⟩)
   clear h OL SL HS HC HSK HOK
   go_wp2
   go_end0
   exact HD.out
  ·rw [if_neg hsame] at T3
   obtain⟨kv,hkv⟩:∃k,k=c1'+c3:=⟨_,rfl⟩
   obtain⟨ov,hov⟩:∃k,k=c0+c2'+c4:=⟨_,rfl⟩
   have HKV:=ac (show v2+v1=2*kv by omega)
   have HOV:=ac (show v1=ov+kv by have:=HT1.out;omega)
   have HDE:=ac (And.intro hkv hov)
   have hs1':(bx == by')=false:=by simpa using hsame
   have hs2':decide (bx=by')=false:=by simpa using hsame
   clear hkv hov T3
   obtain⟨EL,hEL,vEL⟩:=HS0.ho.arg hNb
   have HC:=HS0.plus hNb (v2+v1) hEL (aE HS0.oe _ _) (by rw [vEL]) (by have:=HKV.out;have:=HOV.out;have:=HFT.out;omega)
   have HS:=ac HS0
   clear hEL vEL EL HS0
   go_wp2_with fail
   refine HC.mono ?_
   rintro e wp1 ⟨rfl,h⟩
   clear HS HC
   have HS:=ac h
   have HC:=h.half hNb kv HKV.out
   clear h
   go_wp2_with fail
   refine HC.mono ?_
   rintro e wp2 ⟨rfl,h⟩
   clear HS HC
   have HS:=ac h
   obtain⟨EL,hEL,vEL⟩:=h.he.arg hNb
   have HC:=h.oe'.minus hNb ov hEL (aE (Ne.symm h.oe) _ _) (by rw [vEL];exact HOV.out)
   clear h hEL vEL EL
   go_wp2_with fail
   refine HC.mono ?_
   rintro e wp3 ⟨rfl,h⟩
   clear HS HC
   obtain⟨_,_,_,hx3⟩:=aT ((h.keep kx (by omega) (by omega) (by omega) (by omega) (by omega)).trans HE10.out.2.1)
   obtain⟨_,_,_,hy3⟩:=aT ((h.keep (kx+1) (by omega) (by omega) (by omega) (by omega) (by omega)).trans HE10.out.2.2.1)
   have HS:=ac h
   rw [HDE.out.1,HDE.out.2] at HS
   clear h
   have h:=HS.out
   have HC:=h.minus hNb (c2'+c4) (h.blk.seg_arg h.lz zo d cap (by omega) (by omega) (by omega) (by omega)) (aE (by have:=h.lt;have:=h.ne;omega) _ _) (by rw [show val (seg Z3 zo d)=c0 from CS0.out];omega)
   clear h
   go_wp2_with fail
   refine HC.mono ?_
   rintro e wa ⟨rfl,h⟩
   clear HS HC
   have HS:=ac h
   have HC:=h.minus hNb c2' (h.blk.seg_arg h.lz zh (n - q) (cap - q) (by rcases HZH.out with h|h <;> omega) (by omega) (by omega) (by omega)) (aE (by have:=h.lt;have:=h.ne;omega) _ _) (by rw [show val (seg Z3 zh (n - q))=c4 from CS2.out])
   clear h
   go_wp2_with fail
   refine HC.mono ?_
   rintro e wb ⟨rfl,h⟩
   clear HS HC
   have HS:=ac h
   have HC:=h.et'.minus hNb (2*c1'+4*c2'+8*c3+16*c4) (h.blk.seg_arg h.lz zo d cap (by omega) (by omega) (by omega) (by omega)) (aE (by have:=h.lt;have:=h.nt;omega) _ _) (by rw [show val (seg Z3 zo d)=c0 from CS0.out,hv3.out];omega)
   clear h
   go_wp2_with fail
   refine HC.mono ?_
   rintro e wc ⟨rfl,h⟩
   clear HS HC
   have HS:=ac h
   have HC:=h.half hNb (c1'+2*c2'+4*c3+8*c4) (by omega)
   clear h
   go_wp2_with fail
   refine HC.mono ?_
   rintro e wd' ⟨rfl,h⟩
   clear HS HC
   have HS:=ac h
   obtain⟨EL,hEL,vEL⟩:=h.ht.arg hNb
   have HC:=h.minusTimes hNb (c1'+4*c3+8*c4) 2 hEL (aE (Ne.symm h.et) _ _) (by rw [vEL];omega) (by omega) (by omega)
   rw [show ((2:Nat):Int)=2 from rfl] at HC
   clear h hEL vEL EL
   go_wp2_with fail
   refine HC.mono ?_
   rintro e we ⟨rfl,h⟩
   clear HS HC
   have HS:=ac h
   have HC:=h.minusTimes hNb (c1'+4*c3) 8 (h.blk.seg_arg h.lz zh (n - q) (cap - q) (by rcases HZH.out with h|h <;> omega) (by omega) (by omega) (by omega)) (aE (by have:=h.lt;have:=h.ne;omega) _ _) (by rw [show val (seg Z3 zh (n - q))=c4 from CS2.out];omega) (by omega) (by omega)
   rw [show ((8:Nat):Int)=8 from rfl] at HC
   clear h
   go_wp2_with fail
   refine HC.mono ?_
   rintro e wf ⟨rfl,h⟩
   clear HS HC
   have HS:=ac h
   obtain⟨EL,hEL,vEL⟩:=h.ho.arg hNb
   have HC:=h.minus hNb (3*c3) hEL (aE h.oe _ _) (by rw [vEL];omega)
   clear h hEL vEL EL
   go_wp2_with fail
   refine HC.mono ?_
   rintro e wg ⟨rfl,h⟩
   clear HS HC
   have HS:=ac h
   have HC:=h.third hNb c3 rfl
   clear h
   go_wp2_with fail
   refine HC.mono ?_
   rintro e wh ⟨rfl,h⟩
   clear HS HC
   have HS:=ac h
   obtain⟨EL,hEL,vEL⟩:=h.he.arg hNb
   have HC:=h.oe'.minus hNb c1' hEL (aE (Ne.symm h.oe) _ _) (by rw [vEL])
   clear h hEL vEL EL
   go_wp2_with fail
   refine HC.mono ?_
   rintro e wi ⟨rfl,h⟩
   clear HS HC
   have HS:=ac h
   obtain⟨EL,hEL,vEL⟩:=h.he.arg hNb
   have HC:=h.add zo n s (cap - s) hEL (aE (by have:=h.lt;have:=h.ne;omega) _ _) (by omega) (by omega) (by omega) (by omega) _ (by rw [vEL,CT.out];exact TOT.out.2.1) TOT.out.1
   rw [vEL,CT.out] at HC
   clear h hEL vEL EL
   go_wp2_with fail
   refine HC.mono ?_
   rintro e wj ⟨rfl,ZJ,h,OJ,SJ⟩
   have lJ:=OJ.len
   clear HS HC
   have HS:=ac h
   have HSJ:=ac SJ
   have HOJ:=ac OJ
   obtain⟨EL,hEL,vEL⟩:=h.ht.arg hNb
   have HC:=h.add zo n d (cap - d) hEL (aE (by have:=h.lt;have:=h.nt;omega) _ _) (by omega) (by omega) (by omega) (by omega) _ (by rw [vEL,SJ];exact TOT.out.2.2.1) TOT.out.1
   rw [vEL,SJ] at HC
   clear h hEL vEL EL OJ SJ
   go_wp2_with fail
   refine HC.mono ?_
   rintro e wk' ⟨rfl,ZK,h,OK',SK⟩
   have lK:=OK'.len
   clear HS HC HSJ
   have HS:=ac h
   have HSK:=ac SK
   have HOK:=ac (HOJ.out.trans OK')
   obtain⟨EL,hEL,vEL⟩:=h.ho.arg hNb
   have HC:=h.add zo n r (cap - r) hEL (aE (by have:=h.lt;have:=h.no;omega) _ _) (by omega) (by omega) (by omega) (by omega) _ (by rw [vEL,SK];exact Nat.le_of_eq TOT.out.2.2.2) TOT.out.1
   rw [vEL,SK] at HC
   clear h hEL vEL EL OK' SK
   go_wp2_with fail
   refine HC.mono ?_
   rintro e wl ⟨rfl,ZL,h,OL,SL⟩
   have HD:=ac (show aK bz zo n Z w (val X*val Y) (.returned (.tuple #[])) wl from ⟨rfl,ZL,CO.out.trans (HOK.out.trans OL),h.lz,h.blk,h.fr,by rw [SL,TOT.out.2.2.2]⟩)
   clear h OL SL HS HC HSK HOK
   go_wp2
   go_end0
   exact HD.out
 ·have kY:¬(d:Int)<(Y.length:Int):=by omega
  have hY0:val (Y.drop d)=0:=mg Y d (by omega)
  have CX:=HX3
  have CA:=HA4
  have CA2:=HA24
  have CF:=HF3
  have CB:=HB3
  have CL:=HL3
  have lC:zo+n≤Z2.length:=by omega
  have CO:=HO3
  have CS0:=S3
  have S2:sv Z2 zh (n - q)=val (X.drop d)*val (Y.drop d):=by
   rw [hY0,Nat.mul_zero]
   rcases HZH.out with h|h
   ·rw [h];exact S3c.out
   ·rw [h.2,aW]
  have CS2:=ac S2
  have CT:=ac (kF Z2 zo d q n zh _ _ (by omega) (by omega) (by omega) S3.out S3b.out S2 HZH.out)
  have hsz4:=hsz3
  have hk0:=hk2
  have hk1:=hk3
  clear hk2 hk3 HX3 HA4 HA24 HF3 HO3 S3 S3b S3c HB3 HL3 S2 hY0 l2 hYd
  have HV1:=fM b off c1 s X w3 CA.out hs0 (by omega) hXs hlX
  rw [show 2*s=d by omega] at HV1
  go_wp2_with fail
  refine HV1.mono ?_
  rintro e w5 ⟨gx,m,d2,d3,R,ex,MX,em,eR,rfl,hgx,BMX,bel5,QX⟩
  have HV2:=fM b2 off2 c2 s Y w5 (CA2.out.below bel5) hs0 (by omega) (by omega) (by omega)
  rw [show 2*s=d by omega] at HV2
  have HD5:=ac (And.intro BMX (And.intro bel5 QX))
  have HEM:=ac (And.intro em eR)
  have hm1:m≤s+1:=by omega
  have hm2:s+1≤m:=by omega
  have hR1:R≤4*m:=by omega
  have hR2:4*m≤R:=by omega
  clear BMX bel5 QX HV1 em eR
  generalize hbx:decide (val (X.take s)+val (X.drop d)<val ((X.drop s).take s))=bx
  have HBX:=ac hbx
  clear hbx
  go_wp2_with fail
  refine HV2.mono ?_
  rintro e w6 ⟨gy,m',d2',d3',R',ey,MY,em',eR',rfl,hgy,BMY,bel6,QY⟩
  obtain rfl:m=m':=by have:=HEM.out.1;omega
  obtain rfl:R=R':=by have:=HEM.out.2;omega
  obtain rfl:d2=d2':=by have:=HD5.out.2.2.h2;have:=QY.h2;omega
  obtain rfl:d3=d3':=by have:=HD5.out.2.2.h3;have:=QY.h3;omega
  obtain⟨BMX,bel5,QX⟩:=HD5.out
  have hd2a:d2≤m+m:=Nat.le_of_eq QX.h2
  have hd2b:m+m≤d2:=Nat.le_of_eq QX.h2.symm
  have hd3a:d3≤m+m+m:=Nat.le_of_eq QX.h3
  have hd3b:m+m+m≤d3:=Nat.le_of_eq QX.h3.symm
  have lX:m+m+m+m≤MX.length:=Nat.le_of_eq QX.len.symm
  have lY:m+m+m+m≤MY.length:=Nat.le_of_eq QY.len.symm
  generalize hby:decide (val (Y.take s)+val (Y.drop d)<val ((Y.drop s).take s))=by'
  obtain⟨w7,hw7⟩:∃w7,w7=(w6.alloc (.cells #[.slice (some ⟨gx,m,none⟩) m (R - m),.slice (some ⟨gx,d2,none⟩) m (R - d2),.slice (some ⟨gx,d3,none⟩) m (R - d3),.bool bx] 201)).alloc (.cells #[.slice (some ⟨gy,m,none⟩) m (R - m),.slice (some ⟨gy,d2,none⟩) m (R - d2),.slice (some ⟨gy,d3,none⟩) m (R - d3),.bool by'] 201):=⟨_,rfl⟩
  have bel7:Below w6.heap.size w6 w7:=by rw [hw7];exact ((Below.refl _ _).alloc (Nat.le_refl _) _).alloc (by simp) _
  obtain⟨kx,hkx⟩:∃k,k=w6.heap.size:=⟨_,rfl⟩
  have belC:Below w3.heap.size w3 w7:=bel5.trans ((bel6.mono bel5.size).trans (bel7.mono (Nat.le_trans bel5.size bel6.size)))
  have E7:Env w7 w.heap.size kx gx gy bz #[.int .i64 H,.int .i64 T] #[.slice (some ⟨gx,m,none⟩) m (R - m),.slice (some ⟨gx,d2,none⟩) m (R - d2),.slice (some ⟨gx,d3,none⟩) m (R - d3),.bool bx] #[.slice (some ⟨gy,m,none⟩) m (R - m),.slice (some ⟨gy,d2,none⟩) m (R - d2),.slice (some ⟨gy,d3,none⟩) m (R - d3),.bool by'] 117 201 MX MY Z2:=by
   refine⟨ff CX.out belC,?_,?_,(BMX.below' bel6).below' bel7,BMY.below' bel7,CB.out.below' belC⟩
   ·rw [hkx,hw7,Below.heap_alloc _ _ _ (by simp)];exact heap_alloc_new ..
   ·rw [hkx,hw7,show w6.heap.size+1=(w6.alloc (.cells #[.slice (some ⟨gx,m,none⟩) m (R - m),.slice (some ⟨gx,d2,none⟩) m (R - d2),.slice (some ⟨gx,d3,none⟩) m (R - d3),.bool bx] 201)).heap.size by simp];exact heap_alloc_new ..
  have hN:m+m=m+m:=rfl
  have HF1:=dY H T gx gy m m R n MX MY w7 _ _ E7.2.2.2.1 E7.2.2.2.2.1 QX.limbs QY.limbs (by omega) (by omega) (by omega) (by omega) (by omega) (by omega) QX.v1 QY.v1 HII.out (by omega)
  unfold way at HF1
  obtain⟨hq0,hq1'⟩:=dR E7.1
  obtain⟨hx0,_,_,_⟩:=aT E7.2.1
  obtain⟨hy0,_,_,_⟩:=aT E7.2.2.1
  have HE7:=ac E7
  have HQX:=ac QX
  have HQY:=ac QY
  have HBEL:=ac belC
  have HW7:=ac hw7
  have HKX:=ac hkx
  have HBY:=ac hby
  rw [hkx] at hx0 hy0
  rw [hw7] at hq0 hq1' hx0 hy0
  obtain⟨N,hNm,hN1,hN2⟩:∃N:Nat,m+m=N∧N≤2*m∧2*m≤N:=⟨_,rfl,by omega,by omega⟩
  have HNM:=ac hNm
  have hNb:N≤1125899906842624:=by omega
  rw [hNm] at HF1
  have hszC:=belC.size
  have hkx7:kx+1<w7.heap.size:=lt_of_block HE7.out.2.2.1
  have hkxb:w.heap.size<kx:=by have:=HKX.out;have:=bel5.size;have:=bel6.size;omega
  clear E7 QX QY belC bel5 bel6 bel7 BMX BMY hw7 hkx hby HD5 hgx hgy HV2 em' eR' hN hNm hk0 hk1
  go_wp2_with fail
  rw [←HW7.out,←HKX.out]
  clear hq0 hq1' hx0 hy0
  refine HF1.mono ?_
  rintro e w8 ⟨g1,V1,rfl,hg1,lV1,LV1,BV1,vV1,bel8⟩
  have E8:=HE7.out.below bel8
  have HF2:=dY H T gx gy d3 m R n MX MY w8 _ _ E8.2.2.2.1 E8.2.2.2.2.1 HQX.out.limbs HQY.out.limbs (by omega) (by omega) (by omega) (by omega) (by omega) (by omega) HQX.out.v3 HQY.out.v3 HII.out (by omega)
  unfold way at HF2
  rw [HNM.out] at HF2
  obtain⟨hq0,hq1'⟩:=dR E8.1
  obtain⟨_,_,hx2,_⟩:=aT E8.2.1
  obtain⟨_,_,hy2,_⟩:=aT E8.2.2.1
  have HE8:=ac E8
  have hlt1:=BV1.lt
  have hsz8:=bel8.size
  have HBEL8:=ac (HBEL.out.trans (bel8.mono HBEL.out.size))
  have HV1:Hid (bZ w8 g1 N _):=ac ⟨V1,BV1,LV1,lV1,vV1⟩
  clear E8 bel8 BV1 LV1 lV1 vV1 V1 HF1 HE7 HBEL
  go_wp2_with fail
  refine HF2.mono ?_
  rintro e w9 ⟨g2,V2,rfl,hg2,lV2,LV2,BV2,vV2,bel9⟩
  have E9:=HE8.out.below bel9
  have HF3:=dY H T gx gy d2 m R n MX MY w9 _ _ E9.2.2.2.1 E9.2.2.2.2.1 HQX.out.limbs HQY.out.limbs (by omega) (by omega) (by omega) (by omega) (by omega) (by omega) HQX.out.v2 HQY.out.v2 HII.out (by omega)
  unfold way at HF3
  rw [HNM.out] at HF3
  clear hq0 hq1' hx2 hy2
  obtain⟨hq0,hq1'⟩:=dR E9.1
  obtain⟨_,hx1,_,_⟩:=aT E9.2.1
  obtain⟨_,hy1,_,_⟩:=aT E9.2.2.1
  have HE9:=ac E9
  have hlt2:=BV2.lt
  have hsz9:=bel9.size
  have HBEL9:=ac (HBEL8.out.trans (bel9.mono HBEL8.out.size))
  have HV1':=ac (HV1.out.fr (Fr.of_below (bz:=bz) bel9) (by omega))
  have HV2:Hid (bZ w9 g2 N _):=ac ⟨V2,BV2,LV2,lV2,vV2⟩
  clear E9 bel9 BV2 LV2 lV2 vV2 V2 HF2 HE8 HBEL8 HV1
  go_wp2_with fail
  refine HF3.mono ?_
  rintro e w10 ⟨g3,V3,rfl,hg3,lV3,LV3,BV3,vV3,bel10⟩
  have E10:=HE9.out.below bel10
  have hlt3:=BV3.lt
  have HS0:=St3.mk (CF.out.trans (Fr.of_below (HBEL9.out.trans (bel10.mono HBEL9.out.size)))) E10.2.2.2.2.2 CL.out hbz (by omega) (by omega) (by omega) (by omega) (by omega) (by omega) (HV1'.out.fr (Fr.of_below (bz:=bz) bel10) (by omega)) (HV2.out.fr (Fr.of_below (bz:=bz) bel10) (by omega)) (⟨V3,BV3,LV3,lV3,vV3⟩:bZ w10 g3 N _) (Nat.le_refl w10.heap.size) (fun _ _ _ _ _ _=>rfl)
  have T1:=jF (val (X.take s)) (val ((X.drop s).take s)) (val (X.drop d)) (val (Y.take s)) (val ((Y.drop s).take s)) (val (Y.drop d))
  have T2:=kI (val (X.take s)) (val ((X.drop s).take s)) (val (X.drop d)) (val (Y.take s)) (val ((Y.drop s).take s)) (val (Y.drop d))
  have T3:=kO (val (X.take s)) (val ((X.drop s).take s)) (val (X.drop d)) (val (Y.take s)) (val ((Y.drop s).take s)) (val (Y.drop d)) _ _ rfl rfl
  rw [HBX.out,HBY.out] at T3
  have FT:=jB (val (X.take s)+val ((X.drop s).take s)+val (X.drop d)) (val (Y.take s)+val ((Y.drop s).take s)+val (Y.drop d)) s m (fS mX s d (by omega) ⟨by omega,by omega⟩ (by omega)) (fS mY s d (by omega) ⟨by omega,by omega⟩ (by omega)) HEM.out.1
  rw [HNM.out] at FT
  have TT:=ji (val (X.take s)) (val ((X.drop s).take s)) (val (X.drop d)) (val (Y.take s)) (val ((Y.drop s).take s)) (val (Y.drop d)) (18446744073709551616 ^ s)
  rw [←fw X s d (by omega) (by omega) (by omega),←fw Y s d (by omega) (by omega) (by omega),←Nat.pow_add,←Nat.pow_add,←Nat.pow_add,show s+s+(s+s)=q by omega,show s+s+s=r by omega,show s+s=d by omega] at TT
  obtain⟨c0,k0⟩:∃c,val (X.take s)*val (Y.take s)=c:=⟨_,rfl⟩
  obtain⟨c1',k1⟩:∃c,val (X.take s)*val ((Y.drop s).take s)+val ((X.drop s).take s)*val (Y.take s)=c:=⟨_,rfl⟩
  obtain⟨c2',k2⟩:∃c,val (X.take s)*val (Y.drop d)+val ((X.drop s).take s)*val ((Y.drop s).take s)+val (X.drop d)*val (Y.take s)=c:=⟨_,rfl⟩
  obtain⟨c3,k3⟩:∃c,val ((X.drop s).take s)*val (Y.drop d)+val (X.drop d)*val ((Y.drop s).take s)=c:=⟨_,rfl⟩
  obtain⟨c4,k4⟩:∃c,val (X.drop d)*val (Y.drop d)=c:=⟨_,rfl⟩
  rw [k0,k1,k2,k3,k4] at T1 T2 T3 TT
  rw [k0] at CS0
  rw [k0,k4] at CT
  rw [k4] at CS2
  clear k0 k1 k2 k3 k4
  obtain⟨v1,e1⟩:∃v,(val (X.take s)+val ((X.drop s).take s)+val (X.drop d))*(val (Y.take s)+val ((Y.drop s).take s)+val (Y.drop d))=v:=⟨_,rfl⟩
  obtain⟨v2,e2⟩:∃v,(if val (X.take s)+val (X.drop d)<val ((X.drop s).take s) then val ((X.drop s).take s) - (val (X.take s)+val (X.drop d)) else val (X.take s)+val (X.drop d) - val ((X.drop s).take s))*(if val (Y.take s)+val (Y.drop d)<val ((Y.drop s).take s) then val ((Y.drop s).take s) - (val (Y.take s)+val (Y.drop d)) else val (Y.take s)+val (Y.drop d) - val ((Y.drop s).take s))=v:=⟨_,rfl⟩
  obtain⟨v3,e3⟩:∃v,(val (X.take s)+val ((X.drop s).take s)*2+val (X.drop d)*4)*(val (Y.take s)+val ((Y.drop s).take s)*2+val (Y.drop d)*4)=v:=⟨_,rfl⟩
  rw [e1] at T1 T3 FT
  rw [e2] at T3
  rw [e3] at T2
  rw [e1,e2,e3] at HS0
  clear e1 e2 e3
  have hXY:val X*val Y<18446744073709551616 ^ n:=by
   rw [←HN.out,Nat.pow_add];exact Nat.mul_lt_mul'' (val_lt mX) (val_lt mY)
  have TOT:=ac (And.intro hXY (And.intro (show c0+18446744073709551616 ^ q*c4+18446744073709551616 ^ s*c1'≤val X*val Y by omega) (And.intro (show c0+18446744073709551616 ^ q*c4+18446744073709551616 ^ s*c1'+18446744073709551616 ^ d*c2'≤val X*val Y by omega) TT.symm)))
  have hv3:=ac T2
  have HFT:=ac FT
  have HE10:=ac E10
  have HT1:=ac T1
  clear hXY TT T1 T2 FT E10 bel10 BV3 LV3 lV3 vV3 V3 HF3 HE9 HBEL9 HV1' HV2 hq0 hq1' hx1 hy1 HQX HQY HBX HBY HEM HNM HW7 HKX mX mY CB CF CX CL CA CA2
  by_cases hsame:bx=by'
  ·subst hsame
   rw [if_pos rfl] at T3
   obtain⟨kv,hkv⟩:∃k,k=c0+c2'+c4:=⟨_,rfl⟩
   obtain⟨ov,hov⟩:∃k,k=c1'+c3:=⟨_,rfl⟩
   have HKV:=ac (show v2+v1=2*kv by omega)
   have HOV:=ac (show v1=ov+kv by have:=HT1.out;omega)
   have HDE:=ac (And.intro hkv hov)
   clear hkv hov T3
   obtain⟨EL,hEL,vEL⟩:=HS0.ho.arg hNb
   have HC:=HS0.plus hNb (v2+v1) hEL (aE HS0.oe _ _) (by rw [vEL]) (by have:=HKV.out;have:=HOV.out;have:=HFT.out;omega)
   have HS:=ac HS0
   clear hEL vEL EL HS0
   go_wp2_with fail
   refine HC.mono ?_
   rintro e wp1 ⟨rfl,h⟩
   clear HS HC
   have HS:=ac h
   have HC:=h.half hNb kv HKV.out
   clear h
   go_wp2_with fail
   refine HC.mono ?_
   rintro e wp2 ⟨rfl,h⟩
   clear HS HC
   have HS:=ac h
   obtain⟨EL,hEL,vEL⟩:=h.he.arg hNb
   have HC:=h.oe'.minus hNb ov hEL (aE (Ne.symm h.oe) _ _) (by rw [vEL];exact HOV.out)
   clear h hEL vEL EL
   go_wp2_with fail
   refine HC.mono ?_
   rintro e wp3 ⟨rfl,h⟩
   clear HS HC
   obtain⟨_,_,_,hx3⟩:=aT ((h.keep kx (by omega) (by omega) (by omega) (by omega) (by omega)).trans HE10.out.2.1)
   obtain⟨_,_,_,hy3⟩:=aT ((h.keep (kx+1) (by omega) (by omega) (by omega) (by omega) (by omega)).trans HE10.out.2.2.1)
   have HS:=ac h.oe'
   rw [HDE.out.1,HDE.out.2] at HS
   clear h
   have h:=HS.out
   have HC:=h.minus hNb (c2'+c4) (h.blk.seg_arg h.lz zo d cap (by omega) (by omega) (by omega) (by omega)) (aE (by have:=h.lt;have:=h.ne;omega) _ _) (by rw [show val (seg Z2 zo d)=c0 from CS0.out];omega)
   clear h
   go_wp2_with fail
   refine HC.mono ?_
   rintro e wa ⟨rfl,h⟩
   clear HS HC
   have HS:=ac h
   have HC:=h.minus hNb c2' (h.blk.seg_arg h.lz zh (n - q) (cap - q) (by rcases HZH.out with h|h <;> omega) (by omega) (by omega) (by omega)) (aE (by have:=h.lt;have:=h.ne;omega) _ _) (by rw [show val (seg Z2 zh (n - q))=c4 from CS2.out])
   clear h
   go_wp2_with fail
   refine HC.mono ?_
   rintro e wb ⟨rfl,h⟩
   clear HS HC
   have HS:=ac h
   have HC:=h.et'.minus hNb (2*c1'+4*c2'+8*c3+16*c4) (h.blk.seg_arg h.lz zo d cap (by omega) (by omega) (by omega) (by omega)) (aE (by have:=h.lt;have:=h.nt;omega) _ _) (by rw [show val (seg Z2 zo d)=c0 from CS0.out,hv3.out];omega)
   clear h
   go_wp2_with fail
   refine HC.mono ?_
   rintro e wc ⟨rfl,h⟩
   clear HS HC
   have HS:=ac h
   have HC:=h.half hNb (c1'+2*c2'+4*c3+8*c4) (by omega)
   clear h
   go_wp2_with fail
   refine HC.mono ?_
   rintro e wd' ⟨rfl,h⟩
   clear HS HC
   have HS:=ac h
   obtain⟨EL,hEL,vEL⟩:=h.ht.arg hNb
   have HC:=h.minusTimes hNb (c1'+4*c3+8*c4) 2 hEL (aE (Ne.symm h.et) _ _) (by rw [vEL];omega) (by omega) (by omega)
   rw [show ((2:Nat):Int)=2 from rfl] at HC
   clear h hEL vEL EL
   go_wp2_with fail
   refine HC.mono ?_
   rintro e we ⟨rfl,h⟩
   clear HS HC
   have HS:=ac h
   have HC:=h.minusTimes hNb (c1'+4*c3) 8 (h.blk.seg_arg h.lz zh (n - q) (cap - q) (by rcases HZH.out with h|h <;> omega) (by omega) (by omega) (by omega)) (aE (by have:=h.lt;have:=h.ne;omega) _ _) (by rw [show val (seg Z2 zh (n - q))=c4 from CS2.out];omega) (by omega) (by omega)
   rw [show ((8:Nat):Int)=8 from rfl] at HC
   clear h
   go_wp2_with fail
   refine HC.mono ?_
   rintro e wf ⟨rfl,h⟩
   clear HS HC
   have HS:=ac h
   obtain⟨EL,hEL,vEL⟩:=h.ho.arg hNb
   have HC:=h.minus hNb (3*c3) hEL (aE h.oe _ _) (by rw [vEL];omega)
   clear h hEL vEL EL
   go_wp2_with fail
   refine HC.mono ?_
   rintro e wg ⟨rfl,h⟩
   clear HS HC
   have HS:=ac h
   have HC:=h.third hNb c3 rfl
   clear h
   go_wp2_with fail
   refine HC.mono ?_
   rintro e wh ⟨rfl,h⟩
   clear HS HC
   have HS:=ac h
   obtain⟨EL,hEL,vEL⟩:=h.he.arg hNb
   have HC:=h.oe'.minus hNb c1' hEL (aE (Ne.symm h.oe) _ _) (by rw [vEL])
   clear h hEL vEL EL
   go_wp2_with fail
   refine HC.mono ?_
   rintro e wi ⟨rfl,h⟩
   clear HS HC
   have HS:=ac h
   obtain⟨EL,hEL,vEL⟩:=h.he.arg hNb
   have HC:=h.add zo n s (cap - s) hEL (aE (by have:=h.lt;have:=h.ne;omega) _ _) (by omega) (by omega) (by omega) (by omega) _ (by rw [vEL,CT.out];exact TOT.out.2.1) TOT.out.1
   rw [vEL,CT.out] at HC
   clear h hEL vEL EL
   go_wp2_with fail
   refine HC.mono ?_
   rintro e wj ⟨rfl,ZJ,h,OJ,SJ⟩
   have lJ:=OJ.len
   clear HS HC
   have HS:=ac h
   have HSJ:=ac SJ
   have HOJ:=ac OJ
   obtain⟨EL,hEL,vEL⟩:=h.ht.arg hNb
   have HC:=h.add zo n d (cap - d) hEL (aE (by have:=h.lt;have:=h.nt;omega) _ _) (by omega) (by omega) (by omega) (by omega) _ (by rw [vEL,SJ];exact TOT.out.2.2.1) TOT.out.1
   rw [vEL,SJ] at HC
   clear h hEL vEL EL OJ SJ
   go_wp2_with fail
   refine HC.mono ?_
   rintro e wk' ⟨rfl,ZK,h,OK',SK⟩
   have lK:=OK'.len
   clear HS HC HSJ
   have HS:=ac h
   have HSK:=ac SK
   have HOK:=ac (HOJ.out.trans OK')
   obtain⟨EL,hEL,vEL⟩:=h.ho.arg hNb
   have HC:=h.add zo n r (cap - r) hEL (aE (by have:=h.lt;have:=h.no;omega) _ _) (by omega) (by omega) (by omega) (by omega) _ (by rw [vEL,SK];exact Nat.le_of_eq TOT.out.2.2.2) TOT.out.1
   rw [vEL,SK] at HC
   clear h hEL vEL EL OK' SK
   go_wp2_with fail
   refine HC.mono ?_
   rintro e wl ⟨rfl,ZL,h,OL,SL⟩
   have HD:=ac (show aK bz zo n Z w (val X*val Y) (.returned (.tuple #[])) wl from ⟨rfl,ZL,CO.out.trans (HOK.out.trans OL),h.lz,h.blk,h.fr,by rw [SL,TOT.out.2.2.2]⟩)
   clear h OL SL HS HC HSK HOK
   go_wp2
   go_end0
   exact HD.out
  ·rw [if_neg hsame] at T3
   obtain⟨kv,hkv⟩:∃k,k=c1'+c3:=⟨_,rfl⟩
   obtain⟨ov,hov⟩:∃k,k=c0+c2'+c4:=⟨_,rfl⟩
   have HKV:=ac (show v2+v1=2*kv by omega)
   have HOV:=ac (show v1=ov+kv by have:=HT1.out;omega)
   have HDE:=ac (And.intro hkv hov)
   have hs1':(bx == by')=false:=by simpa using hsame
   have hs2':decide (bx=by')=false:=by simpa using hsame
   clear hkv hov T3
   obtain⟨EL,hEL,vEL⟩:=HS0.ho.arg hNb
   have HC:=HS0.plus hNb (v2+v1) hEL (aE HS0.oe _ _) (by rw [vEL]) (by have:=HKV.out;have:=HOV.out;have:=HFT.out;omega)
   have HS:=ac HS0
   clear hEL vEL EL HS0
   go_wp2_with fail
   refine HC.mono ?_
   rintro e wp1 ⟨rfl,h⟩
   clear HS HC
   have HS:=ac h
   have HC:=h.half hNb kv HKV.out
   clear h
   go_wp2_with fail
   refine HC.mono ?_
   rintro e wp2 ⟨rfl,h⟩
   clear HS HC
   have HS:=ac h
   obtain⟨EL,hEL,vEL⟩:=h.he.arg hNb
   have HC:=h.oe'.minus hNb ov hEL (aE (Ne.symm h.oe) _ _) (by rw [vEL];exact HOV.out)
   clear h hEL vEL EL
   go_wp2_with fail
   refine HC.mono ?_
   rintro e wp3 ⟨rfl,h⟩
   clear HS HC
   obtain⟨_,_,_,hx3⟩:=aT ((h.keep kx (by omega) (by omega) (by omega) (by omega) (by omega)).trans HE10.out.2.1)
   obtain⟨_,_,_,hy3⟩:=aT ((h.keep (kx+1) (by omega) (by omega) (by omega) (by omega) (by omega)).trans HE10.out.2.2.1)
   have HS:=ac h
   rw [HDE.out.1,HDE.out.2] at HS
   clear h
   have h:=HS.out
   have HC:=h.minus hNb (c2'+c4) (h.blk.seg_arg h.lz zo d cap (by omega) (by omega) (by omega) (by omega)) (aE (by have:=h.lt;have:=h.ne;omega) _ _) (by rw [show val (seg Z2 zo d)=c0 from CS0.out];omega)
   clear h
   go_wp2_with fail
   refine HC.mono ?_
   rintro e wa ⟨rfl,h⟩
   clear HS HC
   have HS:=ac h
   have HC:=h.minus hNb c2' (h.blk.seg_arg h.lz zh (n - q) (cap - q) (by rcases HZH.out with h|h <;> omega) (by omega) (by omega) (by omega)) (aE (by have:=h.lt;have:=h.ne;omega) _ _) (by rw [show val (seg Z2 zh (n - q))=c4 from CS2.out])
   clear h
   go_wp2_with fail
   refine HC.mono ?_
   rintro e wb ⟨rfl,h⟩
   clear HS HC
   have HS:=ac h
   have HC:=h.et'.minus hNb (2*c1'+4*c2'+8*c3+16*c4) (h.blk.seg_arg h.lz zo d cap (by omega) (by omega) (by omega) (by omega)) (aE (by have:=h.lt;have:=h.nt;omega) _ _) (by rw [show val (seg Z2 zo d)=c0 from CS0.out,hv3.out];omega)
   clear h
   go_wp2_with fail
   refine HC.mono ?_
   rintro e wc ⟨rfl,h⟩
   clear HS HC
   have HS:=ac h
   have HC:=h.half hNb (c1'+2*c2'+4*c3+8*c4) (by omega)
   clear h
   go_wp2_with fail
   refine HC.mono ?_
   rintro e wd' ⟨rfl,h⟩
   clear HS HC
   have HS:=ac h
   obtain⟨EL,hEL,vEL⟩:=h.ht.arg hNb
   have HC:=h.minusTimes hNb (c1'+4*c3+8*c4) 2 hEL (aE (Ne.symm h.et) _ _) (by rw [vEL];omega) (by omega) (by omega)
   rw [show ((2:Nat):Int)=2 from rfl] at HC
   clear h hEL vEL EL
   go_wp2_with fail
   refine HC.mono ?_
   rintro e we ⟨rfl,h⟩
   clear HS HC
   have HS:=ac h
   have HC:=h.minusTimes hNb (c1'+4*c3) 8 (h.blk.seg_arg h.lz zh (n - q) (cap - q) (by rcases HZH.out with h|h <;> omega) (by omega) (by omega) (by omega)) (aE (by have:=h.lt;have:=h.ne;omega) _ _) (by rw [show val (seg Z2 zh (n - q))=c4 from CS2.out];omega) (by omega) (by omega)
   rw [show ((8:Nat):Int)=8 from rfl] at HC
   clear h
   go_wp2_with fail
   refine HC.mono ?_
   rintro e wf ⟨rfl,h⟩
   clear HS HC
   have HS:=ac h
   obtain⟨EL,hEL,vEL⟩:=h.ho.arg hNb
   have HC:=h.minus hNb (3*c3) hEL (aE h.oe _ _) (by rw [vEL];omega)
   clear h hEL vEL EL
   go_wp2_with fail
   refine HC.mono ?_
   rintro e wg ⟨rfl,h⟩
   clear HS HC
   have HS:=ac h
   have HC:=h.third hNb c3 rfl
   clear h
   go_wp2_with fail
   refine HC.mono ?_
   rintro e wh ⟨rfl,h⟩
   clear HS HC
   have HS:=ac h
   obtain⟨EL,hEL,vEL⟩:=h.he.arg hNb
   have HC:=h.oe'.minus hNb c1' hEL (aE (Ne.symm h.oe) _ _) (by rw [vEL])
   clear h hEL vEL EL
   go_wp2_with fail
   refine HC.mono ?_
   rintro e wi ⟨rfl,h⟩
   clear HS HC
   have HS:=ac h
   obtain⟨EL,hEL,vEL⟩:=h.he.arg hNb
   have HC:=h.add zo n s (cap - s) hEL (aE (by have:=h.lt;have:=h.ne;omega) _ _) (by omega) (by omega) (by omega) (by omega) _ (by rw [vEL,CT.out];exact TOT.out.2.1) TOT.out.1
   rw [vEL,CT.out] at HC
   clear h hEL vEL EL
   go_wp2_with fail
   refine HC.mono ?_
   rintro e wj ⟨rfl,ZJ,h,OJ,SJ⟩
   have lJ:=OJ.len
   clear HS HC
   have HS:=ac h
   have HSJ:=ac SJ
   have HOJ:=ac OJ
   obtain⟨EL,hEL,vEL⟩:=h.ht.arg hNb
   have HC:=h.add zo n d (cap - d) hEL (aE (by have:=h.lt;have:=h.nt;omega) _ _) (by omega) (by omega) (by omega) (by omega) _ (by rw [vEL,SJ];exact TOT.out.2.2.1) TOT.out.1
   rw [vEL,SJ] at HC
   clear h hEL vEL EL OJ SJ
   go_wp2_with fail
   refine HC.mono ?_
   rintro e wk' ⟨rfl,ZK,h,OK',SK⟩
   have lK:=OK'.len
   clear HS HC HSJ
   have HS:=ac h
   have HSK:=ac SK
   have HOK:=ac (HOJ.out.trans OK')
   obtain⟨EL,hEL,vEL⟩:=h.ho.arg hNb
   have HC:=h.add zo n r (cap - r) hEL (aE (by have:=h.lt;have:=h.no;omega) _ _) (by omega) (by omega) (by omega) (by omega) _ (by rw [vEL,SK];exact Nat.le_of_eq TOT.out.2.2.2) TOT.out.1
   rw [vEL,SK] at HC
   clear h hEL vEL EL OK' SK
   go_wp2_with fail
   refine HC.mono ?_
   rintro e wl ⟨rfl,ZL,h,OL,SL⟩
   have HD:=ac (show aK bz zo n Z w (val X*val Y) (.returned (.tuple #[])) wl from ⟨rfl,ZL,CO.out.trans (HOK.out.trans OL),h.lz,h.blk,h.fr,by rw [SL,TOT.out.2.2.2]⟩)
   clear h OL SL HS HC HSK HOK
   go_wp2
   go_end0
   exact HD.out

theorem Arg.addr {w:World}{v:Value}{X:List Nat}(h:Arg w v X)(h0:0<X.length):∃b off c,v=.slice (some ⟨b,off,none⟩) X.length c:=by
 obtain⟨ao,c,rfl,_,_,hl⟩:=h.form
 rcases hl with h1|⟨b,off,rfl,_⟩
 ·rw [h1] at h0;simp at h0
 ·exact⟨b,off,c,rfl⟩

theorem rt (H T:Int)(hH:2≤H)(hT:3≤T)(P Q:List Nat)(hle:Q.length≤P.length)(hb4:P.length+Q.length≤4398046511103)(hns:¬((Q.length:Int)<H∧(Q.length:Int)<T))(hI:∀X Y:List Nat,X.length+Y.length<P.length+Q.length→cf H T X Y):cf H T P Q:=by
 intro bz zo cap Z va vb w hB hLZ hAP hAQ ho ho2 hzo hc1 hc2
 have hQ0:2≤Q.length:=by omega
 obtain⟨b,off,c1,rfl⟩:=hAP.addr (by omega)
 obtain⟨b2,off2,c2,rfl⟩:=hAQ.addr (by omega)
 have hb:=ho _ _ _ _ rfl
 have hb2:=ho2 _ _ _ _ rfl
 unfold way
 have hd0:decide ((P.length:Int)<(Q.length:Int))=false:=decide_eq_false (by omega)
 obtain⟨_,_,e0,hcc1,hcm1,_⟩:=hAP.form
 cases e0
 obtain⟨_,_,e0,hcc2,hcm2,_⟩:=hAQ.form
 cases e0
 have fP:=hAP.few
 have fQ:=hAQ.few
 obtain⟨hf,ehf,hf1,hf2⟩:∃k:Nat,((P.length:Int)+1) / 2=(k:Int)∧2*k≤P.length+1∧P.length≤2*k:=⟨(P.length+1) / 2,by omega,by omega,by omega⟩
 obtain⟨th,eth,ht1,ht2⟩:∃k:Nat,((P.length:Int)+2) / 3=(k:Int)∧3*k≤P.length+2∧P.length≤3*k:=⟨(P.length+2) / 3,by omega,by omega,by omega⟩
 obtain⟨t2,et2,ht3,ht4⟩:∃k:Nat,(2:Int)*(th:Int)=(k:Int)∧k≤2*th∧2*th≤k:=⟨2*th,by omega,by omega,by omega⟩
 by_cases hTl:T≤(Q.length:Int)
 ·have d1:decide ((Q.length:Int)<T)=false:=decide_eq_false (by omega)
  by_cases h2:t2≤Q.length
  ·have i2:(t2:Int)≤(Q.length:Int):=by omega
   have HC:=jI H T bz zo cap th Z b off c1 b2 off2 c2 P Q (w.alloc (.cells #[.int .i64 H,.int .i64 T] 117)) (hB.alloc _) hLZ (hAP.more _) (hAQ.more _) hb hb2 hzo hc1 hc2 (by omega) (by omega) hle (by omega) (by omega) (by omega) hI
   unfold way at HC
   by_cases hHl:(Q.length:Int)<H
   ·have d2:decide ((Q.length:Int)<H)=true:=decide_eq_true hHl
    go_enter Tryz.func175,Tryz.ntmps175
    go_wp2_with fail
    refine HC.mono ?_
    rintro e w2 hd
    have HD:=ac (aK.after hd (Fr.alloc bz w _))
    obtain⟨he,_⟩:=hd
    subst he
    clear hAP hAQ hB HC
    go_wp2
    go_end0
    exact HD.out
   ·have d2:decide ((Q.length:Int)<H)=false:=decide_eq_false hHl
    go_enter Tryz.func175,Tryz.ntmps175
    go_wp2_with fail
    refine HC.mono ?_
    rintro e w2 hd
    have HD:=ac (aK.after hd (Fr.alloc bz w _))
    obtain⟨he,_⟩:=hd
    subst he
    clear hAP hAQ hB HC
    go_wp2
    go_end0
    exact HD.out
  ·have i2:decide ((t2:Int)≤(Q.length:Int))=false:=decide_eq_false (by omega)
   have HC:=fI H T bz zo cap Z _ _ P Q (w.alloc (.cells #[.int .i64 H,.int .i64 T] 117)) (hB.alloc _) hLZ (hAP.more _) (hAQ.more _) (aE hb _ _) (aE hb2 _ _) hzo hc1 hc2 (by omega) (by omega) (fun t _=>hI _ _ (by simp;omega))
   unfold way at HC
   by_cases hHl:(Q.length:Int)<H
   ·have d2:decide ((Q.length:Int)<H)=true:=decide_eq_true hHl
    go_enter Tryz.func175,Tryz.ntmps175
    go_wp2_with fail
    refine HC.mono ?_
    rintro e w2 hd
    have HD:=ac (aK.after hd (Fr.alloc bz w _))
    obtain⟨he,_⟩:=hd
    subst he
    clear hAP hAQ hB HC
    go_wp2
    go_end0
    exact HD.out
   ·have d2:decide ((Q.length:Int)<H)=false:=decide_eq_false hHl
    go_enter Tryz.func175,Tryz.ntmps175
    go_wp2_with fail
    refine HC.mono ?_
    rintro e w2 hd
    have HD:=ac (aK.after hd (Fr.alloc bz w _))
    obtain⟨he,_⟩:=hd
    subst he
    clear hAP hAQ hB HC
    go_wp2
    go_end0
    exact HD.out
 ·have d1:(Q.length:Int)<T:=by omega
  have d0:decide (T≤(Q.length:Int))=false:=decide_eq_false (by omega)
  have d2:decide ((Q.length:Int)<H)=false:=decide_eq_false (by omega)
  by_cases h3:hf<Q.length
  ·have i3:(hf:Int)<(Q.length:Int):=by omega
   have HC:=j6 H T bz zo cap hf Z b off c1 b2 off2 c2 P Q (w.alloc (.cells #[.int .i64 H,.int .i64 T] 117)) (hB.alloc _) hLZ (hAP.more _) (hAQ.more _) hb hb2 hzo hc1 hc2 (by omega) h3 hle (by omega) (by omega) hI
   unfold way at HC
   go_enter Tryz.func175,Tryz.ntmps175
   go_wp2_with fail
   refine HC.mono ?_
   rintro e w2 hd
   have HD:=ac (aK.after hd (Fr.alloc bz w _))
   obtain⟨he,_⟩:=hd
   subst he
   clear hAP hAQ hB HC
   go_wp2
   go_end0
   exact HD.out
  ·have i3:decide ((hf:Int)<(Q.length:Int))=false:=decide_eq_false (by omega)
   have HC:=fI H T bz zo cap Z _ _ P Q (w.alloc (.cells #[.int .i64 H,.int .i64 T] 117)) (hB.alloc _) hLZ (hAP.more _) (hAQ.more _) (aE hb _ _) (aE hb2 _ _) hzo hc1 hc2 (by omega) (by omega) (fun t _=>hI _ _ (by simp;omega))
   unfold way at HC
   go_enter Tryz.func175,Tryz.ntmps175
   go_wp2_with fail
   refine HC.mono ?_
   rintro e w2 hd
   have HD:=ac (aK.after hd (Fr.alloc bz w _))
   obtain⟨he,_⟩:=hd
   subst he
   clear hAP hAQ hB HC
   go_wp2
   go_end0
   exact HD.out

theorem oX (H T:Int)(hH:2≤H)(hT:3≤T)(P Q:List Nat)(hlt:Q.length<P.length)(hb4:P.length+Q.length≤4398046511103)(hns:¬((Q.length:Int)<H∧(Q.length:Int)<T))(hI:∀X Y:List Nat,X.length+Y.length<P.length+Q.length→cf H T X Y):cf H T Q P:=by
 intro bz zo cap Z va vb w hB hLZ hAQ hAP ho2 ho hzo hc1 hc2
 have hQ0:2≤Q.length:=by omega
 have hle:Q.length≤P.length:=by omega
 obtain⟨b,off,c1,rfl⟩:=hAP.addr (by omega)
 obtain⟨b2,off2,c2,rfl⟩:=hAQ.addr (by omega)
 have hb:=ho _ _ _ _ rfl
 have hb2:=ho2 _ _ _ _ rfl
 unfold way
 rw [Nat.add_comm Q.length,Nat.mul_comm (val Q)]
 rw [Nat.add_comm Q.length] at hzo hc1
 have hd0:(Q.length:Int)<(P.length:Int):=by omega
 obtain⟨_,_,e0,hcc1,hcm1,_⟩:=hAP.form
 cases e0
 obtain⟨_,_,e0,hcc2,hcm2,_⟩:=hAQ.form
 cases e0
 have fP:=hAP.few
 have fQ:=hAQ.few
 obtain⟨hf,ehf,hf1,hf2⟩:∃k:Nat,((P.length:Int)+1) / 2=(k:Int)∧2*k≤P.length+1∧P.length≤2*k:=⟨(P.length+1) / 2,by omega,by omega,by omega⟩
 obtain⟨th,eth,ht1,ht2⟩:∃k:Nat,((P.length:Int)+2) / 3=(k:Int)∧3*k≤P.length+2∧P.length≤3*k:=⟨(P.length+2) / 3,by omega,by omega,by omega⟩
 obtain⟨t2,et2,ht3,ht4⟩:∃k:Nat,(2:Int)*(th:Int)=(k:Int)∧k≤2*th∧2*th≤k:=⟨2*th,by omega,by omega,by omega⟩
 by_cases hTl:T≤(Q.length:Int)
 ·have d1:decide ((Q.length:Int)<T)=false:=decide_eq_false (by omega)
  by_cases h2:t2≤Q.length
  ·have i2:(t2:Int)≤(Q.length:Int):=by omega
   have HC:=jI H T bz zo cap th Z b off c1 b2 off2 c2 P Q (w.alloc (.cells #[.int .i64 H,.int .i64 T] 117)) (hB.alloc _) hLZ (hAP.more _) (hAQ.more _) hb hb2 hzo hc1 hc2 (by omega) (by omega) hle (by omega) (by omega) (by omega) hI
   unfold way at HC
   by_cases hHl:(Q.length:Int)<H
   ·have d2:decide ((Q.length:Int)<H)=true:=decide_eq_true hHl
    go_enter Tryz.func175,Tryz.ntmps175
    go_wp2_with fail
    refine HC.mono ?_
    rintro e w2 hd
    have HD:=ac (aK.after hd (Fr.alloc bz w _))
    obtain⟨he,_⟩:=hd
    subst he
    clear hAP hAQ hB HC
    go_wp2
    go_end0
    exact HD.out
   ·have d2:decide ((Q.length:Int)<H)=false:=decide_eq_false hHl
    go_enter Tryz.func175,Tryz.ntmps175
    go_wp2_with fail
    refine HC.mono ?_
    rintro e w2 hd
    have HD:=ac (aK.after hd (Fr.alloc bz w _))
    obtain⟨he,_⟩:=hd
    subst he
    clear hAP hAQ hB HC
    go_wp2
    go_end0
    exact HD.out
  ·have i2:decide ((t2:Int)≤(Q.length:Int))=false:=decide_eq_false (by omega)
   have HC:=fI H T bz zo cap Z _ _ P Q (w.alloc (.cells #[.int .i64 H,.int .i64 T] 117)) (hB.alloc _) hLZ (hAP.more _) (hAQ.more _) (aE hb _ _) (aE hb2 _ _) hzo hc1 hc2 (by omega) (by omega) (fun t _=>hI _ _ (by simp;omega))
   unfold way at HC
   by_cases hHl:(Q.length:Int)<H
   ·have d2:decide ((Q.length:Int)<H)=true:=decide_eq_true hHl
    go_enter Tryz.func175,Tryz.ntmps175
    go_wp2_with fail
    refine HC.mono ?_
    rintro e w2 hd
    have HD:=ac (aK.after hd (Fr.alloc bz w _))
    obtain⟨he,_⟩:=hd
    subst he
    clear hAP hAQ hB HC
    go_wp2
    go_end0
    exact HD.out
   ·have d2:decide ((Q.length:Int)<H)=false:=decide_eq_false hHl
    go_enter Tryz.func175,Tryz.ntmps175
    go_wp2_with fail
    refine HC.mono ?_
    rintro e w2 hd
    have HD:=ac (aK.after hd (Fr.alloc bz w _))
    obtain⟨he,_⟩:=hd
    subst he
    clear hAP hAQ hB HC
    go_wp2
    go_end0
    exact HD.out
 ·have d1:(Q.length:Int)<T:=by omega
  have d0:decide (T≤(Q.length:Int))=false:=decide_eq_false (by omega)
  have d2:decide ((Q.length:Int)<H)=false:=decide_eq_false (by omega)
  by_cases h3:hf<Q.length
  ·have i3:(hf:Int)<(Q.length:Int):=by omega
   have HC:=j6 H T bz zo cap hf Z b off c1 b2 off2 c2 P Q (w.alloc (.cells #[.int .i64 H,.int .i64 T] 117)) (hB.alloc _) hLZ (hAP.more _) (hAQ.more _) hb hb2 hzo hc1 hc2 (by omega) h3 hle (by omega) (by omega) hI
   unfold way at HC
   go_enter Tryz.func175,Tryz.ntmps175
   go_wp2_with fail
   refine HC.mono ?_
   rintro e w2 hd
   have HD:=ac (aK.after hd (Fr.alloc bz w _))
   obtain⟨he,_⟩:=hd
   subst he
   clear hAP hAQ hB HC
   go_wp2
   go_end0
   exact HD.out
  ·have i3:decide ((hf:Int)<(Q.length:Int))=false:=decide_eq_false (by omega)
   have HC:=fI H T bz zo cap Z _ _ P Q (w.alloc (.cells #[.int .i64 H,.int .i64 T] 117)) (hB.alloc _) hLZ (hAP.more _) (hAQ.more _) (aE hb _ _) (aE hb2 _ _) hzo hc1 hc2 (by omega) (by omega) (fun t _=>hI _ _ (by simp;omega))
   unfold way at HC
   go_enter Tryz.func175,Tryz.ntmps175
   go_wp2_with fail
   refine HC.mono ?_
   rintro e w2 hd
   have HD:=ac (aK.after hd (Fr.alloc bz w _))
   obtain⟨he,_⟩:=hd
   subst he
   clear hAP hAQ hB HC
   go_wp2
   go_end0
   exact HD.out

theorem nT (H T:Int)(hH:2≤H)(hT:3≤T):∀(k:Nat) (X Y:List Nat),X.length+Y.length≤k→k≤4398046511103→cf H T X Y:=by
 intro k
 induction k with
 | zero=>
  intro X Y h _
  exact gP H T X Y (.inr ⟨by omega,by omega,by omega⟩)
 | succ k ih=>
  intro X Y h hk
  have hI:∀P Q:List Nat,P.length+Q.length<X.length+Y.length→cf H T P Q:=fun P Q hl=>ih P Q (by omega) (by omega)
  by_cases hlt:X.length<Y.length
  ·by_cases hs:(X.length:Int)<H∧(X.length:Int)<T
   ·exact gP H T X Y (.inl ⟨hlt,hs⟩)
   ·exact oX H T hH hT Y X hlt (by omega) hs (fun P Q hl=>hI P Q (by omega))
  ·by_cases hs:(Y.length:Int)<H∧(Y.length:Int)<T
   ·exact gP H T X Y (.inr ⟨by omega,hs⟩)
   ·exact rt H T hH hT X Y (by omega) (by omega) hs hI
end Go.Proofs.YtdbjbbdhlpfhjaaGreatDoor

