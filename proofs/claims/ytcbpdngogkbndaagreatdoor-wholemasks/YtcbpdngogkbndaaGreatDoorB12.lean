/- Package whole: logic over and, or, exclusive or; And, Or, Xor. -/
import Derived.Test.YtcbpdngogkbndaaGreatDoorB11
import Derived.Test.YtcbpdngogkbndaaGreatDoorB02
import Derived.Test.YtcbpdngogkbndaaGreatDoorB01
import Derived.Laws.AppendOwnNone
set_option maxRecDepth 20000
set_option maxHeartbeats 8000000
namespace Go.Proofs.YtcbpdngogkbndaaGreatDoor
open Go.RowKit
open Lm
attribute [local go_sem ↓] Go.wp_at_zero Go.wp_at_succ

theorem ag {W0 W t:World}(h:Below W0.heap.size W0 W)(h2:Below W.heap.size W t):Below W0.heap.size W0 t:=h.trans (h2.mono h.size)

theorem hC (b1 b2:Bool)(v1 v2:Value)(X Y:List Nat)(w:World)(hA:Arg w v1 X)(hB:Arg w v2 Y)(hf:X.length≤17592186044416)(hg:Y.length≤17592186044416) :
  Calls Tryz.prog 32 #[.agg #[.bool b1,v1],.agg #[.bool b2,v2],.func (.func 33) #[] #[]] w fun e w'=>aZ w' w.heap.size e (bn (zz b1 (val X)) (zz b2 (val Y)))∧Below w.heap.size w w':=by
 obtain⟨a1,c1,rfl,_,_,_⟩:=hA.form
 obtain⟨a2,c2,rfl,_,_,_⟩:=hB.form
 obtain⟨w0,hw0,hb0,h0,h1,h2⟩:=bJ w (.cells #[.bool b1,.slice a1 X.length c1] 27) (.cells #[.bool b2,.slice a2 Y.length c2] 27) (.cells #[.bool false,.slice none 0 0] 27)
 obtain⟨k0,k1⟩:=duo h0
 obtain⟨k2,k3⟩:=duo h1
 obtain⟨m,em,hm1,hm2,hm3⟩:∃m:Nat,max (X.length:Int) (Y.length:Int)=(m:Int)∧X.length≤m∧Y.length≤m∧m≤17592186044416:=⟨max X.length Y.length,by omega,by omega,by omega,by omega⟩
 obtain⟨n,en,hn1,hn2⟩:∃n:Nat,(m:Int)+1=(n:Int)∧m<n∧n≤m+1:=⟨m+1,by omega,by omega,by omega⟩
 have en2:(n:Int) - 1=(m:Int):=by omega
 have C1:=aa (fun (W:World) (hg:Below w0.heap.size w0 W)=>ck b1 _ X n W ((hA.below hb0).below hg) (by omega) (by omega))
 have C2:=aa (fun (W:World) (hg:Below w0.heap.size w0 W)=>ck b2 _ Y n W ((hB.below hb0).below hg) (by omega) (by omega))
 have HM1:=aa (ct (b:=b1) hA.limbs hm1)
 have HM2:=aa (ct (b:=b2) hB.limbs hm2)
 have KS:=aa (fun (W:World) (hg:Below w0.heap.size w0 W)=>show (W.cell? ⟨w.heap.size,0,none⟩=some (.bool b1)∧W.cell? ⟨w.heap.size,1,none⟩=some (.slice a1 X.length c1))∧W.cell? ⟨w.heap.size+1,0,none⟩=some (.bool b2)∧W.cell? ⟨w.heap.size+1,1,none⟩=some (.slice a2 Y.length c2) from ⟨duo (ab hg h0),duo (ab hg h1)⟩)
 have HR0:=aa h2
 have HB0:=aa hb0
 clear hA hB hb0 h0 h1 h2 hf hg
 generalize zz b1 (val X)=z1 at *
 generalize zz b2 (val Y)=z2 at *
 obtain⟨ez,hez⟩:∃ez,bn z1 z2=ez:=⟨_,rfl⟩
 rw [hez]
 have HEZ:=aa hez
 clear hez
 have g0:Below w0.heap.size w0 w0.drew:=(Below.refl _ _).drew
 go_enter Tryz.func32,Tryz.ntmps32
 go_upto_region 2 with fail
 clear k0 k1 k2 k3 em en hm1 hm2
 go_region_held3 (fun w'=>(w'.cell? ⟨w.heap.size,0,none⟩=some (.bool b1)∧w'.cell? ⟨w.heap.size,1,none⟩=some (.slice a1 X.length c1))∧w'.cell? ⟨w.heap.size+1,0,none⟩=some (.bool b2)∧w'.cell? ⟨w.heap.size+1,1,none⟩=some (.slice a2 Y.length c2)) (first|with_reducible exact KS.out _ g2|with_reducible exact KS.out _ g1|with_reducible exact KS.out _ g0) (first
  | (go_at_call_of 61 a2;refine (C2.out _ g1).mono ?_;rintro e' t2 ⟨⟨gq,Q,rfl,hgq,BQ,LQ,lQ,vQ⟩,hb2⟩;have g2:=ag g1 hb2)
  | (go_at_call_of 61 a1;refine (C1.out _ g0).mono ?_;rintro e' t1 ⟨⟨gz,P,rfl,hgp,BP,LP,lP,vP⟩,hb1⟩;have g1:=ag g0 hb1))
 have BP2:=BP.below' hb2
 have hne:gq≠gz:=by have:=BP.lt;omega
 have hqlt:=BQ.lt
 have HGE:=aa (show w.heap.size≤gz from Nat.le_trans HB0.out.size (Nat.le_trans g0.size hgp))
 have HW2:=aa (ag HB0.out g2)
 have HB0P:=aa BP2
 have HLP:=aa LP
 have HVP:=aa (And.intro vP vQ)
 replace HR0:=aa (ab g2 HR0.out)
 clear C1 C2 KS g0 g1 g2 hb1 hb2 BP hgp hgq BP2 vP vQ
 go_wp2
 go_loopw [30] (fun i wr=>∃(k:Nat) (out:List Nat),k≤n∧i=.int .i64 k∧out.length=n∧Limbs out∧Blk wr gz out∧Fr gz t2 wr∧Out P out 0 (0+k)∧out.take k=(aH (fun x y=>x &&& y) n P Q).take k) (fun i _=>n - (intOf i).toNat)
 case atStart=>exact⟨0,P,Nat.zero_le _,rfl,lP,HLP.out,HB0P.out,Fr.refl _ _,Out.refl _ _ _,by simp⟩
 case round=>
  obtain⟨k,out,hk,rfl,hlen,hlo,hblk,hfr0,hout,hval⟩:=hrel
  have HV:=aa hval
  have HBk:=aa hblk
  have HF:=aa hfr0
  have HO:=aa hout
  clear hval
  by_cases hkl:k<n
  ·have hfr:=hblk.free k
   have hco:=hblk.cell k (by omega)
   have hsame:=hout.same k (by omega)
   rw [hsame] at hco
   have hcq:=(show Blk wr gq Q from (hfr0.block gq hqlt hne).trans BQ).cell k (by omega)
   have q1:=limb_lt LP k
   have q2:=limb_lt LQ k
   have hst:=dT out (fun x y=>x &&& y) n k P Q hlen hkl HV.out
   have hlit:=lb (P.getD k 0) (Q.getD k 0) wr q1 q2
   have hs1:=i8 (P.getD k 0) (Q.getD k 0) q1 q2
   generalize P.getD k 0=x at *
   generalize Q.getD k 0=y at *
   have HS':=aa hst
   generalize (x &&& y)=s at *
   have i1:(k:Int)<(n:Int):=by omega
   clear hst hblk hfr0 hout HV hsame LP LQ BQ en2
   go_wp2_with fail
   refine hlit.mono ?_
   rintro e wn ⟨rfl,hw⟩;rw [hw];clear hw wn hlit
   go_wp2
   go_roundw
   case rel=>exact⟨k+1,out.set k s,by omega,by go_num,by simp;omega,limbs_set hlo _ _ hs1,HBk.out.set k s,HF.out.setCell _ _,(HO.out.wider (Nat.le_refl _) (by omega)).set _ _ (by omega) (by omega),HS'.out⟩
   case measure=>simp [intOf];omega
  ·have ek:k=n:=by omega
   have hzip:out=aH (fun x y=>x &&& y) n P Q:=by
    have h:=HV.out
    rw [ek,List.take_of_length_le (by omega),List.take_of_length_le (by rw [dw];omega)] at h
    exact h
   have hp1:=HM1.out
   have hp2:=HM2.out
   have hpn:18446744073709551616 ^ m≤2 ^ (64*n):=by rw [bC];exact Nat.pow_le_pow_right (by omega) (by omega)
   have hvo:val out=tcv (64*n) ((zsg z1 && zsg z2)) ((bf (zsg z1) (zsg z2) (zmg z1) (zmg z2))):=by
    rw [hzip,iJ n P Q LP LQ (by omega) (by omega),HVP.out.1,HVP.out.2]
    exact iU (Nat.lt_of_lt_of_le hp1 hpn) (Nat.lt_of_lt_of_le hp2 hpn)
   have hmlt:(bf (zsg z1) (zsg z2) (zmg z1) (zmg z2))<18446744073709551616 ^ m:=by
    rw [←bC] at hp1 hp2 ⊢
    exact (gd _ _) hp1 hp2
   have enm:n=m+1:=by omega
   have htop:=dF (n:=m) hlo (by omega) hmlt (by rw [←enm];exact hvo)
   have hneg:=dI (n:=m) hmlt
   rw [←enm] at hneg
   have hco:=hblk.cell m (by omega)
   have HZO:=aa (show ez=enc ((zsg z1 && zsg z2)) ((bf (zsg z1) (zsg z2) (zmg z1) (zmg z2))) from HEZ.out ▸ rfl)
   generalize ((bf (zsg z1) (zsg z2) (zmg z1) (zmg z2)))=mm at *
   generalize ((zsg z1 && zsg z2))=ss at *
   have HNG:=aa hneg
   have HVO:=aa (And.intro hvo hlen)
   have HBF:Hid (Below w.heap.size w wr):=aa (HW2.out.trans (hfr0.below HGE.out HW2.out.size))
   have HBX:=aa (show Below t2.heap.size t2 t2 from Below.refl _ _)
   have HR1:=aa (show wr.heap[w.heap.size+1+1]?=some (.cells #[.bool false,.slice none 0 0] 27) from (hfr0.block _ (lt_of_block HR0.out) (by have h5:=lt_of_block HR0.out;intro e5;have h6:=HR0.out;rw [e5] at h6;have h7:=HB0P.out;unfold Blk at h7;rw [h6] at h7;simp at h7)).trans HR0.out)
   clear HR0 HBX
   have HR0:=HR1
   have HBX:=aa (Below.refl wr.heap.size wr)
   clear hzip hp1 hp2 hpn hmlt hneg HV HF HO HM1 HM2 HVP LP LQ BQ hfr0 hout HR1 hvo HW2 HEZ
   have i1:¬(k:Int)<(n:Int):=by omega
   have hmi:(m:Int)<(n:Int):=by omega
   have hmi0:(0:Int)≤(m:Int):=by omega
   clear enm ek
   cases ss
   ·have t0:out.getD m 0=0:=by
     rcases Nat.eq_zero_or_pos (out.getD m 0) with h|h
     ·exact h
     ·have h9:0<out.getD m 0:=h;rw [htop] at h9;cases h9
    rw [t0] at hco
    clear htop t0
    have HSZ:=aa (show zz false mm=ez∧ez.natAbs=mm from ⟨by rw [HZO.out,bi];rfl,by rw [HZO.out,bi,az];rfl⟩)
    have VF:val out=mm:=HVO.out.1
    have lF:=hlen
    have BF:=hblk
    have LF:=hlo
    clear HVO HNG HZO hblk hlo hlen
    have HR:=aI.trimmed (w:=w) (x:=mm) HGE.out BF LF (by omega) VF HBF.out
    rw [lF] at HR
    have hlen9:(tr out).length≤n:=by rw [←lF];exact tr_length_le out
    clear BF LF VF lF
    go_wp2_with fail
    refine HR.mono ?_
    rintro e u1 ⟨he,hwu,⟨v5,rs,he2,hans,hv5,ht5⟩,hbu⟩
    rw [he] at he2
    cases he2
    subst he
    subst hwu
    clear HR
    obtain⟨lr,hlr⟩:∃l,(tr out).length=l:=⟨_,rfl⟩
    rw [hlr] at hans hlen9 ⊢
    have hlrs:rs.length=lr:=by obtain⟨_,_,e9⟩:=hans.shape;cases e9;rfl
    obtain⟨u2,hu2,hbu2,hxu⟩:=ay u1 (.cells #[.slice (some ⟨gz,0,none⟩) lr n] 25)
    have C:=ci _ _ rs u2 hxu ((hans.below hbu2).arg (by rw [hlrs];omega))
    rw [hv5] at C
    have HAN:=aa (hans.below hbu2)
    have HV5:=aa (And.intro hv5 ht5)
    have HB2:=aa (ag hbu hbu2)
    have HXR:=aa (ab hbu2 (ab HBX.out HR0.out))
    clear hans hv5 ht5 hbu hbu2 hxu hlr hlrs
    go_wp2_with fail
    refine C.mono ?_
    rintro e wn ⟨rfl,hw⟩;rw [hw];clear hw wn C
    by_cases hbig:67108864<blen mm
    ·rw [decide_eq_true hbig]
     have T3:=ak (a':=.bool false) (b':=.slice none 0 0) HXR.out
     have HE:=aa (And.intro (show ZR ((u2.setCell ⟨w.heap.size+1+1,0,none⟩ (.bool false)).setCell ⟨w.heap.size+1+1,1,none⟩ (.slice none 0 0)) w.heap.size false (.slice none 0 0) 3 ez from ⟨[],Ans.nil _ _,.inr ⟨rfl,rfl,rfl,rfl,by rw [HSZ.out.2];exact hbig⟩⟩) (ai (u0:=.bool false) (u1:=.slice none 0 0) HB2.out (show w.heap.size≤w.heap.size+1+1 by omega)))
     obtain⟨p0,p1⟩:=duo T3
     have hf:=ae HXR.out
     obtain⟨m0,m1'⟩:=duo HXR.out
     clear T3 hbig
     go_wp2
     clear hf m0 m1'
     generalize (u2.setCell ⟨w.heap.size+1+1,0,none⟩ (.bool false)).setCell ⟨w.heap.size+1+1,1,none⟩ (.slice none 0 0)=w9 at *
     refine bodyPost_ret (v:=.tuple #[.agg #[.bool false,.slice none 0 0],.int .i64 3]) (by simp [results,Tryz.results32,go_sem,p0,p1]) rfl ?_
     exact⟨⟨_,_,_,_,_,rfl,HE.out.1⟩,HE.out.2⟩
    rw [decide_eq_false hbig]
    have C:=cB false _ rs _ u2 mm ez HSZ.out.1 HAN.out HV5.out.1 HV5.out.2
    have HBG:=aa hbig
    clear hbig
    go_wp2_with fail
    refine C.mono ?_
    rintro e u3 ⟨rfl,hb3⟩
    have hz3:=ab hb3 HXR.out
    have T1:ZR u3 w.heap.size (decide (ez<0)) (.slice (some ⟨gz,0,none⟩) lr n) 0 ez:=⟨rs,HAN.out.below hb3,.inl ⟨rfl,rfl,by rw [HSZ.out.2];exact HV5.out.1,HV5.out.2,by rw [HSZ.out.2];have:=HBG.out;omega⟩⟩
    have T3:=ak (a':=.bool (decide (ez<0))) (b':=.slice (some ⟨gz,0,none⟩) lr n) hz3
    have HE:=aa (And.intro (T1.duo (u0:=.bool (decide (ez<0))) (u1:=.slice (some ⟨gz,0,none⟩) lr n) hz3) (ai (u0:=.bool (decide (ez<0))) (u1:=.slice (some ⟨gz,0,none⟩) lr n) (ag HB2.out hb3) (show w.heap.size≤w.heap.size+1+1 by omega)))
    obtain⟨p0,p1⟩:=duo T3
    have hf:=ae hz3
    obtain⟨m0,m1'⟩:=duo hz3
    clear T1 T3 hz3 hb3 C
    go_wp2
    clear hf m0 m1'
    generalize (u3.setCell ⟨w.heap.size+1+1,0,none⟩ (.bool (decide (ez<0)))).setCell ⟨w.heap.size+1+1,1,none⟩ (.slice (some ⟨gz,0,none⟩) lr n)=w9 at *
    refine bodyPost_ret (v:=.tuple #[.agg #[.bool (decide (ez<0)),.slice (some ⟨gz,0,none⟩) lr n],.int .i64 0]) (by simp [results,Tryz.results32,go_sem,p0,p1]) rfl ?_
    exact⟨⟨_,_,_,_,_,rfl,HE.out.1⟩,HE.out.2⟩
   ·have t0:0<out.getD m 0:=by rw [htop]
    generalize out.getD m 0=tt at *
    have t1':(0:Int)<(tt:Int):=by omega
    have HN:=dB gz n out wr hblk hlo hlen (by omega)
    clear htop
    have HSZ:=aa (show zz true (mm+1)=ez∧ez.natAbs=mm+1 from ⟨by rw [HZO.out,bi];rfl,by rw [HZO.out,bi,az];rfl⟩)
    clear hblk hlo hlen HZO
    go_wp2_with fail
    refine HN.mono ?_
    rintro e w7 ⟨rfl,out2,BF,LF,lF0,vF0,F7⟩
    have lF:out2.length=n:=by rw [lF0];exact HVO.out.2
    have VF:val out2=mm+1:=by rw [vF0,HVO.out.2,HVO.out.1];exact HNG.out
    replace HBF:=aa (HBF.out.trans (F7.below HGE.out HBF.out.size))
    have HR1:=aa (show w7.heap[w.heap.size+1+1]?=some (.cells #[.bool false,.slice none 0 0] 27) from (F7.block _ (lt_of_block HR0.out) (by intro e5;have h6:=ab (Below.refl _ _) HR0.out;have h8:w7.heap[gz]?=_:=BF;have h7:=HBk.out;unfold Blk at h7;rw [e5] at h6;rw [h6] at h7;simp at h7)).trans HR0.out)
    clear HR0 HBX
    have HR0:=HR1
    have HBX:=aa (Below.refl w7.heap.size w7)
    clear HN HVO HNG lF0 vF0 F7 HR1 t0 t1' hco
    have HR:=aI.trimmed (w:=w) (x:=(mm+1)) HGE.out BF LF (by omega) VF HBF.out
    rw [lF] at HR
    have hlen9:(tr out2).length≤n:=by rw [←lF];exact tr_length_le out2
    clear BF LF VF lF
    go_wp2_with fail
    refine HR.mono ?_
    rintro e u1 ⟨he,hwu,⟨v5,rs,he2,hans,hv5,ht5⟩,hbu⟩
    rw [he] at he2
    cases he2
    subst he
    subst hwu
    clear HR
    obtain⟨lr,hlr⟩:∃l,(tr out2).length=l:=⟨_,rfl⟩
    rw [hlr] at hans hlen9 ⊢
    have hlrs:rs.length=lr:=by obtain⟨_,_,e9⟩:=hans.shape;cases e9;rfl
    obtain⟨u2,hu2,hbu2,hxu⟩:=ay u1 (.cells #[.slice (some ⟨gz,0,none⟩) lr n] 25)
    have C:=ci _ _ rs u2 hxu ((hans.below hbu2).arg (by rw [hlrs];omega))
    rw [hv5] at C
    have HAN:=aa (hans.below hbu2)
    have HV5:=aa (And.intro hv5 ht5)
    have HB2:=aa (ag hbu hbu2)
    have HXR:=aa (ab hbu2 (ab HBX.out HR0.out))
    clear hans hv5 ht5 hbu hbu2 hxu hlr hlrs
    go_wp2_with fail
    refine C.mono ?_
    rintro e wn ⟨rfl,hw⟩;rw [hw];clear hw wn C
    by_cases hbig:67108864<blen (mm+1)
    ·rw [decide_eq_true hbig]
     have T3:=ak (a':=.bool false) (b':=.slice none 0 0) HXR.out
     have HE:=aa (And.intro (show ZR ((u2.setCell ⟨w.heap.size+1+1,0,none⟩ (.bool false)).setCell ⟨w.heap.size+1+1,1,none⟩ (.slice none 0 0)) w.heap.size false (.slice none 0 0) 3 ez from ⟨[],Ans.nil _ _,.inr ⟨rfl,rfl,rfl,rfl,by rw [HSZ.out.2];exact hbig⟩⟩) (ai (u0:=.bool false) (u1:=.slice none 0 0) HB2.out (show w.heap.size≤w.heap.size+1+1 by omega)))
     obtain⟨p0,p1⟩:=duo T3
     have hf:=ae HXR.out
     obtain⟨m0,m1'⟩:=duo HXR.out
     clear T3 hbig
     go_wp2
     clear hf m0 m1'
     generalize (u2.setCell ⟨w.heap.size+1+1,0,none⟩ (.bool false)).setCell ⟨w.heap.size+1+1,1,none⟩ (.slice none 0 0)=w9 at *
     refine bodyPost_ret (v:=.tuple #[.agg #[.bool false,.slice none 0 0],.int .i64 3]) (by simp [results,Tryz.results32,go_sem,p0,p1]) rfl ?_
     exact⟨⟨_,_,_,_,_,rfl,HE.out.1⟩,HE.out.2⟩
    rw [decide_eq_false hbig]
    have C:=cB true _ rs _ u2 (mm+1) ez HSZ.out.1 HAN.out HV5.out.1 HV5.out.2
    have HBG:=aa hbig
    clear hbig
    go_wp2_with fail
    refine C.mono ?_
    rintro e u3 ⟨rfl,hb3⟩
    have hz3:=ab hb3 HXR.out
    have T1:ZR u3 w.heap.size (decide (ez<0)) (.slice (some ⟨gz,0,none⟩) lr n) 0 ez:=⟨rs,HAN.out.below hb3,.inl ⟨rfl,rfl,by rw [HSZ.out.2];exact HV5.out.1,HV5.out.2,by rw [HSZ.out.2];have:=HBG.out;omega⟩⟩
    have T3:=ak (a':=.bool (decide (ez<0))) (b':=.slice (some ⟨gz,0,none⟩) lr n) hz3
    have HE:=aa (And.intro (T1.duo (u0:=.bool (decide (ez<0))) (u1:=.slice (some ⟨gz,0,none⟩) lr n) hz3) (ai (u0:=.bool (decide (ez<0))) (u1:=.slice (some ⟨gz,0,none⟩) lr n) (ag HB2.out hb3) (show w.heap.size≤w.heap.size+1+1 by omega)))
    obtain⟨p0,p1⟩:=duo T3
    have hf:=ae hz3
    obtain⟨m0,m1'⟩:=duo hz3
    clear T1 T3 hz3 hb3 C
    go_wp2
    clear hf m0 m1'
    generalize (u3.setCell ⟨w.heap.size+1+1,0,none⟩ (.bool (decide (ez<0)))).setCell ⟨w.heap.size+1+1,1,none⟩ (.slice (some ⟨gz,0,none⟩) lr n)=w9 at *
    refine bodyPost_ret (v:=.tuple #[.agg #[.bool (decide (ez<0)),.slice (some ⟨gz,0,none⟩) lr n],.int .i64 0]) (by simp [results,Tryz.results32,go_sem,p0,p1]) rfl ?_
    exact⟨⟨_,_,_,_,_,rfl,HE.out.1⟩,HE.out.2⟩

theorem jb (b1 b2:Bool)(v1 v2:Value)(X Y:List Nat)(w:World)(hA:Arg w v1 X)(hB:Arg w v2 Y)(hf:X.length≤17592186044416)(hg:Y.length≤17592186044416) :
  Calls Tryz.prog 32 #[.agg #[.bool b1,v1],.agg #[.bool b2,v2],.func (.func 34) #[] #[]] w fun e w'=>aZ w' w.heap.size e (zor (zz b1 (val X)) (zz b2 (val Y)))∧Below w.heap.size w w':=by
 obtain⟨a1,c1,rfl,_,_,_⟩:=hA.form
 obtain⟨a2,c2,rfl,_,_,_⟩:=hB.form
 obtain⟨w0,hw0,hb0,h0,h1,h2⟩:=bJ w (.cells #[.bool b1,.slice a1 X.length c1] 27) (.cells #[.bool b2,.slice a2 Y.length c2] 27) (.cells #[.bool false,.slice none 0 0] 27)
 obtain⟨k0,k1⟩:=duo h0
 obtain⟨k2,k3⟩:=duo h1
 obtain⟨m,em,hm1,hm2,hm3⟩:∃m:Nat,max (X.length:Int) (Y.length:Int)=(m:Int)∧X.length≤m∧Y.length≤m∧m≤17592186044416:=⟨max X.length Y.length,by omega,by omega,by omega,by omega⟩
 obtain⟨n,en,hn1,hn2⟩:∃n:Nat,(m:Int)+1=(n:Int)∧m<n∧n≤m+1:=⟨m+1,by omega,by omega,by omega⟩
 have en2:(n:Int) - 1=(m:Int):=by omega
 have C1:=aa (fun (W:World) (hg:Below w0.heap.size w0 W)=>ck b1 _ X n W ((hA.below hb0).below hg) (by omega) (by omega))
 have C2:=aa (fun (W:World) (hg:Below w0.heap.size w0 W)=>ck b2 _ Y n W ((hB.below hb0).below hg) (by omega) (by omega))
 have HM1:=aa (ct (b:=b1) hA.limbs hm1)
 have HM2:=aa (ct (b:=b2) hB.limbs hm2)
 have KS:=aa (fun (W:World) (hg:Below w0.heap.size w0 W)=>show (W.cell? ⟨w.heap.size,0,none⟩=some (.bool b1)∧W.cell? ⟨w.heap.size,1,none⟩=some (.slice a1 X.length c1))∧W.cell? ⟨w.heap.size+1,0,none⟩=some (.bool b2)∧W.cell? ⟨w.heap.size+1,1,none⟩=some (.slice a2 Y.length c2) from ⟨duo (ab hg h0),duo (ab hg h1)⟩)
 have HR0:=aa h2
 have HB0:=aa hb0
 clear hA hB hb0 h0 h1 h2 hf hg
 generalize zz b1 (val X)=z1 at *
 generalize zz b2 (val Y)=z2 at *
 obtain⟨ez,hez⟩:∃ez,zor z1 z2=ez:=⟨_,rfl⟩
 rw [hez]
 have HEZ:=aa hez
 clear hez
 have g0:Below w0.heap.size w0 w0.drew:=(Below.refl _ _).drew
 go_enter Tryz.func32,Tryz.ntmps32
 go_upto_region 2 with fail
 clear k0 k1 k2 k3 em en hm1 hm2
 go_region_held3 (fun w'=>(w'.cell? ⟨w.heap.size,0,none⟩=some (.bool b1)∧w'.cell? ⟨w.heap.size,1,none⟩=some (.slice a1 X.length c1))∧w'.cell? ⟨w.heap.size+1,0,none⟩=some (.bool b2)∧w'.cell? ⟨w.heap.size+1,1,none⟩=some (.slice a2 Y.length c2)) (first|with_reducible exact KS.out _ g2|with_reducible exact KS.out _ g1|with_reducible exact KS.out _ g0) (first
  | (go_at_call_of 61 a2;refine (C2.out _ g1).mono ?_;rintro e' t2 ⟨⟨gq,Q,rfl,hgq,BQ,LQ,lQ,vQ⟩,hb2⟩;have g2:=ag g1 hb2)
  | (go_at_call_of 61 a1;refine (C1.out _ g0).mono ?_;rintro e' t1 ⟨⟨gz,P,rfl,hgp,BP,LP,lP,vP⟩,hb1⟩;have g1:=ag g0 hb1))
 have BP2:=BP.below' hb2
 have hne:gq≠gz:=by have:=BP.lt;omega
 have hqlt:=BQ.lt
 have HGE:=aa (show w.heap.size≤gz from Nat.le_trans HB0.out.size (Nat.le_trans g0.size hgp))
 have HW2:=aa (ag HB0.out g2)
 have HB0P:=aa BP2
 have HLP:=aa LP
 have HVP:=aa (And.intro vP vQ)
 replace HR0:=aa (ab g2 HR0.out)
 clear C1 C2 KS g0 g1 g2 hb1 hb2 BP hgp hgq BP2 vP vQ
 go_wp2
 go_loopw [30] (fun i wr=>∃(k:Nat) (out:List Nat),k≤n∧i=.int .i64 k∧out.length=n∧Limbs out∧Blk wr gz out∧Fr gz t2 wr∧Out P out 0 (0+k)∧out.take k=(aH (fun x y=>x ||| y) n P Q).take k) (fun i _=>n - (intOf i).toNat)
 case atStart=>exact⟨0,P,Nat.zero_le _,rfl,lP,HLP.out,HB0P.out,Fr.refl _ _,Out.refl _ _ _,by simp⟩
 case round=>
  obtain⟨k,out,hk,rfl,hlen,hlo,hblk,hfr0,hout,hval⟩:=hrel
  have HV:=aa hval
  have HBk:=aa hblk
  have HF:=aa hfr0
  have HO:=aa hout
  clear hval
  by_cases hkl:k<n
  ·have hfr:=hblk.free k
   have hco:=hblk.cell k (by omega)
   have hsame:=hout.same k (by omega)
   rw [hsame] at hco
   have hcq:=(show Blk wr gq Q from (hfr0.block gq hqlt hne).trans BQ).cell k (by omega)
   have q1:=limb_lt LP k
   have q2:=limb_lt LQ k
   have hst:=dT out (fun x y=>x ||| y) n k P Q hlen hkl HV.out
   have hlit:=kM (P.getD k 0) (Q.getD k 0) wr q1 q2
   have hs1:=lf (P.getD k 0) (Q.getD k 0) q1 q2
   generalize P.getD k 0=x at *
   generalize Q.getD k 0=y at *
   have HS':=aa hst
   generalize (x ||| y)=s at *
   have i1:(k:Int)<(n:Int):=by omega
   clear hst hblk hfr0 hout HV hsame LP LQ BQ en2
   go_wp2_with fail
   refine hlit.mono ?_
   rintro e wn ⟨rfl,hw⟩;rw [hw];clear hw wn hlit
   go_wp2
   go_roundw
   case rel=>exact⟨k+1,out.set k s,by omega,by go_num,by simp;omega,limbs_set hlo _ _ hs1,HBk.out.set k s,HF.out.setCell _ _,(HO.out.wider (Nat.le_refl _) (by omega)).set _ _ (by omega) (by omega),HS'.out⟩
   case measure=>simp [intOf];omega
  ·have ek:k=n:=by omega
   have hzip:out=aH (fun x y=>x ||| y) n P Q:=by
    have h:=HV.out
    rw [ek,List.take_of_length_le (by omega),List.take_of_length_le (by rw [dw];omega)] at h
    exact h
   have hp1:=HM1.out
   have hp2:=HM2.out
   have hpn:18446744073709551616 ^ m≤2 ^ (64*n):=by rw [bC];exact Nat.pow_le_pow_right (by omega) (by omega)
   have hvo:val out=tcv (64*n) ((zsg z1 || zsg z2)) ((bm (zsg z1) (zsg z2) (zmg z1) (zmg z2))):=by
    rw [hzip,iT n P Q LP LQ (by omega) (by omega),HVP.out.1,HVP.out.2]
    exact ky (Nat.lt_of_lt_of_le hp1 hpn) (Nat.lt_of_lt_of_le hp2 hpn)
   have hmlt:(bm (zsg z1) (zsg z2) (zmg z1) (zmg z2))<18446744073709551616 ^ m:=by
    rw [←bC] at hp1 hp2 ⊢
    exact (ew _ _) hp1 hp2
   have enm:n=m+1:=by omega
   have htop:=dF (n:=m) hlo (by omega) hmlt (by rw [←enm];exact hvo)
   have hneg:=dI (n:=m) hmlt
   rw [←enm] at hneg
   have hco:=hblk.cell m (by omega)
   have HZO:=aa (show ez=enc ((zsg z1 || zsg z2)) ((bm (zsg z1) (zsg z2) (zmg z1) (zmg z2))) from HEZ.out ▸ rfl)
   generalize ((bm (zsg z1) (zsg z2) (zmg z1) (zmg z2)))=mm at *
   generalize ((zsg z1 || zsg z2))=ss at *
   have HNG:=aa hneg
   have HVO:=aa (And.intro hvo hlen)
   have HBF:Hid (Below w.heap.size w wr):=aa (HW2.out.trans (hfr0.below HGE.out HW2.out.size))
   have HBX:=aa (show Below t2.heap.size t2 t2 from Below.refl _ _)
   have HR1:=aa (show wr.heap[w.heap.size+1+1]?=some (.cells #[.bool false,.slice none 0 0] 27) from (hfr0.block _ (lt_of_block HR0.out) (by have h5:=lt_of_block HR0.out;intro e5;have h6:=HR0.out;rw [e5] at h6;have h7:=HB0P.out;unfold Blk at h7;rw [h6] at h7;simp at h7)).trans HR0.out)
   clear HR0 HBX
   have HR0:=HR1
   have HBX:=aa (Below.refl wr.heap.size wr)
   clear hzip hp1 hp2 hpn hmlt hneg HV HF HO HM1 HM2 HVP LP LQ BQ hfr0 hout HR1 hvo HW2 HEZ
   have i1:¬(k:Int)<(n:Int):=by omega
   have hmi:(m:Int)<(n:Int):=by omega
   have hmi0:(0:Int)≤(m:Int):=by omega
   clear enm ek
   cases ss
   ·have t0:out.getD m 0=0:=by
     rcases Nat.eq_zero_or_pos (out.getD m 0) with h|h
     ·exact h
     ·have h9:0<out.getD m 0:=h;rw [htop] at h9;cases h9
    rw [t0] at hco
    clear htop t0
    have HSZ:=aa (show zz false mm=ez∧ez.natAbs=mm from ⟨by rw [HZO.out,bi];rfl,by rw [HZO.out,bi,az];rfl⟩)
    have VF:val out=mm:=HVO.out.1
    have lF:=hlen
    have BF:=hblk
    have LF:=hlo
    clear HVO HNG HZO hblk hlo hlen
    have HR:=aI.trimmed (w:=w) (x:=mm) HGE.out BF LF (by omega) VF HBF.out
    rw [lF] at HR
    have hlen9:(tr out).length≤n:=by rw [←lF];exact tr_length_le out
    clear BF LF VF lF
    go_wp2_with fail
    refine HR.mono ?_
    rintro e u1 ⟨he,hwu,⟨v5,rs,he2,hans,hv5,ht5⟩,hbu⟩
    rw [he] at he2
    cases he2
    subst he
    subst hwu
    clear HR
    obtain⟨lr,hlr⟩:∃l,(tr out).length=l:=⟨_,rfl⟩
    rw [hlr] at hans hlen9 ⊢
    have hlrs:rs.length=lr:=by obtain⟨_,_,e9⟩:=hans.shape;cases e9;rfl
    obtain⟨u2,hu2,hbu2,hxu⟩:=ay u1 (.cells #[.slice (some ⟨gz,0,none⟩) lr n] 25)
    have C:=ci _ _ rs u2 hxu ((hans.below hbu2).arg (by rw [hlrs];omega))
    rw [hv5] at C
    have HAN:=aa (hans.below hbu2)
    have HV5:=aa (And.intro hv5 ht5)
    have HB2:=aa (ag hbu hbu2)
    have HXR:=aa (ab hbu2 (ab HBX.out HR0.out))
    clear hans hv5 ht5 hbu hbu2 hxu hlr hlrs
    go_wp2_with fail
    refine C.mono ?_
    rintro e wn ⟨rfl,hw⟩;rw [hw];clear hw wn C
    by_cases hbig:67108864<blen mm
    ·rw [decide_eq_true hbig]
     have T3:=ak (a':=.bool false) (b':=.slice none 0 0) HXR.out
     have HE:=aa (And.intro (show ZR ((u2.setCell ⟨w.heap.size+1+1,0,none⟩ (.bool false)).setCell ⟨w.heap.size+1+1,1,none⟩ (.slice none 0 0)) w.heap.size false (.slice none 0 0) 3 ez from ⟨[],Ans.nil _ _,.inr ⟨rfl,rfl,rfl,rfl,by rw [HSZ.out.2];exact hbig⟩⟩) (ai (u0:=.bool false) (u1:=.slice none 0 0) HB2.out (show w.heap.size≤w.heap.size+1+1 by omega)))
     obtain⟨p0,p1⟩:=duo T3
     have hf:=ae HXR.out
     obtain⟨m0,m1'⟩:=duo HXR.out
     clear T3 hbig
     go_wp2
     clear hf m0 m1'
     generalize (u2.setCell ⟨w.heap.size+1+1,0,none⟩ (.bool false)).setCell ⟨w.heap.size+1+1,1,none⟩ (.slice none 0 0)=w9 at *
     refine bodyPost_ret (v:=.tuple #[.agg #[.bool false,.slice none 0 0],.int .i64 3]) (by simp [results,Tryz.results32,go_sem,p0,p1]) rfl ?_
     exact⟨⟨_,_,_,_,_,rfl,HE.out.1⟩,HE.out.2⟩
    rw [decide_eq_false hbig]
    have C:=cB false _ rs _ u2 mm ez HSZ.out.1 HAN.out HV5.out.1 HV5.out.2
    have HBG:=aa hbig
    clear hbig
    go_wp2_with fail
    refine C.mono ?_
    rintro e u3 ⟨rfl,hb3⟩
    have hz3:=ab hb3 HXR.out
    have T1:ZR u3 w.heap.size (decide (ez<0)) (.slice (some ⟨gz,0,none⟩) lr n) 0 ez:=⟨rs,HAN.out.below hb3,.inl ⟨rfl,rfl,by rw [HSZ.out.2];exact HV5.out.1,HV5.out.2,by rw [HSZ.out.2];have:=HBG.out;omega⟩⟩
    have T3:=ak (a':=.bool (decide (ez<0))) (b':=.slice (some ⟨gz,0,none⟩) lr n) hz3
    have HE:=aa (And.intro (T1.duo (u0:=.bool (decide (ez<0))) (u1:=.slice (some ⟨gz,0,none⟩) lr n) hz3) (ai (u0:=.bool (decide (ez<0))) (u1:=.slice (some ⟨gz,0,none⟩) lr n) (ag HB2.out hb3) (show w.heap.size≤w.heap.size+1+1 by omega)))
    obtain⟨p0,p1⟩:=duo T3
    have hf:=ae hz3
    obtain⟨m0,m1'⟩:=duo hz3
    clear T1 T3 hz3 hb3 C
    go_wp2
    clear hf m0 m1'
    generalize (u3.setCell ⟨w.heap.size+1+1,0,none⟩ (.bool (decide (ez<0)))).setCell ⟨w.heap.size+1+1,1,none⟩ (.slice (some ⟨gz,0,none⟩) lr n)=w9 at *
    refine bodyPost_ret (v:=.tuple #[.agg #[.bool (decide (ez<0)),.slice (some ⟨gz,0,none⟩) lr n],.int .i64 0]) (by simp [results,Tryz.results32,go_sem,p0,p1]) rfl ?_
    exact⟨⟨_,_,_,_,_,rfl,HE.out.1⟩,HE.out.2⟩
   ·have t0:0<out.getD m 0:=by rw [htop]
    generalize out.getD m 0=tt at *
    have t1':(0:Int)<(tt:Int):=by omega
    have HN:=dB gz n out wr hblk hlo hlen (by omega)
    clear htop
    have HSZ:=aa (show zz true (mm+1)=ez∧ez.natAbs=mm+1 from ⟨by rw [HZO.out,bi];rfl,by rw [HZO.out,bi,az];rfl⟩)
    clear hblk hlo hlen HZO
    go_wp2_with fail
    refine HN.mono ?_
    rintro e w7 ⟨rfl,out2,BF,LF,lF0,vF0,F7⟩
    have lF:out2.length=n:=by rw [lF0];exact HVO.out.2
    have VF:val out2=mm+1:=by rw [vF0,HVO.out.2,HVO.out.1];exact HNG.out
    replace HBF:=aa (HBF.out.trans (F7.below HGE.out HBF.out.size))
    have HR1:=aa (show w7.heap[w.heap.size+1+1]?=some (.cells #[.bool false,.slice none 0 0] 27) from (F7.block _ (lt_of_block HR0.out) (by intro e5;have h6:=ab (Below.refl _ _) HR0.out;have h8:w7.heap[gz]?=_:=BF;have h7:=HBk.out;unfold Blk at h7;rw [e5] at h6;rw [h6] at h7;simp at h7)).trans HR0.out)
    clear HR0 HBX
    have HR0:=HR1
    have HBX:=aa (Below.refl w7.heap.size w7)
    clear HN HVO HNG lF0 vF0 F7 HR1 t0 t1' hco
    have HR:=aI.trimmed (w:=w) (x:=(mm+1)) HGE.out BF LF (by omega) VF HBF.out
    rw [lF] at HR
    have hlen9:(tr out2).length≤n:=by rw [←lF];exact tr_length_le out2
    clear BF LF VF lF
    go_wp2_with fail
    refine HR.mono ?_
    rintro e u1 ⟨he,hwu,⟨v5,rs,he2,hans,hv5,ht5⟩,hbu⟩
    rw [he] at he2
    cases he2
    subst he
    subst hwu
    clear HR
    obtain⟨lr,hlr⟩:∃l,(tr out2).length=l:=⟨_,rfl⟩
    rw [hlr] at hans hlen9 ⊢
    have hlrs:rs.length=lr:=by obtain⟨_,_,e9⟩:=hans.shape;cases e9;rfl
    obtain⟨u2,hu2,hbu2,hxu⟩:=ay u1 (.cells #[.slice (some ⟨gz,0,none⟩) lr n] 25)
    have C:=ci _ _ rs u2 hxu ((hans.below hbu2).arg (by rw [hlrs];omega))
    rw [hv5] at C
    have HAN:=aa (hans.below hbu2)
    have HV5:=aa (And.intro hv5 ht5)
    have HB2:=aa (ag hbu hbu2)
    have HXR:=aa (ab hbu2 (ab HBX.out HR0.out))
    clear hans hv5 ht5 hbu hbu2 hxu hlr hlrs
    go_wp2_with fail
    refine C.mono ?_
    rintro e wn ⟨rfl,hw⟩;rw [hw];clear hw wn C
    by_cases hbig:67108864<blen (mm+1)
    ·rw [decide_eq_true hbig]
     have T3:=ak (a':=.bool false) (b':=.slice none 0 0) HXR.out
     have HE:=aa (And.intro (show ZR ((u2.setCell ⟨w.heap.size+1+1,0,none⟩ (.bool false)).setCell ⟨w.heap.size+1+1,1,none⟩ (.slice none 0 0)) w.heap.size false (.slice none 0 0) 3 ez from ⟨[],Ans.nil _ _,.inr ⟨rfl,rfl,rfl,rfl,by rw [HSZ.out.2];exact hbig⟩⟩) (ai (u0:=.bool false) (u1:=.slice none 0 0) HB2.out (show w.heap.size≤w.heap.size+1+1 by omega)))
     obtain⟨p0,p1⟩:=duo T3
     have hf:=ae HXR.out
     obtain⟨m0,m1'⟩:=duo HXR.out
     clear T3 hbig
     go_wp2
     clear hf m0 m1'
     generalize (u2.setCell ⟨w.heap.size+1+1,0,none⟩ (.bool false)).setCell ⟨w.heap.size+1+1,1,none⟩ (.slice none 0 0)=w9 at *
     refine bodyPost_ret (v:=.tuple #[.agg #[.bool false,.slice none 0 0],.int .i64 3]) (by simp [results,Tryz.results32,go_sem,p0,p1]) rfl ?_
     exact⟨⟨_,_,_,_,_,rfl,HE.out.1⟩,HE.out.2⟩
    rw [decide_eq_false hbig]
    have C:=cB true _ rs _ u2 (mm+1) ez HSZ.out.1 HAN.out HV5.out.1 HV5.out.2
    have HBG:=aa hbig
    clear hbig
    go_wp2_with fail
    refine C.mono ?_
    rintro e u3 ⟨rfl,hb3⟩
    have hz3:=ab hb3 HXR.out
    have T1:ZR u3 w.heap.size (decide (ez<0)) (.slice (some ⟨gz,0,none⟩) lr n) 0 ez:=⟨rs,HAN.out.below hb3,.inl ⟨rfl,rfl,by rw [HSZ.out.2];exact HV5.out.1,HV5.out.2,by rw [HSZ.out.2];have:=HBG.out;omega⟩⟩
    have T3:=ak (a':=.bool (decide (ez<0))) (b':=.slice (some ⟨gz,0,none⟩) lr n) hz3
    have HE:=aa (And.intro (T1.duo (u0:=.bool (decide (ez<0))) (u1:=.slice (some ⟨gz,0,none⟩) lr n) hz3) (ai (u0:=.bool (decide (ez<0))) (u1:=.slice (some ⟨gz,0,none⟩) lr n) (ag HB2.out hb3) (show w.heap.size≤w.heap.size+1+1 by omega)))
    obtain⟨p0,p1⟩:=duo T3
    have hf:=ae hz3
    obtain⟨m0,m1'⟩:=duo hz3
    clear T1 T3 hz3 hb3 C
    go_wp2
    clear hf m0 m1'
    generalize (u3.setCell ⟨w.heap.size+1+1,0,none⟩ (.bool (decide (ez<0)))).setCell ⟨w.heap.size+1+1,1,none⟩ (.slice (some ⟨gz,0,none⟩) lr n)=w9 at *
    refine bodyPost_ret (v:=.tuple #[.agg #[.bool (decide (ez<0)),.slice (some ⟨gz,0,none⟩) lr n],.int .i64 0]) (by simp [results,Tryz.results32,go_sem,p0,p1]) rfl ?_
    exact⟨⟨_,_,_,_,_,rfl,HE.out.1⟩,HE.out.2⟩

theorem iD (b1 b2:Bool)(v1 v2:Value)(X Y:List Nat)(w:World)(hA:Arg w v1 X)(hB:Arg w v2 Y)(hf:X.length≤17592186044416)(hg:Y.length≤17592186044416) :
  Calls Tryz.prog 32 #[.agg #[.bool b1,v1],.agg #[.bool b2,v2],.func (.func 35) #[] #[]] w fun e w'=>aZ w' w.heap.size e (cC (zz b1 (val X)) (zz b2 (val Y)))∧Below w.heap.size w w':=by
 obtain⟨a1,c1,rfl,_,_,_⟩:=hA.form
 obtain⟨a2,c2,rfl,_,_,_⟩:=hB.form
 obtain⟨w0,hw0,hb0,h0,h1,h2⟩:=bJ w (.cells #[.bool b1,.slice a1 X.length c1] 27) (.cells #[.bool b2,.slice a2 Y.length c2] 27) (.cells #[.bool false,.slice none 0 0] 27)
 obtain⟨k0,k1⟩:=duo h0
 obtain⟨k2,k3⟩:=duo h1
 obtain⟨m,em,hm1,hm2,hm3⟩:∃m:Nat,max (X.length:Int) (Y.length:Int)=(m:Int)∧X.length≤m∧Y.length≤m∧m≤17592186044416:=⟨max X.length Y.length,by omega,by omega,by omega,by omega⟩
 obtain⟨n,en,hn1,hn2⟩:∃n:Nat,(m:Int)+1=(n:Int)∧m<n∧n≤m+1:=⟨m+1,by omega,by omega,by omega⟩
 have en2:(n:Int) - 1=(m:Int):=by omega
 have C1:=aa (fun (W:World) (hg:Below w0.heap.size w0 W)=>ck b1 _ X n W ((hA.below hb0).below hg) (by omega) (by omega))
 have C2:=aa (fun (W:World) (hg:Below w0.heap.size w0 W)=>ck b2 _ Y n W ((hB.below hb0).below hg) (by omega) (by omega))
 have HM1:=aa (ct (b:=b1) hA.limbs hm1)
 have HM2:=aa (ct (b:=b2) hB.limbs hm2)
 have KS:=aa (fun (W:World) (hg:Below w0.heap.size w0 W)=>show (W.cell? ⟨w.heap.size,0,none⟩=some (.bool b1)∧W.cell? ⟨w.heap.size,1,none⟩=some (.slice a1 X.length c1))∧W.cell? ⟨w.heap.size+1,0,none⟩=some (.bool b2)∧W.cell? ⟨w.heap.size+1,1,none⟩=some (.slice a2 Y.length c2) from ⟨duo (ab hg h0),duo (ab hg h1)⟩)
 have HR0:=aa h2
 have HB0:=aa hb0
 clear hA hB hb0 h0 h1 h2 hf hg
 generalize zz b1 (val X)=z1 at *
 generalize zz b2 (val Y)=z2 at *
 obtain⟨ez,hez⟩:∃ez,cC z1 z2=ez:=⟨_,rfl⟩
 rw [hez]
 have HEZ:=aa hez
 clear hez
 have g0:Below w0.heap.size w0 w0.drew:=(Below.refl _ _).drew
 go_enter Tryz.func32,Tryz.ntmps32
 go_upto_region 2 with fail
 clear k0 k1 k2 k3 em en hm1 hm2
 go_region_held3 (fun w'=>(w'.cell? ⟨w.heap.size,0,none⟩=some (.bool b1)∧w'.cell? ⟨w.heap.size,1,none⟩=some (.slice a1 X.length c1))∧w'.cell? ⟨w.heap.size+1,0,none⟩=some (.bool b2)∧w'.cell? ⟨w.heap.size+1,1,none⟩=some (.slice a2 Y.length c2)) (first|with_reducible exact KS.out _ g2|with_reducible exact KS.out _ g1|with_reducible exact KS.out _ g0) (first
  | (go_at_call_of 61 a2;refine (C2.out _ g1).mono ?_;rintro e' t2 ⟨⟨gq,Q,rfl,hgq,BQ,LQ,lQ,vQ⟩,hb2⟩;have g2:=ag g1 hb2)
  | (go_at_call_of 61 a1;refine (C1.out _ g0).mono ?_;rintro e' t1 ⟨⟨gz,P,rfl,hgp,BP,LP,lP,vP⟩,hb1⟩;have g1:=ag g0 hb1))
 have BP2:=BP.below' hb2
 have hne:gq≠gz:=by have:=BP.lt;omega
 have hqlt:=BQ.lt
 have HGE:=aa (show w.heap.size≤gz from Nat.le_trans HB0.out.size (Nat.le_trans g0.size hgp))
 have HW2:=aa (ag HB0.out g2)
 have HB0P:=aa BP2
 have HLP:=aa LP
 have HVP:=aa (And.intro vP vQ)
 replace HR0:=aa (ab g2 HR0.out)
 clear C1 C2 KS g0 g1 g2 hb1 hb2 BP hgp hgq BP2 vP vQ
 go_wp2
 go_loopw [30] (fun i wr=>∃(k:Nat) (out:List Nat),k≤n∧i=.int .i64 k∧out.length=n∧Limbs out∧Blk wr gz out∧Fr gz t2 wr∧Out P out 0 (0+k)∧out.take k=(aH (fun x y=>x ^^^ y) n P Q).take k) (fun i _=>n - (intOf i).toNat)
 case atStart=>exact⟨0,P,Nat.zero_le _,rfl,lP,HLP.out,HB0P.out,Fr.refl _ _,Out.refl _ _ _,by simp⟩
 case round=>
  obtain⟨k,out,hk,rfl,hlen,hlo,hblk,hfr0,hout,hval⟩:=hrel
  have HV:=aa hval
  have HBk:=aa hblk
  have HF:=aa hfr0
  have HO:=aa hout
  clear hval
  by_cases hkl:k<n
  ·have hfr:=hblk.free k
   have hco:=hblk.cell k (by omega)
   have hsame:=hout.same k (by omega)
   rw [hsame] at hco
   have hcq:=(show Blk wr gq Q from (hfr0.block gq hqlt hne).trans BQ).cell k (by omega)
   have q1:=limb_lt LP k
   have q2:=limb_lt LQ k
   have hst:=dT out (fun x y=>x ^^^ y) n k P Q hlen hkl HV.out
   have hlit:=j7 (P.getD k 0) (Q.getD k 0) wr q1 q2
   have hs1:=gQ (P.getD k 0) (Q.getD k 0) q1 q2
   generalize P.getD k 0=x at *
   generalize Q.getD k 0=y at *
   have HS':=aa hst
   generalize (x ^^^ y)=s at *
   have i1:(k:Int)<(n:Int):=by omega
   clear hst hblk hfr0 hout HV hsame LP LQ BQ en2
   go_wp2_with fail
   refine hlit.mono ?_
   rintro e wn ⟨rfl,hw⟩;rw [hw];clear hw wn hlit
   go_wp2
   go_roundw
   case rel=>exact⟨k+1,out.set k s,by omega,by go_num,by simp;omega,limbs_set hlo _ _ hs1,HBk.out.set k s,HF.out.setCell _ _,(HO.out.wider (Nat.le_refl _) (by omega)).set _ _ (by omega) (by omega),HS'.out⟩
   case measure=>simp [intOf];omega
  ·have ek:k=n:=by omega
   have hzip:out=aH (fun x y=>x ^^^ y) n P Q:=by
    have h:=HV.out
    rw [ek,List.take_of_length_le (by omega),List.take_of_length_le (by rw [dw];omega)] at h
    exact h
   have hp1:=HM1.out
   have hp2:=HM2.out
   have hpn:18446744073709551616 ^ m≤2 ^ (64*n):=by rw [bC];exact Nat.pow_le_pow_right (by omega) (by omega)
   have hvo:val out=tcv (64*n) ((zsg z1 != zsg z2)) ((zmg z1 ^^^ zmg z2)):=by
    rw [hzip,jt n P Q LP LQ (by omega) (by omega),HVP.out.1,HVP.out.2]
    exact gL (Nat.lt_of_lt_of_le hp1 hpn) (Nat.lt_of_lt_of_le hp2 hpn)
   have hmlt:(zmg z1 ^^^ zmg z2)<18446744073709551616 ^ m:=by
    rw [←bC] at hp1 hp2 ⊢
    exact Nat.xor_lt_two_pow hp1 hp2
   have enm:n=m+1:=by omega
   have htop:=dF (n:=m) hlo (by omega) hmlt (by rw [←enm];exact hvo)
   have hneg:=dI (n:=m) hmlt
   rw [←enm] at hneg
   have hco:=hblk.cell m (by omega)
   have HZO:=aa (show ez=enc ((zsg z1 != zsg z2)) ((zmg z1 ^^^ zmg z2)) from HEZ.out ▸ rfl)
   generalize ((zmg z1 ^^^ zmg z2))=mm at *
   generalize ((zsg z1 != zsg z2))=ss at *
   have HNG:=aa hneg
   have HVO:=aa (And.intro hvo hlen)
   have HBF:Hid (Below w.heap.size w wr):=aa (HW2.out.trans (hfr0.below HGE.out HW2.out.size))
   have HBX:=aa (show Below t2.heap.size t2 t2 from Below.refl _ _)
   have HR1:=aa (show wr.heap[w.heap.size+1+1]?=some (.cells #[.bool false,.slice none 0 0] 27) from (hfr0.block _ (lt_of_block HR0.out) (by have h5:=lt_of_block HR0.out;intro e5;have h6:=HR0.out;rw [e5] at h6;have h7:=HB0P.out;unfold Blk at h7;rw [h6] at h7;simp at h7)).trans HR0.out)
   clear HR0 HBX
   have HR0:=HR1
   have HBX:=aa (Below.refl wr.heap.size wr)
   clear hzip hp1 hp2 hpn hmlt hneg HV HF HO HM1 HM2 HVP LP LQ BQ hfr0 hout HR1 hvo HW2 HEZ
   have i1:¬(k:Int)<(n:Int):=by omega
   have hmi:(m:Int)<(n:Int):=by omega
   have hmi0:(0:Int)≤(m:Int):=by omega
   clear enm ek
   cases ss
   ·have t0:out.getD m 0=0:=by
     rcases Nat.eq_zero_or_pos (out.getD m 0) with h|h
     ·exact h
     ·have h9:0<out.getD m 0:=h;rw [htop] at h9;cases h9
    rw [t0] at hco
    clear htop t0
    have HSZ:=aa (show zz false mm=ez∧ez.natAbs=mm from ⟨by rw [HZO.out,bi];rfl,by rw [HZO.out,bi,az];rfl⟩)
    have VF:val out=mm:=HVO.out.1
    have lF:=hlen
    have BF:=hblk
    have LF:=hlo
    clear HVO HNG HZO hblk hlo hlen
    have HR:=aI.trimmed (w:=w) (x:=mm) HGE.out BF LF (by omega) VF HBF.out
    rw [lF] at HR
    have hlen9:(tr out).length≤n:=by rw [←lF];exact tr_length_le out
    clear BF LF VF lF
    go_wp2_with fail
    refine HR.mono ?_
    rintro e u1 ⟨he,hwu,⟨v5,rs,he2,hans,hv5,ht5⟩,hbu⟩
    rw [he] at he2
    cases he2
    subst he
    subst hwu
    clear HR
    obtain⟨lr,hlr⟩:∃l,(tr out).length=l:=⟨_,rfl⟩
    rw [hlr] at hans hlen9 ⊢
    have hlrs:rs.length=lr:=by obtain⟨_,_,e9⟩:=hans.shape;cases e9;rfl
    obtain⟨u2,hu2,hbu2,hxu⟩:=ay u1 (.cells #[.slice (some ⟨gz,0,none⟩) lr n] 25)
    have C:=ci _ _ rs u2 hxu ((hans.below hbu2).arg (by rw [hlrs];omega))
    rw [hv5] at C
    have HAN:=aa (hans.below hbu2)
    have HV5:=aa (And.intro hv5 ht5)
    have HB2:=aa (ag hbu hbu2)
    have HXR:=aa (ab hbu2 (ab HBX.out HR0.out))
    clear hans hv5 ht5 hbu hbu2 hxu hlr hlrs
    go_wp2_with fail
    refine C.mono ?_
    rintro e wn ⟨rfl,hw⟩;rw [hw];clear hw wn C
    by_cases hbig:67108864<blen mm
    ·rw [decide_eq_true hbig]
     have T3:=ak (a':=.bool false) (b':=.slice none 0 0) HXR.out
     have HE:=aa (And.intro (show ZR ((u2.setCell ⟨w.heap.size+1+1,0,none⟩ (.bool false)).setCell ⟨w.heap.size+1+1,1,none⟩ (.slice none 0 0)) w.heap.size false (.slice none 0 0) 3 ez from ⟨[],Ans.nil _ _,.inr ⟨rfl,rfl,rfl,rfl,by rw [HSZ.out.2];exact hbig⟩⟩) (ai (u0:=.bool false) (u1:=.slice none 0 0) HB2.out (show w.heap.size≤w.heap.size+1+1 by omega)))
     obtain⟨p0,p1⟩:=duo T3
     have hf:=ae HXR.out
     obtain⟨m0,m1'⟩:=duo HXR.out
     clear T3 hbig
     go_wp2
     clear hf m0 m1'
     generalize (u2.setCell ⟨w.heap.size+1+1,0,none⟩ (.bool false)).setCell ⟨w.heap.size+1+1,1,none⟩ (.slice none 0 0)=w9 at *
     refine bodyPost_ret (v:=.tuple #[.agg #[.bool false,.slice none 0 0],.int .i64 3]) (by simp [results,Tryz.results32,go_sem,p0,p1]) rfl ?_
     exact⟨⟨_,_,_,_,_,rfl,HE.out.1⟩,HE.out.2⟩
    rw [decide_eq_false hbig]
    have C:=cB false _ rs _ u2 mm ez HSZ.out.1 HAN.out HV5.out.1 HV5.out.2
    have HBG:=aa hbig
    clear hbig
    go_wp2_with fail
    refine C.mono ?_
    rintro e u3 ⟨rfl,hb3⟩
    have hz3:=ab hb3 HXR.out
    have T1:ZR u3 w.heap.size (decide (ez<0)) (.slice (some ⟨gz,0,none⟩) lr n) 0 ez:=⟨rs,HAN.out.below hb3,.inl ⟨rfl,rfl,by rw [HSZ.out.2];exact HV5.out.1,HV5.out.2,by rw [HSZ.out.2];have:=HBG.out;omega⟩⟩
    have T3:=ak (a':=.bool (decide (ez<0))) (b':=.slice (some ⟨gz,0,none⟩) lr n) hz3
    have HE:=aa (And.intro (T1.duo (u0:=.bool (decide (ez<0))) (u1:=.slice (some ⟨gz,0,none⟩) lr n) hz3) (ai (u0:=.bool (decide (ez<0))) (u1:=.slice (some ⟨gz,0,none⟩) lr n) (ag HB2.out hb3) (show w.heap.size≤w.heap.size+1+1 by omega)))
    obtain⟨p0,p1⟩:=duo T3
    have hf:=ae hz3
    obtain⟨m0,m1'⟩:=duo hz3
    clear T1 T3 hz3 hb3 C
    go_wp2
    clear hf m0 m1'
    generalize (u3.setCell ⟨w.heap.size+1+1,0,none⟩ (.bool (decide (ez<0)))).setCell ⟨w.heap.size+1+1,1,none⟩ (.slice (some ⟨gz,0,none⟩) lr n)=w9 at *
    refine bodyPost_ret (v:=.tuple #[.agg #[.bool (decide (ez<0)),.slice (some ⟨gz,0,none⟩) lr n],.int .i64 0]) (by simp [results,Tryz.results32,go_sem,p0,p1]) rfl ?_
    exact⟨⟨_,_,_,_,_,rfl,HE.out.1⟩,HE.out.2⟩
   ·have t0:0<out.getD m 0:=by rw [htop]
    generalize out.getD m 0=tt at *
    have t1':(0:Int)<(tt:Int):=by omega
    have HN:=dB gz n out wr hblk hlo hlen (by omega)
    clear htop
    have HSZ:=aa (show zz true (mm+1)=ez∧ez.natAbs=mm+1 from ⟨by rw [HZO.out,bi];rfl,by rw [HZO.out,bi,az];rfl⟩)
    clear hblk hlo hlen HZO
    go_wp2_with fail
    refine HN.mono ?_
    rintro e w7 ⟨rfl,out2,BF,LF,lF0,vF0,F7⟩
    have lF:out2.length=n:=by rw [lF0];exact HVO.out.2
    have VF:val out2=mm+1:=by rw [vF0,HVO.out.2,HVO.out.1];exact HNG.out
    replace HBF:=aa (HBF.out.trans (F7.below HGE.out HBF.out.size))
    have HR1:=aa (show w7.heap[w.heap.size+1+1]?=some (.cells #[.bool false,.slice none 0 0] 27) from (F7.block _ (lt_of_block HR0.out) (by intro e5;have h6:=ab (Below.refl _ _) HR0.out;have h8:w7.heap[gz]?=_:=BF;have h7:=HBk.out;unfold Blk at h7;rw [e5] at h6;rw [h6] at h7;simp at h7)).trans HR0.out)
    clear HR0 HBX
    have HR0:=HR1
    have HBX:=aa (Below.refl w7.heap.size w7)
    clear HN HVO HNG lF0 vF0 F7 HR1 t0 t1' hco
    have HR:=aI.trimmed (w:=w) (x:=(mm+1)) HGE.out BF LF (by omega) VF HBF.out
    rw [lF] at HR
    have hlen9:(tr out2).length≤n:=by rw [←lF];exact tr_length_le out2
    clear BF LF VF lF
    go_wp2_with fail
    refine HR.mono ?_
    rintro e u1 ⟨he,hwu,⟨v5,rs,he2,hans,hv5,ht5⟩,hbu⟩
    rw [he] at he2
    cases he2
    subst he
    subst hwu
    clear HR
    obtain⟨lr,hlr⟩:∃l,(tr out2).length=l:=⟨_,rfl⟩
    rw [hlr] at hans hlen9 ⊢
    have hlrs:rs.length=lr:=by obtain⟨_,_,e9⟩:=hans.shape;cases e9;rfl
    obtain⟨u2,hu2,hbu2,hxu⟩:=ay u1 (.cells #[.slice (some ⟨gz,0,none⟩) lr n] 25)
    have C:=ci _ _ rs u2 hxu ((hans.below hbu2).arg (by rw [hlrs];omega))
    rw [hv5] at C
    have HAN:=aa (hans.below hbu2)
    have HV5:=aa (And.intro hv5 ht5)
    have HB2:=aa (ag hbu hbu2)
    have HXR:=aa (ab hbu2 (ab HBX.out HR0.out))
    clear hans hv5 ht5 hbu hbu2 hxu hlr hlrs
    go_wp2_with fail
    refine C.mono ?_
    rintro e wn ⟨rfl,hw⟩;rw [hw];clear hw wn C
    by_cases hbig:67108864<blen (mm+1)
    ·rw [decide_eq_true hbig]
     have T3:=ak (a':=.bool false) (b':=.slice none 0 0) HXR.out
     have HE:=aa (And.intro (show ZR ((u2.setCell ⟨w.heap.size+1+1,0,none⟩ (.bool false)).setCell ⟨w.heap.size+1+1,1,none⟩ (.slice none 0 0)) w.heap.size false (.slice none 0 0) 3 ez from ⟨[],Ans.nil _ _,.inr ⟨rfl,rfl,rfl,rfl,by rw [HSZ.out.2];exact hbig⟩⟩) (ai (u0:=.bool false) (u1:=.slice none 0 0) HB2.out (show w.heap.size≤w.heap.size+1+1 by omega)))
     obtain⟨p0,p1⟩:=duo T3
     have hf:=ae HXR.out
     obtain⟨m0,m1'⟩:=duo HXR.out
     clear T3 hbig
     go_wp2
     clear hf m0 m1'
     generalize (u2.setCell ⟨w.heap.size+1+1,0,none⟩ (.bool false)).setCell ⟨w.heap.size+1+1,1,none⟩ (.slice none 0 0)=w9 at *
     refine bodyPost_ret (v:=.tuple #[.agg #[.bool false,.slice none 0 0],.int .i64 3]) (by simp [results,Tryz.results32,go_sem,p0,p1]) rfl ?_
     exact⟨⟨_,_,_,_,_,rfl,HE.out.1⟩,HE.out.2⟩
    rw [decide_eq_false hbig]
    have C:=cB true _ rs _ u2 (mm+1) ez HSZ.out.1 HAN.out HV5.out.1 HV5.out.2
    have HBG:=aa hbig
    clear hbig
    go_wp2_with fail
    refine C.mono ?_
    rintro e u3 ⟨rfl,hb3⟩
    have hz3:=ab hb3 HXR.out
    have T1:ZR u3 w.heap.size (decide (ez<0)) (.slice (some ⟨gz,0,none⟩) lr n) 0 ez:=⟨rs,HAN.out.below hb3,.inl ⟨rfl,rfl,by rw [HSZ.out.2];exact HV5.out.1,HV5.out.2,by rw [HSZ.out.2];have:=HBG.out;omega⟩⟩
    have T3:=ak (a':=.bool (decide (ez<0))) (b':=.slice (some ⟨gz,0,none⟩) lr n) hz3
    have HE:=aa (And.intro (T1.duo (u0:=.bool (decide (ez<0))) (u1:=.slice (some ⟨gz,0,none⟩) lr n) hz3) (ai (u0:=.bool (decide (ez<0))) (u1:=.slice (some ⟨gz,0,none⟩) lr n) (ag HB2.out hb3) (show w.heap.size≤w.heap.size+1+1 by omega)))
    obtain⟨p0,p1⟩:=duo T3
    have hf:=ae hz3
    obtain⟨m0,m1'⟩:=duo hz3
    clear T1 T3 hz3 hb3 C
    go_wp2
    clear hf m0 m1'
    generalize (u3.setCell ⟨w.heap.size+1+1,0,none⟩ (.bool (decide (ez<0)))).setCell ⟨w.heap.size+1+1,1,none⟩ (.slice (some ⟨gz,0,none⟩) lr n)=w9 at *
    refine bodyPost_ret (v:=.tuple #[.agg #[.bool (decide (ez<0)),.slice (some ⟨gz,0,none⟩) lr n],.int .i64 0]) (by simp [results,Tryz.results32,go_sem,p0,p1]) rfl ?_
    exact⟨⟨_,_,_,_,_,rfl,HE.out.1⟩,HE.out.2⟩

theorem gf (b1 b2:Bool)(v1 v2:Value)(X Y:List Nat)(w:World)(hA:Arg w v1 X)(hB:Arg w v2 Y)(hf:X.length≤17592186044416)(hg:Y.length≤17592186044416) :
  Calls Tryz.prog 7 #[.agg #[.bool b1,v1],.agg #[.bool b2,v2]] w fun e w'=>aZ w' w.heap.size e (bn (zz b1 (val X)) (zz b2 (val Y)))∧Below w.heap.size w w':=by
 obtain⟨a1,c1,rfl,_,_,_⟩:=hA.form
 obtain⟨a2,c2,rfl,_,_,_⟩:=hB.form
 obtain⟨w0,hw0,hb0,h0,h1,h2⟩:=bJ w (.cells #[.bool b1,.slice a1 X.length c1] 27) (.cells #[.bool b2,.slice a2 Y.length c2] 27) (.cells #[.bool false,.slice none 0 0] 27)
 obtain⟨k0,k1⟩:=duo h0
 obtain⟨k2,k3⟩:=duo h1
 have C:=hC b1 b2 _ _ X Y w0 (hA.below hb0) (hB.below hb0) hf hg
 have H2:=aa h2
 have HB0:=aa hb0
 clear hA hB hb0 h0 h1 h2
 generalize bn (zz b1 (val X)) (zz b2 (val Y))=z at *
 go_enter Tryz.func7,Tryz.ntmps7
 go_wp2_with fail
 refine C.mono ?_
 rintro e t2 ⟨⟨b5,a5,n5,k5,c5,rfl,hr⟩,hb2⟩
 have hz3:=ab hb2 H2.out
 have T3:=ak (a':=.bool b5) (b':=.slice a5 n5 k5) hz3
 have HE:=aa (And.intro ((hr.base HB0.out.size).duo (u0:=.bool b5) (u1:=.slice a5 n5 k5) hz3) (ai (u0:=.bool b5) (u1:=.slice a5 n5 k5) (ag HB0.out hb2) (show w.heap.size≤w.heap.size+2 by omega)))
 obtain⟨p0,p1⟩:=duo T3
 have hf:=ae hz3
 obtain⟨m0,m1'⟩:=duo hz3
 clear T3 hz3 hb2 C hr
 go_wp2
 clear hf m0 m1'
 generalize (t2.setCell ⟨w.heap.size+2,0,none⟩ (.bool b5)).setCell ⟨w.heap.size+2,1,none⟩ (.slice a5 n5 k5)=w9 at *
 refine bodyPost_ret (v:=.tuple #[.agg #[.bool b5,.slice a5 n5 k5],.int .i64 c5]) (by simp [results,Tryz.results7,go_sem,p0,p1]) rfl ?_
 exact⟨⟨_,_,_,_,_,rfl,HE.out.1⟩,HE.out.2⟩

theorem gZ (b1 b2:Bool)(v1 v2:Value)(X Y:List Nat)(w:World)(hA:Arg w v1 X)(hB:Arg w v2 Y)(hf:X.length≤17592186044416)(hg:Y.length≤17592186044416) :
  Calls Tryz.prog 8 #[.agg #[.bool b1,v1],.agg #[.bool b2,v2]] w fun e w'=>aZ w' w.heap.size e (zor (zz b1 (val X)) (zz b2 (val Y)))∧Below w.heap.size w w':=by
 obtain⟨a1,c1,rfl,_,_,_⟩:=hA.form
 obtain⟨a2,c2,rfl,_,_,_⟩:=hB.form
 obtain⟨w0,hw0,hb0,h0,h1,h2⟩:=bJ w (.cells #[.bool b1,.slice a1 X.length c1] 27) (.cells #[.bool b2,.slice a2 Y.length c2] 27) (.cells #[.bool false,.slice none 0 0] 27)
 obtain⟨k0,k1⟩:=duo h0
 obtain⟨k2,k3⟩:=duo h1
 have C:=jb b1 b2 _ _ X Y w0 (hA.below hb0) (hB.below hb0) hf hg
 have H2:=aa h2
 have HB0:=aa hb0
 clear hA hB hb0 h0 h1 h2
 generalize zor (zz b1 (val X)) (zz b2 (val Y))=z at *
 go_enter Tryz.func8,Tryz.ntmps8
 go_wp2_with fail
 refine C.mono ?_
 rintro e t2 ⟨⟨b5,a5,n5,k5,c5,rfl,hr⟩,hb2⟩
 have hz3:=ab hb2 H2.out
 have T3:=ak (a':=.bool b5) (b':=.slice a5 n5 k5) hz3
 have HE:=aa (And.intro ((hr.base HB0.out.size).duo (u0:=.bool b5) (u1:=.slice a5 n5 k5) hz3) (ai (u0:=.bool b5) (u1:=.slice a5 n5 k5) (ag HB0.out hb2) (show w.heap.size≤w.heap.size+2 by omega)))
 obtain⟨p0,p1⟩:=duo T3
 have hf:=ae hz3
 obtain⟨m0,m1'⟩:=duo hz3
 clear T3 hz3 hb2 C hr
 go_wp2
 clear hf m0 m1'
 generalize (t2.setCell ⟨w.heap.size+2,0,none⟩ (.bool b5)).setCell ⟨w.heap.size+2,1,none⟩ (.slice a5 n5 k5)=w9 at *
 refine bodyPost_ret (v:=.tuple #[.agg #[.bool b5,.slice a5 n5 k5],.int .i64 c5]) (by simp [results,Tryz.results8,go_sem,p0,p1]) rfl ?_
 exact⟨⟨_,_,_,_,_,rfl,HE.out.1⟩,HE.out.2⟩

theorem jD (b1 b2:Bool)(v1 v2:Value)(X Y:List Nat)(w:World)(hA:Arg w v1 X)(hB:Arg w v2 Y)(hf:X.length≤17592186044416)(hg:Y.length≤17592186044416) :
  Calls Tryz.prog 9 #[.agg #[.bool b1,v1],.agg #[.bool b2,v2]] w fun e w'=>aZ w' w.heap.size e (cC (zz b1 (val X)) (zz b2 (val Y)))∧Below w.heap.size w w':=by
 obtain⟨a1,c1,rfl,_,_,_⟩:=hA.form
 obtain⟨a2,c2,rfl,_,_,_⟩:=hB.form
 obtain⟨w0,hw0,hb0,h0,h1,h2⟩:=bJ w (.cells #[.bool b1,.slice a1 X.length c1] 27) (.cells #[.bool b2,.slice a2 Y.length c2] 27) (.cells #[.bool false,.slice none 0 0] 27)
 obtain⟨k0,k1⟩:=duo h0
 obtain⟨k2,k3⟩:=duo h1
 have C:=iD b1 b2 _ _ X Y w0 (hA.below hb0) (hB.below hb0) hf hg
 have H2:=aa h2
 have HB0:=aa hb0
 clear hA hB hb0 h0 h1 h2
 generalize cC (zz b1 (val X)) (zz b2 (val Y))=z at *
 go_enter Tryz.func9,Tryz.ntmps9
 go_wp2_with fail
 refine C.mono ?_
 rintro e t2 ⟨⟨b5,a5,n5,k5,c5,rfl,hr⟩,hb2⟩
 have hz3:=ab hb2 H2.out
 have T3:=ak (a':=.bool b5) (b':=.slice a5 n5 k5) hz3
 have HE:=aa (And.intro ((hr.base HB0.out.size).duo (u0:=.bool b5) (u1:=.slice a5 n5 k5) hz3) (ai (u0:=.bool b5) (u1:=.slice a5 n5 k5) (ag HB0.out hb2) (show w.heap.size≤w.heap.size+2 by omega)))
 obtain⟨p0,p1⟩:=duo T3
 have hf:=ae hz3
 obtain⟨m0,m1'⟩:=duo hz3
 clear T3 hz3 hb2 C hr
 go_wp2
 clear hf m0 m1'
 generalize (t2.setCell ⟨w.heap.size+2,0,none⟩ (.bool b5)).setCell ⟨w.heap.size+2,1,none⟩ (.slice a5 n5 k5)=w9 at *
 refine bodyPost_ret (v:=.tuple #[.agg #[.bool b5,.slice a5 n5 k5],.int .i64 c5]) (by simp [results,Tryz.results9,go_sem,p0,p1]) rfl ?_
 exact⟨⟨_,_,_,_,_,rfl,HE.out.1⟩,HE.out.2⟩

theorem d9 {w:World}{g:Nat}(h:w.heap[g]?=some (.cells #[.int .u64 1] 60)):Arg w (.slice (some ⟨g,0,none⟩) 1 1) [1]:=by
 have hblk:Blk w g [1]:=h
 exact (Ans.of_blk (base:=0) (zs:=[1]) (Nat.zero_le _) hblk (by simp) (by simp) (by simp) (by intro z hz;simp at hz;omega)).arg (by simp)

theorem fE (b1:Bool)(v1:Value)(X:List Nat)(w:World)(hA:Arg w v1 X)(hf:X.length≤17592186044416) :
  Calls Tryz.prog 10 #[.agg #[.bool b1,v1]] w fun e w'=>aZ w' w.heap.size e (-1 - zz b1 (val X))∧Below w.heap.size w w':=by
 obtain⟨a1,c1,rfl,_,_,_⟩:=hA.form
 obtain⟨w0,hw0,hb0,h0,h2⟩:=aQ w (.cells #[.bool b1,.slice a1 X.length c1] 27) (.cells #[.bool false,.slice none 0 0] 27)
 obtain⟨k0,k1⟩:=duo h0
 have N:=cM b1 _ X w0 (hA.below hb0)
 have HA:=aa (hA.below hb0)
 have H0:=aa h0
 have H2:=aa h2
 have HB0:=aa hb0
 clear hA hb0 h0 h2
 by_cases hz:zz b1 (val X)<0
 ·rw [decide_eq_true hz] at N
  have hv:1≤val X:=by have:=az b1 (val X);omega
  have hr0:-1 - zz b1 (val X)=zz false (val X - 1):=by
   have h1:=az b1 (val X)
   simp [zz] at h1 ⊢
   cases b1 <;> simp [zz] at hz ⊢ <;> omega
  rw [hr0]
  obtain⟨sz,hsz⟩:∃sz,val X - 1=sz:=⟨_,rfl⟩
  rw [hsz]
  have HV:=aa hv
  clear hz hr0 hv
  go_enter Tryz.func10,Tryz.ntmps10
  go_wp2_with fail
  refine N.mono ?_
  rintro e t1 ⟨rfl,hb1⟩
  obtain⟨l0,l1⟩:=duo (ab hb1 H0.out)
  obtain⟨t2,ht2,hbt,hxt⟩:=ay t1 (.cells #[.int .u64 1] 60)
  have HW2:=aa (ag hb1 hbt)
  have C:=cQ _ _ X [1] t2 (HA.out.below HW2.out) (d9 hxt) (by omega)
  rw [show val [1]=1 by simp [val],hsz] at C
  clear hsz
  clear hb1 hbt hxt N k0 k1
  go_wp2_with fail
  refine C.mono ?_
  rintro e t3 ⟨hb3,hcase⟩
  obtain⟨v7,c7,rs,rfl,ha,hres⟩:Res t3 t2.heap.size e sz:=by
   rcases hcase with ⟨h,_⟩|⟨_,h⟩
   ·have:=HV.out;omega
   ·exact h
  clear hcase l0 l1
  have hans:=ba false v7 rs c7 sz _ t3 ha hres
  obtain⟨a7,n7,rfl⟩:=ha.shape
  have HW3:=aa (ag HW2.out hb3)
  clear ha hres hb3 C
  go_wp2_with fail
  refine hans.mono ?_
  rintro e t4 ⟨⟨b5,a5,n5,k5,c5,rfl,hr⟩,hb4⟩
  have hz3:=ab (ag HW3.out hb4) H2.out
  have T3:=ak (a':=.bool b5) (b':=.slice a5 n5 k5) hz3
  have HE:=aa (And.intro ((hr.base (Nat.le_trans HB0.out.size HW2.out.size)).duo (u0:=.bool b5) (u1:=.slice a5 n5 k5) hz3) (ai (u0:=.bool b5) (u1:=.slice a5 n5 k5) (ag HB0.out (ag HW3.out hb4)) (show w.heap.size≤w.heap.size+1 by omega)))
  obtain⟨p0,p1⟩:=duo T3
  have hf:=ae hz3
  obtain⟨m0,m1'⟩:=duo hz3
  clear T3 hz3 hb4 hans hr
  go_wp2
  clear hf m0 m1'
  generalize (t4.setCell ⟨w.heap.size+1,0,none⟩ (.bool b5)).setCell ⟨w.heap.size+1,1,none⟩ (.slice a5 n5 k5)=w9 at *
  refine bodyPost_ret (v:=.tuple #[.agg #[.bool b5,.slice a5 n5 k5],.int .i64 c5]) (by simp [results,Tryz.results10,go_sem,p0,p1]) rfl ?_
  exact⟨⟨_,_,_,_,_,rfl,HE.out.1⟩,HE.out.2⟩
 ·rw [decide_eq_false hz] at N
  have hr0:-1 - zz b1 (val X)=zz true (val X+1):=by
   cases b1 <;> simp [zz] at hz ⊢ <;> omega
  rw [hr0]
  obtain⟨sz,hsz⟩:∃sz,val X+1=sz:=⟨_,rfl⟩
  rw [hsz]
  clear hz hr0
  go_enter Tryz.func10,Tryz.ntmps10
  go_wp2_with fail
  refine N.mono ?_
  rintro e t1 ⟨rfl,hb1⟩
  obtain⟨l0,l1⟩:=duo (ab hb1 H0.out)
  obtain⟨t2,ht2,hbt,hxt⟩:=ay t1 (.cells #[.int .u64 1] 60)
  have HW2:=aa (ag hb1 hbt)
  have C:=dz _ _ X [1] t2 (HA.out.below HW2.out) (d9 hxt) (by omega) (by simp)
  rw [show val [1]=1 by simp [val],hsz] at C
  clear hsz
  clear hb1 hbt hxt N k0 k1
  go_wp2_with fail
  refine C.mono ?_
  rintro e t3 ⟨hb3,v7,c7,rs,rfl,ha,hres⟩
  clear l0 l1
  have hans:=ba true v7 rs c7 sz _ t3 ha hres
  obtain⟨a7,n7,rfl⟩:=ha.shape
  have HW3:=aa (ag HW2.out hb3)
  clear ha hres hb3 C
  go_wp2_with fail
  refine hans.mono ?_
  rintro e t4 ⟨⟨b5,a5,n5,k5,c5,rfl,hr⟩,hb4⟩
  have hz3:=ab (ag HW3.out hb4) H2.out
  have T3:=ak (a':=.bool b5) (b':=.slice a5 n5 k5) hz3
  have HE:=aa (And.intro ((hr.base (Nat.le_trans HB0.out.size HW2.out.size)).duo (u0:=.bool b5) (u1:=.slice a5 n5 k5) hz3) (ai (u0:=.bool b5) (u1:=.slice a5 n5 k5) (ag HB0.out (ag HW3.out hb4)) (show w.heap.size≤w.heap.size+1 by omega)))
  obtain⟨p0,p1⟩:=duo T3
  have hf:=ae hz3
  obtain⟨m0,m1'⟩:=duo hz3
  clear T3 hz3 hb4 hans hr
  go_wp2
  clear hf m0 m1'
  generalize (t4.setCell ⟨w.heap.size+1,0,none⟩ (.bool b5)).setCell ⟨w.heap.size+1,1,none⟩ (.slice a5 n5 k5)=w9 at *
  refine bodyPost_ret (v:=.tuple #[.agg #[.bool b5,.slice a5 n5 k5],.int .i64 c5]) (by simp [results,Tryz.results10,go_sem,p0,p1]) rfl ?_
  exact⟨⟨_,_,_,_,_,rfl,HE.out.1⟩,HE.out.2⟩

theorem fd (b1:Bool)(v1:Value)(X:List Nat)(i:Nat)(w:World)(hA:Arg w v1 X)(hT:Tab w)(hi:i≤9223372036854775807) :
  Calls Tryz.prog 11 #[.agg #[.bool b1,v1],.int .i64 (i:Int)] w fun e w'=>e=.returned (.tuple #[.int .i64 (bj (zz b1 (val X)) i),.int .i64 0])∧Below w.heap.size w w':=by
 obtain⟨a1,c1,rfl,_,_,_⟩:=hA.form
 obtain⟨w0,hw0,hb0,h0⟩:=ay w (.cells #[.bool b1,.slice a1 X.length c1] 27)
 obtain⟨k0,k1⟩:=duo h0
 have B:=i9 _ X (i:Int) w0 (hA.below hb0) (by omega) (by omega)
 have N:=cM b1 _ X w0 (hA.below hb0)
 have KT:=aa (fun (W:World) (hg:Below w0.heap.size w0 W)=>eF _ X W ((hA.below hb0).below hg) ((hT.below hb0).below hg))
 have eb:ce (val X) (i:Int)=val X / 2 ^ i % 2:=by unfold ce;rw [if_neg (by omega),Int.toNat_natCast]
 rw [eb] at B
 have H0:=aa h0
 have HB0:=aa hb0
 have i0:¬(i:Int)<0:=by omega
 have hbl:val X / 2 ^ i % 2<2:=Nat.mod_lt _ (by omega)
 clear hA hT hb0 h0 eb
 by_cases hz:zz b1 (val X)<0
 ·rw [decide_eq_true hz] at N
  have hx0:val X≠0:=fun h=>by rw [h] at hz;cases b1 <;> simp [zz] at hz
  have hzz:zz b1 (val X)=-(val X:Int):=by cases b1 <;> simp [zz] at hz ⊢;omega
  rw [hzz]
  have HZB:=aa (fun (t:Nat) (ht:aS (val X) t)=>jj (x:=val X) (t:=t) (k:=val X / 2 ^ t / 2) (cD ht) i)
  have HX0:=aa hx0
  generalize bj (-(val X:Int)) i=zb at *
  generalize val X / 2 ^ i % 2=q at *
  clear hz hzz hx0
  go_enter Tryz.func11,Tryz.ntmps11
  go_wp2_with fail
  refine B.mono ?_
  rintro e wn ⟨rfl,hw⟩;rw [hw];clear hw wn B
  go_wp2_with fail
  refine N.mono ?_
  rintro e t1 ⟨rfl,hb1⟩
  obtain⟨l0,l1⟩:=duo (ab hb1 H0.out)
  have C:=KT.out t1 hb1
  have HW:=aa (ag HB0.out hb1)
  clear hb1 N k0 k1
  go_wp2_with fail
  refine C.mono ?_
  rintro e wn ⟨⟨t,htl,rfl,_,ht⟩,hw⟩;rw [hw];clear hw wn C
  have hzb:=HZB.out t (ht HX0.out)
  clear l0 l1 KT
  by_cases hti:t<i
  ·rw [if_pos hti] at hzb
   have i1:(t:Int)<(i:Int):=by omega
   have HZ9:=aa hzb
   clear hzb HZB ht
   go_wp2
   go_ret2
   exact⟨by rw [HZ9.out];rfl,HW.out⟩
  ·rw [if_neg hti] at hzb
   have i1:¬(t:Int)<(i:Int):=by omega
   have HZ9:=aa hzb
   clear hzb HZB ht
   go_wp2
   go_ret2
   exact⟨by rw [HZ9.out];rfl,HW.out⟩
 ·rw [decide_eq_false hz] at N
  have hzz:zz b1 (val X)=(val X:Int):=by cases b1 <;> simp [zz] at hz ⊢;omega
  rw [hzz,gU]
  generalize val X / 2 ^ i % 2=q at *
  clear hz hzz KT
  go_enter Tryz.func11,Tryz.ntmps11
  go_wp2_with fail
  refine B.mono ?_
  rintro e wn ⟨rfl,hw⟩;rw [hw];clear hw wn B
  go_wp2_with fail
  refine N.mono ?_
  rintro e t1 ⟨rfl,hb1⟩
  have HW:=aa (ag HB0.out hb1)
  clear hb1 N k0 k1
  go_wp2
  go_ret2
  exact⟨rfl,HW.out⟩
end Go.Proofs.YtcbpdngogkbndaaGreatDoor
namespace Go.Proofs.YtcbpdngogkbndaaGreatDoor
open Go.RowKit
open Lm

theorem gg (n:Int)(w:World)(h0:0≤n)(h1:n≤1099511627776) :
  Calls Tryz.prog 84 #[.int .i64 n] w fun e w'=>e=.returned (.bool true)∧w'=w:=by
 go_enter Tryz.func84,Tryz.ntmps84
 go_wp2
 go_ret
 exact⟨rfl,rfl⟩

theorem js (v:Value)(zs:List Nat)(n:Nat)(w:World)(h1:Arg w v zs)(f1:zs.length≤35184372088831)(hn:n≤1099511627776) :
  Calls Tryz.prog 60 #[v,.int .i64 n] w fun e w'=>Below w.heap.size w w'∧Res w' w.heap.size e (val zs*2 ^ n):=by
 obtain⟨a1,c1,rfl,hc1,hm1,hl1⟩:=h1.form
 have H0:=gg n w (by omega) (by omega)
 have H1:=bb a1 c1 zs w hc1 hm1 hl1
 have l1:=tr_length_le zs
 have L1:=hl1.tr
 have M1:=limbs_tr h1.limbs
 have ht:=h1.trim
 have H2:=aF _ _ _ ht
 obtain⟨i0,hi,hz0,hz1,hz2⟩:=info_parts Tryz.infoU
 by_cases h0:tr zs=[]
 ·have hv:val zs=0:=by rw [←val_tr,h0];rfl
  have hln:(tr zs).length=0:=by rw [h0];rfl
  rw [hln] at H1
  clear H2 hi hz0 hz1 hz2 L1 M1 ht hl1 h1 h0 hln
  have HV:Hid (val zs=0):=hv
  clear hv
  go_enter Tryz.func60,Tryz.ntmps60
  go_wp2_with fail
  refine H0.mono ?_
  rintro e w' ⟨rfl,rfl⟩
  go_wp2_with fail
  refine H1.mono ?_
  rintro e w' ⟨rfl,rfl⟩
  clear H0 H1
  go_wp2
  go_ret2
  rw [HV.out,Nat.zero_mul]
  exact⟨Below.refl _ _,_,_,[],rfl,Ans.nil _ _,.inl ⟨rfl,rfl,rfl,by simp [blen]⟩⟩
 ·have hpos:0<(tr zs).length:=List.length_pos_iff.2 h0
  have hvz:val zs≠0:=fun hv=>h0 (val_zero (tr_tr zs) (by rw [val_tr];exact hv))
  rw [val_tr] at H2
  rcases L1 with h' | ⟨b,off,rfl,hcell⟩
  ·exact absurd h' h0
  ·have hln:(((tr zs).length:Int) == 0)=false:=by rw [beq_eq_false_iff_ne];omega
   have HBL:Hid (blen (val zs*2 ^ n)=blen (val zs)+n):=blen_shl _ _ hvz
   have hbm:blen (val zs)≤zs.length*64:=(blen_le_iff _ _).2 (by have:=val_lt h1.limbs;rwa [W_pow] at this)
   by_cases hbig:blen (val zs)+n≤67108864
   ·have hbz:(tr zs).length≤1048576:=few_limbs zs 1048576 (by omega)
    have HVT:Hid (val (tr zs)=val zs):=val_tr zs
    generalize tr zs=Z at *
    obtain⟨q,s,hs,hnq⟩:∃q s,s<64∧n=q*64+s:=⟨n / 64,n % 64,by omega,by omega⟩
    have eq1:(n:Int) / 64=(q:Int):=by omega
    have eq2:(n:Int) % 64=(s:Int):=by omega
    have HN:Hid (n=q*64+s):=hnq
    have hq:q≤1048576:=by omega
    clear hnq
    clear hl1 h1 ht hvz h0
    go_enter Tryz.func60,Tryz.ntmps60
    go_wp2_with fail
    refine H0.mono ?_
    rintro e w' ⟨rfl,rfl⟩
    go_wp2_with fail
    refine H1.mono ?_
    rintro e w' ⟨rfl,rfl⟩
    go_wp2_with fail
    refine H2.mono ?_
    rintro e w' ⟨rfl,rfl⟩
    clear H0 H1 H2
    go_wp2_with (at_make;refine wpList_make_full _ rfl _ _ 25 rfl w'.heap.size 60 i0 (.int .u64 0) 1 Tryz.underlying25 hi hz0 hz1 .i64 .i64 _ _ (q+Z.length+1) rfl rfl (by omega) (by omega) (by rw [hz2];omega) (by unfold maxLen;omega) (Nat.le_refl _) ?_;intro w1 hown hgrow)
    have hb1:=Blk.made hown
    have hbel:Below w'.heap.size w' w1:=(Below.refl _ _).grown hgrow (Nat.le_refl _) (fun k hk=>by cases hk)
    clear hown hgrow hi hz0 hz1 hz2
    go_loopw [9,36] (fun c i wr=>∃(k cy:Nat) (out:List Nat),k≤Z.length∧i=.int .i64 k∧c=.int .u64 cy∧cy<2 ^ s∧out.length=q+Z.length+1∧Limbs out∧Blk wr w'.heap.size out∧Below w'.heap.size w' wr ∧
      val (out.take (q+k))+cy*18446744073709551616 ^ (q+k)=val (Z.take k)*2 ^ n) (fun _ i _=>Z.length - (intOf i).toNat)
    case atStart=>exact⟨0,0,_,Nat.zero_le _,rfl,rfl,Nat.two_pow_pos s,by simp,limbs_replicate _,hb1,hbel,by rw [List.take_replicate,val_replicate];simp [val]⟩
    case round=>
     obtain⟨k,cy,out,hk,rfl,rfl,hcy,hlen,hlo,hblk,hbl,hval⟩:=hrel
     clear hb1 hbel
     have HV:Hid (val (out.take (q+k))+cy*18446744073709551616 ^ (q+k)=val (Z.take k)*2 ^ n):=hval
     have HCY:Hid (cy<2 ^ s):=hcy
     have HB:Hid (Blk wr w'.heap.size out):=hblk
     have HL:Hid (Below w'.heap.size w' wr):=hbl
     have hcw:cy<18446744073709551616:=Nat.lt_of_lt_of_le hcy (by rw [show (18446744073709551616:Nat)=2 ^ 64 from rfl];exact Nat.pow_le_pow_right (by omega) (by omega))
     clear hval hcy
     by_cases hkl:k<Z.length
     ·have hbw:b<w'.heap.size:=am.block (zs:=Z) (.inr ⟨b,off,rfl,hcell⟩) hpos
      have hck:wr.cell? ⟨b,off+k,none⟩=some (.int .u64 ((Z.getD k 0:Nat):Int)):=by rw [hbl.cell (p:=⟨b,off+k,none⟩) hbw];exact hcell k hkl
      have hfr:=hblk.free (q+k)
      have hco:=hblk.cell (q+k) (by omega)
      generalize out.getD (q+k) 0=o at *
      have hne1:¬b=w'.heap.size:=by omega
      have hne2:¬w'.heap.size=b:=by omega
      have z1:=limb_lt M1 k
      have hst:=left_step Z out q s k cy n (by omega) HN.out (by omega) HV.out
      generalize Z.getD k 0=x at *
      have HS:Hid (val ((out.set (q+k) (shl x s cy)).take (q+(k+1)))+x / 2 ^ (64 - s)*18446744073709551616 ^ (q+(k+1))=val (Z.take (k+1))*2 ^ n):=hst
      clear hst hblk hbl HV hcell
      go_wp2
      go_roundw
      case rel=>
       rw [walk_shl x s cy (by omega) HCY.out,walk_shr]
       exact⟨k+1,x / 2 ^ (64 - s),out.set (q+k) (shl x s cy),by omega,by go_num,rfl,shr_lt x s (by omega) z1,by simp;omega,limbs_set hlo _ _ (shl_lt x s cy (by omega) HCY.out),HB.out.set _ _,HL.out.setCell (Nat.le_refl _) _,HS.out⟩
      case measure=>simp [intOf];omega
     ·have ek:k=Z.length:=by omega
      subst ek
      have hfr:=hblk.free (q+Z.length)
      have hco:=hblk.cell (q+Z.length) (by omega)
      generalize out.getD (q+Z.length) 0=o at *
      have hb2:=hblk.set (q+Z.length) cy
      have hlo2:=limbs_set hlo (q+Z.length) cy hcw
      have hle2:=tr_length_le (out.set (q+Z.length) cy)
      have hlies:am (wr.setCell ⟨w'.heap.size,q+Z.length,none⟩ (.int .u64 cy)) (some ⟨w'.heap.size,0,none⟩) (out.set (q+Z.length) cy):=.inr ⟨w'.heap.size,0,rfl,fun k hk=>by rw [Nat.zero_add];exact hb2.cell k hk⟩
      have hl2:(out.set (q+Z.length) cy).length=q+Z.length+1:=by simp;omega
      have HA:=bb _ (q+Z.length+1) _ _ (by omega) (by omega) hlies
      have hvl:val (out.set (q+Z.length) cy)=val zs*2 ^ n:=by
       have e1:(out.set (q+Z.length) cy).take (q+Z.length+1)=out.set (q+Z.length) cy:=List.take_of_length_le (by omega)
       rw [←e1,take_set_succ _ _ _ (by omega),Nat.mul_comm,HV.out,List.take_length,HVT.out]
      have HR:Hid (Ans (wr.setCell ⟨w'.heap.size,q+Z.length,none⟩ (.int .u64 cy)) w'.heap.size (.slice (some ⟨w'.heap.size,0,none⟩) (tr (out.set (q+Z.length) cy)).length (q+Z.length+1)) (tr (out.set (q+Z.length) cy))∧val (tr (out.set (q+Z.length) cy))=val zs*2 ^ n∧tr (tr (out.set (q+Z.length) cy))=tr (out.set (q+Z.length) cy)):=
       ⟨by rw [←hl2];exact Ans.of_blk (Nat.le_refl _) hb2 (tr_take _) hle2 (by omega) (limbs_tr hlo2),by rw [val_tr,hvl],tr_tr _⟩
      have HBel:Hid (Below w'.heap.size w' (wr.setCell ⟨w'.heap.size,q+Z.length,none⟩ (.int .u64 cy))):=hbl.setCell (Nat.le_refl _) _
      rw [hl2] at HA
      clear hvl hb2 hblk hbl HV HB HL hlo hlo2 hlies hle2
      generalize tr (out.set (q+Z.length) cy)=T at *
      go_wp2_with fail
      refine HA.mono ?_
      rintro e w2 ⟨rfl,rfl⟩
      go_wp2
      go_ret2
      exact⟨HBel.out,_,_,T,rfl,HR.out.1,.inl ⟨rfl,HR.out.2.1,HR.out.2.2,by rw [HBL.out];exact hbig⟩⟩
   ·clear hi hz0 hz1 hz2 hcell hl1 h1 ht hvz h0 M1
    go_enter Tryz.func60,Tryz.ntmps60
    go_wp2_with fail
    refine H0.mono ?_
    rintro e w' ⟨rfl,rfl⟩
    go_wp2_with fail
    refine H1.mono ?_
    rintro e w' ⟨rfl,rfl⟩
    go_wp2_with fail
    refine H2.mono ?_
    rintro e w' ⟨rfl,rfl⟩
    clear H0 H1 H2
    go_wp2
    go_ret2
    exact⟨Below.refl _ _,_,_,[],rfl,Ans.nil _ _,.inr ⟨rfl,rfl,by rw [HBL.out];omega⟩⟩
end Go.Proofs.YtcbpdngogkbndaaGreatDoor
namespace Go.Proofs.YtcbpdngogkbndaaGreatDoor
open Go.RowKit
open Lm
attribute [local go_sem ↓] Go.wp_at_zero Go.wp_at_succ

theorem iu (b:Bool)(x n:Nat):zz b (x*2 ^ n)=zz b x*2 ^ n:=by cases b <;> simp [zz,Int.neg_mul]

theorem ln (b:Bool)(v:Value)(X:List Nat)(n:Nat)(w:World)(hA:Arg w v X)(hf:X.length≤17592186044416)(hn:n≤4611686018427387904) :
  Calls Tryz.prog 29 #[.agg #[.bool b,v],.int .i64 (n:Int)] w fun e w'=>aZ w' w.heap.size e (zz b (val X)*2 ^ n)∧Below w.heap.size w w':=by
 obtain⟨a,c,rfl,_,_,_⟩:=hA.form
 obtain⟨w0,hw0,hb0,h0,hx0⟩:=aQ w (.cells #[.bool b,.slice a X.length c] 27) (.cells #[.bool false,.slice none 0 0] 27)
 obtain⟨k0,k1⟩:=duo h0
 have hf1:=ae hx0
 obtain⟨l0,l1⟩:=duo hx0
 have HB0:=aa hb0
 have HX0:=aa hx0
 have HZ:=dR _ X w0 (hA.below hb0)
 have i0:¬(n:Int)<0:=by omega
 rw [←iu]
 by_cases hz:val X=0
 ·rw [decide_eq_true hz] at HZ
  rw [hz,Nat.zero_mul,kf]
  clear hA hb0 h0 hx0 hz
  go_enter Tryz.func29,Tryz.ntmps29
  go_wp2_with fail
  refine HZ.mono ?_
  rintro e wn ⟨rfl,hw⟩;rw [hw];clear hw wn HZ
  go_wp2
  have R5:=ak HX0.out (a':=.bool false) (b':=.slice none 0 0)
  have HD:=aa (ai HB0.out (g:=w.heap.size+1) (u0:=.bool false) (u1:=.slice none 0 0) (by omega))
  generalize (w0.setCell ⟨w.heap.size+1,0,none⟩ (.bool false)).setCell ⟨w.heap.size+1,1,none⟩ (.slice none 0 0)=w5 at *
  obtain⟨q0,q1⟩:=duo R5
  refine bodyPost_ret (v:=.tuple #[.agg #[.bool false,.slice none 0 0],.int .i64 0]) (by simp [results,Tryz.results29,go_sem,q0,q1]) rfl ?_
  exact⟨⟨_,_,_,_,0,rfl,[],Ans.nil _ _,.inl ⟨rfl,rfl,rfl,rfl,by decide⟩⟩,HD.out⟩
 ·rw [decide_eq_false hz] at HZ
  by_cases hg:67108864<n
  ·have i1:(67108864:Int)<(n:Int):=by omega
   have HBL:=aa (blen_shl (val X) n hz)
   clear hA hb0 h0 hx0 hz
   generalize val X*2 ^ n=y at *
   go_enter Tryz.func29,Tryz.ntmps29
   go_wp2_with fail
   refine HZ.mono ?_
   rintro e wn ⟨rfl,hw⟩;rw [hw];clear hw wn HZ
   go_wp2
   have R5:=ak HX0.out (a':=.bool false) (b':=.slice none 0 0)
   have HD:=aa (ai HB0.out (g:=w.heap.size+1) (u0:=.bool false) (u1:=.slice none 0 0) (by omega))
   generalize (w0.setCell ⟨w.heap.size+1,0,none⟩ (.bool false)).setCell ⟨w.heap.size+1,1,none⟩ (.slice none 0 0)=w5 at *
   obtain⟨q0,q1⟩:=duo R5
   refine bodyPost_ret (v:=.tuple #[.agg #[.bool false,.slice none 0 0],.int .i64 3]) (by simp [results,Tryz.results29,go_sem,q0,q1]) rfl ?_
   exact⟨⟨_,_,_,_,3,rfl,[],Ans.nil _ _,.inr ⟨rfl,rfl,rfl,rfl,by rw [az,HBL.out];omega⟩⟩,HD.out⟩
  ·have i1:¬(67108864:Int)<(n:Int):=by omega
   have HL:=js _ X n w0 (hA.below hb0) (by omega) (by omega)
   clear hA hb0 h0 hx0 hz l0 l1 hf1
   generalize val X*2 ^ n=y at *
   have H0:=aa (show w0.heap[w.heap.size]?=some (.cells #[.bool b,.slice a X.length c] 27) by rw [←hw0];exact ab (bk _ _) (heap_alloc_new w _))
   go_enter Tryz.func29,Tryz.ntmps29
   go_wp2_with fail
   refine HZ.mono ?_
   rintro e wn ⟨rfl,hw⟩;rw [hw];clear hw wn HZ
   go_wp2_with fail
   refine HL.mono ?_
   rintro e w1 ⟨hb1,v1,c0,rs,rfl,ha,hres⟩
   clear HL
   have hans:=ba b v1 rs c0 y _ w1 ha hres
   obtain⟨a1,n1,rfl⟩:=ha.shape
   have HW1:=aa hb1
   obtain⟨m0,m1⟩:=duo (ab hb1 H0.out)
   clear ha hres hb1 k0 k1
   go_wp2_with fail
   refine hans.mono ?_
   rintro e w2 ⟨⟨b1,a1,n1,k1,c1,rfl,hzr⟩,hb2⟩
   have HZR:=aa (hzr.base HB0.out.size)
   have HW:=aa (HW1.out.trans (hb2.mono HW1.out.size))
   have hbx:=ab HW.out HX0.out
   have hf1:=ae hbx
   obtain⟨l0,l1⟩:=duo hbx
   have HBX:=aa hbx
   have HBE:=aa (HB0.out.trans (HW.out.mono HB0.out.size))
   clear hbx hzr hb2 hans
   go_wp2
   have R5:=ak HBX.out (a':=.bool b1) (b':=.slice a1 n1 k1)
   have HD:=aa (And.intro (HZR.out.duo (u0:=.bool b1) (u1:=.slice a1 n1 k1) HBX.out) (ai HBE.out (g:=w.heap.size+1) (u0:=.bool b1) (u1:=.slice a1 n1 k1) (by omega)))
   generalize (w2.setCell ⟨w.heap.size+1,0,none⟩ (.bool b1)).setCell ⟨w.heap.size+1,1,none⟩ (.slice a1 n1 k1)=w5 at *
   obtain⟨q0,q1⟩:=duo R5
   refine bodyPost_ret (v:=.tuple #[.agg #[.bool b1,.slice a1 n1 k1],.int .i64 c1]) (by simp [results,Tryz.results29,go_sem,q0,q1]) rfl ?_
   exact⟨⟨_,_,_,_,_,rfl,HD.out.1⟩,HD.out.2⟩
end Go.Proofs.YtcbpdngogkbndaaGreatDoor
namespace Go.Proofs.YtcbpdngogkbndaaGreatDoor
open Go.RowKit
open Lm
end Go.Proofs.YtcbpdngogkbndaaGreatDoor
namespace Go.Proofs.YtcbpdngogkbndaaGreatDoor
open Go.RowKit
open Lm
attribute [local go_sem ↓] Go.wp_at_zero Go.wp_at_succ

theorem f8 (v:Value)(zs:List Nat)(n:Nat)(w:World)(h1:Arg w v zs)(f1:zs.length≤35184372088831)(hn:n≤1099511627776) :
  Calls Tryz.prog 83 #[v,.int .i64 n] w fun e w'=>Below w.heap.size w w'∧Res w' w.heap.size e (val zs / 2 ^ n):=by
 obtain⟨a1,c1,rfl,hc1,hm1,hl1⟩:=h1.form
 have H0:=gg n w (by omega) (by omega)
 have H1:=bb a1 c1 zs w hc1 hm1 hl1
 have l1:=tr_length_le zs
 have L1:=hl1.tr
 have M1:=limbs_tr h1.limbs
 obtain⟨q,s,hs,hnq⟩:∃q s,s<64∧n=q*64+s:=⟨n / 64,n % 64,by omega,by omega⟩
 have eq1:(n:Int) / 64=(q:Int):=by omega
 have eq2:(n:Int) % 64=(s:Int):=by omega
 have HN:Hid (n=q*64+s):=hnq
 have hq:q≤17179869184:=by omega
 obtain⟨i0,hi,hz0,hz1,hz2⟩:=info_parts Tryz.infoU
 clear hnq
 by_cases hql:(tr zs).length≤q
 ·have HV:Hid (val zs / 2 ^ n=0):=by
   refine aa ?_
   rw [Nat.div_eq_of_lt]
   have:=val_lt M1
   rw [val_tr,W_pow] at this
   have h2:(2:Nat) ^ ((tr zs).length*64)≤2 ^ n:=Nat.pow_le_pow_right (by omega) (by have:=HN.out;omega)
   omega
  clear L1 M1 hl1 h1 hi hz0 hz1 hz2
  generalize tr zs=Z at *
  go_enter Tryz.func83,Tryz.ntmps83
  go_wp2_with fail
  refine H0.mono ?_
  rintro e w' ⟨rfl,rfl⟩
  go_wp2_with fail
  refine H1.mono ?_
  rintro e w' ⟨rfl,rfl⟩
  clear H0 H1
  go_wp2
  go_ret2
  rw [HV.out]
  exact⟨Below.refl _ _,_,_,[],rfl,Ans.nil _ _,.inl ⟨rfl,rfl,rfl,by simp [blen]⟩⟩
 ·rcases L1 with h' | ⟨b,off,rfl,hcell⟩
  ·simp [h'] at hql
  ·have hbw:b<w.heap.size:=am.block (zs:=tr zs) (.inr ⟨b,off,rfl,hcell⟩) (by omega)
   have hcl:(tr zs).length≤c1:=by omega
   have hlx:((tr zs).drop q).length=(tr zs).length - q:=by simp
   have HVX:Hid (val ((tr zs).drop q) / 2 ^ s=val zs / 2 ^ n):=by
    refine aa ?_
    rw [val_drop M1 q (by omega),val_tr,Nat.div_div_eq_div_mul,←Nat.pow_add,←HN.out]
   have hcx:∀k,k<((tr zs).drop q).length→w.cell? ⟨b,off+q+k,none⟩=some (.int .u64 ((((tr zs).drop q).getD k 0:Nat):Int)):=by
    intro k hk
    have:=hcell (q+k) (by omega)
    rw [←Nat.add_assoc] at this
    rw [this]
    simp [List.getD]
   have hlimx:Limbs ((tr zs).drop q):=fun z hz=>M1 z (List.mem_of_mem_drop hz)
   clear hcell hl1 h1 M1
   generalize (tr zs).drop q=X at *
   generalize (tr zs).length=m at *
   obtain⟨d,rfl⟩:∃d,m=q+d:=⟨m - q,by omega⟩
   have hdx:X.length=d:=by omega
   subst hdx
   clear hlx
   have hd:decide ((q:Int)+(X.length:Int)≤(q:Int))=false:=by simp;omega
   have hxp:0<X.length:=by omega
   go_enter Tryz.func83,Tryz.ntmps83
   go_wp2_with fail
   refine H0.mono ?_
   rintro e w' ⟨rfl,rfl⟩
   go_wp2_with fail
   refine H1.mono ?_
   rintro e w' ⟨rfl,rfl⟩
   clear H0 H1
   go_wp2_with (at_make;refine wpList_make_full _ rfl _ _ 25 rfl w'.heap.size 60 i0 (.int .u64 0) 1 Tryz.underlying25 hi hz0 hz1 .i64 .i64 _ _ X.length rfl rfl (by omega) (by omega) (by rw [hz2];omega) (by unfold maxLen;omega) (Nat.le_refl _) ?_;intro w1 hown hgrow)
   have hb1:=Blk.made hown
   have hbel:Below w'.heap.size w' w1:=(Below.refl _ _).grown hgrow (Nat.le_refl _) (fun k hk=>by cases hk)
   clear hown hgrow hi hz0 hz1 hz2
   go_loopw [31] (fun i wr=>∃(k:Nat) (out:List Nat),k≤X.length∧i=.int .i64 k∧out.length=X.length∧Limbs out∧Blk wr w'.heap.size out∧Below w'.heap.size w' wr ∧
     2 ^ s*val (out.take k)+X.getD 0 0 % 2 ^ s=val (X.take k)+X.getD k 0 % 2 ^ s*18446744073709551616 ^ k) (fun i _=>X.length - (intOf i).toNat)
   case atStart=>exact⟨0,_,Nat.zero_le _,rfl,by simp,limbs_replicate _,hb1,hbel,by simp [val]⟩
   case round=>
    obtain⟨k,out,hk,rfl,hlen,hlo,hblk,hbl,hval⟩:=hrel
    clear hb1 hbel
    have HV:=aa hval
    have HB:=aa hblk
    have HL:=aa hbl
    clear hval
    by_cases hkl:k<X.length
    ·have hck:wr.cell? ⟨b,off+q+k,none⟩=some (.int .u64 ((X.getD k 0:Nat):Int)):=by rw [hbl.cell (p:=⟨b,off+q+k,none⟩) hbw];exact hcx k hkl
     have hlies:am wr.drew (some ⟨b,off+q,none⟩) X:=.inr ⟨b,off+q,rfl,fun j hj=>by rw [hbl.drew.cell (p:=⟨b,off+q+j,none⟩) hbw];exact hcx j hj⟩
     have H42:=cH (some ⟨b,off+q,none⟩) (c1 - q) X (k+1) wr.drew (by omega) (by omega) hlies
     rw [show ((k+1:Nat):Int)=(k:Int)+1 from by omega] at H42
     have hfr:=hblk.free k
     have hco:=hblk.cell k (by omega)
     have hst:=right_step X out s k hs (by omega) HV.out
     have z1:=limb_lt hlimx k
     have hne1:¬b=w'.heap.size:=by omega
     have hne2:¬w'.heap.size=b:=by omega
     generalize out.getD k 0=o at *
     have HS:=aa hst
     clear hst hlies hblk hbl HV hcx
     generalize hy:X.getD (k+1) 0=y at *
     have HY:=aa hy
     clear hy
     generalize X.getD k 0=x at *
     have hi1:(0:Int)≤(k:Int):=by omega
     have hi2:(k:Int)<(X.length:Int):=by omega
     have hwk:IntKind.i64.wrap ((k:Int)+1)=(k:Int)+1:=by rw [IntKind.wrap_i64];omega
     obtain⟨t,ht⟩:∃t,t=64 - s:=⟨_,rfl⟩
     have htb:t≤64:=by omega
     have hw64:IntKind.i64.wrap (64 - (s:Int))=(t:Int):=by rw [IntKind.wrap_i64];omega
     have hw66:IntKind.i64.wrap (t:Int)=(t:Int):=by rw [IntKind.wrap_i64];omega
     have hw65:(64 - (s:Int))=(t:Int):=by omega
     have HT:=aa ht
     clear ht
     go_wp2
     go_region_held3 (fun w2=>w2.cell? ⟨b,off+q+k,none⟩=some (.int .u64 x)) (go_keep) (first | (go_at_call 70;refine H42.mono ?_;rintro e w2 ⟨rfl,rfl⟩))
     go_wp2
     go_roundw
     case rel=>
      have e:=HT.out
      subst e
      rw [walk_shr2 x y s hs z1]
      exact⟨k+1,out.set k (shr x y s),by omega,by go_num,by simp;omega,limbs_set hlo _ _ (shr_lt2 x y s hs z1),HB.out.set _ _,(HL.out.setCell (Nat.le_refl _) _).drew,by rw [HY.out];exact HS.out⟩
     case measure=>simp [intOf];omega
    ·have ek:k=X.length:=by omega
     subst ek
     have HA:=dc _ w'.heap.size _ _ hblk hlo (Nat.le_refl _) (by omega)
     rw [right_end X out s hlen HV.out,HVX.out,hlen] at HA
     clear hblk hbl HV HB hlo hcx hlimx
     go_wp2_with fail
     refine HA.mono ?_
     rintro e w2 ⟨rfl,hres⟩
     unfold Res at hres
     obtain⟨v,c,rs,rfl,hres⟩:=hres
     have HX:=aa hres
     clear hres
     go_wp2
     go_ret2
     exact⟨HL.out,v,c,rs,rfl,HX.out⟩
end Go.Proofs.YtcbpdngogkbndaaGreatDoor

