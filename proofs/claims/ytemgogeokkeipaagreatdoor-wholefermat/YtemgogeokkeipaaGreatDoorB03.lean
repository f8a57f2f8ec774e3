/- Package mul: apart. -/
import Derived.Test.YtemgogeokkeipaaGreatDoorB02
import Derived.Laws.IdiomCopy
import Derived.Test.YtemgogeokkeipaaGreatDoorB01
import Derived.Deep.RegionHeld3
set_option maxRecDepth 20000
set_option maxHeartbeats 1000000
namespace Go.Proofs.YtemgogeokkeipaaGreatDoor
open Go.RowKit
open Lm

theorem fh:(Tryz.prog.info? 34).map (·.size)=some 1:=by kernel_rfl

theorem cH (bz zo n cap:Nat)(Z:List Nat)(a1:Option Addr)(c1:Nat)(X:List Nat)(w:World)(ty:TypeId)(hB:Blk w bz Z)(hz:zo+n≤Z.length)(hl:ay w a1 X)(hX:X.length≤n) :
  (Builtin.copy_ #[26,26] ty #[.slice (some ⟨bz,zo,none⟩) n cap,.slice a1 X.length c1]).run Tryz.prog w=.ok (.int .i64 (X.length:Int)) (w.setCells bz zo (X.map lv)):=by
 rcases hl with rfl|⟨b,off,rfl,hc⟩
 ·rw [run_copy_none w _ _ ty _ _ _ _ _ _ _ Tryz.underlying26 fh (by simp)]
  rfl
 ·have hm:(X.map lv).length=Nat.min X.length n:=by
   rw [List.length_map];exact (Nat.min_eq_left hX).symm
  rw [run_copy_cells w _ _ ty _ bz zo n cap ⟨b,off,none⟩ X.length c1 (X.map lv) Tryz.underlying26 fh hm ?_ ?_ ?_ ?_]
  ·rw [List.length_map];rfl
  ·intro j v hv
   rw [List.getElem?_map] at hv
   have hj:j<X.length:=by
    refine Nat.lt_of_not_le fun hle=>?_
    rw [List.getElem?_eq_none hle] at hv;cases hv
   rw [List.getElem?_eq_getElem hj] at hv
   have:=hc j hj
   rw [show (⟨b,off,none⟩:Addr).add j=⟨b,off+j,none⟩ by simp [Addr.add],this,←hv]
   simp [lv,List.getD,hj]
  ·intro j hj
   rw [List.length_map] at hj
   rw [hB.cell (zo+j) (by omega)];rfl
  ·intro j _
   exact hB.free (zo+j)
  ·intro v hv
   obtain⟨z,_,rfl⟩:=List.mem_map.1 hv
   rfl

theorem dz (ad:Option Addr)(c:Nat)(w:World)(ty:TypeId):(Builtin.clear_ #[26] ty #[.slice ad 0 c]).run Tryz.prog w=.ok (.tuple #[]) w:=by
 cases ad <;> simp [Builtin.clear_,run_underlying Tryz.underlying26]

def iu (bz zo n:Nat)(Z:List Nat)(w:World)(x y:Nat)(e:Ending)(w':World):Prop:=
 e=.returned (.bool (decide (x<y)))∧∃Z':List Nat,Out Z Z' zo (zo+n)∧Limbs Z'∧Blk w' bz Z'∧Fr bz w w'∧sv Z' zo n=(if x<y then y - x else x - y)

theorem Fr.same {bz:Nat}{w w':World}(h:ak w w'):Fr bz w w':=Fr.of_below (h.below _)

theorem dM (bz zo n cap:Nat)(Z:List Nat)(va vb:Value)(X Y:List Nat)(w:World)(hB:Blk w bz Z)(hLZ:Limbs Z)(hA:Arg w va X)(hA2:Arg w vb Y)
  (ho:Off va bz zo (zo+n)) (ho2:Off vb bz zo (zo+n)) (hzo:zo+n≤Z.length) (hc1:n≤cap) (hc2:cap≤9223372036854775807) (hfX:val X<18446744073709551616 ^ n) (hfY:val Y<18446744073709551616 ^ n) :
  Calls Tryz.prog 192 #[.slice (some ⟨bz,zo,none⟩) n cap,va,vb] w (iu bz zo n Z w (val X) (val Y)):=by
 have HC:=dU va vb X Y w hA hA2
 obtain⟨a1,c1,rfl,_⟩:=hA.form
 obtain⟨a2,c2,rfl,_⟩:=hA2.form
 by_cases hlt:val X<val Y
 ·rw [cmpN_lt hlt] at HC
  have hPQ:val X≤val Y:=by omega
  have HLT:=ac hlt
  go_enter Tryz.func192,Tryz.ntmps192
  go_wp2_with fail
  clear hlt
  have hfP:=hfY
  have APP:=hA2
  have AQQ:=hA
  have hoP:=ho2
  have hoQ:=ho
  clear hA hA2 ho ho2 hfX hfY
  refine HC.mono ?_
  rintro e w1 ⟨rfl,hs⟩
  have hbl:=hs.below w.heap.size
  have hB1:Blk w1 bz Z:=by unfold Blk;rw [hbl.block bz hB.lt];exact hB
  have A1:=APP.below hbl
  have A2:=AQQ.below hbl
  have F1:=ac (Fr.same (bz:=bz) hs)
  obtain⟨b1,k1,e1,hcc1,hcm1,hl1⟩:=A1.form
  have HT:=bg b1 k1 Y w1 hcc1 hcm1 hl1
  have hle:=tr_length_le Y
  have hln:=aw Y n hfP
  have hcp:=fun ty=>cH bz zo n cap Z b1 k1 (tr Y) w1 ty hB1 hzo hl1.tr hln
  have hO2:=bn (tr Y) Z zo
  have hS2:=bA (tr Y) Z zo (by omega)
  have hL2:=bB (tr Y) (limbs_tr A1.limbs) Z zo hLZ
  have hB2:=Blk.setCells (tr Y) zo hB1
  have hF2:=(Fr.refl bz w1).setCells ((tr Y).map lv) zo
  cases e1
  rw [val_tr] at hS2
  generalize tr Y=T at *
  obtain⟨w2,hw2⟩:∃w2,w2=w1.setCells bz zo (T.map lv):=⟨_,rfl⟩
  rw [←hw2] at hB2 hF2 hcp
  clear hw2
  generalize lay Z zo T=Z2 at *
  obtain⟨w3,Z3,hrun,hO3,hL3,hB3,hF3,hS3⟩:∃(w3:World) (Z3:List Nat),(∀ty,(Builtin.clear_ #[26] ty #[.slice (if cap=T.length then some ⟨bz,zo,none⟩ else some ⟨bz,zo+T.length,none⟩) (n - T.length) (cap - T.length)]).run Tryz.prog w2=.ok (.tuple #[]) w3)∧Out Z Z3 zo (zo+n)∧Limbs Z3∧Blk w3 bz Z3∧Fr bz w1 w3∧sv Z3 zo n=val Y:=by
   have hlen2:=hO2.len
   rcases Nat.eq_zero_or_pos (n - T.length) with h0|h0
   ·refine⟨w2,Z2,fun ty=>?_,hO2.wider (Nat.le_refl _) (by omega),hL2,hB2,hF2,?_⟩
    ·rw [h0];exact dz _ _ _ _
    ·rw [show n=T.length by omega];exact hS2
   ·have hcne:¬cap=T.length:=by omega
    have hlr:(List.replicate (n - T.length) 0).length=n - T.length:=by simp
    have e1:=bn (List.replicate (n - T.length) 0) Z2 (zo+T.length)
    have e2:=bA (List.replicate (n - T.length) 0) Z2 (zo+T.length) (by rw [hlr];omega)
    rw [hlr] at e1 e2
    refine⟨_,lay Z2 (zo+T.length) (List.replicate (n - T.length) 0),fun ty=>by rw [if_neg hcne];exact cf bz (zo+T.length) _ _ Z2 w2 ty hB2 (by omega) h0,(hO2.wider (Nat.le_refl _) (by omega)).trans (e1.wider (by omega) (by omega)),bB _ (limbs_replicate _) _ _ hL2,Blk.setCells _ _ hB2,hF2.setCells _ _,?_⟩
    have key:sv (lay Z2 (zo+T.length) (List.replicate (n - T.length) 0)) zo (T.length+(n - T.length))=val Y:=by
     rw [ai _ _ _ _ (by rw [cm];omega),e2,e1.sv zo T.length (by omega),hS2,val_replicate];simp
    rw [show T.length+(n - T.length)=n by omega] at key
    exact key
  have HM:=cW bz zo n cap Z3 _ X w3 hB3 hL3 (A2.fr hoQ hF3 hB1 hB3 hO3) hoQ (by rw [hO3.len];exact hzo) hc1 hc2 (by rw [hS3];exact hPQ)
  rw [hS3] at HM
  have HO3:=ac hO3
  have HF3:=ac (F1.out.trans hF3)
  have hkn:T.length≤n:=hln
  have hkc:T.length≤cap:=by omega
  have k1':(0:Int)≤(T.length:Int):=by omega
  have k2':(T.length:Int)≤(n:Int):=by omega
  clear hB1 A1 A2 hl1 hO2 hS2 hL2 hB2 hF2 hO3 hL3 hB3 hF3 hS3 F1 hs hbl hB hLZ APP AQQ hoP hoQ
  clear HC
  by_cases hcT:cap=T.length
  ·have hnT:n=T.length:=by omega
   subst hnT
   subst hcT
   simp only [if_true,Nat.sub_self] at hrun
   clear hkc hkn hln hc1 k2' hfP
   go_wp2_with fail
   refine HT.mono ?_
   rintro e w4 ⟨rfl,hw⟩;subst hw
   clear HT
   go_wp2_with fail
   refine HM.mono ?_
   rintro e w5 ⟨rfl,Z',q1,q2,q3,q4,q5⟩
   have HD:=ac (And.intro (HO3.out.trans q1) (And.intro q2 (And.intro q3 (And.intro (HF3.out.trans q4) q5))))
   clear q1 q2 q3 q4 q5 HM hcp hrun
   go_wp2
   go_ret
   obtain⟨q1,q2,q3,q4,q5⟩:=HD.out
   have hlt:=HLT.out
   exact⟨by simp [hlt],Z',q1,q2,q3,q4,by rw [if_pos hlt];exact q5⟩
  ·simp only [hcT,if_false] at hrun
   go_wp2_with fail
   refine HT.mono ?_
   rintro e w4 ⟨rfl,hw⟩;subst hw
   clear HT
   go_wp2_with fail
   refine HM.mono ?_
   rintro e w5 ⟨rfl,Z',q1,q2,q3,q4,q5⟩
   have HD:=ac (And.intro (HO3.out.trans q1) (And.intro q2 (And.intro q3 (And.intro (HF3.out.trans q4) q5))))
   clear q1 q2 q3 q4 q5 HM hcp hrun
   go_wp2
   go_ret
   obtain⟨q1,q2,q3,q4,q5⟩:=HD.out
   have hlt:=HLT.out
   exact⟨by simp [hlt],Z',q1,q2,q3,q4,by rw [if_pos hlt];exact q5⟩
 ·have hc:decide (cmpN (val X) (val Y)<0)=false:=by
   unfold cmpN;rw [if_neg hlt];split <;> decide
  have hPQ:val Y≤val X:=by omega
  have HLT:=ac hlt
  generalize cmpN (val X) (val Y)=cc at *
  go_enter Tryz.func192,Tryz.ntmps192
  go_wp2_with fail
  clear hlt
  have hfP:=hfX
  have APP:=hA
  have AQQ:=hA2
  have hoP:=ho
  have hoQ:=ho2
  clear hA hA2 ho ho2 hfX hfY
  refine HC.mono ?_
  rintro e w1 ⟨rfl,hs⟩
  have hbl:=hs.below w.heap.size
  have hB1:Blk w1 bz Z:=by unfold Blk;rw [hbl.block bz hB.lt];exact hB
  have A1:=APP.below hbl
  have A2:=AQQ.below hbl
  have F1:=ac (Fr.same (bz:=bz) hs)
  obtain⟨b1,k1,e1,hcc1,hcm1,hl1⟩:=A1.form
  have HT:=bg b1 k1 X w1 hcc1 hcm1 hl1
  have hle:=tr_length_le X
  have hln:=aw X n hfP
  have hcp:=fun ty=>cH bz zo n cap Z b1 k1 (tr X) w1 ty hB1 hzo hl1.tr hln
  have hO2:=bn (tr X) Z zo
  have hS2:=bA (tr X) Z zo (by omega)
  have hL2:=bB (tr X) (limbs_tr A1.limbs) Z zo hLZ
  have hB2:=Blk.setCells (tr X) zo hB1
  have hF2:=(Fr.refl bz w1).setCells ((tr X).map lv) zo
  cases e1
  rw [val_tr] at hS2
  generalize tr X=T at *
  obtain⟨w2,hw2⟩:∃w2,w2=w1.setCells bz zo (T.map lv):=⟨_,rfl⟩
  rw [←hw2] at hB2 hF2 hcp
  clear hw2
  generalize lay Z zo T=Z2 at *
  obtain⟨w3,Z3,hrun,hO3,hL3,hB3,hF3,hS3⟩:∃(w3:World) (Z3:List Nat),(∀ty,(Builtin.clear_ #[26] ty #[.slice (if cap=T.length then some ⟨bz,zo,none⟩ else some ⟨bz,zo+T.length,none⟩) (n - T.length) (cap - T.length)]).run Tryz.prog w2=.ok (.tuple #[]) w3)∧Out Z Z3 zo (zo+n)∧Limbs Z3∧Blk w3 bz Z3∧Fr bz w1 w3∧sv Z3 zo n=val X:=by
   have hlen2:=hO2.len
   rcases Nat.eq_zero_or_pos (n - T.length) with h0|h0
   ·refine⟨w2,Z2,fun ty=>?_,hO2.wider (Nat.le_refl _) (by omega),hL2,hB2,hF2,?_⟩
    ·rw [h0];exact dz _ _ _ _
    ·rw [show n=T.length by omega];exact hS2
   ·have hcne:¬cap=T.length:=by omega
    have hlr:(List.replicate (n - T.length) 0).length=n - T.length:=by simp
    have e1:=bn (List.replicate (n - T.length) 0) Z2 (zo+T.length)
    have e2:=bA (List.replicate (n - T.length) 0) Z2 (zo+T.length) (by rw [hlr];omega)
    rw [hlr] at e1 e2
    refine⟨_,lay Z2 (zo+T.length) (List.replicate (n - T.length) 0),fun ty=>by rw [if_neg hcne];exact cf bz (zo+T.length) _ _ Z2 w2 ty hB2 (by omega) h0,(hO2.wider (Nat.le_refl _) (by omega)).trans (e1.wider (by omega) (by omega)),bB _ (limbs_replicate _) _ _ hL2,Blk.setCells _ _ hB2,hF2.setCells _ _,?_⟩
    have key:sv (lay Z2 (zo+T.length) (List.replicate (n - T.length) 0)) zo (T.length+(n - T.length))=val X:=by
     rw [ai _ _ _ _ (by rw [cm];omega),e2,e1.sv zo T.length (by omega),hS2,val_replicate];simp
    rw [show T.length+(n - T.length)=n by omega] at key
    exact key
  have HM:=cW bz zo n cap Z3 _ Y w3 hB3 hL3 (A2.fr hoQ hF3 hB1 hB3 hO3) hoQ (by rw [hO3.len];exact hzo) hc1 hc2 (by rw [hS3];exact hPQ)
  rw [hS3] at HM
  have HO3:=ac hO3
  have HF3:=ac (F1.out.trans hF3)
  have hkn:T.length≤n:=hln
  have hkc:T.length≤cap:=by omega
  have k1':(0:Int)≤(T.length:Int):=by omega
  have k2':(T.length:Int)≤(n:Int):=by omega
  clear hB1 A1 A2 hl1 hO2 hS2 hL2 hB2 hF2 hO3 hL3 hB3 hF3 hS3 F1 hs hbl hB hLZ APP AQQ hoP hoQ
  clear HC
  by_cases hcT:cap=T.length
  ·have hnT:n=T.length:=by omega
   subst hnT
   subst hcT
   simp only [if_true,Nat.sub_self] at hrun
   clear hkc hkn hln hc1 k2' hfP
   go_wp2_with fail
   refine HT.mono ?_
   rintro e w4 ⟨rfl,hw⟩;subst hw
   clear HT
   go_wp2_with fail
   refine HM.mono ?_
   rintro e w5 ⟨rfl,Z',q1,q2,q3,q4,q5⟩
   have HD:=ac (And.intro (HO3.out.trans q1) (And.intro q2 (And.intro q3 (And.intro (HF3.out.trans q4) q5))))
   clear q1 q2 q3 q4 q5 HM hcp hrun
   go_wp2
   go_ret
   obtain⟨q1,q2,q3,q4,q5⟩:=HD.out
   have hlt:=HLT.out
   exact⟨by simp [hlt],Z',q1,q2,q3,q4,by rw [if_neg hlt];exact q5⟩
  ·simp only [hcT,if_false] at hrun
   go_wp2_with fail
   refine HT.mono ?_
   rintro e w4 ⟨rfl,hw⟩;subst hw
   clear HT
   go_wp2_with fail
   refine HM.mono ?_
   rintro e w5 ⟨rfl,Z',q1,q2,q3,q4,q5⟩
   have HD:=ac (And.intro (HO3.out.trans q1) (And.intro q2 (And.intro q3 (And.intro (HF3.out.trans q4) q5))))
   clear q1 q2 q3 q4 q5 HM hcp hrun
   go_wp2
   go_ret
   obtain⟨q1,q2,q3,q4,q5⟩:=HD.out
   have hlt:=HLT.out
   exact⟨by simp [hlt],Z',q1,q2,q3,q4,by rw [if_neg hlt];exact q5⟩
end Go.Proofs.YtemgogeokkeipaaGreatDoor
namespace Go.Proofs.YtemgogeokkeipaaGreatDoor
open Go.RowKit
open Lm
attribute [local go_sem ↓] Go.wp_at_zero Go.wp_at_succ

theorem ji (z cy:Nat)(hz:z<18446744073709551616)(hc:cy<18446744073709551616) :
  (z+0+cy) % 18446744073709551616+(z+0+cy) / 18446744073709551616*18446744073709551616=z+0+cy∧(z+0+cy) / 18446744073709551616<18446744073709551616∧(z+0+cy) % 18446744073709551616<18446744073709551616:=by
 omega

theorem Off.less {v:Value}{bz lo hi hi':Nat}(h:Off v bz lo hi)(hh:hi'≤hi):Off v bz lo hi':=fun b off n c e=>by
 rcases h b off n c e with h1|h1|h1
 ·exact .inl h1
 ·exact .inr (.inl h1)
 ·exact .inr (.inr (by omega))

theorem fx (bz zo n cap:Nat)(Z:List Nat)(va:Value)(X:List Nat)(m:Nat)(w:World)(hB:Blk w bz Z)(hLZ:Limbs Z)(hA:Arg w va X)(ho:Off va bz zo (zo+n))(hXn:X.length≤n)
  (hzo:zo+n≤Z.length) (hc1:n≤cap) (hc2:cap≤9223372036854775807) (hm:m<18446744073709551616) (hfit:sv Z zo n+val X*m<18446744073709551616 ^ n) :
  Calls Tryz.prog 194 #[.slice (some ⟨bz,zo,none⟩) n cap,va,.int .u64 m] w (an bz zo n Z w (sv Z zo n+val X*m)):=by
 have HM:=d8 bz zo cap Z va X m w hB hLZ hA (ho.less (by omega)) (by omega) (by omega) hc2 hm
 obtain⟨a1,c1,rfl,hcc1,hcm1,_⟩:=hA.form
 have HFIT:=ac hfit
 clear hfit hA ho hB hLZ
 generalize val X*m=V at *
 have k1:(X.length:Int)≤(n:Int):=by omega
 have k2:X.length≤cap:=by omega
 go_enter Tryz.func194,Tryz.ntmps194
 go_wp2_with fail
 refine HM.mono ?_
 rintro e w1 ⟨cy,Z1,rfl,hcy,hout,hlz,hblk,hfr0,hval⟩
 have HV:=ac hval
 have HB:=ac hblk
 have HF:=ac hfr0
 have HO:=ac hout
 clear hval hblk hfr0 hout HM
 go_wp2
 go_loopw [6,7] (fun c i wr2=>∃(k cy:Nat) (Z2:List Nat),k≤n∧i=.int .i64 k∧c=.int .u64 cy∧cy<18446744073709551616∧Out Z Z2 zo (zo+k)∧Limbs Z2∧Blk wr2 bz Z2∧Fr bz w wr2 ∧
   sv Z2 zo k+cy*18446744073709551616 ^ k=sv Z zo k+V) (fun _ i _=>n - (intOf i).toNat)
 case atStart=>exact⟨X.length,cy,Z1,hXn,rfl,rfl,hcy,HO.out,hlz,HB.out,HF.out,HV.out⟩
 case round=>
  obtain⟨k,cy2,Z2,hk2,rfl,rfl,hcy2,hout2,hlz2,hblk2,hfr2,hval2⟩:=hrel
  clear HV HB HF HO
  have HV:=ac hval2
  have HB:=ac hblk2
  have HF:=ac hfr2
  have HO:=ac hout2
  have hl:=hout2.len
  clear hval2
  by_cases hc0:cy2=0
  ·subst hc0
   have HR:=ac (cK Z Z2 zo k n _ hk2 hzo hout2 (by have h:=HV.out;rw [Nat.zero_mul,Nat.add_zero] at h;exact h))
   clear hblk2 hfr2 hout2 HV
   go_wp2
   go_end0
   exact⟨rfl,Z2,HO.out.wider (Nat.le_refl _) (by omega),hlz2,HB.out,HF.out,HR.out⟩
  ·have hpos:(0:Int)<(cy2:Int):=by omega
   have hkn:k<n:=by
    rcases Nat.lt_or_ge k n with h|h
    ·exact h
    ·have ek:k=n:=by omega
     subst ek
     exact absurd (dV Z Z2 zo k cy2 V HFIT.out HV.out) hc0
   have hfr:=hblk2.free (zo+k)
   have hco:=hblk2.cell (zo+k) (by omega)
   have z2:=limb_lt hlz2 (zo+k)
   have hsame:=hout2.same (zo+k) (by omega)
   have ha:=bk (Z2.getD (zo+k) 0) cy2
   obtain⟨q1,q2,q3⟩:=ji (Z2.getD (zo+k) 0) cy2 z2 hcy2
   have HS:=ac (bJ Z Z2 zo k cy2 _ _ 0 _ (by omega) hl HV.out (by rw [←hsame];exact q1))
   rw [Nat.mul_zero,Nat.add_zero] at HS
   rw [Nat.add_zero] at HS q2 q3
   generalize Z2.getD (zo+k) 0=z at *
   clear hsame q1
   generalize (z+cy2) % 18446744073709551616=s at *
   generalize (z+cy2) / 18446744073709551616=c2 at *
   clear hblk2 hfr2 hout2 HV hc0
   go_wp2
   go_roundw
   case rel=>exact⟨k+1,c2,Z2.set (zo+k) s,by omega,by go_num,rfl,q2,(HO.out.wider (Nat.le_refl _) (by omega)).set _ _ (by omega) (by omega),limbs_set hlz2 _ _ q3,HB.out.set _ s,HF.out.setCell _ _,HS.out⟩
   case measure=>simp [intOf];omega

theorem cG (x y:Nat)(w:World) :
  (callFunc 118 #[.int .u64 x,.int .u64 y,.int .u64 0]).run Tryz.prog w =
   .ok (.value (.tuple #[.int .u64 (((x+18446744073709551616 - y) % 18446744073709551616:Nat):Int),.int .u64 ((bor x y 0:Nat):Int)])) w:=
 cd x y 0 (by omega) w

theorem fb (Z Z':List Nat)(o k cy c2 s v V:Nat)(hz:o+k<Z'.length)(hl:Z'.length=Z.length)
  (h:sv Z' o k+V=sv Z o k+cy*18446744073709551616 ^ k) (hs:s+v+cy=Z.getD (o+k) 0+c2*18446744073709551616) :
  sv (Z'.set (o+k) s) o (k+1)+(V+18446744073709551616 ^ k*v)=sv Z o (k+1)+c2*18446744073709551616 ^ (k+1):=
 bE Z Z' o k cy c2 s v V hz hl h hs

theorem ft (P z cy:Nat)(hP:P≤340282366920938463426481119284349108225)(_hz:z<18446744073709551616)(_hc:cy<18446744073709551616) :
  (z+18446744073709551616 - (P % 18446744073709551616+cy) % 18446744073709551616) % 18446744073709551616+P+cy=z+(P / 18446744073709551616+(P % 18446744073709551616+cy) / 18446744073709551616+bor z ((P % 18446744073709551616+cy) % 18446744073709551616) 0)*18446744073709551616 ∧
  P / 18446744073709551616+(P % 18446744073709551616+cy) / 18446744073709551616<18446744073709551616 ∧
  P / 18446744073709551616+(P % 18446744073709551616+cy) / 18446744073709551616+bor z ((P % 18446744073709551616+cy) % 18446744073709551616) 0<18446744073709551616 ∧
  (z+18446744073709551616 - (P % 18446744073709551616+cy) % 18446744073709551616) % 18446744073709551616<18446744073709551616:=by
 unfold bor
 split <;> omega

theorem ff (z cy:Nat)(hz:z<18446744073709551616)(hc:cy<18446744073709551616) :
  (z+18446744073709551616 - cy) % 18446744073709551616+0+cy=z+bor z cy 0*18446744073709551616∧bor z cy 0<18446744073709551616∧(z+18446744073709551616 - cy) % 18446744073709551616<18446744073709551616:=by
 unfold bor
 split <;> omega

theorem fK (bz zo n cap:Nat)(Z:List Nat)(va:Value)(X:List Nat)(m:Nat)(w:World)(hB:Blk w bz Z)(hLZ:Limbs Z)(hA:Arg w va X)(ho:Off va bz zo (zo+n))
  (hzo:zo+n≤Z.length) (hc1:n≤cap) (hc2:cap≤9223372036854775807) (hm0:0<m) (hm:m<18446744073709551616) (hfit:val X*m≤sv Z zo n) :
  Calls Tryz.prog 190 #[.slice (some ⟨bz,zo,none⟩) n cap,va,.int .u64 m] w (an bz zo n Z w (sv Z zo n - val X*m)):=by
 obtain⟨a1,c1,rfl,hcc1,hcm1,hl1⟩:=hA.form
 have hX:=hA.few
 have H1:=bg a1 c1 X w hcc1 hcm1 hl1
 have M1:=limbs_tr hA.limbs
 have hle:=tr_length_le X
 have hln:=aw X n (Nat.lt_of_le_of_lt (Nat.le_trans (Nat.le_mul_of_pos_right _ hm0) hfit) (ba hLZ zo n))
 have hao:∀b off,a1=some ⟨b,off,none⟩→b≠bz∨off+(tr X).length≤zo∨zo+n≤off:=fun b off e=>by
  subst e
  rcases ho b off _ _ rfl with h|h|h
  ·exact .inl h
  ·exact .inr (.inl (by omega))
  ·exact .inr (.inr h)
 have L1:=hl1.tr
 rw [←val_tr X] at hfit ⊢
 clear ho hA hl1
 generalize tr X=P at *
 have HFIT:=ac hfit
 have HB0:=ac hB
 have HLZ:=ac hLZ
 clear hfit
 go_enter Tryz.func190,Tryz.ntmps190
 go_wp2_with fail
 refine H1.mono ?_
 rintro e w' ⟨rfl,hw⟩;subst hw
 clear H1
 go_wp2
 go_loopw [6,18] (fun c i wr=>∃(k cy:Nat) (Z':List Nat),k≤P.length∧i=.int .i64 k∧c=.int .u64 cy∧cy<18446744073709551616∧Out Z Z' zo (zo+k)∧Limbs Z'∧Blk wr bz Z'∧Fr bz w' wr ∧
   sv Z' zo k+val (P.take k)*m=sv Z zo k+cy*18446744073709551616 ^ k) (fun _ i _=>P.length - (intOf i).toNat)
 case atStart=>exact⟨0,0,Z,Nat.zero_le _,rfl,rfl,by omega,Out.refl _ _ _,HLZ.out,HB0.out,Fr.refl _ _,by simp [aA,val]⟩
 case round=>
  obtain⟨k,cy,Z',hk,rfl,rfl,hcy,hout,hlz,hblk,hfr0,hval⟩:=hrel
  have HV:=ac hval
  have HB:=ac hblk
  have HF:=ac hfr0
  have HO:=ac hout
  have hl:=hout.len
  clear hval
  by_cases hkl:k<P.length
  ·rcases L1.fr hao hfr0 hB hblk (hout.wider (Nat.le_refl _) (by omega)) with h0|⟨b,off,rfl,hcell⟩
   ·rw [h0] at hkl;simp at hkl
   ·have hck:=hcell k hkl
    have hfr:=hblk.free (zo+k)
    have hco:=hblk.cell (zo+k) (by omega)
    have z1:=limb_lt M1 k
    have z2:=limb_lt hlz (zo+k)
    have hsame:=hout.same (zo+k) (by omega)
    have hft:=ft (P.getD k 0*m) (Z'.getD (zo+k) 0) cy (by have:=Nat.mul_le_mul (Nat.le_sub_one_of_lt z1) (Nat.le_sub_one_of_lt hm);omega) z2 hcy
    have HS:=ac (fun c2 s hs=>fb Z Z' zo k cy c2 s (P.getD k 0*m) _ (by omega) hl HV.out hs)
    rw [←hsame] at HS
    have hst:val (P.take k)*m+18446744073709551616 ^ k*(P.getD k 0*m)=val (P.take (k+1))*m:=by
     rw [val_take_next P k,Nat.add_mul,Nat.mul_assoc]
    rw [hst] at HS
    have ha1:=bk (P.getD k 0*m % 18446744073709551616) cy
    have ha2:=cG (Z'.getD (zo+k) 0) ((P.getD k 0*m % 18446744073709551616+cy) % 18446744073709551616)
    have hM:=Tryz.bits_Mul64 (P.getD k 0) m z1 hm wr
    generalize Z'.getD (zo+k) 0=z at *
    generalize P.getD k 0=x at *
    generalize hPP:x*m=PP at *
    clear hPP hsame hst
    obtain⟨q1,q2,q3,q4⟩:=hft
    have HS2:=ac (HS.out _ _ q1)
    clear HS q1
    generalize (z+18446744073709551616 - (PP % 18446744073709551616+cy) % 18446744073709551616) % 18446744073709551616=s at *
    generalize bor z ((PP % 18446744073709551616+cy) % 18446744073709551616) 0=un at *
    generalize (PP % 18446744073709551616+cy) % 18446744073709551616=l2 at *
    generalize (PP % 18446744073709551616+cy) / 18446744073709551616=o1 at *
    generalize PP / 18446744073709551616=h1 at *
    generalize PP % 18446744073709551616=l1 at *
    have e1:(h1:Int)+(o1:Int)=((h1+o1:Nat):Int):=by omega
    generalize h1+o1=h2 at *
    have e2:(h2:Int)+(un:Int)=((h2+un:Nat):Int):=by omega
    generalize h2+un=c2 at *
    clear hcell hblk hfr0 hout HV M1 L1 hB hLZ
    go_wp2_with fail
    refine hM.mono ?_
    rintro e w2 ⟨rfl,rfl⟩
    clear hM
    go_wp2
    go_roundw
    case rel=>exact⟨k+1,c2,Z'.set (zo+k) s,by omega,by go_num,rfl,q3,(HO.out.wider (Nat.le_refl _) (by omega)).set _ _ (by omega) (by omega),limbs_set hlz _ _ q4,HB.out.set _ s,HF.out.setCell _ _,HS2.out⟩
    case measure=>simp [intOf];omega
  ·have ek:k=P.length:=by omega
   subst ek
   rw [List.take_length] at HV
   clear hblk hfr0 hout L1 hB M1 hLZ hl
   go_wp2
   go_loopw [6,13] (fun c i wr2=>∃(k cy:Nat) (Z2:List Nat),k≤n∧i=.int .i64 k∧c=.int .u64 cy∧cy<18446744073709551616∧Out Z Z2 zo (zo+k)∧Limbs Z2∧Blk wr2 bz Z2∧Fr bz w' wr2 ∧
     sv Z2 zo k+val P*m=sv Z zo k+cy*18446744073709551616 ^ k) (fun _ i _=>n - (intOf i).toNat)
   case atStart=>exact⟨P.length,cy,Z',hln,rfl,rfl,hcy,HO.out,hlz,HB.out,HF.out,HV.out⟩
   case round=>
    obtain⟨k,cy2,Z2,hk2,rfl,rfl,hcy2,hout2,hlz2,hblk2,hfr2,hval2⟩:=hrel
    clear HV HB HF HO
    have HV:=ac hval2
    have HB:=ac hblk2
    have HF:=ac hfr2
    have HO:=ac hout2
    have hl:=hout2.len
    clear hval2
    by_cases hc0:cy2=0
    ·subst hc0
     have HR:=ac (dk Z Z2 zo k n _ hk2 hzo hout2 (by have h:=HV.out;rw [Nat.zero_mul,Nat.add_zero] at h;exact h))
     clear hblk2 hfr2 hout2 HV
     go_wp2
     go_end0
     exact⟨rfl,Z2,HO.out.wider (Nat.le_refl _) (by omega),hlz2,HB.out,HF.out,HR.out⟩
    ·have hpos:(0:Int)<(cy2:Int):=by omega
     have hkn:k<n:=by
      rcases Nat.lt_or_ge k n with h|h
      ·exact h
      ·have ek:k=n:=by omega
       subst ek
       exact absurd (dn Z Z2 zo k cy2 (val P*m) hlz2 HFIT.out HV.out) hc0
     have hfr:=hblk2.free (zo+k)
     have hco:=hblk2.cell (zo+k) (by omega)
     have z2:=limb_lt hlz2 (zo+k)
     have hsame:=hout2.same (zo+k) (by omega)
     have ha:=cG (Z2.getD (zo+k) 0) cy2
     obtain⟨q1,q2,q3⟩:=ff (Z2.getD (zo+k) 0) cy2 z2 hcy2
     have HS:=ac (bE Z Z2 zo k cy2 _ _ 0 _ (by omega) hl HV.out (by rw [←hsame];exact q1))
     rw [Nat.mul_zero,Nat.add_zero] at HS
     generalize Z2.getD (zo+k) 0=z at *
     clear hsame q1
     generalize (z+18446744073709551616 - cy2) % 18446744073709551616=s at *
     generalize bor z cy2 0=c2 at *
     clear hblk2 hfr2 hout2 HV hc0
     go_wp2
     go_roundw
     case rel=>exact⟨k+1,c2,Z2.set (zo+k) s,by omega,by go_num,rfl,q2,(HO.out.wider (Nat.le_refl _) (by omega)).set _ _ (by omega) (by omega),limbs_set hlz2 _ _ q3,HB.out.set _ s,HF.out.setCell _ _,HS.out⟩
     case measure=>simp [intOf];omega

theorem fV (v r:Nat)(hv:v<18446744073709551616)(hr:r<2):bits BinOp.or IntKind.u64 ((v:Int) / 2) ((r*9223372036854775808:Nat):Int)=((v / 2+r*9223372036854775808:Nat):Int):=by
 have h:=walk_shr2 v r 1 (by omega) hv
 have e1:IntKind.u64.wrap ((r:Int)*2 ^ (64 - 1))=((r*9223372036854775808:Nat):Int):=by
  rw [IntKind.wrap_u64,show (2:Int) ^ (64 - 1)=9223372036854775808 by decide]
  omega
 rw [e1,show (2:Int) ^ 1=2 by decide] at h
 rw [h]
 unfold shr
 rw [show (2:Nat) ^ 1=2 by decide,show (2:Nat) ^ (64 - 1)=9223372036854775808 by decide,Nat.mod_eq_of_lt hr]

theorem g7 (v S:Nat):v / 2+S % 2*9223372036854775808+18446744073709551616*(S / 2)=(v+18446744073709551616*S) / 2∧(v+18446744073709551616*S) % 2=v % 2:=by
 omega

theorem bI (Z:List Nat)(o j n:Nat)(h:o+j<Z.length)(hj:j<n):sv Z (o+j) (n - j)=Z.getD (o+j) 0+18446744073709551616*sv Z (o+(j+1)) (n - (j+1)):=by
 rw [show n - j=1+(n - (j+1)) by omega,ai _ _ _ _ (by omega),cX _ _ h,Nat.pow_one,←Nat.add_assoc]

theorem gh (bz zo n cap:Nat)(Z:List Nat)(w:World)(hB:Blk w bz Z)(hLZ:Limbs Z)(hzo:zo+n≤Z.length)(hc1:n≤cap)(hc2:cap≤9223372036854775807) :
  Calls Tryz.prog 188 #[.slice (some ⟨bz,zo,none⟩) n cap] w (an bz zo n Z w (sv Z zo n / 2)):=by
 have HB0:=ac hB
 have HLZ:=ac hLZ
 clear hB
 go_enter Tryz.func188,Tryz.ntmps188
 go_wp2
 go_loopw [2,3] (fun c i wr=>∃(k:Nat) (Z':List Nat),k≤n∧i=.int .i64 ((k:Int) - 1)∧c=.int .u64 ((sv Z (zo+k) (n - k) % 2*9223372036854775808:Nat):Int)∧Out Z Z' (zo+k) (zo+n)∧Limbs Z'∧Blk wr bz Z'∧Fr bz w wr ∧
   sv Z' (zo+k) (n - k)=sv Z (zo+k) (n - k) / 2) (fun _ i _=>(intOf i+1).toNat)
 case atStart=>exact⟨n,Z,Nat.le_refl _,rfl,by rw [Nat.sub_self,aA];rfl,Out.refl _ _ _,HLZ.out,HB0.out,Fr.refl _ _,by rw [Nat.sub_self,aA]⟩
 case round=>
  obtain⟨k,Z',hk,rfl,rfl,hout,hlz,hblk,hfr0,hval⟩:=hrel
  have hl:=hout.len
  by_cases hk0:k=0
  ·subst hk0
   rw [Nat.add_zero,Nat.sub_zero] at hval
   have HD:Hid (Out Z Z' zo (zo+n)∧Limbs Z'∧Blk wr bz Z'∧Fr bz w wr∧sv Z' zo n=sv Z zo n / 2):=ac ⟨by simpa using hout,hlz,hblk,hfr0,hval⟩
   generalize sv Z (zo+0) (n - 0) % 2*9223372036854775808=cy at *
   clear hout hlz hblk hfr0 hval
   go_wp2
   go_end0
   exact⟨rfl,Z',HD.out⟩
  ·obtain⟨j,rfl⟩:∃j,k=j+1:=⟨k - 1,by omega⟩
   have hcons:=bI Z zo j n (by omega) (by omega)
   have hcons':∀s,sv (Z'.set (zo+j) s) (zo+j) (n - j)=s+18446744073709551616*sv Z' (zo+(j+1)) (n - (j+1)):=fun s=>by
    rw [bI (Z'.set (zo+j) s) zo j n (by simp;omega) (by omega),bK,if_pos ⟨rfl,by omega⟩]
    have e:Out Z' (Z'.set (zo+j) s) (zo+j) (zo+(j+1)):=(Out.refl _ _ _).set _ _ (by omega) (by omega)
    rw [e.sv (zo+(j+1)) (n - (j+1)) (by omega)]
   have hsame:=hout.same (zo+j) (by omega)
   have hfr:=hblk.free (zo+j)
   have hco:=hblk.cell (zo+j) (by omega)
   have z2:=limb_lt HLZ.out (zo+j)
   rw [hsame] at hco
   have hst:=g7 (Z.getD (zo+j) 0) (sv Z (zo+(j+1)) (n - (j+1)))
   rw [←hcons] at hst
   have hor:=fV (Z.getD (zo+j) 0) (sv Z (zo+(j+1)) (n - (j+1)) % 2) z2 (Nat.mod_lt _ (by omega))
   have HS:=ac (hcons' (Z.getD (zo+j) 0 / 2+sv Z (zo+(j+1)) (n - (j+1)) % 2*9223372036854775808))
   rw [hval,hst.1] at HS
   have HM:=ac hst.2
   have hs1:Z.getD (zo+j) 0 / 2+sv Z (zo+(j+1)) (n - (j+1)) % 2*9223372036854775808<18446744073709551616:=by
    have:=Nat.mod_lt (sv Z (zo+(j+1)) (n - (j+1))) (show 0<2 by omega)
    omega
   clear hst hcons hcons' hsame hval
   generalize sv Z (zo+(j+1)) (n - (j+1)) % 2*9223372036854775808=cy at *
   generalize Z.getD (zo+j) 0=v at *
   generalize v / 2+cy=s at *
   have ewr:IntKind.u64.wrap ((v:Int)*9223372036854775808)=((v % 2*9223372036854775808:Nat):Int):=by rw [IntKind.wrap_u64];omega
   obtain⟨c2,hc2'⟩:∃c2,c2=v % 2*9223372036854775808:=⟨_,rfl⟩
   rw [←hc2'] at ewr
   have HC2:Hid (c2=sv Z (zo+j) (n - j) % 2*9223372036854775808):=ac (by rw [hc2',HM.out])
   clear hc2' HM
   have ej:(((j+1:Nat):Int) - 1)=(j:Int):=by omega
   rw [ej]
   have HB:=ac hblk
   have HF:=ac hfr0
   have HO:=ac hout
   clear hblk hfr0 hout ej
   have hi1:(0:Int)≤(j:Int):=by omega
   have hi2:(j:Int)<(n:Int):=by omega
   go_wp2
   go_roundw
   case rel=>
    exact⟨j,Z'.set (zo+j) s,by omega,rfl,by rw [HC2.out],(HO.out.wider (by omega) (Nat.le_refl _)).set _ _ (Nat.le_refl _) (by omega),limbs_set hlz _ _ hs1,HB.out.set _ s,HF.out.setCell _ _,HS.out⟩
   case measure=>simp [intOf]

theorem g6 (v b:Nat)(hv:v<18446744073709551616)(hb:b≤2) :
  3*((v+18446744073709551616 - b) % 18446744073709551616*12297829382473034411 % 18446744073709551616)+b=v+((v+18446744073709551616 - b) % 18446744073709551616*12297829382473034411 % 18446744073709551616*3 / 18446744073709551616+bor v b 0)*18446744073709551616 ∧
  (v+18446744073709551616 - b) % 18446744073709551616*12297829382473034411 % 18446744073709551616*3 / 18446744073709551616+bor v b 0≤2 ∧
  (v+18446744073709551616 - b) % 18446744073709551616<18446744073709551616:=by
 have hr:(v+18446744073709551616 - b) % 18446744073709551616<18446744073709551616:=Nat.mod_lt _ (by omega)
 have hsub:=(ff v b hv (by omega)).1
 generalize (v+18446744073709551616 - b) % 18446744073709551616=r at *
 have ht:r*12297829382473034411 % 18446744073709551616<18446744073709551616:=Nat.mod_lt _ (by omega)
 have h3:r*12297829382473034411 % 18446744073709551616*3 % 18446744073709551616=r:=by omega
 generalize r*12297829382473034411 % 18446744073709551616=t at *
 generalize bor v b 0=u at *
 refine⟨by omega,by omega,hr⟩

theorem iT (Z Z':List Nat)(o k b b2 t:Nat)(hz:o+k<Z'.length)(hl:Z'.length=Z.length)(h:3*sv Z' o k=sv Z o k+b*18446744073709551616 ^ k)(hs:3*t+b=Z.getD (o+k) 0+b2*18446744073709551616) :
  3*sv (Z'.set (o+k) t) o (k+1)=sv Z o (k+1)+b2*18446744073709551616 ^ (k+1):=by
 rw [bC _ _ _ _ hz,ca Z o k (by omega),show (18446744073709551616:Nat) ^ (k+1)=18446744073709551616 ^ k*18446744073709551616 from Nat.pow_succ ..]
 generalize sv Z' o k=A at *
 generalize sv Z o k=B at *
 generalize Z.getD (o+k) 0=z at *
 generalize (18446744073709551616:Nat) ^ k=P at *
 generalize (18446744073709551616:Nat)=W at *
 grind

theorem fT (n:Nat):18446744073709551616 ^ n % 3=1:=by
 induction n with
 | zero=>rfl
 | succ n ih=>rw [Nat.pow_succ,Nat.mul_mod,ih]

theorem iA (q s b P:Nat)(hP:P % 3=1)(hs:s % 3=0)(hb:b≤2)(h:3*q=s+b*P):q=s / 3:=by
 have h1:(s+b*P) % 3=0:=by rw [←h];exact Nat.mul_mod_right 3 q
 have h2:(b*P) % 3=b % 3:=by rw [Nat.mul_mod,hP,Nat.mul_one,Nat.mod_mod]
 have h3:b=0:=by omega
 subst h3
 omega

theorem jD (bz zo n cap:Nat)(Z:List Nat)(w:World)(hB:Blk w bz Z)(hLZ:Limbs Z)(hzo:zo+n≤Z.length)(hc1:n≤cap)(hc2:cap≤9223372036854775807)(h3:sv Z zo n % 3=0) :
  Calls Tryz.prog 191 #[.slice (some ⟨bz,zo,none⟩) n cap] w (an bz zo n Z w (sv Z zo n / 3)):=by
 have HB0:=ac hB
 have HLZ:=ac hLZ
 have H3:=ac h3
 clear hB h3
 go_enter Tryz.func191,Tryz.ntmps191
 go_wp2
 go_loopw [2,11] (fun c i wr=>∃(k b:Nat) (Z':List Nat),k≤n∧i=.int .i64 k∧c=.int .u64 b∧b≤2∧Out Z Z' zo (zo+k)∧Limbs Z'∧Blk wr bz Z'∧Fr bz w wr ∧
   3*sv Z' zo k=sv Z zo k+b*18446744073709551616 ^ k) (fun _ i _=>n - (intOf i).toNat)
 case atStart=>exact⟨0,0,Z,Nat.zero_le _,rfl,rfl,by omega,Out.refl _ _ _,HLZ.out,HB0.out,Fr.refl _ _,by simp [aA]⟩
 case round=>
  obtain⟨k,b,Z',hk,rfl,rfl,hb,hout,hlz,hblk,hfr0,hval⟩:=hrel
  have hl:=hout.len
  have HV:=ac hval
  have HB:=ac hblk
  have HF:=ac hfr0
  have HO:=ac hout
  clear hval
  by_cases hkl:k<n
  ·have hfr:=hblk.free (zo+k)
   have hco:=hblk.cell (zo+k) (by omega)
   have z2:=limb_lt hlz (zo+k)
   have hsame:=hout.same (zo+k) (by omega)
   obtain⟨q1,q2,q3⟩:=g6 (Z'.getD (zo+k) 0) b z2 hb
   have HS:=ac (iT Z Z' zo k b _ _ (by omega) hl HV.out (by rw [←hsame];exact q1))
   have ha:=cG (Z'.getD (zo+k) 0) b
   generalize Z'.getD (zo+k) 0=v at *
   clear hsame q1
   generalize (v+18446744073709551616 - b) % 18446744073709551616=r at *
   generalize bor v b 0=u at *
   have ht:r*12297829382473034411 % 18446744073709551616<18446744073709551616:=Nat.mod_lt _ (by omega)
   have e1:IntKind.u64.wrap ((r:Int)*12297829382473034411)=((r*12297829382473034411 % 18446744073709551616:Nat):Int):=by rw [IntKind.wrap_u64];omega
   generalize r*12297829382473034411 % 18446744073709551616=t at *
   have hM:=fun w'=>Tryz.bits_Mul64 t 3 ht (by omega) w'
   generalize t*3 / 18446744073709551616=h1 at *
   have e2:(h1:Int)+(u:Int)=((h1+u:Nat):Int):=by omega
   generalize h1+u=c2 at *
   clear hblk hfr0 hout HV
   go_wp2_with fail
   refine (hM _).mono ?_
   rintro e w2 ⟨rfl,hw⟩
   subst hw
   clear hM
   go_wp2
   go_roundw
   case rel=>exact⟨k+1,c2,Z'.set (zo+k) t,by omega,by go_num,rfl,q2,(HO.out.wider (Nat.le_refl _) (by omega)).set _ _ (by omega) (by omega),limbs_set hlz _ _ ht,HB.out.set _ t,HF.out.setCell _ _,HS.out⟩
   case measure=>simp [intOf];omega
  ·have ek:k=n:=by omega
   subst ek
   have HE:=ac (iA _ _ b _ (fT k) H3.out hb HV.out)
   clear hblk hfr0 hout HV
   go_wp2
   go_end0
   exact⟨rfl,Z',HO.out,hlz,HB.out,HF.out,HE.out⟩
end Go.Proofs.YtemgogeokkeipaaGreatDoor
namespace Go.Proofs.YtemgogeokkeipaaGreatDoor
open Go.RowKit
open Lm

def aT (v:Value)(bz:Nat):Prop:=∀b off n c,v=.slice (some ⟨b,off,none⟩) n c→b≠bz

theorem aT.off {v:Value}{bz:Nat}(h:aT v bz)(lo hi:Nat):Off v bz lo hi:=fun b off n c e=>.inl (h b off n c e)

def bc (H T:Int)(X Y:List Nat):Prop:=
 ∀(bz zo cap:Nat) (Z:List Nat) (va vb:Value) (w:World),Blk w bz Z→Limbs Z→Arg w va X→Arg w vb Y→aT va bz→aT vb bz →
  zo+(X.length+Y.length)≤Z.length→X.length+Y.length≤cap→cap≤9223372036854775807 →
  Calls Tryz.prog 178 #[way H T,.slice (some ⟨bz,zo,none⟩) (X.length+Y.length) cap,va,vb] w (an bz zo (X.length+Y.length) Z w (val X*val Y))

theorem dO (H T:Int)(X Y:List Nat)(hs:(X.length<Y.length∧(X.length:Int)<H∧(X.length:Int)<T)∨(Y.length≤X.length∧(Y.length:Int)<H∧(Y.length:Int)<T)):bc H T X Y:=
 fun bz zo cap Z va vb w h1 h2 h3 h4 h5 h6 h7 h8 h9=>gS H T bz zo cap Z va vb X Y w h1 h2 h3 h4 (h5.off _ _) (h6.off _ _) h7 h8 h9 hs

theorem Arg.drop {w:World}{b off n cap:Nat}{X:List Nat}(h:Arg w (.slice (some ⟨b,off,none⟩) n cap) X)(i:Nat)(hi:i≤n):Arg w (.slice (some ⟨b,off+i,none⟩) (n - i) (cap - i)) (X.drop i):=by
 obtain⟨ao,c,h1,h2,h3,h4⟩:=h.form
 cases h1
 have hl:(X.drop i).length=X.length - i:=by simp
 refine⟨⟨_,_,by rw [hl],by rw [hl];omega,by omega,?_⟩,fun z hz=>h.limbs z (List.mem_of_mem_drop hz),by rw [hl];have:=h.few;omega,fun n c e=>by cases e⟩
 rcases h4 with h4|⟨b',off',he,hc⟩
 ·subst h4;exact .inl (by simp)
 ·cases he
  refine .inr ⟨b,off+i,rfl,fun k hk=>?_⟩
  rw [hl] at hk
  rw [Nat.add_assoc,hc (i+k) (by omega)]
  simp [List.getD]

theorem dc (X:List Nat):aB X≤X.length:=by
 induction X with
 | nil=>simp [aB]
 | cons z r ih=>
  rw [aB]
  split
  ·split
   ·simp
   ·simp;omega
  ·simp

theorem cE (X:List Nat):val X=18446744073709551616 ^ aB X*val (X.drop (aB X)):=by
 induction X with
 | nil=>simp [aB,val]
 | cons z r ih=>
  rw [aB]
  by_cases hz:z=0
  ·subst hz
   rw [if_pos rfl]
   by_cases hr:val r=0
   ·rw [if_pos hr];simp
   ·rw [if_neg hr,val,List.drop_succ_cons]
    conv=>lhs;rw [ih]
    rw [Nat.pow_succ,Nat.zero_add]
    grind
  ·rw [if_neg hz];simp

theorem dA (X:List Nat)(h:val X≠0):aB X<X.length:=by
 refine Nat.lt_of_not_le fun hle=>h ?_
 rw [cE,List.drop_of_length_le hle];simp [val]

theorem jj (Z:List Nat)(X Y:List Nat)(i j n:Nat)(hi:i≤X.length)(hj:j≤Y.length)(hn:n=X.length+Y.length)(h1:val X=18446744073709551616 ^ i*val (X.drop i))(h2:val Y=18446744073709551616 ^ j*val (Y.drop j))
  (ho:Out (List.replicate n 0) Z (i+j) (i+j+(X.length - i+(Y.length - j)))) (hs:sv Z (i+j) (X.length - i+(Y.length - j))=val (X.drop i)*val (Y.drop j)):val Z=val X*val Y:=by
 have hl:Z.length=n:=by rw [ho.len];simp
 have e0:sv Z 0 (i+j)=0:=by
  rw [ho.sv 0 (i+j) (by omega)]
  unfold sv seg
  rw [List.drop_replicate,List.take_replicate,val_replicate]
 have e1:sv Z 0 (i+j+(X.length - i+(Y.length - j)))=val Z:=by
  rw [show i+j+(X.length - i+(Y.length - j))=Z.length by omega,aY]
 rw [ai _ _ _ _ (by omega),e0,Nat.zero_add,Nat.zero_add,hs] at e1
 rw [←e1,h1,h2,Nat.pow_add]
 have:∀a b c d:Nat,a*b*(c*d)=a*c*(b*d):=fun a b c d=>by grind
 rw [this]

def ei (v u:Value):Prop:=(∀bz lo hi,Off u bz lo hi→Off v bz lo hi)∧∀bz,aT u bz→aT v bz

theorem Arg.cut {w:World}{b off n cap:Nat}{X:List Nat}(h:Arg w (.slice (some ⟨b,off,none⟩) n cap) X)(i m:Nat)(hi:i+m≤n):Arg w (.slice (some ⟨b,off+i,none⟩) m (cap - i)) ((X.drop i).take m):=by
 obtain⟨ao,c,h1,h2,h3,h4⟩:=h.form
 cases h1
 have hl:((X.drop i).take m).length=m:=by simp;omega
 refine⟨⟨_,_,by rw [hl],by rw [hl];omega,by omega,?_⟩,fun z hz=>h.limbs z (List.mem_of_mem_drop (List.mem_of_mem_take hz)),by rw [hl];have:=h.few;omega,fun n c e=>by cases e⟩
 rcases h4 with h4|⟨b',off',he,hc⟩
 ·subst h4;exact .inl (by simp)
 ·cases he
  refine .inr ⟨b,off+i,rfl,fun k hk=>?_⟩
  rw [hl] at hk
  rw [Nat.add_assoc,hc (i+k) (by omega)]
  simp [List.getD,hk]

theorem fH (b off n cap i m:Nat)(hi:i+m≤n):ei (.slice (some ⟨b,off+i,none⟩) m (cap - i)) (.slice (some ⟨b,off,none⟩) n cap):=⟨fun bz lo hi' h b' off' n' c' e=>by
 cases e
 rcases h b off n cap rfl with h1|h1|h1
 ·exact .inl h1
 ·exact .inr (.inl (by omega))
 ·exact .inr (.inr (by omega)),fun bz h b' off' n' c' e=>by
 cases e
 exact h b off n cap rfl⟩

theorem im (b off cap at' m:Nat)(X:List Nat)(w:World)(hA:Arg w (.slice (some ⟨b,off,none⟩) X.length cap) X)(hat:at'<X.length)(hm:m≤1125899906842624) :
  Calls Tryz.prog 193 #[.slice (some ⟨b,off,none⟩) X.length cap,.int .i64 at',.int .i64 m] w fun e w'=>(∃v,e=.returned v∧Arg w v ((X.drop at').take m)∧ei v (.slice (some ⟨b,off,none⟩) X.length cap))∧w'=w:=by
 have hX:=hA.few
 obtain⟨_,_,e0,hcc,hcm,_⟩:=hA.form
 cases e0
 have i1:(at':Int)<(X.length:Int):=by omega
 have i2:(0:Int)≤(at':Int):=by omega
 have k1:¬cap=at':=by omega
 have m1:min (at':Int) (X.length:Int)=(at':Int):=by omega
 by_cases h:at'+m≤X.length
 ·have HA:=ac (hA.cut at' m h)
  have HW:=ac (fH b off X.length cap at' m h)
  obtain⟨s,es,hs1,hs2,es2⟩:∃s:Nat,(at':Int)+(m:Int)=(s:Int)∧s≤X.length∧at'≤s∧s - at'=m:=⟨at'+m,by omega,h,by omega,by omega⟩
  have i3:(s:Int)≤(X.length:Int):=by omega
  have i4:(at':Int)≤(s:Int):=by omega
  have m2:min (s:Int) (X.length:Int)=(s:Int):=by omega
  clear hA h
  go_enter Tryz.func193,Tryz.ntmps193
  go_wp2
  go_ret
  exact⟨⟨_,rfl,HA.out,HW.out⟩,rfl⟩
 ·have et:(X.drop at').take m=(X.drop at').take (X.length - at'):=by
   rw [List.take_of_length_le (by simp;omega),List.take_of_length_le (by simp)]
  have HA:=ac (hA.cut at' (X.length - at') (by omega))
  rw [←et] at HA
  have HW:=ac (fH b off X.length cap at' (X.length - at') (by omega))
  obtain⟨s,es,hs1⟩:∃s:Nat,(at':Int)+(m:Int)=(s:Int)∧X.length≤s:=⟨at'+m,by omega,by omega⟩
  have m2:min (s:Int) (X.length:Int)=(X.length:Int):=by omega
  have i4:(at':Int)≤(X.length:Int):=by omega
  clear hA h et
  go_enter Tryz.func193,Tryz.ntmps193
  go_wp2
  go_ret
  exact⟨⟨_,rfl,HA.out,HW.out⟩,rfl⟩

theorem gl (X:List Nat)(t l y:Nat):val (X.take (t+l))*y=val (X.take t)*y+18446744073709551616 ^ t*(val ((X.drop t).take l)*y)∨X.length<t:=by
 by_cases h:t≤X.length
 ·left
  rw [List.take_add,val_append,List.length_take,Nat.min_eq_left h,Nat.add_mul,Nat.mul_assoc]
 ·exact .inr (by omega)

theorem hJ (X:List Nat)(t:Nat):val (X.take t)≤val X:=by
 conv=>rhs;rw [←List.take_append_drop t X,val_append]
 omega

theorem dl (Z:List Nat)(o t n p tot:Nat)(ht:t≤n)(ho:o+n≤Z.length)(h:sv Z o n+18446744073709551616 ^ t*p≤tot)(htot:tot<18446744073709551616 ^ n):sv Z (o+t) (n - t)+p<18446744073709551616 ^ (n - t):=by
 obtain⟨d,rfl⟩:∃d,n=t+d:=⟨n - t,by omega⟩
 rw [ai _ _ _ _ (by omega)] at h
 rw [Nat.pow_add] at htot
 rw [Nat.add_sub_cancel_left]
 have h2:18446744073709551616 ^ t*(sv Z (o+t) d+p)<18446744073709551616 ^ t*18446744073709551616 ^ d:=by
  rw [Nat.mul_add];omega
 exact Nat.lt_of_mul_lt_mul_left h2

theorem dJ (Z Z':List Nat)(o t n p:Nat)(ht:t≤n)(ho:o+n≤Z.length)(hO:Out Z Z' (o+t) (o+n))(h:sv Z' (o+t) (n - t)=sv Z (o+t) (n - t)+p):sv Z' o n=sv Z o n+18446744073709551616 ^ t*p:=by
 obtain⟨d,rfl⟩:∃d,n=t+d:=⟨n - t,by omega⟩
 rw [Nat.add_sub_cancel_left] at h
 rw [ai Z' _ _ _ (by rw [hO.len];omega),ai Z _ _ _ (by omega),h,hO.sv o t (by omega),Nat.mul_add]
 omega
end Go.Proofs.YtemgogeokkeipaaGreatDoor
namespace Go.Proofs.YtemgogeokkeipaaGreatDoor
open Go.RowKit
open Lm
attribute [local go_sem ↓] Go.wp_at_zero Go.wp_at_succ

theorem dF (bz zo n cap:Nat)(Z:List Nat)(w:World)(hB:Blk w bz Z)(hLZ:Limbs Z)(hzo:zo+n≤Z.length) :
  ∃(w1:World) (Z1:List Nat),(∀ty,(Builtin.clear_ #[26] ty #[.slice (some ⟨bz,zo,none⟩) n cap]).run Tryz.prog w=.ok (.tuple #[]) w1)∧Out Z Z1 zo (zo+n)∧Limbs Z1∧Blk w1 bz Z1∧Fr bz w w1∧sv Z1 zo n=0:=by
 rcases Nat.eq_zero_or_pos n with h0|h0
 ·subst h0
  exact⟨w,Z,fun ty=>dz _ _ _ _,Out.refl _ _ _,hLZ,hB,Fr.refl _ _,aA _ _⟩
 ·have hlr:(List.replicate n 0).length=n:=by simp
  have e1:=bn (List.replicate n 0) Z zo
  have e2:=bA (List.replicate n 0) Z zo (by rw [hlr];exact hzo)
  rw [hlr] at e1 e2
  exact⟨_,lay Z zo (List.replicate n 0),fun ty=>cf bz zo _ cap Z w ty hB hzo h0,e1,bB _ (limbs_replicate _) _ _ hLZ,Blk.setCells _ _ hB,(Fr.refl _ _).setCells _ _,by rw [e2,val_replicate]⟩

theorem Fr.blk {bz g:Nat}{w w':World}{M:List Nat}(h:Fr bz w w')(hb:Blk w g M)(hne:g≠bz):Blk w' g M:=by
 unfold Blk
 rw [h.block g hb.lt hne];exact hb

theorem Blk.below' {w w':World}{b:Nat}{xs:List Nat}(h:Blk w b xs)(hb:Below w.heap.size w w'):Blk w' b xs:=by
 unfold Blk
 rw [hb.block b h.lt];exact h

theorem Fr.other {bz g:Nat}{w a b:World}(h:Fr bz w a)(k:Fr g a b)(hg:w.heap.size≤g):Fr bz w b:=
 ⟨k.os.trans h.os,k.tape.trans h.tape,k.output.trans h.output,Nat.le_trans h.size k.size,fun i h1 h2=>(k.block i (Nat.lt_of_lt_of_le h1 h.size) (by omega)).trans (h.block i h1 h2)⟩

theorem Arg.block {w:World}{b off n c:Nat}{X:List Nat}(h:Arg w (.slice (some ⟨b,off,none⟩) n c) X)(h0:0<X.length):b<w.heap.size:=by
 obtain⟨ao,cc,e,_,_,hl⟩:=h.form
 cases e
 exact ay.block hl h0

theorem Off.far {v:Value}{g lo hi:Nat}{w:World}{X:List Nat}(hA:Arg w v X)(h0:0<X.length)(hg:w.heap.size≤g):Off v g lo hi:=fun b off n c e=>by
 subst e
 have:=hA.block h0
 exact .inl (by omega)

theorem aT.far {v:Value}{g:Nat}{w:World}{X:List Nat}(hA:Arg w v X)(h0:0<X.length)(hg:w.heap.size≤g):aT v g:=fun b off n c e=>by
 subst e
 have:=hA.block h0
 omega

theorem Blk.take_arg {w:World}{g:Nat}{M:List Nat}(h:Blk w g M)(hl:Limbs M)(s cap:Nat)(hs:s≤M.length)(hc:s≤cap)(hm:cap≤1125899906842624):Arg w (.slice (some ⟨g,0,none⟩) s cap) (M.take s):=by
 have e:(M.take s).length=s:=by simp;omega
 refine⟨⟨_,cap,by rw [e],by omega,by omega,.inr ⟨g,0,rfl,fun k hk=>?_⟩⟩,fun z hz=>hl z (List.mem_of_mem_take hz),by omega,fun n c e=>by cases e⟩
 rw [e] at hk
 rw [Nat.zero_add,h.cell k (by omega)]
 simp [List.getD,hk]

theorem gi (M:List Nat)(s:Nat):val (M.take s)=sv M 0 s:=by simp [sv,seg]

theorem cD (H T:Int)(bz zo cap:Nat)(Z:List Nat)(va vb:Value)(X Y:List Nat)(w:World)(hB:Blk w bz Z)(hLZ:Limbs Z)(hA:Arg w va X)(hA2:Arg w vb Y)
  (ho:Off va bz zo (zo+(X.length+Y.length))) (ho2:Off vb bz zo (zo+(X.length+Y.length))) (hzo:zo+(X.length+Y.length)≤Z.length) (hc1:X.length+Y.length≤cap) (hc2:cap≤9223372036854775807)
  (hY:0<Y.length) (hlY:Y.length≤17592186044000) (hI:∀t,t<X.length→bc H T ((X.drop t).take Y.length) Y) :
  Calls Tryz.prog 183 #[way H T,.slice (some ⟨bz,zo,none⟩) (X.length+Y.length) cap,va,vb] w (an bz zo (X.length+Y.length) Z w (val X*val Y)):=by
 generalize hn:X.length+Y.length=n at *
 have hn1:n≤X.length+Y.length:=by omega
 have hn2:X.length+Y.length≤n:=by omega
 have HEN:=ac hn
 clear hn
 unfold way
 obtain⟨a1,c1,rfl,hcc1,hcm1,hl1⟩:=hA.form
 obtain⟨a2,c2,rfl,hcc2,hcm2,hl2⟩:=hA2.form
 have fX:=hA.few
 obtain⟨i0,hi,hz0,hz1,hz2⟩:=info_parts Tryz.infoU
 obtain⟨w1,hw1⟩:∃w1,w1=w.alloc (.cells #[.int .i64 H,.int .i64 T] 169):=⟨_,rfl⟩
 have hbel1:Below w.heap.size w w1:=by rw [hw1];exact (Below.refl _ _).alloc (Nat.le_refl _) _
 have hs1:w1.heap.size=w.heap.size+1:=by rw [hw1];simp
 have hb1:w1.heap[w.heap.size]?=some (.cells #[.int .i64 H,.int .i64 T] 169):=by rw [hw1];exact heap_alloc_new ..
 have hbz:=hB.lt
 have hB1:Blk w1 bz Z:=by rw [hw1];exact hB.alloc _
 obtain⟨w2,Z2,hrun,hO2,hL2,hB2,hF2,hS2⟩:=dF bz zo n cap Z w1 hB1 hLZ hzo
 have hbx2:w2.heap[w.heap.size]?=some (.cells #[.int .i64 H,.int .i64 T] 169):=by rw [hF2.block w.heap.size (by omega) (by omega)];exact hb1
 have HF02:=ac ((Fr.of_below (bz:=bz) hbel1).trans hF2)
 have hs2:=hF2.size
 have HW1:=ac hw1
 have HO2:=ac hO2
 have HB2:=ac hB2
 have HX2:=ac hbx2
 have HS2:=ac hS2
 have HII:=ac hI
 have HHA:=ac hA
 have HHA2:=ac hA2
 have HOF:=ac ho
 have HOF2:=ac ho2
 have HB0:=ac hB
 have mX:=val_lt hA.limbs
 have mY:=val_lt hA2.limbs
 have HTOT:Hid (val X*val Y<18446744073709551616 ^ (X.length+Y.length)):=ac (by rw [Nat.pow_add];exact Nat.mul_lt_mul'' mX mY)
 clear hw1 hbel1 hb1 hB1 hO2 hB2 hbx2 hF2 hS2 hI hA hA2 ho ho2 hl1 hl2 mX mY hB hLZ
 obtain⟨L,hL1,eL⟩:∃L:Nat,L=2*Y.length∧(2:Int)*(Y.length:Int)=(L:Int):=⟨2*Y.length,rfl,by omega⟩
 have hLa:L≤2*Y.length:=by omega
 have hLb:2*Y.length≤L:=by omega
 clear hL1
 rw [HW1.out] at hrun
 go_enter Tryz.func183,Tryz.ntmps183
 go_wp2_with (at_make;refine wpList_make_full _ rfl _ _ 26 rfl w2.heap.size 34 i0 (.int .u64 0) 1 Tryz.underlying26 hi hz0 hz1 .i64 .i64 _ _ L rfl rfl (by omega) (by omega) (by rw [hz2];omega) (by unfold maxLen;omega) (Nat.le_refl _) ?_;intro w3 hown hgrow)
 have hm3:=Blk.made hown
 have hbel3:Below w2.heap.size w2 w3:=(Below.refl _ _).grown hgrow (Nat.le_refl _) (fun k hk=>by cases hk)
 obtain⟨g,hg⟩:∃g,g=w2.heap.size:=⟨_,rfl⟩
 rw [←hg] at hm3 ⊢
 have hgw:w.heap.size<g:=by omega
 have hgbz:g≠bz:=by omega
 have HB3:Hid (Blk w3 bz Z2):=ac (HB2.out.below' hbel3)
 have HX3:Hid (w3.heap[w.heap.size]?=some (.cells #[.int .i64 H,.int .i64 T] 169)):=ac (by rw [hbel3.block w.heap.size (by omega)];exact HX2.out)
 have HF3:Hid (Fr bz w w3):=ac (HF02.out.trans (Fr.of_below hbel3))
 clear hown hgrow hi hz0 hz1 hz2 hg hbel3 HB2 HX2 HF02 hrun HW1
 go_loopw [9] (fun i wr=>∃(t:Nat) (Z' M:List Nat),t≤n∧i=.int .i64 t∧Out Z Z' zo (zo+n)∧Limbs Z'∧Blk wr bz Z'∧M.length=L∧Limbs M∧Blk wr g M∧wr.heap[w.heap.size]?=some (.cells #[.int .i64 H,.int .i64 T] 169)∧Fr bz w wr ∧
   sv Z' zo n=val (X.take t)*val Y) (fun i _=>X.length - (intOf i).toNat)
 case atStart=>exact⟨0,Z2,_,Nat.zero_le _,rfl,HO2.out,hL2,HB3.out,by simp,limbs_replicate _,hm3,HX3.out,HF3.out,by rw [HS2.out];simp [val]⟩
 case round=>
  obtain⟨t,Z',M,htn,rfl,hout,hlz,hblk,hML,hMl,hM,hbx,hfr0,hval⟩:=hrel
  clear HB3 HX3 HF3 hm3 HO2 hL2 HS2
  have hl:=hout.len
  by_cases htl:t<X.length
  ·have hAX:=HHA.out.fr HOF.out hfr0 HB0.out hblk hout
   have hAY:=HHA2.out.fr HOF2.out hfr0 HB0.out hblk hout
   obtain⟨ao,cc,e0,_,_,hlx⟩:=hAX.form
   cases e0
   rcases hlx with h0|⟨b,off,rfl,_⟩
   ·rw [h0] at htl;simp at htl
   have HP:=im b off c1 t Y.length X wr hAX htl (by omega)
   have lP:((X.drop t).take Y.length).length≤Y.length:=by simp;omega
   have hstep:=(gl X t Y.length (val Y)).resolve_right (by omega)
   have htot2:val (X.take (t+Y.length))*val Y≤val X*val Y:=Nat.mul_le_mul_right _ (hJ X _)
   have hIP:=HII.out t htl
   have hOg:aT (.slice (some ⟨b,off,none⟩) X.length c1) g:=aT.far HHA.out (by omega) (by omega)
   have hOg2:aT (.slice a2 Y.length c2) g:=aT.far HHA2.out hY (by omega)
   have hc0:wr.cell? ⟨w.heap.size,0,none⟩=some (.int .i64 H):=by simp [World.cell?,hbx]
   have hc1':wr.cell? ⟨w.heap.size,1,none⟩=some (.int .i64 T):=by simp [World.cell?,hbx]
   generalize (X.drop t).take Y.length=P at *
   have HST:=ac hstep
   have HT2:=ac htot2
   have HV:=ac hval
   have HBX:=ac hbx
   have HHM:=ac hM
   have HBK:=ac hblk
   have HFR:=ac hfr0
   have HO:=ac hout
   have HAY:=ac hAY
   clear hstep htot2 hval hbx hAX hblk hfr0 hout hAY
   go_wp2_with fail
   refine HP.mono ?_
   rintro e w4 ⟨⟨v,rfl,AP,HWi⟩,hw⟩
   subst hw
   obtain⟨ap,cp,rfl,hcp1,hcp2,_⟩:=AP.form
   have HI:=hIP g 0 L M _ _ w4 hM hMl AP HAY.out (HWi.2 _ hOg) hOg2 (by omega) (by omega) (by omega)
   obtain⟨s,es1,es2,hs1,hs2⟩:∃s:Nat,P.length+Y.length=s∧(P.length:Int)+(Y.length:Int)=(s:Int)∧s≤L∧P.length+Y.length≤s:=⟨_,rfl,by omega,by omega,Nat.le_refl _⟩
   rw [es1] at HI
   unfold way at HI
   have is1:(s:Int)≤(L:Int):=by omega
   have is0:(0:Int)≤(s:Int):=by omega
   clear es1 HP hOg hOg2 AP HWi hM
   go_wp2_with fail
   refine HI.mono ?_
   rintro e w5 ⟨rfl,M',hO5,hl5,hB5,hF5,hv5⟩
   have hB5z:=hF5.blk HBK.out (Ne.symm hgbz)
   have hbx5:w5.heap[w.heap.size]?=some (.cells #[.int .i64 H,.int .i64 T] 169):=by
    rw [hF5.block w.heap.size (by have:=HHM.out.lt;omega) (by omega)];exact HBX.out
   have hM5:M'.length=L:=by rw [hO5.len];exact hML
   have hle5:sv Z' zo n+18446744073709551616 ^ t*(val P*val Y)≤val X*val Y:=by
    rw [HV.out,←HST.out];exact HT2.out
   have hvt:val (M'.take s)=val P*val Y:=by rw [gi,hv5]
   have hfit:=dl Z' zo t n (val P*val Y) _ (by omega) (by omega) hle5 (by rw [←HEN.out];exact HTOT.out)
   have HPl:=bD bz (zo+t) (n - t) (cap - t) Z' _ (M'.take s) w5 hB5z hlz (hB5.take_arg hl5 s L (by omega) (by omega) (by omega)) (fun b' off' n' c' e=>by cases e;exact .inl hgbz) (by omega) (by omega) (by omega) (by rw [hvt];exact hfit)
   rw [hvt] at HPl
   have HF5:=ac (HFR.out.other hF5 (by omega))
   have HB5:=ac hB5
   have HX5:=ac hbx5
   have k9:¬cap=t:=by omega
   have it1:(t:Int)≤(n:Int):=by omega
   have it0:(0:Int)≤(t:Int):=by omega
   clear hO5 hB5 hF5 hv5 hB5z hbx5 hle5 hvt hfit HI HBX HHM HBK HFR hc0 hc1'
   go_wp2_with fail
   refine HPl.mono ?_
   rintro e w6 ⟨rfl,Z'',hO6,hl6,hB6,hF6,hv6⟩
   rw [show zo+t+(n - t)=zo+n by omega] at hO6
   have HV6:=ac (dJ Z' Z'' zo t n _ (by omega) (by omega) hO6 hv6)
   rw [HV.out,←HST.out] at HV6
   have HO6:=ac (HO.out.trans (hO6.wider (by omega) (Nat.le_refl _)))
   have HB6:=ac hB6
   have HM6:=ac (hF6.blk HB5.out hgbz)
   have HX6:Hid (w6.heap[w.heap.size]?=some (.cells #[.int .i64 H,.int .i64 T] 169)):=ac (by rw [hF6.block w.heap.size (by have:=HB5.out.lt;omega) (by omega)];exact HX5.out)
   have HF6:=ac (HF5.out.trans hF6)
   clear hO6 hB6 hF6 hv6 HPl HV HST HT2
   go_wp2
   go_roundw
   case rel=>exact⟨t+Y.length,Z'',M',by omega,by go_num,HO6.out,hl6,HB6.out,hM5,hl5,HM6.out,HX6.out,HF6.out,HV6.out⟩
   case measure=>simp [intOf];omega
  ·have HV:Hid (sv Z' zo n=val X*val Y):=ac (by rw [hval,List.take_of_length_le (by omega)])
   have HD:=ac (And.intro hout (And.intro hlz (And.intro hblk hfr0)))
   clear hout hlz hblk hM hbx hfr0 hval hMl hML
   go_wp2
   go_end0
   exact⟨rfl,Z',HD.out.1,HD.out.2.1,HD.out.2.2.1,HD.out.2.2.2,HV.out⟩
end Go.Proofs.YtemgogeokkeipaaGreatDoor
namespace Go.Proofs.YtemgogeokkeipaaGreatDoor
open Go.RowKit
open Lm

def d4 (w:World)(n p:Nat)(e:Ending)(w':World):Prop:=
 ∃(g:Nat) (Z':List Nat),e=.returned (.slice (some ⟨g,0,none⟩) n n)∧w.heap.size≤g∧Z'.length=n∧Limbs Z'∧Blk w' g Z'∧val Z'=p∧Below w.heap.size w w'

theorem gM (H T:Int)(va vb:Value)(X Y:List Nat)(w:World)(hA:Arg w va X)(hA2:Arg w vb Y)(hX:0<X.length)(hY:0<Y.length)(hf:X.length+Y.length≤35184372088831)(hI:bc H T X Y) :
  Calls Tryz.prog 186 #[way H T,va,vb] w (d4 w (X.length+Y.length) (val X*val Y)):=by
 unfold way
 obtain⟨a1,c1,rfl,hcc1,hcm1,_⟩:=hA.form
 obtain⟨a2,c2,rfl,hcc2,hcm2,_⟩:=hA2.form
 obtain⟨i0,hi,hz0,hz1,hz2⟩:=info_parts Tryz.infoU
 obtain⟨w1,hw1⟩:∃w1,w1=w.alloc (.cells #[.int .i64 H,.int .i64 T] 169):=⟨_,rfl⟩
 have hbel1:Below w.heap.size w w1:=by rw [hw1];exact (Below.refl _ _).alloc (Nat.le_refl _) _
 have hs1:w1.heap.size=w.heap.size+1:=by rw [hw1];simp
 have hb1:w1.heap[w.heap.size]?=some (.cells #[.int .i64 H,.int .i64 T] 169):=by rw [hw1];exact heap_alloc_new ..
 have HW1:=ac hw1
 have B1:=ac hbel1
 have HX1:=ac hb1
 clear hw1 hbel1 hb1
 obtain⟨n,hn,en⟩:∃n:Nat,X.length+Y.length=n∧(X.length:Int)+(Y.length:Int)=(n:Int):=⟨_,rfl,by omega⟩
 rw [hn]
 have hn1:n≤35184372088831:=by omega
 have HN:=ac hn
 clear hn
 go_enter Tryz.func186,Tryz.ntmps186
 go_wp2_with (at_make;(rw [←HW1.out];refine wpList_make_full _ rfl _ _ 26 rfl w1.heap.size 34 i0 (.int .u64 0) 1 Tryz.underlying26 hi hz0 hz1 .i64 .i64 _ _ n rfl rfl (by omega) (by omega) (by rw [hz2];omega) (by unfold maxLen;omega) (Nat.le_refl _) ?_;intro w3 hown hgrow;have hm3:=Blk.made hown;have hbel3:Below w1.heap.size w1 w3:=(Below.refl _ _).grown hgrow (Nat.le_refl _) (fun k hk=>by cases hk);have hbx3:w3.heap[w.heap.size]?=some (.cells #[.int .i64 H,.int .i64 T] 169):=(hbel3.block w.heap.size (by omega)).trans HX1.out;have hc0:w3.cell? ⟨w.heap.size,0,none⟩=some (.int .i64 H):=(by simp [World.cell?,hbx3]);have hc1:w3.cell? ⟨w.heap.size,1,none⟩=some (.int .i64 T):=(by simp [World.cell?,hbx3]);clear hown hgrow hbx3))
 rw [hs1] at hm3
 have B3:Hid (Below w.heap.size w w3):=ac (B1.out.trans (hbel3.mono B1.out.size))
 obtain⟨g,hg⟩:∃g,g=w.heap.size+1:=⟨_,rfl⟩
 rw [←hg] at hm3 ⊢
 have HI:=hI g 0 n (List.replicate n 0) _ _ w3 hm3 (limbs_replicate _) (hA.below B3.out) (hA2.below B3.out) (aT.far hA hX (by omega)) (aT.far hA2 hY (by omega)) (by simp;have:=HN.out;omega) (by have:=HN.out;omega) (by omega)
 rw [HN.out] at HI
 unfold way at HI
 have HG:=ac hg
 clear hg hm3 hbel3 hA hA2 hI
 go_wp2_with fail
 refine HI.mono ?_
 rintro e w5 ⟨rfl,Z',hO5,hl5,hB5,hF5,hv5⟩
 have hlen:Z'.length=n:=by rw [hO5.len];simp
 have hv:val Z'=val X*val Y:=by rw [←hv5,←hlen,aY]
 have HD:Hid (w.heap.size≤g∧Z'.length=n∧Limbs Z'∧Blk w5 g Z'∧val Z'=val X*val Y∧Below w.heap.size w w5):=ac ⟨by have:=HG.out;omega,hlen,hl5,hB5,hv,B3.out.trans (hF5.below (by have:=HG.out;omega) B3.out.size)⟩
 clear hO5 hl5 hB5 hF5 hv5 hv hlen HI B3
 go_wp2
 go_ret
 exact⟨g,Z',rfl,HD.out⟩

theorem jI (a0 a1 b0 b1 da db:Nat)(ha:da=if a0<a1 then a1 - a0 else a0 - a1)(hb:db=if b0<b1 then b1 - b0 else b0 - b1) :
  (if decide (a0<a1)≠decide (b0<b1) then a0*b0+a1*b1+da*db else a0*b0+a1*b1 - da*db)=a0*b1+a1*b0:=by
 subst ha;subst hb
 by_cases h1:a0<a1 <;> by_cases h2:b0<b1
 ·obtain⟨p,rfl⟩:∃p,a1=a0+p:=⟨a1 - a0,by omega⟩
  obtain⟨q,rfl⟩:∃q,b1=b0+q:=⟨b1 - b0,by omega⟩
  simp only [h1,h2,decide_true,if_true,ne_eq,not_true_eq_false,if_false,Nat.add_sub_cancel_left]
  have:a0*b0+(a0+p)*(b0+q)=a0*(b0+q)+(a0+p)*b0+p*q:=by grind
  omega
 ·obtain⟨p,rfl⟩:∃p,a1=a0+p:=⟨a1 - a0,by omega⟩
  obtain⟨q,rfl⟩:∃q,b0=b1+q:=⟨b0 - b1,by omega⟩
  simp only [h1,h2,decide_true,decide_false,if_true,if_false,ne_eq,Bool.true_eq_false,not_false_eq_true,Nat.add_sub_cancel_left]
  grind
 ·obtain⟨p,rfl⟩:∃p,a0=a1+p:=⟨a0 - a1,by omega⟩
  obtain⟨q,rfl⟩:∃q,b1=b0+q:=⟨b1 - b0,by omega⟩
  simp only [h1,h2,decide_true,decide_false,if_true,if_false,ne_eq,Bool.false_eq_true,not_false_eq_true,Nat.add_sub_cancel_left]
  grind
 ·obtain⟨p,rfl⟩:∃p,a0=a1+p:=⟨a0 - a1,by omega⟩
  obtain⟨q,rfl⟩:∃q,b0=b1+q:=⟨b0 - b1,by omega⟩
  simp only [h1,h2,decide_false,if_false,ne_eq,not_true_eq_false,Nat.add_sub_cancel_left]
  have:(a1+p)*(b1+q)+a1*b1=(a1+p)*b1+a1*(b1+q)+p*q:=by grind
  omega

theorem Arg.drew {w:World}{v:Value}{zs:List Nat}(h:Arg w v zs):Arg w.drew v zs:=h.below (Below.refl _ _).drew

theorem Arg.front {w:World}{b off n cap:Nat}{X:List Nat}(h:Arg w (.slice (some ⟨b,off,none⟩) n cap) X)(m:Nat)(hm:m≤n):Arg w (.slice (some ⟨b,off,none⟩) m cap) (X.take m):=h.cut 0 m (by omega)

theorem aX (X:List Nat)(h:Nat)(hh:h≤X.length):val X=val (X.take h)+18446744073709551616 ^ h*val (X.drop h):=by
 conv=>lhs;rw [←List.take_append_drop h X,val_append]
 rw [List.length_take,Nat.min_eq_left hh]

theorem bh {X:List Nat}(hX:Limbs X)(h:Nat)(hh:h≤X.length):val (X.take h)<18446744073709551616 ^ h:=by
 have:=val_lt (zs:=X.take h) (fun z hz=>hX z (List.mem_of_mem_take hz))
 rwa [List.length_take,Nat.min_eq_left hh] at this

theorem bT {X:List Nat}(hX:Limbs X)(h m:Nat)(hh:X.length≤h+m):val (X.drop h)<18446744073709551616 ^ m:=by
 have h1:=val_lt (zs:=X.drop h) (fun z hz=>hX z (List.mem_of_mem_drop hz))
 refine Nat.lt_of_lt_of_le h1 (Nat.pow_le_pow_right (by omega) ?_)
 simp;omega

theorem Fr.undrew {bz:Nat}{w w':World}(h:Fr bz w.drew w'):Fr bz w w':=⟨h.os,h.tape,h.output,h.size,h.block⟩

theorem Arg.frb {w w':World}{b off n c bz:Nat}{X:List Nat}(h:Arg w (.slice (some ⟨b,off,none⟩) n c) X)(hf:Fr bz w w')(hb:b≠bz):Arg w' (.slice (some ⟨b,off,none⟩) n c) X:=by
 obtain⟨ao,cc,e,h2,h3,hl⟩:=h.form
 cases e
 refine⟨⟨_,_,rfl,h2,h3,?_⟩,h.limbs,h.few,h.nz⟩
 rcases hl with h0|⟨b',off',e,hc⟩
 ·exact .inl h0
 ·cases e
  rcases Nat.eq_zero_or_pos X.length with h0|h0
  ·exact .inl (List.length_eq_zero_iff.1 h0)
  ·have hlt:b<w.heap.size:=ay.block (zs:=X) (.inr ⟨b,off,rfl,hc⟩) h0
   refine .inr ⟨b,off,rfl,fun k hk=>?_⟩
   rw [World.cell?_of_block (w:=w) (hf.block b hlt hb)]
   exact hc k hk

theorem Blk.seg_arg {w:World}{g:Nat}{M:List Nat}(h:Blk w g M)(hl:Limbs M)(o n cap:Nat)(hs:o+n≤M.length)(hc:n≤cap)(hm:cap≤9223372036854775807)(hn:n≤1125899906842624):Arg w (.slice (some ⟨g,o,none⟩) n cap) (seg M o n):=by
 have e:=aN M o n hs
 refine⟨⟨_,cap,by rw [e],by omega,hm,.inr ⟨g,o,rfl,fun k hk=>?_⟩⟩,bX hl o n,by omega,fun n c e=>by cases e⟩
 rw [e] at hk
 rw [h.cell (o+k) (by omega),b8 _ _ _ _ hk]
end Go.Proofs.YtemgogeokkeipaaGreatDoor

