/- Boxes: a cell put anew. -/
import Derived.Test.YtdbjbbdhlpfhjaaGreatDoorB01
import Derived.Handy
import Derived.Deep.QuietTactic
import Derived.BigQuiet
import Derived.Test.YtdbjbbdhlpfhjaaGreatDoorB02
import Derived.Laws.IdiomCopy
import Derived.Deep.RegionHeld3
set_option maxHeartbeats 1000000
namespace Go.Proofs.YtdbjbbdhlpfhjaaGreatDoor
open Go.RowKit
open Lm

theorem jl {B:Nat}{a w:World}(h:Below B a w)(n:Nat):Below B a (w.drewN n):=⟨h.os,h.tape,h.output,h.size,h.block⟩

theorem aY {w:World}{h k:Nat}{cs:Array Value}{t:TypeId}(e:w.heap[h]?=some (.cells cs t))(u:Value):(w.setCell ⟨h,k,none⟩ u).heap[h]?=some (.cells (cs.setIfInBounds k u) t):=by
 have hlt:=lt_of_block e
 have h':w.heap[h]=.cells cs t:=by simpa [Array.getElem?_eq_getElem hlt] using e
 show (w.heap.modify h _)[h]?=_
 rw [Array.getElem?_eq_getElem (by simpa using hlt),Array.getElem_modify_self,h']
 rfl

theorem aQ (X:List Nat)(n:Nat)(h:val X<18446744073709551616 ^ n):(tr X).length≤n:=by
 refine Nat.le_of_not_lt fun hlt=>?_
 obtain⟨m,hm⟩:∃m,(tr X).length=m+1:=⟨(tr X).length - 1,by omega⟩
 have h1:=tr_val_ge X m hm
 rw [val_tr] at h1
 have h2:(18446744073709551616:Nat) ^ n≤18446744073709551616 ^ m:=Nat.pow_le_pow_right (by omega) (by omega)
 omega

theorem dL {rs:List Nat}{x n:Nat}(ht:tr rs=rs)(hv:val rs=x)(hb:blen x≤n*64):rs.length≤n:=by
 rw [←ht]
 refine aQ rs n ?_
 rw [hv,W_pow]
 exact (blen_le_iff x _).1 hb
end Go.Proofs.YtdbjbbdhlpfhjaaGreatDoor
namespace Go.Proofs.YtdbjbbdhlpfhjaaGreatDoor
open Go.RowKit
open Lm
attribute [local go_sem ↓] Go.wp_at_zero Go.wp_at_succ

theorem dv (Z Z':List Nat)(o k cy c2 s v V:Nat)(hz:o+k<Z'.length)(hl:Z'.length=Z.length)
  (h:sv Z' o k+cy*18446744073709551616 ^ k=sv Z o k+V) (hs:s+c2*18446744073709551616=Z.getD (o+k) 0+v+cy) :
  sv (Z'.set (o+k) s) o (k+1)+c2*18446744073709551616 ^ (k+1)=sv Z o (k+1)+(V+18446744073709551616 ^ k*v):=by
 rw [dm _ _ _ _ hz,dU Z o k (by omega),show (18446744073709551616:Nat) ^ (k+1)=18446744073709551616 ^ k*18446744073709551616 from Nat.pow_succ ..]
 generalize sv Z' o k=A at *
 generalize sv Z o k=B at *
 generalize Z.getD (o+k) 0=z at *
 generalize (18446744073709551616:Nat) ^ k=P at *
 generalize (18446744073709551616:Nat)=W at *
 grind

theorem fq (Z Z':List Nat)(o k n V:Nat)(hk:k≤n)(hn:o+n≤Z.length)(ho:Out Z Z' o (o+k))(h:sv Z' o k=sv Z o k+V):sv Z' o n=sv Z o n+V:=by
 obtain⟨d,rfl⟩:∃d,n=k+d:=⟨n - k,by omega⟩
 rw [aF Z' o k d (by rw [ho.len];omega),aF Z o k d (by omega),h,ho.sv (o+k) d (by omega)]
 omega

theorem ix (Z Z':List Nat)(o n cy V:Nat)(hZ:sv Z o n+V<18446744073709551616 ^ n)(h:sv Z' o n+cy*18446744073709551616 ^ n=sv Z o n+V):cy=0:=by
 rcases Nat.eq_zero_or_pos cy with h0|h0
 ·exact h0
 ·have:=Nat.mul_le_mul_right (18446744073709551616 ^ n) h0
  omega

theorem dV (z v cy:Nat)(hz:z<18446744073709551616)(hv:v<18446744073709551616)(hc:cy≤1) :
  (z+v+cy) % 18446744073709551616+(z+v+cy) / 18446744073709551616*18446744073709551616=z+v+cy∧(z+v+cy) / 18446744073709551616≤1∧(z+v+cy) % 18446744073709551616<18446744073709551616:=by
 omega

theorem dc (bz zo n cap:Nat)(Z:List Nat)(va:Value)(X:List Nat)(w:World)(hB:Blk w bz Z)(hLZ:Limbs Z)(hA:Arg w va X)(ho:Off va bz zo (zo+n))
  (hzo:zo+n≤Z.length) (hc1:n≤cap) (hc2:cap≤9223372036854775807) (hfit:sv Z zo n+val X<18446744073709551616 ^ n) :
  Calls Tryz.prog 215 #[.slice (some ⟨bz,zo,none⟩) n cap,va] w (aK bz zo n Z w (sv Z zo n+val X)):=by
 obtain⟨a1,c1,rfl,hcc1,hcm1,hl1⟩:=hA.form
 have hX:=hA.few
 have H1:=cz a1 c1 X w hcc1 hcm1 hl1
 have M1:=limbs_tr hA.limbs
 have hle:=tr_length_le X
 have hln:=aQ X n (by omega)
 have hao:∀b off,a1=some ⟨b,off,none⟩→b≠bz∨off+(tr X).length≤zo∨zo+n≤off:=fun b off e=>by
  subst e
  rcases ho b off _ _ rfl with h|h|h
  ·exact .inl h
  ·exact .inr (.inl (by omega))
  ·exact .inr (.inr h)
 have L1:=hl1.tr
 rw [←val_tr X] at hfit ⊢
 clear ho hA hl1
 generalize tr X=P at *
 have HFIT:=ac hfit
 have HB0:=ac hB
 have HLZ:=ac hLZ
 clear hfit
 go_enter Tryz.func215,Tryz.ntmps215
 go_wp2_with fail
 refine H1.mono ?_
 rintro e w' ⟨rfl,hw⟩;subst hw
 clear H1
 go_wp2
 go_loopw [4,12] (fun c i wr=>∃(k cy:Nat) (Z':List Nat),k≤P.length∧i=.int .i64 k∧c=.int .u64 cy∧cy≤1∧Out Z Z' zo (zo+k)∧Limbs Z'∧Blk wr bz Z'∧Fr bz w' wr ∧
   sv Z' zo k+cy*18446744073709551616 ^ k=sv Z zo k+val (P.take k)) (fun _ i _=>P.length - (intOf i).toNat)
 case atStart=>exact⟨0,0,Z,Nat.zero_le _,rfl,rfl,by omega,Out.refl _ _ _,HLZ.out,HB0.out,Fr.refl _ _,by simp [aW,val]⟩
 case round=>
  obtain⟨k,cy,Z',hk,rfl,rfl,hcy,hout,hlz,hblk,hfr0,hval⟩:=hrel
  have HV:=ac hval
  have HB:=ac hblk
  have HF:=ac hfr0
  have HO:=ac hout
  have hl:=hout.len
  clear hval
  by_cases hkl:k<P.length
  ·rcases L1.fr hao hfr0 hB hblk (hout.wider (Nat.le_refl _) (by omega)) with h0|⟨b,off,rfl,hcell⟩
   ·rw [h0] at hkl;simp at hkl
   ·have hck:=hcell k hkl
    have hfr:=hblk.free (zo+k)
    have hco:=hblk.cell (zo+k) (by omega)
    have z1:=limb_lt M1 k
    have z2:=limb_lt hlz (zo+k)
    have hsame:=hout.same (zo+k) (by omega)
    have ha:=dN (Z'.getD (zo+k) 0) (P.getD k 0) cy hcy
    obtain⟨q1,q2,q3⟩:=dV (Z'.getD (zo+k) 0) (P.getD k 0) cy z2 z1 hcy
    have HS:=ac (dv Z Z' zo k cy _ _ (P.getD k 0) _ (by omega) hl HV.out (by rw [←hsame];exact q1))
    rw [←val_take_next P k] at HS
    generalize Z'.getD (zo+k) 0=z at *
    generalize P.getD k 0=x at *
    clear hsame q1
    generalize (z+x+cy) % 18446744073709551616=s at *
    generalize (z+x+cy) / 18446744073709551616=c2 at *
    clear hcell hblk hfr0 hout HV M1 L1 hB hLZ
    go_wp2
    go_roundw
    case rel=>exact⟨k+1,c2,Z'.set (zo+k) s,by omega,by go_num,rfl,q2,(HO.out.wider (Nat.le_refl _) (by omega)).set _ _ (by omega) (by omega),limbs_set hlz _ _ q3,HB.out.set _ s,HF.out.setCell _ _,HS.out⟩
    case measure=>simp [intOf];omega
  ·have ek:k=P.length:=by omega
   subst ek
   rw [List.take_length] at HV
   clear hblk hfr0 hout L1 hB M1 hLZ hl
   go_wp2
   go_loopw [4,7] (fun c i wr2=>∃(k cy:Nat) (Z2:List Nat),k≤n∧i=.int .i64 k∧c=.int .u64 cy∧cy≤1∧Out Z Z2 zo (zo+k)∧Limbs Z2∧Blk wr2 bz Z2∧Fr bz w' wr2 ∧
     sv Z2 zo k+cy*18446744073709551616 ^ k=sv Z zo k+val P) (fun _ i _=>n - (intOf i).toNat)
   case atStart=>exact⟨P.length,cy,Z',hln,rfl,rfl,hcy,HO.out,hlz,HB.out,HF.out,HV.out⟩
   case round=>
    obtain⟨k,cy2,Z2,hk2,rfl,rfl,hcy2,hout2,hlz2,hblk2,hfr2,hval2⟩:=hrel
    clear HV HB HF HO
    have HV:=ac hval2
    have HB:=ac hblk2
    have HF:=ac hfr2
    have HO:=ac hout2
    have hl:=hout2.len
    clear hval2
    by_cases hc0:cy2=0
    ·subst hc0
     have HR:=ac (fq Z Z2 zo k n _ hk2 hzo hout2 (by have h:=HV.out;rw [Nat.zero_mul,Nat.add_zero] at h;exact h))
     clear hblk2 hfr2 hout2 HV
     go_wp2
     go_end0
     exact⟨rfl,Z2,HO.out.wider (Nat.le_refl _) (by omega),hlz2,HB.out,HF.out,HR.out⟩
    ·have hpos:(0:Int)<(cy2:Int):=by omega
     have hkn:k<n:=by
      rcases Nat.lt_or_ge k n with h|h
      ·exact h
      ·have ek:k=n:=by omega
       subst ek
       exact absurd (ix Z Z2 zo k cy2 (val P) HFIT.out HV.out) hc0
     have hfr:=hblk2.free (zo+k)
     have hco:=hblk2.cell (zo+k) (by omega)
     have z2:=limb_lt hlz2 (zo+k)
     have hsame:=hout2.same (zo+k) (by omega)
     have ha:=bO (Z2.getD (zo+k) 0) cy2
     obtain⟨q1,q2,q3⟩:=dV (Z2.getD (zo+k) 0) 0 cy2 z2 (by omega) hcy2
     have HS:=ac (dv Z Z2 zo k cy2 _ _ 0 _ (by omega) hl HV.out (by rw [←hsame];exact q1))
     rw [Nat.mul_zero,Nat.add_zero] at HS
     rw [Nat.add_zero] at HS q2 q3
     generalize Z2.getD (zo+k) 0=z at *
     clear hsame q1
     generalize (z+cy2) % 18446744073709551616=s at *
     generalize (z+cy2) / 18446744073709551616=c2 at *
     clear hblk2 hfr2 hout2 HV hc0
     go_wp2
     go_roundw
     case rel=>exact⟨k+1,c2,Z2.set (zo+k) s,by omega,by go_num,rfl,q2,(HO.out.wider (Nat.le_refl _) (by omega)).set _ _ (by omega) (by omega),limbs_set hlz2 _ _ q3,HB.out.set _ s,HF.out.setCell _ _,HS.out⟩
     case measure=>simp [intOf];omega

theorem dT (x y b:Nat)(hb:b≤1)(w:World) :
  (callFunc 127 #[.int .u64 x,.int .u64 y,.int .u64 b]).run Tryz.prog w =
   .ok (.value (.tuple #[.int .u64 (((x+18446744073709551616 - y - b) % 18446744073709551616:Nat):Int),.int .u64 ((bor x y b:Nat):Int)])) w:=by
 rw [run_callFunc_extern Tryz.func127 (by kernel_rfl) (by kernel_rfl) (by kernel_rfl) (e:=sub64Entry) (by kernel_rfl),run_sub64 x y b hb]
 rfl

theorem ib (x b:Nat)(hb:b≤1)(w:World) :
  (callFunc 127 #[.int .u64 x,.int .u64 b,.int .u64 0]).run Tryz.prog w =
   .ok (.value (.tuple #[.int .u64 (((x+18446744073709551616 - 0 - b) % 18446744073709551616:Nat):Int),.int .u64 ((bor x 0 b:Nat):Int)])) w:=by
 have h:=dT x b 0 (by omega) w
 rw [show bor x b 0=bor x 0 b by unfold bor;simp,show x+18446744073709551616 - b - 0=x+18446744073709551616 - 0 - b by omega] at h
 exact h

theorem df (z v cy:Nat)(hz:z<18446744073709551616)(hv:v<18446744073709551616)(hc:cy≤1) :
  (z+18446744073709551616 - v - cy) % 18446744073709551616+v+cy=z+bor z v cy*18446744073709551616∧bor z v cy≤1∧(z+18446744073709551616 - v - cy) % 18446744073709551616<18446744073709551616:=by
 unfold bor
 split <;> omega

theorem cZ (Z Z':List Nat)(o k cy c2 s v V:Nat)(hz:o+k<Z'.length)(hl:Z'.length=Z.length)
  (h:sv Z' o k+V=sv Z o k+cy*18446744073709551616 ^ k) (hs:s+v+cy=Z.getD (o+k) 0+c2*18446744073709551616) :
  sv (Z'.set (o+k) s) o (k+1)+(V+18446744073709551616 ^ k*v)=sv Z o (k+1)+c2*18446744073709551616 ^ (k+1):=by
 rw [dm _ _ _ _ hz,dU Z o k (by omega),show (18446744073709551616:Nat) ^ (k+1)=18446744073709551616 ^ k*18446744073709551616 from Nat.pow_succ ..]
 generalize sv Z' o k=A at *
 generalize sv Z o k=B at *
 generalize Z.getD (o+k) 0=z at *
 generalize (18446744073709551616:Nat) ^ k=P at *
 generalize (18446744073709551616:Nat)=W at *
 grind

theorem ip (Z Z':List Nat)(o k n V:Nat)(hk:k≤n)(hn:o+n≤Z.length)(ho:Out Z Z' o (o+k))(h:sv Z' o k+V=sv Z o k):sv Z' o n=sv Z o n - V:=by
 obtain⟨d,rfl⟩:∃d,n=k+d:=⟨n - k,by omega⟩
 rw [aF Z' o k d (by rw [ho.len];omega),aF Z o k d (by omega),←h,ho.sv (o+k) d (by omega)]
 omega

theorem gZ (Z Z':List Nat)(o n cy V:Nat)(hl:Limbs Z')(hZ:V≤sv Z o n)(h:sv Z' o n+V=sv Z o n+cy*18446744073709551616 ^ n):cy=0:=by
 rcases Nat.eq_zero_or_pos cy with h0|h0
 ·exact h0
 ·have:=Nat.mul_le_mul_right (18446744073709551616 ^ n) h0
  have:=cm hl o n
  omega

theorem fR (bz zo n cap:Nat)(Z:List Nat)(va:Value)(X:List Nat)(w:World)(hB:Blk w bz Z)(hLZ:Limbs Z)(hA:Arg w va X)(ho:Off va bz zo (zo+n))
  (hzo:zo+n≤Z.length) (hc1:n≤cap) (hc2:cap≤9223372036854775807) (hfit:val X≤sv Z zo n) :
  Calls Tryz.prog 217 #[.slice (some ⟨bz,zo,none⟩) n cap,va] w (aK bz zo n Z w (sv Z zo n - val X)):=by
 obtain⟨a1,c1,rfl,hcc1,hcm1,hl1⟩:=hA.form
 have hX:=hA.few
 have H1:=cz a1 c1 X w hcc1 hcm1 hl1
 have M1:=limbs_tr hA.limbs
 have hle:=tr_length_le X
 have hln:=aQ X n (Nat.lt_of_le_of_lt hfit (cm hLZ zo n))
 have hao:∀b off,a1=some ⟨b,off,none⟩→b≠bz∨off+(tr X).length≤zo∨zo+n≤off:=fun b off e=>by
  subst e
  rcases ho b off _ _ rfl with h|h|h
  ·exact .inl h
  ·exact .inr (.inl (by omega))
  ·exact .inr (.inr h)
 have L1:=hl1.tr
 rw [←val_tr X] at hfit ⊢
 clear ho hA hl1
 generalize tr X=P at *
 have HFIT:=ac hfit
 have HB0:=ac hB
 have HLZ:=ac hLZ
 clear hfit
 go_enter Tryz.func217,Tryz.ntmps217
 go_wp2_with fail
 refine H1.mono ?_
 rintro e w' ⟨rfl,hw⟩;subst hw
 clear H1
 go_wp2
 go_loopw [4,12] (fun c i wr=>∃(k cy:Nat) (Z':List Nat),k≤P.length∧i=.int .i64 k∧c=.int .u64 cy∧cy≤1∧Out Z Z' zo (zo+k)∧Limbs Z'∧Blk wr bz Z'∧Fr bz w' wr ∧
   sv Z' zo k+val (P.take k)=sv Z zo k+cy*18446744073709551616 ^ k) (fun _ i _=>P.length - (intOf i).toNat)
 case atStart=>exact⟨0,0,Z,Nat.zero_le _,rfl,rfl,by omega,Out.refl _ _ _,HLZ.out,HB0.out,Fr.refl _ _,by simp [aW,val]⟩
 case round=>
  obtain⟨k,cy,Z',hk,rfl,rfl,hcy,hout,hlz,hblk,hfr0,hval⟩:=hrel
  have HV:=ac hval
  have HB:=ac hblk
  have HF:=ac hfr0
  have HO:=ac hout
  have hl:=hout.len
  clear hval
  by_cases hkl:k<P.length
  ·rcases L1.fr hao hfr0 hB hblk (hout.wider (Nat.le_refl _) (by omega)) with h0|⟨b,off,rfl,hcell⟩
   ·rw [h0] at hkl;simp at hkl
   ·have hck:=hcell k hkl
    have hfr:=hblk.free (zo+k)
    have hco:=hblk.cell (zo+k) (by omega)
    have z1:=limb_lt M1 k
    have z2:=limb_lt hlz (zo+k)
    have hsame:=hout.same (zo+k) (by omega)
    have ha:=dT (Z'.getD (zo+k) 0) (P.getD k 0) cy hcy
    obtain⟨q1,q2,q3⟩:=df (Z'.getD (zo+k) 0) (P.getD k 0) cy z2 z1 hcy
    have HS:=ac (cZ Z Z' zo k cy _ _ (P.getD k 0) _ (by omega) hl HV.out (by rw [←hsame];exact q1))
    rw [←val_take_next P k] at HS
    generalize Z'.getD (zo+k) 0=z at *
    generalize P.getD k 0=x at *
    clear hsame q1
    generalize (z+18446744073709551616 - x - cy) % 18446744073709551616=s at *
    generalize bor z x cy=c2 at *
    clear hcell hblk hfr0 hout HV M1 L1 hB hLZ
    go_wp2
    go_roundw
    case rel=>exact⟨k+1,c2,Z'.set (zo+k) s,by omega,by go_num,rfl,q2,(HO.out.wider (Nat.le_refl _) (by omega)).set _ _ (by omega) (by omega),limbs_set hlz _ _ q3,HB.out.set _ s,HF.out.setCell _ _,HS.out⟩
    case measure=>simp [intOf];omega
  ·have ek:k=P.length:=by omega
   subst ek
   rw [List.take_length] at HV
   clear hblk hfr0 hout L1 hB M1 hLZ hl
   go_wp2
   go_loopw [4,7] (fun c i wr2=>∃(k cy:Nat) (Z2:List Nat),k≤n∧i=.int .i64 k∧c=.int .u64 cy∧cy≤1∧Out Z Z2 zo (zo+k)∧Limbs Z2∧Blk wr2 bz Z2∧Fr bz w' wr2 ∧
     sv Z2 zo k+val P=sv Z zo k+cy*18446744073709551616 ^ k) (fun _ i _=>n - (intOf i).toNat)
   case atStart=>exact⟨P.length,cy,Z',hln,rfl,rfl,hcy,HO.out,hlz,HB.out,HF.out,HV.out⟩
   case round=>
    obtain⟨k,cy2,Z2,hk2,rfl,rfl,hcy2,hout2,hlz2,hblk2,hfr2,hval2⟩:=hrel
    clear HV HB HF HO
    have HV:=ac hval2
    have HB:=ac hblk2
    have HF:=ac hfr2
    have HO:=ac hout2
    have hl:=hout2.len
    clear hval2
    by_cases hc0:cy2=0
    ·subst hc0
     have HR:=ac (ip Z Z2 zo k n _ hk2 hzo hout2 (by have h:=HV.out;rw [Nat.zero_mul,Nat.add_zero] at h;exact h))
     clear hblk2 hfr2 hout2 HV
     go_wp2
     go_end0
     exact⟨rfl,Z2,HO.out.wider (Nat.le_refl _) (by omega),hlz2,HB.out,HF.out,HR.out⟩
    ·have hpos:(0:Int)<(cy2:Int):=by omega
     have hkn:k<n:=by
      rcases Nat.lt_or_ge k n with h|h
      ·exact h
      ·have ek:k=n:=by omega
       subst ek
       exact absurd (gZ Z Z2 zo k cy2 (val P) hlz2 HFIT.out HV.out) hc0
     have hfr:=hblk2.free (zo+k)
     have hco:=hblk2.cell (zo+k) (by omega)
     have z2:=limb_lt hlz2 (zo+k)
     have hsame:=hout2.same (zo+k) (by omega)
     have ha:=ib (Z2.getD (zo+k) 0) cy2 hcy2
     obtain⟨q1,q2,q3⟩:=df (Z2.getD (zo+k) 0) 0 cy2 z2 (by omega) hcy2
     have HS:=ac (cZ Z Z2 zo k cy2 _ _ 0 _ (by omega) hl HV.out (by rw [←hsame];exact q1))
     rw [Nat.mul_zero,Nat.add_zero] at HS
     generalize Z2.getD (zo+k) 0=z at *
     clear hsame q1
     generalize (z+18446744073709551616 - 0 - cy2) % 18446744073709551616=s at *
     generalize bor z 0 cy2=c2 at *
     clear hblk2 hfr2 hout2 HV hc0
     go_wp2
     go_roundw
     case rel=>exact⟨k+1,c2,Z2.set (zo+k) s,by omega,by go_num,rfl,q2,(HO.out.wider (Nat.le_refl _) (by omega)).set _ _ (by omega) (by omega),limbs_set hlz2 _ _ q3,HB.out.set _ s,HF.out.setCell _ _,HS.out⟩
     case measure=>simp [intOf];omega
end Go.Proofs.YtdbjbbdhlpfhjaaGreatDoor
namespace Go.Proofs.YtdbjbbdhlpfhjaaGreatDoor
open Go.RowKit
open Lm

theorem nW (b off cap:Nat)(zs:List Nat)(w:World)(hcap:zs.length≤cap)(hmax:cap≤9223372036854775807)
  (hc:∀k,k<zs.length→w.cell? ⟨b,off+k,none⟩=some (.int .u64 ((zs.getD k 0:Nat):Int))) :
  Calls Tryz.prog 108 #[.slice (some ⟨b,off,none⟩) zs.length cap] w fun e w'=>e=.returned (.slice (some ⟨b,off,none⟩) (tr zs).length cap)∧w'=w:=by
 go_enter Tryz.func108,Tryz.ntmps108
 go_wp2
 go_loop [3] (fun n=>∃k:Nat,k≤zs.length∧n=.int .i64 k∧tr (zs.take k)=tr zs) (fun n=>(intOf n).toNat)
 case atStart=>exact⟨zs.length,Nat.le_refl _,rfl,by rw [List.take_length]⟩
 case round=>
  obtain⟨k,hk,rfl,ht⟩:=hrel
  have HT:Hid (tr (zs.take k)=tr zs):=ht
  clear ht
  by_cases h0:k=0
  ·subst h0
   go_wp2
   go_ret
   have e:=HT.out
   simp only [List.take_zero,tr] at e
   rw [←e]
   exact⟨rfl,rfl⟩
  ·obtain⟨j,rfl⟩:∃j,k=j+1:=⟨k - 1,by omega⟩
   have hcj:=hc j (by omega)
   clear hc
   by_cases hz:zs.getD j 0=0
   ·have HZ:Hid (tr (zs.take j)=tr zs):=by rw [←tr_step zs j (by omega) hz];exact HT.out
    rw [hz] at hcj
    clear hz HT
    go_wp2
    go_round
    case rel=>exact⟨j,by omega,by go_num,HZ.out⟩
    case measure=>simp [intOf]
   ·have HZ:Hid (tr zs=zs.take (j+1)):=by rw [←HT.out];exact tr_stop zs j (by omega) hz
    clear HT
    generalize zs.getD j 0=z at hcj hz
    have hne:((z:Int) == 0)=false:=by rw [beq_eq_false_iff_ne];omega
    clear hz
    go_wp2
    go_ret
    rw [HZ.out]
    have e:(zs.take (j+1)).length=j+1:=by simp;omega
    rw [e]
    exact⟨rfl,rfl⟩

theorem lO (ao:Option Addr)(cap:Nat)(w:World)(_hmax:cap≤9223372036854775807) :
  Calls Tryz.prog 108 #[.slice ao 0 cap] w fun e w'=>e=.returned (.slice ao 0 cap)∧w'=w:=by
 go_enter Tryz.func108,Tryz.ntmps108
 go_wp2
 refine wp_loop_rounds 1 ?_
 rw [rounds_succ]
 go_wp2
 go_ret
 exact⟨rfl,rfl⟩

theorem cQ (ao:Option Addr)(cap:Nat)(zs:List Nat)(w:World)(hcap:zs.length≤cap)(hmax:cap≤9223372036854775807)(hl:aG w ao zs) :
  Calls Tryz.prog 108 #[.slice ao zs.length cap] w fun e w'=>e=.returned (.slice ao (tr zs).length cap)∧w'=w:=by
 rcases hl with rfl|⟨b,off,rfl,hc⟩
 ·exact lO ao cap w hmax
 ·exact nW b off cap zs w hcap hmax hc

def gF (bz zo n:Nat)(Z:List Nat)(w:World)(p:Nat)(e:Ending)(w':World):Prop:=
 ∃(cy:Nat) (Z':List Nat),cy≤1∧e=.returned (.int .u64 (cy:Int))∧Out Z Z' zo (zo+n)∧Limbs Z'∧Blk w' bz Z'∧Fr bz w w'∧sv Z' zo n+cy*18446744073709551616 ^ n=p

theorem fe (bz zo n cap:Nat)(Z:List Nat)(va:Value)(X:List Nat)(w:World)(hB:Blk w bz Z)(hLZ:Limbs Z)(hA:Arg w va X)(ho:Off va bz zo (zo+n))
  (hzo:zo+n≤Z.length) (hc1:n≤cap) (hc2:cap≤9223372036854775807) (hfit:X.length≤n) :
  Calls Tryz.prog 208 #[.slice (some ⟨bz,zo,none⟩) n cap,va] w (gF bz zo n Z w (sv Z zo n+val X)):=by
 obtain⟨a1,c1,rfl,hcc1,hcm1,hl1⟩:=hA.form
 have hX:=hA.few
 have M1:=hA.limbs
 have hao:∀b off,a1=some ⟨b,off,none⟩→b≠bz∨off+X.length≤zo∨zo+n≤off:=fun b off e=>by
  subst e
  exact ho b off _ _ rfl
 have L1:=hl1
 clear ho hA hl1
 generalize X=P at *
 have HB0:=ac hB
 have HLZ:=ac hLZ
 go_enter Tryz.func208,Tryz.ntmps208
 go_wp2
 go_loopw [5,11] (fun c i wr=>∃(k cy:Nat) (Z':List Nat),k≤P.length∧i=.int .i64 k∧c=.int .u64 cy∧cy≤1∧Out Z Z' zo (zo+k)∧Limbs Z'∧Blk wr bz Z'∧Fr bz w wr ∧
   sv Z' zo k+cy*18446744073709551616 ^ k=sv Z zo k+val (P.take k)) (fun _ i _=>P.length - (intOf i).toNat)
 case atStart=>exact⟨0,0,Z,Nat.zero_le _,rfl,rfl,by omega,Out.refl _ _ _,HLZ.out,HB0.out,Fr.refl _ _,by simp [aW,val]⟩
 case round=>
  obtain⟨k,cy,Z',hk,rfl,rfl,hcy,hout,hlz,hblk,hfr0,hval⟩:=hrel
  have HV:=ac hval
  have HB:=ac hblk
  have HF:=ac hfr0
  have HO:=ac hout
  have hl:=hout.len
  clear hval
  by_cases hkl:k<P.length
  ·rcases L1.fr hao hfr0 hB hblk (hout.wider (Nat.le_refl _) (by omega)) with h0|⟨b,off,rfl,hcell⟩
   ·rw [h0] at hkl;simp at hkl
   ·have hck:=hcell k hkl
    have hfr:=hblk.free (zo+k)
    have hco:=hblk.cell (zo+k) (by omega)
    have z1:=limb_lt M1 k
    have z2:=limb_lt hlz (zo+k)
    have hsame:=hout.same (zo+k) (by omega)
    have ha:=dN (Z'.getD (zo+k) 0) (P.getD k 0) cy hcy
    obtain⟨q1,q2,q3⟩:=dV (Z'.getD (zo+k) 0) (P.getD k 0) cy z2 z1 hcy
    have HS:=ac (dv Z Z' zo k cy _ _ (P.getD k 0) _ (by omega) hl HV.out (by rw [←hsame];exact q1))
    rw [←val_take_next P k] at HS
    generalize Z'.getD (zo+k) 0=z at *
    generalize P.getD k 0=x at *
    clear hsame q1
    generalize (z+x+cy) % 18446744073709551616=s at *
    generalize (z+x+cy) / 18446744073709551616=c2 at *
    clear hcell hblk hfr0 hout HV M1 L1 hB hLZ
    go_wp2
    go_roundw
    case rel=>exact⟨k+1,c2,Z'.set (zo+k) s,by omega,by go_num,rfl,q2,(HO.out.wider (Nat.le_refl _) (by omega)).set _ _ (by omega) (by omega),limbs_set hlz _ _ q3,HB.out.set _ s,HF.out.setCell _ _,HS.out⟩
    case measure=>simp [intOf];omega
  ·have ek:k=P.length:=by omega
   subst ek
   rw [List.take_length] at HV
   clear hblk hfr0 hout L1 hB M1 hLZ hl
   go_wp2
   go_loopw [5,8] (fun c i wr2=>∃(k cy:Nat) (Z2:List Nat),k≤n∧i=.int .i64 k∧c=.int .u64 cy∧cy≤1∧Out Z Z2 zo (zo+k)∧Limbs Z2∧Blk wr2 bz Z2∧Fr bz w wr2 ∧
     sv Z2 zo k+cy*18446744073709551616 ^ k=sv Z zo k+val P) (fun _ i _=>n - (intOf i).toNat)
   case atStart=>exact⟨P.length,cy,Z',hfit,rfl,rfl,hcy,HO.out,hlz,HB.out,HF.out,HV.out⟩
   case round=>
    obtain⟨k,cy2,Z2,hk2,rfl,rfl,hcy2,hout2,hlz2,hblk2,hfr2,hval2⟩:=hrel
    clear HV HB HF HO
    have HV:=ac hval2
    have HB:=ac hblk2
    have HF:=ac hfr2
    have HO:=ac hout2
    have hl:=hout2.len
    clear hval2
    by_cases hc0:cy2=0
    ·subst hc0
     have HR:=ac (fq Z Z2 zo k n _ hk2 hzo hout2 (by have h:=HV.out;rw [Nat.zero_mul,Nat.add_zero] at h;exact h))
     clear hblk2 hfr2 hout2 HV
     go_wp2
     go_ret
     exact⟨0,Z2,by omega,rfl,HO.out.wider (Nat.le_refl _) (by omega),hlz2,HB.out,HF.out,by rw [HR.out];omega⟩
    ·have hpos:(0:Int)<(cy2:Int):=by omega
     by_cases hkn:¬k<n
     ·have ek:k=n:=by omega
      subst ek
      clear hblk2 hfr2 hout2
      have hend:¬((k:Int)<(k:Int)):=by omega
      go_wp2
      go_ret
      exact⟨cy2,Z2,hcy2,rfl,HO.out,hlz2,HB.out,HF.out,HV.out⟩
     replace hkn:k<n:=by omega
     have hkn':(k:Int)<(n:Int):=by omega
     have hfr:=hblk2.free (zo+k)
     have hco:=hblk2.cell (zo+k) (by omega)
     have z2:=limb_lt hlz2 (zo+k)
     have hsame:=hout2.same (zo+k) (by omega)
     have ha:=bO (Z2.getD (zo+k) 0) cy2
     obtain⟨q1,q2,q3⟩:=dV (Z2.getD (zo+k) 0) 0 cy2 z2 (by omega) hcy2
     have HS:=ac (dv Z Z2 zo k cy2 _ _ 0 _ (by omega) hl HV.out (by rw [←hsame];exact q1))
     rw [Nat.mul_zero,Nat.add_zero] at HS
     rw [Nat.add_zero] at HS q2 q3
     generalize Z2.getD (zo+k) 0=z at *
     clear hsame q1
     generalize (z+cy2) % 18446744073709551616=s at *
     generalize (z+cy2) / 18446744073709551616=c2 at *
     clear hblk2 hfr2 hout2 HV hc0
     go_wp2
     go_roundw
     case rel=>exact⟨k+1,c2,Z2.set (zo+k) s,by omega,by go_num,rfl,q2,(HO.out.wider (Nat.le_refl _) (by omega)).set _ _ (by omega) (by omega),limbs_set hlz2 _ _ q3,HB.out.set _ s,HF.out.setCell _ _,HS.out⟩
     case measure=>simp [intOf];omega

theorem jr:(Tryz.prog.info? 61).map (·.size)=some 1:=by kernel_rfl

theorem gA (bz zo n cap:Nat)(Z:List Nat)(a1:Option Addr)(c1:Nat)(X:List Nat)(w:World)(ty:TypeId)(hB:Blk w bz Z)(hz:zo+n≤Z.length)(hl:aG w a1 X)(hX:X.length≤n) :
  (Builtin.copy_ #[25,25] ty #[.slice (some ⟨bz,zo,none⟩) n cap,.slice a1 X.length c1]).run Tryz.prog w=.ok (.int .i64 (X.length:Int)) (w.setCells bz zo (X.map lv)):=by
 rcases hl with rfl|⟨b,off,rfl,hc⟩
 ·rw [run_copy_none w _ _ ty _ _ _ _ _ _ _ Tryz.underlying25 jr (by simp)]
  rfl
 ·have hm:(X.map lv).length=Nat.min X.length n:=by
   rw [List.length_map];exact (Nat.min_eq_left hX).symm
  rw [run_copy_cells w _ _ ty _ bz zo n cap ⟨b,off,none⟩ X.length c1 (X.map lv) Tryz.underlying25 jr hm ?_ ?_ ?_ ?_]
  ·rw [List.length_map];rfl
  ·intro j v hv
   rw [List.getElem?_map] at hv
   have hj:j<X.length:=by
    refine Nat.lt_of_not_le fun hle=>?_
    rw [List.getElem?_eq_none hle] at hv;cases hv
   rw [List.getElem?_eq_getElem hj] at hv
   have:=hc j hj
   rw [show (⟨b,off,none⟩:Addr).add j=⟨b,off+j,none⟩ by simp [Addr.add],this,←hv]
   simp [lv,List.getD,hj]
  ·intro j hj
   rw [List.length_map] at hj
   rw [hB.cell (zo+j) (by omega)];rfl
  ·intro j _
   exact hB.free (zo+j)
  ·intro v hv
   obtain⟨z,_,rfl⟩:=List.mem_map.1 hv
   rfl

theorem ia (ad:Option Addr)(c:Nat)(w:World)(ty:TypeId):(Builtin.clear_ #[25] ty #[.slice ad 0 c]).run Tryz.prog w=.ok (.tuple #[]) w:=by
 cases ad <;> simp [Builtin.clear_,run_underlying Tryz.underlying25]

def qW (bz zo n:Nat)(Z:List Nat)(w:World)(x y:Nat)(e:Ending)(w':World):Prop:=
 e=.returned (.bool (decide (x<y)))∧∃Z':List Nat,Out Z Z' zo (zo+n)∧Limbs Z'∧Blk w' bz Z'∧Fr bz w w'∧sv Z' zo n=(if x<y then y - x else x - y)

theorem Fr.same {bz:Nat}{w w':World}(h:aD w w'):Fr bz w w':=Fr.of_below (h.below _)

theorem gM (bz zo n cap:Nat)(Z:List Nat)(va vb:Value)(X Y:List Nat)(w:World)(hB:Blk w bz Z)(hLZ:Limbs Z)(hA:Arg w va X)(hA2:Arg w vb Y)
  (ho:Off va bz zo (zo+n)) (ho2:Off vb bz zo (zo+n)) (hzo:zo+n≤Z.length) (hc1:n≤cap) (hc2:cap≤9223372036854775807) (hfX:val X<18446744073709551616 ^ n) (hfY:val Y<18446744073709551616 ^ n) :
  Calls Tryz.prog 220 #[.slice (some ⟨bz,zo,none⟩) n cap,va,vb] w (qW bz zo n Z w (val X) (val Y)):=by
 have HC:=gv va vb X Y w hA hA2
 obtain⟨a1,c1,rfl,_⟩:=hA.form
 obtain⟨a2,c2,rfl,_⟩:=hA2.form
 by_cases hlt:val X<val Y
 ·rw [cmpN_lt hlt] at HC
  have hPQ:val X≤val Y:=by omega
  have HLT:=ac hlt
  go_enter Tryz.func220,Tryz.ntmps220
  go_wp2_with fail
  clear hlt
  have hfP:=hfY
  have APP:=hA2
  have AQQ:=hA
  have hoP:=ho2
  have hoQ:=ho
  clear hA hA2 ho ho2 hfX hfY
  refine HC.mono ?_
  rintro e w1 ⟨rfl,hs⟩
  have hbl:=hs.below w.heap.size
  have hB1:Blk w1 bz Z:=by unfold Blk;rw [hbl.block bz hB.lt];exact hB
  have A1:=APP.below hbl
  have A2:=AQQ.below hbl
  have F1:=ac (Fr.same (bz:=bz) hs)
  obtain⟨b1,k1,e1,hcc1,hcm1,hl1⟩:=A1.form
  have HT:=cz b1 k1 Y w1 hcc1 hcm1 hl1
  have hle:=tr_length_le Y
  have hln:=aQ Y n hfP
  have hcp:=fun ty=>gA bz zo n cap Z b1 k1 (tr Y) w1 ty hB1 hzo hl1.tr hln
  have hO2:=cB (tr Y) Z zo
  have hS2:=cR (tr Y) Z zo (by omega)
  have hL2:=cU (tr Y) (limbs_tr A1.limbs) Z zo hLZ
  have hB2:=Blk.setCells (tr Y) zo hB1
  have hF2:=(Fr.refl bz w1).setCells ((tr Y).map lv) zo
  cases e1
  rw [val_tr] at hS2
  generalize tr Y=T at *
  obtain⟨w2,hw2⟩:∃w2,w2=w1.setCells bz zo (T.map lv):=⟨_,rfl⟩
  rw [←hw2] at hB2 hF2 hcp
  clear hw2
  generalize lay Z zo T=Z2 at *
  obtain⟨w3,Z3,hrun,hO3,hL3,hB3,hF3,hS3⟩:∃(w3:World) (Z3:List Nat),(∀ty,(Builtin.clear_ #[25] ty #[.slice (if cap=T.length then some ⟨bz,zo,none⟩ else some ⟨bz,zo+T.length,none⟩) (n - T.length) (cap - T.length)]).run Tryz.prog w2=.ok (.tuple #[]) w3)∧Out Z Z3 zo (zo+n)∧Limbs Z3∧Blk w3 bz Z3∧Fr bz w1 w3∧sv Z3 zo n=val Y:=by
   have hlen2:=hO2.len
   rcases Nat.eq_zero_or_pos (n - T.length) with h0|h0
   ·refine⟨w2,Z2,fun ty=>?_,hO2.wider (Nat.le_refl _) (by omega),hL2,hB2,hF2,?_⟩
    ·rw [h0];exact ia _ _ _ _
    ·rw [show n=T.length by omega];exact hS2
   ·have hcne:¬cap=T.length:=by omega
    have hlr:(List.replicate (n - T.length) 0).length=n - T.length:=by simp
    have e1:=cB (List.replicate (n - T.length) 0) Z2 (zo+T.length)
    have e2:=cR (List.replicate (n - T.length) 0) Z2 (zo+T.length) (by rw [hlr];omega)
    rw [hlr] at e1 e2
    refine⟨_,lay Z2 (zo+T.length) (List.replicate (n - T.length) 0),fun ty=>by rw [if_neg hcne];exact ei bz (zo+T.length) _ _ Z2 w2 ty hB2 (by omega) h0,(hO2.wider (Nat.le_refl _) (by omega)).trans (e1.wider (by omega) (by omega)),cU _ (limbs_replicate _) _ _ hL2,Blk.setCells _ _ hB2,hF2.setCells _ _,?_⟩
    have key:sv (lay Z2 (zo+T.length) (List.replicate (n - T.length) 0)) zo (T.length+(n - T.length))=val Y:=by
     rw [aF _ _ _ _ (by rw [eZ];omega),e2,e1.sv zo T.length (by omega),hS2,val_replicate];simp
    rw [show T.length+(n - T.length)=n by omega] at key
    exact key
  have HM:=fR bz zo n cap Z3 _ X w3 hB3 hL3 (A2.fr hoQ hF3 hB1 hB3 hO3) hoQ (by rw [hO3.len];exact hzo) hc1 hc2 (by rw [hS3];exact hPQ)
  rw [hS3] at HM
  have HO3:=ac hO3
  have HF3:=ac (F1.out.trans hF3)
  have hkn:T.length≤n:=hln
  have hkc:T.length≤cap:=by omega
  have k1':(0:Int)≤(T.length:Int):=by omega
  have k2':(T.length:Int)≤(n:Int):=by omega
  clear hB1 A1 A2 hl1 hO2 hS2 hL2 hB2 hF2 hO3 hL3 hB3 hF3 hS3 F1 hs hbl hB hLZ APP AQQ hoP hoQ
  clear HC
  by_cases hcT:cap=T.length
  ·have hnT:n=T.length:=by omega
   subst hnT
   subst hcT
   simp only [if_true,Nat.sub_self] at hrun
   clear hkc hkn hln hc1 k2' hfP
   go_wp2_with fail
   refine HT.mono ?_
   rintro e w4 ⟨rfl,hw⟩;subst hw
   clear HT
   go_wp2_with fail
   refine HM.mono ?_
   rintro e w5 ⟨rfl,Z',q1,q2,q3,q4,q5⟩
   have HD:=ac (And.intro (HO3.out.trans q1) (And.intro q2 (And.intro q3 (And.intro (HF3.out.trans q4) q5))))
   clear q1 q2 q3 q4 q5 HM hcp hrun
   go_wp2
   go_ret
   obtain⟨q1,q2,q3,q4,q5⟩:=HD.out
   have hlt:=HLT.out
   exact⟨by simp [hlt],Z',q1,q2,q3,q4,by rw [if_pos hlt];exact q5⟩
  ·simp only [hcT,if_false] at hrun
   go_wp2_with fail
   refine HT.mono ?_
   rintro e w4 ⟨rfl,hw⟩;subst hw
   clear HT
   go_wp2_with fail
   refine HM.mono ?_
   rintro e w5 ⟨rfl,Z',q1,q2,q3,q4,q5⟩
   have HD:=ac (And.intro (HO3.out.trans q1) (And.intro q2 (And.intro q3 (And.intro (HF3.out.trans q4) q5))))
   clear q1 q2 q3 q4 q5 HM hcp hrun
   go_wp2
   go_ret
   obtain⟨q1,q2,q3,q4,q5⟩:=HD.out
   have hlt:=HLT.out
   exact⟨by simp [hlt],Z',q1,q2,q3,q4,by rw [if_pos hlt];exact q5⟩
 ·have hc:decide (cmpN (val X) (val Y)<0)=false:=by
   unfold cmpN;rw [if_neg hlt];split <;> decide
  have hPQ:val Y≤val X:=by omega
  have HLT:=ac hlt
  generalize cmpN (val X) (val Y)=cc at *
  go_enter Tryz.func220,Tryz.ntmps220
  go_wp2_with fail
  clear hlt
  have hfP:=hfX
  have APP:=hA
  have AQQ:=hA2
  have hoP:=ho
  have hoQ:=ho2
  clear hA hA2 ho ho2 hfX hfY
  refine HC.mono ?_
  rintro e w1 ⟨rfl,hs⟩
  have hbl:=hs.below w.heap.size
  have hB1:Blk w1 bz Z:=by unfold Blk;rw [hbl.block bz hB.lt];exact hB
  have A1:=APP.below hbl
  have A2:=AQQ.below hbl
  have F1:=ac (Fr.same (bz:=bz) hs)
  obtain⟨b1,k1,e1,hcc1,hcm1,hl1⟩:=A1.form
  have HT:=cz b1 k1 X w1 hcc1 hcm1 hl1
  have hle:=tr_length_le X
  have hln:=aQ X n hfP
  have hcp:=fun ty=>gA bz zo n cap Z b1 k1 (tr X) w1 ty hB1 hzo hl1.tr hln
  have hO2:=cB (tr X) Z zo
  have hS2:=cR (tr X) Z zo (by omega)
  have hL2:=cU (tr X) (limbs_tr A1.limbs) Z zo hLZ
  have hB2:=Blk.setCells (tr X) zo hB1
  have hF2:=(Fr.refl bz w1).setCells ((tr X).map lv) zo
  cases e1
  rw [val_tr] at hS2
  generalize tr X=T at *
  obtain⟨w2,hw2⟩:∃w2,w2=w1.setCells bz zo (T.map lv):=⟨_,rfl⟩
  rw [←hw2] at hB2 hF2 hcp
  clear hw2
  generalize lay Z zo T=Z2 at *
  obtain⟨w3,Z3,hrun,hO3,hL3,hB3,hF3,hS3⟩:∃(w3:World) (Z3:List Nat),(∀ty,(Builtin.clear_ #[25] ty #[.slice (if cap=T.length then some ⟨bz,zo,none⟩ else some ⟨bz,zo+T.length,none⟩) (n - T.length) (cap - T.length)]).run Tryz.prog w2=.ok (.tuple #[]) w3)∧Out Z Z3 zo (zo+n)∧Limbs Z3∧Blk w3 bz Z3∧Fr bz w1 w3∧sv Z3 zo n=val X:=by
   have hlen2:=hO2.len
   rcases Nat.eq_zero_or_pos (n - T.length) with h0|h0
   ·refine⟨w2,Z2,fun ty=>?_,hO2.wider (Nat.le_refl _) (by omega),hL2,hB2,hF2,?_⟩
    ·rw [h0];exact ia _ _ _ _
    ·rw [show n=T.length by omega];exact hS2
   ·have hcne:¬cap=T.length:=by omega
    have hlr:(List.replicate (n - T.length) 0).length=n - T.length:=by simp
    have e1:=cB (List.replicate (n - T.length) 0) Z2 (zo+T.length)
    have e2:=cR (List.replicate (n - T.length) 0) Z2 (zo+T.length) (by rw [hlr];omega)
    rw [hlr] at e1 e2
    refine⟨_,lay Z2 (zo+T.length) (List.replicate (n - T.length) 0),fun ty=>by rw [if_neg hcne];exact ei bz (zo+T.length) _ _ Z2 w2 ty hB2 (by omega) h0,(hO2.wider (Nat.le_refl _) (by omega)).trans (e1.wider (by omega) (by omega)),cU _ (limbs_replicate _) _ _ hL2,Blk.setCells _ _ hB2,hF2.setCells _ _,?_⟩
    have key:sv (lay Z2 (zo+T.length) (List.replicate (n - T.length) 0)) zo (T.length+(n - T.length))=val X:=by
     rw [aF _ _ _ _ (by rw [eZ];omega),e2,e1.sv zo T.length (by omega),hS2,val_replicate];simp
    rw [show T.length+(n - T.length)=n by omega] at key
    exact key
  have HM:=fR bz zo n cap Z3 _ Y w3 hB3 hL3 (A2.fr hoQ hF3 hB1 hB3 hO3) hoQ (by rw [hO3.len];exact hzo) hc1 hc2 (by rw [hS3];exact hPQ)
  rw [hS3] at HM
  have HO3:=ac hO3
  have HF3:=ac (F1.out.trans hF3)
  have hkn:T.length≤n:=hln
  have hkc:T.length≤cap:=by omega
  have k1':(0:Int)≤(T.length:Int):=by omega
  have k2':(T.length:Int)≤(n:Int):=by omega
  clear hB1 A1 A2 hl1 hO2 hS2 hL2 hB2 hF2 hO3 hL3 hB3 hF3 hS3 F1 hs hbl hB hLZ APP AQQ hoP hoQ
  clear HC
  by_cases hcT:cap=T.length
  ·have hnT:n=T.length:=by omega
   subst hnT
   subst hcT
   simp only [if_true,Nat.sub_self] at hrun
   clear hkc hkn hln hc1 k2' hfP
   go_wp2_with fail
   refine HT.mono ?_
   rintro e w4 ⟨rfl,hw⟩;subst hw
   clear HT
   go_wp2_with fail
   refine HM.mono ?_
   rintro e w5 ⟨rfl,Z',q1,q2,q3,q4,q5⟩
   have HD:=ac (And.intro (HO3.out.trans q1) (And.intro q2 (And.intro q3 (And.intro (HF3.out.trans q4) q5))))
   clear q1 q2 q3 q4 q5 HM hcp hrun
   go_wp2
   go_ret
   obtain⟨q1,q2,q3,q4,q5⟩:=HD.out
   have hlt:=HLT.out
   exact⟨by simp [hlt],Z',q1,q2,q3,q4,by rw [if_neg hlt];exact q5⟩
  ·simp only [hcT,if_false] at hrun
   go_wp2_with fail
   refine HT.mono ?_
   rintro e w4 ⟨rfl,hw⟩;subst hw
   clear HT
   go_wp2_with fail
   refine HM.mono ?_
   rintro e w5 ⟨rfl,Z',q1,q2,q3,q4,q5⟩
   have HD:=ac (And.intro (HO3.out.trans q1) (And.intro q2 (And.intro q3 (And.intro (HF3.out.trans q4) q5))))
   clear q1 q2 q3 q4 q5 HM hcp hrun
   go_wp2
   go_ret
   obtain⟨q1,q2,q3,q4,q5⟩:=HD.out
   have hlt:=HLT.out
   exact⟨by simp [hlt],Z',q1,q2,q3,q4,by rw [if_neg hlt];exact q5⟩
end Go.Proofs.YtdbjbbdhlpfhjaaGreatDoor
namespace Go.Proofs.YtdbjbbdhlpfhjaaGreatDoor
open Go.RowKit
open Lm
attribute [local go_sem ↓] Go.wp_at_zero Go.wp_at_succ

theorem nB (z cy:Nat)(hz:z<18446744073709551616)(hc:cy<18446744073709551616) :
  (z+0+cy) % 18446744073709551616+(z+0+cy) / 18446744073709551616*18446744073709551616=z+0+cy∧(z+0+cy) / 18446744073709551616<18446744073709551616∧(z+0+cy) % 18446744073709551616<18446744073709551616:=by
 omega

theorem Off.less {v:Value}{bz lo hi hi':Nat}(h:Off v bz lo hi)(hh:hi'≤hi):Off v bz lo hi':=fun b off n c e=>by
 rcases h b off n c e with h1|h1|h1
 ·exact .inl h1
 ·exact .inr (.inl h1)
 ·exact .inr (.inr (by omega))

theorem kW (bz zo n cap:Nat)(Z:List Nat)(va:Value)(X:List Nat)(m:Nat)(w:World)(hB:Blk w bz Z)(hLZ:Limbs Z)(hA:Arg w va X)(ho:Off va bz zo (zo+n))(hXn:X.length≤n)
  (hzo:zo+n≤Z.length) (hc1:n≤cap) (hc2:cap≤9223372036854775807) (hm:m<18446744073709551616) (hfit:sv Z zo n+val X*m<18446744073709551616 ^ n) :
  Calls Tryz.prog 227 #[.slice (some ⟨bz,zo,none⟩) n cap,va,.int .u64 m] w (aK bz zo n Z w (sv Z zo n+val X*m)):=by
 have HM:=iY bz zo cap Z va X m w hB hLZ hA (ho.less (by omega)) (by omega) (by omega) hc2 hm
 obtain⟨a1,c1,rfl,hcc1,hcm1,_⟩:=hA.form
 have HFIT:=ac hfit
 clear hfit hA ho hB hLZ
 generalize val X*m=V at *
 have k1:(X.length:Int)≤(n:Int):=by omega
 have k2:X.length≤cap:=by omega
 go_enter Tryz.func227,Tryz.ntmps227
 go_wp2_with fail
 refine HM.mono ?_
 rintro e w1 ⟨cy,Z1,rfl,hcy,hout,hlz,hblk,hfr0,hval⟩
 have HV:=ac hval
 have HB:=ac hblk
 have HF:=ac hfr0
 have HO:=ac hout
 clear hval hblk hfr0 hout HM
 go_wp2
 go_loopw [6,7] (fun c i wr2=>∃(k cy:Nat) (Z2:List Nat),k≤n∧i=.int .i64 k∧c=.int .u64 cy∧cy<18446744073709551616∧Out Z Z2 zo (zo+k)∧Limbs Z2∧Blk wr2 bz Z2∧Fr bz w wr2 ∧
   sv Z2 zo k+cy*18446744073709551616 ^ k=sv Z zo k+V) (fun _ i _=>n - (intOf i).toNat)
 case atStart=>exact⟨X.length,cy,Z1,hXn,rfl,rfl,hcy,HO.out,hlz,HB.out,HF.out,HV.out⟩
 case round=>
  obtain⟨k,cy2,Z2,hk2,rfl,rfl,hcy2,hout2,hlz2,hblk2,hfr2,hval2⟩:=hrel
  clear HV HB HF HO
  have HV:=ac hval2
  have HB:=ac hblk2
  have HF:=ac hfr2
  have HO:=ac hout2
  have hl:=hout2.len
  clear hval2
  by_cases hc0:cy2=0
  ·subst hc0
   have HR:=ac (fq Z Z2 zo k n _ hk2 hzo hout2 (by have h:=HV.out;rw [Nat.zero_mul,Nat.add_zero] at h;exact h))
   clear hblk2 hfr2 hout2 HV
   go_wp2
   go_end0
   exact⟨rfl,Z2,HO.out.wider (Nat.le_refl _) (by omega),hlz2,HB.out,HF.out,HR.out⟩
  ·have hpos:(0:Int)<(cy2:Int):=by omega
   have hkn:k<n:=by
    rcases Nat.lt_or_ge k n with h|h
    ·exact h
    ·have ek:k=n:=by omega
     subst ek
     exact absurd (ix Z Z2 zo k cy2 V HFIT.out HV.out) hc0
   have hfr:=hblk2.free (zo+k)
   have hco:=hblk2.cell (zo+k) (by omega)
   have z2:=limb_lt hlz2 (zo+k)
   have hsame:=hout2.same (zo+k) (by omega)
   have ha:=bO (Z2.getD (zo+k) 0) cy2
   obtain⟨q1,q2,q3⟩:=nB (Z2.getD (zo+k) 0) cy2 z2 hcy2
   have HS:=ac (dv Z Z2 zo k cy2 _ _ 0 _ (by omega) hl HV.out (by rw [←hsame];exact q1))
   rw [Nat.mul_zero,Nat.add_zero] at HS
   rw [Nat.add_zero] at HS q2 q3
   generalize Z2.getD (zo+k) 0=z at *
   clear hsame q1
   generalize (z+cy2) % 18446744073709551616=s at *
   generalize (z+cy2) / 18446744073709551616=c2 at *
   clear hblk2 hfr2 hout2 HV hc0
   go_wp2
   go_roundw
   case rel=>exact⟨k+1,c2,Z2.set (zo+k) s,by omega,by go_num,rfl,q2,(HO.out.wider (Nat.le_refl _) (by omega)).set _ _ (by omega) (by omega),limbs_set hlz2 _ _ q3,HB.out.set _ s,HF.out.setCell _ _,HS.out⟩
   case measure=>simp [intOf];omega

theorem d7 (x y:Nat)(w:World) :
  (callFunc 127 #[.int .u64 x,.int .u64 y,.int .u64 0]).run Tryz.prog w =
   .ok (.value (.tuple #[.int .u64 (((x+18446744073709551616 - y) % 18446744073709551616:Nat):Int),.int .u64 ((bor x y 0:Nat):Int)])) w:=
 dT x y 0 (by omega) w

theorem ko (Z Z':List Nat)(o k cy c2 s v V:Nat)(hz:o+k<Z'.length)(hl:Z'.length=Z.length)
  (h:sv Z' o k+V=sv Z o k+cy*18446744073709551616 ^ k) (hs:s+v+cy=Z.getD (o+k) 0+c2*18446744073709551616) :
  sv (Z'.set (o+k) s) o (k+1)+(V+18446744073709551616 ^ k*v)=sv Z o (k+1)+c2*18446744073709551616 ^ (k+1):=
 cZ Z Z' o k cy c2 s v V hz hl h hs

theorem iO (P z cy:Nat)(hP:P≤340282366920938463426481119284349108225)(_hz:z<18446744073709551616)(_hc:cy<18446744073709551616) :
  (z+18446744073709551616 - (P % 18446744073709551616+cy) % 18446744073709551616) % 18446744073709551616+P+cy=z+(P / 18446744073709551616+(P % 18446744073709551616+cy) / 18446744073709551616+bor z ((P % 18446744073709551616+cy) % 18446744073709551616) 0)*18446744073709551616 ∧
  P / 18446744073709551616+(P % 18446744073709551616+cy) / 18446744073709551616<18446744073709551616 ∧
  P / 18446744073709551616+(P % 18446744073709551616+cy) / 18446744073709551616+bor z ((P % 18446744073709551616+cy) % 18446744073709551616) 0<18446744073709551616 ∧
  (z+18446744073709551616 - (P % 18446744073709551616+cy) % 18446744073709551616) % 18446744073709551616<18446744073709551616:=by
 unfold bor
 split <;> omega

theorem kV (z cy:Nat)(hz:z<18446744073709551616)(hc:cy<18446744073709551616) :
  (z+18446744073709551616 - cy) % 18446744073709551616+0+cy=z+bor z cy 0*18446744073709551616∧bor z cy 0<18446744073709551616∧(z+18446744073709551616 - cy) % 18446744073709551616<18446744073709551616:=by
 unfold bor
 split <;> omega

theorem rW (bz zo n cap:Nat)(Z:List Nat)(va:Value)(X:List Nat)(m:Nat)(w:World)(hB:Blk w bz Z)(hLZ:Limbs Z)(hA:Arg w va X)(ho:Off va bz zo (zo+n))
  (hzo:zo+n≤Z.length) (hc1:n≤cap) (hc2:cap≤9223372036854775807) (hm0:0<m) (hm:m<18446744073709551616) (hfit:val X*m≤sv Z zo n) :
  Calls Tryz.prog 218 #[.slice (some ⟨bz,zo,none⟩) n cap,va,.int .u64 m] w (aK bz zo n Z w (sv Z zo n - val X*m)):=by
 obtain⟨a1,c1,rfl,hcc1,hcm1,hl1⟩:=hA.form
 have hX:=hA.few
 have H1:=cz a1 c1 X w hcc1 hcm1 hl1
 have M1:=limbs_tr hA.limbs
 have hle:=tr_length_le X
 have hln:=aQ X n (Nat.lt_of_le_of_lt (Nat.le_trans (Nat.le_mul_of_pos_right _ hm0) hfit) (cm hLZ zo n))
 have hao:∀b off,a1=some ⟨b,off,none⟩→b≠bz∨off+(tr X).length≤zo∨zo+n≤off:=fun b off e=>by
  subst e
  rcases ho b off _ _ rfl with h|h|h
  ·exact .inl h
  ·exact .inr (.inl (by omega))
  ·exact .inr (.inr h)
 have L1:=hl1.tr
 rw [←val_tr X] at hfit ⊢
 clear ho hA hl1
 generalize tr X=P at *
 have HFIT:=ac hfit
 have HB0:=ac hB
 have HLZ:=ac hLZ
 clear hfit
 go_enter Tryz.func218,Tryz.ntmps218
 go_wp2_with fail
 refine H1.mono ?_
 rintro e w' ⟨rfl,hw⟩;subst hw
 clear H1
 go_wp2
 go_loopw [6,18] (fun c i wr=>∃(k cy:Nat) (Z':List Nat),k≤P.length∧i=.int .i64 k∧c=.int .u64 cy∧cy<18446744073709551616∧Out Z Z' zo (zo+k)∧Limbs Z'∧Blk wr bz Z'∧Fr bz w' wr ∧
   sv Z' zo k+val (P.take k)*m=sv Z zo k+cy*18446744073709551616 ^ k) (fun _ i _=>P.length - (intOf i).toNat)
 case atStart=>exact⟨0,0,Z,Nat.zero_le _,rfl,rfl,by omega,Out.refl _ _ _,HLZ.out,HB0.out,Fr.refl _ _,by simp [aW,val]⟩
 case round=>
  obtain⟨k,cy,Z',hk,rfl,rfl,hcy,hout,hlz,hblk,hfr0,hval⟩:=hrel
  have HV:=ac hval
  have HB:=ac hblk
  have HF:=ac hfr0
  have HO:=ac hout
  have hl:=hout.len
  clear hval
  by_cases hkl:k<P.length
  ·rcases L1.fr hao hfr0 hB hblk (hout.wider (Nat.le_refl _) (by omega)) with h0|⟨b,off,rfl,hcell⟩
   ·rw [h0] at hkl;simp at hkl
   ·have hck:=hcell k hkl
    have hfr:=hblk.free (zo+k)
    have hco:=hblk.cell (zo+k) (by omega)
    have z1:=limb_lt M1 k
    have z2:=limb_lt hlz (zo+k)
    have hsame:=hout.same (zo+k) (by omega)
    have hft:=iO (P.getD k 0*m) (Z'.getD (zo+k) 0) cy (by have:=Nat.mul_le_mul (Nat.le_sub_one_of_lt z1) (Nat.le_sub_one_of_lt hm);omega) z2 hcy
    have HS:=ac (fun c2 s hs=>ko Z Z' zo k cy c2 s (P.getD k 0*m) _ (by omega) hl HV.out hs)
    rw [←hsame] at HS
    have hst:val (P.take k)*m+18446744073709551616 ^ k*(P.getD k 0*m)=val (P.take (k+1))*m:=by
     rw [val_take_next P k,Nat.add_mul,Nat.mul_assoc]
    rw [hst] at HS
    have ha1:=bO (P.getD k 0*m % 18446744073709551616) cy
    have ha2:=d7 (Z'.getD (zo+k) 0) ((P.getD k 0*m % 18446744073709551616+cy) % 18446744073709551616)
    have hM:=Tryz.bits_Mul64 (P.getD k 0) m z1 hm wr
    generalize Z'.getD (zo+k) 0=z at *
    generalize P.getD k 0=x at *
    generalize hPP:x*m=PP at *
    clear hPP hsame hst
    obtain⟨q1,q2,q3,q4⟩:=hft
    have HS2:=ac (HS.out _ _ q1)
    clear HS q1
    generalize (z+18446744073709551616 - (PP % 18446744073709551616+cy) % 18446744073709551616) % 18446744073709551616=s at *
    generalize bor z ((PP % 18446744073709551616+cy) % 18446744073709551616) 0=un at *
    generalize (PP % 18446744073709551616+cy) % 18446744073709551616=l2 at *
    generalize (PP % 18446744073709551616+cy) / 18446744073709551616=o1 at *
    generalize PP / 18446744073709551616=h1 at *
    generalize PP % 18446744073709551616=l1 at *
    have e1:(h1:Int)+(o1:Int)=((h1+o1:Nat):Int):=by omega
    generalize h1+o1=h2 at *
    have e2:(h2:Int)+(un:Int)=((h2+un:Nat):Int):=by omega
    generalize h2+un=c2 at *
    clear hcell hblk hfr0 hout HV M1 L1 hB hLZ
    go_wp2_with fail
    refine hM.mono ?_
    rintro e w2 ⟨rfl,rfl⟩
    clear hM
    go_wp2
    go_roundw
    case rel=>exact⟨k+1,c2,Z'.set (zo+k) s,by omega,by go_num,rfl,q3,(HO.out.wider (Nat.le_refl _) (by omega)).set _ _ (by omega) (by omega),limbs_set hlz _ _ q4,HB.out.set _ s,HF.out.setCell _ _,HS2.out⟩
    case measure=>simp [intOf];omega
  ·have ek:k=P.length:=by omega
   subst ek
   rw [List.take_length] at HV
   clear hblk hfr0 hout L1 hB M1 hLZ hl
   go_wp2
   go_loopw [6,13] (fun c i wr2=>∃(k cy:Nat) (Z2:List Nat),k≤n∧i=.int .i64 k∧c=.int .u64 cy∧cy<18446744073709551616∧Out Z Z2 zo (zo+k)∧Limbs Z2∧Blk wr2 bz Z2∧Fr bz w' wr2 ∧
     sv Z2 zo k+val P*m=sv Z zo k+cy*18446744073709551616 ^ k) (fun _ i _=>n - (intOf i).toNat)
   case atStart=>exact⟨P.length,cy,Z',hln,rfl,rfl,hcy,HO.out,hlz,HB.out,HF.out,HV.out⟩
   case round=>
    obtain⟨k,cy2,Z2,hk2,rfl,rfl,hcy2,hout2,hlz2,hblk2,hfr2,hval2⟩:=hrel
    clear HV HB HF HO
    have HV:=ac hval2
    have HB:=ac hblk2
    have HF:=ac hfr2
    have HO:=ac hout2
    have hl:=hout2.len
    clear hval2
    by_cases hc0:cy2=0
    ·subst hc0
     have HR:=ac (ip Z Z2 zo k n _ hk2 hzo hout2 (by have h:=HV.out;rw [Nat.zero_mul,Nat.add_zero] at h;exact h))
     clear hblk2 hfr2 hout2 HV
     go_wp2
     go_end0
     exact⟨rfl,Z2,HO.out.wider (Nat.le_refl _) (by omega),hlz2,HB.out,HF.out,HR.out⟩
    ·have hpos:(0:Int)<(cy2:Int):=by omega
     have hkn:k<n:=by
      rcases Nat.lt_or_ge k n with h|h
      ·exact h
      ·have ek:k=n:=by omega
       subst ek
       exact absurd (gZ Z Z2 zo k cy2 (val P*m) hlz2 HFIT.out HV.out) hc0
     have hfr:=hblk2.free (zo+k)
     have hco:=hblk2.cell (zo+k) (by omega)
     have z2:=limb_lt hlz2 (zo+k)
     have hsame:=hout2.same (zo+k) (by omega)
     have ha:=d7 (Z2.getD (zo+k) 0) cy2
     obtain⟨q1,q2,q3⟩:=kV (Z2.getD (zo+k) 0) cy2 z2 hcy2
     have HS:=ac (cZ Z Z2 zo k cy2 _ _ 0 _ (by omega) hl HV.out (by rw [←hsame];exact q1))
     rw [Nat.mul_zero,Nat.add_zero] at HS
     generalize Z2.getD (zo+k) 0=z at *
     clear hsame q1
     generalize (z+18446744073709551616 - cy2) % 18446744073709551616=s at *
     generalize bor z cy2 0=c2 at *
     clear hblk2 hfr2 hout2 HV hc0
     go_wp2
     go_roundw
     case rel=>exact⟨k+1,c2,Z2.set (zo+k) s,by omega,by go_num,rfl,q2,(HO.out.wider (Nat.le_refl _) (by omega)).set _ _ (by omega) (by omega),limbs_set hlz2 _ _ q3,HB.out.set _ s,HF.out.setCell _ _,HS.out⟩
     case measure=>simp [intOf];omega
end Go.Proofs.YtdbjbbdhlpfhjaaGreatDoor
namespace Go.Proofs.YtdbjbbdhlpfhjaaGreatDoor
open Go.RowKit
open Lm

def io (bz zo n:Nat)(Z:List Nat)(w:World)(V:Nat)(e:Ending)(w':World):Prop:=
 ∃(cy:Nat) (Z':List Nat),cy≤1∧e=.returned (.int .u64 (cy:Int))∧Out Z Z' zo (zo+n)∧Limbs Z'∧Blk w' bz Z'∧Fr bz w w'∧sv Z' zo n+V=sv Z zo n+cy*18446744073709551616 ^ n

theorem pU (Z Z':List Nat)(o k n V:Nat)(hk:k≤n)(hn:o+n≤Z.length)(ho:Out Z Z' o (o+k))(h:sv Z' o k+V=sv Z o k):sv Z' o n+V=sv Z o n:=by
 obtain⟨d,rfl⟩:∃d,n=k+d:=⟨n - k,by omega⟩
 rw [aF Z' o k d (by rw [ho.len];omega),aF Z o k d (by omega),←h,ho.sv (o+k) d (by omega)]
 omega

theorem gX (bz zo n cap:Nat)(Z:List Nat)(va:Value)(X:List Nat)(w:World)(hB:Blk w bz Z)(hLZ:Limbs Z)(hA:Arg w va X)(ho:Off va bz zo (zo+n))
  (hzo:zo+n≤Z.length) (hc1:n≤cap) (hc2:cap≤9223372036854775807) (hfit:X.length≤n) :
  Calls Tryz.prog 210 #[.slice (some ⟨bz,zo,none⟩) n cap,va] w (io bz zo n Z w (val X)):=by
 obtain⟨a1,c1,rfl,hcc1,hcm1,hl1⟩:=hA.form
 have hX:=hA.few
 have M1:=hA.limbs
 have hao:∀b off,a1=some ⟨b,off,none⟩→b≠bz∨off+X.length≤zo∨zo+n≤off:=fun b off e=>by
  subst e
  exact ho b off _ _ rfl
 have L1:=hl1
 clear ho hA hl1
 generalize X=P at *
 have HB0:=ac hB
 have HLZ:=ac hLZ
 go_enter Tryz.func210,Tryz.ntmps210
 go_wp2
 go_loopw [5,11] (fun c i wr=>∃(k cy:Nat) (Z':List Nat),k≤P.length∧i=.int .i64 k∧c=.int .u64 cy∧cy≤1∧Out Z Z' zo (zo+k)∧Limbs Z'∧Blk wr bz Z'∧Fr bz w wr ∧
   sv Z' zo k+val (P.take k)=sv Z zo k+cy*18446744073709551616 ^ k) (fun _ i _=>P.length - (intOf i).toNat)
 case atStart=>exact⟨0,0,Z,Nat.zero_le _,rfl,rfl,by omega,Out.refl _ _ _,HLZ.out,HB0.out,Fr.refl _ _,by simp [aW,val]⟩
 case round=>
  obtain⟨k,cy,Z',hk,rfl,rfl,hcy,hout,hlz,hblk,hfr0,hval⟩:=hrel
  have HV:=ac hval
  have HB:=ac hblk
  have HF:=ac hfr0
  have HO:=ac hout
  have hl:=hout.len
  clear hval
  by_cases hkl:k<P.length
  ·rcases L1.fr hao hfr0 hB hblk (hout.wider (Nat.le_refl _) (by omega)) with h0|⟨b,off,rfl,hcell⟩
   ·rw [h0] at hkl;simp at hkl
   ·have hck:=hcell k hkl
    have hfr:=hblk.free (zo+k)
    have hco:=hblk.cell (zo+k) (by omega)
    have z1:=limb_lt M1 k
    have z2:=limb_lt hlz (zo+k)
    have hsame:=hout.same (zo+k) (by omega)
    have ha:=dT (Z'.getD (zo+k) 0) (P.getD k 0) cy hcy
    obtain⟨q1,q2,q3⟩:=df (Z'.getD (zo+k) 0) (P.getD k 0) cy z2 z1 hcy
    have HS:=ac (cZ Z Z' zo k cy _ _ (P.getD k 0) _ (by omega) hl HV.out (by rw [←hsame];exact q1))
    rw [←val_take_next P k] at HS
    generalize Z'.getD (zo+k) 0=z at *
    generalize P.getD k 0=x at *
    clear hsame q1
    generalize (z+18446744073709551616 - x - cy) % 18446744073709551616=s at *
    generalize bor z x cy=c2 at *
    clear hcell hblk hfr0 hout HV M1 L1 hB hLZ
    go_wp2
    go_roundw
    case rel=>exact⟨k+1,c2,Z'.set (zo+k) s,by omega,by go_num,rfl,q2,(HO.out.wider (Nat.le_refl _) (by omega)).set _ _ (by omega) (by omega),limbs_set hlz _ _ q3,HB.out.set _ s,HF.out.setCell _ _,HS.out⟩
    case measure=>simp [intOf];omega
  ·have ek:k=P.length:=by omega
   subst ek
   rw [List.take_length] at HV
   clear hblk hfr0 hout L1 hB M1 hLZ hl
   go_wp2
   go_loopw [5,8] (fun c i wr2=>∃(k cy:Nat) (Z2:List Nat),k≤n∧i=.int .i64 k∧c=.int .u64 cy∧cy≤1∧Out Z Z2 zo (zo+k)∧Limbs Z2∧Blk wr2 bz Z2∧Fr bz w wr2 ∧
     sv Z2 zo k+val P=sv Z zo k+cy*18446744073709551616 ^ k) (fun _ i _=>n - (intOf i).toNat)
   case atStart=>exact⟨P.length,cy,Z',hfit,rfl,rfl,hcy,HO.out,hlz,HB.out,HF.out,HV.out⟩
   case round=>
    obtain⟨k,cy2,Z2,hk2,rfl,rfl,hcy2,hout2,hlz2,hblk2,hfr2,hval2⟩:=hrel
    clear HV HB HF HO
    have HV:=ac hval2
    have HB:=ac hblk2
    have HF:=ac hfr2
    have HO:=ac hout2
    have hl:=hout2.len
    clear hval2
    by_cases hc0:cy2=0
    ·subst hc0
     have HR:=ac (pU Z Z2 zo k n _ hk2 hzo hout2 (by have h:=HV.out;rw [Nat.zero_mul,Nat.add_zero] at h;exact h))
     clear hblk2 hfr2 hout2 HV
     go_wp2
     go_ret
     exact⟨0,Z2,by omega,rfl,HO.out.wider (Nat.le_refl _) (by omega),hlz2,HB.out,HF.out,by have:=HR.out;omega⟩
    ·have hpos:(0:Int)<(cy2:Int):=by omega
     by_cases hkn:¬k<n
     ·have ek:k=n:=by omega
      subst ek
      clear hblk2 hfr2 hout2
      have hend:¬((k:Int)<(k:Int)):=by omega
      go_wp2
      go_ret
      exact⟨cy2,Z2,hcy2,rfl,HO.out,hlz2,HB.out,HF.out,HV.out⟩
     replace hkn:k<n:=by omega
     have hkn':(k:Int)<(n:Int):=by omega
     have hfr:=hblk2.free (zo+k)
     have hco:=hblk2.cell (zo+k) (by omega)
     have z2:=limb_lt hlz2 (zo+k)
     have hsame:=hout2.same (zo+k) (by omega)
     have ha:=ib (Z2.getD (zo+k) 0) cy2 hcy2
     obtain⟨q1,q2,q3⟩:=df (Z2.getD (zo+k) 0) 0 cy2 z2 (by omega) hcy2
     have HS:=ac (cZ Z Z2 zo k cy2 _ _ 0 _ (by omega) hl HV.out (by rw [←hsame];exact q1))
     rw [Nat.mul_zero,Nat.add_zero] at HS
     generalize Z2.getD (zo+k) 0=z at *
     clear hsame q1
     generalize (z+18446744073709551616 - 0 - cy2) % 18446744073709551616=s at *
     generalize bor z 0 cy2=c2 at *
     clear hblk2 hfr2 hout2 HV hc0
     go_wp2
     go_roundw
     case rel=>exact⟨k+1,c2,Z2.set (zo+k) s,by omega,by go_num,rfl,q2,(HO.out.wider (Nat.le_refl _) (by omega)).set _ _ (by omega) (by omega),limbs_set hlz2 _ _ q3,HB.out.set _ s,HF.out.setCell _ _,HS.out⟩
     case measure=>simp [intOf];omega

def bV (v:Value)(bz:Nat):Prop:=∀b off n c,v=.slice (some ⟨b,off,none⟩) n c→b≠bz

theorem bV.off {v:Value}{bz:Nat}(h:bV v bz)(lo hi:Nat):Off v bz lo hi:=fun b off n c e=>.inl (h b off n c e)

def cf (H T:Int)(X Y:List Nat):Prop:=
 ∀(bz zo cap:Nat) (Z:List Nat) (va vb:Value) (w:World),Blk w bz Z→Limbs Z→Arg w va X→Arg w vb Y→bV va bz→bV vb bz →
  zo+(X.length+Y.length)≤Z.length→X.length+Y.length≤cap→cap≤9223372036854775807 →
  Calls Tryz.prog 175 #[way H T,.slice (some ⟨bz,zo,none⟩) (X.length+Y.length) cap,va,vb] w (aK bz zo (X.length+Y.length) Z w (val X*val Y))

theorem gP (H T:Int)(X Y:List Nat)(hs:(X.length<Y.length∧(X.length:Int)<H∧(X.length:Int)<T)∨(Y.length≤X.length∧(Y.length:Int)<H∧(Y.length:Int)<T)):cf H T X Y:=
 fun bz zo cap Z va vb w h1 h2 h3 h4 h5 h6 h7 h8 h9=>qC H T bz zo cap Z va vb X Y w h1 h2 h3 h4 (h5.off _ _) (h6.off _ _) h7 h8 h9 hs

theorem Arg.drop {w:World}{b off n cap:Nat}{X:List Nat}(h:Arg w (.slice (some ⟨b,off,none⟩) n cap) X)(i:Nat)(hi:i≤n):Arg w (.slice (some ⟨b,off+i,none⟩) (n - i) (cap - i)) (X.drop i):=by
 obtain⟨ao,c,h1,h2,h3,h4⟩:=h.form
 cases h1
 have hl:(X.drop i).length=X.length - i:=by simp
 refine⟨⟨_,_,by rw [hl],by rw [hl];omega,by omega,?_⟩,fun z hz=>h.limbs z (List.mem_of_mem_drop hz),by rw [hl];have:=h.few;omega,fun n c e=>by cases e⟩
 rcases h4 with h4|⟨b',off',he,hc⟩
 ·subst h4;exact .inl (by simp)
 ·cases he
  refine .inr ⟨b,off+i,rfl,fun k hk=>?_⟩
  rw [hl] at hk
  rw [Nat.add_assoc,hc (i+k) (by omega)]
  simp [List.getD]

theorem fH (X:List Nat):bo X≤X.length:=by
 induction X with
 | nil=>simp [bo]
 | cons z r ih=>
  rw [bo]
  split
  ·split
   ·simp
   ·simp;omega
  ·simp

theorem fL (X:List Nat):val X=18446744073709551616 ^ bo X*val (X.drop (bo X)):=by
 induction X with
 | nil=>simp [bo,val]
 | cons z r ih=>
  rw [bo]
  by_cases hz:z=0
  ·subst hz
   rw [if_pos rfl]
   by_cases hr:val r=0
   ·rw [if_pos hr];simp
   ·rw [if_neg hr,val,List.drop_succ_cons]
    conv=>lhs;rw [ih]
    rw [Nat.pow_succ,Nat.zero_add]
    grind
  ·rw [if_neg hz];simp

theorem ic (X:List Nat)(h:val X≠0):bo X<X.length:=by
 refine Nat.lt_of_not_le fun hle=>h ?_
 rw [fL,List.drop_of_length_le hle];simp [val]

theorem mC (Z:List Nat)(X Y:List Nat)(i j n:Nat)(hi:i≤X.length)(hj:j≤Y.length)(hn:n=X.length+Y.length)(h1:val X=18446744073709551616 ^ i*val (X.drop i))(h2:val Y=18446744073709551616 ^ j*val (Y.drop j))
  (ho:Out (List.replicate n 0) Z (i+j) (i+j+(X.length - i+(Y.length - j)))) (hs:sv Z (i+j) (X.length - i+(Y.length - j))=val (X.drop i)*val (Y.drop j)):val Z=val X*val Y:=by
 have hl:Z.length=n:=by rw [ho.len];simp
 have e0:sv Z 0 (i+j)=0:=by
  rw [ho.sv 0 (i+j) (by omega)]
  unfold sv seg
  rw [List.drop_replicate,List.take_replicate,val_replicate]
 have e1:sv Z 0 (i+j+(X.length - i+(Y.length - j)))=val Z:=by
  rw [show i+j+(X.length - i+(Y.length - j))=Z.length by omega,ca]
 rw [aF _ _ _ _ (by omega),e0,Nat.zero_add,Nat.zero_add,hs] at e1
 rw [←e1,h1,h2,Nat.pow_add]
 have:∀a b c d:Nat,a*b*(c*d)=a*c*(b*d):=fun a b c d=>by grind
 rw [this]

def eD (w:World)(p n:Nat)(e:Ending)(w':World):Prop:=
 (∃v rs,e=.returned v∧Ans w' w.heap.size v rs∧val rs=p∧tr rs=rs∧rs.length≤n)∧Below w.heap.size w w'

set_option maxRecDepth 20000 in
theorem qJ (H T:Int)(va vb:Value)(X Y:List Nat)(w:World)(hA:Arg w va X)(hA2:Arg w vb Y)(hT:Tab w)(hX:val X≠0)(hY:val Y≠0)(hf:X.length+Y.length≤35184372088831)
  (hI:cf H T ((tr X).drop (bo (tr X))) ((tr Y).drop (bo (tr Y)))) :
  Calls Tryz.prog 133 #[way H T,va,vb] w (eD w (val X*val Y) (X.length+Y.length)):=by
 unfold way
 obtain⟨a1,c1,rfl,hcc1,hcm1,hl1⟩:=hA.form
 obtain⟨a2,c2,rfl,hcc2,hcm2,hl2⟩:=hA2.form
 have lX:=tr_length_le X
 have lY:=tr_length_le Y
 have hX0:tr X≠[]:=fun e=>hX (by rw [←val_tr,e];rfl)
 have hY0:tr Y≠[]:=fun e=>hY (by rw [←val_tr,e];rfl)
 obtain⟨i0,hi,hz0,hz1,hz2⟩:=info_parts Tryz.infoU
 obtain⟨w1,hw1⟩:∃w1,w1=w.alloc (.cells #[.int .i64 H,.int .i64 T] 117):=⟨_,rfl⟩
 have hbel1:Below w.heap.size w w1:=by rw [hw1];exact (Below.refl _ _).alloc (Nat.le_refl _) _
 have hs1:w1.heap.size=w.heap.size+1:=by rw [hw1];simp
 have hb1:w1.heap[w.heap.size]?=some (.cells #[.int .i64 H,.int .i64 T] 117):=by rw [hw1];exact heap_alloc_new ..
 have hc0:w1.cell? ⟨w.heap.size,0,none⟩=some (.int .i64 H):=by simp [World.cell?,hb1]
 have hc1:w1.cell? ⟨w.heap.size,1,none⟩=some (.int .i64 T):=by simp [World.cell?,hb1]
 have B1:=ac hbel1
 have HW1:=ac hw1
 have A1:=(hA.below hbel1).trim
 have A2:=(hA2.below hbel1).trim
 have hT1:=hT.below hbel1
 have H1:=cz a1 c1 X w1 hcc1 hcm1 (hl1.below hbel1)
 have H2:=cz a2 c2 Y w1 hcc2 hcm2 (hl2.below hbel1)
 rw [←val_tr X,←val_tr Y]
 have L1:=(hl1.below hbel1).tr
 have L2:=(hl2.below hbel1).tr
 have HPX:Hid (val (tr X)≠0):=ac (by rw [val_tr];exact hX)
 have HQY:Hid (val (tr Y)≠0):=ac (by rw [val_tr];exact hY)
 clear hA hA2 hT hl1 hl2 hX hY hw1 hbel1
 generalize tr X=P at *
 generalize tr Y=Q at *
 have hP:0<P.length:=List.length_pos_iff.2 hX0
 have hQ:0<Q.length:=List.length_pos_iff.2 hY0
 rcases L1 with h' | ⟨b,off,rfl,hcell1⟩
 ·exact absurd h' hX0
 rcases L2 with h' | ⟨b2,off2,rfl,hcell2⟩
 ·exact absurd h' hY0
 have hbw:=aG.block (zs:=P) (.inr ⟨b,off,rfl,hcell1⟩) hP
 have hbw2:=aG.block (zs:=Q) (.inr ⟨b2,off2,rfl,hcell2⟩) hQ
 clear hcell1 hcell2 hX0 hY0
 obtain⟨N,hN1,hN2,eN⟩:∃N:Nat,N≤P.length+Q.length∧P.length+Q.length≤N∧(P.length:Int)+(Q.length:Int)=(N:Int):=⟨P.length+Q.length,by omega,by omega,by omega⟩
 go_enter Tryz.func133,Tryz.ntmps133
 go_wp2_with fail
 rw [←HW1.out]
 refine H1.mono ?_
 rintro e w2 ⟨rfl,hw⟩;subst hw
 go_wp2_with fail
 refine H2.mono ?_
 rintro e w3 ⟨rfl,hw⟩;subst hw
 clear H1 H2
 go_wp2_with (at_make;refine wpList_make_full _ rfl _ _ 25 rfl w3.heap.size 61 i0 (.int .u64 0) 1 Tryz.underlying25 hi hz0 hz1 .i64 .i64 _ _ N rfl rfl (by omega) (by omega) (by rw [hz2];omega) (by unfold maxLen;omega) (Nat.le_refl _) ?_;intro w4 hown hgrow)
 have hb4:=Blk.made hown
 rw [hs1] at hb4
 have hbel4:Below w3.heap.size w3 w4:=(Below.refl _ _).grown hgrow (Nat.le_refl _) (fun k hk=>by cases hk)
 have hs4:w3.heap.size<w4.heap.size:=by rw [hs1];exact hb4.lt
 clear hown hgrow hi hz0 hz1 hz2
 have B4:Hid (Below w.heap.size w w4):=B1.out.trans (hbel4.mono (by omega))
 replace A1:=A1.below hbel4
 replace A2:=A2.below hbel4
 replace hT1:=hT1.below hbel4
 have hc04:w4.cell? ⟨w.heap.size,0,none⟩=some (.int .i64 H):=by rw [hbel4.cell (p:=⟨w.heap.size,0,none⟩) (by show w.heap.size<_;omega)];exact hc0
 have hc14:w4.cell? ⟨w.heap.size,1,none⟩=some (.int .i64 T):=by rw [hbel4.cell (p:=⟨w.heap.size,1,none⟩) (by show w.heap.size<_;omega)];exact hc1
 clear hc0 hc1 hb1 B1 HW1 hbel4
 refine (eA _ _ _ A1 hT1).mono ?_
 rintro e w5 ⟨⟨t,ht,rfl⟩,hw⟩;subst hw
 have li:=fH P
 have li':=ic P HPX.out
 have vi:=fL P
 generalize bo P=i at *
 obtain⟨ti,eti⟩:∃ti:Nat,ti=i*64+t:=⟨_,rfl⟩
 have eI:(ti:Int) / 64=(i:Int):=by omega
 have hti:ti≤9223372036854775807:=by omega
 rw [←eti]
 clear eti ht
 go_wp2_with fail
 refine (eA _ _ _ A2 hT1).mono ?_
 rintro e w6 ⟨⟨u,hu,rfl⟩,hw⟩;subst hw
 have lj:=fH Q
 have lj':=ic Q HQY.out
 have vj:=fL Q
 generalize bo Q=j at *
 obtain⟨tj,etj⟩:∃tj:Nat,tj=j*64+u:=⟨_,rfl⟩
 have eJ:(tj:Int) / 64=(j:Int):=by omega
 have htj:tj≤9223372036854775807:=by omega
 rw [←etj]
 clear etj hu hT1
 obtain⟨g,hg⟩:∃g,g=w.heap.size+1:=⟨_,rfl⟩
 have HI:=hI g (i+j) (N - (i+j)) (List.replicate N 0) _ _ w6.drew (by rw [hg];exact hb4) (limbs_replicate _) ((A1.drop i li).below ((Below.refl _ _).drew)) ((A2.drop j lj).below ((Below.refl _ _).drew))
  (fun b' off' n c e=>by cases e;omega) (fun b' off' n c e=>by cases e;omega) (by simp;omega) (by simp;omega) (by omega)
 rw [List.length_drop,List.length_drop] at HI
 have HVAL:=ac (fun Z ho hs=>mC Z P Q i j N li lj (by omega) vi vj ho hs)
 clear vi vj hI A1 A2
 obtain⟨M,hM1,hM2⟩:∃M,P.length - i+(Q.length - j)=M∧N - (i+j)=M:=⟨_,rfl,by omega⟩
 rw [hM1,hM2] at HI
 rw [hM1] at HVAL
 have eS:(i:Int)+(j:Int)=((i+j:Nat):Int):=by omega
 have hS:i+j+M≤N:=by omega
 have hS2:N≤i+j+M:=by omega
 generalize i+j=s at *
 have wS:IntKind.i64.wrap (s:Int)=(s:Int):=by rw [IntKind.wrap_i64];omega
 have k1:(0:Int)≤(s:Int):=by omega
 have k2:(s:Int)≤(N:Int):=by omega
 have k3:(0:Int)≤(i:Int):=by omega
 have k4:(i:Int)≤(P.length:Int):=by omega
 have k5:(0:Int)≤(j:Int):=by omega
 have k6:(j:Int)≤(Q.length:Int):=by omega
 have k7:(i:Int)≤(c1:Int):=by omega
 have k8:(j:Int)≤(c2:Int):=by omega
 have k9:¬N=s:=by omega
 have k10:¬c1=i:=by omega
 have k11:¬c2=j:=by omega
 clear hM1
 rw [←hg]
 have HG:=ac hg
 clear hg
 unfold way at HI
 have HK:=ac (fun (w7:World) (hF:Fr g w6.drew w7)=>(⟨by rw [World.cell?_of_block (w:=w6.drew) (hF.block w.heap.size (by show _<w6.heap.size;have:=HG.out;omega) (by have:=HG.out;omega))];exact hc04,by rw [World.cell?_of_block (w:=w6.drew) (hF.block w.heap.size (by show _<w6.heap.size;have:=HG.out;omega) (by have:=HG.out;omega))];exact hc14⟩:w7.cell? ⟨w.heap.size,0,none⟩=some (.int .i64 H)∧w7.cell? ⟨w.heap.size,1,none⟩=some (.int .i64 T)))
 go_wp2
 go_region_held3 (fun w'=>w'.cell? ⟨w.heap.size,0,none⟩=some (.int .i64 H)∧w'.cell? ⟨w.heap.size,1,none⟩=some (.int .i64 T)) (go_keep) (first | (go_at_call 175;refine HI.mono ?_;rintro e w7 ⟨rfl,Z',hO,hlz,hB7,hF7,hv7⟩;obtain⟨hk0,hk1⟩:=HK.out w7 hF7;have HD:=ac (And.intro hO (And.intro hlz (And.intro hB7 (And.intro hF7 hv7))));clear hO hlz hB7 hF7 hv7))
 obtain⟨hO,hlz,hB7,hF7,hv7⟩:=HD.out
 have hlZ:Z'.length=N:=by rw [hO.len];simp
 have hvz:=HVAL.out Z' (by exact hO) hv7
 have hans:=(Ans.of_blk (base:=w.heap.size) (zs:=Z') (by have:=HG.out;omega) hB7 List.take_length.symm (Nat.le_refl _) (by omega) hlz).trim
 have HT2:=cz (some ⟨g,0,none⟩) N Z' w7 (by omega) (by omega) (.inr ⟨g,0,rfl,fun k hk=>by rw [Nat.zero_add];exact hB7.cell k hk⟩)
 rw [hlZ] at HT2 hans
 have hlt:=tr_length_le Z'
 have HR:Hid (eD w (val P*val Q) (X.length+Y.length) (.returned (.slice (some ⟨g,0,none⟩) (tr Z').length N)) w7):=
  ac ⟨⟨_,tr Z',rfl,hans,by rw [val_tr,hvz],tr_tr _,by omega⟩,B4.out.trans ((Fr.trans (Fr.refl g w6).drew hF7).below (by have:=HG.out;omega) B4.out.size)⟩
 clear hO hlz hB7 hF7 hv7 HD HVAL HI HK hans hvz hb4 B4 HG
 generalize (tr Z').length=n' at *
 go_wp2_with fail
 refine HT2.mono ?_
 rintro e w8 ⟨rfl,hw⟩;subst hw
 clear HT2
 go_wp2
 go_ret
 exact HR.out

theorem pi (v:Value)(base:Nat)(xs:List Nat)(w:World)(h:Ans w base v xs)(hf:xs.length≤1125899906842624) :
  Calls Tryz.prog 132 #[v] w fun e w'=>w'=w∧Res w base e (val xs):=by
 have ha:=h.arg hf
 obtain⟨ao,cap,rfl,hcap,hmax,hlies⟩:=ha.form
 have hle:=tr_length_le xs
 have H1:=cz _ cap xs w hcap hmax hlies
 have H2:=bB _ _ _ ha
 have HA:Hid (Ans w base (.slice ao (tr xs).length cap) (tr xs)):=h.trim
 have HT:Hid (tr (tr xs)=tr xs∧val (tr xs)=val xs):=⟨tr_tr xs,val_tr xs⟩
 unfold Res
 generalize tr xs=T at *
 generalize val xs=V at *
 generalize blen V=y at *
 clear hlies h ha
 by_cases hy:y≤67108864
 ·go_enter Tryz.func132,Tryz.ntmps132
  go_wp2_with fail
  refine H2.mono ?_
  rintro e w' ⟨rfl,rfl⟩
  go_wp2_with fail
  refine H1.mono ?_
  rintro e w' ⟨rfl,rfl⟩
  go_wp2
  go_ret2
  exact⟨rfl,_,_,T,rfl,HA.out,.inl ⟨rfl,HT.out.2,HT.out.1,hy⟩⟩
 ·go_enter Tryz.func132,Tryz.ntmps132
  go_wp2_with fail
  refine H2.mono ?_
  rintro e w' ⟨rfl,rfl⟩
  go_wp2
  go_ret2
  exact⟨rfl,_,_,[],rfl,Ans.nil _ _,.inr ⟨rfl,rfl,by omega⟩⟩

theorem iU (x:Nat)(h:x≠0):2 ^ (blen x - 1)≤x:=by
 refine Nat.le_of_not_lt fun hlt=>?_
 have h1:=(blen_le_iff x (blen x - 1)).2 hlt
 have h2:blen x≠0:=by unfold blen;rw [if_neg h];omega
 omega

theorem qQ (x y:Nat):cJ x y≤blen (x*y):=by
 unfold cJ
 split
 ·omega
 ·rename_i h
  have hx:x≠0:=fun e=>h (.inl e)
  have hy:y≠0:=fun e=>h (.inr e)
  have bx:blen x≠0:=by unfold blen;rw [if_neg hx];omega
  have by':blen y≠0:=by unfold blen;rw [if_neg hy];omega
  refine Nat.le_of_not_lt fun hlt=>?_
  have h1:blen (x*y)≤(blen x - 1)+(blen y - 1):=by omega
  rw [blen_le_iff,Nat.pow_add] at h1
  have:=Nat.mul_le_mul (iU x hx) (iU y hy)
  omega

theorem qN (w:World):Calls Tryz.prog 94 #[] w fun e w'=>e=.returned (way 40 200)∧Below w.heap.size w w':=by
 go_enter Tryz.func94,Tryz.ntmps94
 go_wp2
 go_returns
 exact⟨rfl,(Below.refl _ _).alloc (Nat.le_refl _) _⟩

theorem Blk.lits (w:World)(zs:List Nat)(cs:Array Value)(t:TypeId)(ht:t=61)(h:cs=(zs.map lv).toArray):Blk (w.alloc (.cells cs t)) w.heap.size zs:=by
 subst h;subst ht
 unfold Blk
 rw [heap_alloc_new]

theorem Arg.lits (w:World)(zs:List Nat)(cs:Array Value)(n:Nat)(hn:n=zs.length)(h:cs=(zs.map lv).toArray)(hl:Limbs zs)(hf:zs.length≤1000):Arg (w.alloc (.cells cs 61)) (.slice (some ⟨w.heap.size,0,none⟩) n n) zs:=by
 subst hn
 have hb:=Blk.lits w zs cs _ rfl h
 exact⟨⟨_,_,rfl,Nat.le_refl _,by omega,.inr ⟨_,0,rfl,fun k hk=>by rw [Nat.zero_add];exact hb.cell k hk⟩⟩,hl,by omega,fun n c e=>by cases e⟩


end Go.Proofs.YtdbjbbdhlpfhjaaGreatDoor
namespace Go.Proofs.YtdbjbbdhlpfhjaaGreatDoor
open Go.RowKit
open Lm
attribute [local go_sem ↓] Go.wp_at_zero Go.wp_at_succ

theorem pv (bz zo n cap:Nat)(Z:List Nat)(va:Value)(X:List Nat)(m:Nat)(w:World)(hB:Blk w bz Z)(hLZ:Limbs Z)(hA:Arg w va X)(ho:Off va bz zo (zo+n))
  (hzo:zo+n≤Z.length) (hc1:n≤cap) (hc2:cap≤9223372036854775807) (hm:m<18446744073709551616) (hfit:X.length<n) :
  Calls Tryz.prog 207 #[.slice (some ⟨bz,zo,none⟩) n cap,va,.int .u64 m] w (io bz zo n Z w (val X*m)):=by
 obtain⟨a1,c1,rfl,hcc1,hcm1,hl1⟩:=hA.form
 have hX:=hA.few
 have M1:=hA.limbs
 have hao:∀b off,a1=some ⟨b,off,none⟩→b≠bz∨off+X.length≤zo∨zo+n≤off:=fun b off e=>by
  subst e
  exact ho b off _ _ rfl
 have L1:=hl1
 clear ho hA hl1
 generalize X=P at *
 have HB0:=ac hB
 have HLZ:=ac hLZ
 go_enter Tryz.func207,Tryz.ntmps207
 go_wp2
 go_loopw [7,16] (fun c i wr=>∃(k cy:Nat) (Z':List Nat),k≤P.length∧i=.int .i64 k∧c=.int .u64 cy∧cy<18446744073709551616∧Out Z Z' zo (zo+k)∧Limbs Z'∧Blk wr bz Z'∧Fr bz w wr ∧
   sv Z' zo k+val (P.take k)*m=sv Z zo k+cy*18446744073709551616 ^ k) (fun _ i _=>P.length - (intOf i).toNat)
 case atStart=>exact⟨0,0,Z,Nat.zero_le _,rfl,rfl,by omega,Out.refl _ _ _,HLZ.out,HB0.out,Fr.refl _ _,by simp [aW,val]⟩
 case round=>
  obtain⟨k,cy,Z',hk,rfl,rfl,hcy,hout,hlz,hblk,hfr0,hval⟩:=hrel
  have HV:=ac hval
  have HB:=ac hblk
  have HF:=ac hfr0
  have HO:=ac hout
  have hl:=hout.len
  clear hval
  by_cases hkl:k<P.length
  ·rcases L1.fr hao hfr0 hB hblk (hout.wider (Nat.le_refl _) (by omega)) with h0|⟨b,off,rfl,hcell⟩
   ·rw [h0] at hkl;simp at hkl
   ·have hck:=hcell k hkl
    have hfr:=hblk.free (zo+k)
    have hco:=hblk.cell (zo+k) (by omega)
    have z1:=limb_lt M1 k
    have z2:=limb_lt hlz (zo+k)
    have hsame:=hout.same (zo+k) (by omega)
    have hft:=iO (P.getD k 0*m) (Z'.getD (zo+k) 0) cy (by have:=Nat.mul_le_mul (Nat.le_sub_one_of_lt z1) (Nat.le_sub_one_of_lt hm);omega) z2 hcy
    have HS:=ac (fun c2 s hs=>ko Z Z' zo k cy c2 s (P.getD k 0*m) _ (by omega) hl HV.out hs)
    rw [←hsame] at HS
    have hst:val (P.take k)*m+18446744073709551616 ^ k*(P.getD k 0*m)=val (P.take (k+1))*m:=by
     rw [val_take_next P k,Nat.add_mul,Nat.mul_assoc]
    rw [hst] at HS
    have ha1:=bO (P.getD k 0*m % 18446744073709551616) cy
    have ha2:=d7 (Z'.getD (zo+k) 0) ((P.getD k 0*m % 18446744073709551616+cy) % 18446744073709551616)
    have hM:=Tryz.bits_Mul64 (P.getD k 0) m z1 hm wr
    generalize Z'.getD (zo+k) 0=z at *
    generalize P.getD k 0=x at *
    generalize hPP:x*m=PP at *
    clear hPP hsame hst
    obtain⟨q1,q2,q3,q4⟩:=hft
    have HS2:=ac (HS.out _ _ q1)
    clear HS q1
    generalize (z+18446744073709551616 - (PP % 18446744073709551616+cy) % 18446744073709551616) % 18446744073709551616=s at *
    generalize bor z ((PP % 18446744073709551616+cy) % 18446744073709551616) 0=un at *
    generalize (PP % 18446744073709551616+cy) % 18446744073709551616=l2 at *
    generalize (PP % 18446744073709551616+cy) / 18446744073709551616=o1 at *
    generalize PP / 18446744073709551616=h1 at *
    generalize PP % 18446744073709551616=l1 at *
    have e1:(h1:Int)+(o1:Int)=((h1+o1:Nat):Int):=by omega
    generalize h1+o1=h2 at *
    have e2:(h2:Int)+(un:Int)=((h2+un:Nat):Int):=by omega
    generalize h2+un=c2 at *
    clear hcell hblk hfr0 hout HV M1 L1 hB hLZ
    go_wp2_with fail
    refine hM.mono ?_
    rintro e w2 ⟨rfl,rfl⟩
    clear hM
    go_wp2
    go_roundw
    case rel=>exact⟨k+1,c2,Z'.set (zo+k) s,by omega,by go_num,rfl,q3,(HO.out.wider (Nat.le_refl _) (by omega)).set _ _ (by omega) (by omega),limbs_set hlz _ _ q4,HB.out.set _ s,HF.out.setCell _ _,HS2.out⟩
    case measure=>simp [intOf];omega
  ·have ek:k=P.length:=by omega
   subst ek
   rw [List.take_length] at HV
   have hbs:=hblk.lt
   have HD:=gX bz (zo+P.length) (n - P.length) (cap - P.length) Z' (.slice (some ⟨wr.heap.size,0,none⟩) 1 1) [cy] (wr.alloc (.cells #[.int .u64 (cy:Int)] 61)) (hblk.alloc _) hlz
    (Arg.lits wr [cy] #[.int .u64 (cy:Int)] 1 rfl rfl (by intro z hz;simp at hz;omega) (by simp)) (fun b off _ _ e=>by cases e;exact .inl (by omega)) (by rw [hl];omega) (by omega) (by omega) (by simp;omega)
   have hcp:¬cap=P.length:=by omega
   have ec1:(n:Int) - (P.length:Int)=((n - P.length:Nat):Int):=by omega
   have ec2:(cap:Int) - (P.length:Int)=((cap - P.length:Nat):Int):=by omega
   clear hblk hfr0 hout L1 hB M1 hLZ
   go_wp2_with fail
   refine HD.mono ?_
   rintro e w3 ⟨c3,Z3,hc3,rfl,ho3,hl3,hb3,hf3,hv3⟩
   have HX:Hid (io bz zo n Z w (val P*m) (.returned (.int .u64 (c3:Int))) w3):=by
    refine⟨c3,Z3,hc3,rfl,?_,hl3,hb3,(HF.out.trans (Fr.of_below ((Below.refl _ _).alloc (Nat.le_refl _) _))).trans hf3,?_⟩
    ·exact (HO.out.wider (Nat.le_refl _) (by omega)).trans (ho3.wider (by omega) (by omega))
    ·obtain⟨d,rfl⟩:∃d,n=P.length+d:=⟨n - P.length,by omega⟩
     rw [Nat.add_sub_cancel_left] at hv3
     have e1:=HV.out
     have e2:=HO.out.sv (zo+P.length) d (by omega)
     have e3:=ho3.sv zo P.length (by omega)
     rw [aF Z3 zo P.length d (by rw [ho3.len,hl];omega),aF Z zo P.length d (by omega),e3,Nat.pow_add]
     rw [e2] at hv3
     have e4:val [cy]=cy:=by simp [val]
     rw [e4] at hv3
     generalize sv Z' zo P.length=a at *
     generalize sv Z zo P.length=b at *
     generalize sv Z3 (zo+P.length) d=c at *
     generalize sv Z (zo+P.length) d=f at *
     generalize val P*m=g at *
     generalize (18446744073709551616:Nat) ^ P.length=W at *
     generalize (18446744073709551616:Nat) ^ d=V at *
     have h5:W*(c+cy)=W*(f+c3*V):=by rw [hv3]
     rw [Nat.mul_add,Nat.mul_add] at h5
     have h6:W*cy=cy*W:=Nat.mul_comm _ _
     have h7:W*(c3*V)=c3*(W*V):=by rw [←Nat.mul_assoc,Nat.mul_comm W c3,Nat.mul_assoc]
     rw [h6,h7] at h5
     generalize W*c=x1 at *
     generalize cy*W=x2 at *
     generalize W*f=x3 at *
     generalize c3*(W*V)=x4 at *
     omega
   clear ho3 hl3 hb3 hf3 hv3 HD
   go_wp2
   go_ret
   exact HX.out

theorem nS (v r:Nat)(hv:v<18446744073709551616)(hr:r<2):bits BinOp.or IntKind.u64 ((v:Int) / 2) ((r*9223372036854775808:Nat):Int)=((v / 2+r*9223372036854775808:Nat):Int):=by
 have h:=walk_shr2 v r 1 (by omega) hv
 have e1:IntKind.u64.wrap ((r:Int)*2 ^ (64 - 1))=((r*9223372036854775808:Nat):Int):=by
  rw [IntKind.wrap_u64,show (2:Int) ^ (64 - 1)=9223372036854775808 by decide]
  omega
 rw [e1,show (2:Int) ^ 1=2 by decide] at h
 rw [h]
 unfold shr
 rw [show (2:Nat) ^ 1=2 by decide,show (2:Nat) ^ (64 - 1)=9223372036854775808 by decide,Nat.mod_eq_of_lt hr]

theorem ro (v S:Nat):v / 2+S % 2*9223372036854775808+18446744073709551616*(S / 2)=(v+18446744073709551616*S) / 2∧(v+18446744073709551616*S) % 2=v % 2:=by
 omega

theorem dl (Z:List Nat)(o j n:Nat)(h:o+j<Z.length)(hj:j<n):sv Z (o+j) (n - j)=Z.getD (o+j) 0+18446744073709551616*sv Z (o+(j+1)) (n - (j+1)):=by
 rw [show n - j=1+(n - (j+1)) by omega,aF _ _ _ _ (by omega),fp _ _ h,Nat.pow_one,←Nat.add_assoc]

theorem oT (bz zo n cap:Nat)(Z:List Nat)(w:World)(hB:Blk w bz Z)(hLZ:Limbs Z)(hzo:zo+n≤Z.length)(hc1:n≤cap)(hc2:cap≤9223372036854775807) :
  Calls Tryz.prog 216 #[.slice (some ⟨bz,zo,none⟩) n cap] w (aK bz zo n Z w (sv Z zo n / 2)):=by
 have HB0:=ac hB
 have HLZ:=ac hLZ
 clear hB
 go_enter Tryz.func216,Tryz.ntmps216
 go_wp2
 go_loopw [2,3] (fun c i wr=>∃(k:Nat) (Z':List Nat),k≤n∧i=.int .i64 ((k:Int) - 1)∧c=.int .u64 ((sv Z (zo+k) (n - k) % 2*9223372036854775808:Nat):Int)∧Out Z Z' (zo+k) (zo+n)∧Limbs Z'∧Blk wr bz Z'∧Fr bz w wr ∧
   sv Z' (zo+k) (n - k)=sv Z (zo+k) (n - k) / 2) (fun _ i _=>(intOf i+1).toNat)
 case atStart=>exact⟨n,Z,Nat.le_refl _,rfl,by rw [Nat.sub_self,aW];rfl,Out.refl _ _ _,HLZ.out,HB0.out,Fr.refl _ _,by rw [Nat.sub_self,aW]⟩
 case round=>
  obtain⟨k,Z',hk,rfl,rfl,hout,hlz,hblk,hfr0,hval⟩:=hrel
  have hl:=hout.len
  by_cases hk0:k=0
  ·subst hk0
   rw [Nat.add_zero,Nat.sub_zero] at hval
   have HD:Hid (Out Z Z' zo (zo+n)∧Limbs Z'∧Blk wr bz Z'∧Fr bz w wr∧sv Z' zo n=sv Z zo n / 2):=ac ⟨by simpa using hout,hlz,hblk,hfr0,hval⟩
   generalize sv Z (zo+0) (n - 0) % 2*9223372036854775808=cy at *
   clear hout hlz hblk hfr0 hval
   go_wp2
   go_end0
   exact⟨rfl,Z',HD.out⟩
  ·obtain⟨j,rfl⟩:∃j,k=j+1:=⟨k - 1,by omega⟩
   have hcons:=dl Z zo j n (by omega) (by omega)
   have hcons':∀s,sv (Z'.set (zo+j) s) (zo+j) (n - j)=s+18446744073709551616*sv Z' (zo+(j+1)) (n - (j+1)):=fun s=>by
    rw [dl (Z'.set (zo+j) s) zo j n (by simp;omega) (by omega),cW,if_pos ⟨rfl,by omega⟩]
    have e:Out Z' (Z'.set (zo+j) s) (zo+j) (zo+(j+1)):=(Out.refl _ _ _).set _ _ (by omega) (by omega)
    rw [e.sv (zo+(j+1)) (n - (j+1)) (by omega)]
   have hsame:=hout.same (zo+j) (by omega)
   have hfr:=hblk.free (zo+j)
   have hco:=hblk.cell (zo+j) (by omega)
   have z2:=limb_lt HLZ.out (zo+j)
   rw [hsame] at hco
   have hst:=ro (Z.getD (zo+j) 0) (sv Z (zo+(j+1)) (n - (j+1)))
   rw [←hcons] at hst
   have hor:=nS (Z.getD (zo+j) 0) (sv Z (zo+(j+1)) (n - (j+1)) % 2) z2 (Nat.mod_lt _ (by omega))
   have HS:=ac (hcons' (Z.getD (zo+j) 0 / 2+sv Z (zo+(j+1)) (n - (j+1)) % 2*9223372036854775808))
   rw [hval,hst.1] at HS
   have HM:=ac hst.2
   have hs1:Z.getD (zo+j) 0 / 2+sv Z (zo+(j+1)) (n - (j+1)) % 2*9223372036854775808<18446744073709551616:=by
    have:=Nat.mod_lt (sv Z (zo+(j+1)) (n - (j+1))) (show 0<2 by omega)
    omega
   clear hst hcons hcons' hsame hval
   generalize sv Z (zo+(j+1)) (n - (j+1)) % 2*9223372036854775808=cy at *
   generalize Z.getD (zo+j) 0=v at *
   generalize v / 2+cy=s at *
   have ewr:IntKind.u64.wrap ((v:Int)*9223372036854775808)=((v % 2*9223372036854775808:Nat):Int):=by rw [IntKind.wrap_u64];omega
   obtain⟨c2,hc2'⟩:∃c2,c2=v % 2*9223372036854775808:=⟨_,rfl⟩
   rw [←hc2'] at ewr
   have HC2:Hid (c2=sv Z (zo+j) (n - j) % 2*9223372036854775808):=ac (by rw [hc2',HM.out])
   clear hc2' HM
   have ej:(((j+1:Nat):Int) - 1)=(j:Int):=by omega
   rw [ej]
   have HB:=ac hblk
   have HF:=ac hfr0
   have HO:=ac hout
   clear hblk hfr0 hout ej
   have hi1:(0:Int)≤(j:Int):=by omega
   have hi2:(j:Int)<(n:Int):=by omega
   go_wp2
   go_roundw
   case rel=>
    exact⟨j,Z'.set (zo+j) s,by omega,rfl,by rw [HC2.out],(HO.out.wider (by omega) (Nat.le_refl _)).set _ _ (Nat.le_refl _) (by omega),limbs_set hlz _ _ hs1,HB.out.set _ s,HF.out.setCell _ _,HS.out⟩
   case measure=>simp [intOf]
end Go.Proofs.YtdbjbbdhlpfhjaaGreatDoor

