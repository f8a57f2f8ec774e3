/- Package div: the highest bits of two numbers. -/
import Derived.Test.YtdbjbbdhlpfhjaaGreatDoorB12
import Derived.Test.YtdbjbbdhlpfhjaaGreatDoorB04
import Derived.Test.YtdbjbbdhlpfhjaaGreatDoorB07
import Derived.Test.YtdbjbbdhlpfhjaaGreatDoorB02
import Derived.BigQuiet
import Derived.Deep.QuietTactic
set_option maxRecDepth 20000
set_option maxHeartbeats 1000000
namespace Go.Proofs.YtdbjbbdhlpfhjaaGreatDoor
open Go.RowKit
open Lm
attribute [local go_sem ↓] Go.wp_at_zero Go.wp_at_succ

theorem lk (X:List Nat)(k:Nat):limbI X (k:Int)=X.getD k 0:=by
 unfold limbI;rw [if_neg (by omega),Int.toNat_natCast]

theorem jt (ao:Option Addr)(cap:Nat)(X:List Nat)(n s i j gn gs:Nat)(w:World)(hX:X.length≤1125899906842624)(hl:an w ao X)(hL:Limbs X)(hi:n=i+1)(hj:i=j+1)(hn:n≤1125899906842624)(hs:s<64)
  (hcn:w.cell? ⟨gn,0,none⟩=some (.int .i64 (n:Int))) (hcs:w.cell? ⟨gs,0,none⟩=some (.int .i64 (s:Int))) (htop:X.getD i 0*2 ^ s<18446744073709551616) (_:X.getD i 0*2 ^ s+X.getD j 0 / 2 ^ (64 - s)<18446744073709551616) :
  Calls Tryz.prog 155 #[.slice ao X.length cap,.pointer (some ⟨gn,0,none⟩),.pointer (some ⟨gs,0,none⟩)] w fun e w'=>e=.returned (.int .u64 ((X.getD i 0*2 ^ s+X.getD j 0 / 2 ^ (64 - s):Nat):Int))∧ak w w':=by
 have D1:=fun (w':World) (h:an w' ao X)=>fd ao cap X (i:Int) w' hX (by omega) (by omega) h
 have D2:=fun (w':World) (h:an w' ao X)=>fd ao cap X (j:Int) w' hX (by omega) (by omega) h
 rw [lk] at D1 D2
 have e1:(n:Int) - 1=(i:Int):=by omega
 have e2:(n:Int) - 2=(j:Int):=by omega
 have wi:IntKind.i64.wrap (i:Int)=(i:Int):=by rw [IntKind.wrap_i64];omega
 have wj:IntKind.i64.wrap (j:Int)=(j:Int):=by rw [IntKind.wrap_i64];omega
 have hlo:=limb_lt hL j
 have hhi:=limb_lt hL i
 generalize X.getD i 0=hi' at *
 generalize X.getD j 0=lo at *
 have hl1:=shr_lt lo s (by omega) hlo
 have r4:=cN hi' s (hi'*2 ^ s) (Nat.mod_eq_of_lt htop)
 have r7:=fO hi' s (lo / 2 ^ (64 - s)) (hi'*2 ^ s+lo / 2 ^ (64 - s)) (by omega) hl1 htop rfl
 have r6:=walk_shr lo (64 - s)
 have r5:(64:Int) - (s:Int)=((64 - s:Nat):Int):=by omega
 have ht:64 - s≤64:=by omega
 generalize hU:hi'*2 ^ s+lo / 2 ^ (64 - s)=U at *
 generalize lo / 2 ^ (64 - s)=l1 at *
 generalize 64 - s=t at *
 have wt:IntKind.i64.wrap (t:Int)=(t:Int):=by rw [IntKind.wrap_i64];omega
 generalize hi'*2 ^ s=h1 at *
 have HLL:Hid (∀w',ak w w'→an w' ao X):=fun w' h=>hl.below (h.below _)
 have Q1:∀k,Calls Tryz.prog 156 #[.slice ao X.length cap,.int .i64 (i:Int)] (w.drewN k) fun e w'=>e=.returned (.int .u64 (hi':Int))∧w'=w.drewN k:=fun k=>D1 _ (HLL.out _ ((ak.refl _).drewN k))
 have Q2:∀k,Calls Tryz.prog 156 #[.slice ao X.length cap,.int .i64 (j:Int)] (w.drewN k) fun e w'=>e=.returned (.int .u64 (lo:Int))∧w'=w.drewN k:=fun k=>D2 _ (HLL.out _ ((ak.refl _).drewN k))
 clear D1 D2 hl hi hj hU hL
 go_enter Tryz.func155,Tryz.ntmps155
 go_wp2
 go_quiet (first | (go_at_call_of 156 i;exact (Q1 _).mono (fun _ _ h=>⟨h.1,_,h.2⟩)) | (go_at_call 156;exact (Q2 _).mono (fun _ _ h=>⟨h.1,_,h.2⟩)))
 go_wp2
 go_ret
 exact⟨rfl,(ak.refl _).drewN _⟩

theorem eZ (X:List Nat)(j s:Nat)(hL:Limbs X)(hlen:X.length≤j+2)(hs:s<64) :
  ∃xl,val X=(X.getD (j+1) 0*2 ^ s+X.getD j 0 / 2 ^ (64 - s))*(18446744073709551616 ^ j*2 ^ (64 - s))+xl∧xl<18446744073709551616 ^ j*2 ^ (64 - s):=by
 have e1:val X=val (X.take j)+18446744073709551616 ^ j*X.getD j 0+18446744073709551616 ^ (j+1)*X.getD (j+1) 0:=by
  rw [←val_take_next,←val_take_next,List.take_of_length_le hlen]
 have e2:(18446744073709551616:Nat)=2 ^ s*2 ^ (64 - s):=by rw [←Nat.pow_add,show s+(64 - s)=64 by omega]
 have h3:val (X.take j)<18446744073709551616 ^ j:=by
  have h1:Limbs (X.take j):=fun z hz=>hL z (List.mem_of_mem_take hz)
  exact Nat.lt_of_lt_of_le (val_lt h1) (Nat.pow_le_pow_right (by omega) (by simp;omega))
 have h4:=Nat.div_add_mod (X.getD j 0) (2 ^ (64 - s))
 have h5:=Nat.mod_lt (X.getD j 0) (Nat.two_pow_pos (64 - s))
 refine⟨val (X.take j)+18446744073709551616 ^ j*(X.getD j 0 % 2 ^ (64 - s)),?_,?_⟩
 ·rw [e1,Nat.pow_succ]
  generalize (18446744073709551616:Nat) ^ j=B at *
  generalize X.getD (j+1) 0=h at *
  generalize X.getD j 0=l at *
  have e3:B*18446744073709551616*h=B*(2 ^ s*2 ^ (64 - s))*h:=by rw [←e2]
  rw [e3]
  generalize 2 ^ (64 - s)=Q at *
  generalize 2 ^ s=S at *
  generalize l / Q=q at *
  generalize l % Q=r at *
  subst h4
  grind
 ·generalize (18446744073709551616:Nat) ^ j=B at *
  generalize X.getD j 0 % 2 ^ (64 - s)=r at *
  generalize 2 ^ (64 - s)=Q at *
  have h6:B*(r+1)≤B*Q:=Nat.mul_le_mul_left _ h5
  rw [Nat.mul_add,Nat.mul_one] at h6
  omega

theorem fK {h s:Nat}(hs:s<64)(hh:h*2 ^ s<18446744073709551616)(l:Nat)(hl:l<18446744073709551616):h*2 ^ s+l / 2 ^ (64 - s)<18446744073709551616:=by
 have e2:(18446744073709551616:Nat)=2 ^ s*2 ^ (64 - s):=by rw [←Nat.pow_add,show s+(64 - s)=64 by omega]
 have h1:=shr_lt l s (by omega) hl
 have h2:h<2 ^ (64 - s):=by
  rw [e2,Nat.mul_comm (2 ^ s)] at hh
  exact Nat.lt_of_mul_lt_mul_right hh
 have h3:(h+1)*2 ^ s≤2 ^ (64 - s)*2 ^ s:=Nat.mul_le_mul_right _ h2
 rw [Nat.mul_comm (2 ^ (64 - s)),←e2,Nat.add_mul,Nat.one_mul] at h3
 omega

def nB (x y:Nat)(w:World)(e:Ending)(w':World):Prop:=
 (∃xh yh xl yl Pw:Nat,e=.returned (.tuple #[.int .u64 (xh:Int),.int .u64 (yh:Int)])∧x=xh*Pw+xl∧y=yh*Pw+yl∧xl<Pw∧yl<Pw∧xh<18446744073709551616∧yh≤xh)∧Below w.heap.size w w'

theorem iv (bx ox capx:Nat)(ay:Option Addr)(capy:Nat)(X Y:List Nat)(w:World)(hlx:an w (some ⟨bx,ox,none⟩) X)(hly:an w ay Y)(hLX:Limbs X)(hLY:Limbs Y)(hX:X.length≤1125899906842624)(htx:tr X=X)(h2:2≤X.length)(hle:val Y≤val X)(hYl:Y.length≤X.length) :
  Calls Tryz.prog 110 #[.slice (some ⟨bx,ox,none⟩) X.length capx,.slice ay Y.length capy] w (nB (val X) (val Y) w):=by
 obtain⟨n,hn⟩:∃n,X.length=n:=⟨_,rfl⟩
 obtain⟨i,hi⟩:∃i,n=i+1:=⟨n - 1,by omega⟩
 obtain⟨j,hj⟩:∃j,i=j+1:=⟨i - 1,by omega⟩
 have htop:=tr_last' X i htx (by omega)
 have hyt:=limb_lt hLX i
 obtain⟨n1,n2,n3,n4⟩:=norm_y (X.getD i 0) (by omega) hyt
 obtain⟨s,hs⟩:∃s,s=64 - Lib.bitLen (X.getD i 0):=⟨_,rfl⟩
 have hsI:(64:Int) - (Lib.bitLen (X.getD i 0):Int)=(s:Int):=by omega
 rw [←hs] at n3 n4
 have hs63:s<64:=by omega
 have HLZ:=fun W=>Tryz.bits_LeadingZeros64 ((X.getD i 0:Nat):Int) W (by omega) (by omega)
 rw [Int.toNat_natCast,hsI] at HLZ
 obtain⟨xl,ex1,ex2⟩:=eZ X j s hLX (by omega) hs63
 obtain⟨yl,ey1,ey2⟩:=eZ Y j s hLY (by omega) hs63
 have hylt:Y.getD i 0≤X.getD i 0:=by
  have k1:val X<(X.getD i 0+1)*18446744073709551616 ^ i:=by
   have e:val X=val (X.take i)+18446744073709551616 ^ i*X.getD i 0:=by rw [←val_take_next,List.take_of_length_le (by omega)]
   have h3:val (X.take i)<18446744073709551616 ^ i:=Nat.lt_of_lt_of_le (val_lt (fun z hz=>hLX z (List.mem_of_mem_take hz))) (Nat.pow_le_pow_right (by omega) (by simp;omega))
   rw [e,Nat.add_mul,Nat.one_mul,Nat.mul_comm (X.getD i 0)];omega
  have k2:18446744073709551616 ^ i*Y.getD i 0≤val Y:=by
   have e:val Y=val (Y.take i)+18446744073709551616 ^ i*Y.getD i 0:=by rw [←val_take_next,List.take_of_length_le (by omega)]
   omega
  refine Nat.le_of_not_lt fun hlt=>?_
  have k3:(X.getD i 0+1)*18446744073709551616 ^ i≤Y.getD i 0*18446744073709551616 ^ i:=Nat.mul_le_mul_right _ hlt
  rw [Nat.mul_comm (Y.getD i 0)] at k3
  omega
 have hyn:Y.getD i 0*2 ^ s<18446744073709551616:=Nat.lt_of_le_of_lt (Nat.mul_le_mul_right _ hylt) n4
 have fx:=fK hs63 n4 (X.getD j 0) (limb_lt hLX j)
 have fy:=fK hs63 hyn (Y.getD j 0) (limb_lt hLY j)
 rw [←hj] at ex1 ey1
 have hyx:Y.getD i 0*2 ^ s+Y.getD j 0 / 2 ^ (64 - s)≤X.getD i 0*2 ^ s+X.getD j 0 / 2 ^ (64 - s):=by
  generalize Y.getD i 0*2 ^ s+Y.getD j 0 / 2 ^ (64 - s)=yh at *
  generalize X.getD i 0*2 ^ s+X.getD j 0 / 2 ^ (64 - s)=xh at *
  generalize 18446744073709551616 ^ j*2 ^ (64 - s)=Q at *
  refine Nat.le_of_not_lt fun hlt=>?_
  have:=Nat.mul_le_mul_right Q hlt
  rw [Nat.succ_mul] at this
  omega
 have HF:=aa (And.intro ex1 (And.intro ey1 (And.intro ex2 (And.intro ey2 (And.intro fx hyx)))))
 have C1:=fun gn gs W hl=>jt (some ⟨bx,ox,none⟩) capx X n s i j gn gs W hX hl hLX hi hj (by omega) hs63
 have C2:=fun gn gs W hl=>jt ay capy Y n s i j gn gs W (by omega) hl hLY hi hj (by omega) hs63
 have HC1:=aa C1
 have HC2:=aa C2
 have hcell:w.cell? ⟨bx,ox+i,none⟩=some (.int .u64 ((X.getD i 0:Nat):Int)):=by
  rcases hlx with h0|⟨b,off,e,hc⟩
  ·rw [h0] at hn;simp at hn;omega
  ·cases e;exact hc i (by omega)
 obtain⟨w0,hw0⟩:∃w0,w0=w.alloc (.cells #[.int .i64 (n:Int)] 3):=⟨_,rfl⟩
 obtain⟨w2,hw2⟩:∃w2,w2=w0.alloc (.cells #[.int .i64 (s:Int)] 3):=⟨_,rfl⟩
 have hs0:w0.heap.size=w.heap.size+1:=by rw [hw0];exact World.size_alloc _ _
 have hb0:Below w.heap.size w w0:=by rw [hw0];exact (Below.refl _ _).alloc (Nat.le_refl _) _
 have hb2:Below w.heap.size w w2:=by rw [hw2];exact hb0.alloc hb0.size _
 have h0:w0.heap[w.heap.size]?=some (.cells #[.int .i64 (n:Int)] 3):=by rw [hw0];exact heap_alloc_new ..
 have q1:w2.heap[w.heap.size+1]?=some (.cells #[.int .i64 (s:Int)] 3):=by
  rw [hw2]
  have h:=heap_alloc_new w0 (.cells #[.int .i64 (s:Int)] 3)
  rw [hs0] at h
  exact h
 have q0:w2.heap[w.heap.size]?=some (.cells #[.int .i64 (n:Int)] 3):=by
  have hb:Below w0.heap.size w0 w2:=by rw [hw2];exact (Below.refl _ _).alloc (Nat.le_refl _) _
  rw [hb.block w.heap.size (by omega)];exact h0
 have M1:=HC1.out w.heap.size (w.heap.size+1) w2 (hlx.below hb2) (by simp [World.cell?,q0]) (by simp [World.cell?,q1]) n4 fx
 have M2:=aa (fun (w3:World) (h:ak w2 w3)=>HC2.out w.heap.size (w.heap.size+1) w3 ((hly.below hb2).below (h.below _)) (by simp [World.cell?,h.heap,q0]) (by simp [World.cell?,h.heap,q1]) hyn fy)
 have hc0:=iH hb0 hcell
 have hn0:w0.cell? ⟨w.heap.size,0,none⟩=some (.int .i64 (n:Int)):=by simp [World.cell?,h0]
 rw [hw0] at hc0 hn0
 have HW:=aa (show (w.alloc (.cells #[.int .i64 (n:Int)] 3)).alloc (.cells #[.int .i64 (s:Int)] 3)=w2 by rw [hw2,hw0])
 have HB2:=aa hb2
 have e1:(n:Int) - 1=(i:Int):=by omega
 have k0:(0:Int)≤(i:Int):=by omega
 have k1:(i:Int)<(n:Int):=by omega
 have wi:IntKind.i64.wrap (i:Int)=(i:Int):=by rw [IntKind.wrap_i64];omega
 have hnl:n≤1125899906842624:=by omega
 rw [hn]
 rw [hn] at M1
 generalize X.getD i 0=y at *
 generalize y*2 ^ s+X.getD j 0 / 2 ^ (64 - s)=xh at *
 generalize Y.getD i 0*2 ^ s+Y.getD j 0 / 2 ^ (64 - s)=yh at *
 clear C1 C2 HC1 HC2 ex1 ex2 ey1 ey2 fx fy hyx hylt htop n1 n2 n3 n4 hs hsI hi hj hlx hly hyn hle hn hw0 hw2 hs0 hb0 hb2 h0 q0 q1 hcell
 go_enter Tryz.func110,Tryz.ntmps110
 go_wp2_with fail
 refine (HLZ _).mono ?_
 rintro e wn ⟨rfl,hw⟩;rw [hw];clear hw wn HLZ
 go_wp2_with fail
 rw [HW.out]
 refine M1.mono ?_
 rintro e w3 ⟨rfl,hs3⟩
 have M3:=M2.out w3 hs3
 have HS3:=aa hs3
 clear M1 M2 hs3
 go_wp2_with fail
 refine M3.mono ?_
 rintro e w4 ⟨rfl,hs4⟩
 have HB4:=aa ((HB2.out.trans (HS3.out.below _)).trans (hs4.below _))
 clear M3 hs4
 go_wp2
 go_ret2
 obtain⟨f1,f2,f3,f4,f5,f6⟩:=HF.out
 exact⟨⟨xh,yh,xl,yl,_,rfl,f1,f2,f3,f4,f5,f6⟩,HB4.out⟩

end Go.Proofs.YtdbjbbdhlpfhjaaGreatDoor
