/- The document's whole numbers: make1, Of, Sign, Neg, Abs. -/
import Derived.Test.YtcbpdngogkbndaaGreatDoorB02
import Derived.Test.YtcbpdngogkbndaaGreatDoorB01
import Derived.Test.YtcbpdngogkbndaaGreatDoorB09
import Derived.Deep.RegionHeld3
import Derived.Maps.AppendAt
set_option maxHeartbeats 4000000
namespace Go.Proofs.YtcbpdngogkbndaaGreatDoor
open Go.RowKit
open Lm
attribute [local go_sem ↓] Go.wp_at_zero Go.wp_at_succ

def Zn (w:World)(v:Value)(z:Int):Prop:=∃u,v=.agg #[.bool (decide (z<0)),u]∧Num w u z.natAbs

theorem Zn.below {w w':World}{v:Value}{z:Int}(h:Zn w v z)(hb:Below w.heap.size w w'):Zn w' v z:=by
 obtain⟨u,h1,h2⟩:=h
 exact⟨u,h1,h2.below hb⟩

theorem Num.sl {w:World}{v:Value}{x:Nat}(h:Num w v x):∃a n c,v=.slice a n c:=by
 obtain⟨ds,hA,_⟩:=h
 obtain⟨a,c,e,_⟩:=hA.form
 exact⟨a,_,c,e⟩

theorem oa (b:Bool)(x:Nat):(b && !(x == 0))=decide (zz b x<0):=by
 cases b
 ·simp [zz]
 ·simp only [Bool.true_and,zz,if_true]
  by_cases h:x=0
  ·subst h;rfl
  ·have h1:(x == 0)=false:=by simpa using h
   rw [h1]
   exact (decide_eq_true (by omega)).symm

theorem j9 (b:Bool)(u:Value)(x:Nat)(w:World)(h:Num w u x) :
  Calls Tryz.prog 50 #[.bool b,u] w fun e w'=>(∃v,e=.returned v∧Zn w' v (zz b x))∧Below w.heap.size w w':=by
 obtain⟨a,n,c,rfl⟩:=h.sl
 cases b
 ·have HB:=aa (aI w (.cells #[.bool false,.slice a n c] 32))
  have HN:=aa (h.below HB.out)
  clear h
  go_enter Tryz.func50,Tryz.ntmps50
  go_wp2
  go_returns
  exact⟨⟨_,rfl,.slice a n c,by simp [zz],by rw [aD];exact HN.out⟩,HB.out⟩
 ·obtain⟨w0,hw0⟩:∃w0,w.alloc (.cells #[.bool false,.slice none 0 0] 32)=w0:=⟨_,rfl⟩
  have hb0:Below w.heap.size w w0:=by rw [←hw0];exact aI _ _
  have h0:w0.heap[w.heap.size]?=some (.cells #[.bool false,.slice none 0 0] 32):=by rw [←hw0];exact heap_alloc_new ..
  have hf0:=af h0
  obtain⟨k0,k1⟩:=duo h0
  have HZ:=gb _ x w0 (h.below hb0)
  obtain⟨t,ht⟩:∃t:Bool,(!(x == 0))=t:=⟨_,rfl⟩
  have hzt:=oa true x
  rw [Bool.true_and,ht] at hzt
  have ht2:(x == 0)=!t:=by rw [←ht,Bool.not_not]
  rw [ht2] at HZ
  have HN:=aa h
  have HB0:=aa hb0
  have HBX:=aa h0
  have HZT:=aa hzt
  clear h hb0 h0 ht ht2 hzt
  go_enter Tryz.func50,Tryz.ntmps50
  go_wp2_with fail
  refine HZ.mono ?_
  rintro e wn ⟨rfl,hw⟩;rw [hw];clear hw wn HZ
  go_wp2
  have R5:=av HBX.out (a':=.bool t) (b':=.slice a n c)
  have HD:=aa (az HB0.out (g:=w.heap.size) (u0:=.bool t) (u1:=.slice a n c) (Nat.le_refl _))
  generalize (w0.setCell ⟨w.heap.size,0,none⟩ (.bool t)).setCell ⟨w.heap.size,1,none⟩ (.slice a n c)=w5 at *
  obtain⟨q0,q1⟩:=duo R5
  refine bodyPost_ret (v:=.agg #[.bool t,.slice a n c]) (by simp [results,Tryz.results50,go_sem,q0,q1]) rfl ?_
  exact⟨⟨_,rfl,_,by rw [HZT.out],by rw [aD];exact HN.out.below HD.out⟩,HD.out⟩

theorem Zn.sl {w:World}{v:Value}{z:Int}(h:Zn w v z):∃b a n k,v=.agg #[.bool b,.slice a n k]:=by
 obtain⟨u,h1,h2⟩:=h
 obtain⟨a,n,k,rfl⟩:=h2.sl
 exact⟨_,_,_,_,h1⟩

theorem aN {w:World}{g k g' k':Nat}{u:Value}(h:g≠g'):(w.setCell ⟨g,k,none⟩ u).cell? ⟨g',k',none⟩=w.cell? ⟨g',k',none⟩:=by
 simp only [World.cell?]
 rw [Below.heap_setCell _ _ _ _ (by exact Ne.symm h)]

theorem ak.box {w:World}{ao:Option Addr}{zs:List Nat}{g o:Nat}{p:Bool}{a:Option Addr}{n c:Nat}{t:TypeId}{u:Value}(h:ak w ao zs)(hl:w.heap[g]?=some (.cells #[.bool p,.slice a n c] t)):ak (w.setCell ⟨g,o,none⟩ u) ao zs:=by
 rcases h with h|⟨b,off,rfl,hc⟩
 ·exact .inl h
 ·rcases Nat.eq_zero_or_pos zs.length with h0|h0
  ·exact .inl (List.eq_nil_of_length_eq_zero h0)
  ·refine .inr ⟨b,off,rfl,fun k hk=>?_⟩
   rw [aN]
   ·exact hc k hk
   ·rintro rfl
    have h1:=hc 0 h0
    rw [Nat.add_zero] at h1
    simp only [World.cell?,hl] at h1
    match off,h1 with
    | 0,h1=>simp at h1
    | 1,h1=>simp at h1
    | k+2,h1=>simp at h1

theorem Arg.box {w:World}{v:Value}{zs:List Nat}{g o:Nat}{p:Bool}{a:Option Addr}{n c:Nat}{t:TypeId}{u:Value}(h:Arg w v zs)(hl:w.heap[g]?=some (.cells #[.bool p,.slice a n c] t)):Arg (w.setCell ⟨g,o,none⟩ u) v zs:=by
 obtain⟨ao,cap,h1,h2,h3,h4⟩:=h.form
 exact⟨⟨ao,cap,h1,h2,h3,h4.box hl⟩,h.limbs,h.few,h.nz⟩

theorem Arg.duo {w:World}{v:Value}{zs:List Nat}{g:Nat}{p:Bool}{a:Option Addr}{n c:Nat}{t:TypeId}{p1:Bool}{r1:Value}(h:Arg w v zs)(hl:w.heap[g]?=some (.cells #[.bool p,.slice a n c] t)):Arg ((w.setCell ⟨g,0,none⟩ (.bool p1)).setCell ⟨g,1,none⟩ r1) v zs:=
 (h.box hl).box (bF hl (.bool p1))

theorem Num.duo {w:World}{v:Value}{x g:Nat}{p:Bool}{a:Option Addr}{n c:Nat}{t:TypeId}{p1:Bool}{r1:Value}(h:Num w v x)(hl:w.heap[g]?=some (.cells #[.bool p,.slice a n c] t)):Num ((w.setCell ⟨g,0,none⟩ (.bool p1)).setCell ⟨g,1,none⟩ r1) v x:=by
 obtain⟨ds,hA,hr⟩:=h
 exact⟨ds,hA.duo hl,hr⟩

theorem Zn.duo {w:World}{v:Value}{z:Int}{g:Nat}{p:Bool}{a:Option Addr}{n c:Nat}{t:TypeId}{p1:Bool}{r1:Value}(h:Zn w v z)(hl:w.heap[g]?=some (.cells #[.bool p,.slice a n c] t)):Zn ((w.setCell ⟨g,0,none⟩ (.bool p1)).setCell ⟨g,1,none⟩ r1) v z:=by
 obtain⟨u,h1,h2⟩:=h
 exact⟨u,h1,h2.duo hl⟩

def bf (w:World)(z:Int)(e:Ending)(w':World):Prop:=(∃b a n k,e=.returned (.agg #[.bool b,.slice a n k])∧Zn w' (.agg #[.bool b,.slice a n k]) z)∧Below w.heap.size w w'

theorem bJ (b:Bool)(u:Value)(x:Nat)(w:World)(h:Num w u x):Calls Tryz.prog 50 #[.bool b,u] w (bf w (zz b x)):=by
 refine (j9 b u x w h).mono ?_
 rintro e w' ⟨⟨v,rfl,hz⟩,hb⟩
 obtain⟨b,a,n,k,rfl⟩:=hz.sl
 exact⟨⟨b,a,n,k,rfl,hz⟩,hb⟩

theorem iD (b:Bool)(v:Value)(X:List Nat)(w:World)(hA:Arg w v X)(hf:X.length≤17592186044416) :
  Calls Tryz.prog 31 #[.bool b,v] w (bf w (zz b (val X))):=by
 obtain⟨a,n,rfl,_,_,_⟩:=hA.form
 obtain⟨w0,hw0,hb0,hx0⟩:=aB w (.cells #[.bool false,.slice none 0 0] 32)
 have HO:=dz _ X w0 (hA.below hb0) hf
 have HB0:=aa hb0
 have HX0:=aa hx0
 clear hA hb0 hx0
 go_enter Tryz.func31,Tryz.ntmps31
 go_wp2_with fail
 refine HO.mono ?_
 rintro e w1 ⟨⟨v1,rfl,hn⟩,hb1⟩
 have HM:=bJ b v1 (val X) w1 hn
 have HW1:=aa hb1
 obtain⟨a2,n2,k2,rfl⟩:=hn.sl
 clear hn hb1 HO
 go_wp2_with fail
 refine HM.mono ?_
 rintro e w2 ⟨⟨b1,a1,n1,k1,rfl,hzn⟩,hb2⟩
 have HZN:=aa hzn
 have HW:=aa (HW1.out.trans (hb2.mono HW1.out.size))
 clear hzn hb2 HM hw0
 have hbx:=ab HW.out HX0.out
 have hf1:=af hbx
 obtain⟨l0,l1⟩:=duo hbx
 have HBX:=aa hbx
 have HBE:=aa (HB0.out.trans (HW.out.mono HB0.out.size))
 clear hbx
 go_wp2
 have R5:=av HBX.out (a':=.bool b1) (b':=.slice a1 n1 k1)
 have HD:=aa (And.intro (HZN.out.duo (p1:=b1) (r1:=.slice a1 n1 k1) HBX.out) (az HBE.out (g:=w.heap.size) (u0:=.bool b1) (u1:=.slice a1 n1 k1) (by omega)))
 generalize (w2.setCell ⟨w.heap.size,0,none⟩ (.bool b1)).setCell ⟨w.heap.size,1,none⟩ (.slice a1 n1 k1)=w5 at *
 obtain⟨q0,q1⟩:=duo R5
 refine bodyPost_ret (v:=.agg #[.bool b1,.slice a1 n1 k1]) (by simp [results,Tryz.results31,go_sem,q0,q1]) rfl ?_
 exact⟨⟨_,_,_,_,rfl,HD.out.1⟩,HD.out.2⟩
end Go.Proofs.YtcbpdngogkbndaaGreatDoor
namespace Go.Proofs.YtcbpdngogkbndaaGreatDoor
open Go.RowKit
open Lm

def kd (w:World)(base:Nat)(b1:Bool)(v1:Value)(b2:Bool)(v2:Value)(c qz rz:Int):Prop:=
 ∃rs1 rs2,Ans w base v1 rs1∧Ans w base v2 rs2∧(v1.ownBlock=none∨v1.ownBlock≠v2.ownBlock) ∧
  ((c=0∧b1=decide (qz<0)∧val rs1=qz.natAbs∧tr rs1=rs1∧b2=decide (rz<0)∧val rs2=rz.natAbs∧tr rs2=rs2∧blen qz.natAbs≤67108864∧blen rz.natAbs≤67108864) ∨
   (c=3∧b1=false∧v1=.slice none 0 0∧b2=false∧v2=.slice none 0 0∧rs1=[]∧rs2=[]∧(67108864<blen qz.natAbs∨67108864<blen rz.natAbs)))

def gf (w:World)(qz rz:Int)(e:Ending)(w':World):Prop:=
 (∃b1 a1 n1 k1 b2 a2 n2 k2 c,e=.returned (.tuple #[.agg #[.bool b1,.slice a1 n1 k1],.agg #[.bool b2,.slice a2 n2 k2],.int .i64 c])∧kd w' w.heap.size b1 (.slice a1 n1 k1) b2 (.slice a2 n2 k2) c qz rz)∧Below w.heap.size w w'

theorem ck {w:World}{base g:Nat}{a b a' b' u0 u1 u2 u3:Value}(h2:w.heap[g]?=some (.cells #[a,b] 27))(h3:w.heap[g+1]?=some (.cells #[a',b'] 27)) :
  ((((w.setCell ⟨g,0,none⟩ u0).setCell ⟨g,1,none⟩ u1).setCell ⟨g+1,0,none⟩ u2).setCell ⟨g+1,1,none⟩ u3).heap[g]?=some (.cells #[u0,u1] 27) ∧
  ((((w.setCell ⟨g,0,none⟩ u0).setCell ⟨g,1,none⟩ u1).setCell ⟨g+1,0,none⟩ u2).setCell ⟨g+1,1,none⟩ u3).heap[g+1]?=some (.cells #[u2,u3] 27) ∧
  (∀v zs,Ans w base v zs→Ans ((((w.setCell ⟨g,0,none⟩ u0).setCell ⟨g,1,none⟩ u1).setCell ⟨g+1,0,none⟩ u2).setCell ⟨g+1,1,none⟩ u3) base v zs):=by
 have h4:=dA (u0:=u0) (u1:=u1) h3 (show g+1≠g by omega)
 refine⟨dA (av h2) (by omega),av h4,fun v zs hA=>?_⟩
 exact (hA.duo h2).duo h4

def ba (zs:List Nat):List Nat:=10855845 :: 10855845 :: (zs ++ [10855845,10855845])

theorem fV (zs:List Nat):(ba zs).length=zs.length+4:=by simp [ba]

theorem gP (zs:List Nat)(k:Nat)(h:k<zs.length):(ba zs).getD (k+2) 0=zs.getD k 0:=by
 simp [ba,List.getD,h,List.getElem?_append_left h]

theorem ke (zs:List Nat)(k:Nat)(h:k<2):(ba zs).getD k 0=10855845:=by
 match k,h with
 | 0,_=>rfl
 | 1,_=>rfl

theorem iS (zs:List Nat)(k:Nat)(h1:zs.length+2≤k)(h2:k<zs.length+4):(ba zs).getD k 0=10855845:=by
 obtain⟨j,rfl⟩:∃j,k=zs.length+j+2:=⟨k - 2 - zs.length,by omega⟩
 match j,show j<2 by omega with
 | 0,_=>simp [ba,List.getD]
 | 1,_=>simp [ba,List.getD]

theorem eX (a b:List Nat)(x y:Nat):(a ++ x :: b).set a.length y=(a ++ [y]) ++ b:=by
 simp

def bX (m k:Nat):List Nat:=List.replicate k 10855845 ++ List.replicate (m - k) 0

theorem i9 (m k:Nat)(h:k<m):(bX m k).set k 10855845=bX m (k+1):=by
 unfold bX
 have e:m - k=(m - (k+1))+1:=by omega
 rw [e,List.replicate_succ]
 have:=eX (List.replicate k 10855845) (List.replicate (m - (k+1)) 0) 0 10855845
 rw [List.length_replicate] at this
 rw [this,←List.replicate_succ']

theorem jP (m k:Nat)(h:k≤m):(bX m k).length=m:=by
 simp [bX];omega

def bI (zs:List Nat)(k:Nat):List Nat:=10855845 :: 10855845 :: (zs.take k ++ List.replicate (zs.length - k+2) 10855845)

theorem md (zs:List Nat)(k:Nat)(h:k<zs.length):(bI zs k).set (k+2) (zs.getD k 0)=bI zs (k+1):=by
 unfold bI
 have e:zs.length - k+2=(zs.length - (k+1)+2)+1:=by omega
 rw [e,List.replicate_succ]
 have:=eX (zs.take k) (List.replicate (zs.length - (k+1)+2) 10855845) 10855845 (zs.getD k 0)
 have el:(zs.take k).length=k:=by simp;omega
 rw [el] at this
 simp only [List.set_cons_succ]
 rw [this,take_snoc zs k h]

theorem ni (zs:List Nat)(k:Nat)(h:k≤zs.length):(bI zs k).length=zs.length+4:=by
 simp [bI];omega

theorem nA (zs:List Nat):bI zs 0=bX (zs.length+4) (zs.length+4):=by
 simp [bI,bX,List.replicate_succ]

theorem lS (zs:List Nat):bI zs zs.length=ba zs:=by
 simp [bI,ba,List.replicate_succ]

theorem lN (v:Value)(zs:List Nat)(w:World)(h:Arg w v zs)(hf:zs.length≤35184372088000) :
  Calls Tryz.prog 30 #[v] w fun e w'=>e=.returned (.tuple #[.slice (some ⟨w.heap.size,0,none⟩) (zs.length+4) (zs.length+4),.slice (some ⟨w.heap.size,2,none⟩) zs.length (zs.length+2)])∧Blk w' w.heap.size (ba zs)∧Below w.heap.size w w':=by
 obtain⟨ao,cap,rfl,hcap,hmax,L1⟩:=h.form
 obtain⟨i0,hi,hz0,hz1,hz2⟩:=info_parts Tryz.infoU
 clear h
 go_enter Tryz.func30,Tryz.ntmps30
 go_wp2_with (at_make;refine wpList_make_full _ rfl _ _ 22 rfl w.heap.size 60 i0 (.int .u64 0) 1 Tryz.underlying22 hi hz0 hz1 .i64 .i64 _ _ (zs.length+4) rfl rfl (by omega) (by omega) (by rw [hz2];omega) (by unfold maxLen;omega) (Nat.le_refl _) ?_;intro w1 hown hgrow)
 have hb1:=Blk.made hown
 have hbel:Below w.heap.size w w1:=(Below.refl _ _).grown hgrow (Nat.le_refl _) (fun k hk=>by cases hk)
 clear hown hgrow hi hz0 hz1 hz2
 go_loopw [14] (fun i wr=>∃k:Nat,k≤zs.length+4∧i=.int .i64 k∧Blk wr w.heap.size (bX (zs.length+4) k)∧Below w.heap.size w wr) (fun i _=>zs.length+4 - (intOf i).toNat)
 case atStart=>exact⟨0,Nat.zero_le _,rfl,hb1,hbel⟩
 case round=>
  obtain⟨k,hk,rfl,hblk,hbl⟩:=hrel
  clear hb1 hbel
  by_cases hkl:k<zs.length+4
  ·have hfr:=hblk.free k
   have hco:=hblk.cell k (by rw [jP _ _ hk];exact hkl)
   generalize (bX (zs.length+4) k).getD k 0=o at *
   have HB:=aa (hblk.set k 10855845)
   have HL:=aa (hbl.setCell (p:=⟨w.heap.size,k,none⟩) (Nat.le_refl _) (.int .u64 10855845))
   clear hblk hbl L1
   go_wp2
   go_roundw
   case rel=>exact⟨k+1,by omega,by go_num,by rw [←i9 _ _ hkl];exact HB.out,HL.out⟩
   case measure=>simp [intOf];omega
  ·have ek:k=zs.length+4:=by omega
   subst ek
   have HB:=aa hblk
   have HL:=aa hbl
   clear hblk hbl
   go_wp2
   go_loopw [23] (fun i wr=>∃k:Nat,k≤zs.length∧i=.int .i64 k∧Blk wr w.heap.size (bI zs k)∧Below w.heap.size w wr) (fun i _=>zs.length - (intOf i).toNat)
   case atStart=>exact⟨0,Nat.zero_le _,rfl,by rw [nA];exact HB.out,HL.out⟩
   case round=>
    obtain⟨k,hk,rfl,hblk,hbl⟩:=hrel
    clear HB HL
    by_cases hkl':k<zs.length
    ·rcases L1.below hbl with h0|⟨b,off,rfl,hcell⟩
     ·simp [h0] at hkl'
     ·have hck:=hcell k hkl'
      have hbw:=ak.block (L1:ak w (some ⟨b,off,none⟩) zs) (by omega)
      have hne1:¬b=w.heap.size:=by omega
      have hne2:¬w.heap.size=b:=by omega
      have hfr:=hblk.free (k+2)
      have hco:=hblk.cell (k+2) (by rw [ni _ _ hk];omega)
      generalize (bI zs k).getD (k+2) 0=o at *
      have HS:=aa (md zs k hkl')
      have HB:=aa (fun z=>hblk.set (k+2) z)
      have HL:=aa hbl
      generalize zs.getD k 0=z at *
      clear hcell hblk hbl L1
      go_wp2
      go_roundw
      case rel=>exact⟨k+1,by omega,by go_num,by rw [←HS.out];exact HB.out z,HL.out.setCell (Nat.le_refl _) _⟩
      case measure=>simp [intOf];omega
    ·have ek:k=zs.length:=by omega
     subst ek
     rw [lS] at hblk
     have HB:=aa hblk
     have HL:=aa hbl
     have hi1:(0:Int)≤(zs.length:Int):=by omega
     clear hblk hbl L1
     go_wp2
     go_quiet (fail)
     go_wp2
     go_ret2
     exact⟨rfl,HB.out,((HL.out).trans ((ai.refl _).drewN _ |>.below _))⟩

theorem kS (g:Nat)(va:Value)(zs:List Nat)(w:World)(hb:Blk w g (ba zs))(ha:Arg w va zs)(hf:zs.length≤35184372088000) :
  Calls Tryz.prog 22 #[.slice (some ⟨g,0,none⟩) (zs.length+4) (zs.length+4),va] w fun e w'=>e=.returned (.bool true)∧w'=w:=by
 obtain⟨ao,cap,rfl,hcap,hmax,L1⟩:=ha.form
 have hn:((zs.length:Int)+4 != (zs.length:Int)+4)=false:=by simp
 clear ha
 go_enter Tryz.func22,Tryz.ntmps22
 go_wp2
 go_loop [15] (fun i=>∃k:Nat,k≤zs.length+4∧i=.int .i64 k) (fun i=>zs.length+4 - (intOf i).toNat)
 case atStart=>exact⟨0,Nat.zero_le _,rfl⟩
 case round=>
  obtain⟨k,hk,rfl⟩:=hrel
  by_cases hkl:k<zs.length+4
  ·have hck:=hb.cell k (by rw [fV];exact hkl)
   by_cases h2:k<2
   ·rw [ke zs k h2] at hck
    have i1:(k:Int)<2:=by omega
    clear hb L1
    go_wp2
    go_round
    case rel=>exact⟨k+1,by omega,by go_num⟩
    case measure=>simp [intOf];omega
   ·by_cases h3:zs.length+2≤k
    ·rw [iS zs k h3 hkl] at hck
     have hd1:decide ((k:Int)<2)=false:=decide_eq_false (by omega)
     have i2:(zs.length:Int)+2≤(k:Int):=by omega
     clear hb L1
     go_wp2
     go_round
     case rel=>exact⟨k+1,by omega,by go_num⟩
     case measure=>simp [intOf];omega
    ·obtain⟨j,rfl⟩:∃j,k=j+2:=⟨k - 2,by omega⟩
     rw [gP zs j (by omega)] at hck
     rcases L1 with h0|⟨b,off,rfl,hcell⟩
     ·simp [h0] at h3
     ·have hcj:=hcell j (by omega)
      generalize zs.getD j 0=z at *
      have hne:((z:Int) != (z:Int))=false:=by simp
      have i1:((j+2:Nat):Int)=(j:Int)+2:=by omega
      have hd1:decide ((j:Int)+2<2)=false:=decide_eq_false (by omega)
      have hd2:decide ((zs.length:Int)+2≤(j:Int)+2)=false:=decide_eq_false (by omega)
      have i3:(j:Int)<(zs.length:Int):=by omega
      clear hb hcell
      go_wp2
      go_round
      case rel=>exact⟨j+2+1,by omega,by go_num⟩
      case measure=>simp [intOf];omega
  ·clear hb L1
   go_wp2
   go_ret
   exact⟨rfl,rfl⟩

abbrev aA:Value:=.slice none 0 0

def upd (rows:Nat→List Nat)(i:Nat)(r:List Nat):Nat→List Nat:=fun m=>if m=i then r else rows m

theorem bR (rows:Nat→List Nat)(i:Nat)(r:List Nat):upd rows i r i=r:=by simp [upd]

theorem cg (rows:Nat→List Nat)(i m:Nat)(r:List Nat)(h:m≠i):upd rows i r m=rows m:=by simp [upd,h]

structure St (w:World)(base L:Nat)(vs:List Value)(rows:Nat→List Nat):Prop where
 list:w.heap[L]?=some (.cells vs.toArray 22 (0,0))
 row:∀i,i<vs.length→Ans w base (vs.getD i aA) (rows i)
 apart:∀i j,i<vs.length→j<vs.length→i≠j→(vs.getD i aA).ownBlock=none∨(vs.getD i aA).ownBlock≠(vs.getD j aA).ownBlock

theorem St.cell {w:World}{base L:Nat}{vs:List Value}{rows:Nat→List Nat}(h:St w base L vs rows)(i:Nat)(hi:i<vs.length):w.cell? ⟨L,i,none⟩=some (vs.getD i aA):=by
 simp [World.cell?,h.list,hi,List.getD]

theorem St.free {w:World}{base L:Nat}{vs:List Value}{rows:Nat→List Nat}(h:St w base L vs rows)(i:Nat):w.frozen? ⟨L,i,none⟩=false:=by
 simp [World.frozen?,h.list]

theorem Ans.ne {w:World}{base L:Nat}{v:Value}{zs:List Nat}{vs:Array Value}(h:Ans w base v zs)(hl:w.heap[L]?=some (.cells vs 22 (0,0))):v.ownBlock≠some L:=by
 obtain⟨_,h2⟩:=h.own
 rcases h2 with ⟨rfl,_⟩|⟨g,cap,cur,rfl,_,hh,_⟩
 ·simp [Value.ownBlock]
 ·intro e
  simp [Value.ownBlock] at e
  subst e
  rw [hl] at hh
  simp at hh

theorem Ans.stored {w:World}{base g cap:Nat}{zs:List Nat}(h:Ans w base (.slice (some ⟨g,0,none⟩) zs.length cap) zs)(j z:Nat)(hz:z<18446744073709551616):Ans (w.setCell ⟨g,j,none⟩ (.int .u64 (z:Int))) base (.slice (some ⟨g,0,none⟩) (zs.set j z).length cap) (zs.set j z):=by
 refine⟨?_,limbs_set h.limbs _ _ hz⟩
 have:=(h.own.stored j (.int .u64 (z:Int))).1
 rw [List.length_set,List.map_set]
 exact this

theorem St.store {w:World}{base L:Nat}{vs:List Value}{rows:Nat→List Nat}(h:St w base L vs rows)(i g cap:Nat)(hi:i<vs.length)(hv:vs.getD i aA=.slice (some ⟨g,0,none⟩) (rows i).length cap)(j z:Nat)(hz:z<18446744073709551616) :
  St (w.setCell ⟨g,j,none⟩ (.int .u64 (z:Int))) base L vs (upd rows i ((rows i).set j z)):=by
 have hri:=h.row i hi
 have hne:=hri.ne h.list
 rw [hv] at hne
 have hgL:L≠g:=fun e=>hne (by simp [Value.ownBlock,e])
 refine⟨?_,fun m hm=>?_,h.apart⟩
 ·rw [Below.heap_setCell _ _ _ _ hgL];exact h.list
 ·by_cases e:m=i
  ·subst e
   rw [bR,hv]
   rw [hv] at hri
   have:=hri.stored j z hz
   rw [List.length_set] at this
   exact this
  ·rw [cg _ _ _ _ e]
   refine⟨ownsRow_setCell_other (h.row m hm).own ?_ _,(h.row m hm).limbs⟩
   have:=h.apart m i hm hi e
   rw [hv] at this
   rcases this with h1|h1
   ·rw [h1];simp
   ·simpa [Value.ownBlock] using h1

theorem jF (r:List Nat)(j c:Nat)(h:j<r.length):(List.replicate j c ++ r.drop j).set j c=List.replicate (j+1) c ++ r.drop (j+1):=by
 rw [List.drop_eq_getElem_cons h]
 have:=eX (List.replicate j c) (r.drop (j+1)) r[j] c
 rw [List.length_replicate] at this
 rw [this,←List.replicate_succ']

theorem lT (r:List Nat)(j c:Nat)(h:j≤r.length):(List.replicate j c ++ r.drop j).length=r.length:=by
 simp;omega

def aY (b:Nat):List Nat:=[b,b+1,b+2,b+3,b+4]

theorem St.grow {w w2:World}{base L:Nat}{vs:List Value}{rows:Nat→List Nat}(h:St w base L vs rows)(k:Nat)(hk:k<vs.length)(o:Obj)(v':Value)(r:List Nat)
  (ho:w2.ownsRow base 60 1 v' r.length (r.map lv)) (hl:Limbs r) (hg:(w.alloc o).grownBy w2 (vs.getD k aA).ownBlock) (hat:v'.ownBlock=(vs.getD k aA).ownBlock∨v'.ownBlock=some (w.alloc o).heap.size) :
  St (w2.setCell ⟨L,k,none⟩ v') base L (vs.set k v') (upd rows k r):=by
 have hL:=lt_of_block h.list
 have hsz:(w.alloc o).heap.size=w.heap.size+1:=by simp
 have hneL:=(h.row k hk).ne h.list
 have hL2:w2.heap[L]?=some (.cells vs.toArray 22 (0,0)):=by
  have e1:(w.alloc o).heap[L]?=w.heap[L]?:=Below.heap_alloc w o L hL
  rw [hg.block L (by omega) (fun e=>hneL e.symm),e1];exact h.list
 have hneL':v'.ownBlock≠some L:=by
  rcases hat with e|e
  ·rw [e];exact hneL
  ·rw [e];intro e2;simp at e2;omega
 refine⟨?_,fun m hm=>?_,fun i j hi hj hij=>?_⟩
 ·have hlt:=lt_of_block hL2
  have h':w2.heap[L]=.cells vs.toArray 22 (0,0):=by simpa [Array.getElem?_eq_getElem hlt] using hL2
  show (w2.heap.modify L _)[L]?=_
  rw [Array.getElem?_eq_getElem (by simpa using hlt),Array.getElem_modify_self,h']
  simp
 ·rw [List.length_set] at hm
  by_cases e:m=k
  ·subst e
   have ev:(vs.set m v').getD m aA=v':=by simp [List.getD,hm]
   rw [bR,ev]
   exact⟨ownsRow_setCell_other ho hneL' _,hl⟩
  ·have ev:(vs.set k v').getD m aA=vs.getD m aA:=by
    simp [List.getD,List.getElem?_set_ne (Ne.symm e)]
   rw [cg _ _ _ _ e,ev]
   have hr:=h.row m hm
   refine⟨ownsRow_setCell_other (((hr.own).alloc o).kept hg ?_) (hr.ne h.list) _,hr.limbs⟩
   exact h.apart m k hm hk e
 ·rw [List.length_set] at hi hj
  have hlt:∀m,m<vs.length→∀g,(vs.getD m aA).ownBlock=some g→g<w.heap.size:=fun m hm g hg=>((h.row m hm).own.lt g hg).2
  by_cases e1:i=k
  ·subst e1
   have ev:(vs.set i v').getD i aA=v':=by simp [List.getD,hi]
   have ev2:(vs.set i v').getD j aA=vs.getD j aA:=by simp [List.getD,List.getElem?_set_ne hij]
   rw [ev,ev2]
   rcases hat with e|e
   ·rw [e];exact h.apart i j hi hj hij
   ·right
    rw [e]
    intro e2
    have:=hlt j hj _ e2.symm
    omega
  ·by_cases e2:j=k
   ·subst e2
    have ev:(vs.set j v').getD j aA=v':=by simp [List.getD,hj]
    have ev2:(vs.set j v').getD i aA=vs.getD i aA:=by simp [List.getD,List.getElem?_set_ne (Ne.symm e1)]
    rw [ev,ev2]
    rcases hat with e|e
    ·rw [e];exact h.apart i j hi hj hij
    ·right
     rw [e]
     intro e3
     have:=hlt i hi _ e3
     omega
   ·have ev:(vs.set k v').getD i aA=vs.getD i aA:=by simp [List.getD,List.getElem?_set_ne (Ne.symm e1)]
    have ev2:(vs.set k v').getD j aA=vs.getD j aA:=by simp [List.getD,List.getElem?_set_ne (Ne.symm e2)]
    rw [ev,ev2]
    exact h.apart i j hi hj hij

theorem St.congr {w:World}{base L:Nat}{vs:List Value}{rows rows':Nat→List Nat}(h:St w base L vs rows)(he:∀i,i<vs.length→rows i=rows' i):St w base L vs rows':=
 ⟨h.list,fun i hi=>by rw [←he i hi];exact h.row i hi,h.apart⟩

def over (rows:Nat→List Nat)(m:Nat):List Nat:=List.replicate (rows m).length (m % 251+1)

def bE (rows:Nat→List Nat)(k m:Nat):List Nat:=if m<k then over rows m else rows m

theorem gL (rows:Nat→List Nat)(k m:Nat)(h:m≠k):bE rows k m=bE rows (k+1) m:=by
 unfold bE
 by_cases h1:m<k
 ·rw [if_pos h1,if_pos (by omega)]
 ·rw [if_neg h1,if_neg (by omega)]

theorem nB (rows:Nat→List Nat)(k:Nat)(hk:k≤1000):Limbs (over rows k ++ aY (300+5*k)):=by
 intro z hz
 rcases List.mem_append.1 hz with h|h
 ·have:=List.eq_of_mem_replicate h
  omega
 ·simp only [aY,List.mem_cons,List.not_mem_nil,or_false] at h
  omega

theorem oy (rows:Nat→List Nat)(k j:Nat)(h:j<(rows k).length):(over rows k ++ aY (300+5*k)).getD j 0=k % 251+1:=by
 have hl:j<(over rows k).length:=by simpa [over] using h
 rw [List.getD,List.getElem?_append_left hl]
 simp [over,h]

theorem lO (rows:Nat→List Nat)(k j:Nat)(h:(rows k).length≤j)(h2:j<(rows k).length+5):(over rows k ++ aY (300+5*k)).getD j 0=300+5*k+(j - (rows k).length):=by
 obtain⟨i,rfl⟩:∃i,j=(rows k).length+i:=⟨j - (rows k).length,by omega⟩
 have hl:(over rows k).length≤(rows k).length+i:=by simp [over]
 rw [List.getD,List.getElem?_append_right hl]
 match i,show i<5 by omega with
 | 0,_=>simp [over,aY]
 | 1,_=>simp [over,aY]
 | 2,_=>simp [over,aY]
 | 3,_=>simp [over,aY]
 | 4,_=>simp [over,aY]

theorem oA {w:World}{base e n:Nat}{v:Value}{xs:List Value}(h:w.ownsRow base e 1 v n xs)(hn:0<n):∃g cap,v=.slice (some ⟨g,0,none⟩) n cap:=by
 rcases h.2 with ⟨_,h0⟩|⟨g,cap,_,hv,_⟩
 ·omega
 ·exact⟨g,cap,hv⟩

theorem St.kept {w w2:World}{base L:Nat}{vs:List Value}{rows:Nat→List Nat}{v:Value}(h:St w base L vs rows)(k:Nat)(hk:k<vs.length)(hv:vs.getD k aA=v)(o:Obj)(hg:(w.alloc o).grownBy w2 v.ownBlock) :
  w2.cell? ⟨L,k,none⟩=some v∧w2.frozen? ⟨L,k,none⟩=false:=by
 have hL:=lt_of_block h.list
 have hneL:=(h.row k hk).ne h.list
 rw [hv] at hneL
 have hsz:(w.alloc o).heap.size=w.heap.size+1:=by simp
 have e:w2.heap[L]?=w.heap[L]?:=by
  rw [hg.block L (by omega) (fun e=>hneL e.symm)];exact Below.heap_alloc w o L hL
 refine⟨?_,?_⟩
 ·rw [World.cell?_of_block (w:=w) (a:=⟨L,k,none⟩) e,h.cell k hk,hv]
 ·rw [World.frozen?_of_block (w:=w) (a:=⟨L,k,none⟩) e];exact h.free k

def aJ (w:World):Nat→List Value→List (List Nat)→Prop
 | _,[],[]=>True
 | b,v :: vs,r :: rs=>∃b',(b≤b'∧b'≤w.heap.size)∧Ans w b v r∧(∀g,v.ownBlock=some g→g<b')∧aJ w b' vs rs
 | _,_,_=>False

theorem Ans.top {w:World}{base:Nat}{v:Value}{zs:List Nat}(h:Ans w base v zs):∀g,v.ownBlock=some g→g<w.heap.size:=fun g hg=>(h.own.lt g hg).2

theorem fA (zs:List Nat)(h:Limbs zs):blen (val zs)≤64*zs.length:=by
 rw [blen_le_iff,Nat.mul_comm]
 have:=val_lt h
 rwa [W_pow] at this

theorem aE {w a b:World}(h:Hid (Below w.heap.size w a))(hb:Below a.heap.size a b):Hid (Below w.heap.size w b):=h.out.trans (hb.mono h.out.size)

theorem aJ.length {w:World}:∀ {b:Nat} {vs:List Value} {rs:List (List Nat)},aJ w b vs rs→vs.length=rs.length
 | _,[],[],_=>rfl
 | _,_ :: _,_ :: _,⟨_,_,_,_,h⟩=>by simp [h.length]
 | _,[],_ :: _,h=>h.elim
 | _,_ :: _,[],h=>h.elim

theorem aJ.row {w:World}:∀ {b:Nat} {vs:List Value} {rs:List (List Nat)},aJ w b vs rs→∀i,i<vs.length→Ans w b (vs.getD i aA) (rs.getD i [])
 | _,[],_,_,i,hi=>absurd hi (by simp)
 | _,_ :: _,[],h,_,_=>h.elim
 | _,v :: vs,r :: rs,⟨b',h1,h2,h3,h4⟩,i,hi=>by
  cases i with
  | zero=>exact h2
  | succ i=>exact (h4.row i (by simpa using hi)).base h1.1

theorem aJ.from {w:World}{b:Nat}{vs:List Value}{rs:List (List Nat)}(h:aJ w b vs rs)(i:Nat)(hi:i<vs.length)(g:Nat)(hg:(vs.getD i aA).ownBlock=some g):b≤g:=((h.row i hi).own.lt g hg).1

theorem aJ.apart {w:World}:∀ {b:Nat} {vs:List Value} {rs:List (List Nat)},aJ w b vs rs→∀i j,i<vs.length→j<vs.length→i≠j→(vs.getD i aA).ownBlock=none∨(vs.getD i aA).ownBlock≠(vs.getD j aA).ownBlock
 | _,[],_,_,i,_,hi,_,_=>absurd hi (by simp)
 | _,_ :: _,[],h,_,_,_,_,_=>h.elim
 | _,v :: vs,r :: rs,⟨b',h1,h2,h3,h4⟩,i,j,hi,hj,hij=>by
  cases i with
  | zero=>
   cases j with
   | zero=>exact absurd rfl hij
   | succ j=>
    show v.ownBlock=none∨v.ownBlock≠(vs.getD j aA).ownBlock
    cases hv:v.ownBlock with
    | none=>exact .inl rfl
    | some g=>
     refine .inr fun e=>?_
     have a:=h3 g hv
     have b:=h4.from j (by simpa using hj) g e.symm
     omega
  | succ i=>
   cases j with
   | zero=>
    show (vs.getD i aA).ownBlock=none∨(vs.getD i aA).ownBlock≠v.ownBlock
    cases hv:(vs.getD i aA).ownBlock with
    | none=>exact .inl rfl
    | some g=>
     refine .inr fun e=>?_
     have a:=h3 g e.symm
     have b:=h4.from i (by simpa using hi) g hv
     omega
   | succ j=>exact h4.apart i j (by simpa using hi) (by simpa using hj) (by omega)

theorem aJ.below {w w':World}(hb:Below w.heap.size w w'):∀ {b:Nat} {vs:List Value} {rs:List (List Nat)},aJ w b vs rs→aJ w' b vs rs
 | _,[],[],_=>trivial
 | _,_ :: _,_ :: _,⟨b',h1,h2,h3,h4⟩=>⟨b',⟨h1.1,Nat.le_trans h1.2 hb.size⟩,h2.below hb,h3,aJ.below hb h4⟩
 | _,[],_ :: _,h=>h.elim
 | _,_ :: _,[],h=>h.elim

theorem aJ.snoc {w w':World}{v:Value}{r:List Nat}(hb:Below w.heap.size w w')(ha:Ans w' w.heap.size v r):∀ {b:Nat} {vs:List Value} {rs:List (List Nat)},aJ w b vs rs→b≤w.heap.size→aJ w' b (vs ++ [v]) (rs ++ [r])
 | _,[],[],_,hl=>⟨w'.heap.size,⟨Nat.le_trans hl hb.size,Nat.le_refl _⟩,ha.base hl,ha.top,trivial⟩
 | _,_ :: _,_ :: _,⟨b',h1,h2,h3,h4⟩,_=>⟨b',⟨h1.1,Nat.le_trans h1.2 hb.size⟩,h2.below hb,h3,aJ.snoc hb ha h4 h1.2⟩
 | _,[],_ :: _,h,_=>h.elim
 | _,_ :: _,[],h,_=>h.elim

theorem aJ.one {w:World}{b:Nat}{v:Value}{r:List Nat}(h:Ans w b v r)(hb:b≤w.heap.size):aJ w b [v] [r]:=⟨w.heap.size,⟨hb,Nat.le_refl _⟩,h,h.top,trivial⟩

def cP (w:World)(vw:Value)(zs:List Nat):Prop:=∃g,vw=.slice (some ⟨g,0,none⟩) (zs.length+4) (zs.length+4)∧Blk w g (ba zs)

theorem cP.below {w w':World}{vw:Value}{zs:List Nat}(h:cP w vw zs)(hb:Below w.heap.size w w'):cP w' vw zs:=by
 obtain⟨g,h1,h2⟩:=h
 refine⟨g,h1,?_⟩
 unfold Blk
 rw [hb.block g h2.lt];exact h2

theorem j5 (v:Value)(zs:List Nat)(w:World)(h:Arg w v zs)(hf:zs.length≤35184372088000) :
  Calls Tryz.prog 30 #[v] w fun e w'=>(∃vw vp,e=.returned (.tuple #[vw,vp])∧cP w' vw zs∧Arg w' vp zs)∧Below w.heap.size w w':=by
 refine (lN v zs w h hf).mono ?_
 rintro e w' ⟨rfl,hb,hbel⟩
 refine⟨⟨_,_,rfl,⟨_,rfl,hb⟩,⟨_,_,rfl,by omega,by omega,.inr ⟨_,2,rfl,fun k hk=>?_⟩⟩,h.limbs,h.few,fun n c e=>by cases e⟩,hbel⟩
 rw [hb.cell (2+k) (by rw [fV];omega),Nat.add_comm 2 k,gP zs k hk]

theorem fE (vw va:Value)(zs:List Nat)(w:World)(hl:cP w vw zs)(ha:Arg w va zs)(hf:zs.length≤35184372088000) :
  Calls Tryz.prog 22 #[vw,va] w fun e w'=>e=.returned (.bool true)∧w'=w:=by
 obtain⟨g,rfl,hb⟩:=hl
 exact kS g va zs w hb ha hf
end Go.Proofs.YtcbpdngogkbndaaGreatDoor
namespace Go.Proofs.YtcbpdngogkbndaaGreatDoor
open Go.RowKit
open Lm
attribute [local go_sem ↓] Go.wp_at_zero Go.wp_at_succ

theorem kz {x y n:Nat}(hy:0<y)(h:n+blen y<blen x):n<blen (x / y):=by
 refine Nat.lt_of_not_le fun hle=>?_
 have h1:=(blen_le_iff (x / y) n).1 hle
 have h2:=(blen_le_iff y _).1 (Nat.le_refl _)
 have h3:x<2 ^ (n+blen y):=by
  rw [Nat.pow_add]
  have h4:=Nat.div_add_mod x y
  have h5:=Nat.mod_lt x hy
  have h6:y*(x / y+1)≤2 ^ blen y*2 ^ n:=Nat.mul_le_mul (Nat.le_of_lt h2) h1
  rw [Nat.mul_add,Nat.mul_one] at h6
  rw [Nat.mul_comm (2 ^ n)]
  omega
 have h7:=(blen_le_iff x _).2 h3
 omega

set_option maxRecDepth 20000 in
attribute [local go_sem] m9 ng in
theorem wdivide_2 (b1:Bool)(v:Value)(X:List Nat)(b2:Bool)(u:Value)(Y:List Nat)(ap fu:Bool)(qz rz:Int)(w:World)(hA:Arg w v X)(hB:Arg w u Y)(hT:Tab w)(hx:X.length≤17592186043904)(hy:Y.length≤17592186043904)(hy0:0<val Y)
  (hap:(b1 != b2)=ap) (hfu:ap=fu)
  (hqz:qz=zz ap (val X / val Y+if fu && decide (0<val X % val Y) then 1 else 0)) (hrz:rz=zz (if fu && decide (0<val X % val Y) then !b1 else b1) (if fu && decide (0<val X % val Y) then val Y - val X % val Y else val X % val Y)) :
  Calls Tryz.prog 80 #[.int .i64 1,.agg #[.bool b1,v],.agg #[.bool b2,u]] w (gf w qz rz):=by
 have hap2:(!(b1 == b2))=ap:=hap
 have HFU:=aa hfu
 clear hfu
 obtain⟨a,n,rfl,hn1,hn2,_⟩:=hA.form
 obtain⟨a9,n9,rfl,hn3,hn4,_⟩:=hB.form
 obtain⟨w0,hw0,hb0,h0,h1,h2,h3⟩:=il w (.cells #[.bool b1,.slice a X.length n] 27) (.cells #[.bool b2,.slice a9 Y.length n9] 27) (.cells #[.bool false,.slice none 0 0] 27) (.cells #[.bool false,.slice none 0 0] 27)
 obtain⟨k0,k1⟩:=duo h0
 obtain⟨k2,k3⟩:=duo h1
 have hbx:blen (val X)≤64*X.length:=fA X hA.limbs
 have hby:blen (val Y)≤64*Y.length:=fA Y hB.limbs
 have HZ:=dD _ Y w0 (hB.below hb0)
 rw [decide_eq_false (by omega)] at HZ
 obtain⟨wd,hwd⟩:∃wd,w0.drew=wd:=⟨_,rfl⟩
 have hbd:Below w0.heap.size w0 wd:=by rw [←hwd];exact (Below.refl _ _).drew
 have hbwd:=hb0.trans (hbd.mono hb0.size)
 have L1:=aQ _ X wd (hA.below hbwd)
 have L2:=aQ _ Y wd (hB.below hbwd)
 have g0:=ab hbd h0
 have g1:=ab hbd h1
 obtain⟨d0,d1⟩:=duo g0
 obtain⟨d2,d3⟩:=duo g1
 have HG0:=aa g0
 have HG1:=aa g1
 have HG2:=aa (ab hbd h2)
 have HG3:=aa (ab hbd h3)
 have HWD:=aa hbwd
 obtain⟨dd,hdd⟩:∃dd:Int,((blen (val X):Nat):Int) - ((blen (val Y):Nat):Int)=dd:=⟨_,rfl⟩
 have wdd:IntKind.i64.wrap dd=dd:=by rw [IntKind.wrap_i64];omega
 have wdd2:IntKind.i64.wrap (((blen (val X):Nat):Int) - ((blen (val Y):Nat):Int))=dd:=by rw [IntKind.wrap_i64];omega
 have HQZ:=aa hqz
 have HRZ:=aa hrz
 have HA:=aa (hA.below hbwd)
 have HB:=aa (hB.below hbwd)
 have HT:=aa (hT.below hbwd)
 by_cases hbig:67108864+blen (val Y)<blen (val X)
 ·have i1:(67108864:Int)<dd:=by omega
  have HBQ:Hid (67108864<blen qz.natAbs):=by
   refine aa ?_
   rw [hqz,aD]
   refine Nat.lt_of_lt_of_le ?_ (blen_mono (Nat.le_add_right _ _))
   exact kz (by omega) hbig
  generalize blen (val X)=lx at *
  generalize blen (val Y)=ly at *
  clear hA hB hT hb0 h0 h1 h2 h3 hbd hbwd g0 g1 HQZ HRZ hqz hrz hbig
  go_enter Tryz.func80,Tryz.ntmps80
  go_wp2_with fail
  refine HZ.mono ?_
  rintro e wn ⟨rfl,hw⟩;rw [hw];clear hw wn HZ
  go_wp2
  go_region_held3 (fun w'=>w'.cell? ⟨w.heap.size,1,none⟩=some (.slice a X.length n)∧w'.cell? ⟨w.heap.size+1,1,none⟩=some (.slice a9 Y.length n9)) (go_keep) (first
   | (go_at_call_of 74 a;(try rw [hwd]);refine L1.mono ?_;rintro e' wn ⟨rfl,hw⟩;rw [hw];clear hw wn)
   | (go_at_call_of 74 a9;(try rw [hwd]);refine L2.mono ?_;rintro e' wn ⟨rfl,hw⟩;rw [hw];clear hw wn))

  have HR2:=HG2
  have HR3:=HG3
  have HBE:=HWD
  have hf2:=af HR2.out
  have hf3:=af HR3.out
  obtain⟨m0,m1⟩:=duo HR2.out
  obtain⟨m2,m3⟩:=duo HR3.out
  go_wp2
  have hq4:=ck (base:=w.heap.size) (u0:=.bool false) (u1:=(.slice none 0 0)) (u2:=.bool false) (u3:=(.slice none 0 0)) HR2.out HR3.out
  have HD:=aa (And.intro hq4.2.2 (cf HBE.out (g:=w.heap.size+2) (u0:=.bool false) (u1:=(.slice none 0 0)) (u2:=.bool false) (u3:=(.slice none 0 0)) (by omega)))
  obtain⟨R5,R6,_⟩:=hq4
  generalize (((wd.setCell ⟨w.heap.size+2,0,none⟩ (.bool false)).setCell ⟨w.heap.size+2,1,none⟩ ((.slice none 0 0))).setCell ⟨w.heap.size+2+1,0,none⟩ (.bool false)).setCell ⟨w.heap.size+2+1,1,none⟩ ((.slice none 0 0))=w5 at *
  obtain⟨q0,q1⟩:=duo R5
  obtain⟨q2,q3⟩:=duo R6
  refine bodyPost_ret (v:=.tuple #[.agg #[.bool false,(.slice none 0 0)],.agg #[.bool false,(.slice none 0 0)],.int .i64 3]) (by simp [results,Tryz.results80,go_sem,q0,q1,q2,q3]) rfl ?_
  exact⟨⟨_,_,_,_,_,_,_,_,3,rfl,[],[],Ans.nil _ _,Ans.nil _ _,.inl rfl,.inr ⟨rfl,rfl,rfl,rfl,rfl,rfl,rfl,.inl HBQ.out⟩⟩,HD.out.2⟩
 ·have i1:¬(67108864:Int)<dd:=by omega
  have HBO:=wboth_any (blen (val X)) X Y _ _ wd (by omega) HA.out HB.out HT.out (by omega) (by omega) hy0
  generalize blen (val X)=lx at *
  generalize blen (val Y)=ly at *
  clear hA hB hT hb0 h0 h1 h2 h3 hbd hbwd g0 g1 hqz hrz hbig
  go_enter Tryz.func80,Tryz.ntmps80
  go_wp2_with fail
  refine HZ.mono ?_
  rintro e wn ⟨rfl,hw⟩;rw [hw];clear hw wn HZ
  go_wp2
  go_region_held3 (fun w'=>w'.cell? ⟨w.heap.size,1,none⟩=some (.slice a X.length n)∧w'.cell? ⟨w.heap.size+1,1,none⟩=some (.slice a9 Y.length n9)) (go_keep) (first
   | (go_at_call_of 74 a;(try rw [hwd]);refine L1.mono ?_;rintro e' wn ⟨rfl,hw⟩;rw [hw];clear hw wn)
   | (go_at_call_of 74 a9;(try rw [hwd]);refine L2.mono ?_;rintro e' wn ⟨rfl,hw⟩;rw [hw];clear hw wn))

  go_wp2_with fail
  refine HBO.mono ?_
  rintro e w1 ⟨⟨v1,v2,rq,rr,rfl,A1,A2,e1,t1,e2,t2,hapt⟩,hb1⟩
  obtain⟨aq,kq,rfl⟩:=A1.shape
  obtain⟨ar,kr,rfl⟩:=A2.shape
  have hlq:rq.length≤X.length:=by
   rw [←t1];refine aG rq _ ?_
   rw [e1];exact Nat.lt_of_le_of_lt (Nat.div_le_self _ _) (val_lt HA.out.limbs)
  have hlr:rr.length≤Y.length:=by
   rw [←t2];refine aG rr _ ?_
   rw [e2];exact Nat.lt_trans (Nat.mod_lt _ hy0) (val_lt HB.out.limbs)
  have hnz:=fZ t2
  rw [e2] at hnz
  have HWB:=aa (HWD.out.trans (hb1.mono HWD.out.size))
  have HK0:=aa (ab hb1 HG0.out)
  have HK1:=aa (ab hb1 HG1.out)
  have HR2:=aa (ab hb1 HG2.out)
  have HR3:=aa (ab hb1 HG3.out)
  have HB1:=aa (HB.out.below hb1)
  have HT1:=aa (HT.out.below hb1)
  have HQA:=aa (And.intro (A1.base HWD.out.size) (And.intro e1 t1))
  have HRA:=aa (And.intro (A2.base HWD.out.size) (And.intro e2 t2))
  have HAP:=aa hapt
  have HLQ:=aa (And.intro (show rq.length≤1125899906842624 by omega) (show rr.length≤1125899906842624 by omega))
  obtain⟨f0,f1⟩:=duo HK0.out
  obtain⟨f2,f3⟩:=duo HK1.out
  obtain⟨lq,hnq⟩:∃lq,rq.length=lq:=⟨_,rfl⟩
  obtain⟨lr,hnr⟩:∃lr,rr.length=lr:=⟨_,rfl⟩
  rw [hnq] at HQA HAP ⊢
  rw [hnr] at HRA HAP ⊢
  have HLN:=aa (And.intro hlq (And.intro hlr (And.intro hnq hnr)))
  rw [hnr] at hnz
  clear A1 A2 e1 e2 t1 t2 hapt hb1 HBO k0 k1 k2 k3 d0 d1 d2 d3 hlq hlr hnq hnr HG0 HG1 HG2 HG3 HA HB HT L1 L2
  go_wp2
  go_quiet (fail)
  obtain⟨wq,hwq⟩:∃wq,wq=w1.drewN nq:=⟨_,rfl⟩
  have hbq:Below w1.heap.size w1 wq:=by rw [hwq];exact ((ai.refl w1).drewN nq).below _
  rw [←hwq]
  have HWB2:=aa (HWB.out.trans (hbq.mono HWB.out.size))
  have HK12:=aa (ab hbq HK1.out)
  have HR22:=aa (ab hbq HR2.out)
  have HR32:=aa (ab hbq HR3.out)
  have HB12:=aa (HB1.out.below hbq)
  have HQA2:=aa (And.intro (HQA.out.1.below hbq) HQA.out.2)
  have HRA2:=aa (And.intro (HRA.out.1.below hbq) HRA.out.2)
  clear HWB HK0 HK1 HR2 HR3 HB1 HQA HRA f0 f1 f2 f3 hwq hbq HT1
  have HWB:=HWB2
  have HR2:=HR22
  have HR3:=HR32
  obtain⟨f2,f3⟩:=duo HK12.out
  clear HWB2 HR22 HR32
  by_cases hr:0<lr
  ·have i3:(0:Int)<(lr:Int):=by omega
   have hr0:0<val X % val Y:=by omega
   have hml:=Nat.mod_lt (val X) hy0
   clear hnz
   have HLS:=ga _ (.slice ar lr kr) Y rr wq HB12.out (HRA2.out.1.arg HLQ.out.2) (by omega) (by rw [HRA2.out.2.1];omega)
   rw [HRA2.out.2.1] at HLS
   go_wp2_with fail
   refine HLS.mono ?_
   rintro e w3 ⟨⟨v3,r3,rfl,A3,e3,t3⟩,hb3⟩
   obtain⟨a3,k3,rfl⟩:=A3.shape
   have hl3:r3.length≤Y.length:=by
    rw [←t3];refine aG r3 _ ?_
    rw [e3];exact Nat.lt_of_le_of_lt (Nat.sub_le _ _) (val_lt HB12.out.limbs)
   obtain⟨l3,hl3e⟩:∃l3,r3.length=l3:=⟨_,rfl⟩
   rw [hl3e] at A3 ⊢
   have hDV:=wdivs_any w3
   have HB3:=aa hb3
   have HA3:=aa (And.intro A3 (And.intro e3 (And.intro t3 (show r3.length≤1125899906842624 by omega))))
   clear A3 e3 t3 hb3 hl3 hl3e HLS f2 f3 HK12 HB12
   go_wp2_with fail
   refine hDV.mono ?_
   rintro e w4 ⟨rfl,hb4⟩
   have HB4:=aa (HB3.out.trans (hb4.mono HB3.out.size))
   have HA4:=aa (HA3.out.1.below hb4)
   have hFU:Calls Tryz.prog 99 #[eu (.slice aq lq kq) (.slice ar lr kr) (.slice a3 l3 k3) b1 ap] w4 (fun e w'=>e=.returned (.bool fu)∧Below w4.heap.size w4 w'):=(mj aq ar a3 lq kq lr kr l3 k3 b1 ap w4).mono (fun e w' h=>⟨h.1.trans (by rw [HFU.out]),h.2⟩)
   clear hb4 hDV HB3
   go_wp2_with fail
   refine hFU.mono ?_
   rintro e w5 ⟨rfl,hb5⟩
   have hb45:=HB4.out.trans (hb5.mono HB4.out.size)
   have HR2':=aa (ab hb45 HR2.out)
   have HR3':=aa (ab hb45 HR3.out)
   have HQ5:=aa (And.intro (HQA2.out.1.below hb45) HQA2.out.2)
   have HR5:=aa (And.intro (HRA2.out.1.below hb45) HRA2.out.2)
   have HL5:=aa (And.intro ((HA4.out.below hb5).base (Nat.le_trans HWB.out.size (Nat.le_refl _))) (And.intro HA3.out.2.1 HA3.out.2.2.1))
   have HWB5:=aa (HWB.out.trans (hb45.mono HWB.out.size))
   have HLN3:=aa HA3.out.2.2.2
   clear hb5 hb45 hFU HA4 HB4 HA3 HR2 HR3 HWB HQA2 HRA2
   have HR2:=HR2'
   have HR3:=HR3'
   clear HR2' HR3'
   cases fu
   ·have HQ:=HQ5
    have HR:=HR5
    have HWB:=HWB5
    have hq9:=HQZ.out
    have hr9:=HRZ.out
    simp only [Bool.false_and,Bool.false_eq_true,if_false,Nat.add_zero] at hq9 hr9
    clear HQZ HRZ
    have HQZ:=aa hq9
    have HRZ:=aa hr9
    clear hq9 hr9 HQ5 HR5 HL5 HWB5
    obtain⟨wv,hwv,hbv,hxv⟩:=aB w5 (.cells #[.slice aq lq kq,.slice ar lr kr] 25)
    have hAB:=fx w5.heap.size (.slice aq lq kq) (.slice ar lr kr) rq rr wv hxv ((HQ.out.1.arg HLQ.out.1).below hbv) ((HR.out.1.arg HLQ.out.2).below hbv)
    have HR2v:=aa (ab hbv HR2.out)
    have HR3v:=aa (ab hbv HR3.out)
    have HBV:=aa (HWB.out.trans (hbv.mono HWB.out.size))
    have HQv:=aa (HQ.out.1.below hbv)
    have HRv:=aa (HR.out.1.below hbv)
    clear hbv hxv HR2 HR3
    by_cases hbig:67108864<blen (val rq)∨67108864<blen (val rr)
    ·rw [decide_eq_true hbig] at hAB
     have HBIG:=aa hbig
     clear hbig
     go_wp2_with fail
     refine hAB.mono ?_
     rintro e wn ⟨rfl,hw⟩;rw [hw];clear hw wn hAB
     have HR2:=HR2v
     have HR3:=HR3v
     have HBE:=HBV
     have hf2:=af HR2.out
     have hf3:=af HR3.out
     obtain⟨m0,m1⟩:=duo HR2.out
     obtain⟨m2,m3⟩:=duo HR3.out
     go_wp2
     have hq4:=ck (base:=w.heap.size) (u0:=.bool false) (u1:=(.slice none 0 0)) (u2:=.bool false) (u3:=(.slice none 0 0)) HR2.out HR3.out
     have HD:=aa (And.intro hq4.2.2 (cf HBE.out (g:=w.heap.size+2) (u0:=.bool false) (u1:=(.slice none 0 0)) (u2:=.bool false) (u3:=(.slice none 0 0)) (by omega)))
     obtain⟨R5,R6,_⟩:=hq4
     generalize (((wv.setCell ⟨w.heap.size+2,0,none⟩ (.bool false)).setCell ⟨w.heap.size+2,1,none⟩ ((.slice none 0 0))).setCell ⟨w.heap.size+2+1,0,none⟩ (.bool false)).setCell ⟨w.heap.size+2+1,1,none⟩ ((.slice none 0 0))=w5 at *
     obtain⟨q0,q1⟩:=duo R5
     obtain⟨q2,q3⟩:=duo R6
     refine bodyPost_ret (v:=.tuple #[.agg #[.bool false,(.slice none 0 0)],.agg #[.bool false,(.slice none 0 0)],.int .i64 3]) (by simp [results,Tryz.results80,go_sem,q0,q1,q2,q3]) rfl ?_
     refine⟨⟨_,_,_,_,_,_,_,_,3,rfl,[],[],Ans.nil _ _,Ans.nil _ _,.inl rfl,.inr ⟨rfl,rfl,rfl,rfl,rfl,rfl,rfl,?_⟩⟩,HD.out.2⟩
     rw [HQZ.out,HRZ.out,aD,aD,←HQ.out.2.1,←HR.out.2.1]
     exact HBIG.out
    ·rw [decide_eq_false hbig] at hAB
     have HBIG:=aa hbig
     clear hbig
     go_wp2_with fail
     refine hAB.mono ?_
     rintro e wn ⟨rfl,hw⟩;rw [hw];clear hw wn hAB
     have hS1:=bO ap (.slice aq lq kq) rq _ wv HQv.out
     rw [bQ ap HQ.out.2.2 HQ.out.2.1,←HQZ.out] at hS1
     go_wp2_with fail
     refine hS1.mono ?_
     rintro e ws ⟨rfl,hbs⟩
     have hS2:=bO b1 (.slice ar lr kr) rr _ ws (HRv.out.below hbs)
     rw [bQ b1 HR.out.2.2 HR.out.2.1,←HRZ.out] at hS2
     have HBS:=aa hbs
     clear hbs hS1
     go_wp2_with fail
     refine hS2.mono ?_
     rintro e wt ⟨rfl,hbt⟩
     have hbst:=HBS.out.trans (hbt.mono HBS.out.size)
     have HR2:=aa (ab hbst HR2v.out)
     have HR3:=aa (ab hbst HR3v.out)
     have HBE:=aa (HBV.out.trans (hbst.mono HBV.out.size))
     have HQt:=aa (HQv.out.below hbst)
     have HRt:=aa (HRv.out.below hbst)
     have hf2:=af HR2.out
     have hf3:=af HR3.out
     obtain⟨m0,m1⟩:=duo HR2.out
     obtain⟨m2,m3⟩:=duo HR3.out
     clear hbt hbst hS2 HR2v HR3v hwv
     obtain⟨uq,huq⟩:∃ub,decide (qz<0)=ub:=⟨_,rfl⟩
     obtain⟨ur,hur⟩:∃ub,decide (rz<0)=ub:=⟨_,rfl⟩
     rw [huq,hur]
     go_wp2
     have hq4:=ck (base:=w.heap.size) (u0:=.bool uq) (u1:=(.slice aq lq kq)) (u2:=.bool ur) (u3:=(.slice ar lr kr)) HR2.out HR3.out
     have HD:=aa (And.intro hq4.2.2 (cf HBE.out (g:=w.heap.size+2) (u0:=.bool uq) (u1:=(.slice aq lq kq)) (u2:=.bool ur) (u3:=(.slice ar lr kr)) (by omega)))
     obtain⟨R5,R6,_⟩:=hq4
     generalize (((wt.setCell ⟨w.heap.size+2,0,none⟩ (.bool uq)).setCell ⟨w.heap.size+2,1,none⟩ ((.slice aq lq kq))).setCell ⟨w.heap.size+2+1,0,none⟩ (.bool ur)).setCell ⟨w.heap.size+2+1,1,none⟩ ((.slice ar lr kr))=w5 at *
     obtain⟨q0,q1⟩:=duo R5
     obtain⟨q2,q3⟩:=duo R6
     refine bodyPost_ret (v:=.tuple #[.agg #[.bool uq,(.slice aq lq kq)],.agg #[.bool ur,(.slice ar lr kr)],.int .i64 0]) (by simp [results,Tryz.results80,go_sem,q0,q1,q2,q3]) rfl ?_
     refine⟨⟨_,_,_,_,_,_,_,_,0,rfl,rq,rr,HD.out.1 _ _ HQt.out,HD.out.1 _ _ HRt.out,HAP.out,.inl ⟨rfl,huq.symm,?_,HQ.out.2.2,hur.symm,?_,HR.out.2.2,?_,?_⟩⟩,HD.out.2⟩
     ·rw [HQZ.out,aD];exact HQ.out.2.1
     ·rw [HRZ.out,aD];exact HR.out.2.1
     ·rw [HQZ.out,aD,←HQ.out.2.1];have:=HBIG.out;omega
     ·rw [HRZ.out,aD,←HR.out.2.1];have:=HBIG.out;omega
   ·obtain⟨w6,hw6,hb6,hx6⟩:=aB w5 (.cells #[.int .u64 1] 60)
    have hblk:Blk w6 w5.heap.size [1]:=hx6
    have A6:=Ans.of_blk (base:=w5.heap.size) (zs:=[1]) (Nat.le_refl _) hblk (by simp) (by simp) (by simp) (by intro z hz;simp at hz;omega)
    have hSM:=jq (.slice aq lq kq) (.slice (some ⟨w5.heap.size,0,none⟩) 1 1) rq [1] w6 ((HQ5.out.1.arg HLQ.out.1).below hb6) (A6.arg (by simp)) (by have:=HLN.out.1;omega) (by simp)
    rw [HQ5.out.2.1,show val [1]=1 from by simp [val]] at hSM
    have HB6:=aa hb6
    clear hb6 hx6 hblk A6
    go_wp2_with fail
    refine hSM.mono ?_
    rintro e w7 ⟨⟨v7,r7,rfl,A7,e7,t7⟩,hb7⟩
    obtain⟨a7,k7,rfl⟩:=A7.shape
    have hb67:=HB6.out.trans (hb7.mono HB6.out.size)
    have HR2':=aa (ab hb67 HR2.out)
    have HR3':=aa (ab hb67 HR3.out)
    have HWB:=aa (HWB5.out.trans (hb67.mono HWB5.out.size))
    have hl7:r7.length≤rq.length+1:=by
     rw [←t7];refine aG r7 _ ?_
     rw [e7]
     have h1:=val_lt HQ5.out.1.limbs
     rw [HQ5.out.2.1] at h1
     rw [Nat.pow_succ]
     have h0:=W_pos rq.length
     generalize 18446744073709551616 ^ rq.length=P9 at *
     omega
    have hlqx:=HLN.out.1
    obtain⟨l7,hl7e⟩:∃l7,r7.length=l7:=⟨_,rfl⟩
    rw [hl7e] at A7 ⊢
    have hAP7:=apart_of2 (v2:=.slice a3 l3 k3) (fun g hg=>Nat.lt_of_lt_of_le (HL5.out.1.own.lt g hg).2 HB6.out.size) A7
    have hs57:w.heap.size≤w6.heap.size:=Nat.le_trans HWB5.out.size HB6.out.size
    have HQ:=aa (And.intro (A7.base hs57) (And.intro e7 t7))
    have HR:=aa (And.intro (HL5.out.1.below hb67) HL5.out.2)
    have hq9:=HQZ.out
    have hr9:=HRZ.out
    rw [decide_eq_true hr0] at hq9 hr9
    simp only [Bool.true_and,if_true] at hq9 hr9
    clear HQ5 HR5 HAP HLQ HR2 HR3 HWB5 HQZ HRZ
    have HAP:=aa hAP7
    have HLQ:=aa (And.intro (show r7.length≤1125899906842624 by omega) HLN3.out)
    have HR2:=HR2'
    have HR3:=HR3'
    have HQZ:=aa hq9
    have HRZ:=aa hr9
    clear hq9 hr9 HL5 hb7 hb67 A7 e7 t7 hSM HB6 hs57 HR2' HR3' hw6
    obtain⟨wv,hwv,hbv,hxv⟩:=aB w7 (.cells #[.slice a7 l7 k7,.slice a3 l3 k3] 25)
    have hAB:=fx w7.heap.size (.slice a7 l7 k7) (.slice a3 l3 k3) r7 r3 wv hxv ((HQ.out.1.arg HLQ.out.1).below hbv) ((HR.out.1.arg HLQ.out.2).below hbv)
    have HR2v:=aa (ab hbv HR2.out)
    have HR3v:=aa (ab hbv HR3.out)
    have HBV:=aa (HWB.out.trans (hbv.mono HWB.out.size))
    have HQv:=aa (HQ.out.1.below hbv)
    have HRv:=aa (HR.out.1.below hbv)
    clear hbv hxv HR2 HR3
    by_cases hbig:67108864<blen (val r7)∨67108864<blen (val r3)
    ·rw [decide_eq_true hbig] at hAB
     have HBIG:=aa hbig
     clear hbig
     go_wp2_with fail
     refine hAB.mono ?_
     rintro e wn ⟨rfl,hw⟩;rw [hw];clear hw wn hAB
     have HR2:=HR2v
     have HR3:=HR3v
     have HBE:=HBV
     have hf2:=af HR2.out
     have hf3:=af HR3.out
     obtain⟨m0,m1⟩:=duo HR2.out
     obtain⟨m2,m3⟩:=duo HR3.out
     go_wp2
     have hq4:=ck (base:=w.heap.size) (u0:=.bool false) (u1:=(.slice none 0 0)) (u2:=.bool false) (u3:=(.slice none 0 0)) HR2.out HR3.out
     have HD:=aa (And.intro hq4.2.2 (cf HBE.out (g:=w.heap.size+2) (u0:=.bool false) (u1:=(.slice none 0 0)) (u2:=.bool false) (u3:=(.slice none 0 0)) (by omega)))
     obtain⟨R5,R6,_⟩:=hq4
     generalize (((wv.setCell ⟨w.heap.size+2,0,none⟩ (.bool false)).setCell ⟨w.heap.size+2,1,none⟩ ((.slice none 0 0))).setCell ⟨w.heap.size+2+1,0,none⟩ (.bool false)).setCell ⟨w.heap.size+2+1,1,none⟩ ((.slice none 0 0))=w5 at *
     obtain⟨q0,q1⟩:=duo R5
     obtain⟨q2,q3⟩:=duo R6
     refine bodyPost_ret (v:=.tuple #[.agg #[.bool false,(.slice none 0 0)],.agg #[.bool false,(.slice none 0 0)],.int .i64 3]) (by simp [results,Tryz.results80,go_sem,q0,q1,q2,q3]) rfl ?_
     refine⟨⟨_,_,_,_,_,_,_,_,3,rfl,[],[],Ans.nil _ _,Ans.nil _ _,.inl rfl,.inr ⟨rfl,rfl,rfl,rfl,rfl,rfl,rfl,?_⟩⟩,HD.out.2⟩
     rw [HQZ.out,HRZ.out,aD,aD,←HQ.out.2.1,←HR.out.2.1]
     exact HBIG.out
    ·rw [decide_eq_false hbig] at hAB
     have HBIG:=aa hbig
     clear hbig
     go_wp2_with fail
     refine hAB.mono ?_
     rintro e wn ⟨rfl,hw⟩;rw [hw];clear hw wn hAB
     have hS1:=bO ap (.slice a7 l7 k7) r7 _ wv HQv.out
     rw [bQ ap HQ.out.2.2 HQ.out.2.1,←HQZ.out] at hS1
     go_wp2_with fail
     refine hS1.mono ?_
     rintro e ws ⟨rfl,hbs⟩
     have hS2:=bO (!b1) (.slice a3 l3 k3) r3 _ ws (HRv.out.below hbs)
     rw [bQ (!b1) HR.out.2.2 HR.out.2.1,←HRZ.out] at hS2
     have HBS:=aa hbs
     clear hbs hS1
     go_wp2_with fail
     refine hS2.mono ?_
     rintro e wt ⟨rfl,hbt⟩
     have hbst:=HBS.out.trans (hbt.mono HBS.out.size)
     have HR2:=aa (ab hbst HR2v.out)
     have HR3:=aa (ab hbst HR3v.out)
     have HBE:=aa (HBV.out.trans (hbst.mono HBV.out.size))
     have HQt:=aa (HQv.out.below hbst)
     have HRt:=aa (HRv.out.below hbst)
     have hf2:=af HR2.out
     have hf3:=af HR3.out
     obtain⟨m0,m1⟩:=duo HR2.out
     obtain⟨m2,m3⟩:=duo HR3.out
     clear hbt hbst hS2 HR2v HR3v hwv
     obtain⟨uq,huq⟩:∃ub,decide (qz<0)=ub:=⟨_,rfl⟩
     obtain⟨ur,hur⟩:∃ub,decide (rz<0)=ub:=⟨_,rfl⟩
     rw [huq,hur]
     go_wp2
     have hq4:=ck (base:=w.heap.size) (u0:=.bool uq) (u1:=(.slice a7 l7 k7)) (u2:=.bool ur) (u3:=(.slice a3 l3 k3)) HR2.out HR3.out
     have HD:=aa (And.intro hq4.2.2 (cf HBE.out (g:=w.heap.size+2) (u0:=.bool uq) (u1:=(.slice a7 l7 k7)) (u2:=.bool ur) (u3:=(.slice a3 l3 k3)) (by omega)))
     obtain⟨R5,R6,_⟩:=hq4
     generalize (((wt.setCell ⟨w.heap.size+2,0,none⟩ (.bool uq)).setCell ⟨w.heap.size+2,1,none⟩ ((.slice a7 l7 k7))).setCell ⟨w.heap.size+2+1,0,none⟩ (.bool ur)).setCell ⟨w.heap.size+2+1,1,none⟩ ((.slice a3 l3 k3))=w5 at *
     obtain⟨q0,q1⟩:=duo R5
     obtain⟨q2,q3⟩:=duo R6
     refine bodyPost_ret (v:=.tuple #[.agg #[.bool uq,(.slice a7 l7 k7)],.agg #[.bool ur,(.slice a3 l3 k3)],.int .i64 0]) (by simp [results,Tryz.results80,go_sem,q0,q1,q2,q3]) rfl ?_
     refine⟨⟨_,_,_,_,_,_,_,_,0,rfl,r7,r3,HD.out.1 _ _ HQt.out,HD.out.1 _ _ HRt.out,HAP.out,.inl ⟨rfl,huq.symm,?_,HQ.out.2.2,hur.symm,?_,HR.out.2.2,?_,?_⟩⟩,HD.out.2⟩
     ·rw [HQZ.out,aD];exact HQ.out.2.1
     ·rw [HRZ.out,aD];exact HR.out.2.1
     ·rw [HQZ.out,aD,←HQ.out.2.1];have:=HBIG.out;omega
     ·rw [HRZ.out,aD,←HR.out.2.1];have:=HBIG.out;omega
  ·have i3:¬(0:Int)<(lr:Int):=by omega
   have hr0:val X % val Y=0:=by omega
   have HQ:=HQA2
   have HR:=HRA2
   have hfz:(fu && decide (0<val X % val Y))=false:=by rw [hr0];simp
   have hq9:=HQZ.out
   have hr9:=HRZ.out
   rw [hfz] at hq9 hr9
   simp only [Bool.false_eq_true,if_false,Nat.add_zero] at hq9 hr9
   clear HQZ HRZ
   have HQZ:=aa hq9
   have HRZ:=aa hr9
   clear hq9 hr9 hfz HQA2 HRA2 hnz f2 f3 HK12 HB12
   obtain⟨wv,hwv,hbv,hxv⟩:=aB wq (.cells #[.slice aq lq kq,.slice ar lr kr] 25)
   have hAB:=fx wq.heap.size (.slice aq lq kq) (.slice ar lr kr) rq rr wv hxv ((HQ.out.1.arg HLQ.out.1).below hbv) ((HR.out.1.arg HLQ.out.2).below hbv)
   have HR2v:=aa (ab hbv HR2.out)
   have HR3v:=aa (ab hbv HR3.out)
   have HBV:=aa (HWB.out.trans (hbv.mono HWB.out.size))
   have HQv:=aa (HQ.out.1.below hbv)
   have HRv:=aa (HR.out.1.below hbv)
   clear hbv hxv HR2 HR3
   by_cases hbig:67108864<blen (val rq)∨67108864<blen (val rr)
   ·rw [decide_eq_true hbig] at hAB
    have HBIG:=aa hbig
    clear hbig
    go_wp2_with fail
    refine hAB.mono ?_
    rintro e wn ⟨rfl,hw⟩;rw [hw];clear hw wn hAB
    have HR2:=HR2v
    have HR3:=HR3v
    have HBE:=HBV
    have hf2:=af HR2.out
    have hf3:=af HR3.out
    obtain⟨m0,m1⟩:=duo HR2.out
    obtain⟨m2,m3⟩:=duo HR3.out
    go_wp2
    have hq4:=ck (base:=w.heap.size) (u0:=.bool false) (u1:=(.slice none 0 0)) (u2:=.bool false) (u3:=(.slice none 0 0)) HR2.out HR3.out
    have HD:=aa (And.intro hq4.2.2 (cf HBE.out (g:=w.heap.size+2) (u0:=.bool false) (u1:=(.slice none 0 0)) (u2:=.bool false) (u3:=(.slice none 0 0)) (by omega)))
    obtain⟨R5,R6,_⟩:=hq4
    generalize (((wv.setCell ⟨w.heap.size+2,0,none⟩ (.bool false)).setCell ⟨w.heap.size+2,1,none⟩ ((.slice none 0 0))).setCell ⟨w.heap.size+2+1,0,none⟩ (.bool false)).setCell ⟨w.heap.size+2+1,1,none⟩ ((.slice none 0 0))=w5 at *
    obtain⟨q0,q1⟩:=duo R5
    obtain⟨q2,q3⟩:=duo R6
    refine bodyPost_ret (v:=.tuple #[.agg #[.bool false,(.slice none 0 0)],.agg #[.bool false,(.slice none 0 0)],.int .i64 3]) (by simp [results,Tryz.results80,go_sem,q0,q1,q2,q3]) rfl ?_
    refine⟨⟨_,_,_,_,_,_,_,_,3,rfl,[],[],Ans.nil _ _,Ans.nil _ _,.inl rfl,.inr ⟨rfl,rfl,rfl,rfl,rfl,rfl,rfl,?_⟩⟩,HD.out.2⟩
    rw [HQZ.out,HRZ.out,aD,aD,←HQ.out.2.1,←HR.out.2.1]
    exact HBIG.out
   ·rw [decide_eq_false hbig] at hAB
    have HBIG:=aa hbig
    clear hbig
    go_wp2_with fail
    refine hAB.mono ?_
    rintro e wn ⟨rfl,hw⟩;rw [hw];clear hw wn hAB
    have hS1:=bO ap (.slice aq lq kq) rq _ wv HQv.out
    rw [bQ ap HQ.out.2.2 HQ.out.2.1,←HQZ.out] at hS1
    go_wp2_with fail
    refine hS1.mono ?_
    rintro e ws ⟨rfl,hbs⟩
    have hS2:=bO b1 (.slice ar lr kr) rr _ ws (HRv.out.below hbs)
    rw [bQ b1 HR.out.2.2 HR.out.2.1,←HRZ.out] at hS2
    have HBS:=aa hbs
    clear hbs hS1
    go_wp2_with fail
    refine hS2.mono ?_
    rintro e wt ⟨rfl,hbt⟩
    have hbst:=HBS.out.trans (hbt.mono HBS.out.size)
    have HR2:=aa (ab hbst HR2v.out)
    have HR3:=aa (ab hbst HR3v.out)
    have HBE:=aa (HBV.out.trans (hbst.mono HBV.out.size))
    have HQt:=aa (HQv.out.below hbst)
    have HRt:=aa (HRv.out.below hbst)
    have hf2:=af HR2.out
    have hf3:=af HR3.out
    obtain⟨m0,m1⟩:=duo HR2.out
    obtain⟨m2,m3⟩:=duo HR3.out
    clear hbt hbst hS2 HR2v HR3v hwv
    obtain⟨uq,huq⟩:∃ub,decide (qz<0)=ub:=⟨_,rfl⟩
    obtain⟨ur,hur⟩:∃ub,decide (rz<0)=ub:=⟨_,rfl⟩
    rw [huq,hur]
    go_wp2
    have hq4:=ck (base:=w.heap.size) (u0:=.bool uq) (u1:=(.slice aq lq kq)) (u2:=.bool ur) (u3:=(.slice ar lr kr)) HR2.out HR3.out
    have HD:=aa (And.intro hq4.2.2 (cf HBE.out (g:=w.heap.size+2) (u0:=.bool uq) (u1:=(.slice aq lq kq)) (u2:=.bool ur) (u3:=(.slice ar lr kr)) (by omega)))
    obtain⟨R5,R6,_⟩:=hq4
    generalize (((wt.setCell ⟨w.heap.size+2,0,none⟩ (.bool uq)).setCell ⟨w.heap.size+2,1,none⟩ ((.slice aq lq kq))).setCell ⟨w.heap.size+2+1,0,none⟩ (.bool ur)).setCell ⟨w.heap.size+2+1,1,none⟩ ((.slice ar lr kr))=w5 at *
    obtain⟨q0,q1⟩:=duo R5
    obtain⟨q2,q3⟩:=duo R6
    refine bodyPost_ret (v:=.tuple #[.agg #[.bool uq,(.slice aq lq kq)],.agg #[.bool ur,(.slice ar lr kr)],.int .i64 0]) (by simp [results,Tryz.results80,go_sem,q0,q1,q2,q3]) rfl ?_
    refine⟨⟨_,_,_,_,_,_,_,_,0,rfl,rq,rr,HD.out.1 _ _ HQt.out,HD.out.1 _ _ HRt.out,HAP.out,.inl ⟨rfl,huq.symm,?_,HQ.out.2.2,hur.symm,?_,HR.out.2.2,?_,?_⟩⟩,HD.out.2⟩
    ·rw [HQZ.out,aD];exact HQ.out.2.1
    ·rw [HRZ.out,aD];exact HR.out.2.1
    ·rw [HQZ.out,aD,←HQ.out.2.1];have:=HBIG.out;omega
    ·rw [HRZ.out,aD,←HR.out.2.1];have:=HBIG.out;omega
end Go.Proofs.YtcbpdngogkbndaaGreatDoor
namespace Go.Proofs.YtcbpdngogkbndaaGreatDoor
open Go.RowKit
open Lm
attribute [local go_sem ↓] Go.wp_at_zero Go.wp_at_succ

theorem jK (b1:Bool)(v:Value)(X:List Nat)(b2:Bool)(u:Value)(Y:List Nat)(ap fu:Bool)(qz rz:Int)(w:World)(hA:Arg w v X)(hB:Arg w u Y)(hT:Tab w)(hx:X.length≤17592186043904)(hy:Y.length≤17592186043904)(hy0:0<val Y)
  (hap:(b1 != b2)=ap) (hfu:ap=fu)
  (hqz:qz=zz ap (val X / val Y+if fu && decide (0<val X % val Y) then 1 else 0)) (hrz:rz=zz (if fu && decide (0<val X % val Y) then !b1 else b1) (if fu && decide (0<val X % val Y) then val Y - val X % val Y else val X % val Y)) :
  Calls Tryz.prog 55 #[.agg #[.bool b1,v],.agg #[.bool b2,u]] w (gf w qz rz):=by
 obtain⟨a,n,rfl,_,_,_⟩:=hA.form
 obtain⟨a9,n9,rfl,_,_,_⟩:=hB.form
 obtain⟨w0,hw0,hb0,h0,h1,h2,h3⟩:=il w (.cells #[.bool b1,.slice a X.length n] 27) (.cells #[.bool b2,.slice a9 Y.length n9] 27) (.cells #[.bool false,.slice none 0 0] 27) (.cells #[.bool false,.slice none 0 0] 27)
 obtain⟨k0,k1⟩:=duo h0
 obtain⟨k2,k3⟩:=duo h1
 have HM:=wdivide_2 b1 _ X b2 _ Y ap fu qz rz w0 (hA.below hb0) (hB.below hb0) (hT.below hb0) hx hy hy0 hap hfu hqz hrz
 have HB0:=aa hb0
 have H2:=aa h2
 have H3:=aa h3
 clear hA hB hT hb0 h0 h1 h2 h3 hqz hrz hap hfu
 go_enter Tryz.func55,Tryz.ntmps55
 go_wp2_with fail
 refine HM.mono ?_
 rintro e w1 ⟨⟨b3,a3,n3,m3,b4,a4,n4,m4,c,rfl,rs1,rs2,A1,A2,hap,hcase⟩,hb1⟩
 have HR2:=aa (ab hb1 H2.out)
 have HR3:=aa (ab hb1 H3.out)
 have HBE:=aa (HB0.out.trans (hb1.mono HB0.out.size))
 have HC:=aa (And.intro (A1.base HB0.out.size) (And.intro (A2.base HB0.out.size) (And.intro hap hcase)))
 have hf2:=af HR2.out
 have hf3:=af HR3.out
 obtain⟨m0,m1⟩:=duo HR2.out
 obtain⟨m2,m3'⟩:=duo HR3.out
 clear A1 A2 hap hcase hb1 HM hw0 k0 k1 k2 k3 H2 H3
 go_wp2
 have hq4:=ck (base:=w.heap.size) (u0:=.bool b3) (u1:=.slice a3 n3 m3) (u2:=.bool b4) (u3:=.slice a4 n4 m4) HR2.out HR3.out
 have HD:=aa (And.intro hq4.2.2 (cf HBE.out (g:=w.heap.size+2) (u0:=.bool b3) (u1:=.slice a3 n3 m3) (u2:=.bool b4) (u3:=.slice a4 n4 m4) (by omega)))
 obtain⟨R5,R6,_⟩:=hq4
 generalize (((w1.setCell ⟨w.heap.size+2,0,none⟩ (.bool b3)).setCell ⟨w.heap.size+2,1,none⟩ (.slice a3 n3 m3)).setCell ⟨w.heap.size+2+1,0,none⟩ (.bool b4)).setCell ⟨w.heap.size+2+1,1,none⟩ (.slice a4 n4 m4)=w5 at *
 obtain⟨q0,q1⟩:=duo R5
 obtain⟨q2,q3⟩:=duo R6
 refine bodyPost_ret (v:=.tuple #[.agg #[.bool b3,.slice a3 n3 m3],.agg #[.bool b4,.slice a4 n4 m4],.int .i64 c]) (by simp [results,Tryz.results55,go_sem,q0,q1,q2,q3]) rfl ?_
 exact⟨⟨_,_,_,_,_,_,_,_,_,rfl,rs1,rs2,HD.out.1 _ _ HC.out.1,HD.out.1 _ _ HC.out.2.1,HC.out.2.2⟩,HD.out.2⟩
end Go.Proofs.YtcbpdngogkbndaaGreatDoor
namespace Go.Proofs.YtcbpdngogkbndaaGreatDoor
open Lm
end Go.Proofs.YtcbpdngogkbndaaGreatDoor
namespace Go.Proofs.YtcbpdngogkbndaaGreatDoor
open Go.RowKit
open Lm
attribute [local go_sem ↓] Go.wp_at_zero Go.wp_at_succ
end Go.Proofs.YtcbpdngogkbndaaGreatDoor

