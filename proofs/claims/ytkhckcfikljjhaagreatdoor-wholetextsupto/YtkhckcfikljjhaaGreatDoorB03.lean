/- Own, of answers that were made one after another; Lend and Kept, as the laws use them. -/
import Derived.Test.YtkhckcfikljjhaaGreatDoorB02
import Derived.Test.YtkhckcfikljjhaaGreatDoorB01
import Derived.LoopN
import Derived.Handy
import Derived.Laws.IdiomStrings
import Derived.Lib.AppendZeros
import Derived.Lib.SliceRun
import Derived.Deep.QuietTactic
import Derived.BigQuiet
set_option maxRecDepth 20000
set_option maxHeartbeats 2000000
namespace Go.Proofs.YtkhckcfikljjhaaGreatDoor
open Go.RowKit
open Lm

def aQ (w:World):Nat→List Value→List (List Nat)→Prop
 | _,[],[]=>True
 | b,v :: vs,r :: rs=>∃b',(b≤b'∧b'≤w.heap.size)∧Ans w b v r∧(∀g,v.ownBlock=some g→g<b')∧aQ w b' vs rs
 | _,_,_=>False

theorem Ans.top {w:World}{base:Nat}{v:Value}{zs:List Nat}(h:Ans w base v zs):∀g,v.ownBlock=some g→g<w.heap.size:=fun g hg=>(h.own.lt g hg).2

theorem e9 (zs:List Nat)(h:Limbs zs):blen (val zs)≤64*zs.length:=by
 rw [blen_le_iff,Nat.mul_comm]
 have:=val_lt h
 rwa [W_pow] at this

theorem bU {w a b:World}(h:Hid (Below w.heap.size w a))(hb:Below a.heap.size a b):Hid (Below w.heap.size w b):=h.out.trans (hb.mono h.out.size)

theorem aQ.length {w:World}:∀ {b:Nat} {vs:List Value} {rs:List (List Nat)},aQ w b vs rs→vs.length=rs.length
 | _,[],[],_=>rfl
 | _,_ :: _,_ :: _,⟨_,_,_,_,h⟩=>by simp [h.length]
 | _,[],_ :: _,h=>h.elim
 | _,_ :: _,[],h=>h.elim

theorem aQ.row {w:World}:∀ {b:Nat} {vs:List Value} {rs:List (List Nat)},aQ w b vs rs→∀i,i<vs.length→Ans w b (vs.getD i an) (rs.getD i [])
 | _,[],_,_,i,hi=>absurd hi (by simp)
 | _,_ :: _,[],h,_,_=>h.elim
 | _,v :: vs,r :: rs,⟨b',h1,h2,h3,h4⟩,i,hi=>by
  cases i with
  | zero=>exact h2
  | succ i=>exact (h4.row i (by simpa using hi)).base h1.1

theorem aQ.from {w:World}{b:Nat}{vs:List Value}{rs:List (List Nat)}(h:aQ w b vs rs)(i:Nat)(hi:i<vs.length)(g:Nat)(hg:(vs.getD i an).ownBlock=some g):b≤g:=((h.row i hi).own.lt g hg).1

theorem aQ.apart {w:World}:∀ {b:Nat} {vs:List Value} {rs:List (List Nat)},aQ w b vs rs→∀i j,i<vs.length→j<vs.length→i≠j→(vs.getD i an).ownBlock=none∨(vs.getD i an).ownBlock≠(vs.getD j an).ownBlock
 | _,[],_,_,i,_,hi,_,_=>absurd hi (by simp)
 | _,_ :: _,[],h,_,_,_,_,_=>h.elim
 | _,v :: vs,r :: rs,⟨b',h1,h2,h3,h4⟩,i,j,hi,hj,hij=>by
  cases i with
  | zero=>
   cases j with
   | zero=>exact absurd rfl hij
   | succ j=>
    show v.ownBlock=none∨v.ownBlock≠(vs.getD j an).ownBlock
    cases hv:v.ownBlock with
    | none=>exact .inl rfl
    | some g=>
     refine .inr fun e=>?_
     have a:=h3 g hv
     have b:=h4.from j (by simpa using hj) g e.symm
     omega
  | succ i=>
   cases j with
   | zero=>
    show (vs.getD i an).ownBlock=none∨(vs.getD i an).ownBlock≠v.ownBlock
    cases hv:(vs.getD i an).ownBlock with
    | none=>exact .inl rfl
    | some g=>
     refine .inr fun e=>?_
     have a:=h3 g e.symm
     have b:=h4.from i (by simpa using hi) g hv
     omega
   | succ j=>exact h4.apart i j (by simpa using hi) (by simpa using hj) (by omega)

theorem aQ.below {w w':World}(hb:Below w.heap.size w w'):∀ {b:Nat} {vs:List Value} {rs:List (List Nat)},aQ w b vs rs→aQ w' b vs rs
 | _,[],[],_=>trivial
 | _,_ :: _,_ :: _,⟨b',h1,h2,h3,h4⟩=>⟨b',⟨h1.1,Nat.le_trans h1.2 hb.size⟩,h2.below hb,h3,aQ.below hb h4⟩
 | _,[],_ :: _,h=>h.elim
 | _,_ :: _,[],h=>h.elim

theorem aQ.one {w:World}{b:Nat}{v:Value}{r:List Nat}(h:Ans w b v r)(hb:b≤w.heap.size):aQ w b [v] [r]:=⟨w.heap.size,⟨hb,Nat.le_refl _⟩,h,h.top,trivial⟩

def cS (w:World)(vw:Value)(zs:List Nat):Prop:=∃g,vw=.slice (some ⟨g,0,none⟩) (zs.length+4) (zs.length+4)∧Blk w g (bs zs)

theorem cS.below {w w':World}{vw:Value}{zs:List Nat}(h:cS w vw zs)(hb:Below w.heap.size w w'):cS w' vw zs:=by
 obtain⟨g,h1,h2⟩:=h
 refine⟨g,h1,?_⟩
 unfold Blk
 rw [hb.block g h2.lt];exact h2

theorem oI (v:Value)(zs:List Nat)(w:World)(h:Arg w v zs)(hf:zs.length≤35184372088000) :
  Calls Tryz.prog 19 #[v] w fun e w'=>(∃vw vp,e=.returned (.tuple #[vw,vp])∧cS w' vw zs∧Arg w' vp zs)∧Below w.heap.size w w':=by
 refine (j6 v zs w h hf).mono ?_
 rintro e w' ⟨rfl,hb,hbel⟩
 refine⟨⟨_,_,rfl,⟨_,rfl,hb⟩,⟨_,_,rfl,by omega,by omega,.inr ⟨_,2,rfl,fun k hk=>?_⟩⟩,h.limbs,h.few,fun n c e=>by cases e⟩,hbel⟩
 rw [hb.cell (2+k) (by rw [gI];omega),Nat.add_comm 2 k,iT zs k hk]

theorem ou (vw va:Value)(zs:List Nat)(w:World)(hl:cS w vw zs)(ha:Arg w va zs)(hf:zs.length≤35184372088000) :
  Calls Tryz.prog 13 #[vw,va] w fun e w'=>e=.returned (.bool true)∧w'=w:=by
 obtain⟨g,rfl,hb⟩:=hl
 exact nT g va zs w hb ha hf
end Go.Proofs.YtkhckcfikljjhaaGreatDoor
namespace Go.Proofs.YtkhckcfikljjhaaGreatDoor
open Go.RowKit
open Lm
attribute [local go_sem ↓] Go.wp_at_zero Go.wp_at_succ

theorem Ans.cellAt5 {w:World}{base g cap:Nat}{zs:List Nat}(h:Ans w base (.slice (some ⟨g,0,none⟩) zs.length cap) zs):(zs.length≤cap∧cap≤9223372036854775807)∧(∀k,w.frozen? ⟨g,k,none⟩=false)∧∀k,k<zs.length→w.cell? ⟨g,k,none⟩=some (.int .u64 ((zs.getD k 0:Nat):Int)):=by
 rcases h.form with ⟨e,_⟩|⟨g',cap',e,_,_,h1,h2,h3,h4⟩
 ·cases e
 ·cases e
  exact⟨⟨h1,h2⟩,h3,h4⟩

theorem dw {w:World}{h k:Nat}{cs:Array Value}{t:TypeId}(e:w.heap[h]?=some (.cells cs t))(u:Value):(w.setCell ⟨h,k,none⟩ u).heap[h]?=some (.cells (cs.setIfInBounds k u) t):=by
 have hlt:=lt_of_block e
 have h':w.heap[h]=.cells cs t:=by simpa [Array.getElem?_eq_getElem hlt] using e
 show (w.heap.modify h _)[h]?=_
 rw [Array.getElem?_eq_getElem (by simpa using hlt),Array.getElem_modify_self,h']
 rfl

theorem po (h:15<(ByteArray.mk #[48,49,50,51,52,53,54,55,56,57,97,98,99,100,101,102,103,104,105,106,107,108,109,110,111,112,113,114,115,116,117,118,119,120,121,122]).size):(ByteArray.mk #[48,49,50,51,52,53,54,55,56,57,97,98,99,100,101,102,103,104,105,106,107,108,109,110,111,112,113,114,115,116,117,118,119,120,121,122])[15]=102:=rfl

theorem jJ (h:15<(ByteArray.mk #[48,49,50,51,52,53,54,55,56,57,97,98,99,100,101,102,103,104,105,106,107,108,109,110,111,112,113,114,115,116,117,118,119,120,121,122]).size):(ByteArray.mk #[48,49,50,51,52,53,54,55,56,57,97,98,99,100,101,102,103,104,105,106,107,108,109,110,111,112,113,114,115,116,117,118,119,120,121,122])[15].toNat=102:=rfl

attribute [local go_sem] po jJ
end Go.Proofs.YtkhckcfikljjhaaGreatDoor
namespace Go.Proofs.YtkhckcfikljjhaaGreatDoor
open Go.RowKit
open Lm
attribute [local go_sem ↓] Go.wp_at_zero Go.wp_at_succ

theorem Tryz.infoB:(Tryz.prog.info? 5).map (fun i=>(i.zero,i.size,i.bytes))=some (some (.int .u8 0),1,1):=by kernel_rfl

theorem dW {P:Program}(w:World)(a:Addr)(m:Mode)(f:Fn)(x y:Array Value):(store a (.func f x y) m).run P w=stored P w a (.func f x y) m:=run_store P w a _ m rfl

attribute [local go_sem] dW

theorem cA {w w':World}{g:Nat}{x:Obj}(hb:Below w.heap.size w w')(h:w.heap[g]?=some x):w'.heap[g]?=some x:=by
 rw [hb.block g (lt_of_block h)];exact h

theorem kU {w:World}{h:Nat}{a:Value}{t:TypeId}(e:w.heap[h]?=some (.cells #[a] t)):w.cell? ⟨h,0,none⟩=some a:=by simp [World.cell?,e]

theorem ak (w:World)(o:Obj):Below w.heap.size w (w.alloc o):=(Below.refl _ _).alloc (Nat.le_refl _) _

theorem pQ {w:World}{base n g:Nat}(h:w.ownsRow base 5 1 (.slice (some ⟨g,0,none⟩) n n) n (madeCells (Value.int .u8 0).cells (n*1)).toList):w.heap[g]?=some (.cells (List.replicate n (Value.int .u8 0)).toArray 5):=by
 obtain⟨_,h2⟩:=h
 rcases h2 with ⟨h2,_⟩|⟨g',cap,cur,hv,_,hh,_,_,hs,ht⟩
 ·cases h2
 ·cases hv
  rw [hh]
  have e:cur.toList=List.replicate n (Value.int .u8 0):=by
   have:cur.toList.take (n*1)=cur.toList:=List.take_of_length_le (by simp;omega)
   rw [←this,ht]
   show (madeCells #[Value.int .u8 0] (n*1)).toList=_
   rw [toList_madeCells_one,Nat.mul_one]
  rw [←e]
end Go.Proofs.YtkhckcfikljjhaaGreatDoor
namespace Go.Proofs.YtkhckcfikljjhaaGreatDoor
open Go.RowKit
open Lm
attribute [local go_sem ↓] Go.wp_at_zero Go.wp_at_succ

theorem aT {w:World}{h:Nat}{a b:Value}{t:TypeId}(e:w.heap[h]?=some (.cells #[a,b] t)):w.cell? ⟨h,0,none⟩=some a∧w.cell? ⟨h,1,none⟩=some b:=
 ⟨by simp [World.cell?,e],by simp [World.cell?,e]⟩

theorem d6 {w:World}{h:Nat}{a b:Value}{t:TypeId}(e:w.heap[h]?=some (.cells #[a,b] t)):∀k,w.frozen? ⟨h,k,none⟩=false:=fun k=>by simp [World.frozen?,e]

theorem lz1 (w:World):Calls Tryz.prog 139 #[.int .u64 1] w fun e w'=>e=.returned (.int .i64 63)∧w'=w:=
 Tryz.bits_LeadingZeros64 1 w (by omega) (by omega)

theorem jZ (w:World):Calls Tryz.prog 132 #[.int .u64 1] w fun e w'=>e=.returned (.agg #[.int .u64 9223372036854775808,.int .i64 (-63)])∧Below w.heap.size w w':=by
 have HB:=aa (ak w (.cells #[.int .u64 9223372036854775808,.int .i64 (-63)] 147))
 go_enter Tryz.func132,Tryz.ntmps132
 go_wp2_with fail
 refine (lz1 _).mono ?_
 rintro e wn ⟨rfl,hw⟩;rw [hw];clear hw wn
 go_wp2
 go_returns
 exact⟨rfl,HB.out⟩

def ig (w:World)(g:Nat)(l:List (Nat × Value × Nat)):Prop:=∀(i d:Nat) (o:Value) (s:Nat),l[i]?=some (d,o,s)→w.cell? ⟨g,i*3,none⟩=some (.int .i64 d)∧w.cell? ⟨g,i*3+1,none⟩=some o∧w.cell? ⟨g,i*3+2,none⟩=some (.int .i64 s)∧d≤9223372036854775807∧s≤9223372036854775807∧∃a n c,o=.slice a n c

def bW (w:World)(v:Value)(l:List (Nat × Value × Nat)):Prop:=
 (v=.slice none 0 0∧l=[])∨∃g cap,v=.slice (some ⟨g,0,none⟩) l.length cap∧g<w.heap.size∧l.length≤cap∧cap≤9223372036854775807 ∧
  ig w g l

def fk (l:List (Nat × Value × Nat))(n:Nat)(w:World)(e:Ending)(w':World):Prop:=
 ((∃(i d:Nat) (o:Value) (s:Nat),l[i]?=some (d,o,s)∧d<n∧(∀(j d':Nat) (o':Value) (s':Nat),i<j→l[j]?=some (d',o',s')→n≤d')∧e=.returned (.tuple #[.agg #[.int .i64 d,o,.int .i64 s],.bool true])) ∨
  ((∀(j d':Nat) (o':Value) (s':Nat),l[j]?=some (d',o',s')→n≤d')∧e=.returned (.tuple #[.agg #[.int .i64 0,.slice none 0 0,.int .i64 0],.bool false])))∧Below w.heap.size w w'

theorem tri {w:World}{h:Nat}{a b c:Value}{t:TypeId}(e:w.heap[h]?=some (.cells #[a,b,c] t)):w.cell? ⟨h,0,none⟩=some a∧w.cell? ⟨h,1,none⟩=some b∧w.cell? ⟨h,2,none⟩=some c:=
 ⟨by simp [World.cell?,e],by simp [World.cell?,e],by simp [World.cell?,e]⟩

theorem jH {w:World}{h:Nat}{a b c:Value}{t:TypeId}(e:w.heap[h]?=some (.cells #[a,b,c] t)):∀k,w.frozen? ⟨h,k,none⟩=false:=fun k=>by simp [World.frozen?,e]

theorem iY {w:World}{h:Nat}{a b c a' b' c':Value}{t:TypeId}(e:w.heap[h]?=some (.cells #[a,b,c] t)):(((w.setCell ⟨h,0,none⟩ a').setCell ⟨h,1,none⟩ b').setCell ⟨h,2,none⟩ c').heap[h]?=some (.cells #[a',b',c'] t):=
 dw (dw (dw e a') b') c'

theorem jh {B:Nat}{w0 w:World}{g:Nat}{u0 u1 u2:Value}(h:Below B w0 w)(hg:B≤g):Below B w0 (((w.setCell ⟨g,0,none⟩ u0).setCell ⟨g,1,none⟩ u1).setCell ⟨g,2,none⟩ u2):=
 ((h.setCell (p:=⟨g,0,none⟩) hg u0).setCell (p:=⟨g,1,none⟩) hg u1).setCell (p:=⟨g,2,none⟩) hg u2

theorem qI (g cap n:Nat)(l:List (Nat × Value × Nat))(w:World)(hg:g<w.heap.size)(hc:l.length≤cap)(hcm:cap≤9223372036854775807)
  (hl:ig w g l) :
  Calls Tryz.prog 65 #[.slice (some ⟨g,0,none⟩) l.length cap,.int .i64 n] w (fk l n w):=by
 obtain⟨w0,hw0⟩:∃w0,w.alloc (.cells #[.int .i64 0,.slice none 0 0,.int .i64 0] 103)=w0:=⟨_,rfl⟩
 have hb0:Below w.heap.size w w0:=by rw [←hw0];exact ak _ _
 have h0:w0.heap[w.heap.size]?=some (.cells #[.int .i64 0,.slice none 0 0,.int .i64 0] 103):=by rw [←hw0];exact heap_alloc_new ..
 have HL:=aa hl
 have HB0:=aa hb0
 have H0:=aa h0
 have HW0:=aa hw0
 clear hl hb0 h0
 go_enter Tryz.func65,Tryz.ntmps65
 go_wp2
 clear hw0
 go_loop [6] (fun i=>∃k:Nat,k≤l.length∧i=.int .i64 ((k:Int) - 1)∧∀(j d':Nat) (o':Value) (s':Nat),k≤j→l[j]?=some (d',o',s')→n≤d') (fun i=>(intOf i+1).toNat)
 case atStart=>exact⟨l.length,Nat.le_refl _,rfl,fun j d' o' s' h1 h2=>by rw [List.getElem?_eq_none h1] at h2;cases h2⟩
 case round=>
  obtain⟨k,hk,rfl,hall⟩:=hrel
  have HA:=aa hall
  clear hall
  by_cases hk0:k=0
  ·subst hk0
   obtain⟨d0,d1,d2⟩:=tri H0.out
   have hf:=jH H0.out
   have R5:=iY H0.out (a':=.int .i64 0) (b':=.slice none 0 0) (c':=.int .i64 0)
   have HD:=aa (jh HB0.out (g:=w.heap.size) (u0:=.int .i64 0) (u1:=.slice none 0 0) (u2:=.int .i64 0) (Nat.le_refl _))
   go_wp2
   generalize ((w0.setCell ⟨w.heap.size,0,none⟩ (.int .i64 0)).setCell ⟨w.heap.size,1,none⟩ (.slice none 0 0)).setCell ⟨w.heap.size,2,none⟩ (.int .i64 0)=w5 at *
   obtain⟨q0,q1,q2⟩:=tri R5
   clear d0 d1 d2 hf
   refine bodyPost_ret (v:=.tuple #[.agg #[.int .i64 0,.slice none 0 0,.int .i64 0],.bool false]) (by simp [results,Tryz.results65,go_sem,q0,q1,q2]) rfl ?_
   exact⟨.inr ⟨fun j d' o' s' h=>HA.out j d' o' s' (Nat.zero_le _) h,rfl⟩,HD.out⟩
  ·obtain⟨j,rfl⟩:∃j,k=j+1:=⟨k - 1,by omega⟩
   have ej:(((j+1:Nat):Int) - 1)=(j:Int):=by omega
   rw [ej]
   have hjl:j<l.length:=by omega
   obtain⟨d,o,s,hd⟩:∃d o s,l[j]?=some (d,o,s):=⟨_,_,_,List.getElem?_eq_getElem hjl⟩
   obtain⟨c0,c1,c2,hdm,hsm,a,n',c',rfl⟩:=HL.out j d o s hd
   rw [←HB0.out.cell (p:=⟨g,j*3,none⟩) hg] at c0
   rw [←HB0.out.cell (p:=⟨g,j*3+1,none⟩) hg] at c1
   rw [←HB0.out.cell (p:=⟨g,j*3+2,none⟩) hg] at c2
   have hj0:(0:Int)≤(j:Int):=by omega
   have hjl':(j:Int)<(l.length:Int):=by omega
   by_cases hdn:d<n
   ·have hi:(d:Int)<(n:Int):=by omega
    obtain⟨d0,d1,d2⟩:=tri H0.out
    have hf:=jH H0.out
    have R5:=iY H0.out (a':=.int .i64 d) (b':=.slice a n' c') (c':=.int .i64 s)
    have HD:=aa (jh HB0.out (g:=w.heap.size) (u0:=.int .i64 d) (u1:=.slice a n' c') (u2:=.int .i64 s) (Nat.le_refl _))
    have HR:=aa hd
    clear hd
    go_wp2
    generalize ((w0.setCell ⟨w.heap.size,0,none⟩ (.int .i64 d)).setCell ⟨w.heap.size,1,none⟩ (.slice a n' c')).setCell ⟨w.heap.size,2,none⟩ (.int .i64 s)=w5 at *
    obtain⟨q0,q1,q2⟩:=tri R5
    clear d0 d1 d2 hf c0 c1 c2
    refine bodyPost_ret (v:=.tuple #[.agg #[.int .i64 d,.slice a n' c',.int .i64 s],.bool true]) (by simp [results,Tryz.results65,go_sem,q0,q1,q2]) rfl ?_
    exact⟨.inl ⟨j,d,_,s,HR.out,hdn,fun i d' o' s' h1 h2=>HA.out i d' o' s' (by omega) h2,rfl⟩,HD.out⟩
   ·have hi:¬((d:Int)<(n:Int)):=by omega
    go_wp2
    go_round
    case rel=>
     refine⟨j,by omega,rfl,fun i d' o' s' h1 h2=>?_⟩
     rcases Nat.lt_or_ge j i with h3|h3
     ·exact HA.out i d' o' s' (by omega) h2
     ·obtain rfl:i=j:=by omega
      rw [hd] at h2
      cases h2
      omega
    case measure=>simp [intOf]

theorem lR (n:Nat)(w:World):Calls Tryz.prog 65 #[.slice none 0 0,.int .i64 n] w (fk [] n w):=by
 have HB:=aa (ak w (.cells #[.int .i64 0,.slice none 0 0,.int .i64 0] 103))
 go_enter Tryz.func65,Tryz.ntmps65
 go_wp2
 refine wp_loop_rounds 1 ?_
 rw [rounds_succ]
 go_wp2
 go_returns
 exact⟨.inr ⟨fun j d' o' s' h=>by simp at h,rfl⟩,HB.out⟩

theorem fS (v:Value)(n:Nat)(l:List (Nat × Value × Nat))(w:World)(h:bW w v l):Calls Tryz.prog 65 #[v,.int .i64 n] w (fk l n w):=by
 rcases h with ⟨rfl,rfl⟩|⟨g,cap,rfl,hg,hc,hcm,hl⟩
 ·exact lR n w
 ·exact qI g cap n l w hg hc hcm hl

theorem ic (n:Nat):(Builtin.zeroCells (Value.int .u64 0).cells n).size=n:=by
 simp [Builtin.zeroCells,Value.cells]

theorem mt (n:Nat)(w:World)(hn:0<n)(hm:n≤17592186044416) :
  Calls Tryz.prog 140 #[.slice none 0 0,.int .i64 n] w fun e w'=>(∃cap,e=.returned (.slice (some ⟨w.heap.size,0,none⟩) 0 cap)∧w'.ownsRow w.heap.size 65 1 (.slice (some ⟨w.heap.size,0,none⟩) 0 cap) 0 [])∧Below w.heap.size w w':=by
 obtain⟨i0,hi,hz0,hz1,hz2⟩:=info_parts Tryz.infoU
 have i1:¬((n:Int)<0):=by omega
 have i2:(0:Int)<(n:Int):=by omega
 have HR:=Lib.run_append_nil_zeros (P:=Tryz.prog) w 25 3 25 65 i0 (.int .u64 0) .i64 .i64 Tryz.underlying25 Tryz.underlying3 hi hz0 n hn (by omega) (by omega) (by rw [hz2];omega)
 have hge:=grownCap_ge w n 0 65
 have hml:=grownCap_le_maxLen w n 0 65 (by unfold maxLen;omega)
 obtain⟨cap,hcap⟩:∃cap,grownCap w n 0 65=cap:=⟨_,rfl⟩
 rw [hcap] at HR hge hml
 obtain⟨w1,hw1⟩:∃w1,w.drew.alloc (.cells (Builtin.zeroCells (Value.int .u64 0).cells n ++ Builtin.zeroCells (Value.int .u64 0).cells (cap - n)) 65)=w1:=⟨_,rfl⟩
 have HO:Hid (w1.ownsRow w.heap.size 65 1 (.slice (some ⟨w.heap.size,0,none⟩) 0 cap) 0 []):=by
  refine⟨rfl,.inr ⟨w.heap.size,cap,_,rfl,Nat.le_refl _,by rw [←hw1];exact heap_alloc_new _ _,Nat.zero_le _,hml,?_,by simp⟩⟩
  rw [Array.size_append,ic,ic]
  omega
 have HB:Hid (Below w.heap.size w w1):=by
  rw [←hw1]
  exact (Below.refl w.heap.size w).drew.alloc (Nat.le_refl _) _
 rw [hw1] at HR
 clear hw1 hi hz0 hz1 hz2 hcap hml
 go_enter Tryz.func140,Tryz.ntmps140
 go_wp2_with (at_builtin;refine Lib.wpList_append_run _ rfl _ _ _ _ rfl _ _ rfl rfl _ _ HR ?_)
 go_wp2
 go_ret
 exact⟨⟨cap,rfl,HO.out⟩,HB.out⟩

theorem pZ (gs:Nat)(ad:Addr)(c:Nat)(X:List Nat)(w:World)(hg:w.heap[gs]?=some (.cells #[.slice (some ad) X.length c,.slice none 0 0] 25))(hA:Arg w (.slice (some ad) X.length c) X)(hX:0<X.length)(hm:X.length≤17592186044416) :
  Calls Tryz.prog 126 #[.slice (some ⟨gs,0,none⟩) 2 2] w fun e w'=>(∃v',e=.returned v'∧Ans w' w.heap.size v' X)∧Below w.heap.size w w':=by
 obtain⟨i0,hi,hz0,hz1,hz2⟩:=info_parts Tryz.infoU
 have HL:=aa hA.limbs
 have c0:w.cell? ⟨gs,0,none⟩=some (.slice (some ad) X.length c):=by simp [World.cell?,hg]
 have c1:w.cell? ⟨gs,1,none⟩=some (.slice none 0 0):=by simp [World.cell?,hg]
 have HG:=aa hg
 have HA:=aa hA
 have C:=mt X.length w hX hm
 have i1:¬((X.length:Int)<0):=by omega
 clear hg hA
 go_enter Tryz.func126,Tryz.ntmps126
 go_wp2
 refine wp_loop_rounds 3 ?_
 rw [rounds_succ]
 go_wp2
 rw [rounds_succ]
 go_wp2
 rw [rounds_succ]
 go_wp2_with fail
 refine C.mono ?_
 rintro e w1 ⟨⟨cap,rfl,hown⟩,hb⟩
 have hA1:=HA.out.below hb
 have hg1:=(hb.block gs (lt_of_block HG.out)).trans HG.out
 have d0:w1.cell? ⟨gs,0,none⟩=some (.slice (some ad) X.length c):=by simp [World.cell?,hg1]
 have hnews:∀j u,(X.map lv)[j]?=some u→w1.cell? (ad.add j)=some u:=by
  intro j u hj
  obtain⟨_,_,e,_,_,hl⟩:=hA1.form
  cases e
  rcases hl with rfl|⟨b,off,he,hc⟩
  ·simp at hj
  ·cases he
   rw [List.getElem?_map] at hj
   obtain⟨z,hz,rfl⟩:=Option.map_eq_some_iff.1 hj
   have hjl:j<X.length:=(List.getElem?_eq_some_iff.1 hz).1
   have:=hc j hjl
   simp only [List.getD,hz,Option.getD_some] at this
   rw [kT]
   exact this
 have HB:=aa hb
 have HG1:=aa hg1
 have HOW:=aa hown
 have hle:=hb.size
 clear C c0 c1 hA1 hg1 hb hown HA HG1
 go_wp2
 refine wp_loop_rounds 3 ?_
 rw [rounds_succ]
 go_wp2_with (at_builtin;refine wpList_append_own _ rfl _ _ 25 rfl w.heap.size 65 i0 (.int .u64 0) 1 8 Tryz.underlying25 hi hz0 hz1 hz2 rfl (by decide) _ 0 [] rfl HOW.out ad X.length c (X.map lv) rfl (by simp) hnews (cL X) (by unfold maxLen;omega) (by omega) hle ?_;intro v' w2 hown2 hgrow _)
 rw [Nat.zero_add,List.nil_append] at hown2
 have HB2:Hid (Below w.heap.size w w2):=(HB.out).grown hgrow hle (fun g hg=>(HOW.out.lt g hg).1)
 have HO2:=aa hown2
 clear hnews d0 hgrow HOW
 have d1:w2.cell? ⟨gs,1,none⟩=some (.slice none 0 0):=by
  have hg2:=(HB2.out.block gs (lt_of_block HG.out)).trans HG.out
  simp [World.cell?,hg2]
 rw [rounds_succ]
 go_wp2_with (at_builtin;refine wpList_append_own_none rfl _ _ 25 rfl w.heap.size 65 i0 1 Tryz.underlying25 hi _ X.length (X.map lv) rfl HO2.out rfl ?_)
 rw [rounds_succ]
 go_wp2
 go_ret
 exact⟨⟨_,rfl,HO2.out,HL.out⟩,HB2.out⟩
end Go.Proofs.YtkhckcfikljjhaaGreatDoor
namespace Go.Proofs.YtkhckcfikljjhaaGreatDoor
open Lm

def seg (Z:List Nat)(o n:Nat):List Nat:=(Z.drop o).take n

def sv (Z:List Nat)(o n:Nat):Nat:=val (seg Z o n)

structure Out (Z Z':List Nat)(lo hi:Nat):Prop where
 len:Z'.length=Z.length
 same:∀k,k<lo∨hi≤k→Z'.getD k 0=Z.getD k 0

theorem Out.refl (Z:List Nat)(lo hi:Nat):Out Z Z lo hi:=⟨rfl,fun _ _=>rfl⟩

theorem Out.trans {Z Z' Z'':List Nat}{lo hi:Nat}(h:Out Z Z' lo hi)(k:Out Z' Z'' lo hi):Out Z Z'' lo hi:=
 ⟨k.len.trans h.len,fun j hj=>(k.same j hj).trans (h.same j hj)⟩

theorem Out.wider {Z Z':List Nat}{lo hi lo' hi':Nat}(h:Out Z Z' lo hi)(h1:lo'≤lo)(h2:hi≤hi'):Out Z Z' lo' hi':=
 ⟨h.len,fun k hk=>h.same k (by omega)⟩

theorem cI (Z:List Nat)(j k z:Nat):(Z.set j z).getD k 0=if j=k∧k<Z.length then z else Z.getD k 0:=by
 by_cases h:j=k
 ·subst h
  by_cases hl:j<Z.length
  ·simp [List.getD,hl]
  ·simp [List.getD,hl]
 ·simp [List.getD,h]

theorem Out.set {Z Z':List Nat}{lo hi:Nat}(h:Out Z Z' lo hi)(j z:Nat)(h1:lo≤j)(h2:j<hi):Out Z (Z'.set j z) lo hi:=
 ⟨by simp [h.len],fun k hk=>by rw [cI,if_neg (by omega)];exact h.same k hk⟩

theorem aV (Z:List Nat)(o n:Nat)(h:o+n≤Z.length):(seg Z o n).length=n:=by
 simp [seg];omega

theorem dj (Z:List Nat)(o n k:Nat)(h:k<n):(seg Z o n).getD k 0=Z.getD (o+k) 0:=by
 simp [seg,List.getD,h]

theorem iI {a b:List Nat}(hl:a.length=b.length)(h:∀k,k<a.length→a.getD k 0=b.getD k 0):a=b:=by
 refine List.ext_getElem hl fun k h1 h2=>?_
 have:=h k h1
 simpa [List.getD,h1,h2] using this

theorem Out.seg {Z Z':List Nat}{lo hi:Nat}(h:Out Z Z' lo hi)(o n:Nat)(hd:o+n≤lo∨hi≤o):seg Z' o n=seg Z o n:=by
 have hl:(Go.Proofs.YtkhckcfikljjhaaGreatDoor.seg Z' o n).length=(Go.Proofs.YtkhckcfikljjhaaGreatDoor.seg Z o n).length:=by simp [Go.Proofs.YtkhckcfikljjhaaGreatDoor.seg,h.len]
 refine iI hl fun k hk=>?_
 have hk':k<n:=by simp [Go.Proofs.YtkhckcfikljjhaaGreatDoor.seg] at hk;omega
 rw [dj _ _ _ _ hk',dj _ _ _ _ hk',h.same _ (by omega)]

theorem Out.sv {Z Z':List Nat}{lo hi:Nat}(h:Out Z Z' lo hi)(o n:Nat)(hd:o+n≤lo∨hi≤o):sv Z' o n=sv Z o n:=by
 unfold Go.Proofs.YtkhckcfikljjhaaGreatDoor.sv;rw [h.seg o n hd]

theorem aA (Z:List Nat)(o:Nat):sv Z o 0=0:=by simp [sv,seg,val]

theorem ae (Z:List Nat)(o m n:Nat)(h:o+m≤Z.length):sv Z o (m+n)=sv Z o m+18446744073709551616 ^ m*sv Z (o+m) n:=by
 unfold sv
 have e:seg Z o (m+n)=seg Z o m ++ seg Z (o+m) n:=by
  unfold seg
  rw [List.take_add,List.drop_drop]
 rw [e,val_append,aV Z o m h]

theorem dU (Z:List Nat)(o:Nat)(h:o<Z.length):sv Z o 1=Z.getD o 0:=by
 unfold sv seg
 rw [List.drop_eq_getElem_cons h,List.take_succ_cons,List.take_zero,val,val]
 simp [List.getD,h]

theorem cY (Z:List Nat)(o i:Nat)(h:o+i<Z.length):sv Z o (i+1)=sv Z o i+18446744073709551616 ^ i*Z.getD (o+i) 0:=by
 rw [ae Z o i 1 (by omega),dU _ _ h]

theorem cX {Z:List Nat}(h:Limbs Z)(o n:Nat):Limbs (seg Z o n):=fun z hz=>h z (List.mem_of_mem_drop (List.mem_of_mem_take hz))

theorem bB {Z:List Nat}(h:Limbs Z)(o n:Nat):sv Z o n<18446744073709551616 ^ n:=by
 have h1:=val_lt (cX h o n)
 refine Nat.lt_of_lt_of_le h1 (Nat.pow_le_pow_right (by omega) ?_)
 simp [seg];omega

theorem cH (Z:List Nat)(o i z:Nat)(h:o+i<Z.length):sv (Z.set (o+i) z) o (i+1)=sv Z o i+18446744073709551616 ^ i*z:=by
 rw [cY _ _ _ (by simpa using h),cI,if_pos ⟨rfl,h⟩]
 have e:Out Z (Z.set (o+i) z) (o+i) (o+i+1):=(Out.refl _ _ _).set _ _ (by omega) (by omega)
 rw [e.sv o i (by omega)]

theorem aW (Z:List Nat):sv Z 0 Z.length=val Z:=by simp [sv,seg]

theorem ko (Z Z' X:List Nat)(o i m cy hi lo:Nat)(hz:o+i<Z'.length)(h0:Z'.getD (o+i) 0=Z.getD (o+i) 0)(hZ:Z'.length=Z.length)
  (h:sv Z' o i+cy*18446744073709551616 ^ i=sv Z o i+val (X.take i)*m)
  (hs:lo+hi*18446744073709551616=X.getD i 0*m+Z.getD (o+i) 0+cy) :
  sv (Z'.set (o+i) lo) o (i+1)+hi*18446744073709551616 ^ (i+1)=sv Z o (i+1)+val (X.take (i+1))*m:=by
 have:=h0
 rw [cH _ _ _ _ hz,cY Z o i (by omega),val_take_next X i,show (18446744073709551616:Nat) ^ (i+1)=18446744073709551616 ^ i*18446744073709551616 from Nat.pow_succ ..]
 generalize sv Z' o i=V' at *
 generalize sv Z o i=V at *
 generalize val (X.take i)=U at *
 generalize Z.getD (o+i) 0=z at *
 generalize X.getD i 0=x at *
 generalize (18446744073709551616:Nat) ^ i=P at *
 generalize (18446744073709551616:Nat)=W at *
 grind

theorem mi (x m z cy:Nat)(hx:x<18446744073709551616)(hm:m<18446744073709551616)(hz:z<18446744073709551616)(hc:cy<18446744073709551616) :
  x*m+z+cy<18446744073709551616*18446744073709551616:=by
 have h:=Nat.mul_le_mul (Nat.le_sub_one_of_lt hx) (Nat.le_sub_one_of_lt hm)
 omega
end Go.Proofs.YtkhckcfikljjhaaGreatDoor
namespace Go.Proofs.YtkhckcfikljjhaaGreatDoor
open Go.RowKit
open Lm

theorem qw (b off cap:Nat)(zs:List Nat)(w:World)(hcap:zs.length≤cap)(hmax:cap≤9223372036854775807)
  (hc:∀k,k<zs.length→w.cell? ⟨b,off+k,none⟩=some (.int .u64 ((zs.getD k 0:Nat):Int))) :
  Calls Tryz.prog 151 #[.slice (some ⟨b,off,none⟩) zs.length cap] w fun e w'=>e=.returned (.slice (some ⟨b,off,none⟩) (tr zs).length cap)∧w'=w:=by
 go_enter Tryz.func151,Tryz.ntmps151
 go_wp2
 go_loop [3] (fun n=>∃k:Nat,k≤zs.length∧n=.int .i64 k∧tr (zs.take k)=tr zs) (fun n=>(intOf n).toNat)
 case atStart=>exact⟨zs.length,Nat.le_refl _,rfl,by rw [List.take_length]⟩
 case round=>
  obtain⟨k,hk,rfl,ht⟩:=hrel
  have HT:Hid (tr (zs.take k)=tr zs):=ht
  clear ht
  by_cases h0:k=0
  ·subst h0
   go_wp2
   go_ret
   have e:=HT.out
   simp only [List.take_zero,tr] at e
   rw [←e]
   exact⟨rfl,rfl⟩
  ·obtain⟨j,rfl⟩:∃j,k=j+1:=⟨k - 1,by omega⟩
   have hcj:=hc j (by omega)
   clear hc
   by_cases hz:zs.getD j 0=0
   ·have HZ:Hid (tr (zs.take j)=tr zs):=by rw [←tr_step zs j (by omega) hz];exact HT.out
    rw [hz] at hcj
    clear hz HT
    go_wp2
    go_round
    case rel=>exact⟨j,by omega,by go_num,HZ.out⟩
    case measure=>simp [intOf]
   ·have HZ:Hid (tr zs=zs.take (j+1)):=by rw [←HT.out];exact tr_stop zs j (by omega) hz
    clear HT
    generalize zs.getD j 0=z at hcj hz
    have hne:((z:Int) == 0)=false:=by rw [beq_eq_false_iff_ne];omega
    clear hz
    go_wp2
    go_ret
    rw [HZ.out]
    have e:(zs.take (j+1)).length=j+1:=by simp;omega
    rw [e]
    exact⟨rfl,rfl⟩

theorem oE (ao:Option Addr)(cap:Nat)(w:World)(_hmax:cap≤9223372036854775807) :
  Calls Tryz.prog 151 #[.slice ao 0 cap] w fun e w'=>e=.returned (.slice ao 0 cap)∧w'=w:=by
 go_enter Tryz.func151,Tryz.ntmps151
 go_wp2
 refine wp_loop_rounds 1 ?_
 rw [rounds_succ]
 go_wp2
 go_ret
 exact⟨rfl,rfl⟩

theorem bF (ao:Option Addr)(cap:Nat)(zs:List Nat)(w:World)(hcap:zs.length≤cap)(hmax:cap≤9223372036854775807)(hl:ac w ao zs) :
  Calls Tryz.prog 151 #[.slice ao zs.length cap] w fun e w'=>e=.returned (.slice ao (tr zs).length cap)∧w'=w:=by
 rcases hl with rfl|⟨b,off,rfl,hc⟩
 ·exact oE ao cap w hmax
 ·exact qw b off cap zs w hcap hmax hc

structure Fr (bz:Nat)(w w':World):Prop where
 os:w'.os=w.os
 tape:w'.tape=w.tape
 output:w'.output=w.output
 size:w.heap.size≤w'.heap.size
 block:∀k,k<w.heap.size→k≠bz→w'.heap[k]?=w.heap[k]?

theorem Fr.refl (bz:Nat)(w:World):Fr bz w w:=⟨rfl,rfl,rfl,Nat.le_refl _,fun _ _ _=>rfl⟩

theorem Fr.trans {bz:Nat}{a b c:World}(h:Fr bz a b)(k:Fr bz b c):Fr bz a c:=
 ⟨k.os.trans h.os,k.tape.trans h.tape,k.output.trans h.output,Nat.le_trans h.size k.size,fun i h1 h2=>(k.block i (Nat.lt_of_lt_of_le h1 h.size) h2).trans (h.block i h1 h2)⟩

theorem Fr.setCell {bz:Nat}{a w:World}(h:Fr bz a w)(off:Nat)(u:Value):Fr bz a (w.setCell ⟨bz,off,none⟩ u):=
 ⟨h.os,h.tape,h.output,by simpa using h.size,fun k h1 h2=>(Below.heap_setCell w _ u k h2).trans (h.block k h1 h2)⟩

theorem Fr.drew {bz:Nat}{a w:World}(h:Fr bz a w):Fr bz a w.drew:=⟨h.os,h.tape,h.output,h.size,h.block⟩

theorem Fr.of_below {bz:Nat}{w w':World}(h:Below w.heap.size w w'):Fr bz w w':=⟨h.os,h.tape,h.output,h.size,fun k h1 _=>h.block k h1⟩

theorem Fr.below {bz base:Nat}{w w':World}(h:Fr bz w w')(h1:base≤bz)(h2:base≤w.heap.size):Below base w w':=
 ⟨h.os,h.tape,h.output,h.size,fun k hk=>h.block k (by omega) (by omega)⟩

def Off (v:Value)(bz lo hi:Nat):Prop:=∀b off n c,v=.slice (some ⟨b,off,none⟩) n c→b≠bz∨off+n≤lo∨hi≤off

theorem ac.fr {w w':World}{ao:Option Addr}{X Z Z':List Nat}{bz lo hi:Nat}(h:ac w ao X)(ho:∀b off,ao=some ⟨b,off,none⟩→b≠bz∨off+X.length≤lo∨hi≤off)
  (hf:Fr bz w w') (hb:Blk w bz Z) (hb':Blk w' bz Z') (hz:Out Z Z' lo hi):ac w' ao X:=by
 rcases h with h|⟨b,off,rfl,hc⟩
 ·exact .inl h
 ·rcases Nat.eq_zero_or_pos X.length with h0|h0
  ·exact .inl (List.length_eq_zero_iff.1 h0)
  refine .inr ⟨b,off,rfl,fun k hk=>?_⟩
  have hlt:b<w.heap.size:=ac.block (zs:=X) (.inr ⟨b,off,rfl,hc⟩) h0
  by_cases hbz:b=bz
  ·subst hbz
   have h1:=hc k hk
   have hin:off+k<Z.length:=by
    refine Nat.lt_of_not_le fun hle=>?_
    have:w.cell? ⟨b,off+k,none⟩=none:=by
     unfold Blk at hb
     simp [World.cell?,hb];omega
    rw [this] at h1;cases h1
   rw [hb.cell _ hin] at h1
   rw [hb'.cell _ (by rw [hz.len];exact hin),hz.same _ (by have:=ho b off rfl;omega)]
   exact h1
  ·have:=hf.block b hlt hbz
   rw [World.cell?_of_block (w:=w) this]
   exact hc k hk

theorem Arg.fr {w w':World}{v:Value}{X Z Z':List Nat}{bz lo hi:Nat}(h:Arg w v X)(ho:Off v bz lo hi)
  (hf:Fr bz w w') (hb:Blk w bz Z) (hb':Blk w' bz Z') (hz:Out Z Z' lo hi):Arg w' v X:=by
 obtain⟨ao,cap,h1,h2,h3,h4⟩:=h.form
 exact⟨⟨ao,cap,h1,h2,h3,h4.fr (fun b off e=>by subst e;exact ho b off _ _ h1) hf hb hb' hz⟩,h.limbs,h.few,h.nz⟩
end Go.Proofs.YtkhckcfikljjhaaGreatDoor
namespace Go.Proofs.YtkhckcfikljjhaaGreatDoor
open Go.RowKit
open Lm
attribute [local go_sem ↓] Go.wp_at_zero Go.wp_at_succ

theorem pA (P z cy:Nat)(h:P+z+cy<340282366920938463463374607431768211456)(_hz:z<18446744073709551616)(_hc:cy<18446744073709551616) :
  ((P % 18446744073709551616+z) % 18446744073709551616+cy) % 18446744073709551616+(P / 18446744073709551616+(P % 18446744073709551616+z) / 18446744073709551616+((P % 18446744073709551616+z) % 18446744073709551616+cy) / 18446744073709551616)*18446744073709551616=P+z+cy ∧
  P / 18446744073709551616+(P % 18446744073709551616+z) / 18446744073709551616<18446744073709551616 ∧
  P / 18446744073709551616+(P % 18446744073709551616+z) / 18446744073709551616+((P % 18446744073709551616+z) % 18446744073709551616+cy) / 18446744073709551616<18446744073709551616 ∧
  ((P % 18446744073709551616+z) % 18446744073709551616+cy) % 18446744073709551616<18446744073709551616:=by
 omega

theorem jb (bz zo cap:Nat)(Z:List Nat)(v1:Value)(X:List Nat)(m:Nat)(w:World)(hB:Blk w bz Z)(hLZ:Limbs Z)(hA:Arg w v1 X)(ho:Off v1 bz zo (zo+X.length))
  (hzo:zo+X.length≤Z.length) (hc1:X.length≤cap) (hc2:cap≤9223372036854775807) (hm:m<18446744073709551616) :
  Calls Tryz.prog 165 #[.slice (some ⟨bz,zo,none⟩) X.length cap,v1,.int .u64 m] w fun e w'=>∃(cy:Nat) (Z':List Nat),e=.returned (.int .u64 (cy:Int))∧cy<18446744073709551616 ∧
   Out Z Z' zo (zo+X.length)∧Limbs Z'∧Blk w' bz Z'∧Fr bz w w'∧sv Z' zo X.length+cy*18446744073709551616 ^ X.length=sv Z zo X.length+val X*m:=by
 obtain⟨a1,c1,rfl,hcc1,hcm1,hl1⟩:=hA.form
 have M1:=hA.limbs
 have hX:=hA.few
 have hao:∀b off,a1=some ⟨b,off,none⟩→b≠bz∨off+X.length≤zo∨zo+X.length≤off:=fun b off e=>by subst e;exact ho b off _ _ rfl
 clear ho hA
 go_enter Tryz.func165,Tryz.ntmps165
 go_wp2
 go_loopw [7,16] (fun c i wr=>∃(k cy:Nat) (Z':List Nat),k≤X.length∧i=.int .i64 k∧c=.int .u64 cy∧cy<18446744073709551616∧Out Z Z' zo (zo+k)∧Limbs Z'∧Blk wr bz Z'∧Fr bz w wr ∧
   sv Z' zo k+cy*18446744073709551616 ^ k=sv Z zo k+val (X.take k)*m) (fun _ i _=>X.length - (intOf i).toNat)
 case atStart=>exact⟨0,0,Z,Nat.zero_le _,rfl,rfl,by omega,Out.refl _ _ _,hLZ,hB,Fr.refl _ _,by simp [aA,val]⟩
 case round=>
  obtain⟨k,cy,Z',hk,rfl,rfl,hcy,hout,hlz,hblk,hfr0,hval⟩:=hrel
  have HV:=aa hval
  have HB:=aa hblk
  have HF:=aa hfr0
  have HO:=aa hout
  have hl:=hout.len
  clear hval
  by_cases hkl:k<X.length
  ·rcases hl1.fr hao hfr0 hB hblk (hout.wider (Nat.le_refl _) (by omega)) with h0|⟨b,off,rfl,hcell⟩
   ·rw [h0] at hkl;simp at hkl
   ·have hck:=hcell k hkl
    have hfr:=hblk.free (zo+k)
    have hco:=hblk.cell (zo+k) (by omega)
    have z1:=limb_lt M1 k
    have z2:=limb_lt hlz (zo+k)
    have hsame:=hout.same (zo+k) (by omega)
    have hft:=mi (X.getD k 0) m (Z'.getD (zo+k) 0) cy z1 hm z2 hcy
    have hlm:=pA (X.getD k 0*m) (Z'.getD (zo+k) 0) cy hft z2 hcy
    have HS:=aa (fun hi lo hs=>ko Z Z' X zo k m cy hi lo (by omega) hsame hl HV.out hs)
    rw [←hsame] at HS
    have ha1:=bC (X.getD k 0*m % 18446744073709551616) (Z'.getD (zo+k) 0)
    have ha2:=bC ((X.getD k 0*m % 18446744073709551616+Z'.getD (zo+k) 0) % 18446744073709551616) cy
    have hM:=Tryz.bits_Mul64 (X.getD k 0) m z1 hm wr
    generalize Z'.getD (zo+k) 0=z at *
    generalize X.getD k 0=x at *
    generalize hP:x*m=P at *
    clear hP hft hsame
    obtain⟨q1,q2,q3,q4⟩:=hlm
    have HS2:=aa (HS.out _ _ q1)
    clear HS q1
    generalize ((P % 18446744073709551616+z) % 18446744073709551616+cy) % 18446744073709551616=s at *
    generalize ((P % 18446744073709551616+z) % 18446744073709551616+cy) / 18446744073709551616=o2 at *
    generalize (P % 18446744073709551616+z) % 18446744073709551616=s1 at *
    generalize (P % 18446744073709551616+z) / 18446744073709551616=o1 at *
    generalize P / 18446744073709551616=h1 at *
    generalize P % 18446744073709551616=l1 at *
    have e1:(h1:Int)+(o1:Int)=((h1+o1:Nat):Int):=by omega
    generalize h1+o1=h2 at *
    have e2:(h2:Int)+(o2:Int)=((h2+o2:Nat):Int):=by omega
    generalize h2+o2=h3 at *
    clear hcell hblk hfr0 hout HV M1 hl1 hB hLZ
    go_wp2_with fail
    refine hM.mono ?_
    rintro e w2 ⟨rfl,rfl⟩
    clear hM
    go_wp2
    go_roundw
    case rel=>exact⟨k+1,h3,Z'.set (zo+k) s,by omega,by go_num,rfl,q3,(HO.out.wider (Nat.le_refl _) (by omega)).set _ _ (by omega) (by omega),limbs_set hlz _ _ q4,HB.out.set _ s,HF.out.setCell _ _,HS2.out⟩
    case measure=>simp [intOf];omega
  ·have ek:k=X.length:=by omega
   subst ek
   rw [List.take_length] at HV
   clear hblk hfr0 hout hl1 hB
   go_wp2
   go_ret
   exact⟨cy,Z',rfl,hcy,HO.out,hlz,HB.out,HF.out,HV.out⟩

def lay (Z:List Nat)(o:Nat):List Nat→List Nat
 | []=>Z
 | p :: r=>lay (Z.set o p) (o+1) r

theorem dn (P:List Nat):∀(Z:List Nat) (o:Nat),(lay Z o P).length=Z.length:=by
 induction P with
 | nil=>intro Z o;rfl
 | cons p r ih=>intro Z o;rw [lay,ih];simp

theorem bJ (P:List Nat):∀(Z:List Nat) (o:Nat),Out Z (lay Z o P) o (o+P.length):=by
 induction P with
 | nil=>intro Z o;exact Out.refl _ _ _
 | cons p r ih=>
  intro Z o
  have h1:Out Z (Z.set o p) o (o+(p :: r).length):=(Out.refl _ _ _).set _ _ (Nat.le_refl _) (by simp)
  exact h1.trans ((ih (Z.set o p) (o+1)).wider (by omega) (by simp;omega))

theorem bY (P:List Nat):∀(Z:List Nat) (o:Nat),o+P.length≤Z.length→sv (lay Z o P) o P.length=val P:=by
 induction P with
 | nil=>intro Z o _;exact aA _ _
 | cons p r ih=>
  intro Z o h
  have hl:o+r.length+1≤Z.length:=by simpa [Nat.add_assoc] using h
  rw [show (p :: r).length=1+r.length by simp;omega,ae _ _ _ _ (by rw [dn];omega),dU _ _ (by rw [dn];omega),lay,ih _ _ (by simp;omega)]
  have h2:=(bJ r (Z.set o p) (o+1)).same o (by omega)
  rw [h2,cI,if_pos ⟨rfl,by omega⟩,val,Nat.pow_one]

theorem ch (P:List Nat)(hP:Limbs P):∀(Z:List Nat) (o:Nat),Limbs Z→Limbs (lay Z o P):=by
 induction P with
 | nil=>intro Z o h;exact h
 | cons p r ih=>intro Z o h;exact ih (fun z hz=>hP z (List.mem_cons_of_mem _ hz)) _ _ (limbs_set h _ _ (hP p (List.mem_cons_self ..)))

theorem Blk.setCells {b:Nat}(P:List Nat):∀ {w:World} {Z:List Nat} (o:Nat),Blk w b Z→Blk (w.setCells b o (P.map lv)) b (lay Z o P):=by
 induction P with
 | nil=>intro w Z o h;exact h
 | cons p r ih=>intro w Z o h;exact ih (o+1) (h.set o p)

theorem Fr.setCells {b:Nat}(P:List Value):∀ {a w:World} (o:Nat),Fr b a w→Fr b a (w.setCells b o P):=by
 induction P with
 | nil=>intro a w o h;exact h
 | cons p r ih=>intro a w o h;exact ih (o+1) (h.setCell o p)

theorem pa (w:World):(zeroValue 65).run Tryz.prog w=.ok (.int .u64 0) w:=by kernel_rfl

theorem dq (bz zo n cap:Nat)(Z:List Nat)(w:World)(ty:TypeId)(hB:Blk w bz Z)(hz:zo+n≤Z.length)(hn:0<n) :
  (Builtin.clear_ #[25] ty #[.slice (some ⟨bz,zo,none⟩) n cap]).run Tryz.prog w=.ok (.tuple #[]) (w.setCells bz zo ((List.replicate n 0).map lv)):=by
 rw [Lib.run_clear_slice w 25 65 ty (.int .u64 0) Tryz.underlying25 pa rfl rfl bz zo n cap hn (fun j hj=>by rw [hB.cell (zo+j) (by omega)];rfl) (fun j hj=>hB.free (zo+j)),List.map_replicate]
 rfl

theorem mh (Z Z2 X Y:List Nat)(o k m cy:Nat)(hl:Z2.length=Z.length)(hk:k<Y.length)(hZ:o+(X.length+Y.length)≤Z.length)(hm:m=Y.getD k 0)
  (h:sv Z o (k+X.length)=val X*val (Y.take k)) (ho:Out Z Z2 (o+k) (o+k+X.length))
  (h2:sv Z2 (o+k) X.length+cy*18446744073709551616 ^ X.length=sv Z (o+k) X.length+val X*m) :
  sv (Z2.set (o+(k+X.length)) cy) o (k+1+X.length)=val X*val (Y.take (k+1)):=by
 rw [show k+1+X.length=k+X.length+1 by omega,cH _ _ _ _ (by omega),ae _ _ _ _ (by omega),ho.sv o k (by omega),val_take_next Y k,←hm,Nat.pow_add]
 rw [ae _ _ _ _ (by omega)] at h
 generalize sv Z o k=A at *
 generalize sv Z2 (o+k) X.length=B2 at *
 generalize sv Z (o+k) X.length=B at *
 generalize val (Y.take k)=V at *
 generalize val X=U at *
 generalize (18446744073709551616:Nat) ^ k=K at *
 generalize (18446744073709551616:Nat) ^ X.length=L at *
 grind

theorem gA (bz zo cap:Nat)(Z:List Nat)(va vb:Value)(X Y:List Nat)(w:World)(hB:Blk w bz Z)(hLZ:Limbs Z)(hA:Arg w va X)(hA2:Arg w vb Y)
  (ho:Off va bz zo (zo+(X.length+Y.length))) (ho2:Off vb bz zo (zo+(X.length+Y.length))) (hzo:zo+(X.length+Y.length)≤Z.length) (hc1:X.length+Y.length≤cap) (hc2:cap≤9223372036854775807) :
  Calls Tryz.prog 159 #[.slice (some ⟨bz,zo,none⟩) (X.length+Y.length) cap,va,vb] w fun e w'=>e=.returned (.tuple #[])∧∃Z':List Nat,
   Out Z Z' zo (zo+(X.length+Y.length))∧Limbs Z'∧Blk w' bz Z'∧Fr bz w w'∧sv Z' zo (X.length+Y.length)=val X*val Y:=by
 obtain⟨a1,c1,rfl,hcc1,hcm1,hl1⟩:=hA.form
 obtain⟨a2,c2,rfl,hcc2,hcm2,hl2⟩:=hA2.form
 have hao2:∀b off,a2=some ⟨b,off,none⟩→b≠bz∨off+Y.length≤zo∨zo+(X.length+Y.length)≤off:=fun b off e=>by subst e;exact ho2 b off _ _ rfl
 have fX:=hA.few
 have fY:=hA2.few
 have mY:=hA2.limbs
 obtain⟨w1,Z1,hrun,hout1,hlz1,hb1,hf1,hs1⟩:∃(w1:World) (Z1:List Nat),(∀ty,(Builtin.clear_ #[25] ty #[.slice (some ⟨bz,zo,none⟩) (X.length+Y.length) cap]).run Tryz.prog w=.ok (.tuple #[]) w1)∧Out Z Z1 zo (zo+(X.length+Y.length))∧Limbs Z1∧Blk w1 bz Z1∧Fr bz w w1∧sv Z1 zo (X.length+Y.length)=0:=by
  rcases Nat.eq_zero_or_pos (X.length+Y.length) with h0|h0
  ·refine⟨w,Z,fun ty=>?_,Out.refl _ _ _,hLZ,hB,Fr.refl _ _,by rw [h0];exact aA _ _⟩
   rw [h0]
   simp [Builtin.clear_,run_underlying Tryz.underlying25]
  ·have hlr:(List.replicate (X.length+Y.length) 0).length=X.length+Y.length:=by simp
   have e1:=bJ (List.replicate (X.length+Y.length) 0) Z zo
   have e2:=bY (List.replicate (X.length+Y.length) 0) Z zo (by rw [hlr];exact hzo)
   rw [hlr] at e1 e2
   exact⟨_,lay Z zo (List.replicate (X.length+Y.length) 0),fun ty=>dq bz zo _ cap Z w ty hB hzo h0,e1,ch _ (limbs_replicate _) _ _ hLZ,Blk.setCells _ _ hB,(Fr.refl _ _).setCells _ _,by rw [e2,val_replicate]⟩
 have hs0:sv Z1 zo X.length=0:=by
  rw [ae _ _ _ _ (by have:=hout1.len;omega)] at hs1;omega
 have HO1:=aa hout1
 have HF1:=aa hf1
 have HL1:=aa hb1
 clear hs1
 go_enter Tryz.func159,Tryz.ntmps159
 go_wp2
 go_loopw [11] (fun i wr=>∃(k:Nat) (Z':List Nat),k≤Y.length∧i=.int .i64 k∧Out Z Z' zo (zo+(X.length+Y.length))∧Limbs Z'∧Blk wr bz Z'∧Fr bz w wr ∧
   sv Z' zo (k+X.length)=val X*val (Y.take k)) (fun i _=>Y.length - (intOf i).toNat)
 case atStart=>exact⟨0,Z1,Nat.zero_le _,rfl,HO1.out,hlz1,HL1.out,HF1.out,by rw [Nat.zero_add,hs0];simp [val]⟩
 case round=>
  obtain⟨k,Z',hk,rfl,hout,hlz,hblk,hfr0,hval⟩:=hrel
  clear hrun hout1 hlz1 hb1 hf1 hs0 HO1 HF1 HL1
  by_cases hkl:k<Y.length
  ·rcases hl2.fr hao2 hfr0 hB hblk hout with h0|⟨b,off,rfl,hcell⟩
   ·rw [h0] at hkl;simp at hkl
   ·have hck:=hcell k hkl
    have z2:=limb_lt mY k
    have hlen:=hout.len
    have hA':Arg wr (.slice a1 X.length c1) X:=hA.fr ho hfr0 hB hblk hout
    have HM:=jb bz (zo+k) (cap - k) Z' _ X (Y.getD k 0) wr hblk hlz hA' (fun b off n c e=>by rcases ho b off n c e with h|h|h <;> omega) (by omega) (by omega) (by omega) z2
    have HS:=aa (fun Z2 cy hl2 hO2 h2=>mh Z' Z2 X Y zo k (Y.getD k 0) cy hl2 hkl (by omega) rfl hval hO2 h2)
    have HO:=aa hout
    have HF:=aa hfr0
    generalize Y.getD k 0=m at *
    obtain⟨t,ht1,ht2,e1,e2⟩:∃t:Nat,t≤k+X.length∧k+X.length≤t∧(k:Int)+(X.length:Int)=(t:Int)∧t - k=X.length:=⟨k+X.length,by omega,by omega,by omega,by omega⟩
    have hb1:(0:Int)≤(k:Int):=by omega
    have hkn:k≤k+X.length:=by omega
    have hkc:k+X.length≤cap:=by omega
    clear hcell hblk hfr0 hout hval hA hA2 ho ho2 hl1 hl2 hB hLZ mY hao2 hA'
    go_wp2_with fail
    refine HM.mono ?_
    rintro e w2 ⟨cy,Z2,rfl,hcy,hO2,hlz2,hb2,hf2,hv2⟩
    have HS2:=aa (HS.out Z2 cy hO2.len hO2 hv2)
    have hl2:=hO2.len
    have hfr:=hb2.free (zo+t)
    have hco:=hb2.cell (zo+t) (by omega)
    generalize Z2.getD (zo+t) 0=o at *
    have HB2:=aa hb2
    have HF2:=aa (HF.out.trans hf2)
    have HO2:=aa (HO.out.trans (hO2.wider (by omega) (by omega)))
    have ht3:t<X.length+Y.length:=by omega
    clear HM HS hO2 hb2 hf2 hv2 HF HO
    go_wp2
    go_roundw
    case rel=>
     refine⟨k+1,Z2.set (zo+t) cy,by omega,by go_num,HO2.out.set _ _ (by omega) (by omega),limbs_set hlz2 _ _ hcy,HB2.out.set _ cy,HF2.out.setCell _ _,?_⟩
     rw [show t=k+X.length by omega];exact HS2.out
    case measure=>simp [intOf];omega
  ·have ek:k=Y.length:=by omega
   subst ek
   rw [List.take_length,Nat.add_comm] at hval
   have HV:=aa hval
   have HB:=aa hblk
   have HF:=aa hfr0
   have HO:=aa hout
   clear hval hblk hfr0 hout hl1 hl2 hB hA hA2 ho ho2 hLZ
   go_wp2
   go_end0
   exact⟨rfl,Z',HO.out,hlz,HB.out,HF.out,HV.out⟩
end Go.Proofs.YtkhckcfikljjhaaGreatDoor
namespace Go.Proofs.YtkhckcfikljjhaaGreatDoor
open Go.RowKit
open Lm

def way (H T:Int):Value:=.agg #[.int .i64 H,.int .i64 T]

def ai (bz zo n:Nat)(Z:List Nat)(w:World)(p:Nat)(e:Ending)(w':World):Prop:=
 e=.returned (.tuple #[])∧∃Z':List Nat,Out Z Z' zo (zo+n)∧Limbs Z'∧Blk w' bz Z'∧Fr bz w w'∧sv Z' zo n=p

theorem ai.after {bz zo n:Nat}{Z:List Nat}{w w1:World}{p:Nat}{e:Ending}{w':World}(h:ai bz zo n Z w1 p e w')(hf:Fr bz w w1):ai bz zo n Z w p e w':=by
 obtain⟨he,Z',h1,h2,h3,h4,h5⟩:=h
 exact⟨he,Z',h1,h2,h3,hf.trans h4,h5⟩

theorem Blk.alloc {w:World}{b:Nat}{xs:List Nat}(h:Blk w b xs)(o:Obj):Blk (w.alloc o) b xs:=by
 unfold Blk
 rw [Below.heap_alloc w o b h.lt];exact h

theorem Fr.alloc (bz:Nat)(w:World)(o:Obj):Fr bz w (w.alloc o):=Fr.of_below ((Below.refl _ _).alloc (Nat.le_refl _) o)

theorem Arg.more {w:World}{v:Value}{zs:List Nat}(h:Arg w v zs)(o:Obj):Arg (w.alloc o) v zs:=h.below ((Below.refl _ _).alloc (Nat.le_refl _) _)

theorem mj (bz zo cap:Nat)(Z:List Nat)(va vb:Value)(X Y:List Nat)(w:World)(hB:Blk w bz Z)(hLZ:Limbs Z)(hA:Arg w va X)(hA2:Arg w vb Y)
  (ho:Off va bz zo (zo+(X.length+Y.length))) (ho2:Off vb bz zo (zo+(X.length+Y.length))) (hzo:zo+(X.length+Y.length)≤Z.length) (hc1:X.length+Y.length≤cap) (hc2:cap≤9223372036854775807) :
  Calls Tryz.prog 159 #[.slice (some ⟨bz,zo,none⟩) (X.length+Y.length) cap,vb,va] w (ai bz zo (X.length+Y.length) Z w (val X*val Y)):=by
 rw [Nat.add_comm X.length,Nat.mul_comm (val X)]
 rw [Nat.add_comm X.length] at ho ho2 hzo hc1
 exact gA bz zo cap Z vb va Y X w hB hLZ hA2 hA ho2 ho hzo hc1 hc2

theorem oC (H T:Int)(bz zo cap:Nat)(Z:List Nat)(va vb:Value)(X Y:List Nat)(w:World)(hB:Blk w bz Z)(hLZ:Limbs Z)(hA:Arg w va X)(hA2:Arg w vb Y)
  (ho:Off va bz zo (zo+(X.length+Y.length))) (ho2:Off vb bz zo (zo+(X.length+Y.length))) (hzo:zo+(X.length+Y.length)≤Z.length) (hc1:X.length+Y.length≤cap) (hc2:cap≤9223372036854775807)
  (hs:(X.length<Y.length∧(X.length:Int)<H∧(X.length:Int)<T)∨(Y.length≤X.length∧(Y.length:Int)<H∧(Y.length:Int)<T)) :
  Calls Tryz.prog 152 #[way H T,.slice (some ⟨bz,zo,none⟩) (X.length+Y.length) cap,va,vb] w (ai bz zo (X.length+Y.length) Z w (val X*val Y)):=by
 unfold way
 obtain⟨a1,c1,rfl,hcc1,hcm1,_⟩:=hA.form
 obtain⟨a2,c2,rfl,hcc2,hcm2,_⟩:=hA2.form
 have fX:=hA.few
 have fY:=hA2.few
 rcases hs with ⟨h1,h2,h3⟩|⟨h1,h2,h3⟩
 ·have i1:(X.length:Int)<(Y.length:Int):=by omega
  go_enter Tryz.func152,Tryz.ntmps152
  go_wp2_with fail
  refine (mj bz zo cap Z _ _ X Y _ (hB.alloc _) hLZ (hA.more _) (hA2.more _) ho ho2 hzo hc1 hc2).mono ?_
  rintro e w2 hd
  have HD:=aa (hd.after (Fr.alloc bz w _))
  obtain⟨he,_⟩:=hd
  subst he
  clear hA hA2 ho ho2 hB
  go_wp2
  go_end0
  exact HD.out
 ·have hd0:decide ((X.length:Int)<(Y.length:Int))=false:=decide_eq_false (by omega)
  go_enter Tryz.func152,Tryz.ntmps152
  go_wp2_with fail
  refine (gA bz zo cap Z _ _ X Y _ (hB.alloc _) hLZ (hA.more _) (hA2.more _) ho ho2 hzo hc1 hc2).mono ?_
  rintro e w2 hd
  have HD:=aa (ai.after hd (Fr.alloc bz w _))
  obtain⟨he,_⟩:=hd
  subst he
  clear hA hA2 ho ho2 hB
  go_wp2
  go_end0
  exact HD.out

def bR (x y:Nat):Nat:=if x=0∨y=0 then 0 else blen x+blen y - 1

theorem jP (va vb:Value)(X Y:List Nat)(w:World)(hA:Arg w va X)(hA2:Arg w vb Y)(fX:X.length≤35184372088831)(fY:Y.length≤35184372088831) :
  Calls Tryz.prog 146 #[va,vb] w fun e w'=>e=.returned (.int .i64 ((bR (val X) (val Y):Nat):Int))∧w'=w:=by
 have H1:=aE va X w hA
 have H2:=aE vb Y w hA2
 have b1:blen (val X)≤64*X.length:=by
  rw [blen_le_iff,Nat.mul_comm];have:=val_lt hA.limbs;rwa [W_pow] at this
 have b2:blen (val Y)≤64*Y.length:=by
  rw [blen_le_iff,Nat.mul_comm];have:=val_lt hA2.limbs;rwa [W_pow] at this
 have z1:blen (val X)=0 ↔ val X=0:=by
  unfold blen;split <;> simp [*]
 have z2:blen (val Y)=0 ↔ val Y=0:=by
  unfold blen;split <;> simp [*]
 have hL:bR (val X) (val Y)=if blen (val X)=0∨blen (val Y)=0 then 0 else blen (val X)+blen (val Y) - 1:=by
  unfold bR;simp only [z1,z2]
 rw [hL]
 clear hA hA2 z1 z2 hL
 generalize blen (val X)=x at *
 generalize blen (val Y)=y at *
 by_cases hx:x=0
 ·subst hx
  rw [if_pos (.inl rfl)]
  go_enter Tryz.func146,Tryz.ntmps146
  go_wp2_with fail
  refine H1.mono ?_
  rintro e w2 ⟨rfl,rfl⟩
  go_wp2_with fail
  refine H2.mono ?_
  rintro e w3 ⟨rfl,rfl⟩
  clear H1 H2
  go_wp2
  go_ret
  exact⟨rfl,rfl⟩
 ·have d1:((x:Int) == 0)=false:=by rw [beq_eq_false_iff_ne];omega
  by_cases hy:y=0
  ·subst hy
   rw [if_pos (.inr rfl)]
   go_enter Tryz.func146,Tryz.ntmps146
   go_wp2_with fail
   refine H1.mono ?_
   rintro e w2 ⟨rfl,rfl⟩
   go_wp2_with fail
   refine H2.mono ?_
   rintro e w3 ⟨rfl,rfl⟩
   clear H1 H2
   go_wp2
   go_ret
   exact⟨rfl,rfl⟩
  ·have d2:((y:Int) == 0)=false:=by rw [beq_eq_false_iff_ne];omega
   rw [if_neg (by omega)]
   have e1:(x:Int)+(y:Int) - 1=((x+y - 1:Nat):Int):=by omega
   generalize x+y - 1=t at *
   go_enter Tryz.func146,Tryz.ntmps146
   go_wp2_with fail
   refine H1.mono ?_
   rintro e w2 ⟨rfl,rfl⟩
   go_wp2_with fail
   refine H2.mono ?_
   rintro e w3 ⟨rfl,rfl⟩
   clear H1 H2
   go_wp2
   go_ret
   exact⟨rfl,rfl⟩

theorem jm {B:Nat}{a w:World}(h:Below B a w)(n:Nat):Below B a (w.drewN n):=⟨h.os,h.tape,h.output,h.size,h.block⟩

theorem bK {w:World}{h k:Nat}{cs:Array Value}{t:TypeId}(e:w.heap[h]?=some (.cells cs t))(u:Value):(w.setCell ⟨h,k,none⟩ u).heap[h]?=some (.cells (cs.setIfInBounds k u) t):=by
 have hlt:=lt_of_block e
 have h':w.heap[h]=.cells cs t:=by simpa [Array.getElem?_eq_getElem hlt] using e
 show (w.heap.modify h _)[h]?=_
 rw [Array.getElem?_eq_getElem (by simpa using hlt),Array.getElem_modify_self,h']
 rfl

theorem az (X:List Nat)(n:Nat)(h:val X<18446744073709551616 ^ n):(tr X).length≤n:=by
 refine Nat.le_of_not_lt fun hlt=>?_
 obtain⟨m,hm⟩:∃m,(tr X).length=m+1:=⟨(tr X).length - 1,by omega⟩
 have h1:=tr_val_ge X m hm
 rw [val_tr] at h1
 have h2:(18446744073709551616:Nat) ^ n≤18446744073709551616 ^ m:=Nat.pow_le_pow_right (by omega) (by omega)
 omega

theorem cQ {rs:List Nat}{x n:Nat}(ht:tr rs=rs)(hv:val rs=x)(hb:blen x≤n*64):rs.length≤n:=by
 rw [←ht]
 refine az rs n ?_
 rw [hv,W_pow]
 exact (blen_le_iff x _).1 hb
end Go.Proofs.YtkhckcfikljjhaaGreatDoor
namespace Go.Proofs.YtkhckcfikljjhaaGreatDoor
open Go.RowKit
open Lm
attribute [local go_sem ↓] Go.wp_at_zero Go.wp_at_succ

theorem cK (Z Z':List Nat)(o k cy c2 s v V:Nat)(hz:o+k<Z'.length)(hl:Z'.length=Z.length)
  (h:sv Z' o k+cy*18446744073709551616 ^ k=sv Z o k+V) (hs:s+c2*18446744073709551616=Z.getD (o+k) 0+v+cy) :
  sv (Z'.set (o+k) s) o (k+1)+c2*18446744073709551616 ^ (k+1)=sv Z o (k+1)+(V+18446744073709551616 ^ k*v):=by
 rw [cH _ _ _ _ hz,cY Z o k (by omega),show (18446744073709551616:Nat) ^ (k+1)=18446744073709551616 ^ k*18446744073709551616 from Nat.pow_succ ..]
 generalize sv Z' o k=A at *
 generalize sv Z o k=B at *
 generalize Z.getD (o+k) 0=z at *
 generalize (18446744073709551616:Nat) ^ k=P at *
 generalize (18446744073709551616:Nat)=W at *
 grind

theorem dX (Z Z':List Nat)(o k n V:Nat)(hk:k≤n)(hn:o+n≤Z.length)(ho:Out Z Z' o (o+k))(h:sv Z' o k=sv Z o k+V):sv Z' o n=sv Z o n+V:=by
 obtain⟨d,rfl⟩:∃d,n=k+d:=⟨n - k,by omega⟩
 rw [ae Z' o k d (by rw [ho.len];omega),ae Z o k d (by omega),h,ho.sv (o+k) d (by omega)]
 omega

theorem gf (Z Z':List Nat)(o n cy V:Nat)(hZ:sv Z o n+V<18446744073709551616 ^ n)(h:sv Z' o n+cy*18446744073709551616 ^ n=sv Z o n+V):cy=0:=by
 rcases Nat.eq_zero_or_pos cy with h0|h0
 ·exact h0
 ·have:=Nat.mul_le_mul_right (18446744073709551616 ^ n) h0
  omega

theorem df (z v cy:Nat)(hz:z<18446744073709551616)(hv:v<18446744073709551616)(hc:cy≤1) :
  (z+v+cy) % 18446744073709551616+(z+v+cy) / 18446744073709551616*18446744073709551616=z+v+cy∧(z+v+cy) / 18446744073709551616≤1∧(z+v+cy) % 18446744073709551616<18446744073709551616:=by
 omega

theorem cC (bz zo n cap:Nat)(Z:List Nat)(va:Value)(X:List Nat)(w:World)(hB:Blk w bz Z)(hLZ:Limbs Z)(hA:Arg w va X)(ho:Off va bz zo (zo+n))
  (hzo:zo+n≤Z.length) (hc1:n≤cap) (hc2:cap≤9223372036854775807) (hfit:sv Z zo n+val X<18446744073709551616 ^ n) :
  Calls Tryz.prog 168 #[.slice (some ⟨bz,zo,none⟩) n cap,va] w (ai bz zo n Z w (sv Z zo n+val X)):=by
 obtain⟨a1,c1,rfl,hcc1,hcm1,hl1⟩:=hA.form
 have hX:=hA.few
 have H1:=bF a1 c1 X w hcc1 hcm1 hl1
 have M1:=limbs_tr hA.limbs
 have hle:=tr_length_le X
 have hln:=az X n (by omega)
 have hao:∀b off,a1=some ⟨b,off,none⟩→b≠bz∨off+(tr X).length≤zo∨zo+n≤off:=fun b off e=>by
  subst e
  rcases ho b off _ _ rfl with h|h|h
  ·exact .inl h
  ·exact .inr (.inl (by omega))
  ·exact .inr (.inr h)
 have L1:=hl1.tr
 rw [←val_tr X] at hfit ⊢
 clear ho hA hl1
 generalize tr X=P at *
 have HFIT:=aa hfit
 have HB0:=aa hB
 have HLZ:=aa hLZ
 clear hfit
 go_enter Tryz.func168,Tryz.ntmps168
 go_wp2_with fail
 refine H1.mono ?_
 rintro e w' ⟨rfl,hw⟩;subst hw
 clear H1
 go_wp2
 go_loopw [4,12] (fun c i wr=>∃(k cy:Nat) (Z':List Nat),k≤P.length∧i=.int .i64 k∧c=.int .u64 cy∧cy≤1∧Out Z Z' zo (zo+k)∧Limbs Z'∧Blk wr bz Z'∧Fr bz w' wr ∧
   sv Z' zo k+cy*18446744073709551616 ^ k=sv Z zo k+val (P.take k)) (fun _ i _=>P.length - (intOf i).toNat)
 case atStart=>exact⟨0,0,Z,Nat.zero_le _,rfl,rfl,by omega,Out.refl _ _ _,HLZ.out,HB0.out,Fr.refl _ _,by simp [aA,val]⟩
 case round=>
  obtain⟨k,cy,Z',hk,rfl,rfl,hcy,hout,hlz,hblk,hfr0,hval⟩:=hrel
  have HV:=aa hval
  have HB:=aa hblk
  have HF:=aa hfr0
  have HO:=aa hout
  have hl:=hout.len
  clear hval
  by_cases hkl:k<P.length
  ·rcases L1.fr hao hfr0 hB hblk (hout.wider (Nat.le_refl _) (by omega)) with h0|⟨b,off,rfl,hcell⟩
   ·rw [h0] at hkl;simp at hkl
   ·have hck:=hcell k hkl
    have hfr:=hblk.free (zo+k)
    have hco:=hblk.cell (zo+k) (by omega)
    have z1:=limb_lt M1 k
    have z2:=limb_lt hlz (zo+k)
    have hsame:=hout.same (zo+k) (by omega)
    have ha:=cZ (Z'.getD (zo+k) 0) (P.getD k 0) cy hcy
    obtain⟨q1,q2,q3⟩:=df (Z'.getD (zo+k) 0) (P.getD k 0) cy z2 z1 hcy
    have HS:=aa (cK Z Z' zo k cy _ _ (P.getD k 0) _ (by omega) hl HV.out (by rw [←hsame];exact q1))
    rw [←val_take_next P k] at HS
    generalize Z'.getD (zo+k) 0=z at *
    generalize P.getD k 0=x at *
    clear hsame q1
    generalize (z+x+cy) % 18446744073709551616=s at *
    generalize (z+x+cy) / 18446744073709551616=c2 at *
    clear hcell hblk hfr0 hout HV M1 L1 hB hLZ
    go_wp2
    go_roundw
    case rel=>exact⟨k+1,c2,Z'.set (zo+k) s,by omega,by go_num,rfl,q2,(HO.out.wider (Nat.le_refl _) (by omega)).set _ _ (by omega) (by omega),limbs_set hlz _ _ q3,HB.out.set _ s,HF.out.setCell _ _,HS.out⟩
    case measure=>simp [intOf];omega
  ·have ek:k=P.length:=by omega
   subst ek
   rw [List.take_length] at HV
   clear hblk hfr0 hout L1 hB M1 hLZ hl
   go_wp2
   go_loopw [4,7] (fun c i wr2=>∃(k cy:Nat) (Z2:List Nat),k≤n∧i=.int .i64 k∧c=.int .u64 cy∧cy≤1∧Out Z Z2 zo (zo+k)∧Limbs Z2∧Blk wr2 bz Z2∧Fr bz w' wr2 ∧
     sv Z2 zo k+cy*18446744073709551616 ^ k=sv Z zo k+val P) (fun _ i _=>n - (intOf i).toNat)
   case atStart=>exact⟨P.length,cy,Z',hln,rfl,rfl,hcy,HO.out,hlz,HB.out,HF.out,HV.out⟩
   case round=>
    obtain⟨k,cy2,Z2,hk2,rfl,rfl,hcy2,hout2,hlz2,hblk2,hfr2,hval2⟩:=hrel
    clear HV HB HF HO
    have HV:=aa hval2
    have HB:=aa hblk2
    have HF:=aa hfr2
    have HO:=aa hout2
    have hl:=hout2.len
    clear hval2
    by_cases hc0:cy2=0
    ·subst hc0
     have HR:=aa (dX Z Z2 zo k n _ hk2 hzo hout2 (by have h:=HV.out;rw [Nat.zero_mul,Nat.add_zero] at h;exact h))
     clear hblk2 hfr2 hout2 HV
     go_wp2
     go_end0
     exact⟨rfl,Z2,HO.out.wider (Nat.le_refl _) (by omega),hlz2,HB.out,HF.out,HR.out⟩
    ·have hpos:(0:Int)<(cy2:Int):=by omega
     have hkn:k<n:=by
      rcases Nat.lt_or_ge k n with h|h
      ·exact h
      ·have ek:k=n:=by omega
       subst ek
       exact absurd (gf Z Z2 zo k cy2 (val P) HFIT.out HV.out) hc0
     have hfr:=hblk2.free (zo+k)
     have hco:=hblk2.cell (zo+k) (by omega)
     have z2:=limb_lt hlz2 (zo+k)
     have hsame:=hout2.same (zo+k) (by omega)
     have ha:=bC (Z2.getD (zo+k) 0) cy2
     obtain⟨q1,q2,q3⟩:=df (Z2.getD (zo+k) 0) 0 cy2 z2 (by omega) hcy2
     have HS:=aa (cK Z Z2 zo k cy2 _ _ 0 _ (by omega) hl HV.out (by rw [←hsame];exact q1))
     rw [Nat.mul_zero,Nat.add_zero] at HS
     rw [Nat.add_zero] at HS q2 q3
     generalize Z2.getD (zo+k) 0=z at *
     clear hsame q1
     generalize (z+cy2) % 18446744073709551616=s at *
     generalize (z+cy2) / 18446744073709551616=c2 at *
     clear hblk2 hfr2 hout2 HV hc0
     go_wp2
     go_roundw
     case rel=>exact⟨k+1,c2,Z2.set (zo+k) s,by omega,by go_num,rfl,q2,(HO.out.wider (Nat.le_refl _) (by omega)).set _ _ (by omega) (by omega),limbs_set hlz2 _ _ q3,HB.out.set _ s,HF.out.setCell _ _,HS.out⟩
     case measure=>simp [intOf];omega

theorem dG (x y b:Nat)(hb:b≤1)(w:World) :
  (callFunc 99 #[.int .u64 x,.int .u64 y,.int .u64 b]).run Tryz.prog w =
   .ok (.value (.tuple #[.int .u64 (((x+18446744073709551616 - y - b) % 18446744073709551616:Nat):Int),.int .u64 ((bor x y b:Nat):Int)])) w:=by
 rw [run_callFunc_extern Tryz.func99 (by kernel_rfl) (by kernel_rfl) (by kernel_rfl) (e:=sub64Entry) (by kernel_rfl),run_sub64 x y b hb]
 rfl

theorem fZ (x b:Nat)(hb:b≤1)(w:World) :
  (callFunc 99 #[.int .u64 x,.int .u64 b,.int .u64 0]).run Tryz.prog w =
   .ok (.value (.tuple #[.int .u64 (((x+18446744073709551616 - 0 - b) % 18446744073709551616:Nat):Int),.int .u64 ((bor x 0 b:Nat):Int)])) w:=by
 have h:=dG x b 0 (by omega) w
 rw [show bor x b 0=bor x 0 b by unfold bor;simp,show x+18446744073709551616 - b - 0=x+18446744073709551616 - 0 - b by omega] at h
 exact h

theorem di (z v cy:Nat)(hz:z<18446744073709551616)(hv:v<18446744073709551616)(hc:cy≤1) :
  (z+18446744073709551616 - v - cy) % 18446744073709551616+v+cy=z+bor z v cy*18446744073709551616∧bor z v cy≤1∧(z+18446744073709551616 - v - cy) % 18446744073709551616<18446744073709551616:=by
 unfold bor
 split <;> omega

theorem cB (Z Z':List Nat)(o k cy c2 s v V:Nat)(hz:o+k<Z'.length)(hl:Z'.length=Z.length)
  (h:sv Z' o k+V=sv Z o k+cy*18446744073709551616 ^ k) (hs:s+v+cy=Z.getD (o+k) 0+c2*18446744073709551616) :
  sv (Z'.set (o+k) s) o (k+1)+(V+18446744073709551616 ^ k*v)=sv Z o (k+1)+c2*18446744073709551616 ^ (k+1):=by
 rw [cH _ _ _ _ hz,cY Z o k (by omega),show (18446744073709551616:Nat) ^ (k+1)=18446744073709551616 ^ k*18446744073709551616 from Nat.pow_succ ..]
 generalize sv Z' o k=A at *
 generalize sv Z o k=B at *
 generalize Z.getD (o+k) 0=z at *
 generalize (18446744073709551616:Nat) ^ k=P at *
 generalize (18446744073709551616:Nat)=W at *
 grind

theorem fO (Z Z':List Nat)(o k n V:Nat)(hk:k≤n)(hn:o+n≤Z.length)(ho:Out Z Z' o (o+k))(h:sv Z' o k+V=sv Z o k):sv Z' o n=sv Z o n - V:=by
 obtain⟨d,rfl⟩:∃d,n=k+d:=⟨n - k,by omega⟩
 rw [ae Z' o k d (by rw [ho.len];omega),ae Z o k d (by omega),←h,ho.sv (o+k) d (by omega)]
 omega

theorem fG (Z Z':List Nat)(o n cy V:Nat)(hl:Limbs Z')(hZ:V≤sv Z o n)(h:sv Z' o n+V=sv Z o n+cy*18446744073709551616 ^ n):cy=0:=by
 rcases Nat.eq_zero_or_pos cy with h0|h0
 ·exact h0
 ·have:=Nat.mul_le_mul_right (18446744073709551616 ^ n) h0
  have:=bB hl o n
  omega

theorem eG (bz zo n cap:Nat)(Z:List Nat)(va:Value)(X:List Nat)(w:World)(hB:Blk w bz Z)(hLZ:Limbs Z)(hA:Arg w va X)(ho:Off va bz zo (zo+n))
  (hzo:zo+n≤Z.length) (hc1:n≤cap) (hc2:cap≤9223372036854775807) (hfit:val X≤sv Z zo n) :
  Calls Tryz.prog 170 #[.slice (some ⟨bz,zo,none⟩) n cap,va] w (ai bz zo n Z w (sv Z zo n - val X)):=by
 obtain⟨a1,c1,rfl,hcc1,hcm1,hl1⟩:=hA.form
 have hX:=hA.few
 have H1:=bF a1 c1 X w hcc1 hcm1 hl1
 have M1:=limbs_tr hA.limbs
 have hle:=tr_length_le X
 have hln:=az X n (Nat.lt_of_le_of_lt hfit (bB hLZ zo n))
 have hao:∀b off,a1=some ⟨b,off,none⟩→b≠bz∨off+(tr X).length≤zo∨zo+n≤off:=fun b off e=>by
  subst e
  rcases ho b off _ _ rfl with h|h|h
  ·exact .inl h
  ·exact .inr (.inl (by omega))
  ·exact .inr (.inr h)
 have L1:=hl1.tr
 rw [←val_tr X] at hfit ⊢
 clear ho hA hl1
 generalize tr X=P at *
 have HFIT:=aa hfit
 have HB0:=aa hB
 have HLZ:=aa hLZ
 clear hfit
 go_enter Tryz.func170,Tryz.ntmps170
 go_wp2_with fail
 refine H1.mono ?_
 rintro e w' ⟨rfl,hw⟩;subst hw
 clear H1
 go_wp2
 go_loopw [4,12] (fun c i wr=>∃(k cy:Nat) (Z':List Nat),k≤P.length∧i=.int .i64 k∧c=.int .u64 cy∧cy≤1∧Out Z Z' zo (zo+k)∧Limbs Z'∧Blk wr bz Z'∧Fr bz w' wr ∧
   sv Z' zo k+val (P.take k)=sv Z zo k+cy*18446744073709551616 ^ k) (fun _ i _=>P.length - (intOf i).toNat)
 case atStart=>exact⟨0,0,Z,Nat.zero_le _,rfl,rfl,by omega,Out.refl _ _ _,HLZ.out,HB0.out,Fr.refl _ _,by simp [aA,val]⟩
 case round=>
  obtain⟨k,cy,Z',hk,rfl,rfl,hcy,hout,hlz,hblk,hfr0,hval⟩:=hrel
  have HV:=aa hval
  have HB:=aa hblk
  have HF:=aa hfr0
  have HO:=aa hout
  have hl:=hout.len
  clear hval
  by_cases hkl:k<P.length
  ·rcases L1.fr hao hfr0 hB hblk (hout.wider (Nat.le_refl _) (by omega)) with h0|⟨b,off,rfl,hcell⟩
   ·rw [h0] at hkl;simp at hkl
   ·have hck:=hcell k hkl
    have hfr:=hblk.free (zo+k)
    have hco:=hblk.cell (zo+k) (by omega)
    have z1:=limb_lt M1 k
    have z2:=limb_lt hlz (zo+k)
    have hsame:=hout.same (zo+k) (by omega)
    have ha:=dG (Z'.getD (zo+k) 0) (P.getD k 0) cy hcy
    obtain⟨q1,q2,q3⟩:=di (Z'.getD (zo+k) 0) (P.getD k 0) cy z2 z1 hcy
    have HS:=aa (cB Z Z' zo k cy _ _ (P.getD k 0) _ (by omega) hl HV.out (by rw [←hsame];exact q1))
    rw [←val_take_next P k] at HS
    generalize Z'.getD (zo+k) 0=z at *
    generalize P.getD k 0=x at *
    clear hsame q1
    generalize (z+18446744073709551616 - x - cy) % 18446744073709551616=s at *
    generalize bor z x cy=c2 at *
    clear hcell hblk hfr0 hout HV M1 L1 hB hLZ
    go_wp2
    go_roundw
    case rel=>exact⟨k+1,c2,Z'.set (zo+k) s,by omega,by go_num,rfl,q2,(HO.out.wider (Nat.le_refl _) (by omega)).set _ _ (by omega) (by omega),limbs_set hlz _ _ q3,HB.out.set _ s,HF.out.setCell _ _,HS.out⟩
    case measure=>simp [intOf];omega
  ·have ek:k=P.length:=by omega
   subst ek
   rw [List.take_length] at HV
   clear hblk hfr0 hout L1 hB M1 hLZ hl
   go_wp2
   go_loopw [4,7] (fun c i wr2=>∃(k cy:Nat) (Z2:List Nat),k≤n∧i=.int .i64 k∧c=.int .u64 cy∧cy≤1∧Out Z Z2 zo (zo+k)∧Limbs Z2∧Blk wr2 bz Z2∧Fr bz w' wr2 ∧
     sv Z2 zo k+val P=sv Z zo k+cy*18446744073709551616 ^ k) (fun _ i _=>n - (intOf i).toNat)
   case atStart=>exact⟨P.length,cy,Z',hln,rfl,rfl,hcy,HO.out,hlz,HB.out,HF.out,HV.out⟩
   case round=>
    obtain⟨k,cy2,Z2,hk2,rfl,rfl,hcy2,hout2,hlz2,hblk2,hfr2,hval2⟩:=hrel
    clear HV HB HF HO
    have HV:=aa hval2
    have HB:=aa hblk2
    have HF:=aa hfr2
    have HO:=aa hout2
    have hl:=hout2.len
    clear hval2
    by_cases hc0:cy2=0
    ·subst hc0
     have HR:=aa (fO Z Z2 zo k n _ hk2 hzo hout2 (by have h:=HV.out;rw [Nat.zero_mul,Nat.add_zero] at h;exact h))
     clear hblk2 hfr2 hout2 HV
     go_wp2
     go_end0
     exact⟨rfl,Z2,HO.out.wider (Nat.le_refl _) (by omega),hlz2,HB.out,HF.out,HR.out⟩
    ·have hpos:(0:Int)<(cy2:Int):=by omega
     have hkn:k<n:=by
      rcases Nat.lt_or_ge k n with h|h
      ·exact h
      ·have ek:k=n:=by omega
       subst ek
       exact absurd (fG Z Z2 zo k cy2 (val P) hlz2 HFIT.out HV.out) hc0
     have hfr:=hblk2.free (zo+k)
     have hco:=hblk2.cell (zo+k) (by omega)
     have z2:=limb_lt hlz2 (zo+k)
     have hsame:=hout2.same (zo+k) (by omega)
     have ha:=fZ (Z2.getD (zo+k) 0) cy2 hcy2
     obtain⟨q1,q2,q3⟩:=di (Z2.getD (zo+k) 0) 0 cy2 z2 (by omega) hcy2
     have HS:=aa (cB Z Z2 zo k cy2 _ _ 0 _ (by omega) hl HV.out (by rw [←hsame];exact q1))
     rw [Nat.mul_zero,Nat.add_zero] at HS
     generalize Z2.getD (zo+k) 0=z at *
     clear hsame q1
     generalize (z+18446744073709551616 - 0 - cy2) % 18446744073709551616=s at *
     generalize bor z 0 cy2=c2 at *
     clear hblk2 hfr2 hout2 HV hc0
     go_wp2
     go_roundw
     case rel=>exact⟨k+1,c2,Z2.set (zo+k) s,by omega,by go_num,rfl,q2,(HO.out.wider (Nat.le_refl _) (by omega)).set _ _ (by omega) (by omega),limbs_set hlz2 _ _ q3,HB.out.set _ s,HF.out.setCell _ _,HS.out⟩
     case measure=>simp [intOf];omega
end Go.Proofs.YtkhckcfikljjhaaGreatDoor
namespace Go.Proofs.YtkhckcfikljjhaaGreatDoor
open Go.RowKit
open Lm

theorem kN (b off cap:Nat)(zs:List Nat)(w:World)(hcap:zs.length≤cap)(hmax:cap≤9223372036854775807)
  (hc:∀k,k<zs.length→w.cell? ⟨b,off+k,none⟩=some (.int .u64 ((zs.getD k 0:Nat):Int))) :
  Calls Tryz.prog 142 #[.slice (some ⟨b,off,none⟩) zs.length cap] w fun e w'=>e=.returned (.slice (some ⟨b,off,none⟩) (tr zs).length cap)∧w'=w:=by
 go_enter Tryz.func142,Tryz.ntmps142
 go_wp2
 go_loop [3] (fun n=>∃k:Nat,k≤zs.length∧n=.int .i64 k∧tr (zs.take k)=tr zs) (fun n=>(intOf n).toNat)
 case atStart=>exact⟨zs.length,Nat.le_refl _,rfl,by rw [List.take_length]⟩
 case round=>
  obtain⟨k,hk,rfl,ht⟩:=hrel
  have HT:Hid (tr (zs.take k)=tr zs):=ht
  clear ht
  by_cases h0:k=0
  ·subst h0
   go_wp2
   go_ret
   have e:=HT.out
   simp only [List.take_zero,tr] at e
   rw [←e]
   exact⟨rfl,rfl⟩
  ·obtain⟨j,rfl⟩:∃j,k=j+1:=⟨k - 1,by omega⟩
   have hcj:=hc j (by omega)
   clear hc
   by_cases hz:zs.getD j 0=0
   ·have HZ:Hid (tr (zs.take j)=tr zs):=by rw [←tr_step zs j (by omega) hz];exact HT.out
    rw [hz] at hcj
    clear hz HT
    go_wp2
    go_round
    case rel=>exact⟨j,by omega,by go_num,HZ.out⟩
    case measure=>simp [intOf]
   ·have HZ:Hid (tr zs=zs.take (j+1)):=by rw [←HT.out];exact tr_stop zs j (by omega) hz
    clear HT
    generalize zs.getD j 0=z at hcj hz
    have hne:((z:Int) == 0)=false:=by rw [beq_eq_false_iff_ne];omega
    clear hz
    go_wp2
    go_ret
    rw [HZ.out]
    have e:(zs.take (j+1)).length=j+1:=by simp;omega
    rw [e]
    exact⟨rfl,rfl⟩

theorem p8 (ao:Option Addr)(cap:Nat)(w:World)(_hmax:cap≤9223372036854775807) :
  Calls Tryz.prog 142 #[.slice ao 0 cap] w fun e w'=>e=.returned (.slice ao 0 cap)∧w'=w:=by
 go_enter Tryz.func142,Tryz.ntmps142
 go_wp2
 refine wp_loop_rounds 1 ?_
 rw [rounds_succ]
 go_wp2
 go_ret
 exact⟨rfl,rfl⟩

theorem cj (ao:Option Addr)(cap:Nat)(zs:List Nat)(w:World)(hcap:zs.length≤cap)(hmax:cap≤9223372036854775807)(hl:ac w ao zs) :
  Calls Tryz.prog 142 #[.slice ao zs.length cap] w fun e w'=>e=.returned (.slice ao (tr zs).length cap)∧w'=w:=by
 rcases hl with rfl|⟨b,off,rfl,hc⟩
 ·exact p8 ao cap w hmax
 ·exact kN b off cap zs w hcap hmax hc

def ft (bz zo n:Nat)(Z:List Nat)(w:World)(p:Nat)(e:Ending)(w':World):Prop:=
 ∃(cy:Nat) (Z':List Nat),cy≤1∧e=.returned (.int .u64 (cy:Int))∧Out Z Z' zo (zo+n)∧Limbs Z'∧Blk w' bz Z'∧Fr bz w w'∧sv Z' zo n+cy*18446744073709551616 ^ n=p

theorem dM (bz zo n cap:Nat)(Z:List Nat)(va:Value)(X:List Nat)(w:World)(hB:Blk w bz Z)(hLZ:Limbs Z)(hA:Arg w va X)(ho:Off va bz zo (zo+n))
  (hzo:zo+n≤Z.length) (hc1:n≤cap) (hc2:cap≤9223372036854775807) (hfit:X.length≤n) :
  Calls Tryz.prog 155 #[.slice (some ⟨bz,zo,none⟩) n cap,va] w (ft bz zo n Z w (sv Z zo n+val X)):=by
 obtain⟨a1,c1,rfl,hcc1,hcm1,hl1⟩:=hA.form
 have hX:=hA.few
 have M1:=hA.limbs
 have hao:∀b off,a1=some ⟨b,off,none⟩→b≠bz∨off+X.length≤zo∨zo+n≤off:=fun b off e=>by
  subst e
  exact ho b off _ _ rfl
 have L1:=hl1
 clear ho hA hl1
 generalize X=P at *
 have HB0:=aa hB
 have HLZ:=aa hLZ
 go_enter Tryz.func155,Tryz.ntmps155
 go_wp2
 go_loopw [5,11] (fun c i wr=>∃(k cy:Nat) (Z':List Nat),k≤P.length∧i=.int .i64 k∧c=.int .u64 cy∧cy≤1∧Out Z Z' zo (zo+k)∧Limbs Z'∧Blk wr bz Z'∧Fr bz w wr ∧
   sv Z' zo k+cy*18446744073709551616 ^ k=sv Z zo k+val (P.take k)) (fun _ i _=>P.length - (intOf i).toNat)
 case atStart=>exact⟨0,0,Z,Nat.zero_le _,rfl,rfl,by omega,Out.refl _ _ _,HLZ.out,HB0.out,Fr.refl _ _,by simp [aA,val]⟩
 case round=>
  obtain⟨k,cy,Z',hk,rfl,rfl,hcy,hout,hlz,hblk,hfr0,hval⟩:=hrel
  have HV:=aa hval
  have HB:=aa hblk
  have HF:=aa hfr0
  have HO:=aa hout
  have hl:=hout.len
  clear hval
  by_cases hkl:k<P.length
  ·rcases L1.fr hao hfr0 hB hblk (hout.wider (Nat.le_refl _) (by omega)) with h0|⟨b,off,rfl,hcell⟩
   ·rw [h0] at hkl;simp at hkl
   ·have hck:=hcell k hkl
    have hfr:=hblk.free (zo+k)
    have hco:=hblk.cell (zo+k) (by omega)
    have z1:=limb_lt M1 k
    have z2:=limb_lt hlz (zo+k)
    have hsame:=hout.same (zo+k) (by omega)
    have ha:=cZ (Z'.getD (zo+k) 0) (P.getD k 0) cy hcy
    obtain⟨q1,q2,q3⟩:=df (Z'.getD (zo+k) 0) (P.getD k 0) cy z2 z1 hcy
    have HS:=aa (cK Z Z' zo k cy _ _ (P.getD k 0) _ (by omega) hl HV.out (by rw [←hsame];exact q1))
    rw [←val_take_next P k] at HS
    generalize Z'.getD (zo+k) 0=z at *
    generalize P.getD k 0=x at *
    clear hsame q1
    generalize (z+x+cy) % 18446744073709551616=s at *
    generalize (z+x+cy) / 18446744073709551616=c2 at *
    clear hcell hblk hfr0 hout HV M1 L1 hB hLZ
    go_wp2
    go_roundw
    case rel=>exact⟨k+1,c2,Z'.set (zo+k) s,by omega,by go_num,rfl,q2,(HO.out.wider (Nat.le_refl _) (by omega)).set _ _ (by omega) (by omega),limbs_set hlz _ _ q3,HB.out.set _ s,HF.out.setCell _ _,HS.out⟩
    case measure=>simp [intOf];omega
  ·have ek:k=P.length:=by omega
   subst ek
   rw [List.take_length] at HV
   clear hblk hfr0 hout L1 hB M1 hLZ hl
   go_wp2
   go_loopw [5,8] (fun c i wr2=>∃(k cy:Nat) (Z2:List Nat),k≤n∧i=.int .i64 k∧c=.int .u64 cy∧cy≤1∧Out Z Z2 zo (zo+k)∧Limbs Z2∧Blk wr2 bz Z2∧Fr bz w wr2 ∧
     sv Z2 zo k+cy*18446744073709551616 ^ k=sv Z zo k+val P) (fun _ i _=>n - (intOf i).toNat)
   case atStart=>exact⟨P.length,cy,Z',hfit,rfl,rfl,hcy,HO.out,hlz,HB.out,HF.out,HV.out⟩
   case round=>
    obtain⟨k,cy2,Z2,hk2,rfl,rfl,hcy2,hout2,hlz2,hblk2,hfr2,hval2⟩:=hrel
    clear HV HB HF HO
    have HV:=aa hval2
    have HB:=aa hblk2
    have HF:=aa hfr2
    have HO:=aa hout2
    have hl:=hout2.len
    clear hval2
    by_cases hc0:cy2=0
    ·subst hc0
     have HR:=aa (dX Z Z2 zo k n _ hk2 hzo hout2 (by have h:=HV.out;rw [Nat.zero_mul,Nat.add_zero] at h;exact h))
     clear hblk2 hfr2 hout2 HV
     go_wp2
     go_ret
     exact⟨0,Z2,by omega,rfl,HO.out.wider (Nat.le_refl _) (by omega),hlz2,HB.out,HF.out,by rw [HR.out];omega⟩
    ·have hpos:(0:Int)<(cy2:Int):=by omega
     by_cases hkn:¬k<n
     ·have ek:k=n:=by omega
      subst ek
      clear hblk2 hfr2 hout2
      have hend:¬((k:Int)<(k:Int)):=by omega
      go_wp2
      go_ret
      exact⟨cy2,Z2,hcy2,rfl,HO.out,hlz2,HB.out,HF.out,HV.out⟩
     replace hkn:k<n:=by omega
     have hkn':(k:Int)<(n:Int):=by omega
     have hfr:=hblk2.free (zo+k)
     have hco:=hblk2.cell (zo+k) (by omega)
     have z2:=limb_lt hlz2 (zo+k)
     have hsame:=hout2.same (zo+k) (by omega)
     have ha:=bC (Z2.getD (zo+k) 0) cy2
     obtain⟨q1,q2,q3⟩:=df (Z2.getD (zo+k) 0) 0 cy2 z2 (by omega) hcy2
     have HS:=aa (cK Z Z2 zo k cy2 _ _ 0 _ (by omega) hl HV.out (by rw [←hsame];exact q1))
     rw [Nat.mul_zero,Nat.add_zero] at HS
     rw [Nat.add_zero] at HS q2 q3
     generalize Z2.getD (zo+k) 0=z at *
     clear hsame q1
     generalize (z+cy2) % 18446744073709551616=s at *
     generalize (z+cy2) / 18446744073709551616=c2 at *
     clear hblk2 hfr2 hout2 HV hc0
     go_wp2
     go_roundw
     case rel=>exact⟨k+1,c2,Z2.set (zo+k) s,by omega,by go_num,rfl,q2,(HO.out.wider (Nat.le_refl _) (by omega)).set _ _ (by omega) (by omega),limbs_set hlz2 _ _ q3,HB.out.set _ s,HF.out.setCell _ _,HS.out⟩
     case measure=>simp [intOf];omega
end Go.Proofs.YtkhckcfikljjhaaGreatDoor

