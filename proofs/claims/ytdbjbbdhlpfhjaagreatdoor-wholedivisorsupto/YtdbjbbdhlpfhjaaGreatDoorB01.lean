/- Plain facts on lists of limbs (no Go text): the value of a list, the list without noughts at its top. -/
import Derived.Test.YtdbjbbdhlpfhjaaGreatDoorChecked
import Derived.WalkKit
import Derived.WalkLawsBesides
import Derived.Shelf.Small.Bits
import Derived.Shelf.Small.Wraps
import Derived.Shelf.Strconv.Itoa0
import Derived.Shelf.Bits.Mul64
import Derived.Ground.Names2Prog
import Derived.Shelf.Slices.SearchI
import Derived.Test.YtdbjbbdhlpfhjaaGreatDoorProg
import Derived.Laws.Externs
import Derived.Shelf.Spec.BitsCarry
import Derived.Lib.BitFns
import Derived.Lib.ItoaNum
import Derived.Deep.QuietTactic
import Derived.BigQuiet
import Derived.Deep.RegionHeld3
import Derived.Deep.DrawnRows
import Derived.Laws.Bits64b
import Derived.Laws.AppendOwnNone
import Derived.Laws.Bits128
set_option maxRecDepth 20000
set_option maxHeartbeats 1000000
namespace Go.Proofs.YtdbjbbdhlpfhjaaGreatDoor
namespace Lm

def val:List Nat→Nat
 | []=>0
 | z :: r=>z+18446744073709551616*val r

def tr:List Nat→List Nat
 | []=>[]
 | z :: r=>if z=0∧tr r=[] then [] else z :: tr r

def Limbs (zs:List Nat):Prop:=∀z ∈ zs,z<18446744073709551616

theorem tr_snoc_zero (l:List Nat):tr (l ++ [0])=tr l:=by
 induction l with
 | nil=>simp [tr]
 | cons z r ih=>simp [tr,ih]

theorem tr_snoc (l:List Nat)(z:Nat)(h:z≠0):tr (l ++ [z])=l ++ [z]:=by
 induction l with
 | nil=>simp [tr,h]
 | cons y r ih=>simp [tr,ih]

theorem take_snoc (zs:List Nat)(k:Nat)(h:k<zs.length):zs.take (k+1)=zs.take k ++ [zs.getD k 0]:=by
 rw [List.take_succ_eq_append_getElem h];simp [List.getD,h]

theorem tr_step (zs:List Nat)(k:Nat)(h:k<zs.length)(hz:zs.getD k 0=0):tr (zs.take (k+1))=tr (zs.take k):=by
 rw [take_snoc zs k h,hz,tr_snoc_zero]

theorem tr_stop (zs:List Nat)(k:Nat)(h:k<zs.length)(hz:zs.getD k 0≠0):tr (zs.take (k+1))=zs.take (k+1):=by
 rw [take_snoc zs k h,tr_snoc _ _ hz]

theorem tr_length_le (zs:List Nat):(tr zs).length≤zs.length:=by
 induction zs with
 | nil=>simp [tr]
 | cons z r ih=>unfold tr;split <;> simp <;> omega

theorem tr_take (zs:List Nat):tr zs=zs.take (tr zs).length:=by
 induction zs with
 | nil=>simp [tr]
 | cons z r ih=>
  unfold tr
  split
  ·simp
  ·simp only [List.length_cons,List.take_succ_cons];rw [←ih]

theorem tr_getD (zs:List Nat)(k:Nat)(h:k<(tr zs).length):(tr zs).getD k 0=zs.getD k 0:=by
 have e:=tr_take zs
 have hl:=tr_length_le zs
 rw [e];simp [List.getD,h]

theorem val_tr (zs:List Nat):val (tr zs)=val zs:=by
 induction zs with
 | nil=>rfl
 | cons z r ih=>
  unfold tr
  split
  ·rename_i h
   rw [h.2] at ih
   simp only [val] at ih ⊢
   rw [←ih,h.1]
  ·simp only [val];rw [ih]

theorem limbs_tr {zs:List Nat}(h:Limbs zs):Limbs (tr zs):=by
 intro z hz
 rw [tr_take] at hz
 exact h z (List.mem_of_mem_take hz)

theorem limb_lt {zs:List Nat}(h:Limbs zs)(k:Nat):zs.getD k 0<18446744073709551616:=by
 by_cases hk:k<zs.length
 ·have e:zs.getD k 0=zs[k]:=by simp [List.getD,hk]
  rw [e];exact h _ (List.getElem_mem hk)
 ·have e:zs.getD k 0=0:=by simp [List.getD,Nat.le_of_not_lt hk]
  omega

theorem val_append (a b:List Nat):val (a ++ b)=val a+18446744073709551616 ^ a.length*val b:=by
 induction a with
 | nil=>simp [val]
 | cons z r ih=>
  simp only [List.cons_append,val,ih,List.length_cons,Nat.pow_succ,Nat.mul_add]
  rw [←Nat.mul_assoc,Nat.mul_comm (18446744073709551616 ^ r.length) 18446744073709551616];omega

theorem val_lt {zs:List Nat}(h:Limbs zs):val zs<18446744073709551616 ^ zs.length:=by
 induction zs with
 | nil=>simp [val]
 | cons z r ih=>
  have hz:z<18446744073709551616:=h z (by simp)
  have hr:=ih (fun x hx=>h x (by simp [hx]))
  simp only [val,List.length_cons,Nat.pow_succ]
  have:=Nat.mul_le_mul_left 18446744073709551616 (Nat.succ_le_of_lt hr)
  rw [Nat.mul_comm] at this ⊢
  omega

theorem val_take_succ (zs:List Nat)(k:Nat)(h:k<zs.length):val (zs.take (k+1))=val (zs.take k)+18446744073709551616 ^ k*zs.getD k 0:=by
 rw [take_snoc zs k h,val_append]
 have e:(zs.take k).length=k:=by simp;omega
 rw [e];simp [val]

end Lm
end Go.Proofs.YtdbjbbdhlpfhjaaGreatDoor
namespace Go.Proofs.YtdbjbbdhlpfhjaaGreatDoor
open Go.RowKit
open Lm

theorem ac {p:Prop}(h:p):Hid p:=h

def aG (w:World)(ao:Option Addr)(zs:List Nat):Prop:=
 zs=[]∨∃b off,ao=some ⟨b,off,none⟩∧∀k,k<zs.length→w.cell? ⟨b,off+k,none⟩=some (.int .u64 ((zs.getD k 0:Nat):Int))

theorem nE (b off cap:Nat)(zs:List Nat)(w:World)(hcap:zs.length≤cap)(hmax:cap≤9223372036854775807)
  (hc:∀k,k<zs.length→w.cell? ⟨b,off+k,none⟩=some (.int .u64 ((zs.getD k 0:Nat):Int))) :
  Calls Tryz.prog 69 #[.slice (some ⟨b,off,none⟩) zs.length cap] w fun e w'=>e=.returned (.slice (some ⟨b,off,none⟩) (tr zs).length cap)∧w'=w:=by
 go_enter Tryz.func69,Tryz.ntmps69
 go_wp2
 go_loop [3] (fun n=>∃k:Nat,k≤zs.length∧n=.int .i64 k∧tr (zs.take k)=tr zs) (fun n=>(intOf n).toNat)
 case atStart=>exact⟨zs.length,Nat.le_refl _,rfl,by rw [List.take_length]⟩
 case round=>
  obtain⟨k,hk,rfl,ht⟩:=hrel
  have HT:Hid (tr (zs.take k)=tr zs):=ht
  clear ht
  by_cases h0:k=0
  ·subst h0
   go_wp2
   go_ret
   have e:=HT.out
   simp only [List.take_zero,tr] at e
   rw [←e]
   exact⟨rfl,rfl⟩
  ·obtain⟨j,rfl⟩:∃j,k=j+1:=⟨k - 1,by omega⟩
   have hcj:=hc j (by omega)
   clear hc
   by_cases hz:zs.getD j 0=0
   ·have HZ:Hid (tr (zs.take j)=tr zs):=by rw [←tr_step zs j (by omega) hz];exact HT.out
    rw [hz] at hcj
    clear hz HT
    go_wp2
    go_round
    case rel=>exact⟨j,by omega,by go_num,HZ.out⟩
    case measure=>simp [intOf]
   ·have HZ:Hid (tr zs=zs.take (j+1)):=by rw [←HT.out];exact tr_stop zs j (by omega) hz
    clear HT
    generalize zs.getD j 0=z at hcj hz
    have hne:((z:Int) == 0)=false:=by rw [beq_eq_false_iff_ne];omega
    clear hz
    go_wp2
    go_ret
    rw [HZ.out]
    have e:(zs.take (j+1)).length=j+1:=by simp;omega
    rw [e]
    exact⟨rfl,rfl⟩

theorem rP (ao:Option Addr)(cap:Nat)(w:World)(_hmax:cap≤9223372036854775807) :
  Calls Tryz.prog 69 #[.slice ao 0 cap] w fun e w'=>e=.returned (.slice ao 0 cap)∧w'=w:=by
 go_enter Tryz.func69,Tryz.ntmps69
 go_wp2
 refine wp_loop_rounds 1 ?_
 rw [rounds_succ]
 go_wp2
 go_ret
 exact⟨rfl,rfl⟩

theorem eG (ao:Option Addr)(cap:Nat)(zs:List Nat)(w:World)(hcap:zs.length≤cap)(hmax:cap≤9223372036854775807)(hl:aG w ao zs) :
  Calls Tryz.prog 69 #[.slice ao zs.length cap] w fun e w'=>e=.returned (.slice ao (tr zs).length cap)∧w'=w:=by
 rcases hl with rfl|⟨b,off,rfl,hc⟩
 ·exact rP ao cap w hmax
 ·exact nE b off cap zs w hcap hmax hc

theorem aG.tr {w:World}{ao:Option Addr}{zs:List Nat}(h:aG w ao zs):aG w ao (tr zs):=by
 rcases h with rfl|⟨b,off,rfl,hc⟩
 ·exact .inl rfl
 ·exact .inr ⟨b,off,rfl,fun k hk=>by rw [tr_getD zs k hk];exact hc k (Nat.lt_of_lt_of_le hk (tr_length_le zs))⟩

theorem qw (ao:Option Addr)(cap:Nat)(zs:List Nat)(i:Nat)(w:World)(hcap:zs.length≤cap)(_hmax:cap≤9223372036854775807)(hl:aG w ao zs) :
  Calls Tryz.prog 152 #[.slice ao zs.length cap,.int .i64 i] w fun e w'=>e=.returned (.int .u64 ((zs.getD i 0:Nat):Int))∧w'=w:=by
 by_cases hi:i<zs.length
 ·rcases hl with rfl|⟨b,off,rfl,hc⟩
  ·simp at hi
  ·have hci:=hc i hi
   clear hc
   generalize zs.getD i 0=z at hci ⊢
   go_enter Tryz.func152,Tryz.ntmps152
   go_wp2
   go_ret
   exact⟨rfl,rfl⟩
 ·have e:zs.getD i 0=0:=by simp [List.getD,Nat.le_of_not_lt hi]
  rw [e]
  clear hl e
  go_enter Tryz.func152,Tryz.ntmps152
  go_wp2
  go_ret
  exact⟨rfl,rfl⟩
end Go.Proofs.YtdbjbbdhlpfhjaaGreatDoor
namespace Go.Proofs
open Go.Shelf
def Tryz.lays128_ren:Go.Shelf.Ren:=⟨fun | 128=>200|n=>n,fun | 51=>190 | 3=>3 | 4=>4 | 46=>174 | 5=>5 | 9=>9|n=>n,fun|n=>n⟩

def Tryz.lays134_ren:Go.Shelf.Ren:=⟨fun | 134=>115 | 129=>117|n=>n,fun | 53=>61 | 3=>3 | 4=>4 | 46=>174 | 5=>5 | 9=>9|n=>n,fun|n=>n⟩

theorem Tryz.lays134:Go.Proofs.Lays.n134 Tryz.prog Tryz.lays134_ren:={
 mixed:=by kernel_rfl
 f129:=Tryz.func117.trans (congrArg some (by kernel_rfl))
 f134:=Tryz.func115.trans (congrArg some (by kernel_rfl))
 t3:=Tryz.underlying3
 a3:=Tryz.isAgg3
 z3:=Tryz.sizeOf3
 v3:=Tryz.zeroValue3
 t4:=Tryz.underlying4
 a4:=Tryz.isAgg4
 z4:=Tryz.sizeOf4
 v4:=Tryz.zeroValue4
 t5:=Tryz.underlying5
 a5:=Tryz.isAgg5
 z5:=Tryz.sizeOf5
 v5:=Tryz.zeroValue5
 t9:=Tryz.underlying9
 a9:=Tryz.isAgg9
 z9:=Tryz.sizeOf9
 v9:=Tryz.zeroValue9
 t46:=Tryz.underlying174
 a46:=Tryz.isAgg174
 z46:=Tryz.sizeOf174
 v46:=Tryz.zeroValue174
 t53:=Tryz.underlying61
 a53:=Tryz.isAgg61
 z53:=Tryz.sizeOf61
 v53:=Tryz.zeroValue61 }

theorem Tryz.bits_LeadingZeros64 (x:Int)(w:World)(h0:0≤x)(h1:x≤18446744073709551615) :
  Calls Tryz.prog 115 #[.int .u64 x] w fun e w'=>e=.returned (.int .i64 (64 - (Lib.bitLen x.toNat:Int)))∧w'=w:=Any.bits_LeadingZeros64 Tryz.lays134 x w h0 h1

def Tryz.lays215_ren:Go.Shelf.Ren:=⟨fun | 215=>104|n=>n,fun | 3=>3 | 4=>4|n=>n,fun|n=>n⟩

theorem Tryz.lays215:Go.Proofs.Lays.n215 Tryz.prog Tryz.lays215_ren:={
 mixed:=by kernel_rfl
 f215:=Tryz.func104.trans (congrArg some (by kernel_rfl))
 t3:=Tryz.underlying3
 a3:=Tryz.isAgg3
 z3:=Tryz.sizeOf3
 v3:=Tryz.zeroValue3
 t4:=Tryz.underlying4
 a4:=Tryz.isAgg4
 z4:=Tryz.sizeOf4
 v4:=Tryz.zeroValue4 }

open Go.RowKit in
theorem Tryz.cmp_isNaN_int (x:Int)(w:World) :
  Calls Tryz.prog 104 #[.int .i64 x] w fun e w'=>e=.returned (.bool false)∧w'=w:=Any.cmp_isNaN_int Tryz.lays215 x w

def Tryz.lays122_ren:Go.Shelf.Ren:=⟨fun | 122=>67 | 215=>104|n=>n,fun | 3=>3 | 4=>4|n=>n,fun|n=>n⟩

theorem Tryz.lays122:Go.Proofs.Lays.n122 Tryz.prog Tryz.lays122_ren:={
 mixed:=by kernel_rfl
 f122:=Tryz.func67.trans (congrArg some (by kernel_rfl))
 f215:=Tryz.func104.trans (congrArg some (by kernel_rfl))
 t3:=Tryz.underlying3
 a3:=Tryz.isAgg3
 z3:=Tryz.sizeOf3
 v3:=Tryz.zeroValue3
 t4:=Tryz.underlying4
 a4:=Tryz.isAgg4
 z4:=Tryz.sizeOf4
 v4:=Tryz.zeroValue4 }

open Go.RowKit in
theorem Tryz.cmp_Compare_int (x y:Int)(w:World) :
  Calls Tryz.prog 67 #[.int .i64 x,.int .i64 y] w fun e w'=>e=.returned (.int .i64 (Lib.compareInt x y))∧w'=w:=Any.cmp_Compare_int Tryz.lays122 x y w

def Tryz.lays129_ren:Go.Shelf.Ren:=⟨fun | 129=>117|n=>n,fun | 53=>61 | 3=>3 | 4=>4 | 46=>174 | 5=>5 | 9=>9|n=>n,fun|n=>n⟩

theorem Tryz.lays129:Go.Proofs.Lays.n129 Tryz.prog Tryz.lays129_ren:={
 mixed:=by kernel_rfl
 f129:=Tryz.func117.trans (congrArg some (by kernel_rfl))
 t3:=Tryz.underlying3
 a3:=Tryz.isAgg3
 z3:=Tryz.sizeOf3
 v3:=Tryz.zeroValue3
 t4:=Tryz.underlying4
 a4:=Tryz.isAgg4
 z4:=Tryz.sizeOf4
 v4:=Tryz.zeroValue4
 t5:=Tryz.underlying5
 a5:=Tryz.isAgg5
 z5:=Tryz.sizeOf5
 v5:=Tryz.zeroValue5
 t9:=Tryz.underlying9
 a9:=Tryz.isAgg9
 z9:=Tryz.sizeOf9
 v9:=Tryz.zeroValue9
 t46:=Tryz.underlying174
 a46:=Tryz.isAgg174
 z46:=Tryz.sizeOf174
 v46:=Tryz.zeroValue174
 t53:=Tryz.underlying61
 a53:=Tryz.isAgg61
 z53:=Tryz.sizeOf61
 v53:=Tryz.zeroValue61 }

theorem Tryz.bits_Len64 (x:Int)(w:World)(h0:0≤x)(h1:x≤18446744073709551615) :
  Calls Tryz.prog 117 #[.int .u64 x] w fun e w'=>e=.returned (.int .i64 (Lib.bitLen x.toNat))∧w'=w:=Any.bits_Len64 Tryz.lays129 x w h0 h1

def Tryz.lays264_ren:Go.Shelf.Ren:=⟨fun | 264=>187|n=>n,fun | 53=>61 | 46=>174|n=>n,fun|n=>n⟩

theorem Tryz.lays264:Go.Proofs.Lays.n264 Tryz.prog Tryz.lays264_ren:={
 mixed:=by kernel_rfl
 f264:=Tryz.func187.trans (congrArg some (by kernel_rfl))
 t46:=Tryz.underlying174
 a46:=Tryz.isAgg174
 z46:=Tryz.sizeOf174
 v46:=Tryz.zeroValue174
 t53:=Tryz.underlying61
 a53:=Tryz.isAgg61
 z53:=Tryz.sizeOf61
 v53:=Tryz.zeroValue61 }

open Go.RowKit Go.Lib in
theorem Tryz.bits_Mul64 (x y:Nat)(hx:x<18446744073709551616)(hy:y<18446744073709551616)(w:World) :
  Calls Tryz.prog 187 #[.int .u64 x,.int .u64 y] w fun e w'=>e=.returned (.tuple #[.int .u64 ((x*y / 18446744073709551616:Nat):Int),.int .u64 ((x*y % 18446744073709551616:Nat):Int)])∧w'=w:=Any.bits_Mul64 Tryz.lays264 x y hx hy w

def Tryz.laysNm237_ren:Go.Shelf.Ren:=⟨fun | 37=>104|n=>n,fun | 3=>3 | 4=>4|n=>n,fun|n=>n⟩

theorem Tryz.laysNm237:Go.Proofs.Lays2.n37 Tryz.prog Tryz.laysNm237_ren:={
 mixed:=by kernel_rfl
 f37:=Tryz.func104.trans (congrArg some (by kernel_rfl))
 t3:=Tryz.underlying3
 a3:=Tryz.isAgg3
 z3:=Tryz.sizeOf3
 v3:=Tryz.zeroValue3
 t4:=Tryz.underlying4
 a4:=Tryz.isAgg4
 z4:=Tryz.sizeOf4
 v4:=Tryz.zeroValue4 }

open Go.RowKit Go.Lib in
theorem Tryz.cmp_isNaN_int2 (x:Int)(w:World) :
  Calls Tryz.prog 104 #[.int .i64 x] w fun e w'=>e=.returned (.bool false)∧w'=w:=Any.cmp_isNaN_int2 Tryz.laysNm237 x w
end Go.Proofs

namespace Go.Proofs.YtdbjbbdhlpfhjaaGreatDoor
open Go.RowKit
open Lm

def lv (z:Nat):Value:=.int .u64 (z:Int)

def Blk (w:World)(b:Nat)(xs:List Nat):Prop:=w.heap[b]?=some (.cells (xs.map lv).toArray 61 (0,0))

theorem Blk.lt {w:World}{b:Nat}{xs:List Nat}(h:Blk w b xs):b<w.heap.size:=lt_of_block h

theorem Blk.cell {w:World}{b:Nat}{xs:List Nat}(h:Blk w b xs)(k:Nat)(hk:k<xs.length):w.cell? ⟨b,k,none⟩=some (.int .u64 ((xs.getD k 0:Nat):Int)):=by
 simp [World.cell?,show w.heap[b]?=_ from h,hk,lv,List.getD]

theorem Blk.free {w:World}{b:Nat}{xs:List Nat}(h:Blk w b xs)(k:Nat):w.frozen? ⟨b,k,none⟩=false:=by
 simp [World.frozen?,show w.heap[b]?=_ from h]

theorem Blk.set {w:World}{b:Nat}{xs:List Nat}(h:Blk w b xs)(k z:Nat):Blk (w.setCell ⟨b,k,none⟩ (.int .u64 (z:Int))) b (xs.set k z):=by
 have hlt:=h.lt
 have h':w.heap[b]=.cells (xs.map lv).toArray 61 (0,0):=by simpa [Array.getElem?_eq_getElem hlt] using (show w.heap[b]?=_ from h)
 show (w.heap.modify b _)[b]?=_
 rw [Array.getElem?_eq_getElem (by simpa using hlt),Array.getElem_modify_self,h']
 simp [List.map_set,lv]

theorem Blk.below {w w':World}{b B:Nat}{xs:List Nat}(h:Blk w b xs)(hb:Below B w w')(hB:b<B):Blk w' b xs:=by
 unfold Blk;rw [hb.block b hB];exact h

theorem Blk.other {w:World}{b:Nat}{xs:List Nat}(h:Blk w b xs)(a:Addr)(u:Value)(hne:b≠a.block):Blk (w.setCell a u) b xs:=by
 unfold Blk;rw [Below.heap_setCell _ _ _ _ hne];exact h

theorem aG.below {w w':World}{ao:Option Addr}{zs:List Nat}(h:aG w ao zs)(hb:Below w.heap.size w w'):aG w' ao zs:=by
 rcases h with rfl|⟨b,off,rfl,hc⟩
 ·exact .inl rfl
 ·by_cases h0:zs=[]
  ·exact .inl h0
  ·refine .inr ⟨b,off,rfl,fun k hk=>?_⟩
   rw [hb.cell (p:=⟨b,off+k,none⟩) ?_];exact hc k hk
   have hk:=hc k hk
   show b<w.heap.size
   rcases Nat.lt_or_ge b w.heap.size with h' | h'
   ·exact h'
   ·simp [World.cell?,Array.getElem?_eq_none h'] at hk

theorem aG.block {w:World}{b off:Nat}{zs:List Nat}(h:aG w (some ⟨b,off,none⟩) zs)(hz:0<zs.length):b<w.heap.size:=by
 rcases h with rfl|⟨b',off',he,hc⟩
 ·simp at hz
 ·cases he
  have hk:=hc 0 hz
  rcases Nat.lt_or_ge b w.heap.size with h' | h'
  ·exact h'
  ·simp [World.cell?,Array.getElem?_eq_none h'] at hk

structure Arg (w:World)(v:Value)(zs:List Nat):Prop where
 form:∃ao cap,v=.slice ao zs.length cap∧zs.length≤cap∧cap≤9223372036854775807∧aG w ao zs
 limbs:Limbs zs
 few:zs.length≤1125899906842624
 nz:∀n c,v=.slice none n c→c=0

theorem Arg.below {w w':World}{v:Value}{zs:List Nat}(h:Arg w v zs)(hb:Below w.heap.size w w'):Arg w' v zs:=by
 obtain⟨ao,cap,h1,h2,h3,h4⟩:=h.form
 exact⟨⟨ao,cap,h1,h2,h3,h4.below hb⟩,h.limbs,h.few,h.nz⟩

theorem Arg.trim {w:World}{ao:Option Addr}{cap:Nat}{zs:List Nat}(h:Arg w (.slice ao zs.length cap) zs):Arg w (.slice ao (tr zs).length cap) (tr zs):=by
 have hle:=tr_length_le zs
 obtain⟨ao',cap',h1,h2,h3,h4⟩:=h.form
 cases h1
 exact⟨⟨ao,cap,rfl,by omega,h3,h4.tr⟩,limbs_tr h.limbs,by have:=h.few;omega,fun n c e=>by cases e;exact h.nz _ _ rfl⟩

structure Ans (w:World)(base:Nat)(v:Value)(zs:List Nat):Prop where
 own:w.ownsRow base 61 1 v zs.length (zs.map lv)
 limbs:Limbs zs

theorem Ans.nil (w:World)(base:Nat):Ans w base (.slice none 0 0) []:=⟨World.ownsRow_nil _ _ _ _,by intro z hz;cases hz⟩

theorem Ans.of_blk {w:World}{base g:Nat}{zs xs:List Nat}(hg:base≤g)(hb:Blk w g xs)(hz:zs=xs.take zs.length)(hl:zs.length≤xs.length)(hm:xs.length≤9223372036854775807)(hlim:Limbs zs) :
  Ans w base (.slice (some ⟨g,0,none⟩) zs.length xs.length) zs:=by
 refine⟨⟨by simp,.inr ⟨g,xs.length,(xs.map lv).toArray,rfl,hg,hb,hl,by unfold maxLen;omega,by simp,?_⟩⟩,hlim⟩
 rw [Nat.mul_one]
 show (xs.map lv).take zs.length=zs.map lv
 rw [←List.map_take,←hz]

theorem Ans.form {w:World}{base:Nat}{v:Value}{zs:List Nat}(h:Ans w base v zs):(v=.slice none 0 0∧zs=[]) ∨
  ∃g cap,v=.slice (some ⟨g,0,none⟩) zs.length cap∧base≤g∧g<w.heap.size∧zs.length≤cap∧cap≤9223372036854775807∧(∀k,w.frozen? ⟨g,k,none⟩=false)∧∀k,k<zs.length→w.cell? ⟨g,k,none⟩=some (.int .u64 ((zs.getD k 0:Nat):Int)):=by
 have ho:=h.own
 obtain⟨_,h2⟩:=h.own
 rcases h2 with ⟨h1,h2⟩|⟨g,cap,cur,rfl,hg,hh,hn,hcm,hs,ht⟩
 ·exact .inl ⟨h1,List.length_eq_zero_iff.1 h2⟩
 ·refine .inr ⟨g,cap,rfl,hg,lt_of_block hh,hn,by unfold maxLen at hcm;omega,fun k=>ho.frozenAt k,fun k hk=>?_⟩
  rw [ho.cellAt k (by omega)]
  simp [hk,lv,List.getD]

theorem Ans.arg {w:World}{base:Nat}{v:Value}{zs:List Nat}(h:Ans w base v zs)(hf:zs.length≤1125899906842624):Arg w v zs:=by
 rcases h.form with ⟨rfl,rfl⟩|⟨g,cap,rfl,_,_,hl,hm,_,hc⟩
 ·exact⟨⟨none,0,rfl,by simp,by simp,.inl rfl⟩,h.limbs,hf,fun n c e=>by cases e;rfl⟩
 ·exact⟨⟨_,_,rfl,hl,hm,.inr ⟨g,0,rfl,fun k hk=>by rw [Nat.zero_add];exact hc k hk⟩⟩,h.limbs,hf,fun n c e=>by cases e⟩

theorem Ans.below {w w':World}{base:Nat}{v:Value}{zs:List Nat}(h:Ans w base v zs)(hb:Below w.heap.size w w'):Ans w' base v zs:=by
 refine⟨?_,h.limbs⟩
 obtain⟨h1,h2⟩:=h.own
 refine⟨h1,?_⟩
 rcases h2 with h2|⟨g,cap,cur,hv,hg,hh,r⟩
 ·exact .inl h2
 ·exact .inr ⟨g,cap,cur,hv,hg,by rw [hb.block g (lt_of_block hh)];exact hh,r⟩

theorem Ans.base {w:World}{base base':Nat}{v:Value}{zs:List Nat}(h:Ans w base v zs)(hb:base'≤base):Ans w base' v zs:=by
 refine⟨?_,h.limbs⟩
 obtain⟨h1,h2⟩:=h.own
 refine⟨h1,?_⟩
 rcases h2 with h2|⟨g,cap,cur,hv,hg,r⟩
 ·exact .inl h2
 ·exact .inr ⟨g,cap,cur,hv,Nat.le_trans hb hg,r⟩

theorem Ans.trim {w:World}{base:Nat}{ao:Option Addr}{cap:Nat}{zs:List Nat}(h:Ans w base (.slice ao zs.length cap) zs):Ans w base (.slice ao (tr zs).length cap) (tr zs):=by
 refine⟨?_,limbs_tr h.limbs⟩
 have hle:=tr_length_le zs
 obtain⟨_,h2⟩:=h.own
 refine⟨by simp,?_⟩
 rcases h2 with ⟨h1,h2⟩|⟨g,cap',cur,hv,hg,hh,hn,hcm,hs,ht⟩
 ·have e:zs=[]:=List.length_eq_zero_iff.1 h2
  subst e
  exact .inl ⟨h1,rfl⟩
 ·cases hv
  refine .inr ⟨g,cap,cur,rfl,hg,hh,by omega,hcm,hs,?_⟩
  have e:cur.toList.take ((tr zs).length*1)=(cur.toList.take (zs.length*1)).take (tr zs).length:=by
   rw [List.take_take,Nat.mul_one,Nat.mul_one,Nat.min_eq_left hle]
  rw [e,ht,←List.map_take,←tr_take]

theorem Blk.made {w:World}{base n g:Nat}(h:w.ownsRow base 61 1 (.slice (some ⟨g,0,none⟩) n n) n (madeCells (Value.int .u64 0).cells (n*1)).toList):Blk w g (List.replicate n 0):=by
 obtain⟨_,h2⟩:=h
 rcases h2 with ⟨h2,_⟩|⟨g',cap,cur,hv,_,hh,_,_,hs,ht⟩
 ·cases h2
 ·cases hv
  unfold Blk
  rw [hh]
  have e:cur.toList=(List.replicate n 0).map lv:=by
   have:cur.toList.take (n*1)=cur.toList:=List.take_of_length_le (by simp;omega)
   rw [←this,ht]
   show (madeCells #[Value.int .u64 0] (n*1)).toList=_
   rw [toList_madeCells_one,List.map_replicate,Nat.mul_one];rfl
  rw [←e]

theorem Tryz.infoU:(Tryz.prog.info? 61).map (fun i=>(i.zero,i.size,i.bytes))=some (some (.int .u64 0),1,8):=by kernel_rfl

theorem dN (x y c:Nat)(hc:c≤1)(w:World) :
  (callFunc 151 #[.int .u64 x,.int .u64 y,.int .u64 c]).run Tryz.prog w =
   .ok (.value (.tuple #[.int .u64 (((x+y+c) % 18446744073709551616:Nat):Int),.int .u64 (((x+y+c) / 18446744073709551616:Nat):Int)])) w:=by
 rw [run_callFunc_extern Tryz.func151 (by kernel_rfl) (by kernel_rfl) (by kernel_rfl) (e:=add64Entry) (by kernel_rfl),run_add64 x y c (by omega) (by omega) (by omega) (by omega)]
 simp only [Result.andThen]
 congr 5 <;> omega

theorem bO (x y:Nat)(w:World) :
  (callFunc 151 #[.int .u64 x,.int .u64 y,.int .u64 0]).run Tryz.prog w =
   .ok (.value (.tuple #[.int .u64 (((x+y) % 18446744073709551616:Nat):Int),.int .u64 (((x+y) / 18446744073709551616:Nat):Int)])) w:=
 dN x y 0 (by omega) w
end Go.Proofs.YtdbjbbdhlpfhjaaGreatDoor
namespace Go.Proofs.YtdbjbbdhlpfhjaaGreatDoor
namespace Lm

def blen (n:Nat):Nat:=if n=0 then 0 else Nat.log2 n+1

theorem blen_le_iff (n k:Nat):blen n≤k ↔ n<2 ^ k:=by
 unfold blen
 by_cases h:n=0
 ·subst h;simp;exact Nat.two_pow_pos k
 ·rw [if_neg h,←Nat.log2_lt h];omega

theorem d9 {a b:Nat}(h:a≤b):blen a≤blen b:=(blen_le_iff a _).2 (Nat.lt_of_le_of_lt h ((blen_le_iff b _).1 (Nat.le_refl _)))

theorem blen_eq (n k:Nat)(h1:2 ^ k≤n)(h2:n<2 ^ (k+1)):blen n=k+1:=by
 have a:=(blen_le_iff n (k+1)).2 h2
 have b:¬blen n≤k:=fun h=>by have:=(blen_le_iff n k).1 h;omega
 omega

def bl (zs:List Nat):Nat:=if tr zs=[] then 0 else ((tr zs).length - 1)*64+Lib.bitLen ((tr zs).getD ((tr zs).length - 1) 0)

theorem tr_last (zs:List Nat)(n:Nat)(h:(tr zs).length=n+1):(tr zs).getD n 0≠0:=by
 induction zs generalizing n with
 | nil=>simp [tr] at h
 | cons z r ih=>
  unfold tr at h ⊢
  split at h
  ·simp at h
  ·rename_i hh
   rw [if_neg hh]
   simp only [List.length_cons] at h
   cases n with
   | zero=>
    have h0:tr r=[]:=List.length_eq_zero_iff.1 (by omega)
    simp only [List.getD_cons_zero]
    intro hz;exact hh ⟨hz,h0⟩
   | succ n=>simp only [List.getD_cons_succ];exact ih n (by omega)

theorem W_pow (n:Nat):(18446744073709551616:Nat) ^ n=2 ^ (n*64):=by
 rw [Nat.mul_comm,Nat.pow_mul]

theorem bl_eq {zs:List Nat}(h:Limbs zs):bl zs=blen (val zs):=by
 by_cases h0:tr zs=[]
 ·have hv:=val_tr zs
  rw [h0] at hv
  simp only [val] at hv
  rw [←hv];simp [bl,h0,blen]
 ·obtain⟨n,hn⟩:∃n,(tr zs).length=n+1:=⟨(tr zs).length - 1,by have:=List.length_pos_iff.2 h0;omega⟩
  have hl:=limbs_tr h
  have hz:=limb_lt hl n
  have hne:=tr_last zs n hn
  have hb:=Lib.bitLenAux_bounds 64 _ hz hne
  have e:val zs=val ((tr zs).take n)+18446744073709551616 ^ n*(tr zs).getD n 0:=by
   rw [←val_tr zs,←val_take_succ (tr zs) n (by omega),←hn,List.take_length]
  have hlt:val ((tr zs).take n)<18446744073709551616 ^ n:=by
   have:=val_lt (zs:=(tr zs).take n) (fun z hz=>hl z (List.mem_of_mem_take hz))
   have e2:((tr zs).take n).length=n:=by simp;omega
   rwa [e2] at this
  have eb:bl zs=n*64+Lib.bitLen ((tr zs).getD n 0):=by simp [bl,h0,hn]
  rw [eb]
  rw [W_pow] at hlt e
  have hb':1≤Lib.bitLen ((tr zs).getD n 0)∧2 ^ (Lib.bitLen ((tr zs).getD n 0) - 1)≤(tr zs).getD n 0∧(tr zs).getD n 0<2 ^ Lib.bitLen ((tr zs).getD n 0):=hb
  clear hb eb hz
  generalize (tr zs).getD n 0=z at *
  generalize Lib.bitLen z=y at *
  generalize val ((tr zs).take n)=q at *
  obtain⟨y1,y2,y3⟩:=hb'
  obtain⟨m,rfl⟩:∃m,y=m+1:=⟨y - 1,by omega⟩
  rw [Nat.add_sub_cancel] at y2
  have g1:2 ^ (n*64+m)≤val zs:=by
   rw [e,Nat.pow_add]
   exact Nat.le_trans (Nat.mul_le_mul_left _ y2) (Nat.le_add_left _ _)
  have g2:val zs<2 ^ (n*64+m+1):=by
   rw [e,Nat.add_assoc,Nat.pow_add]
   have:=Nat.mul_le_mul_left (2 ^ (n*64)) (Nat.succ_le_of_lt y3)
   rw [Nat.succ_eq_add_one,Nat.mul_add] at this
   omega
  rw [blen_eq _ _ g1 g2];omega

theorem tr_tr (zs:List Nat):tr (tr zs)=tr zs:=by
 induction zs with
 | nil=>rfl
 | cons z r ih=>
  by_cases h:z=0∧tr r=[]
  ·simp [tr,h]
  ·have e:tr (z :: r)=z :: tr r:=by simp only [tr];rw [if_neg h]
   rw [e];simp only [tr,ih];rw [if_neg h]

theorem val_take_next (zs:List Nat)(k:Nat):val (zs.take (k+1))=val (zs.take k)+18446744073709551616 ^ k*zs.getD k 0:=by
 by_cases h:k<zs.length
 ·exact val_take_succ zs k h
 ·have e:zs.getD k 0=0:=by simp [List.getD,Nat.le_of_not_lt h]
  rw [e,List.take_of_length_le (by omega),List.take_of_length_le (by omega)];simp

theorem take_set_succ (out:List Nat)(k z:Nat)(h:k<out.length):val ((out.set k z).take (k+1))=val (out.take k)+18446744073709551616 ^ k*z:=by
 rw [val_take_next,List.take_set_of_le (Nat.le_refl k)]
 congr 2
 simp [List.getD,h]

theorem limbs_set {out:List Nat}(h:Limbs out)(k z:Nat)(hz:z<18446744073709551616):Limbs (out.set k z):=by
 intro y hy
 rcases List.mem_or_eq_of_mem_set hy with h1|h1
 ·exact h y h1
 ·omega

theorem limbs_replicate (n:Nat):Limbs (List.replicate n 0):=by
 intro z hz
 have:=List.eq_of_mem_replicate hz
 omega

end Lm
end Go.Proofs.YtdbjbbdhlpfhjaaGreatDoor
namespace Go.Proofs.YtdbjbbdhlpfhjaaGreatDoor
open Go.RowKit
open Lm

theorem oE (v:Value)(zs:List Nat)(w:World)(h:Arg w v zs) :
  Calls Tryz.prog 80 #[v] w fun e w'=>e=.returned (.int .i64 ((bl zs:Nat):Int))∧w'=w:=by
 obtain⟨ao,cap,rfl,hcap,hmax,hl⟩:=h.form
 have hle:=tr_length_le zs
 have hlt:=hl.tr
 have hlm:=limbs_tr h.limbs
 have hfew:=h.few
 by_cases h0:tr zs=[]
 ·have e:bl zs=0:=by simp [bl,h0]
  rw [e]
  have hn:(((tr zs).length:Int) == 0)=true:=by simp [h0]
  clear e
  go_enter Tryz.func80,Tryz.ntmps80
  go_wp2_with fail
  refine (eG ao cap zs w hcap hmax hl).mono ?_
  rintro e w' ⟨rfl,rfl⟩
  go_wp2
  go_ret
  exact⟨rfl,rfl⟩
 ·rcases hlt with h1|⟨b,off,rfl,hc⟩
  ·exact absurd h1 h0
  ·have hpos:0<(tr zs).length:=List.length_pos_iff.2 h0
   obtain⟨n,hn⟩:∃n,(tr zs).length=n+1:=⟨(tr zs).length - 1,by omega⟩
   have hcn:=hc n (by omega)
   have hzn:=limb_lt hlm n
   have e:bl zs=n*64+Lib.bitLen ((tr zs).getD n 0):=by simp [bl,h0,hn]
   rw [e]
   have htr:=eG (some ⟨b,off,none⟩) cap zs w hcap hmax hl
   rw [hn] at htr
   generalize (tr zs).getD n 0=z at *
   have hb:=Lib.bitLen_le z 64 (by omega) (by omega)
   generalize hy:Lib.bitLen z=y at *
   have HY:Hid (Lib.bitLen z=y):=hy
   clear hy
   have HC:=htr
   clear htr e h0 hc hl
   go_enter Tryz.func80,Tryz.ntmps80
   go_wp2_with fail
   refine HC.mono ?_
   rintro e w' ⟨rfl,rfl⟩
   go_wp2_with fail
   refine (Tryz.bits_Len64 _ _ (by omega) (by omega)).mono ?_
   rintro e w' ⟨rfl,rfl⟩
   rw [Int.toNat_natCast,HY.out]
   go_wp2
   go_ret
   exact⟨by go_num,rfl⟩

theorem bB (v:Value)(zs:List Nat)(w:World)(h:Arg w v zs) :
  Calls Tryz.prog 80 #[v] w fun e w'=>e=.returned (.int .i64 ((blen (val zs):Nat):Int))∧w'=w:=by
 rw [←bl_eq h.limbs];exact oE v zs w h

def Res (w:World)(base:Nat)(e:Ending)(s:Nat):Prop:=
 ∃v c rs,e=.returned (.tuple #[v,.int .i64 c])∧Ans w base v rs∧((c=0∧val rs=s∧tr rs=rs∧blen s≤67108864)∨(c=3∧rs=[]∧67108864<blen s))
end Go.Proofs.YtdbjbbdhlpfhjaaGreatDoor
namespace Go.Proofs.YtdbjbbdhlpfhjaaGreatDoor
namespace Lm

def cmpN (a b:Nat):Int:=if a<b then -1 else if b<a then 1 else 0

theorem cmpN_lt {a b:Nat}(h:a<b):cmpN a b=-1:=by simp [cmpN,h]

theorem cmpN_gt {a b:Nat}(h:b<a):cmpN a b=1:=by
 unfold cmpN;rw [if_neg (by omega),if_pos h]

theorem cmpN_self (a:Nat):cmpN a a=0:=by simp [cmpN]

theorem cmpN_add (a b c:Nat):cmpN (a+c) (b+c)=cmpN a b:=by
 unfold cmpN
 simp

theorem W_pos (n:Nat):0<(18446744073709551616:Nat) ^ n:=Nat.pow_pos (by omega)

theorem cmpN_top (p a b x y:Nat)(ha:a<p)(hb:b<p)(hxy:x≠y):cmpN (a+p*x) (b+p*y)=cmpN x y:=by
 rcases Nat.lt_or_gt_of_ne hxy with h|h
 ·rw [cmpN_lt h,cmpN_lt]
  have:=Nat.mul_le_mul_left p (Nat.succ_le_of_lt h)
  rw [Nat.succ_eq_add_one,Nat.mul_add] at this
  omega
 ·rw [cmpN_gt h,cmpN_gt]
  have:=Nat.mul_le_mul_left p (Nat.succ_le_of_lt h)
  rw [Nat.succ_eq_add_one,Nat.mul_add] at this
  omega

theorem limbs_take {zs:List Nat}(h:Limbs zs)(n:Nat):Limbs (zs.take n):=fun z hz=>h z (List.mem_of_mem_take hz)

theorem val_take_lt {zs:List Nat}(h:Limbs zs)(n:Nat):val (zs.take n)<18446744073709551616 ^ n:=by
 have h1:=val_lt (limbs_take h n)
 have h2:(zs.take n).length≤n:=List.length_take_le _ _
 exact Nat.lt_of_lt_of_le h1 (Nat.pow_le_pow_right (by omega) h2)

theorem cmp_same {Z Y:List Nat}(j:Nat)(he:Z.getD j 0=Y.getD j 0):cmpN (val (Z.take (j+1))) (val (Y.take (j+1)))=cmpN (val (Z.take j)) (val (Y.take j)):=by
 rw [val_take_next,val_take_next,he,cmpN_add]

theorem cmp_top {Z Y:List Nat}(hZ:Limbs Z)(hY:Limbs Y)(j:Nat)(hne:Z.getD j 0≠Y.getD j 0):cmpN (val (Z.take (j+1))) (val (Y.take (j+1)))=cmpN (Z.getD j 0) (Y.getD j 0):=by
 rw [val_take_next,val_take_next]
 exact cmpN_top _ _ _ _ _ (val_take_lt hZ j) (val_take_lt hY j) hne

theorem tr_val_ge (ys:List Nat)(n:Nat)(h:(tr ys).length=n+1):18446744073709551616 ^ n≤val (tr ys):=by
 have h1:=tr_last ys n h
 have h2:=val_take_succ (tr ys) n (by omega)
 rw [←h,List.take_length] at h2
 rw [h2]
 have:=Nat.mul_le_mul_left (18446744073709551616 ^ n) (Nat.one_le_iff_ne_zero.2 h1)
 omega

theorem shorter_lt {zs ys:List Nat}(hz:Limbs zs)(h:(tr zs).length<(tr ys).length):val (tr zs)<val (tr ys):=by
 obtain⟨n,hn⟩:∃n,(tr ys).length=n+1:=⟨(tr ys).length - 1,by omega⟩
 have h1:=val_lt (limbs_tr hz)
 have h2:=tr_val_ge ys n hn
 have h3:(18446744073709551616:Nat) ^ (tr zs).length≤18446744073709551616 ^ n:=Nat.pow_le_pow_right (by omega) (by omega)
 omega

theorem cmp_len {zs ys:List Nat}(hz:Limbs zs)(hy:Limbs ys)(h:(tr zs).length≠(tr ys).length):cmpN (val (tr zs)) (val (tr ys))=cmpN (tr zs).length (tr ys).length:=by
 rcases Nat.lt_or_gt_of_ne h with h|h
 ·rw [cmpN_lt h,cmpN_lt (shorter_lt hz h)]
 ·rw [cmpN_gt h,cmpN_gt (shorter_lt hy h)]

def bor (x y b:Nat):Nat:=if x<y+b then 1 else 0

end Lm
end Go.Proofs.YtdbjbbdhlpfhjaaGreatDoor
namespace Go.Proofs.YtdbjbbdhlpfhjaaGreatDoor
open Go.RowKit
open Lm
attribute [local go_sem ↓] Go.wp_at_zero Go.wp_at_succ

theorem qO (x y:Nat)(w:World) :
  Calls Tryz.prog 70 #[.int .u64 x,.int .u64 y] w fun e w'=>e=.returned (.int .i64 (cmpN x y))∧w'=w:=by
 rcases Nat.lt_trichotomy x y with h|h|h
 ·rw [cmpN_lt h]
  have h1:(x:Int)<(y:Int):=by omega
  go_enter Tryz.func70,Tryz.ntmps70
  go_wp2
  go_ret
  exact⟨rfl,rfl⟩
 ·subst h
  rw [cmpN_self]
  go_enter Tryz.func70,Tryz.ntmps70
  go_wp2
  go_ret
  exact⟨rfl,rfl⟩
 ·rw [cmpN_gt h]
  have h1:¬(x:Int)<(y:Int):=by omega
  have h2:(y:Int)<(x:Int):=by omega
  go_enter Tryz.func70,Tryz.ntmps70
  go_wp2
  go_ret
  exact⟨rfl,rfl⟩

theorem lH (x y:Nat)(w:World) :
  Calls Tryz.prog 67 #[.int .i64 x,.int .i64 y] w fun e w'=>e=.returned (.int .i64 (cmpN x y))∧w'=w:=by
 have e:cmpN x y=Lib.compareInt x y:=by
  unfold cmpN Lib.compareInt
  simp
 rw [e]
 exact Tryz.cmp_Compare_int x y w

structure aD (w w':World):Prop where
 heap:w'.heap=w.heap
 os:w'.os=w.os
 tape:w'.tape=w.tape
 output:w'.output=w.output

theorem aD.below {w w':World}(h:aD w w')(B:Nat):Below B w w':=⟨h.os,h.tape,h.output,by rw [h.heap];exact Nat.le_refl _,fun _ _=>by rw [h.heap]⟩

theorem aD.refl (w:World):aD w w:=⟨rfl,rfl,rfl,rfl⟩

theorem aD.trans {a b c:World}(h:aD a b)(k:aD b c):aD a c:=⟨k.heap.trans h.heap,k.os.trans h.os,k.tape.trans h.tape,k.output.trans h.output⟩

theorem aD.drew {a b:World}(h:aD a b):aD a b.drew:=⟨h.heap,h.os,h.tape,h.output⟩

theorem aD.drewN {a b:World}(h:aD a b)(n:Nat):aD a (b.drewN n):=⟨h.heap,h.os,h.tape,h.output⟩

theorem gv (v1 v2:Value)(zs ys:List Nat)(w:World)(h1:Arg w v1 zs)(h2:Arg w v2 ys) :
  Calls Tryz.prog 33 #[v1,v2] w fun e w'=>e=.returned (.int .i64 (cmpN (val zs) (val ys)))∧aD w w':=by
 obtain⟨a1,c1,rfl,hc1,hm1,hl1⟩:=h1.form
 obtain⟨a2,c2,rfl,hc2,hm2,hl2⟩:=h2.form
 have H1:=eG a1 c1 zs w hc1 hm1 hl1
 have H2:=eG a2 c2 ys w hc2 hm2 hl2
 have l1:=tr_length_le zs
 have l2:=tr_length_le ys
 have L1:=hl1.tr
 have L2:=hl2.tr
 have M1:=limbs_tr h1.limbs
 have M2:=limbs_tr h2.limbs
 have f1:=h1.few
 have f2:=h2.few
 rw [←val_tr zs,←val_tr ys]
 by_cases hlt:(tr zs).length=(tr ys).length
 ·have HL:Hid ((tr ys).length=(tr zs).length):=hlt.symm
  rw [←hlt] at H2
  clear hlt
  generalize tr zs=Z at *
  generalize tr ys=Y at *
  go_enter Tryz.func33,Tryz.ntmps33
  go_wp2_with fail
  refine H1.mono ?_
  rintro e w' ⟨rfl,rfl⟩
  go_wp2_with fail
  refine H2.mono ?_
  rintro e w' ⟨rfl,rfl⟩
  clear H1 H2
  go_wp2
  go_loopw [26] (fun i wr=>∃k:Nat,k≤Z.length∧i=.int .i64 k∧aD w' wr∧cmpN (val (Z.take (Z.length - k))) (val (Y.take (Z.length - k)))=cmpN (val Z) (val Y)) (fun i _=>Z.length - (intOf i).toNat)
  case atStart=>exact⟨0,Nat.zero_le _,rfl,aD.refl _,by rw [Nat.sub_zero,List.take_length,←HL.out,List.take_length]⟩
  case round=>
   obtain⟨k,hk,rfl,hsame,hv⟩:=hrel
   have HV:Hid (cmpN (val (Z.take (Z.length - k))) (val (Y.take (Z.length - k)))=cmpN (val Z) (val Y)):=hv
   clear hv
   by_cases hkl:k<Z.length
   ·rcases L1.below (hsame.below _) with h0|⟨b,off,rfl,hcell⟩
    ·simp [h0] at hkl
    ·rcases L2.below (hsame.below _) with h0|⟨b',off',rfl,hcell'⟩
     ·have:=HL.out;simp [h0] at this;omega
     ·have hck:=hcell (Z.length - 1 - k) (by omega)
      have hck':=hcell' (Z.length - 1 - k) (by have:=HL.out;omega)
      have ek:Z.length - k=(Z.length - 1 - k)+1:=by omega
      have hje:(Z.length:Int) - 1 - (k:Int)=((Z.length - 1 - k:Nat):Int):=by omega
      have hjl:Z.length - 1 - k<Z.length:=by omega
      have ek2:Z.length - (k+1)=Z.length - 1 - k:=by omega
      generalize Z.length - 1 - k=j at *
      have hi1:(0:Int)≤(j:Int):=by omega
      have hi2:(j:Int)<(Z.length:Int):=by omega
      have hwj:IntKind.i64.wrap (j:Int)=(j:Int):=by rw [IntKind.wrap_i64];omega
      have hwr:IntKind.i64.wrap ((Z.length:Int) - 1 - (k:Int))=(j:Int):=by rw [IntKind.wrap_i64];omega
      by_cases hxy:Z.getD j 0=Y.getD j 0
      ·have HN:Hid (cmpN (val (Z.take (Z.length - (k+1)))) (val (Y.take (Z.length - (k+1))))=cmpN (val Z) (val Y)):=by
        rw [←HV.out,ek,cmp_same _ hxy,ek2];rfl
       rw [hxy] at hck
       generalize Y.getD j 0=y at *
       clear hcell hcell' HV ek ek2 L1 L2 M1 M2 hl1 hl2 h1 h2
       go_wp2
       go_quiet (fail)
       go_wp2
       go_roundw
       case rel=>exact⟨k+1,by omega,by go_num,hsame.drewN _,HN.out⟩
       case measure=>simp [intOf];omega
      ·have HN:Hid (cmpN (Z.getD j 0) (Y.getD j 0)=cmpN (val Z) (val Y)):=by
        rw [←HV.out,ek,cmp_top M1 M2 _ hxy];rfl
       have hne:(((Z.getD j 0:Nat):Int) != ((Y.getD j 0:Nat):Int))=true:=by rw [bne_iff_ne];omega
       clear hxy
       generalize Z.getD j 0=x at *
       generalize Y.getD j 0=y at *
       clear hcell hcell' HV ek ek2 L1 L2 M1 M2 hl1 hl2 h1 h2
       go_wp2
       go_quiet (fail)
       go_wp2
       go_region_held3 (fun w2=>w2.cell? ⟨b,off+j,none⟩=some (.int .u64 x)∧w2.cell? ⟨b',off'+j,none⟩=some (.int .u64 y)) (go_keep) (first | (go_at_call 70;refine (qO _ _ _).mono ?_;rintro e w2 ⟨rfl,rfl⟩))
       go_wp2
       go_ret
       rw [HN.out]
       exact⟨rfl,hsame.drewN _⟩
   ·have ek:k=Z.length:=by omega
    subst ek
    have HN:Hid (cmpN (val Z) (val Y)=0):=by rw [←HV.out,Nat.sub_self];rfl
    clear HV L1 L2 M1 M2 hl1 hl2 h1 h2
    go_wp2
    go_ret
    rw [HN.out]
    exact⟨rfl,hsame⟩
 ·have HN:Hid (cmpN (tr zs).length (tr ys).length=cmpN (val (tr zs)) (val (tr ys))):=(cmp_len h1.limbs h2.limbs hlt).symm
  have hne:(((tr zs).length:Int) != ((tr ys).length:Int))=true:=by rw [bne_iff_ne];omega
  clear hlt
  generalize tr zs=Z at *
  generalize tr ys=Y at *
  clear L1 L2 M1 M2 hl1 hl2 h1 h2
  go_enter Tryz.func33,Tryz.ntmps33
  go_wp2_with fail
  refine H1.mono ?_
  rintro e w' ⟨rfl,rfl⟩
  go_wp2_with fail
  refine H2.mono ?_
  rintro e w' ⟨rfl,rfl⟩
  clear H1 H2
  go_wp2_with fail
  refine (lH _ _ _).mono ?_
  rintro e w2 ⟨rfl,rfl⟩
  rw [HN.out]
  go_wp2
  go_ret
  exact⟨rfl,aD.refl _⟩
end Go.Proofs.YtdbjbbdhlpfhjaaGreatDoor
namespace Go.Proofs.YtdbjbbdhlpfhjaaGreatDoor
namespace Lm

theorem tr_tail {z:Nat}{r:List Nat}(h:tr (z :: r)=z :: r):tr r=r:=by
 simp only [tr] at h
 split at h
 ·cases h
 ·injection h

theorem val_zero {a:List Nat}(h:tr a=a)(hv:val a=0):a=[]:=by
 induction a with
 | nil=>rfl
 | cons z r ih=>
  exfalso
  simp only [val] at hv
  have hz:z=0:=by omega
  have hr:val r=0:=by omega
  have:=ih (tr_tail h) hr
  subst this hz
  simp [tr] at h

theorem norm_inj:∀(a b:List Nat),Limbs a→Limbs b→tr a=a→tr b=b→val a=val b→a=b
 | [],b,_,_,_,hb,hv=>(val_zero hb (by simp only [val] at hv;omega)).symm
 | a,[],_,_,ha,_,hv=>val_zero ha (by simp only [val] at hv;omega)
 | x :: r,y :: s,hla,hlb,ha,hb,hv=>by
  have hx:x<18446744073709551616:=hla x (by simp)
  have hy:y<18446744073709551616:=hlb y (by simp)
  simp only [val] at hv
  have e1:x=y:=by omega
  have e2:val r=val s:=by omega
  have:=norm_inj r s (fun z hz=>hla z (by simp [hz])) (fun z hz=>hlb z (by simp [hz])) (tr_tail ha) (tr_tail hb) e2
  rw [e1,this]

end Lm
end Go.Proofs.YtdbjbbdhlpfhjaaGreatDoor
namespace Go.Proofs.YtdbjbbdhlpfhjaaGreatDoor
open Go.RowKit
namespace Lm

theorem two64 (s:Nat)(hs:s≤64):(18446744073709551616:Nat)=2 ^ (64 - s)*2 ^ s:=by
 rw [←Nat.pow_add,Nat.sub_add_cancel hs]

def shl (x s cy:Nat):Nat:=x*2 ^ s % 18446744073709551616+cy

theorem shl_low (x s:Nat)(hs:s≤64):x*2 ^ s % 18446744073709551616=x % 2 ^ (64 - s)*2 ^ s:=by
 rw [two64 s hs,Nat.mul_mod_mul_right]

theorem shr_mul (x s:Nat)(hs:s≤64):x / 2 ^ (64 - s)=x*2 ^ s / 18446744073709551616:=by
 rw [two64 s hs,Nat.mul_div_mul_right _ _ (Nat.two_pow_pos s)]

theorem shl_lt (x s cy:Nat)(hs:s≤64)(hc:cy<2 ^ s):shl x s cy<18446744073709551616:=by
 unfold shl
 rw [shl_low x s hs]
 have h1:x % 2 ^ (64 - s)<2 ^ (64 - s):=Nat.mod_lt _ (Nat.two_pow_pos _)
 have h2:=Nat.mul_le_mul_right (2 ^ s) (Nat.succ_le_of_lt h1)
 rw [←two64 s hs,Nat.succ_eq_add_one,Nat.add_mul] at h2
 omega

theorem shr_lt (x s:Nat)(hs:s≤64)(hx:x<18446744073709551616):x / 2 ^ (64 - s)<2 ^ s:=by
 rw [Nat.div_lt_iff_lt_mul (Nat.two_pow_pos _),Nat.mul_comm,←two64 s hs];exact hx

theorem shl_split (x s cy:Nat)(hs:s≤64):shl x s cy+x / 2 ^ (64 - s)*18446744073709551616=x*2 ^ s+cy:=by
 rw [shr_mul x s hs]
 unfold shl
 have:=Nat.div_add_mod (x*2 ^ s) 18446744073709551616
 omega

theorem walk_shl (x s cy:Nat)(hs:s≤64)(hc:cy<2 ^ s) :
  bits BinOp.or IntKind.u64 (IntKind.u64.wrap ((x:Int)*2 ^ s)) (cy:Int)=((shl x s cy:Nat):Int):=by
 have e1:IntKind.u64.wrap ((x:Int)*2 ^ s)=((x*2 ^ s % 18446744073709551616:Nat):Int):=by
  rw [IntKind.wrap_u64]
  have:((x:Int)*2 ^ s)=((x*2 ^ s:Nat):Int):=by rw [Int.natCast_mul,Int.natCast_pow];rfl
  rw [this];omega
 have hcl:cy<18446744073709551616:=Nat.lt_of_lt_of_le hc (by rw [show (18446744073709551616:Nat)=2 ^ 64 from rfl];exact Nat.pow_le_pow_right (by omega) hs)
 rw [e1,bits_or_u64_nat _ _ (Nat.mod_lt _ (by omega)) hcl,shl_low x s hs]
 unfold shl
 rw [shl_low x s hs,Nat.mul_comm,Nat.two_pow_add_eq_or_of_lt hc]

theorem walk_shr (x k:Nat):((x:Int) / 2 ^ k)=((x / 2 ^ k:Nat):Int):=by
 rw [Int.natCast_ediv,Int.natCast_pow];rfl

theorem val_replicate (n:Nat):val (List.replicate n 0)=0:=by
 induction n with
 | zero=>rfl
 | succ n ih=>simp [List.replicate_succ,val,ih]

theorem few_limbs (zs:List Nat)(k:Nat)(hb:blen (val zs)≤k*64):(tr zs).length≤k:=by
 refine Nat.le_of_not_lt fun hlt=>?_
 obtain⟨n,hn⟩:∃n,(tr zs).length=n+1:=⟨(tr zs).length - 1,by omega⟩
 have h1:=tr_val_ge zs n hn
 rw [val_tr,W_pow] at h1
 have h2:=(blen_le_iff _ _).1 hb
 have h3:2 ^ (k*64)≤2 ^ (n*64):=Nat.pow_le_pow_right (by omega) (by omega)
 omega

theorem val_parts (zs:List Nat)(q:Nat)(h:q≤zs.length):val zs=val (zs.take q)+18446744073709551616 ^ q*val (zs.drop q):=by
 have e:=val_append (zs.take q) (zs.drop q)
 rw [List.take_append_drop,List.length_take,Nat.min_eq_left h] at e
 exact e

theorem val_drop_next (zs:List Nat)(q:Nat)(h:q<zs.length):val (zs.drop q)=zs.getD q 0+18446744073709551616*val (zs.drop (q+1)):=by
 rw [List.drop_eq_getElem_cons h]
 simp [val,List.getD,h]

def shr (x y s:Nat):Nat:=x / 2 ^ s+y % 2 ^ s*2 ^ (64 - s)

theorem walk_shr2 (x y s:Nat)(hs:s<64)(hx:x<18446744073709551616) :
  bits BinOp.or IntKind.u64 ((x:Int) / 2 ^ s) (IntKind.u64.wrap ((y:Int)*2 ^ (64 - s)))=((shr x y s:Nat):Int):=by
 have e1:IntKind.u64.wrap ((y:Int)*2 ^ (64 - s))=((y*2 ^ (64 - s) % 18446744073709551616:Nat):Int):=by
  rw [IntKind.wrap_u64]
  have:((y:Int)*2 ^ (64 - s))=((y*2 ^ (64 - s):Nat):Int):=by rw [Int.natCast_mul,Int.natCast_pow];rfl
  rw [this];omega
 have hxl:x / 2 ^ s<2 ^ (64 - s):=by
  rw [Nat.div_lt_iff_lt_mul (Nat.two_pow_pos s),←two64 s (by omega)];exact hx
 have hx2:x / 2 ^ s<18446744073709551616:=Nat.lt_of_le_of_lt (Nat.div_le_self _ _) hx
 rw [e1,walk_shr,bits_or_u64_nat _ _ hx2 (Nat.mod_lt _ (by omega)),shl_low y (64 - s) (by omega),show 64 - (64 - s)=s by omega]
 unfold shr
 rw [Nat.or_comm,Nat.mul_comm (y % 2 ^ s),←Nat.two_pow_add_eq_or_of_lt hxl,Nat.add_comm]

theorem shr_lt2 (x y s:Nat)(hs:s<64)(hx:x<18446744073709551616):shr x y s<18446744073709551616:=by
 unfold shr
 have hxl:x / 2 ^ s<2 ^ (64 - s):=by
  rw [Nat.div_lt_iff_lt_mul (Nat.two_pow_pos s),←two64 s (by omega)];exact hx
 have h1:y % 2 ^ s<2 ^ s:=Nat.mod_lt _ (Nat.two_pow_pos _)
 have h2:=Nat.mul_le_mul_right (2 ^ (64 - s)) (Nat.succ_le_of_lt h1)
 rw [Nat.mul_comm (Nat.succ _),Nat.mul_comm (2 ^ s),←two64 s (by omega),Nat.succ_eq_add_one,Nat.mul_add,Nat.mul_comm] at h2
 omega

end Lm
end Go.Proofs.YtdbjbbdhlpfhjaaGreatDoor
namespace Go.Proofs.YtdbjbbdhlpfhjaaGreatDoor
open Go.RowKit
open Lm

theorem fd (zs:List Nat):∀u ∈ zs.map lv,u.oneCell'=true:=by
 intro u hu
 obtain⟨z,_,rfl⟩:=List.mem_map.1 hu
 rfl
end Go.Proofs.YtdbjbbdhlpfhjaaGreatDoor
namespace Go.Proofs.YtdbjbbdhlpfhjaaGreatDoor
open Go.RowKit
open Lm
attribute [local go_sem ↓] Go.wp_at_zero Go.wp_at_succ

def cj:List Nat:=[0,1,56,2,57,49,28,3,61,58,42,50,38,29,17,4,62,47,59,36,45,43,51,22,53,39,33,30,24,18,12,5,63,55,48,27,60,41,37,16,46,35,44,21,52,32,23,11,54,26,40,15,34,20,31,10,25,14,19,9,13,8,7,6]

theorem nl (i:Nat):cj.getD i 0<64:=by
 by_cases h:i<64
 ·have:∀j:Fin 64,cj.getD j.1 0<64:=by decide
  exact this ⟨i,h⟩
 ·have:cj.length≤i:=by show 64≤i;omega
  simp [List.getD,this]

def Tab (w:World):Prop:=0<w.heap.size∧∀i,i<64→w.cell? ⟨0,i,none⟩=some (.int .u8 ((cj.getD i 0:Nat):Int))

theorem Tab.below {w w':World}(h:Tab w)(hb:Below w.heap.size w w'):Tab w':=
 ⟨Nat.lt_of_lt_of_le h.1 hb.size,fun i hi=>by rw [hb.cell (p:=⟨0,i,none⟩) h.1];exact h.2 i hi⟩

theorem rG (x:Nat)(w:World)(h0:x≠0)(hT:Tab w) :
  Calls Tryz.prog 114 #[.int .u64 x] w fun e w'=>(∃t:Nat,t<64∧e=.returned (.int .i64 (t:Int)))∧w'=w:=by
 have hd:((x:Int) == 0)=false:=by rw [beq_eq_false_iff_ne];omega
 obtain⟨j,hj,ej⟩:∃j:Nat,j<64∧IntKind.u64.wrap (bits BinOp.and IntKind.u64 (x:Int) (IntKind.u64.wrap (-(x:Int)))*285870213051353865) / 288230376151711744=(j:Int):=by
  generalize bits BinOp.and IntKind.u64 (x:Int) (IntKind.u64.wrap (-(x:Int)))*285870213051353865=y
  refine⟨(IntKind.u64.wrap y / 288230376151711744).toNat,?_,?_⟩ <;> (rw [IntKind.wrap_u64];omega)
 have hc:=hT.2 j hj
 have ht:=nl j
 generalize cj.getD j 0=t at *
 have hj2:(j:Int)<64:=by omega
 have hj3:(0:Int)≤(j:Int):=by omega
 clear hT
 go_enter Tryz.func114,Tryz.ntmps114
 go_wp2
 go_ret
 exact⟨⟨t,ht,rfl⟩,rfl⟩

def bo:List Nat→Nat
 | []=>0
 | z :: r=>if z=0 then (if val r=0 then 0 else bo r+1) else 0

theorem qT (X:List Nat)(k:Nat)(h:k<X.length)(h1:val (X.take k)=0)(h2:X.getD k 0≠0):bo X=k:=by
 induction X generalizing k with
 | nil=>simp at h
 | cons z r ih=>
  cases k with
  | zero=>
   have:z≠0:=by simpa using h2
   simp [bo,this]
  | succ k=>
   rw [List.take_succ_cons,val] at h1
   have hz:z=0:=by omega
   have hr:val (r.take k)=0:=by omega
   rw [List.getD_cons_succ] at h2
   have hk:k<r.length:=by simpa using h
   have hv:val r≠0:=by
    intro e
    have h3:=val_take_succ r k hk
    have h4:val r=val (r.take (k+1))+18446744073709551616 ^ (k+1)*val (r.drop (k+1)):=by
     conv=>lhs;rw [←List.take_append_drop (k+1) r,val_append]
     rw [List.length_take,Nat.min_eq_left hk]
    rw [h4,h3] at e
    have h5:18446744073709551616 ^ k*r.getD k 0=0:=by omega
    rcases Nat.mul_eq_zero.1 h5 with h6|h6
    ·exact absurd h6 (Nat.pos_iff_ne_zero.1 (Nat.pow_pos (by omega)))
    ·exact h2 h6
   rw [bo,if_pos hz,if_neg hv,ih k hk hr h2]

theorem oC (X:List Nat)(h:val X=0):bo X=0:=by
 cases X with
 | nil=>rfl
 | cons z r=>
  rw [val] at h
  rw [bo,if_pos (by omega),if_pos (by omega)]

theorem eA (v:Value)(X:List Nat)(w:World)(hA:Arg w v X)(hT:Tab w) :
  Calls Tryz.prog 76 #[v] w fun e w'=>(∃t:Nat,t<64∧e=.returned (.int .i64 ((bo X*64+t:Nat):Int)))∧w'=w:=by
 obtain⟨a1,c1,rfl,hcc1,hcm1,hl1⟩:=hA.form
 have M1:=hA.limbs
 have hX:=hA.few
 clear hA
 have HT:=ac hT
 clear hT
 go_enter Tryz.func76,Tryz.ntmps76
 go_wp2
 go_loopw [7] (fun i wr=>∃k:Nat,k≤X.length∧i=.int .i64 k∧wr=w∧val (X.take k)=0) (fun i _=>X.length - (intOf i).toNat)
 case atStart=>exact⟨0,Nat.zero_le _,rfl,rfl,by simp [val]⟩
 case round=>
  obtain⟨k,hk,rfl,rfl,hval⟩:=hrel
  have HV:=ac hval
  clear hval
  by_cases hkl:k<X.length
  ·rcases hl1 with h0|⟨b,off,rfl,hcell⟩
   ·rw [h0] at hkl;simp at hkl
   ·have hck:=hcell k hkl
    have z1:=limb_lt M1 k
    by_cases hz:X.getD k 0=0
    ·rw [hz] at hck
     have HV2:Hid (val (X.take (k+1))=0):=ac (by rw [val_take_succ X k hkl,HV.out,hz];simp)
     clear hcell hz
     go_wp2
     go_roundw
     case rel=>exact⟨k+1,by omega,by go_num,trivial,HV2.out⟩
     case measure=>simp [intOf];omega
    ·have HK:=ac (qT X k hkl HV.out hz)
     have H:=rG (X.getD k 0) wr hz HT.out
     have hne:((X.getD k 0:Int) == 0)=false:=by rw [beq_eq_false_iff_ne];omega
     have hne2:((X.getD k 0:Int) != 0)=true:=by rw [bne,hne];rfl
     generalize X.getD k 0=x at *
     clear hcell
     go_wp2_with fail
     refine H.mono ?_
     rintro e w2 ⟨⟨t,ht,rfl⟩,hw⟩
     subst hw
     clear H
     go_wp2
     go_ret
     refine⟨⟨t,ht,?_⟩,rfl⟩
     rw [HK.out]
     exact congrArg (fun i=>Ending.returned (Value.int IntKind.i64 i)) (by omega)
  ·have ek:k=X.length:=by omega
   subst ek
   rw [List.take_length] at HV
   have HK:=ac (oC X HV.out)
   clear hl1
   go_wp2
   go_ret
   exact⟨⟨0,by omega,by rw [HK.out];rfl⟩,rfl⟩
end Go.Proofs.YtdbjbbdhlpfhjaaGreatDoor
namespace Go.Proofs.YtdbjbbdhlpfhjaaGreatDoor
open Go.RowKit
open Lm
end Go.Proofs.YtdbjbbdhlpfhjaaGreatDoor
namespace Go.Proofs.YtdbjbbdhlpfhjaaGreatDoor

def g1 (b:Nat):Nat:=((b / 2) &&& 85)+(b &&& 85)

def g2 (b:Nat):Nat:=((g1 b / 4) &&& 51)+(g1 b &&& 51)
end Go.Proofs.YtdbjbbdhlpfhjaaGreatDoor
namespace Go.Proofs.YtdbjbbdhlpfhjaaGreatDoor
open Go.RowKit
open Lm
attribute [local go_sem ↓] Go.wp_at_zero Go.wp_at_succ
end Go.Proofs.YtdbjbbdhlpfhjaaGreatDoor
namespace Go.Proofs.YtdbjbbdhlpfhjaaGreatDoor
open Lm

theorem pT (P:List Nat)(k:Nat):P.tail.getD k 0=P.getD (k+1) 0:=by
 cases P with
 | nil=>simp [List.getD]
 | cons p r=>simp [List.getD]

theorem iM (P:List Nat):val P=P.getD 0 0+18446744073709551616*val P.tail:=by
 cases P with
 | nil=>simp [val,List.getD]
 | cons p r=>simp [val,List.getD]

theorem qI {P:List Nat}(h:Limbs P):Limbs P.tail:=fun z hz=>h z (List.mem_of_mem_tail hz)

theorem js (x i:Nat):x / 2 ^ i % 2=(x.testBit i).toNat:=by
 rw [Nat.toNat_testBit]
end Go.Proofs.YtdbjbbdhlpfhjaaGreatDoor
namespace Go.Proofs.YtdbjbbdhlpfhjaaGreatDoor
open Go.RowKit
open Lm
attribute [local go_sem ↓] Go.wp_at_zero Go.wp_at_succ
end Go.Proofs.YtdbjbbdhlpfhjaaGreatDoor
namespace Go.Proofs.YtdbjbbdhlpfhjaaGreatDoor
namespace Lm

def vb (B:Nat):List Nat→Nat
 | []=>0
 | z :: r=>z+B*vb B r

def Digs (B:Nat)(zs:List Nat):Prop:=∀z ∈ zs,z<B

variable {B:Nat}

theorem vb_tr (zs:List Nat):vb B (tr zs)=vb B zs:=by
 induction zs with
 | nil=>rfl
 | cons z r ih=>
  unfold tr
  split
  ·rename_i h
   rw [h.2] at ih
   simp only [vb] at ih ⊢
   rw [←ih,h.1];simp
  ·simp only [vb];rw [ih]

theorem vb_append (a b:List Nat):vb B (a ++ b)=vb B a+B ^ a.length*vb B b:=by
 induction a with
 | nil=>simp [vb]
 | cons z r ih=>
  simp only [List.cons_append,vb,ih,List.length_cons,Nat.pow_succ,Nat.mul_add]
  rw [←Nat.mul_assoc,Nat.mul_comm (B ^ r.length) B];omega

theorem vb_lt {zs:List Nat}(h:Digs B zs):vb B zs<B ^ zs.length:=by
 induction zs with
 | nil=>simp [vb]
 | cons z r ih=>
  have hz:z<B:=h z (by simp)
  have hr:=ih (fun x hx=>h x (by simp [hx]))
  simp only [vb,List.length_cons,Nat.pow_succ]
  have:=Nat.mul_le_mul_left B (Nat.succ_le_of_lt hr)
  rw [Nat.succ_eq_add_one,Nat.mul_add] at this
  rw [Nat.mul_comm (B ^ r.length)]
  omega

theorem vb_take_next (zs:List Nat)(k:Nat):vb B (zs.take (k+1))=vb B (zs.take k)+B ^ k*zs.getD k 0:=by
 by_cases h:k<zs.length
 ·rw [take_snoc zs k h,vb_append]
  have e:(zs.take k).length=k:=by simp;omega
  rw [e];simp [vb]
 ·have e:zs.getD k 0=0:=by simp [List.getD,Nat.le_of_not_lt h]
  rw [e,List.take_of_length_le (by omega),List.take_of_length_le (by omega)];simp

theorem vb_set_succ (out:List Nat)(k z:Nat)(h:k<out.length):vb B ((out.set k z).take (k+1))=vb B (out.take k)+B ^ k*z:=by
 rw [vb_take_next,List.take_set_of_le (Nat.le_refl k)]
 congr 2
 simp [List.getD,h]

theorem digs_tr {zs:List Nat}(h:Digs B zs):Digs B (tr zs):=by
 intro z hz
 rw [tr_take] at hz
 exact h z (List.mem_of_mem_take hz)

theorem dig_lt (hB:0<B){zs:List Nat}(h:Digs B zs)(k:Nat):zs.getD k 0<B:=by
 by_cases hk:k<zs.length
 ·have e:zs.getD k 0=zs[k]:=by simp [List.getD,hk]
  rw [e];exact h _ (List.getElem_mem hk)
 ·have e:zs.getD k 0=0:=by simp [List.getD,Nat.le_of_not_lt hk]
  omega

theorem digs_set {out:List Nat}(h:Digs B out)(k z:Nat)(hz:z<B):Digs B (out.set k z):=by
 intro y hy
 rcases List.mem_or_eq_of_mem_set hy with h1|h1
 ·exact h y h1
 ·omega

theorem digs_replicate (hB:0<B)(n:Nat):Digs B (List.replicate n 0):=by
 intro z hz
 have:=List.eq_of_mem_replicate hz
 omega

theorem digs_limbs {zs:List Nat}(h:Digs 4294967296 zs):Limbs zs:=fun z hz=>by have:=h z hz;omega

theorem vb_tail_zero (hB:0<B){a:List Nat}(h:tr a=a)(hv:vb B a=0):a=[]:=by
 induction a with
 | nil=>rfl
 | cons z r ih=>
  exfalso
  simp only [vb] at hv
  have hz:z=0:=by omega
  have hr:vb B r=0:=by
   rcases Nat.mul_eq_zero.1 (show B*vb B r=0 by omega) with h|h
   ·omega
   ·exact h
  have:=ih (tr_tail h) hr
  subst this hz
  simp [tr] at h

theorem vb_add_step (X S out:List Nat)(k cy:Nat)(hk:k<out.length)(h:vb B (out.take k)+cy*B ^ k=vb B (X.take k)+vb B (S.take k)) :
  vb B ((out.set k ((X.getD k 0+S.getD k 0+cy) % B)).take (k+1))+(X.getD k 0+S.getD k 0+cy) / B*B ^ (k+1)=vb B (X.take (k+1))+vb B (S.take (k+1)):=by
 rw [vb_set_succ _ _ _ hk,vb_take_next X,vb_take_next S]
 generalize X.getD k 0=x
 generalize S.getD k 0=y
 have hd:=Nat.div_add_mod (x+y+cy) B
 generalize (x+y+cy) % B=m at *
 generalize (x+y+cy) / B=d at *
 rw [Nat.pow_succ]
 generalize B ^ k=p at *
 have e1:p*m+d*(p*B)=p*(B*d+m):=by
  rw [Nat.mul_add,Nat.add_comm];congr 1;rw [←Nat.mul_assoc,←Nat.mul_assoc,Nat.mul_comm d p,Nat.mul_assoc,Nat.mul_assoc,Nat.mul_comm d]
 have e2:p*(x+y+cy)=p*x+p*y+cy*p:=by rw [Nat.mul_add,Nat.mul_add,Nat.mul_comm cy]
 rw [hd,e2] at e1
 omega

def halves:List Nat→List Nat
 | []=>[]
 | z :: r=>z % 4294967296 :: z / 4294967296 :: halves r

theorem halves_append (a b:List Nat):halves (a ++ b)=halves a ++ halves b:=by
 induction a with
 | nil=>rfl
 | cons z r ih=>simp [halves,ih]

theorem halves_length (a:List Nat):(halves a).length=2*a.length:=by
 induction a with
 | nil=>rfl
 | cons z r ih=>simp [halves,ih];omega

theorem halves_val (a:List Nat):vb 4294967296 (halves a)=val a:=by
 induction a with
 | nil=>rfl
 | cons z r ih=>simp only [halves,vb,val,ih];omega

theorem halves_digs {a:List Nat}(h:Limbs a):Digs 4294967296 (halves a):=by
 induction a with
 | nil=>intro z hz;cases hz
 | cons x r ih=>
  intro z hz
  have hx:=h x (by simp)
  simp only [halves,List.mem_cons] at hz
  rcases hz with rfl|rfl|hz
  ·exact Nat.mod_lt _ (by omega)
  ·omega
  ·exact ih (fun y hy=>h y (by simp [hy])) z hz

theorem halves_take (zs:List Nat)(k:Nat)(h:k<zs.length):halves (zs.take (k+1))=halves (zs.take k) ++ [zs.getD k 0 % 4294967296,zs.getD k 0 / 4294967296]:=by
 rw [take_snoc zs k h,halves_append];rfl

end Lm
end Go.Proofs.YtdbjbbdhlpfhjaaGreatDoor
namespace Go.Proofs.YtdbjbbdhlpfhjaaGreatDoor
open Go.RowKit
open Lm

def Num (w:World)(v:Value)(x:Nat):Prop:=∃ds,Arg w v ds∧Digs 4294967296 ds∧tr ds=ds∧vb 4294967296 ds=x∧ds.length≤35184372088900

theorem Num.below {w w':World}{v:Value}{x:Nat}(h:Num w v x)(hb:Below w.heap.size w w'):Num w' v x:=by
 obtain⟨ds,h1,h2⟩:=h
 exact⟨ds,h1.below hb,h2⟩

theorem Num.nil (w:World):Num w (.slice none 0 0) 0:=
 ⟨[],⟨⟨none,0,rfl,by simp,by simp,.inl rfl⟩,(by intro z hz;cases hz),by simp,fun n c e=>by cases e;rfl⟩,(by intro z hz;cases hz),rfl,rfl,by simp⟩

theorem po (b off cap:Nat)(zs:List Nat)(w:World)(hcap:zs.length≤cap)(hmax:cap≤9223372036854775807)
  (hc:∀k,k<zs.length→w.cell? ⟨b,off+k,none⟩=some (.int .u64 ((zs.getD k 0:Nat):Int))) :
  Calls Tryz.prog 91 #[.slice (some ⟨b,off,none⟩) zs.length cap] w fun e w'=>e=.returned (.slice (some ⟨b,off,none⟩) (tr zs).length (tr zs).length)∧w'=w:=by
 go_enter Tryz.func91,Tryz.ntmps91
 go_wp2
 go_loop [3] (fun n=>∃k:Nat,k≤zs.length∧n=.int .i64 k∧tr (zs.take k)=tr zs) (fun n=>(intOf n).toNat)
 case atStart=>exact⟨zs.length,Nat.le_refl _,rfl,by rw [List.take_length]⟩
 case round=>
  obtain⟨k,hk,rfl,ht⟩:=hrel
  have HT:=ac ht
  clear ht
  by_cases h0:k=0
  ·subst h0
   go_wp2
   go_ret
   have e:=HT.out
   simp only [List.take_zero,tr] at e
   rw [←e]
   exact⟨rfl,rfl⟩
  ·obtain⟨j,rfl⟩:∃j,k=j+1:=⟨k - 1,by omega⟩
   have hcj:=hc j (by omega)
   clear hc
   by_cases hz:zs.getD j 0=0
   ·have HZ:Hid (tr (zs.take j)=tr zs):=by rw [←tr_step zs j (by omega) hz];exact HT.out
    rw [hz] at hcj
    clear hz HT
    go_wp2
    go_round
    case rel=>exact⟨j,by omega,by go_num,HZ.out⟩
    case measure=>simp [intOf]
   ·have HZ:Hid (tr zs=zs.take (j+1)):=by rw [←HT.out];exact tr_stop zs j (by omega) hz
    clear HT
    generalize zs.getD j 0=z at hcj hz
    have hne:((z:Int) == 0)=false:=by rw [beq_eq_false_iff_ne];omega
    clear hz
    go_wp2
    go_ret
    rw [HZ.out]
    have e:(zs.take (j+1)).length=j+1:=by simp;omega
    rw [e]
    exact⟨rfl,rfl⟩

theorem pJ (ao:Option Addr)(cap:Nat)(w:World)(_hmax:cap≤9223372036854775807) :
  Calls Tryz.prog 91 #[.slice ao 0 cap] w fun e w'=>e=.returned (.slice ao 0 0)∧w'=w:=by
 go_enter Tryz.func91,Tryz.ntmps91
 go_wp2
 refine wp_loop_rounds 1 ?_
 rw [rounds_succ]
 go_wp2
 go_ret
 exact⟨rfl,rfl⟩

def New (B:Nat)(v:Value):Prop:=∀b off n c,v=.slice (some ⟨b,off,none⟩) n c→B≤b

theorem New.nil (B n c:Nat):New B (.slice none n c):=fun _ _ _ _ e=>by cases e

theorem New.at (B b off n c:Nat)(h:B≤b):New B (.slice (some ⟨b,off,none⟩) n c):=fun _ _ _ _ e=>by cases e;exact h

theorem New.mono {B B':Nat}{v:Value}(h:New B v)(hb:B'≤B):New B' v:=fun b off n c e=>Nat.le_trans hb (h b off n c e)

theorem Num.store {w:World}{v:Value}{x g j:Nat}{u:Value}(h:Num w v x)(hn:New (g+1) v):Num (w.setCell ⟨g,j,none⟩ u) v x:=by
 obtain⟨ds,hA,hr⟩:=h
 refine⟨ds,?_,hr⟩
 obtain⟨ao,cap,h1,h2,h3,h4⟩:=hA.form
 refine⟨⟨ao,cap,h1,h2,h3,?_⟩,hA.limbs,hA.few,hA.nz⟩
 rcases h4 with h4|⟨b,off,rfl,hc⟩
 ·exact .inl h4
 ·have hb:=hn b off _ _ h1
  refine .inr ⟨b,off,rfl,fun k hk=>?_⟩
  rw [World.cell?_of_block (w:=w) (Below.heap_setCell w ⟨g,j,none⟩ u b (by show b≠g;omega))]
  exact hc k hk

theorem eE (B:Nat)(v:Value)(ds:List Nat)(w:World)(h:Arg w v ds)(hd:Digs 4294967296 ds)(hl:ds.length≤35184372088900)(hB:New B v) :
  Calls Tryz.prog 91 #[v] w fun e w'=>(∃v',e=.returned v'∧Num w v' (vb 4294967296 ds)∧New B v')∧w'=w:=by
 obtain⟨ao,cap,rfl,hcap,hmax,hlies⟩:=h.form
 have hle:=tr_length_le ds
 have H:Calls Tryz.prog 91 #[.slice ao ds.length cap] w fun e w'=>e=.returned (.slice ao (tr ds).length (tr ds).length)∧w'=w:=by
  rcases hlies with rfl|⟨b,off,rfl,hc⟩
  ·exact pJ ao cap w hmax
  ·exact po b off cap ds w hcap hmax hc
 refine H.mono ?_
 rintro e w' ⟨rfl,rfl⟩
 refine⟨⟨_,rfl,⟨tr ds,⟨⟨ao,_,rfl,Nat.le_refl _,by omega,hlies.tr⟩,limbs_tr h.limbs,by omega,?_⟩,digs_tr hd,tr_tr ds,vb_tr ds,by omega⟩,fun b off n c e=>?_⟩,rfl⟩
 rotate_left
 ·cases e;exact hB b off _ _ rfl
 intro n c e
 cases e
 have:=h.nz _ _ rfl
 omega

theorem gf (v:Value)(ds:List Nat)(w:World)(h:Arg w v ds)(hd:Digs 4294967296 ds)(hl:ds.length≤35184372088900) :
  Calls Tryz.prog 91 #[v] w fun e w'=>(∃v',e=.returned v'∧Num w v' (vb 4294967296 ds))∧w'=w:=
 (eE 0 v ds w h hd hl (fun _ _ _ _ _=>Nat.zero_le _)).mono fun _ _ ⟨⟨v',h1,h2,_⟩,h3⟩=>⟨⟨v',h1,h2⟩,h3⟩

theorem eF (v:Value)(zs:List Nat)(i:Nat)(w:World)(h:Arg w v zs) :
  Calls Tryz.prog 92 #[v,.int .i64 i] w fun e w'=>e=.returned (.int .u64 ((zs.getD i 0:Nat):Int))∧w'=w:=by
 obtain⟨ao,cap,rfl,hcap,hmax,hl⟩:=h.form
 by_cases hi:i<zs.length
 ·rcases hl with rfl|⟨b,off,rfl,hc⟩
  ·simp at hi
  ·have hci:=hc i hi
   clear hc h
   generalize zs.getD i 0=z at hci ⊢
   go_enter Tryz.func92,Tryz.ntmps92
   go_wp2
   go_ret
   exact⟨rfl,rfl⟩
 ·have e:zs.getD i 0=0:=by simp [List.getD,Nat.le_of_not_lt hi]
  rw [e]
  clear hl e h
  go_enter Tryz.func92,Tryz.ntmps92
  go_wp2
  go_ret
  exact⟨rfl,rfl⟩

theorem fW {w:World}(l:List Nat)(j:Nat)(u:Value)(hj:(l.map lv)[j]?=some u):(w.alloc (.cells (l.map lv).toArray 61)).cell? ((⟨w.heap.size,0,none⟩:Addr).add j)=some u:=by
 have e:(⟨w.heap.size,0,none⟩:Addr).add j=⟨w.heap.size,j,none⟩:=by
  unfold Addr.add;split <;> simp_all
 rw [e]
 simp only [World.cell?,heap_alloc_new]
 simpa using hj

theorem ie (v:Value)(zs:List Nat)(w:World)(h:Arg w v zs)(hf:zs.length≤17592186044416) :
  Calls Tryz.prog 54 #[v] w fun e w'=>(∃v',e=.returned v'∧Num w' v' (val zs))∧Below w.heap.size w w':=by
 obtain⟨ao,cap,rfl,hcap,hmax,L1⟩:=h.form
 have M1:=h.limbs
 obtain⟨i0,hi,hz0,hz1,hz2⟩:=info_parts Tryz.infoU
 clear h
 go_enter Tryz.func54,Tryz.ntmps54
 go_wp2_with (at_make;refine wpList_make_own _ rfl _ _ 30 rfl w.heap.size 61 i0 (.int .u64 0) 1 Tryz.underlying30 hi hz0 hz1 .i64 .i64 _ (2*zs.length) rfl rfl (by omega) (by rw [hz2];omega) (by unfold maxLen;omega) (Nat.le_refl _) ?_;intro w1 hown hgrow)
 have hbel:Below w.heap.size w w1:=(Below.refl _ _).grown hgrow (Nat.le_refl _) (fun k hk=>by cases hk)
 have hsz:w.heap.size<w1.heap.size:=by
  have:=hown.lt w.heap.size rfl
  exact this.2
 clear hgrow hz0 hz2
 go_loopw [3,12] (fun o i wr=>∃k:Nat,k≤zs.length∧i=.int .i64 k∧o=.slice (some ⟨w.heap.size,0,none⟩) (2*k) (2*zs.length)∧wr.ownsRow w.heap.size 61 1 (.slice (some ⟨w.heap.size,0,none⟩) (2*k) (2*zs.length)) (2*k) ((halves (zs.take k)).map lv)∧Below w.heap.size w wr) (fun _ i _=>zs.length - (intOf i).toNat)
 case atStart=>exact⟨0,Nat.zero_le _,rfl,rfl,hown,hbel⟩
 case round=>
  obtain⟨k,hk,rfl,rfl,ho,hbl⟩:=hrel
  clear hown hbel
  by_cases hkl:k<zs.length
  ·rcases L1.below hbl with h0|⟨b,off,rfl,hcell⟩
   ·simp [h0] at hkl
   ·have hck:=hcell k hkl
    have z1:=limb_lt M1 k
    have HT:=ac (halves_take zs k hkl)
    generalize zs.getD k 0=z at *
    have e1:(z:Int) % 4294967296=((z % 4294967296:Nat):Int):=by omega
    have e2:(z:Int) / 4294967296=((z / 4294967296:Nat):Int):=by omega
    have b1:z % 4294967296<4294967296:=by omega
    have b2:z / 4294967296<4294967296:=by omega
    generalize z % 4294967296=lo at *
    generalize z / 4294967296=hh at *
    have HB:=ac hbl
    clear hcell L1 M1 hbl
    go_wp2_with (at_builtin;refine wpList_append_fits _ rfl _ _ 30 rfl w.heap.size 61 i0 1 Tryz.underlying30 hi hz1 w.heap.size (2*k) (2*zs.length) _ rfl (ho.alloc _) ⟨wr.heap.size,0,none⟩ 2 2 ([lo,hh].map lv) rfl rfl (fW [lo,hh]) (fd _) (by omega) ?_;intro w2 hown2 hgrow2)
    have HO:=ac hown2
    have HB2:=ac ((HB.out.alloc HB.out.size (.cells ([lo,hh].map lv).toArray 61)).grown hgrow2 (by have:=HB.out.size;simp;omega) (fun k hk=>by cases hk;exact Nat.le_refl _))
    clear hown2 hgrow2 ho hck
    go_wp2
    go_roundw
    case rel=>
     refine⟨k+1,by omega,by go_num,rfl,?_,HB2.out⟩
     rw [HT.out,List.map_append]
     exact HO.out
    case measure=>simp [intOf];omega
  ·have ek:k=zs.length:=by omega
   subst ek
   rw [List.take_length] at ho
   have el:=halves_length zs
   have hA:Ans wr w.heap.size (.slice (some ⟨w.heap.size,0,none⟩) (2*zs.length) (2*zs.length)) (halves zs):=⟨by rw [el];exact ho,digs_limbs (halves_digs M1)⟩
   have H:=gf _ _ _ (hA.arg (by omega)) (halves_digs M1) (by omega)
   rw [halves_val] at H
   have HB:=ac hbl
   clear ho hA hbl L1 M1
   go_wp2_with fail
   refine H.mono ?_
   rintro e w2 ⟨⟨v',rfl,hnum⟩,rfl⟩
   have HN:=ac hnum
   clear hnum H
   go_wp2
   go_ret
   exact⟨⟨v',rfl,HN.out⟩,HB.out⟩
end Go.Proofs.YtdbjbbdhlpfhjaaGreatDoor
namespace Go.Proofs.YtdbjbbdhlpfhjaaGreatDoor
namespace Lm

def pairsB (B:Nat):List Nat→List Nat
 | []=>[]
 | [a]=>[a]
 | a :: b :: r=>(a+b*B) :: pairsB B r

def pairs (ds:List Nat):List Nat:=pairsB 4294967296 ds

theorem pairsB_length (B:Nat):∀ds:List Nat,(pairsB B ds).length=(ds.length+1) / 2
 | []=>by simp [pairsB]
 | [_]=>by simp [pairsB]
 | a :: b :: r=>by simp only [pairsB,List.length_cons,pairsB_length B r];omega

theorem pairsB_getD (B:Nat):∀(ds:List Nat) (k:Nat),(pairsB B ds).getD k 0=ds.getD (2*k) 0+ds.getD (2*k+1) 0*B
 | [],k=>by simp [pairsB,List.getD]
 | [a],0=>by simp [pairsB,List.getD]
 | [a],k+1=>by simp [pairsB,List.getD,Nat.mul_add]
 | a :: b :: r,0=>by simp [pairsB,List.getD]
 | a :: b :: r,k+1=>by
  have:=pairsB_getD B r k
  rw [show 2*(k+1)=2*k+1+1 by omega]
  simp only [pairsB,List.getD_cons_succ]
  exact this

theorem pairs_length (ds:List Nat):(pairs ds).length=(ds.length+1) / 2:=pairsB_length _ ds

theorem pairs_getD (ds:List Nat)(k:Nat):(pairs ds).getD k 0=ds.getD (2*k) 0+ds.getD (2*k+1) 0*4294967296:=pairsB_getD _ ds k

theorem pairs_val:∀ds:List Nat,val (pairs ds)=vb 4294967296 ds
 | []=>rfl
 | [a]=>by simp [pairs,pairsB,val,vb]
 | a :: b :: r=>by
  have ih:=pairs_val r
  unfold pairs at ih ⊢
  simp only [pairsB,val,vb,ih];omega

theorem pairs_limbs:∀ds:List Nat,Digs 4294967296 ds→Limbs (pairs ds)
 | [],_=>by intro z hz;cases hz
 | [a],h=>by
  intro z hz
  have:=h a (by simp)
  simp [pairs,pairsB] at hz
  omega
 | a :: b :: r,h=>by
  intro z hz
  have ha:=h a (by simp)
  have hb:=h b (by simp)
  simp only [pairs,pairsB,List.mem_cons] at hz
  rcases hz with rfl|hz
  ·omega
  ·exact pairs_limbs r (fun y hy=>h y (by simp [hy])) z hz

theorem pairs_nil:∀ds:List Nat,pairs ds=[]→ds=[]
 | [],_=>rfl
 | [a],h=>by simp [pairs,pairsB] at h
 | a :: b :: r,h=>by simp [pairs,pairsB] at h

theorem pairs_tr:∀ds:List Nat,tr ds=ds→tr (pairs ds)=pairs ds
 | [],_=>rfl
 | [a],h=>h
 | a :: b :: r,h=>by
  have h1:=tr_tail h
  have h2:=tr_tail h1
  have ih:=pairs_tr r h2
  unfold pairs at ih ⊢
  simp only [pairsB,tr,ih]
  split
  ·rename_i hc
   exfalso
   have hr:=pairs_nil r hc.2
   have hb:b=0:=by omega
   subst hr hb
   simp [tr] at h1
  ·rfl

theorem blen_half (v:Nat)(h:v≠0):blen v=blen (v / 2)+1:=by
 unfold blen
 rw [if_neg h]
 by_cases h2:v / 2=0
 ·rw [if_pos h2]
  have:v=1:=by omega
  subst this;rfl
 ·rw [if_neg h2]
  have:v.log2=(v / 2).log2+1:=by
   rw [Nat.log2_def];rw [if_pos (by omega)]
  omega

theorem B_pow (n:Nat):(4294967296:Nat) ^ n=2 ^ (32*n):=by rw [Nat.pow_mul]

theorem blen_top (p k d:Nat)(hp:p<2 ^ k)(hd:d≠0):blen (p+2 ^ k*d)=k+blen d:=by
 have h1:=Nat.log2_self_le hd
 have h2:=(Nat.log2_lt hd (k:=d.log2+1)).1 (by omega)
 have e:blen d=d.log2+1:=by unfold blen;rw [if_neg hd]
 rw [e,←Nat.add_assoc]
 refine blen_eq _ _ ?_ ?_
 ·rw [Nat.pow_add]
  exact Nat.le_trans (Nat.mul_le_mul_left _ h1) (Nat.le_add_left _ _)
 ·rw [Nat.add_assoc,Nat.pow_add]
  have:=Nat.mul_le_mul_left (2 ^ k) (Nat.succ_le_of_lt h2)
  rw [Nat.succ_eq_add_one,Nat.mul_add] at this
  omega

theorem tr_last' (ds:List Nat)(n:Nat)(ht:tr ds=ds)(h:ds.length=n+1):ds.getD n 0≠0:=by
 have:=tr_last ds n (by rw [ht];exact h)
 rwa [ht] at this

theorem vb_split (ds:List Nat)(n:Nat)(h:ds.length=n+1):vb 4294967296 ds=vb 4294967296 (ds.take n)+2 ^ (32*n)*ds.getD n 0:=by
 have:=vb_take_next (B:=4294967296) ds n
 rw [←h,List.take_length,B_pow] at this
 exact this

theorem vb_take_lt {ds:List Nat}(hd:Digs 4294967296 ds)(n:Nat):vb 4294967296 (ds.take n)<2 ^ (32*n):=by
 have h1:=vb_lt (B:=4294967296) (zs:=ds.take n) (fun z hz=>hd z (List.mem_of_mem_take hz))
 have h2:(ds.take n).length≤n:=List.length_take_le _ _
 rw [←B_pow]
 exact Nat.lt_of_lt_of_le h1 (Nat.pow_le_pow_right (by omega) h2)

theorem blen_vb {ds:List Nat}(hd:Digs 4294967296 ds)(ht:tr ds=ds)(n:Nat)(h:ds.length=n+1):blen (vb 4294967296 ds)=32*n+blen (ds.getD n 0):=by
 rw [vb_split ds n h]
 exact blen_top _ _ _ (vb_take_lt hd n) (tr_last' ds n ht h)

theorem vb_shorter {a b:List Nat}(ha:Digs 4294967296 a)(hb:tr b=b)(h:a.length<b.length):vb 4294967296 a<vb 4294967296 b:=by
 obtain⟨n,hn⟩:∃n,b.length=n+1:=⟨b.length - 1,by omega⟩
 have h1:=vb_take_lt ha n
 rw [List.take_of_length_le (by omega)] at h1
 have h2:=tr_last' b n hb hn
 rw [vb_split b n hn]
 have:=Nat.mul_le_mul_left (2 ^ (32*n)) (Nat.one_le_iff_ne_zero.2 h2)
 omega

theorem vcmp_same {Z Y:List Nat}(j:Nat)(he:Z.getD j 0=Y.getD j 0):cmpN (vb 4294967296 (Z.take (j+1))) (vb 4294967296 (Y.take (j+1)))=cmpN (vb 4294967296 (Z.take j)) (vb 4294967296 (Y.take j)):=by
 rw [vb_take_next,vb_take_next,he,cmpN_add]

theorem vcmp_top {Z Y:List Nat}(hZ:Digs 4294967296 Z)(hY:Digs 4294967296 Y)(j:Nat)(hne:Z.getD j 0≠Y.getD j 0):cmpN (vb 4294967296 (Z.take (j+1))) (vb 4294967296 (Y.take (j+1)))=cmpN (Z.getD j 0) (Y.getD j 0):=by
 rw [vb_take_next,vb_take_next,B_pow]
 exact cmpN_top _ _ _ _ _ (vb_take_lt hZ j) (vb_take_lt hY j) hne

theorem vb_sub_step (X S out:List Nat)(k bw:Nat)(hk:k<out.length)(hx:X.getD k 0<4294967296)(hy:S.getD k 0<4294967296)(hb:bw≤1)
  (h:vb 4294967296 (out.take k)+vb 4294967296 (S.take k)=vb 4294967296 (X.take k)+bw*4294967296 ^ k) :
  vb 4294967296 ((out.set k ((X.getD k 0+4294967296 - S.getD k 0 - bw) % 4294967296)).take (k+1))+vb 4294967296 (S.take (k+1))=vb 4294967296 (X.take (k+1))+(1 - (X.getD k 0+4294967296 - S.getD k 0 - bw) / 4294967296)*4294967296 ^ (k+1):=by
 rw [vb_set_succ _ _ _ hk,vb_take_next X,vb_take_next S,Nat.pow_succ]
 generalize X.getD k 0=x at *
 generalize S.getD k 0=y at *
 have hm:(x+4294967296 - y - bw) % 4294967296+y+bw=x+(1 - (x+4294967296 - y - bw) / 4294967296)*4294967296:=by omega
 generalize (x+4294967296 - y - bw) % 4294967296=m at *
 generalize 1 - (x+4294967296 - y - bw) / 4294967296=d at *
 generalize (4294967296:Nat) ^ k=p at *
 have e:p*(m+y+bw)=p*(x+d*4294967296):=by rw [hm]
 rw [Nat.mul_add,Nat.mul_add,Nat.mul_add] at e
 have e2:d*(p*4294967296)=p*(d*4294967296):=by rw [←Nat.mul_assoc,Nat.mul_comm d p,Nat.mul_assoc]
 have e3:bw*p=p*bw:=Nat.mul_comm _ _
 omega

end Lm
end Go.Proofs.YtdbjbbdhlpfhjaaGreatDoor
namespace Go.Proofs.YtdbjbbdhlpfhjaaGreatDoor
open Go.RowKit
open Lm

theorem pf (v:Value)(ds:List Nat)(w:World)(h:Arg w v ds)(hd:Digs 4294967296 ds)(hf:ds.length≤35184372088832) :
  Calls Tryz.prog 129 #[v] w fun e w'=>(∃v',e=.returned v'∧Ans w' w.heap.size v' (pairs ds))∧Below w.heap.size w w':=by
 obtain⟨ao,cap,rfl,hcap,hmax,L1⟩:=h.form
 obtain⟨i0,hi,hz0,hz1,hz2⟩:=info_parts Tryz.infoU
 have hpl:=pairs_length ds
 clear h
 go_enter Tryz.func129,Tryz.ntmps129
 go_wp2
 go_loopw [3,4] (fun o i wr=>∃k:Nat,k≤(pairs ds).length∧i=.int .i64 ((2*k:Nat):Int)∧wr.ownsRow w.heap.size 61 1 o ((pairs ds).take k).length (((pairs ds).take k).map lv)∧Below w.heap.size w wr) (fun _ i _=>ds.length+2 - (intOf i).toNat)
 case atStart=>exact⟨0,Nat.zero_le _,rfl,World.ownsRow_nil _ _ _ _,Below.refl _ _⟩
 case round=>
  obtain⟨k,hk,rfl,ho,hbl⟩:=hrel
  have HB:=ac hbl
  by_cases hkl:2*k<ds.length
  ·rcases L1.below hbl with h0|⟨b,off,rfl,hcell⟩
   ·simp [h0] at hkl
   ·have hck:=hcell (2*k) hkl
    have HT:=ac (take_snoc (pairs ds) k (by omega))
    have hpg:=pairs_getD ds k
    have z1:=dig_lt (by omega) hd (2*k)
    have z2:=dig_lt (by omega) hd (2*k+1)
    by_cases hk2:2*k+1<ds.length
    ·have hck2:=hcell (2*k+1) hk2
     rw [hpg] at HT
     generalize ds.getD (2*k) 0=x at *
     generalize ds.getD (2*k+1) 0=y at *
     have i1:(2:Int)*(k:Int)+1<(ds.length:Int):=by omega
     have e1:(x:Int)+(y:Int)*4294967296=((x+y*4294967296:Nat):Int):=by omega
     have b1:x+y*4294967296<18446744073709551616:=by omega
     generalize x+y*4294967296=z at *
     clear hcell L1 hbl hd hpg
     go_wp2_with (at_builtin;refine wpList_append_own _ rfl _ _ 22 rfl w.heap.size 61 i0 (.int .u64 0) 1 8 Tryz.underlying22 hi hz0 hz1 hz2 rfl (by decide) _ _ _ rfl (ho.alloc _) ⟨wr.heap.size,0,none⟩ 1 1 ([z].map lv) rfl rfl (fW [z]) (fd _) (by simp only [List.length_take];unfold maxLen;omega) (by simp only [List.length_take];omega) (by have:=HB.out.size;simp;omega) ?_;intro v' w2 hown2 hgrow2 _)
     have HO:=ac hown2
     have HB2:=ac ((HB.out.alloc HB.out.size (.cells ([z].map lv).toArray 61)).grown hgrow2 (by have:=HB.out.size;simp;omega) (fun k hk=>(ho.lt k hk).1))
     clear hown2 hgrow2 ho
     go_wp2
     go_roundw
     case rel=>
      refine⟨k+1,by omega,by go_num,?_,HB2.out⟩
      rw [HT.out,List.length_append,List.map_append]
      exact HO.out
     case measure=>simp [intOf];omega
    ·have e0:ds.getD (2*k+1) 0=0:=by simp [List.getD,Nat.le_of_not_lt hk2]
     rw [hpg,e0,Nat.zero_mul,Nat.add_zero] at HT
     generalize ds.getD (2*k) 0=x at *
     have hd1:decide ((2:Int)*(k:Int)+1<(ds.length:Int))=false:=decide_eq_false (by omega)
     clear hcell L1 hbl hd hpg e0
     go_wp2_with (at_builtin;refine wpList_append_own _ rfl _ _ 22 rfl w.heap.size 61 i0 (.int .u64 0) 1 8 Tryz.underlying22 hi hz0 hz1 hz2 rfl (by decide) _ _ _ rfl (ho.alloc _) ⟨wr.heap.size,0,none⟩ 1 1 ([x].map lv) rfl rfl (fW [x]) (fd _) (by simp only [List.length_take];unfold maxLen;omega) (by simp only [List.length_take];omega) (by have:=HB.out.size;simp;omega) ?_;intro v' w2 hown2 hgrow2 _)
     have HO:=ac hown2
     have HB2:=ac ((HB.out.alloc HB.out.size (.cells ([x].map lv).toArray 61)).grown hgrow2 (by have:=HB.out.size;simp;omega) (fun k hk=>(ho.lt k hk).1))
     clear hown2 hgrow2 ho
     go_wp2
     go_roundw
     case rel=>
      refine⟨k+1,by omega,by go_num,?_,HB2.out⟩
      rw [HT.out,List.length_append,List.map_append]
      exact HO.out
     case measure=>simp [intOf];omega
  ·have ek:k=(pairs ds).length:=by omega
   rw [ek,List.take_length] at ho
   have HA:Hid (Ans wr w.heap.size u3 (pairs ds)):=⟨ho,pairs_limbs ds hd⟩
   clear ho hbl L1 hd
   go_wp2
   go_ret
   exact⟨⟨_,rfl,HA.out⟩,HB.out⟩

theorem nC (v u:Value)(x:Nat)(rs:List Nat)(w:World)(hn:Num w v x)(ha:Arg w u rs)(ht:tr rs=rs)(hv:val rs=x)(hf:blen x≤1125899906842624) :
  Calls Tryz.prog 88 #[v,u] w fun e w'=>e=.returned (.bool true)∧Below w.heap.size w w':=by
 obtain⟨ds,hd1,hd2,hd3,hd4,hd5⟩:=hn
 have hf2:ds.length≤35184372088832:=by
  refine Nat.le_of_not_lt fun hlt=>?_
  obtain⟨n,hn⟩:∃n,ds.length=n+1:=⟨ds.length - 1,by omega⟩
  have h1:=blen_vb hd2 hd3 n hn
  have h2:=tr_last' ds n hd3 hn
  have h3:=blen_half _ h2
  rw [hd4] at h1
  omega
 clear hf
 have HL:=pf v ds w hd1 hd2 hf2
 have he:pairs ds=rs:=norm_inj _ _ (pairs_limbs ds hd2) ha.limbs (pairs_tr ds hd3) ht (by rw [pairs_val,hd4,hv])
 rw [he] at HL
 have hfew:=ha.few
 clear he ht hv hd1 hd2 hd3 hd4 hd5 hf2
 go_enter Tryz.func88,Tryz.ntmps88
 go_wp2_with fail
 refine HL.mono ?_
 rintro e w1 ⟨⟨v',rfl,hans⟩,hb⟩
 have A1:=hans.arg hfew
 have A2:=ha.below hb
 have HB:=ac hb
 clear HL hans hb ha
 obtain⟨a1,c1,rfl,hc1,hm1,L1⟩:=A1.form
 obtain⟨a2,c2,rfl,hc2,hm2,L2⟩:=A2.form
 have hne:((rs.length:Int) != (rs.length:Int))=false:=by simp
 clear A1 A2
 go_wp2
 go_loopw [16] (fun i wr=>∃k:Nat,k≤rs.length∧i=.int .i64 k∧aD w1 wr) (fun i _=>rs.length - (intOf i).toNat)
 case atStart=>exact⟨0,Nat.zero_le _,rfl,aD.refl _⟩
 case round=>
  obtain⟨k,hk,rfl,hs⟩:=hrel
  by_cases hkl:k<rs.length
  ·rcases L1.below (hs.below _) with h0|⟨b,off,rfl,hcell⟩
   ·simp [h0] at hkl
   ·rcases L2.below (hs.below _) with h0|⟨b',off',rfl,hcell'⟩
    ·simp [h0] at hkl
    ·have hck:=hcell k hkl
     have hck':=hcell' k hkl
     generalize rs.getD k 0=z at *
     have hne2:((z:Int) != (z:Int))=false:=by simp
     have hi1:(0:Int)≤(k:Int):=by omega
     have hi2:(k:Int)<(rs.length:Int):=by omega
     have HS:=ac hs
     clear hcell hcell' L1 L2 hs
     go_wp2
     go_quiet (fail)
     go_wp2
     go_roundw
     case rel=>exact⟨k+1,by omega,by go_num,HS.out.drewN _⟩
     case measure=>simp [intOf];omega
  ·have HS:=ac hs
   clear L1 L2 hs
   go_wp2
   go_ret
   exact⟨rfl,HB.out.trans (HS.out.below _)⟩

theorem j7 {k:IntKind}{a b:Int}(h:a=b):Ending.returned (.int k a)=.returned (.int k b):=by rw [h]

theorem fh (v:Value)(x:Nat)(w:World)(hn:Num w v x) :
  Calls Tryz.prog 10 #[v] w fun e w'=>e=.returned (.int .i64 ((blen x:Nat):Int))∧w'=w:=by
 obtain⟨ds,hd1,hd2,hd3,rfl,hd5⟩:=hn
 obtain⟨ao,cap,rfl,hcap,hmax,L1⟩:=hd1.form
 clear hd1
 by_cases h0:ds.length=0
 ·have hz:ds=[]:=List.length_eq_zero_iff.1 h0
  subst hz
  have e:blen (vb 4294967296 [])=0:=rfl
  rw [e]
  clear L1 hd2 hd3 hd5 h0
  go_enter Tryz.func10,Tryz.ntmps10
  go_wp2
  go_ret
  exact⟨rfl,rfl⟩
 ·obtain⟨n,hn⟩:∃n,ds.length=n+1:=⟨ds.length - 1,by omega⟩
  rcases L1 with hz|⟨b,off,rfl,hcell⟩
  ·simp [hz] at h0
  ·have hcn:=hcell n (by omega)
   rw [blen_vb hd2 hd3 n hn]
   have hdl:=dig_lt (by omega) hd2 n
   rw [hn] at hd5 ⊢
   have hz:(((n+1:Nat):Int) == 0)=false:=by rw [beq_eq_false_iff_ne];omega
   have hz':((n:Int)+1 == 0)=false:=by rw [beq_eq_false_iff_ne];omega
   generalize ds.getD n 0=d at *
   have hbd:blen d≤32:=(blen_le_iff d 32).2 hdl
   clear hcell hd2 hd3 h0 hn hcap
   go_enter Tryz.func10,Tryz.ntmps10
   go_wp2
   go_loop [3,4] (fun a b=>∃m y:Nat,a=.int .i64 m∧b=.int .u64 y∧m+blen y=32*n+blen d∧y<4294967296) (fun _ b=>(intOf b).toNat)
   case atStart=>exact⟨32*n,d,by go_num,rfl,rfl,hdl⟩
   case round=>
    obtain⟨m,y,rfl,rfl,hm,hy⟩:=hrel
    by_cases hy0:y=0
    ·subst hy0
     have HM:=ac hm
     have e0:blen 0=0:=rfl
     have HM2:Hid (m=32*n+blen d):=ac (by have:=HM.out;rw [e0] at this;exact this)
     clear hm HM e0
     go_wp2
     go_ret
     exact⟨j7 (by have:=HM2.out;omega),rfl⟩
    ·have hb2:=blen_half y hy0
     have HM:Hid (m+1+blen (y / 2)=32*n+blen d):=ac (by omega)
     have hmb:m≤32*n+32:=by omega
     have e1:(y:Int) / 2=((y / 2:Nat):Int):=by omega
     have i1:(0:Int)<(y:Int):=by omega
     have i2:y / 2<y:=by omega
     clear hm hb2
     generalize y / 2=y2 at *
     go_wp2
     go_round
     case rel=>exact⟨m+1,y2,by go_num,rfl,HM.out,by omega⟩
     case measure=>simp [intOf];omega
end Go.Proofs.YtdbjbbdhlpfhjaaGreatDoor
namespace Go.Proofs.YtdbjbbdhlpfhjaaGreatDoor
open Lm

theorem iK (s:Nat)(hs:s≤32):(4294967296:Nat)=2 ^ (32 - s)*2 ^ s:=by
 rw [←Nat.pow_add,Nat.sub_add_cancel hs]

theorem pZ (q s:Nat):2 ^ (q*32+s)=4294967296 ^ q*2 ^ s:=by
 rw [Nat.pow_add,Nat.mul_comm q 32,Nat.pow_mul]

theorem rf (x s o:Nat)(hs:s≤32)(ho:o<2 ^ s):o+x*2 ^ s % 4294967296<4294967296:=by
 have e:x*2 ^ s % 4294967296=x % 2 ^ (32 - s)*2 ^ s:=by
  conv=>lhs;rw [iK s hs,Nat.mul_mod_mul_right]
 have h1:x % 2 ^ (32 - s)<2 ^ (32 - s):=Nat.mod_lt _ (Nat.two_pow_pos _)
 have h2:(x % 2 ^ (32 - s)+1)*2 ^ s≤2 ^ (32 - s)*2 ^ s:=Nat.mul_le_mul_right _ h1
 rw [←iK s hs,Nat.add_mul,Nat.one_mul] at h2
 omega

theorem pu (x s:Nat)(hx:x<4294967296):x*2 ^ s / 4294967296<2 ^ s:=by
 rw [Nat.div_lt_iff_lt_mul (by omega),Nat.mul_comm (2 ^ s)]
 exact Nat.mul_lt_mul_of_pos_right hx (Nat.two_pow_pos _)

theorem mV (x s:Nat)(hx:x<4294967296)(hs:s<32):x*2 ^ s<18446744073709551616:=by
 have h:2 ^ s≤2 ^ 32:=Nat.pow_le_pow_right (by omega) (by omega)
 have:=Nat.mul_le_mul (Nat.le_sub_one_of_lt hx) h
 omega

theorem nL (X out:List Nat)(q s k n:Nat)(hn:n=q*32+s)(hk:q+k+1<out.length)(h:vb 4294967296 (out.take (q+k+1))=vb 4294967296 (X.take k)*2 ^ n) :
  vb 4294967296 (((out.set (q+k) (out.getD (q+k) 0+X.getD k 0*2 ^ s % 4294967296)).set (q+k+1) (X.getD k 0*2 ^ s / 4294967296)).take (q+k+1+1))=vb 4294967296 (X.take (k+1))*2 ^ n:=by
 rw [vb_set_succ _ _ _ (by simpa using hk),vb_set_succ _ _ _ (by omega),vb_take_next X k]
 rw [vb_take_next] at h
 have ht:=Nat.mod_add_div (X.getD k 0*2 ^ s) 4294967296
 have e:2 ^ n=4294967296 ^ q*2 ^ s:=by rw [hn,pZ]
 have e2:4294967296 ^ (q+k)=4294967296 ^ q*4294967296 ^ k:=Nat.pow_add _ _ _
 have e3:4294967296 ^ (q+k+1)=4294967296 ^ (q+k)*4294967296:=Nat.pow_succ ..
 rw [e3]
 rw [e2] at h ⊢
 rw [e] at h ⊢
 generalize X.getD k 0*2 ^ s % 4294967296=r at *
 generalize X.getD k 0*2 ^ s / 4294967296=d at *
 generalize X.getD k 0=x at *
 generalize out.getD (q+k) 0=o at *
 generalize vb 4294967296 (out.take (q+k))=V at *
 generalize vb 4294967296 (X.take k)=U at *
 generalize 4294967296 ^ q=Q at *
 generalize 4294967296 ^ k=K at *
 generalize 2 ^ s=S at *
 generalize 4294967296=B at *
 grind
end Go.Proofs.YtdbjbbdhlpfhjaaGreatDoor

