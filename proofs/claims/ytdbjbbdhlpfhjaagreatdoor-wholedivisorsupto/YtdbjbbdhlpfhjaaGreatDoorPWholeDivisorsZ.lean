/- For every input of bulk at most 1048576 the law WholeDivisors answers true, and each argument reads afterwards as it read before. -/
import Derived.Test.YtdbjbbdhlpfhjaaGreatDoorRows
import Derived.Test.YtdbjbbdhlpfhjaaGreatDoorB19
import Derived.ProofKit
import Derived.OpenShut
import Derived.ChangeOld
import Derived.Below
import Derived.SizedLaws
import Derived.ChangeSame
import Derived.Test.YtdbjbbdhlpfhjaaGreatDoorTie
import Derived.Test.YtdbjbbdhlpfhjaaGreatDoorCards
import Derived.Test.YtdbjbbdhlpfhjaaGreatDoorB20
import Derived.LaidMore
import Derived.Lay
import Derived.SevenTiedAt
import Derived.Stop.Joined
import Derived.Deep.DeepHandedRow
import Derived.Lib.LaidTab
namespace Go.Proofs.YtdbjbbdhlpfhjaaGreatDoor
namespace wholeDivisors
open Go.ChangeShapes Go.WideShapes Go.ChangeAt Go.RowKit

theorem own:ownKnob Tryz.prog.godebug=none:=by kernel_rfl

theorem laidOut:laidOutB Tryz.prog=true:=by kernel_rfl

theorem bulk_one {H:Type}(d:DataW H):1≤Rows.uptoBulk d:=by
 cases d with
 | lit l=>cases l <;> simp [Rows.uptoBulk]
 | nil=>simp [Rows.uptoBulk]
 | ptr d=>simp [Rows.uptoBulk]
 | slice elems spare=>simp [Rows.uptoBulk]
 | agg parts=>simp [Rows.uptoBulk]
 | iface t d=>simp [Rows.uptoBulk]
 | map entries=>simp [Rows.uptoBulk]
 | held h=>simp [Rows.uptoBulk]

theorem bulk_part {H:Type}{d:DataW H}{l:List (DataW H)}(h:d ∈ l):Rows.uptoBulk d≤Rows.uptoBulkAll l:=by
 induction l with
 | nil=>cases h
 | cons x r ih=>
  simp only [Rows.uptoBulkAll]
  cases List.mem_cons.1 h with
  | inl e=>subst e;omega
  | inr e=>have:=ih e;omega

theorem bulk_len {H:Type}(l:List (DataW H)):l.length≤Rows.uptoBulkAll l:=by
 induction l with
 | nil=>simp [Rows.uptoBulkAll]
 | cons x r ih=>have:=bulk_one x;simp only [Rows.uptoBulkAll,List.length_cons];omega

theorem bulk_slice {H:Type}(elems spare:List (DataW H)):elems.length+spare.length+1≤Rows.uptoBulk (.slice elems spare):=by
 have h1:=bulk_len elems
 have h2:=bulk_len spare
 simp only [Rows.uptoBulk]
 omega

theorem arg_of (W:World)(x:Addr)(l c:Nat)(zs:List Int)(hl:l≤c)(hm:c≤maxLen)(hz:zs.length=c)(hcell:∀i,i<zs.length→W.cell? (x.add i)=some (.int .u64 (zs.getD i 0)))(hwz:∀n ∈ zs,(Lit.int .u64 n).wf=true)(hs:c≤1048576) :
  ∃ys,Arg W (.slice (some x) l c) ys∧ys.length≤1048576:=by
 have hwf:∀i,0≤zs.getD i 0∧zs.getD i 0<18446744073709551616:=by
  intro i
  by_cases hi:i<zs.length
  ·have e:zs.getD i 0=zs[i]:=by simp [List.getD,hi]
   have hw:=bounds_u64 (hwz _ (List.getElem_mem hi))
   rw [e];omega
  ·have e:zs.getD i 0=0:=by simp [List.getD,Nat.le_of_not_lt hi]
   omega
 have hlen:((zs.take l).map Int.toNat).length=l:=by simp;omega
 have hget:∀i,i<l→(((((zs.take l).map Int.toNat).getD i 0:Nat)):Int)=zs.getD i 0:=by
  intro i hi
  have h1:((zs.take l).map Int.toNat).getD i 0=(zs.getD i 0).toNat:=by
   simp [List.getD,show i<zs.length by omega,hi]
  rw [h1];have:=hwf i;omega
 refine⟨(zs.take l).map Int.toNat,⟨⟨some x,c,by rw [hlen],by omega,by unfold maxLen at hm;omega,?_⟩,?_,by omega,fun n c e=>by cases e⟩,by omega⟩
 ·by_cases h0:l=0
  ·exact .inl (List.length_eq_zero_iff.1 (by omega))
  ·obtain⟨b,off,rfl,hc⟩:=ints_at hcell (by omega)
   refine .inr ⟨b,off,rfl,fun i hi=>?_⟩
   rw [hlen] at hi
   rw [hc i (by omega),hget i hi]
 ·intro z hz'
  obtain⟨n,hn,rfl⟩:=List.mem_map.1 hz'
  obtain⟨i,hi,rfl⟩:=List.getElem_of_mem (List.mem_of_mem_take hn)
  have:=hwf i
  have e:zs.getD i 0=zs[i]:=by simp [List.getD,hi]
  rw [e] at this;omega

theorem arg_nil (W:World):∃ys,Arg W (.slice none 0 0) ys∧ys.length≤1048576:=
 ⟨[],⟨⟨none,0,rfl,by simp,by simp,.inl rfl⟩,(by intro z hz;cases hz),by simp,fun n c e=>by cases e;rfl⟩,by simp⟩

theorem cellsW:Tryz.prog.cellsOf 24=2:=by kernel_rfl

theorem cellsB:Tryz.prog.cellsOf 4=1:=by kernel_rfl

theorem cellsL:Tryz.prog.cellsOf 22=1:=by kernel_rfl

theorem bulk_agg {H:Type}(a b:DataW H):Rows.uptoBulk b≤Rows.uptoBulk (.agg [a,b]):=by
 simp only [Rows.uptoBulk,Rows.uptoBulkAll]
 omega

theorem open_w {H:Type}(enc:TypeId × Value→H)(W:World)(cs:Array Value)(d:DataW H)(p:List MemPlace)(hcs:cs.size=2)(h:DataW.Trod enc Tryz.prog W 0 (fun _=>true) true 24 (.agg cs) d p)(hs:Rows.uptoBulk d≤1048576) :
  ∃(b:Bool) (u:Value) (zs:List Nat),cs=#[.bool b,u]∧Arg W u zs∧zs.length≤1048576:=by
 obtain⟨c0,c1,rfl⟩:∃c0 c1,cs=#[c0,c1]:=by
  obtain⟨l⟩:=cs
  match l,hcs with
  | [c0,c1],_=>exact⟨c0,c1,rfl⟩
 obtain⟨fuel,hf⟩:=h
 obtain⟨y0,y1,m,hx,_,hy0,hy1⟩:=trod_struct2 Tryz.underlying24 hf
 obtain⟨b,e0,e1⟩:=DataW.trod_bool Tryz.underlying4 hy0
 simp [Value.cells,cellsB] at e0
 subst e0
 simp only [Prod.mk.injEq] at hx
 have hd:=hx.1
 rcases open_ints Tryz.underlying22 Tryz.underlying61 (by kernel_rfl) hy1 with ⟨hc,_⟩|⟨x,l,c,zs,hc,_,hl,hm,hz,hx1,hcell,hwz⟩
 ·simp [Value.cells,cellsL] at hc
  subst hc
  obtain⟨ys,h1,h2⟩:=arg_nil W
  exact⟨b,_,ys,rfl,h1,h2⟩
 ·simp [Value.cells,cellsL] at hc
  subst hc
  have hz':zs.length=c:=by simpa using hz
  rw [hx1] at hd
  subst hd
  have hb:=Nat.le_trans (bulk_slice _ _) (Nat.le_trans (bulk_agg _ _) hs)
  simp only [lits,List.length_map,List.length_take,List.length_drop] at hb
  obtain⟨ys,h1,h2⟩:=arg_of W x l c zs hl hm hz' hcell hwz (by omega)
  exact⟨b,_,ys,rfl,h1,h2⟩

theorem laid_met (os:Os):laidMet Tryz.prog Rows.wholeDivisorsUptoRow.laid ((World.laidAll Tryz.prog os gp).forCall (fun _ _=>0) ⟨#[],#[.agg #[.bool false,.slice none 0 0],.agg #[.bool false,.slice none 0 0]],[]⟩).memory:=
 laidMet_of_run' 8 (by kernel_rfl) (by kernel_rfl)

theorem reads (os:Os){H:Type}(enc:TypeId × Value→H):∃places,DataW.whole enc Tryz.prog ((World.laidAll Tryz.prog os gp).forCall (fun _ _=>0) ⟨#[],#[.agg #[.bool false,.slice none 0 0],.agg #[.bool false,.slice none 0 0]],[]⟩).memory Tryz.f3.params.toList Rows.wholeDivisorsSpec.vars false (#[.agg #[.bool false,.slice none 0 0],.agg #[.bool false,.slice none 0 0]]:Array Value).toList 8=some ([.agg [.lit (.bool false),.nil],.agg [.lit (.bool false),.nil]],[],places):=
 ⟨[],by kernel_rfl⟩

set_option maxRecDepth 100000 in
theorem lifted (os:Os)(started:os.Started)(H:Type)(enc:TypeId × Value→H)(F:Stop.Interp) :
  ReturnsInHanded {} Tryz.checked os 3 .any ((Rows.OpenSpec.upto Rows.wholeDivisorsSpec).preRow enc Tryz.prog Tryz.f3 Rows.wholeDivisorsUptoRow.domain false Rows.wholeDivisorsUptoRow.laid) (((Rows.OpenSpec.upto Rows.wholeDivisorsSpec).at F).post enc Tryz.prog Tryz.f3 false true false false):=by
 obtain⟨places,hx⟩:=reads os enc
 refine returnsInHanded_of_row (C:=Tryz.checked) (s:=Rows.OpenSpec.upto Rows.wholeDivisorsSpec) own started (by kernel_rfl) Tryz.func3
  (witness_row_at (enc:=enc) (C:=Tryz.checked) false (World.laidAll Tryz.prog os gp) #[.agg #[.bool false,.slice none 0 0],.agg #[.bool false,.slice none 0 0]] (World.laidAll_os _ _ _) (by kernel_rfl) (by kernel_rfl) (by kernel_rfl)
   (OpenSpec.preRow_of_cond 8 hx (by kernel_rfl) (fun k hk=>by cases hk;kernel_rfl) (by kernel_rfl) (laid_met os))) ?_
 clear hx
 intro W base args ds gs before hval0 hW _ hcond _ hL _ _
 have hk:Rows.uptoSmall H (ds ++ gs)=true:=hcond _ rfl
 have hB:Rows.uptoBulkAll (ds ++ gs)≤1048576:=of_decide_eq_true hk
 clear hk hcond
 have hTab:=oK hL
 have hval:∀(j:Nat) t v,Tryz.f3.params[j]?=some t→args[j]?=some v→Value.okWide Tryz.prog W .any base t v:=hval0
 have hW':DataW.Whole enc Tryz.prog Tryz.f3.params.toList Rows.wholeDivisorsSpec.vars false W args.toList ds gs before:=hW
 have hW2:=hW'
 clear hW
 obtain⟨p,q,hA0,hV,rfl,_,_⟩:=hW2
 have hA:DataW.TrodAll enc Tryz.prog W 0 (fun _=>true) true Tryz.f3.params.toList args.toList ds p:=hA0
 rw [Tryz.params3] at hA hval
 obtain⟨v0,vs0,d0,ds0,p0,q0,hargs,rfl,rfl,h0,r0⟩:=trodAll_cons hA
 obtain⟨v1,vs1,d1,ds1,p1,q1,rfl,rfl,rfl,h1,r1⟩:=trodAll_cons r0
 obtain⟨rfl,rfl,rfl⟩:=trodAll_nil r1
 obtain rfl:args=#[v0,v1]:=by cases args;simp_all
 obtain⟨rfl,rfl⟩:=trodVars_none hV
 obtain⟨cs0,rfl,hcs0⟩:=okWide_struct Tryz.underlying24 (hval 0 24 v0 rfl rfl)
 rw [cellsW] at hcs0
 have k0:=h0
 have lt0:∀x ∈ p0,x.block<W.heap.size:=by obtain⟨m,hm⟩:=k0;exact DataW.trod_lt m _ _ _ hm
 obtain⟨b0,u0,z0,ecs0,A0,s0⟩:=open_w enc W cs0 d0 p0 hcs0 h0 (Nat.le_trans (bulk_part (by simp)) hB)
 subst ecs0
 obtain⟨cs1,rfl,hcs1⟩:=okWide_struct Tryz.underlying24 (hval 1 24 v1 rfl rfl)
 rw [cellsW] at hcs1
 have k1:=h1
 have lt1:∀x ∈ p1,x.block<W.heap.size:=by obtain⟨m,hm⟩:=k1;exact DataW.trod_lt m _ _ _ hm
 obtain⟨b1,u1,z1,ecs1,A1,s1⟩:=open_w enc W cs1 d1 p1 hcs1 h1 (Nat.le_trans (bulk_part (by simp)) hB)
 subst ecs1
 clear hA0 hval0
 refine (nA b0 u0 z0 b1 u1 z1 W hTab A0 s0 A1 s1).mono fun e W' ⟨he,bel⟩=>?_
 subst he
 exact⟨_,rfl,_,_,_,[],_,[],hW',trodAll_mk1 (shut_bool Tryz.underlying4 _),(trodAll_cons_mk (Below.trod laidOut (by kernel_rfl) (of_decide_eq_true (by kernel_rfl)) k0 bel lt0) (trodAll_cons_mk (Below.trod laidOut (by kernel_rfl) (of_decide_eq_true (by kernel_rfl)) k1 bel lt1) trodAll_mk0)),rfl,bel.frame _,fun h=>by cases h⟩

theorem over:Rows.wholeDivisorsUptoRow.holds Tryz.pinned (Rows.OpenSpec.upto Rows.wholeDivisorsSpec):=
 OpenClaim.holds_of_cond 3 Tryz.f3 rfl rfl rfl rfl rfl rfl rfl ⟨rfl,rfl,rfl,rfl,rfl⟩ rfl rfl rfl rfl rfl (by kernel_rfl) Tryz.func3 (by kernel_rfl)
  (of_decide_eq_true (by kernel_rfl)) (by unfold Func.isWrapper;first | (rw [if_pos (by decide +kernel)];kernel_rfl) | (rw [if_neg (by decide +kernel)];exact⟨rfl,rfl⟩))
  (fun os started H enc _ F=>by rw [OpenClaim.pre_eq_preRow];exact lifted os started H enc F)

end wholeDivisors

theorem wholeDivisors_holds:Rows.WholeDivisorsUptoCardSaid:=
 Claim7.holds_tied_plain_at .later [] _ _ _ _ wholeDivisors.over (fun _ h=>by cases h) (by kernel_rfl) (fun _ h=>by cases h) wholeDivisorsUpto_row_tie rfl ⟨rfl,rfl⟩ (by kernel_rfl) rfl
  (fun f fn hf hfn=>by
   obtain rfl:f=3:=Option.some.inj ((show Tryz.prog.funcNamed "surd/surdlaw06.WholeDivisors"=some 3 by kernel_rfl).symm.trans hf) |>.symm
   obtain rfl:fn=Tryz.f3:=(Option.some.inj (Tryz.func3.symm.trans hfn)).symm
   exact⟨by kernel_rfl,fun j t ht=>by
    rw [Tryz.params3] at ht
    have hm:t ∈ ([24,24]:List TypeId):=by simpa using Array.mem_of_getElem? ht
    have hall:(([24,24]:List TypeId).all fun u=>!Tryz.prog.wantsStandIn u)=true:=by kernel_rfl
    exact (show Tryz.prog.wantsStandIn t=false by simpa using List.all_eq_true.1 hall t hm)⟩)
  (by kernel_rfl)
#print axioms wholeDivisors_holds

end Go.Proofs.YtdbjbbdhlpfhjaaGreatDoor
