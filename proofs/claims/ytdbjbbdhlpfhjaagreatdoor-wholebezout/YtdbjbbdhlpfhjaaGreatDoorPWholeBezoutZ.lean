/- For every input the law WholeBezout answers true, and each argument reads afterwards as it read before. No condition beyond the form's own reach (each slice at most 2^47 - 4096 bytes). -/
import Derived.Test.YtdbjbbdhlpfhjaaGreatDoorRows
import Derived.Test.YtdbjbbdhlpfhjaaGreatDoorB21
import Derived.ProofKit
import Derived.OpenShut
import Derived.ChangeOld
import Derived.Below
import Derived.SizedLaws
import Derived.ChangeSame
import Derived.Test.YtdbjbbdhlpfhjaaGreatDoorTie
import Derived.Test.YtdbjbbdhlpfhjaaGreatDoorCards
import Derived.Test.YtdbjbbdhlpfhjaaGreatDoorB22
import Derived.LaidMore
import Derived.Lay
import Derived.SevenTiedAt
import Derived.Stop.Joined
namespace Go.Proofs.YtdbjbbdhlpfhjaaGreatDoor
namespace wholeBezout
open Go.ChangeShapes Go.WideShapes Go.ChangeAt Go.RowKit

theorem own:ownKnob Tryz.prog.godebug=none:=by kernel_rfl

theorem laidOut:laidOutB Tryz.prog=true:=by kernel_rfl

theorem bytesU:Tryz.prog.bytesOf 61=8:=by kernel_rfl

theorem arg_of (W:World)(x:Addr)(l c:Nat)(zs:List Int)(hl:l≤c)(hm:c≤maxLen)(hz:zs.length=c)(hcell:∀i,i<zs.length→W.cell? (x.add i)=some (.int .u64 (zs.getD i 0)))(hwz:∀n ∈ zs,(Lit.int .u64 n).wf=true)(hs:c≤17592186043904) :
  ∃ys,Arg W (.slice (some x) l c) ys∧ys.length≤17592186043904:=by
 have hwf:∀i,0≤zs.getD i 0∧zs.getD i 0<18446744073709551616:=by
  intro i
  by_cases hi:i<zs.length
  ·have e:zs.getD i 0=zs[i]:=by simp [List.getD,hi]
   have hw:=bounds_u64 (hwz _ (List.getElem_mem hi))
   rw [e];omega
  ·have e:zs.getD i 0=0:=by simp [List.getD,Nat.le_of_not_lt hi]
   omega
 have hlen:((zs.take l).map Int.toNat).length=l:=by simp;omega
 have hget:∀i,i<l→(((((zs.take l).map Int.toNat).getD i 0:Nat)):Int)=zs.getD i 0:=by
  intro i hi
  have h1:((zs.take l).map Int.toNat).getD i 0=(zs.getD i 0).toNat:=by
   simp [List.getD,show i<zs.length by omega,hi]
  rw [h1];have:=hwf i;omega
 refine⟨(zs.take l).map Int.toNat,⟨⟨some x,c,by rw [hlen],by omega,by unfold maxLen at hm;omega,?_⟩,?_,by omega,fun n c e=>by cases e⟩,by omega⟩
 ·by_cases h0:l=0
  ·exact .inl (List.length_eq_zero_iff.1 (by omega))
  ·obtain⟨b,off,rfl,hc⟩:=ints_at hcell (by omega)
   refine .inr ⟨b,off,rfl,fun i hi=>?_⟩
   rw [hlen] at hi
   rw [hc i (by omega),hget i hi]
 ·intro z hz'
  obtain⟨n,hn,rfl⟩:=List.mem_map.1 hz'
  obtain⟨i,hi,rfl⟩:=List.getElem_of_mem (List.mem_of_mem_take hn)
  have:=hwf i
  have e:zs.getD i 0=zs[i]:=by simp [List.getD,hi]
  rw [e] at this;omega

theorem arg_nil (W:World):∃ys,Arg W (.slice none 0 0) ys∧ys.length≤17592186043904:=
 ⟨[],⟨⟨none,0,rfl,by simp,by simp,.inl rfl⟩,(by intro z hz;cases hz),by simp,fun n c e=>by cases e;rfl⟩,by simp⟩

theorem cellsW:Tryz.prog.cellsOf 27=2:=by kernel_rfl

theorem cellsB:Tryz.prog.cellsOf 4=1:=by kernel_rfl

theorem cellsL:Tryz.prog.cellsOf 25=1:=by kernel_rfl

theorem open_w {H:Type}(enc:TypeId × Value→H)(W:World)(cs:Array Value)(d:DataW H)(p:List MemPlace)(hcs:cs.size=2)(h:DataW.Trod enc Tryz.prog W 0 (fun _=>true) true 27 (.agg cs) d p)(hs:∀n ∈ DataW.weights Tryz.prog 27 d,n≤reachBytes) :
  ∃(b:Bool) (u:Value) (zs:List Nat),cs=#[.bool b,u]∧Arg W u zs∧zs.length≤17592186043904:=by
 obtain⟨c0,c1,rfl⟩:∃c0 c1,cs=#[c0,c1]:=by
  obtain⟨l⟩:=cs
  match l,hcs with
  | [c0,c1],_=>exact⟨c0,c1,rfl⟩
 obtain⟨fuel,hf⟩:=h
 obtain⟨y0,y1,m,hx,_,hy0,hy1⟩:=trod_struct2 Tryz.underlying27 hf
 obtain⟨b,e0,e1⟩:=DataW.trod_bool Tryz.underlying4 hy0
 simp [Value.cells,cellsB] at e0
 subst e0
 simp only [Prod.mk.injEq] at hx
 have hd:=hx.1
 rcases open_ints Tryz.underlying25 Tryz.underlying61 (by kernel_rfl) hy1 with ⟨hc,_⟩|⟨x,l,c,zs,hc,_,hl,hm,hz,hx1,hcell,hwz⟩
 ·simp [Value.cells,cellsL] at hc
  subst hc
  obtain⟨ys,h1,h2⟩:=arg_nil W
  exact⟨b,_,ys,rfl,h1,h2⟩
 ·simp [Value.cells,cellsL] at hc
  subst hc
  have hz':zs.length=c:=by simpa using hz
  rw [hx1] at hd
  subst hd
  have hsw:=hs (((zs.take l).length+(zs.drop l).length)*Tryz.prog.bytesOf 61) (by simp [DataW.weights,DataW.weightsEach,Tryz.underlying27,Tryz.underlying25,lits])
  rw [bytesU] at hsw
  simp only [List.length_take,List.length_drop,reachBytes] at hsw
  obtain⟨ys,h1,h2⟩:=arg_of W x l c zs hl hm hz' hcell hwz (by omega)
  exact⟨b,_,ys,rfl,h1,h2⟩

set_option maxHeartbeats 4000000 in
set_option maxRecDepth 100000 in
theorem lifted (os:Os)(started:os.Started)(H:Type)(enc:TypeId × Value→H) :
  ReturnsInHanded {} Tryz.checked os 5 .any (fun w args=>(Rows.wholeBezoutSpec.pre enc Tryz.prog Tryz.f5 Rows.wholeBezoutRow.domain false w args∧laidMetH Tryz.prog dP w)∧sizedMet enc Tryz.prog Tryz.f5 (OpenSpec.ofChange Rows.wholeBezoutSpec) false w args) (Rows.wholeBezoutSpec.post enc Tryz.prog Tryz.f5 false true false false):=by
 refine returnsInHanded_of_change_and (C:=Tryz.checked) (X:=fun w _=>laidMetH Tryz.prog dP w) (fun _ _ _ hh h=>h.of_heap hh) own started (by kernel_rfl) Tryz.func5
  (ChangeSpec.witness_shaped (enc:=enc) (C:=Tryz.checked) (os:=os) (X:=fun w _=>laidMetH Tryz.prog dP w) false (World.laidAll Tryz.prog os dP) #[.agg #[.bool false,.slice none 0 0],.agg #[.bool false,.slice none 0 0]] 8 (World.laidAll_os _ _ _)
   (World.shaped_of_ZipB (by kernel_rfl) (by kernel_rfl)) (by kernel_rfl) (by kernel_rfl) (by kernel_rfl)
   (by rw [MakeChecks.laidMetH_plain _ _ _ (by kernel_rfl)];exact laidMet_laidAll _ (by kernel_rfl) (by kernel_rfl))) ?_
 intro W base args ds gs before hval0 hW _ hsz0 hL _
 have hTab:=mh hL
 have hval:∀(j:Nat) t v,Tryz.f5.params[j]?=some t→args[j]?=some v→Value.okWide Tryz.prog W .any base t v:=hval0
 have hsz:(DataW.weightsEach Tryz.prog (Tryz.f5.params.toList ++ Rows.wholeBezoutSpec.plain.varTypes Tryz.prog) (ds ++ gs)).all (·≤reachBytes)=true:=hsz0
 clear hsz0
 have hW':=hW
 obtain⟨p,q,hA0,hV,rfl,_,_⟩:=hW
 have hA:DataW.TrodAll enc Tryz.prog W 0 (fun _=>true) true Tryz.f5.params.toList args.toList ds p:=hA0
 rw [Tryz.params5] at hA hval hsz
 obtain⟨v0,vs0,d0,ds0,p0,q0,hargs,rfl,rfl,h0,r0⟩:=trodAll_cons hA
 obtain⟨v1,vs1,d1,ds1,p1,q1,rfl,rfl,rfl,h1,r1⟩:=trodAll_cons r0
 obtain⟨rfl,rfl,rfl⟩:=trodAll_nil r1
 obtain rfl:args=#[v0,v1]:=by cases args;simp_all
 obtain⟨rfl,rfl⟩:=trodVars_none hV
 obtain⟨cs0,rfl,hcs0⟩:=okWide_struct Tryz.underlying27 (hval 0 27 v0 rfl rfl)
 rw [cellsW] at hcs0
 have k0:=h0
 have lt0:∀x ∈ p0,x.block<W.heap.size:=by obtain⟨m,hm⟩:=k0;exact DataW.trod_lt m _ _ _ hm
 obtain⟨b0,u0,z0,ecs0,A0,s0⟩:=open_w enc W cs0 d0 p0 hcs0 h0 (fun n hn=>of_decide_eq_true (List.all_eq_true.1 hsz n (DataW.weights_mem_each (j:=0) (t:=27) rfl rfl n hn)))
 subst ecs0
 obtain⟨cs1,rfl,hcs1⟩:=okWide_struct Tryz.underlying27 (hval 1 27 v1 rfl rfl)
 rw [cellsW] at hcs1
 have k1:=h1
 have lt1:∀x ∈ p1,x.block<W.heap.size:=by obtain⟨m,hm⟩:=k1;exact DataW.trod_lt m _ _ _ hm
 obtain⟨b1,u1,z1,ecs1,A1,s1⟩:=open_w enc W cs1 d1 p1 hcs1 h1 (fun n hn=>of_decide_eq_true (List.all_eq_true.1 hsz n (DataW.weights_mem_each (j:=1) (t:=27) rfl rfl n hn)))
 subst ecs1
 clear hA0 hval0
 refine (nS b0 u0 z0 b1 u1 z1 W hTab A0 s0 A1 s1).mono fun e W' ⟨he,bel⟩=>?_
 subst he
 exact⟨_,rfl,_,_,_,[],_,[],hW',trodAll_mk1 (shut_bool Tryz.underlying4 _),(trodAll_cons_mk (Below.trod laidOut (by kernel_rfl) (of_decide_eq_true (by kernel_rfl)) k0 bel lt0) (trodAll_cons_mk (Below.trod laidOut (by kernel_rfl) (of_decide_eq_true (by kernel_rfl)) k1 bel lt1) trodAll_mk0)),rfl,bel.frame _,fun h=>by cases h⟩

theorem over:Rows.wholeBezoutRow.holds Tryz.pinned (OpenSpec.ofChange Rows.wholeBezoutSpec):=
 OpenClaim.holds_of_wide 5 Tryz.f5 rfl rfl rfl rfl rfl rfl rfl ⟨rfl,rfl,rfl,rfl,rfl⟩ rfl rfl rfl rfl rfl (by kernel_rfl) Tryz.func5 (by kernel_rfl)
  (of_decide_eq_true (by kernel_rfl)) (by unfold Func.isWrapper;first | (rw [if_pos (by decide +kernel)];kernel_rfl) | (rw [if_neg (by decide +kernel)];exact⟨rfl,rfl⟩))
  (fun os started H enc _=>lifted os started H enc)

end wholeBezout

theorem wholeBezout_holds:Rows.WholeBezoutCardSaid:=
 Claim7.holds_tied_plain_at .later [] [.data,.data] true (true,"644ff31f23c8e4703e3737f8c67c29b3f88f3007f3ae26209a175105205a2de9") false wholeBezout.over (fun _ h=>by cases h) (by kernel_rfl) (fun _ h=>by cases h) wholeBezout_row_tie rfl ⟨rfl,rfl⟩ (by kernel_rfl) rfl
  (fun f fn hf hfn=>by
   obtain rfl:f=5:=Option.some.inj ((show Tryz.prog.funcNamed "surd/surdtop.WholeBezout"=some 5 by kernel_rfl).symm.trans hf) |>.symm
   obtain rfl:fn=Tryz.f5:=(Option.some.inj (Tryz.func5.symm.trans hfn)).symm
   exact⟨by kernel_rfl,fun j t ht=>by
    rw [Tryz.params5] at ht
    have hm:t ∈ ([27,27]:List TypeId):=by simpa using Array.mem_of_getElem? ht
    have hall:(([27,27]:List TypeId).all fun u=>!Tryz.prog.wantsStandIn u)=true:=by kernel_rfl
    exact (show Tryz.prog.wantsStandIn t=false by simpa using List.all_eq_true.1 hall t hm)⟩)
  (by kernel_rfl)
#print axioms wholeBezout_holds

end Go.Proofs.YtdbjbbdhlpfhjaaGreatDoor
