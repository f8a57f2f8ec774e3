/- For every input the law WholeRoots answers true, and each argument reads afterwards as it read before. No condition beyond the form's own reach (each slice at most 2^47 - 4096 bytes). -/
import Derived.Test.YtiagnfghnfhlnaaGreatDoorRows
import Derived.Test.YtiagnfghnfhlnaaGreatDoorB14
import Derived.ProofKit
import Derived.OpenShut
import Derived.ChangeOld
import Derived.Below
import Derived.SizedLaws
import Derived.ChangeSame
import Derived.Test.YtiagnfghnfhlnaaGreatDoorTie
import Derived.Test.YtiagnfghnfhlnaaGreatDoorCards
import Derived.Test.YtiagnfghnfhlnaaGreatDoorB15
import Derived.LaidMore
import Derived.Lay
import Derived.SevenTiedAt
import Derived.Stop.Joined
namespace Go.Proofs.YtiagnfghnfhlnaaGreatDoor
namespace wholeRoots
open Go.ChangeShapes Go.WideShapes Go.ChangeAt Go.RowKit

theorem own:ownKnob Tryz.prog.godebug=none:=by kernel_rfl

theorem laidOut:laidOutB Tryz.prog=true:=by kernel_rfl

theorem bytesU:Tryz.prog.bytesOf 33=8:=by kernel_rfl

theorem arg_of (W:World)(x:Addr)(l c:Nat)(zs:List Int)(hl:l≤c)(hm:c≤maxLen)(hz:zs.length=c)(hcell:∀i,i<zs.length→W.cell? (x.add i)=some (.int .u64 (zs.getD i 0)))(hwz:∀n ∈ zs,(Lit.int .u64 n).wf=true)(hs:c≤17592186043904) :
  ∃ys,Arg W (.slice (some x) l c) ys∧ys.length≤17592186043904:=by
 have hwf:∀i,0≤zs.getD i 0∧zs.getD i 0<18446744073709551616:=by
  intro i
  by_cases hi:i<zs.length
  ·have e:zs.getD i 0=zs[i]:=by simp [List.getD,hi]
   have hw:=bounds_u64 (hwz _ (List.getElem_mem hi))
   rw [e];omega
  ·have e:zs.getD i 0=0:=by simp [List.getD,Nat.le_of_not_lt hi]
   omega
 have hlen:((zs.take l).map Int.toNat).length=l:=by simp;omega
 have hget:∀i,i<l→(((((zs.take l).map Int.toNat).getD i 0:Nat)):Int)=zs.getD i 0:=by
  intro i hi
  have h1:((zs.take l).map Int.toNat).getD i 0=(zs.getD i 0).toNat:=by
   simp [List.getD,show i<zs.length by omega,hi]
  rw [h1];have:=hwf i;omega
 refine⟨(zs.take l).map Int.toNat,⟨⟨some x,c,by rw [hlen],by omega,by unfold maxLen at hm;omega,?_⟩,?_,by omega,fun n c e=>by cases e⟩,by omega⟩
 ·by_cases h0:l=0
  ·exact .inl (List.length_eq_zero_iff.1 (by omega))
  ·obtain⟨b,off,rfl,hc⟩:=ints_at hcell (by omega)
   refine .inr ⟨b,off,rfl,fun i hi=>?_⟩
   rw [hlen] at hi
   rw [hc i (by omega),hget i hi]
 ·intro z hz'
  obtain⟨n,hn,rfl⟩:=List.mem_map.1 hz'
  obtain⟨i,hi,rfl⟩:=List.getElem_of_mem (List.mem_of_mem_take hn)
  have:=hwf i
  have e:zs.getD i 0=zs[i]:=by simp [List.getD,hi]
  rw [e] at this;omega

theorem arg_nil (W:World):∃ys,Arg W (.slice none 0 0) ys∧ys.length≤17592186043904:=
 ⟨[],⟨⟨none,0,rfl,by simp,by simp,.inl rfl⟩,(by intro z hz;cases hz),by simp,fun n c e=>by cases e;rfl⟩,by simp⟩

set_option maxHeartbeats 4000000 in
set_option maxRecDepth 100000 in
theorem lifted (os:Os)(started:os.Started)(H:Type)(enc:TypeId × Value→H) :
  ReturnsInHanded {} Tryz.checked os 3 .any (fun w args=>(Rows.wholeRootsSpec.pre enc Tryz.prog Tryz.f3 Rows.wholeRootsRow.domain false w args∧laidMetH Tryz.prog cN w)∧sizedMet enc Tryz.prog Tryz.f3 (OpenSpec.ofChange Rows.wholeRootsSpec) false w args) (Rows.wholeRootsSpec.post enc Tryz.prog Tryz.f3 false true false false):=by
 refine returnsInHanded_of_change_and (C:=Tryz.checked) (X:=fun w _=>laidMetH Tryz.prog cN w) (fun _ _ _ hh h=>h.of_heap hh) own started (by kernel_rfl) Tryz.func3
  (ChangeSpec.witness_shaped (enc:=enc) (C:=Tryz.checked) (os:=os) (X:=fun w _=>laidMetH Tryz.prog cN w) false (World.laidAll Tryz.prog os cN) #[.slice none 0 0,.int .i64 0] 8 (World.laidAll_os _ _ _)
   (World.shaped_of_ZipB (by kernel_rfl) (by kernel_rfl)) (by kernel_rfl) (by kernel_rfl) (by kernel_rfl)
   (by rw [MakeChecks.laidMetH_plain _ _ _ (by kernel_rfl)];exact laidMet_laidAll _ (by kernel_rfl) (by kernel_rfl))) ?_
 intro W base args ds gs before hval0 hW _ hsz0 hL _
 have hTab:=lE hL
 have hval:∀(j:Nat) t v,Tryz.f3.params[j]?=some t→args[j]?=some v→Value.okWide Tryz.prog W .any base t v:=hval0
 have hsz:(DataW.weightsEach Tryz.prog (Tryz.f3.params.toList ++ Rows.wholeRootsSpec.plain.varTypes Tryz.prog) (ds ++ gs)).all (·≤reachBytes)=true:=hsz0
 clear hsz0
 have hW':=hW
 obtain⟨p,q,hA0,hV,rfl,_,_⟩:=hW
 have hA:DataW.TrodAll enc Tryz.prog W 0 (fun _=>true) true Tryz.f3.params.toList args.toList ds p:=hA0
 rw [Tryz.params3] at hA hval hsz
 obtain⟨v0,vs0,d0,ds0,p0,q0,hargs,rfl,rfl,h0,r0⟩:=trodAll_cons hA
 obtain⟨v1,vs1,d1,ds1,p1,q1,rfl,rfl,rfl,h1,r1⟩:=trodAll_cons r0
 obtain⟨rfl,rfl,rfl⟩:=trodAll_nil r1
 obtain rfl:args=#[v0,v1]:=by cases args;simp_all
 obtain⟨rfl,rfl⟩:=trodVars_none hV
 obtain⟨a0,len0,cap0,rfl⟩:=okWide_slice Tryz.underlying23 (hval 0 23 v0 rfl rfl)
 have k0:=h0
 have lt0:∀x ∈ p0,x.block<W.heap.size:=by obtain⟨m,hm⟩:=k0;exact DataW.trod_lt m _ _ _ hm
 obtain⟨z0,A0,s0⟩:∃zs,Arg W (.slice a0 len0 cap0) zs∧zs.length≤17592186043904:=by
  obtain⟨fuel,hf⟩:=h0
  rcases open_ints Tryz.underlying23 Tryz.underlying33 (by kernel_rfl) hf with ⟨hcs,_⟩|⟨x,l,c,zs,hcs,_,hl,hm,hz,hx,hcell,hwz⟩
  ·simp [Value.cells] at hcs
   obtain⟨rfl,rfl,rfl⟩:=hcs
   exact arg_nil W
  ·simp [Value.cells] at hcs
   obtain⟨rfl,rfl,rfl⟩:=hcs
   simp only [Prod.mk.injEq] at hx
   have hz':zs.length=cap0:=by simpa using hz
   have hd:=hx.1
   subst hd
   have:=sized_slice hsz (j:=0) (t:=23) (e:=33) rfl rfl Tryz.underlying23
   rw [bytesU] at this
   simp only [lits,List.length_map,List.length_take,List.length_drop,reachBytes] at this
   exact arg_of W x _ _ zs hl hm hz' hcell hwz (by omega)
 obtain⟨a1,rfl,rfl,rfl,w1⟩:=open_int Tryz.underlying3 (hval 1 3 v1 rfl rfl) h1
 have bd1:=bounds_i64 w1
 clear hA0 hval0
 refine (kA _ z0 a1 W hTab A0 s0 (by omega) (by omega)).mono fun e W' ⟨he,bel⟩=>?_
 subst he
 exact⟨_,rfl,_,_,_,[],_,[],hW',trodAll_mk1 (shut_bool Tryz.underlying4 _),(trodAll_cons_mk (Below.trod laidOut (by kernel_rfl) (of_decide_eq_true (by kernel_rfl)) k0 bel lt0) (trodAll_cons_mk (shut_int Tryz.underlying3 w1) trodAll_mk0)),rfl,bel.frame _,fun h=>by cases h⟩

theorem over:Rows.wholeRootsRow.holds Tryz.pinned (OpenSpec.ofChange Rows.wholeRootsSpec):=
 OpenClaim.holds_of_wide 3 Tryz.f3 rfl rfl rfl rfl rfl rfl rfl ⟨rfl,rfl,rfl,rfl,rfl⟩ rfl rfl rfl rfl rfl (by kernel_rfl) Tryz.func3 (by kernel_rfl)
  (of_decide_eq_true (by kernel_rfl)) (by unfold Func.isWrapper;first | (rw [if_pos (by decide +kernel)];kernel_rfl) | (rw [if_neg (by decide +kernel)];exact⟨rfl,rfl⟩))
  (fun os started H enc _=>lifted os started H enc)

end wholeRoots

theorem wholeRoots_holds:Rows.WholeRootsCardSaid:=
 Claim7.holds_tied_plain_at .later [] [.data,.data] true (true,"c87b5df5558c8b2b5873faceaf714e07430b48fddd9dcdd88ee871416ff0a597") false wholeRoots.over (fun _ h=>by cases h) (by kernel_rfl) (fun _ h=>by cases h) wholeRoots_row_tie rfl ⟨rfl,rfl⟩ (by kernel_rfl) rfl
  (fun f fn hf hfn=>by
   obtain rfl:f=3:=Option.some.inj ((show Tryz.prog.funcNamed "surd/surdtop.WholeRoots"=some 3 by kernel_rfl).symm.trans hf) |>.symm
   obtain rfl:fn=Tryz.f3:=(Option.some.inj (Tryz.func3.symm.trans hfn)).symm
   exact⟨by kernel_rfl,fun j t ht=>by
    rw [Tryz.params3] at ht
    have hm:t ∈ ([23,3]:List TypeId):=by simpa using Array.mem_of_getElem? ht
    have hall:(([23,3]:List TypeId).all fun u=>!Tryz.prog.wantsStandIn u)=true:=by kernel_rfl
    exact (show Tryz.prog.wantsStandIn t=false by simpa using List.all_eq_true.1 hall t hm)⟩)
  (by kernel_rfl)
#print axioms wholeRoots_holds

end Go.Proofs.YtiagnfghnfhlnaaGreatDoor
