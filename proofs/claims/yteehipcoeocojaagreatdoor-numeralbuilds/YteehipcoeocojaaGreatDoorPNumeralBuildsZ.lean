/- For every input the law NumeralBuilds answers true, and each argument reads afterwards as it read before. No condition beyond the form's own reach (each slice at most 2^47 - 4096 bytes). -/
import Derived.Test.YteehipcoeocojaaGreatDoorRows
import Derived.Test.YteehipcoeocojaaGreatDoorB10
import Derived.ProofKit
import Derived.OpenShut
import Derived.ChangeOld
import Derived.Below
import Derived.SizedLaws
import Derived.ChangeSame
import Derived.Test.YteehipcoeocojaaGreatDoorTie
import Derived.Test.YteehipcoeocojaaGreatDoorCards
import Derived.Test.YteehipcoeocojaaGreatDoorB11
import Derived.LaidMore
import Derived.Lay
import Derived.SevenTiedAt
import Derived.Stop.Joined
namespace Go.Proofs.YteehipcoeocojaaGreatDoor
namespace numeralBuilds
open Go.ChangeShapes Go.WideShapes Go.ChangeAt Go.RowKit

theorem own:ownKnob Tryz.prog.godebug=none:=by kernel_rfl
theorem laidOut:laidOutB Tryz.prog=true:=by kernel_rfl
theorem bytesI:Tryz.prog.bytesOf 3=8:=by kernel_rfl

theorem irz_of (W:World)(x:Addr)(l c:Nat)(zs:List Int)(hl:l≤c)(hm:c≤maxLen)(hz:zs.length=c)(hcell:∀i,i<zs.length→W.cell? (x.add i)=some (.int .i64 (zs.getD i 0)))(hwz:∀n ∈ zs,(Lit.int .i64 n).wf=true)(hs:c≤17592186043904) :
  ∃L,IRz W (.slice (some x) l c) L∧(∀n c',Value.slice (some x) l c=.slice none n c'→c'=0)∧L.length≤17592186043904:=by
 have hlen:(zs.take l).length=l:=by simp;omega
 have hget:∀i,i<l→(zs.take l).getD i 0=zs.getD i 0:=by
  intro i hi
  simp [List.getD,hi]
 refine⟨zs.take l,⟨some x,c,by rw [hlen],by omega,by unfold maxLen at hm;omega,fun i=>?_,?_⟩,fun n c e=>(by cases e),by omega⟩
 ·by_cases hi:i<l
  ·rw [hget i hi]
   have e:zs.getD i 0=zs[i]:=by simp [List.getD,show i<zs.length by omega]
   have hw:=bounds_i64 (hwz _ (List.getElem_mem (show i<zs.length by omega)))
   rw [e];omega
  ·have e:(zs.take l).getD i 0=0:=by
    rw [List.getD,List.getElem?_eq_none (by omega)];rfl
   omega
 ·by_cases h0:l=0
  ·exact .inl (List.length_eq_zero_iff.1 (by omega))
  ·obtain⟨b,off,rfl,hc⟩:=ints_at hcell (by omega)
   refine .inr ⟨b,off,rfl,?_,fun i hi=>?_⟩
   ·have h:=hc 0 (by omega)
    rcases Nat.lt_or_ge b W.heap.size with h' | h'
    ·exact h'
    ·simp [World.cell?,Array.getElem?_eq_none h'] at h
   ·rw [hlen] at hi
    rw [hc i (by omega),hget i hi]

set_option maxHeartbeats 4000000 in
set_option maxRecDepth 100000 in
theorem lifted (os:Os)(started:os.Started)(H:Type)(enc:TypeId × Value→H) :
  ReturnsInHanded {} Tryz.checked os 5 .any (fun w args=>(Rows.numeralBuildsSpec.pre enc Tryz.prog Tryz.f5 Rows.numeralBuildsRow.domain false w args∧laidMetH Tryz.prog bI w)∧sizedMet enc Tryz.prog Tryz.f5 (OpenSpec.ofChange Rows.numeralBuildsSpec) false w args) (Rows.numeralBuildsSpec.post enc Tryz.prog Tryz.f5 false true false false):=by
 refine returnsInHanded_of_change_and (C:=Tryz.checked) (X:=fun w _=>laidMetH Tryz.prog bI w) (fun _ _ _ hh h=>h.of_heap hh) own started (by kernel_rfl) Tryz.func5
  (ChangeSpec.witness_shaped (enc:=enc) (C:=Tryz.checked) (os:=os) (X:=fun w _=>laidMetH Tryz.prog bI w) false (World.laidAll Tryz.prog os bI) #[.int .i64 0,.slice none 0 0] 8 (World.laidAll_os _ _ _)
   (World.shaped_of_ZipB (by kernel_rfl) (by kernel_rfl)) (by kernel_rfl) (by kernel_rfl) (by kernel_rfl)
   (by rw [MakeChecks.laidMetH_plain _ _ _ (by kernel_rfl)];exact laidMet_laidAll _ (by kernel_rfl) (by kernel_rfl))) ?_
 intro W base args ds gs before hval0 hW _ hsz0 hL _
 have hTab:=iL hL
 have hval:∀(j:Nat) t v,Tryz.f5.params[j]?=some t→args[j]?=some v→Value.okWide Tryz.prog W .any base t v:=hval0
 have hsz:(DataW.weightsEach Tryz.prog (Tryz.f5.params.toList ++ Rows.numeralBuildsSpec.plain.varTypes Tryz.prog) (ds ++ gs)).all (·≤reachBytes)=true:=hsz0
 clear hsz0
 have hW':=hW
 obtain⟨p,q,hA0,hV,rfl,_,_⟩:=hW
 have hA:DataW.TrodAll enc Tryz.prog W 0 (fun _=>true) true Tryz.f5.params.toList args.toList ds p:=hA0
 rw [Tryz.params5] at hA hval hsz
 obtain⟨v0,vs0,d0,ds0,p0,q0,hargs,rfl,rfl,h0,r0⟩:=trodAll_cons hA
 obtain⟨v1,vs1,d1,ds1,p1,q1,rfl,rfl,rfl,h1,r1⟩:=trodAll_cons r0
 obtain⟨rfl,rfl,rfl⟩:=trodAll_nil r1
 obtain rfl:args=#[v0,v1]:=by cases args;simp_all
 obtain⟨rfl,rfl⟩:=trodVars_none hV
 obtain⟨a0,rfl,rfl,rfl,w0⟩:=open_int Tryz.underlying3 (hval 0 3 v0 rfl rfl) h0
 have bd0:=bounds_i64 w0
 obtain⟨a1,len1,cap1,rfl⟩:=okWide_slice Tryz.underlying33 (hval 1 33 v1 rfl rfl)
 have k1:=h1
 have lt1:∀x ∈ p1,x.block<W.heap.size:=by obtain⟨m,hm⟩:=k1;exact DataW.trod_lt m _ _ _ hm
 obtain⟨z1,A1,N1,s1⟩:∃L,IRz W (.slice a1 len1 cap1) L∧(∀n c',Value.slice a1 len1 cap1=.slice none n c'→c'=0)∧L.length≤17592186043904:=by
  obtain⟨fuel,hf⟩:=h1
  rcases open_ints Tryz.underlying33 Tryz.underlying3 (by kernel_rfl) hf with ⟨hcs,_⟩|⟨x,l,c,zs,hcs,_,hl,hm,hz,hx,hcell,hwz⟩
  ·simp [Value.cells] at hcs
   obtain⟨rfl,rfl,rfl⟩:=hcs
   exact⟨[],⟨none,0,rfl,Nat.le_refl _,by omega,fun i=>by simp [List.getD],.inl rfl⟩,fun n c' e=>(by cases e;rfl),by simp⟩
  ·simp [Value.cells] at hcs
   obtain⟨rfl,rfl,rfl⟩:=hcs
   simp only [Prod.mk.injEq] at hx
   have hz':zs.length=cap1:=by simpa using hz
   have hd:=hx.1
   subst hd
   have:=sized_slice hsz (j:=1) (t:=33) (e:=3) rfl rfl Tryz.underlying33
   rw [bytesI] at this
   simp only [lits,List.length_map,List.length_take,List.length_drop,reachBytes] at this
   exact irz_of W x _ _ zs hl hm hz' hcell hwz (by omega)
 clear hA0 hval0
 refine (fM a0 _ z1 W hTab (by omega) (by omega) A1 N1 s1).mono fun e W' ⟨he,bel⟩=>?_
 subst he
 exact⟨_,rfl,_,_,_,[],_,[],hW',trodAll_mk1 (shut_bool Tryz.underlying4 _),(trodAll_cons_mk (shut_int Tryz.underlying3 w0) (trodAll_cons_mk (Below.trod laidOut (by kernel_rfl) (of_decide_eq_true (by kernel_rfl)) k1 bel lt1) trodAll_mk0)),rfl,bel.frame _,fun h=>by cases h⟩

theorem over:Rows.numeralBuildsRow.holds Tryz.pinned (OpenSpec.ofChange Rows.numeralBuildsSpec):=
 OpenClaim.holds_of_wide 5 Tryz.f5 rfl rfl rfl rfl rfl rfl rfl ⟨rfl,rfl,rfl,rfl,rfl⟩ rfl rfl rfl rfl rfl (by kernel_rfl) Tryz.func5 (by kernel_rfl)
  (of_decide_eq_true (by kernel_rfl)) (by unfold Func.isWrapper;first | (rw [if_pos (by decide +kernel)];kernel_rfl) | (rw [if_neg (by decide +kernel)];exact⟨rfl,rfl⟩))
  (fun os started H enc _=>lifted os started H enc)

end numeralBuilds

theorem numeralBuilds_holds:Rows.NumeralBuildsCardSaid:=
 Claim7.holds_tied_plain_at .later [] [.data,.data] true (true,"5eaba4d7958c12d1827c094dad15601b39a233013159722578292a79aa91fbf1") false numeralBuilds.over (fun _ h=>by cases h) (by kernel_rfl) (fun _ h=>by cases h) numeralBuilds_row_tie rfl ⟨rfl,rfl⟩ (by kernel_rfl) rfl
  (fun f fn hf hfn=>by
   obtain rfl:f=5:=Option.some.inj ((show Tryz.prog.funcNamed "surd/surdlaw05.NumeralBuilds"=some 5 by kernel_rfl).symm.trans hf) |>.symm
   obtain rfl:fn=Tryz.f5:=(Option.some.inj (Tryz.func5.symm.trans hfn)).symm
   exact⟨by kernel_rfl,fun j t ht=>by
    rw [Tryz.params5] at ht
    have hm:t ∈ ([3,33]:List TypeId):=by simpa using Array.mem_of_getElem? ht
    have hall:(([3,33]:List TypeId).all fun u=>!Tryz.prog.wantsStandIn u)=true:=by kernel_rfl
    exact (show Tryz.prog.wantsStandIn t=false by simpa using List.all_eq_true.1 hall t hm)⟩)
  (by kernel_rfl)
#print axioms numeralBuilds_holds

end Go.Proofs.YteehipcoeocojaaGreatDoor
