/- For every input the law WholeBits answers true, and each argument reads afterwards as it read before. No condition beyond the form's own reach (each slice at most 2^47 - 4096 bytes). -/
import Derived.Test.YtcbpdngogkbndaaGreatDoorRows
import Derived.Test.YtcbpdngogkbndaaGreatDoorB14
import Derived.ProofKit
import Derived.OpenShut
import Derived.ChangeOld
import Derived.Below
import Derived.SizedLaws
import Derived.ChangeSame
import Derived.Test.YtcbpdngogkbndaaGreatDoorTie
import Derived.Test.YtcbpdngogkbndaaGreatDoorCards
import Derived.Test.YtcbpdngogkbndaaGreatDoorB15
import Derived.LaidMore
import Derived.Lay
import Derived.SevenTiedAt
import Derived.Stop.Joined
namespace Go.Proofs.YtcbpdngogkbndaaGreatDoor
namespace wholeBits
open Go.ChangeShapes Go.WideShapes Go.ChangeAt Go.RowKit

theorem own:ownKnob Tryz.prog.godebug=none:=by kernel_rfl

theorem laidOut:laidOutB Tryz.prog=true:=by kernel_rfl

theorem bytesU:Tryz.prog.bytesOf 60=8:=by kernel_rfl

theorem arg_of (W:World)(x:Addr)(l c:Nat)(zs:List Int)(hl:l≤c)(hm:c≤maxLen)(hz:zs.length=c)(hcell:∀i,i<zs.length→W.cell? (x.add i)=some (.int .u64 (zs.getD i 0)))(hwz:∀n ∈ zs,(Lit.int .u64 n).wf=true)(hs:c≤17592186043904) :
  ∃ys,Arg W (.slice (some x) l c) ys∧ys.length≤17592186043904:=by
 have hwf:∀i,0≤zs.getD i 0∧zs.getD i 0<18446744073709551616:=by
  intro i
  by_cases hi:i<zs.length
  ·have e:zs.getD i 0=zs[i]:=by simp [List.getD,hi]
   have hw:=bounds_u64 (hwz _ (List.getElem_mem hi))
   rw [e];omega
  ·have e:zs.getD i 0=0:=by simp [List.getD,Nat.le_of_not_lt hi]
   omega
 have hlen:((zs.take l).map Int.toNat).length=l:=by simp;omega
 have hget:∀i,i<l→(((((zs.take l).map Int.toNat).getD i 0:Nat)):Int)=zs.getD i 0:=by
  intro i hi
  have h1:((zs.take l).map Int.toNat).getD i 0=(zs.getD i 0).toNat:=by
   simp [List.getD,show i<zs.length by omega,hi]
  rw [h1];have:=hwf i;omega
 refine⟨(zs.take l).map Int.toNat,⟨⟨some x,c,by rw [hlen],by omega,by unfold maxLen at hm;omega,?_⟩,?_,by omega,fun n c e=>by cases e⟩,by omega⟩
 ·by_cases h0:l=0
  ·exact .inl (List.length_eq_zero_iff.1 (by omega))
  ·obtain⟨b,off,rfl,hc⟩:=ints_at hcell (by omega)
   refine .inr ⟨b,off,rfl,fun i hi=>?_⟩
   rw [hlen] at hi
   rw [hc i (by omega),hget i hi]
 ·intro z hz'
  obtain⟨n,hn,rfl⟩:=List.mem_map.1 hz'
  obtain⟨i,hi,rfl⟩:=List.getElem_of_mem (List.mem_of_mem_take hn)
  have:=hwf i
  have e:zs.getD i 0=zs[i]:=by simp [List.getD,hi]
  rw [e] at this;omega

theorem arg_nil (W:World):∃ys,Arg W (.slice none 0 0) ys∧ys.length≤17592186043904:=
 ⟨[],⟨⟨none,0,rfl,by simp,by simp,.inl rfl⟩,(by intro z hz;cases hz),by simp,fun n c e=>by cases e;rfl⟩,by simp⟩

theorem cellsW:Tryz.prog.cellsOf 24=2:=by kernel_rfl

theorem cellsB:Tryz.prog.cellsOf 4=1:=by kernel_rfl

theorem cellsL:Tryz.prog.cellsOf 22=1:=by kernel_rfl

theorem open_w {H:Type}(enc:TypeId × Value→H)(W:World)(cs:Array Value)(d:DataW H)(p:List MemPlace)(hcs:cs.size=2)(h:DataW.Trod enc Tryz.prog W 0 (fun _=>true) true 24 (.agg cs) d p)(hs:∀n ∈ DataW.weights Tryz.prog 24 d,n≤reachBytes) :
  ∃(b:Bool) (u:Value) (zs:List Nat),cs=#[.bool b,u]∧Arg W u zs∧zs.length≤17592186043904:=by
 obtain⟨c0,c1,rfl⟩:∃c0 c1,cs=#[c0,c1]:=by
  obtain⟨l⟩:=cs
  match l,hcs with
  | [c0,c1],_=>exact⟨c0,c1,rfl⟩
 obtain⟨fuel,hf⟩:=h
 obtain⟨y0,y1,m,hx,_,hy0,hy1⟩:=trod_struct2 Tryz.underlying24 hf
 obtain⟨b,e0,e1⟩:=DataW.trod_bool Tryz.underlying4 hy0
 simp [Value.cells,cellsB] at e0
 subst e0
 simp only [Prod.mk.injEq] at hx
 have hd:=hx.1
 rcases open_ints Tryz.underlying22 Tryz.underlying60 (by kernel_rfl) hy1 with ⟨hc,_⟩|⟨x,l,c,zs,hc,_,hl,hm,hz,hx1,hcell,hwz⟩
 ·simp [Value.cells,cellsL] at hc
  subst hc
  obtain⟨ys,h1,h2⟩:=arg_nil W
  exact⟨b,_,ys,rfl,h1,h2⟩
 ·simp [Value.cells,cellsL] at hc
  subst hc
  have hz':zs.length=c:=by simpa using hz
  rw [hx1] at hd
  subst hd
  have hsw:=hs (((zs.take l).length+(zs.drop l).length)*Tryz.prog.bytesOf 60) (by simp [DataW.weights,DataW.weightsEach,Tryz.underlying24,Tryz.underlying22,lits])
  rw [bytesU] at hsw
  simp only [List.length_take,List.length_drop,reachBytes] at hsw
  obtain⟨ys,h1,h2⟩:=arg_of W x l c zs hl hm hz' hcell hwz (by omega)
  exact⟨b,_,ys,rfl,h1,h2⟩

set_option maxHeartbeats 4000000 in
set_option maxRecDepth 100000 in
theorem lifted (os:Os)(started:os.Started)(H:Type)(enc:TypeId × Value→H) :
  ReturnsInHanded {} Tryz.checked os 3 .any (fun w args=>(Rows.wholeBitsSpec.pre enc Tryz.prog Tryz.f3 Rows.wholeBitsRow.domain false w args∧laidMetH Tryz.prog dm w)∧sizedMet enc Tryz.prog Tryz.f3 (OpenSpec.ofChange Rows.wholeBitsSpec) false w args) (Rows.wholeBitsSpec.post enc Tryz.prog Tryz.f3 false true false false):=by
 refine returnsInHanded_of_change_and (C:=Tryz.checked) (X:=fun w _=>laidMetH Tryz.prog dm w) (fun _ _ _ hh h=>h.of_heap hh) own started (by kernel_rfl) Tryz.func3
  (ChangeSpec.witness_shaped (enc:=enc) (C:=Tryz.checked) (os:=os) (X:=fun w _=>laidMetH Tryz.prog dm w) false (World.laidAll Tryz.prog os dm) #[.agg #[.bool false,.slice none 0 0],.agg #[.bool false,.slice none 0 0],.int .i64 0] 8 (World.laidAll_os _ _ _)
   (World.shaped_of_ZipB (by kernel_rfl) (by kernel_rfl)) (by kernel_rfl) (by kernel_rfl) (by kernel_rfl)
   (by rw [MakeChecks.laidMetH_plain _ _ _ (by kernel_rfl)];exact laidMet_laidAll _ (by kernel_rfl) (by kernel_rfl))) ?_
 intro W base args ds gs before hval0 hW _ hsz0 hL _
 have hTab:=mM hL
 have hval:∀(j:Nat) t v,Tryz.f3.params[j]?=some t→args[j]?=some v→Value.okWide Tryz.prog W .any base t v:=hval0
 have hsz:(DataW.weightsEach Tryz.prog (Tryz.f3.params.toList ++ Rows.wholeBitsSpec.plain.varTypes Tryz.prog) (ds ++ gs)).all (·≤reachBytes)=true:=hsz0
 clear hsz0
 have hW':=hW
 obtain⟨p,q,hA0,hV,rfl,_,_⟩:=hW
 have hA:DataW.TrodAll enc Tryz.prog W 0 (fun _=>true) true Tryz.f3.params.toList args.toList ds p:=hA0
 rw [Tryz.params3] at hA hval hsz
 obtain⟨v0,vs0,d0,ds0,p0,q0,hargs,rfl,rfl,h0,r0⟩:=trodAll_cons hA
 obtain⟨v1,vs1,d1,ds1,p1,q1,rfl,rfl,rfl,h1,r1⟩:=trodAll_cons r0
 obtain⟨v2,vs2,d2,ds2,p2,q2,rfl,rfl,rfl,h2,r2⟩:=trodAll_cons r1
 obtain⟨rfl,rfl,rfl⟩:=trodAll_nil r2
 obtain rfl:args=#[v0,v1,v2]:=by cases args;simp_all
 obtain⟨rfl,rfl⟩:=trodVars_none hV
 obtain⟨cs0,rfl,hcs0⟩:=okWide_struct Tryz.underlying24 (hval 0 24 v0 rfl rfl)
 rw [cellsW] at hcs0
 have k0:=h0
 have lt0:∀x ∈ p0,x.block<W.heap.size:=by obtain⟨m,hm⟩:=k0;exact DataW.trod_lt m _ _ _ hm
 obtain⟨b0,u0,z0,ecs0,A0,s0⟩:=open_w enc W cs0 d0 p0 hcs0 h0 (fun n hn=>of_decide_eq_true (List.all_eq_true.1 hsz n (DataW.weights_mem_each (j:=0) (t:=24) rfl rfl n hn)))
 subst ecs0
 obtain⟨cs1,rfl,hcs1⟩:=okWide_struct Tryz.underlying24 (hval 1 24 v1 rfl rfl)
 rw [cellsW] at hcs1
 have k1:=h1
 have lt1:∀x ∈ p1,x.block<W.heap.size:=by obtain⟨m,hm⟩:=k1;exact DataW.trod_lt m _ _ _ hm
 obtain⟨b1,u1,z1,ecs1,A1,s1⟩:=open_w enc W cs1 d1 p1 hcs1 h1 (fun n hn=>of_decide_eq_true (List.all_eq_true.1 hsz n (DataW.weights_mem_each (j:=1) (t:=24) rfl rfl n hn)))
 subst ecs1
 obtain⟨a2,rfl,rfl,rfl,w2⟩:=open_int Tryz.underlying3 (hval 2 3 v2 rfl rfl) h2
 have bd2:=bounds_i64 w2
 clear hA0 hval0
 refine (nT b0 u0 z0 b1 u1 z1 a2 W hTab A0 s0 A1 s1 (by omega) (by omega)).mono fun e W' ⟨he,bel⟩=>?_
 subst he
 exact⟨_,rfl,_,_,_,[],_,[],hW',trodAll_mk1 (shut_bool Tryz.underlying4 _),(trodAll_cons_mk (Below.trod laidOut (by kernel_rfl) (of_decide_eq_true (by kernel_rfl)) k0 bel lt0) (trodAll_cons_mk (Below.trod laidOut (by kernel_rfl) (of_decide_eq_true (by kernel_rfl)) k1 bel lt1) (trodAll_cons_mk (shut_int Tryz.underlying3 w2) trodAll_mk0))),rfl,bel.frame _,fun h=>by cases h⟩

theorem over:Rows.wholeBitsRow.holds Tryz.pinned (OpenSpec.ofChange Rows.wholeBitsSpec):=
 OpenClaim.holds_of_wide 3 Tryz.f3 rfl rfl rfl rfl rfl rfl rfl ⟨rfl,rfl,rfl,rfl,rfl⟩ rfl rfl rfl rfl rfl (by kernel_rfl) Tryz.func3 (by kernel_rfl)
  (of_decide_eq_true (by kernel_rfl)) (by unfold Func.isWrapper;first | (rw [if_pos (by decide +kernel)];kernel_rfl) | (rw [if_neg (by decide +kernel)];exact⟨rfl,rfl⟩))
  (fun os started H enc _=>lifted os started H enc)

end wholeBits

theorem wholeBits_holds:Rows.WholeBitsCardSaid:=
 Claim7.holds_tied_plain_at .later [] [.data] true (true,"276edb75e84015a8c032542476980e6cc33c97fd4f83c3357ed9b04aa21028a4") false wholeBits.over (fun _ h=>by cases h) (by kernel_rfl) (fun _ h=>by cases h) wholeBits_row_tie rfl ⟨rfl,rfl⟩ (by kernel_rfl) rfl
  (fun f fn hf hfn=>by
   obtain rfl:f=3:=Option.some.inj ((show Tryz.prog.funcNamed "surd/surdlaw06.WholeBits"=some 3 by kernel_rfl).symm.trans hf) |>.symm
   obtain rfl:fn=Tryz.f3:=(Option.some.inj (Tryz.func3.symm.trans hfn)).symm
   exact⟨by kernel_rfl,fun j t ht=>by
    rw [Tryz.params3] at ht
    have hm:t ∈ ([24,24,3]:List TypeId):=by simpa using Array.mem_of_getElem? ht
    have hall:(([24,24,3]:List TypeId).all fun u=>!Tryz.prog.wantsStandIn u)=true:=by kernel_rfl
    exact (show Tryz.prog.wantsStandIn t=false by simpa using List.all_eq_true.1 hall t hm)⟩)
  (by kernel_rfl)
#print axioms wholeBits_holds

end Go.Proofs.YtcbpdngogkbndaaGreatDoor
