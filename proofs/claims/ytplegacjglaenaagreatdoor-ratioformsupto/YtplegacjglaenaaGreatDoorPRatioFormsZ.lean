/- For every input of bulk at most 1048576 the law RatioForms answers true, and each argument reads afterwards as it read before. -/
import Derived.Test.YtplegacjglaenaaGreatDoorRows
import Derived.Test.YtplegacjglaenaaGreatDoorB20
import Derived.ProofKit
import Derived.OpenShut
import Derived.ChangeOld
import Derived.Below
import Derived.SizedLaws
import Derived.ChangeSame
import Derived.Test.YtplegacjglaenaaGreatDoorTie
import Derived.Test.YtplegacjglaenaaGreatDoorCards
import Derived.Test.YtplegacjglaenaaGreatDoorB21
import Derived.LaidMore
import Derived.Lay
import Derived.SevenTiedAt
import Derived.Stop.Joined
import Derived.Deep.DeepHandedRow
import Derived.Lib.LaidTab
namespace Go.Proofs.YtplegacjglaenaaGreatDoor
namespace ratioForms
open Go.ChangeShapes Go.WideShapes Go.ChangeAt Go.RowKit

theorem own:ownKnob Tryz.prog.godebug=none:=by kernel_rfl

theorem laidOut:laidOutB Tryz.prog=true:=by kernel_rfl

theorem bulk_one {H:Type}(d:DataW H):1≤Rows.uptoBulk d:=by
 cases d with
 | lit l=>cases l <;> simp [Rows.uptoBulk]
 | nil=>simp [Rows.uptoBulk]
 | ptr d=>simp [Rows.uptoBulk]
 | slice elems spare=>simp [Rows.uptoBulk]
 | agg parts=>simp [Rows.uptoBulk]
 | iface t d=>simp [Rows.uptoBulk]
 | map entries=>simp [Rows.uptoBulk]
 | held h=>simp [Rows.uptoBulk]

theorem bulk_part {H:Type}{d:DataW H}{l:List (DataW H)}(h:d ∈ l):Rows.uptoBulk d≤Rows.uptoBulkAll l:=by
 induction l with
 | nil=>cases h
 | cons x r ih=>
  simp only [Rows.uptoBulkAll]
  cases List.mem_cons.1 h with
  | inl e=>subst e;omega
  | inr e=>have:=ih e;omega

theorem bulk_len {H:Type}(l:List (DataW H)):l.length≤Rows.uptoBulkAll l:=by
 induction l with
 | nil=>simp [Rows.uptoBulkAll]
 | cons x r ih=>have:=bulk_one x;simp only [Rows.uptoBulkAll,List.length_cons];omega

theorem bulk_slice {H:Type}(elems spare:List (DataW H)):elems.length+spare.length+1≤Rows.uptoBulk (.slice elems spare):=by
 have h1:=bulk_len elems
 have h2:=bulk_len spare
 simp only [Rows.uptoBulk]
 omega

theorem arg_of (W:World)(x:Addr)(l c:Nat)(zs:List Int)(hl:l≤c)(hm:c≤maxLen)(hz:zs.length=c)(hcell:∀i,i<zs.length→W.cell? (x.add i)=some (.int .u64 (zs.getD i 0)))(hwz:∀n ∈ zs,(Lit.int .u64 n).wf=true)(hs:c≤1048576) :
  ∃ys,Arg W (.slice (some x) l c) ys∧ys.length≤1048576:=by
 have hwf:∀i,0≤zs.getD i 0∧zs.getD i 0<18446744073709551616:=by
  intro i
  by_cases hi:i<zs.length
  ·have e:zs.getD i 0=zs[i]:=by simp [List.getD,hi]
   have hw:=bounds_u64 (hwz _ (List.getElem_mem hi))
   rw [e];omega
  ·have e:zs.getD i 0=0:=by simp [List.getD,Nat.le_of_not_lt hi]
   omega
 have hlen:((zs.take l).map Int.toNat).length=l:=by simp;omega
 have hget:∀i,i<l→(((((zs.take l).map Int.toNat).getD i 0:Nat)):Int)=zs.getD i 0:=by
  intro i hi
  have h1:((zs.take l).map Int.toNat).getD i 0=(zs.getD i 0).toNat:=by
   simp [List.getD,show i<zs.length by omega,hi]
  rw [h1];have:=hwf i;omega
 refine⟨(zs.take l).map Int.toNat,⟨⟨some x,c,by rw [hlen],by omega,by unfold maxLen at hm;omega,?_⟩,?_,by omega,fun n c e=>by cases e⟩,by omega⟩
 ·by_cases h0:l=0
  ·exact .inl (List.length_eq_zero_iff.1 (by omega))
  ·obtain⟨b,off,rfl,hc⟩:=ints_at hcell (by omega)
   refine .inr ⟨b,off,rfl,fun i hi=>?_⟩
   rw [hlen] at hi
   rw [hc i (by omega),hget i hi]
 ·intro z hz'
  obtain⟨n,hn,rfl⟩:=List.mem_map.1 hz'
  obtain⟨i,hi,rfl⟩:=List.getElem_of_mem (List.mem_of_mem_take hn)
  have:=hwf i
  have e:zs.getD i 0=zs[i]:=by simp [List.getD,hi]
  rw [e] at this;omega

theorem arg_nil (W:World):∃ys,Arg W (.slice none 0 0) ys∧ys.length≤1048576:=
 ⟨[],⟨⟨none,0,rfl,by simp,by simp,.inl rfl⟩,(by intro z hz;cases hz),by simp,fun n c e=>by cases e;rfl⟩,by simp⟩

theorem cellsW:Tryz.prog.cellsOf 26=2:=by kernel_rfl

theorem cellsB:Tryz.prog.cellsOf 4=1:=by kernel_rfl

theorem cellsL:Tryz.prog.cellsOf 24=1:=by kernel_rfl

theorem bulk_agg {H:Type}(a b:DataW H):Rows.uptoBulk b≤Rows.uptoBulk (.agg [a,b]):=by
 simp only [Rows.uptoBulk,Rows.uptoBulkAll]
 omega

theorem open_w {H:Type}(enc:TypeId × Value→H)(W:World)(cs:Array Value)(d:DataW H)(p:List MemPlace)(hcs:cs.size=2)(h:DataW.Trod enc Tryz.prog W 0 (fun _=>true) true 26 (.agg cs) d p)(hs:Rows.uptoBulk d≤1048576) :
  ∃(b:Bool) (u:Value) (zs:List Nat),cs=#[.bool b,u]∧Arg W u zs∧zs.length≤1048576:=by
 obtain⟨c0,c1,rfl⟩:∃c0 c1,cs=#[c0,c1]:=by
  obtain⟨l⟩:=cs
  match l,hcs with
  | [c0,c1],_=>exact⟨c0,c1,rfl⟩
 obtain⟨fuel,hf⟩:=h
 obtain⟨y0,y1,m,hx,_,hy0,hy1⟩:=trod_struct2 Tryz.underlying26 hf
 obtain⟨b,e0,e1⟩:=DataW.trod_bool Tryz.underlying4 hy0
 simp [Value.cells,cellsB] at e0
 subst e0
 simp only [Prod.mk.injEq] at hx
 have hd:=hx.1
 rcases open_ints Tryz.underlying24 Tryz.underlying51 (by kernel_rfl) hy1 with ⟨hc,_⟩|⟨x,l,c,zs,hc,_,hl,hm,hz,hx1,hcell,hwz⟩
 ·simp [Value.cells,cellsL] at hc
  subst hc
  obtain⟨ys,h1,h2⟩:=arg_nil W
  exact⟨b,_,ys,rfl,h1,h2⟩
 ·simp [Value.cells,cellsL] at hc
  subst hc
  have hz':zs.length=c:=by simpa using hz
  rw [hx1] at hd
  subst hd
  have hb:=Nat.le_trans (bulk_slice _ _) (Nat.le_trans (bulk_agg _ _) hs)
  simp only [lits,List.length_map,List.length_take,List.length_drop] at hb
  obtain⟨ys,h1,h2⟩:=arg_of W x l c zs hl hm hz' hcell hwz (by omega)
  exact⟨b,_,ys,rfl,h1,h2⟩

theorem cellsR:Tryz.prog.cellsOf 28=3:=by kernel_rfl

theorem bulk_r1 {H:Type}(a b:DataW H):Rows.uptoBulk a≤Rows.uptoBulk (.agg [a,b]):=by
 simp only [Rows.uptoBulk,Rows.uptoBulkAll]
 omega

theorem open_r {H:Type}(enc:TypeId × Value→H)(W:World)(cs:Array Value)(d:DataW H)(p:List MemPlace)(hcs:cs.size=3)(h:DataW.Trod enc Tryz.prog W 0 (fun _=>true) true 28 (.agg cs) d p)(hs:Rows.uptoBulk d≤1048576) :
  ∃(b:Bool) (u:Value) (zs:List Nat) (x:Value) (ys:List Nat),cs=#[.bool b,u,x]∧(Arg W u zs∧zs.length≤1048576)∧Arg W x ys∧ys.length≤1048576:=by
 obtain⟨c0,c1,c2,rfl⟩:∃c0 c1 c2,cs=#[c0,c1,c2]:=by
  obtain⟨l⟩:=cs
  match l,hcs with
  | [c0,c1,c2],_=>exact⟨c0,c1,c2,rfl⟩
 obtain⟨fuel,hf⟩:=h
 obtain⟨y0,y1,m,hx,_,hy0,hy1⟩:=trod_struct2 Tryz.underlying28 hf
 simp only [Prod.mk.injEq] at hx
 have hd:=hx.1
 subst hd
 have g0:DataW.trod enc Tryz.prog W 0 (fun _=>true) true m 26 [c0,c1]=some y0:=by simpa [Value.cells,cellsW] using hy0
 have g1:DataW.trod enc Tryz.prog W 0 (fun _=>true) true m 24 [c2]=some y1:=by simpa [Value.cells,cellsW,cellsL] using hy1
 obtain⟨b,u,zs,e1,e2,e3⟩:=open_w enc W #[c0,c1] y0.1 y0.2 rfl ⟨m,g0⟩ (Nat.le_trans (bulk_r1 _ _) hs)
 simp only [Array.mk.injEq,List.cons.injEq,and_true] at e1
 obtain⟨rfl,rfl⟩:=e1
 rcases open_ints Tryz.underlying24 Tryz.underlying51 (by kernel_rfl) g1 with ⟨hc,_⟩|⟨x,l,c,zs',hc,_,hl,hm,hz,hx1,hcell,hwz⟩
 ·simp at hc
  subst hc
  obtain⟨ys,h1,h2⟩:=arg_nil W
  exact⟨b,_,zs,_,ys,rfl,⟨e2,e3⟩,h1,h2⟩
 ·simp at hc
  subst hc
  have hz':zs'.length=c:=by simpa using hz
  have hb:=Nat.le_trans (bulk_agg _ _) hs
  rw [hx1] at hb
  have hb:=Nat.le_trans (bulk_slice _ _) hb
  simp only [lits,List.length_map,List.length_take,List.length_drop] at hb
  obtain⟨ys,h1,h2⟩:=arg_of W x l c zs' hl hm hz' hcell hwz (by omega)
  exact⟨b,_,zs,_,ys,rfl,⟨e2,e3⟩,h1,h2⟩

theorem laid_met (os:Os):laidMet Tryz.prog Rows.ratioFormsUptoRow.laid ((World.laidAll Tryz.prog os eG).forCall (fun _ _=>0) ⟨#[],#[.agg #[.bool false,.slice none 0 0,.slice none 0 0],.agg #[.bool false,.slice none 0 0],.int .i64 0],[]⟩).memory:=
 laidMet_of_run' 8 (by kernel_rfl) (by kernel_rfl)

theorem reads (os:Os){H:Type}(enc:TypeId × Value→H):∃places,DataW.whole enc Tryz.prog ((World.laidAll Tryz.prog os eG).forCall (fun _ _=>0) ⟨#[],#[.agg #[.bool false,.slice none 0 0,.slice none 0 0],.agg #[.bool false,.slice none 0 0],.int .i64 0],[]⟩).memory Tryz.f4.params.toList Rows.ratioFormsSpec.vars false (#[.agg #[.bool false,.slice none 0 0,.slice none 0 0],.agg #[.bool false,.slice none 0 0],.int .i64 0]:Array Value).toList 8=some ([.agg [.agg [.lit (.bool false),.nil],.nil],.agg [.lit (.bool false),.nil],.lit (.int .i64 0)],[],places):=
 ⟨[],by kernel_rfl⟩

set_option maxRecDepth 100000 in
theorem lifted (os:Os)(started:os.Started)(H:Type)(enc:TypeId × Value→H)(F:Stop.Interp) :
  ReturnsInHanded {} Tryz.checked os 4 .any ((Rows.OpenSpec.upto Rows.ratioFormsSpec).preRow enc Tryz.prog Tryz.f4 Rows.ratioFormsUptoRow.domain false Rows.ratioFormsUptoRow.laid) (((Rows.OpenSpec.upto Rows.ratioFormsSpec).at F).post enc Tryz.prog Tryz.f4 false true false false):=by
 obtain⟨places,hx⟩:=reads os enc
 refine returnsInHanded_of_row (C:=Tryz.checked) (s:=Rows.OpenSpec.upto Rows.ratioFormsSpec) own started (by kernel_rfl) Tryz.func4
  (witness_row_at (enc:=enc) (C:=Tryz.checked) false (World.laidAll Tryz.prog os eG) #[.agg #[.bool false,.slice none 0 0,.slice none 0 0],.agg #[.bool false,.slice none 0 0],.int .i64 0] (World.laidAll_os _ _ _) (by kernel_rfl) (by kernel_rfl) (by kernel_rfl)
   (OpenSpec.preRow_of_cond 8 hx (by kernel_rfl) (fun k hk=>by cases hk;kernel_rfl) (by kernel_rfl) (laid_met os))) ?_
 clear hx
 intro W base args ds gs before hval0 hW _ hcond _ hL _ _
 have hk:Rows.uptoSmall H (ds ++ gs)=true:=hcond _ rfl
 have hB:Rows.uptoBulkAll (ds ++ gs)≤1048576:=of_decide_eq_true hk
 clear hk hcond
 have hTab:=nh hL
 have hval:∀(j:Nat) t v,Tryz.f4.params[j]?=some t→args[j]?=some v→Value.okWide Tryz.prog W .any base t v:=hval0
 have hW':DataW.Whole enc Tryz.prog Tryz.f4.params.toList Rows.ratioFormsSpec.vars false W args.toList ds gs before:=hW
 have hW2:=hW'
 clear hW
 obtain⟨p,q,hA0,hV,rfl,_,_⟩:=hW2
 have hA:DataW.TrodAll enc Tryz.prog W 0 (fun _=>true) true Tryz.f4.params.toList args.toList ds p:=hA0
 rw [Tryz.params4] at hA hval
 obtain⟨v0,vs0,d0,ds0,p0,q0,hargs,rfl,rfl,h0,r0⟩:=trodAll_cons hA
 obtain⟨v1,vs1,d1,ds1,p1,q1,rfl,rfl,rfl,h1,r1⟩:=trodAll_cons r0
 obtain⟨v2,vs2,d2,ds2,p2,q2,rfl,rfl,rfl,h2,r2⟩:=trodAll_cons r1
 obtain⟨rfl,rfl,rfl⟩:=trodAll_nil r2
 obtain rfl:args=#[v0,v1,v2]:=by cases args;simp_all
 obtain⟨rfl,rfl⟩:=trodVars_none hV
 obtain⟨cs0,rfl,hcs0⟩:=okWide_struct Tryz.underlying28 (hval 0 28 v0 rfl rfl)
 rw [cellsR] at hcs0
 have k0:=h0
 have lt0:∀x ∈ p0,x.block<W.heap.size:=by obtain⟨m,hm⟩:=k0;exact DataW.trod_lt m _ _ _ hm
 obtain⟨b0,u0,z0,x0,y0,ecs0,⟨A0,s0⟩,B0,t0⟩:=open_r enc W cs0 d0 p0 hcs0 h0 (Nat.le_trans (bulk_part (by simp)) hB)
 subst ecs0
 obtain⟨cs1,rfl,hcs1⟩:=okWide_struct Tryz.underlying26 (hval 1 26 v1 rfl rfl)
 rw [cellsW] at hcs1
 have k1:=h1
 have lt1:∀x ∈ p1,x.block<W.heap.size:=by obtain⟨m,hm⟩:=k1;exact DataW.trod_lt m _ _ _ hm
 obtain⟨b1,u1,z1,ecs1,A1,s1⟩:=open_w enc W cs1 d1 p1 hcs1 h1 (Nat.le_trans (bulk_part (by simp)) hB)
 subst ecs1
 obtain⟨a2,rfl,rfl,rfl,w2⟩:=open_int Tryz.underlying3 (hval 2 3 v2 rfl rfl) h2
 have bd2:=bounds_i64 w2
 clear hA0 hval0
 refine (mu b0 u0 z0 x0 y0 b1 u1 z1 a2 W hTab A0 s0 B0 t0 A1 s1 (by omega) (by omega)).mono fun e W' ⟨he,bel⟩=>?_
 subst he
 exact⟨_,rfl,_,_,_,[],_,[],hW',trodAll_mk1 (shut_bool Tryz.underlying4 _),(trodAll_cons_mk (Below.trod laidOut (by kernel_rfl) (of_decide_eq_true (by kernel_rfl)) k0 bel lt0) (trodAll_cons_mk (Below.trod laidOut (by kernel_rfl) (of_decide_eq_true (by kernel_rfl)) k1 bel lt1) (trodAll_cons_mk (shut_int Tryz.underlying3 w2) trodAll_mk0))),rfl,bel.frame _,fun h=>by cases h⟩

theorem over:Rows.ratioFormsUptoRow.holds Tryz.pinned (Rows.OpenSpec.upto Rows.ratioFormsSpec):=
 OpenClaim.holds_of_cond 4 Tryz.f4 rfl rfl rfl rfl rfl rfl rfl ⟨rfl,rfl,rfl,rfl,rfl⟩ rfl rfl rfl rfl rfl (by kernel_rfl) Tryz.func4 (by kernel_rfl)
  (of_decide_eq_true (by kernel_rfl)) (by unfold Func.isWrapper;first | (rw [if_pos (by decide +kernel)];kernel_rfl) | (rw [if_neg (by decide +kernel)];exact⟨rfl,rfl⟩))
  (fun os started H enc _ F=>by rw [OpenClaim.pre_eq_preRow];exact lifted os started H enc F)

end ratioForms

theorem ratioForms_holds:Rows.RatioFormsUptoCardSaid:=
 Claim7.holds_tied_plain_at .later [] _ _ _ _ ratioForms.over (fun _ h=>by cases h) (by kernel_rfl) (fun _ h=>by cases h) ratioFormsUpto_row_tie rfl ⟨rfl,rfl⟩ (by kernel_rfl) rfl
  (fun f fn hf hfn=>by
   obtain rfl:f=4:=Option.some.inj ((show Tryz.prog.funcNamed "surd/surdlaw07.RatioForms"=some 4 by kernel_rfl).symm.trans hf) |>.symm
   obtain rfl:fn=Tryz.f4:=(Option.some.inj (Tryz.func4.symm.trans hfn)).symm
   exact⟨by kernel_rfl,fun j t ht=>by
    rw [Tryz.params4] at ht
    have hm:t ∈ ([28,26,3]:List TypeId):=by simpa using Array.mem_of_getElem? ht
    have hall:(([28,26,3]:List TypeId).all fun u=>!Tryz.prog.wantsStandIn u)=true:=by kernel_rfl
    exact (show Tryz.prog.wantsStandIn t=false by simpa using List.all_eq_true.1 hall t hm)⟩)
  (by kernel_rfl)
#print axioms ratioForms_holds

end Go.Proofs.YtplegacjglaenaaGreatDoor
