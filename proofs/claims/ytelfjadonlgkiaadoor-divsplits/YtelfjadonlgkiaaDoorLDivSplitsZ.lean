/- The walk of the law DivSplits. -/
import Derived.Test.YtelfjadonlgkiaaDoorQM
import Derived.Test.YtelfjadonlgkiaaDoorDivXZ
import Derived.Test.YtelfjadonlgkiaaDoorLDivBothsZ
namespace Go.Proofs.YtelfjadonlgkiaaDoor
open Go.RowKit
open Lm

set_option maxRecDepth 100000 in
set_option maxHeartbeats 4000000 in
theorem divSplits_no (v0 : Value) (z0 : List Nat) (v1 : Value) (z1 : List Nat) (w : World) (hT : Tab w) (A0 : Arg w v0 z0) (s0 : z0.length ≤ 17592186043904) (A1 : Arg w v1 z1) (s1 : z1.length ≤ 17592186043904) (hz : val z0 = 0 ∨ val z1 < 2) :
    Calls Tryd.prog 6 #[v0, v1] w fun e w' => e = .returned (.bool true) ∧ Below w.heap.size w w' := by
  have H : Hid (Below w.heap.size w w) := Below.refl _ _
  have HZ := hide hz
  have HT := hide hT
  have HS := dSplit_no v0 v1 z0 z1 w A0 A1 hz
  clear hz hT
  go_enter Tryd.func6, Tryd.ntmps6
  go_wp2_with fail
  refine HS.mono ?_
  rintro e wn ⟨rfl, hw⟩; rw [hw]; clear hw wn HS
  have HO := of_any _ _ _ (A0.below H.out) (by omega)
  go_wp2_with fail
  refine HO.mono ?_
  rintro e w2 ⟨⟨vx, rfl, Nx⟩, hb⟩
  replace H := hid_below H hb
  (try replace An := An.below hb)
  clear hb HO
  have HO := of_any _ _ _ (A1.below H.out) (by omega)
  go_wp2_with fail
  refine HO.mono ?_
  rintro e w3 ⟨⟨vy, rfl, Ny⟩, hb⟩
  replace H := hid_below H hb
  (try replace An := An.below hb)
  replace Nx := Nx.below hb
  clear hb HO
  have HR := rSplit_no vx vy _ _ w3 Nx Ny HZ.out
  clear Nx Ny
  go_wp2_with fail
  refine HR.mono ?_
  rintro e wn ⟨rfl, hw⟩; rw [hw]; clear hw wn HR
  have HE := same3_err (.slice none 0 0) 1 none 0 w3 (by omega)
  go_wp2_with fail
  refine HE.mono ?_
  rintro e wn ⟨rfl, hw⟩; rw [hw]; clear hw wn HE
  have HOW := own_chain w3.heap.size [.slice none 0 0] [[]] w3 ⟨_, ⟨Nat.le_refl _, Nat.le_refl _⟩, Ans.nil _ _, (fun g e => (by cases e)), trivial⟩ (by simp) (by simp) (Nat.le_refl _)
  go_wp2_with fail
  refine HOW.mono ?_
  rintro e w6 ⟨rfl, hb⟩
  replace H := hid_below H hb
  clear hb HOW
  have HA := lives3_any w6 (HT.out.below H.out)
  go_wp2_with fail
  refine HA.mono ?_
  rintro e w7 ⟨rfl, hb⟩
  replace H := hid_below H hb
  clear hb HA A0 A1
  go_wp2
  go_ret
  exact ⟨rfl, H.out⟩

set_option maxRecDepth 100000 in
set_option maxHeartbeats 4000000 in
theorem divSplits_yes (v0 : Value) (z0 : List Nat) (v1 : Value) (z1 : List Nat) (w : World) (hT : Tab w) (A0 : Arg w v0 z0) (s0 : z0.length ≤ 17592186043904) (A1 : Arg w v1 z1) (s1 : z1.length ≤ 17592186043904) (hx : 0 < val z0) (hy : 2 ≤ val z1) :
    Calls Tryd.prog 6 #[v0, v1] w fun e w' => e = .returned (.bool true) ∧ Below w.heap.size w w' := by
  have H : Hid (Below w.heap.size w w) := Below.refl _ _
  have bx := A0.bits3 s0
  have by' := A1.bits3 s1
  have HXY := hide (And.intro hx hy)
  have HT := hide hT
  have HS := dSplit_any v0 v1 z0 z1 w A0 A1 hT s0 s1 hx hy
  clear hx hy hT
  go_enter Tryd.func6, Tryd.ntmps6
  go_wp2_with fail
  refine HS.mono ?_
  rintro e w1 ⟨⟨n, c, m, k, v, rs, hsp, rfl, An, hres⟩, hb⟩
  replace H := hid_below H hb
  have HSP := hide hsp
  have HRES := hide hres
  obtain ⟨o1, n1, c1, rfl⟩ := An.slice
  clear hb HS hsp hres
  have HO := of_any _ _ _ (A0.below H.out) (by omega)
  go_wp2_with fail
  refine HO.mono ?_
  rintro e w2 ⟨⟨vx, rfl, Nx⟩, hb⟩
  replace H := hid_below H hb
  (try replace An := An.below hb)
  clear hb HO
  have HO := of_any _ _ _ (A1.below H.out) (by omega)
  go_wp2_with fail
  refine HO.mono ?_
  rintro e w3 ⟨⟨vy, rfl, Ny⟩, hb⟩
  replace H := hid_below H hb
  (try replace An := An.below hb)
  replace Nx := Nx.below hb
  clear hb HO
  have HR := rSplit_any vx vy _ _ w3 Nx Ny HXY.out.1 HXY.out.2 bx by'
  go_wp2_with fail
  refine HR.mono ?_
  rintro e w4 ⟨⟨n', c', v', rfl, Nc, hsp'⟩, hb⟩
  obtain ⟨hn, hc⟩ := split_uniq HXY.out.1 hsp' HSP.out
  subst hn
  subst hc
  replace H := hid_below H hb
  replace An := An.below hb
  clear hb HR Nx Ny hsp'
  have HL := len_any v' _ w4 Nc
  have hres := HRES.out
  rcases hres with ⟨rfl, rfl, ev, tv, bl⟩ | ⟨rfl, rfl, rfl, bl⟩
  · have HSM := same3_of _ v' 0 rs c' w.heap.size w4 An (.inl ⟨rfl, ev, tv, bl⟩) Nc
    have lr : rs.length ≤ 1048576 := Res.few (c := 0) An (.inl ⟨rfl, ev, tv, bl⟩)
    have i1 : ¬ ((67108864 : Int) < (blen c' : Int)) := by omega
    generalize blen c' = q at *
    clear HRES ev tv bl Nc
    go_wp2_with fail
    refine HL.mono ?_
    rintro e wn ⟨rfl, hw⟩; rw [hw]; clear hw wn HL
    go_wp2_with fail
    refine HSM.mono ?_
    rintro e w5 ⟨rfl, hb⟩
    replace H := hid_below H hb
    replace An := An.below hb
    clear hb HSM
    have HOW := own_chain w.heap.size [.slice o1 n1 c1] [rs] w5 (Chain.one An H.out.size) (by simp) (by simp; omega) H.out.size
    go_wp2_with fail
    refine HOW.mono ?_
    rintro e w6 ⟨rfl, hb⟩
    replace H : Hid (Below w.heap.size w w6) := H.out.trans hb
    clear hb HOW An
    have HA := lives3_any w6 (HT.out.below H.out)
    go_wp2_with fail
    refine HA.mono ?_
    rintro e w7 ⟨rfl, hb⟩
    replace H := hid_below H hb
    clear hb HA A0 A1
    go_wp2
    go_ret
    exact ⟨rfl, H.out⟩
  · have HSM := same3_of _ v' 3 [] c' w.heap.size w4 An (.inr ⟨rfl, rfl, bl⟩) Nc
    have i1 : (67108864 : Int) < (blen c' : Int) := by omega
    generalize blen c' = q at *
    clear HRES bl Nc
    go_wp2_with fail
    refine HL.mono ?_
    rintro e wn ⟨rfl, hw⟩; rw [hw]; clear hw wn HL
    go_wp2_with fail
    refine HSM.mono ?_
    rintro e w5 ⟨rfl, hb⟩
    replace H := hid_below H hb
    replace An := An.below hb
    clear hb HSM
    have HOW := own_chain w.heap.size [.slice o1 n1 c1] [[]] w5 (Chain.one An H.out.size) (by simp) (by simp) H.out.size
    go_wp2_with fail
    refine HOW.mono ?_
    rintro e w6 ⟨rfl, hb⟩
    replace H : Hid (Below w.heap.size w w6) := H.out.trans hb
    clear hb HOW An
    have HA := lives3_any w6 (HT.out.below H.out)
    go_wp2_with fail
    refine HA.mono ?_
    rintro e w7 ⟨rfl, hb⟩
    replace H := hid_below H hb
    clear hb HA A0 A1
    go_wp2
    go_ret
    exact ⟨rfl, H.out⟩

theorem divSplits_walk (v0 : Value) (z0 : List Nat) (v1 : Value) (z1 : List Nat) (w : World) (hT : Tab w) (A0 : Arg w v0 z0) (s0 : z0.length ≤ 17592186043904) (A1 : Arg w v1 z1) (s1 : z1.length ≤ 17592186043904) :
    Calls Tryd.prog 6 #[v0, v1] w fun e w' => e = .returned (.bool true) ∧ Below w.heap.size w w' := by
  by_cases hz : val z0 = 0 ∨ val z1 < 2
  · exact divSplits_no v0 z0 v1 z1 w hT A0 s0 A1 s1 hz
  · exact divSplits_yes v0 z0 v1 z1 w hT A0 s0 A1 s1 (by omega) (by omega)

end Go.Proofs.YtelfjadonlgkiaaDoor
