/- The walk of the law NatSums. -/
import Derived.Test.YthpihbofcgeljaaLives
import Derived.Test.YthpihbofcgeljaaOwnL
import Derived.Test.YthpihbofcgeljaaRefE
import Derived.Test.YthpihbofcgeljaaRefF
import Derived.Test.YthpihbofcgeljaaRefG
namespace Go.Proofs.Ythpihbofcgeljaa
open Go.RowKit
open Lm

set_option maxRecDepth 100000 in
set_option maxHeartbeats 1000000 in
theorem natSums_walk (v0 : Value) (z0 : List Nat) (v1 : Value) (z1 : List Nat) (w : World)
    (A0 : Arg w v0 z0) (s0 : z0.length ≤ 17592186043904) (A1 : Arg w v1 z1) (s1 : z1.length ≤ 17592186043904) :
    Calls Try.prog 3 #[v0, v1] w fun e w' => e = .returned (.bool true) ∧ Below w.heap.size w w' := by
  have HB : Hid (Below w.heap.size w w) := Below.refl _ _
  have bx := A0.bits s0
  have by' := A1.bits s1
  go_enter Try.func3, Try.ntmps3
  go_wp2_with fail
  refine (lend_ok _ _ _ A0 (by omega)).mono ?_
  rintro e wn ⟨⟨vw, vp, rfl, Lw, Ap⟩, hb⟩
  replace HB := hid_below HB hb; replace A0 := A0.below hb; replace A1 := A1.below hb; clear hb
  go_wp2_with fail
  refine (lend_ok _ _ _ A1 (by omega)).mono ?_
  rintro e wn ⟨⟨vv, vq, rfl, Lv, Aq⟩, hb⟩
  replace HB := hid_below HB hb; replace A0 := A0.below hb; replace A1 := A1.below hb; replace Lw := Lw.below hb; replace Ap := Ap.below hb; clear hb
  go_wp2_with fail
  refine (of_any _ _ _ A0 (by omega)).mono ?_
  rintro e wn ⟨⟨vx, rfl, Nx⟩, hb⟩
  replace HB := hid_below HB hb; replace A0 := A0.below hb; replace A1 := A1.below hb; replace Lw := Lw.below hb; replace Ap := Ap.below hb; replace Lv := Lv.below hb; replace Aq := Aq.below hb; clear hb
  go_wp2_with fail
  refine (of_any _ _ _ A1 (by omega)).mono ?_
  rintro e w2 ⟨⟨vy, rfl, Ny⟩, hb⟩
  replace HB := hid_below HB hb; replace A0 := A0.below hb; replace A1 := A1.below hb; replace Lw := Lw.below hb; replace Ap := Ap.below hb; replace Lv := Lv.below hb; replace Aq := Aq.below hb; replace Nx := Nx.below hb; clear hb
  have H2 : Hid (Below w2.heap.size w2 w2) := Below.refl _ _
  go_wp2_with fail
  refine (add_any _ _ _ _ _ Ap Aq (by omega) (by omega)).mono ?_
  rintro e w3 ⟨hb, va, c, ra, rfl, Aa, ha⟩
  have hsz := hb.size
  replace H2 := hid_below H2 hb; clear hb
  have la := Res.few Aa ha
  obtain ⟨aa, na, ca, rfl⟩ := Aa.slice
  go_wp2_with fail
  refine (add_any _ _ _ _ _ (Ap.below H2.out) (Aq.below H2.out) (by omega) (by omega)).mono ?_
  rintro e w4 ⟨hb, vb', c', rb, rfl, Ab, hb'⟩
  replace H2 := hid_below H2 hb
  have lb := Res.few Ab hb'
  obtain ⟨ab, nb, cb, rfl⟩ := Ab.slice
  have Ch : Chain w4 w2.heap.size [.slice aa na ca, .slice ab nb cb] [ra, rb] := ⟨w3.heap.size, hsz, Aa.below hb, Aa.top, Chain.one Ab⟩
  replace Aa := Aa.below hb
  clear hb hb' hsz Ab
  go_wp2_with fail
  refine (radd_any _ _ _ _ _ (Nx.below H2.out) (Ny.below H2.out) bx by').mono ?_
  rintro e w5 ⟨⟨vn, rfl, Nn⟩, hb⟩
  replace H2 := hid_below H2 hb; replace Ch := Ch.below hb; replace Aa := Aa.below hb; clear hb
  go_wp2_with fail
  refine (same_res _ _ _ _ _ _ (Aa.arg (by omega)) Nn ha).mono ?_
  rintro e w6 ⟨rfl, hb⟩
  replace H2 := hid_below H2 hb; replace Ch := Ch.below hb; clear hb Aa Nn ha
  go_wp2_with fail
  refine (own_chain w2.heap.size [.slice aa na ca, .slice ab nb cb] [ra, rb] w6 Ch (by simp) (by simp; omega) H2.out.size).mono ?_
  rintro e w7 ⟨rfl, hb⟩
  replace H2 : Hid (Below w2.heap.size w2 w7) := H2.out.trans hb
  clear hb Ch la lb
  go_wp2_with fail
  refine (sub_any _ _ _ _ _ (Ap.below H2.out) (Aq.below H2.out) (by omega)).mono ?_
  rintro e w8 ⟨hb, ⟨hlt, rfl⟩ | ⟨hle, vd, cd, rd, rfl, Ad, hd⟩⟩
  · replace H2 := hid_below H2 hb; clear hb
    go_wp2_with fail
    refine (rcmp_any _ _ _ _ _ (Nx.below H2.out) (Ny.below H2.out)).mono ?_
    rintro e w9 ⟨rfl, hs⟩
    replace H2 := hid_below H2 hs.top; clear hs
    rw [cmpN_lt hlt]
    go_wp2_with fail
    refine (same_err _ _ _ _ _ rfl).mono ?_
    rintro e wn ⟨rfl, hw⟩; subst hw
    go_wp2_with fail
    refine (lives_any _).mono ?_
    rintro e wn ⟨rfl, hb⟩
    replace H2 := hid_below H2 hb; clear hb
    go_wp2
    go_ret
    exact ⟨rfl, HB.out.trans (H2.out.mono HB.out.size)⟩
  · have hsz := hb.size
    have h27 := H2.out.size
    replace H2 := hid_below H2 hb; clear hb
    have ld := Res.few Ad hd
    obtain ⟨ad, nd, cd', rfl⟩ := Ad.slice
    have hc : decide (cmpN (val z0) (val z1) < 0) = false := by
      unfold cmpN; rw [if_neg (by omega)]; split <;> decide
    go_wp2_with fail
    refine (rcmp_any _ _ _ _ _ (Nx.below H2.out) (Ny.below H2.out)).mono ?_
    rintro e w9 ⟨rfl, hs⟩
    replace H2 := hid_below H2 hs.top; replace Ad := Ad.below hs.top; clear hs
    generalize cmpN (val z0) (val z1) = cc at *
    go_wp2_with fail
    refine (rsub_any _ _ _ _ _ (Nx.below H2.out) (Ny.below H2.out) hle bx).mono ?_
    rintro e w10 ⟨⟨vn, rfl, Nn⟩, hb⟩
    replace H2 := hid_below H2 hb; replace Ad := Ad.below hb; clear hb
    go_wp2_with fail
    refine (same_res _ _ _ _ _ _ (Ad.arg (by omega)) Nn hd).mono ?_
    rintro e w11 ⟨rfl, hb⟩
    replace H2 := hid_below H2 hb; replace Ad := Ad.below hb; clear hb Nn hd
    go_wp2_with fail
    refine (own_chain w2.heap.size [.slice ad nd cd'] [rd] w11 (Chain.one (Ad.base h27)) (by simp) (by simp; omega) H2.out.size).mono ?_
    rintro e w12 ⟨rfl, hb⟩
    replace H2 : Hid (Below w2.heap.size w2 w12) := H2.out.trans hb
    clear hb
    go_wp2_with fail
    refine (kept_ok _ _ _ _ (Lw.below H2.out) (A0.below H2.out) (by omega)).mono ?_
    rintro e wn ⟨rfl, hw⟩; subst hw
    go_wp2_with fail
    refine (kept_ok _ _ _ _ (Lv.below H2.out) (A1.below H2.out) (by omega)).mono ?_
    rintro e wn ⟨rfl, hw⟩; subst hw
    go_wp2_with fail
    refine (lives_any _).mono ?_
    rintro e wn ⟨rfl, hb⟩
    replace H2 := hid_below H2 hb; clear hb
    go_wp2
    go_ret
    exact ⟨rfl, HB.out.trans (H2.out.mono HB.out.size)⟩

end Go.Proofs.Ythpihbofcgeljaa
