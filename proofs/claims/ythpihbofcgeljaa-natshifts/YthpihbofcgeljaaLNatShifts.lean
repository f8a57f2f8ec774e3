/- The walk of the law NatShifts. -/
import Derived.Test.YthpihbofcgeljaaLives
import Derived.Test.YthpihbofcgeljaaOwnL
import Derived.Test.YthpihbofcgeljaaRefH
import Derived.Test.YthpihbofcgeljaaNatF
import Derived.Test.YthpihbofcgeljaaNatG
import Derived.Test.YthpihbofcgeljaaNatH
namespace Go.Proofs.Ythpihbofcgeljaa
open Go.RowKit
open Lm

set_option maxRecDepth 100000 in
set_option maxHeartbeats 1000000 in
theorem natShifts_out (v0 : Value) (z0 : List Nat) (n : Int) (w : World)
    (A0 : Arg w v0 z0) (s0 : z0.length ≤ 17592186043904) (hd : (n < 0 ∧ decide (n < 0) = true) ∨ (0 ≤ n ∧ decide (n < 0) = false ∧ 1099511627776 < n ∧ decide (1099511627776 < n) = true)) :
    Calls Try.prog 4 #[v0, .int .i64 n] w fun e w' => e = .returned (.bool true) ∧ Below w.heap.size w w' := by
  have hno : n < 0 ∨ 1099511627776 < n := by omega
  have HB : Hid (Below w.heap.size w w) := Below.refl _ _
  have bx := A0.bits s0
  go_enter Try.func4, Try.ntmps4
  go_wp2_with fail
  refine (lend_ok _ _ _ A0 (by omega)).mono ?_
  rintro e wn ⟨⟨vw, vp, rfl, Lw, Ap⟩, hb⟩
  replace HB := hid_below HB hb; replace A0 := A0.below hb; clear hb
  go_wp2_with fail
  refine (of_any _ _ _ A0 (by omega)).mono ?_
  rintro e w2 ⟨⟨vx, rfl, Nx⟩, hb⟩
  replace HB := hid_below HB hb; replace A0 := A0.below hb; replace Lw := Lw.below hb; replace Ap := Ap.below hb; clear hb
  have H2 : Hid (Below w2.heap.size w2 w2) := Below.refl _ _
  go_wp2_with fail
  refine (left_no _ n _ hno).mono ?_
  rintro e wn ⟨rfl, hw⟩; subst hw
  go_wp2_with fail
  refine (right_no _ n _ hno).mono ?_
  rintro e wn ⟨rfl, hw⟩; subst hw
  go_wp2_with fail
  refine (low_no _ n _ hno).mono ?_
  rintro e wn ⟨rfl, hw⟩; subst hw
  clear hno
  rcases hd with ⟨hd1, hd2⟩ | ⟨hd1, hd2, hd3, hd4⟩
  all_goals
    go_wp2_with fail
    refine (same_err _ _ _ _ _ rfl).mono ?_
    rintro e wn ⟨rfl, hw⟩; subst hw
    go_wp2_with fail
    refine (same_err _ _ _ _ _ rfl).mono ?_
    rintro e wn ⟨rfl, hw⟩; subst hw
    go_wp2_with fail
    refine (same_err _ _ _ _ _ rfl).mono ?_
    rintro e wn ⟨rfl, hw⟩; subst hw
    go_wp2_with fail
    refine (lives_any _).mono ?_
    rintro e wn ⟨rfl, hb⟩
    replace H2 := hid_below H2 hb; clear hb
    go_wp2
    go_ret
    exact ⟨rfl, HB.out.trans (H2.out.mono HB.out.size)⟩

set_option maxRecDepth 100000 in
set_option maxHeartbeats 1000000 in
theorem natShifts_in (v0 : Value) (z0 : List Nat) (n : Nat) (w : World) (A0 : Arg w v0 z0) (s0 : z0.length ≤ 17592186043904) (hn : n ≤ 1099511627776) :
    Calls Try.prog 4 #[v0, .int .i64 n] w fun e w' => e = .returned (.bool true) ∧ Below w.heap.size w w' := by
  have HB : Hid (Below w.heap.size w w) := Below.refl _ _
  have bx := A0.bits s0
  go_enter Try.func4, Try.ntmps4
  go_wp2_with fail
  refine (lend_ok _ _ _ A0 (by omega)).mono ?_
  rintro e wn ⟨⟨vw, vp, rfl, Lw, Ap⟩, hb⟩
  replace HB := hid_below HB hb; replace A0 := A0.below hb; clear hb
  go_wp2_with fail
  refine (of_any _ _ _ A0 (by omega)).mono ?_
  rintro e w2 ⟨⟨vx, rfl, Nx⟩, hb⟩
  replace HB := hid_below HB hb; replace A0 := A0.below hb; replace Lw := Lw.below hb; replace Ap := Ap.below hb; clear hb
  have H2 : Hid (Below w2.heap.size w2 w2) := Below.refl _ _
  go_wp2_with fail
  refine (left_any _ _ n _ Ap (by omega) (by omega)).mono ?_
  rintro e w3 ⟨hb, vl, cl, rl, rfl, Al, hl⟩
  have ll := Res.few Al hl
  obtain ⟨al, nl, kl, rfl⟩ := Al.slice
  have Ch : Chain w3 w2.heap.size [.slice al nl kl] [rl] := Chain.one Al hb.size
  replace H2 := hid_below H2 hb; clear hb
  go_wp2_with fail
  refine (right_any _ _ n _ (Ap.below H2.out) (by omega) (by omega)).mono ?_
  rintro e w4 ⟨hb, vr, cr, rr, rfl, Ar, hr⟩
  have lr := Res.few Ar hr
  obtain ⟨ar, nr, kr, rfl⟩ := Ar.slice
  replace Ch : Chain w4 w2.heap.size [.slice al nl kl, .slice ar nr kr] [rl, rr] := Ch.snoc hb Ar H2.out.size
  replace H2 := hid_below H2 hb; replace Al := Al.below hb; clear hb
  go_wp2_with fail
  refine (low_any _ _ n _ (Ap.below H2.out) (by omega) (by omega)).mono ?_
  rintro e w5 ⟨hb, vm, cm, rm, rfl, Am, hm⟩
  have lm := Res.few Am hm
  obtain ⟨am, nm, km, rfl⟩ := Am.slice
  replace Ch : Chain w5 w2.heap.size [.slice al nl kl, .slice ar nr kr, .slice am nm km] [rl, rr, rm] := Ch.snoc hb Am H2.out.size
  replace H2 := hid_below H2 hb; replace Al := Al.below hb; replace Ar := Ar.below hb; clear hb
  go_wp2_with fail
  refine (rshr_any _ _ n _ (Nx.below H2.out) bx (by omega)).mono ?_
  rintro e w6 ⟨⟨vn, rfl, Nn⟩, hb⟩
  replace H2 := hid_below H2 hb; replace Ch := Ch.below hb; replace Al := Al.below hb; replace Ar := Ar.below hb; replace Am := Am.below hb; clear hb
  go_wp2_with fail
  refine (same_res _ _ _ _ _ _ (Ar.arg (by omega)) Nn hr).mono ?_
  rintro e w7 ⟨rfl, hb⟩
  replace H2 := hid_below H2 hb; replace Ch := Ch.below hb; replace Al := Al.below hb; replace Am := Am.below hb; clear hb Ar Nn hr
  go_wp2_with fail
  refine (rlow_any _ _ n _ (Nx.below H2.out) bx (by omega)).mono ?_
  rintro e w8 ⟨⟨vn, rfl, Nn⟩, hb⟩
  replace H2 := hid_below H2 hb; replace Ch := Ch.below hb; replace Al := Al.below hb; replace Am := Am.below hb; clear hb
  go_wp2_with fail
  refine (same_res _ _ _ _ _ _ (Am.arg (by omega)) Nn hm).mono ?_
  rintro e w9 ⟨rfl, hb⟩
  replace H2 := hid_below H2 hb; replace Ch := Ch.below hb; replace Al := Al.below hb; clear hb Am Nn hm
  go_wp2_with fail
  refine (zero_any _ _ _ (Nx.below H2.out)).mono ?_
  rintro e wn ⟨rfl, hw⟩; subst hw
  have HLn := len_any _ _ _ (Nx.below H2.out)
  have HSH := rshl_any _ _ n _ (Nx.below H2.out)
  obtain ⟨big, hbig⟩ : ∃ b : Bool, b = (!(val z0 == 0) && decide (67108864 < blen (val z0) + n)) := ⟨_, rfl⟩
  cases big with
  | true =>
    obtain ⟨h1, h2⟩ : ¬ val z0 = 0 ∧ 67108864 < blen (val z0) + n := by simpa using hbig.symm
    have hz : (val z0 == 0) = false := by rw [beq_eq_false_iff_ne]; exact h1
    rcases hl with ⟨_, _, _, hc⟩ | ⟨rfl, rfl, _⟩
    · rw [blen_shl _ _ h1] at hc; omega
    · have hnl : nl = 0 := by
        rcases Al.form with ⟨e, _⟩ | ⟨g, cap, e, _⟩ <;> cases e <;> rfl
      subst hnl
      generalize blen (val z0) = y at *
      clear h1 hbig HSH
      rw [hz]
      go_wp2_with fail
      refine HLn.mono ?_
      rintro e wn ⟨rfl, hw⟩; subst hw
      go_wp2_with fail
      refine (same_err _ _ _ _ _ rfl).mono ?_
      rintro e wn ⟨rfl, hw⟩; subst hw
      go_wp2_with fail
      refine (lives_any _).mono ?_
      rintro e wn ⟨rfl, hb⟩
      replace H2 := hid_below H2 hb; clear hb
      go_wp2
      go_ret
      exact ⟨rfl, HB.out.trans (H2.out.mono HB.out.size)⟩
  | false =>
    have hsm : blen (val z0) + n ≤ 1125899906809856 := by
      by_cases h0 : val z0 = 0
      · rw [h0]; simp [blen]; omega
      · have : ¬ 67108864 < blen (val z0) + n := by simpa [h0] using hbig.symm
        omega
    have HSH' := HSH hsm
    have hcase : (val z0 == 0) = true ∨ ((val z0 == 0) = false ∧ decide (67108864 < (blen (val z0) : Int) + (n : Int)) = false) := by
      by_cases h0 : val z0 = 0
      · exact .inl (by simp [h0])
      · have h1 : ¬ 67108864 < blen (val z0) + n := by simpa [h0] using hbig.symm
        exact .inr ⟨by simp [h0], by simp; omega⟩
    clear HSH hbig
    rcases hcase with hz | ⟨hz, hd⟩
    · rw [hz]
      clear HLn
      go_wp2_with fail
      refine HSH'.mono ?_
      rintro e w10 ⟨⟨vn, rfl, Nn⟩, hb⟩
      replace H2 := hid_below H2 hb; replace Ch := Ch.below hb; replace Al := Al.below hb; clear hb HSH'
      go_wp2_with fail
      refine (same_res _ _ _ _ _ _ (Al.arg (by omega)) Nn hl).mono ?_
      rintro e w11 ⟨rfl, hb⟩
      replace H2 := hid_below H2 hb; replace Ch := Ch.below hb; clear hb Al Nn hl
      go_wp2_with fail
      refine (own_chain w2.heap.size [.slice al nl kl, .slice ar nr kr, .slice am nm km] [rl, rr, rm] w11 Ch (by simp) (by simp; omega) H2.out.size).mono ?_
      rintro e w12 ⟨rfl, hb⟩
      replace H2 : Hid (Below w2.heap.size w2 w12) := H2.out.trans hb
      clear hb Ch
      go_wp2_with fail
      refine (kept_ok _ _ _ _ (Lw.below H2.out) (A0.below H2.out) (by omega)).mono ?_
      rintro e wn ⟨rfl, hw⟩; subst hw
      go_wp2_with fail
      refine (lives_any _).mono ?_
      rintro e wn ⟨rfl, hb⟩
      replace H2 := hid_below H2 hb; clear hb
      go_wp2
      go_ret
      exact ⟨rfl, HB.out.trans (H2.out.mono HB.out.size)⟩
    · rw [hz]
      generalize blen (val z0) = y at *
      go_wp2_with fail
      refine HLn.mono ?_
      rintro e wn ⟨rfl, hw⟩; subst hw
      clear HLn
      go_wp2_with fail
      refine HSH'.mono ?_
      rintro e w10 ⟨⟨vn, rfl, Nn⟩, hb⟩
      replace H2 := hid_below H2 hb; replace Ch := Ch.below hb; replace Al := Al.below hb; clear hb HSH'
      go_wp2_with fail
      refine (same_res _ _ _ _ _ _ (Al.arg (by omega)) Nn hl).mono ?_
      rintro e w11 ⟨rfl, hb⟩
      replace H2 := hid_below H2 hb; replace Ch := Ch.below hb; clear hb Al Nn hl
      go_wp2_with fail
      refine (own_chain w2.heap.size [.slice al nl kl, .slice ar nr kr, .slice am nm km] [rl, rr, rm] w11 Ch (by simp) (by simp; omega) H2.out.size).mono ?_
      rintro e w12 ⟨rfl, hb⟩
      replace H2 : Hid (Below w2.heap.size w2 w12) := H2.out.trans hb
      clear hb Ch
      go_wp2_with fail
      refine (kept_ok _ _ _ _ (Lw.below H2.out) (A0.below H2.out) (by omega)).mono ?_
      rintro e wn ⟨rfl, hw⟩; subst hw
      go_wp2_with fail
      refine (lives_any _).mono ?_
      rintro e wn ⟨rfl, hb⟩
      replace H2 := hid_below H2 hb; clear hb
      go_wp2
      go_ret
      exact ⟨rfl, HB.out.trans (H2.out.mono HB.out.size)⟩

theorem natShifts_walk (v0 : Value) (z0 : List Nat) (n : Int) (w : World) (A0 : Arg w v0 z0) (s0 : z0.length ≤ 17592186043904) (_h1 : -9223372036854775808 ≤ n) (_h2 : n ≤ 9223372036854775807) :
    Calls Try.prog 4 #[v0, .int .i64 n] w fun e w' => e = .returned (.bool true) ∧ Below w.heap.size w w' := by
  by_cases h : 0 ≤ n ∧ n ≤ 1099511627776
  · obtain ⟨m, rfl⟩ := Int.eq_ofNat_of_zero_le h.1
    exact natShifts_in v0 z0 m w A0 s0 (by omega)
  · refine natShifts_out v0 z0 n w A0 s0 ?_
    by_cases h0 : n < 0
    · exact .inl ⟨h0, by simp [h0]⟩
    · exact .inr ⟨by omega, by simp; omega, by omega, by simp; omega⟩

end Go.Proofs.Ythpihbofcgeljaa
