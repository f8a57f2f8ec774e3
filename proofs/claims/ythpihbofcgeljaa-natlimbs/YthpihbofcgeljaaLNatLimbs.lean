/- The walk of the law NatLimbs. -/
import Derived.Test.YthpihbofcgeljaaLives
import Derived.Test.YthpihbofcgeljaaOwnL
import Derived.Test.YthpihbofcgeljaaRefJ
import Derived.Test.YthpihbofcgeljaaNatI
import Derived.Test.YthpihbofcgeljaaNatJ
namespace Go.Proofs.Ythpihbofcgeljaa
open Go.RowKit
open Lm

theorem val_one (m : Nat) : val [m] = m := by simp [val]

theorem ResT.few {w : World} {base : Nat} {v : Value} {c : Int} {rs : List Nat} {s t r : Nat} (_ : Ans w base v rs) (h : (c = 0 ∧ val rs = s ∧ tr rs = rs ∧ r = t ∧ blen s ≤ 67108864) ∨ (c = 3 ∧ rs = [] ∧ r = 0 ∧ 67108864 < blen s)) : rs.length ≤ 1048576 := by
  rcases h with ⟨_, hv, ht, _, hs⟩ | ⟨_, rfl, _⟩
  · have := few_limbs rs 1048576 (by rw [hv]; omega)
    rwa [ht] at this
  · simp

set_option maxRecDepth 100000 in
set_option maxHeartbeats 1000000 in
theorem natLimbs_zero (v0 : Value) (z0 : List Nat) (m : Nat) (w : World) (A0 : Arg w v0 z0) (s0 : z0.length ≤ 17592186043904) (h0 : m = 0) (hm : m < 18446744073709551616) :
    Calls Try.prog 5 #[v0, .int .u64 m] w fun e w' => e = .returned (.bool true) ∧ Below w.heap.size w w' := by
  have HZ := hide h0
  clear h0
  have HB : Hid (Below w.heap.size w w) := Below.refl _ _
  have bx := A0.bits s0
  have bm : blen m ≤ 64 := (blen_le_iff m 64).2 (by omega)
  go_enter Try.func5, Try.ntmps5
  go_wp2_with fail
  refine (lend_ok _ _ _ A0 (by omega)).mono ?_
  rintro e wn ⟨⟨vw, vp, rfl, Lw, Ap⟩, hb⟩
  replace HB := hid_below HB hb; replace A0 := A0.below hb; clear hb
  go_wp2_with fail
  refine (of_any _ _ _ A0 (by omega)).mono ?_
  rintro e w1 ⟨⟨vx, rfl, Nx⟩, hb⟩
  replace HB := hid_below HB hb; replace A0 := A0.below hb; replace Lw := Lw.below hb; replace Ap := Ap.below hb; clear hb
  go_wp2_with fail
  have b1 := Below.one w1 (.cells #[.int .u64 (m : Int)] 42)
  refine (of_any _ [m] _ (Arg.one w1 m hm) (by simp)).mono ?_
  rintro e w2 ⟨⟨vd, rfl, Nd⟩, hb⟩
  rw [val_one] at Nd
  replace b1 := bstep b1 hb
  replace HB := hid_below HB b1; replace A0 := A0.below b1; replace Lw := Lw.below b1; replace Ap := Ap.below b1; replace Nx := Nx.below b1; clear hb b1
  have H2 : Hid (Below w2.heap.size w2 w2) := Below.refl _ _
  go_wp2_with fail
  refine (times_any _ _ m _ Ap hm (by omega)).mono ?_
  rintro e w3 ⟨hb, vt, ct, rt, rfl, At, ht⟩
  have lt := Res.few At ht
  obtain ⟨at', nt, kt, rfl⟩ := At.slice
  have Ch : Chain w3 w2.heap.size [.slice at' nt kt] [rt] := Chain.one At hb.size
  replace H2 := hid_below H2 hb; clear hb
  go_wp2_with fail
  have h0 := HZ.out
  subst h0
  refine (through_no _ _).mono ?_
  rintro e wn ⟨rfl, hw⟩; subst hw
  have Aq := Ans.nil wn 0
  go_wp2_with fail
  refine (rmul_any _ _ _ _ _ (Nx.below H2.out) (Nd.below H2.out) (by omega)).mono ?_
  rintro e w5 ⟨⟨vn, rfl, Nn⟩, hb⟩
  replace H2 := hid_below H2 hb; replace Ch := Ch.below hb; replace At := At.below hb; replace Aq := Aq.below hb; clear hb
  go_wp2_with fail
  refine (same_res _ _ _ _ _ _ (At.arg (by omega)) Nn ht).mono ?_
  rintro e w6 ⟨rfl, hb⟩
  replace H2 := hid_below H2 hb; replace Ch := Ch.below hb; replace Aq := Aq.below hb; clear hb At Nn ht
  clear Aq
  go_wp2_with fail
  refine (same_err _ _ _ _ _ rfl).mono ?_
  rintro e wn ⟨rfl, hw⟩; subst hw
  go_wp2_with fail
  refine (lives_any _).mono ?_
  rintro e wn ⟨rfl, hb⟩
  replace H2 := hid_below H2 hb; clear hb
  go_wp2
  go_ret
  exact ⟨rfl, HB.out.trans (H2.out.mono HB.out.size)⟩

set_option maxRecDepth 100000 in
set_option maxHeartbeats 1000000 in
theorem natLimbs_pos (v0 : Value) (z0 : List Nat) (m : Nat) (w : World) (A0 : Arg w v0 z0) (s0 : z0.length ≤ 17592186043904) (h0 : 0 < m) (hm : m < 18446744073709551616) :
    Calls Try.prog 5 #[v0, .int .u64 m] w fun e w' => e = .returned (.bool true) ∧ Below w.heap.size w w' := by
  have hm0 : ((m : Int) == 0) = false := by rw [beq_eq_false_iff_ne]; omega
  have HB : Hid (Below w.heap.size w w) := Below.refl _ _
  have bx := A0.bits s0
  have bm : blen m ≤ 64 := (blen_le_iff m 64).2 (by omega)
  go_enter Try.func5, Try.ntmps5
  go_wp2_with fail
  refine (lend_ok _ _ _ A0 (by omega)).mono ?_
  rintro e wn ⟨⟨vw, vp, rfl, Lw, Ap⟩, hb⟩
  replace HB := hid_below HB hb; replace A0 := A0.below hb; clear hb
  go_wp2_with fail
  refine (of_any _ _ _ A0 (by omega)).mono ?_
  rintro e w1 ⟨⟨vx, rfl, Nx⟩, hb⟩
  replace HB := hid_below HB hb; replace A0 := A0.below hb; replace Lw := Lw.below hb; replace Ap := Ap.below hb; clear hb
  go_wp2_with fail
  have b1 := Below.one w1 (.cells #[.int .u64 (m : Int)] 42)
  refine (of_any _ [m] _ (Arg.one w1 m hm) (by simp)).mono ?_
  rintro e w2 ⟨⟨vd, rfl, Nd⟩, hb⟩
  rw [val_one] at Nd
  replace b1 := bstep b1 hb
  replace HB := hid_below HB b1; replace A0 := A0.below b1; replace Lw := Lw.below b1; replace Ap := Ap.below b1; replace Nx := Nx.below b1; clear hb b1
  have H2 : Hid (Below w2.heap.size w2 w2) := Below.refl _ _
  go_wp2_with fail
  refine (times_any _ _ m _ Ap hm (by omega)).mono ?_
  rintro e w3 ⟨hb, vt, ct, rt, rfl, At, ht⟩
  have lt := Res.few At ht
  obtain ⟨at', nt, kt, rfl⟩ := At.slice
  have Ch : Chain w3 w2.heap.size [.slice at' nt kt] [rt] := Chain.one At hb.size
  replace H2 := hid_below H2 hb; clear hb
  go_wp2_with fail
  refine (through_any _ _ m _ (Ap.below H2.out) hm h0 (by omega)).mono ?_
  rintro e w4 ⟨hb, vq, cq, rq, r, rfl, Aq, hq⟩
  have lq := ResT.few Aq hq
  obtain ⟨aq, nq, kq, rfl⟩ := Aq.slice
  replace Ch : Chain w4 w2.heap.size [.slice at' nt kt, .slice aq nq kq] [rt, rq] := Ch.snoc hb Aq H2.out.size
  replace H2 := hid_below H2 hb; replace At := At.below hb; clear hb
  go_wp2_with fail
  refine (rmul_any _ _ _ _ _ (Nx.below H2.out) (Nd.below H2.out) (by omega)).mono ?_
  rintro e w5 ⟨⟨vn, rfl, Nn⟩, hb⟩
  replace H2 := hid_below H2 hb; replace Ch := Ch.below hb; replace At := At.below hb; replace Aq := Aq.below hb; clear hb
  go_wp2_with fail
  refine (same_res _ _ _ _ _ _ (At.arg (by omega)) Nn ht).mono ?_
  rintro e w6 ⟨rfl, hb⟩
  replace H2 := hid_below H2 hb; replace Ch := Ch.below hb; replace Aq := Aq.below hb; clear hb At Nn ht
  go_wp2_with fail
  refine (rdiv_any _ _ _ _ _ (Nx.below H2.out) (Nd.below H2.out) (by omega) bx (by omega)).mono ?_
  rintro e w7 ⟨⟨vy, vr, rfl, Ny, Nr⟩, hb⟩
  replace H2 := hid_below H2 hb; replace Ch := Ch.below hb; replace Aq := Aq.below hb; clear hb
  rcases hq with ⟨rfl, hv, ht, hr, hs⟩ | ⟨rfl, hrq, hr, hs⟩
  · have hrm : r < 18446744073709551616 := by rw [hr]; exact Nat.lt_trans (Nat.mod_lt _ h0) hm
    have HR := hide hr
    clear hr
    go_wp2_with fail
    refine (same_res _ _ _ _ _ _ (Aq.arg (by omega)) Ny (.inl ⟨rfl, hv, ht, hs⟩)).mono ?_
    rintro e w8 ⟨rfl, hb⟩
    replace H2 := hid_below H2 hb; replace Ch := Ch.below hb; replace Nr := Nr.below hb; clear hb Aq Ny hv ht hs
    go_wp2_with fail
    refine (from_any r _ hrm).mono ?_
    rintro e w9 ⟨⟨vf, rfl, Af⟩, hb⟩
    replace H2 := hid_below H2 hb; replace Ch := Ch.below hb; replace Nr := Nr.below hb; clear hb
    have lf : (tr [r]).length ≤ 1 := tr_length_le [r]
    have HIs := is_true _ _ _ _ _ Nr (Af.arg (by omega)) (tr_tr [r]) (by rw [val_tr, val_one, HR.out]) (by have := (blen_le_iff (val z0 % m) 64).2 (by rw [← HR.out]; omega); omega)
    clear Af Nr lf HR
    go_wp2_with fail
    refine HIs.mono ?_
    rintro e w10 ⟨rfl, hb⟩
    replace H2 := hid_below H2 hb; replace Ch := Ch.below hb; clear hb HIs
    go_wp2_with fail
    refine (own_chain w2.heap.size [.slice at' nt kt, .slice aq nq kq] [rt, rq] _ Ch (by simp) (by simp; omega) H2.out.size).mono ?_
    rintro e w12 ⟨rfl, hb⟩
    replace H2 : Hid (Below w2.heap.size w2 w12) := H2.out.trans hb
    clear hb Ch
    go_wp2_with fail
    refine (kept_ok _ _ _ _ (Lw.below H2.out) (A0.below H2.out) (by omega)).mono ?_
    rintro e wn ⟨rfl, hw⟩; subst hw
    go_wp2_with fail
    refine (lives_any _).mono ?_
    rintro e wn ⟨rfl, hb⟩
    replace H2 := hid_below H2 hb; clear hb
    go_wp2
    go_ret
    exact ⟨rfl, HB.out.trans (H2.out.mono HB.out.size)⟩
  · clear hr
    have Hrq := hide hrq
    clear hrq
    go_wp2_with fail
    refine (same_res _ _ _ _ _ _ (Aq.arg (by omega)) Ny (.inr ⟨rfl, Hrq.out, hs⟩)).mono ?_
    rintro e w8 ⟨rfl, hb⟩
    replace H2 := hid_below H2 hb; replace Ch := Ch.below hb; clear hb Aq Ny hs Nr
    go_wp2_with fail
    refine (own_chain w2.heap.size [.slice at' nt kt, .slice aq nq kq] [rt, rq] _ Ch (by simp) (by simp; omega) H2.out.size).mono ?_
    rintro e w12 ⟨rfl, hb⟩
    replace H2 : Hid (Below w2.heap.size w2 w12) := H2.out.trans hb
    clear hb Ch
    go_wp2_with fail
    refine (kept_ok _ _ _ _ (Lw.below H2.out) (A0.below H2.out) (by omega)).mono ?_
    rintro e wn ⟨rfl, hw⟩; subst hw
    go_wp2_with fail
    refine (lives_any _).mono ?_
    rintro e wn ⟨rfl, hb⟩
    replace H2 := hid_below H2 hb; clear hb
    go_wp2
    go_ret
    exact ⟨rfl, HB.out.trans (H2.out.mono HB.out.size)⟩

theorem natLimbs_walk (v0 : Value) (z0 : List Nat) (n : Int) (w : World) (A0 : Arg w v0 z0) (s0 : z0.length ≤ 17592186043904) (h1 : 0 ≤ n) (h2 : n ≤ 18446744073709551615) :
    Calls Try.prog 5 #[v0, .int .u64 n] w fun e w' => e = .returned (.bool true) ∧ Below w.heap.size w w' := by
  obtain ⟨m, rfl⟩ := Int.eq_ofNat_of_zero_le h1
  rcases Nat.eq_zero_or_pos m with h | h
  · exact natLimbs_zero v0 z0 m w A0 s0 h (by omega)
  · exact natLimbs_pos v0 z0 m w A0 s0 h (by omega)

end Go.Proofs.Ythpihbofcgeljaa
