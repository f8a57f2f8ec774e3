/- The walk of the law RootNewton. -/
import Derived.Test.YtefdjmgnnkiddaaDoorQU
namespace Go.Proofs.YtefdjmgnnkiddaaDoor
open Go.RowKit
open Lm
attribute [local go_sem ↓] Go.wp_at_zero Go.wp_at_succ

namespace Lm

/-- At the root a step is at most one more. -/
theorem newton_at {v s : Nat} (h : IsRoot2 v s) (hs : 0 < s) : (s + v / s) / 2 ≤ s + 1 := by
  have h2 : v / s ≤ s + 2 := by
    have h3 : v < (s + 3) * s := by
      have := h.2
      have e1 : (s + 1) * (s + 1) = s * s + 2 * s + 1 := by grind
      have e2 : (s + 3) * s = s * s + 3 * s := by grind
      omega
    have := (Nat.div_lt_iff_lt_mul hs).2 h3
    omega
  omega

end Lm

set_option maxRecDepth 100000 in
set_option maxHeartbeats 4000000 in
theorem rootNewton_walk (v0 : Value) (z0 : List Nat) (v1 : Value) (z1 : List Nat) (w : World) (hT : Tab w) (A0 : Arg w v0 z0) (s0 : z0.length ≤ 17592186043904) (A1 : Arg w v1 z1) (s1 : z1.length ≤ 17592186043904) :
    Calls Tryd.prog 5 #[v0, v1] w fun e w' => e = .returned (.bool true) ∧ Below w.heap.size w w' := by
  have H : Hid (Below w.heap.size w w) := Below.refl _ _
  have HT := hide hT
  clear hT
  by_cases hz : val z1 = 0
  · have hzb : (val z1 == 0) = true := by rw [hz]; rfl
    go_enter Tryd.func5, Tryd.ntmps5
    have HO := of_any _ _ _ A0 (by omega)
    go_wp2_with fail
    refine HO.mono ?_
    rintro e w2 ⟨⟨vx, rfl, Nx⟩, hb⟩
    replace H := hid_below H hb; replace A0 := A0.below hb; replace A1 := A1.below hb; clear hb HO
    have HO := of_any _ _ _ A1 (by omega)
    go_wp2_with fail
    refine HO.mono ?_
    rintro e w3 ⟨⟨vy, rfl, Ny⟩, hb⟩
    replace H := hid_below H hb; replace A0 := A0.below hb; replace A1 := A1.below hb; replace Nx := Nx.below hb; clear hb HO
    have HZ := zero_any vy _ w3 Ny
    rw [hzb] at HZ
    clear Nx Ny A0 A1
    go_wp2_with fail
    refine HZ.mono ?_
    rintro e wn ⟨rfl, hw⟩; rw [hw]; clear hw wn HZ
    have HA := awake4_any w3
    go_wp2_with fail
    refine HA.mono ?_
    rintro e w9 ⟨rfl, hb⟩
    replace H := hid_below H hb; clear hb HA
    go_wp2
    go_ret
    exact ⟨rfl, H.out⟩
  · have hzb : (val z1 == 0) = false := by rw [beq_eq_false_iff_ne]; exact hz
    by_cases h1 : 67108862 < blen (val z0)
    · have i1 : (67108862 : Int) < ((blen (val z0) : Nat) : Int) := by omega
      go_enter Tryd.func5, Tryd.ntmps5
      have HO := of_any _ _ _ A0 (by omega)
      go_wp2_with fail
      refine HO.mono ?_
      rintro e w2 ⟨⟨vx, rfl, Nx⟩, hb⟩
      replace H := hid_below H hb; replace A0 := A0.below hb; replace A1 := A1.below hb; clear hb HO
      have HO := of_any _ _ _ A1 (by omega)
      go_wp2_with fail
      refine HO.mono ?_
      rintro e w3 ⟨⟨vy, rfl, Ny⟩, hb⟩
      replace H := hid_below H hb; replace A0 := A0.below hb; replace A1 := A1.below hb; replace Nx := Nx.below hb; clear hb HO
      have HZ := zero_any vy _ w3 Ny
      rw [hzb] at HZ
      have HL := len_any vx _ w3 Nx
      clear Nx Ny A0 A1 h1
      generalize blen (val z0) = l0 at *
      go_wp2_with fail
      refine HZ.mono ?_
      rintro e wn ⟨rfl, hw⟩; rw [hw]; clear hw wn HZ
      go_wp2_with fail
      refine HL.mono ?_
      rintro e wn ⟨rfl, hw⟩; rw [hw]; clear hw wn HL
      have HA := awake4_any w3
      go_wp2_with fail
      refine HA.mono ?_
      rintro e w9 ⟨rfl, hb⟩
      replace H := hid_below H hb; clear hb HA
      go_wp2
      go_ret
      exact ⟨rfl, H.out⟩
    · have i1 : ¬ (67108862 : Int) < ((blen (val z0) : Nat) : Int) := by omega
      by_cases h2 : 67108862 < blen (val z1)
      · have i2 : (67108862 : Int) < ((blen (val z1) : Nat) : Int) := by omega
        go_enter Tryd.func5, Tryd.ntmps5
        have HO := of_any _ _ _ A0 (by omega)
        go_wp2_with fail
        refine HO.mono ?_
        rintro e w2 ⟨⟨vx, rfl, Nx⟩, hb⟩
        replace H := hid_below H hb; replace A0 := A0.below hb; replace A1 := A1.below hb; clear hb HO
        have HO := of_any _ _ _ A1 (by omega)
        go_wp2_with fail
        refine HO.mono ?_
        rintro e w3 ⟨⟨vy, rfl, Ny⟩, hb⟩
        replace H := hid_below H hb; replace A0 := A0.below hb; replace A1 := A1.below hb; replace Nx := Nx.below hb; clear hb HO
        have HZ := zero_any vy _ w3 Ny
        rw [hzb] at HZ
        have HL := len_any vx _ w3 Nx
        have HL2 := len_any vy _ w3 Ny
        clear Nx Ny A0 A1 h1 h2
        generalize blen (val z0) = l0 at *
        generalize blen (val z1) = l1 at *
        go_wp2_with fail
        refine HZ.mono ?_
        rintro e wn ⟨rfl, hw⟩; rw [hw]; clear hw wn HZ
        go_wp2_with fail
        refine HL.mono ?_
        rintro e wn ⟨rfl, hw⟩; rw [hw]; clear hw wn HL
        go_wp2_with fail
        refine HL2.mono ?_
        rintro e wn ⟨rfl, hw⟩; rw [hw]; clear hw wn HL2
        have HA := awake4_any w3
        go_wp2_with fail
        refine HA.mono ?_
        rintro e w9 ⟨rfl, hb⟩
        replace H := hid_below H hb; clear hb HA
        go_wp2
        go_ret
        exact ⟨rfl, H.out⟩
      · have i2 : ¬ (67108862 : Int) < ((blen (val z1) : Nat) : Int) := by omega
        obtain ⟨s, hs⟩ := root2_is (val z0)
        have hyp : 0 < val z1 := by omega
        have hge := newton_ge hs hyp
        have hbt : blen ((val z1 + val z0 / val z1) / 2) ≤ 67108864 := by
          have b0 := (blen_le_iff (val z0) 67108862).1 (by omega)
          have b1 := (blen_le_iff (val z1) 67108862).1 (by omega)
          obtain ⟨K, hK⟩ : ∃ K, 67108862 = K := ⟨_, rfl⟩
          rw [hK] at b0 b1
          have hq := Nat.div_le_self (val z0) (val z1)
          have := (blen_le_iff ((val z1 + val z0 / val z1) / 2) (K + 1)).2 (by rw [Nat.pow_succ]; omega)
          omega
        have hbs : blen s ≤ 67108864 := Nat.le_trans (blen_mono hge) hbt
        have hbr : blen (val z0 - s * s) ≤ 67108864 := by
          have := blen_mono (Nat.sub_le (val z0) (s * s))
          omega
        obtain ⟨t, ht⟩ : ∃ t, (val z1 + val z0 / val z1) / 2 = t := ⟨_, rfl⟩
        have hst : ¬ cmpN t s < 0 := by
          rw [ht] at hge
          have := cmpN_ge hge
          omega
        have hfall : s < val z1 → t < val z1 := by
          intro h
          refine Nat.lt_of_not_le fun h3 => ?_
          have := newton_end hs hyp (Nat.le_of_lt h) (by rw [ht]; exact h3)
          omega
        have hstay : val z1 = s → t ≤ val z1 + 1 := by
          intro h
          have := newton_at hs (by omega)
          rw [h] at ht
          rw [ht] at this
          omega
        have HH := hide (And.intro hs (And.intro hyp (And.intro hfall (And.intro hstay (And.intro hbt (And.intro hbs hbr))))))
        have HI := hide (And.intro h1 (And.intro h2 ht))
        clear hge hfall hstay hbt hbs hbr hyp hs h1 h2 ht
        go_enter Tryd.func5, Tryd.ntmps5
        have HO := of_any _ _ _ A0 (by omega)
        go_wp2_with fail
        refine HO.mono ?_
        rintro e w2 ⟨⟨vx, rfl, Nx⟩, hb⟩
        replace H := hid_below H hb; replace A0 := A0.below hb; replace A1 := A1.below hb; clear hb HO
        have HO := of_any _ _ _ A1 (by omega)
        go_wp2_with fail
        refine HO.mono ?_
        rintro e w3 ⟨⟨vy, rfl, Ny⟩, hb⟩
        replace H := hid_below H hb; replace A0 := A0.below hb; replace A1 := A1.below hb; replace Nx := Nx.below hb; clear hb HO
        have HZ := zero_any vy _ w3 Ny
        rw [hzb] at HZ
        have HL := len_any vx _ w3 Nx
        have HL2 := len_any vy _ w3 Ny
        obtain ⟨l0, hl0⟩ : ∃ l0, blen (val z0) = l0 := ⟨_, rfl⟩
        obtain ⟨l1, hl1⟩ : ∃ l1, blen (val z1) = l1 := ⟨_, rfl⟩
        rw [hl0] at HL i1
        rw [hl1] at HL2 i2
        clear Nx hl0 hl1
        go_wp2_with fail
        refine HZ.mono ?_
        rintro e wn ⟨rfl, hw⟩; rw [hw]; clear hw wn HZ
        go_wp2_with fail
        refine HL.mono ?_
        rintro e wn ⟨rfl, hw⟩; rw [hw]; clear hw wn HL
        go_wp2_with fail
        refine HL2.mono ?_
        rintro e wn ⟨rfl, hw⟩; rw [hw]; clear hw wn HL2
        have HS := rsqrt_any v0 z0 s w3 A0 (HT.out.below H.out) (by omega) HH.out.1
        go_wp2_with fail
        refine HS.mono ?_
        rintro e w4 ⟨htell, hb⟩
        rcases htell with ⟨_, _, vp, vr, rfl, Np, _⟩ | ⟨hbad, _⟩
        rotate_left
        · have := HH.out.2.2.2.2.2; omega
        replace H := hid_below H hb; replace A0 := A0.below hb; replace A1 := A1.below hb; replace Ny := Ny.below hb; clear hb HS
        obtain ⟨rp, Ap, pp, _, lp⟩ := Np.arg (by have := HH.out.2.2.2.2.2.1; omega)
        have HS := rstep_any v0 v1 z0 z1 w4 A0 A1 (HT.out.below H.out) (by omega) (by omega) HH.out.2.1
        rw [HI.out.2.2] at HS
        clear Np A0 A1
        go_wp2_with fail
        refine HS.mono ?_
        rintro e w5 ⟨hb, v, c, rs, rfl, An, hres⟩
        have lr := Res.few An hres
        have As := An.arg (by omega)
        have hbt := HH.out.2.2.2.2.1
        rw [HI.out.2.2] at hbt
        rcases hres with ⟨rfl, ps, _, _⟩ | ⟨_, _, hbad⟩
        rotate_left
        · omega
        replace H := hid_below H hb; replace Ny := Ny.below hb; replace Ap := Ap.below hb; clear hb HS An
        have PP := hide (And.intro pp ps)
        clear pp ps hbt
        go_wp2_with fail
        refine (num4_any 0 w5).mono ?_
        rintro e wn ⟨rfl, hw⟩; rw [hw]; clear hw wn
        go_wp2_with fail
        refine (num4_any 0 w5).mono ?_
        rintro e wn ⟨rfl, hw⟩; rw [hw]; clear hw wn
        have HO := of4_any v rs w5 As (by omega)
        go_wp2_with fail
        refine HO.mono ?_
        rintro e w6 ⟨⟨vs1, rfl, Ns1⟩, hb⟩
        replace H := hid_below H hb; replace Ny := Ny.below hb; replace Ap := Ap.below hb; replace As := As.below hb
        clear hb HO
        have HO := of4_any vp rp w6 Ap (by omega)
        go_wp2_with fail
        refine HO.mono ?_
        rintro e w7 ⟨⟨vp1, rfl, Np1⟩, hb⟩
        replace H := hid_below H hb; replace Ny := Ny.below hb; replace Ap := Ap.below hb; replace As := As.below hb
        replace Ns1 := Ns1.below hb
        clear hb HO
        have HC := rcmp_any vs1 vp1 _ _ w7 Ns1 Np1
        rw [PP.out.1, PP.out.2] at HC
        obtain ⟨cc, hcc⟩ : ∃ cc, cmpN t s = cc := ⟨_, rfl⟩
        rw [hcc] at HC hst
        clear Ns1 Np1 hcc
        go_wp2_with fail
        refine HC.mono ?_
        rintro e w8 ⟨rfl, hsm⟩
        have hb := hsm.below w7.heap.size
        replace H := hid_below H hb; replace Ny := Ny.below hb; replace Ap := Ap.below hb; replace As := As.below hb
        clear hb hsm HC
        have hcd : decide (cc < 0) = false := decide_eq_false (by omega)
        have HO := of4_any vp rp w8 Ap (by omega)
        go_wp2_with fail
        refine HO.mono ?_
        rintro e w10 ⟨⟨vp2, rfl, Np2⟩, hb⟩
        replace H := hid_below H hb; replace Ny := Ny.below hb; replace Ap := Ap.below hb; replace As := As.below hb
        clear hb HO Ap
        have HC := rcmp_any vy vp2 _ _ w10 Ny Np2
        rw [PP.out.1] at HC
        clear Np2
        rcases cmpN_range (val z1) s with ⟨hx, h01⟩ | ⟨hx, h01⟩ | ⟨hx, h01⟩
        · rw [hx] at HC
          clear Ny As hx h01
          go_wp2_with fail
          refine HC.mono ?_
          rintro e w11 ⟨rfl, hsm⟩
          have hb := hsm.below w10.heap.size
          replace H := hid_below H hb
          clear hb hsm HC
          have HA := awake4_any w11
          go_wp2_with fail
          refine HA.mono ?_
          rintro e w9 ⟨rfl, hb⟩
          replace H := hid_below H hb; clear hb HA
          go_wp2
          go_ret
          exact ⟨rfl, H.out⟩
        · rw [hx] at HC
          go_wp2_with fail
          refine HC.mono ?_
          rintro e w11 ⟨rfl, hsm⟩
          have hb := hsm.below w10.heap.size
          replace H := hid_below H hb; replace Ny := Ny.below hb; replace As := As.below hb
          clear hb hsm HC
          have HO := of4_any v rs w11 As (by omega)
          go_wp2_with fail
          refine HO.mono ?_
          rintro e w12 ⟨⟨vs2, rfl, Ns2⟩, hb⟩
          replace H := hid_below H hb; replace Ny := Ny.below hb
          clear hb HO As
          have HO := one4_any w12
          go_wp2_with fail
          refine HO.mono ?_
          rintro e w13 ⟨⟨vo, rfl, No⟩, hb⟩
          replace H := hid_below H hb; replace Ny := Ny.below hb; replace Ns2 := Ns2.below hb
          clear hb HO
          have HO := radd_any vy vo _ _ w13 Ny No (by have := HI.out.2.1; omega) (by rw [show blen 1 = 1 from rfl]; omega)
          clear Ny No
          go_wp2_with fail
          refine HO.mono ?_
          rintro e w14 ⟨⟨va, rfl, Na⟩, hb⟩
          replace H := hid_below H hb; replace Ns2 := Ns2.below hb
          clear hb HO
          have HC := rcmp_any vs2 va _ _ w14 Ns2 Na
          rw [PP.out.2] at HC
          have hle : cmpN t (val z1 + 1) ≤ 0 := by
            have := HH.out.2.2.2.1 h01
            unfold cmpN
            split
            · omega
            · rw [if_neg (by omega)]; omega
          obtain ⟨cc, hcc⟩ : ∃ cc, cmpN t (val z1 + 1) = cc := ⟨_, rfl⟩
          rw [hcc] at HC hle
          clear Ns2 Na hcc hx h01
          go_wp2_with fail
          refine HC.mono ?_
          rintro e w15 ⟨rfl, hsm⟩
          have hb := hsm.below w14.heap.size
          replace H := hid_below H hb
          clear hb hsm HC
          have HA := awake4_any w15
          go_wp2_with fail
          refine HA.mono ?_
          rintro e w9 ⟨rfl, hb⟩
          replace H := hid_below H hb; clear hb HA
          go_wp2
          go_ret
          exact ⟨rfl, H.out⟩
        · rw [hx] at HC
          go_wp2_with fail
          refine HC.mono ?_
          rintro e w11 ⟨rfl, hsm⟩
          have hb := hsm.below w10.heap.size
          replace H := hid_below H hb; replace Ny := Ny.below hb; replace As := As.below hb
          clear hb hsm HC
          have HO := of4_any v rs w11 As (by omega)
          go_wp2_with fail
          refine HO.mono ?_
          rintro e w12 ⟨⟨vs2, rfl, Ns2⟩, hb⟩
          replace H := hid_below H hb; replace Ny := Ny.below hb
          clear hb HO As
          have HC := rcmp_any vs2 vy _ _ w12 Ns2 Ny
          rw [PP.out.2, cmpN_lt (HH.out.2.2.1 h01)] at HC
          clear Ns2 Ny hx h01
          go_wp2_with fail
          refine HC.mono ?_
          rintro e w13 ⟨rfl, hsm⟩
          have hb := hsm.below w12.heap.size
          replace H := hid_below H hb
          clear hb hsm HC
          have HA := awake4_any w13
          go_wp2_with fail
          refine HA.mono ?_
          rintro e w9 ⟨rfl, hb⟩
          replace H := hid_below H hb; clear hb HA
          go_wp2
          go_ret
          exact ⟨rfl, H.out⟩

end Go.Proofs.YtefdjmgnnkiddaaDoor
