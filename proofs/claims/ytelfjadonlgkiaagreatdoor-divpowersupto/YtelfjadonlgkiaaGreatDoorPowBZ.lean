/- Package div: Power. -/
import Derived.Test.YtelfjadonlgkiaaGreatDoorPowAZ
import Derived.Test.YtelfjadonlgkiaaGreatDoorQM
namespace Go.Proofs.YtelfjadonlgkiaaGreatDoor
open Go.RowKit
open Lm
attribute [local go_sem ↓] Go.wp_at_zero Go.wp_at_succ

theorem dPower_zero (va ve vm : Value) (M : List Nat) (w : World) (hA : Arg w vm M) (hM : val M = 0) :
    Calls Tryz.prog 4 #[va, ve, vm] w fun e w' => e = .returned (.tuple #[.slice none 0 0, .int .i64 30]) ∧ w' = w := by
  have HZ := isZero_any vm M w hA
  rw [decide_eq_true hM] at HZ
  obtain ⟨a1, k1, rfl, _, _, _⟩ := hA.form
  clear hA hM
  go_enter Tryz.func4, Tryz.ntmps4
  go_wp2_with fail
  refine HZ.mono ?_
  rintro e wn ⟨rfl, hw⟩; subst hw
  clear HZ
  go_wp2
  go_returns
  exact ⟨rfl, rfl⟩

/-- A list of two limbs or more, and normal, is above one limb. -/
theorem tr_two {Z : List Nat} (h : ¬ (tr Z).length ≤ 1) : 18446744073709551616 ≤ val Z := by
  refine Nat.le_of_not_lt fun hlt => h ?_
  exact tr_len_lt Z 1 (by simpa using hlt)

set_option maxRecDepth 20000 in
set_option maxHeartbeats 2000000 in
theorem dPower_any (va ve vm : Value) (X E M : List Nat) (w : World) (hA : Arg w va X) (hA2 : Arg w ve E) (hA3 : Arg w vm M) (hT : Tab w) (hf1 : X.length ≤ 17592186044416) (hf3 : M.length ≤ 35184372088000) (hfm : (tr M).length ≤ 1000000000000) (hM : val M ≠ 0) :
    Calls Tryz.prog 4 #[va, ve, vm] w fun e w' => Below w.heap.size w w' ∧ Res w' w.heap.size e (val X ^ val E % val M) := by
  obtain ⟨r, hr⟩ : ∃ r, val X ^ val E % val M = r := ⟨_, rfl⟩
  rw [hr]
  have HRR := hide hr
  clear hr
  have HZ := isZero_any vm M w hA3
  rw [decide_eq_false hM] at HZ
  have HDV := divisorOf_any vm M w hA3 hT hM hf3
  have HA := hide hA
  have HA2 := hide hA2
  have HA3 := hide hA3
  have HT := hide hT
  have HM := hide (Nat.pos_of_ne_zero hM)
  have hbits : blen (val E) ≤ 64 * E.length := (blen_le_iff _ _).2 (by have := val_lt hA2.limbs; rw [show (18446744073709551616 : Nat) = 2 ^ 64 from rfl, ← Nat.pow_mul] at this; exact this)
  have hfew := hA2.few
  obtain ⟨a1, k1, rfl, _, _, _⟩ := hA.form
  obtain ⟨a2, k2, rfl, _, _, _⟩ := hA2.form
  obtain ⟨a3, k3, rfl, _, _, _⟩ := hA3.form
  clear hA hA2 hA3 hT hM
  go_enter Tryz.func4, Tryz.ntmps4
  go_wp2_with fail
  refine HZ.mono ?_
  rintro e wn ⟨rfl, hw⟩; rw [hw]; clear hw wn HZ
  go_wp2_with fail
  refine HDV.mono ?_
  rintro e w1 ⟨⟨vd, rfl, hd⟩, hb1⟩
  have hd0 := hd
  obtain ⟨g, nn, s, j, h, V, rfl, hg, hV, lV, hj, ht, hs, eV, eB, en, hnf⟩ := hd
  obtain ⟨w2, hw2⟩ : ∃ w2, w2 = w1.alloc (.cells #[.slice (some ⟨g, 0, none⟩) V.length V.length, .int .i64 nn, .int .i64 s] 37) := ⟨_, rfl⟩
  have hbel2 : Below w1.heap.size w1 w2 := by rw [hw2]; exact (Below.refl _ _).alloc (Nat.le_refl _) _
  have hb2 : w2.heap[w1.heap.size]? = some (.cells #[.slice (some ⟨g, 0, none⟩) V.length V.length, .int .i64 nn, .int .i64 s] 37) := by rw [hw2]; exact heap_alloc_new ..
  have HB2 := hide (hb1.trans (hbel2.mono hb1.size))
  have HD2 := hide (hd0.below hbel2)
  have H1 := rest_any _ _ X _ _ _ w2 (HA.out.below HB2.out) HD2.out (HT.out.below HB2.out) (by omega)
  have HBX := hide hb2
  obtain ⟨hk0, hk1, hk2⟩ := box3 hb2
  rw [hw2] at hk0 hk1 hk2
  have HW2 := hide hw2
  have hlt12 : w1.heap.size < w2.heap.size := by rw [hw2]; simp
  clear hd0 hV lV hj ht eV eB en hb2 hw2 hbel2 hb1 HDV
  go_wp2_with fail
  rw [← HW2.out]
  refine H1.mono ?_
  rintro e w3 ⟨⟨vb, bs, rfl, Ab, eb, lb, _⟩, hb3⟩
  have HB3 := hide (HB2.out.trans (hb3.mono HB2.out.size))
  have HX3 := hide ((hb3.block w1.heap.size hlt12).trans HBX.out)
  have HD3 := hide (HD2.out.below hb3)
  have HS := small_any _ M w3 (HA3.out.below HB3.out)
  have HAB := hide (And.intro (Ab.arg (by omega)) eb)
  clear Ab eb hb3 H1 hk0 hk1 hk2 HBX HD2
  by_cases hsm : (tr M).length ≤ 1
  · rw [decide_eq_true hsm, if_pos hsm] at HS
    have hm1 : val M < 18446744073709551616 := by
      have h1 := val_lt (limbs_tr HA3.out.limbs)
      rw [val_tr] at h1
      exact Nat.lt_of_lt_of_le h1 (Nat.le_trans (Nat.pow_le_pow_right (by omega) hsm) (by simp))
    have hg0 : (tr M).getD 0 0 = val M := (tr_one HM.out hm1).2
    rw [hg0] at HS
    have hbv : val bs < 18446744073709551616 := by rw [HAB.out.2]; exact Nat.lt_trans (Nat.mod_lt _ HM.out) hm1
    have hl0 : limbI bs 0 = val bs := by
      unfold limbI
      rw [if_neg (by omega)]
      match bs, hbv with
      | [], _ => rfl
      | a :: r, hbv =>
        simp only [val] at hbv ⊢
        have : val r = 0 := by omega
        rw [this]; simp
    obtain ⟨ab, kb, rfl, _, _, hlb⟩ := HAB.out.1.form
    have HL := dlimb_any ab kb bs 0 w3 (by omega) (by omega) (by omega) hlb
    rw [hl0, HAB.out.2] at HL
    have HP := limbPower_any (val X % val M) (val M) (val X) _ E w3 (HA2.out.below HB3.out) hm1 HM.out rfl
    rw [HRR.out] at HP
    have hr1 : r < 18446744073709551616 := by rw [← HRR.out]; exact Nat.lt_trans (Nat.mod_lt _ HM.out) hm1
    have hxm : val X % val M < 18446744073709551616 := Nat.lt_trans (Nat.mod_lt _ HM.out) hm1
    generalize val X % val M = xm at *
    generalize val M = mm at *
    clear hlb hl0 hg0 hbv
    go_wp2_with fail
    refine HS.mono ?_
    rintro e wn ⟨rfl, hw⟩; rw [hw]; clear hw wn HS
    go_wp2_with fail
    refine HL.mono ?_
    rintro e wn ⟨rfl, hw⟩; rw [hw]; clear hw wn HL
    go_wp2_with fail
    refine HP.mono ?_
    rintro e w4 ⟨rfl, hb4⟩
    have HF := from_any r w4 hr1
    have HB4 := hide (HB3.out.trans (hb4.mono HB3.out.size))
    clear HP hb4
    go_wp2_with fail
    refine HF.mono ?_
    rintro e w5 ⟨⟨v5, rfl, A5⟩, hb5⟩
    have HX : Hid (Below w.heap.size w w5 ∧ Res w5 w.heap.size (.returned (.tuple #[v5, .int .i64 0])) r) := by
      refine hide ⟨HB4.out.trans (hb5.mono HB4.out.size), v5, 0, tr [r], rfl, A5.base HB4.out.size, .inl ⟨rfl, by rw [val_tr]; simp [val], tr_tr _, ?_⟩⟩
      have : blen r ≤ 64 := (blen_le_iff r 64).2 hr1
      omega
    clear HF A5 hb5
    go_wp2
    go_ret2
    exact HX.out
  · rw [decide_eq_false hsm, if_neg hsm] at HS
    have hm2 := tr_two hsm
    obtain ⟨L, hL⟩ : ∃ L, blen (val E) = L := ⟨_, rfl⟩
    have hE0 : val E / 2 ^ L = 0 := Nat.div_eq_of_lt ((blen_le_iff _ _).1 (by omega))
    obtain ⟨w4, hw4⟩ : ∃ w4, w4 = w3.alloc (.cells #[.int .u64 1] 40) := ⟨_, rfl⟩
    have hbel4 : Below w3.heap.size w3 w4 := by rw [hw4]; exact (Below.refl _ _).alloc (Nat.le_refl _) _
    have HB4 := hide (HB3.out.trans (hbel4.mono HB3.out.size))
    have HX4 := hide ((hbel4.block w1.heap.size (lt_of_block HX3.out)).trans HX3.out)
    have HD4 := hide (HD3.out.below hbel4)
    have HAB4 := hide (HAB.out.1.below hbel4)
    have HEB := hide HAB.out.2
    have hbk : Blk w4 w3.heap.size [1] := by rw [hw4]; exact heap_alloc_new ..
    have A4 := Ans.of_blk (base := w.heap.size) (zs := [1]) HB3.out.size hbk (by simp) (by simp) (by simp) (by intro z hz; simp at hz; omega)
    have HL := length_val _ _ w4 (HA2.out.below HB4.out)
    rw [hL] at HL hbits
    have START : Hid (Ans w4 w.heap.size (.slice (some ⟨w3.heap.size, 0, none⟩) 1 1) [1] ∧ val [1] = val X ^ (val E / 2 ^ L) % val M) := by
      rw [hE0, Nat.pow_zero, Nat.mod_eq_of_lt (by omega)]
      exact hide ⟨A4, by simp [val]⟩
    have hn1 : 1 ≤ (tr M).length := by omega
    have hmv : val M < 18446744073709551616 ^ (tr M).length := by have := val_lt (limbs_tr HA3.out.limbs); rw [val_tr] at this; exact this
    have HMV := hide hmv
    have HW4 := hide hw4
    have lb2 : bs.length ≤ 17592186044416 := by omega
    clear A4 hbk hbel4 hw4 hE0 hL hm2 HX3 HD3 HAB hmv hsm
    go_wp2_with fail
    refine HS.mono ?_
    rintro e wn ⟨rfl, hw⟩; rw [hw]; clear hw wn HS
    go_wp2_with fail
    rw [← HW4.out]
    refine HL.mono ?_
    rintro e wn ⟨rfl, hw⟩; rw [hw]; clear hw wn HL
    go_wp2
    go_loopw [12, 13] (fun v i wr => ∃ (k : Nat) (v' : Value) (rs : List Nat), k ≤ L ∧ v = v' ∧ i = .int .i64 ((k : Int) - 1) ∧ Ans wr w.heap.size v' rs ∧ val rs = val X ^ (val E / 2 ^ k) % val M ∧ rs.length ≤ 2 * (tr M).length ∧ Below w4.heap.size w4 wr) (fun _ i _ => (intOf i + 1).toNat)
    case atStart => exact ⟨L, _, [1], Nat.le_refl _, rfl, rfl, START.out.1, START.out.2, by simp; omega, Below.refl _ _⟩
    case round =>
      obtain ⟨k, v', rs, hk, rfl, rfl, hans, hval, hlen, hbel⟩ := hrel
      have HN := hide (And.intro hans hval)
      have HBW := hide hbel
      clear hans hval hbel START
      by_cases hk0 : k = 0
      · subst hk0
        have hval := HN.out.2
        rw [Nat.pow_zero, Nat.div_one, HRR.out] at hval
        have HQ := danswer_own _ w.heap.size rs wr HN.out.1 (by omega)
        rw [hval] at HQ
        clear hval
        go_wp2_with fail
        refine HQ.mono ?_
        rintro e wn ⟨hw, v5, c5, r5, rfl, An5, hres⟩; subst hw
        have H5 := hide (And.intro An5 hres)
        clear HQ An5 hres
        go_wp2
        go_returns
        exact ⟨HB4.out.trans (HBW.out.mono HB4.out.size), v5, _, r5, rfl, H5.out.1, H5.out.2⟩
      · obtain ⟨i, rfl⟩ : ∃ i, k = i + 1 := ⟨k - 1, by omega⟩
        have ej : (((i + 1 : Nat) : Int) - 1) = (i : Int) := by omega
        rw [ej]
        have hi0 : (0 : Int) ≤ (i : Int) := by omega
        clear hk0 ej
        obtain ⟨hj0, hj1, hj2⟩ := box3 ((HBW.out.block w1.heap.size (lt_of_block HX4.out)).trans HX4.out)
        have AR := (HN.out.1.arg (by omega)).drew
        have hTr := hide (HT.out.below (HB4.out.trans (HBW.out.mono HB4.out.size)))
        have HPR := dproduct_any (rs.length + rs.length + 1) rs rs _ _ wr.drew (by omega) (by omega) AR AR (hTr.out.below (Below.refl _ _).drew)
        rw [HN.out.2] at HPR
        have HRS := hide (fun (w5 : World) (v5 : Value) (r5 : List Nat) (p : Nat) (wz : World) (hz : Below wz.heap.size wz w5) (hz4 : Below w4.heap.size w4 wz) (A5 : Ans w5 wz.heap.size v5 r5) (t5 : tr r5 = r5) (e5 : val r5 = p) (hp : p < val M * val M) =>
          show Calls Tryz.prog 12 #[.agg #[.slice (some ⟨g, 0, none⟩) V.length V.length, .int .i64 nn, .int .i64 s], v5] w5 (RestDone w5 p (val M) (2 * (tr M).length)) by
            have hl5 : r5.length ≤ 2 * (tr M).length := by
              have h1 := tr_len_lt r5 (2 * (tr M).length) (by
                rw [e5, Nat.two_mul, Nat.pow_add]
                exact Nat.lt_of_lt_of_le hp (Nat.mul_le_mul (Nat.le_of_lt HMV.out) (Nat.le_of_lt HMV.out)))
              rw [t5] at h1; exact h1
            have hb5 := hz4.trans (hz.mono hz4.size)
            have h := rest_any v5 _ r5 _ _ _ w5 (A5.arg (by omega)) (HD4.out.below hb5) (HT.out.below (HB4.out.trans (hb5.mono HB4.out.size))) (by omega)
            rw [e5] at h
            refine h.mono ?_
            rintro e w6 ⟨⟨vr, rs', rfl, B2, f2, m2, m3⟩, hb6⟩
            exact ⟨⟨vr, rs', rfl, B2, f2, by omega, m3⟩, hb6⟩)
        have hp1 : val X ^ (val E / 2 ^ (i + 1)) % val M * (val X ^ (val E / 2 ^ (i + 1)) % val M) < val M * val M := Nat.mul_lt_mul_of_lt_of_lt (Nat.mod_lt _ HM.out) (Nat.mod_lt _ HM.out)
        clear AR
        have hsb : w1.heap.size < wr.drew.heap.size := by
          show w1.heap.size < wr.heap.size
          have := lt_of_block HX4.out
          have := HBW.out.size
          omega
        have HXR := hide ((HBW.out.block w1.heap.size (lt_of_block HX4.out)).trans HX4.out)
        go_wp2
        go_region_held3 (fun w' => w'.cell? ⟨w1.heap.size, 0, none⟩ = some (.slice (some ⟨g, 0, none⟩) V.length V.length) ∧ w'.cell? ⟨w1.heap.size, 1, none⟩ = some (.int .i64 nn) ∧ w'.cell? ⟨w1.heap.size, 2, none⟩ = some (.int .i64 s)) (go_keep) (first
          | (go_at_call 18; refine HPR.mono ?_; rintro e w5 ⟨⟨v5, r5, rfl, A5, t5, e5⟩, hb5⟩; obtain ⟨hx0, hx1, hx2⟩ := box3 ((hb5.block w1.heap.size hsb).trans HXR.out))
          | (go_at_call 12; refine (HRS.out _ _ _ _ _ hb5 HBW.out.drew A5 t5 e5 hp1).mono ?_; rintro e w6 ⟨⟨v6, r6, rfl, A6, e6, l6, _⟩, hb6⟩; obtain ⟨hy0, hy1, hy2⟩ := box3 ((hb6.block w1.heap.size (Nat.lt_of_lt_of_le hsb hb5.size)).trans ((hb5.block w1.heap.size hsb).trans HXR.out))))
        have hb4 : Below w4.heap.size w4 w6 := by
          have q1 := HBW.out.drew
          have q2 := q1.trans (hb5.mono q1.size)
          exact q2.trans (hb6.mono q2.size)
        have HB6 := hide hb4
        have hwsz : w.heap.size ≤ w5.heap.size := by
          have := HB4.out.size
          have := HBW.out.size
          have := hb5.size
          have : wr.drew.heap.size = wr.heap.size := rfl
          omega
        rw [pow_double] at e6
        have HN6 := hide (And.intro (A6.base hwsz) e6)
        have HXX := hide ((hb4.block w1.heap.size (lt_of_block HX4.out)).trans HX4.out)
        have HB := nbit_any _ E (i : Int) w6 (HA2.out.below (HB4.out.trans (hb4.mono HB4.out.size))) (by omega) (by omega)
        have hbit : bitI (val E) (i : Int) = val E / 2 ^ i % 2 := by unfold bitI; rw [if_neg (by omega), Int.toNat_natCast]
        rw [hbit] at HB
        have hn := bits_next (val E) i
        clear A5 t5 e5 hb5 A6 e6 hb6 hb4 hwsz hbit HPR hx0 hx1 hx2 hy0 hy1 hy2 hj0 hj1 hj2 HN hp1
        rcases Nat.mod_two_eq_zero_or_one (val E / 2 ^ i) with hb0 | hb1
        · rw [hb0] at HB hn
          have HN0 : Hid (val r6 = val X ^ (val E / 2 ^ i) % val M) := by rw [hn, Nat.add_zero]; exact hide HN6.out.2
          clear hn hb0
          go_wp2_with fail
          refine HB.mono ?_
          rintro e wn ⟨rfl, hw⟩; rw [hw]; clear hw wn HB
          go_wp2
          go_roundw
          case rel => exact ⟨i, _, r6, by omega, rfl, rfl, HN6.out.1, HN0.out, l6, HB6.out⟩
          case measure => simp [intOf]
        · rw [hb1] at HB hn
          have HNN := hide hn
          clear hn hb1
          go_wp2_with fail
          refine HB.mono ?_
          rintro e wn ⟨rfl, hw⟩; rw [hw]; clear hw wn HB
          obtain ⟨hj0, hj1, hj2⟩ := box3 HXX.out
          have HPR := dproduct_any (r6.length + bs.length + 1) r6 bs _ _ w6.drew (by omega) (by omega) (HN6.out.1.arg (by omega)).drew (HAB4.out.below HB6.out).drew (HT.out.below (HB4.out.trans (HB6.out.mono HB4.out.size)).drew)
          rw [HN6.out.2, HEB.out] at HPR
          have hp1 : val X ^ (2 * (val E / 2 ^ (i + 1))) % val M * (val X % val M) < val M * val M := Nat.mul_lt_mul_of_lt_of_lt (Nat.mod_lt _ HM.out) (Nat.mod_lt _ HM.out)
          have hsb6 : w1.heap.size < w6.drew.heap.size := by
            show w1.heap.size < w6.heap.size
            have := lt_of_block HX4.out
            have := HB6.out.size
            omega
          go_wp2
          go_region_held3 (fun w' => w'.cell? ⟨w1.heap.size, 0, none⟩ = some (.slice (some ⟨g, 0, none⟩) V.length V.length) ∧ w'.cell? ⟨w1.heap.size, 1, none⟩ = some (.int .i64 nn) ∧ w'.cell? ⟨w1.heap.size, 2, none⟩ = some (.int .i64 s)) (go_keep) (first
            | (go_at_call 18; refine HPR.mono ?_; rintro e w7 ⟨⟨v7, r7, rfl, A7, t7, e7⟩, hb7⟩; obtain ⟨hx0, hx1, hx2⟩ := box3 ((hb7.block w1.heap.size hsb6).trans HXX.out))
            | (go_at_call 12; refine (HRS.out _ _ _ _ _ hb7 HB6.out.drew A7 t7 e7 hp1).mono ?_; rintro e w8 ⟨⟨v8, r8, rfl, A8, e8, l8, _⟩, hb8⟩; obtain ⟨hy0, hy1, hy2⟩ := box3 ((hb8.block w1.heap.size (Nat.lt_of_lt_of_le hsb6 hb7.size)).trans ((hb7.block w1.heap.size hsb6).trans HXX.out))))
          have HN0 : Hid (val r8 = val X ^ (val E / 2 ^ i) % val M) := by
            rw [e8, HNN.out]; exact hide (pow_more _ _ _)
          have HB8 : Hid (Below w4.heap.size w4 w8) := by
            have q1 := HB6.out.drew
            have q2 := q1.trans (hb7.mono q1.size)
            exact hide (q2.trans (hb8.mono q2.size))
          have HA8 := hide (A8.base (show w.heap.size ≤ w7.heap.size by
            have := HB4.out.size
            have := HB6.out.size
            have := hb7.size
            have : w6.drew.heap.size = w6.heap.size := rfl
            omega))
          clear A7 t7 e7 hb7 A8 e8 hb8 HPR hx0 hx1 hx2 hy0 hy1 hy2 hj0 hj1 hj2 hp1
          go_wp2
          go_roundw
          case rel => exact ⟨i, _, r8, by omega, rfl, rfl, HA8.out, HN0.out, l8, HB8.out⟩
          case measure => simp [intOf]

end Go.Proofs.YtelfjadonlgkiaaGreatDoor
