/- Package roots: second: its two answers lie apart. -/
import Derived.Test.YteecnckfkcmefaaGreatDoorQU
import Derived.Test.YteecnckfkcmefaaGreatDoorQV
import Derived.Test.YteecnckfkcmefaaGreatDoorQG
import Derived.Test.YteecnckfkcmefaaGreatDoorRootBZ
import Derived.Test.YteecnckfkcmefaaGreatDoorQP
namespace Go.Proofs.YteecnckfkcmefaaGreatDoor
open Go.RowKit
open Lm
attribute [local go_sem ↓] Go.wp_at_zero Go.wp_at_succ

/-- Two owned numbers, the second made behind the first. -/
def NbTwo (w : World) (x y : Nat) (e : Ending) (w' : World) : Prop := (∃ v1 v2 m, e = .returned (.tuple #[v1, v2]) ∧ Nb w' w.heap.size v1 x ∧ Nb w' m v2 y ∧ w.heap.size ≤ m ∧ m ≤ w'.heap.size ∧ ∀ g, v1.ownBlock = some g → g < m) ∧ Below w.heap.size w w'

theorem NbTwo.two {w : World} {x y : Nat} {e : Ending} {w' : World} (h : NbTwo w x y e w') : NbDone2 w x y e w' := by
  obtain ⟨⟨v1, v2, m, rfl, h1, h2, h3, _, _⟩, hb⟩ := h
  exact ⟨⟨v1, v2, rfl, h1, h2.base h3⟩, hb⟩

theorem Ans.top4 {w : World} {base : Nat} {v : Value} {zs : List Nat} (h : Ans w base v zs) : ∀ g, v.ownBlock = some g → g < w.heap.size := fun g hg => (h.own.lt g hg).2

theorem Nb.top {w : World} {base : Nat} {v : Value} {x : Nat} (h : Nb w base v x) : ∀ g, v.ownBlock = some g → g < w.heap.size := by
  obtain ⟨rs, ha, _⟩ := h
  exact ha.top4

theorem second_zero2 (vb : Value) (X : List Nat) (w : World) (hA : Arg w vb X) (hX : val X = 0) :
    Calls Tryz.prog 41 #[vb] w (NbTwo w 0 0) := by
  have HS := small_any vb X w hA
  have ht : tr X = [] := val_zero (tr_tr X) (by rw [val_tr]; exact hX)
  rw [ht] at HS
  have HS2 : Calls Tryz.prog 66 #[vb] w fun e w' => e = .returned (.tuple #[.int .u64 0, .bool true]) ∧ w' = w := HS
  have HF := nfrom 0 w (by omega)
  clear HS hA ht
  go_enter Tryz.func41, Tryz.ntmps41
  go_wp2_with fail
  refine HS2.mono ?_
  rintro e wn ⟨rfl, hw⟩; rw [hw]; clear hw wn HS2
  have HL : Calls Tryz.prog 67 #[.int .u64 0] w fun e w' => e = .returned (.int .u64 0) ∧ w' = w := by
    go_enter Tryz.func67, Tryz.ntmps67
    go_wp2
    go_ret
    exact ⟨rfl, rfl⟩
  go_wp2_with fail
  refine HL.mono ?_
  rintro e wn ⟨rfl, hw⟩; rw [hw]; clear hw wn HL
  go_wp2_with fail
  refine HF.mono ?_
  rintro e w1 ⟨⟨v1, rfl, n1⟩, hb1⟩
  have HF2 := nfrom 0 w1 (by omega)
  have H1 := hide (And.intro n1 hb1)
  clear n1 hb1 HF
  go_wp2_with fail
  refine HF2.mono ?_
  rintro e w2 ⟨⟨v2, rfl, n2⟩, hb2⟩
  have HD := hide (show NbTwo w 0 0 (.returned (.tuple #[v1, v2])) w2 from ⟨⟨v1, v2, w1.heap.size, rfl, H1.out.1.below hb2, n2, H1.out.2.size, hb2.size, H1.out.1.top⟩, H1.out.2.trans (hb2.mono H1.out.2.size)⟩)
  clear n2 hb2
  go_wp2
  go_returns
  exact HD.out

theorem second_small2 (vb : Value) (X : List Nat) (s : Nat) (w : World) (hA : Arg w vb X) (hX : 0 < val X) (h1 : (tr X).length ≤ 1) (hs : IsRoot2 (val X) s) :
    Calls Tryz.prog 41 #[vb] w (NbTwo w s (val X - s * s)) := by
  have HS := small_any vb X w hA
  rw [if_pos h1, decide_eq_true h1] at HS
  have hx1 : val X < 18446744073709551616 := by
    have h2 := val_lt (limbs_tr hA.limbs)
    rw [val_tr] at h2
    exact Nat.lt_of_lt_of_le h2 (Nat.le_trans (Nat.pow_le_pow_right (by omega) h1) (by simp))
  have hg : (tr X).getD 0 0 = val X := by
    rw [← val_tr X] at hX ⊢
    match h : tr X, h1, hX with
    | [], _, hX => simp [val] at hX
    | [a], _, _ => simp [val]
    | a :: b :: c, h1, _ => simp at h1
  rw [hg] at HS
  have HR := secondOfLimb_any (val X) s w hx1 hs hX
  have hsq : s * s ≤ val X := hs.1
  have hs1 : s < 18446744073709551616 := by
    rcases Nat.eq_zero_or_pos s with z | z
    · omega
    · exact Nat.lt_of_le_of_lt (Nat.le_mul_of_pos_left s z) (by omega)
  have HF := from_any s w hs1
  obtain ⟨a1, k1, rfl, _, _, _⟩ := hA.form
  generalize val X = v at *
  obtain ⟨q, hq, hq1⟩ : ∃ q : Nat, (s : Int) * (s : Int) = (q : Int) ∧ s * s = q := ⟨s * s, by rw [Int.natCast_mul], rfl⟩
  rw [hq1] at hsq ⊢
  obtain ⟨d, hd, hd1⟩ : ∃ d : Nat, (v : Int) - (q : Int) = (d : Int) ∧ v - q = d := ⟨v - q, by omega, rfl⟩
  rw [hd1]
  have hdl : d < 18446744073709551616 := by omega
  have hql : q < 18446744073709551616 := by omega
  clear hA hX h1 hs hg hq1 hd1
  go_enter Tryz.func41, Tryz.ntmps41
  go_wp2_with fail
  refine HS.mono ?_
  rintro e wn ⟨rfl, hw⟩; rw [hw]; clear hw wn HS
  go_wp2_with fail
  refine HR.mono ?_
  rintro e wn ⟨rfl, hw⟩; rw [hw]; clear hw wn HR
  go_wp2_with fail
  refine HF.mono ?_
  rintro e w1 ⟨⟨v1, rfl, A1⟩, hb1⟩
  have HF2 := from_any d w1 hdl
  have H1 := hide (And.intro A1 hb1)
  clear HF A1 hb1
  go_wp2_with fail
  refine HF2.mono ?_
  rintro e w2 ⟨⟨v2, rfl, A2⟩, hb2⟩
  have H2 := hide (And.intro A2 hb2)
  clear HF2 A2 hb2
  go_wp2
  go_ret2
  have e1 : ∀ t : Nat, val (tr [t]) = t := fun t => by rw [val_tr]; simp [val]
  exact ⟨⟨v1, v2, w1.heap.size, rfl, ⟨tr [s], H1.out.1.below H2.out.2, e1 s, tr_tr _⟩, ⟨tr [d], H2.out.1, e1 d, tr_tr _⟩, H1.out.2.size, H2.out.2.size, H1.out.1.top4⟩, H1.out.2.trans (H2.out.2.mono H1.out.2.size)⟩

set_option maxRecDepth 20000 in
set_option maxHeartbeats 4000000 in
theorem rsecond_two : ∀ (N : Nat) (X : List Nat) (va : Value) (w : World) (s : Nat), blen (val X) ≤ N → blen (val X) ≤ 1125899906815900 → Arg w va X → Tab w → X.length ≤ 17592186044000 → IsRoot2 (val X) s →
    Calls Tryz.prog 41 #[va] w (NbTwo w s (val X - s * s)) := by
  intro N
  induction N with
  | zero =>
    intro X va w s hN hxb hA hT hx hs
    have h0 : val X = 0 := (blen_zero_iff _).1 (by omega)
    have hs0 : s = 0 := by
      refine root2_uniq hs ?_
      rw [h0]; exact ⟨Nat.le_refl _, by omega⟩
    rw [hs0, h0]
    exact second_zero2 va X w hA h0
  | succ N ih =>
    intro X va w s hN hxb hA hT hx hs
    by_cases hsm : (tr X).length ≤ 1
    · by_cases h0 : val X = 0
      · have hs0 : s = 0 := by
          refine root2_uniq hs ?_
          rw [h0]; exact ⟨Nat.le_refl _, by omega⟩
        rw [hs0, h0]
        exact second_zero2 va X w hA h0
      · exact second_small2 va X s w hA (by omega) hsm hs
    · have HS := small_any va X w hA
      rw [if_neg hsm, decide_eq_false hsm] at HS
      have L1 := length_val _ _ w hA
      have hbx : blen (val X) ≤ X.length * 64 := (blen_le_iff _ _).2 (by have := val_lt hA.limbs; rw [W_pow] at this; exact this)
      have hb64 : 64 < blen (val X) := by
        refine Nat.lt_of_not_le fun h => hsm ?_
        exact few_limbs X 1 (by omega)
      obtain ⟨n, hn⟩ : ∃ n, (blen (val X) + 1) / 4 = n := ⟨_, rfl⟩
      obtain ⟨t, ht⟩ : ∃ t, IsRoot2 (val X / 2 ^ (2 * n)) t := root2_is _
      obtain ⟨P1, P2, P3, P4, P5, P6⟩ := second_halves (x := val X) (n := n) (s := t) (by omega) (by omega) ht
      obtain ⟨u, hu⟩ : ∃ u, val X / 2 ^ (2 * n) - t * t = u := ⟨_, rfl⟩
      rw [hu] at P1 P2
      have h1l : val X / 2 ^ n % 2 ^ n < 2 ^ n := Nat.mod_lt _ (Nat.two_pow_pos n)
      have h0l : val X % 2 ^ n < 2 ^ n := Nat.mod_lt _ (Nat.two_pow_pos n)
      have HDN := rdown_any va X (2 * n) w hA (by omega) (by omega)
      have hul : u ≤ val X / 2 ^ (2 * n) := by omega
      have hA1x : val X / 2 ^ (2 * n) ≤ val X := Nat.div_le_self _ _
      have hblA : blen (val X / 2 ^ (2 * n)) ≤ N := by
        refine Nat.le_trans ((blen_le_iff _ (blen (val X) - 2 * n)).2 ?_) (by omega)
        rw [Nat.div_lt_iff_lt_mul (Nat.two_pow_pos _), ← Nat.pow_add, show blen (val X) - 2 * n + 2 * n = blen (val X) by omega]
        exact (blen_le_iff _ _).1 (Nat.le_refl _)
      obtain ⟨a1, ha1⟩ : ∃ a1, val X / 2 ^ n % 2 ^ n = a1 := ⟨_, rfl⟩
      obtain ⟨a0, ha0⟩ : ∃ a0, val X % 2 ^ n = a0 := ⟨_, rfl⟩
      rw [ha1] at P1 h1l
      rw [ha0] at P1 h0l
      obtain ⟨q, hq⟩ : ∃ q, (a1 + 2 ^ n * u) / (2 * t) = q := ⟨_, rfl⟩
      obtain ⟨r, hr⟩ : ∃ r, (a1 + 2 ^ n * u) % (2 * t) = r := ⟨_, rfl⟩
      obtain ⟨S1, S2, S3, S4⟩ := second_step P1 P2 h1l h0l P3 hq hr
      have htp : 0 < t := by have := Nat.two_pow_pos n; omega
      have hKu : 2 ^ n * u ≤ val X := Nat.le_trans (Nat.mul_le_mul_left _ hul) P5
      have hKt : 2 ^ n * t ≤ val X := Nat.le_trans (Nat.mul_le_mul_left _ P6) P5
      have hrb : r ≤ 2 * t := by rw [← hr]; exact Nat.le_of_lt (Nat.mod_lt _ (by omega))
      obtain ⟨R, hR⟩ : ∃ R, 2 ^ n * t + q = R := ⟨_, rfl⟩
      obtain ⟨l, hl⟩ : ∃ l, a0 + 2 ^ n * r = l := ⟨_, rfl⟩
      rw [hR, hl] at S1 S2
      rw [hR] at S4
      have hRp : 0 < R := by
        have := Nat.mul_pos (Nat.two_pow_pos n) htp
        omega
      have hRb : R ≤ 2 * val X := by omega
      obtain ⟨E1, E2⟩ := second_end S1 S2 S4 hRp
      have B : Hid (∀ y, y ≤ 8 * val X → blen y ≤ 1125899906816000) := hide fun y hy => by
        have := blen_le4 hy
        omega
      have BB : Hid (u ≤ 8 * val X ∧ t ≤ 8 * val X ∧ a1 + 2 ^ n * u ≤ 8 * val X ∧ 2 ^ 1 * t ≤ 8 * val X ∧ 2 ^ n * t ≤ 8 * val X ∧ q ≤ 8 * val X ∧ r ≤ 8 * val X ∧ R ≤ 8 * val X ∧ l ≤ 8 * val X) := hide ⟨by omega, by omega, by omega, by omega, by omega, by omega, by omega, by omega, by omega⟩
      have HXB : Hid (∀ m, blen (val X / m) ≤ 1125899906815900) := hide fun m => Nat.le_trans (blen_mono (Nat.div_le_self _ _)) hxb
      have HA := hide hA
      have HT := hide hT
      have HIH := hide ih
      have HE := hide (And.intro E1 E2)
      have HX := hide (And.intro ht (And.intro hu (And.intro ha1 (And.intro ha0 (And.intro hq (And.intro hr (And.intro hR (And.intro hl (And.intro h1l (And.intro h0l (And.intro htp hblA)))))))))))
      have HSS := hide hs
      have HQQ := hide (And.intro S4 hRb)
      obtain ⟨n2, hn2⟩ : ∃ n2, 2 * n = n2 := ⟨_, rfl⟩
      have en : (((blen (val X) : Nat) : Int) + 1) / 4 = (n : Int) := by omega
      have en2 : (2 : Int) * (n : Int) = (n2 : Int) := by omega
      have hnb : n ≤ 281474976710656 := by omega
      rw [hn2] at HDN
      have HN2 := hide hn2
      clear P1 P2 P3 P4 P5 P6 S1 S2 S3 S4 E1 E2 hA hT ih hs ht hu ha1 ha0 hq hr hR hl h1l h0l htp hblA hul hA1x hKu hKt hrb hn hn2 hRp hRb hsm
      generalize hlx : blen (val X) = lx at *
      clear hlx
      have HB : Hid (Below w.heap.size w w) := Below.refl _ _
      go_enter Tryz.func41, Tryz.ntmps41
      go_wp2_with fail
      refine HS.mono ?_
      rintro e wn ⟨rfl, hw⟩; rw [hw]; clear hw wn HS
      go_wp2_with fail
      refine L1.mono ?_
      rintro e wn ⟨rfl, hw⟩; rw [hw]; clear hw wn L1
      go_wp2_with fail
      refine HDN.mono ?_
      rintro e w1 ⟨⟨v1, r1, rfl, d1, p1, t1⟩, hb⟩
      replace HB := hide (HB.out.trans (hb.mono HB.out.size))
      obtain ⟨ht, hu, ha1, ha0, hq, hr, hR, hl, h1l, h0l, htp, hblA⟩ := HX.out
      obtain ⟨bu, bt, bj, b2t, bkt, bq, br, bR, bl⟩ := BB.out
      have lr1 : r1.length ≤ X.length := by
        rw [← t1]
        refine tr_len_lt r1 _ ?_
        rw [p1]
        exact Nat.lt_of_le_of_lt (Nat.div_le_self _ _) (val_lt HA.out.limbs)
      have F1 := HIH.out r1 v1 w1 t (by rw [p1, ← HN2.out]; exact hblA) (by rw [p1]; exact HXB.out _) (d1.arg (by omega)) (HT.out.below HB.out) (by omega) (by rw [p1, ← HN2.out]; exact ht)
      rw [p1, ← HN2.out, hu] at F1
      clear d1 p1 t1 hb HDN HIH ht hu hblA lr1
      go_wp2_with fail
      refine F1.mono ?_
      rintro e w2 ⟨⟨vt, vu, m0, rfl, Nt, Nu, hm0, hm1, hm2⟩, hb⟩
      replace Nu := Nu.base hm0
      clear hm0 hm1 hm2 m0
      replace HB := hide (HB.out.trans (hb.mono HB.out.size))
      clear hb F1
      have F1 := (rbits_any va X n n w2 (HA.out.below HB.out) (by omega) (by omega) (by omega)).mono fun _ _ h => h.nb
      rw [ha1] at F1
      go_wp2_with fail
      refine F1.mono ?_
      rintro e w3 ⟨⟨va1, rfl, Na1⟩, hb⟩
      replace Na1 := Na1.base HB.out.size
      replace HB := hide (HB.out.trans (hb.mono HB.out.size))
      replace Nt := Nt.below hb; replace Nu := Nu.below hb; clear hb F1
      have F1 := njoin (n := n) Nu Na1 (B.out _ bu) (by omega) h1l
      clear Nu Na1
      go_wp2_with fail
      refine F1.mono ?_
      rintro e w4 ⟨⟨vj, rfl, Nj⟩, hb⟩
      replace Nj := Nj.base HB.out.size
      replace HB := hide (HB.out.trans (hb.mono HB.out.size))
      replace Nt := Nt.below hb; clear hb F1
      have F1 := nup (n := 1) Nt (B.out _ bt) (by omega)
      go_wp2_with fail
      refine F1.mono ?_
      rintro e w5 ⟨⟨v2t, rfl, N2t⟩, hb⟩
      replace N2t := N2t.base HB.out.size
      replace HB := hide (HB.out.trans (hb.mono HB.out.size))
      replace Nt := Nt.below hb; replace Nj := Nj.below hb; clear hb F1
      have F1 := nboth Nj N2t (HT.out.below HB.out) (B.out _ bj) (B.out _ b2t) (by rw [Nat.pow_one]; omega)
      rw [Nat.pow_one, hq, hr] at F1
      clear Nj N2t
      go_wp2_with fail
      refine F1.mono ?_
      rintro e w6 ⟨⟨vq, vr, rfl, Nq, Nr⟩, hb⟩
      replace HB := hide (HB.out.trans (hb.mono HB.out.size))
      replace Nt := Nt.below hb; clear hb F1
      have F1 := nup (n := n) Nt (B.out _ bt) (by omega)
      clear Nt
      go_wp2_with fail
      refine F1.mono ?_
      rintro e w7 ⟨⟨vkt, rfl, Nkt⟩, hb⟩
      replace Nkt := Nkt.base HB.out.size
      replace HB := hide (HB.out.trans (hb.mono HB.out.size))
      replace Nq := Nq.below hb; replace Nr := Nr.below hb; clear hb F1
      have F1 := nsum Nkt Nq (B.out _ bkt) (B.out _ bq)
      rw [hR] at F1
      clear Nkt
      go_wp2_with fail
      refine F1.mono ?_
      rintro e w8 ⟨⟨vR, rfl, NR⟩, hb⟩
      replace NR := NR.base HB.out.size
      replace HB := hide (HB.out.trans (hb.mono HB.out.size))
      replace Nq := Nq.below hb; replace Nr := Nr.below hb; clear hb F1
      have F1 := (rbits_any va X 0 n w8 (HA.out.below HB.out) (by omega) (by omega) (by omega)).mono fun _ _ h => h.nb
      rw [Nat.pow_zero, Nat.div_one, ha0] at F1
      go_wp2_with fail
      refine F1.mono ?_
      rintro e w9 ⟨⟨va0, rfl, Na0⟩, hb⟩
      replace Na0 := Na0.base HB.out.size
      replace HB := hide (HB.out.trans (hb.mono HB.out.size))
      replace Nq := Nq.below hb; replace Nr := Nr.below hb; replace NR := NR.below hb; clear hb F1
      have F1 := njoin (n := n) Nr Na0 (B.out _ br) (by omega) h0l
      rw [hl] at F1
      clear Nr Na0
      go_wp2_with fail
      refine F1.mono ?_
      rintro e w10 ⟨⟨vl, rfl, Nl⟩, hb⟩
      replace Nl := Nl.base HB.out.size
      replace HB := hide (HB.out.trans (hb.mono HB.out.size))
      replace Nq := Nq.below hb; replace NR := NR.below hb; clear hb F1
      have F1 := nprod Nq Nq (HT.out.below HB.out) (B.out _ bq) (B.out _ bq)
      clear Nq
      go_wp2_with fail
      refine F1.mono ?_
      rintro e w11 ⟨⟨vQ, rfl, NQ⟩, hb⟩
      replace NQ := NQ.base HB.out.size
      replace HB := hide (HB.out.trans (hb.mono HB.out.size))
      replace NR := NR.below hb; replace Nl := Nl.below hb; clear hb F1
      clear ha1 ha0 hq hr hR hl h1l h0l htp bu bt bj b2t bkt bq br HX BB
      have hQb := HQQ.out
      obtain ⟨Q, hQ⟩ : ∃ Q, q * q = Q := ⟨_, rfl⟩
      rw [hQ] at NQ HE hQb
      have bQ : Q ≤ 8 * val X := by omega
      by_cases hfin : Q ≤ l
      · obtain ⟨E1, E2⟩ := HE.out.1 hfin
        have es : s = R := root2_uniq HSS.out E1
        have hc : (0 : Int) ≤ cmpN l Q := cmpN_ge hfin
        have GG : Hid (R = s ∧ l - Q = val X - s * s) := hide ⟨es.symm, by rw [es]; exact E2⟩
        clear HE HSS HQQ E1 E2 hQ hQb es
        go_wp2
        refine wp_loop_rounds 1 ?_
        rw [rounds_succ]
        have F1 := ncmp Nl NQ (B.out _ bl) (B.out _ bQ)
        go_wp2_with fail
        refine F1.mono ?_
        rintro e w20 ⟨rfl, hsm⟩
        have hb := hsm.below w11.heap.size
        replace HB := hide (HB.out.trans (hb.mono HB.out.size))
        replace NR := NR.below hb; replace Nl := Nl.below hb; replace NQ := NQ.below hb; clear hb F1 hsm
        have F1 := nless Nl NQ (B.out _ bl) (by omega)
        clear Nl NQ
        go_wp2_with fail
        refine F1.mono ?_
        rintro e w21 ⟨⟨vz, rfl, Nz⟩, hb⟩
        have HD := hide (show NbTwo w s (val X - s * s) (.returned (.tuple #[vR, vz])) w21 from ⟨⟨vR, vz, w20.heap.size, rfl, by rw [← GG.out.1]; exact NR.below hb, by rw [← GG.out.2]; exact Nz, HB.out.size, hb.size, NR.top⟩, HB.out.trans (hb.mono HB.out.size)⟩)
        clear NR Nz hb F1
        go_wp2
        go_returns
        exact HD.out
      · obtain ⟨E0, E1, E2⟩ := HE.out.2 (by omega)
        have es : s = R - 1 := root2_uniq HSS.out E1
        have hc : ¬ (0 : Int) ≤ cmpN l Q := by rw [cmpN_lt (by omega)]; omega
        have bl2 : l + (1 + 2 * (R - 1)) ≤ 8 * val X + 8 * val X := by omega
        have GG : Hid (R - 1 = s ∧ l + (1 + 2 * (R - 1)) - Q = val X - s * s) := hide ⟨es.symm, by rw [es]; exact E2⟩
        clear HE HSS HQQ E1 E2 hQ es
        go_wp2
        refine wp_loop_rounds 2 ?_
        rw [rounds_succ]
        have F1 := ncmp Nl NQ (B.out _ bl) (B.out _ bQ)
        go_wp2_with fail
        refine F1.mono ?_
        rintro e w12 ⟨rfl, hsm⟩
        have hb := hsm.below w11.heap.size
        replace HB := hide (HB.out.trans (hb.mono HB.out.size))
        replace NR := NR.below hb; replace Nl := Nl.below hb; replace NQ := NQ.below hb; clear hb F1 hsm
        have F1 := nfrom 1 w12 (by omega)
        go_wp2_with fail
        refine F1.mono ?_
        rintro e w13 ⟨⟨vo, rfl, No⟩, hb⟩
        replace No := No.base HB.out.size
        replace HB := hide (HB.out.trans (hb.mono HB.out.size))
        replace NR := NR.below hb; replace Nl := Nl.below hb; replace NQ := NQ.below hb; clear hb F1
        have F1 := nless NR No (B.out _ bR) (by omega)
        clear NR No
        go_wp2_with fail
        refine F1.mono ?_
        rintro e w14 ⟨⟨vR2, rfl, NR2⟩, hb⟩
        replace NR2 := NR2.base HB.out.size
        replace HB := hide (HB.out.trans (hb.mono HB.out.size))
        replace Nl := Nl.below hb; replace NQ := NQ.below hb; clear hb F1
        have F1 := nfrom 1 w14 (by omega)
        go_wp2_with fail
        refine F1.mono ?_
        rintro e w15 ⟨⟨vo2, rfl, No2⟩, hb⟩
        replace No2 := No2.base HB.out.size
        replace HB := hide (HB.out.trans (hb.mono HB.out.size))
        replace NR2 := NR2.below hb; replace Nl := Nl.below hb; replace NQ := NQ.below hb; clear hb F1
        have F1 := njoin (n := 1) NR2 No2 (B.out _ (by omega)) (by omega) (by omega)
        rw [Nat.pow_one] at F1
        clear No2
        go_wp2_with fail
        refine F1.mono ?_
        rintro e w16 ⟨⟨vj2, rfl, Nj2⟩, hb⟩
        replace Nj2 := Nj2.base HB.out.size
        replace HB := hide (HB.out.trans (hb.mono HB.out.size))
        replace NR2 := NR2.below hb; replace Nl := Nl.below hb; replace NQ := NQ.below hb; clear hb F1
        have F1 := nsum Nl Nj2 (B.out _ bl) (B.out _ (by omega))
        clear Nl Nj2
        go_wp2_with fail
        refine F1.mono ?_
        rintro e w17 ⟨⟨vl2, rfl, Nl2⟩, hb⟩
        replace Nl2 := Nl2.base HB.out.size
        replace HB := hide (HB.out.trans (hb.mono HB.out.size))
        replace NR2 := NR2.below hb; replace NQ := NQ.below hb; clear hb F1
        obtain ⟨l2, hl2⟩ : ∃ l2, l + (1 + 2 * (R - 1)) = l2 := ⟨_, rfl⟩
        obtain ⟨R2, hR2⟩ : ∃ R2, R - 1 = R2 := ⟨_, rfl⟩
        rw [hR2] at hl2 NR2
        rw [hR2, hl2] at Nl2 E0 bl2 GG
        have hc2 : (0 : Int) ≤ cmpN l2 Q := cmpN_ge E0
        have bl3 : l2 ≤ 8 * val X := by omega
        clear hl2 hR2 bl2
        go_wp2
        rw [rounds_succ]
        have F1 := ncmp Nl2 NQ (B.out _ bl3) (B.out _ bQ)
        go_wp2_with fail
        refine F1.mono ?_
        rintro e w20 ⟨rfl, hsm⟩
        have hb := hsm.below w17.heap.size
        replace HB := hide (HB.out.trans (hb.mono HB.out.size))
        replace NR2 := NR2.below hb; replace Nl2 := Nl2.below hb; replace NQ := NQ.below hb; clear hb F1 hsm
        have F1 := nless Nl2 NQ (B.out _ bl3) (by omega)
        clear Nl2 NQ
        go_wp2_with fail
        refine F1.mono ?_
        rintro e w21 ⟨⟨vz, rfl, Nz⟩, hb⟩
        have HD := hide (show NbTwo w s (val X - s * s) (.returned (.tuple #[vR2, vz])) w21 from ⟨⟨vR2, vz, w20.heap.size, rfl, by rw [← GG.out.1]; exact NR2.below hb, by rw [← GG.out.2]; exact Nz, HB.out.size, hb.size, NR2.top⟩, HB.out.trans (hb.mono HB.out.size)⟩)
        clear NR2 Nz hb F1
        go_wp2
        go_returns
        exact HD.out

end Go.Proofs.YteecnckfkcmefaaGreatDoor

/- Package roots: further, Root, Sqrt: their two answers lie apart. -/
namespace Go.Proofs.YteecnckfkcmefaaGreatDoor
open Go.RowKit
open Lm
attribute [local go_sem ↓] Go.wp_at_zero Go.wp_at_succ

/-- Two owned numbers with no error, the second made behind the first. -/
def RootTwo (w : World) (x y : Nat) (e : Ending) (w' : World) : Prop := (∃ v1 v2 m, e = .returned (.tuple #[v1, v2, .int .i64 0]) ∧ Nb w' w.heap.size v1 x ∧ Nb w' m v2 y ∧ w.heap.size ≤ m ∧ m ≤ w'.heap.size ∧ ∀ g, v1.ownBlock = some g → g < m) ∧ Below w.heap.size w w'

theorem answers_keep (v1 v2 : Value) (x y B M : Nat) (w : World) (_h1 : Nb w B v1 x) (h2 : Nb w M v2 y) (ly : blen y ≤ 1125899906816000) :
    Calls Tryz.prog 40 #[v1, v2] w fun e w' => w' = w ∧ ((blen y ≤ 67108864 ∧ ∃ u2, e = .returned (.tuple #[v1, u2, .int .i64 0]) ∧ Nb w M u2 y) ∨ (67108864 < blen y ∧ e = .returned (.tuple #[.slice none 0 0, .slice none 0 0, .int .i64 3]))) := by
  obtain ⟨r2, a2, p2, t2⟩ := h2
  have l2 : r2.length ≤ 17592186044000 := few_of t2 p2 (by omega)
  have HA := ranswer_any v2 M r2 w a2 (by omega) t2
  rw [p2] at HA
  clear a2
  go_enter Tryz.func40, Tryz.ntmps40
  go_wp2_with fail
  refine HA.mono ?_
  rintro e w1 ⟨hw, v, c, rs, rfl, ha, hres⟩
  subst hw
  rcases hres with ⟨rfl, q1, q2, q3⟩ | ⟨rfl, rfl, q3⟩
  · have HD := hide (And.intro ha (And.intro q1 q2))
    clear ha q1 q2 HA
    go_wp2
    go_returns
    exact ⟨rfl, .inl ⟨q3, _, rfl, rs, HD.out.1, HD.out.2.1, HD.out.2.2⟩⟩
  · clear ha HA
    go_wp2
    go_returns
    exact ⟨rfl, .inr ⟨q3, rfl⟩⟩

set_option maxRecDepth 20000 in
set_option maxHeartbeats 2000000 in
theorem further_two (X : List Nat) (va : Value) (w : World) (k r : Nat) (HG : Calls Tryz.prog 80 #[va, .int .i64 (k : Int)] w (RGuess w (val X) k r)) (hA : Arg w va X) (hT : Tab w) (hl : X.length ≤ 17592186044000) (hbx : blen (val X) ≤ 67108864) (hk1 : 2 ≤ k) (hk2 : k < blen (val X)) (hr : IsRootK (val X) k r) :
    Calls Tryz.prog 55 #[va, .int .i64 (k : Int)] w (NbTwo w r (val X - r ^ k)) := by
  have HA := hide hA
  have HT := hide hT
  have HR := hide hr
  have HX := hide hbx
  have hkb : k ≤ 67108864 := by omega
  obtain ⟨rr, hrr⟩ : ∃ rr, rr = val X - r ^ k := ⟨_, rfl⟩
  rw [← hrr]
  have HRR := hide hrr
  clear hA hT hr hbx hk2 hrr
  go_enter Tryz.func55, Tryz.ntmps55
  go_wp2_with fail
  refine HG.mono ?_
  rintro e w1 ⟨⟨v1, g1, rfl, N1, hg1, hg2⟩, hb1⟩
  have HS := hide (And.intro N1 (And.intro hg1 (And.intro hg2 hb1)))
  clear N1 hg1 hg2 hb1 HG
  go_wp2
  go_loopw [6] (fun v wr => ∃ g u, u = v ∧ Nb wr w.heap.size u g ∧ r ≤ g ∧ g ≤ 4 * 2 ^ rlen (val X) k ∧ Below w.heap.size w wr) (fun v wr => rdV wr v)
  case atStart => exact ⟨g1, _, rfl, HS.out.1, HS.out.2.1, HS.out.2.2.1, HS.out.2.2.2⟩
  case round =>
    obtain ⟨g, u, hu, hN, hg1, hg2, hb⟩ := hrel
    subst hu
    obtain ⟨p1, p2⟩ := guess_pow (by omega) HX.out hkb hg2
    have HM : Hid (rdV wr u = g) := by
      obtain ⟨rs, a, e, _, _⟩ := hN.arg (by omega)
      exact hide (by rw [rdV_arg a]; exact e)
    have HB := hide hb
    have HGG := hide (And.intro hg1 hg2)
    have HNG := hide hN
    have F1 := npower (n := k) hN (HT.out.below hb) (by omega) (by omega) (by omega)
    clear hg2 hb HS hN
    go_wp2_with fail
    refine F1.mono ?_
    rintro e w2 ⟨⟨v2, rfl, N2⟩, hb⟩
    have HB2 := hid_below HB hb
    have HNG2 := hide (HNG.out.below hb)
    replace N2 := N2.base HB.out.size
    have HC : Calls Tryz.prog 62 #[v2, va] w2 fun e w' => e = .returned (.int .i64 (cmpN (g ^ k) (val X))) ∧ Same w2 w' := by
      obtain ⟨r2, a2, e2, _, _⟩ := N2.arg (by omega)
      have h := compare_any v2 va r2 X w2 a2 (HA.out.below HB2.out)
      rw [e2] at h
      exact h
    clear hb F1
    by_cases hfin : g ^ k ≤ val X
    · obtain rfl : g = r := Nat.le_antisymm (rootK_le HR.out hfin) hg1
      have hc := cmpN_le hfin
      have HF := hide hfin
      generalize cmpN (g ^ k) (val X) = cc at *
      clear hfin
      go_wp2_with fail
      refine HC.mono ?_
      rintro e w3 ⟨rfl, hsm⟩
      have hb := hsm.below w2.heap.size
      have HB3 := hid_below HB2 hb
      have HNG3 := hide (HNG2.out.below hb)
      have F2 : Calls Tryz.prog 54 #[va, v2] w3 (NbDone w3 (val X - g ^ k)) := by
        obtain ⟨r2, a2, e2, _, _⟩ := (N2.below hb).arg (by omega)
        have h := rless_any va v2 X r2 w3 (HA.out.below HB3.out) a2 (by omega) (by rw [e2]; exact HF.out)
        rw [e2] at h
        exact h.mono fun _ _ h => h.nb
      clear hb hsm HC N2
      go_wp2_with fail
      refine F2.mono ?_
      rintro e w4 ⟨⟨v4, rfl, N4⟩, hb⟩
      have HD := hide (show NbTwo w g rr (.returned (.tuple #[u, v4])) w4 from ⟨⟨u, v4, w3.heap.size, rfl, HNG3.out.below hb, by rw [HRR.out]; exact N4, HB3.out.size, hb.size, HNG3.out.top⟩, (hid_below HB3 hb).out⟩)
      clear F2 N4 hb
      go_wp2
      go_returns
      exact HD.out
    · have hc : (0 : Int) < cmpN (g ^ k) (val X) := by rw [cmpN_gt (by omega)]; omega
      have hc2 : ¬ cmpN (g ^ k) (val X) ≤ 0 := by omega
      have hgr : r < g := by
        rcases Nat.lt_or_ge r g with h | h
        · exact h
        · exfalso
          have : g = r := by omega
          rw [this] at hfin
          exact hfin HR.out.1
      generalize cmpN (g ^ k) (val X) = cc at *
      clear hfin N2
      go_wp2_with fail
      refine HC.mono ?_
      rintro e w3 ⟨rfl, hsm⟩
      have hb := hsm.below w2.heap.size
      have HB3 := hid_below HB2 hb
      have HNG3 := hide (HNG2.out.below hb)
      have F2 := nfrom 1 w3 (by omega)
      clear hb hsm HC
      go_wp2_with fail
      refine F2.mono ?_
      rintro e w4 ⟨⟨v4, rfl, N4⟩, hb⟩
      have HB4 := hid_below HB3 hb
      have F3 := nless (HNG3.out.below hb) N4 (by omega) (by omega)
      clear F2 N4 hb
      go_wp2_with fail
      refine F3.mono ?_
      rintro e w5 ⟨⟨v5, rfl, N5⟩, hb⟩
      have HD := hide (And.intro (N5.base HB4.out.size) (hid_below HB4 hb).out)
      have HM5 : Hid (rdV w5 v5 = g - 1) := by
        obtain ⟨rs, a, e, _, _⟩ := N5.arg (Nat.le_trans (blen_mono (Nat.sub_le _ _)) (by omega))
        exact hide (by rw [rdV_arg a]; exact e)
      clear F3 N5 hb
      go_wp2
      go_roundw
      case rel => exact ⟨g - 1, _, rfl, HD.out.1, by omega, by have := HGG.out.2; omega, HD.out.2⟩
      case measure => rw [HM5.out, HM.out]; omega

theorem further_apart (X : List Nat) (va : Value) (w : World) (k r : Nat) (hA : Arg w va X) (hT : Tab w) (hl : X.length ≤ 17592186044000) (hbx : blen (val X) ≤ 67108864) (hk1 : 2 ≤ k) (hk2 : k < blen (val X)) (hr : IsRootK (val X) k r) :
    Calls Tryz.prog 55 #[va, .int .i64 (k : Int)] w (NbTwo w r (val X - r ^ k)) := by
  refine further_two X va w k r ?_ hA hT hl hbx hk1 hk2 hr
  by_cases h64 : rlen (val X) k ≤ 64
  · exact guess_small X va w k r hA hT hl hbx hk1 hk2 hr h64
  · exact guess_big X va w k r (further_any _) hA hT hl hbx hk1 hk2 hr (by omega)

set_option maxRecDepth 20000 in
set_option maxHeartbeats 2000000 in
theorem rroot_two (va : Value) (X : List Nat) (k r : Nat) (w : World) (hA : Arg w va X) (hT : Tab w) (hl : X.length ≤ 17592186044000) (hbx : blen (val X) ≤ 67108864) (hk1 : 1 ≤ k) (hk2 : k ≤ 9223372036854775807) (hr : IsRootK (val X) k r) :
    Calls Tryz.prog 23 #[va, .int .i64 (k : Int)] w (RootTwo w r (val X - r ^ k)) := by
  unfold RootTwo
  have HL := length_val va X w hA
  have HR := rootLength_any va X k w hA hk1 hk2
  have hrl : rlen (val X) k ≤ 67108864 := Nat.le_trans (rlen_le_blen _ _ hk1) hbx
  have i0 : ¬ (k : Int) < 1 := by omega
  have i1 : ¬ (67108864 : Int) < ((rlen (val X) k : Nat) : Int) := by omega
  have br : blen r ≤ 67108864 := Nat.le_trans (blen_mono (rootK_small hk1 hr)) hbx
  have bs : blen (val X - r ^ k) ≤ 67108864 := Nat.le_trans (blen_mono (Nat.sub_le _ _)) hbx
  obtain ⟨rl, hrl'⟩ : ∃ rl, rlen (val X) k = rl := ⟨_, rfl⟩
  rw [hrl'] at HR i1
  clear hrl hrl'
  by_cases h0 : val X = 0
  · have hr0 : r = 0 := by have := rootK_small hk1 hr; omega
    have HE : Hid (val X = r ∧ val X - r ^ k = 0) := hide ⟨by omega, by omega⟩
    have HN := nnorm_any va X w hA (by omega)
    have hb0 : blen (val X) = 0 := (blen_zero_iff _).2 h0
    rw [hb0] at HL
    clear hA hr h0 hr0 br bs hb0 hbx
    go_enter Tryz.func23, Tryz.ntmps23
    go_wp2_with fail
    refine HL.mono ?_
    rintro e wn ⟨rfl, hw⟩; rw [hw]; clear hw wn HL
    go_wp2_with fail
    refine HR.mono ?_
    rintro e wn ⟨rfl, hw⟩; rw [hw]; clear hw wn HR
    go_wp2_with fail
    refine HN.mono ?_
    rintro e w1 ⟨⟨v1, rfl, A1⟩, hb1⟩
    have HD := hide (And.intro (show Nb w1 w.heap.size v1 r from ⟨_, A1, by rw [val_tr]; exact HE.out.1, tr_tr _⟩) hb1)
    clear A1 hb1 HN
    go_wp2
    go_returns
    refine ⟨⟨_, _, w1.heap.size, rfl, HD.out.1, ?_, HD.out.2.size, Nat.le_refl _, HD.out.1.top⟩, HD.out.2⟩
    rw [HE.out.2]
    exact ⟨[], Ans.nil _ _, rfl, rfl⟩
  · have hL0 : blen (val X) ≠ 0 := fun h => h0 ((blen_zero_iff _).1 h)
    obtain ⟨L, hL⟩ : ∃ L, blen (val X) = L := ⟨_, rfl⟩
    rw [hL] at HL
    have iL : ((L : Int) == 0) = false := by rw [beq_eq_false_iff_ne]; omega
    by_cases h1 : k = 1
    · subst h1
      have hrx : r = val X := by
        have := hr.1; have := hr.2
        rw [Nat.pow_one] at *
        omega
      have HE : Hid (val X = r ∧ val X - r ^ 1 = 0) := hide ⟨hrx.symm, by rw [Nat.pow_one]; omega⟩
      have HN := nnorm_any va X w hA (by omega)
      clear hA hr hrx br bs hL hL0 hbx h0
      go_enter Tryz.func23, Tryz.ntmps23
      go_wp2_with fail
      refine HL.mono ?_
      rintro e wn ⟨rfl, hw⟩; rw [hw]; clear hw wn HL
      go_wp2_with fail
      refine HR.mono ?_
      rintro e wn ⟨rfl, hw⟩; rw [hw]; clear hw wn HR
      go_wp2_with fail
      refine HN.mono ?_
      rintro e w1 ⟨⟨v1, rfl, A1⟩, hb1⟩
      have HD := hide (And.intro (show Nb w1 w.heap.size v1 r from ⟨_, A1, by rw [val_tr]; exact HE.out.1, tr_tr _⟩) hb1)
      clear A1 hb1 HN
      go_wp2
      go_returns
      refine ⟨⟨_, _, w1.heap.size, rfl, HD.out.1, ?_, HD.out.2.size, Nat.le_refl _, HD.out.1.top⟩, HD.out.2⟩
      rw [HE.out.2]
      exact ⟨[], Ans.nil _ _, rfl, rfl⟩
    · have ik1 : ((k : Int) == 1) = false := by rw [beq_eq_false_iff_ne]; omega
      by_cases h2 : L ≤ k
      · have i2 : (L : Int) ≤ (k : Int) := by omega
        have hr1 : r = 1 := by
          refine rootK_uniq hk1 hr ⟨by rw [Nat.one_pow]; omega, ?_⟩
          have := (blen_le_iff (val X) k).1 (by omega)
          exact this
        have e1 : val X - r ^ k = val X - 1 := by rw [hr1, Nat.one_pow]
        rw [e1] at bs ⊢
        subst hr1
        have HF := nfrom 1 w (by omega)
        have HA := hide hA
        have HX := hide (show 1 ≤ val X by omega)
        clear hA hr h1 h2 hL hL0 e1 h0 hbx
        go_enter Tryz.func23, Tryz.ntmps23
        go_wp2_with fail
        refine HL.mono ?_
        rintro e wn ⟨rfl, hw⟩; rw [hw]; clear hw wn HL
        go_wp2_with fail
        refine HR.mono ?_
        rintro e wn ⟨rfl, hw⟩; rw [hw]; clear hw wn HR
        go_wp2_with fail
        refine HF.mono ?_
        rintro e w1 ⟨⟨v1, rfl, N1⟩, hb1⟩
        have HB := hide hb1
        have F1 : Calls Tryz.prog 54 #[va, v1] w1 (NbDone w1 (val X - 1)) := by
          obtain ⟨r1, a1, p1, _, _⟩ := N1.arg (by rw [show blen 1 = 1 from rfl]; omega)
          have h := rless_any va v1 X r1 w1 (HA.out.below hb1) a1 (by omega) (by rw [p1]; exact HX.out)
          rw [p1] at h
          exact h.mono fun _ _ h => h.nb
        clear hb1 HF
        go_wp2_with fail
        refine F1.mono ?_
        rintro e w2 ⟨⟨v2, rfl, N2⟩, hb2⟩
        have HN1 := hide (And.intro (N1.below hb2) (And.intro HB.out.size (And.intro hb2.size N1.top)))
        replace HB := hid_below HB hb2
        have F2 := answers_keep v1 v2 1 (val X - 1) w.heap.size w1.heap.size w2 HN1.out.1 N2 (by omega)
        clear hb2 F1 N1 N2
        go_wp2_with fail
        refine F2.mono ?_
        rintro e wn ⟨hw, ht⟩
        subst hw
        rcases ht with ⟨_, u2, rfl, m2⟩ | ⟨hbad, _⟩
        rotate_left
        · omega
        have HD := hide m2
        clear m2 F2
        go_wp2
        go_returns
        exact ⟨⟨_, _, w1.heap.size, rfl, HN1.out.1, HD.out, HN1.out.2.1, HN1.out.2.2.1, HN1.out.2.2.2⟩, HB.out⟩
      · have i2 : ¬ (L : Int) ≤ (k : Int) := by omega
        by_cases h3 : k = 2
        · subst h3
          have F1 := rsecond_two (blen (val X)) X va w r (Nat.le_refl _) (by omega) hA hT hl (rootK_two.1 hr)
          rw [← Nat.pow_two] at F1
          clear hA hT hr h1 h2 hL hL0 h0 hbx
          go_enter Tryz.func23, Tryz.ntmps23
          go_wp2_with fail
          refine HL.mono ?_
          rintro e wn ⟨rfl, hw⟩; rw [hw]; clear hw wn HL
          go_wp2_with fail
          refine HR.mono ?_
          rintro e wn ⟨rfl, hw⟩; rw [hw]; clear hw wn HR
          go_wp2_with fail
          refine F1.mono ?_
          rintro e w1 ⟨⟨v1, v2, mm, rfl, N1, N2, q1, q2, q3⟩, hb1⟩
          have HB := hide hb1
          have HN1 := hide (And.intro N1 (And.intro q1 (And.intro q2 q3)))
          have F2 := answers_keep v1 v2 r (val X - r ^ 2) w.heap.size mm w1 N1 N2 (by omega)
          clear hb1 F1 N1 N2 q1 q2 q3
          go_wp2_with fail
          refine F2.mono ?_
          rintro e wn ⟨hw, ht⟩
          subst hw
          rcases ht with ⟨_, u2, rfl, m2⟩ | ⟨hbad, _⟩
          rotate_left
          · omega
          have HD := hide m2
          clear m2 F2
          go_wp2
          go_returns
          exact ⟨⟨_, _, mm, rfl, HN1.out.1, HD.out, HN1.out.2.1, HN1.out.2.2.1, HN1.out.2.2.2⟩, HB.out⟩
        · have ik2 : ((k : Int) == 2) = false := by rw [beq_eq_false_iff_ne]; omega
          have F1 := further_apart X va w k r hA hT hl hbx (by omega) (by omega) hr
          clear hA hT hr h1 h2 hL hL0 h0 hbx
          go_enter Tryz.func23, Tryz.ntmps23
          go_wp2_with fail
          refine HL.mono ?_
          rintro e wn ⟨rfl, hw⟩; rw [hw]; clear hw wn HL
          go_wp2_with fail
          refine HR.mono ?_
          rintro e wn ⟨rfl, hw⟩; rw [hw]; clear hw wn HR
          go_wp2_with fail
          refine F1.mono ?_
          rintro e w1 ⟨⟨v1, v2, mm, rfl, N1, N2, q1, q2, q3⟩, hb1⟩
          have HB := hide hb1
          have HN1 := hide (And.intro N1 (And.intro q1 (And.intro q2 q3)))
          have F2 := answers_keep v1 v2 r (val X - r ^ k) w.heap.size mm w1 N1 N2 (by omega)
          clear hb1 F1 N1 N2 q1 q2 q3
          go_wp2_with fail
          refine F2.mono ?_
          rintro e wn ⟨hw, ht⟩
          subst hw
          rcases ht with ⟨_, u2, rfl, m2⟩ | ⟨hbad, _⟩
          rotate_left
          · omega
          have HD := hide m2
          clear m2 F2
          go_wp2
          go_returns
          exact ⟨⟨_, _, mm, rfl, HN1.out.1, HD.out, HN1.out.2.1, HN1.out.2.2.1, HN1.out.2.2.2⟩, HB.out⟩

end Go.Proofs.YteecnckfkcmefaaGreatDoor

/- The document's powers. -/
namespace Go.Proofs.YteecnckfkcmefaaGreatDoor
open Go.RowKit
open Lm
attribute [local go_sem ↓] Go.wp_at_zero Go.wp_at_succ

namespace Lm

theorem blen_pow_up (x m : Nat) : blen (x ^ m) ≤ blen x * m + 1 := by
  refine (blen_le_iff _ _).2 ?_
  have h1 := (blen_le_iff x _).1 (Nat.le_refl _)
  rcases Nat.eq_zero_or_pos m with h0 | h0
  · subst h0; simp
  · rw [Nat.pow_succ, Nat.pow_mul]
    have := Nat.pow_lt_pow_left h1 (show m ≠ 0 by omega)
    omega

end Lm

set_option maxRecDepth 20000 in
set_option maxHeartbeats 2000000 in
theorem refPow_any (va : Value) (x n : Nat) (w : World) (hN : Num w va x) (hn : n ≤ 9223372036854775807) (hs : blen x * n + blen x ≤ 281474976710656) :
    Calls Tryz.prog 27 #[va, .int .i64 (n : Int)] w fun e w' => (∃ v, e = .returned v ∧ Num w' v (x ^ n)) ∧ Below w.heap.size w w' := by
  have HF := rint_any 1 w (by omega)
  have HN := hide hN
  have HS := hide hs
  clear hN hs
  go_enter Tryz.func27, Tryz.ntmps27
  go_wp2_with fail
  refine HF.mono ?_
  rintro e w1 ⟨⟨v1, rfl, N1⟩, hb1⟩
  have ST := hide (And.intro N1 hb1)
  clear HF N1 hb1
  go_wp2
  go_loopw [5, 6] (fun v i wr => ∃ (k : Nat), i = .int .i64 ((k : Int) - 1) ∧ k ≤ 63 ∧ Num wr v (x ^ (n / 2 ^ k)) ∧ Below w.heap.size w wr) (fun _ i _ => (intOf i + 1).toNat)
  case atStart =>
    refine ⟨63, rfl, Nat.le_refl _, ?_, ST.out.2⟩
    rw [Nat.div_eq_of_lt (by omega), Nat.pow_zero]
    exact ST.out.1
  case round =>
    obtain ⟨k, rfl, hk, hnv, hbel⟩ := hrel
    have HB := hide hbel
    clear hbel ST
    by_cases hk0 : k = 0
    · subst hk0
      rw [Nat.pow_zero, Nat.div_one] at hnv
      have HE := hide hnv
      clear hnv
      go_wp2
      go_ret
      exact ⟨⟨_, rfl, HE.out⟩, HB.out⟩
    · obtain ⟨j, rfl⟩ : ∃ j, k = j + 1 := ⟨k - 1, by omega⟩
      have ej : (((j + 1 : Nat) : Int) - 1) = (j : Int) := by omega
      rw [ej]
      have hj0 : (0 : Int) ≤ (j : Int) := by omega
      have hj64 : j < 64 := by omega
      have hst := bits_step n j
      have hle : n / 2 ^ j ≤ n := Nat.div_le_self _ _
      have hsh : (n : Int) / 2 ^ j = ((n / 2 ^ j : Nat) : Int) := by rw [Int.natCast_ediv, Int.natCast_pow]; rfl
      have hand := i64_and1 ((n / 2 ^ j : Nat) : Int)
      have hm2 : ((n / 2 ^ j : Nat) : Int) % 2 = ((n / 2 ^ j % 2 : Nat) : Int) := by omega
      rw [hm2] at hand
      have wj : IntKind.i64.wrap (((n / 2 ^ j : Nat)) : Int) = (((n / 2 ^ j : Nat)) : Int) := by rw [IntKind.wrap_i64]; omega
      generalize n / 2 ^ (j + 1) = p at *
      obtain ⟨q, hq⟩ : ∃ q, n / 2 ^ j = q := ⟨_, rfl⟩
      rw [hq] at hst hle hsh hand hm2 wj
      have HQD := hide hq
      have HQ := hide (And.intro hst hle)
      have bp := blen_pow_up x p
      have b2p := blen_pow_up x (2 * p)
      have hpn : blen x * (2 * p) ≤ blen x * n := Nat.mul_le_mul_left _ (by omega)
      have hpn2 : blen x * p ≤ blen x * n := Nat.mul_le_mul_left _ (by omega)
      have hsz := HS.out
      have F1 := rmul_any _ _ _ _ wr hnv hnv (by omega)
      have e2p : x ^ p * x ^ p = x ^ (2 * p) := by rw [← Nat.pow_add]; congr 1; omega
      rw [e2p] at F1
      have HBL := hide (show blen (x ^ (2 * p)) + blen x ≤ 1125899906840000 by omega)
      clear hq hst hnv e2p bp b2p hpn hpn2 hsz
      go_wp2_with fail
      refine F1.mono ?_
      rintro e w3 ⟨⟨v3, rfl, A3⟩, hb3⟩
      have HB3 := hide (HB.out.trans (hb3.mono HB.out.size))
      rcases Nat.mod_two_eq_zero_or_one q with h0 | h1
      · rw [h0] at hand
        have HEQ : Hid (2 * p = q) := hide (by have := HQ.out.1; omega)
        have HA3 := hide A3
        clear h0 hb3 F1 A3
        go_wp2
        go_roundw
        case rel => exact ⟨j, rfl, by omega, by rw [HQD.out, ← HEQ.out]; exact HA3.out, HB3.out⟩
        case measure => simp [intOf]
      · rw [h1] at hand
        have HEQ : Hid (2 * p + 1 = q) := hide (by have := HQ.out.1; omega)
        have F2 := rmul_any _ _ _ _ w3 A3 (HN.out.below HB3.out) HBL.out
        have e2q : x ^ (2 * p) * x = x ^ q := by rw [← Nat.pow_succ, ← HEQ.out]
        rw [e2q] at F2
        clear h1 hb3 F1 A3 e2q
        go_wp2_with fail
        refine F2.mono ?_
        rintro e w5 ⟨⟨v5, rfl, A5⟩, hb5⟩
        have HD := hide (And.intro A5 (HB3.out.trans (hb5.mono HB3.out.size)))
        clear F2 A5 hb5
        go_wp2
        go_roundw
        case rel => exact ⟨j, rfl, by omega, by rw [HQD.out]; exact HD.out.1, HD.out.2⟩
        case measure => simp [intOf]

end Go.Proofs.YteecnckfkcmefaaGreatDoor

/- The document's roots of any index. -/
namespace Go.Proofs.YteecnckfkcmefaaGreatDoor
open Go.RowKit
open Lm
attribute [local go_sem ↓] Go.wp_at_zero Go.wp_at_succ

/-- What Power tells. -/
def PowTell (w : World) (x k y : Nat) (e : Ending) (w' : World) : Prop := (∃ v ok, e = .returned (.tuple #[v, .bool ok]) ∧ ((ok = true ∧ x ^ k ≤ y ∧ Num w' v (x ^ k)) ∨ (ok = false ∧ y < x ^ k))) ∧ Below w.heap.size w w'

set_option maxRecDepth 20000 in
set_option maxHeartbeats 2000000 in
theorem refPower_any (va vm : Value) (x k y : Nat) (w : World) (h1 : Num w va x) (h2 : Num w vm y) (hk : 1 ≤ k) (hk2 : k ≤ 9223372036854775807) (bx : blen x ≤ 134217728) (by_ : blen y ≤ 134217728) :
    Calls Tryz.prog 51 #[va, .int .i64 (k : Int), vm] w (PowTell w x k y) := by
  have L1 := len_any va x w h1
  have L2 := len_any vm y w h2
  have HC := rcmp_any va vm x y w h1 h2
  unfold PowTell
  by_cases hx : blen x < 2
  · have hx1 : x ≤ 1 := by have := (blen_le_iff x 1).1 (by omega); omega
    have hxk : x ^ k = x := by
      rcases (by omega : x = 0 ∨ x = 1) with rfl | rfl
      · rw [Nat.zero_pow hk]
      · rw [Nat.one_pow]
    rw [hxk]
    have i1 : ((blen x : Nat) : Int) < 2 := by omega
    have HN := hide h1
    generalize blen x = lx at *
    by_cases hxy : x ≤ y
    · have hc := cmpN_le hxy
      generalize cmpN x y = cc at *
      have hd : decide (cc ≤ 0) = true := decide_eq_true hc
      clear h1 h2 L2 hxk hx1 hx bx
      go_enter Tryz.func51, Tryz.ntmps51
      go_wp2_with fail
      refine L1.mono ?_
      rintro e wn ⟨rfl, hw⟩; rw [hw]; clear hw wn L1
      go_wp2_with fail
      refine HC.mono ?_
      rintro e w1 ⟨rfl, hsm⟩
      have HB := hide (hsm.below w.heap.size)
      clear hsm HC
      go_wp2
      go_returns
      exact ⟨⟨_, _, rfl, .inl ⟨rfl, hxy, HN.out.below HB.out⟩⟩, HB.out⟩
    · have hc : (0 : Int) < cmpN x y := by rw [cmpN_gt (by omega)]; omega
      generalize cmpN x y = cc at *
      have hd : decide (cc ≤ 0) = false := decide_eq_false (by omega)
      have hc2 : ¬ cc ≤ 0 := by omega
      clear h1 h2 L2 hxk hx1 hx bx
      go_enter Tryz.func51, Tryz.ntmps51
      go_wp2_with fail
      refine L1.mono ?_
      rintro e wn ⟨rfl, hw⟩; rw [hw]; clear hw wn L1
      go_wp2_with fail
      refine HC.mono ?_
      rintro e w1 ⟨rfl, hsm⟩
      have HB := hide (hsm.below w.heap.size)
      clear hsm HC
      go_wp2
      go_returns
      exact ⟨⟨_, _, rfl, .inr ⟨rfl, by omega⟩⟩, HB.out⟩
  · have hx2 : 2 ≤ x := by
      refine Nat.lt_of_not_le fun h => hx ?_
      have := (blen_le_iff x 1).2 (by omega)
      omega
    have i1 : ¬ ((blen x : Nat) : Int) < 2 := by omega
    by_cases hky : blen y < k
    · have i2 : ((blen y : Nat) : Int) < (k : Int) := by omega
      have HF : Hid (y < x ^ k) := by
        have h3 := (blen_le_iff y k).1 (by omega)
        exact hide (Nat.lt_of_lt_of_le h3 (Nat.pow_le_pow_left hx2 k))
      generalize blen x = lx at *
      generalize blen y = ly at *
      clear h1 h2 HC hx hky bx by_
      go_enter Tryz.func51, Tryz.ntmps51
      go_wp2_with fail
      refine L1.mono ?_
      rintro e wn ⟨rfl, hw⟩; rw [hw]; clear hw wn L1
      go_wp2_with fail
      refine L2.mono ?_
      rintro e wn ⟨rfl, hw⟩; rw [hw]; clear hw wn L2
      go_wp2
      go_returns
      exact ⟨⟨_, _, rfl, .inr ⟨rfl, HF.out⟩⟩, Below.refl _ _⟩
    · have i2 : ¬ ((blen y : Nat) : Int) < (k : Int) := by omega
      have HF := rint_any 1 w (by omega)
      have HN := hide (And.intro h1 h2)
      have HBS := hide (And.intro bx by_)
      have hkb : k ≤ 134217728 := by omega
      obtain ⟨lx, hlx⟩ : ∃ lx, blen x = lx := ⟨_, rfl⟩
      obtain ⟨ly, hly⟩ : ∃ ly, blen y = ly := ⟨_, rfl⟩
      rw [hlx] at L1 i1
      rw [hly] at L2 i2
      clear h1 h2 HC hx hky bx by_ hlx hly
      go_enter Tryz.func51, Tryz.ntmps51
      go_wp2_with fail
      refine L1.mono ?_
      rintro e wn ⟨rfl, hw⟩; rw [hw]; clear hw wn L1
      go_wp2_with fail
      refine L2.mono ?_
      rintro e wn ⟨rfl, hw⟩; rw [hw]; clear hw wn L2
      go_wp2_with fail
      refine HF.mono ?_
      rintro e w1 ⟨⟨v1, rfl, N1⟩, hb⟩
      have ST := hide (And.intro N1 hb)
      clear HF N1 hb
      go_wp2
      go_loopw [8, 9] (fun v i wr => ∃ j : Nat, i = .int .i64 (j : Int) ∧ j ≤ k ∧ Num wr v (x ^ j) ∧ (x ^ j ≤ y ∨ j = 0) ∧ Below w.heap.size w wr) (fun _ i _ => k - (intOf i).toNat)
      case atStart => exact ⟨0, rfl, Nat.zero_le _, by rw [Nat.pow_zero]; exact ST.out.1, .inr rfl, ST.out.2⟩
      case round =>
        obtain ⟨j, rfl, hj, hn, hjy, hbel⟩ := hrel
        have HB := hide hbel
        clear hbel ST
        by_cases hfin : j = k
        · subst hfin
          have HD := hide hn
          have HY : Hid (x ^ j ≤ y) := hide (by rcases hjy with h | h <;> omega)
          clear hn hjy
          go_wp2
          go_returns
          exact ⟨⟨_, _, rfl, .inl ⟨rfl, HY.out, HD.out⟩⟩, HB.out⟩
        · have ij : (j : Int) < (k : Int) := by omega
          have bj : blen (x ^ j) ≤ 134217728 := by
            rcases hjy with h | h
            · exact Nat.le_trans (blen_mono h) HBS.out.2
            · rw [h, Nat.pow_zero, show blen 1 = 1 from rfl]; omega
          have F1 := rmul_any _ va _ _ wr hn (HN.out.1.below HB.out) (by have := HBS.out.1; omega)
          rw [← Nat.pow_succ] at F1
          clear hn hjy bj
          go_wp2_with fail
          refine F1.mono ?_
          rintro e w2 ⟨⟨v2, rfl, N2⟩, hb⟩
          have HB2 := hid_below HB hb
          have HC := rcmp_any v2 vm _ _ w2 N2 (HN.out.2.below HB2.out)
          have HN2 := hide N2
          clear F1 hb N2
          by_cases hbig : y < x ^ (j + 1)
          · rw [cmpN_gt hbig] at HC
            have HF : Hid (y < x ^ k) := hide (Nat.lt_of_lt_of_le hbig (Nat.pow_le_pow_right (by omega) (by omega)))
            clear hbig HN2
            go_wp2_with fail
            refine HC.mono ?_
            rintro e w3 ⟨rfl, hsm⟩
            have HB3 := hid_below HB2 (hsm.below w2.heap.size)
            clear hsm HC
            go_wp2
            go_returns
            exact ⟨⟨_, _, rfl, .inr ⟨rfl, HF.out⟩⟩, HB3.out⟩
          · have hc := cmpN_le (show x ^ (j + 1) ≤ y by omega)
            have HY := hide (show x ^ (j + 1) ≤ y by omega)
            generalize cmpN (x ^ (j + 1)) y = cc at *
            have hc2 : ¬ (0 : Int) < cc := by omega
            clear hbig
            go_wp2_with fail
            refine HC.mono ?_
            rintro e w3 ⟨rfl, hsm⟩
            have hb := hsm.below w2.heap.size
            have HB3 := hid_below HB2 hb
            have HN3 := hide (HN2.out.below hb)
            clear hsm HC hb
            go_wp2
            go_roundw
            case rel => exact ⟨j + 1, by go_num, by omega, HN3.out, .inl HY.out, HB3.out⟩
            case measure => simp [intOf]; omega

set_option maxRecDepth 20000 in
set_option maxHeartbeats 2000000 in
theorem refKth_any (va : Value) (x k r : Nat) (w : World) (h1 : Num w va x) (hk : 1 ≤ k) (hk2 : k ≤ 9223372036854775807) (bx : blen x ≤ 67108864) (hr : IsRootK x k r) :
    Calls Tryz.prog 50 #[va, .int .i64 (k : Int)] w fun e w' => (∃ v, e = .returned v ∧ Num w' v r) ∧ Below w.heap.size w w' := by
  by_cases h1k : k = 1
  · subst h1k
    obtain rfl : r = x := by
      have := hr.1; have := hr.2
      rw [Nat.pow_one] at *
      omega
    have HN := hide h1
    clear h1 hr
    go_enter Tryz.func50, Tryz.ntmps50
    go_wp2
    go_ret
    exact ⟨⟨_, rfl, HN.out⟩, Below.refl _ _⟩
  · have ik : ((k : Int) == 1) = false := by rw [beq_eq_false_iff_ne]; omega
    have L1 := len_any va x w h1
    obtain ⟨q, hq⟩ : ∃ q, blen x / k = q := ⟨_, rfl⟩
    have hqb : q ≤ 67108864 := by rw [← hq]; exact Nat.le_trans (Nat.div_le_self _ _) bx
    have hrq : r < 2 ^ (q + 1) := by
      refine Nat.lt_of_lt_of_le (rootK_lt_pow hk hr) (Nat.pow_le_pow_right (by omega) ?_)
      unfold rlen
      obtain ⟨R1, R2⟩ := rlen_two (blen x) k q hk hq
      rcases Nat.eq_zero_or_pos (blen x % k) with h | h
      · rw [R1 h]; omega
      · rw [R2 h]; exact Nat.le_refl _
    obtain ⟨L, hL⟩ : ∃ L, blen x = L := ⟨_, rfl⟩
    rw [hL] at L1 hq
    have eq : (L : Int).tdiv (k : Int) = (q : Int) := by rw [← hq]; rfl
    have k0 : ((k : Int) == 0) = false := by rw [beq_eq_false_iff_ne]; omega
    have k1 : ¬ (k : Int) = 0 := by omega
    have wq : IntKind.i64.wrap (q : Int) = q := by rw [IntKind.wrap_i64]; omega
    have HN := hide h1
    have HR := hide hr
    have HX := hide (And.intro bx hrq)
    clear h1 hr bx hrq hL hq
    go_enter Tryz.func50, Tryz.ntmps50
    go_wp2_with fail
    refine L1.mono ?_
    rintro e wn ⟨rfl, hw⟩; rw [hw]; clear hw wn L1
    go_wp2
    go_loopw [5, 6] (fun v i wr => ∃ b o : Nat, i = .int .i64 ((b : Int) - 1) ∧ b ≤ q + 1 ∧ Num wr v o ∧ o ≤ r ∧ r < o + 2 ^ b ∧ Below w.heap.size w wr) (fun _ i _ => (intOf i + 1).toNat)
    case atStart => exact ⟨q + 1, 0, by go_num, Nat.le_refl _, Num.nil _, Nat.zero_le _, by rw [Nat.zero_add]; exact HX.out.2, Below.refl _ _⟩
    case round =>
      obtain ⟨b, o, rfl, hb, hn, ho1, ho2, hbel⟩ := hrel
      have HB := hide hbel
      clear hbel
      by_cases hb0 : b = 0
      · subst hb0
        obtain rfl : o = r := by rw [Nat.pow_zero] at ho2; omega
        have HD := hide hn
        clear hn ho1 ho2
        go_wp2
        go_ret
        exact ⟨⟨_, rfl, HD.out⟩, HB.out⟩
      · obtain ⟨d, rfl⟩ : ∃ d, b = d + 1 := ⟨b - 1, by omega⟩
        have ed : (((d + 1 : Nat) : Int) - 1) = (d : Int) := by omega
        rw [ed]
        have hd0 : (0 : Int) ≤ (d : Int) := by omega
        have HI := rint_any 1 wr (by omega)
        have bo : blen o ≤ 67108864 := Nat.le_trans (blen_mono ho1) (Nat.le_trans (blen_mono (rootK_small hk HR.out)) HX.out.1)
        have bd : blen (2 ^ d) ≤ d + 1 := blen_pow5 (Nat.le_refl _)
        have bxx : blen (o + 2 ^ d) ≤ 67108866 := by
          obtain ⟨K, hK⟩ : ∃ K, 67108865 = K := ⟨_, rfl⟩
          have e1 := (blen_le_iff o K).1 (by omega)
          have e2 : 2 ^ d ≤ 2 ^ K := Nat.pow_le_pow_right (by omega) (by omega)
          have := (blen_le_iff (o + 2 ^ d) (K + 1)).2 (by rw [Nat.pow_succ]; omega)
          omega
        rw [Nat.pow_succ] at ho2
        have HO := hide (And.intro ho1 ho2)
        have HNO := hide hn
        have HBB := hide (And.intro bo (And.intro bd bxx))
        clear hn ho1 ho2 bo bd bxx hb0
        go_wp2_with fail
        refine HI.mono ?_
        rintro e w1 ⟨⟨v1, rfl, N1⟩, hb1⟩
        have HB1 := hid_below HB hb1
        have HNO1 := hide (HNO.out.below hb1)
        have F := rshl_any v1 1 d w1 N1 (by rw [show blen 1 = 1 from rfl]; omega)
        rw [Nat.one_mul] at F
        clear HI N1 hb1
        go_wp2_with fail
        refine F.mono ?_
        rintro e w2 ⟨⟨v2, rfl, N2⟩, hb2⟩
        have HB2 := hid_below HB1 hb2
        have F := radd_any _ v2 _ _ w2 (HNO1.out.below hb2) N2 (by have := HBB.out.1; omega) (by have := HBB.out.2.1; omega)
        have HNO2 := hide (HNO1.out.below hb2)
        clear N2 hb2
        go_wp2_with fail
        refine F.mono ?_
        rintro e w3 ⟨⟨v3, rfl, N3⟩, hb3⟩
        have HB3 := hid_below HB2 hb3
        have HNO3 := hide (HNO2.out.below hb3)
        have F := refPower_any v3 va (o + 2 ^ d) k x w3 N3 (HN.out.below HB3.out) hk hk2 (by have := HBB.out.2.2; omega) (by have := HX.out.1; omega)
        have HN3 := hide N3
        clear N3 hb3
        go_wp2_with fail
        refine F.mono ?_
        rintro e w4 ⟨⟨v4, ok, rfl, ht⟩, hb4⟩
        have HB4 := hid_below HB3 hb4
        have HNO4 := hide (HNO3.out.below hb4)
        have HN4 := hide (HN3.out.below hb4)
        clear F hb4
        rcases ht with ⟨rfl, h, _⟩ | ⟨rfl, h⟩
        · have HS := hide (rootK_le HR.out h)
          clear h
          go_wp2
          go_roundw
          case rel => exact ⟨d, o + 2 ^ d, rfl, by omega, HN4.out, HS.out, by have := HO.out.2; omega, HB4.out⟩
          case measure => simp [intOf]
        · have HS := hide (rootK_lt hk HR.out h)
          clear h
          go_wp2
          go_roundw
          case rel => exact ⟨d, o, rfl, by omega, HNO4.out, HO.out.1, HS.out, HB4.out⟩
          case measure => simp [intOf]

theorem told4_two (v1 v2 : Value) (x y : Nat) (w : World) (h1 : Num w v1 x) (h2 : Num w v2 y) (bx : blen x ≤ 67108864) (by_ : blen y ≤ 67108864) :
    Calls Tryz.prog 36 #[v1, v2] w fun e w' => e = .returned (.tuple #[v1, v2, .int .i64 0]) ∧ w' = w := by
  have L1 := len_any v1 x w h1
  have L2 := len_any v2 y w h2
  generalize blen x = lx at *
  generalize blen y = ly at *
  have d1 : decide ((67108864 : Int) < (lx : Int)) = false := decide_eq_false (by omega)
  have d2 : decide ((67108864 : Int) < (ly : Int)) = false := decide_eq_false (by omega)
  clear h1 h2
  go_enter Tryz.func36, Tryz.ntmps36
  go_wp2_with fail
  refine L1.mono ?_
  rintro e w1 ⟨rfl, hw⟩; rw [hw]; clear hw
  go_wp2_with fail
  refine L2.mono ?_
  rintro e w1 ⟨rfl, hw⟩; rw [hw]; clear hw
  clear L1 L2
  go_wp2
  go_returns
  exact ⟨rfl, rfl⟩

theorem refRoot_any (va : Value) (x k r : Nat) (w : World) (h1 : Num w va x) (hk : 1 ≤ k) (hk2 : k ≤ 9223372036854775807) (bx : blen x ≤ 67108864) (hr : IsRootK x k r) :
    Calls Tryz.prog 22 #[va, .int .i64 (k : Int)] w fun e w' => (∃ v1 v2, e = .returned (.tuple #[v1, v2, .int .i64 0]) ∧ Num w' v1 r ∧ Num w' v2 (x - r ^ k)) ∧ Below w.heap.size w w' := by
  have F1 := refKth_any va x k r w h1 hk hk2 bx hr
  have ik : ¬ (k : Int) < 1 := by omega
  have HN := hide h1
  have HX := hide bx
  have HR := hide hr
  clear h1 hr bx
  go_enter Tryz.func22, Tryz.ntmps22
  go_wp2_with fail
  refine F1.mono ?_
  rintro e w1 ⟨⟨v1, rfl, N1⟩, hb1⟩
  have HB1 := hide hb1
  have F2 := refPower_any v1 va r k x w1 N1 (HN.out.below hb1) hk hk2 (Nat.le_trans (blen_mono (rootK_small hk HR.out)) (by have := HX.out; omega)) (by have := HX.out; omega)
  have HN1 := hide N1
  clear F1 hb1 N1
  go_wp2_with fail
  refine F2.mono ?_
  rintro e w2 ⟨⟨v2, ok, rfl, ht⟩, hb2⟩
  have HB2 := hid_below HB1 hb2
  rcases ht with ⟨rfl, h, N2⟩ | ⟨_, h⟩
  rotate_left
  · have := HR.out.1; omega
  have F3 := rsub_any va v2 x (r ^ k) w2 (HN.out.below HB2.out) N2 h (by have := HX.out; omega)
  have HN2 := hide (HN1.out.below hb2)
  clear F2 hb2 N2 h
  go_wp2_with fail
  refine F3.mono ?_
  rintro e w3 ⟨⟨v3, rfl, N3⟩, hb3⟩
  have HB3 := hid_below HB2 hb3
  have HN3 := hide (HN2.out.below hb3)
  have HNS := hide N3
  have F4 := told4_two v1 v3 _ _ w3 HN3.out N3 (Nat.le_trans (blen_mono (rootK_small hk HR.out)) HX.out) (Nat.le_trans (blen_mono (Nat.sub_le _ _)) HX.out)
  clear F3 hb3 N3
  go_wp2_with fail
  refine F4.mono ?_
  rintro e wn ⟨rfl, hw⟩; rw [hw]; clear hw wn F4
  go_wp2
  go_returns
  exact ⟨⟨_, _, rfl, HN3.out, HNS.out⟩, HB3.out⟩

theorem refRoot_none (va : Value) (k : Int) (w : World) (hk : k < 1) :
    Calls Tryz.prog 22 #[va, .int .i64 k] w fun e w' => e = .returned (.tuple #[.slice none 0 0, .slice none 0 0, .int .i64 40]) ∧ w' = w := by
  go_enter Tryz.func22, Tryz.ntmps22
  go_wp2
  go_returns
  exact ⟨rfl, rfl⟩

theorem rroot_none (va : Value) (X : List Nat) (k : Int) (w : World) (hA : Arg w va X) (hk : k < 1) :
    Calls Tryz.prog 23 #[va, .int .i64 k] w fun e w' => e = .returned (.tuple #[.slice none 0 0, .slice none 0 0, .int .i64 40]) ∧ w' = w := by
  have HL := length_val va X w hA
  clear hA
  go_enter Tryz.func23, Tryz.ntmps23
  go_wp2_with fail
  refine HL.mono ?_
  rintro e wn ⟨rfl, hw⟩; rw [hw]; clear hw wn HL
  go_wp2
  go_returns
  exact ⟨rfl, rfl⟩

end Go.Proofs.YteecnckfkcmefaaGreatDoor

/- Package roots: Sqrt, its answers apart; Ceil. -/
namespace Go.Proofs.YteecnckfkcmefaaGreatDoor
open Go.RowKit
open Lm
attribute [local go_sem ↓] Go.wp_at_zero Go.wp_at_succ

/-- Two owned numbers apart, or that one is too big. -/
def Tell2a (w : World) (x y : Nat) (e : Ending) (w' : World) : Prop :=
  ((blen x ≤ 67108864 ∧ blen y ≤ 67108864 ∧ ∃ v1 v2 m, e = .returned (.tuple #[v1, v2, .int .i64 0]) ∧ Nb w' w.heap.size v1 x ∧ Nb w' m v2 y ∧ w.heap.size ≤ m ∧ m ≤ w'.heap.size ∧ ∀ g, v1.ownBlock = some g → g < m) ∨
  ((67108864 < blen x ∨ 67108864 < blen y) ∧ e = .returned (.tuple #[.slice none 0 0, .slice none 0 0, .int .i64 3]))) ∧ Below w.heap.size w w'

set_option maxRecDepth 20000 in
theorem rsqrt_two (va : Value) (X : List Nat) (s : Nat) (w : World) (hA : Arg w va X) (hT : Tab w) (hx : X.length ≤ 17592186044000) (hs : IsRoot2 (val X) s) :
    Calls Tryz.prog 13 #[va] w (Tell2a w s (val X - s * s)) := by
  unfold Tell2a
  have HL := rootLength_two va X w hA
  have hlen := root2_len hs
  rw [← hlen] at HL
  by_cases hb : blen s ≤ 67108864
  · have HS := rsecond_two (blen (val X)) X va w s (Nat.le_refl _) (by omega) hA hT hx hs
    have hbr : blen (val X - s * s) ≤ 1125899906816000 := by
      have := blen_mono (Nat.sub_le (val X) (s * s))
      omega
    clear hA hlen
    generalize val X - s * s = rest at *
    have i1 : ¬ (67108864 : Int) < ((blen s : Nat) : Int) := by omega
    have HB := hide hb
    obtain ⟨ls, hls⟩ : ∃ ls, blen s = ls := ⟨_, rfl⟩
    rw [hls] at HL i1
    clear hls
    go_enter Tryz.func13, Tryz.ntmps13
    go_wp2_with fail
    refine HL.mono ?_
    rintro e wn ⟨rfl, hw⟩; rw [hw]; clear hw wn HL
    go_wp2_with fail
    refine HS.mono ?_
    rintro e w1 ⟨⟨v1, v2, m, rfl, n1, n2, q1, q2, q3⟩, hb1⟩
    have HA := answers_keep v1 v2 s rest w.heap.size m w1 n1 n2 hbr
    have HB1 := hide hb1
    have HN1 := hide (And.intro n1 (And.intro q1 (And.intro q2 q3)))
    clear n1 n2 hb1 HS q1 q2 q3
    go_wp2_with fail
    refine HA.mono ?_
    rintro e w2 ⟨hw, ht⟩
    subst hw
    rcases ht with ⟨q5, u2, rfl, n4⟩ | ⟨q5, rfl⟩
    · have HD := hide n4
      clear n4 HA
      go_wp2
      go_returns
      exact ⟨.inl ⟨HB.out, q5, _, _, m, rfl, HN1.out.1, HD.out, HN1.out.2.1, HN1.out.2.2.1, HN1.out.2.2.2⟩, HB1.out⟩
    · clear HA
      go_wp2
      go_returns
      exact ⟨.inr ⟨.inr q5, rfl⟩, HB1.out⟩
  · have i1 : (67108864 : Int) < ((blen s : Nat) : Int) := by omega
    have HB := hide hb
    clear hA hlen
    generalize val X - s * s = rest at *
    obtain ⟨ls, hls⟩ : ∃ ls, blen s = ls := ⟨_, rfl⟩
    rw [hls] at HL i1
    clear hls
    go_enter Tryz.func13, Tryz.ntmps13
    go_wp2_with fail
    refine HL.mono ?_
    rintro e wn ⟨rfl, hw⟩; rw [hw]; clear hw wn HL
    go_wp2
    go_returns
    exact ⟨.inr ⟨.inl (by have := HB.out; omega), rfl⟩, Below.refl _ _⟩

/-- The next root up. -/
def ceil2 (x s : Nat) : Nat := if x - s * s = 0 then s else s + 1

theorem Nb.len0 {w : World} {base : Nat} {v : Value} {x : Nat} (h : Nb w base v x) : ∃ ao n cap, v = .slice ao n cap ∧ (n = 0 ↔ x = 0) := by
  obtain ⟨rs, ha, hv, ht⟩ := h
  obtain ⟨ao, cap, e⟩ := ha.sl
  refine ⟨ao, rs.length, cap, e, ?_⟩
  constructor
  · intro h0
    rw [List.length_eq_zero_iff.1 h0] at hv
    rw [← hv]; rfl
  · intro h0
    rw [val_zero ht (by omega)]
    rfl

theorem answer_nb (v : Value) (x M : Nat) (w : World) (h2 : Nb w M v x) (lx : blen x ≤ 1125899906816000) :
    Calls Tryz.prog 44 #[v] w fun e w' => w' = w ∧ ((blen x ≤ 67108864 ∧ ∃ u, e = .returned (.tuple #[u, .int .i64 0]) ∧ Nb w M u x) ∨ (67108864 < blen x ∧ ∃ u, e = .returned (.tuple #[u, .int .i64 3]) ∧ Nb w M u 0)) := by
  obtain ⟨r2, a2, p2, t2⟩ := h2
  have l2 : r2.length ≤ 17592186044000 := few_of t2 p2 (by omega)
  refine (ranswer_any v M r2 w a2 (by omega) t2).mono ?_
  rw [p2]
  rintro e w1 ⟨hw, v, c, rs, rfl, ha, hres⟩
  refine ⟨hw, ?_⟩
  rcases hres with ⟨rfl, q1, q2, q3⟩ | ⟨rfl, rfl, q3⟩
  · exact .inl ⟨q3, v, rfl, rs, ha, q1, q2⟩
  · exact .inr ⟨q3, v, rfl, [], ha, rfl, rfl⟩

set_option maxRecDepth 20000 in
set_option maxHeartbeats 1000000 in
theorem rceil_any (va : Value) (X : List Nat) (s : Nat) (w : World) (hA : Arg w va X) (hT : Tab w) (hx : X.length ≤ 17592186044000) (hs : IsRoot2 (val X) s) :
    Calls Tryz.prog 14 #[va] w fun e w' => ((blen (ceil2 (val X) s) ≤ 67108864 ∧ ∃ u, e = .returned (.tuple #[u, .int .i64 0]) ∧ Nb w' w.heap.size u (ceil2 (val X) s)) ∨ (67108864 < blen (ceil2 (val X) s) ∧ ∃ u, e = .returned (.tuple #[u, .int .i64 3]) ∧ Nb w' w.heap.size u 0)) ∧ Below w.heap.size w w' := by
  have HL := rootLength_two va X w hA
  have hlen := root2_len hs
  rw [← hlen] at HL
  have hcs : s ≤ ceil2 (val X) s := by unfold ceil2; split <;> omega
  have hcs2 : ceil2 (val X) s ≤ s + 1 := by unfold ceil2; split <;> omega
  by_cases hb : blen s ≤ 67108864
  · have HS := rsecond_any (blen (val X)) X va w s (Nat.le_refl _) (by omega) hA hT hx hs
    have hbc : blen (s + 1) ≤ 67108865 := by
      obtain ⟨L, hL⟩ : ∃ L, 67108864 = L := ⟨_, rfl⟩
      have e1 := (blen_le_iff s L).1 (by omega)
      have := (blen_le_iff (s + 1) (L + 1)).2 (by rw [Nat.pow_succ]; have := Nat.two_pow_pos L; omega)
      omega
    have i1 : ¬ (67108864 : Int) < ((blen s : Nat) : Int) := by omega
    have HB := hide (And.intro hb hbc)
    obtain ⟨ls, hls⟩ : ∃ ls, blen s = ls := ⟨_, rfl⟩
    rw [hls] at HL i1
    obtain ⟨rest, hrest⟩ : ∃ rest, val X - s * s = rest := ⟨_, rfl⟩
    rw [hrest] at HS
    by_cases h0 : rest = 0
    · have ec : ceil2 (val X) s = s := by unfold ceil2; rw [if_pos (by omega)]
      rw [ec]
      clear hA hlen hcs hcs2 hls hrest ec
      go_enter Tryz.func14, Tryz.ntmps14
      go_wp2_with fail
      refine HL.mono ?_
      rintro e wn ⟨rfl, hw⟩; rw [hw]; clear hw wn HL
      go_wp2_with fail
      refine HS.mono ?_
      rintro e w1 ⟨⟨v1, v2, rfl, n1, n2⟩, hb1⟩
      obtain ⟨ao, n, cap, rfl, hn⟩ := n2.len0
      obtain rfl : n = 0 := hn.2 h0
      have HA := answer_nb v1 s w.heap.size w1 n1 (by have := HB.out.1; omega)
      have HB1 := hide hb1
      clear n1 n2 hb1 HS hn
      go_wp2_with fail
      refine HA.mono ?_
      rintro e wn ⟨hw, ht⟩
      subst hw
      have HTT := hide ht
      clear ht HA
      rcases HTT.out with ⟨_, u, rfl, _⟩ | ⟨_, u, rfl, _⟩
      · go_wp2
        go_returns
        exact ⟨HTT.out, HB1.out⟩
      · go_wp2
        go_returns
        exact ⟨HTT.out, HB1.out⟩
    · have ec : ceil2 (val X) s = s + 1 := by unfold ceil2; rw [if_neg (by omega)]
      rw [ec]
      clear hA hlen hcs hcs2 hls hrest ec
      go_enter Tryz.func14, Tryz.ntmps14
      go_wp2_with fail
      refine HL.mono ?_
      rintro e wn ⟨rfl, hw⟩; rw [hw]; clear hw wn HL
      go_wp2_with fail
      refine HS.mono ?_
      rintro e w1 ⟨⟨v1, v2, rfl, n1, n2⟩, hb1⟩
      obtain ⟨ao, n, cap, rfl, hn⟩ := n2.len0
      have hnp : (0 : Int) < (n : Int) := by
        have : n ≠ 0 := fun h => h0 (hn.1 h)
        omega
      have HB1 := hide hb1
      have HF := nfrom 1 w1 (by omega)
      have HN1 := hide n1
      clear n1 n2 hb1 HS hn
      go_wp2_with fail
      refine HF.mono ?_
      rintro e w2 ⟨⟨v3, rfl, n3⟩, hb2⟩
      have HB2 := hid_below HB1 hb2
      have F := nsum (HN1.out.below hb2) n3 (by have := HB.out.1; omega) (by rw [show blen 1 = 1 from rfl]; omega)
      clear HF n3 hb2
      go_wp2_with fail
      refine F.mono ?_
      rintro e w3 ⟨⟨v4, rfl, n4⟩, hb3⟩
      have HB3 := hid_below HB2 hb3
      have HA := answer_nb v4 (s + 1) w.heap.size w3 (n4.base HB2.out.size) (by have := HB.out.2; omega)
      clear F n4 hb3
      go_wp2_with fail
      refine HA.mono ?_
      rintro e wn ⟨hw, ht⟩
      subst hw
      have HTT := hide ht
      clear ht HA
      rcases HTT.out with ⟨_, u, rfl, _⟩ | ⟨_, u, rfl, _⟩
      · go_wp2
        go_returns
        exact ⟨HTT.out, HB3.out⟩
      · go_wp2
        go_returns
        exact ⟨HTT.out, HB3.out⟩
  · have hbig : 67108864 < blen (ceil2 (val X) s) := Nat.lt_of_lt_of_le (by omega) (blen_mono hcs)
    have i1 : (67108864 : Int) < ((blen s : Nat) : Int) := by omega
    have HB := hide hbig
    clear hA hlen hbig hcs hcs2
    generalize blen s = ls at HL i1
    go_enter Tryz.func14, Tryz.ntmps14
    go_wp2_with fail
    refine HL.mono ?_
    rintro e wn ⟨rfl, hw⟩; rw [hw]; clear hw wn HL
    go_wp2
    go_returns
    exact ⟨.inr ⟨HB.out, _, rfl, [], Ans.nil _ _, rfl, rfl⟩, Below.refl _ _⟩

end Go.Proofs.YteecnckfkcmefaaGreatDoor
