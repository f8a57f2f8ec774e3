/- The walk of the law NatBits. -/
import Derived.Test.YtmloigbacfllhaaLives
import Derived.Test.YtmloigbacfllhaaOwnL
import Derived.Test.YtmloigbacfllhaaRefD
import Derived.Test.YtmloigbacfllhaaBitA
import Derived.Test.YtmloigbacfllhaaBitC
namespace Go.Proofs.Ytmloigbacfllhaa
open Go.RowKit
open Lm

theorem bits_facts (X Y : List Nat) (hX : Limbs X) (hY : Limbs Y) : ∃ A O E : List Nat,
    Hid (tr (zipL (fun x y => x &&& y) (max (tr X).length (tr Y).length) (tr X) (tr Y)) = A) ∧
    Hid (tr (zipL (fun x y => x ||| y) (max (tr X).length (tr Y).length) (tr X) (tr Y)) = O) ∧
    Hid (tr (zipL (fun x y => x ^^^ y) (max (tr X).length (tr Y).length) (tr X) (tr Y)) = E) ∧
    tr A = A ∧ tr O = O ∧ tr E = E ∧ val A = val X &&& val Y ∧ val O = val X ||| val Y ∧ val E = val X ^^^ val Y ∧
    A.length ≤ max X.length Y.length ∧ O.length ≤ max X.length Y.length ∧ E.length ≤ max X.length Y.length ∧
    Hid (pcs A + pcs O = pcs X + pcs Y) := by
  have l1 := tr_length_le X
  have l2 := tr_length_le Y
  have hP := limbs_tr hX
  have hQ := limbs_tr hY
  have e1 := val_and (max (tr X).length (tr Y).length) (tr X) (tr Y) hP hQ (by omega) (by omega)
  have e2 := val_or (max (tr X).length (tr Y).length) (tr X) (tr Y) hP hQ (by omega) (by omega)
  have e3 := val_xor (max (tr X).length (tr Y).length) (tr X) (tr Y) hP hQ (by omega) (by omega)
  have e4 := pcs_zip (max (tr X).length (tr Y).length) (tr X) (tr Y) (by omega) (by omega)
  rw [val_tr, val_tr] at e1 e2 e3
  rw [pcs_tr X hX, pcs_tr Y hY] at e4
  have m1 : Limbs (zipL (fun x y => x &&& y) (max (tr X).length (tr Y).length) (tr X) (tr Y)) := limbs_zip _ (fun a b ha hb => and_lt64 a b ha hb) _ _ _ hP hQ
  have m2 : Limbs (zipL (fun x y => x ||| y) (max (tr X).length (tr Y).length) (tr X) (tr Y)) := limbs_zip _ (fun a b ha hb => or_lt64 a b ha hb) _ _ _ hP hQ
  refine ⟨_, _, _, hide rfl, hide rfl, hide rfl, tr_tr _, tr_tr _, tr_tr _, ?_, ?_, ?_, ?_, ?_, ?_, ?_⟩
  · rw [val_tr]; exact e1
  · rw [val_tr]; exact e2
  · rw [val_tr]; exact e3
  · refine Nat.le_trans (tr_length_le _) ?_; rw [zipL_length]; omega
  · refine Nat.le_trans (tr_length_le _) ?_; rw [zipL_length]; omega
  · refine Nat.le_trans (tr_length_le _) ?_; rw [zipL_length]; omega
  · show pcs _ + pcs _ = _
    rw [pcs_tr _ m1, pcs_tr _ m2]; exact e4

theorem blen_and (x y : Nat) : blen (x &&& y) ≤ blen x := blen_mono Nat.and_le_left
theorem blen_xor (x y n : Nat) (h1 : blen x ≤ n) (h2 : blen y ≤ n) : blen (x ^^^ y) ≤ n :=
  (blen_le_iff _ _).2 (Nat.xor_lt_two_pow ((blen_le_iff _ _).1 h1) ((blen_le_iff _ _).1 h2))
theorem blen_or (x y n : Nat) (h1 : blen x ≤ n) (h2 : blen y ≤ n) (h : n ≤ blen x ∨ n ≤ blen y) : blen (x ||| y) = n := by
  have h3 : blen (x ||| y) ≤ n := (blen_le_iff _ _).2 (Nat.or_lt_two_pow ((blen_le_iff _ _).1 h1) ((blen_le_iff _ _).1 h2))
  have h4 : blen x ≤ blen (x ||| y) := blen_mono Nat.left_le_or
  have h5 : blen y ≤ blen (x ||| y) := blen_mono Nat.right_le_or
  omega

set_option maxRecDepth 100000 in
set_option maxHeartbeats 1000000 in
theorem natBits_walk (v0 : Value) (z0 : List Nat) (v1 : Value) (z1 : List Nat) (w : World)
    (A0 : Arg w v0 z0) (s0 : z0.length ≤ 17592186043904) (A1 : Arg w v1 z1) (s1 : z1.length ≤ 17592186043904) :
    Calls Try.prog 3 #[v0, v1] w fun e w' => e = .returned (.bool true) ∧ Below w.heap.size w w' := by
  have HB : Hid (Below w.heap.size w w) := Below.refl _ _
  have bx := A0.bits s0
  have by' := A1.bits s1
  obtain ⟨RA, RO, RE, EA, EO, EE, tA, tO, tE, vA, vO, vE, lA, lO, lE, EP⟩ := bits_facts z0 z1 A0.limbs A1.limbs
  have TA := hide (And.intro tA (And.intro tO tE))
  have VA := hide (And.intro vA (And.intro vO vE))
  clear tA tO tE vA vO vE
  go_enter Try.func3, Try.ntmps3
  go_wp2_with fail
  refine (and_any _ _ _ _ _ A0 A1 (by omega) (by omega)).mono ?_
  rintro e w1 ⟨⟨va, rfl, Aa⟩, hb⟩
  rw [EA.out] at Aa
  have hsz := hb.size
  have Ch := Chain.one Aa hsz
  obtain ⟨aa, na, ca, rfl⟩ := Aa.slice
  replace HB := hid_below HB hb; replace A0 := A0.below hb; replace A1 := A1.below hb; clear hb
  go_wp2_with fail
  refine (or_any _ _ _ _ _ A0 A1 (by omega) (by omega)).mono ?_
  rintro e w2 ⟨⟨vo, rfl, Ao⟩, hb⟩
  rw [EO.out] at Ao
  obtain ⟨ao, no, co, rfl⟩ := Ao.slice
  replace Ch := Ch.snoc hb Ao hsz
  replace hsz := Nat.le_trans hsz hb.size
  replace HB := hid_below HB hb; replace A0 := A0.below hb; replace A1 := A1.below hb; replace Aa := Aa.below hb; clear hb
  go_wp2_with fail
  refine (xor_any _ _ _ _ _ A0 A1 (by omega) (by omega)).mono ?_
  rintro e w3 ⟨⟨vx, rfl, Ax⟩, hb⟩
  rw [EE.out] at Ax
  obtain ⟨ax, nx, cx, rfl⟩ := Ax.slice
  replace Ch := Ch.snoc hb Ax hsz
  replace hsz := Nat.le_trans hsz hb.size
  replace HB := hid_below HB hb; replace A0 := A0.below hb; replace A1 := A1.below hb; replace Aa := Aa.below hb; replace Ao := Ao.below hb; clear hb
  clear EA EO EE
  simp only [List.cons_append, List.nil_append] at Ch
  have Ba := Aa.arg (by omega)
  have Bo := Ao.arg (by omega)
  have Bx := Ax.arg (by omega)
  clear Aa Ao Ax
  go_wp2_with fail
  refine (of_any _ _ _ A0 (by omega)).mono ?_
  rintro e w4 ⟨⟨vn0, rfl, N0⟩, hb⟩
  replace HB := hid_below HB hb; replace A0 := A0.below hb; replace A1 := A1.below hb; replace Ba := Ba.below hb; replace Bo := Bo.below hb; replace Bx := Bx.below hb; replace Ch := Ch.below hb; clear hb
  go_wp2_with fail
  refine (of_any _ _ _ A1 (by omega)).mono ?_
  rintro e w5 ⟨⟨vn1, rfl, N1⟩, hb⟩
  replace HB := hid_below HB hb; replace A0 := A0.below hb; replace A1 := A1.below hb; replace Ba := Ba.below hb; replace Bo := Bo.below hb; replace Bx := Bx.below hb; replace Ch := Ch.below hb; replace N0 := N0.below hb; clear hb
  have LA := length_val _ _ w5 Ba
  have LO := length_val _ _ w5 Bo
  have LX := length_val _ _ w5 Bx
  rw [VA.out.1] at LA
  rw [VA.out.2.1] at LO
  rw [VA.out.2.2] at LX
  have HL1 := len_any _ _ w5 N0
  have HL2 := len_any _ _ w5 N1
  have q1 := blen_and (val z0) (val z1)
  have q2 := blen_xor (val z0) (val z1)
  have q3 := blen_or (val z0) (val z1)
  generalize ebx : blen (val z0) = n0 at *
  generalize eby : blen (val z1) = n1 at *
  generalize eba : blen (val z0 &&& val z1) = na' at *
  generalize ebo : blen (val z0 ||| val z1) = no' at *
  generalize ebe : blen (val z0 ^^^ val z1) = ne' at *
  have HEB := hide (And.intro ebx (And.intro eby (And.intro eba (And.intro ebo ebe))))
  clear ebx eby eba ebo ebe
  by_cases hcmp : n0 < n1
  · have hsmall : n1 ≤ 1125899906809856 := by omega
    have e1 : na' ≤ n1 := by omega
    have e2 := q2 n1 (by omega) (Nat.le_refl _)
    have e3 := q3 n1 (by omega) (Nat.le_refl _) (.inr (Nat.le_refl _))
    clear q1 q2 q3
    go_wp2_with fail
    refine HL1.mono ?_
    rintro e wn ⟨rfl, hw⟩; subst hw
    go_wp2_with fail
    refine HL2.mono ?_
    rintro e wn ⟨rfl, hw⟩; subst hw
    go_wp2_with fail
    refine HL2.mono ?_
    rintro e wn ⟨rfl, hw⟩; subst hw
    clear HL1 HL2
    have e4 : ¬ ((n1 : Int) < (na' : Int)) := by omega
    have e5 : ¬ ((n1 : Int) < (ne' : Int)) := by omega
    have e6 : ((no' : Int) != (n1 : Int)) = false := by rw [bne_eq_false_iff_eq]; omega
    have e7 : ¬ ((no' : Int) ≠ (n1 : Int)) := by omega
    have HE3 := hide e3
    clear hcmp e3
    go_wp2_with fail
    refine LA.mono ?_
    rintro e wn ⟨rfl, hw⟩; subst hw
    go_wp2_with fail
    refine LO.mono ?_
    rintro e wn ⟨rfl, hw⟩; subst hw
    go_wp2_with fail
    refine LX.mono ?_
    rintro e wn ⟨rfl, hw⟩; subst hw
    clear LA LO LX
    go_wp2_with fail
    refine (of_any _ _ _ Ba (by omega)).mono ?_
    rintro e w6 ⟨⟨vp, rfl, Np⟩, hb⟩
    rw [VA.out.1] at Np
    replace HB := hid_below HB hb; replace A0 := A0.below hb; replace A1 := A1.below hb; replace Ba := Ba.below hb; replace Bo := Bo.below hb; replace Bx := Bx.below hb; replace Ch := Ch.below hb; replace N0 := N0.below hb; replace N1 := N1.below hb; clear hb
    go_wp2_with fail
    refine (of_any _ _ _ Bo (by omega)).mono ?_
    rintro e w7 ⟨⟨vq, rfl, Nq⟩, hb⟩
    rw [VA.out.2.1] at Nq
    replace HB := hid_below HB hb; replace A0 := A0.below hb; replace A1 := A1.below hb; replace Ba := Ba.below hb; replace Bo := Bo.below hb; replace Bx := Bx.below hb; replace Ch := Ch.below hb; replace N0 := N0.below hb; replace N1 := N1.below hb; replace Np := Np.below hb; clear hb
    go_wp2_with fail
    refine (of_any _ _ _ Bx (by omega)).mono ?_
    rintro e w8 ⟨⟨vr, rfl, Nr⟩, hb⟩
    rw [VA.out.2.2] at Nr
    replace HB := hid_below HB hb; replace A0 := A0.below hb; replace A1 := A1.below hb; replace Ba := Ba.below hb; replace Bo := Bo.below hb; replace Bx := Bx.below hb; replace Ch := Ch.below hb; replace N0 := N0.below hb; replace N1 := N1.below hb; replace Np := Np.below hb; replace Nq := Nq.below hb; clear hb
    clear e4 e5 e6 e7
    have HF : Hid (blen (val z0 &&& val z1) ≤ 1125899906842624 ∧ blen (val z0 ||| val z1) ≤ 1125899906842624 ∧ blen (val z0 ^^^ val z1) ≤ 1125899906842624) := by
      have g1 := HEB.out.2.2.1
      have g2 := HEB.out.2.2.2.1
      have g3 := HEB.out.2.2.2.2
      have g4 := HE3.out
      exact ⟨by omega, by omega, by omega⟩
    clear e1 e2
    go_wp2_with fail
    have R1 : Below w8.heap.size w8 w8 := Below.refl _ _
    go_loopw [14] (fun i wr => ∃ k : Nat, k ≤ n1 ∧ i = .int .i64 k ∧ wr = w8) (fun i _ => n1 - (intOf i).toNat)
    case atStart => exact ⟨0, Nat.zero_le _, rfl, rfl⟩
    case round =>
      obtain ⟨k, hk, rfl, rfl⟩ := hrel
      by_cases hkl : k < n1
      · have B0 := rbit_any _ _ k _ N0 (by omega)
        have B1 := rbit_any _ _ k _ N1 (by omega)
        have Bp := rbit_any _ _ k _ Np (by omega)
        have Bq := rbit_any _ _ k _ Nq (by omega)
        have Br := rbit_any _ _ k _ Nr (by omega)
        rw [and_bit] at Bp
        rw [or_bit] at Bq
        rw [xor_bit] at Br
        have hb1 : val z0 / 2 ^ k % 2 ≤ 1 := by omega
        have hb2 : val z1 / 2 ^ k % 2 ≤ 1 := by omega
        generalize val z0 / 2 ^ k % 2 = b1 at *
        generalize val z1 / 2 ^ k % 2 = b2 at *
        clear A0 A1 Ba Bo Bx Ch N0 N1 Np Nq Nr R1
        have i1 : (k : Int) < (n1 : Int) := by omega
        rcases (by omega : b1 = 0 ∨ b1 = 1) with rfl | rfl <;> rcases (by omega : b2 = 0 ∨ b2 = 1) with rfl | rfl
        all_goals
          clear hb1 hb2
          go_wp2_with fail
          refine B0.mono ?_
          rintro e wn ⟨rfl, hw⟩; subst hw
          go_wp2_with fail
          refine B1.mono ?_
          rintro e wn ⟨rfl, hw⟩; subst hw
          go_wp2_with fail
          refine Bp.mono ?_
          rintro e wn ⟨rfl, hw⟩; subst hw
          go_wp2_with fail
          refine Bq.mono ?_
          rintro e wn ⟨rfl, hw⟩; subst hw
          go_wp2_with fail
          refine Br.mono ?_
          rintro e wn ⟨rfl, hw⟩; subst hw
          clear B0 B1 Bp Bq Br
          go_wp2
          go_roundw
          case rel => exact ⟨k + 1, by omega, by go_num, trivial⟩
          case measure => simp [intOf]; omega
      · have ek : k = n1 := by omega
        subst ek
        have hend : ¬ ((k : Int) < (k : Int)) := by omega
        go_wp2_with fail
        refine (is_true _ _ _ _ _ Np Ba TA.out.1 VA.out.1 HF.out.1).mono ?_
        rintro e w9 ⟨rfl, hb⟩
        replace HB := hid_below HB hb; replace A0 := A0.below hb; replace A1 := A1.below hb; replace Ba := Ba.below hb; replace Bo := Bo.below hb; replace Bx := Bx.below hb; replace Ch := Ch.below hb; replace Nq := Nq.below hb; replace Nr := Nr.below hb; clear hb
        go_wp2_with fail
        refine (is_true _ _ _ _ _ Nq Bo TA.out.2.1 VA.out.2.1 HF.out.2.1).mono ?_
        rintro e w10 ⟨rfl, hb⟩
        replace HB := hid_below HB hb; replace A0 := A0.below hb; replace A1 := A1.below hb; replace Ba := Ba.below hb; replace Bo := Bo.below hb; replace Bx := Bx.below hb; replace Ch := Ch.below hb; replace Nr := Nr.below hb; clear hb
        go_wp2_with fail
        refine (is_true _ _ _ _ _ Nr Bx TA.out.2.2 VA.out.2.2 HF.out.2.2).mono ?_
        rintro e w11 ⟨rfl, hb⟩
        replace HB := hid_below HB hb; replace A0 := A0.below hb; replace A1 := A1.below hb; replace Ba := Ba.below hb; replace Bo := Bo.below hb; replace Ch := Ch.below hb; clear hb
        have C0 := count_any _ _ _ A0
        have C1 := count_any _ _ _ A1
        have Ca := count_any _ _ _ Ba
        have Co := count_any _ _ _ Bo
        have p0 := pcs_le z0
        have p1 := pcs_le z1
        have pa := pcs_le RA
        have po := pcs_le RO
        have k1 := EP.out
        generalize pcs z0 = c0 at *
        generalize pcs z1 = c1 at *
        generalize pcs RA = cA at *
        generalize pcs RO = cO at *
        have k2 : (cA : Int) + (cO : Int) = (c0 : Int) + (c1 : Int) := by omega
        have p2 : (c0 : Int) + (c1 : Int) ≤ 9223372036854775807 := by omega
        clear EP N0 N1 Np Nq Nr R1 A0 A1 Ba Bo Bx
        go_wp2_with fail
        refine C0.mono ?_
        rintro e wn ⟨rfl, hw⟩; subst hw
        go_wp2_with fail
        refine C1.mono ?_
        rintro e wn ⟨rfl, hw⟩; subst hw
        go_wp2_with fail
        refine Ca.mono ?_
        rintro e wn ⟨rfl, hw⟩; subst hw
        go_wp2_with fail
        refine Co.mono ?_
        rintro e wn ⟨rfl, hw⟩; subst hw
        clear C0 C1 Ca Co
        have hsz2 := HB.out.size
        go_wp2_with fail
        refine (own_chain w.heap.size [.slice aa na ca, .slice ao no co, .slice ax nx cx] [RA, RO, RE] _ Ch (by simp) (by simp; omega) hsz2).mono ?_
        rintro e w12 ⟨rfl, hb⟩
        replace HB : Hid (Below w.heap.size w w12) := HB.out.trans hb
        clear hb Ch
        go_wp2_with fail
        refine (lives_any _).mono ?_
        rintro e wn ⟨rfl, hb⟩
        replace HB := hid_below HB hb; clear hb
        go_wp2
        go_ret
        exact ⟨rfl, HB.out⟩
  · have hsmall : n0 ≤ 1125899906809856 := by omega
    have d1 : decide (n0 < n1) = false := decide_eq_false hcmp
    have d2 : ¬ ((n0 : Int) < (n1 : Int)) := by omega
    have d3 : n1 ≤ n0 := by omega
    have e1 : na' ≤ n0 := by omega
    have e2 := q2 n0 (Nat.le_refl _) (by omega)
    have e3 := q3 n0 (Nat.le_refl _) (by omega) (.inl (Nat.le_refl _))
    clear q1 q2 q3
    go_wp2_with fail
    refine HL1.mono ?_
    rintro e wn ⟨rfl, hw⟩; subst hw
    go_wp2_with fail
    refine HL2.mono ?_
    rintro e wn ⟨rfl, hw⟩; subst hw
    clear HL1 HL2
    have e4 : ¬ ((n0 : Int) < (na' : Int)) := by omega
    have e5 : ¬ ((n0 : Int) < (ne' : Int)) := by omega
    have e6 : ((no' : Int) != (n0 : Int)) = false := by rw [bne_eq_false_iff_eq]; omega
    have e7 : ¬ ((no' : Int) ≠ (n0 : Int)) := by omega
    have HE3 := hide e3
    clear hcmp e3
    go_wp2_with fail
    refine LA.mono ?_
    rintro e wn ⟨rfl, hw⟩; subst hw
    go_wp2_with fail
    refine LO.mono ?_
    rintro e wn ⟨rfl, hw⟩; subst hw
    go_wp2_with fail
    refine LX.mono ?_
    rintro e wn ⟨rfl, hw⟩; subst hw
    clear LA LO LX
    go_wp2_with fail
    refine (of_any _ _ _ Ba (by omega)).mono ?_
    rintro e w6 ⟨⟨vp, rfl, Np⟩, hb⟩
    rw [VA.out.1] at Np
    replace HB := hid_below HB hb; replace A0 := A0.below hb; replace A1 := A1.below hb; replace Ba := Ba.below hb; replace Bo := Bo.below hb; replace Bx := Bx.below hb; replace Ch := Ch.below hb; replace N0 := N0.below hb; replace N1 := N1.below hb; clear hb
    go_wp2_with fail
    refine (of_any _ _ _ Bo (by omega)).mono ?_
    rintro e w7 ⟨⟨vq, rfl, Nq⟩, hb⟩
    rw [VA.out.2.1] at Nq
    replace HB := hid_below HB hb; replace A0 := A0.below hb; replace A1 := A1.below hb; replace Ba := Ba.below hb; replace Bo := Bo.below hb; replace Bx := Bx.below hb; replace Ch := Ch.below hb; replace N0 := N0.below hb; replace N1 := N1.below hb; replace Np := Np.below hb; clear hb
    go_wp2_with fail
    refine (of_any _ _ _ Bx (by omega)).mono ?_
    rintro e w8 ⟨⟨vr, rfl, Nr⟩, hb⟩
    rw [VA.out.2.2] at Nr
    replace HB := hid_below HB hb; replace A0 := A0.below hb; replace A1 := A1.below hb; replace Ba := Ba.below hb; replace Bo := Bo.below hb; replace Bx := Bx.below hb; replace Ch := Ch.below hb; replace N0 := N0.below hb; replace N1 := N1.below hb; replace Np := Np.below hb; replace Nq := Nq.below hb; clear hb
    clear e4 e5 e6 e7
    have HF : Hid (blen (val z0 &&& val z1) ≤ 1125899906842624 ∧ blen (val z0 ||| val z1) ≤ 1125899906842624 ∧ blen (val z0 ^^^ val z1) ≤ 1125899906842624) := by
      have g1 := HEB.out.2.2.1
      have g2 := HEB.out.2.2.2.1
      have g3 := HEB.out.2.2.2.2
      have g4 := HE3.out
      exact ⟨by omega, by omega, by omega⟩
    clear e1 e2
    go_wp2_with fail
    have R1 : Below w8.heap.size w8 w8 := Below.refl _ _
    go_loopw [14] (fun i wr => ∃ k : Nat, k ≤ n0 ∧ i = .int .i64 k ∧ wr = w8) (fun i _ => n0 - (intOf i).toNat)
    case atStart => exact ⟨0, Nat.zero_le _, rfl, rfl⟩
    case round =>
      obtain ⟨k, hk, rfl, rfl⟩ := hrel
      by_cases hkl : k < n0
      · have B0 := rbit_any _ _ k _ N0 (by omega)
        have B1 := rbit_any _ _ k _ N1 (by omega)
        have Bp := rbit_any _ _ k _ Np (by omega)
        have Bq := rbit_any _ _ k _ Nq (by omega)
        have Br := rbit_any _ _ k _ Nr (by omega)
        rw [and_bit] at Bp
        rw [or_bit] at Bq
        rw [xor_bit] at Br
        have hb1 : val z0 / 2 ^ k % 2 ≤ 1 := by omega
        have hb2 : val z1 / 2 ^ k % 2 ≤ 1 := by omega
        generalize val z0 / 2 ^ k % 2 = b1 at *
        generalize val z1 / 2 ^ k % 2 = b2 at *
        clear A0 A1 Ba Bo Bx Ch N0 N1 Np Nq Nr R1
        have i1 : (k : Int) < (n0 : Int) := by omega
        rcases (by omega : b1 = 0 ∨ b1 = 1) with rfl | rfl <;> rcases (by omega : b2 = 0 ∨ b2 = 1) with rfl | rfl
        all_goals
          clear hb1 hb2
          go_wp2_with fail
          refine B0.mono ?_
          rintro e wn ⟨rfl, hw⟩; subst hw
          go_wp2_with fail
          refine B1.mono ?_
          rintro e wn ⟨rfl, hw⟩; subst hw
          go_wp2_with fail
          refine Bp.mono ?_
          rintro e wn ⟨rfl, hw⟩; subst hw
          go_wp2_with fail
          refine Bq.mono ?_
          rintro e wn ⟨rfl, hw⟩; subst hw
          go_wp2_with fail
          refine Br.mono ?_
          rintro e wn ⟨rfl, hw⟩; subst hw
          clear B0 B1 Bp Bq Br
          go_wp2
          go_roundw
          case rel => exact ⟨k + 1, by omega, by go_num, trivial⟩
          case measure => simp [intOf]; omega
      · have ek : k = n0 := by omega
        subst ek
        have hend : ¬ ((k : Int) < (k : Int)) := by omega
        go_wp2_with fail
        refine (is_true _ _ _ _ _ Np Ba TA.out.1 VA.out.1 HF.out.1).mono ?_
        rintro e w9 ⟨rfl, hb⟩
        replace HB := hid_below HB hb; replace A0 := A0.below hb; replace A1 := A1.below hb; replace Ba := Ba.below hb; replace Bo := Bo.below hb; replace Bx := Bx.below hb; replace Ch := Ch.below hb; replace Nq := Nq.below hb; replace Nr := Nr.below hb; clear hb
        go_wp2_with fail
        refine (is_true _ _ _ _ _ Nq Bo TA.out.2.1 VA.out.2.1 HF.out.2.1).mono ?_
        rintro e w10 ⟨rfl, hb⟩
        replace HB := hid_below HB hb; replace A0 := A0.below hb; replace A1 := A1.below hb; replace Ba := Ba.below hb; replace Bo := Bo.below hb; replace Bx := Bx.below hb; replace Ch := Ch.below hb; replace Nr := Nr.below hb; clear hb
        go_wp2_with fail
        refine (is_true _ _ _ _ _ Nr Bx TA.out.2.2 VA.out.2.2 HF.out.2.2).mono ?_
        rintro e w11 ⟨rfl, hb⟩
        replace HB := hid_below HB hb; replace A0 := A0.below hb; replace A1 := A1.below hb; replace Ba := Ba.below hb; replace Bo := Bo.below hb; replace Ch := Ch.below hb; clear hb
        have C0 := count_any _ _ _ A0
        have C1 := count_any _ _ _ A1
        have Ca := count_any _ _ _ Ba
        have Co := count_any _ _ _ Bo
        have p0 := pcs_le z0
        have p1 := pcs_le z1
        have pa := pcs_le RA
        have po := pcs_le RO
        have k1 := EP.out
        generalize pcs z0 = c0 at *
        generalize pcs z1 = c1 at *
        generalize pcs RA = cA at *
        generalize pcs RO = cO at *
        have k2 : (cA : Int) + (cO : Int) = (c0 : Int) + (c1 : Int) := by omega
        have p2 : (c0 : Int) + (c1 : Int) ≤ 9223372036854775807 := by omega
        clear EP N0 N1 Np Nq Nr R1 A0 A1 Ba Bo Bx
        go_wp2_with fail
        refine C0.mono ?_
        rintro e wn ⟨rfl, hw⟩; subst hw
        go_wp2_with fail
        refine C1.mono ?_
        rintro e wn ⟨rfl, hw⟩; subst hw
        go_wp2_with fail
        refine Ca.mono ?_
        rintro e wn ⟨rfl, hw⟩; subst hw
        go_wp2_with fail
        refine Co.mono ?_
        rintro e wn ⟨rfl, hw⟩; subst hw
        clear C0 C1 Ca Co
        have hsz2 := HB.out.size
        go_wp2_with fail
        refine (own_chain w.heap.size [.slice aa na ca, .slice ao no co, .slice ax nx cx] [RA, RO, RE] _ Ch (by simp) (by simp; omega) hsz2).mono ?_
        rintro e w12 ⟨rfl, hb⟩
        replace HB : Hid (Below w.heap.size w w12) := HB.out.trans hb
        clear hb Ch
        go_wp2_with fail
        refine (lives_any _).mono ?_
        rintro e wn ⟨rfl, hb⟩
        replace HB := hid_below HB hb; clear hb
        go_wp2
        go_ret
        exact ⟨rfl, HB.out⟩

end Go.Proofs.Ytmloigbacfllhaa
