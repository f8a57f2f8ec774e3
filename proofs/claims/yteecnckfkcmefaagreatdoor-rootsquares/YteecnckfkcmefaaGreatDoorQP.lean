/- Package mul: power, Pow. -/
import Derived.Test.YteecnckfkcmefaaGreatDoorQB
import Derived.Test.YteecnckfkcmefaaGreatDoorQF
import Derived.Test.YteecnckfkcmefaaGreatDoorQJ
import Derived.Laws.Bits128
import Derived.Handy
namespace Go.Proofs.YteecnckfkcmefaaGreatDoor
open Go.RowKit
open Lm
attribute [local go_sem ↓] Go.wp_at_zero Go.wp_at_succ

theorem i64_and1 (n : Int) : bits .and .i64 n 1 = n % 2 := by
  have h1 : (BitVec.ofInt 64 1).toNat = 2 ^ 1 - 1 := by decide
  have key : (BitVec.ofInt 64 n &&& BitVec.ofInt 64 1).toNat = (n % ((2 ^ 64 : Nat) : Int)).toNat % 2 ^ 1 := by
    rw [BitVec.toNat_and, BitVec.toNat_ofInt, h1, Nat.and_two_pow_sub_one_eq_mod]
  show IntKind.i64.wrap ((BitVec.ofInt 64 n &&& BitVec.ofInt 64 1).toNat : Nat) = n % 2
  rw [key, IntKind.wrap_i64]
  omega

theorem bits_step (x k : Nat) : x / 2 ^ k = 2 * (x / 2 ^ (k + 1)) + x / 2 ^ k % 2 := by
  rw [Nat.pow_succ, ← Nat.div_div_eq_div_mul]
  omega

theorem blen_up {x y : Nat} (h : x ≤ y) : blen x ≤ blen y := (blen_le_iff x _).2 (Nat.lt_of_le_of_lt h ((blen_le_iff y _).1 (Nat.le_refl _)))

theorem pow_part {x n k : Nat} (hx : 0 < x) (hk : k ≤ n) : x ^ k ≤ x ^ n := Nat.pow_le_pow_right hx hk

/-- What the powers' functions answer. -/
theorem Res.big {w : World} {base s : Nat} (h : 67108864 < blen s) : Res w base (.returned (.tuple #[.slice none 0 0, .int .i64 3])) s :=
  ⟨_, 3, [], rfl, Ans.nil _ _, .inr ⟨rfl, rfl, h⟩⟩

theorem Res.of_nv {w : World} {base s : Nat} {v : Value} (h : Nv w base v s) (hb : blen s ≤ 67108864) : Res w base (.returned (.tuple #[v, .int .i64 0])) s := by
  obtain ⟨rs, h1, h2, h3, _⟩ := h
  exact ⟨v, 0, rs, rfl, h1, .inl ⟨rfl, h2, h3, hb⟩⟩

theorem Res.parts {w : World} {base : Nat} {e : Ending} {s : Nat} (h : Res w base e s) : (∃ v, e = .returned (.tuple #[v, .int .i64 0]) ∧ Nv w base v s ∧ blen s ≤ 67108864) ∨ (∃ v, e = .returned (.tuple #[v, .int .i64 3]) ∧ 67108864 < blen s) := by
  obtain ⟨v, c, rs, rfl, hA, h⟩ := h
  rcases h with ⟨rfl, h1, h2, h3⟩ | ⟨rfl, _, h3⟩
  · exact .inl ⟨v, rfl, Nv.of hA h1 h2 h3, h3⟩
  · exact .inr ⟨v, rfl, h3⟩

set_option maxRecDepth 20000 in
set_option maxHeartbeats 2000000 in
theorem mpower_any (va : Value) (X : List Nat) (n : Nat) (w : World) (hA : Arg w va X) (hT : Tab w) (hl : X.length ≤ 1048577) (hx : 0 < val X) (hn0 : 0 < n) (hn : n ≤ 9223372036854775807) :
    Calls Tryz.prog 98 #[va, .int .i64 n] w fun e w' => Below w.heap.size w w' ∧ Res w' w.heap.size e (val X ^ n) := by
  obtain ⟨x, hxx⟩ : ∃ x, val X = x := ⟨_, rfl⟩
  rw [hxx] at hx ⊢
  have HF := from_any 1 w (by omega)
  have HLN := fun W => Tryz.bits_Len (n : Int) W (by omega) (by omega)
  rw [Int.toNat_natCast] at HLN
  have wn : IntKind.u64.wrap (n : Int) = (n : Int) := by rw [IntKind.wrap_u64]; omega
  obtain ⟨L, hL⟩ : ∃ L, Lib.bitLen n = L := ⟨_, rfl⟩
  have hnl : n < 2 ^ L := by
    obtain ⟨_, _, h3⟩ := Lib.bitLenAux_bounds 64 n (by omega) (by omega)
    rw [← hL]; exact h3
  have hL64 : L ≤ 64 := by rw [← hL]; exact Lib.bitLen_le n 64 (by omega) (by omega)
  rw [hL] at HLN
  obtain ⟨a1, c1, rfl, _, _, _⟩ := hA.form
  have HA := hide hA
  have HT := hide hT
  have HX := hide (And.intro hxx hx)
  have HN := hide (And.intro hnl hn0)
  clear hA hT hxx hx hL hnl hn0
  go_enter Tryz.func98, Tryz.ntmps98
  go_wp2_with fail
  refine HF.mono ?_
  rintro e w1 ⟨⟨v1, rfl, A1⟩, hb1⟩
  have ST := hide (And.intro (Nv.of A1 (x := 1) (by rw [val_tr]; simp [val]) (tr_tr _) (by decide)) hb1)
  clear HF A1 hb1
  go_wp2_with fail
  refine (HLN _).mono ?_
  rintro e wn' ⟨rfl, hw⟩; rw [hw]; clear hw wn' HLN
  go_wp2
  go_loopw [6, 7, 8] (fun v c i wr => ∃ (k : Nat), c = .int .i64 0 ∧ i = .int .i64 ((k : Int) - 1) ∧ k ≤ L ∧ Nv wr w.heap.size v (x ^ (n / 2 ^ k)) ∧ Below w.heap.size w wr) (fun _ _ i _ => (intOf i + 1).toNat)
  case atStart =>
    refine ⟨L, rfl, rfl, Nat.le_refl _, ?_, ST.out.2⟩
    rw [Nat.div_eq_of_lt HN.out.1, Nat.pow_zero]
    exact ST.out.1
  case round =>
    obtain ⟨k, rfl, rfl, hk, hnv, hbel⟩ := hrel
    have HNV := hide hnv
    have HB := hide hbel
    clear hnv hbel ST
    by_cases hk0 : k = 0
    · subst hk0
      have h := HNV.out
      rw [Nat.pow_zero, Nat.div_one] at h
      have HE := hide h
      clear h
      go_wp2
      go_returns
      refine ⟨HB.out, Res.of_nv HE.out ?_⟩
      obtain ⟨rs, h1, h2, h3, h4⟩ := HE.out
      rw [← h2]
      have := (blen_le_iff (val rs) (64 * rs.length)).2 (by have := val_lt h1.limbs; rw [show (18446744073709551616 : Nat) = 2 ^ 64 from rfl, ← Nat.pow_mul] at this; exact this)
      omega
    · obtain ⟨j, rfl⟩ : ∃ j, k = j + 1 := ⟨k - 1, by omega⟩
      have ej : (((j + 1 : Nat) : Int) - 1) = (j : Int) := by omega
      rw [ej]
      have hj0 : (0 : Int) ≤ (j : Int) := by omega
      have hj64 : j < 64 := by omega
      obtain ⟨rs, A1, e1, _, l1⟩ := HNV.out.arg
      have HS := square_any _ rs wr A1 (HT.out.below HB.out) (by omega)
      have e2 : val rs * val rs = x ^ (2 * (n / 2 ^ (j + 1))) := by rw [e1, ← Nat.pow_add]; congr 1; omega
      rw [e2] at HS
      have hst := bits_step n j
      have hle : n / 2 ^ j ≤ n := Nat.div_le_self _ _
      have hsh : (n : Int) / 2 ^ j = ((n / 2 ^ j : Nat) : Int) := by rw [Int.natCast_ediv, Int.natCast_pow]; rfl
      have hand := i64_and1 ((n / 2 ^ j : Nat) : Int)
      have hm2 : ((n / 2 ^ j : Nat) : Int) % 2 = ((n / 2 ^ j % 2 : Nat) : Int) := by omega
      rw [hm2] at hand
      have wj : IntKind.i64.wrap (((n / 2 ^ j : Nat)) : Int) = (((n / 2 ^ j : Nat)) : Int) := by rw [IntKind.wrap_i64]; omega
      generalize n / 2 ^ (j + 1) = p at *
      obtain ⟨q, hq⟩ : ∃ q, n / 2 ^ j = q := ⟨_, rfl⟩
      rw [hq] at hst hle hsh hand hm2 wj
      have HQ := hide (And.intro hst hle)
      have HQD := hide hq
      clear hq
      clear A1 e1 e2 l1 ej hk0 hst
      go_wp2_with fail
      refine HS.mono ?_
      rintro e w2 ⟨hb2, hr⟩
      have HB2 := hide (HB.out.trans (hb2.mono HB.out.size))
      rcases hr.parts with ⟨v2, rfl, N2, bl2⟩ | ⟨v2, rfl, bl2⟩
      · have HN2 := hide N2
        clear HS hb2 hr N2 bl2
        rcases Nat.mod_two_eq_zero_or_one q with h0 | h1
        · rw [h0] at hand
          have HEQ : Hid (2 * p = q) := hide (by have := HQ.out.1; omega)
          clear h0
          go_wp2
          go_roundw
          case rel => exact ⟨j, rfl, rfl, by omega, by rw [HQD.out, ← HEQ.out]; exact HN2.out.base HB.out.size, HB2.out⟩
          case measure => simp [intOf]
        · rw [h1] at hand
          have HEQ : Hid (2 * p + 1 = q) := hide (by have := HQ.out.1; omega)
          obtain ⟨rs2, A2, e2, _, l2⟩ := HN2.out.arg
          have HM := mul_any v2 _ rs2 X w2 A2 (HA.out.below HB2.out) (HT.out.below HB2.out) (by omega)
          have e3 : val rs2 * val X = x ^ q := by rw [e2, HX.out.1, ← HEQ.out, Nat.pow_succ]
          rw [e3] at HM
          clear h1 A2 e2 l2 e3
          go_wp2_with fail
          refine HM.mono ?_
          rintro e w3 ⟨hb3, hr⟩
          have HB3 := hide (HB2.out.trans (hb3.mono HB2.out.size))
          rcases hr.parts with ⟨v3, rfl, N3, bl3⟩ | ⟨v3, rfl, bl3⟩
          · have HN3 := hide N3
            clear HM hb3 hr N3 bl3
            go_wp2
            go_roundw
            case rel => exact ⟨j, rfl, rfl, by omega, by rw [HQD.out]; exact HN3.out.base HB2.out.size, HB3.out⟩
            case measure => simp [intOf]
          · have HBG := hide (Nat.lt_of_lt_of_le bl3 (blen_up (pow_part HX.out.2 HQ.out.2)))
            clear HM hb3 hr bl3
            go_wp2
            go_returns
            exact ⟨HB3.out, Res.big HBG.out⟩
      · have HBG := hide (Nat.lt_of_lt_of_le bl2 (blen_up (pow_part (n := n) (k := 2 * p) HX.out.2 (by have := HQ.out; omega))))
        clear HS hb2 hr bl2
        go_wp2
        go_returns
        exact ⟨HB2.out, Res.big HBG.out⟩

end Go.Proofs.YteecnckfkcmefaaGreatDoor

/- Package mul: Pow. -/
namespace Go.Proofs.YteecnckfkcmefaaGreatDoor
open Go.RowKit
open Lm
attribute [local go_sem ↓] Go.wp_at_zero Go.wp_at_succ

theorem two_of_blen {x : Nat} (h : 1 < blen x) : 2 ≤ x := by
  refine Nat.le_of_not_lt fun hlt => ?_
  have : blen x ≤ 1 := (blen_le_iff x 1).2 (by omega)
  omega

theorem pow_big {x n : Nat} (hx : 1 < blen x) (h : 67108863 < (blen x - 1) * n) : 67108864 < blen (x ^ n) := by
  have h1 := blen_pow_le x (by have := two_of_blen hx; omega)
  have h2 : 2 ^ ((blen x - 1) * n) ≤ x ^ n := by rw [Nat.pow_mul]; exact Nat.pow_le_pow_left h1 n
  refine Nat.lt_of_not_le fun hle => ?_
  have h3 := (blen_le_iff (x ^ n) _).1 (Nat.le_refl (blen (x ^ n)))
  have h4 : (blen x - 1) * n < blen (x ^ n) := (Nat.pow_lt_pow_iff_right (by omega)).1 (Nat.lt_of_le_of_lt h2 h3)
  omega

theorem isTail_odd {x t : Nat} (h : IsTail x t) : x = x / 2 ^ t * 2 ^ t ∧ 0 < x / 2 ^ t := by
  obtain ⟨h1, h2⟩ := h
  have h3 := Nat.div_add_mod x (2 ^ t)
  rw [h1, Nat.mul_comm] at h3
  refine ⟨h3.symm, ?_⟩
  generalize x / 2 ^ t = q at *
  rcases Nat.eq_zero_or_pos q with h | h
  · rw [h] at h2; simp at h2
  · exact h

set_option maxRecDepth 20000 in
set_option maxHeartbeats 2000000 in
theorem mpow_any (va : Value) (X : List Nat) (n : Nat) (w : World) (hA : Arg w va X) (hT : Tab w) (hl : X.length ≤ 17592186044416) (hn : n ≤ 9223372036854775807) :
    Calls Tryz.prog 86 #[va, .int .i64 n] w fun e w' => Below w.heap.size w w' ∧ Res w' w.heap.size e (val X ^ n) := by
  have HL := length_val _ _ w hA
  obtain ⟨L, hL⟩ : ∃ L, blen (val X) = L := ⟨_, rfl⟩
  rw [hL] at HL
  have hLb : L ≤ 64 * X.length := by
    rw [← hL]
    exact (blen_le_iff _ _).2 (by have := val_lt hA.limbs; rw [show (18446744073709551616 : Nat) = 2 ^ 64 from rfl, ← Nat.pow_mul] at this; exact this)
  by_cases h0 : n = 0
  · subst h0
    have HF := from_any 1 w (by omega)
    have HR : Hid (∀ w' v, Ans w' w.heap.size v (tr [1]) → Res w' w.heap.size (.returned (.tuple #[v, .int .i64 0])) (val X ^ 0)) := hide fun w' v h => ⟨v, 0, _, rfl, h, .inl ⟨rfl, by rw [val_tr]; simp [val], tr_tr _, by rw [Nat.pow_zero]; decide⟩⟩
    clear hA hT hL
    go_enter Tryz.func86, Tryz.ntmps86
    go_wp2_with fail
    refine HL.mono ?_
    rintro e wn ⟨rfl, hw⟩; rw [hw]; clear hw wn HL
    go_wp2_with fail
    refine HF.mono ?_
    rintro e w1 ⟨⟨v1, rfl, A1⟩, hb1⟩
    have H := hide (And.intro A1 hb1)
    clear HF A1 hb1
    go_wp2
    go_returns
    exact ⟨H.out.2, HR.out _ _ H.out.1⟩
  · have hz : ((n : Int) == 0) = false := by rw [beq_eq_false_iff_ne]; omega
    have hnn : ¬ ((n : Int) < 0) := by omega
    by_cases h1 : L ≤ 1
    · have HN := nnorm_any va X w hA hl
      have i1 : (L : Int) ≤ 1 := by omega
      have hx1 : val X ^ n = val X := by
        have : val X < 2 ^ 1 := (blen_le_iff _ 1).1 (by rw [hL]; exact h1)
        rcases Nat.eq_zero_or_pos (val X) with h | h
        · rw [h]; exact Nat.zero_pow (by omega)
        · rw [show val X = 1 by omega, Nat.one_pow]
      rw [hx1]
      have HX := hide (show blen (val X) ≤ 67108864 by omega)
      clear hA hT hL hx1
      go_enter Tryz.func86, Tryz.ntmps86
      go_wp2_with fail
      refine HL.mono ?_
      rintro e wn ⟨rfl, hw⟩; rw [hw]; clear hw wn HL
      go_wp2_with fail
      refine HN.mono ?_
      rintro e w1 ⟨⟨v1, rfl, A1⟩, hb1⟩
      have H := hide (And.intro A1 hb1)
      clear HN A1 hb1
      go_wp2
      go_returns
      exact ⟨H.out.2, _, 0, _, rfl, H.out.1, .inl ⟨rfl, val_tr _, tr_tr _, HX.out⟩⟩
    · have i1 : ¬ ((L : Int) ≤ 1) := by omega
      obtain ⟨M, hM⟩ : ∃ M, L = M + 1 := ⟨L - 1, by omega⟩
      have eM : (L : Int) - 1 = (M : Int) := by omega
      obtain ⟨Q, hQ⟩ : ∃ Q, 67108863 / n = Q := ⟨_, rfl⟩
      have eQ : (67108863 : Int) / (n : Int) = (Q : Int) := by rw [← hQ, Int.natCast_ediv]; rfl
      have hQl : Q ≤ 67108863 := by rw [← hQ]; exact Nat.div_le_self _ _
      by_cases h2 : Q < M
      · have i2 : (Q : Int) < (M : Int) := by omega
        have HB : Hid (67108864 < blen (val X ^ n)) := by
          refine hide (pow_big (by omega) ?_)
          rw [hL, hM, Nat.add_sub_cancel]
          rw [← hQ] at h2
          exact (Nat.div_lt_iff_lt_mul (by omega)).1 h2
        clear hA hT hL hM hQ
        go_enter Tryz.func86, Tryz.ntmps86
        go_wp2_with fail
        refine HL.mono ?_
        rintro e wn ⟨rfl, hw⟩; rw [hw]; clear hw wn HL
        go_wp2
        go_returns
        exact ⟨Below.refl _ _, Res.big HB.out⟩
      · have i2 : ¬ ((Q : Int) < (M : Int)) := by omega
        have hMn : M * n ≤ 67108863 := by
          have : M ≤ 67108863 / n := by omega
          exact (Nat.le_div_iff_mul_le (by omega)).1 this
        have HTL := tail_any va X w hA hT
        have HA := hide hA
        have HT := hide hT
        have hx2 : 2 ≤ val X := two_of_blen (by omega)
        have HX := hide (And.intro hL (And.intro hM (And.intro hMn hx2)))
        clear hA hT hL hM hQ hMn hx2
        go_enter Tryz.func86, Tryz.ntmps86
        go_wp2_with fail
        refine HL.mono ?_
        rintro e wn ⟨rfl, hw⟩; rw [hw]; clear hw wn HL
        go_wp2_with fail
        refine HTL.mono ?_
        rintro e wn ⟨⟨t, ht, rfl, _, htl⟩, hw⟩; rw [hw]; clear hw wn HTL
        have hit := htl (by have := HX.out.2.2.2; omega)
        obtain ⟨od1, od2⟩ := isTail_odd hit
        have htM : t ≤ M := by
          have h3 : 2 ^ t ≤ val X := by rw [od1]; exact Nat.le_mul_of_pos_left _ od2
          have h4 := (blen_le_iff (val X) _).1 (Nat.le_refl _)
          have h5 : t < blen (val X) := (Nat.pow_lt_pow_iff_right (by omega)).1 (Nat.lt_of_le_of_lt h3 h4)
          have := HX.out.1
          have := HX.out.2.1
          omega
        have hM26 : M ≤ 67108863 := by
          have := HX.out.2.2.1
          have := Nat.le_mul_of_pos_right M (show 0 < n by omega)
          omega
        have HR := right_any va X t w HA.out (by omega) (by omega)
        have HO := hide (And.intro od1 (And.intro od2 htM))
        clear htl hit od1 od2 ht
        go_wp2_with fail
        refine HR.mono ?_
        rintro e w1 ⟨hb1, hr1⟩
        have hble : blen (val X / 2 ^ t) ≤ blen (val X) := blen_up (Nat.div_le_self _ _)
        obtain ⟨v1, rfl, N1⟩ := hr1.fits (by have := HX.out.1; have := HX.out.2.1; omega)
        obtain ⟨rs1, A1, e1, _, l1⟩ := N1.arg
        have HP := mpower_any v1 rs1 n w1 A1 (HT.out.below hb1) (by omega) (by rw [e1]; exact HO.out.2.1) (by omega) hn
        rw [e1] at HP
        have HB1 := hide hb1
        clear HR hb1 hr1 hble N1 A1 e1 l1
        go_wp2_with fail
        refine HP.mono ?_
        rintro e w2 ⟨hb2, hr2⟩
        have HB2 := hide (HB1.out.trans (hb2.mono HB1.out.size))
        have hpw : (val X / 2 ^ t) ^ n * 2 ^ (t * n) = val X ^ n := by
          rw [Nat.pow_mul, ← Nat.mul_pow, ← HO.out.1]
        have htn : t * n ≤ 67108863 := Nat.le_trans (Nat.mul_le_mul_right n HO.out.2.2) HX.out.2.2.1
        obtain ⟨u, hu, eu⟩ : ∃ u : Nat, t * n = u ∧ (t : Int) * (n : Int) = (u : Int) := ⟨t * n, rfl, by rw [Int.natCast_mul]⟩
        rw [hu] at hpw htn
        rcases hr2.parts with ⟨v2, rfl, N2, bl2⟩ | ⟨v2, rfl, bl2⟩
        · obtain ⟨rs2, A2, e2, _, l2⟩ := N2.arg
          have HLF := left_any v2 rs2 u w2 A2 (by omega) (by omega)
          rw [e2, hpw] at HLF
          clear HP hb2 hr2 N2 A2 e2 l2 bl2 hpw hu
          go_wp2_with fail
          refine HLF.mono ?_
          rintro e w3 ⟨hb3, v3, c3, rs3, rfl, A3, h3⟩
          have H := hide (And.intro (A3.base HB2.out.size) (And.intro h3 (HB2.out.trans (hb3.mono HB2.out.size))))
          clear HLF hb3 A3 h3
          go_wp2
          go_returns
          exact ⟨H.out.2.2, v3, c3, rs3, rfl, H.out.1, H.out.2.1⟩
        · have HBG := hide (Nat.lt_of_lt_of_le bl2 (blen_up (show (val X / 2 ^ t) ^ n ≤ val X ^ n by rw [← hpw]; exact Nat.le_mul_of_pos_right _ (Nat.two_pow_pos _))))
          clear HP hb2 hr2 bl2 hpw hu
          go_wp2
          go_returns
          exact ⟨HB2.out, Res.big HBG.out⟩

end Go.Proofs.YteecnckfkcmefaaGreatDoor
