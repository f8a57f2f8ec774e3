/- The walk of the law NatBack. -/
import Derived.Test.YthcdjlhhiheclabLives
import Derived.Test.YthcdjlhhiheclabOks
namespace Go.Proofs.Ythcdjlhhiheclab
open Go.RowKit
open Lm

theorem hid_below {w a b : World} (h : Hid (Below w.heap.size w a)) (hb : Below a.heap.size a b) : Hid (Below w.heap.size w b) := h.out.trans (hb.mono h.out.size)
theorem Same.top {a b : World} (h : Same a b) : Below a.heap.size a b := h.below _

set_option maxRecDepth 100000 in
set_option maxHeartbeats 1000000 in
theorem natBack_in (v0 : Value) (z0 : List Nat) (v1 : Value) (z1 : List Nat) (n : Nat) (w : World)
    (A0 : Arg w v0 z0) (s0 : z0.length ≤ 17592186043904) (A1 : Arg w v1 z1) (s1 : z1.length ≤ 17592186043904) (hn : n ≤ 1048576) :
    Calls Try.prog 3 #[v0, v1, .int .i64 n] w fun e w' => e = .returned (.bool true) ∧ Below w.heap.size w w' := by
    have HB : Hid (Below w.heap.size w w) := Below.refl _ _
    by_cases hA : blen (val z0) ≤ 33554432
    · by_cases hB : blen (val z1) ≤ 33554432
      · have b1 := blen_add _ _ _ hA hB
        have b2 := blen_mul_pow (val z0) n 33554432 hA
        have b3 : blen (val z0 / 2 ^ n) ≤ 33554432 := Nat.le_trans (blen_mono (Nat.div_le_self _ _)) hA
        have b4 : blen (val z0 % 2 ^ n) ≤ 33554432 := Nat.le_trans (blen_mono (Nat.mod_le _ _)) hA
        have b5 : blen (val z0 / 2 ^ n * 2 ^ n) ≤ 33554432 := Nat.le_trans (blen_mono (Nat.div_mul_le_self _ _)) hA
        have b6 : blen (val z0 % 2 ^ n) ≤ n := (blen_le_iff _ _).2 (Nat.mod_lt _ (Nat.two_pow_pos _))
        have HE1 : Hid (val z0 * 2 ^ n / 2 ^ n = val z0) := Nat.mul_div_cancel _ (Nat.two_pow_pos _)
        have HE2 : Hid (val z0 / 2 ^ n * 2 ^ n + val z0 % 2 ^ n = val z0) := Nat.div_add_mod' _ _
        have HE3 : Hid (val z0 + val z1 - val z1 = val z0) := Nat.add_sub_cancel _ _
        go_enter Try.func3, Try.ntmps3
        go_wp2_with fail
        refine (length_val _ _ _ A0).mono ?_
        rintro e wn ⟨rfl, hw⟩; subst hw
        go_wp2_with fail
        refine (length_val _ _ _ A1).mono ?_
        rintro e wn ⟨rfl, hw⟩; subst hw
        go_wp2_with fail
        refine (add_ok _ _ _ _ _ A0 A1 (by omega) (by omega) (by omega)).mono ?_
        rintro e wn ⟨⟨vs, rs, rfl, As, es, ls⟩, hb⟩
        replace A0 := A0.below hb; replace A1 := A1.below hb; replace HB := hid_below HB hb
        have Es := hide es
        clear hb es
        go_wp2_with fail
        refine (add_ok _ _ _ _ _ A1 A0 (by omega) (by omega) (by rw [Nat.add_comm]; omega)).mono ?_
        rintro e wn ⟨⟨vt, rt, rfl, At, et, lt⟩, hb⟩
        replace A0 := A0.below hb; replace A1 := A1.below hb; replace As := As.below hb; replace HB := hid_below HB hb
        have Et := hide et
        clear hb et
        go_wp2_with fail
        have h7 : val z1 ≤ val rs := by rw [Es.out]; omega
        have h8 : blen (val rs - val z1) ≤ 67108864 := by rw [Es.out, HE3.out]; omega
        refine (sub_ok _ _ _ _ _ As A1 (by omega) h7 h8).mono ?_
        rintro e wn ⟨⟨vd, rd, rfl, Ad, ed, ld⟩, hb⟩
        rw [Es.out, HE3.out] at ed
        replace A0 := A0.below hb; replace As := As.below hb; replace At := At.below hb; replace HB := hid_below HB hb
        have Ed := hide ed
        clear hb ed h7 h8
        go_wp2_with fail
        refine (compare_any _ _ _ _ _ As At).mono ?_
        rintro e wn ⟨rfl, hs⟩
        rw [Es.out, Et.out, Nat.add_comm (val z1), cmpN_self]
        replace A0 := A0.below hs.top; replace Ad := Ad.below hs.top; replace HB := hid_below HB hs.top
        clear hs
        go_wp2_with fail
        refine (compare_any _ _ _ _ _ Ad A0).mono ?_
        rintro e wn ⟨rfl, hs⟩
        rw [Ed.out, cmpN_self]
        replace A0 := A0.below hs.top; replace HB := hid_below HB hs.top
        clear hs Es Et Ed As At Ad
        go_wp2_with fail
        refine (left_ok _ _ n _ A0 (by omega) (by omega) (Nat.le_trans b2 (by omega))).mono ?_
        rintro e wn ⟨⟨vl, rl, rfl, Al, el, ll⟩, hb⟩
        replace A0 := A0.below hb; replace HB := hid_below HB hb
        have El := hide el
        clear hb el
        go_wp2_with fail
        refine (right_ok _ _ n _ Al (by omega) (by omega) (by rw [El.out, HE1.out]; omega)).mono ?_
        rintro e wn ⟨⟨vr, rr, rfl, Ar, er, lr⟩, hb⟩
        rw [El.out, HE1.out] at er
        replace A0 := A0.below hb; replace HB := hid_below HB hb
        have Er := hide er
        clear hb er El Al
        go_wp2_with fail
        refine (compare_any _ _ _ _ _ Ar A0).mono ?_
        rintro e wn ⟨rfl, hs⟩
        rw [Er.out, cmpN_self]
        replace A0 := A0.below hs.top; replace HB := hid_below HB hs.top
        clear hs Er Ar
        go_wp2_with fail
        refine (right_ok _ _ n _ A0 (by omega) (by omega) (Nat.le_trans b3 (by omega))).mono ?_
        rintro e wn ⟨⟨vh, rh, rfl, Ah, eh, lh⟩, hb⟩
        replace A0 := A0.below hb; replace HB := hid_below HB hb
        have Eh := hide eh
        clear hb eh
        go_wp2_with fail
        refine (low_ok _ _ n _ A0 (by omega) (by omega) (Nat.le_trans b4 (by omega))).mono ?_
        rintro e wn ⟨⟨vm, rm, rfl, Am, em, lm⟩, hb⟩
        replace A0 := A0.below hb; replace Ah := Ah.below hb; replace HB := hid_below HB hb
        have Em := hide em
        clear hb em
        go_wp2_with fail
        refine (left_ok _ _ n _ Ah (by omega) (by omega) (by rw [Eh.out]; exact Nat.le_trans b5 (by omega))).mono ?_
        rintro e wn ⟨⟨vu, ru, rfl, Au, eu, lu⟩, hb⟩
        rw [Eh.out] at eu
        replace A0 := A0.below hb; replace Am := Am.below hb; replace HB := hid_below HB hb
        have Eu := hide eu
        clear hb eu Eh Ah
        go_wp2_with fail
        refine (add_ok _ _ _ _ _ Au Am (by omega) (by omega) (by rw [Eu.out, Em.out, HE2.out]; omega)).mono ?_
        rintro e wn ⟨⟨vw, rw', rfl, Aw, ew, lw⟩, hb⟩
        rw [Eu.out, Em.out, HE2.out] at ew
        replace A0 := A0.below hb; replace Am := Am.below hb; replace HB := hid_below HB hb
        have Ew := hide ew
        clear hb ew Eu Au
        go_wp2_with fail
        refine (compare_any _ _ _ _ _ Aw A0).mono ?_
        rintro e wn ⟨rfl, hs⟩
        rw [Ew.out, cmpN_self]
        replace Am := Am.below hs.top; replace HB := hid_below HB hs.top
        clear hs Ew Aw
        go_wp2_with fail
        refine (length_val _ _ _ Am).mono ?_
        rintro e wn ⟨rfl, hw⟩; subst hw
        rw [Em.out]
        generalize blen (val z0 % 2 ^ n) = y at *
        go_wp2_with fail
        refine (lives_any _).mono ?_
        rintro e wn ⟨rfl, hb⟩
        replace HB := hid_below HB hb
        clear hb
        go_wp2
        go_ret
        exact ⟨rfl, HB.out⟩
      · go_enter Try.func3, Try.ntmps3
        go_wp2_with (first
          | (go_at_call 6; refine (length_val _ _ _ (by assumption)).mono ?_; rintro e wn ⟨rfl, hw⟩; subst hw)
          | (go_at_call 7; refine (lives_any _).mono ?_; rintro e wn ⟨rfl, hb⟩; replace HB := hid_below HB hb; clear hb))
        go_ret
        exact ⟨rfl, HB.out⟩
    · go_enter Try.func3, Try.ntmps3
      go_wp2_with (first
        | (go_at_call 6; refine (length_val _ _ _ (by assumption)).mono ?_; rintro e wn ⟨rfl, hw⟩; subst hw)
        | (go_at_call 7; refine (lives_any _).mono ?_; rintro e wn ⟨rfl, hb⟩; replace HB := hid_below HB hb; clear hb))
      go_ret
      exact ⟨rfl, HB.out⟩

set_option maxRecDepth 100000 in
set_option maxHeartbeats 1000000 in
theorem natBack_out (v0 : Value) (z0 : List Nat) (v1 : Value) (z1 : List Nat) (n : Int) (w : World)
    (A0 : Arg w v0 z0) (s0 : z0.length ≤ 17592186043904) (A1 : Arg w v1 z1) (s1 : z1.length ≤ 17592186043904) (hd : (n < 0 ∧ decide (n < 0) = true) ∨ (0 ≤ n ∧ decide (n < 0) = false ∧ 1048576 < n ∧ decide (1048576 < n) = true)) :
    Calls Try.prog 3 #[v0, v1, .int .i64 n] w fun e w' => e = .returned (.bool true) ∧ Below w.heap.size w w' := by
  have HB : Hid (Below w.heap.size w w) := Below.refl _ _
  rcases hd with ⟨hd1, hd2⟩ | ⟨hd1, hd2, hd3, hd4⟩
  · skip
    by_cases hA : blen (val z0) ≤ 33554432
    · by_cases hB : blen (val z1) ≤ 33554432
      · have b1 := blen_add _ _ _ hA hB
        have b2 := blen_mul_pow (val z0) 17 33554432 hA
        have b3 : blen (val z0 / 2 ^ 17) ≤ 33554432 := Nat.le_trans (blen_mono (Nat.div_le_self _ _)) hA
        have b4 : blen (val z0 % 2 ^ 17) ≤ 33554432 := Nat.le_trans (blen_mono (Nat.mod_le _ _)) hA
        have b5 : blen (val z0 / 2 ^ 17 * 2 ^ 17) ≤ 33554432 := Nat.le_trans (blen_mono (Nat.div_mul_le_self _ _)) hA
        have b6 : blen (val z0 % 2 ^ 17) ≤ 17 := (blen_le_iff _ _).2 (Nat.mod_lt _ (Nat.two_pow_pos _))
        have HE1 : Hid (val z0 * 2 ^ 17 / 2 ^ 17 = val z0) := Nat.mul_div_cancel _ (Nat.two_pow_pos _)
        have HE2 : Hid (val z0 / 2 ^ 17 * 2 ^ 17 + val z0 % 2 ^ 17 = val z0) := Nat.div_add_mod' _ _
        have HE3 : Hid (val z0 + val z1 - val z1 = val z0) := Nat.add_sub_cancel _ _
        go_enter Try.func3, Try.ntmps3
        go_wp2_with fail
        refine (length_val _ _ _ A0).mono ?_
        rintro e wn ⟨rfl, hw⟩; subst hw
        go_wp2_with fail
        refine (length_val _ _ _ A1).mono ?_
        rintro e wn ⟨rfl, hw⟩; subst hw
        go_wp2_with fail
        refine (add_ok _ _ _ _ _ A0 A1 (by omega) (by omega) (by omega)).mono ?_
        rintro e wn ⟨⟨vs, rs, rfl, As, es, ls⟩, hb⟩
        replace A0 := A0.below hb; replace A1 := A1.below hb; replace HB := hid_below HB hb
        have Es := hide es
        clear hb es
        go_wp2_with fail
        refine (add_ok _ _ _ _ _ A1 A0 (by omega) (by omega) (by rw [Nat.add_comm]; omega)).mono ?_
        rintro e wn ⟨⟨vt, rt, rfl, At, et, lt⟩, hb⟩
        replace A0 := A0.below hb; replace A1 := A1.below hb; replace As := As.below hb; replace HB := hid_below HB hb
        have Et := hide et
        clear hb et
        go_wp2_with fail
        have h7 : val z1 ≤ val rs := by rw [Es.out]; omega
        have h8 : blen (val rs - val z1) ≤ 67108864 := by rw [Es.out, HE3.out]; omega
        refine (sub_ok _ _ _ _ _ As A1 (by omega) h7 h8).mono ?_
        rintro e wn ⟨⟨vd, rd, rfl, Ad, ed, ld⟩, hb⟩
        rw [Es.out, HE3.out] at ed
        replace A0 := A0.below hb; replace As := As.below hb; replace At := At.below hb; replace HB := hid_below HB hb
        have Ed := hide ed
        clear hb ed h7 h8
        go_wp2_with fail
        refine (compare_any _ _ _ _ _ As At).mono ?_
        rintro e wn ⟨rfl, hs⟩
        rw [Es.out, Et.out, Nat.add_comm (val z1), cmpN_self]
        replace A0 := A0.below hs.top; replace Ad := Ad.below hs.top; replace HB := hid_below HB hs.top
        clear hs
        go_wp2_with fail
        refine (compare_any _ _ _ _ _ Ad A0).mono ?_
        rintro e wn ⟨rfl, hs⟩
        rw [Ed.out, cmpN_self]
        replace A0 := A0.below hs.top; replace HB := hid_below HB hs.top
        clear hs Es Et Ed As At Ad
        go_wp2_with fail
        refine (left_ok _ _ 17 _ A0 (by omega) (by omega) (Nat.le_trans b2 (by omega))).mono ?_
        rintro e wn ⟨⟨vl, rl, rfl, Al, el, ll⟩, hb⟩
        replace A0 := A0.below hb; replace HB := hid_below HB hb
        have El := hide el
        clear hb el
        go_wp2_with fail
        refine (right_ok _ _ 17 _ Al (by omega) (by omega) (by rw [El.out, HE1.out]; omega)).mono ?_
        rintro e wn ⟨⟨vr, rr, rfl, Ar, er, lr⟩, hb⟩
        rw [El.out, HE1.out] at er
        replace A0 := A0.below hb; replace HB := hid_below HB hb
        have Er := hide er
        clear hb er El Al
        go_wp2_with fail
        refine (compare_any _ _ _ _ _ Ar A0).mono ?_
        rintro e wn ⟨rfl, hs⟩
        rw [Er.out, cmpN_self]
        replace A0 := A0.below hs.top; replace HB := hid_below HB hs.top
        clear hs Er Ar
        go_wp2_with fail
        refine (right_ok _ _ 17 _ A0 (by omega) (by omega) (Nat.le_trans b3 (by omega))).mono ?_
        rintro e wn ⟨⟨vh, rh, rfl, Ah, eh, lh⟩, hb⟩
        replace A0 := A0.below hb; replace HB := hid_below HB hb
        have Eh := hide eh
        clear hb eh
        go_wp2_with fail
        refine (low_ok _ _ 17 _ A0 (by omega) (by omega) (Nat.le_trans b4 (by omega))).mono ?_
        rintro e wn ⟨⟨vm, rm, rfl, Am, em, lm⟩, hb⟩
        replace A0 := A0.below hb; replace Ah := Ah.below hb; replace HB := hid_below HB hb
        have Em := hide em
        clear hb em
        go_wp2_with fail
        refine (left_ok _ _ 17 _ Ah (by omega) (by omega) (by rw [Eh.out]; exact Nat.le_trans b5 (by omega))).mono ?_
        rintro e wn ⟨⟨vu, ru, rfl, Au, eu, lu⟩, hb⟩
        rw [Eh.out] at eu
        replace A0 := A0.below hb; replace Am := Am.below hb; replace HB := hid_below HB hb
        have Eu := hide eu
        clear hb eu Eh Ah
        go_wp2_with fail
        refine (add_ok _ _ _ _ _ Au Am (by omega) (by omega) (by rw [Eu.out, Em.out, HE2.out]; omega)).mono ?_
        rintro e wn ⟨⟨vw, rw', rfl, Aw, ew, lw⟩, hb⟩
        rw [Eu.out, Em.out, HE2.out] at ew
        replace A0 := A0.below hb; replace Am := Am.below hb; replace HB := hid_below HB hb
        have Ew := hide ew
        clear hb ew Eu Au
        go_wp2_with fail
        refine (compare_any _ _ _ _ _ Aw A0).mono ?_
        rintro e wn ⟨rfl, hs⟩
        rw [Ew.out, cmpN_self]
        replace Am := Am.below hs.top; replace HB := hid_below HB hs.top
        clear hs Ew Aw
        go_wp2_with fail
        refine (length_val _ _ _ Am).mono ?_
        rintro e wn ⟨rfl, hw⟩; subst hw
        rw [Em.out]
        generalize blen (val z0 % 2 ^ 17) = y at *
        go_wp2_with fail
        refine (lives_any _).mono ?_
        rintro e wn ⟨rfl, hb⟩
        replace HB := hid_below HB hb
        clear hb
        go_wp2
        go_ret
        exact ⟨rfl, HB.out⟩
      · go_enter Try.func3, Try.ntmps3
        go_wp2_with (first
          | (go_at_call 6; refine (length_val _ _ _ (by assumption)).mono ?_; rintro e wn ⟨rfl, hw⟩; subst hw)
          | (go_at_call 7; refine (lives_any _).mono ?_; rintro e wn ⟨rfl, hb⟩; replace HB := hid_below HB hb; clear hb))
        go_ret
        exact ⟨rfl, HB.out⟩
    · go_enter Try.func3, Try.ntmps3
      go_wp2_with (first
        | (go_at_call 6; refine (length_val _ _ _ (by assumption)).mono ?_; rintro e wn ⟨rfl, hw⟩; subst hw)
        | (go_at_call 7; refine (lives_any _).mono ?_; rintro e wn ⟨rfl, hb⟩; replace HB := hid_below HB hb; clear hb))
      go_ret
      exact ⟨rfl, HB.out⟩
  · skip
    by_cases hA : blen (val z0) ≤ 33554432
    · by_cases hB : blen (val z1) ≤ 33554432
      · have b1 := blen_add _ _ _ hA hB
        have b2 := blen_mul_pow (val z0) 17 33554432 hA
        have b3 : blen (val z0 / 2 ^ 17) ≤ 33554432 := Nat.le_trans (blen_mono (Nat.div_le_self _ _)) hA
        have b4 : blen (val z0 % 2 ^ 17) ≤ 33554432 := Nat.le_trans (blen_mono (Nat.mod_le _ _)) hA
        have b5 : blen (val z0 / 2 ^ 17 * 2 ^ 17) ≤ 33554432 := Nat.le_trans (blen_mono (Nat.div_mul_le_self _ _)) hA
        have b6 : blen (val z0 % 2 ^ 17) ≤ 17 := (blen_le_iff _ _).2 (Nat.mod_lt _ (Nat.two_pow_pos _))
        have HE1 : Hid (val z0 * 2 ^ 17 / 2 ^ 17 = val z0) := Nat.mul_div_cancel _ (Nat.two_pow_pos _)
        have HE2 : Hid (val z0 / 2 ^ 17 * 2 ^ 17 + val z0 % 2 ^ 17 = val z0) := Nat.div_add_mod' _ _
        have HE3 : Hid (val z0 + val z1 - val z1 = val z0) := Nat.add_sub_cancel _ _
        go_enter Try.func3, Try.ntmps3
        go_wp2_with fail
        refine (length_val _ _ _ A0).mono ?_
        rintro e wn ⟨rfl, hw⟩; subst hw
        go_wp2_with fail
        refine (length_val _ _ _ A1).mono ?_
        rintro e wn ⟨rfl, hw⟩; subst hw
        go_wp2_with fail
        refine (add_ok _ _ _ _ _ A0 A1 (by omega) (by omega) (by omega)).mono ?_
        rintro e wn ⟨⟨vs, rs, rfl, As, es, ls⟩, hb⟩
        replace A0 := A0.below hb; replace A1 := A1.below hb; replace HB := hid_below HB hb
        have Es := hide es
        clear hb es
        go_wp2_with fail
        refine (add_ok _ _ _ _ _ A1 A0 (by omega) (by omega) (by rw [Nat.add_comm]; omega)).mono ?_
        rintro e wn ⟨⟨vt, rt, rfl, At, et, lt⟩, hb⟩
        replace A0 := A0.below hb; replace A1 := A1.below hb; replace As := As.below hb; replace HB := hid_below HB hb
        have Et := hide et
        clear hb et
        go_wp2_with fail
        have h7 : val z1 ≤ val rs := by rw [Es.out]; omega
        have h8 : blen (val rs - val z1) ≤ 67108864 := by rw [Es.out, HE3.out]; omega
        refine (sub_ok _ _ _ _ _ As A1 (by omega) h7 h8).mono ?_
        rintro e wn ⟨⟨vd, rd, rfl, Ad, ed, ld⟩, hb⟩
        rw [Es.out, HE3.out] at ed
        replace A0 := A0.below hb; replace As := As.below hb; replace At := At.below hb; replace HB := hid_below HB hb
        have Ed := hide ed
        clear hb ed h7 h8
        go_wp2_with fail
        refine (compare_any _ _ _ _ _ As At).mono ?_
        rintro e wn ⟨rfl, hs⟩
        rw [Es.out, Et.out, Nat.add_comm (val z1), cmpN_self]
        replace A0 := A0.below hs.top; replace Ad := Ad.below hs.top; replace HB := hid_below HB hs.top
        clear hs
        go_wp2_with fail
        refine (compare_any _ _ _ _ _ Ad A0).mono ?_
        rintro e wn ⟨rfl, hs⟩
        rw [Ed.out, cmpN_self]
        replace A0 := A0.below hs.top; replace HB := hid_below HB hs.top
        clear hs Es Et Ed As At Ad
        go_wp2_with fail
        refine (left_ok _ _ 17 _ A0 (by omega) (by omega) (Nat.le_trans b2 (by omega))).mono ?_
        rintro e wn ⟨⟨vl, rl, rfl, Al, el, ll⟩, hb⟩
        replace A0 := A0.below hb; replace HB := hid_below HB hb
        have El := hide el
        clear hb el
        go_wp2_with fail
        refine (right_ok _ _ 17 _ Al (by omega) (by omega) (by rw [El.out, HE1.out]; omega)).mono ?_
        rintro e wn ⟨⟨vr, rr, rfl, Ar, er, lr⟩, hb⟩
        rw [El.out, HE1.out] at er
        replace A0 := A0.below hb; replace HB := hid_below HB hb
        have Er := hide er
        clear hb er El Al
        go_wp2_with fail
        refine (compare_any _ _ _ _ _ Ar A0).mono ?_
        rintro e wn ⟨rfl, hs⟩
        rw [Er.out, cmpN_self]
        replace A0 := A0.below hs.top; replace HB := hid_below HB hs.top
        clear hs Er Ar
        go_wp2_with fail
        refine (right_ok _ _ 17 _ A0 (by omega) (by omega) (Nat.le_trans b3 (by omega))).mono ?_
        rintro e wn ⟨⟨vh, rh, rfl, Ah, eh, lh⟩, hb⟩
        replace A0 := A0.below hb; replace HB := hid_below HB hb
        have Eh := hide eh
        clear hb eh
        go_wp2_with fail
        refine (low_ok _ _ 17 _ A0 (by omega) (by omega) (Nat.le_trans b4 (by omega))).mono ?_
        rintro e wn ⟨⟨vm, rm, rfl, Am, em, lm⟩, hb⟩
        replace A0 := A0.below hb; replace Ah := Ah.below hb; replace HB := hid_below HB hb
        have Em := hide em
        clear hb em
        go_wp2_with fail
        refine (left_ok _ _ 17 _ Ah (by omega) (by omega) (by rw [Eh.out]; exact Nat.le_trans b5 (by omega))).mono ?_
        rintro e wn ⟨⟨vu, ru, rfl, Au, eu, lu⟩, hb⟩
        rw [Eh.out] at eu
        replace A0 := A0.below hb; replace Am := Am.below hb; replace HB := hid_below HB hb
        have Eu := hide eu
        clear hb eu Eh Ah
        go_wp2_with fail
        refine (add_ok _ _ _ _ _ Au Am (by omega) (by omega) (by rw [Eu.out, Em.out, HE2.out]; omega)).mono ?_
        rintro e wn ⟨⟨vw, rw', rfl, Aw, ew, lw⟩, hb⟩
        rw [Eu.out, Em.out, HE2.out] at ew
        replace A0 := A0.below hb; replace Am := Am.below hb; replace HB := hid_below HB hb
        have Ew := hide ew
        clear hb ew Eu Au
        go_wp2_with fail
        refine (compare_any _ _ _ _ _ Aw A0).mono ?_
        rintro e wn ⟨rfl, hs⟩
        rw [Ew.out, cmpN_self]
        replace Am := Am.below hs.top; replace HB := hid_below HB hs.top
        clear hs Ew Aw
        go_wp2_with fail
        refine (length_val _ _ _ Am).mono ?_
        rintro e wn ⟨rfl, hw⟩; subst hw
        rw [Em.out]
        generalize blen (val z0 % 2 ^ 17) = y at *
        go_wp2_with fail
        refine (lives_any _).mono ?_
        rintro e wn ⟨rfl, hb⟩
        replace HB := hid_below HB hb
        clear hb
        go_wp2
        go_ret
        exact ⟨rfl, HB.out⟩
      · go_enter Try.func3, Try.ntmps3
        go_wp2_with (first
          | (go_at_call 6; refine (length_val _ _ _ (by assumption)).mono ?_; rintro e wn ⟨rfl, hw⟩; subst hw)
          | (go_at_call 7; refine (lives_any _).mono ?_; rintro e wn ⟨rfl, hb⟩; replace HB := hid_below HB hb; clear hb))
        go_ret
        exact ⟨rfl, HB.out⟩
    · go_enter Try.func3, Try.ntmps3
      go_wp2_with (first
        | (go_at_call 6; refine (length_val _ _ _ (by assumption)).mono ?_; rintro e wn ⟨rfl, hw⟩; subst hw)
        | (go_at_call 7; refine (lives_any _).mono ?_; rintro e wn ⟨rfl, hb⟩; replace HB := hid_below HB hb; clear hb))
      go_ret
      exact ⟨rfl, HB.out⟩

theorem natBack_walk (v0 : Value) (z0 : List Nat) (v1 : Value) (z1 : List Nat) (n : Int) (w : World)
    (A0 : Arg w v0 z0) (s0 : z0.length ≤ 17592186043904) (A1 : Arg w v1 z1) (s1 : z1.length ≤ 17592186043904) (_h1 : -9223372036854775808 ≤ n) (_h2 : n ≤ 9223372036854775807) :
    Calls Try.prog 3 #[v0, v1, .int .i64 n] w fun e w' => e = .returned (.bool true) ∧ Below w.heap.size w w' := by
  by_cases h : 0 ≤ n ∧ n ≤ 1048576
  · obtain ⟨m, rfl⟩ := Int.eq_ofNat_of_zero_le h.1
    exact natBack_in v0 z0 v1 z1 m w A0 s0 A1 s1 (by omega)
  · refine natBack_out v0 z0 v1 z1 n w A0 s0 A1 s1 ?_
    by_cases h0 : n < 0
    · exact .inl ⟨h0, by simp [h0]⟩
    · exact .inr ⟨by omega, by simp; omega, by omega, by simp; omega⟩

end Go.Proofs.Ythcdjlhhiheclab
