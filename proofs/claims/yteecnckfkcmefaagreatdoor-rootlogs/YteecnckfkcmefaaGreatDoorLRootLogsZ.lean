/- The walk of the law RootLogs. -/
import Derived.Test.YteecnckfkcmefaaGreatDoorQV
import Derived.Test.YteecnckfkcmefaaGreatDoorQR
import Derived.Test.YteecnckfkcmefaaGreatDoorQG
import Derived.Test.YteecnckfkcmefaaGreatDoorQU
namespace Go.Proofs.YteecnckfkcmefaaGreatDoor
open Go.RowKit
open Lm
attribute [local go_sem ↓] Go.wp_at_zero Go.wp_at_succ

theorem refLog_none (v : Value) (x : Nat) (base : Int) (w : World) (h : Num w v x) (h0 : x = 0 ∨ base < 2) :
    Calls Tryz.prog 24 #[v, .int .i64 base] w fun e w' => e = .returned (.tuple #[.int .i64 0, .int .i64 1]) ∧ w' = w := by
  have HZ := zero_any v x w h
  clear h
  by_cases hx : x = 0
  · rw [hx, show ((0 : Nat) == 0) = true from rfl] at HZ
    clear h0 hx
    go_enter Tryz.func24, Tryz.ntmps24
    go_wp2_with fail
    refine HZ.mono ?_
    rintro e wn ⟨rfl, hw⟩; rw [hw]; clear hw wn HZ
    go_wp2
    go_returns
    exact ⟨rfl, rfl⟩
  · have hb : base < 2 := by omega
    rw [show (x == 0) = false by rw [beq_eq_false_iff_ne]; exact hx] at HZ
    clear h0 hx
    go_enter Tryz.func24, Tryz.ntmps24
    go_wp2_with fail
    refine HZ.mono ?_
    rintro e wn ⟨rfl, hw⟩; rw [hw]; clear hw wn HZ
    go_wp2
    go_returns
    exact ⟨rfl, rfl⟩

set_option maxRecDepth 20000 in
set_option maxHeartbeats 1000000 in
theorem refLog_any (v : Value) (x b L : Nat) (w : World) (h : Num w v x) (h0 : 0 < x) (hb1 : 2 ≤ b) (hb2 : b ≤ 9223372036854775807) (hbx : blen x ≤ 1125899906809856) (hL : IsLog x b L) :
    Calls Tryz.prog 24 #[v, .int .i64 (b : Int)] w fun e w' => e = .returned (.tuple #[.int .i64 (L : Int), .int .i64 0]) ∧ Below w.heap.size w w' := by
  have HZ := zero_any v x w h
  rw [show (x == 0) = false by rw [beq_eq_false_iff_ne]; omega] at HZ
  have HI := rint_all b w (by omega)
  have ib : ¬ (b : Int) < 2 := by omega
  have HN := hide h
  have HL := hide hL
  have hlb : blen b ≤ 63 := (blen_le_iff b 63).2 (by omega)
  have hLb : L ≤ 1125899906809856 := by
    have := log_most hb1 hL
    have := Nat.div_le_self (blen x - 1) (blen b - 1)
    omega
  have HBX := hide (And.intro hbx hlb)
  clear h hL hbx hlb
  go_enter Tryz.func24, Tryz.ntmps24
  go_wp2_with fail
  refine HZ.mono ?_
  rintro e wn ⟨rfl, hw⟩; rw [hw]; clear hw wn HZ
  go_wp2_with fail
  refine HI.mono ?_
  rintro e w1 ⟨⟨v1, rfl, N1⟩, hb⟩
  have ST := hide (And.intro N1 hb)
  clear HI N1 hb
  go_wp2
  go_loopw [6, 7] (fun vk vp wr => ∃ k : Nat, vk = .int .i64 (k : Int) ∧ k ≤ L ∧ Num wr vp (b ^ (k + 1)) ∧ Below w.heap.size w wr) (fun vk _ _ => L - (intOf vk).toNat)
  case atStart => exact ⟨0, rfl, Nat.zero_le _, by rw [Nat.zero_add, Nat.pow_one]; exact ST.out.1, ST.out.2⟩
  case round =>
    obtain ⟨k, rfl, hk, hp, hbel⟩ := hrel
    have HB := hide hbel
    have HC := rcmp_any _ v _ _ wr hp (HN.out.below hbel)
    by_cases hfin : b ^ (k + 1) ≤ x
    · have hkL := log_le hb1 HL.out hfin
      have hc := cmpN_le hfin
      have bp := blen_mono hfin
      have HP := hide hp
      have HF := hide bp
      generalize cmpN (b ^ (k + 1)) x = cc at *
      clear hfin hp hbel ST bp
      go_wp2_with fail
      refine HC.mono ?_
      rintro e w2 ⟨rfl, hsm⟩
      have hb := hsm.below wr.heap.size
      have HB2 := hid_below HB hb
      have HP2 := hide (HP.out.below hb)
      have HI := rint_all b w2 (by omega)
      clear hb hsm HC
      go_wp2_with fail
      refine HI.mono ?_
      rintro e w3 ⟨⟨v3, rfl, N3⟩, hb⟩
      have HB3 := hid_below HB2 hb
      have F := rmul_any _ v3 _ _ w3 (HP2.out.below hb) N3 (by have := HBX.out; have := HF.out; omega)
      rw [← Nat.pow_succ] at F
      clear hb HI N3
      go_wp2_with fail
      refine F.mono ?_
      rintro e w4 ⟨⟨v4, rfl, N4⟩, hb⟩
      have HD := hide (And.intro N4 (hid_below HB3 hb).out)
      clear hb F N4
      go_wp2
      go_roundw
      case rel => exact ⟨k + 1, by go_num, hkL, HD.out.1, HD.out.2⟩
      case measure => simp [intOf]; omega
    · have hkL : k = L := by
        have := log_lt hb1 HL.out (show x < b ^ (k + 1) by omega)
        omega
      have hc : (0 : Int) < cmpN (b ^ (k + 1)) x := by rw [cmpN_gt (by omega)]; omega
      generalize cmpN (b ^ (k + 1)) x = cc at *
      have hc2 : ¬ cc ≤ 0 := by omega
      have HK := hide hkL
      clear hfin hp hbel ST hkL
      go_wp2_with fail
      refine HC.mono ?_
      rintro e w2 ⟨rfl, hsm⟩
      have HB2 := hid_below HB (hsm.below wr.heap.size)
      clear hsm HC
      go_wp2
      go_returns
      refine ⟨?_, HB2.out⟩
      rw [HK.out]
      rfl

set_option maxRecDepth 100000 in
set_option maxHeartbeats 2000000 in
theorem rootLogs_walk (v0 : Value) (z0 : List Nat) (b : Int) (w : World) (hT : Tab w) (A0 : Arg w v0 z0) (s0 : z0.length ≤ 17592186043904) (_ : -9223372036854775808 ≤ b) (_ : b ≤ 9223372036854775807) :
    Calls Tryz.prog 5 #[v0, .int .i64 b] w fun e w' => e = .returned (.bool true) ∧ Below w.heap.size w w' := by
  have H : Hid (Below w.heap.size w w) := Below.refl _ _
  have HT := hide hT
  have b0 := A0.bits s0
  clear hT
  by_cases hz : val z0 = 0 ∨ b < 2
  · go_enter Tryz.func5, Tryz.ntmps5
    go_wp2_with fail
    refine (lend_ok _ _ _ A0 (by omega)).mono ?_
    rintro e w0 ⟨⟨vw, vp, rfl, Lw, Ap⟩, hb⟩
    replace H := hid_below H hb; replace A0 := A0.below hb; clear hb
    have HO := of_any _ _ _ A0 (by omega)
    go_wp2_with fail
    refine HO.mono ?_
    rintro e w1 ⟨⟨vx, rfl, Nx⟩, hb⟩
    replace H := hid_below H hb; replace A0 := A0.below hb; replace Ap := Ap.below hb; replace Lw := Lw.below hb; clear hb HO
    have F1 := refLog_none vx _ b w1 Nx hz
    have F2 := log_none vp z0 b w1 Ap hz
    have HZ := hide hz
    clear Nx Ap hz
    go_wp2_with fail
    refine F1.mono ?_
    rintro e wn ⟨rfl, hw⟩; rw [hw]; clear hw wn F1
    go_wp2_with fail
    refine F2.mono ?_
    rintro e w2 ⟨rfl, hb⟩
    replace H := hid_below H hb; replace A0 := A0.below hb; replace Lw := Lw.below hb; clear hb F2
    go_wp2_with fail
    refine (num4_any 1 w2).mono ?_
    rintro e wn ⟨rfl, hw⟩; rw [hw]; clear hw wn
    go_wp2_with fail
    refine (kept_ok _ _ _ _ Lw A0 (by omega)).mono ?_
    rintro e wn ⟨rfl, hw⟩; rw [hw]; clear hw wn
    have HA := awake4_any w2
    clear A0 Lw
    go_wp2_with fail
    refine HA.mono ?_
    rintro e w9 ⟨rfl, hb⟩
    replace H := hid_below H hb; clear hb HA
    go_wp2
    go_ret
    exact ⟨rfl, H.out⟩
  · obtain ⟨B, rfl⟩ : ∃ B : Nat, b = (B : Int) := ⟨b.toNat, by omega⟩
    have hx : 0 < val z0 := by omega
    have hB : 2 ≤ B := by omega
    obtain ⟨L, hL⟩ := log_is hB (val z0) hx
    have HL := hide hL
    clear hL hz
    go_enter Tryz.func5, Tryz.ntmps5
    go_wp2_with fail
    refine (lend_ok _ _ _ A0 (by omega)).mono ?_
    rintro e w0 ⟨⟨vw, vp, rfl, Lw, Ap⟩, hb⟩
    replace H := hid_below H hb; replace A0 := A0.below hb; clear hb
    have HO := of_any _ _ _ A0 (by omega)
    go_wp2_with fail
    refine HO.mono ?_
    rintro e w1 ⟨⟨vx, rfl, Nx⟩, hb⟩
    replace H := hid_below H hb; replace A0 := A0.below hb; replace Ap := Ap.below hb; replace Lw := Lw.below hb; clear hb HO
    have F1 := refLog_any vx _ B L w1 Nx hx hB (by omega) b0 HL.out
    clear Nx
    go_wp2_with fail
    refine F1.mono ?_
    rintro e w2 ⟨rfl, hb⟩
    replace H := hid_below H hb; replace A0 := A0.below hb; replace Ap := Ap.below hb; replace Lw := Lw.below hb; clear hb F1
    have F2 := log_any vp z0 B L w2 Ap (HT.out.below H.out) s0 hx hB (by omega) HL.out
    clear Ap
    go_wp2_with fail
    refine F2.mono ?_
    rintro e w3 ⟨rfl, hb⟩
    replace H := hid_below H hb; replace A0 := A0.below hb; replace Lw := Lw.below hb; clear hb F2
    go_wp2_with fail
    refine (num4_any 0 w3).mono ?_
    rintro e wn ⟨rfl, hw⟩; rw [hw]; clear hw wn
    go_wp2_with fail
    refine (kept_ok _ _ _ _ Lw A0 (by omega)).mono ?_
    rintro e wn ⟨rfl, hw⟩; rw [hw]; clear hw wn
    have HA := awake4_any w3
    clear A0 Lw
    go_wp2_with fail
    refine HA.mono ?_
    rintro e w9 ⟨rfl, hb⟩
    replace H := hid_below H hb; clear hb HA
    go_wp2
    go_ret
    exact ⟨rfl, H.out⟩

end Go.Proofs.YteecnckfkcmefaaGreatDoor
