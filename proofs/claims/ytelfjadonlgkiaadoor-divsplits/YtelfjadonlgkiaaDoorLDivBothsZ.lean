/- The walk of the law DivBoths. -/
import Derived.Test.YtelfjadonlgkiaaDoorQM
import Derived.Test.YtelfjadonlgkiaaDoorRef3Z
namespace Go.Proofs.YtelfjadonlgkiaaDoor
open Go.RowKit
open Lm

theorem Arg.bits3 {w : World} {v : Value} {zs : List Nat} (h : Arg w v zs) (hs : zs.length ≤ 17592186043904) : blen (val zs) ≤ 1125899906809856 := by
  have : blen (val zs) ≤ 64 * zs.length := (blen_le_iff _ _).2 (by have := val_lt h.limbs; rw [show (18446744073709551616 : Nat) = 2 ^ 64 from rfl, ← Nat.pow_mul] at this; exact this)
  omega

theorem same3_of (va vn : Value) (c : Int) (rs : List Nat) (s base : Nat) (w : World) (hA : Ans w base va rs) (h : (c = 0 ∧ val rs = s ∧ tr rs = rs ∧ blen s ≤ 67108864) ∨ (c = 3 ∧ rs = [] ∧ 67108864 < blen s)) (hn : Num w vn s) :
    Calls Tryd.prog 14 #[va, .int .i64 c, vn, .int .i64 0] w fun e w' => e = .returned (.bool true) ∧ Below w.heap.size w w' := same3_ok va vn c rs s base w hA (Res.few hA h) h hn

set_option maxRecDepth 100000 in
set_option maxHeartbeats 4000000 in
theorem divBoths_zero (v0 : Value) (z0 : List Nat) (v1 : Value) (z1 : List Nat) (w : World) (hT : Tab w) (A0 : Arg w v0 z0) (s0 : z0.length ≤ 17592186043904) (A1 : Arg w v1 z1) (s1 : z1.length ≤ 17592186043904) (hz : val z1 = 0) :
    Calls Tryd.prog 4 #[v0, v1] w fun e w' => e = .returned (.bool true) ∧ Below w.heap.size w w' := by
  have HZ := hide hz
  clear hz
  have H : Hid (Below w.heap.size w w) := Below.refl _ _
  have bx := A0.bits3 s0
  have by' := A1.bits3 s1
  have HT := hide hT
  clear hT
  go_enter Tryd.func4, Tryd.ntmps4
  go_wp2_with fail
  refine (lend_ok _ _ _ A0 (by omega)).mono ?_
  rintro e wn ⟨⟨vw, vp, rfl, Lw, Ap⟩, hb⟩
  replace H := hid_below H hb; replace A0 := A0.below hb; replace A1 := A1.below hb; clear hb
  go_wp2_with fail
  refine (lend_ok _ _ _ A1 (by omega)).mono ?_
  rintro e w0 ⟨⟨vv, vs, rfl, Lv, As⟩, hb⟩
  replace H := hid_below H hb; replace A0 := A0.below hb; replace A1 := A1.below hb; replace Lw := Lw.below hb; replace Ap := Ap.below hb; clear hb
  have HB := dBoth_zero vp vs z0 z1 w0 Ap As HZ.out
  go_wp2_with fail
  refine HB.mono ?_
  rintro e wn ⟨rfl, hw⟩; rw [hw]; clear hw wn HB
  have HO := of_any _ _ _ A0 (by omega)
  go_wp2_with fail
  refine HO.mono ?_
  rintro e w2 ⟨⟨vx, rfl, Nx⟩, hb⟩
  replace H := hid_below H hb; replace A0 := A0.below hb; replace A1 := A1.below hb; replace Lw := Lw.below hb; replace Ap := Ap.below hb; replace Lv := Lv.below hb; replace As := As.below hb; (try replace G := hid_below G hb)
  skip
  clear hb HO
  have HO := of_any _ _ _ A1 (by omega)
  go_wp2_with fail
  refine HO.mono ?_
  rintro e w3 ⟨⟨vy, rfl, Ny⟩, hb⟩
  replace H := hid_below H hb; replace A0 := A0.below hb; replace A1 := A1.below hb; replace Lw := Lw.below hb; replace Ap := Ap.below hb; replace Lv := Lv.below hb; replace As := As.below hb; (try replace G := hid_below G hb)
  skip
  replace Nx := Nx.below hb
  clear hb HO
  have Ny' := Ny
  rw [HZ.out] at Ny
  have HR := rboth_zero vx vy w3 Ny
  go_wp2_with fail
  refine HR.mono ?_
  rintro e wn ⟨rfl, hw⟩; rw [hw]; clear hw wn HR
  have HS := same3_err (.slice none 0 0) 30 none 0 w3 (by omega)
  go_wp2_with fail
  refine HS.mono ?_
  rintro e wn ⟨rfl, hw⟩; rw [hw]; clear hw wn
  go_wp2_with fail
  refine HS.mono ?_
  rintro e wn ⟨rfl, hw⟩; rw [hw]; clear hw wn
  have HQ := dQuo_zero vp vs z0 z1 w3 Ap As HZ.out
  go_wp2_with fail
  refine HQ.mono ?_
  rintro e wn ⟨rfl, hw⟩; rw [hw]; clear hw wn HQ
  have HQ := dRest_zero vp vs z0 z1 w3 Ap As HZ.out
  go_wp2_with fail
  refine HQ.mono ?_
  rintro e wn ⟨rfl, hw⟩; rw [hw]; clear hw wn HQ
  go_wp2_with fail
  refine HS.mono ?_
  rintro e wn ⟨rfl, hw⟩; rw [hw]; clear hw wn
  go_wp2_with fail
  refine HS.mono ?_
  rintro e wn ⟨rfl, hw⟩; rw [hw]; clear hw wn HS
  have HV := dDivides_any vp vs z0 z1 w3 Ap As (HT.out.below H.out) (by omega) (by omega)
  go_wp2_with fail
  refine HV.mono ?_
  rintro e w4 ⟨hb, rfl⟩
  clear Nx Ny Ny'
  replace H := hid_below H hb; replace A0 := A0.below hb; replace A1 := A1.below hb; replace Lw := Lw.below hb; replace Ap := Ap.below hb; replace Lv := Lv.below hb; replace As := As.below hb; (try replace G := hid_below G hb)
  clear hb HV
  have HO := of_any _ _ _ A0 (by omega)
  go_wp2_with fail
  refine HO.mono ?_
  rintro e w2 ⟨⟨vx, rfl, Nx⟩, hb⟩
  replace H := hid_below H hb; replace A0 := A0.below hb; replace A1 := A1.below hb; replace Lw := Lw.below hb; replace Ap := Ap.below hb; replace Lv := Lv.below hb; replace As := As.below hb; (try replace G := hid_below G hb)
  skip
  clear hb HO
  have HO := of_any _ _ _ A1 (by omega)
  go_wp2_with fail
  refine HO.mono ?_
  rintro e w3 ⟨⟨vy, rfl, Ny⟩, hb⟩
  replace H := hid_below H hb; replace A0 := A0.below hb; replace A1 := A1.below hb; replace Lw := Lw.below hb; replace Ap := Ap.below hb; replace Lv := Lv.below hb; replace As := As.below hb; (try replace G := hid_below G hb)
  skip
  replace Nx := Nx.below hb
  clear hb HO
  have HD := rdivides_any vx vy _ _ w3 Nx Ny bx by'
  generalize decide (val z0 % val z1 = 0) = d at *
  go_wp2_with fail
  refine HD.mono ?_
  rintro e w5 ⟨rfl, hb⟩
  replace H := hid_below H hb; replace A0 := A0.below hb; replace A1 := A1.below hb; replace Lw := Lw.below hb; replace Ap := Ap.below hb; replace Lv := Lv.below hb; replace As := As.below hb; (try replace G := hid_below G hb)
  clear hb HD Nx Ny
  have HOW := own_chain w5.heap.size [.slice none 0 0, .slice none 0 0, .slice none 0 0, .slice none 0 0] [[], [], [], []] w5
    ⟨_, ⟨Nat.le_refl _, Nat.le_refl _⟩, Ans.nil _ _, (fun g e => (by cases e)), _, ⟨Nat.le_refl _, Nat.le_refl _⟩, Ans.nil _ _, (fun g e => (by cases e)), _, ⟨Nat.le_refl _, Nat.le_refl _⟩, Ans.nil _ _, (fun g e => (by cases e)), _, ⟨Nat.le_refl _, Nat.le_refl _⟩, Ans.nil _ _, (fun g e => (by cases e)), trivial⟩ (by simp) (by simp) (Nat.le_refl _)
  have hdd : (d != d) = false := by cases d <;> rfl
  go_wp2_with fail
  refine HOW.mono ?_
  rintro e w6 ⟨rfl, hb⟩
  replace H := hid_below H hb; replace A0 := A0.below hb; replace A1 := A1.below hb; replace Lw := Lw.below hb; replace Ap := Ap.below hb; replace Lv := Lv.below hb; replace As := As.below hb; (try replace G := hid_below G hb)
  clear hb HOW
  go_wp2_with fail
  refine (kept_ok _ _ _ _ Lw A0 (by omega)).mono ?_
  rintro e wn ⟨rfl, hw⟩; rw [hw]; clear hw wn
  go_wp2_with fail
  refine (kept_ok _ _ _ _ Lv A1 (by omega)).mono ?_
  rintro e wn ⟨rfl, hw⟩; rw [hw]; clear hw wn
  have HA := lives3_any w6 (HT.out.below H.out)
  go_wp2_with fail
  refine HA.mono ?_
  rintro e w7 ⟨rfl, hb⟩
  replace H := hid_below H hb
  clear hb HA A0 A1 Lw Lv Ap As
  go_wp2
  go_ret
  exact ⟨rfl, H.out⟩

set_option maxRecDepth 100000 in
set_option maxHeartbeats 8000000 in
theorem divBoths_pos (v0 : Value) (z0 : List Nat) (v1 : Value) (z1 : List Nat) (w : World) (hT : Tab w) (A0 : Arg w v0 z0) (s0 : z0.length ≤ 17592186043904) (A1 : Arg w v1 z1) (s1 : z1.length ≤ 17592186043904) (hz : val z1 ≠ 0) :
    Calls Tryd.prog 4 #[v0, v1] w fun e w' => e = .returned (.bool true) ∧ Below w.heap.size w w' := by
  have HZ := hide hz
  clear hz
  have H : Hid (Below w.heap.size w w) := Below.refl _ _
  have bx := A0.bits3 s0
  have by' := A1.bits3 s1
  have HT := hide hT
  clear hT
  go_enter Tryd.func4, Tryd.ntmps4
  go_wp2_with fail
  refine (lend_ok _ _ _ A0 (by omega)).mono ?_
  rintro e wn ⟨⟨vw, vp, rfl, Lw, Ap⟩, hb⟩
  replace H := hid_below H hb; replace A0 := A0.below hb; replace A1 := A1.below hb; clear hb
  go_wp2_with fail
  refine (lend_ok _ _ _ A1 (by omega)).mono ?_
  rintro e w0 ⟨⟨vv, vs, rfl, Lv, As⟩, hb⟩
  replace H := hid_below H hb; replace A0 := A0.below hb; replace A1 := A1.below hb; replace Lw := Lw.below hb; replace Ap := Ap.below hb; clear hb
  have HB := dBoth_any vp vs z0 z1 w0 Ap As (HT.out.below H.out) (by omega) (by omega) HZ.out
  have G : Hid (Below w0.heap.size w0 w0) := Below.refl _ _
  have H0 := hide H.out
  have HS0 := hide (And.intro A0 (And.intro A1 (And.intro Lw Lv)))
  go_wp2_with fail
  refine HB.mono ?_
  rintro e w1 ⟨⟨q1, q2, c, r1, r2, mid, rfl, An1, hmid, hq, An2, hres⟩, hb⟩
  obtain ⟨o1, n1, c1, rfl⟩ := An1.slice
  obtain ⟨o2, n2, c2, rfl⟩ := An2.slice
  have Ch : Chain w1 w0.heap.size [.slice o1 n1 c1, .slice o2 n2 c2] [r1, r2] := ⟨mid, hmid, An1, hq, _, ⟨hmid.2, Nat.le_refl _⟩, An2, An2.top, trivial⟩
  replace H := hid_below H hb; replace A0 := A0.below hb; replace A1 := A1.below hb; replace Lw := Lw.below hb; replace Ap := Ap.below hb; replace Lv := Lv.below hb; replace As := As.below hb; (try replace G := hid_below G hb)
  clear hb HB An1 An2 hmid hq
  rcases hres with ⟨rfl, ev1, tv1, ev2, tv2, bl1, bl2⟩ | ⟨rfl, rfl, rfl, hbig⟩
  · have R1 := hide (And.intro ev1 (And.intro tv1 bl1))
    have R2 := hide (And.intro ev2 (And.intro tv2 bl2))
    have HBL := hide (And.intro bl1 bl2)
    clear ev1 tv1 ev2 tv2 bl1 bl2
    have HO := of_any _ _ _ A0 (by omega)
    go_wp2_with fail
    refine HO.mono ?_
    rintro e w2 ⟨⟨vx, rfl, Nx⟩, hb⟩
    replace H := hid_below H hb; replace A0 := A0.below hb; replace A1 := A1.below hb; replace Lw := Lw.below hb; replace Ap := Ap.below hb; replace Lv := Lv.below hb; replace As := As.below hb; (try replace G := hid_below G hb)
    replace Ch := Ch.below hb
    clear hb HO
    have HO := of_any _ _ _ A1 (by omega)
    go_wp2_with fail
    refine HO.mono ?_
    rintro e w3 ⟨⟨vy, rfl, Ny⟩, hb⟩
    replace H := hid_below H hb; replace A0 := A0.below hb; replace A1 := A1.below hb; replace Lw := Lw.below hb; replace Ap := Ap.below hb; replace Lv := Lv.below hb; replace As := As.below hb; (try replace G := hid_below G hb)
    replace Ch := Ch.below hb
    replace Nx := Nx.below hb
    clear hb HO
    have HR := rboth_any vx vy _ _ w3 Nx Ny HZ.out bx by'
    go_wp2_with fail
    refine HR.mono ?_
    rintro e w4 ⟨⟨nq, nr, rfl, Nq, Nr⟩, hb⟩
    replace H := hid_below H hb; replace A0 := A0.below hb; replace A1 := A1.below hb; replace Lw := Lw.below hb; replace Ap := Ap.below hb; replace Lv := Lv.below hb; replace As := As.below hb; (try replace G := hid_below G hb)
    replace Ch := Ch.below hb
    clear hb HR Nx Ny
    have HL1 := len_any nq _ w4 Nq
    have HL2 := len_any nr _ w4 Nr
    have i1 : ¬ ((67108864 : Int) < (blen (val z0 / val z1) : Int)) := by have := HBL.out.1; omega
    have i2 : ¬ ((67108864 : Int) < (blen (val z0 % val z1) : Int)) := by have := HBL.out.2; omega
    go_wp2_with fail
    refine HL1.mono ?_
    rintro e wn ⟨rfl, hw⟩; rw [hw]; clear hw wn HL1
    go_wp2_with fail
    refine HL2.mono ?_
    rintro e wn ⟨rfl, hw⟩; rw [hw]; clear hw wn HL2
    have HS := same3_of _ nq 0 r1 _ _ w4 (Ch.row 0 (by simp)) (.inl ⟨rfl, R1.out⟩) Nq
    go_wp2_with fail
    refine HS.mono ?_
    rintro e w5 ⟨rfl, hb⟩
    replace H := hid_below H hb; replace A0 := A0.below hb; replace A1 := A1.below hb; replace Lw := Lw.below hb; replace Ap := Ap.below hb; replace Lv := Lv.below hb; replace As := As.below hb; (try replace G := hid_below G hb)
    replace Ch := Ch.below hb; replace Nq := Nq.below hb; replace Nr := Nr.below hb
    clear hb HS
    have HS := same3_of _ nr 0 r2 _ _ w5 (Ch.row 1 (by simp)) (.inl ⟨rfl, R2.out⟩) Nr
    go_wp2_with fail
    refine HS.mono ?_
    rintro e w6 ⟨rfl, hb⟩
    replace H := hid_below H hb; replace A0 := A0.below hb; replace A1 := A1.below hb; replace Lw := Lw.below hb; replace Ap := Ap.below hb; replace Lv := Lv.below hb; replace As := As.below hb; (try replace G := hid_below G hb)
    replace Ch := Ch.below hb; replace Nq := Nq.below hb; replace Nr := Nr.below hb
    clear hb HS
    have hsz6 : w0.heap.size ≤ w6.heap.size := by obtain ⟨b', h1, _⟩ := Ch; omega
    have HQ := dQuo_any vp vs z0 z1 w6 Ap As (HT.out.below H.out) (by omega) (by omega) HZ.out
    go_wp2_with fail
    refine HQ.mono ?_
    rintro e w7 ⟨hb, u3, k3, r3, rfl, An3, R3⟩
    have l3 := Res.few An3 R3
    obtain ⟨o3, n3, c3, rfl⟩ := An3.slice
    replace Ch : Chain w7 w0.heap.size [.slice o1 n1 c1, .slice o2 n2 c2, .slice o3 n3 c3] [r1, r2, r3] := Ch.snoc hb An3 hsz6
    have hsz7 : w0.heap.size ≤ w7.heap.size := Nat.le_trans hsz6 hb.size
    replace H := hid_below H hb; replace A0 := A0.below hb; replace A1 := A1.below hb; replace Lw := Lw.below hb; replace Ap := Ap.below hb; replace Lv := Lv.below hb; replace As := As.below hb; (try replace G := hid_below G hb)
    replace Nq := Nq.below hb; replace Nr := Nr.below hb
    clear hb HQ
    have HQ := dRest_any vp vs z0 z1 w7 Ap As (HT.out.below H.out) (by omega) (by omega) HZ.out
    go_wp2_with fail
    refine HQ.mono ?_
    rintro e w8 ⟨hb, u4, k4, r4, rfl, An4, R4⟩
    have l4 := Res.few An4 R4
    obtain ⟨o4, n4, c4, rfl⟩ := An4.slice
    replace Ch : Chain w8 w0.heap.size [.slice o1 n1 c1, .slice o2 n2 c2, .slice o3 n3 c3, .slice o4 n4 c4] [r1, r2, r3, r4] := Ch.snoc hb An4 hsz7
    have HSZ8 := hide (Nat.le_trans hsz7 hb.size)
    replace An3 := An3.below hb
    replace H := hid_below H hb; replace A0 := A0.below hb; replace A1 := A1.below hb; replace Lw := Lw.below hb; replace Ap := Ap.below hb; replace Lv := Lv.below hb; replace As := As.below hb; (try replace G := hid_below G hb)
    replace Nq := Nq.below hb; replace Nr := Nr.below hb
    clear hb HQ hsz6 hsz7
    have R34 := hide (And.intro R3 R4)
    clear R3 R4
    have HS := same3_of _ nq k3 r3 _ _ w8 An3 R34.out.1 Nq
    go_wp2_with fail
    refine HS.mono ?_
    rintro e w9 ⟨rfl, hb⟩
    replace H := hid_below H hb; replace A0 := A0.below hb; replace A1 := A1.below hb; replace Lw := Lw.below hb; replace Ap := Ap.below hb; replace Lv := Lv.below hb; replace As := As.below hb; (try replace G := hid_below G hb)
    replace Ch := Ch.below hb; replace Nr := Nr.below hb; replace An4 := An4.below hb
    clear hb HS An3 Nq
    have HS := same3_of _ nr k4 r4 _ _ w9 An4 R34.out.2 Nr
    go_wp2_with fail
    refine HS.mono ?_
    rintro e w10 ⟨rfl, hb⟩
    replace H := hid_below H hb; replace A0 := A0.below hb; replace A1 := A1.below hb; replace Lw := Lw.below hb; replace Ap := Ap.below hb; replace Lv := Lv.below hb; replace As := As.below hb; (try replace G := hid_below G hb)
    replace Ch := Ch.below hb
    clear hb HS An4 Nr
    have HV := dDivides_any vp vs z0 z1 w10 Ap As (HT.out.below H.out) (by omega) (by omega)
    go_wp2_with fail
    refine HV.mono ?_
    rintro e w11 ⟨hb, rfl⟩
    replace H := hid_below H hb; replace A0 := A0.below hb; replace A1 := A1.below hb; replace Lw := Lw.below hb; replace Ap := Ap.below hb; replace Lv := Lv.below hb; replace As := As.below hb; (try replace G := hid_below G hb)
    replace Ch := Ch.below hb
    clear hb HV
    have HO := of_any _ _ _ A0 (by omega)
    go_wp2_with fail
    refine HO.mono ?_
    rintro e w2 ⟨⟨vx, rfl, Nx⟩, hb⟩
    replace H := hid_below H hb; replace A0 := A0.below hb; replace A1 := A1.below hb; replace Lw := Lw.below hb; replace Ap := Ap.below hb; replace Lv := Lv.below hb; replace As := As.below hb; (try replace G := hid_below G hb)
    replace Ch := Ch.below hb
    clear hb HO
    have HO := of_any _ _ _ A1 (by omega)
    go_wp2_with fail
    refine HO.mono ?_
    rintro e w3 ⟨⟨vy, rfl, Ny⟩, hb⟩
    replace H := hid_below H hb; replace A0 := A0.below hb; replace A1 := A1.below hb; replace Lw := Lw.below hb; replace Ap := Ap.below hb; replace Lv := Lv.below hb; replace As := As.below hb; (try replace G := hid_below G hb)
    replace Ch := Ch.below hb
    replace Nx := Nx.below hb
    clear hb HO
    have HD := rdivides_any vx vy _ _ w3 Nx Ny bx by'
    generalize decide (val z0 % val z1 = 0) = d at *
    go_wp2_with fail
    refine HD.mono ?_
    rintro e w12 ⟨rfl, hb⟩
    replace H := hid_below H hb; replace A0 := A0.below hb; replace A1 := A1.below hb; replace Lw := Lw.below hb; replace Ap := Ap.below hb; replace Lv := Lv.below hb; replace As := As.below hb; (try replace G := hid_below G hb)
    replace Ch := Ch.below hb
    clear hb HD Nx Ny
    have hdd : (d != d) = false := by cases d <;> rfl
    have l1 : r1.length ≤ 1048576 := Res.few (c := 0) (Ch.row 0 (by simp)) (.inl ⟨rfl, R1.out⟩)
    have l2 : r2.length ≤ 1048576 := Res.few (c := 0) (Ch.row 1 (by simp)) (.inl ⟨rfl, R2.out⟩)
    have hsz12 : w0.heap.size ≤ w12.heap.size := by obtain ⟨b', h1, _⟩ := Ch; omega
    have HOW := own_chain w0.heap.size [.slice o1 n1 c1, .slice o2 n2 c2, .slice o3 n3 c3, .slice o4 n4 c4] [r1, r2, r3, r4] w12 Ch (by simp) (by simp; omega) hsz12
    go_wp2_with fail
    refine HOW.mono ?_
    rintro e w13 ⟨rfl, hb⟩
    have hb0 : Below w0.heap.size w0 w13 := G.out.trans hb
    replace H : Hid (Below w.heap.size w w13) := H0.out.trans (hb0.mono H0.out.size)
    replace A0 := HS0.out.1.below hb0; replace A1 := HS0.out.2.1.below hb0; replace Lw := HS0.out.2.2.1.below hb0; replace Lv := HS0.out.2.2.2.below hb0
    clear hb hb0 HOW Ch Ap As
    go_wp2_with fail
    refine (kept_ok _ _ _ _ Lw A0 (by omega)).mono ?_
    rintro e wn ⟨rfl, hw⟩; rw [hw]; clear hw wn
    go_wp2_with fail
    refine (kept_ok _ _ _ _ Lv A1 (by omega)).mono ?_
    rintro e wn ⟨rfl, hw⟩; rw [hw]; clear hw wn
    have HA := lives3_any w13 (HT.out.below H.out)
    go_wp2_with fail
    refine HA.mono ?_
    rintro e w99 ⟨rfl, hb⟩
    replace H := hid_below H hb
    clear hb HA A0 A1 Lw Lv
    go_wp2
    go_ret
    exact ⟨rfl, H.out⟩
  · have hn1 : n1 = 0 := by
      obtain ⟨ao, cap, e, _⟩ := (Ans.arg (zs := []) (Ch.row 0 (by simp)) (by simp)).form
      cases e; rfl
    have hn2 : n2 = 0 := by
      obtain ⟨ao, cap, e, _⟩ := (Ans.arg (zs := []) (Ch.row 1 (by simp)) (by simp)).form
      cases e; rfl
    subst hn1
    subst hn2
    clear Ch
    have HO := of_any _ _ _ A0 (by omega)
    go_wp2_with fail
    refine HO.mono ?_
    rintro e w2 ⟨⟨vx, rfl, Nx⟩, hb⟩
    replace H := hid_below H hb; replace A0 := A0.below hb; replace A1 := A1.below hb; replace Lw := Lw.below hb; replace Ap := Ap.below hb; replace Lv := Lv.below hb; replace As := As.below hb; (try replace G := hid_below G hb)
    skip
    clear hb HO
    have HO := of_any _ _ _ A1 (by omega)
    go_wp2_with fail
    refine HO.mono ?_
    rintro e w3 ⟨⟨vy, rfl, Ny⟩, hb⟩
    replace H := hid_below H hb; replace A0 := A0.below hb; replace A1 := A1.below hb; replace Lw := Lw.below hb; replace Ap := Ap.below hb; replace Lv := Lv.below hb; replace As := As.below hb; (try replace G := hid_below G hb)
    skip
    replace Nx := Nx.below hb
    clear hb HO
    have HR := rboth_any vx vy _ _ w3 Nx Ny HZ.out bx by'
    go_wp2_with fail
    refine HR.mono ?_
    rintro e w4 ⟨⟨nq, nr, rfl, Nq, Nr⟩, hb⟩
    replace H := hid_below H hb; replace A0 := A0.below hb; replace A1 := A1.below hb; replace Lw := Lw.below hb; replace Ap := Ap.below hb; replace Lv := Lv.below hb; replace As := As.below hb; (try replace G := hid_below G hb)
    clear hb HR Nx Ny
    have HL1 := len_any nq _ w4 Nq
    have HL2 := len_any nr _ w4 Nr
    by_cases hq1 : 67108864 < blen (val z0 / val z1)
    · have i1 : (67108864 : Int) < (blen (val z0 / val z1) : Int) := by omega
      clear hq1 hbig
      generalize blen (val z0 / val z1) = p1 at *
      go_wp2_with fail
      refine HL1.mono ?_
      rintro e wn ⟨rfl, hw⟩; rw [hw]; clear hw wn HL1 HL2 Nq Nr
      have HA := lives3_any w4 (HT.out.below H.out)
      go_wp2_with fail
      refine HA.mono ?_
      rintro e w99 ⟨rfl, hb⟩
      replace H := hid_below H hb
      clear hb HA A0 A1 Lw Lv Ap As
      go_wp2
      go_ret
      exact ⟨rfl, H.out⟩
    · have i1 : ¬ ((67108864 : Int) < (blen (val z0 / val z1) : Int)) := by omega
      have i2 : (67108864 : Int) < (blen (val z0 % val z1) : Int) := by omega
      clear hq1 hbig
      generalize blen (val z0 / val z1) = p1 at *
      generalize blen (val z0 % val z1) = p2 at *
      go_wp2_with fail
      refine HL1.mono ?_
      rintro e wn ⟨rfl, hw⟩; rw [hw]; clear hw wn HL1
      go_wp2_with fail
      refine HL2.mono ?_
      rintro e wn ⟨rfl, hw⟩; rw [hw]; clear hw wn HL2 Nq Nr
      have HA := lives3_any w4 (HT.out.below H.out)
      go_wp2_with fail
      refine HA.mono ?_
      rintro e w99 ⟨rfl, hb⟩
      replace H := hid_below H hb
      clear hb HA A0 A1 Lw Lv Ap As
      go_wp2
      go_ret
      exact ⟨rfl, H.out⟩

theorem divBoths_walk (v0 : Value) (z0 : List Nat) (v1 : Value) (z1 : List Nat) (w : World) (hT : Tab w) (A0 : Arg w v0 z0) (s0 : z0.length ≤ 17592186043904) (A1 : Arg w v1 z1) (s1 : z1.length ≤ 17592186043904) :
    Calls Tryd.prog 4 #[v0, v1] w fun e w' => e = .returned (.bool true) ∧ Below w.heap.size w w' := by
  by_cases hz : val z1 = 0
  · exact divBoths_zero v0 z0 v1 z1 w hT A0 s0 A1 s1 hz
  · exact divBoths_pos v0 z0 v1 z1 w hT A0 s0 A1 s1 hz

end Go.Proofs.YtelfjadonlgkiaaDoor
