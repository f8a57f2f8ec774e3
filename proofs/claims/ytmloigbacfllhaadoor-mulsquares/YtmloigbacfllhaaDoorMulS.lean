/- Package mul: halves. -/
import Derived.Test.YtmloigbacfllhaaDoorMulR
namespace Go.Proofs.YtmloigbacfllhaaDoor
open Go.RowKit
open Lm

theorem getD_zeros' (n k : Nat) : (List.replicate n 0).getD k 0 = 0 := by
  by_cases h : k < n
  · simp [List.getD, h]
  · simp [List.getD, h]

theorem kara_pow (h d : Nat) (e : d = h + h) : 18446744073709551616 ^ d = 18446744073709551616 ^ h * 18446744073709551616 ^ h := by
  rw [e, Nat.pow_add]

theorem kara_fit {a b d : Nat} (ha : a < 18446744073709551616 ^ d) (hb : b < 18446744073709551616 ^ d) : a + b < 18446744073709551616 ^ (d + 1) := by
  rw [Nat.pow_succ]
  generalize (18446744073709551616 : Nat) ^ d = P at *
  omega

theorem kara_le (a0 a1 b0 b1 da db : Nat) (ha : da = if a0 < a1 then a1 - a0 else a0 - a1) (hb : db = if b0 < b1 then b1 - b0 else b0 - b1) (h : decide (a0 < a1) = decide (b0 < b1)) : da * db ≤ a0 * b0 + a1 * b1 := by
  subst ha; subst hb
  by_cases h1 : a0 < a1
  · have h2 : b0 < b1 := by simpa [h1] using h
    rw [if_pos h1, if_pos h2]
    exact Nat.le_trans (Nat.mul_le_mul (Nat.sub_le _ _) (Nat.sub_le _ _)) (Nat.le_add_left _ _)
  · have h2 : ¬ b0 < b1 := by simpa [h1] using h
    rw [if_neg h1, if_neg h2]
    exact Nat.le_trans (Nat.mul_le_mul (Nat.sub_le _ _) (Nat.sub_le _ _)) (Nat.le_add_right _ _)

theorem kara_total (a0 a1 b0 b1 P : Nat) : (a0 + P * a1) * (b0 + P * b1) = a0 * b0 + P * P * (a1 * b1) + P * (a0 * b1 + a1 * b0) := by grind

set_option maxRecDepth 20000 in
set_option maxHeartbeats 1000000 in
theorem halves_any (H T : Int) (bz zo cap h : Nat) (Z : List Nat) (b off c1 b2 off2 c2 : Nat) (X Y : List Nat) (w : World) (hB : Blk w bz Z) (hLZ : Limbs Z)
    (hA : Arg w (.slice (some ⟨b, off, none⟩) X.length c1) X) (hA2 : Arg w (.slice (some ⟨b2, off2, none⟩) Y.length c2) Y) (hb : b ≠ bz) (hb2 : b2 ≠ bz)
    (hzo : zo + (X.length + Y.length) ≤ Z.length) (hc1 : X.length + Y.length ≤ cap) (hc2 : cap ≤ 9223372036854775807) (hh0 : 0 < h) (hhY : h < Y.length) (hYX : Y.length ≤ X.length) (hXh : X.length ≤ 2 * h) (hlX : X.length ≤ 4398046511103)
    (hI : ∀ P Q : List Nat, P.length + Q.length < X.length + Y.length → IntoOk H T P Q) :
    Calls Tryd.prog 77 #[way H T, .slice (some ⟨bz, zo, none⟩) (X.length + Y.length) cap, .slice (some ⟨b, off, none⟩) X.length c1, .slice (some ⟨b2, off2, none⟩) Y.length c2, .int .i64 h] w (IntoDone bz zo (X.length + Y.length) Z w (val X * val Y)) := by
  unfold way
  obtain ⟨_, _, e0, hcc1, hcm1, _⟩ := hA.form
  cases e0
  obtain ⟨_, _, e0, hcc2, hcm2, _⟩ := hA2.form
  cases e0
  obtain ⟨i0, hi, hz0, hz1, hz2⟩ := info_parts Tryd.infoU
  have hbz := hB.lt
  have hbw := hA.block (by omega)
  have hbw2 := hA2.block (by omega)
  obtain ⟨w1, hw1⟩ : ∃ w1, w1 = w.alloc (.cells #[.int .i64 H, .int .i64 T] 73) := ⟨_, rfl⟩
  have hbel1 : Below w.heap.size w w1 := by rw [hw1]; exact (Below.refl _ _).alloc (Nat.le_refl _) _
  have hs1 : w1.heap.size = w.heap.size + 1 := by rw [hw1]; simp
  have hb1 : w1.heap[w.heap.size]? = some (.cells #[.int .i64 H, .int .i64 T] 73) := by rw [hw1]; exact heap_alloc_new ..
  have HW1 := hide hw1
  have HX1 := hide hb1
  have HB1 := hide (hB.below' hbel1)
  have HA1 := hide (hA.below hbel1)
  have HA2 := hide (hA2.below hbel1)
  have HF1 := hide (Fr.of_below (bz := bz) hbel1)
  have HII := hide hI
  clear hw1 hbel1 hb1 hB hA hA2 hI
  obtain ⟨n, hn⟩ : ∃ n : Nat, X.length + Y.length = n := ⟨_, rfl⟩
  have hn1 : n ≤ X.length + Y.length := by omega
  have hn2 : X.length + Y.length ≤ n := by omega
  rw [hn] at hzo hc1 HII ⊢
  have HN := hide hn
  clear hn
  obtain ⟨d, ed, hd1, hd2⟩ : ∃ d : Nat, (2 : Int) * (h : Int) = (d : Int) ∧ d ≤ 2 * h ∧ 2 * h ≤ d := ⟨2 * h, by omega, by omega, by omega⟩
  obtain ⟨R, eR, hR1, hR2⟩ : ∃ R : Nat, (4 : Int) * (h : Int) + 1 = (R : Int) ∧ R ≤ 4 * h + 1 ∧ 4 * h + 1 ≤ R := ⟨4 * h + 1, by omega, by omega, by omega⟩
  have wd : IntKind.i64.wrap (d : Int) = (d : Int) := by rw [IntKind.wrap_i64]; omega
  have kd0 : (0 : Int) ≤ (d : Int) := by omega
  have kd1 : (d : Int) ≤ (n : Int) := by omega
  have kd2 : ¬ cap = d := by omega
  have kd3 : (d : Int) ≤ (cap : Int) := by omega
  go_enter Tryd.func77, Tryd.ntmps77
  go_wp2_with fail
  rw [← HW1.out]
  go_region
  go_wp2_with (at_make; refine wpList_make_full _ rfl _ _ 23 rfl w1.drew.heap.size 38 i0 (.int .u64 0) 1 Tryd.underlying23 hi hz0 hz1 .i64 .i64 _ _ R rfl rfl (by omega) (by omega) (by rw [hz2]; omega) (by unfold maxLen; omega) (Nat.le_refl _) ?_; intro w3 hown hgrow)
  have hm3 : Blk w3 (w.heap.size + 1) (List.replicate R 0) := by rw [← hs1]; exact Blk.made hown
  have hbel3 : Below w1.heap.size w1 w3 := ((Below.refl _ _).drew).grown hgrow (Nat.le_refl _) (fun k hk => by cases hk)
  have HB3 := hide (HB1.out.below' hbel3)
  have HX3 : Hid (w3.heap[w.heap.size]? = some (.cells #[.int .i64 H, .int .i64 T] 73)) := hide (by rw [hbel3.block w.heap.size (by omega)]; exact HX1.out)
  have HF3 : Hid (Fr bz w w3) := hide (HF1.out.trans (Fr.of_below hbel3))
  have HA3 := hide (HA1.out.below hbel3)
  have HA23 := hide (HA2.out.below hbel3)
  obtain ⟨g, hg⟩ : ∃ g, g = w.heap.size + 1 := ⟨_, rfl⟩
  rw [← hg] at hm3 ⊢
  have hgw : w.heap.size < g := by omega
  have HM3 := hide hm3
  clear hown hgrow hi hz0 hz1 hz2 hbel3 HB1 HX1 HF1 HA1 HA2 HW1 hg hm3 hs1
  have mX := HA3.out.limbs
  have mY := HA23.out.limbs
  have kr1 : (d : Int) ≤ (R : Int) := by omega
  have kr2 : ¬ R = d := by omega
  have kh0 : (0 : Int) ≤ (h : Int) := by omega
  have kh1 : (h : Int) ≤ (d : Int) := by omega
  have kh2 : (h : Int) ≤ (X.length : Int) := by omega
  have kh3 : (h : Int) ≤ (Y.length : Int) := by omega
  have kh4 : ¬ c1 = h := by omega
  have kh5 : ¬ c2 = h := by omega
  have kh6 : ¬ cap = h := by omega
  have kh7 : (h : Int) ≤ (c1 : Int) := by omega
  have kh8 : (h : Int) ≤ (c2 : Int) := by omega
  have kh9 : (h : Int) ≤ (cap : Int) := by omega
  have HAP := apart_any bz zo h cap Z _ _ (X.take h) (X.drop h) w3.drew.drew HB3.out hLZ (HA3.out.front h (by omega)).drew.drew (HA3.out.drop h (by omega)).drew.drew
    (fun b' off' n' c' e => by cases e; exact .inl hb) (fun b' off' n' c' e => by cases e; exact .inl hb) (by omega) (by omega) hc2 (val_take_lt' mX h (by omega)) (val_drop_lt' mX h h (by omega))
  go_wp2
  go_region
  go_wp2
  go_region_held3 (fun _ => True) (trivial) (first | (go_at_call 87; refine HAP.mono ?_; rintro e w4 ⟨rfl, Z1, p1, p2, p3, p4, p5⟩))
  have F4 := hide p4.undrew.undrew
  obtain ⟨da, hda⟩ : ∃ da, da = (if val (X.take h) < val (X.drop h) then val (X.drop h) - val (X.take h) else val (X.take h) - val (X.drop h)) := ⟨_, rfl⟩
  rw [← hda] at p5
  have HDA := hide hda
  have hbzg : bz ≠ g := by omega
  have HM4 := hide (F4.out.blk HM3.out (Ne.symm hbzg))
  have HX4 : Hid (w4.heap[w.heap.size]? = some (.cells #[.int .i64 H, .int .i64 T] 73)) := hide (by rw [F4.out.block w.heap.size (by have := HM3.out.lt; omega) (by omega)]; exact HX3.out)
  have HA4 := hide (HA3.out.frb F4.out hb)
  have HA24 := hide (HA23.out.frb F4.out hb2)
  have HF4 := hide (HF3.out.trans F4.out)
  have O1 := hide p1
  have S1 := hide p5
  have l1 := p1.len
  have edh : d - h = h := by omega
  have HAP2 := apart_any bz (zo + h) h (cap - h) Z1 _ _ (Y.take h) (Y.drop h) w4.drew p3 p2 (HA24.out.front h (by omega)).drew (HA24.out.drop h (by omega)).drew
    (fun b' off' n' c' e => by cases e; exact .inl hb2) (fun b' off' n' c' e => by cases e; exact .inl hb2) (by omega) (by omega) (by omega) (val_take_lt' mY h (by omega)) (val_drop_lt' mY h h (by omega))
  clear p1 p2 p3 p4 p5 hda HAP HB3 HX3 HF3 HA3 HA23 HM3 F4
  generalize hsa : decide (val (X.take h) < val (X.drop h)) = sa at *
  have HSA := hide hsa
  clear hsa
  go_wp2
  go_region_held3 (fun _ => True) (trivial) (first | (go_at_call 87; refine HAP2.mono ?_; rintro e w5 ⟨rfl, Z2, p1, p2, p3, p4, p5⟩))
  have F5 := hide p4.undrew
  obtain ⟨db, hdb⟩ : ∃ db, db = (if val (Y.take h) < val (Y.drop h) then val (Y.drop h) - val (Y.take h) else val (Y.take h) - val (Y.drop h)) := ⟨_, rfl⟩
  rw [← hdb] at p5
  have HDB := hide hdb
  have HM5 := hide (F5.out.blk HM4.out (Ne.symm hbzg))
  have HX5 : Hid (w5.heap[w.heap.size]? = some (.cells #[.int .i64 H, .int .i64 T] 73)) := hide (by rw [F5.out.block w.heap.size (by have := HM4.out.lt; omega) (by omega)]; exact HX4.out)
  have HA5 := hide (HA4.out.frb F5.out hb)
  have HA25 := hide (HA24.out.frb F5.out hb2)
  have HF5 := hide (HF4.out.trans F5.out)
  have O2 := hide (O1.out.wider (lo' := zo) (hi' := zo + n) (Nat.le_refl _) (by omega) |>.trans (p1.wider (by omega) (by omega)))
  have S2a : Hid (sv Z2 zo h = da) := hide (by rw [p1.sv zo h (by omega)]; exact S1.out)
  have S2b := hide p5
  have HB5 := hide p3
  have HL5 := hide p2
  have l2 : Z2.length = Z.length := O2.out.len
  have sg1 := seg_length Z2 zo h (by omega)
  have sg2 := seg_length Z2 (zo + h) h (by omega)
  have HI3 := HII.out (seg Z2 zo h) (seg Z2 (zo + h) h) (by rw [sg1, sg2]; omega) g 0 R (List.replicate R 0) _ _ w5.drew HM5.out (limbs_replicate _) (p3.seg_arg p2 zo h cap (by omega) (by omega) (by omega) (by omega)).drew (p3.seg_arg p2 (zo + h) h (cap - h) (by omega) (by omega) (by omega) (by omega)).drew
    (fun b' off' n' c' e => by cases e; exact hbzg) (fun b' off' n' c' e => by cases e; exact hbzg) (by rw [sg1, sg2]; simp; omega) (by rw [sg1, sg2]; omega) (by omega)
  rw [sg1, sg2, show h + h = d by omega, show val (seg Z2 zo h) = da from S2a.out, show val (seg Z2 (zo + h) h) = db from S2b.out] at HI3
  unfold way at HI3
  have HK := hide (fun (w7 : World) (hF : Fr g w5.drew w7) => (by
    have e : w7.heap[w.heap.size]? = some (.cells #[.int .i64 H, .int .i64 T] 73) := by rw [hF.block w.heap.size (by show _ < w5.heap.size; have := HM5.out.lt; omega) (by omega)]; exact HX5.out
    exact ⟨by simp [World.cell?, e], by simp [World.cell?, e]⟩ : w7.cell? ⟨w.heap.size, 0, none⟩ = some (.int .i64 H) ∧ w7.cell? ⟨w.heap.size, 1, none⟩ = some (.int .i64 T)))
  have hq0 : w5.cell? ⟨w.heap.size, 0, none⟩ = some (.int .i64 H) := by have e := HX5.out; simp [World.cell?, e]
  have hq1 : w5.cell? ⟨w.heap.size, 1, none⟩ = some (.int .i64 T) := by have e := HX5.out; simp [World.cell?, e]
  clear p1 p2 p3 p4 p5 hdb HAP2 HM4 HX4 HA4 HA24 HF4 F5 O1 S1 sg1 sg2 S2a S2b l1
  generalize hsb : decide (val (Y.take h) < val (Y.drop h)) = sb at *
  have HSB := hide hsb
  clear hsb
  go_wp2
  go_region_held3 (fun w' => w'.cell? ⟨w.heap.size, 0, none⟩ = some (.int .i64 H) ∧ w'.cell? ⟨w.heap.size, 1, none⟩ = some (.int .i64 T)) (go_keep) (first | (go_at_call 72; refine HI3.mono ?_; rintro e w6 ⟨rfl, M1, p1, p2, p3, p4, p5⟩; obtain ⟨hk0, hk1⟩ := HK.out w6 p4))
  rw [Nat.zero_add] at p1
  have HB6 := hide (p4.undrew.blk HB5.out hbzg)
  have HX6 : Hid (w6.heap[w.heap.size]? = some (.cells #[.int .i64 H, .int .i64 T] 73)) := hide (by rw [p4.block w.heap.size (by show _ < w5.heap.size; have := HM5.out.lt; omega) (by omega)]; exact HX5.out)
  have HA6 := hide (HA5.out.frb p4.undrew (by omega))
  have HA26 := hide (HA25.out.frb p4.undrew (by omega))
  have HF6 := hide (HF5.out.other p4.undrew (by omega))
  have OM1 := hide p1
  have LM1 := hide p2
  have BM1 := hide p3
  have SM1 := hide p5
  have tk1 : (X.take h).length = h := by simp; omega
  have tk2 : (Y.take h).length = h := by simp; omega
  have HI4 := HII.out (X.take h) (Y.take h) (by rw [tk1, tk2]; omega) bz zo cap Z2 _ _ w6.drew HB6.out HL5.out (HA6.out.front h (by omega)).drew (HA26.out.front h (by omega)).drew
    (fun b' off' n' c' e => by cases e; exact hb) (fun b' off' n' c' e => by cases e; exact hb2) (by rw [tk1, tk2]; omega) (by rw [tk1, tk2]; omega) (by omega)
  rw [tk1, tk2, show h + h = d by omega] at HI4
  unfold way at HI4
  have HK6 := hide (fun (w7 : World) (hF : Fr bz w6.drew w7) => (by
    have e : w7.heap[w.heap.size]? = some (.cells #[.int .i64 H, .int .i64 T] 73) := by rw [hF.block w.heap.size (by show _ < w6.heap.size; have := BM1.out.lt; omega) (by omega)]; exact HX6.out
    exact ⟨e, by simp [World.cell?, e], by simp [World.cell?, e]⟩ : w7.heap[w.heap.size]? = some (.cells #[.int .i64 H, .int .i64 T] 73) ∧ w7.cell? ⟨w.heap.size, 0, none⟩ = some (.int .i64 H) ∧ w7.cell? ⟨w.heap.size, 1, none⟩ = some (.int .i64 T)))
  clear p1 p2 p3 p4 p5 HI3 HK hq0 hq1 HM5 HX5 HA5 HA25 HF5 HB5 tk1 tk2
  go_wp2
  go_region_held3 (fun w' => w'.cell? ⟨w.heap.size, 0, none⟩ = some (.int .i64 H) ∧ w'.cell? ⟨w.heap.size, 1, none⟩ = some (.int .i64 T)) (go_keep) (first | (go_at_call 72; refine HI4.mono ?_; rintro e w7 ⟨rfl, Z3, p1, p2, p3, p4, p5⟩; obtain ⟨hx7, hk2, hk3⟩ := HK6.out w7 p4))
  have HX7 := hide hx7
  have HA7 := hide (HA6.out.frb p4.undrew hb)
  have HA27 := hide (HA26.out.frb p4.undrew hb2)
  have HF7 := hide (HF6.out.trans p4.undrew)
  have BM7 := hide (p4.undrew.blk BM1.out (Ne.symm hbzg))
  have O3 := hide (O2.out.trans (p1.wider (Nat.le_refl _) (by omega)))
  have S3 := hide p5
  have l3 : Z3.length = Z.length := O3.out.len
  have HI5 := HII.out (X.drop h) (Y.drop h) (by simp; omega) bz (zo + d) (cap - d) Z3 _ _ w7.drew p3 p2 (HA7.out.drop h (by omega)).drew (HA27.out.drop h (by omega)).drew
    (fun b' off' n' c' e => by cases e; exact hb) (fun b' off' n' c' e => by cases e; exact hb2) (by simp; omega) (by simp; omega) (by omega)
  rw [List.length_drop, List.length_drop, show X.length - h + (Y.length - h) = n - d by omega] at HI5
  unfold way at HI5
  have HK7 := hide (fun (w8 : World) (hF : Fr bz w7.drew w8) => (by
    have e : w8.heap[w.heap.size]? = some (.cells #[.int .i64 H, .int .i64 T] 73) := by rw [hF.block w.heap.size (by show _ < w7.heap.size; have := BM7.out.lt; omega) (by omega)]; exact HX7.out
    exact ⟨by simp [World.cell?, e], by simp [World.cell?, e]⟩ : w8.cell? ⟨w.heap.size, 0, none⟩ = some (.int .i64 H) ∧ w8.cell? ⟨w.heap.size, 1, none⟩ = some (.int .i64 T)))
  clear p1 p2 p3 p4 p5 hx7 HI4 HK6 hk0 hk1 HA6 HA26 HF6 BM1 O2 HX6 HB6 l2
  go_wp2
  go_region_held3 (fun w' => w'.cell? ⟨w.heap.size, 0, none⟩ = some (.int .i64 H) ∧ w'.cell? ⟨w.heap.size, 1, none⟩ = some (.int .i64 T)) (go_keep) (first | (go_at_call 72; refine HI5.mono ?_; rintro e w8 ⟨rfl, Z4, p1, p2, p3, p4, p5⟩; obtain ⟨hk4, hk5⟩ := HK7.out w8 p4))
  rw [show zo + d + (n - d) = zo + n by omega] at p1
  have HA0 := val_take_lt' mX h (by omega)
  have HA1 := val_drop_lt' mX h h (by omega)
  have HB0 := val_take_lt' mY h (by omega)
  have HB1 := val_drop_lt' mY h h (by omega)
  have vX := val_halves X h (by omega)
  have vY := val_halves Y h (by omega)
  have O4 := hide (O3.out.trans (p1.wider (by omega) (Nat.le_refl _)))
  have S4a : Hid (sv Z4 zo d = val (X.take h) * val (Y.take h)) := hide (by rw [p1.sv zo d (by omega)]; exact S3.out)
  have S4b := hide p5
  have HF8 := hide (HF7.out.trans p4.undrew)
  have BM8 := hide (p4.undrew.blk BM7.out (Ne.symm hbzg))
  have l4 : Z4.length = Z.length := O4.out.len
  have lM1 : M1.length = R := by rw [OM1.out.len]; simp
  have sg := seg_length Z4 zo d (by omega)
  have hcp := fun ty => copy_run g d (R - d) (R - d) M1 (some ⟨bz, zo, none⟩) cap (seg Z4 zo d) w8 ty BM8.out (by omega) (.inr ⟨bz, zo, rfl, fun k hk => by rw [sg] at hk; rw [p3.cell (zo + k) (by omega), seg_getD _ _ _ _ hk]⟩) (by rw [sg]; omega)
  have OM2 := lay_out (seg Z4 zo d) M1 d
  have SM2 := lay_sv (seg Z4 zo d) M1 d (by rw [sg]; omega)
  have LM2 := lay_limbs (seg Z4 zo d) (limbs_seg p2 _ _) M1 d LM1.out
  have BM2 := Blk.setCells (seg Z4 zo d) d BM8.out
  have FM2 := (Fr.refl g w8).setCells ((seg Z4 zo d).map lv) d
  rw [sg] at hcp OM2 SM2
  rw [show val (seg Z4 zo d) = val (X.take h) * val (Y.take h) from S4a.out] at SM2
  obtain ⟨w9, hw9⟩ : ∃ w9, w9 = w8.setCells g d ((seg Z4 zo d).map lv) := ⟨_, rfl⟩
  rw [← hw9] at BM2 FM2 hcp
  clear hw9 sg
  generalize lay M1 d (seg Z4 zo d) = M2 at *
  have B9 := hide (FM2.blk p3 hbzg)
  have L4 := hide p2
  have eRd : R - d = d + 1 := by omega
  have top0 : M2.getD (d + d) 0 = 0 := by
    rw [OM2.same (d + d) (by omega), OM1.out.same (d + d) (by omega), getD_zeros']
  have SM2' : sv M2 d (R - d) = val (X.take h) * val (Y.take h) := by
    rw [eRd, sv_succ _ _ _ (by rw [OM2.len]; omega), SM2, top0, Nat.mul_zero, Nat.add_zero]
  have pw := kara_pow h d (by omega)
  have hp0 : val (X.take h) * val (Y.take h) < 18446744073709551616 ^ d := by rw [pw]; exact Nat.mul_lt_mul'' HA0 HB0
  have hp1 : val (X.drop h) * val (Y.drop h) < 18446744073709551616 ^ d := by rw [pw]; exact Nat.mul_lt_mul'' HA1 HB1
  have hp2 : val (X.take h) * val (Y.drop h) < 18446744073709551616 ^ d := by rw [pw]; exact Nat.mul_lt_mul'' HA0 HB1
  have hp3 : val (X.drop h) * val (Y.take h) < 18446744073709551616 ^ d := by rw [pw]; exact Nat.mul_lt_mul'' HA1 HB0
  have HP1 := plus_any g d (R - d) (R - d) M2 _ (seg Z4 (zo + d) (n - d)) w9 BM2 LM2 (B9.out.seg_arg p2 (zo + d) (n - d) (cap - d) (by omega) (by omega) (by omega) (by omega)) (fun b' off' n' c' e => by cases e; exact .inl hbzg) (by rw [OM2.len]; omega) (Nat.le_refl _) (by omega)
    (by rw [SM2', show val (seg Z4 (zo + d) (n - d)) = _ from S4b.out, eRd]; exact kara_fit hp0 hp1)
  rw [SM2', show val (seg Z4 (zo + d) (n - d)) = _ from S4b.out] at HP1
  have F9 := hide ((HF8.out).other FM2 (by omega))
  have OM2h := hide OM2
  have HERD := hide eRd
  clear eRd top0 pw
  clear p1 p2 p3 p4 p5 HI5 HK7 hk2 hk3 hk4 hk5 HA7 HA27 HF7 BM7 O3 HX7 l3 S3 BM8 SM2 SM2' BM2 FM2 OM2 HF8
  go_wp2_with fail
  refine HP1.mono ?_
  rintro e w10 ⟨rfl, M3, p1, p2, p3, p4, p5⟩
  have lM2 := OM2h.out.len
  have lM3 := p1.len
  have B10 := hide (p4.blk B9.out hbzg)
  have SX : sv M3 0 d = da * db := by rw [p1.sv 0 d (by omega), OM2h.out.sv 0 d (by omega)]; exact SM1.out
  have F10 := hide (F9.out.other p4 (by omega))
  have HACR := p3.seg_arg p2 0 d R (by omega) (by omega) (by omega) (by omega)
  have hOacr : Off (.slice (some ⟨g, 0, none⟩) d R) g d (d + (R - d)) := fun b' off' n' c' e => by cases e; exact .inr (.inl (by omega))
  have hfit2 : val (X.take h) * val (Y.drop h) + val (X.drop h) * val (Y.take h) < 18446744073709551616 ^ (R - d) := by rw [HERD.out]; exact kara_fit hp2 hp3
  have hmid := karatsuba_mid _ _ _ _ da db HDA.out HDB.out
  have hkl := kara_le _ _ _ _ da db HDA.out HDB.out
  rw [HSA.out, HSB.out] at hmid hkl
  have HPlus := fun (hf : sv M3 d (R - d) + val (seg M3 0 d) < 18446744073709551616 ^ (R - d)) => plus_any g d (R - d) (R - d) M3 _ (seg M3 0 d) w10 p3 p2 HACR hOacr (by omega) (Nat.le_refl _) (by omega) hf
  have HMinus := fun (hf : val (seg M3 0 d) ≤ sv M3 d (R - d)) => minus_any g d (R - d) (R - d) M3 _ (seg M3 0 d) w10 p3 p2 HACR hOacr (by omega) (Nat.le_refl _) (by omega) hf
  rw [show val (seg M3 0 d) = da * db from SX, p5] at HPlus HMinus
  have TOT : Hid (val X * val Y = val (X.take h) * val (Y.take h) + 18446744073709551616 ^ d * (val (X.drop h) * val (Y.drop h)) + 18446744073709551616 ^ h * (val (X.take h) * val (Y.drop h) + val (X.drop h) * val (Y.take h))) := hide (by
    rw [vX, vY, kara_total, kara_pow h d (by omega)])
  have S4n : sv Z4 zo n = val (X.take h) * val (Y.take h) + 18446744073709551616 ^ d * (val (X.drop h) * val (Y.drop h)) := by
    rw [show n = d + (n - d) by omega, sv_split _ _ _ _ (by omega), S4a.out]
    rw [S4b.out]
  have hXY : val X * val Y < 18446744073709551616 ^ n := by
    rw [← HN.out, Nat.pow_add]; exact Nat.mul_lt_mul'' (val_lt mX) (val_lt mY)
  have hfit3 := pieces_fit Z4 zo h n (val (X.take h) * val (Y.drop h) + val (X.drop h) * val (Y.take h)) (val X * val Y) (by omega) (by omega) (by rw [S4n, TOT.out]; exact Nat.le_refl _) hXY
  have HEND := hide (fun (w11 w12 : World) (M4 Z5 : List Nat) (q4 : Fr g w10 w11) (r1 : Out Z4 Z5 (zo + h) (zo + h + (n - h))) (r2 : Limbs Z5) (r3 : Blk w12 bz Z5) (r4 : Fr bz w11 w12) (r5 : sv Z5 (zo + h) (n - h) = sv Z4 (zo + h) (n - h) + (val (X.take h) * val (Y.drop h) + val (X.drop h) * val (Y.take h))) => (by
    rw [show zo + h + (n - h) = zo + n by omega] at r1
    refine ⟨rfl, Z5, O4.out.trans (r1.wider (by omega) (Nat.le_refl _)), r2, r3, (F10.out.other q4 (by omega)).trans r4, ?_⟩
    rw [pieces_add Z4 Z5 zo h n _ (by omega) (by omega) r1 r5, S4n, TOT.out] : IntoDone bz zo n Z w (val X * val Y) (.returned (.tuple #[])) w12))
  have HLAST := hide (fun (w11 : World) (M4 : List Nat) (q1 : Out M3 M4 d (d + (R - d))) (q2 : Limbs M4) (q3 : Blk w11 g M4) (q4 : Fr g w10 w11) (q5 : sv M4 d (R - d) = (val (X.take h) * val (Y.drop h) + val (X.drop h) * val (Y.take h))) => (by
    have hv : val (seg M4 d (R - d)) = (val (X.take h) * val (Y.drop h) + val (X.drop h) * val (Y.take h)) := q5
    have h1 := plus_any bz (zo + h) (n - h) (cap - h) Z4 _ (seg M4 d (R - d)) w11 (q4.blk B10.out hbzg) L4.out (q3.seg_arg q2 d (R - d) (R - d) (by rw [q1.len]; omega) (Nat.le_refl _) (by omega) (by omega)) (fun b' off' n' c' e => by cases e; exact .inl (Ne.symm hbzg)) (by omega) (by omega) (by omega) (by rw [hv]; exact hfit3)
    rw [hv] at h1
    exact h1 : Calls Tryd.prog 82 #[.slice (some ⟨bz, zo + h, none⟩) (n - h) (cap - h), .slice (some ⟨g, d, none⟩) (R - d) (R - d)] w11 (IntoDone bz (zo + h) (n - h) Z4 w11 (sv Z4 (zo + h) (n - h) + (val (X.take h) * val (Y.drop h) + val (X.drop h) * val (Y.take h))))))
  clear S4n hXY hfit3 TOT p1 p2 p3 p4 p5 HP1 hcp HACR hOacr SX vX vY HA0 HA1 HB0 HB1 hp0 hp1
  cases sa <;> cases sb
  · have hm' : val (X.take h) * val (Y.take h) + val (X.drop h) * val (Y.drop h) - da * db = val (X.take h) * val (Y.drop h) + val (X.drop h) * val (Y.take h) := by simpa using hmid
    have hm := HMinus (hkl rfl)
    rw [hm'] at hm
    clear hm'
    have HM := hm
    clear HPlus HMinus hmid hkl hm hfit2
    go_wp2_with fail
    refine HM.mono ?_
    rintro e w11 ⟨rfl, M4, q1, q2, q3, q4, q5⟩
    have HL := HLAST.out w11 M4 q1 q2 q3 q4 q5
    have HQ := hide q4
    clear q1 q2 q3 q4 q5 HM
    go_wp2_with fail
    refine HL.mono ?_
    rintro e w12 ⟨rfl, Z5, r1, r2, r3, r4, r5⟩
    have HR := hide (HEND.out w11 w12 M4 Z5 HQ.out r1 r2 r3 r4 r5)
    clear r1 r2 r3 r4 r5 HL
    go_wp2
    go_end0
    exact HR.out
  · have hm' : val (X.take h) * val (Y.take h) + val (X.drop h) * val (Y.drop h) + da * db = val (X.take h) * val (Y.drop h) + val (X.drop h) * val (Y.take h) := by simpa using hmid
    have hm := HPlus (by rw [hm']; exact hfit2)
    rw [hm'] at hm
    clear hm'
    have HM := hm
    clear HPlus HMinus hmid hkl hm hfit2
    go_wp2_with fail
    refine HM.mono ?_
    rintro e w11 ⟨rfl, M4, q1, q2, q3, q4, q5⟩
    have HL := HLAST.out w11 M4 q1 q2 q3 q4 q5
    have HQ := hide q4
    clear q1 q2 q3 q4 q5 HM
    go_wp2_with fail
    refine HL.mono ?_
    rintro e w12 ⟨rfl, Z5, r1, r2, r3, r4, r5⟩
    have HR := hide (HEND.out w11 w12 M4 Z5 HQ.out r1 r2 r3 r4 r5)
    clear r1 r2 r3 r4 r5 HL
    go_wp2
    go_end0
    exact HR.out
  · have hm' : val (X.take h) * val (Y.take h) + val (X.drop h) * val (Y.drop h) + da * db = val (X.take h) * val (Y.drop h) + val (X.drop h) * val (Y.take h) := by simpa using hmid
    have hm := HPlus (by rw [hm']; exact hfit2)
    rw [hm'] at hm
    clear hm'
    have HM := hm
    clear HPlus HMinus hmid hkl hm hfit2
    go_wp2_with fail
    refine HM.mono ?_
    rintro e w11 ⟨rfl, M4, q1, q2, q3, q4, q5⟩
    have HL := HLAST.out w11 M4 q1 q2 q3 q4 q5
    have HQ := hide q4
    clear q1 q2 q3 q4 q5 HM
    go_wp2_with fail
    refine HL.mono ?_
    rintro e w12 ⟨rfl, Z5, r1, r2, r3, r4, r5⟩
    have HR := hide (HEND.out w11 w12 M4 Z5 HQ.out r1 r2 r3 r4 r5)
    clear r1 r2 r3 r4 r5 HL
    go_wp2
    go_end0
    exact HR.out
  · have hm' : val (X.take h) * val (Y.take h) + val (X.drop h) * val (Y.drop h) - da * db = val (X.take h) * val (Y.drop h) + val (X.drop h) * val (Y.take h) := by simpa using hmid
    have hm := HMinus (hkl rfl)
    rw [hm'] at hm
    clear hm'
    have HM := hm
    clear HPlus HMinus hmid hkl hm hfit2
    go_wp2_with fail
    refine HM.mono ?_
    rintro e w11 ⟨rfl, M4, q1, q2, q3, q4, q5⟩
    have HL := HLAST.out w11 M4 q1 q2 q3 q4 q5
    have HQ := hide q4
    clear q1 q2 q3 q4 q5 HM
    go_wp2_with fail
    refine HL.mono ?_
    rintro e w12 ⟨rfl, Z5, r1, r2, r3, r4, r5⟩
    have HR := hide (HEND.out w11 w12 M4 Z5 HQ.out r1 r2 r3 r4 r5)
    clear r1 r2 r3 r4 r5 HL
    go_wp2
    go_end0
    exact HR.out

end Go.Proofs.YtmloigbacfllhaaDoor
