/- Package mul: pieces. -/
import Derived.Test.YtmloigbacfllhaaDoorMulO
namespace Go.Proofs.YtmloigbacfllhaaDoor
open Go.RowKit
open Lm
attribute [local go_sem ↓] Go.wp_at_zero Go.wp_at_succ

/-- 'clear' of a piece. -/
theorem clear_any (bz zo n cap : Nat) (Z : List Nat) (w : World) (hB : Blk w bz Z) (hLZ : Limbs Z) (hzo : zo + n ≤ Z.length) :
    ∃ (w1 : World) (Z1 : List Nat), (∀ ty, (Builtin.clear_ #[23] ty #[.slice (some ⟨bz, zo, none⟩) n cap]).run Tryd.prog w = .ok (.tuple #[]) w1) ∧ Out Z Z1 zo (zo + n) ∧ Limbs Z1 ∧ Blk w1 bz Z1 ∧ Fr bz w w1 ∧ sv Z1 zo n = 0 := by
  rcases Nat.eq_zero_or_pos n with h0 | h0
  · subst h0
    exact ⟨w, Z, fun ty => clear_none _ _ _ _, Out.refl _ _ _, hLZ, hB, Fr.refl _ _, sv_zero _ _⟩
  · have hlr : (List.replicate n 0).length = n := by simp
    have e1 := lay_out (List.replicate n 0) Z zo
    have e2 := lay_sv (List.replicate n 0) Z zo (by rw [hlr]; exact hzo)
    rw [hlr] at e1 e2
    exact ⟨_, lay Z zo (List.replicate n 0), fun ty => clear_run bz zo _ cap Z w ty hB hzo h0, e1, lay_limbs _ (limbs_replicate _) _ _ hLZ, Blk.setCells _ _ hB, (Fr.refl _ _).setCells _ _, by rw [e2, val_replicate]⟩

theorem Fr.blk {bz g : Nat} {w w' : World} {M : List Nat} (h : Fr bz w w') (hb : Blk w g M) (hne : g ≠ bz) : Blk w' g M := by
  unfold Blk
  rw [h.block g hb.lt hne]; exact hb

theorem Blk.below' {w w' : World} {b : Nat} {xs : List Nat} (h : Blk w b xs) (hb : Below w.heap.size w w') : Blk w' b xs := by
  unfold Blk
  rw [hb.block b h.lt]; exact h

theorem Fr.other {bz g : Nat} {w a b : World} (h : Fr bz w a) (k : Fr g a b) (hg : w.heap.size ≤ g) : Fr bz w b :=
  ⟨k.os.trans h.os, k.tape.trans h.tape, k.output.trans h.output, Nat.le_trans h.size k.size, fun i h1 h2 => (k.block i (Nat.lt_of_lt_of_le h1 h.size) (by omega)).trans (h.block i h1 h2)⟩

theorem Arg.block {w : World} {b off n c : Nat} {X : List Nat} (h : Arg w (.slice (some ⟨b, off, none⟩) n c) X) (h0 : 0 < X.length) : b < w.heap.size := by
  obtain ⟨ao, cc, e, _, _, hl⟩ := h.form
  cases e
  exact Lies.block hl h0

theorem Off.far {v : Value} {g lo hi : Nat} {w : World} {X : List Nat} (hA : Arg w v X) (h0 : 0 < X.length) (hg : w.heap.size ≤ g) : Off v g lo hi := fun b off n c e => by
  subst e
  have := hA.block h0
  exact .inl (by omega)

theorem Aside.far {v : Value} {g : Nat} {w : World} {X : List Nat} (hA : Arg w v X) (h0 : 0 < X.length) (hg : w.heap.size ≤ g) : Aside v g := fun b off n c e => by
  subst e
  have := hA.block h0
  omega

/-- The beginning of a block, as an argument. -/
theorem Blk.take_arg {w : World} {g : Nat} {M : List Nat} (h : Blk w g M) (hl : Limbs M) (s cap : Nat) (hs : s ≤ M.length) (hc : s ≤ cap) (hm : cap ≤ 1125899906842624) : Arg w (.slice (some ⟨g, 0, none⟩) s cap) (M.take s) := by
  have e : (M.take s).length = s := by simp; omega
  refine ⟨⟨_, cap, by rw [e], by omega, by omega, .inr ⟨g, 0, rfl, fun k hk => ?_⟩⟩, fun z hz => hl z (List.mem_of_mem_take hz), by omega, fun n c e => by cases e⟩
  rw [e] at hk
  rw [Nat.zero_add, h.cell k (by omega)]
  simp [List.getD, hk]

theorem sv_take (M : List Nat) (s : Nat) : val (M.take s) = sv M 0 s := by simp [sv, seg]

set_option maxRecDepth 20000 in
set_option maxHeartbeats 1000000 in
theorem pieces_any (H T : Int) (bz zo cap : Nat) (Z : List Nat) (va vb : Value) (X Y : List Nat) (w : World) (hB : Blk w bz Z) (hLZ : Limbs Z) (hA : Arg w va X) (hA2 : Arg w vb Y)
    (ho : Off va bz zo (zo + (X.length + Y.length))) (ho2 : Off vb bz zo (zo + (X.length + Y.length))) (hzo : zo + (X.length + Y.length) ≤ Z.length) (hc1 : X.length + Y.length ≤ cap) (hc2 : cap ≤ 9223372036854775807)
    (hY : 0 < Y.length) (hlY : Y.length ≤ 17592186044000) (hI : ∀ t, t < X.length → IntoOk H T ((X.drop t).take Y.length) Y) :
    Calls Tryd.prog 78 #[way H T, .slice (some ⟨bz, zo, none⟩) (X.length + Y.length) cap, va, vb] w (IntoDone bz zo (X.length + Y.length) Z w (val X * val Y)) := by
  generalize hn : X.length + Y.length = n at *
  have hn1 : n ≤ X.length + Y.length := by omega
  have hn2 : X.length + Y.length ≤ n := by omega
  have HEN := hide hn
  clear hn
  unfold way
  obtain ⟨a1, c1, rfl, hcc1, hcm1, hl1⟩ := hA.form
  obtain ⟨a2, c2, rfl, hcc2, hcm2, hl2⟩ := hA2.form
  have fX := hA.few
  obtain ⟨i0, hi, hz0, hz1, hz2⟩ := info_parts Tryd.infoU
  -- behind the box
  obtain ⟨w1, hw1⟩ : ∃ w1, w1 = w.alloc (.cells #[.int .i64 H, .int .i64 T] 73) := ⟨_, rfl⟩
  have hbel1 : Below w.heap.size w w1 := by rw [hw1]; exact (Below.refl _ _).alloc (Nat.le_refl _) _
  have hs1 : w1.heap.size = w.heap.size + 1 := by rw [hw1]; simp
  have hb1 : w1.heap[w.heap.size]? = some (.cells #[.int .i64 H, .int .i64 T] 73) := by rw [hw1]; exact heap_alloc_new ..
  have hbz := hB.lt
  have hB1 : Blk w1 bz Z := by rw [hw1]; exact hB.alloc _
  obtain ⟨w2, Z2, hrun, hO2, hL2, hB2, hF2, hS2⟩ := clear_any bz zo n cap Z w1 hB1 hLZ hzo
  have hbx2 : w2.heap[w.heap.size]? = some (.cells #[.int .i64 H, .int .i64 T] 73) := by rw [hF2.block w.heap.size (by omega) (by omega)]; exact hb1
  have HF02 := hide ((Fr.of_below (bz := bz) hbel1).trans hF2)
  have hs2 := hF2.size
  have HW1 := hide hw1
  have HO2 := hide hO2
  have HB2 := hide hB2
  have HX2 := hide hbx2
  have HS2 := hide hS2
  have HII := hide hI
  have HHA := hide hA
  have HHA2 := hide hA2
  have HOF := hide ho
  have HOF2 := hide ho2
  have HB0 := hide hB
  have mX := val_lt hA.limbs
  have mY := val_lt hA2.limbs
  have HTOT : Hid (val X * val Y < 18446744073709551616 ^ (X.length + Y.length)) := hide (by rw [Nat.pow_add]; exact Nat.mul_lt_mul'' mX mY)
  clear hw1 hbel1 hb1 hB1 hO2 hB2 hbx2 hF2 hS2 hI hA hA2 ho ho2 hl1 hl2 mX mY hB hLZ
  obtain ⟨L, hL1, eL⟩ : ∃ L : Nat, L = 2 * Y.length ∧ (2 : Int) * (Y.length : Int) = (L : Int) := ⟨2 * Y.length, rfl, by omega⟩
  have hLa : L ≤ 2 * Y.length := by omega
  have hLb : 2 * Y.length ≤ L := by omega
  clear hL1
  rw [HW1.out] at hrun
  go_enter Tryd.func78, Tryd.ntmps78
  go_wp2_with (at_make; refine wpList_make_full _ rfl _ _ 23 rfl w2.heap.size 38 i0 (.int .u64 0) 1 Tryd.underlying23 hi hz0 hz1 .i64 .i64 _ _ L rfl rfl (by omega) (by omega) (by rw [hz2]; omega) (by unfold maxLen; omega) (Nat.le_refl _) ?_; intro w3 hown hgrow)
  have hm3 := Blk.made hown
  have hbel3 : Below w2.heap.size w2 w3 := (Below.refl _ _).grown hgrow (Nat.le_refl _) (fun k hk => by cases hk)
  obtain ⟨g, hg⟩ : ∃ g, g = w2.heap.size := ⟨_, rfl⟩
  rw [← hg] at hm3 ⊢
  have hgw : w.heap.size < g := by omega
  have hgbz : g ≠ bz := by omega
  have HB3 : Hid (Blk w3 bz Z2) := hide (HB2.out.below' hbel3)
  have HX3 : Hid (w3.heap[w.heap.size]? = some (.cells #[.int .i64 H, .int .i64 T] 73)) := hide (by rw [hbel3.block w.heap.size (by omega)]; exact HX2.out)
  have HF3 : Hid (Fr bz w w3) := hide (HF02.out.trans (Fr.of_below hbel3))
  clear hown hgrow hi hz0 hz1 hz2 hg hbel3 HB2 HX2 HF02 hrun HW1
  go_loopw [9] (fun i wr => ∃ (t : Nat) (Z' M : List Nat), t ≤ n ∧ i = .int .i64 t ∧ Out Z Z' zo (zo + n) ∧ Limbs Z' ∧ Blk wr bz Z' ∧ M.length = L ∧ Limbs M ∧ Blk wr g M ∧ wr.heap[w.heap.size]? = some (.cells #[.int .i64 H, .int .i64 T] 73) ∧ Fr bz w wr ∧
      sv Z' zo n = val (X.take t) * val Y) (fun i _ => X.length - (intOf i).toNat)
  case atStart => exact ⟨0, Z2, _, Nat.zero_le _, rfl, HO2.out, hL2, HB3.out, by simp, limbs_replicate _, hm3, HX3.out, HF3.out, by rw [HS2.out]; simp [val]⟩
  case round =>
    obtain ⟨t, Z', M, htn, rfl, hout, hlz, hblk, hML, hMl, hM, hbx, hfr0, hval⟩ := hrel
    clear HB3 HX3 HF3 hm3 HO2 hL2 HS2
    have hl := hout.len
    by_cases htl : t < X.length
    · have hAX := HHA.out.fr HOF.out hfr0 HB0.out hblk hout
      have hAY := HHA2.out.fr HOF2.out hfr0 HB0.out hblk hout
      obtain ⟨ao, cc, e0, _, _, hlx⟩ := hAX.form
      cases e0
      rcases hlx with h0 | ⟨b, off, rfl, _⟩
      · rw [h0] at htl; simp at htl
      have HP := part_in b off c1 t Y.length X wr hAX htl (by omega)
      have lP : ((X.drop t).take Y.length).length ≤ Y.length := by simp; omega
      have hstep := (pieces_step X t Y.length (val Y)).resolve_right (by omega)
      have htot2 : val (X.take (t + Y.length)) * val Y ≤ val X * val Y := Nat.mul_le_mul_right _ (val_take_le X _)
      have hIP := HII.out t htl
      have hOg : Aside (.slice (some ⟨b, off, none⟩) X.length c1) g := Aside.far HHA.out (by omega) (by omega)
      have hOg2 : Aside (.slice a2 Y.length c2) g := Aside.far HHA2.out hY (by omega)
      have hc0 : wr.cell? ⟨w.heap.size, 0, none⟩ = some (.int .i64 H) := by simp [World.cell?, hbx]
      have hc1' : wr.cell? ⟨w.heap.size, 1, none⟩ = some (.int .i64 T) := by simp [World.cell?, hbx]
      generalize (X.drop t).take Y.length = P at *
      have HST := hide hstep
      have HT2 := hide htot2
      have HV := hide hval
      have HBX := hide hbx
      have HHM := hide hM
      have HBK := hide hblk
      have HFR := hide hfr0
      have HO := hide hout
      have HAY := hide hAY
      clear hstep htot2 hval hbx hAX hblk hfr0 hout hAY
      go_wp2_with fail
      refine HP.mono ?_
      rintro e w4 ⟨⟨v, rfl, AP, HWi⟩, hw⟩
      subst hw
      obtain ⟨ap, cp, rfl, hcp1, hcp2, _⟩ := AP.form
      have HI := hIP g 0 L M _ _ w4 hM hMl AP HAY.out (HWi.2 _ hOg) hOg2 (by omega) (by omega) (by omega)
      obtain ⟨s, es1, es2, hs1, hs2⟩ : ∃ s : Nat, P.length + Y.length = s ∧ (P.length : Int) + (Y.length : Int) = (s : Int) ∧ s ≤ L ∧ P.length + Y.length ≤ s := ⟨_, rfl, by omega, by omega, Nat.le_refl _⟩
      rw [es1] at HI
      unfold way at HI
      have is1 : (s : Int) ≤ (L : Int) := by omega
      have is0 : (0 : Int) ≤ (s : Int) := by omega
      clear es1 HP hOg hOg2 AP HWi hM
      go_wp2_with fail
      refine HI.mono ?_
      rintro e w5 ⟨rfl, M', hO5, hl5, hB5, hF5, hv5⟩
      have hB5z := hF5.blk HBK.out (Ne.symm hgbz)
      have hbx5 : w5.heap[w.heap.size]? = some (.cells #[.int .i64 H, .int .i64 T] 73) := by
        rw [hF5.block w.heap.size (by have := HHM.out.lt; omega) (by omega)]; exact HBX.out
      have hM5 : M'.length = L := by rw [hO5.len]; exact hML
      have hle5 : sv Z' zo n + 18446744073709551616 ^ t * (val P * val Y) ≤ val X * val Y := by
        rw [HV.out, ← HST.out]; exact HT2.out
      have hvt : val (M'.take s) = val P * val Y := by rw [sv_take, hv5]
      have hfit := pieces_fit Z' zo t n (val P * val Y) _ (by omega) (by omega) hle5 (by rw [← HEN.out]; exact HTOT.out)
      have HPl := plus_any bz (zo + t) (n - t) (cap - t) Z' _ (M'.take s) w5 hB5z hlz (hB5.take_arg hl5 s L (by omega) (by omega) (by omega)) (fun b' off' n' c' e => by cases e; exact .inl hgbz) (by omega) (by omega) (by omega) (by rw [hvt]; exact hfit)
      rw [hvt] at HPl
      have HF5 := hide (HFR.out.other hF5 (by omega))
      have HB5 := hide hB5
      have HX5 := hide hbx5
      have k9 : ¬ cap = t := by omega
      have it1 : (t : Int) ≤ (n : Int) := by omega
      have it0 : (0 : Int) ≤ (t : Int) := by omega
      clear hO5 hB5 hF5 hv5 hB5z hbx5 hle5 hvt hfit HI HBX HHM HBK HFR hc0 hc1'
      go_wp2_with fail
      refine HPl.mono ?_
      rintro e w6 ⟨rfl, Z'', hO6, hl6, hB6, hF6, hv6⟩
      rw [show zo + t + (n - t) = zo + n by omega] at hO6
      have HV6 := hide (pieces_add Z' Z'' zo t n _ (by omega) (by omega) hO6 hv6)
      rw [HV.out, ← HST.out] at HV6
      have HO6 := hide (HO.out.trans (hO6.wider (by omega) (Nat.le_refl _)))
      have HB6 := hide hB6
      have HM6 := hide (hF6.blk HB5.out hgbz)
      have HX6 : Hid (w6.heap[w.heap.size]? = some (.cells #[.int .i64 H, .int .i64 T] 73)) := hide (by rw [hF6.block w.heap.size (by have := HB5.out.lt; omega) (by omega)]; exact HX5.out)
      have HF6 := hide (HF5.out.trans hF6)
      clear hO6 hB6 hF6 hv6 HPl HV HST HT2
      go_wp2
      go_roundw
      case rel => exact ⟨t + Y.length, Z'', M', by omega, by go_num, HO6.out, hl6, HB6.out, hM5, hl5, HM6.out, HX6.out, HF6.out, HV6.out⟩
      case measure => simp [intOf]; omega
    · have HV : Hid (sv Z' zo n = val X * val Y) := hide (by rw [hval, List.take_of_length_le (by omega)])
      have HD := hide (And.intro hout (And.intro hlz (And.intro hblk hfr0)))
      clear hout hlz hblk hM hbx hfr0 hval hMl hML
      go_wp2
      go_end0
      exact ⟨rfl, Z', HD.out.1, HD.out.2.1, HD.out.2.2.1, HD.out.2.2.2, HV.out⟩

end Go.Proofs.YtmloigbacfllhaaDoor
